/- Package lex: where what begins at a place ends. -/
import Derived.Test.YthceiikgecoimaaGreatDoorLVal
import Derived.LoopTactic
import Derived.Deep.DeepCutAuto
namespace Go.Proofs.YthceiikgecoimaaGreatDoor
open Go.RowKit
attribute [local go_sem ↓] Go.wp_at_zero Go.wp_at_succ
set_option linter.unusedVariables false
set_option linter.unusedSimpArgs false
set_option maxRecDepth 10000
set_option maxHeartbeats 2000000 in
theorem zkJ (ad:Addr) (n cap i E:Nat) (C Q:Nat->Int) (B:Nat->Bool) (G:Nat->Nat) (w:World) (hn:n<=70000) (hi:i<n) (hb:ad.block<w.heap.size)
  (HC:Hid (∀ k,k<n->w.cell? (ad.add k)=some (.int .u8 (C k))))
  (T1:Hid (∀ k,k<n->∀ w,Calls Tryz.prog 103 #[.int .u8 (C k)] w λe w'=>e= .returned (.int .i64 (Q k))/\w'=w))
  (T2:Hid (∀ k,k<n->∀ w g,w.cell? ⟨g,0,none⟩=some (.int .i64 (Q i))->Calls Tryz.prog 166 #[.int .i64 (Q k),.pointer (some ⟨g,0,none⟩)] w λe w'=>e= .returned (.bool (B k))/\w'=w))
  (HG:Hid (∀ k,k<n->B k=true->G k=1+G (k+1)))
  (HG2:Hid (∀ k,(k<n->B k=false)->G k=0))
  (HE:Hid (i+1+G (i+1)=E)):
  Calls Tryz.prog 104 #[.slice (some ad) n cap,.int .i64 (i:Int)] w λe w'=>e= .returned (.int .i64 (E:Int))/\Keep w w':=by
 have ci:=(uq HC) i hi;have K:=zh zn6;have hii:(i:Int)<(n:Int):=by omega
 have hbs:∀ k,(ad.add k).block=ad.block:=zag ad;have HB:=zh hbs;have HW:Hid (∀ k,k<n->∀ o,(w.alloc o).cell? (ad.add k)=some (.int .u8 (C k))):=by
  intro k hk o
  rw[Below.cell ((Below.refl w.heap.size w).alloc (Nat.le_refl _) o) (by rw[zag];exact hb)];exact(uq HC) k hk
 clear hbs;go_enter Tryz.func104,Tryz.ntmps104;go_wp2_with fail
 (refine((uq T1) i hi _).mono ?_;rintro e w ⟨rfl,rfl⟩);go_wp2_with fail
 (refine((uq K) _ _).mono ?_;rintro e w1 ⟨rfl,rfl⟩);clear K ci;go_wp2_with fail
 go_loop [1] (λvi=>∃ k:Nat,k<=n/\vi= .int .i64 (k:Int)/\Hid (k+G k=E)) (λvi=>n - (intOf vi).toNat)
 case atStart=>exact⟨i+1,hi,by go_num,HE⟩
 case round=>
  obtain⟨k,hk,rfl,hE⟩:=hrel;by_cases hlt:k<n
  ·have li:(k:Int)<(n:Int):=by omega
   have ck:=(uq HW) k hlt (.cells #[.int .i64 (Q i)] 188);have T1k:=zh ((uq T1) k hlt);have T2k:=zh ((uq T2) k hlt);go_wp2_with fail
   (refine((uq T1k) _).mono ?_;rintro e w2 ⟨rfl,rfl⟩);go_wp2_with fail
   (refine((uq T2k) _ _ (by simp[go_sem])).mono ?_;rintro e w2 ⟨rfl,rfl⟩);obtain⟨b,hb2⟩:∃ b,B k=b:=⟨_,rfl⟩;rw[hb2];have HBk:=zh hb2;clear hb2;cases b with
   |true=>
    go_wp2_with fail
    go_round
    case rel=>exact⟨k+1,hlt,by go_num,by have:=uq hE;rw[(uq HG) k hlt (uq HBk)]at this;show k+1+G (k+1)=E;omega⟩
    case measure=>simp[intOf];omega
   |false=>
    have hEk:(k:Int)=E:=by have:=uq hE;rw[(uq HG2) k (λ_=>uq HBk)]at this;omega
    rw[hEk];clear hEk;go_wp2_with fail
    go_ret;exact⟨rfl,(zk w).alloc _⟩
  ·have hEk:k=E:=by have:=uq hE;rw[(uq HG2) k (λh=>absurd h hlt)]at this;omega
   subst hEk;go_wp2_with fail
   go_ret;exact⟨rfl,(zk w).alloc _⟩
theorem ziy (v:Value) (l:List UInt8) (i:Nat) (w:World) (hl:l.length<=70000) (hi:i<l.length) (h:By w v l):
  Calls Tryz.prog 104 #[v,.int .i64 (i:Int)] w λe w'=>e= .returned (.int .i64 ((i+en (l.drop i):Nat):Int))/\Keep w w':=by
 obtain⟨a,cap,rfl,_,hc⟩:=h;obtain⟨ad,rfl,hb,_⟩:=hc i hi;refine zkJ ad l.length cap i _ (λk=>((l.getD k 0).toNat:Int)) (λk=>kd ((l.getD k 0).toNat:Int)) (λk=>zcs (l.getD i 0) (l.getD k 0)) (λk=>tw (zcs (l.getD i 0)) (l.drop k)) w hl hi hb (zh λk hk=>?_)
  (zh λk hk w=>zfh _ w) (zh λk hk w g hg=>zix _ _ g w hg) (zh λk hk hb=>?_) (zh λk hk=>?_) (zh ?_)
 ·obtain⟨ad',h0,_,h2⟩:=hc k hk;injection h0 with h0
  subst h0;exact h2
 ·rw[zcQ _ _ _ hk,if_pos hb]
 ·by_cases hlt:k<l.length
  ·rw[zcQ _ _ _ hlt,if_neg (by rw[hk hlt];decide)]
  ·exact ziu _ _ _ (by omega)
 ·rw[zkF _ _ hi];omega
def Cy (w:World) (a:Option Addr) (n:Nat) (C:Nat->Int):Prop:=∀ k,k<n->∃ ad,a=some ad/\ad.block<w.heap.size/\w.cell? (ad.add k)=some (.int .u8 (C k))
theorem Cy.keep {w w':World} {a:Option Addr} {n:Nat} {C:Nat->Int} (h:Cy w a n C) (hk:Keep w w'):Cy w' a n C:=by
 intro k hlt
 obtain⟨ad,h0,h1,h2⟩:=h k hlt;exact⟨ad,h0,Nat.lt_of_lt_of_le h1 (Below.size hk),by rw[Below.cell hk (by rw[zag];exact h1)];exact h2⟩
set_option maxHeartbeats 2000000 in
theorem ziz (a:Option Addr) (n cap i E:Nat) (C Q:Nat->Int) (N S:Nat->Nat) (w:World) (hn:n<=70000) (hi:i<=n)
  (HC:Hid (Cy w a n C))
  (T1:Hid (∀ k,k<n->∀ w,Calls Tryz.prog 103 #[.int .u8 (C k)] w λe w'=>e= .returned (.int .i64 (Q k))/\w'=w))
  (T2:Hid (∀ k,k<n->∀ w',Keep w w'->Calls Tryz.prog 104 #[.slice a n cap,.int .i64 (k:Int)] w' λe w''=>e= .returned (.int .i64 (N k:Int))/\Keep w' w''))
  (H1:Hid (∀ k,k<n->(Q k=1\/Q k=2\/Q k=3)->S (N k)=S k/\k<N k/\N k<=n))
  (H2:Hid (∀ k,k<n->¬(Q k=1\/Q k=2\/Q k=3)->S k=k))
  (H3:Hid (∀ k,n<=k->S k=k))
  (HE:Hid (S i=E)):
  Calls Tryz.prog 82 #[.slice a n cap,.int .i64 (i:Int)] w λe w'=>e= .returned (.int .i64 (E:Int))/\Keep w w':=by
 go_enter Tryz.func82,Tryz.ntmps82;go_wp2_with fail
 go_loopw [1] (λvi wr=>∃ k:Nat,k<=n/\vi= .int .i64 (k:Int)/\Hid (S k=E)/\Hid (Keep w wr)) (λvi _=>n - (intOf vi).toNat)
 case atStart=>exact⟨i,hi,rfl,HE,zh (zk w)⟩
 case round=>
  obtain⟨k,hk,rfl,hE,HK⟩:=hrel;by_cases hlt:k<n
  ·have li:(k:Int)<(n:Int):=by omega
   obtain⟨ad,rfl,hb,ck⟩:=(uq HC).keep (uq HK) k hlt;have T1k:=zh ((uq T1) k hlt);have T2k:=zh ((uq T2) k hlt);go_wp2_with fail
   (refine((uq T1k) _).mono ?_;rintro e w2 ⟨rfl,rfl⟩);go_wp2_with fail
   ·have hq:Hid (Q k=1\/Q k=2\/Q k=3):=by simp only[beq_iff_eq]at *;unfold Hid;omega
    (refine((uq T2k) _ (uq HK)).mono ?_;rintro e w3 ⟨rfl,hkk⟩);have HK2:=zh ((uq HK).trans hkk);clear hkk;obtain⟨h1,h2,h3⟩:=(uq H1) k hlt (uq hq);have H11:=zh h1;clear h1;go_wp2_with fail
    go_roundw
    case rel=>exact⟨N k,h3,rfl,by have:=uq hE;rw[<- uq H11]at this;exact this,HK2⟩
    case measure=>simp[intOf];omega
   ·have hq:Hid (Q k=1\/Q k=2\/Q k=3):=by simp only[beq_iff_eq]at *;unfold Hid;omega
    (refine((uq T2k) _ (uq HK)).mono ?_;rintro e w3 ⟨rfl,hkk⟩);have HK2:=zh ((uq HK).trans hkk);clear hkk;obtain⟨h1,h2,h3⟩:=(uq H1) k hlt (uq hq);have H11:=zh h1;clear h1;go_wp2_with fail
    go_roundw
    case rel=>exact⟨N k,h3,rfl,by have:=uq hE;rw[<- uq H11]at this;exact this,HK2⟩
    case measure=>simp[intOf];omega
   ·have hq:Hid (Q k=1\/Q k=2\/Q k=3):=by simp only[beq_iff_eq]at *;unfold Hid;omega
    (refine((uq T2k) _ (uq HK)).mono ?_;rintro e w3 ⟨rfl,hkk⟩);have HK2:=zh ((uq HK).trans hkk);clear hkk;obtain⟨h1,h2,h3⟩:=(uq H1) k hlt (uq hq);have H11:=zh h1;clear h1;go_wp2_with fail
    go_roundw
    case rel=>exact⟨N k,h3,rfl,by have:=uq hE;rw[<- uq H11]at this;exact this,HK2⟩
    case measure=>simp[intOf];omega
   ·have hq:¬(Q k=1\/Q k=2\/Q k=3):=by simp only[beq_iff_eq,beq_eq_false_iff_ne]at *;omega
    have hEk:k=E:=by have:=uq hE;rw[(uq H2) k hlt hq]at this;omega
    subst hEk;go_ret;exact⟨rfl,uq HK⟩
  ·have hEk:k=E:=by have:=uq hE;rw[(uq H3) k (by omega)]at this;omega
   subst hEk;go_wp2_with fail
   go_ret;exact⟨rfl,uq HK⟩
theorem By.cy {w:World} {a:Option Addr} {n cap:Nat} {l:List UInt8} (h:By w (.slice a n cap) l):Cy w a l.length (λk=>((l.getD k 0).toNat:Int)):=by
 obtain⟨a',cap',e,_,h⟩:=h;injection e with e1 e2 e3
 subst e1;exact h
theorem zkK (v:Value) (l:List UInt8) (i:Nat) (w:World) (hl:l.length<=70000) (hi:i<=l.length) (h:By w v l):
  Calls Tryz.prog 82 #[v,.int .i64 (i:Int)] w λe w'=>e= .returned (.int .i64 (sk false l i:Nat))/\Keep w w':=by
 obtain⟨a,cap,rfl⟩:=h.shape;refine ziz a l.length cap i _ (λk=>((l.getD k 0).toNat:Int)) (λk=>kd ((l.getD k 0).toNat:Int)) (λk=>k+en (l.drop k)) (sk false l) w hl hi (zh h.cy)
  (zh λk hk w=>zfh _ w) (zh λk hk w' hk'=>ziy _ l k w' hl hk (h.keep hk')) (zh λk hk hq=>⟨zrU l k hk hq,?_,?_⟩) (zh λk hk hq=>ziw l k hk hq) (zh λk hk=>ziv _ _ _ hk) (zh rfl)
 ·rw[zkF _ _ hk];omega
 ·have:=zep (l.drop k);rw[List.length_drop]at this;omega
set_option maxHeartbeats 4000000 in
theorem ziA (a:Option Addr) (n cap i E:Nat) (C:Nat->Int) (S R:Nat->Nat) (w:World) (hn:n<=70000) (hi:i<=n)
  (HC:Hid (Cy w a n C))
  (H0:Hid (∀ k,k<n->C k=35->R k=S k))
  (H1:Hid (∀ k,k<n->C k≠10->R (k+1)=R k))
  (H2:Hid (∀ k,k<n->C k=10->R k=S k))
  (H3:Hid (∀ k,n<=k->S k=k/\R k=k))
  (H4:Hid (∀ k,k<n->(C k=32\/C k=9\/C k=10\/C k=13)->S (k+1)=S k))
  (H5:Hid (∀ k,k<n->¬(C k=35\/C k=32\/C k=9\/C k=10\/C k=13)->S k=k))
  (HE:Hid (S i=E)):
  Calls Tryz.prog 75 #[.slice a n cap,.int .i64 (i:Int)] w λe w'=>e= .returned (.int .i64 (E:Int))/\w'=w:=by
 go_enter Tryz.func75,Tryz.ntmps75;go_wp2_with fail
 go_loop [1] (λvi=>∃ k:Nat,k<=n/\vi= .int .i64 (k:Int)/\Hid (S k=E)) (λvi=>n - (intOf vi).toNat)
 case atStart=>exact⟨i,hi,rfl,HE⟩
 case round=>
  obtain⟨k,hk,rfl,hE⟩:=hrel;by_cases hlt:k<n
  ·have li:(k:Int)<(n:Int):=by omega
   obtain⟨ad,rfl,hb,ck⟩:=(uq HC) k hlt;by_cases hc:C k=35
   ·have h35:(C k==35)=true:=by simp[hc]
    have HCk:=zh hc;clear hc;go_wp2_with fail
    go_loop [1] (λvi=>∃ j:Nat,k<=j/\j<=n/\vi= .int .i64 (j:Int)/\Hid (R j=E)) (λvi=>n - (intOf vi).toNat)
    case atStart=>exact⟨k,Nat.le_refl _,hk,rfl,((uq H0) k hlt (uq HCk)).trans (uq hE)⟩
    case round=>
     obtain⟨j,hkj,hj,rfl,hR⟩:=hrel;by_cases hjn:j<n
     ·have lj:(j:Int)<(n:Int):=by omega
      obtain⟨ad',e,_,cj⟩:=(uq HC) j hjn;injection e with e
      subst e;by_cases h10:C j=10
      ·have hb10:(C j !=10)=false:=by simp[h10]
       have hne:k≠j:=by
        intro e
        have h0:=uq HCk;rw[e,h10]at h0;omega
       have HS:Hid (S j=E):=((uq H2) j hjn h10).symm.trans (uq hR);clear h10;go_wp2_with fail
       exact⟨⟨j,hj,rfl,HS⟩,by simp[intOf];omega⟩
      ·have hb10:(C j !=10)=true:=by simp[h10]
       have HR':Hid (R (j+1)=E):=((uq H1) j hjn h10).trans (uq hR);clear h10;go_wp2_with fail
       exact⟨⟨j+1,by omega,hjn,by go_num,HR'⟩,by simp[intOf];omega⟩
     ·have HS:Hid (S j=E):=by
       have h3:=(uq H3) j (by omega);exact(h3.1.trans h3.2.symm).trans (uq hR)
      go_wp2_with fail
      exact⟨⟨j,hj,rfl,HS⟩,by simp[intOf];omega⟩
   ·have h35:(C k==35)=false:=by simp[hc]
    have HCk:=zh hc;clear hc;go_wp2_with fail
    iterate 4
     ·refine⟨⟨k+1,hlt,by go_num,?_⟩,by simp[intOf];omega⟩;refine((uq H4) k hlt ?_).trans (uq hE);simp only[beq_iff_eq]at *;omega
    ·have hEk:k=E:=by
      have:=uq hE;rw[(uq H5) k hlt (by have:=uq HCk;simp only[beq_eq_false_iff_ne]at *;omega)]at this;omega
     subst hEk;go_ret;exact⟨rfl,rfl⟩
  ·have hEk:k=E:=by have:=uq hE;rw[((uq H3) k (by omega)).1]at this;omega
   subst hEk;go_wp2_with fail
   go_ret;exact⟨rfl,rfl⟩
theorem zkL (v:Value) (l:List UInt8) (i:Nat) (w:World) (hl:l.length<=70000) (hi:i<=l.length) (h:By w v l):
  Calls Tryz.prog 75 #[v,.int .i64 (i:Int)] w λe w'=>e= .returned (.int .i64 (sk false l i:Nat))/\w'=w:=by
 obtain⟨a,cap,rfl⟩:=h.shape;exact ziA a l.length cap i _ (λk=>((l.getD k 0).toNat:Int)) (sk false l) (sk true l) w hl hi (zh h.cy)
  (zh λk hk hq=>zmB l k hk ((zsJ _).2 hq)) (zh λk hk hq=>zpE l k hk (λh=>hq ((zrO _).1 h))) (zh λk hk hq=>zpD l k hk ((zrO _).2 hq)) (zh λk hk=>⟨ziv _ _ _ hk,ziv _ _ _ hk⟩)
  (zh λk hk hq=>zkG l k hk (by rw[zsI,zrO];omega)) (zh λk hk hq=>ziw l k hk (by rw[zsI,zrO,zsJ];omega)) (zh rfl)
end Go.Proofs.YthceiikgecoimaaGreatDoor
namespace Go.Proofs.YthceiikgecoimaaGreatDoor
open Go.RowKit
set_option linter.unusedVariables false
set_option linter.unusedSimpArgs false
structure Tok where
 k:Int
 s:List UInt8
 n:Int
 p:Int
deriving DecidableEq
def num (l:List UInt8):Int:=l.foldl (λv c=>v * 10+((c.toNat:Int) - 48)) 0
def one (r:List UInt8) (p:Nat):Except Int Tok:=
 match r with
 | []=> .ok ⟨0,[],0,p⟩
 |c :: _=>
  if kd c.toNat=4 then(if 24<en r then .error 4 else .ok ⟨1,r.take (en r),0,p⟩)
  else if kd c.toNat=5 then(if 18<en r then .error 4 else .ok ⟨2,r.take (en r),num (r.take (en r)),p⟩)
  else if kd c.toNat=7 then .ok ⟨3,r.take (en r),0,p⟩
  else .error 40
def pre (acc:List Tok):Except (Int×Nat) (List Tok)->Except (Int×Nat) (List Tok)
 | .error x=> .error x
 | .ok r=> .ok (acc++r)
theorem ziB (x:Except (Int×Nat) (List Tok)):pre [] x=x:=by cases x<;>rfl
theorem zgn (a b:List Tok) (x:Except (Int×Nat) (List Tok)):pre a (pre b x)=pre (a++b) x:=by cases x<;>simp[pre]
def tkz:Nat->List UInt8->Nat->Except (Int×Nat) (List Tok)
 |0,_,_=> .ok []
 |f+1,r,p=>
  match one (r.drop (skp false r)) (p+skp false r)with
  | .error e=> .error (e,p+skp false r)
  | .ok t=>if t.k=0 then .ok [t]else pre [t] (tkz f ((r.drop (skp false r)).drop t.s.length) (p+skp false r+t.s.length))
theorem ziC (c:UInt8) (r:List UInt8):1<=en (c :: r):=by simp[en]
theorem zcS {r:List UInt8} {p:Nat} {t:Tok} (h:one r p= .ok t):t.p=p/\((r= []/\t=⟨0,[],0,p⟩)\/(t.k≠0/\r≠ []/\t.s=r.take (en r)/\t.s.length=en r/\1<=en r/\en r<=24)):=by
 cases r with
 |nil=>simp only[one,Except.ok.injEq]at h;subst h;exact⟨rfl,.inl ⟨rfl,rfl⟩⟩
 |cons c r=>
  have h1:=ziC c r;have h2:=zep (c :: r);have h3:((c :: r).take (en (c :: r))).length=en (c :: r):=by rw[List.length_take];omega
  simp only[one]at h;split at h
  ·split at h
   ·cases h
   ·simp only[Except.ok.injEq]at h;subst h;exact⟨rfl,.inr ⟨by simp,by simp,rfl,h3,h1,by omega⟩⟩
  ·split at h
   ·split at h
    ·cases h
    ·simp only[Except.ok.injEq]at h;subst h;exact⟨rfl,.inr ⟨by simp,by simp,rfl,h3,h1,by omega⟩⟩
   ·split at h
    ·rename_i h7
     have e:en (c :: r)=1:=by
      have:tw (zcs c) r=0:=zdL λx=>by unfold zcs;rw[h7];unfold on;simp
      simp[en,this]
     simp only[Except.ok.injEq]at h;subst h;exact⟨rfl,.inr ⟨by simp,by simp,rfl,h3,h1,by omega⟩⟩
    ·cases h
theorem zg2:∀(f g:Nat) (r:List UInt8) (p:Nat),r.length<f->r.length<g->tkz f r p=tkz g r p
 |0,_,_,_,h,_=>by omega
 | _,0,_,_,_,h=>by omega
 |f+1,g+1,r,p,hf,hg=>by
  simp only[tkz];split
  ·rfl
  ·rename_i t ht
   split
   ·rfl
   ·rename_i hk
    rcases(zcS ht).2 with ⟨_,h⟩|⟨_,_,_,h1,h2,_⟩
    ·rw[h]at hk;exact absurd rfl hk
    ·have:=zep (r.drop (skp false r));rw[zg2 f g _ _ (by simp only[List.length_drop]at *;omega) (by simp only[List.length_drop]at *;omega)]
def tk (r:List UInt8) (p:Nat):Except (Int×Nat) (List Tok):=tkz (r.length+1) r p
theorem zeQ (r:List UInt8) (p:Nat):tk r p=match one (r.drop (skp false r)) (p+skp false r)with
  | .error e=> .error (e,p+skp false r)
  | .ok t=>if t.k=0 then .ok [t]else pre [t] (tk ((r.drop (skp false r)).drop t.s.length) (p+skp false r+t.s.length)):=by
 unfold tk
 rw[tkz];split
 ·rfl
 ·rename_i t ht
  split
  ·rfl
  ·rename_i hk
   rcases(zcS ht).2 with ⟨_,h⟩|⟨_,_,_,h1,h2,_⟩
   ·rw[h]at hk;exact absurd rfl hk
   ·have:=zep (r.drop (skp false r));rw[zg2 _ _ _ _ (by simp only[List.length_drop]at *;omega) (Nat.lt_succ_self _)]
def T (l:List UInt8):Except (Int×Nat) (List Tok):=if 65536<l.length then .error (4,65536)else tk l 0
def tl:Except (Int×Nat) (List Tok)->List Tok
 | .ok l=>l
 | .error _=> []
def te:Except (Int×Nat) (List Tok)->Int
 | .ok _=>0
 | .error x=>x.1
def tn:Except (Int×Nat) (List Tok)->Nat
 | .ok _=>0
 | .error x=>x.2
def sv (l:List UInt8):ByteArray:=⟨l.toArray⟩
theorem zbA (l:List UInt8):(sv l).size=l.length:=by simp[sv,ByteArray.size]
def tv (t:Tok):Value:= .agg #[.int .i64 t.k,.string (sv t.s),.int .i64 t.n,.int .i64 t.p]
def tc:List Tok->List Value
 | []=> []
 |t :: l=> .int .i64 t.k :: .string (sv t.s) :: .int .i64 t.n :: .int .i64 t.p :: tc l
theorem zds:∀ l m:List Tok,tc (l++m)=tc l++tc m
 | [],m=>rfl
 |p :: l,m=>by simp only[List.cons_append,tc,zds l m]
def t0:Tok:=⟨0,[],0,0⟩
theorem zqE:∀(l:List Tok) (k:Nat),k<l.length->(tc l)[k * 4]? =some (.int .i64 (l.getD k t0).k)/\(tc l)[k * 4+1]? =some (.string (sv (l.getD k t0).s))/\(tc l)[k * 4+2]? =some (.int .i64 (l.getD k t0).n)/\(tc l)[k * 4+3]? =some (.int .i64 (l.getD k t0).p)
 | [],k,h=>by simp at h
 |p :: l,0,h=>by simp[tc]
 |p :: l,k+1,h=>by
  have:=zqE l k (by simpa using h);rw[show(k+1) * 4=k * 4+1+1+1+1 by omega];simpa [tc]using this
def Tc (w:World) (ad:Addr) (t:Tok):Prop:=w.cell? ad=some (.int .i64 t.k)/\w.cell? ⟨ad.block,ad.off+1,none⟩=some (.string (sv t.s))/\w.cell? ⟨ad.block,ad.off+2,none⟩=some (.int .i64 t.n)/\w.cell? ⟨ad.block,ad.off+3,none⟩=some (.int .i64 t.p)
theorem Tc.keep {w w':World} {ad:Addr} {t:Tok} (h:Tc w ad t) (hb:ad.block<w.heap.size) (hk:Keep w w'):Tc w' ad t:=by
 obtain⟨h0,h1,h2,h3⟩:=h;refine⟨?_,?_,?_,?_⟩
 ·rw[Below.cell hk hb];exact h0
 ·rw[Below.cell (p:=⟨ad.block,ad.off+1,none⟩) hk hb];exact h1
 ·rw[Below.cell (p:=⟨ad.block,ad.off+2,none⟩) hk hb];exact h2
 ·rw[Below.cell (p:=⟨ad.block,ad.off+3,none⟩) hk hb];exact h3
def Ts (w:World) (v:Value) (L:List Tok):Prop:=∃ a cap,v= .slice a L.length cap/\L.length<=cap/\∀ k,k<L.length->∃ ad,a=some ad/\ad.block<w.heap.size/\Tc w (ad.add (k * 4)) (L.getD k t0)
theorem Ts.keep {w w':World} {v:Value} {L:List Tok} (h:Ts w v L) (hk:Keep w w'):Ts w' v L:=by
 obtain⟨a,cap,rfl,hc,h⟩:=h;refine⟨a,cap,rfl,hc,λk hlt=>?_⟩;obtain⟨ad,h0,h1,h2⟩:=h k hlt;exact⟨ad,h0,Nat.lt_of_lt_of_le h1 (Below.size hk),h2.keep (by rw[zag];exact h1) hk⟩
theorem Ts.shape {w:World} {v:Value} {L:List Tok} (h:Ts w v L):∃ a cap,v= .slice a L.length cap:=by obtain⟨a,cap,rfl,_⟩:=h;exact⟨a,cap,rfl⟩
theorem zeX (w:World):Ts w (.slice none 0 0) []:=⟨none,0,rfl,Nat.le_refl _,λk h=>by simp at h⟩
theorem zl1 {w:World} {base:Nat} {e:TypeId} {v:Value} {L:List Tok} (h:w.ownsRow base e 4 v L.length (tc L)):Ts w v L:=by
 obtain⟨_,h⟩:=h;rcases h with ⟨rfl,h0⟩|⟨g,cap,cur,rfl,hb,hg,hc,hm,hs,ht⟩
 ·have:L= []:=List.eq_nil_of_length_eq_zero h0;subst this;exact zeX w
 ·refine⟨_,cap,rfl,hc,λk hk=>⟨_,rfl,(Array.getElem?_eq_some_iff.1 hg).1,?_⟩⟩;have hh:=zqE L k hk;rw[<- ht,List.getElem?_take_of_lt (by omega),List.getElem?_take_of_lt (by omega),List.getElem?_take_of_lt (by omega),List.getElem?_take_of_lt (by omega)]at hh;rw[zbt,Nat.zero_add];unfold Tc
  simp only[World.cell?,hg];simpa using hh
end Go.Proofs.YthceiikgecoimaaGreatDoor
namespace Go.Proofs.YthceiikgecoimaaGreatDoor
open Go.RowKit
attribute [local go_sem ↓] Go.wp_at_zero Go.wp_at_succ
set_option linter.unusedVariables false
set_option linter.unusedSimpArgs false
set_option maxRecDepth 10000
def words:List (List UInt8):= [[99,121,99,108,101],[116,111],[98,121],[112,101,97,107],[110,111,100,101],[104,101,97,100],[118,111,108,117,109,101],[102,108,111,119],[117,115,101],[115,112,101,101,100],[103,114,97,100,101],[119,105,100,116,104],[108,101,110,103,116,104],[103,114,101,101,110],[119,97,108,107],[119,105,116,104],[108,111,110,103],[112,97,99,101],[108,101,97,115,116],[112,104,97,115,101],[103,114,111,117,112],[114,105,110,103],[102,114,101,101],[102,111,101],[97,114,116,101,114,121],[115,116,111,112],[111,117,116],[105,110],[97,104,101,97,100],[98,97,99,107],[119,101,105,103,104,116,115],[112,108,97,110],[111,102,102,115,101,116],[115,117,109],[115,112,108,105,116],[121,101,108,108,111,119],[114,101,100],[102,108,97,115,104],[98,101,115,116],[121,101,115],[110,111],[115,112,101,110,116]]
theorem ziD {L X:List UInt8} (h:(L==X)=true) (hx:decide (X∈words)=true):true=decide (L∈words):=by rw[eq_of_beq h,hx]
theorem ziE {L X:List UInt8} {b:Bool} (h:(L==X)=true) (h2:(L==X)=false):false=b:=by rw[h]at h2;cases h2
set_option maxHeartbeats 4000000 in
theorem ziF (s:ByteArray) (w:World):Calls Tryz.prog 70 #[.string s] w λe w'=>e= .returned (.bool (decide (s.toList∈words)))/\w'=w:=by
 go_enter Tryz.func70,Tryz.ntmps70;go_wp2_with fail
 all_goals (go_ret;refine⟨zdr ?_,rfl⟩;first|exact ziD ‹_› (by decide)|exact ziE ‹_› ‹_› |(simp only[beq_eq_false_iff_ne,ne_eq]at *;simp[words, *]))
end Go.Proofs.YthceiikgecoimaaGreatDoor
namespace Go.Proofs.YthceiikgecoimaaGreatDoor
open Go.RowKit
set_option linter.unusedVariables false
set_option linter.unusedSimpArgs false
inductive D where
 |val (v:Value)
 |row (e z:Nat) (L:List (List D))
abbrev Er:=Int×Int
abbrev Rs:=Except Er (List D×List Tok)
abbrev Sp:=List D->List Tok->Rs
def dS (s:List UInt8):D:= .val (.string (sv s))
def dI (n:Int):D:= .val (.int .i64 n)
def dB (b:Bool):D:= .val (.bool b)
def bad (e:Int):List Tok->Rs
 | []=> .error (e,0)
 |t :: _=> .error (e,t.p)
def zad (s:List UInt8):Sp
 |c,[]=>bad 50 []
 |c,t :: r=>if t.s=s then .ok (c,r)else bad 50 (t :: r)
def zai:Sp
 |c,[]=>bad 50 []
 |c,t :: r=>if t.k=1/\¬t.s∈words then .ok (c++ [dS t.s],r)else bad 50 (t :: r)
def zaO:Sp
 |c,[]=>bad 50 []
 |c,t :: r=> .ok (c++ [dI t.p],t :: r)
def zar:Sp
 |c,[]=>bad 50 []
 |c,t :: r=>if t.k=2 then .ok (c++ [dI t.n],r)else bad 50 (t :: r)
def zc5:Sp
 |c,[]=>bad 50 []
 |c,t :: r=>if t.k=0 then .ok (c,t :: r)else bad 50 (t :: r)
def zaX (s:List UInt8):Sp
 |c,[]=>bad 50 []
 |c,t :: r=>if t.s=s then .ok (c++ [dB true],r)else .ok (c++ [dB false],t :: r)
def sq:List Sp->Sp
 | [],c,r=> .ok (c,r)
 |p :: ps,c,r=>match p c r with
  | .error x=> .error x
  | .ok (c',r')=>sq ps c' r'
def zba:Sp:=sq [zar,zad [47],zar]
def zaI:Sp:=λc r=>match sq [zaX [45],zar] [] r with
 | .error x=> .error x
 | .ok ([.val (.bool b),.val (.int .i64 n)],r')=> .ok (c++ [dI (if b then -n else n)],r')
 | .ok _=> .error (0,0)
def nmz (most:Nat):Nat->List (List D)->List Tok->Except Er (List (List D)×List Tok)
 |0,_,_=> .error (0,0)
 |f+1,L,r=>match zai [] r with
  | .error x=> .error x
  | .ok (d,r')=>
   if L.length=most then(match bad 4 r with| .error x=> .error x| .ok _=> .error (0,0))
   else match zaX [44] [] r' with
    | .ok ([.val (.bool true)],r2)=>nmz most f (L++ [d]) r2
    | .ok (_,r2)=> .ok (L++ [d],r2)
    | .error x=> .error x
def zas (e most:Nat):Sp:=λc r=>match nmz most (r.length+1) [] r with
 | .error x=> .error x
 | .ok (L,r')=> .ok (c++ [.row e 1 L],r')
def rwz (word:List UInt8) (most:Nat) (body:List Tok->Rs):Nat->List (List D)->List Tok->Except Er (List (List D)×List Tok)
 |0,_,_=> .error (0,0)
 | _+1,_,[]=> .error (50,0)
 |f+1,L,t :: r=>
  if t.s=word then
   (if L.length=most then .error (4,t.p)
    else match body r with
    | .error x=> .error x
    | .ok (d,r')=>rwz word most body f (L++ [d]) r')
  else .ok (L,t :: r)
def zaL (word:List UInt8) (most e z:Nat) (body:List Tok->Rs):Sp:=λc r=>match rwz word most body (r.length+1) [] r with
 | .error x=> .error x
 | .ok (L,r')=> .ok (c++ [.row e z L],r')
def rot:List D->List D
 | []=> []
 |d :: ds=>ds++ [d]
def zct (p:List Tok->Rs):List Tok->Rs:=λr=>match p r with
 | .error x=> .error x
 | .ok (c,r')=> .ok (rot c,r')
def zbX:Sp:=λc r=>match c with
 | [.row _ _ []]=>bad 50 r
 | _=> .ok (c,r)
def zbT:List Tok->Rs:=zct (sq [zaO,zai,zad [118,111,108,117,109,101],zar,zad [102,108,111,119],zar,zad [117,115,101],zba,zad [115,112,101,101,100],zar,zad [103,114,97,100,101],zaI,zad [119,105,100,116,104],zar,zad [108,101,110,103,116,104],zar,zad [103,114,101,101,110],zar,zad [59]] [])
def zbY:List Tok->Rs:=zct (sq [zaO,zai,zad [119,105,116,104],zai,zad [108,111,110,103],zar,zad [112,97,99,101],zar,zad [108,101,97,115,116],zar,zad [59]] [])
def zbm:List Tok->Rs:=zct (sq [zaO,zai,zad [58],zas 9 16,zad [59]] [])
def zaV:List Tok->Rs:=sq [zaX [102,114,101,101],zas 9 4,zad [59]] []
def zbl:List Tok->Rs:=sq [zad [123],zaL [114,105,110,103] 2 86 2 zaV,zbX,zad [125]] []
def zeR:List Tok->Rs:=zct (sq [zaO,zai,zai,zad [59]] [])
def zbH:List Tok->Rs:=zct (sq [zaO,zai,zad [111,117,116],zai,zad [105,110],zai,zad [97,104,101,97,100],zar,zad [98,97,99,107],zar,zad [59]] [])
def zb5:List Tok->Rs:=zct (sq [zaO,zai,zad [123],zaL [104,101,97,100] 16 77 11 zbT,zaL [119,97,108,107] 8 79 6 zbY,zaL [112,104,97,115,101] 16 81 3 zbm,zaL [103,114,111,117,112] 4 84 1 zbl,zaL [102,111,101] 64 88 3 zeR,zad [125]] [])
def zcT:Sp:=λc r=>match zaX [97,114,116,101,114,121] [] r with
 | .error x=> .error x
 | .ok ([.val (.bool true)],r')=>sq [zad [123],zaL [115,116,111,112] 12 48 6 zbH,zad [119,101,105,103,104,116,115],zar,zar,zad [59],zad [125]] c r'
 | .ok (_,r')=> .ok (c++ [.row 48 6 [],dI 0,dI 0],r')
def zeg:List Tok->Rs:=sq [zad [99,121,99,108,101],zar,zad [116,111],zar,zad [98,121],zar,zad [59],zad [112,101,97,107],zba,zad [59],zaL [110,111,100,101] 12 45 7 zb5,zcT,zc5] []
def N (l:List UInt8):Except Er (List D):=match T l with
 | .error x=> .error (x.1,(x.2:Int))
 | .ok L=>match zeg L with
  | .error x=> .error x
  | .ok (c,_)=> .ok c
end Go.Proofs.YthceiikgecoimaaGreatDoor
namespace Go.Proofs.YthceiikgecoimaaGreatDoor
set_option linter.unusedVariables false
set_option linter.unusedSimpArgs false
def Mon (p:List Tok->Rs):Prop:=∀ r c r',p r= .ok (c,r')->r'.length<=r.length
def zg3 (p:Sp):Prop:=∀ c r c' r',p c r= .ok (c',r')->r'.length<=r.length
theorem zb6 {e:Int} {r:List Tok} {x:List D×List Tok} :bad e r≠ .ok x:=by cases r<;>simp[bad]
theorem zcE (s:List UInt8):zg3 (zad s):=by
 intro c r c' r' h
 cases r with
 |nil=>simp[zad,bad]at h
 |cons t r=>simp only[zad]at h;split at h;(simp at h;simp[<- h.2]);exact absurd h zb6
theorem zce:zg3 zai:=by
 intro c r c' r' h
 cases r with
 |nil=>simp[zai,bad]at h
 |cons t r=>simp only[zai]at h;split at h;(simp at h;simp[<- h.2]);exact absurd h zb6
theorem zcF:zg3 zar:=by
 intro c r c' r' h
 cases r with
 |nil=>simp[zar,bad]at h
 |cons t r=>simp only[zar]at h;split at h;(simp at h;simp[<- h.2]);exact absurd h zb6
theorem zdi:zg3 zaO:=by
 intro c r c' r' h
 cases r with
 |nil=>simp[zaO,bad]at h
 |cons t r=>simp[zaO]at h;simp[<- h.2]
theorem zdM:zg3 zc5:=by
 intro c r c' r' h
 cases r with
 |nil=>simp[zc5,bad]at h
 |cons t r=>simp only[zc5]at h;split at h;(simp at h;simp[<- h.2]);exact absurd h zb6
theorem zcl (s:List UInt8):zg3 (zaX s):=by
 intro c r c' r' h
 cases r with
 |nil=>simp[zaX,bad]at h
 |cons t r=>simp only[zaX]at h;split at h<;>(simp at h;simp[<- h.2])
theorem zcG:zg3 zbX:=by
 intro c r c' r' h
 simp only[zbX]at h;split at h
 ·exact absurd h zb6
 ·simp at h;simp[h.2]
theorem zg4:∀(ps:List Sp),(∀ p∈ps,zg3 p)->zg3 (sq ps)
 | [],_,c,r,c',r',h=>by simp[sq]at h;simp[h.2]
 |p :: ps,hp,c,r,c',r',h=>by
  simp only[sq]at h;split at h
  ·cases h
  ·rename_i c1 r1 h1
   exact Nat.le_trans (zg4 ps (λq hq=>hp q (List.mem_cons_of_mem _ hq)) _ _ _ _ h) (hp p List.mem_cons_self _ _ _ _ h1)
theorem zc6:zg3 zba:=zg4 _ (by intro p hp;simp at hp;rcases hp with rfl|rfl|rfl;exact zcF;exact zcE _;exact zcF)
theorem zcv:zg3 zaI:=by
 intro c r c' r' h
 have hs:=zg4 [zaX [45],zar] (by intro p hp;simp at hp;rcases hp with rfl|rfl;exact zcl _;exact zcF);simp only[zaI]at h;split at h
 ·cases h
 ·rename_i h1;simp at h;rw[<- h.2];exact hs _ _ _ _ h1
 ·cases h
theorem zd2 {c c':List D} {r r':List Tok} (h:zai c r= .ok (c',r')):r'.length<r.length:=by
 cases r with
 |nil=>simp[zai,bad]at h
 |cons t r=>simp only[zai]at h;split at h;(simp at h;simp[<- h.2]);exact absurd h zb6
theorem zg5 (most:Nat):∀(f g:Nat) (L:List (List D)) (r:List Tok),r.length<f->r.length<g->nmz most f L r=nmz most g L r
 |0,_,_,_,h,_=>by omega
 | _,0,_,_,_,h=>by omega
 |f+1,g+1,L,r,hf,hg=>by
  simp only[nmz];split
  ·rfl
  ·rename_i d r' h1
   have:=zd2 h1;split
   ·rfl
   ·split
    ·rename_i r2 h2
     have:=zcl _ _ _ _ _ h2;exact zg5 most f g _ r2 (by omega) (by omega)
    ·rfl
    ·rfl
def nm (most:Nat) (L:List (List D)) (r:List Tok):Except Er (List (List D)×List Tok):=nmz most (r.length+1) L r
theorem zdj (most:Nat) (L:List (List D)) (t:Tok) (r:List Tok):nm most L (t :: r)=
  if t.k=1/\¬t.s∈words then
   (if L.length=most then .error (4,t.p)
    else match r with
    | []=> .error (50,0)
    |u :: r2=>if u.s= [44]then nm most (L++ [[dS t.s]]) r2 else .ok (L++ [[dS t.s]],u :: r2))
  else .error (50,t.p):=by
 unfold nm
 rw[nmz];by_cases h:t.k=1/\¬t.s∈words
 ·have e:zai [] (t :: r)= .ok ([dS t.s],r):=by simp[zai,h]
  rw[e,if_pos h];by_cases h2:L.length=most
  ·simp[h2,bad]
  ·simp only[if_neg h2];cases r with
   |nil=>simp[zaX,bad]
   |cons u r2=>
    by_cases h3:u.s= [44]
    ·simp only[zaX,if_pos h3,dB,List.nil_append];exact zg5 most _ _ _ r2 (by simp;omega) (by simp)
    ·simp[zaX,if_neg h3,dB]
 ·have e:zai [] (t :: r)= .error (50,t.p):=by simp only[zai,if_neg h,bad]
  rw[e,if_neg h]
theorem zl2 (most:Nat):∀(f:Nat) (L:List (List D)) (r:List Tok) (L':List (List D)) (r':List Tok),nmz most f L r= .ok (L',r')->r'.length<=r.length
 |0,_,_,_,_,h=>by simp[nmz]at h
 |f+1,L,r,L',r',h=>by
  simp only[nmz]at h;split at h
  ·cases h
  ·rename_i d r1 h1
   have:=zd2 h1;split at h
   ·split at h<;>cases h
   ·split at h
    ·rename_i r2 h2
     have:=zcl _ _ _ _ _ h2;have:=zl2 most f _ r2 _ _ h;omega
    ·rename_i r2 _ h2
     have:=zcl _ _ _ _ _ h2;simp at h;rw[<- h.2];omega
    ·cases h
theorem zcw (e most:Nat):zg3 (zas e most):=by
 intro c r c' r' h
 simp only[zas]at h;split at h
 ·cases h
 ·rename_i L r1 h1;simp at h;rw[<- h.2];exact zl2 _ _ _ _ _ _ h1
theorem zg6 (word:List UInt8) (most:Nat) (body:List Tok->Rs) (hm:Mon body):∀(f g:Nat) (L:List (List D)) (r:List Tok),r.length<f->r.length<g->rwz word most body f L r=rwz word most body g L r
 |0,_,_,_,h,_=>by omega
 | _,0,_,_,_,h=>by omega
 |f+1,g+1,L,[],hf,hg=>by simp[rwz]
 |f+1,g+1,L,t :: r,hf,hg=>by
  simp only[rwz];split
  ·split
   ·rfl
   ·split
    ·rfl
    ·rename_i d r' h1
     have:=hm _ _ _ h1;simp at hf hg;exact zg6 word most body hm f g _ r' (by omega) (by omega)
  ·rfl
def rw_ (word:List UInt8) (most:Nat) (body:List Tok->Rs) (L:List (List D)) (r:List Tok):Except Er (List (List D)×List Tok):=rwz word most body (r.length+1) L r
theorem zcH (word:List UInt8) (most:Nat) (body:List Tok->Rs) (hm:Mon body) (L:List (List D)) (t:Tok) (r:List Tok):rw_ word most body L (t :: r)=
  if t.s=word then
   (if L.length=most then .error (4,t.p)
    else match body r with
    | .error x=> .error x
    | .ok (d,r')=>rw_ word most body (L++ [d]) r')
  else .ok (L,t :: r):=by
 unfold rw_
 rw[rwz];by_cases h:t.s=word
 ·simp only[if_pos h];by_cases h2:L.length=most
  ·simp only[if_pos h2]
  ·simp only[if_neg h2];cases h1:body r with
   |error x=>rfl
   |ok q=>
    obtain⟨d,r'⟩:=q;have:=hm _ _ _ h1;simp only[List.length_cons];exact zg6 word most body hm _ _ _ r' (by omega) (by omega)
 ·simp only[if_neg h]
theorem ziG (word:List UInt8) (most:Nat) (body:List Tok->Rs) (hm:Mon body):∀(f:Nat) (L:List (List D)) (r:List Tok) (L':List (List D)) (r':List Tok),rwz word most body f L r= .ok (L',r')->r'.length<=r.length
 |0,_,_,_,_,h=>by simp[rwz]at h
 |f+1,L,[],L',r',h=>by simp[rwz]at h
 |f+1,L,t :: r,L',r',h=>by
  simp only[rwz]at h;split at h
  ·split at h
   ·cases h
   ·split at h
    ·cases h
    ·rename_i d r1 h1
     have:=hm _ _ _ h1;have:=ziG word most body hm f _ r1 _ _ h;simp;omega
  ·simp at h;simp[<- h.2]
theorem zdN (word:List UInt8) (most e z:Nat) (body:List Tok->Rs) (hm:Mon body):zg3 (zaL word most e z body):=by
 intro c r c' r' h
 simp only[zaL]at h;split at h
 ·cases h
 ·rename_i L r1 h1;simp at h;rw[<- h.2];exact ziG _ _ _ hm _ _ _ _ _ h1
theorem zc7 {p:List Tok->Rs} (h:Mon p):Mon (zct p):=by
 intro r c r' e
 simp only[zct]at e;split at e
 ·cases e
 ·rename_i c1 r1 h1;simp at e;rw[<- e.2];exact h _ _ _ h1
theorem zd3 {ps:List Sp} (h:∀ p∈ps,zg3 p):Mon (sq ps []):=λr c r' e=>zg4 ps h _ _ _ _ e
theorem zcU {α:Type} {Q:α->Prop} :∀ p∈([]:List α),Q p:=λp h=>by cases h
theorem all_cons {α:Type} {Q:α->Prop} {a:α} {l:List α} (h:Q a) (t:∀ p∈l,Q p):∀ p∈a :: l,Q p:=λp hp=>by
 rcases List.mem_cons.1 hp with rfl|hp
 ·exact h
 ·exact t p hp
theorem zdk:Mon zeR:=zc7 (zd3 (by repeat(first|exact zcU|(refine all_cons ?_ ?_;first|exact zdi|exact zce|exact zcF|exact zcE _|exact zc6|exact zcv|exact zcl _|exact zcw _ _|exact zcG|exact zdM))))
theorem zbZ:Mon zbY:=zc7 (zd3 (by repeat(first|exact zcU|(refine all_cons ?_ ?_;first|exact zdi|exact zce|exact zcF|exact zcE _|exact zc6|exact zcv|exact zcl _|exact zcw _ _|exact zcG|exact zdM))))
theorem zc8:Mon zbH:=zc7 (zd3 (by repeat(first|exact zcU|(refine all_cons ?_ ?_;first|exact zdi|exact zce|exact zcF|exact zcE _|exact zc6|exact zcv|exact zcl _|exact zcw _ _|exact zcG|exact zdM))))
theorem zb0:Mon zbT:=zc7 (zd3 (by repeat(first|exact zcU|(refine all_cons ?_ ?_;first|exact zdi|exact zce|exact zcF|exact zcE _|exact zc6|exact zcv|exact zcl _|exact zcw _ _|exact zcG|exact zdM))))
theorem zb7:Mon zbm:=zc7 (zd3 (by repeat(first|exact zcU|(refine all_cons ?_ ?_;first|exact zdi|exact zce|exact zcF|exact zcE _|exact zc6|exact zcv|exact zcl _|exact zcw _ _|exact zcG|exact zdM))))
theorem zbd:Mon zaV:=zd3 (by repeat(first|exact zcU|(refine all_cons ?_ ?_;first|exact zdi|exact zce|exact zcF|exact zcE _|exact zc6|exact zcv|exact zcl _|exact zcw _ _|exact zcG|exact zdM)))
theorem zbI:Mon zbl:=zd3 (by repeat(first|exact zcU|(refine all_cons ?_ ?_;first|exact zcE _|exact zdN _ _ _ _ _ zbd|exact zcG)))
theorem zb1:Mon zb5:=zc7 (zd3 (by repeat(first|exact zcU|(refine all_cons ?_ ?_;first|exact zdi|exact zce|exact zcE _|exact zdN _ _ _ _ _ zb0|exact zdN _ _ _ _ _ zbZ|exact zdN _ _ _ _ _ zb7|exact zdN _ _ _ _ _ zbI|exact zdN _ _ _ _ _ zdk))))
theorem zcV {p:Sp} {ps:List Sp} {c:List D} {r:List Tok} {x:List D×List Tok} (h:sq (p :: ps) c r= .ok x):∃ c1 r1,p c r= .ok (c1,r1)/\sq ps c1 r1= .ok x:=by
 simp only[sq]at h;cases hp:p c r with
 |error y=>rw[hp]at h;cases h
 |ok q=>obtain⟨c1,r1⟩:=q;rw[hp]at h;exact⟨c1,r1,rfl,h⟩
theorem zfO {c:List D} {r:List Tok} {x:List D×List Tok} (h:sq [] c r= .ok x):x=(c,r):=by simp[sq]at h;exact h.symm
theorem zdO {s:List UInt8} {c:List D} {r:List Tok} {c':List D} {r':List Tok} (h:zad s c r= .ok (c',r')):c'=c/\∃ t,r=t :: r':=by
 cases r with
 |nil=>simp[zad,bad]at h
 |cons t r=>simp only[zad]at h;split at h;(simp at h;exact⟨h.1.symm,t,by rw[h.2]⟩);exact absurd h zb6
theorem zg7 {c:List D} {r:List Tok} {c':List D} {r':List Tok} (h:zai c r= .ok (c',r')):∃ t,c'=c++ [dS t.s]/\¬t.s∈words/\r=t :: r':=by
 cases r with
 |nil=>simp[zai,bad]at h
 |cons t r=>simp only[zai]at h;split at h;(rename_i hk;simp at h;exact⟨t,h.1.symm,hk.2,by rw[h.2]⟩);exact absurd h zb6
theorem zfi {c:List D} {r:List Tok} {c':List D} {r':List Tok} (h:zar c r= .ok (c',r')):∃ t,c'=c++ [dI t.n]/\r=t :: r':=by
 cases r with
 |nil=>simp[zar,bad]at h
 |cons t r=>simp only[zar]at h;split at h;(simp at h;exact⟨t,h.1.symm,by rw[h.2]⟩);exact absurd h zb6
theorem zn7 {c:List D} {r:List Tok} {c':List D} {r':List Tok} (h:zaO c r= .ok (c',r')):∃ n,c'=c++ [dI n]/\r=r':=by
 cases r with
 |nil=>simp[zaO,bad]at h
 |cons t r=>simp[zaO]at h;exact⟨t.p,h.1.symm,h.2⟩
theorem zn8 {c:List D} {r:List Tok} {c':List D} {r':List Tok} (h:zc5 c r= .ok (c',r')):c'=c:=by
 cases r with
 |nil=>simp[zc5,bad]at h
 |cons t r=>simp only[zc5]at h;split at h;(simp at h;exact h.1.symm);exact absurd h zb6
theorem zn9 {s:List UInt8} {c:List D} {r:List Tok} {c':List D} {r':List Tok} (h:zaX s c r= .ok (c',r')):∃ b,c'=c++ [dB b]:=by
 cases r with
 |nil=>simp[zaX,bad]at h
 |cons t r=>simp only[zaX]at h;split at h<;>(simp at h;exact⟨_,h.1.symm⟩)
theorem zg8 {c:List D} {r:List Tok} {c':List D} {r':List Tok} (h:zbX c r= .ok (c',r')):c'=c/\∀ e z,c≠ [.row e z []]:=by
 simp only[zbX]at h;split at h
 ·exact absurd h zb6
 ·rename_i hne;simp at h;exact⟨h.1.symm,λe z he=>hne e z he⟩
theorem zkM {c:List D} {r:List Tok} {c':List D} {r':List Tok} (h:zba c r= .ok (c',r')):∃ a b,c'=c++ [dI a]++ [dI b]:=by
 obtain⟨c1,r1,h1,h⟩:=zcV h;obtain⟨c2,r2,h2,h⟩:=zcV h;obtain⟨c3,r3,h3,h⟩:=zcV h;have:=zfO h;obtain⟨t,rfl,_⟩:=zfi h1;obtain⟨rfl,_⟩:=zdO h2;obtain⟨u,rfl,_⟩:=zfi h3;simp at this;exact⟨t.n,u.n,by simp[this.1]⟩
theorem ziH (most:Nat):∀(f:Nat) (L:List (List D)) (r:List Tok) (L':List (List D)) (r':List Tok),L.length<=most->nmz most f L r= .ok (L',r')->1<=L'.length/\L'.length<=most
 |0,_,_,_,_,_,h=>by simp[nmz]at h
 |f+1,L,r,L',r',hL,h=>by
  simp only[nmz]at h;split at h
  ·cases h
  ·rename_i d r1 h1
   split at h
   ·split at h<;>cases h
   ·rename_i hne
    split at h
    ·rename_i r2 h2
     exact ziH most f _ r2 _ _ (by simp;omega) h
    ·rename_i r2 _ h2
     simp at h;rw[<- h.1];simp;omega
    ·cases h
theorem zfP {e most:Nat} {c:List D} {r:List Tok} {c':List D} {r':List Tok} (h:zas e most c r= .ok (c',r')):∃ L,c'=c++ [.row e 1 L]/\1<=L.length/\L.length<=most:=by
 simp only[zas]at h;split at h
 ·cases h
 ·rename_i L r1 h1;simp at h;exact⟨L,h.1.symm,ziH most _ _ _ _ _ (Nat.zero_le _) h1⟩
theorem ziI (word:List UInt8) (most:Nat) (body:List Tok->Rs) (Q:List D->Prop) (hQ:∀ r d r',body r= .ok (d,r')->Q d):∀(f:Nat) (L:List (List D)) (r:List Tok) (L':List (List D)) (r':List Tok),L.length<=most->(∀ d∈L,Q d)->rwz word most body f L r= .ok (L',r')->L'.length<=most/\∀ d∈L',Q d
 |0,_,_,_,_,_,_,h=>by simp[rwz]at h
 |f+1,L,[],L',r',_,_,h=>by simp[rwz]at h
 |f+1,L,t :: r,L',r',hL,hq,h=>by
  simp only[rwz]at h;split at h
  ·split at h
   ·cases h
   ·rename_i hne
    split at h
    ·cases h
    ·rename_i d r1 h1
     refine ziI word most body Q hQ f _ r1 _ _ (by simp;omega) (λx hx=>?_) h;rcases List.mem_append.1 hx with hx|hx
     ·exact hq x hx
     ·simp at hx;subst hx;exact hQ _ _ _ h1
  ·simp at h;rw[<- h.1];exact⟨hL,hq⟩
theorem ziJ {word:List UInt8} {most e z:Nat} {body:List Tok->Rs} {Q:List D->Prop} (hQ:∀ r d r',body r= .ok (d,r')->Q d) {c:List D} {r:List Tok} {c':List D} {r':List Tok} (h:zaL word most e z body c r= .ok (c',r')):∃ L,c'=c++ [.row e z L]/\L.length<=most/\∀ d∈L,Q d:=by
 simp only[zaL]at h;split at h
 ·cases h
 ·rename_i L r1 h1;simp at h;exact⟨L,h.1.symm,ziI word most body Q hQ _ _ _ _ _ (Nat.zero_le _) (λd hd=>by cases hd) h1⟩
theorem zby {p:List Tok->Rs} {r:List Tok} {c:List D} {r':List Tok} (h:zct p r= .ok (c,r')):∃ c1,p r= .ok (c1,r')/\c=rot c1:=by
 simp only[zct]at h;cases hp:p r with
 |error x=>rw[hp]at h;cases h
 |ok q=>obtain⟨c1,r1⟩:=q;rw[hp]at h;simp at h;exact⟨c1,by rw[h.2],h.1.symm⟩
def W (r:List Tok):Prop:=∃ m e,r=m++ [e]/\e.k=0/\e.s= []
theorem W.ne {r:List Tok} (h:W r):r≠ []:=by obtain⟨m,e,rfl,_⟩:=h;simp
theorem W.tail {t:Tok} {r:List Tok} (h:W (t :: r)) (ht:t.k≠0\/t.s≠ []):W r:=by
 obtain⟨m,e,h1,h2,h3⟩:=h;cases m with
 |nil=>simp at h1;obtain⟨rfl,_⟩:=h1;rcases ht with h|h;exact absurd h2 h;exact absurd h3 h
 |cons u m=>simp at h1;exact⟨m,e,h1.2,h2,h3⟩
end Go.Proofs.YthceiikgecoimaaGreatDoor
