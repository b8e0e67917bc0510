/- What is passed over: package lex and the document. -/
import Derived.Test.YthbfohohelflnaaLVal
import Derived.LoopTactic
import Derived.Deep.DeepCutAuto
namespace Go.Proofs.Ythbfohohelflnaa
open Go.RowKit
attribute [local go_sem ↓] Go.wp_at_zero Go.wp_at_succ
set_option linter.unusedVariables false
set_option linter.unusedSimpArgs false
set_option maxRecDepth 10000
def Cy (w:World) (a:Option Addr) (n:Nat) (C:Nat→Int):Prop:=∀ k,k<n→∃ ad,a=some ad∧ad.block<w.heap.size∧w.cell? (ad.add k)=some (.int .u8 (C k))
theorem Cy.keep {w w':World} {a:Option Addr} {n:Nat} {C:Nat→Int} (h:Cy w a n C) (hk:Keep w w'):Cy w' a n C:=by
 intro k hlt
 obtain⟨ad,h0,h1,h2⟩:=h k hlt;exact⟨ad,h0,Nat.lt_of_lt_of_le h1 (Below.size hk),by rw[Below.cell hk (by rw[zaH];exact h1)];exact h2⟩
theorem By.cy {w:World} {a:Option Addr} {n cap:Nat} {l:List UInt8} (h:By w (.slice a n cap) l):Cy w a l.length (fun k=>((l.getD k 0).toNat:Int)):=by
 obtain⟨a',cap',e,_,h⟩:=h;injection e with e1 e2 e3
 subst e1;exact h
set_option maxHeartbeats 4000000 in
theorem zeo (a:Option Addr) (n cap i E:Nat) (C:Nat→Int) (S R:Nat→Nat) (w:World) (hn:n≤70000) (hi:i≤n)
  (HC:Hid (Cy w a n C))
  (H0:Hid (∀ k,k<n→C k=35→R k=S k))
  (H1:Hid (∀ k,k<n→C k≠10→R (k+1)=R k))
  (H2:Hid (∀ k,k<n→C k=10→R k=S k))
  (H3:Hid (∀ k,n≤k→S k=k∧R k=k))
  (H4:Hid (∀ k,k<n→(C k=32∨C k=9∨C k=10∨C k=13)→S (k+1)=S k))
  (H5:Hid (∀ k,k<n→¬(C k=35∨C k=32∨C k=9∨C k=10∨C k=13)→S k=k))
  (HE:Hid (S i=E)):
  Calls Try.prog 60 #[.slice a n cap,.int .i64 (i:Int)] w fun e w'=>e= .returned (.int .i64 (E:Int))∧w'=w:=by
 go_enter Try.func60,Try.ntmps60;go_wp2_with fail
 go_loop [1] (fun vi=>∃ k:Nat,k≤n∧vi= .int .i64 (k:Int)∧Hid (S k=E)) (fun vi=>n - (intOf vi).toNat)
 case atStart=>exact⟨i,hi,rfl,HE⟩
 case round=>
  obtain⟨k,hk,rfl,hE⟩:=hrel;by_cases hlt:k<n
  ·have li:(k:Int)<(n:Int):=by omega
   obtain⟨ad,rfl,hb,ck⟩:=(uq HC) k hlt;by_cases hc:C k=35
   ·have h35:(C k==35)=true:=by simp[hc]
    have HCk:=hide hc;clear hc;go_wp2_with fail
    go_loop [1] (fun vi=>∃ j:Nat,k≤j∧j≤n∧vi= .int .i64 (j:Int)∧Hid (R j=E)) (fun vi=>n - (intOf vi).toNat)
    case atStart=>exact⟨k,Nat.le_refl _,hk,rfl,((uq H0) k hlt (uq HCk)).trans (uq hE)⟩
    case round=>
     obtain⟨j,hkj,hj,rfl,hR⟩:=hrel;by_cases hjn:j<n
     ·have lj:(j:Int)<(n:Int):=by omega
      obtain⟨ad',e,_,cj⟩:=(uq HC) j hjn;injection e with e
      subst e;by_cases h10:C j=10
      ·have hb10:(C j !=10)=false:=by simp[h10]
       have hne:k≠j:=by
        intro e
        have h0:=uq HCk;rw[e,h10]at h0;omega
       have HS:Hid (S j=E):=((uq H2) j hjn h10).symm.trans (uq hR);clear h10;go_wp2_with fail
       exact⟨⟨j,hj,rfl,HS⟩,by simp[intOf];omega⟩
      ·have hb10:(C j !=10)=true:=by simp[h10]
       have HR':Hid (R (j+1)=E):=((uq H1) j hjn h10).trans (uq hR);clear h10;go_wp2_with fail
       exact⟨⟨j+1,by omega,hjn,by go_num,HR'⟩,by simp[intOf];omega⟩
     ·have HS:Hid (S j=E):=by
       have h3:=(uq H3) j (by omega);exact(h3.1.trans h3.2.symm).trans (uq hR)
      go_wp2_with fail
      exact⟨⟨j,hj,rfl,HS⟩,by simp[intOf];omega⟩
   ·have h35:(C k==35)=false:=by simp[hc]
    have HCk:=hide hc;clear hc;go_wp2_with fail
    iterate 4
     ·refine⟨⟨k+1,hlt,by go_num,?_⟩,by simp[intOf];omega⟩;refine((uq H4) k hlt ?_).trans (uq hE);simp only[beq_iff_eq]at *;omega
    ·have hEk:k=E:=by
      have:=uq hE;rw[(uq H5) k hlt (by have:=uq HCk;simp only[beq_eq_false_iff_ne]at *;omega)]at this;omega
     subst hEk;go_ret;exact⟨rfl,rfl⟩
  ·have hEk:k=E:=by have:=uq hE;rw[((uq H3) k (by omega)).1]at this;omega
   subst hEk;go_wp2_with fail
   go_ret;exact⟨rfl,rfl⟩
theorem zfu (v:Value) (l:List UInt8) (i:Nat) (w:World) (hl:l.length≤70000) (hi:i≤l.length) (h:By w v l):
  Calls Try.prog 60 #[v,.int .i64 (i:Int)] w fun e w'=>e= .returned (.int .i64 (sk false l i:Nat))∧w'=w:=by
 obtain⟨a,cap,rfl⟩:=h.shape;exact zeo a l.length cap i _ (fun k=>((l.getD k 0).toNat:Int)) (sk false l) (sk true l) w hl hi (hide h.cy)
  (hide fun k hk hq=>zgm l k hk ((zk8 _).2 hq)) (hide fun k hk hq=>ziC l k hk (fun h=>hq ((zkj _).1 h))) (hide fun k hk hq=>ziB l k hk ((zkj _).2 hq)) (hide fun k hk=>⟨zf3 _ _ _ hk,zf3 _ _ _ hk⟩)
  (hide fun k hk hq=>zfs l k hk (by rw[zk7,zkj];omega)) (hide fun k hk hq=>zgl l k hk (by rw[zk7,zkj,zk8];omega)) (hide rfl)
end Go.Proofs.Ythbfohohelflnaa
namespace Go.Proofs.Ythbfohohelflnaa
open Go.RowKit
set_option linter.unusedVariables false
set_option linter.unusedSimpArgs false
structure Tok where
 k:Int
 s:List UInt8
 n:Int
 p:Int
deriving DecidableEq
def num (l:List UInt8):Int:=l.foldl (fun v c=>v * 10+((c.toNat:Int) - 48)) 0
def one (r:List UInt8) (p:Nat):Except Int Tok:=
 match r with
 | []=> .ok ⟨0,[],0,p⟩
 |c :: _=>
  if kd c.toNat=4 then(if 24<en r then .error 4 else .ok ⟨1,r.take (en r),0,p⟩)
  else if kd c.toNat=5 then(if 18<en r then .error 4 else .ok ⟨2,r.take (en r),num (r.take (en r)),p⟩)
  else if kd c.toNat=7 then .ok ⟨3,r.take (en r),0,p⟩
  else .error 40
def pre (acc:List Tok):Except (Int×Nat) (List Tok)→Except (Int×Nat) (List Tok)
 | .error x=> .error x
 | .ok r=> .ok (acc++r)
theorem zhR (x:Except (Int×Nat) (List Tok)):pre [] x=x:=by cases x<;>rfl
theorem zhS (a b:List Tok) (x:Except (Int×Nat) (List Tok)):pre a (pre b x)=pre (a++b) x:=by cases x<;>simp[pre]
def tkz:Nat→List UInt8→Nat→Except (Int×Nat) (List Tok)
 |0,_,_=> .ok []
 |f+1,r,p=>
  match one (r.drop (skp false r)) (p+skp false r)with
  | .error e=> .error (e,p+skp false r)
  | .ok t=>if t.k=0 then .ok [t]else pre [t] (tkz f ((r.drop (skp false r)).drop t.s.length) (p+skp false r+t.s.length))
theorem zf4 (c:UInt8) (r:List UInt8):1≤en (c :: r):=by simp[en]
theorem zcY {r:List UInt8} {p:Nat} {t:Tok} (h:one r p= .ok t):t.p=p∧((r= []∧t=⟨0,[],0,p⟩)∨(t.k≠0∧r≠ []∧t.s=r.take (en r)∧t.s.length=en r∧1≤en r∧en r≤24)):=by
 cases r with
 |nil=>simp only[one,Except.ok.injEq]at h;subst h;exact⟨rfl,.inl ⟨rfl,rfl⟩⟩
 |cons c r=>
  have h1:=zf4 c r;have h2:=zdW (c :: r);have h3:((c :: r).take (en (c :: r))).length=en (c :: r):=by rw[List.length_take];omega
  simp only[one]at h;split at h
  ·split at h
   ·cases h
   ·simp only[Except.ok.injEq]at h;subst h;exact⟨rfl,.inr ⟨by simp,by simp,rfl,h3,h1,by omega⟩⟩
  ·split at h
   ·split at h
    ·cases h
    ·simp only[Except.ok.injEq]at h;subst h;exact⟨rfl,.inr ⟨by simp,by simp,rfl,h3,h1,by omega⟩⟩
   ·split at h
    ·rename_i h7
     have e:en (c :: r)=1:=by
      have:tw (zcV c) r=0:=zen fun x=>by unfold zcV;rw[h7];unfold on;simp
      simp[en,this]
     simp only[Except.ok.injEq]at h;subst h;exact⟨rfl,.inr ⟨by simp,by simp,rfl,h3,h1,by omega⟩⟩
    ·cases h
theorem zdA:∀(f g:Nat) (r:List UInt8) (p:Nat),r.length<f→r.length<g→tkz f r p=tkz g r p
 |0,_,_,_,h,_=>by omega
 | _,0,_,_,_,h=>by omega
 |f+1,g+1,r,p,hf,hg=>by
  simp only[tkz];split
  ·rfl
  ·rename_i t ht
   split
   ·rfl
   ·rename_i hk
    rcases(zcY ht).2 with ⟨_,h⟩|⟨_,_,_,h1,h2,_⟩
    ·rw[h]at hk;exact absurd rfl hk
    ·have:=zdW (r.drop (skp false r));rw[zdA f g _ _ (by simp only[List.length_drop]at *;omega) (by simp only[List.length_drop]at *;omega)]
def tk (r:List UInt8) (p:Nat):Except (Int×Nat) (List Tok):=tkz (r.length+1) r p
theorem zjB (r:List UInt8) (p:Nat):tk r p=match one (r.drop (skp false r)) (p+skp false r)with
  | .error e=> .error (e,p+skp false r)
  | .ok t=>if t.k=0 then .ok [t]else pre [t] (tk ((r.drop (skp false r)).drop t.s.length) (p+skp false r+t.s.length)):=by
 unfold tk
 rw[tkz];split
 ·rfl
 ·rename_i t ht
  split
  ·rfl
  ·rename_i hk
   rcases(zcY ht).2 with ⟨_,h⟩|⟨_,_,_,h1,h2,_⟩
   ·rw[h]at hk;exact absurd rfl hk
   ·have:=zdW (r.drop (skp false r));rw[zdA _ _ _ _ (by simp only[List.length_drop]at *;omega) (Nat.lt_succ_self _)]
def T (l:List UInt8):Except (Int×Nat) (List Tok):=if 65536<l.length then .error (4,65536)else tk l 0
def tl:Except (Int×Nat) (List Tok)→List Tok
 | .ok l=>l
 | .error _=> []
def te:Except (Int×Nat) (List Tok)→Int
 | .ok _=>0
 | .error x=>x.1
def tn:Except (Int×Nat) (List Tok)→Nat
 | .ok _=>0
 | .error x=>x.2
def sv (l:List UInt8):ByteArray:=⟨l.toArray⟩
theorem zep (l:List UInt8):(sv l).size=l.length:=by simp[sv,ByteArray.size]
def tv (t:Tok):Value:= .agg #[.int .i64 t.k,.string (sv t.s),.int .i64 t.n,.int .i64 t.p]
def tc:List Tok→List Value
 | []=> []
 |t :: l=> .int .i64 t.k :: .string (sv t.s) :: .int .i64 t.n :: .int .i64 t.p :: tc l
theorem zce:∀ l m:List Tok,tc (l++m)=tc l++tc m
 | [],m=>rfl
 |p :: l,m=>by simp only[List.cons_append,tc,zce l m]
def t0:Tok:=⟨0,[],0,0⟩
theorem zjC:∀(l:List Tok) (k:Nat),k<l.length→(tc l)[k * 4]? =some (.int .i64 (l.getD k t0).k)∧(tc l)[k * 4+1]? =some (.string (sv (l.getD k t0).s))∧(tc l)[k * 4+2]? =some (.int .i64 (l.getD k t0).n)∧(tc l)[k * 4+3]? =some (.int .i64 (l.getD k t0).p)
 | [],k,h=>by simp at h
 |p :: l,0,h=>by simp[tc]
 |p :: l,k+1,h=>by
  have:=zjC l k (by simpa using h);rw[show(k+1) * 4=k * 4+1+1+1+1 by omega];simpa [tc]using this
def Tc (w:World) (ad:Addr) (t:Tok):Prop:=w.cell? ad=some (.int .i64 t.k)∧w.cell? ⟨ad.block,ad.off+1,none⟩=some (.string (sv t.s))∧w.cell? ⟨ad.block,ad.off+2,none⟩=some (.int .i64 t.n)∧w.cell? ⟨ad.block,ad.off+3,none⟩=some (.int .i64 t.p)
theorem Tc.keep {w w':World} {ad:Addr} {t:Tok} (h:Tc w ad t) (hb:ad.block<w.heap.size) (hk:Keep w w'):Tc w' ad t:=by
 obtain⟨h0,h1,h2,h3⟩:=h;refine⟨?_,?_,?_,?_⟩
 ·rw[Below.cell hk hb];exact h0
 ·rw[Below.cell (p:=⟨ad.block,ad.off+1,none⟩) hk hb];exact h1
 ·rw[Below.cell (p:=⟨ad.block,ad.off+2,none⟩) hk hb];exact h2
 ·rw[Below.cell (p:=⟨ad.block,ad.off+3,none⟩) hk hb];exact h3
def Ts (w:World) (v:Value) (L:List Tok):Prop:=∃ a cap,v= .slice a L.length cap∧L.length≤cap∧∀ k,k<L.length→∃ ad,a=some ad∧ad.block<w.heap.size∧Tc w (ad.add (k * 4)) (L.getD k t0)
theorem Ts.keep {w w':World} {v:Value} {L:List Tok} (h:Ts w v L) (hk:Keep w w'):Ts w' v L:=by
 obtain⟨a,cap,rfl,hc,h⟩:=h;refine⟨a,cap,rfl,hc,fun k hlt=>?_⟩;obtain⟨ad,h0,h1,h2⟩:=h k hlt;exact⟨ad,h0,Nat.lt_of_lt_of_le h1 (Below.size hk),h2.keep (by rw[zaH];exact h1) hk⟩
theorem Ts.shape {w:World} {v:Value} {L:List Tok} (h:Ts w v L):∃ a cap,v= .slice a L.length cap:=by obtain⟨a,cap,rfl,_⟩:=h;exact⟨a,cap,rfl⟩
theorem zeq (w:World):Ts w (.slice none 0 0) []:=⟨none,0,rfl,Nat.le_refl _,fun k h=>by simp at h⟩
theorem zjD {w:World} {base:Nat} {e:TypeId} {v:Value} {L:List Tok} (h:w.ownsRow base e 4 v L.length (tc L)):Ts w v L:=by
 obtain⟨_,h⟩:=h;rcases h with ⟨rfl,h0⟩|⟨g,cap,cur,rfl,hb,hg,hc,hm,hs,ht⟩
 ·have:L= []:=List.eq_nil_of_length_eq_zero h0;subst this;exact zeq w
 ·refine⟨_,cap,rfl,hc,fun k hk=>⟨_,rfl,(Array.getElem?_eq_some_iff.1 hg).1,?_⟩⟩;have hh:=zjC L k hk;rw[← ht,List.getElem?_take_of_lt (by omega),List.getElem?_take_of_lt (by omega),List.getElem?_take_of_lt (by omega),List.getElem?_take_of_lt (by omega)]at hh;rw[zaO,Nat.zero_add];unfold Tc
  simp only[World.cell?,hg];simpa using hh
end Go.Proofs.Ythbfohohelflnaa
namespace Go.Proofs.Ythbfohohelflnaa
open Go.RowKit
attribute [local go_sem ↓] Go.wp_at_zero Go.wp_at_succ
set_option linter.unusedVariables false
set_option linter.unusedSimpArgs false
set_option maxRecDepth 10000
def words:List (List UInt8):= [[99,121,99,108,101],[116,111],[98,121],[112,101,97,107],[110,111,100,101],[104,101,97,100],[118,111,108,117,109,101],[102,108,111,119],[117,115,101],[115,112,101,101,100],[103,114,97,100,101],[119,105,100,116,104],[108,101,110,103,116,104],[103,114,101,101,110],[119,97,108,107],[119,105,116,104],[108,111,110,103],[112,97,99,101],[108,101,97,115,116],[112,104,97,115,101],[103,114,111,117,112],[114,105,110,103],[102,114,101,101],[102,111,101],[97,114,116,101,114,121],[115,116,111,112],[111,117,116],[105,110],[97,104,101,97,100],[98,97,99,107],[119,101,105,103,104,116,115],[112,108,97,110],[111,102,102,115,101,116],[115,117,109],[115,112,108,105,116],[121,101,108,108,111,119],[114,101,100],[102,108,97,115,104],[98,101,115,116],[121,101,115],[110,111],[115,112,101,110,116]]
end Go.Proofs.Ythbfohohelflnaa
namespace Go.Proofs.Ythbfohohelflnaa
open Go.RowKit
set_option linter.unusedVariables false
set_option linter.unusedSimpArgs false
inductive D where
 |val (v:Value)
 |row (e z:Nat) (L:List (List D))
abbrev Er:=Int×Int
abbrev Rs:=Except Er (List D×List Tok)
abbrev Sp:=List D→List Tok→Rs
def dS (s:List UInt8):D:= .val (.string (sv s))
def dI (n:Int):D:= .val (.int .i64 n)
def dB (b:Bool):D:= .val (.bool b)
def bad (e:Int):List Tok→Rs
 | []=> .error (e,0)
 |t :: _=> .error (e,t.p)
def zah (s:List UInt8):Sp
 |c,[]=>bad 50 []
 |c,t :: r=>if t.s=s then .ok (c,r)else bad 50 (t :: r)
def zal:Sp
 |c,[]=>bad 50 []
 |c,t :: r=>if t.k=1∧¬t.s∈words then .ok (c++ [dS t.s],r)else bad 50 (t :: r)
def zb4:Sp
 |c,[]=>bad 50 []
 |c,t :: r=> .ok (c++ [dI t.p],t :: r)
def zaG:Sp
 |c,[]=>bad 50 []
 |c,t :: r=>if t.k=2 then .ok (c++ [dI t.n],r)else bad 50 (t :: r)
def zem:Sp
 |c,[]=>bad 50 []
 |c,t :: r=>if t.k=0 then .ok (c,t :: r)else bad 50 (t :: r)
def zaW (s:List UInt8):Sp
 |c,[]=>bad 50 []
 |c,t :: r=>if t.s=s then .ok (c++ [dB true],r)else .ok (c++ [dB false],t :: r)
def sq:List Sp→Sp
 | [],c,r=> .ok (c,r)
 |p :: ps,c,r=>match p c r with
  | .error x=> .error x
  | .ok (c',r')=>sq ps c' r'
def zb2:Sp:=sq [zaG,zah [47],zaG]
def zaS:Sp:=fun c r=>match sq [zaW [45],zaG] [] r with
 | .error x=> .error x
 | .ok ([.val (.bool b),.val (.int .i64 n)],r')=> .ok (c++ [dI (if b then -n else n)],r')
 | .ok _=> .error (0,0)
def nmz (most:Nat):Nat→List (List D)→List Tok→Except Er (List (List D)×List Tok)
 |0,_,_=> .error (0,0)
 |f+1,L,r=>match zal [] r with
  | .error x=> .error x
  | .ok (d,r')=>
   if L.length=most then(match bad 4 r with| .error x=> .error x| .ok _=> .error (0,0))
   else match zaW [44] [] r' with
    | .ok ([.val (.bool true)],r2)=>nmz most f (L++ [d]) r2
    | .ok (_,r2)=> .ok (L++ [d],r2)
    | .error x=> .error x
def zaj (e most:Nat):Sp:=fun c r=>match nmz most (r.length+1) [] r with
 | .error x=> .error x
 | .ok (L,r')=> .ok (c++ [.row e 1 L],r')
def rwz (word:List UInt8) (most:Nat) (body:List Tok→Rs):Nat→List (List D)→List Tok→Except Er (List (List D)×List Tok)
 |0,_,_=> .error (0,0)
 | _+1,_,[]=> .error (50,0)
 |f+1,L,t :: r=>
  if t.s=word then
   (if L.length=most then .error (4,t.p)
    else match body r with
    | .error x=> .error x
    | .ok (d,r')=>rwz word most body f (L++ [d]) r')
  else .ok (L,t :: r)
def zbC (word:List UInt8) (most e z:Nat) (body:List Tok→Rs):Sp:=fun c r=>match rwz word most body (r.length+1) [] r with
 | .error x=> .error x
 | .ok (L,r')=> .ok (c++ [.row e z L],r')
def rot:List D→List D
 | []=> []
 |d :: ds=>ds++ [d]
def zbD (p:List Tok→Rs):List Tok→Rs:=fun r=>match p r with
 | .error x=> .error x
 | .ok (c,r')=> .ok (rot c,r')
def zb3:Sp:=fun c r=>match c with
 | [.row _ _ []]=>bad 50 r
 | _=> .ok (c,r)
def zcs:List Tok→Rs:=zbD (sq [zb4,zal,zah [118,111,108,117,109,101],zaG,zah [102,108,111,119],zaG,zah [117,115,101],zb2,zah [115,112,101,101,100],zaG,zah [103,114,97,100,101],zaS,zah [119,105,100,116,104],zaG,zah [108,101,110,103,116,104],zaG,zah [103,114,101,101,110],zaG,zah [59]] [])
def zct:List Tok→Rs:=zbD (sq [zb4,zal,zah [119,105,116,104],zal,zah [108,111,110,103],zaG,zah [112,97,99,101],zaG,zah [108,101,97,115,116],zaG,zah [59]] [])
def zbE:List Tok→Rs:=zbD (sq [zb4,zal,zah [58],zaj 9 16,zah [59]] [])
def zaz:List Tok→Rs:=sq [zaW [102,114,101,101],zaj 9 4,zah [59]] []
def zbv:List Tok→Rs:=sq [zah [123],zbC [114,105,110,103] 2 66 2 zaz,zb3,zah [125]] []
def zfv:List Tok→Rs:=zbD (sq [zb4,zal,zal,zah [59]] [])
def zcf:List Tok→Rs:=zbD (sq [zb4,zal,zah [111,117,116],zal,zah [105,110],zal,zah [97,104,101,97,100],zaG,zah [98,97,99,107],zaG,zah [59]] [])
def zcu:List Tok→Rs:=zbD (sq [zb4,zal,zah [123],zbC [104,101,97,100] 16 59 11 zcs,zbC [119,97,108,107] 8 61 6 zct,zbC [112,104,97,115,101] 16 57 3 zbE,zbC [103,114,111,117,112] 4 64 1 zbv,zbC [102,111,101] 64 68 3 zfv,zah [125]] [])
def zdc:Sp:=fun c r=>match zaW [97,114,116,101,114,121] [] r with
 | .error x=> .error x
 | .ok ([.val (.bool true)],r')=>sq [zah [123],zbC [115,116,111,112] 12 43 6 zcf,zah [119,101,105,103,104,116,115],zaG,zaG,zah [59],zah [125]] c r'
 | .ok (_,r')=> .ok (c++ [.row 43 6 [],dI 0,dI 0],r')
def zf5:List Tok→Rs:=sq [zah [99,121,99,108,101],zaG,zah [116,111],zaG,zah [98,121],zaG,zah [59],zah [112,101,97,107],zb2,zah [59],zbC [110,111,100,101] 12 40 7 zcu,zdc,zem] []
def N (l:List UInt8):Except Er (List D):=match T l with
 | .error x=> .error (x.1,(x.2:Int))
 | .ok L=>match zf5 L with
  | .error x=> .error x
  | .ok (c,_)=> .ok c
end Go.Proofs.Ythbfohohelflnaa
