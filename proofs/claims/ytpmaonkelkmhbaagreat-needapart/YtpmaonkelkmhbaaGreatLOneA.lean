/- The document's reader in plain words: steps over what was read so far, or over what was wrong. No program is met here. -/
import Derived.Test.YtpmaonkelkmhbaaGreatLFact
namespace Go.Proofs.YtpmaonkelkmhbaaGreat
open Go.RowKit
set_option linter.unusedVariables false
set_option linter.unusedSimpArgs false
def bnd (X:Rs) (p:Sp):Rs:=match X with
 | .error x=> .error x
 | .ok (c,r)=>p c r
def bnb (X:Rs) (p:List Tok→Rs):Rs:=match X with
 | .error x=> .error x
 | .ok (_,r)=>p r
def zad:Rs→Except Er (List Tok)
 | .error x=> .error x
 | .ok (_,r)=> .ok r
def zaZ:Rs→Rs
 | .error x=> .error x
 | .ok (_,r)=> .ok ([],r)
theorem zaV (X:Rs):zad (zaZ X)=zad X:=by rcases X with x|⟨c,r⟩<;>rfl
theorem zcJ (X:Rs) (p:Sp):bnd (zaZ X) p=bnb X (p []):=by rcases X with x|⟨c,r⟩<;>rfl
theorem zar (X:Rs):bnd X (sq [])=X:=by rcases X with x|⟨c,r⟩<;>rfl
theorem zac (X:Rs) (p:Sp) (ps:List Sp):bnd X (sq (p :: ps))=bnd (bnd X p) (sq ps):=by
 rcases X with x|⟨c,r⟩
 ·rfl
 ·show sq (p :: ps) c r=bnd (p c r) (sq ps);simp only[sq];cases p c r<;>rfl
theorem zhQ (X:Rs) (p:List Tok→Rs):zad (bnb X (zbU p))=zad (bnb X p):=by
 rcases X with x|⟨c,r⟩
 ·rfl
 ·show zad (zbU p r)=zad (p r);simp only[zbU];rcases p r with x|⟨c,r'⟩<;>rfl
def Got (X Y:Rs) (ds:List D):Prop:=∀ c r,Y= .ok (c,r)→∃ c0 r0,X= .ok (c0,r0)∧c=c0++ds
theorem Got.refl (X:Rs):Got X X []:=fun c r h=>⟨c,r,h,by simp⟩
theorem Got.trans {X Y Z:Rs} {a b:List D} (h:Got X Y a) (k:Got Y Z b):Got X Z (a++b):=fun c r e=>by
 obtain⟨c1,r1,h1,rfl⟩:=k c r e;obtain⟨c0,r0,h0,rfl⟩:=h c1 r1 h1;exact⟨c0,r0,h0,by simp⟩
theorem Got.all {X:Rs} {p:Sp} {ds:List D} (h:Got (zaZ X) (bnd (zaZ X) p) ds):∀ c r,bnb X (p [])= .ok (c,r)→c=ds:=fun c r e=>by
 rw[← zcJ]at e;obtain⟨c0,r0,h0,rfl⟩:=h c r e;rcases X with x|⟨c1,r1⟩
 ·cases h0
 ·simp only[zaZ,Except.ok.injEq,Prod.mk.injEq]at h0;rw[← h0.1];rfl
theorem Got.rot {X:Rs} {p:Sp} {d:D} {ds:List D} (h:Got (zaZ X) (bnd (zaZ X) p) (d :: ds)):∀ c r,bnb X (zbU (p []))= .ok (c,r)→c=ds++ [d]:=fun c r e=>by
 rcases X with x|⟨c1,r1⟩
 ·cases e
 ·simp only[bnb,zbU]at e;cases hp:p [] r1 with
  |error x=>rw[hp]at e;cases e
  |ok q=>
   rw[hp]at e;simp only[Except.ok.injEq,Prod.mk.injEq]at e;have:=h.all q.1 q.2 hp;rw[← e.1,this];rfl
def Kf (t:Tok):Prop:=(t.k=0→t.s= [])∧(t.k=2→∃ c s,t.s=c :: s∧48≤c.toNat∧c.toNat≤57)
def wrd:List UInt8→Bool
 | []=>false
 |c :: _=> !(decide (48≤c.toNat)&&decide (c.toNat≤57))
theorem Kf.word {t:Tok} (h:Kf t) {s:List UInt8} (hs:wrd s=true) (e:t.s=s):t.k≠0∧t.k≠2:=by
 refine⟨fun k=>?_,fun k=>?_⟩
 ·rw[h.1 k]at e;subst e;cases hs
 ·obtain⟨c,s',e',h1,h2⟩:=h.2 k;rw[e']at e;subst e;simp[wrd,h1,h2]at hs
theorem zmY {r:List UInt8} {p:Nat} {t:Tok} (h:one r p= .ok t):Kf t:=by
 cases r with
 |nil=>simp only[one,Except.ok.injEq]at h;subst h;exact⟨fun _=>rfl,fun e=>by simp at e⟩
 |cons c r=>
  simp only[one]at h;split at h
  ·split at h
   ·cases h
   ·simp only[Except.ok.injEq]at h;subst h;exact⟨fun e=>by simp at e,fun e=>by simp at e⟩
  ·split at h
   ·rename_i h5
    split at h
    ·cases h
    ·simp only[Except.ok.injEq]at h;subst h;refine⟨fun e=>by simp at e,fun _=>?_⟩;refine⟨c,r.take (tw (zdJ c) r),?_,?_⟩
     ·show(c :: r).take (en (c :: r))=_;rw[en,Nat.add_comm 1,List.take_succ_cons]
     ·unfold kd at h5
      (repeat' split at h5)<;>omega
   ·split at h
    ·simp only[Except.ok.injEq]at h;subst h;exact⟨fun e=>by simp at e,fun e=>by simp at e⟩
    ·cases h
theorem zmZ:∀(n:Nat) (r:List UInt8) (p:Nat) (L:List Tok),r.length≤n→tk r p= .ok L→∀ t∈L,Kf t
 |n,r,p,L,hn,h=>by
  rcases zd9 h with ⟨rfl,_⟩|⟨t,M,rfl,h1,h2,_,_,h5,h6,h7⟩
  ·exact fun t ht=>by simp at ht;subst ht;exact⟨fun _=>rfl,fun e=>by simp at e⟩
  ·cases n with
   |zero=>omega
   |succ n=>
    have hM:=zmZ n _ _ M (by rw[List.length_drop];omega) h7;intro x hx
    rcases List.mem_cons.1 hx with rfl|hx
    ·exact zmY h1
    ·exact hM x hx
theorem zpd {l:List UInt8} {L:List Tok} (h:T l= .ok L):∀ t∈L,Kf t:=zmZ l.length l 0 L (Nat.le_refl _) (zor h).2
def bgn (word:List UInt8) (n most:Nat):Except Er (List Tok)→Bool×Except Er (List Tok)
 | .error x=>(false,.error x)
 | .ok []=>(false,.ok [])
 | .ok (t :: r)=>if t.s=word then(if n=most then(false,.error (4,t.p))else(true,.ok r))else(false,.ok (t :: r))
def rwF (L:List (List D)):Except Er (List Tok)→Except Er (List (List D)×List Tok)
 | .error x=> .error x
 | .ok r=> .ok (L,r)
def rwY (word:List UInt8) (most:Nat) (body:List Tok→Rs) (Y:Except Er (List Tok)) (L:List (List D)):Except Er (List (List D)×List Tok):=match Y with
 | .error x=> .error x
 | .ok r=>rw_ word most body L r
theorem zbX {word:List UInt8} {most:Nat} {body:List Tok→Rs} (hm:Mon body) {Y Y':Except Er (List Tok)} {L:List (List D)} (hne:Y≠ .ok []) (h:bgn word L.length most Y=(false,Y')):rwY word most body Y L=rwF L Y':=by
 match Y,h with
 | .error x,h=>simp only[bgn,Prod.mk.injEq]at h;rw[← h.2];rfl
 | .ok [],h=>exact absurd rfl hne
 | .ok (t :: r),h=>
  simp only[bgn]at h;show rw_ word most body L (t :: r)=_;rw[zdk _ _ _ hm];by_cases h1:t.s=word
  ·rw[if_pos h1]at h ⊢;by_cases h2:L.length=most
   ·rw[if_pos h2]at h ⊢;simp only[Prod.mk.injEq]at h;rw[← h.2];rfl
   ·rw[if_neg h2]at h;simp at h
  ·rw[if_neg h1]at h ⊢;simp only[Prod.mk.injEq]at h;rw[← h.2];rfl
theorem zbq {word:List UInt8} {n most:Nat} {Y Y':Except Er (List Tok)} (h:bgn word n most Y=(true,Y')):∃ t r,Y= .ok (t :: r)∧Y'= .ok r∧t.s=word∧n≠most:=by
 match Y,h with
 | .error x,h=>simp[bgn]at h
 | .ok [],h=>simp[bgn]at h
 | .ok (t :: r),h=>
  simp only[bgn]at h;by_cases h1:t.s=word
  ·rw[if_pos h1]at h;by_cases h2:n=most
   ·rw[if_pos h2]at h;simp at h
   ·rw[if_neg h2]at h;simp only[Prod.mk.injEq]at h;exact⟨t,r,rfl,h.2.symm,h1,h2⟩
  ·rw[if_neg h1]at h;simp at h
theorem zaD {word:List UInt8} {most:Nat} {body:List Tok→Rs} (hm:Mon body) {t:Tok} {r:List Tok} {L:List (List D)} {cs:List D} (h1:t.s=word) (h2:L.length≠most) (hc:∀ c r',body r= .ok (c,r')→cs=c):rwY word most body (.ok (t :: r)) L=rwY word most body (zad (body r)) (L++ [cs]):=by
 show rw_ word most body L (t :: r)=_;rw[zdk _ _ _ hm,if_pos h1,if_neg h2];cases hb:body r with
 |error x=>rfl
 |ok q=>obtain⟨c,r'⟩:=q;rw[hc c r' hb];rfl
theorem zbL {word:List UInt8} {most e z:Nat} {body:List Tok→Rs} {X:Rs} {Y':Except Er (List Tok)} {L:List (List D)} (h:rwY word most body (zad X) []=rwF L Y'):zad (bnd X (zbT word most e z body))=Y'∧Got X (bnd X (zbT word most e z body)) [.row e z L]:=by
 rcases X with x|⟨c,r⟩
 ·cases Y' with
  |error y=>simp only[zad,rwY,rwF,Except.error.injEq]at h;subst h;exact⟨rfl,fun c r e=>by cases e⟩
  |ok r=>cases h
 ·have e0:bnd (.ok (c,r)) (zbT word most e z body)=match rw_ word most body [] r with| .error x=> .error x| .ok (L,r')=> .ok (c++ [.row e z L],r'):=rfl
  have h':rw_ word most body [] r=rwF L Y':=h;rw[e0,h'];cases Y' with
  |error y=>exact⟨rfl,fun c r e=>by cases e⟩
  |ok r1=>exact⟨rfl,fun c2 r2 e2=>by simp only[rwF,Except.ok.injEq,Prod.mk.injEq]at e2;exact⟨c,r,rfl,e2.1.symm⟩⟩
def nmA (most:Nat) (L:List (List D)):Except Er (List Tok)→Except Er (List (List D)×List Tok)
 | .error x=> .error x
 | .ok []=> .error (50,0)
 | .ok (u :: r)=>if u.s= [44]then nm most L r else .ok (L,u :: r)
theorem zgd {most:Nat} (hm:most≠0) {c:List D} {t:Tok} {r:List Tok} {s:List UInt8} (h:Got (.ok (c,t :: r)) (bnd (.ok (c,t :: r)) zam) [dS s]):nm most [] (t :: r)=nmA most [[dS s]] (zad (bnd (.ok (c,t :: r)) zam)):=by
 rw[zga];simp only[bnd,zam]at h ⊢;by_cases hn:t.k=1∧¬t.s∈words
 ·rw[if_pos hn]at h ⊢;obtain⟨c0,r0,h0,h1⟩:=h _ _ rfl;simp only[Except.ok.injEq,Prod.mk.injEq]at h0;obtain⟨rfl,_⟩:=h0;have hd:dS t.s=dS s:=by have:=List.append_cancel_left h1;simpa using this
  rw[if_neg (by simp;omega),if_pos hn,hd];cases r with
  |nil=>rfl
  |cons u r2=>rfl
 ·rw[if_neg hn,if_neg hn];rfl
theorem zkM {most:Nat} {L:List (List D)} {u t:Tok} {r:List Tok} (h:u.s= [44]):nmA most L (.ok (u :: t :: r))=if t.k=1∧¬t.s∈words then(if L.length=most then .error (4,t.p)else nmA most (L++ [[dS t.s]]) (.ok r))else .error (50,t.p):=by
 show(if u.s= [44]then nm most L (t :: r)else _)=_;rw[if_pos h,zga];by_cases hn:t.k=1∧¬t.s∈words
 ·rw[if_pos hn,if_pos hn];by_cases h2:L.length=most
  ·rw[if_pos h2,if_pos h2]
  ·rw[if_neg h2,if_neg h2];cases r<;>rfl
 ·rw[if_neg hn,if_neg hn]
theorem zm0 {most:Nat} {L:List (List D)} {Y:Except Er (List Tok)} (hne:Y≠ .ok []) (h:∀ t r,Y= .ok (t :: r)→t.s≠ [44]):nmA most L Y=rwF L Y:=by
 match Y with
 | .error x=>rfl
 | .ok []=>exact absurd rfl hne
 | .ok (u :: r)=>show(if u.s= [44]then _ else _)=_;rw[if_neg (h u r rfl)];rfl
theorem zge {e most:Nat} {X:Rs} {Y':Except Er (List Tok)} {L:List (List D)} (hX:∀ c r,X= .ok (c,r)→nm most [] r=rwF L Y') (hE:∀ x,X= .error x→Y'= .error x):zad (bnd X (zaj e most))=Y'∧Got X (bnd X (zaj e most)) [.row e 1 L]:=by
 rcases X with x|⟨c,r⟩
 ·rw[hE x rfl];exact⟨rfl,fun c r e=>by cases e⟩
 ·have e0:bnd (.ok (c,r)) (zaj e most)=match nm most [] r with| .error x=> .error x| .ok (L,r')=> .ok (c++ [.row e 1 L],r'):=rfl
  rw[e0,hX c r rfl];cases Y' with
  |error y=>exact⟨rfl,fun c r e=>by cases e⟩
  |ok r1=>exact⟨rfl,fun c2 r2 e2=>by simp only[rwF,Except.ok.injEq,Prod.mk.injEq]at e2;exact⟨c,r,rfl,e2.1.symm⟩⟩
theorem zgf (word:List UInt8) (most:Nat) (body:List Tok→Rs):∀(f:Nat) (L:List (List D)) (r:List Tok) (L':List (List D)) (r':List Tok),rwz word most body f L r= .ok (L',r')→L.length≤L'.length
 |0,_,_,_,_,h=>by simp[rwz]at h
 |f+1,L,[],L',r',h=>by simp[rwz]at h
 |f+1,L,t :: r,L',r',h=>by
  simp only[rwz]at h;split at h
  ·split at h
   ·cases h
   ·split at h
    ·cases h
    ·rename_i d r1 h1
     have:=zgf word most body f _ r1 _ _ h;simp at this;omega
  ·simp at h;simp[← h.1]
end Go.Proofs.YtpmaonkelkmhbaaGreat
namespace Go.Proofs.YtpmaonkelkmhbaaGreat
open Go.RowKit
attribute [local go_sem ↓] Go.wp_at_zero Go.wp_at_succ
set_option linter.unusedVariables false
set_option linter.unusedSimpArgs false
set_option maxRecDepth 10000
theorem zeQ (m:List UInt8) (c:UInt8):num (m++ [c])=num m * 10+((c.toNat:Int) - 48):=by unfold num;rw[List.foldl_append];rfl
theorem zeR (l:List UInt8) (k:Nat) (h:k<l.length):l.take (k+1)=l.take k++ [l.getD k 0]:=by
 rw[List.take_add_one,List.getElem?_eq_getElem h,List.getD_eq_getElem?_getD,List.getElem?_eq_getElem h];rfl
theorem zgg (l:List UInt8) (hd:∀ c,c∈l→kd c.toNat=5):∀ k,k≤l.length→0≤num (l.take k)∧num (l.take k)<10 ^ k
 |0,_=>by simp[num]
 |k+1,h=>by
  have ih:=zgg l hd k (by omega);have hc:=(zlS _).1 (hd (l.getD k 0) (by rw[List.getD_eq_getElem?_getD,List.getElem?_eq_getElem (by omega)];exact List.getElem_mem _));rw[zeR l k (by omega),zeQ,Int.pow_succ];generalize num (l.take k)=x at *;generalize (10:Int) ^ k=y at *;omega
end Go.Proofs.YtpmaonkelkmhbaaGreat
namespace Go.Proofs.YtpmaonkelkmhbaaGreat
open Go.RowKit
set_option linter.unusedVariables false
set_option linter.unusedSimpArgs false
set_option maxRecDepth 10000
theorem zkN (P:UInt8→Bool) (r:List UInt8):r.take (tw P r)=r.takeWhile P:=(List.prefix_iff_eq_take.1 (List.takeWhile_prefix P)).symm
theorem zkO (c:UInt8) (r:List UInt8):(c :: r).take (en (c :: r))=c :: r.takeWhile (zdJ c):=by
 rw[en,Nat.add_comm,List.take_succ_cons,zkN]
theorem zm1 {c:UInt8} {r:List UInt8} {x:UInt8} (h:x∈(c :: r).take (en (c :: r))):x=c∨zdJ c x=true:=by
 rw[zkO,List.mem_cons]at h;rcases h with h|h
 ·exact .inl h
 ·right;have:=List.all_takeWhile (l:=r) (p:=zdJ c);rw[List.all_eq_true]at this;exact this x h
theorem zdM {c:UInt8} {r:List UInt8} (h5:kd c.toNat=5):∀ x,x∈(c :: r).take (en (c :: r))→kd x.toNat=5:=by
 intro x h
 rcases zm1 h with rfl|h
 ·exact h5
 ·unfold zdJ at h
  rw[zc4]at h;omega
theorem zfl {w:World} {ad:Addr} {l:List UInt8} {i N:Nat} (C:Cy w (some ad) l.length (fun k=>((l.getD k 0).toNat:Int))) (hi:i≤N) (hN:N≤l.length) {t u:TypeId} (hs:Tryz.prog.underlying t=some (.slice 5)) (hu:Tryz.prog.underlying u=some .string) (c:Nat):
  (convert t u (.slice (some (ad.add i)) (N - i) c)).run Tryz.prog w= .ok (.string (sv ((l.drop i).take (N - i)))) w:=by
 have hl:((l.drop i).take (N - i)).length=N - i:=by rw[List.length_take,List.length_drop];omega
 have h:=run_convert_bytes_back (P:=Tryz.prog) w t u 5 (ad.add i) c ((l.drop i).take (N - i)) hs Tryz.underlying5 hu (fun j hj=>?_)
 ·rw[hl]at h;exact h
 ·rw[hl]at hj;obtain⟨ad',e,_,hc⟩:=C (i+j) (by omega);injection e with e
  subst e;rw[Addr.add_add,hc];congr 2;show((l.getD (i+j) 0).toNat:Int)=_;rw[List.getD_eq_getElem?_getD,List.getElem?_eq_getElem (by omega)];simp
def rtk:Except Int Tok→Tok
 | .ok t=>t
 | .error _=>t0
def re:Except Int Tok→Int
 | .ok _=>0
 | .error e=>e
end Go.Proofs.YtpmaonkelkmhbaaGreat
namespace Go.Proofs.YtpmaonkelkmhbaaGreat
open Go.RowKit
attribute [local go_sem ↓] Go.wp_at_zero Go.wp_at_succ
set_option linter.unusedVariables false
set_option linter.unusedSimpArgs false
set_option maxRecDepth 10000
def Wd (E i m:Nat) (A B:Value) (e:Ending):Prop:=(E - i≤m→e= .returned A)∧(m<E - i→e= .returned B)
set_option maxHeartbeats 4000000 in
theorem zhR (ad:Addr) (n cap i E:Nat) (C:Nat→Int) (SM DG:Nat→Bool) (G:Nat→Nat) (s:ByteArray) (w:World) (hn:n≤70000) (hi:i<n) (hE:i<E) (hEn:E≤n) (hnc:n≤cap) (hb:ad.block<w.heap.size)
  (HC:Hid (∀ k,k<n→∀ W,Keep w W→W.cell? (ad.add k)=some (.int .u8 (C k))))
  (T1:Hid (∀ k,k<n→∀ w,Calls Tryz.prog 64 #[.int .u8 (C k)] w fun e w'=>e= .returned (.bool (SM k))∧w'=w))
  (T2:Hid (∀ k,k<n→∀ w,Calls Tryz.prog 65 #[.int .u8 (C k)] w fun e w'=>e= .returned (.bool (DG k))∧w'=w))
  (HS:Hid (SM i=true))
  (HG:Hid (∀ k,k<n→(SM k=true∨DG k=true∨C k=95)→G k=1+G (k+1)))
  (HG2:Hid (∀ k,(k<n→¬(SM k=true∨DG k=true∨C k=95))→G k=0))
  (HE:Hid (i+G i=E))
  (HV:Hid (∀ W,Keep w W→(convert 73 9 (.slice (some (ad.add i)) (E - i) (cap - i))).run Tryz.prog W= .ok (.string s) W)):
  Calls Tryz.prog 45 #[.slice (some ad) n cap,.int .i64 (i:Int)] w fun e w'=>Wd E i 24 (.tuple #[.agg #[.int .i64 1,.string s,.int .i64 0,.int .i64 (i:Int)],.int .i64 0]) (.tuple #[.agg #[.int .i64 0,.string ⟨#[]⟩,.int .i64 0,.int .i64 0],.int .i64 4]) e∧Keep w w':=by
 have hin:(i:Int)<(n:Int):=by omega
 have k0:=(show ∀ o1,(w.alloc o1).cell? (ad.add i)=some (.int .u8 (C i))from fun o1=>(uq HC) i hi _ ((Keep.refl w).alloc _));have kv:=(show ∀ o1,(convert 73 9 (.slice (some (ad.add i)) (E - i) (cap - i))).run Tryz.prog (w.alloc o1)= .ok (.string s) (w.alloc o1)from fun o1=>(uq HV) _ ((Keep.refl w).alloc _));go_enter Tryz.func45,Tryz.ntmps45;go_wp2_with fail
 (refine((uq T1) i hi _).mono ?_;rintro e w2 ⟨rfl,rfl⟩);rw[uq HS];clear k0;go_wp2_with fail
 go_loop [6] (fun vi=>∃ k:Nat,k≤n∧vi= .int .i64 (k:Int)∧Hid (k+G k=E)) (fun vi=>n - (intOf vi).toNat)
 case atStart=>exact⟨i,Nat.le_of_lt hi,rfl,HE⟩
 case round=>
  obtain⟨k,hk,rfl,hE'⟩:=hrel;by_cases hlt:k<n
  ·have li:(k:Int)<(n:Int):=by omega
   have k0:=(show ∀ o1,(w.alloc o1).cell? (ad.add k)=some (.int .u8 (C k))from fun o1=>(uq HC) k hlt _ ((Keep.refl w).alloc _));have T1k:=hide ((uq T1) k hlt);have T2k:=hide ((uq T2) k hlt);have HGk:Hid ((SM k=true∨DG k=true∨C k=95)→k+1+G (k+1)=E):=by
    intro h
    have:=uq hE';rw[(uq HG) k hlt h]at this;omega
   have HNk:Hid (¬(SM k=true∨DG k=true∨C k=95)→k=E):=by
    intro h
    have:=uq hE';rw[(uq HG2) k (fun _=>h)]at this;omega
   generalize SM k=b1 at *;generalize DG k=b2 at *;clear hE' HG HG2;go_wp2_with fail
   (refine((uq T1k) _).mono ?_;rintro e w2 ⟨rfl,rfl⟩);cases b1 with
   |true=>
    go_wp2_with fail
    exact⟨⟨k+1,hlt,by go_num,(uq HGk) (by simp)⟩,by simp[intOf];omega⟩
   |false=>
    go_wp2_with fail
    (refine((uq T2k) _).mono ?_;rintro e w2 ⟨rfl,rfl⟩);cases b2 with
    |true=>
     go_wp2_with fail
     exact⟨⟨k+1,hlt,by go_num,(uq HGk) (by simp)⟩,by simp[intOf];omega⟩
    |false=>
     by_cases h95:C k=95
     ·have hb95:(C k==95)=true:=by simp[h95]
      have HX:Hid (k+1+G (k+1)=E):=(uq HGk) (.inr (.inr h95));clear h95;go_wp2_with fail
      exact⟨⟨k+1,hlt,by go_num,HX⟩,by simp[intOf];omega⟩
     ·have hb95:(C k==95)=false:=by simp[h95]
      have e:k=E:=(uq HNk) (by simp[h95]);subst e;clear h95 HGk HNk;go_wp2_with fail
      ·exact bodyPost_ret (v:= .tuple #[.agg #[.int .i64 0,.string ⟨#[]⟩,.int .i64 0,.int .i64 0],.int .i64 4]) (by simp[results,Tryz.results45,go_sem]) rfl ⟨⟨fun h=>absurd h (by omega),fun _=>rfl⟩,by repeat(first|apply zaa|apply Keep.alloc|apply Keep.drew|exact Keep.refl _)⟩
      ·exact bodyPost_ret (v:= .tuple #[.agg #[.int .i64 1,.string s,.int .i64 0,.int .i64 (i:Int)],.int .i64 0]) (by simp[results,Tryz.results45,go_sem]) rfl ⟨⟨fun _=>rfl,fun h=>absurd h (by omega)⟩,by repeat(first|apply zaa|apply Keep.alloc|apply Keep.drew|exact Keep.refl _)⟩
  ·have e:k=E:=by have:=uq hE';rw[(uq HG2) k (fun h=>absurd h hlt)]at this;omega
   subst e;go_wp2_with fail
   ·exact bodyPost_ret (v:= .tuple #[.agg #[.int .i64 0,.string ⟨#[]⟩,.int .i64 0,.int .i64 0],.int .i64 4]) (by simp[results,Tryz.results45,go_sem]) rfl ⟨⟨fun h=>absurd h (by omega),fun _=>rfl⟩,by repeat(first|apply zaa|apply Keep.alloc|apply Keep.drew|exact Keep.refl _)⟩
   ·exact bodyPost_ret (v:= .tuple #[.agg #[.int .i64 1,.string s,.int .i64 0,.int .i64 (i:Int)],.int .i64 0]) (by simp[results,Tryz.results45,go_sem]) rfl ⟨⟨fun _=>rfl,fun h=>absurd h (by omega)⟩,by repeat(first|apply zaa|apply Keep.alloc|apply Keep.drew|exact Keep.refl _)⟩
set_option maxHeartbeats 4000000 in
theorem zkP (ad:Addr) (n cap i E:Nat) (C D:Nat→Int) (DG:Nat→Bool) (G:Nat→Nat) (V:Nat→Int) (s:ByteArray) (w:World) (hn:n≤70000) (hi:i<n) (hE:i<E) (hEn:E≤n) (hnc:n≤cap) (hb:ad.block<w.heap.size)
  (HC:Hid (∀ k,k<n→∀ W,Keep w W→W.cell? (ad.add k)=some (.int .u8 (C k))))
  (T1:Hid (∀ w,Calls Tryz.prog 64 #[.int .u8 (C i)] w fun e w'=>e= .returned (.bool false)∧w'=w))
  (T2:Hid (∀ k,k<n→∀ w,Calls Tryz.prog 65 #[.int .u8 (C k)] w fun e w'=>e= .returned (.bool (DG k))∧w'=w))
  (HS:Hid (DG i=true))
  (HD:Hid (∀ k,k<n→DG k=true→C k=D k+48∧0≤D k∧D k≤9))
  (HG:Hid (∀ k,k<n→DG k=true→G k=1+G (k+1)))
  (HG2:Hid (∀ k,(k<n→DG k=false)→G k=0))
  (HE:Hid (i+G i=E))
  (H0:Hid (V 0=0))
  (HW:Hid (∀ j,j<18→i+j<E→V (j+1)=10 * V j+D (i+j)∧0≤V j∧V j≤100000000000000000))
  (HV:Hid (∀ W,Keep w W→(convert 73 9 (.slice (some (ad.add i)) (E - i) (cap - i))).run Tryz.prog W= .ok (.string s) W)):
  Calls Tryz.prog 45 #[.slice (some ad) n cap,.int .i64 (i:Int)] w fun e w'=>Wd E i 18 (.tuple #[.agg #[.int .i64 2,.string s,.int .i64 (V (E - i)),.int .i64 (i:Int)],.int .i64 0]) (.tuple #[.agg #[.int .i64 0,.string ⟨#[]⟩,.int .i64 0,.int .i64 0],.int .i64 4]) e∧Keep w w':=by
 have hin:(i:Int)<(n:Int):=by omega
 have k0:=(show ∀ o1,(w.alloc o1).cell? (ad.add i)=some (.int .u8 (C i))from fun o1=>(uq HC) i hi _ ((Keep.refl w).alloc _));have kv:=(show ∀ o1,(convert 73 9 (.slice (some (ad.add i)) (E - i) (cap - i))).run Tryz.prog (w.alloc o1)= .ok (.string s) (w.alloc o1)from fun o1=>(uq HV) _ ((Keep.refl w).alloc _));go_enter Tryz.func45,Tryz.ntmps45;go_wp2_with fail
 (refine((uq T1) _).mono ?_;rintro e w2 ⟨rfl,rfl⟩);go_wp2_with fail
 (refine((uq T2) i hi _).mono ?_;rintro e w2 ⟨rfl,rfl⟩);rw[uq HS];clear k0;go_wp2_with fail
 go_loop [6,7] (fun vi vv=>∃ k:Nat,i≤k∧k≤n∧vi= .int .i64 (k:Int)∧vv= .int .i64 (V (min (k - i) 18))∧Hid (k+G k=E)) (fun vi vv=>n - (intOf vi).toNat)
 case atStart=>exact⟨i,Nat.le_refl _,Nat.le_of_lt hi,rfl,by rw[Nat.sub_self];exact congrArg _ (uq H0).symm,HE⟩
 case round=>
  obtain⟨k,hik,hk,rfl,rfl,hE'⟩:=hrel;by_cases hlt:k<n
  ·have li:(k:Int)<(n:Int):=by omega
   have k0:=(show ∀ o1,(w.alloc o1).cell? (ad.add k)=some (.int .u8 (C k))from fun o1=>(uq HC) k hlt _ ((Keep.refl w).alloc _));have T2k:=hide ((uq T2) k hlt);obtain⟨b,hb2⟩:∃ b,DG k=b:=⟨_,rfl⟩;rw[hb2]at T2k;have HBk:=hide hb2;clear hb2;cases b with
   |true=>
    have HX:Hid (k+1+G (k+1)=E):=by have:=uq hE';rw[(uq HG) k hlt (uq HBk)]at this;unfold Hid;omega
    obtain⟨d1,d2,d3⟩:=(uq HD) k hlt (uq HBk);by_cases hj:k - i<18
    ·have hj':(k:Int) - (i:Int)<18:=by omega
     obtain⟨v1,v2,v3⟩:=(uq HW) (k - i) hj (by have:=uq HX;omega);rw[show i+(k - i)=k by omega]at v1;rw[show min (k - i) 18=k - i by omega];have HV1:=hide v1;clear v1;generalize D k=d at *;generalize C k=c at *;generalize V (k - i)=x at *;have H3:=hide d1;subst d1;go_wp2_with fail
     (refine((uq T2k) _).mono ?_;rintro e w2 ⟨rfl,rfl⟩);go_wp2_with fail
     exact⟨⟨k+1,by omega,hlt,by go_num,by rw[show min (k+1 - i) 18=k - i+1 by omega,uq HV1],HX⟩,by simp[intOf];omega⟩
    ·have hj':¬(k:Int) - (i:Int)<18:=by omega
     clear d1 d2 d3;rw[show min (k - i) 18=18 by omega];go_wp2_with fail
     (refine((uq T2k) _).mono ?_;rintro e w2 ⟨rfl,rfl⟩);go_wp2_with fail
     exact⟨⟨k+1,by omega,hlt,by go_num,by rw[show min (k+1 - i) 18=18 by omega],HX⟩,by simp[intOf];omega⟩
   |false=>
    have e:k=E:=by have:=uq hE';rw[(uq HG2) k (fun _=>uq HBk)]at this;omega
    subst e;go_wp2_with fail
    (refine((uq T2k) _).mono ?_;rintro e w2 ⟨rfl,rfl⟩);by_cases hm:18<k - i
    ·have hv:¬((k:Int) - (i:Int)≤18):=by omega
     go_wp2_with fail
     exact bodyPost_ret (v:= .tuple #[.agg #[.int .i64 0,.string ⟨#[]⟩,.int .i64 0,.int .i64 0],.int .i64 4]) (by simp[results,Tryz.results45,go_sem]) rfl ⟨⟨fun h=>absurd h (by omega),fun _=>rfl⟩,by repeat(first|apply zaa|apply Keep.alloc|apply Keep.drew|exact Keep.refl _)⟩
    ·have hv:((k:Int) - (i:Int)≤18):=by omega
     have hmin:min (k - i) 18=k - i:=by omega
     rw[hmin];go_wp2_with fail
     exact bodyPost_ret (v:= .tuple #[.agg #[.int .i64 2,.string s,.int .i64 (V (k - i)),.int .i64 (i:Int)],.int .i64 0]) (by simp[results,Tryz.results45,go_sem]) rfl ⟨⟨fun _=>rfl,fun h=>absurd h (by omega)⟩,by repeat(first|apply zaa|apply Keep.alloc|apply Keep.drew|exact Keep.refl _)⟩
  ·have e:k=E:=by have:=uq hE';rw[(uq HG2) k (fun h=>absurd h hlt)]at this;omega
   subst e;by_cases hm:18<k - i
   ·have hv:¬((k:Int) - (i:Int)≤18):=by omega
    go_wp2_with fail
    exact bodyPost_ret (v:= .tuple #[.agg #[.int .i64 0,.string ⟨#[]⟩,.int .i64 0,.int .i64 0],.int .i64 4]) (by simp[results,Tryz.results45,go_sem]) rfl ⟨⟨fun h=>absurd h (by omega),fun _=>rfl⟩,by repeat(first|apply zaa|apply Keep.alloc|apply Keep.drew|exact Keep.refl _)⟩
   ·have hv:((k:Int) - (i:Int)≤18):=by omega
    have hmin:min (k - i) 18=k - i:=by omega
    rw[hmin];go_wp2_with fail
    exact bodyPost_ret (v:= .tuple #[.agg #[.int .i64 2,.string s,.int .i64 (V (k - i)),.int .i64 (i:Int)],.int .i64 0]) (by simp[results,Tryz.results45,go_sem]) rfl ⟨⟨fun _=>rfl,fun h=>absurd h (by omega)⟩,by repeat(first|apply zaa|apply Keep.alloc|apply Keep.drew|exact Keep.refl _)⟩
set_option maxHeartbeats 4000000 in
theorem zhS (ad:Addr) (n cap i:Nat) (c:Int) (s:ByteArray) (w:World) (hn:n≤70000) (hi:i<n) (hnc:n≤cap) (hb:ad.block<w.heap.size)
  (HC:Hid (∀ W,Keep w W→W.cell? (ad.add i)=some (.int .u8 c)))
  (T1:Hid (∀ w,Calls Tryz.prog 64 #[.int .u8 c] w fun e w'=>e= .returned (.bool false)∧w'=w))
  (T2:Hid (∀ w,Calls Tryz.prog 65 #[.int .u8 c] w fun e w'=>e= .returned (.bool false)∧w'=w))
  (T3:Hid (∀ w,Calls Tryz.prog 66 #[.int .u8 c] w fun e w'=>e= .returned (.bool true)∧w'=w))
  (HV:Hid (∀ W,Keep w W→(convert 73 9 (.slice (some (ad.add i)) (i+1 - i) (cap - i))).run Tryz.prog W= .ok (.string s) W)):
  Calls Tryz.prog 45 #[.slice (some ad) n cap,.int .i64 (i:Int)] w fun e w'=>e= .returned (.tuple #[.agg #[.int .i64 3,.string s,.int .i64 0,.int .i64 (i:Int)],.int .i64 0])∧Keep w w':=by
 have hin:(i:Int)<(n:Int):=by omega
 have k0:=(show ∀ o1,(w.alloc o1).cell? (ad.add i)=some (.int .u8 c)from fun o1=>(uq HC) _ ((Keep.refl w).alloc _));have kv:=(show ∀ o1,(convert 73 9 (.slice (some (ad.add i)) 1 (cap - i))).run Tryz.prog (w.alloc o1)= .ok (.string s) (w.alloc o1)from fun o1=>by
  have:=(uq HV) _ ((Keep.refl w).alloc o1);rw[Nat.add_sub_cancel_left]at this;exact this)
 go_enter Tryz.func45,Tryz.ntmps45;go_wp2_with fail
 (refine((uq T1) _).mono ?_;rintro e w2 ⟨rfl,rfl⟩);go_wp2_with fail
 (refine((uq T2) _).mono ?_;rintro e w2 ⟨rfl,rfl⟩);go_wp2_with fail
 (refine((uq T3) _).mono ?_;rintro e w2 ⟨rfl,rfl⟩);go_wp2_with fail
 exact bodyPost_ret (v:= .tuple #[.agg #[.int .i64 3,.string s,.int .i64 0,.int .i64 (i:Int)],.int .i64 0]) (by simp[results,Tryz.results45,go_sem]) rfl ⟨rfl,by repeat(first|apply zaa|apply Keep.alloc|apply Keep.drew|exact Keep.refl _)⟩
set_option maxHeartbeats 4000000 in
theorem zhT (ad:Addr) (n cap i:Nat) (c:Int) (s:ByteArray) (w:World) (hn:n≤70000) (hi:i<n) (hnc:n≤cap) (hb:ad.block<w.heap.size)
  (HC:Hid (∀ W,Keep w W→W.cell? (ad.add i)=some (.int .u8 c)))
  (T1:Hid (∀ w,Calls Tryz.prog 64 #[.int .u8 c] w fun e w'=>e= .returned (.bool false)∧w'=w))
  (T2:Hid (∀ w,Calls Tryz.prog 65 #[.int .u8 c] w fun e w'=>e= .returned (.bool false)∧w'=w))
  (T3:Hid (∀ w,Calls Tryz.prog 66 #[.int .u8 c] w fun e w'=>e= .returned (.bool false)∧w'=w))
  (HV:Hid (∀ W,Keep w W→(convert 73 9 (.slice (some (ad.add i)) (i+1 - i) (cap - i))).run Tryz.prog W= .ok (.string s) W)):
  Calls Tryz.prog 45 #[.slice (some ad) n cap,.int .i64 (i:Int)] w fun e w'=>e= .returned (.tuple #[.agg #[.int .i64 0,.string ⟨#[]⟩,.int .i64 0,.int .i64 0],.int .i64 40])∧Keep w w':=by
 have hin:(i:Int)<(n:Int):=by omega
 have k0:=(show ∀ o1,(w.alloc o1).cell? (ad.add i)=some (.int .u8 c)from fun o1=>(uq HC) _ ((Keep.refl w).alloc _));have kv:=(show ∀ o1,(convert 73 9 (.slice (some (ad.add i)) 1 (cap - i))).run Tryz.prog (w.alloc o1)= .ok (.string s) (w.alloc o1)from fun o1=>by
  have:=(uq HV) _ ((Keep.refl w).alloc o1);rw[Nat.add_sub_cancel_left]at this;exact this)
 go_enter Tryz.func45,Tryz.ntmps45;go_wp2_with fail
 (refine((uq T1) _).mono ?_;rintro e w2 ⟨rfl,rfl⟩);go_wp2_with fail
 (refine((uq T2) _).mono ?_;rintro e w2 ⟨rfl,rfl⟩);go_wp2_with fail
 (refine((uq T3) _).mono ?_;rintro e w2 ⟨rfl,rfl⟩);go_wp2_with fail
 exact bodyPost_ret (v:= .tuple #[.agg #[.int .i64 0,.string ⟨#[]⟩,.int .i64 0,.int .i64 0],.int .i64 40]) (by simp[results,Tryz.results45,go_sem]) rfl ⟨rfl,by repeat(first|apply zaa|apply Keep.alloc|apply Keep.drew|exact Keep.refl _)⟩
end Go.Proofs.YtpmaonkelkmhbaaGreat
namespace Go.Proofs.YtpmaonkelkmhbaaGreat
open Go.RowKit
set_option linter.unusedVariables false
set_option linter.unusedSimpArgs false
set_option maxRecDepth 10000
theorem zeS {P Q:UInt8→Bool} (h:∀ x,P x=Q x) (l:List UInt8):tw P l=tw Q l:=by rw[show P=Q from funext h]
theorem zkQ (v:Value) (l:List UInt8) (i:Nat) (w:World) (hl:l.length≤70000) (hlt:i<l.length) (h:By w v l):
  Calls Tryz.prog 45 #[v,.int .i64 (i:Int)] w fun e w'=>e= .returned (.tuple #[tv (rtk (one (l.drop i) i)),.int .i64 (re (one (l.drop i) i))])∧Keep w w':=by
 obtain⟨a,cap,e,hcap,hc⟩:=id h;subst e;obtain⟨ad,rfl,hb,ci⟩:=hc i hlt;have hd:=zb9 l i hlt;have h2:=zfk (l.drop i);have h1:1≤en (l.drop i):=by rw[hd];exact ziJ _ _
 rw[List.length_drop]at h2;have HC:Hid (∀ k,k<l.length→∀ W,Keep w W→W.cell? (ad.add k)=some (.int .u8 ((l.getD k 0).toNat:Int))):=fun k hk W hK=>by
  obtain⟨ad',e,_,ck⟩:=hc k hk;injection e with e
  subst e;rw[Below.cell hK (by rw[zaH];exact hb)];exact ck
 have CV:∀ N,i≤N→N≤l.length→∀ W,Keep w W→(convert 73 9 (.slice (some (ad.add i)) (N - i) (cap - i))).run Tryz.prog W= .ok (.string (sv ((l.drop i).take (N - i)))) W:=fun N h1 h2 W hk=>
  zfl (h.cy.keep hk) h1 h2 (t:=73) (u:=9) Tryz.underlying73 Tryz.underlying9 (cap - i)
 have HV:Hid (∀ W,Keep w W→(convert 73 9 (.slice (some (ad.add i)) (i+en (l.drop i) - i) (cap - i))).run Tryz.prog W= .ok (.string (sv ((l.drop i).take (en (l.drop i))))) W):=fun W hk=>by
  have:=CV (i+en (l.drop i)) (by omega) (by omega) W hk;rw[Nat.add_sub_cancel_left]at this ⊢;exact this
 have hlen:((l.drop i).take (en (l.drop i))).length=en (l.drop i):=by rw[List.length_take,List.length_drop];omega
 have e1:one (l.drop i) i=(if kd (l.getD i 0).toNat=4 then(if 24<en (l.drop i)then .error 4 else .ok ⟨1,(l.drop i).take (en (l.drop i)),0,i⟩)
  else if kd (l.getD i 0).toNat=5 then(if 18<en (l.drop i)then .error 4 else .ok ⟨2,(l.drop i).take (en (l.drop i)),num ((l.drop i).take (en (l.drop i))),i⟩)
  else if kd (l.getD i 0).toNat=7 then .ok ⟨3,(l.drop i).take (en (l.drop i)),0,i⟩
  else .error 40):=by
  conv=>lhs;rw[hd]
  simp only[one];rw[← hd]
 have h7e:kd (l.getD i 0).toNat=7→en (l.drop i)=1:=by
  rw[hd];intro h7
  have:tw (zdJ (l.getD i 0)) (l.drop (i+1))=0:=zf6 fun x=>by unfold zdJ;rw[h7];unfold on;simp
  show 1+tw (zdJ (l.getD i 0)) (l.drop (i+1))=1;rw[this]
 have hS:=zdL ((l.getD i 0).toNat:Int);have hD:=zcG ((l.getD i 0).toNat:Int);have hG:=zhN ((l.getD i 0).toNat:Int);rw[e1];by_cases k4:kd (l.getD i 0).toNat=4
 ·rw[if_pos k4];have hg:∀ x:UInt8,zdJ (l.getD i 0) x=on 4 (kd x.toNat):=fun x=>by unfold zdJ;rw[k4]
  have hE:en (l.drop i)=tw (fun x=>on 4 (kd x.toNat)) (l.drop i):=by
   rw[zlR _ _ hlt,zb8 _ _ _ hlt,if_pos (by show on 4 (kd (l.getD i 0).toNat)=true;rw[k4];decide),zeS hg]
  have hP:∀ k,on 4 (kd (l.getD k 0).toNat)=true↔(decide (97≤((l.getD k 0).toNat:Int)∧((l.getD k 0).toNat:Int)≤122)=true∨decide (48≤((l.getD k 0).toNat:Int)∧((l.getD k 0).toNat:Int)≤57)=true∨((l.getD k 0).toNat:Int)=95):=fun k=>by
   rw[zc4,zn3,zlS,zo8,decide_eq_true_iff,decide_eq_true_iff];omega
  refine(zhR ad l.length cap i (i+en (l.drop i)) (fun k=>((l.getD k 0).toNat:Int)) (fun k=>decide (97≤((l.getD k 0).toNat:Int)∧((l.getD k 0).toNat:Int)≤122)) (fun k=>decide (48≤((l.getD k 0).toNat:Int)∧((l.getD k 0).toNat:Int)≤57)) (fun k=>tw (fun x=>on 4 (kd x.toNat)) (l.drop k)) _ w hl hlt (by omega) (by omega) hcap hb HC (hide fun k hk w=>zdL _ w) (hide fun k hk w=>zcG _ w)
   (hide (by rw[decide_eq_true_iff];exact(zn3 _).1 k4)) (hide fun k hk hp=>?_) (hide fun k hp=>?_) (hide (by rw[hE])) HV).mono ?_
  ·show tw (fun x=>on 4 (kd x.toNat)) (l.drop k)=1+tw (fun x=>on 4 (kd x.toNat)) (l.drop (k+1));rw[zb8 _ _ _ hk,if_pos ((hP k).2 hp)]
  ·by_cases hk:k<l.length
   ·show tw (fun x=>on 4 (kd x.toNat)) (l.drop k)=0;rw[zb8 _ _ _ hk,if_neg (fun h=>hp hk ((hP k).1 h))]
   ·exact ziH _ _ _ (by omega)
  ·rintro e w' ⟨⟨hA,hB⟩,hk⟩;refine⟨?_,hk⟩;by_cases hm:24<en (l.drop i)
   ·rw[if_pos hm];exact hB (by omega)
   ·rw[if_neg hm];exact hA (by omega)
 ·rw[if_neg k4];have n4:decide (97≤((l.getD i 0).toNat:Int)∧((l.getD i 0).toNat:Int)≤122)=false:=by rw[decide_eq_false_iff_not,← zn3];exact k4
  rw[n4]at hS;by_cases k5:kd (l.getD i 0).toNat=5
  ·rw[if_pos k5];have hg:∀ x:UInt8,zdJ (l.getD i 0) x=on 5 (kd x.toNat):=fun x=>by unfold zdJ;rw[k5]
   have hE:en (l.drop i)=tw (fun x=>on 5 (kd x.toNat)) (l.drop i):=by
    rw[zlR _ _ hlt,zb8 _ _ _ hlt,if_pos (by show on 5 (kd (l.getD i 0).toNat)=true;rw[k5];decide),zeS hg]
   have hP:∀ k,on 5 (kd (l.getD k 0).toNat)=true↔(decide (48≤((l.getD k 0).toNat:Int)∧((l.getD k 0).toNat:Int)≤57)=true):=fun k=>by
    rw[zc4,zlS,decide_eq_true_iff];omega
   have hdig:∀ x,x∈(l.drop i).take (en (l.drop i))→kd x.toNat=5:=by rw[hd];exact zdM k5
   have hget:∀ j,j<en (l.drop i)→((l.drop i).take (en (l.drop i))).getD j 0=l.getD (i+j) 0:=fun j hj=>by
    rw[List.getD_eq_getElem?_getD,List.getElem?_take_of_lt hj,List.getElem?_drop,← List.getD_eq_getElem?_getD]
   refine(zkP ad l.length cap i (i+en (l.drop i)) (fun k=>((l.getD k 0).toNat:Int)) (fun k=>((l.getD k 0).toNat:Int) - 48) (fun k=>decide (48≤((l.getD k 0).toNat:Int)∧((l.getD k 0).toNat:Int)≤57)) (fun k=>tw (fun x=>on 5 (kd x.toNat)) (l.drop k)) (fun j=>num (((l.drop i).take (en (l.drop i))).take j)) _ w hl hlt (by omega) (by omega) hcap hb HC (hide hS) (hide fun k hk w=>zcG _ w)
    (hide (by rw[decide_eq_true_iff];exact(zlS _).1 k5)) (hide fun k hk hp=>?_) (hide fun k hk hp=>?_) (hide fun k hp=>?_) (hide (by rw[hE])) (hide (by simp[num])) (hide fun j hj hje=>?_) HV).mono ?_
   ·rw[decide_eq_true_iff]at hp;show((l.getD k 0).toNat:Int)=((l.getD k 0).toNat:Int) - 48+48∧0≤((l.getD k 0).toNat:Int) - 48∧((l.getD k 0).toNat:Int) - 48≤9;omega
   ·show tw (fun x=>on 5 (kd x.toNat)) (l.drop k)=1+tw (fun x=>on 5 (kd x.toNat)) (l.drop (k+1));rw[zb8 _ _ _ hk,if_pos ((hP k).2 hp)]
   ·by_cases hk:k<l.length
    ·show tw (fun x=>on 5 (kd x.toNat)) (l.drop k)=0;rw[zb8 _ _ _ hk,if_neg (fun h=>by have h1:=(hP k).1 h;have h2:=hp hk;rw[h1]at h2;cases h2)]
    ·exact ziH _ _ _ (by omega)
   ·have hj2:j<en (l.drop i):=by omega
    have hb:=zgg _ hdig j (by omega);have hp:(10:Int) ^ j≤10 ^ 17:=by exact_mod_cast Nat.pow_le_pow_right (n:=10) (by decide) (show j≤17 by omega)
    refine⟨?_,hb.1,by omega⟩;show num (((l.drop i).take (en (l.drop i))).take (j+1))=10 * num (((l.drop i).take (en (l.drop i))).take j)+(((l.getD (i+j) 0).toNat:Int) - 48);rw[zeR _ j (by omega),zeQ,hget j hj2];omega
   ·rintro e w' ⟨⟨hA,hB⟩,hk⟩;refine⟨?_,hk⟩;by_cases hm:18<en (l.drop i)
    ·rw[if_pos hm];exact hB (by omega)
    ·rw[if_neg hm];have:=hA (by omega);have ht:((l.drop i).take (en (l.drop i))).take (i+en (l.drop i) - i)=(l.drop i).take (en (l.drop i)):=by rw[Nat.add_sub_cancel_left,List.take_take,Nat.min_self]
     simp only[ht]at this;exact this
  ·rw[if_neg k5];have n5:decide (48≤((l.getD i 0).toNat:Int)∧((l.getD i 0).toNat:Int)≤57)=false:=by rw[decide_eq_false_iff_not,← zlS];exact k5
   rw[n5]at hD;by_cases k7:kd (l.getD i 0).toNat=7
   ·rw[if_pos k7];have y7:=(zo4 _).1 k7;rw[decide_eq_true y7]at hG;have h71:=h7e k7;rw[h71]at HV ⊢;exact zhS ad l.length cap i _ _ w hl hlt hcap hb (hide fun W hk=>(uq HC) i hlt W hk) (hide hS) (hide hD) (hide hG) HV
   ·rw[if_neg k7];have n7:¬_:=fun h=>k7 ((zo4 _).2 h)
    rw[decide_eq_false n7]at hG;exact zhT ad l.length cap i _ _ w hl hlt hcap hb (hide fun W hk=>(uq HC) i hlt W hk) (hide hS) (hide hD) (hide hG) (hide fun W hk=>CV (i+1) (by omega) (by omega) W hk)
end Go.Proofs.YtpmaonkelkmhbaaGreat
