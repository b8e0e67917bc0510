/- The document's reader in plain words: steps over what was read so far, or over what was wrong. No program is met here. -/
import Derived.Test.YthbfohohelflnaaLFact
import Derived.Test.YthbfohohelflnaaNMath
namespace Go.Proofs.Ythbfohohelflnaa
open Go.RowKit
set_option linter.unusedVariables false
set_option linter.unusedSimpArgs false
def bnd (X:Rs) (p:Sp):Rs:=match X with
 | .error x=> .error x
 | .ok (c,r)=>p c r
def bnb (X:Rs) (p:List Tok→Rs):Rs:=match X with
 | .error x=> .error x
 | .ok (_,r)=>p r
def zae:Rs→Except Er (List Tok)
 | .error x=> .error x
 | .ok (_,r)=> .ok r
def zaV:Rs→Rs
 | .error x=> .error x
 | .ok (_,r)=> .ok ([],r)
theorem zaR (X:Rs):zae (zaV X)=zae X:=by rcases X with x|⟨c,r⟩<;>rfl
theorem zcg (X:Rs) (p:Sp):bnd (zaV X) p=bnb X (p []):=by rcases X with x|⟨c,r⟩<;>rfl
theorem zap (X:Rs):bnd X (sq [])=X:=by rcases X with x|⟨c,r⟩<;>rfl
theorem zad (X:Rs) (p:Sp) (ps:List Sp):bnd X (sq (p :: ps))=bnd (bnd X p) (sq ps):=by
 rcases X with x|⟨c,r⟩
 ·rfl
 ·show sq (p :: ps) c r=bnd (p c r) (sq ps);simp only[sq];cases p c r<;>rfl
theorem zfw (X:Rs) (p:List Tok→Rs):zae (bnb X (zbD p))=zae (bnb X p):=by
 rcases X with x|⟨c,r⟩
 ·rfl
 ·show zae (zbD p r)=zae (p r);simp only[zbD];rcases p r with x|⟨c,r'⟩<;>rfl
def Got (X Y:Rs) (ds:List D):Prop:=∀ c r,Y= .ok (c,r)→∃ c0 r0,X= .ok (c0,r0)∧c=c0++ds
theorem Got.refl (X:Rs):Got X X []:=fun c r h=>⟨c,r,h,by simp⟩
theorem Got.trans {X Y Z:Rs} {a b:List D} (h:Got X Y a) (k:Got Y Z b):Got X Z (a++b):=fun c r e=>by
 obtain⟨c1,r1,h1,rfl⟩:=k c r e;obtain⟨c0,r0,h0,rfl⟩:=h c1 r1 h1;exact⟨c0,r0,h0,by simp⟩
theorem Got.all {X:Rs} {p:Sp} {ds:List D} (h:Got (zaV X) (bnd (zaV X) p) ds):∀ c r,bnb X (p [])= .ok (c,r)→c=ds:=fun c r e=>by
 rw[← zcg]at e;obtain⟨c0,r0,h0,rfl⟩:=h c r e;rcases X with x|⟨c1,r1⟩
 ·cases h0
 ·simp only[zaV,Except.ok.injEq,Prod.mk.injEq]at h0;rw[← h0.1];rfl
theorem Got.rot {X:Rs} {p:Sp} {d:D} {ds:List D} (h:Got (zaV X) (bnd (zaV X) p) (d :: ds)):∀ c r,bnb X (zbD (p []))= .ok (c,r)→c=ds++ [d]:=fun c r e=>by
 rcases X with x|⟨c1,r1⟩
 ·cases e
 ·simp only[bnb,zbD]at e;cases hp:p [] r1 with
  |error x=>rw[hp]at e;cases e
  |ok q=>
   rw[hp]at e;simp only[Except.ok.injEq,Prod.mk.injEq]at e;have:=h.all q.1 q.2 hp;rw[← e.1,this];rfl
def Kf (t:Tok):Prop:=(t.k=0→t.s= [])∧(t.k=2→∃ c s,t.s=c :: s∧48≤c.toNat∧c.toNat≤57)
def wrd:List UInt8→Bool
 | []=>false
 |c :: _=> !(decide (48≤c.toNat)&&decide (c.toNat≤57))
theorem Kf.word {t:Tok} (h:Kf t) {s:List UInt8} (hs:wrd s=true) (e:t.s=s):t.k≠0∧t.k≠2:=by
 refine⟨fun k=>?_,fun k=>?_⟩
 ·rw[h.1 k]at e;subst e;cases hs
 ·obtain⟨c,s',e',h1,h2⟩:=h.2 k;rw[e']at e;subst e;simp[wrd,h1,h2]at hs
theorem zjG {r:List UInt8} {p:Nat} {t:Tok} (h:one r p= .ok t):Kf t:=by
 cases r with
 |nil=>simp only[one,Except.ok.injEq]at h;subst h;exact⟨fun _=>rfl,fun e=>by simp at e⟩
 |cons c r=>
  simp only[one]at h;split at h
  ·split at h
   ·cases h
   ·simp only[Except.ok.injEq]at h;subst h;exact⟨fun e=>by simp at e,fun e=>by simp at e⟩
  ·split at h
   ·rename_i h5
    split at h
    ·cases h
    ·simp only[Except.ok.injEq]at h;subst h;refine⟨fun e=>by simp at e,fun _=>?_⟩;refine⟨c,r.take (tw (zcV c) r),?_,?_⟩
     ·show(c :: r).take (en (c :: r))=_;rw[en,Nat.add_comm 1,List.take_succ_cons]
     ·unfold kd at h5
      (repeat' split at h5)<;>omega
   ·split at h
    ·simp only[Except.ok.injEq]at h;subst h;exact⟨fun e=>by simp at e,fun e=>by simp at e⟩
    ·cases h
theorem zjH:∀(n:Nat) (r:List UInt8) (p:Nat) (L:List Tok),r.length≤n→tk r p= .ok L→∀ t∈L,Kf t
 |n,r,p,L,hn,h=>by
  rcases zdd h with ⟨rfl,_⟩|⟨t,M,rfl,h1,h2,_,_,h5,h6,h7⟩
  ·exact fun t ht=>by simp at ht;subst ht;exact⟨fun _=>rfl,fun e=>by simp at e⟩
  ·cases n with
   |zero=>omega
   |succ n=>
    have hM:=zjH n _ _ M (by rw[List.length_drop];omega) h7;intro x hx
    rcases List.mem_cons.1 hx with rfl|hx
    ·exact zjG h1
    ·exact hM x hx
theorem zlg {l:List UInt8} {L:List Tok} (h:T l= .ok L):∀ t∈L,Kf t:=zjH l.length l 0 L (Nat.le_refl _) (zkP h).2
def bgn (word:List UInt8) (n most:Nat):Except Er (List Tok)→Bool×Except Er (List Tok)
 | .error x=>(false,.error x)
 | .ok []=>(false,.ok [])
 | .ok (t :: r)=>if t.s=word then(if n=most then(false,.error (4,t.p))else(true,.ok r))else(false,.ok (t :: r))
def rwF (L:List (List D)):Except Er (List Tok)→Except Er (List (List D)×List Tok)
 | .error x=> .error x
 | .ok r=> .ok (L,r)
def rwY (word:List UInt8) (most:Nat) (body:List Tok→Rs) (Y:Except Er (List Tok)) (L:List (List D)):Except Er (List (List D)×List Tok):=match Y with
 | .error x=> .error x
 | .ok r=>rw_ word most body L r
theorem zbG {word:List UInt8} {most:Nat} {body:List Tok→Rs} (hm:Mon body) {Y Y':Except Er (List Tok)} {L:List (List D)} (hne:Y≠ .ok []) (h:bgn word L.length most Y=(false,Y')):rwY word most body Y L=rwF L Y':=by
 match Y,h with
 | .error x,h=>simp only[bgn,Prod.mk.injEq]at h;rw[← h.2];rfl
 | .ok [],h=>exact absurd rfl hne
 | .ok (t :: r),h=>
  simp only[bgn]at h;show rw_ word most body L (t :: r)=_;rw[zcE _ _ _ hm];by_cases h1:t.s=word
  ·rw[if_pos h1]at h ⊢;by_cases h2:L.length=most
   ·rw[if_pos h2]at h ⊢;simp only[Prod.mk.injEq]at h;rw[← h.2];rfl
   ·rw[if_neg h2]at h;simp at h
  ·rw[if_neg h1]at h ⊢;simp only[Prod.mk.injEq]at h;rw[← h.2];rfl
theorem zbf {word:List UInt8} {n most:Nat} {Y Y':Except Er (List Tok)} (h:bgn word n most Y=(true,Y')):∃ t r,Y= .ok (t :: r)∧Y'= .ok r∧t.s=word∧n≠most:=by
 match Y,h with
 | .error x,h=>simp[bgn]at h
 | .ok [],h=>simp[bgn]at h
 | .ok (t :: r),h=>
  simp only[bgn]at h;by_cases h1:t.s=word
  ·rw[if_pos h1]at h;by_cases h2:n=most
   ·rw[if_pos h2]at h;simp at h
   ·rw[if_neg h2]at h;simp only[Prod.mk.injEq]at h;exact⟨t,r,rfl,h.2.symm,h1,h2⟩
  ·rw[if_neg h1]at h;simp at h
theorem zaB {word:List UInt8} {most:Nat} {body:List Tok→Rs} (hm:Mon body) {t:Tok} {r:List Tok} {L:List (List D)} {cs:List D} (h1:t.s=word) (h2:L.length≠most) (hc:∀ c r',body r= .ok (c,r')→cs=c):rwY word most body (.ok (t :: r)) L=rwY word most body (zae (body r)) (L++ [cs]):=by
 show rw_ word most body L (t :: r)=_;rw[zcE _ _ _ hm,if_pos h1,if_neg h2];cases hb:body r with
 |error x=>rfl
 |ok q=>obtain⟨c,r'⟩:=q;rw[hc c r' hb];rfl
theorem zbx {word:List UInt8} {most e z:Nat} {body:List Tok→Rs} {X:Rs} {Y':Except Er (List Tok)} {L:List (List D)} (h:rwY word most body (zae X) []=rwF L Y'):zae (bnd X (zbC word most e z body))=Y'∧Got X (bnd X (zbC word most e z body)) [.row e z L]:=by
 rcases X with x|⟨c,r⟩
 ·cases Y' with
  |error y=>simp only[zae,rwY,rwF,Except.error.injEq]at h;subst h;exact⟨rfl,fun c r e=>by cases e⟩
  |ok r=>cases h
 ·have e0:bnd (.ok (c,r)) (zbC word most e z body)=match rw_ word most body [] r with| .error x=> .error x| .ok (L,r')=> .ok (c++ [.row e z L],r'):=rfl
  have h':rw_ word most body [] r=rwF L Y':=h;rw[e0,h'];cases Y' with
  |error y=>exact⟨rfl,fun c r e=>by cases e⟩
  |ok r1=>exact⟨rfl,fun c2 r2 e2=>by simp only[rwF,Except.ok.injEq,Prod.mk.injEq]at e2;exact⟨c,r,rfl,e2.1.symm⟩⟩
def nmA (most:Nat) (L:List (List D)):Except Er (List Tok)→Except Er (List (List D)×List Tok)
 | .error x=> .error x
 | .ok []=> .error (50,0)
 | .ok (u :: r)=>if u.s= [44]then nm most L r else .ok (L,u :: r)
theorem zeu {most:Nat} (hm:most≠0) {c:List D} {t:Tok} {r:List Tok} {s:List UInt8} (h:Got (.ok (c,t :: r)) (bnd (.ok (c,t :: r)) zal) [dS s]):nm most [] (t :: r)=nmA most [[dS s]] (zae (bnd (.ok (c,t :: r)) zal)):=by
 rw[zer];simp only[bnd,zal]at h ⊢;by_cases hn:t.k=1∧¬t.s∈words
 ·rw[if_pos hn]at h ⊢;obtain⟨c0,r0,h0,h1⟩:=h _ _ rfl;simp only[Except.ok.injEq,Prod.mk.injEq]at h0;obtain⟨rfl,_⟩:=h0;have hd:dS t.s=dS s:=by have:=List.append_cancel_left h1;simpa using this
  rw[if_neg (by simp;omega),if_pos hn,hd];cases r with
  |nil=>rfl
  |cons u r2=>rfl
 ·rw[if_neg hn,if_neg hn];rfl
theorem zhT {most:Nat} {L:List (List D)} {u t:Tok} {r:List Tok} (h:u.s= [44]):nmA most L (.ok (u :: t :: r))=if t.k=1∧¬t.s∈words then(if L.length=most then .error (4,t.p)else nmA most (L++ [[dS t.s]]) (.ok r))else .error (50,t.p):=by
 show(if u.s= [44]then nm most L (t :: r)else _)=_;rw[if_pos h,zer];by_cases hn:t.k=1∧¬t.s∈words
 ·rw[if_pos hn,if_pos hn];by_cases h2:L.length=most
  ·rw[if_pos h2,if_pos h2]
  ·rw[if_neg h2,if_neg h2];cases r<;>rfl
 ·rw[if_neg hn,if_neg hn]
theorem zjI {most:Nat} {L:List (List D)} {Y:Except Er (List Tok)} (hne:Y≠ .ok []) (h:∀ t r,Y= .ok (t :: r)→t.s≠ [44]):nmA most L Y=rwF L Y:=by
 match Y with
 | .error x=>rfl
 | .ok []=>exact absurd rfl hne
 | .ok (u :: r)=>show(if u.s= [44]then _ else _)=_;rw[if_neg (h u r rfl)];rfl
theorem zev {e most:Nat} {X:Rs} {Y':Except Er (List Tok)} {L:List (List D)} (hX:∀ c r,X= .ok (c,r)→nm most [] r=rwF L Y') (hE:∀ x,X= .error x→Y'= .error x):zae (bnd X (zaj e most))=Y'∧Got X (bnd X (zaj e most)) [.row e 1 L]:=by
 rcases X with x|⟨c,r⟩
 ·rw[hE x rfl];exact⟨rfl,fun c r e=>by cases e⟩
 ·have e0:bnd (.ok (c,r)) (zaj e most)=match nm most [] r with| .error x=> .error x| .ok (L,r')=> .ok (c++ [.row e 1 L],r'):=rfl
  rw[e0,hX c r rfl];cases Y' with
  |error y=>exact⟨rfl,fun c r e=>by cases e⟩
  |ok r1=>exact⟨rfl,fun c2 r2 e2=>by simp only[rwF,Except.ok.injEq,Prod.mk.injEq]at e2;exact⟨c,r,rfl,e2.1.symm⟩⟩
theorem zew (word:List UInt8) (most:Nat) (body:List Tok→Rs):∀(f:Nat) (L:List (List D)) (r:List Tok) (L':List (List D)) (r':List Tok),rwz word most body f L r= .ok (L',r')→L.length≤L'.length
 |0,_,_,_,_,h=>by simp[rwz]at h
 |f+1,L,[],L',r',h=>by simp[rwz]at h
 |f+1,L,t :: r,L',r',h=>by
  simp only[rwz]at h;split at h
  ·split at h
   ·cases h
   ·split at h
    ·cases h
    ·rename_i d r1 h1
     have:=zew word most body f _ r1 _ _ h;simp at this;omega
  ·simp at h;simp[← h.1]
end Go.Proofs.Ythbfohohelflnaa
namespace Go.Proofs.Ythbfohohelflnaa
open Go.RowKit
attribute [local go_sem ↓] Go.wp_at_zero Go.wp_at_succ
set_option linter.unusedVariables false
set_option linter.unusedSimpArgs false
set_option maxRecDepth 10000
theorem zdF (m:List UInt8) (c:UInt8):num (m++ [c])=num m * 10+((c.toNat:Int) - 48):=by unfold num;rw[List.foldl_append];rfl
theorem zdG (l:List UInt8) (k:Nat) (h:k<l.length):l.take (k+1)=l.take k++ [l.getD k 0]:=by
 rw[List.take_add_one,List.getElem?_eq_getElem h,List.getD_eq_getElem?_getD,List.getElem?_eq_getElem h];rfl
theorem zex (l:List UInt8) (hd:∀ c,c∈l→kd c.toNat=5):∀ k,k≤l.length→0≤num (l.take k)∧num (l.take k)<10 ^ k
 |0,_=>by simp[num]
 |k+1,h=>by
  have ih:=zex l hd k (by omega);have hc:=(ziA _).1 (hd (l.getD k 0) (by rw[List.getD_eq_getElem?_getD,List.getElem?_eq_getElem (by omega)];exact List.getElem_mem _));rw[zdG l k (by omega),zdF,Int.pow_succ];generalize num (l.take k)=x at *;generalize (10:Int) ^ k=y at *;omega
end Go.Proofs.Ythbfohohelflnaa
namespace Go.Proofs.Ythbfohohelflnaa
open Go.RowKit
set_option linter.unusedVariables false
set_option linter.unusedSimpArgs false
set_option maxRecDepth 10000
theorem zhU (P:UInt8→Bool) (r:List UInt8):r.take (tw P r)=r.takeWhile P:=(List.prefix_iff_eq_take.1 (List.takeWhile_prefix P)).symm
theorem zhV (c:UInt8) (r:List UInt8):(c :: r).take (en (c :: r))=c :: r.takeWhile (zcV c):=by
 rw[en,Nat.add_comm,List.take_succ_cons,zhU]
theorem zjJ {c:UInt8} {r:List UInt8} {x:UInt8} (h:x∈(c :: r).take (en (c :: r))):x=c∨zcV c x=true:=by
 rw[zhV,List.mem_cons]at h;rcases h with h|h
 ·exact .inl h
 ·right;have:=List.all_takeWhile (l:=r) (p:=zcV c);rw[List.all_eq_true]at this;exact this x h
theorem zcZ {c:UInt8} {r:List UInt8} (h5:kd c.toNat=5):∀ x,x∈(c :: r).take (en (c :: r))→kd x.toNat=5:=by
 intro x h
 rcases zjJ h with rfl|h
 ·exact h5
 ·unfold zcV at h
  rw[zcv]at h;omega
theorem zdX {w:World} {ad:Addr} {l:List UInt8} {i N:Nat} (C:Cy w (some ad) l.length (fun k=>((l.getD k 0).toNat:Int))) (hi:i≤N) (hN:N≤l.length) {t u:TypeId} (hs:Try.prog.underlying t=some (.slice 5)) (hu:Try.prog.underlying u=some .string) (c:Nat):
  (convert t u (.slice (some (ad.add i)) (N - i) c)).run Try.prog w= .ok (.string (sv ((l.drop i).take (N - i)))) w:=by
 have hl:((l.drop i).take (N - i)).length=N - i:=by rw[List.length_take,List.length_drop];omega
 have h:=run_convert_bytes_back (P:=Try.prog) w t u 5 (ad.add i) c ((l.drop i).take (N - i)) hs Try.underlying5 hu (fun j hj=>?_)
 ·rw[hl]at h;exact h
 ·rw[hl]at hj;obtain⟨ad',e,_,hc⟩:=C (i+j) (by omega);injection e with e
  subst e;rw[Addr.add_add,hc];congr 2;show((l.getD (i+j) 0).toNat:Int)=_;rw[List.getD_eq_getElem?_getD,List.getElem?_eq_getElem (by omega)];simp
def rtk:Except Int Tok→Tok
 | .ok t=>t
 | .error _=>t0
def re:Except Int Tok→Int
 | .ok _=>0
 | .error e=>e
end Go.Proofs.Ythbfohohelflnaa
