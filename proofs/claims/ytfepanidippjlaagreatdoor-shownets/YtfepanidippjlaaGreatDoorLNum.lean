/- A text that ends where another token was wanted: the things, the artery, the network. No program is met here. -/
import Derived.Test.YtfepanidippjlaaGreatDoorNCut
namespace Go.Proofs.YtfepanidippjlaaGreatDoor
set_option linter.unusedVariables false
set_option linter.unusedSimpArgs false
def zor:List Sp:= [zau [123],zcn [115,116,111,112] 12 49 6 zcO,zau [119,101,105,103,104,116,115],zaY,zaY,zau [59],zau [125]]
theorem zhb {c:List D} {t:Tok} {r:List Tok} (h:t.s= [97,114,116,101,114,121]):zdX c (t :: r)=sq zor c r:=by simp[zdX,zbr,h,dB,zor]
theorem zj3 {c:List D} {t:Tok} {r:List Tok} (h:¬t.s= [97,114,116,101,114,121]):zdX c (t :: r)= .ok (c++ [.row 49 6 [],dI 0,dI 0],t :: r):=by simp[zdX,zbr,h,dB]
def q0 (t:Tok):Tok:=⟨t.k,t.s,t.n,0⟩
def plc (z:Nat):Bool:=z==3 || z==6 || z==7 || z==11
mutual
def Z:D→D
 | .val v=> .val v
 | .row e z L=> .row e z (Zss (plc z) L)
def Zl:Bool→List D→List D
 | _,[]=> []
 |b,d :: ds=>(if b&&ds.isEmpty then dI 0 else Z d) :: Zl b ds
def Zss:Bool→List (List D)→List (List D)
 | _,[]=> []
 |b,ds :: L=>Zl b ds :: Zss b L
end
theorem zcd (b:Bool):∀ L:List (List D),Zss b L=L.map (Zl b)
 | []=>by simp[Zss]
 |ds :: L=>by simp[Zss,zcd b L]
theorem zl1 (b:Bool) (L:List (List D)):(Zss b L).length=L.length:=by rw[zcd];simp
theorem zhc {r':List Tok} (h:([]:List Tok).map q0=r'.map q0):r'= []:=by cases r' with|nil=>rfl|cons=>simp at h
theorem ze9 {t:Tok} {r r':List Tok} (h:(t :: r).map q0=r'.map q0):∃ t' r2,r'=t' :: r2∧t'.k=t.k∧t'.s=t.s∧t'.n=t.n∧r.map q0=r2.map q0:=by
 cases r' with
 |nil=>simp at h
 |cons t' r2=>
  simp[q0]at h;exact⟨t',r2,rfl,h.1.1.symm,h.1.2.1.symm,h.1.2.2.symm,by simpa [q0]using h.2⟩
def Out (c c':List D) (x y:Rs):Prop:=match x,y with
 | .error e,.error f=>e.1=f.1
 | .ok (c1,s),.ok (c2,s')=>s.map q0=s'.map q0∧∃ d d',c1=c++d∧c2=c'++d'∧d.map Z=d'.map Z
 | _,_=>False
def PlC (p:Sp):Prop:=∀ c c' r r',r.map q0=r'.map q0→Out c c' (p c r) (p c' r')
theorem zhd {c c':List D} {e:Int} {r r':List Tok} (h:r.map q0=r'.map q0):Out c c' (bad e r) (bad e r'):=by
 cases r with
 |nil=>obtain rfl:=zhc h;simp[bad,Out]
 |cons t r=>obtain⟨t',r2,rfl,_⟩:=ze9 h;simp[bad,Out]
theorem zj4 {c c' d d':List D} {s s':List Tok} (h:s.map q0=s'.map q0) (hd:d.map Z=d'.map Z):Out c c' (.ok (c++d,s)) (.ok (c'++d',s')):=⟨h,d,d',rfl,rfl,hd⟩
theorem zbt:PlC zax:=by
 intro c c' r r' h
 cases r with
 |nil=>obtain rfl:=zhc h;simp[zax,bad,Out]
 |cons t r=>
  obtain⟨t',r2,rfl,hk,hs,hn,h2⟩:=ze9 h;simp only[zax,hs,hk];by_cases ht:t.k=1∧¬t.s∈words
  ·rw[if_pos ht,if_pos ht];exact zj4 h2 rfl
  ·rw[if_neg ht,if_neg ht];exact zhd h
theorem zbh:PlC zaY:=by
 intro c c' r r' h
 cases r with
 |nil=>obtain rfl:=zhc h;simp[zaY,bad,Out]
 |cons t r=>
  obtain⟨t',r2,rfl,hk,hs,hn,h2⟩:=ze9 h;simp only[zaY,hn,hk];by_cases ht:t.k=2
  ·rw[if_pos ht,if_pos ht];exact zj4 h2 rfl
  ·rw[if_neg ht,if_neg ht];exact zhd h
end Go.Proofs.YtfepanidippjlaaGreatDoor
namespace Go.Proofs.YtfepanidippjlaaGreatDoor
set_option linter.unusedVariables false
theorem zl2 {r:List UInt8} {p:Nat} {e:Int} (h:one r p= .error e):e=4∨e=40:=by
 cases r with
 |nil=>simp[one]at h
 |cons c r=>simp only[one]at h;(repeat' split at h)<;>simp at h<;>omega
theorem zl3 {acc:List Tok} {x:Except (Int×Nat) (List Tok)} {y:Int×Nat} (h:pre acc x= .error y):x= .error y:=by
 cases x with
 |error z=>exact h
 |ok l=>cases h
theorem zos {acc L:List Tok} {x:Except (Int×Nat) (List Tok)} (h:pre acc x= .ok L):∃ M,x= .ok M∧L=acc++M:=by
 cases x with
 |error z=>cases h
 |ok l=>simp only[pre,Except.ok.injEq]at h;exact⟨l,rfl,h.symm⟩
theorem zj5:∀(n:Nat) (r:List UInt8) (p:Nat) (e:Int) (a:Nat),r.length≤n→tk r p= .error (e,a)→(e=4∨e=40)∧p≤a∧a≤p+r.length
 |n,r,p,e,a,hn,h=>by
  rw[zdW]at h;have hs:=zd0 false r;split at h
  ·rename_i e' he
   simp only[Except.error.injEq,Prod.mk.injEq]at h;obtain⟨rfl,rfl⟩:=h;exact⟨zl2 he,by omega,by omega⟩
  ·rename_i t ht
   split at h
   ·cases h
   ·rename_i hk
    have h':=zl3 h;rcases(zcm ht).2 with ⟨_,h2⟩|⟨_,_,_,h1,h2,_⟩
    ·rw[h2]at hk;exact absurd rfl hk
    ·have hl:=zdF (r.drop (skp false r));cases n with
     |zero=>
      simp only[List.length_drop]at hl;omega
     |succ n=>
      have:=zj5 n _ _ e a (by simp only[List.length_drop]at *;omega) h';simp only[List.length_drop]at *;omega
theorem zdd {r:List UInt8} {p:Nat} {L:List Tok} (h:tk r p= .ok L):
  (L= [⟨0,[],0,((p+r.length:Nat):Int)⟩]∧skp false r=r.length)∨
  (∃ t M,L=t :: M∧one (r.drop (skp false r)) (p+skp false r)= .ok t∧t.k≠0∧t.p=((p+skp false r:Nat):Int)∧t.s=(r.drop (skp false r)).take t.s.length∧1≤t.s.length∧skp false r+t.s.length≤r.length∧tk (r.drop (skp false r+t.s.length)) (p+skp false r+t.s.length)= .ok M):=by
 rw[zdW]at h;have hs:=zd0 false r;split at h
 ·cases h
 ·rename_i t ht
  have h0:=zcm ht;split at h
  ·rename_i hk
   left;rcases h0.2 with ⟨h1,h2⟩|⟨h1,_⟩
   ·have:r.length≤skp false r:=by have:=congrArg List.length h1;simp at this;omega
    have e:skp false r=r.length:=by omega
    rw[e]at h2;simp only[Except.ok.injEq]at h;rw[h2]at h;exact⟨h.symm,e⟩
   ·exact absurd hk h1
  ·rename_i hk
   right;obtain⟨M,hM,rfl⟩:=zos h;rcases h0.2 with ⟨_,h2⟩|⟨_,_,h3,h4,h5,_⟩
   ·rw[h2]at hk;exact absurd rfl hk
   ·have hl:=zdF (r.drop (skp false r));refine⟨t,M,rfl,ht,hk,h0.1,by rw[h4];exact h3,by omega,by simp only[List.length_drop]at hl;omega,?_⟩;rw[List.drop_drop]at hM;exact hM
theorem zot {l:List UInt8} {e:Int} {a:Nat} (h:T l= .error (e,a)):(e=4∨e=40)∧a≤l.length:=by
 unfold T at h
 split at h
 ·simp only[Except.error.injEq,Prod.mk.injEq]at h;obtain⟨rfl,rfl⟩:=h;exact⟨.inl rfl,by omega⟩
 ·have:=zj5 l.length l 0 e a (Nat.le_refl _) h;exact⟨this.1,by omega⟩
theorem zl4 {l:List UInt8} {L:List Tok} (h:T l= .ok L):l.length≤65536∧tk l 0= .ok L:=by
 unfold T at h
 split at h
 ·cases h
 ·exact⟨by omega,h⟩
theorem zj6:∀(n:Nat) (r:List UInt8) (p:Nat) (L:List Tok),r.length≤n→tk r p= .ok L→1≤L.length∧L.length≤r.length+1
 |n,r,p,L,hn,h=>by
  rcases zdd h with ⟨rfl,_⟩|⟨t,M,rfl,_,_,_,_,h5,h6,h7⟩
  ·simp
  ·cases n with
   |zero=>omega
   |succ n=>
    have:=zj6 n _ _ M (by rw[List.length_drop];omega) h7;rw[List.length_drop]at this;simp only[List.length_cons];omega
theorem zp2 {l:List UInt8} {L:List Tok} (h:T l= .ok L):1≤L.length∧L.length≤l.length+1:=zj6 l.length l 0 L (Nat.le_refl _) (zl4 h).2
theorem zp3 {l:List UInt8} {x y:Tok} (h:T l= .ok [x,y]) (hs:x.s=l):x.p=0:=by
 rcases zdd (zl4 h).2 with ⟨h1,_⟩|⟨t,M,h0,_,_,h3,_,_,h6,_⟩
 ·simp at h1
 ·simp only[List.cons.injEq]at h0;obtain⟨rfl,_⟩:=h0;rw[h3,hs]at *;omega
end Go.Proofs.YtfepanidippjlaaGreatDoor
namespace Go.Proofs.YtfepanidippjlaaGreatDoor
open Go.RowKit
set_option linter.unusedVariables false
set_option linter.unusedSimpArgs false
def bnd (X:Rs) (p:Sp):Rs:=match X with
 | .error x=> .error x
 | .ok (c,r)=>p c r
def bnb (X:Rs) (p:List Tok→Rs):Rs:=match X with
 | .error x=> .error x
 | .ok (_,r)=>p r
def zap:Rs→Except Er (List Tok)
 | .error x=> .error x
 | .ok (_,r)=> .ok r
def zbA:Rs→Rs
 | .error x=> .error x
 | .ok (_,r)=> .ok ([],r)
theorem zbu (X:Rs):zap (zbA X)=zap X:=by rcases X with x|⟨c,r⟩<;>rfl
theorem zdJ (X:Rs) (p:Sp):bnd (zbA X) p=bnb X (p []):=by rcases X with x|⟨c,r⟩<;>rfl
theorem zaI (X:Rs):bnd X (sq [])=X:=by rcases X with x|⟨c,r⟩<;>rfl
theorem zak (X:Rs) (p:Sp) (ps:List Sp):bnd X (sq (p :: ps))=bnd (bnd X p) (sq ps):=by
 rcases X with x|⟨c,r⟩
 ·rfl
 ·show sq (p :: ps) c r=bnd (p c r) (sq ps);simp only[sq];cases p c r<;>rfl
theorem ziW (X:Rs) (p:List Tok→Rs):zap (bnb X (zcj p))=zap (bnb X p):=by
 rcases X with x|⟨c,r⟩
 ·rfl
 ·show zap (zcj p r)=zap (p r);simp only[zcj];rcases p r with x|⟨c,r'⟩<;>rfl
def Got (X Y:Rs) (ds:List D):Prop:=∀ c r,Y= .ok (c,r)→∃ c0 r0,X= .ok (c0,r0)∧c=c0++ds
theorem Got.refl (X:Rs):Got X X []:=fun c r h=>⟨c,r,h,by simp⟩
theorem Got.trans {X Y Z:Rs} {a b:List D} (h:Got X Y a) (k:Got Y Z b):Got X Z (a++b):=fun c r e=>by
 obtain⟨c1,r1,h1,rfl⟩:=k c r e;obtain⟨c0,r0,h0,rfl⟩:=h c1 r1 h1;exact⟨c0,r0,h0,by simp⟩
theorem Got.all {X:Rs} {p:Sp} {ds:List D} (h:Got (zbA X) (bnd (zbA X) p) ds):∀ c r,bnb X (p [])= .ok (c,r)→c=ds:=fun c r e=>by
 rw[← zdJ]at e;obtain⟨c0,r0,h0,rfl⟩:=h c r e;rcases X with x|⟨c1,r1⟩
 ·cases h0
 ·simp only[zbA,Except.ok.injEq,Prod.mk.injEq]at h0;rw[← h0.1];rfl
theorem Got.rot {X:Rs} {p:Sp} {d:D} {ds:List D} (h:Got (zbA X) (bnd (zbA X) p) (d :: ds)):∀ c r,bnb X (zcj (p []))= .ok (c,r)→c=ds++ [d]:=fun c r e=>by
 rcases X with x|⟨c1,r1⟩
 ·cases e
 ·simp only[bnb,zcj]at e;cases hp:p [] r1 with
  |error x=>rw[hp]at e;cases e
  |ok q=>
   rw[hp]at e;simp only[Except.ok.injEq,Prod.mk.injEq]at e;have:=h.all q.1 q.2 hp;rw[← e.1,this];rfl
def Kf (t:Tok):Prop:=(t.k=0→t.s= [])∧(t.k=2→∃ c s,t.s=c :: s∧48≤c.toNat∧c.toNat≤57)
def wrd:List UInt8→Bool
 | []=>false
 |c :: _=> !(decide (48≤c.toNat)&&decide (c.toNat≤57))
theorem Kf.word {t:Tok} (h:Kf t) {s:List UInt8} (hs:wrd s=true) (e:t.s=s):t.k≠0∧t.k≠2:=by
 refine⟨fun k=>?_,fun k=>?_⟩
 ·rw[h.1 k]at e;subst e;cases hs
 ·obtain⟨c,s',e',h1,h2⟩:=h.2 k;rw[e']at e;subst e;simp[wrd,h1,h2]at hs
theorem zou {r:List UInt8} {p:Nat} {t:Tok} (h:one r p= .ok t):Kf t:=by
 cases r with
 |nil=>simp only[one,Except.ok.injEq]at h;subst h;exact⟨fun _=>rfl,fun e=>by simp at e⟩
 |cons c r=>
  simp only[one]at h;split at h
  ·split at h
   ·cases h
   ·simp only[Except.ok.injEq]at h;subst h;exact⟨fun e=>by simp at e,fun e=>by simp at e⟩
  ·split at h
   ·rename_i h5
    split at h
    ·cases h
    ·simp only[Except.ok.injEq]at h;subst h;refine⟨fun e=>by simp at e,fun _=>?_⟩;refine⟨c,r.take (tw (zb0 c) r),?_,?_⟩
     ·show(c :: r).take (en (c :: r))=_;rw[en,Nat.add_comm 1,List.take_succ_cons]
     ·unfold kd at h5
      (repeat' split at h5)<;>omega
   ·split at h
    ·simp only[Except.ok.injEq]at h;subst h;exact⟨fun e=>by simp at e,fun e=>by simp at e⟩
    ·cases h
theorem zov:∀(n:Nat) (r:List UInt8) (p:Nat) (L:List Tok),r.length≤n→tk r p= .ok L→∀ t∈L,Kf t
 |n,r,p,L,hn,h=>by
  rcases zdd h with ⟨rfl,_⟩|⟨t,M,rfl,h1,h2,_,_,h5,h6,h7⟩
  ·exact fun t ht=>by simp at ht;subst ht;exact⟨fun _=>rfl,fun e=>by simp at e⟩
  ·cases n with
   |zero=>omega
   |succ n=>
    have hM:=zov n _ _ M (by rw[List.length_drop];omega) h7;intro x hx
    rcases List.mem_cons.1 hx with rfl|hx
    ·exact zou h1
    ·exact hM x hx
theorem zqD {l:List UInt8} {L:List Tok} (h:T l= .ok L):∀ t∈L,Kf t:=zov l.length l 0 L (Nat.le_refl _) (zl4 h).2
def bgn (word:List UInt8) (n most:Nat):Except Er (List Tok)→Bool×Except Er (List Tok)
 | .error x=>(false,.error x)
 | .ok []=>(false,.ok [])
 | .ok (t :: r)=>if t.s=word then(if n=most then(false,.error (4,t.p))else(true,.ok r))else(false,.ok (t :: r))
def rwF (L:List (List D)):Except Er (List Tok)→Except Er (List (List D)×List Tok)
 | .error x=> .error x
 | .ok r=> .ok (L,r)
def rwY (word:List UInt8) (most:Nat) (body:List Tok→Rs) (Y:Except Er (List Tok)) (L:List (List D)):Except Er (List (List D)×List Tok):=match Y with
 | .error x=> .error x
 | .ok r=>rw_ word most body L r
theorem zcZ {word:List UInt8} {most:Nat} {body:List Tok→Rs} (hm:Mon body) {Y Y':Except Er (List Tok)} {L:List (List D)} (hne:Y≠ .ok []) (h:bgn word L.length most Y=(false,Y')):rwY word most body Y L=rwF L Y':=by
 match Y,h with
 | .error x,h=>simp only[bgn,Prod.mk.injEq]at h;rw[← h.2];rfl
 | .ok [],h=>exact absurd rfl hne
 | .ok (t :: r),h=>
  simp only[bgn]at h;show rw_ word most body L (t :: r)=_;rw[zdb _ _ _ hm];by_cases h1:t.s=word
  ·rw[if_pos h1]at h ⊢;by_cases h2:L.length=most
   ·rw[if_pos h2]at h ⊢;simp only[Prod.mk.injEq]at h;rw[← h.2];rfl
   ·rw[if_neg h2]at h;simp at h
  ·rw[if_neg h1]at h ⊢;simp only[Prod.mk.injEq]at h;rw[← h.2];rfl
theorem zce {word:List UInt8} {n most:Nat} {Y Y':Except Er (List Tok)} (h:bgn word n most Y=(true,Y')):∃ t r,Y= .ok (t :: r)∧Y'= .ok r∧t.s=word∧n≠most:=by
 match Y,h with
 | .error x,h=>simp[bgn]at h
 | .ok [],h=>simp[bgn]at h
 | .ok (t :: r),h=>
  simp only[bgn]at h;by_cases h1:t.s=word
  ·rw[if_pos h1]at h;by_cases h2:n=most
   ·rw[if_pos h2]at h;simp at h
   ·rw[if_neg h2]at h;simp only[Prod.mk.injEq]at h;exact⟨t,r,rfl,h.2.symm,h1,h2⟩
  ·rw[if_neg h1]at h;simp at h
theorem za2 {word:List UInt8} {most:Nat} {body:List Tok→Rs} (hm:Mon body) {t:Tok} {r:List Tok} {L:List (List D)} {cs:List D} (h1:t.s=word) (h2:L.length≠most) (hc:∀ c r',body r= .ok (c,r')→cs=c):rwY word most body (.ok (t :: r)) L=rwY word most body (zap (body r)) (L++ [cs]):=by
 show rw_ word most body L (t :: r)=_;rw[zdb _ _ _ hm,if_pos h1,if_neg h2];cases hb:body r with
 |error x=>rfl
 |ok q=>obtain⟨c,r'⟩:=q;rw[hc c r' hb];rfl
theorem zcQ {word:List UInt8} {most e z:Nat} {body:List Tok→Rs} {X:Rs} {Y':Except Er (List Tok)} {L:List (List D)} (h:rwY word most body (zap X) []=rwF L Y'):zap (bnd X (zcn word most e z body))=Y'∧Got X (bnd X (zcn word most e z body)) [.row e z L]:=by
 rcases X with x|⟨c,r⟩
 ·cases Y' with
  |error y=>simp only[zap,rwY,rwF,Except.error.injEq]at h;subst h;exact⟨rfl,fun c r e=>by cases e⟩
  |ok r=>cases h
 ·have e0:bnd (.ok (c,r)) (zcn word most e z body)=match rw_ word most body [] r with| .error x=> .error x| .ok (L,r')=> .ok (c++ [.row e z L],r'):=rfl
  have h':rw_ word most body [] r=rwF L Y':=h;rw[e0,h'];cases Y' with
  |error y=>exact⟨rfl,fun c r e=>by cases e⟩
  |ok r1=>exact⟨rfl,fun c2 r2 e2=>by simp only[rwF,Except.ok.injEq,Prod.mk.injEq]at e2;exact⟨c,r,rfl,e2.1.symm⟩⟩
def nmA (most:Nat) (L:List (List D)):Except Er (List Tok)→Except Er (List (List D)×List Tok)
 | .error x=> .error x
 | .ok []=> .error (50,0)
 | .ok (u :: r)=>if u.s= [44]then nm most L r else .ok (L,u :: r)
theorem zhe {most:Nat} (hm:most≠0) {c:List D} {t:Tok} {r:List Tok} {s:List UInt8} (h:Got (.ok (c,t :: r)) (bnd (.ok (c,t :: r)) zax) [dS s]):nm most [] (t :: r)=nmA most [[dS s]] (zap (bnd (.ok (c,t :: r)) zax)):=by
 rw[zem];simp only[bnd,zax]at h ⊢;by_cases hn:t.k=1∧¬t.s∈words
 ·rw[if_pos hn]at h ⊢;obtain⟨c0,r0,h0,h1⟩:=h _ _ rfl;simp only[Except.ok.injEq,Prod.mk.injEq]at h0;obtain⟨rfl,_⟩:=h0;have hd:dS t.s=dS s:=by have:=List.append_cancel_left h1;simpa using this
  rw[if_neg (by simp;omega),if_pos hn,hd];cases r with
  |nil=>rfl
  |cons u r2=>rfl
 ·rw[if_neg hn,if_neg hn];rfl
theorem zl5 {most:Nat} {L:List (List D)} {u t:Tok} {r:List Tok} (h:u.s= [44]):nmA most L (.ok (u :: t :: r))=if t.k=1∧¬t.s∈words then(if L.length=most then .error (4,t.p)else nmA most (L++ [[dS t.s]]) (.ok r))else .error (50,t.p):=by
 show(if u.s= [44]then nm most L (t :: r)else _)=_;rw[if_pos h,zem];by_cases hn:t.k=1∧¬t.s∈words
 ·rw[if_pos hn,if_pos hn];by_cases h2:L.length=most
  ·rw[if_pos h2,if_pos h2]
  ·rw[if_neg h2,if_neg h2];cases r<;>rfl
 ·rw[if_neg hn,if_neg hn]
theorem zow {most:Nat} {L:List (List D)} {Y:Except Er (List Tok)} (hne:Y≠ .ok []) (h:∀ t r,Y= .ok (t :: r)→t.s≠ [44]):nmA most L Y=rwF L Y:=by
 match Y with
 | .error x=>rfl
 | .ok []=>exact absurd rfl hne
 | .ok (u :: r)=>show(if u.s= [44]then _ else _)=_;rw[if_neg (h u r rfl)];rfl
theorem zhf {e most:Nat} {X:Rs} {Y':Except Er (List Tok)} {L:List (List D)} (hX:∀ c r,X= .ok (c,r)→nm most [] r=rwF L Y') (hE:∀ x,X= .error x→Y'= .error x):zap (bnd X (zat e most))=Y'∧Got X (bnd X (zat e most)) [.row e 1 L]:=by
 rcases X with x|⟨c,r⟩
 ·rw[hE x rfl];exact⟨rfl,fun c r e=>by cases e⟩
 ·have e0:bnd (.ok (c,r)) (zat e most)=match nm most [] r with| .error x=> .error x| .ok (L,r')=> .ok (c++ [.row e 1 L],r'):=rfl
  rw[e0,hX c r rfl];cases Y' with
  |error y=>exact⟨rfl,fun c r e=>by cases e⟩
  |ok r1=>exact⟨rfl,fun c2 r2 e2=>by simp only[rwF,Except.ok.injEq,Prod.mk.injEq]at e2;exact⟨c,r,rfl,e2.1.symm⟩⟩
theorem zhg (word:List UInt8) (most:Nat) (body:List Tok→Rs):∀(f:Nat) (L:List (List D)) (r:List Tok) (L':List (List D)) (r':List Tok),rwz word most body f L r= .ok (L',r')→L.length≤L'.length
 |0,_,_,_,_,h=>by simp[rwz]at h
 |f+1,L,[],L',r',h=>by simp[rwz]at h
 |f+1,L,t :: r,L',r',h=>by
  simp only[rwz]at h;split at h
  ·split at h
   ·cases h
   ·split at h
    ·cases h
    ·rename_i d r1 h1
     have:=zhg word most body f _ r1 _ _ h;simp at this;omega
  ·simp at h;simp[← h.1]
end Go.Proofs.YtfepanidippjlaaGreatDoor
namespace Go.Proofs.YtfepanidippjlaaGreatDoor
open Go.RowKit
attribute [local go_sem ↓] Go.wp_at_zero Go.wp_at_succ
set_option linter.unusedVariables false
set_option linter.unusedSimpArgs false
set_option maxRecDepth 10000
set_option maxHeartbeats 2000000 in
theorem ziX (a:Option Addr) (n cap:Nat) (w:World) (hn:n≤70000):
  Calls Tryz.prog 102 #[.slice a n cap,.int .i64 (n:Int)] w fun e w'=>e= .returned (.tuple #[.agg #[.int .i64 0,.string ⟨#[]⟩,.int .i64 0,.int .i64 (n:Int)],.int .i64 0])∧Keep w w':=by
 go_enter Tryz.func102,Tryz.ntmps102;go_wp2_with fail
 exact bodyPost_ret (v:= .tuple #[.agg #[.int .i64 0,.string ⟨#[]⟩,.int .i64 0,.int .i64 (n:Int)],.int .i64 0]) (by simp[results,Tryz.results102,go_sem]) rfl ⟨rfl,by repeat(first|apply zab|apply Keep.alloc|apply Keep.drew|exact Keep.refl _)⟩
set_option maxHeartbeats 2000000 in
theorem zhh (ad:Addr) (n cap i N:Nat) (c:Int) (s:ByteArray) (w:World) (hn:n≤70000) (hi:i<n) (hN:i<N) (hNn:N≤n) (hnc:n≤cap) (hm:N - i≤24) (hb:ad.block<w.heap.size)
  (HC:Hid (∀ W,Keep w W→W.cell? (ad.add i)=some (.int .u8 c)))
  (T1:Hid (∀ w,Calls Tryz.prog 121 #[.int .u8 c] w fun e w'=>e= .returned (.int .i64 4)∧w'=w))
  (T2:Hid (∀ w',Keep w w'→Calls Tryz.prog 122 #[.slice (some ad) n cap,.int .i64 (i:Int)] w' fun e w''=>e= .returned (.int .i64 (N:Int))∧Keep w' w''))
  (HV:Hid (∀ W,Keep w W→(convert 29 9 (.slice (some (ad.add i)) (N - i) (cap - i))).run Tryz.prog W= .ok (.string s) W)):
  Calls Tryz.prog 102 #[.slice (some ad) n cap,.int .i64 (i:Int)] w fun e w'=>e= .returned (.tuple #[.agg #[.int .i64 1,.string s,.int .i64 0,.int .i64 (i:Int)],.int .i64 0])∧Keep w w':=by
 have hin:(i:Int)<(n:Int):=by omega
 have hne:((i:Int)==(n:Int))=false:=by simp;omega
 have k0:=(show ∀ o1 o2,((w.alloc o1).alloc o2).cell? (ad.add i)=some (.int .u8 c)from fun o1 o2=>(uq HC) _ (((Keep.refl w).alloc _).alloc _));have kv:=(show ∀ o1 o2 os k,(convert 29 9 (.slice (some (ad.add i)) (N - i) (cap - i))).run Tryz.prog (ext ((w.alloc o1).alloc o2) os k)= .ok (.string s) (ext ((w.alloc o1).alloc o2) os k)from fun o1 o2 os k=>(uq HV) _ (zab (((Keep.refl w).alloc _).alloc _) _ _));go_enter Tryz.func102,Tryz.ntmps102;go_wp2_with fail
 (refine((uq T1) _).mono ?_;rintro e w2 ⟨rfl,rfl⟩);clear k0;go_wp2_with fail
 (refine((uq T2) _ (((Keep.refl w).alloc _).alloc _)).mono ?_;rintro e w3 ⟨rfl,hkk⟩;obtain⟨o1,k1,rfl⟩:=hkk.ext;clear hkk);go_wp2_with fail
 exact bodyPost_ret (v:= .tuple #[.agg #[.int .i64 1,.string s,.int .i64 0,.int .i64 (i:Int)],.int .i64 0]) (by simp[results,Tryz.results102,go_sem]) rfl ⟨rfl,by repeat(first|apply zab|apply Keep.alloc|apply Keep.drew|exact Keep.refl _)⟩
set_option maxHeartbeats 2000000 in
theorem ziY (ad:Addr) (n cap i N:Nat) (c m:Int) (s:ByteArray) (w:World) (hn:n≤70000) (hi:i<n) (hN:i<N) (hNn:N≤n) (hnc:n≤cap) (hm:N - i≤18) (hb:ad.block<w.heap.size)
  (HC:Hid (∀ W,Keep w W→W.cell? (ad.add i)=some (.int .u8 c)))
  (T1:Hid (∀ w,Calls Tryz.prog 121 #[.int .u8 c] w fun e w'=>e= .returned (.int .i64 5)∧w'=w))
  (T2:Hid (∀ w',Keep w w'→Calls Tryz.prog 122 #[.slice (some ad) n cap,.int .i64 (i:Int)] w' fun e w''=>e= .returned (.int .i64 (N:Int))∧Keep w' w''))
  (HV:Hid (∀ W,Keep w W→(convert 29 9 (.slice (some (ad.add i)) (N - i) (cap - i))).run Tryz.prog W= .ok (.string s) W))
  (T3:Hid (∀ w,Calls Tryz.prog 123 #[.string s] w fun e w'=>e= .returned (.int .i64 m)∧w'=w)):
  Calls Tryz.prog 102 #[.slice (some ad) n cap,.int .i64 (i:Int)] w fun e w'=>e= .returned (.tuple #[.agg #[.int .i64 2,.string s,.int .i64 m,.int .i64 (i:Int)],.int .i64 0])∧Keep w w':=by
 have hin:(i:Int)<(n:Int):=by omega
 have hne:((i:Int)==(n:Int))=false:=by simp;omega
 have k0:=(show ∀ o1 o2,((w.alloc o1).alloc o2).cell? (ad.add i)=some (.int .u8 c)from fun o1 o2=>(uq HC) _ (((Keep.refl w).alloc _).alloc _));have kv:=(show ∀ o1 o2 os k,(convert 29 9 (.slice (some (ad.add i)) (N - i) (cap - i))).run Tryz.prog (ext ((w.alloc o1).alloc o2) os k)= .ok (.string s) (ext ((w.alloc o1).alloc o2) os k)from fun o1 o2 os k=>(uq HV) _ (zab (((Keep.refl w).alloc _).alloc _) _ _));go_enter Tryz.func102,Tryz.ntmps102;go_wp2_with fail
 (refine((uq T1) _).mono ?_;rintro e w2 ⟨rfl,rfl⟩);clear k0;go_wp2_with fail
 (refine((uq T2) _ (((Keep.refl w).alloc _).alloc _)).mono ?_;rintro e w3 ⟨rfl,hkk⟩;obtain⟨o1,k1,rfl⟩:=hkk.ext;clear hkk);go_wp2_with fail
 (refine((uq T3) _).mono ?_;rintro e w4 ⟨rfl,rfl⟩);go_wp2_with fail
 exact bodyPost_ret (v:= .tuple #[.agg #[.int .i64 2,.string s,.int .i64 m,.int .i64 (i:Int)],.int .i64 0]) (by simp[results,Tryz.results102,go_sem]) rfl ⟨rfl,by repeat(first|apply zab|apply Keep.alloc|apply Keep.drew|exact Keep.refl _)⟩
set_option maxHeartbeats 2000000 in
theorem zhi (ad:Addr) (n cap i N:Nat) (c:Int) (s:ByteArray) (w:World) (hn:n≤70000) (hi:i<n) (hN:i<N) (hNn:N≤n) (hnc:n≤cap) (hm:N - i≤1) (hb:ad.block<w.heap.size)
  (HC:Hid (∀ W,Keep w W→W.cell? (ad.add i)=some (.int .u8 c)))
  (T1:Hid (∀ w,Calls Tryz.prog 121 #[.int .u8 c] w fun e w'=>e= .returned (.int .i64 7)∧w'=w))
  (T2:Hid (∀ w',Keep w w'→Calls Tryz.prog 122 #[.slice (some ad) n cap,.int .i64 (i:Int)] w' fun e w''=>e= .returned (.int .i64 (N:Int))∧Keep w' w''))
  (HV:Hid (∀ W,Keep w W→(convert 29 9 (.slice (some (ad.add i)) (N - i) (cap - i))).run Tryz.prog W= .ok (.string s) W)):
  Calls Tryz.prog 102 #[.slice (some ad) n cap,.int .i64 (i:Int)] w fun e w'=>e= .returned (.tuple #[.agg #[.int .i64 3,.string s,.int .i64 0,.int .i64 (i:Int)],.int .i64 0])∧Keep w w':=by
 have hin:(i:Int)<(n:Int):=by omega
 have hne:((i:Int)==(n:Int))=false:=by simp;omega
 have k0:=(show ∀ o1 o2,((w.alloc o1).alloc o2).cell? (ad.add i)=some (.int .u8 c)from fun o1 o2=>(uq HC) _ (((Keep.refl w).alloc _).alloc _));have kv:=(show ∀ o1 o2 os k,(convert 29 9 (.slice (some (ad.add i)) (N - i) (cap - i))).run Tryz.prog (ext ((w.alloc o1).alloc o2) os k)= .ok (.string s) (ext ((w.alloc o1).alloc o2) os k)from fun o1 o2 os k=>(uq HV) _ (zab (((Keep.refl w).alloc _).alloc _) _ _));go_enter Tryz.func102,Tryz.ntmps102;go_wp2_with fail
 (refine((uq T1) _).mono ?_;rintro e w2 ⟨rfl,rfl⟩);clear k0;go_wp2_with fail
 (refine((uq T2) _ (((Keep.refl w).alloc _).alloc _)).mono ?_;rintro e w3 ⟨rfl,hkk⟩;obtain⟨o1,k1,rfl⟩:=hkk.ext;clear hkk);go_wp2_with fail
 exact bodyPost_ret (v:= .tuple #[.agg #[.int .i64 3,.string s,.int .i64 0,.int .i64 (i:Int)],.int .i64 0]) (by simp[results,Tryz.results102,go_sem]) rfl ⟨rfl,by repeat(first|apply zab|apply Keep.alloc|apply Keep.drew|exact Keep.refl _)⟩
set_option maxHeartbeats 2000000 in
theorem zf8 (ad:Addr) (n cap i N:Nat) (c:Int) (s:ByteArray) (w:World) (hn:n≤70000) (hi:i<n) (hN:i<N) (hNn:N≤n) (hnc:n≤cap) (hm:24<N - i) (hb:ad.block<w.heap.size)
  (HC:Hid (∀ W,Keep w W→W.cell? (ad.add i)=some (.int .u8 c)))
  (T1:Hid (∀ w,Calls Tryz.prog 121 #[.int .u8 c] w fun e w'=>e= .returned (.int .i64 4)∧w'=w))
  (T2:Hid (∀ w',Keep w w'→Calls Tryz.prog 122 #[.slice (some ad) n cap,.int .i64 (i:Int)] w' fun e w''=>e= .returned (.int .i64 (N:Int))∧Keep w' w''))
  (HV:Hid (∀ W,Keep w W→(convert 29 9 (.slice (some (ad.add i)) (N - i) (cap - i))).run Tryz.prog W= .ok (.string s) W)):
  Calls Tryz.prog 102 #[.slice (some ad) n cap,.int .i64 (i:Int)] w fun e w'=>e= .returned (.tuple #[.agg #[.int .i64 0,.string ⟨#[]⟩,.int .i64 0,.int .i64 0],.int .i64 4])∧Keep w w':=by
 have hin:(i:Int)<(n:Int):=by omega
 have hne:((i:Int)==(n:Int))=false:=by simp;omega
 have k0:=(show ∀ o1 o2,((w.alloc o1).alloc o2).cell? (ad.add i)=some (.int .u8 c)from fun o1 o2=>(uq HC) _ (((Keep.refl w).alloc _).alloc _));have kv:=(show ∀ o1 o2 os k,(convert 29 9 (.slice (some (ad.add i)) (N - i) (cap - i))).run Tryz.prog (ext ((w.alloc o1).alloc o2) os k)= .ok (.string s) (ext ((w.alloc o1).alloc o2) os k)from fun o1 o2 os k=>(uq HV) _ (zab (((Keep.refl w).alloc _).alloc _) _ _));go_enter Tryz.func102,Tryz.ntmps102;go_wp2_with fail
 (refine((uq T1) _).mono ?_;rintro e w2 ⟨rfl,rfl⟩);clear k0;go_wp2_with fail
 (refine((uq T2) _ (((Keep.refl w).alloc _).alloc _)).mono ?_;rintro e w3 ⟨rfl,hkk⟩;obtain⟨o1,k1,rfl⟩:=hkk.ext;clear hkk);go_wp2_with fail
 exact bodyPost_ret (v:= .tuple #[.agg #[.int .i64 0,.string ⟨#[]⟩,.int .i64 0,.int .i64 0],.int .i64 4]) (by simp[results,Tryz.results102,go_sem]) rfl ⟨rfl,by repeat(first|apply zab|apply Keep.alloc|apply Keep.drew|exact Keep.refl _)⟩
set_option maxHeartbeats 2000000 in
theorem zf9 (ad:Addr) (n cap i N:Nat) (c:Int) (s:ByteArray) (w:World) (hn:n≤70000) (hi:i<n) (hN:i<N) (hNn:N≤n) (hnc:n≤cap) (hm:18<N - i) (hb:ad.block<w.heap.size)
  (HC:Hid (∀ W,Keep w W→W.cell? (ad.add i)=some (.int .u8 c)))
  (T1:Hid (∀ w,Calls Tryz.prog 121 #[.int .u8 c] w fun e w'=>e= .returned (.int .i64 5)∧w'=w))
  (T2:Hid (∀ w',Keep w w'→Calls Tryz.prog 122 #[.slice (some ad) n cap,.int .i64 (i:Int)] w' fun e w''=>e= .returned (.int .i64 (N:Int))∧Keep w' w''))
  (HV:Hid (∀ W,Keep w W→(convert 29 9 (.slice (some (ad.add i)) (N - i) (cap - i))).run Tryz.prog W= .ok (.string s) W)):
  Calls Tryz.prog 102 #[.slice (some ad) n cap,.int .i64 (i:Int)] w fun e w'=>e= .returned (.tuple #[.agg #[.int .i64 0,.string ⟨#[]⟩,.int .i64 0,.int .i64 0],.int .i64 4])∧Keep w w':=by
 have hin:(i:Int)<(n:Int):=by omega
 have hne:((i:Int)==(n:Int))=false:=by simp;omega
 have k0:=(show ∀ o1 o2,((w.alloc o1).alloc o2).cell? (ad.add i)=some (.int .u8 c)from fun o1 o2=>(uq HC) _ (((Keep.refl w).alloc _).alloc _));have kv:=(show ∀ o1 o2 os k,(convert 29 9 (.slice (some (ad.add i)) (N - i) (cap - i))).run Tryz.prog (ext ((w.alloc o1).alloc o2) os k)= .ok (.string s) (ext ((w.alloc o1).alloc o2) os k)from fun o1 o2 os k=>(uq HV) _ (zab (((Keep.refl w).alloc _).alloc _) _ _));go_enter Tryz.func102,Tryz.ntmps102;go_wp2_with fail
 (refine((uq T1) _).mono ?_;rintro e w2 ⟨rfl,rfl⟩);clear k0;go_wp2_with fail
 (refine((uq T2) _ (((Keep.refl w).alloc _).alloc _)).mono ?_;rintro e w3 ⟨rfl,hkk⟩;obtain⟨o1,k1,rfl⟩:=hkk.ext;clear hkk);go_wp2_with fail
 exact bodyPost_ret (v:= .tuple #[.agg #[.int .i64 0,.string ⟨#[]⟩,.int .i64 0,.int .i64 0],.int .i64 4]) (by simp[results,Tryz.results102,go_sem]) rfl ⟨rfl,by repeat(first|apply zab|apply Keep.alloc|apply Keep.drew|exact Keep.refl _)⟩
set_option maxHeartbeats 2000000 in
theorem zhj (ad:Addr) (n cap i N:Nat) (c q:Int) (s:ByteArray) (w:World) (hn:n≤70000) (hi:i<n) (hN:i<N) (hNn:N≤n) (hnc:n≤cap) (q4:(q==4)=false) (q5:(q==5)=false) (q7:(q==7)=false) (hb:ad.block<w.heap.size)
  (HC:Hid (∀ W,Keep w W→W.cell? (ad.add i)=some (.int .u8 c)))
  (T1:Hid (∀ w,Calls Tryz.prog 121 #[.int .u8 c] w fun e w'=>e= .returned (.int .i64 q)∧w'=w))
  (T2:Hid (∀ w',Keep w w'→Calls Tryz.prog 122 #[.slice (some ad) n cap,.int .i64 (i:Int)] w' fun e w''=>e= .returned (.int .i64 (N:Int))∧Keep w' w''))
  (HV:Hid (∀ W,Keep w W→(convert 29 9 (.slice (some (ad.add i)) (N - i) (cap - i))).run Tryz.prog W= .ok (.string s) W)):
  Calls Tryz.prog 102 #[.slice (some ad) n cap,.int .i64 (i:Int)] w fun e w'=>e= .returned (.tuple #[.agg #[.int .i64 0,.string ⟨#[]⟩,.int .i64 0,.int .i64 0],.int .i64 40])∧Keep w w':=by
 have hin:(i:Int)<(n:Int):=by omega
 have hne:((i:Int)==(n:Int))=false:=by simp;omega
 have k0:=(show ∀ o1 o2,((w.alloc o1).alloc o2).cell? (ad.add i)=some (.int .u8 c)from fun o1 o2=>(uq HC) _ (((Keep.refl w).alloc _).alloc _));have kv:=(show ∀ o1 o2 os k,(convert 29 9 (.slice (some (ad.add i)) (N - i) (cap - i))).run Tryz.prog (ext ((w.alloc o1).alloc o2) os k)= .ok (.string s) (ext ((w.alloc o1).alloc o2) os k)from fun o1 o2 os k=>(uq HV) _ (zab (((Keep.refl w).alloc _).alloc _) _ _));go_enter Tryz.func102,Tryz.ntmps102;go_wp2_with fail
 (refine((uq T1) _).mono ?_;rintro e w2 ⟨rfl,rfl⟩);clear k0;go_wp2_with fail
 exact bodyPost_ret (v:= .tuple #[.agg #[.int .i64 0,.string ⟨#[]⟩,.int .i64 0,.int .i64 0],.int .i64 40]) (by simp[results,Tryz.results102,go_sem]) rfl ⟨rfl,by repeat(first|apply zab|apply Keep.alloc|apply Keep.drew|exact Keep.refl _)⟩
set_option maxHeartbeats 2000000 in
theorem zfa (s:ByteArray) (D V:Nat→Int) (w:World) (hn:s.size≤18)
  (HD:Hid (∀ k (h:k<s.size),((s[k]'h).toNat:Int)=D k+48∧0≤D k∧D k≤9))
  (H0:Hid (V 0=0))
  (HV:Hid (∀ k,k<s.size→V (k+1)=V k * 10+D k∧0≤V k∧V k≤100000000000000000)):
  Calls Tryz.prog 123 #[.string s] w fun e w'=>e= .returned (.int .i64 (V s.size))∧w'=w:=by
 go_enter Tryz.func123,Tryz.ntmps123;go_wp2_with fail
 go_loop [3,7] (fun vn vi=>∃ k:Nat,k≤s.size∧vi= .int .i64 (k:Int)∧vn= .int .i64 (V k)) (fun vn vi=>s.size - (intOf vi).toNat)
 case atStart=>exact⟨0,Nat.zero_le _,rfl,by rw[uq H0]⟩
 case round=>
  obtain⟨k,hk,rfl,rfl⟩:=hrel;by_cases hlt:k<s.size
  ·have li:(k:Int)<(s.size:Int):=by omega
   obtain⟨h1,h2,h3⟩:=(uq HD) k hlt;obtain⟨h4,h5,h6⟩:=(uq HV) k hlt;have H4:=hide h4;clear h4;go_wp2_with fail
   exact⟨⟨k+1,hlt,by go_num,by rw[uq H4]⟩,by simp[intOf];omega⟩
  ·have e:k=s.size:=by omega
   subst e;go_wp2_with fail
   go_ret;exact⟨rfl,rfl⟩
theorem zcE (m:List UInt8) (c:UInt8):num (m++ [c])=num m * 10+((c.toNat:Int) - 48):=by unfold num;rw[List.foldl_append];rfl
theorem zen (l:List UInt8) (k:Nat) (h:k<l.length):l.take (k+1)=l.take k++ [l.getD k 0]:=by
 rw[List.take_add_one,List.getElem?_eq_getElem h,List.getD_eq_getElem?_getD,List.getElem?_eq_getElem h];rfl
theorem zdK (l:List UInt8) (hd:∀ c,c∈l→kd c.toNat=5):∀ k,k≤l.length→0≤num (l.take k)∧num (l.take k)<10 ^ k
 |0,_=>by simp[num]
 |k+1,h=>by
  have ih:=zdK l hd k (by omega);have hc:=(zjZ _).1 (hd (l.getD k 0) (by rw[List.getD_eq_getElem?_getD,List.getElem?_eq_getElem (by omega)];exact List.getElem_mem _));rw[zen l k (by omega),zcE,Int.pow_succ];generalize num (l.take k)=x at *;generalize (10:Int) ^ k=y at *;omega
theorem zp4 (l:List UInt8) (k:Nat) (h:k<(sv l).size):(sv l)[k]'h=l.getD k 0:=by
 rw[zad]at h;rw[List.getD_eq_getElem?_getD,List.getElem?_eq_getElem h]
 rfl
theorem zde (l:List UInt8) (hl:l.length≤18) (hd:∀ c,c∈l→kd c.toNat=5) (w:World):
  Calls Tryz.prog 123 #[.string (sv l)] w fun e w'=>e= .returned (.int .i64 (num l))∧w'=w:=by
 have h:=zfa (sv l) (fun k=>((l.getD k 0).toNat:Int) - 48) (fun k=>num (l.take k)) w (by rw[zad];exact hl) (hide fun k hk=>?_) (hide (by simp[num])) (hide fun k hk=>?_)
 ·simp only[zad,List.take_length]at h;exact h
 ·rw[zp4];rw[zad]at hk;have hc:=(zjZ _).1 (hd (l.getD k 0) (by rw[List.getD_eq_getElem?_getD,List.getElem?_eq_getElem hk];exact List.getElem_mem _));omega
 ·rw[zad]at hk;have hb:=zdK l hd k (by omega);have hp:(10:Int) ^ k≤10 ^ 17:=by exact_mod_cast Nat.pow_le_pow_right (n:=10) (by decide) (show k≤17 by omega)
  exact⟨by rw[zen l k hk,zcE],hb.1,by omega⟩
end Go.Proofs.YtfepanidippjlaaGreatDoor
