/- The grammar: no step gives tokens back; rows and names by their equations. No program is met here. -/
import Derived.Test.YtfepanidippjlaaGreatDoorNMath
namespace Go.Proofs.YtfepanidippjlaaGreatDoor
set_option linter.unusedVariables false
set_option linter.unusedSimpArgs false
def Mon (p:List Tok→Rs):Prop:=∀ r c r',p r= .ok (c,r')→r'.length≤r.length
def zfF (p:Sp):Prop:=∀ c r c' r',p c r= .ok (c',r')→r'.length≤r.length
theorem zch {e:Int} {r:List Tok} {x:List D×List Tok} :bad e r≠ .ok x:=by cases r<;>simp[bad]
theorem zca (s:List UInt8):zfF (zau s):=by
 intro c r c' r' h
 cases r with
 |nil=>simp[zau,bad]at h
 |cons t r=>simp only[zau]at h;split at h;(simp at h;simp[← h.2]);exact absurd h zch
theorem zbS:zfF zax:=by
 intro c r c' r' h
 cases r with
 |nil=>simp[zax,bad]at h
 |cons t r=>simp only[zax]at h;split at h;(simp at h;simp[← h.2]);exact absurd h zch
theorem zcb:zfF zaY:=by
 intro c r c' r' h
 cases r with
 |nil=>simp[zaY,bad]at h
 |cons t r=>simp only[zaY]at h;split at h;(simp at h;simp[← h.2]);exact absurd h zch
theorem zcP:zfF zcY:=by
 intro c r c' r' h
 cases r with
 |nil=>simp[zcY,bad]at h
 |cons t r=>simp[zcY]at h;simp[← h.2]
theorem zda:zfF zel:=by
 intro c r c' r' h
 cases r with
 |nil=>simp[zel,bad]at h
 |cons t r=>simp only[zel]at h;split at h;(simp at h;simp[← h.2]);exact absurd h zch
theorem zbY (s:List UInt8):zfF (zbr s):=by
 intro c r c' r' h
 cases r with
 |nil=>simp[zbr,bad]at h
 |cons t r=>simp only[zbr]at h;split at h<;>(simp at h;simp[← h.2])
theorem zcc:zfF zcK:=by
 intro c r c' r' h
 simp only[zcK]at h;split at h
 ·exact absurd h zch
 ·simp at h;simp[h.2]
theorem zfG:∀(ps:List Sp),(∀ p∈ps,zfF p)→zfF (sq ps)
 | [],_,c,r,c',r',h=>by simp[sq]at h;simp[h.2]
 |p :: ps,hp,c,r,c',r',h=>by
  simp only[sq]at h;split at h
  ·cases h
  ·rename_i c1 r1 h1
   exact Nat.le_trans (zfG ps (fun q hq=>hp q (List.mem_cons_of_mem _ hq)) _ _ _ _ h) (hp p List.mem_cons_self _ _ _ _ h1)
theorem zcB:zfF zcJ:=zfG _ (by intro p hp;simp at hp;rcases hp with rfl|rfl|rfl;exact zcb;exact zca _;exact zcb)
theorem zb2:zfF zbg:=by
 intro c r c' r' h
 have hs:=zfG [zbr [45],zaY] (by intro p hp;simp at hp;rcases hp with rfl|rfl;exact zbY _;exact zcb);simp only[zbg]at h;split at h
 ·cases h
 ·rename_i h1;simp at h;rw[← h.2];exact hs _ _ _ _ h1
 ·cases h
theorem zdj {c c':List D} {r r':List Tok} (h:zax c r= .ok (c',r')):r'.length<r.length:=by
 cases r with
 |nil=>simp[zax,bad]at h
 |cons t r=>simp only[zax]at h;split at h;(simp at h;simp[← h.2]);exact absurd h zch
theorem zfH (most:Nat):∀(f g:Nat) (L:List (List D)) (r:List Tok),r.length<f→r.length<g→nmz most f L r=nmz most g L r
 |0,_,_,_,h,_=>by omega
 | _,0,_,_,_,h=>by omega
 |f+1,g+1,L,r,hf,hg=>by
  simp only[nmz];split
  ·rfl
  ·rename_i d r' h1
   have:=zdj h1;split
   ·rfl
   ·split
    ·rename_i r2 h2
     have:=zbY _ _ _ _ _ h2;exact zfH most f g _ r2 (by omega) (by omega)
    ·rfl
    ·rfl
def nm (most:Nat) (L:List (List D)) (r:List Tok):Except Er (List (List D)×List Tok):=nmz most (r.length+1) L r
theorem zem (most:Nat) (L:List (List D)) (t:Tok) (r:List Tok):nm most L (t :: r)=
  if t.k=1∧¬t.s∈words then
   (if L.length=most then .error (4,t.p)
    else match r with
    | []=> .error (50,0)
    |u :: r2=>if u.s= [44]then nm most (L++ [[dS t.s]]) r2 else .ok (L++ [[dS t.s]],u :: r2))
  else .error (50,t.p):=by
 unfold nm
 rw[nmz];by_cases h:t.k=1∧¬t.s∈words
 ·have e:zax [] (t :: r)= .ok ([dS t.s],r):=by simp[zax,h]
  rw[e,if_pos h];by_cases h2:L.length=most
  ·simp[h2,bad]
  ·simp only[if_neg h2];cases r with
   |nil=>simp[zbr,bad]
   |cons u r2=>
    by_cases h3:u.s= [44]
    ·simp only[zbr,if_pos h3,dB,List.nil_append];exact zfH most _ _ _ r2 (by simp;omega) (by simp)
    ·simp[zbr,if_neg h3,dB]
 ·have e:zax [] (t :: r)= .error (50,t.p):=by simp only[zax,if_neg h,bad]
  rw[e,if_neg h]
theorem zj1 (most:Nat):∀(f:Nat) (L:List (List D)) (r:List Tok) (L':List (List D)) (r':List Tok),nmz most f L r= .ok (L',r')→r'.length≤r.length
 |0,_,_,_,_,h=>by simp[nmz]at h
 |f+1,L,r,L',r',h=>by
  simp only[nmz]at h;split at h
  ·cases h
  ·rename_i d r1 h1
   have:=zdj h1;split at h
   ·split at h<;>cases h
   ·split at h
    ·rename_i r2 h2
     have:=zbY _ _ _ _ _ h2;have:=zj1 most f _ r2 _ _ h;omega
    ·rename_i r2 _ h2
     have:=zbY _ _ _ _ _ h2;simp at h;rw[← h.2];omega
    ·cases h
theorem zb3 (e most:Nat):zfF (zat e most):=by
 intro c r c' r' h
 simp only[zat]at h;split at h
 ·cases h
 ·rename_i L r1 h1;simp at h;rw[← h.2];exact zj1 _ _ _ _ _ _ h1
theorem zfI (word:List UInt8) (most:Nat) (body:List Tok→Rs) (hm:Mon body):∀(f g:Nat) (L:List (List D)) (r:List Tok),r.length<f→r.length<g→rwz word most body f L r=rwz word most body g L r
 |0,_,_,_,h,_=>by omega
 | _,0,_,_,_,h=>by omega
 |f+1,g+1,L,[],hf,hg=>by simp[rwz]
 |f+1,g+1,L,t :: r,hf,hg=>by
  simp only[rwz];split
  ·split
   ·rfl
   ·split
    ·rfl
    ·rename_i d r' h1
     have:=hm _ _ _ h1;simp at hf hg;exact zfI word most body hm f g _ r' (by omega) (by omega)
  ·rfl
def rw_ (word:List UInt8) (most:Nat) (body:List Tok→Rs) (L:List (List D)) (r:List Tok):Except Er (List (List D)×List Tok):=rwz word most body (r.length+1) L r
theorem zdb (word:List UInt8) (most:Nat) (body:List Tok→Rs) (hm:Mon body) (L:List (List D)) (t:Tok) (r:List Tok):rw_ word most body L (t :: r)=
  if t.s=word then
   (if L.length=most then .error (4,t.p)
    else match body r with
    | .error x=> .error x
    | .ok (d,r')=>rw_ word most body (L++ [d]) r')
  else .ok (L,t :: r):=by
 unfold rw_
 rw[rwz];by_cases h:t.s=word
 ·simp only[if_pos h];by_cases h2:L.length=most
  ·simp only[if_pos h2]
  ·simp only[if_neg h2];cases h1:body r with
   |error x=>rfl
   |ok q=>
    obtain⟨d,r'⟩:=q;have:=hm _ _ _ h1;simp only[List.length_cons];exact zfI word most body hm _ _ _ r' (by omega) (by omega)
 ·simp only[if_neg h]
theorem zg8 (word:List UInt8) (most:Nat) (body:List Tok→Rs) (hm:Mon body):∀(f:Nat) (L:List (List D)) (r:List Tok) (L':List (List D)) (r':List Tok),rwz word most body f L r= .ok (L',r')→r'.length≤r.length
 |0,_,_,_,_,h=>by simp[rwz]at h
 |f+1,L,[],L',r',h=>by simp[rwz]at h
 |f+1,L,t :: r,L',r',h=>by
  simp only[rwz]at h;split at h
  ·split at h
   ·cases h
   ·split at h
    ·cases h
    ·rename_i d r1 h1
     have:=hm _ _ _ h1;have:=zg8 word most body hm f _ r1 _ _ h;simp;omega
  ·simp at h;simp[← h.2]
theorem zdc (word:List UInt8) (most e z:Nat) (body:List Tok→Rs) (hm:Mon body):zfF (zcn word most e z body):=by
 intro c r c' r' h
 simp only[zcn]at h;split at h
 ·cases h
 ·rename_i L r1 h1;simp at h;rw[← h.2];exact zg8 _ _ _ hm _ _ _ _ _ h1
theorem zcC {p:List Tok→Rs} (h:Mon p):Mon (zcj p):=by
 intro r c r' e
 simp only[zcj]at e;split at e
 ·cases e
 ·rename_i c1 r1 h1;simp at e;rw[← e.2];exact h _ _ _ h1
theorem zdk {ps:List Sp} (h:∀ p∈ps,zfF p):Mon (sq ps []):=fun r c r' e=>zfG ps h _ _ _ _ e
theorem zco {α:Type} {Q:α→Prop} :∀ p∈([]:List α),Q p:=fun p h=>by cases h
theorem all_cons {α:Type} {Q:α→Prop} {a:α} {l:List α} (h:Q a) (t:∀ p∈l,Q p):∀ p∈a :: l,Q p:=fun p hp=>by
 rcases List.mem_cons.1 hp with rfl|hp
 ·exact h
 ·exact t p hp
theorem zdI:Mon zgV:=zcC (zdk (by repeat(first|exact zco|(refine all_cons ?_ ?_;first|exact zcP|exact zbS|exact zcb|exact zca _|exact zcB|exact zb2|exact zbY _|exact zb3 _ _|exact zcc|exact zda))))
theorem zbH:Mon zc8:=zcC (zdk (by repeat(first|exact zco|(refine all_cons ?_ ?_;first|exact zcP|exact zbS|exact zcb|exact zca _|exact zcB|exact zb2|exact zbY _|exact zb3 _ _|exact zcc|exact zda))))
theorem zdr:Mon zcO:=zcC (zdk (by repeat(first|exact zco|(refine all_cons ?_ ?_;first|exact zcP|exact zbS|exact zcb|exact zca _|exact zcB|exact zb2|exact zbY _|exact zb3 _ _|exact zcc|exact zda))))
theorem zbI:Mon zc7:=zcC (zdk (by repeat(first|exact zco|(refine all_cons ?_ ?_;first|exact zcP|exact zbS|exact zcb|exact zca _|exact zcB|exact zb2|exact zbY _|exact zb3 _ _|exact zcc|exact zda))))
theorem zcp:Mon zcg:=zcC (zdk (by repeat(first|exact zco|(refine all_cons ?_ ?_;first|exact zcP|exact zbS|exact zcb|exact zca _|exact zcB|exact zb2|exact zbY _|exact zb3 _ _|exact zcc|exact zda))))
theorem za6:Mon zaX:=zdk (by repeat(first|exact zco|(refine all_cons ?_ ?_;first|exact zcP|exact zbS|exact zcb|exact zca _|exact zcB|exact zb2|exact zbY _|exact zb3 _ _|exact zcc|exact zda)))
theorem zbp:Mon zb1:=zdk (by repeat(first|exact zco|(refine all_cons ?_ ?_;first|exact zca _|exact zdc _ _ _ _ _ za6|exact zcc)))
theorem zbJ:Mon zc9:=zcC (zdk (by repeat(first|exact zco|(refine all_cons ?_ ?_;first|exact zcP|exact zbS|exact zca _|exact zdc _ _ _ _ _ zbI|exact zdc _ _ _ _ _ zbH|exact zdc _ _ _ _ _ zcp|exact zdc _ _ _ _ _ zbp|exact zdc _ _ _ _ _ zdI))))
theorem zeI {p:Sp} {ps:List Sp} {c:List D} {r:List Tok} {x:List D×List Tok} (h:sq (p :: ps) c r= .ok x):∃ c1 r1,p c r= .ok (c1,r1)∧sq ps c1 r1= .ok x:=by
 simp only[sq]at h;cases hp:p c r with
 |error y=>rw[hp]at h;cases h
 |ok q=>obtain⟨c1,r1⟩:=q;rw[hp]at h;exact⟨c1,r1,rfl,h⟩
theorem zj2 {c:List D} {r:List Tok} {x:List D×List Tok} (h:sq [] c r= .ok x):x=(c,r):=by simp[sq]at h;exact h.symm
theorem zlZ {s:List UInt8} {c:List D} {r:List Tok} {c':List D} {r':List Tok} (h:zau s c r= .ok (c',r')):c'=c∧∃ t,r=t :: r':=by
 cases r with
 |nil=>simp[zau,bad]at h
 |cons t r=>simp only[zau]at h;split at h;(simp at h;exact⟨h.1.symm,t,by rw[h.2]⟩);exact absurd h zch
theorem zl0 {c:List D} {r:List Tok} {c':List D} {r':List Tok} (h:zaY c r= .ok (c',r')):∃ t,c'=c++ [dI t.n]∧r=t :: r':=by
 cases r with
 |nil=>simp[zaY,bad]at h
 |cons t r=>simp only[zaY]at h;split at h;(simp at h;exact⟨t,h.1.symm,by rw[h.2]⟩);exact absurd h zch
theorem ziV {c:List D} {r:List Tok} {c':List D} {r':List Tok} (h:zcK c r= .ok (c',r')):c'=c∧∀ e z,c≠ [.row e z []]:=by
 simp only[zcK]at h;split at h
 ·exact absurd h zch
 ·rename_i hne;simp at h;exact⟨h.1.symm,fun e z he=>hne e z he⟩
theorem zg9 (most:Nat):∀(f:Nat) (L:List (List D)) (r:List Tok) (L':List (List D)) (r':List Tok),L.length≤most→nmz most f L r= .ok (L',r')→1≤L'.length∧L'.length≤most
 |0,_,_,_,_,_,h=>by simp[nmz]at h
 |f+1,L,r,L',r',hL,h=>by
  simp only[nmz]at h;split at h
  ·cases h
  ·rename_i d r1 h1
   split at h
   ·split at h<;>cases h
   ·rename_i hne
    split at h
    ·rename_i r2 h2
     exact zg9 most f _ r2 _ _ (by simp;omega) h
    ·rename_i r2 _ h2
     simp at h;rw[← h.1];simp;omega
    ·cases h
theorem zha {e most:Nat} {c:List D} {r:List Tok} {c':List D} {r':List Tok} (h:zat e most c r= .ok (c',r')):∃ L,c'=c++ [.row e 1 L]∧1≤L.length∧L.length≤most:=by
 simp only[zat]at h;split at h
 ·cases h
 ·rename_i L r1 h1;simp at h;exact⟨L,h.1.symm,zg9 most _ _ _ _ _ (Nat.zero_le _) h1⟩
theorem zcD {p:List Tok→Rs} {r:List Tok} {c:List D} {r':List Tok} (h:zcj p r= .ok (c,r')):∃ c1,p r= .ok (c1,r')∧c=rot c1:=by
 simp only[zcj]at h;cases hp:p r with
 |error x=>rw[hp]at h;cases h
 |ok q=>obtain⟨c1,r1⟩:=q;rw[hp]at h;simp at h;exact⟨c1,by rw[h.2],h.1.symm⟩
def W (r:List Tok):Prop:=∃ m e,r=m++ [e]∧e.k=0∧e.s= []
theorem W.ne {r:List Tok} (h:W r):r≠ []:=by obtain⟨m,e,rfl,_⟩:=h;simp
theorem W.tail {t:Tok} {r:List Tok} (h:W (t :: r)) (ht:t.k≠0∨t.s≠ []):W r:=by
 obtain⟨m,e,h1,h2,h3⟩:=h;cases m with
 |nil=>simp at h1;obtain⟨rfl,_⟩:=h1;rcases ht with h|h;exact absurd h2 h;exact absurd h3 h
 |cons u m=>simp at h1;exact⟨m,e,h1.2,h2,h3⟩
def zor:List Sp:= [zau [123],zcn [115,116,111,112] 12 49 6 zcO,zau [119,101,105,103,104,116,115],zaY,zaY,zau [59],zau [125]]
theorem zhb {c:List D} {t:Tok} {r:List Tok} (h:t.s= [97,114,116,101,114,121]):zdX c (t :: r)=sq zor c r:=by simp[zdX,zbr,h,dB,zor]
theorem zj3 {c:List D} {t:Tok} {r:List Tok} (h:¬t.s= [97,114,116,101,114,121]):zdX c (t :: r)= .ok (c++ [.row 49 6 [],dI 0,dI 0],t :: r):=by simp[zdX,zbr,h,dB]
def q0 (t:Tok):Tok:=⟨t.k,t.s,t.n,0⟩
def plc (z:Nat):Bool:=z==3 || z==6 || z==7 || z==11
mutual
def Z:D→D
 | .val v=> .val v
 | .row e z L=> .row e z (Zss (plc z) L)
def Zl:Bool→List D→List D
 | _,[]=> []
 |b,d :: ds=>(if b&&ds.isEmpty then dI 0 else Z d) :: Zl b ds
def Zss:Bool→List (List D)→List (List D)
 | _,[]=> []
 |b,ds :: L=>Zl b ds :: Zss b L
end
theorem zcd (b:Bool):∀ L:List (List D),Zss b L=L.map (Zl b)
 | []=>by simp[Zss]
 |ds :: L=>by simp[Zss,zcd b L]
theorem zl1 (b:Bool) (L:List (List D)):(Zss b L).length=L.length:=by rw[zcd];simp
theorem zhc {r':List Tok} (h:([]:List Tok).map q0=r'.map q0):r'= []:=by cases r' with|nil=>rfl|cons=>simp at h
theorem ze9 {t:Tok} {r r':List Tok} (h:(t :: r).map q0=r'.map q0):∃ t' r2,r'=t' :: r2∧t'.k=t.k∧t'.s=t.s∧t'.n=t.n∧r.map q0=r2.map q0:=by
 cases r' with
 |nil=>simp at h
 |cons t' r2=>
  simp[q0]at h;exact⟨t',r2,rfl,h.1.1.symm,h.1.2.1.symm,h.1.2.2.symm,by simpa [q0]using h.2⟩
def Out (c c':List D) (x y:Rs):Prop:=match x,y with
 | .error e,.error f=>e.1=f.1
 | .ok (c1,s),.ok (c2,s')=>s.map q0=s'.map q0∧∃ d d',c1=c++d∧c2=c'++d'∧d.map Z=d'.map Z
 | _,_=>False
def PlC (p:Sp):Prop:=∀ c c' r r',r.map q0=r'.map q0→Out c c' (p c r) (p c' r')
theorem zhd {c c':List D} {e:Int} {r r':List Tok} (h:r.map q0=r'.map q0):Out c c' (bad e r) (bad e r'):=by
 cases r with
 |nil=>obtain rfl:=zhc h;simp[bad,Out]
 |cons t r=>obtain⟨t',r2,rfl,_⟩:=ze9 h;simp[bad,Out]
theorem zj4 {c c' d d':List D} {s s':List Tok} (h:s.map q0=s'.map q0) (hd:d.map Z=d'.map Z):Out c c' (.ok (c++d,s)) (.ok (c'++d',s')):=⟨h,d,d',rfl,rfl,hd⟩
theorem zbt:PlC zax:=by
 intro c c' r r' h
 cases r with
 |nil=>obtain rfl:=zhc h;simp[zax,bad,Out]
 |cons t r=>
  obtain⟨t',r2,rfl,hk,hs,hn,h2⟩:=ze9 h;simp only[zax,hs,hk];by_cases ht:t.k=1∧¬t.s∈words
  ·rw[if_pos ht,if_pos ht];exact zj4 h2 rfl
  ·rw[if_neg ht,if_neg ht];exact zhd h
theorem zbh:PlC zaY:=by
 intro c c' r r' h
 cases r with
 |nil=>obtain rfl:=zhc h;simp[zaY,bad,Out]
 |cons t r=>
  obtain⟨t',r2,rfl,hk,hs,hn,h2⟩:=ze9 h;simp only[zaY,hn,hk];by_cases ht:t.k=2
  ·rw[if_pos ht,if_pos ht];exact zj4 h2 rfl
  ·rw[if_neg ht,if_neg ht];exact zhd h
end Go.Proofs.YtfepanidippjlaaGreatDoor
namespace Go.Proofs.YtfepanidippjlaaGreatDoor
set_option linter.unusedVariables false
theorem zl2 {r:List UInt8} {p:Nat} {e:Int} (h:one r p= .error e):e=4∨e=40:=by
 cases r with
 |nil=>simp[one]at h
 |cons c r=>simp only[one]at h;(repeat' split at h)<;>simp at h<;>omega
theorem zl3 {acc:List Tok} {x:Except (Int×Nat) (List Tok)} {y:Int×Nat} (h:pre acc x= .error y):x= .error y:=by
 cases x with
 |error z=>exact h
 |ok l=>cases h
theorem zos {acc L:List Tok} {x:Except (Int×Nat) (List Tok)} (h:pre acc x= .ok L):∃ M,x= .ok M∧L=acc++M:=by
 cases x with
 |error z=>cases h
 |ok l=>simp only[pre,Except.ok.injEq]at h;exact⟨l,rfl,h.symm⟩
theorem zj5:∀(n:Nat) (r:List UInt8) (p:Nat) (e:Int) (a:Nat),r.length≤n→tk r p= .error (e,a)→(e=4∨e=40)∧p≤a∧a≤p+r.length
 |n,r,p,e,a,hn,h=>by
  rw[zdW]at h;have hs:=zd0 false r;split at h
  ·rename_i e' he
   simp only[Except.error.injEq,Prod.mk.injEq]at h;obtain⟨rfl,rfl⟩:=h;exact⟨zl2 he,by omega,by omega⟩
  ·rename_i t ht
   split at h
   ·cases h
   ·rename_i hk
    have h':=zl3 h;rcases(zcm ht).2 with ⟨_,h2⟩|⟨_,_,_,h1,h2,_⟩
    ·rw[h2]at hk;exact absurd rfl hk
    ·have hl:=zdF (r.drop (skp false r));cases n with
     |zero=>
      simp only[List.length_drop]at hl;omega
     |succ n=>
      have:=zj5 n _ _ e a (by simp only[List.length_drop]at *;omega) h';simp only[List.length_drop]at *;omega
theorem zdd {r:List UInt8} {p:Nat} {L:List Tok} (h:tk r p= .ok L):
  (L= [⟨0,[],0,((p+r.length:Nat):Int)⟩]∧skp false r=r.length)∨
  (∃ t M,L=t :: M∧one (r.drop (skp false r)) (p+skp false r)= .ok t∧t.k≠0∧t.p=((p+skp false r:Nat):Int)∧t.s=(r.drop (skp false r)).take t.s.length∧1≤t.s.length∧skp false r+t.s.length≤r.length∧tk (r.drop (skp false r+t.s.length)) (p+skp false r+t.s.length)= .ok M):=by
 rw[zdW]at h;have hs:=zd0 false r;split at h
 ·cases h
 ·rename_i t ht
  have h0:=zcm ht;split at h
  ·rename_i hk
   left;rcases h0.2 with ⟨h1,h2⟩|⟨h1,_⟩
   ·have:r.length≤skp false r:=by have:=congrArg List.length h1;simp at this;omega
    have e:skp false r=r.length:=by omega
    rw[e]at h2;simp only[Except.ok.injEq]at h;rw[h2]at h;exact⟨h.symm,e⟩
   ·exact absurd hk h1
  ·rename_i hk
   right;obtain⟨M,hM,rfl⟩:=zos h;rcases h0.2 with ⟨_,h2⟩|⟨_,_,h3,h4,h5,_⟩
   ·rw[h2]at hk;exact absurd rfl hk
   ·have hl:=zdF (r.drop (skp false r));refine⟨t,M,rfl,ht,hk,h0.1,by rw[h4];exact h3,by omega,by simp only[List.length_drop]at hl;omega,?_⟩;rw[List.drop_drop]at hM;exact hM
theorem zot {l:List UInt8} {e:Int} {a:Nat} (h:T l= .error (e,a)):(e=4∨e=40)∧a≤l.length:=by
 unfold T at h
 split at h
 ·simp only[Except.error.injEq,Prod.mk.injEq]at h;obtain⟨rfl,rfl⟩:=h;exact⟨.inl rfl,by omega⟩
 ·have:=zj5 l.length l 0 e a (Nat.le_refl _) h;exact⟨this.1,by omega⟩
theorem zl4 {l:List UInt8} {L:List Tok} (h:T l= .ok L):l.length≤65536∧tk l 0= .ok L:=by
 unfold T at h
 split at h
 ·cases h
 ·exact⟨by omega,h⟩
theorem zj6:∀(n:Nat) (r:List UInt8) (p:Nat) (L:List Tok),r.length≤n→tk r p= .ok L→1≤L.length∧L.length≤r.length+1
 |n,r,p,L,hn,h=>by
  rcases zdd h with ⟨rfl,_⟩|⟨t,M,rfl,_,_,_,_,h5,h6,h7⟩
  ·simp
  ·cases n with
   |zero=>omega
   |succ n=>
    have:=zj6 n _ _ M (by rw[List.length_drop];omega) h7;rw[List.length_drop]at this;simp only[List.length_cons];omega
theorem zp2 {l:List UInt8} {L:List Tok} (h:T l= .ok L):1≤L.length∧L.length≤l.length+1:=zj6 l.length l 0 L (Nat.le_refl _) (zl4 h).2
theorem zp3 {l:List UInt8} {x y:Tok} (h:T l= .ok [x,y]) (hs:x.s=l):x.p=0:=by
 rcases zdd (zl4 h).2 with ⟨h1,_⟩|⟨t,M,h0,_,_,h3,_,_,h6,_⟩
 ·simp at h1
 ·simp only[List.cons.injEq]at h0;obtain⟨rfl,_⟩:=h0;rw[h3,hs]at *;omega
end Go.Proofs.YtfepanidippjlaaGreatDoor
