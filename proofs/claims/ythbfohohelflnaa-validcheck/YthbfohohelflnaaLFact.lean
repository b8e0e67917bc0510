/- The grammar: no step gives tokens back; rows and names by their equations. No program is met here. -/
import Derived.Test.YthbfohohelflnaaNMath
namespace Go.Proofs.Ythbfohohelflnaa
set_option linter.unusedVariables false
set_option linter.unusedSimpArgs false
def Mon (p:List Tok→Rs):Prop:=∀ r c r',p r= .ok (c,r')→r'.length≤r.length
def zdB (p:Sp):Prop:=∀ c r c' r',p c r= .ok (c',r')→r'.length≤r.length
theorem zcw {e:Int} {r:List Tok} {x:List D×List Tok} :bad e r≠ .ok x:=by cases r<;>simp[bad]
theorem zbb (s:List UInt8):zdB (zah s):=by
 intro c r c' r' h
 cases r with
 |nil=>simp[zah,bad]at h
 |cons t r=>simp only[zah]at h;split at h;(simp at h;simp[← h.2]);exact absurd h zcw
theorem zaZ:zdB zal:=by
 intro c r c' r' h
 cases r with
 |nil=>simp[zal,bad]at h
 |cons t r=>simp only[zal]at h;split at h;(simp at h;simp[← h.2]);exact absurd h zcw
theorem zbc:zdB zaG:=by
 intro c r c' r' h
 cases r with
 |nil=>simp[zaG,bad]at h
 |cons t r=>simp only[zaG]at h;split at h;(simp at h;simp[← h.2]);exact absurd h zcw
theorem zbw:zdB zb4:=by
 intro c r c' r' h
 cases r with
 |nil=>simp[zb4,bad]at h
 |cons t r=>simp[zb4]at h;simp[← h.2]
theorem zbR:zdB zem:=by
 intro c r c' r' h
 cases r with
 |nil=>simp[zem,bad]at h
 |cons t r=>simp only[zem]at h;split at h;(simp at h;simp[← h.2]);exact absurd h zcw
theorem za5 (s:List UInt8):zdB (zaW s):=by
 intro c r c' r' h
 cases r with
 |nil=>simp[zaW,bad]at h
 |cons t r=>simp only[zaW]at h;split at h<;>(simp at h;simp[← h.2])
theorem zbd:zdB zb3:=by
 intro c r c' r' h
 simp only[zb3]at h;split at h
 ·exact absurd h zcw
 ·simp at h;simp[h.2]
theorem zdC:∀(ps:List Sp),(∀ p∈ps,zdB p)→zdB (sq ps)
 | [],_,c,r,c',r',h=>by simp[sq]at h;simp[h.2]
 |p :: ps,hp,c,r,c',r',h=>by
  simp only[sq]at h;split at h
  ·cases h
  ·rename_i c1 r1 h1
   exact Nat.le_trans (zdC ps (fun q hq=>hp q (List.mem_cons_of_mem _ hq)) _ _ _ _ h) (hp p List.mem_cons_self _ _ _ _ h1)
theorem zbr:zdB zb2:=zdC _ (by intro p hp;simp at hp;rcases hp with rfl|rfl|rfl;exact zbc;exact zbb _;exact zbc)
theorem za7:zdB zaS:=by
 intro c r c' r' h
 have hs:=zdC [zaW [45],zaG] (by intro p hp;simp at hp;rcases hp with rfl|rfl;exact za5 _;exact zbc);simp only[zaS]at h;split at h
 ·cases h
 ·rename_i h1;simp at h;rw[← h.2];exact hs _ _ _ _ h1
 ·cases h
theorem zbW {c c':List D} {r r':List Tok} (h:zal c r= .ok (c',r')):r'.length<r.length:=by
 cases r with
 |nil=>simp[zal,bad]at h
 |cons t r=>simp only[zal]at h;split at h;(simp at h;simp[← h.2]);exact absurd h zcw
theorem zdD (most:Nat):∀(f g:Nat) (L:List (List D)) (r:List Tok),r.length<f→r.length<g→nmz most f L r=nmz most g L r
 |0,_,_,_,h,_=>by omega
 | _,0,_,_,_,h=>by omega
 |f+1,g+1,L,r,hf,hg=>by
  simp only[nmz];split
  ·rfl
  ·rename_i d r' h1
   have:=zbW h1;split
   ·rfl
   ·split
    ·rename_i r2 h2
     have:=za5 _ _ _ _ _ h2;exact zdD most f g _ r2 (by omega) (by omega)
    ·rfl
    ·rfl
def nm (most:Nat) (L:List (List D)) (r:List Tok):Except Er (List (List D)×List Tok):=nmz most (r.length+1) L r
theorem zer (most:Nat) (L:List (List D)) (t:Tok) (r:List Tok):nm most L (t :: r)=
  if t.k=1∧¬t.s∈words then
   (if L.length=most then .error (4,t.p)
    else match r with
    | []=> .error (50,0)
    |u :: r2=>if u.s= [44]then nm most (L++ [[dS t.s]]) r2 else .ok (L++ [[dS t.s]],u :: r2))
  else .error (50,t.p):=by
 unfold nm
 rw[nmz];by_cases h:t.k=1∧¬t.s∈words
 ·have e:zal [] (t :: r)= .ok ([dS t.s],r):=by simp[zal,h]
  rw[e,if_pos h];by_cases h2:L.length=most
  ·simp[h2,bad]
  ·simp only[if_neg h2];cases r with
   |nil=>simp[zaW,bad]
   |cons u r2=>
    by_cases h3:u.s= [44]
    ·simp only[zaW,if_pos h3,dB,List.nil_append];exact zdD most _ _ _ r2 (by simp;omega) (by simp)
    ·simp[zaW,if_neg h3,dB]
 ·have e:zal [] (t :: r)= .error (50,t.p):=by simp only[zal,if_neg h,bad]
  rw[e,if_neg h]
theorem zf6 (most:Nat):∀(f:Nat) (L:List (List D)) (r:List Tok) (L':List (List D)) (r':List Tok),nmz most f L r= .ok (L',r')→r'.length≤r.length
 |0,_,_,_,_,h=>by simp[nmz]at h
 |f+1,L,r,L',r',h=>by
  simp only[nmz]at h;split at h
  ·cases h
  ·rename_i d r1 h1
   have:=zbW h1;split at h
   ·split at h<;>cases h
   ·split at h
    ·rename_i r2 h2
     have:=za5 _ _ _ _ _ h2;have:=zf6 most f _ r2 _ _ h;omega
    ·rename_i r2 _ h2
     have:=za5 _ _ _ _ _ h2;simp at h;rw[← h.2];omega
    ·cases h
theorem za8 (e most:Nat):zdB (zaj e most):=by
 intro c r c' r' h
 simp only[zaj]at h;split at h
 ·cases h
 ·rename_i L r1 h1;simp at h;rw[← h.2];exact zf6 _ _ _ _ _ _ h1
theorem zdE (word:List UInt8) (most:Nat) (body:List Tok→Rs) (hm:Mon body):∀(f g:Nat) (L:List (List D)) (r:List Tok),r.length<f→r.length<g→rwz word most body f L r=rwz word most body g L r
 |0,_,_,_,h,_=>by omega
 | _,0,_,_,_,h=>by omega
 |f+1,g+1,L,[],hf,hg=>by simp[rwz]
 |f+1,g+1,L,t :: r,hf,hg=>by
  simp only[rwz];split
  ·split
   ·rfl
   ·split
    ·rfl
    ·rename_i d r' h1
     have:=hm _ _ _ h1;simp at hf hg;exact zdE word most body hm f g _ r' (by omega) (by omega)
  ·rfl
def rw_ (word:List UInt8) (most:Nat) (body:List Tok→Rs) (L:List (List D)) (r:List Tok):Except Er (List (List D)×List Tok):=rwz word most body (r.length+1) L r
theorem zcE (word:List UInt8) (most:Nat) (body:List Tok→Rs) (hm:Mon body) (L:List (List D)) (t:Tok) (r:List Tok):rw_ word most body L (t :: r)=
  if t.s=word then
   (if L.length=most then .error (4,t.p)
    else match body r with
    | .error x=> .error x
    | .ok (d,r')=>rw_ word most body (L++ [d]) r')
  else .ok (L,t :: r):=by
 unfold rw_
 rw[rwz];by_cases h:t.s=word
 ·simp only[if_pos h];by_cases h2:L.length=most
  ·simp only[if_pos h2]
  ·simp only[if_neg h2];cases h1:body r with
   |error x=>rfl
   |ok q=>
    obtain⟨d,r'⟩:=q;have:=hm _ _ _ h1;simp only[List.length_cons];exact zdE word most body hm _ _ _ r' (by omega) (by omega)
 ·simp only[if_neg h]
theorem zes (word:List UInt8) (most:Nat) (body:List Tok→Rs) (hm:Mon body):∀(f:Nat) (L:List (List D)) (r:List Tok) (L':List (List D)) (r':List Tok),rwz word most body f L r= .ok (L',r')→r'.length≤r.length
 |0,_,_,_,_,h=>by simp[rwz]at h
 |f+1,L,[],L',r',h=>by simp[rwz]at h
 |f+1,L,t :: r,L',r',h=>by
  simp only[rwz]at h;split at h
  ·split at h
   ·cases h
   ·split at h
    ·cases h
    ·rename_i d r1 h1
     have:=hm _ _ _ h1;have:=zes word most body hm f _ r1 _ _ h;simp;omega
  ·simp at h;simp[← h.2]
theorem zbS (word:List UInt8) (most e z:Nat) (body:List Tok→Rs) (hm:Mon body):zdB (zbC word most e z body):=by
 intro c r c' r' h
 simp only[zbC]at h;split at h
 ·cases h
 ·rename_i L r1 h1;simp at h;rw[← h.2];exact zes _ _ _ hm _ _ _ _ _ h1
theorem zbs {p:List Tok→Rs} (h:Mon p):Mon (zbD p):=by
 intro r c r' e
 simp only[zbD]at e;split at e
 ·cases e
 ·rename_i c1 r1 h1;simp at e;rw[← e.2];exact h _ _ _ h1
theorem zbX {ps:List Sp} (h:∀ p∈ps,zdB p):Mon (sq ps []):=fun r c r' e=>zdC ps h _ _ _ _ e
theorem zbm {α:Type} {Q:α→Prop} :∀ p∈([]:List α),Q p:=fun p h=>by cases h
theorem za0 {α:Type} {Q:α→Prop} {a:α} {l:List α} (h:Q a) (t:∀ p∈l,Q p):∀ p∈a :: l,Q p:=fun p hp=>by
 rcases List.mem_cons.1 hp with rfl|hp
 ·exact h
 ·exact t p hp
theorem zcF:Mon zfv:=zbs (zbX (by repeat(first|exact zbm|(refine za0 ?_ ?_;first|exact zbw|exact zaZ|exact zbc|exact zbb _|exact zbr|exact za7|exact za5 _|exact za8 _ _|exact zbd|exact zbR))))
theorem za1:Mon zct:=zbs (zbX (by repeat(first|exact zbm|(refine za0 ?_ ?_;first|exact zbw|exact zaZ|exact zbc|exact zbb _|exact zbr|exact za7|exact za5 _|exact za8 _ _|exact zbd|exact zbR))))
theorem zcG:Mon zcf:=zbs (zbX (by repeat(first|exact zbm|(refine za0 ?_ ?_;first|exact zbw|exact zaZ|exact zbc|exact zbb _|exact zbr|exact za7|exact za5 _|exact za8 _ _|exact zbd|exact zbR))))
theorem za2:Mon zcs:=zbs (zbX (by repeat(first|exact zbm|(refine za0 ?_ ?_;first|exact zbw|exact zaZ|exact zbc|exact zbb _|exact zbr|exact za7|exact za5 _|exact za8 _ _|exact zbd|exact zbR))))
theorem zbF:Mon zbE:=zbs (zbX (by repeat(first|exact zbm|(refine za0 ?_ ?_;first|exact zbw|exact zaZ|exact zbc|exact zbb _|exact zbr|exact za7|exact za5 _|exact za8 _ _|exact zbd|exact zbR))))
theorem zaK:Mon zaz:=zbX (by repeat(first|exact zbm|(refine za0 ?_ ?_;first|exact zbw|exact zaZ|exact zbc|exact zbb _|exact zbr|exact za7|exact za5 _|exact za8 _ _|exact zbd|exact zbR)))
theorem zaT:Mon zbv:=zbX (by repeat(first|exact zbm|(refine za0 ?_ ?_;first|exact zbb _|exact zbS _ _ _ _ _ zaK|exact zbd)))
theorem zbe:Mon zcu:=zbs (zbX (by repeat(first|exact zbm|(refine za0 ?_ ?_;first|exact zbw|exact zaZ|exact zbb _|exact zbS _ _ _ _ _ za2|exact zbS _ _ _ _ _ za1|exact zbS _ _ _ _ _ zbF|exact zbS _ _ _ _ _ zaT|exact zbS _ _ _ _ _ zcF))))
def W (r:List Tok):Prop:=∃ m e,r=m++ [e]∧e.k=0∧e.s= []
theorem W.ne {r:List Tok} (h:W r):r≠ []:=by obtain⟨m,e,rfl,_⟩:=h;simp
def zjE:List Sp:= [zah [123],zbC [115,116,111,112] 12 43 6 zcf,zah [119,101,105,103,104,116,115],zaG,zaG,zah [59],zah [125]]
theorem zet {c:List D} {t:Tok} {r:List Tok} (h:t.s= [97,114,116,101,114,121]):zdc c (t :: r)=sq zjE c r:=by simp[zdc,zaW,h,dB,zjE]
theorem zf7 {c:List D} {t:Tok} {r:List Tok} (h:¬t.s= [97,114,116,101,114,121]):zdc c (t :: r)= .ok (c++ [.row 43 6 [],dI 0,dI 0],t :: r):=by simp[zdc,zaW,h,dB]
def q0 (t:Tok):Tok:=⟨t.k,t.s,t.n,0⟩
def plc (z:Nat):Bool:=z==3 || z==6 || z==7 || z==11
mutual
def Z:D→D
 | .val v=> .val v
 | .row e z L=> .row e z (Zss (plc z) L)
def Zl:Bool→List D→List D
 | _,[]=> []
 |b,d :: ds=>(if b&&ds.isEmpty then dI 0 else Z d) :: Zl b ds
def Zss:Bool→List (List D)→List (List D)
 | _,[]=> []
 |b,ds :: L=>Zl b ds :: Zss b L
end
end Go.Proofs.Ythbfohohelflnaa
namespace Go.Proofs.Ythbfohohelflnaa
set_option linter.unusedVariables false
theorem zjF {acc L:List Tok} {x:Except (Int×Nat) (List Tok)} (h:pre acc x= .ok L):∃ M,x= .ok M∧L=acc++M:=by
 cases x with
 |error z=>cases h
 |ok l=>simp only[pre,Except.ok.injEq]at h;exact⟨l,rfl,h.symm⟩
theorem zdd {r:List UInt8} {p:Nat} {L:List Tok} (h:tk r p= .ok L):
  (L= [⟨0,[],0,((p+r.length:Nat):Int)⟩]∧skp false r=r.length)∨
  (∃ t M,L=t :: M∧one (r.drop (skp false r)) (p+skp false r)= .ok t∧t.k≠0∧t.p=((p+skp false r:Nat):Int)∧t.s=(r.drop (skp false r)).take t.s.length∧1≤t.s.length∧skp false r+t.s.length≤r.length∧tk (r.drop (skp false r+t.s.length)) (p+skp false r+t.s.length)= .ok M):=by
 rw[zjB]at h;have hs:=zcW false r;split at h
 ·cases h
 ·rename_i t ht
  have h0:=zcY ht;split at h
  ·rename_i hk
   left;rcases h0.2 with ⟨h1,h2⟩|⟨h1,_⟩
   ·have:r.length≤skp false r:=by have:=congrArg List.length h1;simp at this;omega
    have e:skp false r=r.length:=by omega
    rw[e]at h2;simp only[Except.ok.injEq]at h;rw[h2]at h;exact⟨h.symm,e⟩
   ·exact absurd hk h1
  ·rename_i hk
   right;obtain⟨M,hM,rfl⟩:=zjF h;rcases h0.2 with ⟨_,h2⟩|⟨_,_,h3,h4,h5,_⟩
   ·rw[h2]at hk;exact absurd rfl hk
   ·have hl:=zdW (r.drop (skp false r));refine⟨t,M,rfl,ht,hk,h0.1,by rw[h4];exact h3,by omega,by simp only[List.length_drop]at hl;omega,?_⟩;rw[List.drop_drop]at hM;exact hM
theorem zkP {l:List UInt8} {L:List Tok} (h:T l= .ok L):l.length≤65536∧tk l 0= .ok L:=by
 unfold T at h
 split at h
 ·cases h
 ·exact⟨by omega,h⟩
theorem zf8:∀(n:Nat) (r:List UInt8) (p:Nat) (L:List Tok),r.length≤n→tk r p= .ok L→1≤L.length∧L.length≤r.length+1
 |n,r,p,L,hn,h=>by
  rcases zdd h with ⟨rfl,_⟩|⟨t,M,rfl,_,_,_,_,h5,h6,h7⟩
  ·simp
  ·cases n with
   |zero=>omega
   |succ n=>
    have:=zf8 n _ _ M (by rw[List.length_drop];omega) h7;rw[List.length_drop]at this;simp only[List.length_cons];omega
theorem zkQ {l:List UInt8} {L:List Tok} (h:T l= .ok L):1≤L.length∧L.length≤l.length+1:=zf8 l.length l 0 L (Nat.le_refl _) (zkP h).2
end Go.Proofs.Ythbfohohelflnaa
