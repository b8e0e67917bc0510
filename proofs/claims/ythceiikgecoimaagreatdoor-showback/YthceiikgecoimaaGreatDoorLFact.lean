/- A text that ends where another token was wanted: the things, the artery, the network. No program is met here. -/
import Derived.Test.YthceiikgecoimaaGreatDoorNCut
namespace Go.Proofs.YthceiikgecoimaaGreatDoor
set_option linter.unusedVariables false
set_option linter.unusedSimpArgs false
def zoa:List Sp:= [zad [123],zaL [115,116,111,112] 12 48 6 zbH,zad [119,101,105,103,104,116,115],zar,zar,zad [59],zad [125]]
theorem zes {c:List D} {t:Tok} {r:List Tok} (h:t.s= [97,114,116,101,114,121]):zcT c (t :: r)=sq zoa c r:=by simp[zcT,zaX,h,dB,zoa]
theorem zfQ {c:List D} {t:Tok} {r:List Tok} (h:¬t.s= [97,114,116,101,114,121]):zcT c (t :: r)= .ok (c++ [.row 48 6 [],dI 0,dI 0],t :: r):=by simp[zcT,zaX,h,dB]
theorem zl3:∀(ps qs:List Sp) (c:List D) (r:List Tok),sq (ps++qs) c r=match sq ps c r with| .error x=> .error x| .ok (c',r')=>sq qs c' r'
 | [],qs,c,r=>rfl
 |p :: ps,qs,c,r=>by
  simp only[List.cons_append,sq];cases p c r with
  |error x=>rfl
  |ok q=>obtain⟨c',r'⟩:=q;exact zl3 ps qs c' r'
def zob:List Sp:= [zad [99,121,99,108,101],zar,zad [116,111],zar,zad [98,121],zar,zad [59],zad [112,101,97,107],zba,zad [59],zaL [110,111,100,101] 12 45 7 zb5,zcT]
def q0 (t:Tok):Tok:=⟨t.k,t.s,t.n,0⟩
def plc (z:Nat):Bool:=z==3 || z==6 || z==7 || z==11
mutual
def Z:D->D
 | .val v=> .val v
 | .row e z L=> .row e z (Zss (plc z) L)
def Zl:Bool->List D->List D
 | _,[]=> []
 |b,d :: ds=>(if b&&ds.isEmpty then dI 0 else Z d) :: Zl b ds
def Zss:Bool->List (List D)->List (List D)
 | _,[]=> []
 |b,ds :: L=>Zl b ds :: Zss b L
end
theorem zdt:∀ ds:List D,Zl false ds=ds.map Z
 | []=>by simp[Zl]
 |d :: ds=>by simp[Zl,zdt ds]
theorem zgo:∀(ds:List D) (x:D),Zl true (ds++ [x])=ds.map Z++ [dI 0]
 | [],x=>by simp[Zl]
 |d :: ds,x=>by simp[Zl,zgo ds x]
theorem zaT (b:Bool):∀ L:List (List D),Zss b L=L.map (Zl b)
 | []=>by simp[Zss]
 |ds :: L=>by simp[Zss,zaT b L]
theorem zet (b:Bool) (L:List (List D)):(Zss b L).length=L.length:=by rw[zaT];simp
theorem zcf {r':List Tok} (h:([]:List Tok).map q0=r'.map q0):r'= []:=by cases r' with|nil=>rfl|cons=>simp at h
theorem zbJ {t:Tok} {r r':List Tok} (h:(t :: r).map q0=r'.map q0):∃ t' r2,r'=t' :: r2/\t'.k=t.k/\t'.s=t.s/\t'.n=t.n/\r.map q0=r2.map q0:=by
 cases r' with
 |nil=>simp at h
 |cons t' r2=>
  simp[q0]at h;exact⟨t',r2,rfl,h.1.1.symm,h.1.2.1.symm,h.1.2.2.symm,by simpa [q0]using h.2⟩
def Out (c c':List D) (x y:Rs):Prop:=match x,y with
 | .error e,.error f=>e.1=f.1
 | .ok (c1,s),.ok (c2,s')=>s.map q0=s'.map q0/\∃ d d',c1=c++d/\c2=c'++d'/\d.map Z=d'.map Z
 | _,_=>False
def PlC (p:Sp):Prop:=∀ c c' r r',r.map q0=r'.map q0->Out c c' (p c r) (p c' r')
theorem zfj {c c':List D} {e:Int} {r r':List Tok} (h:r.map q0=r'.map q0):Out c c' (bad e r) (bad e r'):=by
 cases r with
 |nil=>obtain rfl:=zcf h;simp[bad,Out]
 |cons t r=>obtain⟨t',r2,rfl,_⟩:=zbJ h;simp[bad,Out]
theorem zdf {c c' d d':List D} {s s':List Tok} (h:s.map q0=s'.map q0) (hd:d.map Z=d'.map Z):Out c c' (.ok (c++d,s)) (.ok (c'++d',s')):=⟨h,d,d',rfl,rfl,hd⟩
theorem zgp {c c':List D} {s s':List Tok} (h:s.map q0=s'.map q0):Out c c' (.ok (c,s)) (.ok (c',s')):=⟨h,[],[],by simp,by simp,rfl⟩
theorem zcL (w:List UInt8):PlC (zad w):=by
 intro c c' r r' h
 cases r with
 |nil=>obtain rfl:=zcf h;simp[zad,bad,Out]
 |cons t r=>
  obtain⟨t',r2,rfl,hk,hs,hn,h2⟩:=zbJ h;simp only[zad,hs];by_cases ht:t.s=w
  ·rw[if_pos ht,if_pos ht];exact zgp h2
  ·rw[if_neg ht,if_neg ht];exact zfj h
theorem zbh:PlC zai:=by
 intro c c' r r' h
 cases r with
 |nil=>obtain rfl:=zcf h;simp[zai,bad,Out]
 |cons t r=>
  obtain⟨t',r2,rfl,hk,hs,hn,h2⟩:=zbJ h;simp only[zai,hs,hk];by_cases ht:t.k=1/\¬t.s∈words
  ·rw[if_pos ht,if_pos ht];exact zdf h2 rfl
  ·rw[if_neg ht,if_neg ht];exact zfj h
theorem zbb:PlC zar:=by
 intro c c' r r' h
 cases r with
 |nil=>obtain rfl:=zcf h;simp[zar,bad,Out]
 |cons t r=>
  obtain⟨t',r2,rfl,hk,hs,hn,h2⟩:=zbJ h;simp only[zar,hn,hk];by_cases ht:t.k=2
  ·rw[if_pos ht,if_pos ht];exact zdf h2 rfl
  ·rw[if_neg ht,if_neg ht];exact zfj h
theorem zqF:PlC zc5:=by
 intro c c' r r' h
 cases r with
 |nil=>obtain rfl:=zcf h;simp[zc5,bad,Out]
 |cons t r=>
  obtain⟨t',r2,rfl,hk,hs,hn,h2⟩:=zbJ h;simp only[zc5,hk];by_cases ht:t.k=0
  ·rw[if_pos ht,if_pos ht];exact zgp h
  ·rw[if_neg ht,if_neg ht];exact zfj h
theorem zqG (w:List UInt8):PlC (zaX w):=by
 intro c c' r r' h
 cases r with
 |nil=>obtain rfl:=zcf h;simp[zaX,bad,Out]
 |cons t r=>
  obtain⟨t',r2,rfl,hk,hs,hn,h2⟩:=zbJ h;simp only[zaX,hs];by_cases ht:t.s=w
  ·rw[if_pos ht,if_pos ht];exact zdf h2 rfl
  ·rw[if_neg ht,if_neg ht];exact zdf h rfl
theorem zcW:PlC (sq []):=λc c' r r' h=>zgp h
theorem zbK {p:Sp} {ps:List Sp} (hp:PlC p) (h2:PlC (sq ps)):PlC (sq (p :: ps)):=by
 intro c c' r r' h
 have h1:=hp c c' r r' h;simp only[sq];cases hx:p c r with
 |error x=>
  cases hy:p c' r' with
  |error y=>rw[hx,hy]at h1;exact h1
  |ok y=>rw[hx,hy]at h1;exact h1.elim
 |ok x=>
  cases hy:p c' r' with
  |error y=>rw[hx,hy]at h1;exact h1.elim
  |ok y=>
   obtain⟨c1,s⟩:=x;obtain⟨c2,s'⟩:=y;rw[hx,hy]at h1;obtain⟨e1,d,d',rfl,rfl,e2⟩:=h1;have h3:=h2 (c++d) (c'++d') s s' e1;simp only;cases hx2:sq ps (c++d) s with
   |error x=>
    cases hy2:sq ps (c'++d') s' with
    |error y=>rw[hx2,hy2]at h3;exact h3
    |ok y=>rw[hx2,hy2]at h3;exact h3.elim
   |ok x=>
    cases hy2:sq ps (c'++d') s' with
    |error y=>rw[hx2,hy2]at h3;exact h3.elim
    |ok y=>
     obtain⟨c3,s3⟩:=x;obtain⟨c4,s4⟩:=y;rw[hx2,hy2]at h3;obtain⟨e3,f,f',rfl,rfl,e4⟩:=h3;rw[List.append_assoc,List.append_assoc];exact zdf e3 (by simp[e2,e4])
def PlB (b:Bool) (body:List Tok->Rs):Prop:=∀ r r',r.map q0=r'.map q0->match body r,body r' with
 | .error e,.error f=>e.1=f.1
 | .ok (d,s),.ok (d',s')=>s.map q0=s'.map q0/\Zl b d=Zl b d'
 | _,_=>False
theorem zqH {p:Sp} (h:PlC p):PlB false (p []):=by
 intro r r' hr
 have:=h [] [] r r' hr;cases hx:p [] r with
 |error x=>
  cases hy:p [] r' with
  |error y=>rw[hx,hy]at this;exact this
  |ok y=>rw[hx,hy]at this;exact this.elim
 |ok x=>
  cases hy:p [] r' with
  |error y=>rw[hx,hy]at this;exact this.elim
  |ok y=>
   obtain⟨c1,s⟩:=x;obtain⟨c2,s'⟩:=y;rw[hx,hy]at this;obtain⟨e1,d,d',rfl,rfl,e2⟩:=this;exact⟨e1,by rw[zdt,zdt];simpa using e2⟩
theorem zdP {ps:List Sp} (h:PlC (sq ps)):PlB true (zct (sq (zaO :: ps) [])):=by
 intro r r' hr
 cases r with
 |nil=>obtain rfl:=zcf hr;simp[zct,sq,zaO,bad]
 |cons t r=>
  obtain⟨t',r2,rfl,hk,hs,hn,h2⟩:=zbJ hr;have:=h [dI t.p] [dI t'.p] (t :: r) (t' :: r2) hr;simp only[zct,sq,zaO,List.nil_append];cases hx:sq ps [dI t.p] (t :: r)with
  |error x=>
   cases hy:sq ps [dI t'.p] (t' :: r2)with
   |error y=>rw[hx,hy]at this;exact this
   |ok y=>rw[hx,hy]at this;exact this.elim
  |ok x=>
   cases hy:sq ps [dI t'.p] (t' :: r2)with
   |error y=>rw[hx,hy]at this;exact this.elim
   |ok y=>
    obtain⟨c1,s⟩:=x;obtain⟨c2,s'⟩:=y;rw[hx,hy]at this;obtain⟨e1,d,d',rfl,rfl,e2⟩:=this;refine⟨e1,?_⟩;simp only[List.cons_append,List.nil_append,rot];rw[zgo,zgo,e2]
theorem zqI (word:List UInt8) (most:Nat) (b:Bool) (body:List Tok->Rs) (hm:Mon body) (hb:PlB b body):∀(n:Nat) (L L':List (List D)) (r r':List Tok),r.length<=n->Zss b L=Zss b L'->r.map q0=r'.map q0->match rw_ word most body L r,rw_ word most body L' r' with
  | .error e,.error f=>e.1=f.1
  | .ok (M,s),.ok (M',s')=>s.map q0=s'.map q0/\Zss b M=Zss b M'
  | _,_=>False
 |n,L,L',[],r',_,_,h=>by obtain rfl:=zcf h;simp[rw_,rwz]
 |n,L,L',t :: r,r',hn,hL,h=>by
  obtain⟨t',r2,rfl,hk,hs,_,h2⟩:=zbJ h;have hlen:L'.length=L.length:=by rw[<- zet b L,<- zet b L',hL]
  rw[zcH _ _ _ hm,zcH _ _ _ hm,hs];by_cases ht:t.s=word
  ·rw[if_pos ht,if_pos ht,hlen];by_cases hl:L.length=most
   ·rw[if_pos hl,if_pos hl]
   ·rw[if_neg hl,if_neg hl];have h3:=hb r r2 h2;cases hx:body r with
    |error x=>
     cases hy:body r2 with
     |error y=>rw[hx,hy]at h3;exact h3
     |ok y=>rw[hx,hy]at h3;exact h3.elim
    |ok x=>
     cases hy:body r2 with
     |error y=>rw[hx,hy]at h3;exact h3.elim
     |ok y=>
      obtain⟨d,s⟩:=x;obtain⟨d',s'⟩:=y;rw[hx,hy]at h3;have hlen2:=hm _ _ _ hx;cases n with
      |zero=>simp at hn
      |succ n=>exact zqI word most b body hm hb n (L++ [d]) (L'++ [d']) s s' (by simp at hn;omega) (by rw[zaT,zaT]at hL |-;simp[hL,h3.2]) h3.1
  ·rw[if_neg ht,if_neg ht];exact⟨h,hL⟩
theorem zd4 {word:List UInt8} {most e z:Nat} {body:List Tok->Rs} (hm:Mon body) (hb:PlB (plc z) body):PlC (zaL word most e z body):=by
 intro c c' r r' h
 have h1:=zqI word most (plc z) body hm hb _ [] [] r r' (Nat.le_refl _) rfl h;simp only[zaL];rw[show rwz word most body (r.length+1) [] r=rw_ word most body [] r from rfl,show rwz word most body (r'.length+1) [] r'=rw_ word most body [] r' from rfl];cases hx:rw_ word most body [] r with
 |error x=>
  cases hy:rw_ word most body [] r' with
  |error y=>rw[hx,hy]at h1;exact h1
  |ok y=>rw[hx,hy]at h1;exact h1.elim
 |ok x=>
  cases hy:rw_ word most body [] r' with
  |error y=>rw[hx,hy]at h1;exact h1.elim
  |ok y=>
   rw[hx,hy]at h1;exact zdf h1.1 (by simp only[List.map_cons,List.map_nil,Z,h1.2])
theorem zqJ (most:Nat):∀(n:Nat) (L:List (List D)) (r r':List Tok),r.length<=n->r.map q0=r'.map q0->match nm most L r,nm most L r' with
  | .error e,.error f=>e.1=f.1
  | .ok (M,s),.ok (M',s')=>s.map q0=s'.map q0/\M=M'
  | _,_=>False
 |n,L,[],r',_,h=>by obtain rfl:=zcf h;simp[nm,nmz,zai,bad]
 |n,L,t :: r,r',hn,h=>by
  obtain⟨t',r2,rfl,hk,hs,_,h2⟩:=zbJ h;rw[zdj,zdj,hs,hk];by_cases ht:t.k=1/\¬t.s∈words
  ·rw[if_pos ht,if_pos ht];by_cases hl:L.length=most
   ·rw[if_pos hl,if_pos hl]
   ·rw[if_neg hl,if_neg hl];cases r with
    |nil=>obtain rfl:=zcf h2;simp
    |cons u r3=>
     obtain⟨u',r4,rfl,_,hs2,_,h4⟩:=zbJ h2;simp only[hs2];by_cases hu:u.s= [44]
     ·rw[if_pos hu,if_pos hu];cases n with
      |zero=>simp at hn
      |succ n=>exact zqJ most n _ r3 r4 (by simp at hn;omega) h4
     ·rw[if_neg hu,if_neg hu];exact⟨h2,rfl⟩
  ·rw[if_neg ht,if_neg ht]
theorem zg9 (e most:Nat):PlC (zas e most):=by
 intro c c' r r' h
 have h1:=zqJ most _ [] r r' (Nat.le_refl _) h;simp only[zas];rw[show nmz most (r.length+1) [] r=nm most [] r from rfl,show nmz most (r'.length+1) [] r'=nm most [] r' from rfl];cases hx:nm most [] r with
 |error x=>
  cases hy:nm most [] r' with
  |error y=>rw[hx,hy]at h1;exact h1
  |ok y=>rw[hx,hy]at h1;exact h1.elim
 |ok x=>
  cases hy:nm most [] r' with
  |error y=>rw[hx,hy]at h1;exact h1.elim
  |ok y=>
   rw[hx,hy]at h1;obtain⟨h2,h3⟩:=h1;simp only[h3];exact zdf h2 rfl
theorem zkN:PlC zaI:=by
 intro c c' r r' h
 simp only[zaI];cases r with
 |nil=>obtain rfl:=zcf h;simp[sq,zaX,bad,Out]
 |cons t r=>
  obtain⟨t',r2,rfl,hk,hs,hn,h2⟩:=zbJ h;simp only[sq,zaX,hs];by_cases ht:t.s= [45]
  ·simp only[if_pos ht];cases r with
   |nil=>obtain rfl:=zcf h2;simp[zar,bad,Out]
   |cons u r3=>
    obtain⟨u',r4,rfl,hk2,hs2,hn2,h4⟩:=zbJ h2;simp only[zar,hk2,hn2];by_cases hu:u.k=2
    ·simp only[if_pos hu,dB,dI,List.nil_append,List.cons_append];exact zdf h4 rfl
    ·simp[if_neg hu,bad,Out]
  ·simp only[if_neg ht,zar,hk,hn];by_cases hu:t.k=2
   ·simp only[if_pos hu,dB,dI,List.nil_append,List.cons_append];exact zdf h2 rfl
   ·simp[if_neg hu,bad,Out]
theorem ziK:PlC zba:=zbK zbb (zbK (zcL _) (zbK zbb zcW))
theorem zoc:PlB true zeR:=zdP (by repeat(first|exact zcW|(refine zbK ?_ ?_;first|exact zbh|exact zcL _)))
theorem zkO:PlB true zbY:=zdP (by repeat(first|exact zcW|(refine zbK ?_ ?_;first|exact zbh|exact zbb|exact zcL _)))
theorem zkP:PlB true zbH:=zdP (by repeat(first|exact zcW|(refine zbK ?_ ?_;first|exact zbh|exact zbb|exact zcL _)))
theorem zkQ:PlB true zbT:=zdP (by repeat(first|exact zcW|(refine zbK ?_ ?_;first|exact zbh|exact zbb|exact zcL _|exact ziK|exact zkN)))
theorem ziL:PlB true zbm:=zdP (by repeat(first|exact zcW|(refine zbK ?_ ?_;first|exact zbh|exact zcL _|exact zg9 _ _)))
theorem zkR:PlB false zaV:=zqH (by repeat(first|exact zcW|(refine zbK ?_ ?_;first|exact zqG _|exact zcL _|exact zg9 _ _)))
theorem ziM:PlB false zbl:=by
 intro r r' hr
 have h1:PlC (sq [zad [123],zaL [114,105,110,103] 2 86 2 zaV]):=zbK (zcL _) (zbK (zd4 zbd zkR) zcW);have h2:=zcL [125];have hs:∀ x,zbl x=match sq [zad [123],zaL [114,105,110,103] 2 86 2 zaV] [] x with
   | .error e=> .error e
   | .ok (c,s)=>sq [zbX,zad [125]] c s:=λx=>zl3 [zad [123],zaL [114,105,110,103] 2 86 2 zaV] [zbX,zad [125]] [] x
 have hrow:∀ x c s,sq [zad [123],zaL [114,105,110,103] 2 86 2 zaV] [] x= .ok (c,s)->∃ L,c= [.row 86 2 L]:=by
  intro x c s h
  obtain⟨c1,r1,k1,k2⟩:=zcV h;obtain⟨rfl,_⟩:=zdO k1;obtain⟨c2,r2,k3,k4⟩:=zcV k2;have:=zfO k4;simp at this;obtain⟨L,e,_⟩:=ziJ (Q:=λ_=>True) (λ_ _ _ _=>trivial) k3;exact⟨L,by rw[this.1,e];rfl⟩
 have h3:=h1 [] [] r r' hr;rw[hs r,hs r'];cases hx:sq [zad [123],zaL [114,105,110,103] 2 86 2 zaV] [] r with
 |error x=>
  cases hy:sq [zad [123],zaL [114,105,110,103] 2 86 2 zaV] [] r' with
  |error y=>rw[hx,hy]at h3;exact h3
  |ok y=>rw[hx,hy]at h3;exact h3.elim
 |ok x=>
  cases hy:sq [zad [123],zaL [114,105,110,103] 2 86 2 zaV] [] r' with
  |error y=>rw[hx,hy]at h3;exact h3.elim
  |ok y=>
   obtain⟨c1,s⟩:=x;obtain⟨c2,s'⟩:=y;rw[hx,hy]at h3;obtain⟨L,rfl⟩:=hrow _ _ _ hx;obtain⟨L',rfl⟩:=hrow _ _ _ hy;obtain⟨e1,d,d',e3,e4,e2⟩:=h3;simp only[List.nil_append]at e3 e4;subst e3 e4;simp only[List.map_cons,List.map_nil,Z,List.cons.injEq,and_true,D.row.injEq,true_and]at e2;have hlen:L.length=L'.length:=by rw[<- zet (plc 2) L,<- zet (plc 2) L',e2]
   simp only[sq,zbX];cases L with
   |nil=>
    have:L'= []:=List.eq_nil_of_length_eq_zero (by rw[<- hlen];rfl);subst this;cases s with
    |nil=>obtain rfl:=zcf e1;simp[bad]
    |cons t s=>obtain⟨t',s2,rfl,_⟩:=zbJ e1;simp[bad]
   |cons x L=>
    cases L' with
    |nil=>simp at hlen
    |cons x' L'=>
     simp only;have h4:=h2 [.row 86 2 (x :: L)] [.row 86 2 (x' :: L')] s s' e1;cases hx2:zad [125] [.row 86 2 (x :: L)] s with
     |error x=>
      cases hy2:zad [125] [.row 86 2 (x' :: L')] s' with
      |error y=>rw[hx2,hy2]at h4;exact h4
      |ok y=>rw[hx2,hy2]at h4;exact h4.elim
     |ok z1=>
      cases hy2:zad [125] [.row 86 2 (x' :: L')] s' with
      |error y=>rw[hx2,hy2]at h4;exact h4.elim
      |ok z2=>
       obtain⟨d1,s1⟩:=z1;obtain⟨d2,s2⟩:=z2;rw[hx2,hy2]at h4;obtain⟨rfl,_⟩:=zdO hx2;obtain⟨rfl,_⟩:=zdO hy2;exact⟨h4.1,by rw[zdt,zdt];simp only[List.map_cons,List.map_nil,Z,e2]⟩
theorem zkS:PlB true zb5:=zdP (by repeat(first|exact zcW|(refine zbK ?_ ?_;first|exact zbh|exact zcL _|exact zd4 zb0 zkQ|exact zd4 zbZ zkO|exact zd4 zb7 ziL|exact zd4 zbI ziM|exact zd4 zdk zoc)))
theorem zkT:PlC (sq zoa):=by repeat(first|exact zcW|(refine zbK ?_ ?_;first|exact zbb|exact zcL _|exact zd4 zc8 zkP))
theorem zqK:PlC zcT:=by
 intro c c' r r' h
 cases r with
 |nil=>obtain rfl:=zcf h;simp[zcT,zaX,bad,Out]
 |cons t r=>
  obtain⟨t',r2,rfl,hk,hs,hn,h2⟩:=zbJ h;by_cases ht:t.s= [97,114,116,101,114,121]
  ·rw[zes ht,zes (hs.trans ht)];exact zkT c c' r r2 h2
  ·rw[zfQ ht,zfQ (by rw[hs];exact ht)];exact zdf h rfl
theorem zqL:PlC (sq (zob++ [zc5])):=by
 show PlC (sq [_,_,_,_,_,_,_,_,_,_,_,_,_]);repeat(first|exact zcW|(refine zbK ?_ ?_;first|exact zbb|exact zcL _|exact ziK|exact zd4 zb1 zkS|exact zqK|exact zqF))
theorem zqM {r r':List Tok} (h:r.map q0=r'.map q0):match zeg r,zeg r' with
  | .error e,.error f=>e.1=f.1
  | .ok (c,s),.ok (c',s')=>c.map Z=c'.map Z
  | _,_=>False:=by
 have:=zqL [] [] r r' h;rw[show sq (zob++ [zc5]) [] r=zeg r from rfl,show sq (zob++ [zc5]) [] r'=zeg r' from rfl]at this;cases hx:zeg r with
 |error x=>
  cases hy:zeg r' with
  |error y=>rw[hx,hy]at this;exact this
  |ok y=>rw[hx,hy]at this;exact this.elim
 |ok x=>
  cases hy:zeg r' with
  |error y=>rw[hx,hy]at this;exact this.elim
  |ok y=>
   obtain⟨c1,s⟩:=x;obtain⟨c2,s'⟩:=y;rw[hx,hy]at this;obtain⟨_,d,d',rfl,rfl,e2⟩:=this;simpa using e2
def zcm (L:List (List D)):Prop:=L.length<=100000/\∀ x∈L,∃ s,x= [dS s]
def zeu (x:List D):Prop:=∃ s v1 v2 v3 v4 v5 v6 v7 v8 v9 p,x= [dS s,dI v1,dI v2,dI v3,dI v4,dI v5,dI v6,dI v7,dI v8,dI v9,dI p]
def zgq (x:List D):Prop:=∃ s t v1 v2 v3 p,x= [dS s,dS t,dI v1,dI v2,dI v3,dI p]
def zdl (x:List D):Prop:=∃ s L p,x= [dS s,.row 9 1 L,dI p]/\zcm L
def zfR (x:List D):Prop:=∃ f L,x= [dB f,.row 9 1 L]/\zcm L
def zcI (x:List D):Prop:=∃ R,x= [.row 86 2 R]/\R.length<=100000/\∀ y∈R,zfR y
def zgr (x:List D):Prop:=∃ s t p,x= [dS s,dS t,dI p]
def zev (x:List D):Prop:=∃ s t u v1 v2 p,x= [dS s,dS t,dS u,dI v1,dI v2,dI p]
def zfS (x:List D):Prop:=∃ s H P Q G F p,x= [dS s,.row 77 11 H,.row 79 6 P,.row 81 3 Q,.row 84 1 G,.row 88 3 F,dI p]/\(H.length<=100000/\∀ y∈H,zeu y)/\(P.length<=100000/\∀ y∈P,zgq y)/\(Q.length<=100000/\∀ y∈Q,zdl y)/\(G.length<=100000/\∀ y∈G,zcI y)/\(F.length<=100000/\∀ y∈F,zgr y)
def ziN (x:List D):Prop:=∃ a0 a1 a2 a3 a4 Ns Ss a5 a6,x= [dI a0,dI a1,dI a2,dI a3,dI a4,.row 45 7 Ns,.row 48 6 Ss,dI a5,dI a6]/\(Ns.length<=100000/\∀ y∈Ns,zfS y)/\(Ss.length<=100000/\∀ y∈Ss,zev y)
def ShC (p:Sp) (Q:List D->Prop):Prop:=∀ c r c' r',p c r= .ok (c',r')->∃ d,c'=c++d/\Q d
theorem zaW (s:List UInt8):ShC (zad s) (λd=>d= []):=λc r c' r' h=>⟨[],by simp[(zdO h).1],rfl⟩
theorem zcn:ShC zai (λd=>∃ s,d= [dS s]):=λc r c' r' h=>by obtain⟨t,e,_⟩:=zg7 h;exact⟨_,e,_,rfl⟩
theorem zbW:ShC zar (λd=>∃ n,d= [dI n]):=λc r c' r' h=>by obtain⟨t,e,_⟩:=zfi h;exact⟨_,e,_,rfl⟩
theorem zeY:ShC zaO (λd=>∃ n,d= [dI n]):=λc r c' r' h=>by obtain⟨n,e,_⟩:=zn7 h;exact⟨_,e,_,rfl⟩
theorem zqN (s:List UInt8):ShC (zaX s) (λd=>∃ b,d= [dB b]):=λc r c' r' h=>by obtain⟨b,e⟩:=zn9 h;exact⟨_,e,_,rfl⟩
theorem zqO:ShC zc5 (λd=>d= []):=λc r c' r' h=>⟨[],by simp[zn8 h],rfl⟩
theorem zod:ShC zbX (λd=>d= []):=λc r c' r' h=>⟨[],by simp[(zg8 h).1],rfl⟩
theorem ziO:ShC zba (λd=>∃ a b,d= [dI a,dI b]):=λc r c' r' h=>by obtain⟨a,b,e⟩:=zkM h;exact⟨[dI a,dI b],by rw[e];simp,_,_,rfl⟩
theorem zkU:ShC zaI (λd=>∃ n,d= [dI n]):=λc r c' r' h=>by
 simp only[zaI]at h;split at h
 ·cases h
 ·simp at h;exact⟨_,h.1.symm,_,rfl⟩
 ·cases h
theorem zl4 (most:Nat):∀(f:Nat) (L:List (List D)) (r:List Tok) (L':List (List D)) (r':List Tok),(∀ x∈L,∃ s,x= [dS s])->nmz most f L r= .ok (L',r')->∀ x∈L',∃ s,x= [dS s]
 |0,_,_,_,_,_,h=>by simp[nmz]at h
 |f+1,L,r,L',r',hL,h=>by
  simp only[nmz]at h;split at h
  ·cases h
  ·rename_i d r1 h1
   obtain⟨t,e,_⟩:=zg7 h1;have hd:∀ x∈L++ [d],∃ s,x= [dS s]:=λx hx=>by
    rcases List.mem_append.1 hx with hx|hx
    ·exact hL x hx
    ·simp at hx;subst hx;exact⟨t.s,by simpa using e⟩
   split at h
   ·split at h<;>cases h
   ·split at h
    ·exact zl4 most f _ _ _ _ hd h
    ·simp at h;rw[<- h.1];exact hd
    ·cases h
theorem zdu (e most:Nat) (hm:most<=100000):ShC (zas e most) (λd=>∃ L,d= [.row e 1 L]/\zcm L):=λc r c' r' h=>by
 obtain⟨L,e1,_,e3⟩:=zfP h;refine⟨_,e1,L,rfl,by omega,?_⟩;simp only[zas]at h;split at h
 ·cases h
 ·rename_i L2 r1 h1
  simp at h;have:L2=L:=by have:=h.1;rw[e1]at this;simpa using this
  subst this;exact zl4 most _ _ _ _ _ (λx hx=>by cases hx) h1
theorem zd5 {word:List UInt8} {most e z:Nat} {body:List Tok->Rs} {Q:List D->Prop} (hm:most<=100000) (hQ:∀ r d r',body r= .ok (d,r')->Q d):ShC (zaL word most e z body) (λd=>∃ L,d= [.row e z L]/\L.length<=100000/\∀ y∈L,Q y):=λc r c' r' h=>by
 obtain⟨L,e1,e2,e3⟩:=ziJ hQ h;exact⟨_,e1,L,rfl,by omega,e3⟩
theorem zdg:ShC (sq []) (λd=>d= []):=λc r c' r' h=>by have:=zfO h;simp at this;exact⟨[],by simp[this.1],rfl⟩
theorem zaj {p:Sp} {ps:List Sp} {Q R:List D->Prop} (hp:ShC p Q) (h2:ShC (sq ps) R):ShC (sq (p :: ps)) (λd=>∃ d1 d2,d=d1++d2/\Q d1/\R d2):=λc r c' r' h=>by
 obtain⟨c1,r1,k1,k2⟩:=zcV h;obtain⟨d1,rfl,q1⟩:=hp _ _ _ _ k1;obtain⟨d2,e,q2⟩:=h2 _ _ _ _ k2;exact⟨d1++d2,by rw[e,List.append_assoc],d1,d2,rfl,q1,q2⟩
theorem zqP {r:List Tok} {d:List D} {r':List Tok} (h:zeR r= .ok (d,r')):zgr d:=by
 obtain⟨c,hc,rfl⟩:=zby h;obtain⟨d,e,d1,x,rfl,⟨p,rfl⟩,d2,x,rfl,⟨s,rfl⟩,d3,x,rfl,⟨t,rfl⟩,d4,x,rfl,rfl,rfl⟩:=zaj zeY (zaj zcn (zaj zcn (zaj (zaW _) zdg))) _ _ _ _ hc;exact⟨s,t,p,by rw[e];rfl⟩
theorem zoe {r:List Tok} {d:List D} {r':List Tok} (h:zbY r= .ok (d,r')):zgq d:=by
 obtain⟨c,hc,rfl⟩:=zby h;obtain⟨d,e,d1,x,rfl,⟨p,rfl⟩,d2,x,rfl,⟨s,rfl⟩,d3,x,rfl,rfl,d4,x,rfl,⟨t,rfl⟩,d5,x,rfl,rfl,d6,x,rfl,⟨v1,rfl⟩,d7,x,rfl,rfl,d8,x,rfl,⟨v2,rfl⟩,d9,x,rfl,rfl,d10,x,rfl,⟨v3,rfl⟩,d11,x,rfl,rfl,rfl⟩:=zaj zeY (zaj zcn (zaj (zaW _) (zaj zcn (zaj (zaW _) (zaj zbW (zaj (zaW _) (zaj zbW (zaj (zaW _) (zaj zbW (zaj (zaW _) zdg)))))))))) _ _ _ _ hc;exact⟨s,t,v1,v2,v3,p,by rw[e];rfl⟩
theorem zof {r:List Tok} {d:List D} {r':List Tok} (h:zbH r= .ok (d,r')):zev d:=by
 obtain⟨c,hc,rfl⟩:=zby h;obtain⟨d,e,d1,x,rfl,⟨p,rfl⟩,d2,x,rfl,⟨s,rfl⟩,d3,x,rfl,rfl,d4,x,rfl,⟨t,rfl⟩,d5,x,rfl,rfl,d6,x,rfl,⟨u,rfl⟩,d7,x,rfl,rfl,d8,x,rfl,⟨v1,rfl⟩,d9,x,rfl,rfl,d10,x,rfl,⟨v2,rfl⟩,d11,x,rfl,rfl,rfl⟩:=zaj zeY (zaj zcn (zaj (zaW _) (zaj zcn (zaj (zaW _) (zaj zcn (zaj (zaW _) (zaj zbW (zaj (zaW _) (zaj zbW (zaj (zaW _) zdg)))))))))) _ _ _ _ hc;exact⟨s,t,u,v1,v2,p,by rw[e];rfl⟩
theorem zkV {r:List Tok} {d:List D} {r':List Tok} (h:zbm r= .ok (d,r')):zdl d:=by
 obtain⟨c,hc,rfl⟩:=zby h;obtain⟨d,e,d1,x,rfl,⟨p,rfl⟩,d2,x,rfl,⟨s,rfl⟩,d3,x,rfl,rfl,d4,x,rfl,⟨L,rfl,hL⟩,d5,x,rfl,rfl,rfl⟩:=zaj zeY (zaj zcn (zaj (zaW _) (zaj (zdu _ 16 (by decide)) (zaj (zaW _) zdg)))) _ _ _ _ hc;exact⟨s,L,p,by rw[e];rfl,hL⟩
theorem zog {r:List Tok} {d:List D} {r':List Tok} (h:zaV r= .ok (d,r')):zfR d:=by
 obtain⟨d,e,d1,x,rfl,⟨f,rfl⟩,d2,x,rfl,⟨L,rfl,hL⟩,d3,x,rfl,rfl,rfl⟩:=zaj (zqN _) (zaj (zdu _ 4 (by decide)) (zaj (zaW _) zdg)) _ _ _ _ h;exact⟨f,L,by rw[e];rfl,hL⟩
theorem zkW {r:List Tok} {d:List D} {r':List Tok} (h:zbl r= .ok (d,r')):zcI d:=by
 obtain⟨d,e,d1,x,rfl,rfl,d2,x,rfl,⟨R,rfl,hR⟩,d3,x,rfl,rfl,d4,x,rfl,rfl,rfl⟩:=zaj (zaW _) (zaj (zd5 (Q:=zfR) (by decide) (λr d r' h=>zog h)) (zaj zod (zaj (zaW _) zdg))) _ _ _ _ h;exact⟨R,by rw[e];rfl,hR⟩
theorem zoh {r:List Tok} {d:List D} {r':List Tok} (h:zbT r= .ok (d,r')):zeu d:=by
 obtain⟨c,hc,rfl⟩:=zby h;obtain⟨d,e,d1,x,rfl,⟨p,rfl⟩,d2,x,rfl,⟨s,rfl⟩,d3,x,rfl,rfl,d4,x,rfl,⟨v1,rfl⟩,d5,x,rfl,rfl,d6,x,rfl,⟨v2,rfl⟩,d7,x,rfl,rfl,d8,x,rfl,⟨v3,v4,rfl⟩,d9,x,rfl,rfl,d10,x,rfl,⟨v5,rfl⟩,d11,x,rfl,rfl,d12,x,rfl,⟨v6,rfl⟩,d13,x,rfl,rfl,d14,x,rfl,⟨v7,rfl⟩,d15,x,rfl,rfl,d16,x,rfl,⟨v8,rfl⟩,d17,x,rfl,rfl,d18,x,rfl,⟨v9,rfl⟩,d19,x,rfl,rfl,rfl⟩:=zaj zeY (zaj zcn (zaj (zaW _) (zaj zbW (zaj (zaW _) (zaj zbW (zaj (zaW _) (zaj ziO (zaj (zaW _) (zaj zbW (zaj (zaW _) (zaj zkU (zaj (zaW _) (zaj zbW (zaj (zaW _) (zaj zbW (zaj (zaW _) (zaj zbW (zaj (zaW _) zdg)))))))))))))))))) _ _ _ _ hc;exact⟨s,v1,v2,v3,v4,v5,v6,v7,v8,v9,p,by rw[e];rfl⟩
theorem zoi {r:List Tok} {d:List D} {r':List Tok} (h:zb5 r= .ok (d,r')):zfS d:=by
 obtain⟨c,hc,rfl⟩:=zby h;obtain⟨d,e,d1,x,rfl,⟨p,rfl⟩,d2,x,rfl,⟨s,rfl⟩,d3,x,rfl,rfl,d4,x,rfl,⟨H,rfl,hH⟩,d5,x,rfl,⟨P,rfl,hP⟩,d6,x,rfl,⟨Q,rfl,hQ⟩,d7,x,rfl,⟨G,rfl,hG⟩,d8,x,rfl,⟨F,rfl,hF⟩,d9,x,rfl,rfl,rfl⟩:=zaj zeY (zaj zcn (zaj (zaW _) (zaj (zd5 (Q:=zeu) (by decide) (λr d r' h=>zoh h)) (zaj (zd5 (Q:=zgq) (by decide) (λr d r' h=>zoe h)) (zaj (zd5 (Q:=zdl) (by decide) (λr d r' h=>zkV h)) (zaj (zd5 (Q:=zcI) (by decide) (λr d r' h=>zkW h)) (zaj (zd5 (Q:=zgr) (by decide) (λr d r' h=>zqP h)) (zaj (zaW _) zdg)))))))) _ _ _ _ hc;exact⟨s,H,P,Q,G,F,p,by rw[e];rfl,hH,hP,hQ,hG,hF⟩
theorem zqQ:ShC zcT (λd=>∃ Ss x y,d= [.row 48 6 Ss,dI x,dI y]/\Ss.length<=100000/\∀ y∈Ss,zev y):=by
 intro c r c' r' h
 cases r with
 |nil=>simp[zcT,zaX,bad]at h
 |cons t r=>
  by_cases ht:t.s= [97,114,116,101,114,121]
  ·rw[zes ht]at h;obtain⟨d,e,d1,x,rfl,rfl,d2,x,rfl,⟨S,rfl,hS⟩,d3,x,rfl,rfl,d4,x,rfl,⟨v1,rfl⟩,d5,x,rfl,⟨v2,rfl⟩,d6,x,rfl,rfl,d7,x,rfl,rfl,rfl⟩:=zaj (zaW _) (zaj (zd5 (Q:=zev) (by decide) (λr d r' h=>zof h)) (zaj (zaW _) (zaj zbW (zaj zbW (zaj (zaW _) (zaj (zaW _) zdg)))))) _ _ _ _ h;exact⟨_,e,S,v1,v2,rfl,hS⟩
  ·rw[zfQ ht]at h;simp only[Except.ok.injEq,Prod.mk.injEq]at h;exact⟨_,h.1.symm,[],0,0,rfl,by simp,λy hy=>by cases hy⟩
theorem zl5 {l:List UInt8} {cs:List D} (h:N l= .ok cs):ziN cs:=by
 unfold N at h
 cases hT:T l with
 |error x=>rw[hT]at h;cases h
 |ok L=>
  rw[hT]at h;simp only at h;cases hp:zeg L with
  |error x=>rw[hp]at h;cases h
  |ok q=>
   obtain⟨c,s⟩:=q;rw[hp]at h;simp only[Except.ok.injEq]at h;subst h;obtain⟨d,e,d1,x,rfl,rfl,d2,x,rfl,⟨a0,rfl⟩,d3,x,rfl,rfl,d4,x,rfl,⟨a1,rfl⟩,d5,x,rfl,rfl,d6,x,rfl,⟨a2,rfl⟩,d7,x,rfl,rfl,d8,x,rfl,rfl,d9,x,rfl,⟨a3,a4,rfl⟩,d10,x,rfl,rfl,d11,x,rfl,⟨Ns,rfl,hN⟩,d12,x,rfl,⟨Ss,a5,a6,rfl,hS⟩,d13,x,rfl,rfl,rfl⟩:=zaj (zaW _) (zaj zbW (zaj (zaW _) (zaj zbW (zaj (zaW _) (zaj zbW (zaj (zaW _) (zaj (zaW _) (zaj ziO (zaj (zaW _) (zaj (zd5 (Q:=zfS) (by decide) (λr d r' h=>zoi h)) (zaj zqQ (zaj zqO zdg)))))))))))) _ _ _ _ hp;exact⟨a0,a1,a2,a3,a4,Ns,Ss,a5,a6,by rw[e];rfl,hN,hS⟩
end Go.Proofs.YthceiikgecoimaaGreatDoor
namespace Go.Proofs.YthceiikgecoimaaGreatDoor
set_option linter.unusedVariables false
theorem zoj {r:List UInt8} {p:Nat} {e:Int} (h:one r p= .error e):e=4\/e=40:=by
 cases r with
 |nil=>simp[one]at h
 |cons c r=>simp only[one]at h;(repeat' split at h)<;>simp at h<;>omega
theorem zok {acc:List Tok} {x:Except (Int×Nat) (List Tok)} {y:Int×Nat} (h:pre acc x= .error y):x= .error y:=by
 cases x with
 |error z=>exact h
 |ok l=>cases h
theorem zqR {acc L:List Tok} {x:Except (Int×Nat) (List Tok)} (h:pre acc x= .ok L):∃ M,x= .ok M/\L=acc++M:=by
 cases x with
 |error z=>cases h
 |ok l=>simp only[pre,Except.ok.injEq]at h;exact⟨l,rfl,h.symm⟩
theorem zl6:∀(n:Nat) (r:List UInt8) (p:Nat) (e:Int) (a:Nat),r.length<=n->tk r p= .error (e,a)->(e=4\/e=40)/\p<=a/\a<=p+r.length
 |n,r,p,e,a,hn,h=>by
  rw[zeQ]at h;have hs:=zeW false r;split at h
  ·rename_i e' he
   simp only[Except.error.injEq,Prod.mk.injEq]at h;obtain⟨rfl,rfl⟩:=h;exact⟨zoj he,by omega,by omega⟩
  ·rename_i t ht
   split at h
   ·cases h
   ·rename_i hk
    have h':=zok h;rcases(zcS ht).2 with ⟨_,h2⟩|⟨_,_,_,h1,h2,_⟩
    ·rw[h2]at hk;exact absurd rfl hk
    ·have hl:=zep (r.drop (skp false r));cases n with
     |zero=>
      simp only[List.length_drop]at hl;omega
     |succ n=>
      have:=zl6 n _ _ e a (by simp only[List.length_drop]at *;omega) h';simp only[List.length_drop]at *;omega
theorem zdm {r:List UInt8} {p:Nat} {L:List Tok} (h:tk r p= .ok L):
  (L= [⟨0,[],0,((p+r.length:Nat):Int)⟩]/\skp false r=r.length)\/
  (∃ t M,L=t :: M/\one (r.drop (skp false r)) (p+skp false r)= .ok t/\t.k≠0/\t.p=((p+skp false r:Nat):Int)/\t.s=(r.drop (skp false r)).take t.s.length/\1<=t.s.length/\skp false r+t.s.length<=r.length/\tk (r.drop (skp false r+t.s.length)) (p+skp false r+t.s.length)= .ok M):=by
 rw[zeQ]at h;have hs:=zeW false r;split at h
 ·cases h
 ·rename_i t ht
  have h0:=zcS ht;split at h
  ·rename_i hk
   left;rcases h0.2 with ⟨h1,h2⟩|⟨h1,_⟩
   ·have:r.length<=skp false r:=by have:=congrArg List.length h1;simp at this;omega
    have e:skp false r=r.length:=by omega
    rw[e]at h2;simp only[Except.ok.injEq]at h;rw[h2]at h;exact⟨h.symm,e⟩
   ·exact absurd hk h1
  ·rename_i hk
   right;obtain⟨M,hM,rfl⟩:=zqR h;rcases h0.2 with ⟨_,h2⟩|⟨_,_,h3,h4,h5,_⟩
   ·rw[h2]at hk;exact absurd rfl hk
   ·have hl:=zep (r.drop (skp false r));refine⟨t,M,rfl,ht,hk,h0.1,by rw[h4];exact h3,by omega,by simp only[List.length_drop]at hl;omega,?_⟩;rw[List.drop_drop]at hM;exact hM
theorem zqS {l:List UInt8} {e:Int} {a:Nat} (h:T l= .error (e,a)):(e=4\/e=40)/\a<=l.length:=by
 unfold T at h
 split at h
 ·simp only[Except.error.injEq,Prod.mk.injEq]at h;obtain⟨rfl,rfl⟩:=h;exact⟨.inl rfl,by omega⟩
 ·have:=zl6 l.length l 0 e a (Nat.le_refl _) h;exact⟨this.1,by omega⟩
theorem zl7 {l:List UInt8} {L:List Tok} (h:T l= .ok L):l.length<=65536/\tk l 0= .ok L:=by
 unfold T at h
 split at h
 ·cases h
 ·exact⟨by omega,h⟩
theorem zl8:∀(n:Nat) (r:List UInt8) (p:Nat) (L:List Tok),r.length<=n->tk r p= .ok L->1<=L.length/\L.length<=r.length+1
 |n,r,p,L,hn,h=>by
  rcases zdm h with ⟨rfl,_⟩|⟨t,M,rfl,_,_,_,_,h5,h6,h7⟩
  ·simp
  ·cases n with
   |zero=>omega
   |succ n=>
    have:=zl8 n _ _ M (by rw[List.length_drop];omega) h7;rw[List.length_drop]at this;simp only[List.length_cons];omega
theorem zqT {l:List UInt8} {L:List Tok} (h:T l= .ok L):1<=L.length/\L.length<=l.length+1:=zl8 l.length l 0 L (Nat.le_refl _) (zl7 h).2
theorem zsf {l:List UInt8} {x y:Tok} (h:T l= .ok [x,y]) (hs:x.s=l):x.p=0:=by
 rcases zdm (zl7 h).2 with ⟨h1,_⟩|⟨t,M,h0,_,_,h3,_,_,h6,_⟩
 ·simp at h1
 ·simp only[List.cons.injEq]at h0;obtain⟨rfl,_⟩:=h0;rw[h3,hs]at *;omega
end Go.Proofs.YthceiikgecoimaaGreatDoor
