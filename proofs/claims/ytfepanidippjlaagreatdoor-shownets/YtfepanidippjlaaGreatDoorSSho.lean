/- The tokens of a network are read as its tree, with all places 0. -/
import Derived.Test.YtfepanidippjlaaGreatDoorSWrd
import Derived.Test.YtfepanidippjlaaGreatDoorSOks
import Derived.Test.YtfepanidippjlaaGreatDoorSShow
import Derived.Test.YtfepanidippjlaaGreatDoorSNc
namespace Go.Proofs.YtfepanidippjlaaGreatDoor
open Go.RowKit
set_option linter.unusedVariables false
set_option linter.unusedSimpArgs false
set_option maxRecDepth 10000
namespace S
theorem zfY {word:List UInt8} {most:Nat} {body:List Tok→Rs} (hm:Mon body) (K:List D→List Tok) (zf:List D→List D) (t:Tok) (r:List Tok) (ht:t.s≠word):
  ∀(L M:List (List D)),M.length+L.length≤most→(∀ ds∈L,∀ u R,body (K ds++u :: R)= .ok (zf ds,u :: R))→rw_ word most body M (L.flatMap (fun d=>kS word :: K d)++t :: r)= .ok (M++L.map zf,t :: r)
 | [],M,_,_=>by
  rw[List.flatMap_nil,List.nil_append,zdb _ _ _ hm,if_neg ht];simp
 |d :: L,M,hl,hb=>by
  rw[List.flatMap_cons,List.append_assoc,List.cons_append,zdb _ _ _ hm,if_pos (show(kS word).s=word from rfl),if_neg (by simp at hl;omega)];have hne:∃ u R,L.flatMap (fun d=>kS word :: K d)++t :: r=u :: R:=by
   cases L with
   |nil=>exact⟨t,r,rfl⟩
   |cons x xs=>exact⟨_,_,rfl⟩
  obtain⟨u,R,e⟩:=hne;rw[e,hb d List.mem_cons_self u R];simp only;rw[← e,zfY hm K zf t r ht L (M++ [zf d]) (by simp at hl ⊢;omega) (fun x hx=>hb x (List.mem_cons_of_mem _ hx))];simp
theorem zif {word:List UInt8} {most e z:Nat} {body:List Tok→Rs} (hm:Mon body) (K:List D→List Tok) (zf:List D→List D) {t:Tok} {r:List Tok} (ht:t.s≠word) (L:List (List D)) (hl:L.length≤most)
  (hb:∀ ds∈L,∀ u R,body (K ds++u :: R)= .ok (zf ds,u :: R)) (c:List D):zcn word most e z body c (L.flatMap (fun d=>kS word :: K d)++t :: r)= .ok (c++ [.row e z (L.map zf)],t :: r):=by
 unfold zcn
 have:=zfY hm K zf t r ht L [] (by simpa using hl) hb;unfold rw_ at this
 rw[this];simp
theorem zed (most:Nat) (t:Tok) (r:List Tok) (ht:t.s≠ [44]):∀(l:List (List UInt8)) (M:List (List D)) (s:List UInt8),M.length+l.length+1≤most→(∀ x∈s :: l,¬x∈words)→nm most M (kS s :: (l.flatMap (fun x=> [kC 44,kS x])++t :: r))= .ok (M++(s :: l).map (fun x=> [dS x]),t :: r)
 | [],M,s,hl,hw=>by
  rw[zem,if_pos ⟨rfl,hw s List.mem_cons_self⟩,if_neg (by simp at hl;omega)];simp[ht,kS]
 |x :: l,M,s,hl,hw=>by
  rw[zem,if_pos ⟨rfl,hw s List.mem_cons_self⟩,if_neg (by simp at hl;omega)];have ih:=zed most t r ht l (M++ [[dS s]]) x (by simp at hl ⊢;omega) (fun y hy=>hw y (List.mem_cons_of_mem _ hy));have e:(x :: l).flatMap (fun x=> [kC 44,kS x])++t :: r=kC 44 :: kS x :: (l.flatMap (fun x=> [kC 44,kS x])++t :: r):=by simp
  rw[e];simp only[if_true];rw[ih];simp
theorem zfw {e most:Nat} {l:List (List UInt8)} (hl:l≠ []) (hm:l.length≤most) (hw:∀ x∈l,nmB x=true) (c:List D) (R:List Tok):zat e most c (lk l++R)= .ok (c++ [.row e 1 (l.map (fun x=> [dS x]))],kC 59 :: R):=by
 cases l with
 |nil=>exact absurd rfl hl
 |cons s l=>
  have:=zed most (kC 59) R (by decide) l [] s (by simp at hm ⊢;omega) (fun x hx=>(zdS (hw x hx)).2);unfold zat
  unfold nm at this
  have e:lk (s :: l)++R=kS s :: (l.flatMap (fun x=> [kC 44,kS x])++kC 59 :: R):=by simp[lk]
  rw[e,this];simp
theorem zam (s:List UInt8) (k n p:Int) (c:List D) (r:List Tok) (ps:List Sp):sq (zau s :: ps) c (⟨k,s,n,p⟩ :: r)=sq ps c r:=by simp only[sq,zau,if_true]
theorem zbk (s:List UInt8) (c:List D) (r:List Tok) (ps:List Sp) (h:nmB s=true):sq (zax :: ps) c (kS s :: r)=sq ps (c++ [dS s]) r:=by
 have h2:=(zdS h).2;simp[sq,zax,h2]
theorem zaT (n:Int) (c:List D) (r:List Tok) (ps:List Sp):sq (zaY :: ps) c (kN n :: r)=sq ps (c++ [dI n]) r:=rfl
theorem zcH (c:List D) (t:Tok) (r:List Tok) (ps:List Sp) (h:t.p=0):sq (zcY :: ps) c (t :: r)=sq ps (c++ [dI 0]) (t :: r):=by simp only[sq,zcY,h]
theorem zeY (a b:Int) (c:List D) (r:List Tok) (ps:List Sp):sq (zcJ :: ps) c (kN a :: kC 47 :: kN b :: r)=sq ps (c++ [dI a,dI b]) r:=by
 have:zcJ c (kN a :: kC 47 :: kN b :: r)= .ok (c++ [dI a,dI b],r):=by
  unfold zcJ
  rw[zaT,zam,zaT];simp[sq]
 simp only[sq,this]
theorem zgB (n:Int) (c:List D) (r:List Tok) (ps:List Sp) (h:grB n=true):sq (zbg :: ps) c (kG n++r)=sq ps (c++ [dI n]) r:=by
 have:zbg c (kG n++r)= .ok (c++ [dI n],r):=by
  unfold zbg kG
  by_cases h0:n<0
  ·rw[if_pos h0];have e:sq [zbr [45],zaY] [] ([kC 45,kN (-n)]++r)= .ok ([dB true,dI (-n)],r):=rfl;rw[e];simp[dB,dI]
  ·rw[if_neg h0];have hg:=zdm (n:=n) (by unfold nuB;have:=of_decide_eq_true h;exact decide_eq_true ⟨by omega,by omega⟩);have hne:(kN n).s≠ [45]:=by
    intro e
    have h1:=hg.2.1;have e':dg n= [45]:=e;rw[e']at h1;have e2:one [45] 0= .ok ⟨3,[45],0,0⟩:=rfl;rw[e2]at h1;simp at h1
   have e:sq [zbr [45],zaY] [] ([kN n]++r)= .ok ([dB false,dI n],r):=by
    simp only[sq,zbr,List.cons_append,List.nil_append,if_neg hne]
    rfl
   rw[e];simp[dB,dI]
 simp only[sq,this]
theorem zee {e most:Nat} {l:List (List UInt8)} (hl:l≠ []) (hm:l.length≤most) (hw:∀ x∈l,nmB x=true) (c:List D) (R:List Tok) (ps:List Sp):sq (zat e most :: ps) c (lk l++R)=sq ps (c++ [.row e 1 (l.map (fun x=> [dS x]))]) (kC 59 :: R):=by
 simp only[sq,zfw hl hm hw]
theorem zbO {word:List UInt8} {most e z:Nat} {body:List Tok→Rs} (hm:Mon body) (K:List D→List Tok) (zf:List D→List D) {t:Tok} {r:List Tok} (ht:t.s≠word) {L:List (List D)} (hl:L.length≤most)
  (hb:∀ ds∈L,∀ u R,body (K ds++u :: R)= .ok (zf ds,u :: R)) (c:List D) (ps:List Sp) {R:List Tok} (hR:R=t :: r):sq (zcn word most e z body :: ps) c (L.flatMap (fun d=>kS word :: K d)++R)=sq ps (c++ [.row e z (L.map zf)]) R:=by
 subst hR;simp only[sq,zif hm K zf ht L hl hb]
theorem zbP (c:List D) (r:List Tok):sq [] c r= .ok (c,r):=rfl
theorem nxt (L:List (List D)) (word:List UInt8) (K:List D→List Tok) (t:Tok) (r:List Tok):∃ t' r',L.flatMap (fun d=>kS word :: K d)++t :: r=t' :: r'∧(t'.s=word∨t'.s=t.s):=by
 cases L with
 |nil=>exact⟨t,r,rfl,.inr rfl⟩
 |cons x xs=>exact⟨_,_,rfl,.inl rfl⟩
set_option maxHeartbeats 1000000 in
theorem zig {ds:List D} (hs:ShL zc2 ds) (h:za7 ds=true) (R:List Tok):zc7 (zhL ds++R)= .ok (Zl true ds,R):=by
 simp only[ShL,Sh1,zc2]at hs;obtain⟨_,_,rfl,⟨s0,rfl,_⟩,⟨_,_,rfl,⟨v1,rfl,_,_⟩,⟨_,_,rfl,⟨v2,rfl,_,_⟩,⟨_,_,rfl,⟨v3,rfl,_,_⟩,⟨_,_,rfl,⟨v4,rfl,_,_⟩,⟨_,_,rfl,⟨v5,rfl,_,_⟩,⟨_,_,rfl,⟨v6,rfl,_,_⟩,⟨_,_,rfl,⟨v7,rfl,_,_⟩,⟨_,_,rfl,⟨v8,rfl,_,_⟩,⟨_,_,rfl,⟨v9,rfl,_,_⟩,⟨_,_,rfl,⟨v10,rfl,_,_⟩,rfl⟩⟩⟩⟩⟩⟩⟩⟩⟩⟩⟩:=hs;have n0:=zal h;have g6:=zal (zac h);clear h;simp only[zhL,gt,List.getD_cons_zero,List.getD_cons_succ,zcu,fI,dI,List.cons_append,List.nil_append,List.append_assoc]at *;unfold zc7 zcj
 rw[zcH _ _ _ _ rfl];rw[zbk _ _ _ _ n0];rw[zam];rw[zaT];rw[zam];rw[zaT];rw[zam];rw[zeY];rw[zam];rw[zaT];rw[zam];rw[zgB _ _ _ _ g6];rw[zam];rw[zaT];rw[zam];rw[zaT];rw[zam];rw[zaT];rw[zam];rw[zbP];simp[rot,Zl,Z,dI,dS]
set_option maxHeartbeats 1000000 in
theorem zih {ds:List D} (hs:ShL zfO ds) (h:zbx ds=true) (R:List Tok):zc8 (zfk ds++R)= .ok (Zl true ds,R):=by
 simp only[ShL,Sh1,zfO]at hs;obtain⟨_,_,rfl,⟨s0,rfl,_⟩,⟨_,_,rfl,⟨s1,rfl,_⟩,⟨_,_,rfl,⟨v2,rfl,_,_⟩,⟨_,_,rfl,⟨v3,rfl,_,_⟩,⟨_,_,rfl,⟨v4,rfl,_,_⟩,⟨_,_,rfl,⟨v5,rfl,_,_⟩,rfl⟩⟩⟩⟩⟩⟩:=hs;have n0:=zal h;have n1:=zal (zac h);clear h;simp only[zfk,gt,List.getD_cons_zero,List.getD_cons_succ,zcu,fI,dI,List.cons_append,List.nil_append,List.append_assoc]at *;unfold zc8 zcj
 rw[zcH _ _ _ _ rfl];rw[zbk _ _ _ _ n0];rw[zam];rw[zbk _ _ _ _ n1];rw[zam];rw[zaT];rw[zam];rw[zaT];rw[zam];rw[zaT];rw[zam];rw[zbP];simp[rot,Zl,Z,dI,dS]
set_option maxHeartbeats 1000000 in
theorem zjC {ds:List D} (hs:ShL zfP ds) (h:zd7 ds=true) (R:List Tok):zgV (zjj ds++R)= .ok (Zl true ds,R):=by
 simp only[ShL,Sh1,zfP]at hs;obtain⟨_,_,rfl,⟨s0,rfl,_⟩,⟨_,_,rfl,⟨s1,rfl,_⟩,⟨_,_,rfl,⟨v2,rfl,_,_⟩,rfl⟩⟩⟩:=hs;have n0:=zal h;have n1:=zac h;clear h;simp only[zjj,gt,List.getD_cons_zero,List.getD_cons_succ,zcu,fI,dI,List.cons_append,List.nil_append,List.append_assoc]at *;unfold zgV zcj
 rw[zcH _ _ _ _ rfl];rw[zbk _ _ _ _ n0];rw[zbk _ _ _ _ n1];rw[zam];rw[zbP];simp[rot,Zl,Z,dI,dS]
set_option maxHeartbeats 1000000 in
theorem zii {ds:List D} (hs:ShL zcR ds) (h:zbv ds=true) (R:List Tok):zcO (zhM ds++R)= .ok (Zl true ds,R):=by
 simp only[ShL,Sh1,zcR]at hs;obtain⟨_,_,rfl,⟨s0,rfl,_⟩,⟨_,_,rfl,⟨s1,rfl,_⟩,⟨_,_,rfl,⟨s2,rfl,_⟩,⟨_,_,rfl,⟨v3,rfl,_,_⟩,⟨_,_,rfl,⟨v4,rfl,_,_⟩,⟨_,_,rfl,⟨v5,rfl,_,_⟩,rfl⟩⟩⟩⟩⟩⟩:=hs;have n0:=zal h;have n1:=zal (zac h);have n2:=zal (zac (zac h));clear h;simp only[zhM,gt,List.getD_cons_zero,List.getD_cons_succ,zcu,fI,dI,List.cons_append,List.nil_append,List.append_assoc]at *;unfold zcO zcj
 rw[zcH _ _ _ _ rfl];rw[zbk _ _ _ _ n0];rw[zam];rw[zbk _ _ _ _ n1];rw[zam];rw[zbk _ _ _ _ n2];rw[zam];rw[zaT];rw[zam];rw[zaT];rw[zam];rw[zbP];simp[rot,Zl,Z,dI,dS]
theorem zij {L:List (List D)} (h:∀ ds∈L,ShL zbK ds):(L.map (fun e=>tS (gt e 0))).map (fun x=> [dS x])=Zss (plc 1) L:=by
 rw[zcd,List.map_map];apply List.map_congr_left;intro x hx
 have hs:=h x hx;simp only[ShL,Sh1,zbK]at hs;obtain⟨_,_,rfl,⟨s0,rfl,_⟩,rfl⟩:=hs;simp[gt,tS,fS,dS,Zl,Z,plc,sv]
theorem zgC {ds:List D} (hs:ShL zbD ds) (h:zbm ds=true) (R:List Tok):zcg (zdn ds++R)= .ok (Zl true ds,R):=by
 simp only[ShL,Sh1,zbD]at hs;obtain⟨_,_,rfl,⟨s0,rfl,_⟩,⟨_,_,rfl,⟨L1,rfl,_,q1⟩,⟨_,_,rfl,⟨v2,rfl,_,_⟩,rfl⟩⟩⟩:=hs;have n0:=zal h;obtain⟨h1,h2,h3⟩:=zci (by decide) (zac h);simp only[zdn,gt,List.getD_cons_zero,List.getD_cons_succ,zcu,List.cons_append,List.nil_append,List.append_assoc]at *;have hz:=hide (zij q1);unfold zcg zcj
 rw[zcH _ _ _ _ rfl,zbk _ _ _ _ n0,zam,zee h1 h3 h2,zam,zbP];unfold nms
 simp only[fL];rw[uq hz];simp[rot,Zl,Z,dI,dS]
theorem zik {ds:List D} (hs:ShL zeG ds) (h:zdq ds=true) (R:List Tok):zaX (zgi ds++R)= .ok (Zl false ds,R):=by
 simp only[ShL,Sh1,zeG]at hs;obtain⟨_,_,rfl,⟨f0,rfl⟩,⟨_,_,rfl,⟨L1,rfl,_,q1⟩,rfl⟩⟩:=hs;obtain⟨h1,h2,h3⟩:=zci (by decide) h;have hz:=zij q1;have hne:∀ R',∃ t r,lk (nms (.row 9 1 L1))++R'=t :: r∧t.s≠ [102,114,101,101]:=by
  intro R'
  simp only[gt,List.getD_cons_zero,List.getD_cons_succ]at h1 h2;cases e:nms (.row 9 1 L1)with
  |nil=>exact absurd e h1
  |cons s l=>
   refine⟨kS s,_,rfl,?_⟩;intro e2
   have:s= [102,114,101,101]:=e2;have h9:=h2 s (by rw[e];exact List.mem_cons_self);rw[this]at h9
   revert h9
   decide
 have hf:sq [zbr [102,114,101,101],zat 9 4,zau [59]] [] (zgi [dB f0,.row 9 1 L1]++R)=sq [zat 9 4,zau [59]] [dB f0] (lk (nms (.row 9 1 L1))++R):=by
  unfold zgi
  cases f0
  ·obtain⟨t,r,e,ht⟩:=hne R;simp only[gt,List.getD_cons_zero,List.getD_cons_succ,fB,dB,Bool.false_eq_true,if_false,List.nil_append];rw[e];simp only[sq,zbr,if_neg ht]
   rfl
  ·rfl
 unfold zaX
 rw[hf];simp only[gt,List.getD_cons_zero,List.getD_cons_succ]at h1 h2 h3;rw[zee h1 h3 h2,zam,zbP];unfold nms
 simp only[fL];rw[hz];simp[Zl,Z,dB]
theorem zgD {ds:List D} (hs:ShL zbE ds) (h:zbT ds=true) (R:List Tok):zb1 (zc3 ds++R)= .ok (Zl false ds,R):=by
 simp only[ShL,Sh1,zbE]at hs;obtain⟨_,_,rfl,⟨L0,rfl,_,q0⟩,rfl⟩:=hs;obtain⟨⟨h1,h2⟩,h3⟩:=zag h;simp only[zc3,gt,List.getD_cons_zero,fL,List.cons_append,List.nil_append,List.append_assoc]at *;unfold zb1
 rw[zam,zbO za6 zgi (Zl false) (t:=kC 125) (r:=R) (by decide) h2 (fun d hd u R=>zik (q0 d hd) (h3 d hd) _) _ _ rfl];have e:∀(c:List (List D)) r,c≠ []→sq (zcK :: [zau [125]]) [D.row 93 2 c] r=sq [zau [125]] [D.row 93 2 c] r:=by
  intro c r hc
  cases c with
  |nil=>exact absurd rfl hc
  |cons x xs=>rfl
 rw[List.nil_append,e _ _ (by intro e;rw[List.map_eq_nil_iff]at e;rw[e]at h1;simp at h1),zam,zbP];simp[Zl,Z,zcd,plc]
set_option maxHeartbeats 1000000 in
theorem zeZ {ds:List D} (hs:ShL zbL ds) (h:zbR ds=true) (R:List Tok):zc9 (zgj ds++R)= .ok (Zl true ds,R):=by
 simp only[ShL,Sh1,zbL]at hs;obtain⟨_,_,rfl,⟨s0,rfl,_⟩,⟨_,_,rfl,⟨L1,rfl,_,q1⟩,⟨_,_,rfl,⟨L2,rfl,_,q2⟩,⟨_,_,rfl,⟨L3,rfl,_,q3⟩,⟨_,_,rfl,⟨L4,rfl,_,q4⟩,⟨_,_,rfl,⟨L5,rfl,_,q5⟩,⟨_,_,rfl,⟨v6,rfl,_,_⟩,rfl⟩⟩⟩⟩⟩⟩⟩:=hs;have n0:=zal h;obtain⟨⟨_,l1⟩,h1⟩:=zag (zal (zac h));obtain⟨⟨_,l2⟩,h2⟩:=zag (zal (zac (zac h)));obtain⟨⟨_,l3⟩,h3⟩:=zag (zal (zac (zac (zac h))));obtain⟨⟨_,l4⟩,h4⟩:=zag (zal (zac (zac (zac (zac h)))));obtain⟨⟨_,l5⟩,h5⟩:=zag (zac (zac (zac (zac (zac h)))));clear h;simp only[zgj,gt,List.getD_cons_zero,List.getD_cons_succ,zcu,fL,List.cons_append,List.nil_append,List.append_assoc]at *;unfold zc9 zcj
 rw[zcH _ _ _ _ rfl,zbk _ _ _ _ n0,zam];obtain⟨t5,r5,e5,w5⟩:=nxt L5 [102,111,101] zjj (kC 125) R;obtain⟨t4,r4,e4,w4⟩:=nxt L4 [103,114,111,117,112] zc3 t5 r5;obtain⟨t3,r3,e3,w3⟩:=nxt L3 [112,104,97,115,101] zdn t4 r4;obtain⟨t2,r2,e2,w2⟩:=nxt L2 [119,97,108,107] zfk t3 r3;have f5:=e5;have f4:List.flatMap (fun d=>kS [103,114,111,117,112] :: zc3 d) L4++(List.flatMap (fun d=>kS [102,111,101] :: zjj d) L5++kC 125 :: R)=t4 :: r4:=by rw[f5,e4]
 have f3:List.flatMap (fun d=>kS [112,104,97,115,101] :: zdn d) L3++(List.flatMap (fun d=>kS [103,114,111,117,112] :: zc3 d) L4++(List.flatMap (fun d=>kS [102,111,101] :: zjj d) L5++kC 125 :: R))=t3 :: r3:=by rw[f4,e3]
 have f2:List.flatMap (fun d=>kS [119,97,108,107] :: zfk d) L2++(List.flatMap (fun d=>kS [112,104,97,115,101] :: zdn d) L3++(List.flatMap (fun d=>kS [103,114,111,117,112] :: zc3 d) L4++(List.flatMap (fun d=>kS [102,111,101] :: zjj d) L5++kC 125 :: R)))=t2 :: r2:=by rw[f3,e2]
 have d5:t5.s= [102,111,101]∨t5.s= [125]:=w5;have d4:t4.s= [103,114,111,117,112]∨t4.s= [102,111,101]∨t4.s= [125]:=by rcases w4 with h|h;exact .inl h;rw[h];exact .inr d5
 have d3:t3.s= [112,104,97,115,101]∨t3.s= [103,114,111,117,112]∨t3.s= [102,111,101]∨t3.s= [125]:=by rcases w3 with h|h;exact .inl h;rw[h];exact .inr d4
 have d2:t2.s= [119,97,108,107]∨t2.s= [112,104,97,115,101]∨t2.s= [103,114,111,117,112]∨t2.s= [102,111,101]∨t2.s= [125]:=by rcases w2 with h|h;exact .inl h;rw[h];exact .inr d3
 rw[zbO zbI zhL (Zl true) (t:=t2) (r:=r2) (by rcases d2 with h|h|h|h|h<;>rw[h]<;>decide) l1 (fun d hd u R=>zig (q1 d hd) (h1 d hd) _) _ _ f2];rw[zbO zbH zfk (Zl true) (t:=t3) (r:=r3) (by rcases d3 with h|h|h|h<;>rw[h]<;>decide) l2 (fun d hd u R=>zih (q2 d hd) (h2 d hd) _) _ _ f3];rw[zbO zcp zdn (Zl true) (t:=t4) (r:=r4) (by rcases d4 with h|h|h<;>rw[h]<;>decide) l3 (fun d hd u R=>zgC (q3 d hd) (h3 d hd) _) _ _ f4];rw[zbO zbp zc3 (Zl false) (t:=t5) (r:=r5) (by rcases d5 with h|h<;>rw[h]<;>decide) l4 (fun d hd u R=>zgD (q4 d hd) (h4 d hd) _) _ _ f5];rw[zbO zdI zjj (Zl true) (t:=kC 125) (r:=R) (by decide) l5 (fun d hd u R=>zjC (q5 d hd) (h5 d hd) _) _ _ rfl];rw[zam,zbP];simp[rot,Zl,Z,dI,dS,zcd,plc]
set_option maxHeartbeats 1000000 in
theorem zfZ {ds:List D} (hs:ShL zct ds) (h:zcs ds=true):zg7 (zmz ds++ [⟨0,[],0,0⟩])= .ok (ds.map Z,[⟨0,[],0,0⟩]):=by
 unfold zmz
 obtain⟨A,hA⟩:∃ A,(zbW ds∧A=znk ds∨¬zbW ds∧A= [])∧(if zbW ds then znk ds else [])=A:=by
  by_cases ha:zbW ds
  ·exact⟨znk ds,.inl ⟨ha,rfl⟩,if_pos ha⟩
  ·exact⟨[],.inr ⟨ha,rfl⟩,if_neg ha⟩
 rw[hA.2];have hA:=hA.1;simp only[ShL,Sh1,zct]at hs;obtain⟨_,_,rfl,⟨v0,rfl,_,_⟩,⟨_,_,rfl,⟨v1,rfl,_,_⟩,⟨_,_,rfl,⟨v2,rfl,_,_⟩,⟨_,_,rfl,⟨v3,rfl,_,_⟩,⟨_,_,rfl,⟨v4,rfl,_,_⟩,⟨_,_,rfl,⟨L5,rfl,_,q5⟩,⟨_,_,rfl,⟨L6,rfl,_,q6⟩,⟨_,_,rfl,⟨v7,rfl,_,_⟩,⟨_,_,rfl,⟨v8,rfl,_,_⟩,rfl⟩⟩⟩⟩⟩⟩⟩⟩⟩:=hs;obtain⟨⟨_,l5⟩,h5⟩:=zag (zal (zac h));obtain⟨⟨_,l6⟩,h6⟩:=zag (zac (zac h));clear h;simp only[gt,List.getD_cons_zero,List.getD_cons_succ,fL,fI,dI,List.cons_append,List.nil_append,List.append_assoc]at *;unfold zg7
 rw[zam,zaT,zam,zaT,zam,zaT,zam,zam,zeY,zam];have hend:∀ c,sq [zel] c [(⟨0,[],0,0⟩:Tok)]= .ok (c,[⟨0,[],0,0⟩]):=fun c=>rfl
 rcases hA with ⟨ha,rfl⟩|⟨ha,rfl⟩
 ·simp only[znk,gt,List.getD_cons_zero,List.getD_cons_succ,fL,fI,List.cons_append,List.nil_append,List.append_assoc];rw[zbO zbJ zgj (Zl true) (t:=kS [97,114,116,101,114,121]) (by decide) l5 (fun d hd u R=>zeZ (q5 d hd) (h5 d hd) _) _ _ rfl];have e1:∀ c r,zdX c (kS [97,114,116,101,114,121] :: r)=sq [zau [123],zcn [115,116,111,112] 12 49 6 zcO,zau [119,101,105,103,104,116,115],zaY,zaY,zau [59],zau [125]] c r:=fun c r=>rfl
  have e2:∀ c r x,zdX c r= .ok x→sq (zdX :: [zel]) c r=sq [zel] x.1 x.2:=fun c r x hx=>by simp only[sq,hx]
  rw[e2 _ _ _ (by rw[e1,zam,zbO zdr zhM (Zl true) (t:=kS [119,101,105,103,104,116,115]) (by decide) l6 (fun d hd u R=>zii (q6 d hd) (h6 d hd) _) _ _ rfl,zam,zaT,zaT,zam,zam,zbP]),hend];simp[Z,dI,zcd,plc]
 ·simp only[List.nil_append];rw[zbO zbJ zgj (Zl true) (t:=⟨0,[],0,0⟩) (r:= []) (by decide) l5 (fun d hd u R=>zeZ (q5 d hd) (h5 d hd) _) _ _ rfl];have e1:∀ c,sq (zdX :: [zel]) c [(⟨0,[],0,0⟩:Tok)]= .ok (c++ [.row 49 6 [],dI 0,dI 0],[⟨0,[],0,0⟩]):=fun c=>rfl
  rw[e1];unfold zbW at ha
  simp only[gt,List.getD_cons_zero,List.getD_cons_succ,fL,fI,not_or,Decidable.not_not]at ha;obtain⟨ha,rfl,rfl⟩:=ha;have:L6= []:=List.eq_nil_of_length_eq_zero (by omega);subst this;simp[Z,dI,zcd,plc,Zss]
end S
namespace S
theorem zoP {L:List (List D)} {e:Nat} (h:∀ ds∈L,ShL zbK ds):nms (Z (.row e 1 L))=nms (.row e 1 L):=by
 unfold nms
 simp only[Z,fL];rw[zcd,List.map_map];apply List.map_congr_left;intro x hx
 have hs:=h x hx;simp only[ShL,Sh1,zbK]at hs;obtain⟨_,_,rfl,⟨s0,rfl,_⟩,rfl⟩:=hs;simp[gt,Zl,Z,plc,dS]
theorem zdo {W:List D→List (List UInt8)} {bb:Bool} {L:List (List D)} (h:∀ ds∈L,W (Zl bb ds)=W ds):(Zss bb L).flatMap W=L.flatMap W:=by
 rw[zcd,List.flatMap_map]
 induction L with
 |nil=>rfl
 |cons d L ih=>rw[List.flatMap_cons,List.flatMap_cons,h d List.mem_cons_self,ih (fun x hx=>h x (List.mem_cons_of_mem _ hx))]
theorem zmM {ds:List D} (hs:ShL zc2 ds):zb6 (Zl true ds)=zb6 ds:=by
 simp only[ShL,Sh1,zc2]at hs;obtain⟨_,_,rfl,⟨s0,rfl,_⟩,⟨_,_,rfl,⟨v1,rfl,_,_⟩,⟨_,_,rfl,⟨v2,rfl,_,_⟩,⟨_,_,rfl,⟨v3,rfl,_,_⟩,⟨_,_,rfl,⟨v4,rfl,_,_⟩,⟨_,_,rfl,⟨v5,rfl,_,_⟩,⟨_,_,rfl,⟨v6,rfl,_,_⟩,⟨_,_,rfl,⟨v7,rfl,_,_⟩,⟨_,_,rfl,⟨v8,rfl,_,_⟩,⟨_,_,rfl,⟨v9,rfl,_,_⟩,⟨_,_,rfl,⟨v10,rfl,_,_⟩,rfl⟩⟩⟩⟩⟩⟩⟩⟩⟩⟩⟩:=hs;simp[zb6,gt,Zl,Z,dS,dI]
theorem zmN {ds:List D} (hs:ShL zfO ds):zcS (Zl true ds)=zcS ds:=by
 simp only[ShL,Sh1,zfO]at hs;obtain⟨_,_,rfl,⟨s0,rfl,_⟩,⟨_,_,rfl,⟨s1,rfl,_⟩,⟨_,_,rfl,⟨v2,rfl,_,_⟩,⟨_,_,rfl,⟨v3,rfl,_,_⟩,⟨_,_,rfl,⟨v4,rfl,_,_⟩,⟨_,_,rfl,⟨v5,rfl,_,_⟩,rfl⟩⟩⟩⟩⟩⟩:=hs;simp[zcS,gt,Zl,Z,dS,dI]
theorem zoQ {ds:List D} (hs:ShL zfP ds):zfj (Zl true ds)=zfj ds:=by
 simp only[ShL,Sh1,zfP]at hs;obtain⟨_,_,rfl,⟨s0,rfl,_⟩,⟨_,_,rfl,⟨s1,rfl,_⟩,⟨_,_,rfl,⟨v2,rfl,_,_⟩,rfl⟩⟩⟩:=hs;simp[zfj,gt,Zl,Z,dS,dI]
theorem zmO {ds:List D} (hs:ShL zcR ds):zcT (Zl true ds)=zcT ds:=by
 simp only[ShL,Sh1,zcR]at hs;obtain⟨_,_,rfl,⟨s0,rfl,_⟩,⟨_,_,rfl,⟨s1,rfl,_⟩,⟨_,_,rfl,⟨s2,rfl,_⟩,⟨_,_,rfl,⟨v3,rfl,_,_⟩,⟨_,_,rfl,⟨v4,rfl,_,_⟩,⟨_,_,rfl,⟨v5,rfl,_,_⟩,rfl⟩⟩⟩⟩⟩⟩:=hs;simp[zcT,gt,Zl,Z,dS,dI]
theorem zjD {ds:List D} (hs:ShL zbD ds):zbF (Zl true ds)=zbF ds:=by
 simp only[ShL,Sh1,zbD]at hs;obtain⟨_,_,rfl,⟨s0,rfl,_⟩,⟨_,_,rfl,⟨L1,rfl,_,q1⟩,⟨_,_,rfl,⟨v2,rfl,_,_⟩,rfl⟩⟩⟩:=hs;have:=zoP (e:=9) q1;simp only[zbF,gt,Zl,List.isEmpty_cons,Bool.and_false,Bool.false_eq_true,if_false,List.getD_cons_zero,List.getD_cons_succ,this]
 rfl
theorem zmP {ds:List D} (hs:ShL zeG ds):zcL (Zl false ds)=zcL ds:=by
 simp only[ShL,Sh1,zeG]at hs;obtain⟨_,_,rfl,⟨f0,rfl⟩,⟨_,_,rfl,⟨L1,rfl,_,q1⟩,rfl⟩⟩:=hs;have:=zoP (e:=9) q1;simp only[zcL,gt,Zl,Bool.false_and,Bool.false_eq_true,if_false,List.getD_cons_zero,List.getD_cons_succ,this]
 rfl
theorem zjE {ds:List D} (hs:ShL zbE ds):za9 (Zl false ds)=za9 ds:=by
 simp only[ShL,Sh1,zbE]at hs;obtain⟨_,_,rfl,⟨L0,rfl,_,q0⟩,rfl⟩:=hs;have e:(fL (Z (.row 93 2 L0))).flatMap zcL=L0.flatMap zcL:=zdo (bb:=false) (fun x hx=>zmP (q0 x hx));simp only[za9,gt,Zl,Bool.false_and,Bool.false_eq_true,if_false,List.getD_cons_zero,e]
 rfl
theorem zmQ {ds:List D} (hs:ShL zbL ds):zbM (Zl true ds)=zbM ds:=by
 simp only[ShL,Sh1,zbL]at hs;obtain⟨_,_,rfl,⟨s0,rfl,_⟩,⟨_,_,rfl,⟨L1,rfl,_,q1⟩,⟨_,_,rfl,⟨L2,rfl,_,q2⟩,⟨_,_,rfl,⟨L3,rfl,_,q3⟩,⟨_,_,rfl,⟨L4,rfl,_,q4⟩,⟨_,_,rfl,⟨L5,rfl,_,q5⟩,⟨_,_,rfl,⟨v6,rfl,_,_⟩,rfl⟩⟩⟩⟩⟩⟩⟩:=hs;have e1:(fL (Z (.row 84 11 L1))).flatMap zb6=L1.flatMap zb6:=zdo (bb:=true) (fun x hx=>zmM (q1 x hx));have e2:(fL (Z (.row 86 6 L2))).flatMap zcS=L2.flatMap zcS:=zdo (bb:=true) (fun x hx=>zmN (q2 x hx));have e3:(fL (Z (.row 88 3 L3))).flatMap zbF=L3.flatMap zbF:=zdo (bb:=true) (fun x hx=>zjD (q3 x hx));have e4:(fL (Z (.row 91 1 L4))).flatMap za9=L4.flatMap za9:=zdo (bb:=false) (fun x hx=>zjE (q4 x hx));have e5:(fL (Z (.row 95 3 L5))).flatMap zfj=L5.flatMap zfj:=zdo (bb:=true) (fun x hx=>zoQ (q5 x hx));simp only[zbM,gt,Zl,List.isEmpty_cons,Bool.and_false,Bool.false_eq_true,if_false,List.getD_cons_zero,List.getD_cons_succ,e1,e2,e3,e4,e5];simp only[Z,dS,fL]
theorem zkk {ds:List D} (hs:ShL zct ds):zdB (ds.map Z)=zdB ds:=by
 simp only[ShL,Sh1,zct]at hs;obtain⟨_,_,rfl,⟨v0,rfl,_,_⟩,⟨_,_,rfl,⟨v1,rfl,_,_⟩,⟨_,_,rfl,⟨v2,rfl,_,_⟩,⟨_,_,rfl,⟨v3,rfl,_,_⟩,⟨_,_,rfl,⟨v4,rfl,_,_⟩,⟨_,_,rfl,⟨L5,rfl,_,q5⟩,⟨_,_,rfl,⟨L6,rfl,_,q6⟩,⟨_,_,rfl,⟨v7,rfl,_,_⟩,⟨_,_,rfl,⟨v8,rfl,_,_⟩,rfl⟩⟩⟩⟩⟩⟩⟩⟩⟩:=hs;have e5:(fL (Z (.row 46 7 L5))).flatMap zbM=L5.flatMap zbM:=zdo (bb:=true) (fun x hx=>zmQ (q5 x hx));have e6:(fL (Z (.row 49 6 L6))).flatMap zcT=L6.flatMap zcT:=zdo (bb:=true) (fun x hx=>zmO (q6 x hx));have e7:(fL (Z (.row 49 6 L6))).length=L6.length:=zl1 _ _;unfold zdB zhK zbW
 simp only[List.map_cons,List.map_nil,gt,List.getD_cons_zero,List.getD_cons_succ,e5,e6,e7];simp only[Z,dI,fL];congr
theorem zqd {ds es:List D} (hs:ShL zct ds) (he:ShL zct es) (h:ds.map Z=es.map Z):txt ds=txt es:=by unfold txt;rw[← zkk hs,h,zkk he]
theorem apart {ds es:List D} (hs:ShL zct ds) (he:ShL zct es) (hB:zcs ds=true) (hC:zcs es=true):txt ds=txt es↔ds.map Z=es.map Z:=by
 refine⟨fun h=>?_,zqd hs he⟩;obtain⟨L,e,h1,h2⟩:=zki hB;obtain⟨M,f,k1,k2⟩:=zki hC;rw[h,k1]at h1;simp only[Except.ok.injEq]at h1;have hLM:=(List.append_inj' h1 rfl).1;subst hLM;have hK:zmz ds=zmz es:=h2.symm.trans k2;have r1:=zfZ hs hB;have r2:=zfZ he hC;rw[hK,r2]at r1;simp only[Except.ok.injEq,Prod.mk.injEq,and_true]at r1;exact r1.symm
end S
end Go.Proofs.YtfepanidippjlaaGreatDoor
namespace Go.Proofs.YtfepanidippjlaaGreatDoor
open Go.RowKit
attribute [local go_sem ↓] Go.wp_at_zero Go.wp_at_succ
set_option linter.unusedVariables false
set_option linter.unusedSimpArgs false
set_option maxRecDepth 100000
namespace S
def ShP (l:List UInt8) (w:World) (e:Ending) (w':World):Prop:=∃ v,e= .returned (.tuple #[v,.int .i64 0])∧By w' v l∧Keep w w'
theorem zoR (ds:List D):txt ds≠ []:=by simp[txt,zdB,rst]
theorem zf0 {w:World} {ds:List D} {us:List Value} (hs:ShL zct ds) (hB:zcs ds=true) (hr:Rvs w ds us) (ht:Tab w):Calls Tryz.prog 8 #[.agg us.toArray] w (ShP (txt ds) w):=by
 have hs':=hs;have hr':=hr;obtain⟨op,la,hT2⟩:∃ op la,∀ w' p,Keep w w'→w.heap.size≤p→Ps w' p ⟨[],0,[]⟩→Calls Tryz.prog 17 #[.pointer (some ⟨p,0,none⟩),.agg us.toArray] w' fun e w''=>e= .returned (.tuple #[])∧Pr w'' p (txt ds) op la∧Fb p w' w'':=by
  refine⟨(pss ⟨[],0,[]⟩ (zdB ds)).op,sv (pss ⟨[],0,[]⟩ (zdB ds)).la,fun w' p hk hp h=>?_⟩;have:=zmH (nc (p:=p) (Nat.lt_of_lt_of_le ht.lt hp)) hp (Fb.keep hk) hs' hB hr' ⟨[],0,[]⟩ (ht.keep hk) h (zh9 hB) (by have:=zfX hB;simp;omega);refine this.mono ?_;rintro e w'' ⟨rfl,h1,h2⟩;refine⟨rfl,?_,h2⟩;rw[← zia];exact h1
 have hT1:∀ w',Keep w w'→Calls Tryz.prog 10 #[.agg us.toArray] w' fun e w''=>e= .returned (.bool true)∧Keep w' w'':=fun w' hk=>by
  have:=zcw (w:=w') hs' (Rvs.keep hk _ _ hr');rw[hB]at this;exact this
 have hl:=zib hB;have hne:=zoR ds;generalize txt ds=out at *;simp only[ShL,Sh1,zct]at hs;obtain⟨_,_,rfl,⟨v0,rfl,_,_⟩,⟨_,_,rfl,⟨v1,rfl,_,_⟩,⟨_,_,rfl,⟨v2,rfl,_,_⟩,⟨_,_,rfl,⟨v3,rfl,_,_⟩,⟨_,_,rfl,⟨v4,rfl,_,_⟩,⟨_,_,rfl,⟨L5,rfl,_,q5⟩,⟨_,_,rfl,⟨L6,rfl,_,q6⟩,⟨_,_,rfl,⟨v7,rfl,_,_⟩,⟨_,_,rfl,⟨v8,rfl,_,_⟩,rfl⟩⟩⟩⟩⟩⟩⟩⟩⟩:=hs;simp only[Rvs,Rv,dS,dI,dB]at hr;obtain⟨_,_,rfl,rfl,⟨_,_,rfl,rfl,⟨_,_,rfl,rfl,⟨_,_,rfl,rfl,⟨_,_,rfl,rfl,⟨_,_,rfl,⟨x5,z5,rfl,y5,m5⟩,⟨_,_,rfl,⟨x6,z6,rfl,y6,m6⟩,⟨_,_,rfl,rfl,⟨_,_,rfl,rfl,rfl⟩⟩⟩⟩⟩⟩⟩⟩⟩:=hr;exact zjB v0 v1 v2 v3 v4 x5 L5.length z5 x6 L6.length z6 v7 v8 out op la w hne (by omega) (hide hT1) (hide hT2)
theorem zjF {w:World} {ds:List D} {us:List Value} (hs:ShL zct ds) (hB:zcs ds=false) (hr:Rvs w ds us):Calls Tryz.prog 8 #[.agg us.toArray] w fun e w'=>e= .returned (.tuple #[.slice none 0 0,.int .i64 1])∧Keep w w':=by
 have hs':=hs;have hr':=hr;simp only[ShL,Sh1,zct]at hs;obtain⟨_,_,rfl,⟨v0,rfl,_,_⟩,⟨_,_,rfl,⟨v1,rfl,_,_⟩,⟨_,_,rfl,⟨v2,rfl,_,_⟩,⟨_,_,rfl,⟨v3,rfl,_,_⟩,⟨_,_,rfl,⟨v4,rfl,_,_⟩,⟨_,_,rfl,⟨L5,rfl,_,q5⟩,⟨_,_,rfl,⟨L6,rfl,_,q6⟩,⟨_,_,rfl,⟨v7,rfl,_,_⟩,⟨_,_,rfl,⟨v8,rfl,_,_⟩,rfl⟩⟩⟩⟩⟩⟩⟩⟩⟩:=hs;simp only[Rvs,Rv,dS,dI,dB]at hr;obtain⟨_,_,rfl,rfl,⟨_,_,rfl,rfl,⟨_,_,rfl,rfl,⟨_,_,rfl,rfl,⟨_,_,rfl,rfl,⟨_,_,rfl,⟨x5,z5,rfl,y5,m5⟩,⟨_,_,rfl,⟨x6,z6,rfl,y6,m6⟩,⟨_,_,rfl,rfl,⟨_,_,rfl,rfl,rfl⟩⟩⟩⟩⟩⟩⟩⟩⟩:=hr;refine zmK v0 v1 v2 v3 v4 x5 L5.length z5 x6 L6.length z6 v7 v8 w (hide fun w' hk=>?_);have:=zcw (w:=w') hs' (Rvs.keep hk _ _ hr');rw[hB]at this;exact this
end S
end Go.Proofs.YtfepanidippjlaaGreatDoor
