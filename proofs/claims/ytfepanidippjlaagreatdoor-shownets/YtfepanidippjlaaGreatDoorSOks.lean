/- The tokens of a network are read as its tree, with all places 0. -/
import Derived.Test.YtfepanidippjlaaGreatDoorSNum
import Derived.Lib.ItoaLen
namespace Go.Proofs.YtfepanidippjlaaGreatDoor
open Go.RowKit
set_option linter.unusedVariables false
set_option linter.unusedSimpArgs false
set_option maxRecDepth 10000
namespace S
theorem zfZ {word:List UInt8} {most:Nat} {body:List Tok→Rs} (hm:Mon body) (K:List D→List Tok) (zf:List D→List D) (t:Tok) (r:List Tok) (ht:t.s≠word):
  ∀(L M:List (List D)),M.length+L.length≤most→(∀ ds∈L,∀ u R,body (K ds++u :: R)= .ok (zf ds,u :: R))→rw_ word most body M (L.flatMap (fun d=>kS word :: K d)++t :: r)= .ok (M++L.map zf,t :: r)
 | [],M,_,_=>by
  rw[List.flatMap_nil,List.nil_append,zdb _ _ _ hm,if_neg ht];simp
 |d :: L,M,hl,hb=>by
  rw[List.flatMap_cons,List.append_assoc,List.cons_append,zdb _ _ _ hm,if_pos (show(kS word).s=word from rfl),if_neg (by simp at hl;omega)];have hne:∃ u R,L.flatMap (fun d=>kS word :: K d)++t :: r=u :: R:=by
   cases L with
   |nil=>exact⟨t,r,rfl⟩
   |cons x xs=>exact⟨_,_,rfl⟩
  obtain⟨u,R,e⟩:=hne;rw[e,hb d List.mem_cons_self u R];simp only;rw[← e,zfZ hm K zf t r ht L (M++ [zf d]) (by simp at hl ⊢;omega) (fun x hx=>hb x (List.mem_cons_of_mem _ hx))];simp
theorem zh3 {word:List UInt8} {most e z:Nat} {body:List Tok→Rs} (hm:Mon body) (K:List D→List Tok) (zf:List D→List D) {t:Tok} {r:List Tok} (ht:t.s≠word) (L:List (List D)) (hl:L.length≤most)
  (hb:∀ ds∈L,∀ u R,body (K ds++u :: R)= .ok (zf ds,u :: R)) (c:List D):zcn word most e z body c (L.flatMap (fun d=>kS word :: K d)++t :: r)= .ok (c++ [.row e z (L.map zf)],t :: r):=by
 unfold zcn
 have:=zfZ hm K zf t r ht L [] (by simpa using hl) hb;unfold rw_ at this
 rw[this];simp
theorem zea (most:Nat) (t:Tok) (r:List Tok) (ht:t.s≠ [44]):∀(l:List (List UInt8)) (M:List (List D)) (s:List UInt8),M.length+l.length+1≤most→(∀ x∈s :: l,¬x∈words)→nm most M (kS s :: (l.flatMap (fun x=> [kC 44,kS x])++t :: r))= .ok (M++(s :: l).map (fun x=> [dS x]),t :: r)
 | [],M,s,hl,hw=>by
  rw[zem,if_pos ⟨rfl,hw s List.mem_cons_self⟩,if_neg (by simp at hl;omega)];simp[ht,kS]
 |x :: l,M,s,hl,hw=>by
  rw[zem,if_pos ⟨rfl,hw s List.mem_cons_self⟩,if_neg (by simp at hl;omega)];have ih:=zea most t r ht l (M++ [[dS s]]) x (by simp at hl ⊢;omega) (fun y hy=>hw y (List.mem_cons_of_mem _ hy));have e:(x :: l).flatMap (fun x=> [kC 44,kS x])++t :: r=kC 44 :: kS x :: (l.flatMap (fun x=> [kC 44,kS x])++t :: r):=by simp
  rw[e];simp only[if_true];rw[ih];simp
theorem zfn {e most:Nat} {l:List (List UInt8)} (hl:l≠ []) (hm:l.length≤most) (hw:∀ x∈l,nmB x=true) (c:List D) (R:List Tok):zat e most c (lk l++R)= .ok (c++ [.row e 1 (l.map (fun x=> [dS x]))],kC 59 :: R):=by
 cases l with
 |nil=>exact absurd rfl hl
 |cons s l=>
  have:=zea most (kC 59) R (by decide) l [] s (by simp at hm ⊢;omega) (fun x hx=>(zdS (hw x hx)).2);unfold zat
  unfold nm at this
  have e:lk (s :: l)++R=kS s :: (l.flatMap (fun x=> [kC 44,kS x])++kC 59 :: R):=by simp[lk]
  rw[e,this];simp
theorem zam (s:List UInt8) (k n p:Int) (c:List D) (r:List Tok) (ps:List Sp):sq (zau s :: ps) c (⟨k,s,n,p⟩ :: r)=sq ps c r:=by simp only[sq,zau,if_true]
theorem zbk (s:List UInt8) (c:List D) (r:List Tok) (ps:List Sp) (h:nmB s=true):sq (zax :: ps) c (kS s :: r)=sq ps (c++ [dS s]) r:=by
 have h2:=(zdS h).2;simp[sq,zax,h2]
theorem zaT (n:Int) (c:List D) (r:List Tok) (ps:List Sp):sq (zaY :: ps) c (kN n :: r)=sq ps (c++ [dI n]) r:=rfl
theorem zcH (c:List D) (t:Tok) (r:List Tok) (ps:List Sp) (h:t.p=0):sq (zcY :: ps) c (t :: r)=sq ps (c++ [dI 0]) (t :: r):=by simp only[sq,zcY,h]
theorem zeW (a b:Int) (c:List D) (r:List Tok) (ps:List Sp):sq (zcJ :: ps) c (kN a :: kC 47 :: kN b :: r)=sq ps (c++ [dI a,dI b]) r:=by
 have:zcJ c (kN a :: kC 47 :: kN b :: r)= .ok (c++ [dI a,dI b],r):=by
  unfold zcJ
  rw[zaT,zam,zaT];simp[sq]
 simp only[sq,this]
theorem zgr (n:Int) (c:List D) (r:List Tok) (ps:List Sp) (h:grB n=true):sq (zbg :: ps) c (kG n++r)=sq ps (c++ [dI n]) r:=by
 have:zbg c (kG n++r)= .ok (c++ [dI n],r):=by
  unfold zbg kG
  by_cases h0:n<0
  ·rw[if_pos h0];have e:sq [zbr [45],zaY] [] ([kC 45,kN (-n)]++r)= .ok ([dB true,dI (-n)],r):=rfl;rw[e];simp[dB,dI]
  ·rw[if_neg h0];have hg:=zdm (n:=n) (by unfold nuB;have:=of_decide_eq_true h;exact decide_eq_true ⟨by omega,by omega⟩);have hne:(kN n).s≠ [45]:=by
    intro e
    have h1:=hg.2.1;have e':dg n= [45]:=e;rw[e']at h1;have e2:one [45] 0= .ok ⟨3,[45],0,0⟩:=rfl;rw[e2]at h1;simp at h1
   have e:sq [zbr [45],zaY] [] ([kN n]++r)= .ok ([dB false,dI n],r):=by
    simp only[sq,zbr,List.cons_append,List.nil_append,if_neg hne]
    rfl
   rw[e];simp[dB,dI]
 simp only[sq,this]
theorem zeb {e most:Nat} {l:List (List UInt8)} (hl:l≠ []) (hm:l.length≤most) (hw:∀ x∈l,nmB x=true) (c:List D) (R:List Tok) (ps:List Sp):sq (zat e most :: ps) c (lk l++R)=sq ps (c++ [.row e 1 (l.map (fun x=> [dS x]))]) (kC 59 :: R):=by
 simp only[sq,zfn hl hm hw]
theorem zbN {word:List UInt8} {most e z:Nat} {body:List Tok→Rs} (hm:Mon body) (K:List D→List Tok) (zf:List D→List D) {t:Tok} {r:List Tok} (ht:t.s≠word) {L:List (List D)} (hl:L.length≤most)
  (hb:∀ ds∈L,∀ u R,body (K ds++u :: R)= .ok (zf ds,u :: R)) (c:List D) (ps:List Sp) {R:List Tok} (hR:R=t :: r):sq (zcn word most e z body :: ps) c (L.flatMap (fun d=>kS word :: K d)++R)=sq ps (c++ [.row e z (L.map zf)]) R:=by
 subst hR;simp only[sq,zh3 hm K zf ht L hl hb]
theorem zbO (c:List D) (r:List Tok):sq [] c r= .ok (c,r):=rfl
theorem nxt (L:List (List D)) (word:List UInt8) (K:List D→List Tok) (t:Tok) (r:List Tok):∃ t' r',L.flatMap (fun d=>kS word :: K d)++t :: r=t' :: r'∧(t'.s=word∨t'.s=t.s):=by
 cases L with
 |nil=>exact⟨t,r,rfl,.inr rfl⟩
 |cons x xs=>exact⟨_,_,rfl,.inl rfl⟩
set_option maxHeartbeats 1000000 in
theorem zh4 {ds:List D} (hs:ShL zc2 ds) (h:za7 ds=true) (R:List Tok):zc7 (zhL ds++R)= .ok (Zl true ds,R):=by
 simp only[ShL,Sh1,zc2]at hs;obtain⟨_,_,rfl,⟨s0,rfl,_⟩,⟨_,_,rfl,⟨v1,rfl,_,_⟩,⟨_,_,rfl,⟨v2,rfl,_,_⟩,⟨_,_,rfl,⟨v3,rfl,_,_⟩,⟨_,_,rfl,⟨v4,rfl,_,_⟩,⟨_,_,rfl,⟨v5,rfl,_,_⟩,⟨_,_,rfl,⟨v6,rfl,_,_⟩,⟨_,_,rfl,⟨v7,rfl,_,_⟩,⟨_,_,rfl,⟨v8,rfl,_,_⟩,⟨_,_,rfl,⟨v9,rfl,_,_⟩,⟨_,_,rfl,⟨v10,rfl,_,_⟩,rfl⟩⟩⟩⟩⟩⟩⟩⟩⟩⟩⟩:=hs;have n0:=zal h;have g6:=zal (zac h);clear h;simp only[zhL,gt,List.getD_cons_zero,List.getD_cons_succ,zcu,fI,dI,List.cons_append,List.nil_append,List.append_assoc]at *;unfold zc7 zcj
 rw[zcH _ _ _ _ rfl];rw[zbk _ _ _ _ n0];rw[zam];rw[zaT];rw[zam];rw[zaT];rw[zam];rw[zeW];rw[zam];rw[zaT];rw[zam];rw[zgr _ _ _ _ g6];rw[zam];rw[zaT];rw[zam];rw[zaT];rw[zam];rw[zaT];rw[zam];rw[zbO];simp[rot,Zl,Z,dI,dS]
set_option maxHeartbeats 1000000 in
theorem zh5 {ds:List D} (hs:ShL zfO ds) (h:zbx ds=true) (R:List Tok):zc8 (zfk ds++R)= .ok (Zl true ds,R):=by
 simp only[ShL,Sh1,zfO]at hs;obtain⟨_,_,rfl,⟨s0,rfl,_⟩,⟨_,_,rfl,⟨s1,rfl,_⟩,⟨_,_,rfl,⟨v2,rfl,_,_⟩,⟨_,_,rfl,⟨v3,rfl,_,_⟩,⟨_,_,rfl,⟨v4,rfl,_,_⟩,⟨_,_,rfl,⟨v5,rfl,_,_⟩,rfl⟩⟩⟩⟩⟩⟩:=hs;have n0:=zal h;have n1:=zal (zac h);clear h;simp only[zfk,gt,List.getD_cons_zero,List.getD_cons_succ,zcu,fI,dI,List.cons_append,List.nil_append,List.append_assoc]at *;unfold zc8 zcj
 rw[zcH _ _ _ _ rfl];rw[zbk _ _ _ _ n0];rw[zam];rw[zbk _ _ _ _ n1];rw[zam];rw[zaT];rw[zam];rw[zaT];rw[zam];rw[zaT];rw[zam];rw[zbO];simp[rot,Zl,Z,dI,dS]
set_option maxHeartbeats 1000000 in
theorem zjv {ds:List D} (hs:ShL zfP ds) (h:zd7 ds=true) (R:List Tok):zgV (zjj ds++R)= .ok (Zl true ds,R):=by
 simp only[ShL,Sh1,zfP]at hs;obtain⟨_,_,rfl,⟨s0,rfl,_⟩,⟨_,_,rfl,⟨s1,rfl,_⟩,⟨_,_,rfl,⟨v2,rfl,_,_⟩,rfl⟩⟩⟩:=hs;have n0:=zal h;have n1:=zac h;clear h;simp only[zjj,gt,List.getD_cons_zero,List.getD_cons_succ,zcu,fI,dI,List.cons_append,List.nil_append,List.append_assoc]at *;unfold zgV zcj
 rw[zcH _ _ _ _ rfl];rw[zbk _ _ _ _ n0];rw[zbk _ _ _ _ n1];rw[zam];rw[zbO];simp[rot,Zl,Z,dI,dS]
set_option maxHeartbeats 1000000 in
theorem zh6 {ds:List D} (hs:ShL zcR ds) (h:zbv ds=true) (R:List Tok):zcO (zhM ds++R)= .ok (Zl true ds,R):=by
 simp only[ShL,Sh1,zcR]at hs;obtain⟨_,_,rfl,⟨s0,rfl,_⟩,⟨_,_,rfl,⟨s1,rfl,_⟩,⟨_,_,rfl,⟨s2,rfl,_⟩,⟨_,_,rfl,⟨v3,rfl,_,_⟩,⟨_,_,rfl,⟨v4,rfl,_,_⟩,⟨_,_,rfl,⟨v5,rfl,_,_⟩,rfl⟩⟩⟩⟩⟩⟩:=hs;have n0:=zal h;have n1:=zal (zac h);have n2:=zal (zac (zac h));clear h;simp only[zhM,gt,List.getD_cons_zero,List.getD_cons_succ,zcu,fI,dI,List.cons_append,List.nil_append,List.append_assoc]at *;unfold zcO zcj
 rw[zcH _ _ _ _ rfl];rw[zbk _ _ _ _ n0];rw[zam];rw[zbk _ _ _ _ n1];rw[zam];rw[zbk _ _ _ _ n2];rw[zam];rw[zaT];rw[zam];rw[zaT];rw[zam];rw[zbO];simp[rot,Zl,Z,dI,dS]
theorem zh7 {L:List (List D)} (h:∀ ds∈L,ShL zbK ds):(L.map (fun e=>tS (gt e 0))).map (fun x=> [dS x])=Zss (plc 1) L:=by
 rw[zcd,List.map_map];apply List.map_congr_left;intro x hx
 have hs:=h x hx;simp only[ShL,Sh1,zbK]at hs;obtain⟨_,_,rfl,⟨s0,rfl,_⟩,rfl⟩:=hs;simp[gt,tS,fS,dS,Zl,Z,plc,sv]
theorem zgs {ds:List D} (hs:ShL zbD ds) (h:zbm ds=true) (R:List Tok):zcg (zdn ds++R)= .ok (Zl true ds,R):=by
 simp only[ShL,Sh1,zbD]at hs;obtain⟨_,_,rfl,⟨s0,rfl,_⟩,⟨_,_,rfl,⟨L1,rfl,_,q1⟩,⟨_,_,rfl,⟨v2,rfl,_,_⟩,rfl⟩⟩⟩:=hs;have n0:=zal h;obtain⟨h1,h2,h3⟩:=zci (by decide) (zac h);simp only[zdn,gt,List.getD_cons_zero,List.getD_cons_succ,zcu,List.cons_append,List.nil_append,List.append_assoc]at *;have hz:=hide (zh7 q1);unfold zcg zcj
 rw[zcH _ _ _ _ rfl,zbk _ _ _ _ n0,zam,zeb h1 h3 h2,zam,zbO];unfold nms
 simp only[fL];rw[uq hz];simp[rot,Zl,Z,dI,dS]
theorem zh8 {ds:List D} (hs:ShL zeG ds) (h:zdq ds=true) (R:List Tok):zaX (zgi ds++R)= .ok (Zl false ds,R):=by
 simp only[ShL,Sh1,zeG]at hs;obtain⟨_,_,rfl,⟨f0,rfl⟩,⟨_,_,rfl,⟨L1,rfl,_,q1⟩,rfl⟩⟩:=hs;obtain⟨h1,h2,h3⟩:=zci (by decide) h;have hz:=zh7 q1;have hne:∀ R',∃ t r,lk (nms (.row 9 1 L1))++R'=t :: r∧t.s≠ [102,114,101,101]:=by
  intro R'
  simp only[gt,List.getD_cons_zero,List.getD_cons_succ]at h1 h2;cases e:nms (.row 9 1 L1)with
  |nil=>exact absurd e h1
  |cons s l=>
   refine⟨kS s,_,rfl,?_⟩;intro e2
   have:s= [102,114,101,101]:=e2;have h9:=h2 s (by rw[e];exact List.mem_cons_self);rw[this]at h9
   revert h9
   decide
 have hf:sq [zbr [102,114,101,101],zat 9 4,zau [59]] [] (zgi [dB f0,.row 9 1 L1]++R)=sq [zat 9 4,zau [59]] [dB f0] (lk (nms (.row 9 1 L1))++R):=by
  unfold zgi
  cases f0
  ·obtain⟨t,r,e,ht⟩:=hne R;simp only[gt,List.getD_cons_zero,List.getD_cons_succ,fB,dB,Bool.false_eq_true,if_false,List.nil_append];rw[e];simp only[sq,zbr,if_neg ht]
   rfl
  ·rfl
 unfold zaX
 rw[hf];simp only[gt,List.getD_cons_zero,List.getD_cons_succ]at h1 h2 h3;rw[zeb h1 h3 h2,zam,zbO];unfold nms
 simp only[fL];rw[hz];simp[Zl,Z,dB]
theorem zgt {ds:List D} (hs:ShL zbE ds) (h:zbT ds=true) (R:List Tok):zb1 (zc3 ds++R)= .ok (Zl false ds,R):=by
 simp only[ShL,Sh1,zbE]at hs;obtain⟨_,_,rfl,⟨L0,rfl,_,q0⟩,rfl⟩:=hs;obtain⟨⟨h1,h2⟩,h3⟩:=zag h;simp only[zc3,gt,List.getD_cons_zero,fL,List.cons_append,List.nil_append,List.append_assoc]at *;unfold zb1
 rw[zam,zbN za6 zgi (Zl false) (t:=kC 125) (r:=R) (by decide) h2 (fun d hd u R=>zh8 (q0 d hd) (h3 d hd) _) _ _ rfl];have e:∀(c:List (List D)) r,c≠ []→sq (zcK :: [zau [125]]) [D.row 93 2 c] r=sq [zau [125]] [D.row 93 2 c] r:=by
  intro c r hc
  cases c with
  |nil=>exact absurd rfl hc
  |cons x xs=>rfl
 rw[List.nil_append,e _ _ (by intro e;rw[List.map_eq_nil_iff]at e;rw[e]at h1;simp at h1),zam,zbO];simp[Zl,Z,zcd,plc]
set_option maxHeartbeats 1000000 in
theorem zeX {ds:List D} (hs:ShL zbL ds) (h:zbR ds=true) (R:List Tok):zc9 (zgj ds++R)= .ok (Zl true ds,R):=by
 simp only[ShL,Sh1,zbL]at hs;obtain⟨_,_,rfl,⟨s0,rfl,_⟩,⟨_,_,rfl,⟨L1,rfl,_,q1⟩,⟨_,_,rfl,⟨L2,rfl,_,q2⟩,⟨_,_,rfl,⟨L3,rfl,_,q3⟩,⟨_,_,rfl,⟨L4,rfl,_,q4⟩,⟨_,_,rfl,⟨L5,rfl,_,q5⟩,⟨_,_,rfl,⟨v6,rfl,_,_⟩,rfl⟩⟩⟩⟩⟩⟩⟩:=hs;have n0:=zal h;obtain⟨⟨_,l1⟩,h1⟩:=zag (zal (zac h));obtain⟨⟨_,l2⟩,h2⟩:=zag (zal (zac (zac h)));obtain⟨⟨_,l3⟩,h3⟩:=zag (zal (zac (zac (zac h))));obtain⟨⟨_,l4⟩,h4⟩:=zag (zal (zac (zac (zac (zac h)))));obtain⟨⟨_,l5⟩,h5⟩:=zag (zac (zac (zac (zac (zac h)))));clear h;simp only[zgj,gt,List.getD_cons_zero,List.getD_cons_succ,zcu,fL,List.cons_append,List.nil_append,List.append_assoc]at *;unfold zc9 zcj
 rw[zcH _ _ _ _ rfl,zbk _ _ _ _ n0,zam];obtain⟨t5,r5,e5,w5⟩:=nxt L5 [102,111,101] zjj (kC 125) R;obtain⟨t4,r4,e4,w4⟩:=nxt L4 [103,114,111,117,112] zc3 t5 r5;obtain⟨t3,r3,e3,w3⟩:=nxt L3 [112,104,97,115,101] zdn t4 r4;obtain⟨t2,r2,e2,w2⟩:=nxt L2 [119,97,108,107] zfk t3 r3;have f5:=e5;have f4:List.flatMap (fun d=>kS [103,114,111,117,112] :: zc3 d) L4++(List.flatMap (fun d=>kS [102,111,101] :: zjj d) L5++kC 125 :: R)=t4 :: r4:=by rw[f5,e4]
 have f3:List.flatMap (fun d=>kS [112,104,97,115,101] :: zdn d) L3++(List.flatMap (fun d=>kS [103,114,111,117,112] :: zc3 d) L4++(List.flatMap (fun d=>kS [102,111,101] :: zjj d) L5++kC 125 :: R))=t3 :: r3:=by rw[f4,e3]
 have f2:List.flatMap (fun d=>kS [119,97,108,107] :: zfk d) L2++(List.flatMap (fun d=>kS [112,104,97,115,101] :: zdn d) L3++(List.flatMap (fun d=>kS [103,114,111,117,112] :: zc3 d) L4++(List.flatMap (fun d=>kS [102,111,101] :: zjj d) L5++kC 125 :: R)))=t2 :: r2:=by rw[f3,e2]
 have d5:t5.s= [102,111,101]∨t5.s= [125]:=w5;have d4:t4.s= [103,114,111,117,112]∨t4.s= [102,111,101]∨t4.s= [125]:=by rcases w4 with h|h;exact .inl h;rw[h];exact .inr d5
 have d3:t3.s= [112,104,97,115,101]∨t3.s= [103,114,111,117,112]∨t3.s= [102,111,101]∨t3.s= [125]:=by rcases w3 with h|h;exact .inl h;rw[h];exact .inr d4
 have d2:t2.s= [119,97,108,107]∨t2.s= [112,104,97,115,101]∨t2.s= [103,114,111,117,112]∨t2.s= [102,111,101]∨t2.s= [125]:=by rcases w2 with h|h;exact .inl h;rw[h];exact .inr d3
 rw[zbN zbI zhL (Zl true) (t:=t2) (r:=r2) (by rcases d2 with h|h|h|h|h<;>rw[h]<;>decide) l1 (fun d hd u R=>zh4 (q1 d hd) (h1 d hd) _) _ _ f2];rw[zbN zbH zfk (Zl true) (t:=t3) (r:=r3) (by rcases d3 with h|h|h|h<;>rw[h]<;>decide) l2 (fun d hd u R=>zh5 (q2 d hd) (h2 d hd) _) _ _ f3];rw[zbN zcp zdn (Zl true) (t:=t4) (r:=r4) (by rcases d4 with h|h|h<;>rw[h]<;>decide) l3 (fun d hd u R=>zgs (q3 d hd) (h3 d hd) _) _ _ f4];rw[zbN zbp zc3 (Zl false) (t:=t5) (r:=r5) (by rcases d5 with h|h<;>rw[h]<;>decide) l4 (fun d hd u R=>zgt (q4 d hd) (h4 d hd) _) _ _ f5];rw[zbN zdI zjj (Zl true) (t:=kC 125) (r:=R) (by decide) l5 (fun d hd u R=>zjv (q5 d hd) (h5 d hd) _) _ _ rfl];rw[zam,zbO];simp[rot,Zl,Z,dI,dS,zcd,plc]
set_option maxHeartbeats 1000000 in
theorem zf0 {ds:List D} (hs:ShL zct ds) (h:zcs ds=true):zg7 (zmz ds++ [⟨0,[],0,0⟩])= .ok (ds.map Z,[⟨0,[],0,0⟩]):=by
 unfold zmz
 obtain⟨A,hA⟩:∃ A,(zbW ds∧A=znk ds∨¬zbW ds∧A= [])∧(if zbW ds then znk ds else [])=A:=by
  by_cases ha:zbW ds
  ·exact⟨znk ds,.inl ⟨ha,rfl⟩,if_pos ha⟩
  ·exact⟨[],.inr ⟨ha,rfl⟩,if_neg ha⟩
 rw[hA.2];have hA:=hA.1;simp only[ShL,Sh1,zct]at hs;obtain⟨_,_,rfl,⟨v0,rfl,_,_⟩,⟨_,_,rfl,⟨v1,rfl,_,_⟩,⟨_,_,rfl,⟨v2,rfl,_,_⟩,⟨_,_,rfl,⟨v3,rfl,_,_⟩,⟨_,_,rfl,⟨v4,rfl,_,_⟩,⟨_,_,rfl,⟨L5,rfl,_,q5⟩,⟨_,_,rfl,⟨L6,rfl,_,q6⟩,⟨_,_,rfl,⟨v7,rfl,_,_⟩,⟨_,_,rfl,⟨v8,rfl,_,_⟩,rfl⟩⟩⟩⟩⟩⟩⟩⟩⟩:=hs;obtain⟨⟨_,l5⟩,h5⟩:=zag (zal (zac h));obtain⟨⟨_,l6⟩,h6⟩:=zag (zac (zac h));clear h;simp only[gt,List.getD_cons_zero,List.getD_cons_succ,fL,fI,dI,List.cons_append,List.nil_append,List.append_assoc]at *;unfold zg7
 rw[zam,zaT,zam,zaT,zam,zaT,zam,zam,zeW,zam];have hend:∀ c,sq [zel] c [(⟨0,[],0,0⟩:Tok)]= .ok (c,[⟨0,[],0,0⟩]):=fun c=>rfl
 rcases hA with ⟨ha,rfl⟩|⟨ha,rfl⟩
 ·simp only[znk,gt,List.getD_cons_zero,List.getD_cons_succ,fL,fI,List.cons_append,List.nil_append,List.append_assoc];rw[zbN zbJ zgj (Zl true) (t:=kS [97,114,116,101,114,121]) (by decide) l5 (fun d hd u R=>zeX (q5 d hd) (h5 d hd) _) _ _ rfl];have e1:∀ c r,zdX c (kS [97,114,116,101,114,121] :: r)=sq [zau [123],zcn [115,116,111,112] 12 49 6 zcO,zau [119,101,105,103,104,116,115],zaY,zaY,zau [59],zau [125]] c r:=fun c r=>rfl
  have e2:∀ c r x,zdX c r= .ok x→sq (zdX :: [zel]) c r=sq [zel] x.1 x.2:=fun c r x hx=>by simp only[sq,hx]
  rw[e2 _ _ _ (by rw[e1,zam,zbN zdr zhM (Zl true) (t:=kS [119,101,105,103,104,116,115]) (by decide) l6 (fun d hd u R=>zh6 (q6 d hd) (h6 d hd) _) _ _ rfl,zam,zaT,zaT,zam,zam,zbO]),hend];simp[Z,dI,zcd,plc]
 ·simp only[List.nil_append];rw[zbN zbJ zgj (Zl true) (t:=⟨0,[],0,0⟩) (r:= []) (by decide) l5 (fun d hd u R=>zeX (q5 d hd) (h5 d hd) _) _ _ rfl];have e1:∀ c,sq (zdX :: [zel]) c [(⟨0,[],0,0⟩:Tok)]= .ok (c++ [.row 49 6 [],dI 0,dI 0],[⟨0,[],0,0⟩]):=fun c=>rfl
  rw[e1];unfold zbW at ha
  simp only[gt,List.getD_cons_zero,List.getD_cons_succ,fL,fI,not_or,Decidable.not_not]at ha;obtain⟨ha,rfl,rfl⟩:=ha;have:L6= []:=List.eq_nil_of_length_eq_zero (by omega);subst this;simp[Z,dI,zcd,plc,Zss]
end S
namespace S
def Bal (x:Int) (ws:List (List UInt8)) (y:Int):Prop:=∀ st:St,st.op=x→oks st ws∧(pss st ws).op=y
theorem zaQ (x:Int):Bal x [] x:=fun st h=>⟨trivial,h⟩
theorem Bal.append {x y z:Int} {a c:List (List UInt8)} (h:Bal x a y) (k:Bal y c z):Bal x (a++c) z:=fun st e=>by
 obtain⟨h1,h2⟩:=h st e;obtain⟨k1,k2⟩:=k (pss st a) h2;exact⟨(zaq a c st).2 ⟨h1,k1⟩,by rw[← zas];exact k2⟩
def Pl (w:List UInt8):Prop:=w≠ [123]∧w≠ [125]
theorem zaf {x:Int} {w:List UInt8} {ws:List (List UInt8)} {y:Int} (h0:0≤x) (h2:x≤2) (h:Pl w) (k:Bal x ws y):Bal x (w :: ws) y:=by
 have:Bal x [w] x:=fun st e=>by
  have e1:op1 st.op w=x:=by unfold op1;rw[if_neg h.2,e]
  refine⟨⟨⟨by rw[e1];exact h0,by rw[e1];exact h2⟩,trivial⟩,?_⟩;show(ps st w).op=x;unfold ps
  rw[if_neg h.1];split<;>exact e1
 exact Bal.append this k
theorem zh9 {x:Int} {ws:List (List UInt8)} {y:Int} (h0:0≤x) (h2:x≤2) (k:Bal (x+1) ws y):Bal x ([123] :: ws) y:=by
 have:Bal x [[123]] (x+1):=fun st e=>by
  have e1:op1 st.op [123]=x:=by unfold op1;rw[if_neg (by decide),e]
  refine⟨⟨⟨by rw[e1];exact h0,by rw[e1];exact h2⟩,trivial⟩,?_⟩;show(ps st [123]).op=x+1;unfold ps
  rw[if_pos rfl,e1]
 exact Bal.append this k
theorem zfo {x:Int} {ws:List (List UInt8)} {y:Int} (h0:1≤x) (h2:x≤3) (k:Bal (x - 1) ws y):Bal x ([125] :: ws) y:=by
 have:Bal x [[125]] (x - 1):=fun st e=>by
  have e1:op1 st.op [125]=x - 1:=by unfold op1;rw[if_pos rfl,e]
  refine⟨⟨⟨by rw[e1];omega,by rw[e1];omega⟩,trivial⟩,?_⟩;show(ps st [125]).op=x - 1;unfold ps
  rw[if_neg (by decide),if_pos (.inl rfl),e1]
 exact Bal.append this k
theorem zbP {x:Int} {f:List D→List (List UInt8)} :∀(L:List (List D)),(∀ d∈L,Bal x (f d) x)→Bal x (L.flatMap f) x
 | [],_=>zaQ x
 |d :: L,h=>by rw[List.flatMap_cons];exact(h d List.mem_cons_self).append (zbP L (fun y hy=>h y (List.mem_cons_of_mem _ hy)))
theorem zbZ {s:List UInt8} {k n:Int} {c:UInt8} (h:Gs s k n) (hk:k≠3) (hc:kd c.toNat=7):s≠ [c]:=by
 rintro rfl;have h1:=h.2.1;simp only[one]at h1;rw[if_neg (by omega),if_neg (by omega),if_pos hc]at h1;simp only[Except.ok.injEq,Tok.mk.injEq]at h1;exact hk h1.1.symm
theorem zbt {s:List UInt8} (h:nmB s=true):Pl s:=⟨zbZ (zhH (zdS h).1) (by decide) (by decide),zbZ (zhH (zdS h).1) (by decide) (by decide)⟩
theorem zbh {n:Int} (h:nuB n=true):Pl (dg n):=⟨zbZ (zdm h) (by decide) (by decide),zbZ (zdm h) (by decide) (by decide)⟩
theorem zoO {n:Int} (h:grB n=true):Pl (dg n):=by
 by_cases h0:n<0
 ·rw[zhJ h0];exact⟨by simp,by simp⟩
 ·exact zbh (by unfold nuB;have:=of_decide_eq_true h;exact decide_eq_true ⟨by omega,by omega⟩)
theorem zaA {s:List UInt8} (h:nmB s=true):s.length≤24:=by
 have g:=zhH (zdS h).1;rcases(zcm g.2.1).2 with ⟨_,e⟩|⟨_,_,_,e1,_,e2⟩
 ·simp at e
 ·have:s.length=en s:=e1;omega
theorem zav {n:Int} (h:grB n=true):(dg n).length≤21:=Lib.itoa_length_le n (by have:=of_decide_eq_true h;omega) (by have:=of_decide_eq_true h;omega)
theorem za1 {n:Int} (h:nuB n=true):grB n=true:=by unfold nuB at h;unfold grB;have:=of_decide_eq_true h;exact decide_eq_true ⟨by omega,by omega⟩
theorem zaW (w:List UInt8) (ws:List (List UInt8)):zbi (w :: ws)=w.length+8+zbi ws:=by simp[zbi]
theorem zbe:zbi []=0:=rfl
theorem zbq {f:List D→List (List UInt8)} {B:Nat} :∀(L:List (List D)),(∀ d∈L,zbi (f d)≤B)→zbi (L.flatMap f)≤L.length * B
 | [],_=>by simp[zbi]
 |d :: L,h=>by
  rw[List.flatMap_cons,zah,List.length_cons,Nat.succ_mul];have h1:=h d List.mem_cons_self;have h2:=zbq L (fun y hy=>h y (List.mem_cons_of_mem _ hy));omega
theorem zia:∀ {l:List (List UInt8)} {m:Nat},(∀ s∈l,nmB s=true)→l.length≤m→zbi (lw l)≤41 * m+9
 | [],m,_,_=>by simp[lw,zbi]
 |s :: l,m,h,hm=>by
  have key:∀ l:List (List UInt8),(∀ s∈l,nmB s=true)→zbi (l.flatMap (fun x=> [[44],x]))≤41 * l.length:=by
   intro l
   induction l with
   |nil=>intro _;simp[zbi]
   |cons a l ih=>
    intro h
    rw[List.flatMap_cons,zah,zaW,zaW,zbe,List.length_cons];have:=zaA (h a List.mem_cons_self);have:=ih (fun y hy=>h y (List.mem_cons_of_mem _ hy));simp only[List.length_cons,List.length_nil];omega
  have:=key l (fun y hy=>h y (List.mem_cons_of_mem _ hy));have:=zaA (h s List.mem_cons_self);rw[lw,zaW,zah,zaW,zbe];simp only[List.length_cons,List.length_nil]at hm ⊢;omega
theorem zkj {x:Int} (h0:0≤x) (h2:x≤2) {l:List (List UInt8)} (h:∀ s∈l,nmB s=true):Bal x (lw l) x:=by
 cases l with
 |nil=>exact zaf h0 h2 ⟨by decide,by decide⟩ (zaQ x)
 |cons s l=>
  have key:∀ l:List (List UInt8),(∀ s∈l,nmB s=true)→Bal x (l.flatMap (fun x=> [[44],x])) x:=by
   intro l
   induction l with
   |nil=>intro _;exact zaQ x
   |cons a l ih=>
    intro h
    rw[List.flatMap_cons];exact(zaf h0 h2 ⟨by decide,by decide⟩ (zaf h0 h2 (zbt (h a List.mem_cons_self)) (zaQ x))).append (ih (fun y hy=>h y (List.mem_cons_of_mem _ hy)))
  rw[lw];exact zaf h0 h2 (zbt (h s List.mem_cons_self)) ((key l (fun y hy=>h y (List.mem_cons_of_mem _ hy))).append (zaf h0 h2 ⟨by decide,by decide⟩ (zaQ x)))
theorem zjw {ds:List D} (h:za7 ds=true):Bal 1 (zb6 ds) 1:=by
 have n0:=zal h;have v6:=zal (zac h);have hv:=zac (zac h);obtain⟨v1,hv⟩:=zaa hv;obtain⟨v2,hv⟩:=zaa hv;obtain⟨v3,hv⟩:=zaa hv;obtain⟨v4,hv⟩:=zaa hv;obtain⟨v5,hv⟩:=zaa hv;obtain⟨v7,hv⟩:=zaa hv;obtain⟨v8,hv⟩:=zaa hv;obtain⟨v9,hv⟩:=zaa hv;exact(zaf (by decide) (by decide) ⟨by decide,by decide⟩ (zaf (by decide) (by decide) (zbt n0) (zaf (by decide) (by decide) ⟨by decide,by decide⟩ (zaf (by decide) (by decide) (zbh v1) (zaf (by decide) (by decide) ⟨by decide,by decide⟩ (zaf (by decide) (by decide) (zbh v2) (zaf (by decide) (by decide) ⟨by decide,by decide⟩ (zaf (by decide) (by decide) (zbh v3) (zaf (by decide) (by decide) ⟨by decide,by decide⟩ (zaf (by decide) (by decide) (zbh v4) (zaf (by decide) (by decide) ⟨by decide,by decide⟩ (zaf (by decide) (by decide) (zbh v5) (zaf (by decide) (by decide) ⟨by decide,by decide⟩ (zaf (by decide) (by decide) (zoO v6) (zaf (by decide) (by decide) ⟨by decide,by decide⟩ (zaf (by decide) (by decide) (zbh v7) (zaf (by decide) (by decide) ⟨by decide,by decide⟩ (zaf (by decide) (by decide) (zbh v8) (zaf (by decide) (by decide) ⟨by decide,by decide⟩ (zaf (by decide) (by decide) (zbh v9) (zaf (by decide) (by decide) ⟨by decide,by decide⟩ (zaQ _))))))))))))))))))))))
theorem zib {ds:List D} (h:za7 ds=true):zbi (zb6 ds)≤800:=by
 have n0:=zal h;have v6:=zal (zac h);have hv:=zac (zac h);obtain⟨v1,hv⟩:=zaa hv;obtain⟨v2,hv⟩:=zaa hv;obtain⟨v3,hv⟩:=zaa hv;obtain⟨v4,hv⟩:=zaa hv;obtain⟨v5,hv⟩:=zaa hv;obtain⟨v7,hv⟩:=zaa hv;obtain⟨v8,hv⟩:=zaa hv;obtain⟨v9,hv⟩:=zaa hv;have a0:=zaA n0;have c1:=zav (za1 v1);have c2:=zav (za1 v2);have c3:=zav (za1 v3);have c4:=zav (za1 v4);have c5:=zav (za1 v5);have c6:=zav v6;have c7:=zav (za1 v7);have c8:=zav (za1 v8);have c9:=zav (za1 v9);simp only[zb6,hw,zah,zaW,zbe,List.length_cons,List.length_nil];omega
theorem zjx {ds:List D} (h:zbx ds=true):Bal 1 (zcS ds) 1:=by
 have n0:=zal h;have n1:=zal (zac h);have hv:=zac (zac h);obtain⟨v2,hv⟩:=zaa hv;obtain⟨v3,hv⟩:=zaa hv;obtain⟨v4,hv⟩:=zaa hv;exact(zaf (by decide) (by decide) ⟨by decide,by decide⟩ (zaf (by decide) (by decide) (zbt n0) (zaf (by decide) (by decide) ⟨by decide,by decide⟩ (zaf (by decide) (by decide) (zbt n1) (zaf (by decide) (by decide) ⟨by decide,by decide⟩ (zaf (by decide) (by decide) (zbh v2) (zaf (by decide) (by decide) ⟨by decide,by decide⟩ (zaf (by decide) (by decide) (zbh v3) (zaf (by decide) (by decide) ⟨by decide,by decide⟩ (zaf (by decide) (by decide) (zbh v4) (zaf (by decide) (by decide) ⟨by decide,by decide⟩ (zaQ _))))))))))))
theorem zic {ds:List D} (h:zbx ds=true):zbi (zcS ds)≤400:=by
 have n0:=zal h;have n1:=zal (zac h);have hv:=zac (zac h);obtain⟨v2,hv⟩:=zaa hv;obtain⟨v3,hv⟩:=zaa hv;obtain⟨v4,hv⟩:=zaa hv;have a0:=zaA n0;have a1:=zaA n1;have c2:=zav (za1 v2);have c3:=zav (za1 v3);have c4:=zav (za1 v4);simp only[zcS,zah,zaW,zbe,List.length_cons,List.length_nil];omega
theorem zmK {ds:List D} (h:zd7 ds=true):Bal 1 (zfj ds) 1:=by
 have n0:=zal h;have n1:=zac h;exact(zaf (by decide) (by decide) ⟨by decide,by decide⟩ (zaf (by decide) (by decide) (zbt n0) (zaf (by decide) (by decide) (zbt n1) (zaf (by decide) (by decide) ⟨by decide,by decide⟩ (zaQ _)))))
theorem zjy {ds:List D} (h:zd7 ds=true):zbi (zfj ds)≤160:=by
 have n0:=zal h;have n1:=zac h;have a0:=zaA n0;have a1:=zaA n1;simp only[zfj,zah,zaW,zbe,List.length_cons,List.length_nil];omega
theorem zjz {ds:List D} (h:zbv ds=true):Bal 1 (zcT ds) 1:=by
 have n0:=zal h;have n1:=zal (zac h);have n2:=zal (zac (zac h));have hv:=zac (zac (zac h));obtain⟨v3,hv⟩:=zaa hv;obtain⟨v4,hv⟩:=zaa hv;exact(zaf (by decide) (by decide) ⟨by decide,by decide⟩ (zaf (by decide) (by decide) (zbt n0) (zaf (by decide) (by decide) ⟨by decide,by decide⟩ (zaf (by decide) (by decide) (zbt n1) (zaf (by decide) (by decide) ⟨by decide,by decide⟩ (zaf (by decide) (by decide) (zbt n2) (zaf (by decide) (by decide) ⟨by decide,by decide⟩ (zaf (by decide) (by decide) (zbh v3) (zaf (by decide) (by decide) ⟨by decide,by decide⟩ (zaf (by decide) (by decide) (zbh v4) (zaf (by decide) (by decide) ⟨by decide,by decide⟩ (zaQ _))))))))))))
theorem zid {ds:List D} (h:zbv ds=true):zbi (zcT ds)≤400:=by
 have n0:=zal h;have n1:=zal (zac h);have n2:=zal (zac (zac h));have hv:=zac (zac (zac h));obtain⟨v3,hv⟩:=zaa hv;obtain⟨v4,hv⟩:=zaa hv;have a0:=zaA n0;have a1:=zaA n1;have a2:=zaA n2;have c3:=zav (za1 v3);have c4:=zav (za1 v4);simp only[zcT,zah,zaW,zbe,List.length_cons,List.length_nil];omega
theorem zie {ds:List D} (h:zbm ds=true):Bal 1 (zbF ds) 1:=by
 have n0:=zal h;obtain⟨h1,h2,_⟩:=zci (by decide) (zac h);unfold zbF
 exact Bal.append (zaf (by decide) (by decide) ⟨by decide,by decide⟩ (zaf (by decide) (by decide) (zbt n0) (zaf (by decide) (by decide) ⟨by decide,by decide⟩ (zaQ _)))) (zkj (by decide) (by decide) h2)
theorem zgu {ds:List D} (h:zbm ds=true):zbi (zbF ds)≤800:=by
 have a0:=zaA (zal h);obtain⟨h1,h2,h3⟩:=zci (by decide) (zac h);have:=zia h2 h3;simp only[zbF,zah,zaW,zbe,List.length_cons,List.length_nil];omega
theorem zjA {ds:List D} (h:zdq ds=true):Bal 2 (zcL ds) 2:=by
 obtain⟨h1,h2,_⟩:=zci (by decide) h;unfold zcL rw1
 refine Bal.append (zaf (by decide) (by decide) ⟨by decide,by decide⟩ (zaQ _)) (Bal.append ?_ (zkj (by decide) (by decide) h2));cases fB (gt ds 0)
 ·exact zaQ _
 ·exact(zaf (by decide) (by decide) ⟨by decide,by decide⟩ (zaQ _))
theorem zif {ds:List D} (h:zdq ds=true):zbi (zcL ds)≤300:=by
 obtain⟨h1,h2,h3⟩:=zci (by decide) h;have:=zia h2 h3;unfold zcL rw1
 cases fB (gt ds 0)<;>simp[zah,zaW,zbe]<;>omega
theorem zig {ds:List D} (h:zbT ds=true):Bal 1 (za9 ds) 1:=by
 obtain⟨_,h3⟩:=zag h;unfold za9
 exact Bal.append (y:=2) (zaf (by decide) (by decide) ⟨by decide,by decide⟩ (zh9 (by decide) (by decide) (zaQ _))) (Bal.append (zbP _ fun x hx=>zjA (h3 x hx)) (zfo (by decide) (by decide) (zaQ _)))
theorem zgv {ds:List D} (h:zbT ds=true):zbi (za9 ds)≤800:=by
 obtain⟨⟨_,h2⟩,h3⟩:=zag h;have:=zbq (f:=zcL) _ fun x hx=>zif (h3 x hx)
 simp only[za9,zah,zaW,zbe,List.length_cons,List.length_nil];omega
theorem zjB {ds:List D} (h:zbR ds=true):Bal 0 (zbM ds) 0:=by
 have n0:=zal h;obtain⟨⟨_,l1⟩,h1⟩:=zag (zal (zac h));obtain⟨⟨_,l2⟩,h2⟩:=zag (zal (zac (zac h)));obtain⟨⟨_,l3⟩,h3⟩:=zag (zal (zac (zac (zac h))));obtain⟨⟨_,l4⟩,h4⟩:=zag (zal (zac (zac (zac (zac h)))));obtain⟨⟨_,l5⟩,h5⟩:=zag (zac (zac (zac (zac (zac h)))));unfold zbM
 exact Bal.append (y:=1) (zaf (by decide) (by decide) ⟨by decide,by decide⟩ (zaf (by decide) (by decide) (zbt n0) (zh9 (by decide) (by decide) (zaQ _)))) (Bal.append (zbP _ fun x hx=>zjw (h1 x hx)) (Bal.append (zbP _ fun x hx=>zjx (h2 x hx)) (Bal.append (zbP _ fun x hx=>zie (h3 x hx)) (Bal.append (zbP _ fun x hx=>zig (h4 x hx)) (Bal.append (zbP _ fun x hx=>zmK (h5 x hx)) (zfo (by decide) (by decide) (zaQ _)))))))
theorem zih {ds:List D} (h:zbR ds=true):zbi (zbM ds)≤60000:=by
 have n0:=zal h;obtain⟨⟨_,l1⟩,h1⟩:=zag (zal (zac h));obtain⟨⟨_,l2⟩,h2⟩:=zag (zal (zac (zac h)));obtain⟨⟨_,l3⟩,h3⟩:=zag (zal (zac (zac (zac h))));obtain⟨⟨_,l4⟩,h4⟩:=zag (zal (zac (zac (zac (zac h)))));obtain⟨⟨_,l5⟩,h5⟩:=zag (zac (zac (zac (zac (zac h)))));have a0:=zaA n0;have c1:=zbq (f:=zb6) _ fun x hx=>zib (h1 x hx)
 have c2:=zbq (f:=zcS) _ fun x hx=>zic (h2 x hx)
 have c3:=zbq (f:=zbF) _ fun x hx=>zgu (h3 x hx)
 have c4:=zbq (f:=za9) _ fun x hx=>zgv (h4 x hx)
 have c5:=zbq (f:=zfj) _ fun x hx=>zjy (h5 x hx)
 simp only[zbM,zah,zaW,zbe,List.length_cons,List.length_nil];omega
theorem zmL {ds:List D} (h:zcs ds=true):Bal 0 (zdB ds) 0:=by
 have hv:=zal h;obtain⟨v0,hv⟩:=zaa hv;obtain⟨v1,hv⟩:=zaa hv;obtain⟨v2,hv⟩:=zaa hv;obtain⟨v3,hv⟩:=zaa hv;obtain⟨v4,hv⟩:=zaa hv;obtain⟨v7,hv⟩:=zaa hv;obtain⟨v8,hv⟩:=zaa hv;obtain⟨⟨_,l5⟩,h5⟩:=zag (zal (zac h));obtain⟨⟨_,l6⟩,h6⟩:=zag (zac (zac h));unfold zdB
 refine Bal.append (zaf (by decide) (by decide) ⟨by decide,by decide⟩ (zaf (by decide) (by decide) (zbh v0) (zaf (by decide) (by decide) ⟨by decide,by decide⟩ (zaf (by decide) (by decide) (zbh v1) (zaf (by decide) (by decide) ⟨by decide,by decide⟩ (zaf (by decide) (by decide) (zbh v2) (zaf (by decide) (by decide) ⟨by decide,by decide⟩ (zaQ _)))))))) (Bal.append (zaf (by decide) (by decide) ⟨by decide,by decide⟩ (zaf (by decide) (by decide) (zbh v3) (zaf (by decide) (by decide) ⟨by decide,by decide⟩ (zaf (by decide) (by decide) (zbh v4) (zaf (by decide) (by decide) ⟨by decide,by decide⟩ (zaQ _)))))) (Bal.append (zbP _ fun x hx=>zjB (h5 x hx)) ?_));split
 ·unfold zhK
  exact Bal.append (y:=1) (zaf (by decide) (by decide) ⟨by decide,by decide⟩ (zh9 (by decide) (by decide) (zaQ _))) (Bal.append (zbP _ fun x hx=>zjz (h6 x hx)) (Bal.append (zaf (by decide) (by decide) ⟨by decide,by decide⟩ (zaf (by decide) (by decide) (zbh v7) (zaf (by decide) (by decide) (zbh v8) (zaf (by decide) (by decide) ⟨by decide,by decide⟩ (zaQ _))))) (zfo (by decide) (by decide) (zaQ _))))
 ·exact zaQ _
theorem zf1 {ds:List D} (h:zcs ds=true):zbi (zdB ds)≤1000000:=by
 have hv:=zal h;obtain⟨v0,hv⟩:=zaa hv;obtain⟨v1,hv⟩:=zaa hv;obtain⟨v2,hv⟩:=zaa hv;obtain⟨v3,hv⟩:=zaa hv;obtain⟨v4,hv⟩:=zaa hv;obtain⟨v7,hv⟩:=zaa hv;obtain⟨v8,hv⟩:=zaa hv;obtain⟨⟨_,l5⟩,h5⟩:=zag (zal (zac h));obtain⟨⟨_,l6⟩,h6⟩:=zag (zac (zac h));have c0:=zav (za1 v0);have c1:=zav (za1 v1);have c2:=zav (za1 v2);have c3:=zav (za1 v3);have c4:=zav (za1 v4);have c7:=zav (za1 v7);have c8:=zav (za1 v8);have d5:=zbq (f:=zbM) _ fun x hx=>zih (h5 x hx)
 have d6:=zbq (f:=zcT) _ fun x hx=>zid (h6 x hx)
 unfold zdB zhK
 simp only[zah,zaW,zbe,List.length_cons,List.length_nil];split
 ·simp only[zah,zaW,zbe,List.length_cons,List.length_nil];omega
 ·simp only[zbe];omega
theorem zii {ds:List D} (h:zcs ds=true):oks ⟨[],0,[]⟩ (zdB ds):=(zmL h ⟨[],0,[]⟩ rfl).1
theorem zij (ds:List D):(pss ⟨[],0,[]⟩ (zdB ds)).out=txt ds:=by rw[zhF];rfl
theorem zik {ds:List D} (h:zcs ds=true):(txt ds).length≤1000000:=by
 have:=zaO (zdB ds) ⟨[],0,[]⟩ (zii h);rw[zij]at this;have:=zf1 h;simp at *;omega
end S
end Go.Proofs.YtfepanidippjlaaGreatDoor
