/- The tokens of a network are read as its tree, with all places 0. -/
import Derived.Test.YthceiikgecoimaaGreatDoorSNum
import Derived.Lib.ItoaLen
namespace Go.Proofs.YthceiikgecoimaaGreatDoor
open Go.RowKit
set_option linter.unusedVariables false
set_option linter.unusedSimpArgs false
set_option maxRecDepth 10000
namespace S
theorem zhr {word:List UInt8} {most:Nat} {body:List Tok->Rs} (hm:Mon body) (K:List D->List Tok) (zf:List D->List D) (t:Tok) (r:List Tok) (ht:t.s≠word):
  ∀(L M:List (List D)),M.length+L.length<=most->(∀ ds∈L,∀ u R,body (K ds++u :: R)= .ok (zf ds,u :: R))->rw_ word most body M (L.flatMap (λd=>kS word :: K d)++t :: r)= .ok (M++L.map zf,t :: r)
 | [],M,_,_=>by
  rw[List.flatMap_nil,List.nil_append,zcn _ _ _ hm,if_neg ht];simp
 |d :: L,M,hl,hb=>by
  rw[List.flatMap_cons,List.append_assoc,List.cons_append,zcn _ _ _ hm,if_pos (show(kS word).s=word from rfl),if_neg (by simp at hl;omega)];have hne:∃ u R,L.flatMap (λd=>kS word :: K d)++t :: r=u :: R:=by
   cases L with
   |nil=>exact⟨t,r,rfl⟩
   |cons x xs=>exact⟨_,_,rfl⟩
  obtain⟨u,R,e⟩:=hne;rw[e,hb d List.mem_cons_self u R];simp only;rw[<- e,zhr hm K zf t r ht L (M++ [zf d]) (by simp at hl |-;omega) (λx hx=>hb x (List.mem_cons_of_mem _ hx))];simp
theorem zjx {word:List UInt8} {most e z:Nat} {body:List Tok->Rs} (hm:Mon body) (K:List D->List Tok) (zf:List D->List D) {t:Tok} {r:List Tok} (ht:t.s≠word) (L:List (List D)) (hl:L.length<=most)
  (hb:∀ ds∈L,∀ u R,body (K ds++u :: R)= .ok (zf ds,u :: R)) (c:List D):zaL word most e z body c (L.flatMap (λd=>kS word :: K d)++t :: r)= .ok (c++ [.row e z (L.map zf)],t :: r):=by
 unfold zaL
 have:=zhr hm K zf t r ht L [] (by simpa using hl) hb;unfold rw_ at this
 rw[this];simp
theorem zfe (most:Nat) (t:Tok) (r:List Tok) (ht:t.s≠ [44]):∀(l:List (List UInt8)) (M:List (List D)) (s:List UInt8),M.length+l.length+1<=most->(∀ x∈s :: l,¬x∈words)->nm most M (kS s :: (l.flatMap (λx=> [kC 44,kS x])++t :: r))= .ok (M++(s :: l).map (λx=> [dS x]),t :: r)
 | [],M,s,hl,hw=>by
  rw[zcV,if_pos ⟨rfl,hw s List.mem_cons_self⟩,if_neg (by simp at hl;omega)];simp[ht,kS]
 |x :: l,M,s,hl,hw=>by
  rw[zcV,if_pos ⟨rfl,hw s List.mem_cons_self⟩,if_neg (by simp at hl;omega)];have ih:=zfe most t r ht l (M++ [[dS s]]) x (by simp at hl |-;omega) (λy hy=>hw y (List.mem_cons_of_mem _ hy));have e:(x :: l).flatMap (λx=> [kC 44,kS x])++t :: r=kC 44 :: kS x :: (l.flatMap (λx=> [kC 44,kS x])++t :: r):=by simp
  rw[e];simp only[if_true];rw[ih];simp
theorem zgJ {e most:Nat} {l:List (List UInt8)} (hl:l≠ []) (hm:l.length<=most) (hw:∀ x∈l,nmB x=true) (c:List D) (R:List Tok):zar e most c (lk l++R)= .ok (c++ [.row e 1 (l.map (λx=> [dS x]))],kC 59 :: R):=by
 cases l with
 |nil=>exact absurd rfl hl
 |cons s l=>
  have:=zfe most (kC 59) R (by decide) l [] s (by simp at hm |-;omega) (λx hx=>(zfc (hw x hx)).2);unfold zar
  unfold nm at this
  have e:lk (s :: l)++R=kS s :: (l.flatMap (λx=> [kC 44,kS x])++kC 59 :: R):=by simp[lk]
  rw[e,this];simp
theorem zay (s:List UInt8) (k n p:Int) (c:List D) (r:List Tok) (ps:List Sp):sq (zad s :: ps) c (⟨k,s,n,p⟩ :: r)=sq ps c r:=by simp only[sq,zad,if_true]
theorem zbx (s:List UInt8) (c:List D) (r:List Tok) (ps:List Sp) (h:nmB s=true):sq (zai :: ps) c (kS s :: r)=sq ps (c++ [dS s]) r:=by
 have h2:=(zfc h).2;simp[sq,zai,h2]
theorem za7 (n:Int) (c:List D) (r:List Tok) (ps:List Sp):sq (zao :: ps) c (kN n :: r)=sq ps (c++ [dI n]) r:=rfl
theorem zde (c:List D) (t:Tok) (r:List Tok) (ps:List Sp) (h:t.p=0):sq (zaN :: ps) c (t :: r)=sq ps (c++ [dI 0]) (t :: r):=by simp only[sq,zaN,h]
theorem zgb (a b:Int) (c:List D) (r:List Tok) (ps:List Sp):sq (za8 :: ps) c (kN a :: kC 47 :: kN b :: r)=sq ps (c++ [dI a,dI b]) r:=by
 have:za8 c (kN a :: kC 47 :: kN b :: r)= .ok (c++ [dI a,dI b],r):=by
  unfold za8
  rw[za7,zay,za7];simp[sq]
 simp only[sq,this]
theorem zhT (n:Int) (c:List D) (r:List Tok) (ps:List Sp) (h:grB n=true):sq (zaF :: ps) c (kG n++r)=sq ps (c++ [dI n]) r:=by
 have:zaF c (kG n++r)= .ok (c++ [dI n],r):=by
  unfold zaF kG
  by_cases h0:n<0
  ·rw[if_pos h0];have e:sq [zaQ [45],zao] [] ([kC 45,kN (-n)]++r)= .ok ([dB true,dI (-n)],r):=rfl;rw[e];simp[dB,dI]
  ·rw[if_neg h0];have hg:=zfd (n:=n) (by unfold nuB;have:=of_decide_eq_true h;exact decide_eq_true ⟨by omega,by omega⟩);have hne:(kN n).s≠ [45]:=by
    intro e
    have h1:=hg.2.1;have e':dg n= [45]:=e;rw[e']at h1;have e2:one [45] 0= .ok ⟨3,[45],0,0⟩:=rfl;rw[e2]at h1;simp at h1
   have e:sq [zaQ [45],zao] [] ([kN n]++r)= .ok ([dB false,dI n],r):=by
    simp only[sq,zaQ,List.cons_append,List.nil_append,if_neg hne]
    rfl
   rw[e];simp[dB,dI]
 simp only[sq,this]
theorem zff {e most:Nat} {l:List (List UInt8)} (hl:l≠ []) (hm:l.length<=most) (hw:∀ x∈l,nmB x=true) (c:List D) (R:List Tok) (ps:List Sp):sq (zar e most :: ps) c (lk l++R)=sq ps (c++ [.row e 1 (l.map (λx=> [dS x]))]) (kC 59 :: R):=by
 simp only[sq,zgJ hl hm hw]
theorem zb5 {word:List UInt8} {most e z:Nat} {body:List Tok->Rs} (hm:Mon body) (K:List D->List Tok) (zf:List D->List D) {t:Tok} {r:List Tok} (ht:t.s≠word) {L:List (List D)} (hl:L.length<=most)
  (hb:∀ ds∈L,∀ u R,body (K ds++u :: R)= .ok (zf ds,u :: R)) (c:List D) (ps:List Sp) {R:List Tok} (hR:R=t :: r):sq (zaL word most e z body :: ps) c (L.flatMap (λd=>kS word :: K d)++R)=sq ps (c++ [.row e z (L.map zf)]) R:=by
 subst hR;simp only[sq,zjx hm K zf ht L hl hb]
theorem zb6 (c:List D) (r:List Tok):sq [] c r= .ok (c,r):=rfl
theorem nxt (L:List (List D)) (word:List UInt8) (K:List D->List Tok) (t:Tok) (r:List Tok):∃ t' r',L.flatMap (λd=>kS word :: K d)++t :: r=t' :: r'/\(t'.s=word\/t'.s=t.s):=by
 cases L with
 |nil=>exact⟨t,r,rfl,.inr rfl⟩
 |cons x xs=>exact⟨_,_,rfl,.inl rfl⟩
set_option maxHeartbeats 1000000 in
theorem zjy {ds:List D} (hs:ShL zen ds) (h:zeZ ds=true) (R:List Tok):zbT (zjl ds++R)= .ok (Zl true ds,R):=by
 simp only[ShL,Sh1,zen]at hs;obtain⟨_,_,rfl,⟨s0,rfl,_⟩,⟨_,_,rfl,⟨v1,rfl,_,_⟩,⟨_,_,rfl,⟨v2,rfl,_,_⟩,⟨_,_,rfl,⟨v3,rfl,_,_⟩,⟨_,_,rfl,⟨v4,rfl,_,_⟩,⟨_,_,rfl,⟨v5,rfl,_,_⟩,⟨_,_,rfl,⟨v6,rfl,_,_⟩,⟨_,_,rfl,⟨v7,rfl,_,_⟩,⟨_,_,rfl,⟨v8,rfl,_,_⟩,⟨_,_,rfl,⟨v9,rfl,_,_⟩,⟨_,_,rfl,⟨v10,rfl,_,_⟩,rfl⟩⟩⟩⟩⟩⟩⟩⟩⟩⟩⟩:=hs;have n0:=zaI h;have g6:=zaI (zam h);clear h;simp only[zjl,gt,List.getD_cons_zero,List.getD_cons_succ,zdE,fI,dI,List.cons_append,List.nil_append,List.append_assoc]at *;unfold zbT zcc
 rw[zde _ _ _ _ rfl];rw[zbx _ _ _ _ n0];rw[zay];rw[za7];rw[zay];rw[za7];rw[zay];rw[zgb];rw[zay];rw[za7];rw[zay];rw[zhT _ _ _ _ g6];rw[zay];rw[za7];rw[zay];rw[za7];rw[zay];rw[za7];rw[zay];rw[zb6];simp[rot,Zl,Z,dI,dS]
set_option maxHeartbeats 1000000 in
theorem zjz {ds:List D} (hs:ShL ziu ds) (h:zfz ds=true) (R:List Tok):zb0 (zgE ds++R)= .ok (Zl true ds,R):=by
 simp only[ShL,Sh1,ziu]at hs;obtain⟨_,_,rfl,⟨s0,rfl,_⟩,⟨_,_,rfl,⟨s1,rfl,_⟩,⟨_,_,rfl,⟨v2,rfl,_,_⟩,⟨_,_,rfl,⟨v3,rfl,_,_⟩,⟨_,_,rfl,⟨v4,rfl,_,_⟩,⟨_,_,rfl,⟨v5,rfl,_,_⟩,rfl⟩⟩⟩⟩⟩⟩:=hs;have n0:=zaI h;have n1:=zaI (zam h);clear h;simp only[zgE,gt,List.getD_cons_zero,List.getD_cons_succ,zdE,fI,dI,List.cons_append,List.nil_append,List.append_assoc]at *;unfold zb0 zcc
 rw[zde _ _ _ _ rfl];rw[zbx _ _ _ _ n0];rw[zay];rw[zbx _ _ _ _ n1];rw[zay];rw[za7];rw[zay];rw[za7];rw[zay];rw[za7];rw[zay];rw[zb6];simp[rot,Zl,Z,dI,dS]
set_option maxHeartbeats 1000000 in
theorem zlb {ds:List D} (hs:ShL ziv ds) (h:zkV ds=true) (R:List Tok):zeX (zk7 ds++R)= .ok (Zl true ds,R):=by
 simp only[ShL,Sh1,ziv]at hs;obtain⟨_,_,rfl,⟨s0,rfl,_⟩,⟨_,_,rfl,⟨s1,rfl,_⟩,⟨_,_,rfl,⟨v2,rfl,_,_⟩,rfl⟩⟩⟩:=hs;have n0:=zaI h;have n1:=zam h;clear h;simp only[zk7,gt,List.getD_cons_zero,List.getD_cons_succ,zdE,fI,dI,List.cons_append,List.nil_append,List.append_assoc]at *;unfold zeX zcc
 rw[zde _ _ _ _ rfl];rw[zbx _ _ _ _ n0];rw[zbx _ _ _ _ n1];rw[zay];rw[zb6];simp[rot,Zl,Z,dI,dS]
set_option maxHeartbeats 1000000 in
theorem zjA {ds:List D} (hs:ShL zdY ds) (h:ze1 ds=true) (R:List Tok):zbC (zjm ds++R)= .ok (Zl true ds,R):=by
 simp only[ShL,Sh1,zdY]at hs;obtain⟨_,_,rfl,⟨s0,rfl,_⟩,⟨_,_,rfl,⟨s1,rfl,_⟩,⟨_,_,rfl,⟨s2,rfl,_⟩,⟨_,_,rfl,⟨v3,rfl,_,_⟩,⟨_,_,rfl,⟨v4,rfl,_,_⟩,⟨_,_,rfl,⟨v5,rfl,_,_⟩,rfl⟩⟩⟩⟩⟩⟩:=hs;have n0:=zaI h;have n1:=zaI (zam h);have n2:=zaI (zam (zam h));clear h;simp only[zjm,gt,List.getD_cons_zero,List.getD_cons_succ,zdE,fI,dI,List.cons_append,List.nil_append,List.append_assoc]at *;unfold zbC zcc
 rw[zde _ _ _ _ rfl];rw[zbx _ _ _ _ n0];rw[zay];rw[zbx _ _ _ _ n1];rw[zay];rw[zbx _ _ _ _ n2];rw[zay];rw[za7];rw[zay];rw[za7];rw[zay];rw[zb6];simp[rot,Zl,Z,dI,dS]
theorem zd3 {L:List (List D)} (h:∀ ds∈L,ShL zcy ds):(L.map (λe=>tS (gt e 0))).map (λx=> [dS x])=Zss (plc 1) L:=by
 rw[zaV,List.map_map];apply List.map_congr_left;intro x hx
 have hs:=h x hx;simp only[ShL,Sh1,zcy]at hs;obtain⟨_,_,rfl,⟨s0,rfl,_⟩,rfl⟩:=hs;simp[gt,tS,fS,dS,Zl,Z,plc,sv]
theorem zhU {ds:List D} (hs:ShL zcf ds) (h:zdC ds=true) (R:List Tok):zbn (zeg ds++R)= .ok (Zl true ds,R):=by
 simp only[ShL,Sh1,zcf]at hs;obtain⟨_,_,rfl,⟨s0,rfl,_⟩,⟨_,_,rfl,⟨L1,rfl,_,q1⟩,⟨_,_,rfl,⟨v2,rfl,_,_⟩,rfl⟩⟩⟩:=hs;have n0:=zaI h;obtain⟨h1,h2,h3⟩:=zeh (by decide) (zam h);simp only[zeg,gt,List.getD_cons_zero,List.getD_cons_succ,zdE,List.cons_append,List.nil_append,List.append_assoc]at *;have hz:=zh (zd3 q1);unfold zbn zcc
 rw[zde _ _ _ _ rfl,zbx _ _ _ _ n0,zay,zff h1 h3 h2,zay,zb6];unfold nms
 simp only[fL];rw[uq hz];simp[rot,Zl,Z,dI,dS]
theorem zjB {ds:List D} (hs:ShL zgs ds) (h:ze0 ds=true) (R:List Tok):zaU (zhN ds++R)= .ok (Zl false ds,R):=by
 simp only[ShL,Sh1,zgs]at hs;obtain⟨_,_,rfl,⟨f0,rfl⟩,⟨_,_,rfl,⟨L1,rfl,_,q1⟩,rfl⟩⟩:=hs;obtain⟨h1,h2,h3⟩:=zeh (by decide) h;have hz:=zd3 q1;have hne:∀ R',∃ t r,lk (nms (.row 9 1 L1))++R'=t :: r/\t.s≠ [102,114,101,101]:=by
  intro R'
  simp only[gt,List.getD_cons_zero,List.getD_cons_succ]at h1 h2;cases e:nms (.row 9 1 L1)with
  |nil=>exact absurd e h1
  |cons s l=>
   refine⟨kS s,_,rfl,?_⟩;intro e2
   have:s= [102,114,101,101]:=e2;have h9:=h2 s (by rw[e];exact List.mem_cons_self);rw[this]at h9
   revert h9
   decide
 have hf:sq [zaQ [102,114,101,101],zar 9 4,zad [59]] [] (zhN [dB f0,.row 9 1 L1]++R)=sq [zar 9 4,zad [59]] [dB f0] (lk (nms (.row 9 1 L1))++R):=by
  unfold zhN
  cases f0
  ·obtain⟨t,r,e,ht⟩:=hne R;simp only[gt,List.getD_cons_zero,List.getD_cons_succ,fB,dB,Bool.false_eq_true,if_false,List.nil_append];rw[e];simp only[sq,zaQ,if_neg ht]
   rfl
  ·rfl
 unfold zaU
 rw[hf];simp only[gt,List.getD_cons_zero,List.getD_cons_succ]at h1 h2 h3;rw[zff h1 h3 h2,zay,zb6];unfold nms
 simp only[fL];rw[hz];simp[Zl,Z,dB]
theorem zhV {ds:List D} (hs:ShL zcg ds) (h:zdD ds=true) (R:List Tok):zbk (zdI ds++R)= .ok (Zl false ds,R):=by
 simp only[ShL,Sh1,zcg]at hs;obtain⟨_,_,rfl,⟨L0,rfl,_,q0⟩,rfl⟩:=hs;obtain⟨⟨h1,h2⟩,h3⟩:=zas h;simp only[zdI,gt,List.getD_cons_zero,fL,List.cons_append,List.nil_append,List.append_assoc]at *;unfold zbk
 rw[zay,zb5 zbb zhN (Zl false) (t:=kC 125) (r:=R) (by decide) h2 (λd hd u R=>zjB (q0 d hd) (h3 d hd) _) _ _ rfl];have e:∀(c:List (List D)) r,c≠ []->sq (zbS :: [zad [125]]) [D.row 86 2 c] r=sq [zad [125]] [D.row 86 2 c] r:=by
  intro c r hc
  cases c with
  |nil=>exact absurd rfl hc
  |cons x xs=>rfl
 rw[List.nil_append,e _ _ (by intro e;rw[List.map_eq_nil_iff]at e;rw[e]at h1;simp at h1),zay,zb6];simp[Zl,Z,zaV,plc]
set_option maxHeartbeats 1000000 in
theorem zgc {ds:List D} (hs:ShL zdj ds) (h:ze2 ds=true) (R:List Tok):zb4 (zhO ds++R)= .ok (Zl true ds,R):=by
 simp only[ShL,Sh1,zdj]at hs;obtain⟨_,_,rfl,⟨s0,rfl,_⟩,⟨_,_,rfl,⟨L1,rfl,_,q1⟩,⟨_,_,rfl,⟨L2,rfl,_,q2⟩,⟨_,_,rfl,⟨L3,rfl,_,q3⟩,⟨_,_,rfl,⟨L4,rfl,_,q4⟩,⟨_,_,rfl,⟨L5,rfl,_,q5⟩,⟨_,_,rfl,⟨v6,rfl,_,_⟩,rfl⟩⟩⟩⟩⟩⟩⟩:=hs;have n0:=zaI h;obtain⟨⟨_,l1⟩,h1⟩:=zas (zaI (zam h));obtain⟨⟨_,l2⟩,h2⟩:=zas (zaI (zam (zam h)));obtain⟨⟨_,l3⟩,h3⟩:=zas (zaI (zam (zam (zam h))));obtain⟨⟨_,l4⟩,h4⟩:=zas (zaI (zam (zam (zam (zam h)))));obtain⟨⟨_,l5⟩,h5⟩:=zas (zam (zam (zam (zam (zam h)))));clear h;simp only[zhO,gt,List.getD_cons_zero,List.getD_cons_succ,zdE,fL,List.cons_append,List.nil_append,List.append_assoc]at *;unfold zb4 zcc
 rw[zde _ _ _ _ rfl,zbx _ _ _ _ n0,zay];obtain⟨t5,r5,e5,w5⟩:=nxt L5 [102,111,101] zk7 (kC 125) R;obtain⟨t4,r4,e4,w4⟩:=nxt L4 [103,114,111,117,112] zdI t5 r5;obtain⟨t3,r3,e3,w3⟩:=nxt L3 [112,104,97,115,101] zeg t4 r4;obtain⟨t2,r2,e2,w2⟩:=nxt L2 [119,97,108,107] zgE t3 r3;have f5:=e5;have f4:List.flatMap (λd=>kS [103,114,111,117,112] :: zdI d) L4++(List.flatMap (λd=>kS [102,111,101] :: zk7 d) L5++kC 125 :: R)=t4 :: r4:=by rw[f5,e4]
 have f3:List.flatMap (λd=>kS [112,104,97,115,101] :: zeg d) L3++(List.flatMap (λd=>kS [103,114,111,117,112] :: zdI d) L4++(List.flatMap (λd=>kS [102,111,101] :: zk7 d) L5++kC 125 :: R))=t3 :: r3:=by rw[f4,e3]
 have f2:List.flatMap (λd=>kS [119,97,108,107] :: zgE d) L2++(List.flatMap (λd=>kS [112,104,97,115,101] :: zeg d) L3++(List.flatMap (λd=>kS [103,114,111,117,112] :: zdI d) L4++(List.flatMap (λd=>kS [102,111,101] :: zk7 d) L5++kC 125 :: R)))=t2 :: r2:=by rw[f3,e2]
 have d5:t5.s= [102,111,101]\/t5.s= [125]:=w5;have d4:t4.s= [103,114,111,117,112]\/t4.s= [102,111,101]\/t4.s= [125]:=by rcases w4 with h|h;exact .inl h;rw[h];exact .inr d5
 have d3:t3.s= [112,104,97,115,101]\/t3.s= [103,114,111,117,112]\/t3.s= [102,111,101]\/t3.s= [125]:=by rcases w3 with h|h;exact .inl h;rw[h];exact .inr d4
 have d2:t2.s= [119,97,108,107]\/t2.s= [112,104,97,115,101]\/t2.s= [103,114,111,117,112]\/t2.s= [102,111,101]\/t2.s= [125]:=by rcases w2 with h|h;exact .inl h;rw[h];exact .inr d3
 rw[zb5 zbQ zjl (Zl true) (t:=t2) (r:=r2) (by rcases d2 with h|h|h|h|h<;>rw[h]<;>decide) l1 (λd hd u R=>zjy (q1 d hd) (h1 d hd) _) _ _ f2];rw[zb5 zbP zgE (Zl true) (t:=t3) (r:=r3) (by rcases d3 with h|h|h|h<;>rw[h]<;>decide) l2 (λd hd u R=>zjz (q2 d hd) (h2 d hd) _) _ _ f3];rw[zb5 zbU zeg (Zl true) (t:=t4) (r:=r4) (by rcases d4 with h|h|h<;>rw[h]<;>decide) l3 (λd hd u R=>zhU (q3 d hd) (h3 d hd) _) _ _ f4];rw[zb5 zbu zdI (Zl false) (t:=t5) (r:=r5) (by rcases d5 with h|h<;>rw[h]<;>decide) l4 (λd hd u R=>zhV (q4 d hd) (h4 d hd) _) _ _ f5];rw[zb5 zcW zk7 (Zl true) (t:=kC 125) (r:=R) (by decide) l5 (λd hd u R=>zlb (q5 d hd) (h5 d hd) _) _ _ rfl];rw[zay,zb6];simp[rot,Zl,Z,dI,dS,zaV,plc]
set_option maxHeartbeats 1000000 in
theorem zfM {ds:List D} (hs:ShL zeI ds) (h:ze3 ds=true):zd8 (zmd ds++ [⟨0,[],0,0⟩])= .ok (ds.map Z,[⟨0,[],0,0⟩]):=by
 unfold zmd
 obtain⟨A,hA⟩:∃ A,(zdH ds/\A=zpw ds\/¬zdH ds/\A= [])/\(if zdH ds then zpw ds else [])=A:=by
  by_cases ha:zdH ds
  ·exact⟨zpw ds,.inl ⟨ha,rfl⟩,if_pos ha⟩
  ·exact⟨[],.inr ⟨ha,rfl⟩,if_neg ha⟩
 rw[hA.2];have hA:=hA.1;simp only[ShL,Sh1,zeI]at hs;obtain⟨_,_,rfl,⟨v0,rfl,_,_⟩,⟨_,_,rfl,⟨v1,rfl,_,_⟩,⟨_,_,rfl,⟨v2,rfl,_,_⟩,⟨_,_,rfl,⟨v3,rfl,_,_⟩,⟨_,_,rfl,⟨v4,rfl,_,_⟩,⟨_,_,rfl,⟨L5,rfl,_,q5⟩,⟨_,_,rfl,⟨L6,rfl,_,q6⟩,⟨_,_,rfl,⟨v7,rfl,_,_⟩,⟨_,_,rfl,⟨v8,rfl,_,_⟩,rfl⟩⟩⟩⟩⟩⟩⟩⟩⟩:=hs;obtain⟨⟨_,l5⟩,h5⟩:=zas (zaI (zam h));obtain⟨⟨_,l6⟩,h6⟩:=zas (zam (zam h));clear h;simp only[gt,List.getD_cons_zero,List.getD_cons_succ,fL,fI,dI,List.cons_append,List.nil_append,List.append_assoc]at *;unfold zd8
 rw[zay,za7,zay,za7,zay,za7,zay,zay,zgb,zay];have hend:∀ c,sq [zcQ] c [(⟨0,[],0,0⟩:Tok)]= .ok (c,[⟨0,[],0,0⟩]):=λc=>rfl
 rcases hA with ⟨ha,rfl⟩|⟨ha,rfl⟩
 ·simp only[zpw,gt,List.getD_cons_zero,List.getD_cons_succ,fL,fI,List.cons_append,List.nil_append,List.append_assoc];rw[zb5 zbR zhO (Zl true) (t:=kS [97,114,116,101,114,121]) (by decide) l5 (λd hd u R=>zgc (q5 d hd) (h5 d hd) _) _ _ rfl];have e1:∀ c r,zcN c (kS [97,114,116,101,114,121] :: r)=sq [zad [123],zaL [115,116,111,112] 12 48 6 zbC,zad [119,101,105,103,104,116,115],zao,zao,zad [59],zad [125]] c r:=λc r=>rfl
  have e2:∀ c r x,zcN c r= .ok x->sq (zcN :: [zcQ]) c r=sq [zcQ] x.1 x.2:=λc r x hx=>by simp only[sq,hx]
  rw[e2 _ _ _ (by rw[e1,zay,zb5 zcI zjm (Zl true) (t:=kS [119,101,105,103,104,116,115]) (by decide) l6 (λd hd u R=>zjA (q6 d hd) (h6 d hd) _) _ _ rfl,zay,za7,za7,zay,zay,zb6]),hend];simp[Z,dI,zaV,plc]
 ·simp only[List.nil_append];rw[zb5 zbR zhO (Zl true) (t:=⟨0,[],0,0⟩) (r:= []) (by decide) l5 (λd hd u R=>zgc (q5 d hd) (h5 d hd) _) _ _ rfl];have e1:∀ c,sq (zcN :: [zcQ]) c [(⟨0,[],0,0⟩:Tok)]= .ok (c++ [.row 48 6 [],dI 0,dI 0],[⟨0,[],0,0⟩]):=λc=>rfl
  rw[e1];unfold zdH at ha
  simp only[gt,List.getD_cons_zero,List.getD_cons_succ,fL,fI,not_or,Decidable.not_not]at ha;obtain⟨ha,rfl,rfl⟩:=ha;have:L6= []:=List.eq_nil_of_length_eq_zero (by omega);subst this;simp[Z,dI,zaV,plc,Zss]
end S
namespace S
def Bal (x:Int) (ws:List (List UInt8)) (y:Int):Prop:=∀ st:St,st.op=x->oks st ws/\(pss st ws).op=y
theorem za4 (x:Int):Bal x [] x:=λst h=>⟨trivial,h⟩
theorem Bal.append {x y z:Int} {a c:List (List UInt8)} (h:Bal x a y) (k:Bal y c z):Bal x (a++c) z:=λst e=>by
 obtain⟨h1,h2⟩:=h st e;obtain⟨k1,k2⟩:=k (pss st a) h2;exact⟨(zaA a c st).2 ⟨h1,k1⟩,by rw[<- zaE];exact k2⟩
def Pl (w:List UInt8):Prop:=w≠ [123]/\w≠ [125]
theorem zak {x:Int} {w:List UInt8} {ws:List (List UInt8)} {y:Int} (h0:0<=x) (h2:x<=2) (h:Pl w) (k:Bal x ws y):Bal x (w :: ws) y:=by
 have:Bal x [w] x:=λst e=>by
  have e1:op1 st.op w=x:=by unfold op1;rw[if_neg h.2,e]
  refine⟨⟨⟨by rw[e1];exact h0,by rw[e1];exact h2⟩,trivial⟩,?_⟩;show(ps st w).op=x;unfold ps
  rw[if_neg h.1];split<;>exact e1
 exact Bal.append this k
theorem zjC {x:Int} {ws:List (List UInt8)} {y:Int} (h0:0<=x) (h2:x<=2) (k:Bal (x+1) ws y):Bal x ([123] :: ws) y:=by
 have:Bal x [[123]] (x+1):=λst e=>by
  have e1:op1 st.op [123]=x:=by unfold op1;rw[if_neg (by decide),e]
  refine⟨⟨⟨by rw[e1];exact h0,by rw[e1];exact h2⟩,trivial⟩,?_⟩;show(ps st [123]).op=x+1;unfold ps
  rw[if_pos rfl,e1]
 exact Bal.append this k
theorem zgK {x:Int} {ws:List (List UInt8)} {y:Int} (h0:1<=x) (h2:x<=3) (k:Bal (x - 1) ws y):Bal x ([125] :: ws) y:=by
 have:Bal x [[125]] (x - 1):=λst e=>by
  have e1:op1 st.op [125]=x - 1:=by unfold op1;rw[if_pos rfl,e]
  refine⟨⟨⟨by rw[e1];omega,by rw[e1];omega⟩,trivial⟩,?_⟩;show(ps st [125]).op=x - 1;unfold ps
  rw[if_neg (by decide),if_pos (.inl rfl),e1]
 exact Bal.append this k
theorem zb7 {x:Int} {f:List D->List (List UInt8)} :∀(L:List (List D)),(∀ d∈L,Bal x (f d) x)->Bal x (L.flatMap f) x
 | [],_=>za4 x
 |d :: L,h=>by rw[List.flatMap_cons];exact(h d List.mem_cons_self).append (zb7 L (λy hy=>h y (List.mem_cons_of_mem _ hy)))
theorem zfN {s:List UInt8} {k n:Int} {c:UInt8} (h:Gs s k n) (hk:k≠3) (hc:kd c.toNat=7):s≠ [c]:=by
 rintro rfl;have h1:=h.2.1;simp only[one]at h1;rw[if_neg (by omega),if_neg (by omega),if_pos hc]at h1;simp only[Except.ok.injEq,Tok.mk.injEq]at h1;exact hk h1.1.symm
theorem zbi {s:List UInt8} (h:nmB s=true):Pl s:=⟨zfN (zk5 (zfc h).1) (by decide) (by decide),zfN (zk5 (zfc h).1) (by decide) (by decide)⟩
theorem zbc {n:Int} (h:nuB n=true):Pl (dg n):=⟨zfN (zfd h) (by decide) (by decide),zfN (zfd h) (by decide) (by decide)⟩
theorem zrf {n:Int} (h:grB n=true):Pl (dg n):=by
 by_cases h0:n<0
 ·rw[zmb h0];exact⟨by simp,by simp⟩
 ·exact zbc (by unfold nuB;have:=of_decide_eq_true h;exact decide_eq_true ⟨by omega,by omega⟩)
theorem zbr {s:List UInt8} (h:nmB s=true):s.length<=24:=by
 have g:=zk5 (zfc h).1;rcases(zcU g.2.1).2 with ⟨_,e⟩|⟨_,_,_,e1,_,e2⟩
 ·simp at e
 ·have:s.length=en s:=e1;omega
theorem zby {n:Int} (h:grB n=true):(dg n).length<=21:=Lib.itoa_length_le n (by have:=of_decide_eq_true h;omega) (by have:=of_decide_eq_true h;omega)
theorem zcB {n:Int} (h:nuB n=true):grB n=true:=by unfold nuB at h;unfold grB;have:=of_decide_eq_true h;exact decide_eq_true ⟨by omega,by omega⟩
theorem zbd (w:List UInt8) (ws:List (List UInt8)):zbt (w :: ws)=w.length+8+zbt ws:=by simp[zbt]
theorem zbs:zbt []=0:=rfl
theorem zbM {f:List D->List (List UInt8)} {B:Nat} :∀(L:List (List D)),(∀ d∈L,zbt (f d)<=B)->zbt (L.flatMap f)<=L.length * B
 | [],_=>by simp[zbt]
 |d :: L,h=>by
  rw[List.flatMap_cons,zan,List.length_cons,Nat.succ_mul];have h1:=h d List.mem_cons_self;have h2:=zbM L (λy hy=>h y (List.mem_cons_of_mem _ hy));omega
theorem zjD:∀ {l:List (List UInt8)} {m:Nat},(∀ s∈l,nmB s=true)->l.length<=m->zbt (lw l)<=41 * m+9
 | [],m,_,_=>by simp[lw,zbt]
 |s :: l,m,h,hm=>by
  have key:∀ l:List (List UInt8),(∀ s∈l,nmB s=true)->zbt (l.flatMap (λx=> [[44],x]))<=41 * l.length:=by
   intro l
   induction l with
   |nil=>intro _;simp[zbt]
   |cons a l ih=>
    intro h
    rw[List.flatMap_cons,zan,zbd,zbd,zbs,List.length_cons];have:=zbr (h a List.mem_cons_self);have:=ih (λy hy=>h y (List.mem_cons_of_mem _ hy));simp only[List.length_cons,List.length_nil];omega
  have:=key l (λy hy=>h y (List.mem_cons_of_mem _ hy));have:=zbr (h s List.mem_cons_self);rw[lw,zbd,zan,zbd,zbs];simp only[List.length_cons,List.length_nil]at hm |-;omega
theorem zmf {x:Int} (h0:0<=x) (h2:x<=2) {l:List (List UInt8)} (h:∀ s∈l,nmB s=true):Bal x (lw l) x:=by
 cases l with
 |nil=>exact zak h0 h2 ⟨by decide,by decide⟩ (za4 x)
 |cons s l=>
  have key:∀ l:List (List UInt8),(∀ s∈l,nmB s=true)->Bal x (l.flatMap (λx=> [[44],x])) x:=by
   intro l
   induction l with
   |nil=>intro _;exact za4 x
   |cons a l ih=>
    intro h
    rw[List.flatMap_cons];exact(zak h0 h2 ⟨by decide,by decide⟩ (zak h0 h2 (zbi (h a List.mem_cons_self)) (za4 x))).append (ih (λy hy=>h y (List.mem_cons_of_mem _ hy)))
  rw[lw];exact zak h0 h2 (zbi (h s List.mem_cons_self)) ((key l (λy hy=>h y (List.mem_cons_of_mem _ hy))).append (zak h0 h2 ⟨by decide,by decide⟩ (za4 x)))
theorem zlc {ds:List D} (h:zeZ ds=true):Bal 1 (zcP ds) 1:=by
 have n0:=zaI h;have v6:=zaI (zam h);have hv:=zam (zam h);obtain⟨v1,hv⟩:=zaf hv;obtain⟨v2,hv⟩:=zaf hv;obtain⟨v3,hv⟩:=zaf hv;obtain⟨v4,hv⟩:=zaf hv;obtain⟨v5,hv⟩:=zaf hv;obtain⟨v7,hv⟩:=zaf hv;obtain⟨v8,hv⟩:=zaf hv;obtain⟨v9,hv⟩:=zaf hv;exact(zak (by decide) (by decide) ⟨by decide,by decide⟩ (zak (by decide) (by decide) (zbi n0) (zak (by decide) (by decide) ⟨by decide,by decide⟩ (zak (by decide) (by decide) (zbc v1) (zak (by decide) (by decide) ⟨by decide,by decide⟩ (zak (by decide) (by decide) (zbc v2) (zak (by decide) (by decide) ⟨by decide,by decide⟩ (zak (by decide) (by decide) (zbc v3) (zak (by decide) (by decide) ⟨by decide,by decide⟩ (zak (by decide) (by decide) (zbc v4) (zak (by decide) (by decide) ⟨by decide,by decide⟩ (zak (by decide) (by decide) (zbc v5) (zak (by decide) (by decide) ⟨by decide,by decide⟩ (zak (by decide) (by decide) (zrf v6) (zak (by decide) (by decide) ⟨by decide,by decide⟩ (zak (by decide) (by decide) (zbc v7) (zak (by decide) (by decide) ⟨by decide,by decide⟩ (zak (by decide) (by decide) (zbc v8) (zak (by decide) (by decide) ⟨by decide,by decide⟩ (zak (by decide) (by decide) (zbc v9) (zak (by decide) (by decide) ⟨by decide,by decide⟩ (za4 _))))))))))))))))))))))
theorem zjE {ds:List D} (h:zeZ ds=true):zbt (zcP ds)<=800:=by
 have n0:=zaI h;have v6:=zaI (zam h);have hv:=zam (zam h);obtain⟨v1,hv⟩:=zaf hv;obtain⟨v2,hv⟩:=zaf hv;obtain⟨v3,hv⟩:=zaf hv;obtain⟨v4,hv⟩:=zaf hv;obtain⟨v5,hv⟩:=zaf hv;obtain⟨v7,hv⟩:=zaf hv;obtain⟨v8,hv⟩:=zaf hv;obtain⟨v9,hv⟩:=zaf hv;have a0:=zbr n0;have c1:=zby (zcB v1);have c2:=zby (zcB v2);have c3:=zby (zcB v3);have c4:=zby (zcB v4);have c5:=zby (zcB v5);have c6:=zby v6;have c7:=zby (zcB v7);have c8:=zby (zcB v8);have c9:=zby (zcB v9);simp only[zcP,hw,zan,zbd,zbs,List.length_cons,List.length_nil];omega
theorem zld {ds:List D} (h:zfz ds=true):Bal 1 (zd1 ds) 1:=by
 have n0:=zaI h;have n1:=zaI (zam h);have hv:=zam (zam h);obtain⟨v2,hv⟩:=zaf hv;obtain⟨v3,hv⟩:=zaf hv;obtain⟨v4,hv⟩:=zaf hv;exact(zak (by decide) (by decide) ⟨by decide,by decide⟩ (zak (by decide) (by decide) (zbi n0) (zak (by decide) (by decide) ⟨by decide,by decide⟩ (zak (by decide) (by decide) (zbi n1) (zak (by decide) (by decide) ⟨by decide,by decide⟩ (zak (by decide) (by decide) (zbc v2) (zak (by decide) (by decide) ⟨by decide,by decide⟩ (zak (by decide) (by decide) (zbc v3) (zak (by decide) (by decide) ⟨by decide,by decide⟩ (zak (by decide) (by decide) (zbc v4) (zak (by decide) (by decide) ⟨by decide,by decide⟩ (za4 _))))))))))))
theorem zjF {ds:List D} (h:zfz ds=true):zbt (zd1 ds)<=400:=by
 have n0:=zaI h;have n1:=zaI (zam h);have hv:=zam (zam h);obtain⟨v2,hv⟩:=zaf hv;obtain⟨v3,hv⟩:=zaf hv;obtain⟨v4,hv⟩:=zaf hv;have a0:=zbr n0;have a1:=zbr n1;have c2:=zby (zcB v2);have c3:=zby (zcB v3);have c4:=zby (zcB v4);simp only[zd1,zan,zbd,zbs,List.length_cons,List.length_nil];omega
theorem zoN {ds:List D} (h:zkV ds=true):Bal 1 (zhM ds) 1:=by
 have n0:=zaI h;have n1:=zam h;exact(zak (by decide) (by decide) ⟨by decide,by decide⟩ (zak (by decide) (by decide) (zbi n0) (zak (by decide) (by decide) (zbi n1) (zak (by decide) (by decide) ⟨by decide,by decide⟩ (za4 _)))))
theorem zle {ds:List D} (h:zkV ds=true):zbt (zhM ds)<=160:=by
 have n0:=zaI h;have n1:=zam h;have a0:=zbr n0;have a1:=zbr n1;simp only[zhM,zan,zbd,zbs,List.length_cons,List.length_nil];omega
theorem zlf {ds:List D} (h:ze1 ds=true):Bal 1 (zd2 ds) 1:=by
 have n0:=zaI h;have n1:=zaI (zam h);have n2:=zaI (zam (zam h));have hv:=zam (zam (zam h));obtain⟨v3,hv⟩:=zaf hv;obtain⟨v4,hv⟩:=zaf hv;exact(zak (by decide) (by decide) ⟨by decide,by decide⟩ (zak (by decide) (by decide) (zbi n0) (zak (by decide) (by decide) ⟨by decide,by decide⟩ (zak (by decide) (by decide) (zbi n1) (zak (by decide) (by decide) ⟨by decide,by decide⟩ (zak (by decide) (by decide) (zbi n2) (zak (by decide) (by decide) ⟨by decide,by decide⟩ (zak (by decide) (by decide) (zbc v3) (zak (by decide) (by decide) ⟨by decide,by decide⟩ (zak (by decide) (by decide) (zbc v4) (zak (by decide) (by decide) ⟨by decide,by decide⟩ (za4 _))))))))))))
theorem zjG {ds:List D} (h:ze1 ds=true):zbt (zd2 ds)<=400:=by
 have n0:=zaI h;have n1:=zaI (zam h);have n2:=zaI (zam (zam h));have hv:=zam (zam (zam h));obtain⟨v3,hv⟩:=zaf hv;obtain⟨v4,hv⟩:=zaf hv;have a0:=zbr n0;have a1:=zbr n1;have a2:=zbr n2;have c3:=zby (zcB v3);have c4:=zby (zcB v4);simp only[zd2,zan,zbd,zbs,List.length_cons,List.length_nil];omega
theorem zjH {ds:List D} (h:zdC ds=true):Bal 1 (zcj ds) 1:=by
 have n0:=zaI h;obtain⟨h1,h2,_⟩:=zeh (by decide) (zam h);unfold zcj
 exact Bal.append (zak (by decide) (by decide) ⟨by decide,by decide⟩ (zak (by decide) (by decide) (zbi n0) (zak (by decide) (by decide) ⟨by decide,by decide⟩ (za4 _)))) (zmf (by decide) (by decide) h2)
theorem zhW {ds:List D} (h:zdC ds=true):zbt (zcj ds)<=800:=by
 have a0:=zbr (zaI h);obtain⟨h1,h2,h3⟩:=zeh (by decide) (zam h);have:=zjD h2 h3;simp only[zcj,zan,zbd,zbs,List.length_cons,List.length_nil];omega
theorem zlg {ds:List D} (h:ze0 ds=true):Bal 2 (zdG ds) 2:=by
 obtain⟨h1,h2,_⟩:=zeh (by decide) h;unfold zdG rw1
 refine Bal.append (zak (by decide) (by decide) ⟨by decide,by decide⟩ (za4 _)) (Bal.append ?_ (zmf (by decide) (by decide) h2));cases fB (gt ds 0)
 ·exact za4 _
 ·exact(zak (by decide) (by decide) ⟨by decide,by decide⟩ (za4 _))
theorem zjI {ds:List D} (h:ze0 ds=true):zbt (zdG ds)<=300:=by
 obtain⟨h1,h2,h3⟩:=zeh (by decide) h;have:=zjD h2 h3;unfold zdG rw1
 cases fB (gt ds 0)<;>simp[zan,zbd,zbs]<;>omega
theorem zjJ {ds:List D} (h:zdD ds=true):Bal 1 (zbw ds) 1:=by
 obtain⟨_,h3⟩:=zas h;unfold zbw
 exact Bal.append (y:=2) (zak (by decide) (by decide) ⟨by decide,by decide⟩ (zjC (by decide) (by decide) (za4 _))) (Bal.append (zb7 _ λx hx=>zlg (h3 x hx)) (zgK (by decide) (by decide) (za4 _)))
theorem zhX {ds:List D} (h:zdD ds=true):zbt (zbw ds)<=800:=by
 obtain⟨⟨_,h2⟩,h3⟩:=zas h;have:=zbM (f:=zdG) _ λx hx=>zjI (h3 x hx)
 simp only[zbw,zan,zbd,zbs,List.length_cons,List.length_nil];omega
theorem zlh {ds:List D} (h:ze2 ds=true):Bal 0 (zcq ds) 0:=by
 have n0:=zaI h;obtain⟨⟨_,l1⟩,h1⟩:=zas (zaI (zam h));obtain⟨⟨_,l2⟩,h2⟩:=zas (zaI (zam (zam h)));obtain⟨⟨_,l3⟩,h3⟩:=zas (zaI (zam (zam (zam h))));obtain⟨⟨_,l4⟩,h4⟩:=zas (zaI (zam (zam (zam (zam h)))));obtain⟨⟨_,l5⟩,h5⟩:=zas (zam (zam (zam (zam (zam h)))));unfold zcq
 exact Bal.append (y:=1) (zak (by decide) (by decide) ⟨by decide,by decide⟩ (zak (by decide) (by decide) (zbi n0) (zjC (by decide) (by decide) (za4 _)))) (Bal.append (zb7 _ λx hx=>zlc (h1 x hx)) (Bal.append (zb7 _ λx hx=>zld (h2 x hx)) (Bal.append (zb7 _ λx hx=>zjH (h3 x hx)) (Bal.append (zb7 _ λx hx=>zjJ (h4 x hx)) (Bal.append (zb7 _ λx hx=>zoN (h5 x hx)) (zgK (by decide) (by decide) (za4 _)))))))
theorem zjK {ds:List D} (h:ze2 ds=true):zbt (zcq ds)<=60000:=by
 have n0:=zaI h;obtain⟨⟨_,l1⟩,h1⟩:=zas (zaI (zam h));obtain⟨⟨_,l2⟩,h2⟩:=zas (zaI (zam (zam h)));obtain⟨⟨_,l3⟩,h3⟩:=zas (zaI (zam (zam (zam h))));obtain⟨⟨_,l4⟩,h4⟩:=zas (zaI (zam (zam (zam (zam h)))));obtain⟨⟨_,l5⟩,h5⟩:=zas (zam (zam (zam (zam (zam h)))));have a0:=zbr n0;have c1:=zbM (f:=zcP) _ λx hx=>zjE (h1 x hx)
 have c2:=zbM (f:=zd1) _ λx hx=>zjF (h2 x hx)
 have c3:=zbM (f:=zcj) _ λx hx=>zhW (h3 x hx)
 have c4:=zbM (f:=zbw) _ λx hx=>zhX (h4 x hx)
 have c5:=zbM (f:=zhM) _ λx hx=>zle (h5 x hx)
 simp only[zcq,zan,zbd,zbs,List.length_cons,List.length_nil];omega
theorem zoO {ds:List D} (h:ze3 ds=true):Bal 0 (zeL ds) 0:=by
 have hv:=zaI h;obtain⟨v0,hv⟩:=zaf hv;obtain⟨v1,hv⟩:=zaf hv;obtain⟨v2,hv⟩:=zaf hv;obtain⟨v3,hv⟩:=zaf hv;obtain⟨v4,hv⟩:=zaf hv;obtain⟨v7,hv⟩:=zaf hv;obtain⟨v8,hv⟩:=zaf hv;obtain⟨⟨_,l5⟩,h5⟩:=zas (zaI (zam h));obtain⟨⟨_,l6⟩,h6⟩:=zas (zam (zam h));unfold zeL
 refine Bal.append (zak (by decide) (by decide) ⟨by decide,by decide⟩ (zak (by decide) (by decide) (zbc v0) (zak (by decide) (by decide) ⟨by decide,by decide⟩ (zak (by decide) (by decide) (zbc v1) (zak (by decide) (by decide) ⟨by decide,by decide⟩ (zak (by decide) (by decide) (zbc v2) (zak (by decide) (by decide) ⟨by decide,by decide⟩ (za4 _)))))))) (Bal.append (zak (by decide) (by decide) ⟨by decide,by decide⟩ (zak (by decide) (by decide) (zbc v3) (zak (by decide) (by decide) ⟨by decide,by decide⟩ (zak (by decide) (by decide) (zbc v4) (zak (by decide) (by decide) ⟨by decide,by decide⟩ (za4 _)))))) (Bal.append (zb7 _ λx hx=>zlh (h5 x hx)) ?_));split
 ·unfold zmc
  exact Bal.append (y:=1) (zak (by decide) (by decide) ⟨by decide,by decide⟩ (zjC (by decide) (by decide) (za4 _))) (Bal.append (zb7 _ λx hx=>zlf (h6 x hx)) (Bal.append (zak (by decide) (by decide) ⟨by decide,by decide⟩ (zak (by decide) (by decide) (zbc v7) (zak (by decide) (by decide) (zbc v8) (zak (by decide) (by decide) ⟨by decide,by decide⟩ (za4 _))))) (zgK (by decide) (by decide) (za4 _))))
 ·exact za4 _
theorem zhs {ds:List D} (h:ze3 ds=true):zbt (zeL ds)<=1000000:=by
 have hv:=zaI h;obtain⟨v0,hv⟩:=zaf hv;obtain⟨v1,hv⟩:=zaf hv;obtain⟨v2,hv⟩:=zaf hv;obtain⟨v3,hv⟩:=zaf hv;obtain⟨v4,hv⟩:=zaf hv;obtain⟨v7,hv⟩:=zaf hv;obtain⟨v8,hv⟩:=zaf hv;obtain⟨⟨_,l5⟩,h5⟩:=zas (zaI (zam h));obtain⟨⟨_,l6⟩,h6⟩:=zas (zam (zam h));have c0:=zby (zcB v0);have c1:=zby (zcB v1);have c2:=zby (zcB v2);have c3:=zby (zcB v3);have c4:=zby (zcB v4);have c7:=zby (zcB v7);have c8:=zby (zcB v8);have d5:=zbM (f:=zcq) _ λx hx=>zjK (h5 x hx)
 have d6:=zbM (f:=zd2) _ λx hx=>zjG (h6 x hx)
 unfold zeL zmc
 simp only[zan,zbd,zbs,List.length_cons,List.length_nil];split
 ·simp only[zan,zbd,zbs,List.length_cons,List.length_nil];omega
 ·simp only[zbs];omega
theorem zjL {ds:List D} (h:ze3 ds=true):oks ⟨[],0,[]⟩ (zeL ds):=(zoO h ⟨[],0,[]⟩ rfl).1
theorem zjM (ds:List D):(pss ⟨[],0,[]⟩ (zeL ds)).out=txt ds:=by rw[zji];rfl
theorem zoP {ds:List D} (h:ze3 ds=true):(txt ds).length<=1000000:=by
 have:=za3 (zeL ds) ⟨[],0,[]⟩ (zjL h);rw[zjM]at this;have:=zhs h;simp at *;omega
end S
namespace S
mutual
theorem z_z:∀ d:D,Z (Z d)=Z d
 | .val v=>rfl
 | .row e z L=>by simp only[Z];rw[zrg (plc z) L]
theorem zsO:∀(b:Bool) (ds:List D),Zl b (Zl b ds)=Zl b ds
 |b,[]=>by simp only[Zl]
 |b,d :: ds=>by
  have ih:=zsO b ds;have e:(Zl b ds).isEmpty=ds.isEmpty:=by cases ds<;>simp[Zl]
  simp only[Zl,ih,e];by_cases h:(b&&ds.isEmpty)=true
  ·simp only[if_pos h]
  ·simp only[if_neg h,z_z d]
theorem zrg:∀(b:Bool) (L:List (List D)),Zss b (Zss b L)=Zss b L
 |b,[]=>by simp only[Zss]
 |b,ds :: L=>by simp only[Zss,zsO b ds,zrg b L]
end
theorem zrh (ds:List D):(ds.map Z).map Z=ds.map Z:=by rw[List.map_map];exact List.map_congr_left λd _=>z_z d
theorem zli {ds:List D} (hs:ShL zeI ds) (hB:ze3 ds=true) (hl:(txt ds).length<=65536):∃ cs,N (txt ds)= .ok cs/\cs.map Z=ds.map Z:=by
 obtain⟨L,e,h1,h2⟩:=zjo hB;have hT:T (txt ds)= .ok (L++ [⟨0,[],0,e⟩]):=by unfold T;rw[if_neg (by omega)];exact h1
 have hq:(L++ [(⟨0,[],0,e⟩:Tok)]).map q0=(zmd ds++ [(⟨0,[],0,0⟩:Tok)]).map q0:=by
  rw[List.map_append,List.map_append,<- h2,List.map_map];congr 1
 have hp:=zqL hq;rw[zfM hs hB]at hp;unfold N
 rw[hT];simp only;cases hx:zd8 (L++ [⟨0,[],0,e⟩])with
 |error x=>rw[hx]at hp;exact hp.elim
 |ok x=>
  obtain⟨c,r⟩:=x;rw[hx]at hp;exact⟨c,rfl,hp.trans (zrh ds)⟩
theorem zlj {l:List UInt8} (hl:65536<l.length):N l= .error (4,65536):=by
 unfold N
 rw[show T l= .error (4,65536) by unfold T;rw[if_pos hl]]
 rfl
theorem zri {L:List (List D)} {e:Nat} (h:∀ ds∈L,ShL zcy ds):nms (Z (.row e 1 L))=nms (.row e 1 L):=by
 unfold nms
 simp only[Z,fL];rw[zaV,List.map_map];apply List.map_congr_left;intro x hx
 have hs:=h x hx;simp only[ShL,Sh1,zcy]at hs;obtain⟨_,_,rfl,⟨s0,rfl,_⟩,rfl⟩:=hs;simp[gt,Zl,Z,plc,dS]
theorem zej {W:List D->List (List UInt8)} {bb:Bool} {L:List (List D)} (h:∀ ds∈L,W (Zl bb ds)=W ds):(Zss bb L).flatMap W=L.flatMap W:=by
 rw[zaV,List.flatMap_map]
 induction L with
 |nil=>rfl
 |cons d L ih=>rw[List.flatMap_cons,List.flatMap_cons,h d List.mem_cons_self,ih (λx hx=>h x (List.mem_cons_of_mem _ hx))]
theorem zoQ {ds:List D} (hs:ShL zen ds):zcP (Zl true ds)=zcP ds:=by
 simp only[ShL,Sh1,zen]at hs;obtain⟨_,_,rfl,⟨s0,rfl,_⟩,⟨_,_,rfl,⟨v1,rfl,_,_⟩,⟨_,_,rfl,⟨v2,rfl,_,_⟩,⟨_,_,rfl,⟨v3,rfl,_,_⟩,⟨_,_,rfl,⟨v4,rfl,_,_⟩,⟨_,_,rfl,⟨v5,rfl,_,_⟩,⟨_,_,rfl,⟨v6,rfl,_,_⟩,⟨_,_,rfl,⟨v7,rfl,_,_⟩,⟨_,_,rfl,⟨v8,rfl,_,_⟩,⟨_,_,rfl,⟨v9,rfl,_,_⟩,⟨_,_,rfl,⟨v10,rfl,_,_⟩,rfl⟩⟩⟩⟩⟩⟩⟩⟩⟩⟩⟩:=hs;simp[zcP,gt,Zl,Z,dS,dI]
theorem zoR {ds:List D} (hs:ShL ziu ds):zd1 (Zl true ds)=zd1 ds:=by
 simp only[ShL,Sh1,ziu]at hs;obtain⟨_,_,rfl,⟨s0,rfl,_⟩,⟨_,_,rfl,⟨s1,rfl,_⟩,⟨_,_,rfl,⟨v2,rfl,_,_⟩,⟨_,_,rfl,⟨v3,rfl,_,_⟩,⟨_,_,rfl,⟨v4,rfl,_,_⟩,⟨_,_,rfl,⟨v5,rfl,_,_⟩,rfl⟩⟩⟩⟩⟩⟩:=hs;simp[zd1,gt,Zl,Z,dS,dI]
theorem zrj {ds:List D} (hs:ShL ziv ds):zhM (Zl true ds)=zhM ds:=by
 simp only[ShL,Sh1,ziv]at hs;obtain⟨_,_,rfl,⟨s0,rfl,_⟩,⟨_,_,rfl,⟨s1,rfl,_⟩,⟨_,_,rfl,⟨v2,rfl,_,_⟩,rfl⟩⟩⟩:=hs;simp[zhM,gt,Zl,Z,dS,dI]
theorem zoS {ds:List D} (hs:ShL zdY ds):zd2 (Zl true ds)=zd2 ds:=by
 simp only[ShL,Sh1,zdY]at hs;obtain⟨_,_,rfl,⟨s0,rfl,_⟩,⟨_,_,rfl,⟨s1,rfl,_⟩,⟨_,_,rfl,⟨s2,rfl,_⟩,⟨_,_,rfl,⟨v3,rfl,_,_⟩,⟨_,_,rfl,⟨v4,rfl,_,_⟩,⟨_,_,rfl,⟨v5,rfl,_,_⟩,rfl⟩⟩⟩⟩⟩⟩:=hs;simp[zd2,gt,Zl,Z,dS,dI]
theorem zlk {ds:List D} (hs:ShL zcf ds):zcj (Zl true ds)=zcj ds:=by
 simp only[ShL,Sh1,zcf]at hs;obtain⟨_,_,rfl,⟨s0,rfl,_⟩,⟨_,_,rfl,⟨L1,rfl,_,q1⟩,⟨_,_,rfl,⟨v2,rfl,_,_⟩,rfl⟩⟩⟩:=hs;have:=zri (e:=9) q1;simp only[zcj,gt,Zl,List.isEmpty_cons,Bool.and_false,Bool.false_eq_true,if_false,List.getD_cons_zero,List.getD_cons_succ,this]
 rfl
theorem zoT {ds:List D} (hs:ShL zgs ds):zdG (Zl false ds)=zdG ds:=by
 simp only[ShL,Sh1,zgs]at hs;obtain⟨_,_,rfl,⟨f0,rfl⟩,⟨_,_,rfl,⟨L1,rfl,_,q1⟩,rfl⟩⟩:=hs;have:=zri (e:=9) q1;simp only[zdG,gt,Zl,Bool.false_and,Bool.false_eq_true,if_false,List.getD_cons_zero,List.getD_cons_succ,this]
 rfl
theorem zll {ds:List D} (hs:ShL zcg ds):zbw (Zl false ds)=zbw ds:=by
 simp only[ShL,Sh1,zcg]at hs;obtain⟨_,_,rfl,⟨L0,rfl,_,q0⟩,rfl⟩:=hs;have e:(fL (Z (.row 86 2 L0))).flatMap zdG=L0.flatMap zdG:=zej (bb:=false) (λx hx=>zoT (q0 x hx));simp only[zbw,gt,Zl,Bool.false_and,Bool.false_eq_true,if_false,List.getD_cons_zero,e]
 rfl
theorem zoU {ds:List D} (hs:ShL zdj ds):zcq (Zl true ds)=zcq ds:=by
 simp only[ShL,Sh1,zdj]at hs;obtain⟨_,_,rfl,⟨s0,rfl,_⟩,⟨_,_,rfl,⟨L1,rfl,_,q1⟩,⟨_,_,rfl,⟨L2,rfl,_,q2⟩,⟨_,_,rfl,⟨L3,rfl,_,q3⟩,⟨_,_,rfl,⟨L4,rfl,_,q4⟩,⟨_,_,rfl,⟨L5,rfl,_,q5⟩,⟨_,_,rfl,⟨v6,rfl,_,_⟩,rfl⟩⟩⟩⟩⟩⟩⟩:=hs;have e1:(fL (Z (.row 77 11 L1))).flatMap zcP=L1.flatMap zcP:=zej (bb:=true) (λx hx=>zoQ (q1 x hx));have e2:(fL (Z (.row 79 6 L2))).flatMap zd1=L2.flatMap zd1:=zej (bb:=true) (λx hx=>zoR (q2 x hx));have e3:(fL (Z (.row 81 3 L3))).flatMap zcj=L3.flatMap zcj:=zej (bb:=true) (λx hx=>zlk (q3 x hx));have e4:(fL (Z (.row 84 1 L4))).flatMap zbw=L4.flatMap zbw:=zej (bb:=false) (λx hx=>zll (q4 x hx));have e5:(fL (Z (.row 88 3 L5))).flatMap zhM=L5.flatMap zhM:=zej (bb:=true) (λx hx=>zrj (q5 x hx));simp only[zcq,gt,Zl,List.isEmpty_cons,Bool.and_false,Bool.false_eq_true,if_false,List.getD_cons_zero,List.getD_cons_succ,e1,e2,e3,e4,e5];simp only[Z,dS,fL]
theorem zmg {ds:List D} (hs:ShL zeI ds):zeL (ds.map Z)=zeL ds:=by
 simp only[ShL,Sh1,zeI]at hs;obtain⟨_,_,rfl,⟨v0,rfl,_,_⟩,⟨_,_,rfl,⟨v1,rfl,_,_⟩,⟨_,_,rfl,⟨v2,rfl,_,_⟩,⟨_,_,rfl,⟨v3,rfl,_,_⟩,⟨_,_,rfl,⟨v4,rfl,_,_⟩,⟨_,_,rfl,⟨L5,rfl,_,q5⟩,⟨_,_,rfl,⟨L6,rfl,_,q6⟩,⟨_,_,rfl,⟨v7,rfl,_,_⟩,⟨_,_,rfl,⟨v8,rfl,_,_⟩,rfl⟩⟩⟩⟩⟩⟩⟩⟩⟩:=hs;have e5:(fL (Z (.row 45 7 L5))).flatMap zcq=L5.flatMap zcq:=zej (bb:=true) (λx hx=>zoU (q5 x hx));have e6:(fL (Z (.row 48 6 L6))).flatMap zd2=L6.flatMap zd2:=zej (bb:=true) (λx hx=>zoS (q6 x hx));have e7:(fL (Z (.row 48 6 L6))).length=L6.length:=zeB _ _;unfold zeL zmc zdH
 simp only[List.map_cons,List.map_nil,gt,List.getD_cons_zero,List.getD_cons_succ,e5,e6,e7];simp only[Z,dI,fL];congr
theorem zrk {ds es:List D} (hs:ShL zeI ds) (he:ShL zeI es) (h:ds.map Z=es.map Z):txt ds=txt es:=by unfold txt;rw[<- zmg hs,h,zmg he]
theorem apart {ds es:List D} (hs:ShL zeI ds) (he:ShL zeI es) (hB:ze3 ds=true) (hC:ze3 es=true):txt ds=txt es↔ds.map Z=es.map Z:=by
 refine⟨λh=>?_,zrk hs he⟩;obtain⟨L,e,h1,h2⟩:=zjo hB;obtain⟨M,f,k1,k2⟩:=zjo hC;rw[h,k1]at h1;simp only[Except.ok.injEq]at h1;have hLM:=(List.append_inj' h1 rfl).1;subst hLM;have hK:zmd ds=zmd es:=h2.symm.trans k2;have r1:=zfM hs hB;have r2:=zfM he hC;rw[hK,r2]at r1;simp only[Except.ok.injEq,Prod.mk.injEq,and_true]at r1;exact r1.symm
theorem zfq {L:List (List D)} {hi:Nat} (hh:hi<=100000) (hl:L.length<=hi) (h:∀ ds∈L,ShL zcy ds):zco L:=⟨by omega,λx hx=>by
 have hs:=h x hx;simp only[ShL,Sh1,zcy]at hs;obtain⟨_,_,rfl,⟨s0,rfl,_⟩,rfl⟩:=hs;exact⟨s0,rfl⟩⟩
end S
end Go.Proofs.YthceiikgecoimaaGreatDoor
