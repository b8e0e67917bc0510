/- Package net: a number behind a sign that may be there. -/
import Derived.Test.YthceiikgecoimaaGreatDoorNFrac
import Derived.Test.YthceiikgecoimaaGreatDoorLVal
namespace Go.Proofs.YthceiikgecoimaaGreatDoor
open Go.RowKit
attribute [local go_sem ↓] Go.wp_at_zero Go.wp_at_succ
set_option linter.unusedVariables false
set_option linter.unusedSimpArgs false
set_option maxRecDepth 10000
def Env.more (E:Env) (q m:Nat):Env:= { E with S:=λb=>E.S b\/b=q,A:=λj=>if j<m then E.A j else if j=m then(q,0)else E.A (j - 1) }
theorem zc4 (E:Env) (q m j:Nat) (h:j<m):(E.more q m).A j=E.A j:=by simp[Env.more,h]
theorem zct (E:Env) (q m:Nat):(E.more q m).A m=(q,0):=by simp[Env.more]
theorem zca (E:Env) (q m j:Nat) (h:m<=j):(E.more q m).A (j+1)=E.A j:=by simp only[Env.more];rw[if_neg (by omega),if_neg (by omega)];rfl
theorem Rdr.more {E:Env} {w:World} {r:List Tok} (h:Rdr E w r) (m q:Nat) (hq:E.ta.block<q):Rdr (E.more q m) w r:=⟨h.1,λx=>x.elim h.2.1 (λe=>absurd e (Nat.ne_of_lt hq)),.inl h.2.2⟩
theorem Rdr.less {E:Env} {w w0:World} {r r0:List Tok} {m q:Nat} (h0:Rdr E w0 r0) (h:Rdr (E.more q m) w r):Rdr E w r:=⟨h.1,h0.2⟩
theorem zml (c cs:List D) (i:Nat):(c++cs)[c.length+i]? =cs[i]? :=by rw[List.getElem?_append_right (by omega)];congr 1;omega
theorem zkd (c cs:List D) (d:D) (i:Nat):(c++ [d]++cs)[c.length+(i+1)]? =cs[i]? :=by rw[List.getElem?_append_right (by simp)];congr 1;simp only[List.length_append,List.length_cons,List.length_nil];omega
theorem Cel.more {E:Env} {w:World} {c cs:List D} (h:Cel E w (c++cs)) (hS:∀ b,E.S b->b<w.heap.size) (hrb:E.rb<w.heap.size) (d:D) (v:Value) (t:TypeId) (hd:∀ w P,Rd w d P v):
  Cel (E.more w.heap.size c.length) (w.alloc (.cells #[v] t)) (c++ [d]++cs):=by
 have hk:=(zk w).alloc (.cells #[v] t);have old:∀ j e,(c++cs)[j]? =some e->∃ u,(w.alloc (.cells #[v] t)).cell? ⟨(E.A j).1,(E.A j).2,none⟩=some u/\Rd (w.alloc (.cells #[v] t)) e (E.more w.heap.size c.length).P u/\(w.alloc (.cells #[v] t)).frozen? ⟨(E.A j).1,(E.A j).2,none⟩=false/\(E.more w.heap.size c.length).S (E.A j).1/\(E.A j).1≠E.rb/\(E.A j).1<w.heap.size:=by
  intro j e he
  obtain⟨u,h1,h2,h3,h4,h5⟩:=h.2 j e he;refine⟨u,hk.cell' h1,Rd.move e _ _ u h2 (λi hi hl=>⟨hk.block i hl,⟨λx=>?_,hi.2⟩⟩),hk.frozen' h1 h3,.inl h4,h5,hS _ h4⟩;rcases x with x|x
  ·exact hi.1 x
  ·omega
 refine⟨λi j hi hj e=>?_,λj e he=>?_⟩
 ·have lt:∀ k,k<(c++cs).length->(E.A k).1<w.heap.size:=λk hk=>by
   obtain⟨u,_,_,_,_,_,x⟩:=old k (c++cs)[k] (by simp[hk]);exact x
  simp only[List.length_append,List.length_cons,List.length_nil]at hi hj lt;have inj:∀ i j,i<c.length+cs.length->j<c.length+cs.length->E.A i=E.A j->i=j:=λi j hi hj=>h.1 i j (by simpa using hi) (by simpa using hj)
  rcases Nat.lt_trichotomy i c.length with hi1|hi1|hi1
  ·rcases Nat.lt_trichotomy j c.length with hj1|hj1|hj1
   ·rw[zc4 _ _ _ _ hi1,zc4 _ _ _ _ hj1]at e;exact inj i j (by omega) (by omega) e
   ·subst hj1;rw[zc4 _ _ _ _ hi1,zct]at e;have:=lt i (by omega);rw[e]at this;simp at this
   ·obtain⟨j',rfl⟩:∃ j',j=j'+1:=⟨j - 1,by omega⟩;rw[zc4 _ _ _ _ hi1,zca _ _ _ _ (by omega)]at e;have:=inj i j' (by omega) (by omega) e;omega
  ·subst hi1;rcases Nat.lt_trichotomy j c.length with hj1|hj1|hj1
   ·rw[zc4 _ _ _ _ hj1,zct]at e;have:=lt j (by omega);rw[<- e]at this;simp at this
   ·exact hj1.symm
   ·obtain⟨j',rfl⟩:∃ j',j=j'+1:=⟨j - 1,by omega⟩;rw[zct,zca _ _ _ _ (by omega)]at e;have:=lt j' (by omega);rw[<- e]at this;simp at this
  ·obtain⟨i',rfl⟩:∃ i',i=i'+1:=⟨i - 1,by omega⟩;rcases Nat.lt_trichotomy j c.length with hj1|hj1|hj1
   ·rw[zc4 _ _ _ _ hj1,zca _ _ _ _ (by omega)]at e;have:=inj i' j (by omega) (by omega) e;omega
   ·subst hj1;rw[zct,zca _ _ _ _ (by omega)]at e;have:=lt i' (by omega);rw[e]at this;simp at this
   ·obtain⟨j',rfl⟩:∃ j',j=j'+1:=⟨j - 1,by omega⟩;rw[zca _ _ _ _ (by omega),zca _ _ _ _ (by omega)]at e;have:=inj i' j' (by omega) (by omega) e;omega
 ·rcases Nat.lt_trichotomy j c.length with hj1|hj1|hj1
  ·rw[zc4 _ _ _ _ hj1];obtain⟨u,h1,h2,h3,h4,h5,_⟩:=old j e (by rw[<- he];simp[List.getElem?_append,hj1,show j<c.length+1 by omega]);exact⟨u,h1,h2,h3,h4,h5⟩
  ·subst hj1;rw[zct];rw[show(c++ [d]++cs)[c.length]? =some d by simp]at he;injection he with he
   subst he;exact⟨v,by simp[go_sem],hd _ _,by simp[go_sem],.inr rfl,λe=>by have:w.heap.size=E.rb:=e;omega⟩
  ·obtain⟨j',rfl⟩:∃ j',j=c.length+(j'+1):=⟨j - c.length - 1,by omega⟩;rw[show c.length+(j'+1)=c.length+j'+1 by omega,zca _ _ _ _ (by omega)];obtain⟨u,h1,h2,h3,h4,h5,_⟩:=old (c.length+j') e (by rw[<- he,zml,zkd]);exact⟨u,h1,h2,h3,h4,h5⟩
theorem Cel.less {E:Env} {w w0:World} {q:Nat} {c cs cs0:List D} {d:D} (h:Cel (E.more q c.length) w (c++ [d]++cs)) (h0:Cel E w0 cs0) (hl:cs0.length=c.length+cs.length):Cel E w (c++cs):=by
 refine⟨by have:=h0.1;rw[hl]at this;simpa using this,λj e he=>?_⟩;have s0:∃ e0,cs0[j]? =some e0:=by
  have:j<(c++cs).length:=by
   rcases Nat.lt_or_ge j (c++cs).length with h|h
   ·exact h
   ·rw[List.getElem?_eq_none h]at he;cases he
  exact⟨cs0[j]'(by rw[hl];simpa using this),List.getElem?_eq_getElem _⟩
 obtain⟨e0,he0⟩:=s0;obtain⟨_,_,_,_,k4,k5⟩:=h0.2 j e0 he0;have fin:∀ u,Rd w e (E.more q c.length).P u->Rd w e E.P u:=λu hu=>Rd.move e _ _ u hu (λi hi _=>⟨rfl,λx=>hi.1 (.inl x),hi.2⟩)
 rcases Nat.lt_or_ge j c.length with hj|hj
 ·obtain⟨u,h1,h2,h3,h4,h5⟩:=h.2 j e (by rw[<- he];simp[List.getElem?_append,hj,show j<c.length+1 by omega]);rw[zc4 _ _ _ _ hj]at h1 h3;exact⟨u,h1,fin u h2,h3,k4,k5⟩
 ·obtain⟨i,rfl⟩:∃ i,j=c.length+i:=⟨j - c.length,by omega⟩;obtain⟨u,h1,h2,h3,h4,h5⟩:=h.2 (c.length+i+1) e (by rw[<- he,show c.length+i+1=c.length+(i+1) by omega,zml,zkd]);rw[zca _ _ _ _ (by omega)]at h1 h3;exact⟨u,h1,fin u h2,h3,k4,k5⟩
theorem zgU {E:Env} {w:World} {rest:List D} {n:Nat} {X Y:Rs} {e:Ending} {w':World} (hx:X=Y) (h:zcv E w rest n X e w'):zcv E w rest n Y e w':=hx▸h
theorem zke {E:Env} {w:World} {rest:List D} {n:Nat} {X:Rs} {e:Ending} {w' w2:World} (h:zcv E w rest n X e w') (k:Keep w' w2):zcv E w rest n X e w2:=by
 refine⟨h.1.trans (.keep k),?_⟩;obtain⟨_,h⟩:=h;cases X with
 |error x=>exact h
 |ok q=>exact⟨h.1,h.2.1,h.2.2.1.keep k,h.2.2.2.keep k⟩
theorem zlH (c:List D) (l:List Tok) (k:Nat) (hw:Wf l):(∃ x,sq [zaQ [45],zao] c (l.drop k)= .error x/\zaF c (l.drop k)= .error x)\/∃ b n r',sq [zaQ [45],zao] c (l.drop k)= .ok (c++ [dB b]++ [dI n],r')/\zaF c (l.drop k)= .ok (c++ [dI (if b then -n else n)],r')/\0<=n/\n<=999999999999999999:=by
 have hm:∀ t∈l.drop k,0<=t.n/\t.n<=999999999999999999:=λt ht=>hw.2.2 t (List.mem_of_mem_drop ht)
 cases hr:l.drop k with
 |nil=>left;exact⟨(50,0),by simp[sq,zaQ,bad],by simp[zaF,sq,zaQ,bad]⟩
 |cons t r=>
  rw[hr]at hm;by_cases h:t.s= [45]
  ·cases r with
   |nil=>left;exact⟨(50,0),by simp[sq,zaQ,bad,h,zao],by simp[zaF,sq,zaQ,bad,h,zao]⟩
   |cons t2 r2=>
    by_cases h2:t2.k=2
    ·right;exact⟨true,t2.n,r2,by simp[sq,zaQ,bad,h,zao,h2],by simp[zaF,sq,zaQ,bad,h,zao,h2,dB,dI],hm t2 (by simp)⟩
    ·left;exact⟨(50,t2.p),by simp[sq,zaQ,bad,h,zao,h2],by simp[zaF,sq,zaQ,bad,h,zao,h2]⟩
  ·by_cases h2:t.k=2
   ·right;exact⟨false,t.n,r,by simp[sq,zaQ,bad,h,zao,h2],by simp[zaF,sq,zaQ,bad,h,zao,h2,dB,dI],hm t (by simp)⟩
   ·left;exact⟨(50,t.p),by simp[sq,zaQ,bad,h,zao,h2],by simp[zaF,sq,zaQ,bad,h,zao,h2]⟩
set_option maxHeartbeats 4000000 in
theorem zkf (E:Env) (g1 g2 b o m:Nat) (c rest:List D) (w:World) (r:List Tok) (h1:w.cell? ⟨g1,0,none⟩=some (.pointer (some ⟨E.rb,0,none⟩))) (h2:w.cell? ⟨g2,0,none⟩=some (.pointer (some ⟨b,o,none⟩)))
  (N1:Hid (¬E.S g1)) (N2:Hid (¬E.S g2)) (A0:Hid (E.A m=(b,o))) (HS:Hid (∀ b,E.S b->b<w.heap.size)) (hcm:Hid (c.length=m)) (HR:Hid (Rdr E w r)) (HL:Hid (Cel E w (c++ [dI 0]++rest))) (x:Er) (HX:Hid (sq [zaQ [45],zao] c r= .error x)):
  Calls Tryz.prog 167 #[.pointer (some ⟨g1,0,none⟩),.pointer (some ⟨g2,0,none⟩)] w (zcv E w rest (m+1) (.error x)):=by
 have H1:=zh h1;have H2:=zh h2;have HK0:Hid (Keep w (w.alloc (.cells #[.bool false] 4)).drew):=zh ((zk w).alloc _).drew;have HQ1:Hid (¬(E.more w.heap.size m).S g1):=zh (λx=>x.elim (uq N1) (λe=>by have:=zat (uq H1);simp at this;omega));have HQ2:Hid (¬(E.more w.heap.size m).S g2):=zh (λx=>x.elim (uq N2) (λe=>by have:=zat (uq H2);simp at this;omega));have HS0:Hid (∀ b,(E.more w.heap.size m).S b->b<(w.alloc (.cells #[.bool false] 4)).drew.heap.size):=zh (λb hb=>by
  show b<(w.alloc (.cells #[.bool false] 4)).heap.size;rw[World.size_alloc];rcases hb with hb|hb
  ·have:=(uq HS) b hb;omega
  ·omega)
 have HRa:Hid (Rdr (E.more w.heap.size m) (w.alloc (.cells #[.bool false] 4)) r):=by
  obtain⟨k,_,_,_,_,_,h7,_⟩:=(uq HR).1;exact((uq HR).keep ((zk w).alloc _)).more m w.heap.size h7
 have HLa:Hid (Cel (E.more w.heap.size m) (w.alloc (.cells #[.bool false] 4)) (c++ [dB false,dI 0]++rest)):=by
  have hx:Cel E w (c++([dI 0]++rest)):=by have:=uq HL;rwa[List.append_assoc]at this
  have:=hx.more (uq HS) ((uq HS) _ (uq HR).2.2) (dB false) (.bool false) 4 (zgi _);rw[uq hcm]at this;show Cel _ _ _;simpa [List.append_assoc]using this
 have B0:Hid ((E.more w.heap.size m).A m=(w.heap.size,0)):=zct _ _ _;have B1:Hid ((E.more w.heap.size m).A (m+1)=(b,o)):=by unfold Hid;rw[zca _ _ _ _ (Nat.le_refl _)];exact uq A0
 have HBx:Hid ((w.alloc (.cells #[.bool false] 4)).cell? ⟨g1,0,none⟩=some (.pointer (some ⟨E.rb,0,none⟩))/\(w.alloc (.cells #[.bool false] 4)).cell? ⟨g2,0,none⟩=some (.pointer (some ⟨b,o,none⟩))):=⟨((zk w).alloc _).cell' (uq H1),((zk w).alloc _).cell' (uq H2)⟩;clear h1 h2;go_enter Tryz.func167,Tryz.ntmps167;go_wp2_with fail
 refine wp_region_held_drew (S:=λw'=>w'.cell? ⟨g1,0,none⟩=some (.pointer (some ⟨E.rb,0,none⟩))/\w'.cell? ⟨g2,0,none⟩=some (.pointer (some ⟨b,o,none⟩))) (by kernel_rfl) (by exact uq HBx) (λzH=>?_);refine tk3 0 5 2 7 3 8 zH ?_;try simp only[Yq]
 refine zaq 1 (λK hK=>?_);go_simp;clear zH;(refine(zd5 (E:=E.more w.heap.size m) [45] (by decide) (dB false) m _ _ (uq B0) _ (uq HS0)).mono ?_;rintro e w1 ⟨f1,x1,y1,rfl,hk,hd⟩;have HS1:=zh (zae (uq HS0) hk);have HK1:=zh ((uq HK0).trans hk);have HJ1:Hid (Keep (w.alloc (.cells #[.bool false] 4)) w1):=zh (Keep.trans (zk _).drew hk);have HC1:Hid (zaw (E.more w.heap.size m) w1 m [(.func (.func f1) x1 y1,[dB false],zaQ [45])]):=zh ⟨hd,trivial⟩;clear hk hd);try go_wp2_with fail
 refine hK.out _ _ ?_ (λzH=>?_)
 ·exact⟨(uq HK1).cell' (uq H1),(uq HK1).cell' (uq H2)⟩
 clear hK K;try simp only[Yq]
 refine zaq 4 (λK hK=>?_);go_simp;clear zH;(refine(zaB (E:=E.more w.heap.size m) (dI 0) (m+1) _ _ (uq B1) _ (uq HS1)).mono ?_;rintro e w2 ⟨f2,x2,y2,rfl,hk,hd⟩;have HS2:=zh (zae (uq HS1) hk);have HK2:=zh ((uq HK1).trans hk);have HJ2:=zh ((uq HJ1).trans hk);have HC2:Hid (zaw (E.more w.heap.size m) w2 m [(.func (.func f1) x1 y1,[dB false],zaQ [45]),(.func (.func f2) x2 y2,[dI 0],zao)]):=zh (zab (uq HC1) hk hd);clear hk hd);try go_wp2_with fail
 refine hK.out _ _ ?_ (λzH=>?_)
 ·exact⟨(uq HK2).cell' (uq H1),(uq HK2).cell' (uq H2)⟩
 clear hK K;try simp only[Yq]
 refine zaq 5 (λK hK=>?_);go_simp;clear zH;refine hK.out _ _ ?_ (λzH=>?_)
 ·exact⟨((uq HK2).alloc _).cell' (uq H1),((uq HK2).alloc _).cell' (uq H2)⟩
 clear hK K;try simp only[Yq]
 refine zaq 6 (λK hK=>?_);go_simp;clear zH;(refine(za5 (E:=E.more w.heap.size m) (m:=m) (ss:= [(.func (.func f1) x1 y1,[dB false],zaQ [45]),(.func (.func f2) x2 y2,[dI 0],zao)]) (c:=c) (rest:=rest) (r:=r) (by simp) (zaS ((zk _).alloc _) (uq HC2)) (za1 _ _ _) (λh=>Nat.lt_irrefl _ ((uq HS2) _ h)) (uq hcm) ((uq HRa).keep ((uq HJ2).alloc _)) ((uq HLa).keep ((uq HJ2).alloc _))).mono ?_;rintro e wz hp;have hp2:=zgU (n:=m+2) (uq HX) hp;obtain rfl:e= .returned (flt x):=hp2.2;have HP:=zh hp;have HP2:=zh hp2;have HKz:=zh ((uq HK2).alloc (.cells #[.func (.func f1) x1 y1,.func (.func f2) x2 y2] 162));clear hp hp2);try go_wp2_with fail
 refine hK.out _ _ ?_ (λzH=>?_)
 ·exact⟨(uq HP).1.cell ((uq HKz).cell' (uq H1)) (uq HQ1),(uq HP).1.cell ((uq HKz).cell' (uq H2)) (uq HQ2)⟩
 clear hK K;try simp only[Yq]
 refine tkk 7 4 zH ?_;try simp only[Yq]
 refine wpAnyH_done (by kernel_rfl) ?_ _;clear zH;have HFz:Hid (Fr E.S w wz):=zh (Fr.inner (.keep (uq HKz)) (uq HP2).1 (λi hi hs=>hs.elim id (λe=>absurd hi (by omega))));unfold flt
 go_wp2_with fail
 go_ret;exact⟨uq HFz,rfl⟩
set_option maxHeartbeats 4000000 in
theorem zkg (E:Env) (g1 g2 b o m:Nat) (c rest:List D) (w:World) (r:List Tok) (h1:w.cell? ⟨g1,0,none⟩=some (.pointer (some ⟨E.rb,0,none⟩))) (h2:w.cell? ⟨g2,0,none⟩=some (.pointer (some ⟨b,o,none⟩)))
  (N1:Hid (¬E.S g1)) (N2:Hid (¬E.S g2)) (A0:Hid (E.A m=(b,o))) (HS:Hid (∀ b,E.S b->b<w.heap.size)) (hcm:Hid (c.length=m)) (HR:Hid (Rdr E w r)) (HL:Hid (Cel E w (c++ [dI 0]++rest))) (n:Int) (r':List Tok) (HX:Hid (sq [zaQ [45],zao] c r= .ok (c++ [dB false]++ [dI n],r'))):
  Calls Tryz.prog 167 #[.pointer (some ⟨g1,0,none⟩),.pointer (some ⟨g2,0,none⟩)] w (zcv E w rest (m+1) (.ok (c++ [dI n],r'))):=by
 have H1:=zh h1;have H2:=zh h2;have HK0:Hid (Keep w (w.alloc (.cells #[.bool false] 4)).drew):=zh ((zk w).alloc _).drew;have HQ1:Hid (¬(E.more w.heap.size m).S g1):=zh (λx=>x.elim (uq N1) (λe=>by have:=zat (uq H1);simp at this;omega));have HQ2:Hid (¬(E.more w.heap.size m).S g2):=zh (λx=>x.elim (uq N2) (λe=>by have:=zat (uq H2);simp at this;omega));have HS0:Hid (∀ b,(E.more w.heap.size m).S b->b<(w.alloc (.cells #[.bool false] 4)).drew.heap.size):=zh (λb hb=>by
  show b<(w.alloc (.cells #[.bool false] 4)).heap.size;rw[World.size_alloc];rcases hb with hb|hb
  ·have:=(uq HS) b hb;omega
  ·omega)
 have HRa:Hid (Rdr (E.more w.heap.size m) (w.alloc (.cells #[.bool false] 4)) r):=by
  obtain⟨k,_,_,_,_,_,h7,_⟩:=(uq HR).1;exact((uq HR).keep ((zk w).alloc _)).more m w.heap.size h7
 have HLa:Hid (Cel (E.more w.heap.size m) (w.alloc (.cells #[.bool false] 4)) (c++ [dB false,dI 0]++rest)):=by
  have hx:Cel E w (c++([dI 0]++rest)):=by have:=uq HL;rwa[List.append_assoc]at this
  have:=hx.more (uq HS) ((uq HS) _ (uq HR).2.2) (dB false) (.bool false) 4 (zgi _);rw[uq hcm]at this;show Cel _ _ _;simpa [List.append_assoc]using this
 have B0:Hid ((E.more w.heap.size m).A m=(w.heap.size,0)):=zct _ _ _;have B1:Hid ((E.more w.heap.size m).A (m+1)=(b,o)):=by unfold Hid;rw[zca _ _ _ _ (Nat.le_refl _)];exact uq A0
 have HBx:Hid ((w.alloc (.cells #[.bool false] 4)).cell? ⟨g1,0,none⟩=some (.pointer (some ⟨E.rb,0,none⟩))/\(w.alloc (.cells #[.bool false] 4)).cell? ⟨g2,0,none⟩=some (.pointer (some ⟨b,o,none⟩))):=⟨((zk w).alloc _).cell' (uq H1),((zk w).alloc _).cell' (uq H2)⟩;clear h1 h2;go_enter Tryz.func167,Tryz.ntmps167;go_wp2_with fail
 refine wp_region_held_drew (S:=λw'=>w'.cell? ⟨g1,0,none⟩=some (.pointer (some ⟨E.rb,0,none⟩))/\w'.cell? ⟨g2,0,none⟩=some (.pointer (some ⟨b,o,none⟩))) (by kernel_rfl) (by exact uq HBx) (λzH=>?_);refine tk3 0 5 2 7 3 8 zH ?_;try simp only[Yq]
 refine zaq 1 (λK hK=>?_);go_simp;clear zH;(refine(zd5 (E:=E.more w.heap.size m) [45] (by decide) (dB false) m _ _ (uq B0) _ (uq HS0)).mono ?_;rintro e w1 ⟨f1,x1,y1,rfl,hk,hd⟩;have HS1:=zh (zae (uq HS0) hk);have HK1:=zh ((uq HK0).trans hk);have HJ1:Hid (Keep (w.alloc (.cells #[.bool false] 4)) w1):=zh (Keep.trans (zk _).drew hk);have HC1:Hid (zaw (E.more w.heap.size m) w1 m [(.func (.func f1) x1 y1,[dB false],zaQ [45])]):=zh ⟨hd,trivial⟩;clear hk hd);try go_wp2_with fail
 refine hK.out _ _ ?_ (λzH=>?_)
 ·exact⟨(uq HK1).cell' (uq H1),(uq HK1).cell' (uq H2)⟩
 clear hK K;try simp only[Yq]
 refine zaq 4 (λK hK=>?_);go_simp;clear zH;(refine(zaB (E:=E.more w.heap.size m) (dI 0) (m+1) _ _ (uq B1) _ (uq HS1)).mono ?_;rintro e w2 ⟨f2,x2,y2,rfl,hk,hd⟩;have HS2:=zh (zae (uq HS1) hk);have HK2:=zh ((uq HK1).trans hk);have HJ2:=zh ((uq HJ1).trans hk);have HC2:Hid (zaw (E.more w.heap.size m) w2 m [(.func (.func f1) x1 y1,[dB false],zaQ [45]),(.func (.func f2) x2 y2,[dI 0],zao)]):=zh (zab (uq HC1) hk hd);clear hk hd);try go_wp2_with fail
 refine hK.out _ _ ?_ (λzH=>?_)
 ·exact⟨(uq HK2).cell' (uq H1),(uq HK2).cell' (uq H2)⟩
 clear hK K;try simp only[Yq]
 refine zaq 5 (λK hK=>?_);go_simp;clear zH;refine hK.out _ _ ?_ (λzH=>?_)
 ·exact⟨((uq HK2).alloc _).cell' (uq H1),((uq HK2).alloc _).cell' (uq H2)⟩
 clear hK K;try simp only[Yq]
 refine zaq 6 (λK hK=>?_);go_simp;clear zH;(refine(za5 (E:=E.more w.heap.size m) (m:=m) (ss:= [(.func (.func f1) x1 y1,[dB false],zaQ [45]),(.func (.func f2) x2 y2,[dI 0],zao)]) (c:=c) (rest:=rest) (r:=r) (by simp) (zaS ((zk _).alloc _) (uq HC2)) (za1 _ _ _) (λh=>Nat.lt_irrefl _ ((uq HS2) _ h)) (uq hcm) ((uq HRa).keep ((uq HJ2).alloc _)) ((uq HLa).keep ((uq HJ2).alloc _))).mono ?_;rintro e wz hp;have hp2:=zgU (n:=m+2) (uq HX) hp;obtain rfl:e= .returned .nilIface:=hp2.2.1;have HP:=zh hp;have HP2:=zh hp2;have HKz:=zh ((uq HK2).alloc (.cells #[.func (.func f1) x1 y1,.func (.func f2) x2 y2] 162));clear hp hp2);try go_wp2_with fail
 refine hK.out _ _ ?_ (λzH=>?_)
 ·exact⟨(uq HP).1.cell ((uq HKz).cell' (uq H1)) (uq HQ1),(uq HP).1.cell ((uq HKz).cell' (uq H2)) (uq HQ2)⟩
 clear hK K;try simp only[Yq]
 refine tkk 7 4 zH ?_;try simp only[Yq]
 refine wpAnyH_done (by kernel_rfl) ?_ _;clear zH;have HFz:Hid (Fr E.S w wz):=zh (Fr.inner (.keep (uq HKz)) (uq HP2).1 (λi hi hs=>hs.elim id (λe=>absurd hi (by omega))));obtain⟨_,_,_,hr2,hl2⟩:=uq HP2;have d1:wz.cell? ⟨w.heap.size,0,none⟩=some (.bool false):=by
  obtain⟨u,k1,k2,_⟩:=hl2.2 m (dB false) (by rw[<- uq hcm];simp);rw[zct]at k1;rw[k1,(show u= .bool false from k2.1)]
 have hl3:Cel (E.more w.heap.size c.length) wz (c++ [dB false]++([dI n]++rest)):=by have:=hl2;rw[<- uq hcm]at this;simpa [List.append_assoc]using this
 have HLz:Hid (Cel E wz (c++ [dI n]++rest)):=zh (by have:=hl3.less (uq HL) (by simp);simpa [List.append_assoc]using this);have HRz:Hid (Rdr E wz r'):=zh ((uq HR).less hr2);clear hr2 hl2 hl3;go_wp2_with fail
 go_ret;exact zbF rfl (uq HFz) (by have:=uq hcm;simp;omega) (uq HRz) (uq HLz)
set_option maxHeartbeats 4000000 in
theorem zkh (E:Env) (g1 g2 b o m:Nat) (c rest:List D) (w:World) (r:List Tok) (h1:w.cell? ⟨g1,0,none⟩=some (.pointer (some ⟨E.rb,0,none⟩))) (h2:w.cell? ⟨g2,0,none⟩=some (.pointer (some ⟨b,o,none⟩)))
  (N1:Hid (¬E.S g1)) (N2:Hid (¬E.S g2)) (A0:Hid (E.A m=(b,o))) (HS:Hid (∀ b,E.S b->b<w.heap.size)) (hcm:Hid (c.length=m)) (HR:Hid (Rdr E w r)) (HL:Hid (Cel E w (c++ [dI 0]++rest))) (n:Int) (r':List Tok) (hn:0<=n/\n<=999999999999999999) (HX:Hid (sq [zaQ [45],zao] c r= .ok (c++ [dB true]++ [dI n],r'))):
  Calls Tryz.prog 167 #[.pointer (some ⟨g1,0,none⟩),.pointer (some ⟨g2,0,none⟩)] w (zcv E w rest (m+1) (.ok (c++ [dI (-n)],r'))):=by
 have H1:=zh h1;have H2:=zh h2;have HK0:Hid (Keep w (w.alloc (.cells #[.bool false] 4)).drew):=zh ((zk w).alloc _).drew;have HQ1:Hid (¬(E.more w.heap.size m).S g1):=zh (λx=>x.elim (uq N1) (λe=>by have:=zat (uq H1);simp at this;omega));have HQ2:Hid (¬(E.more w.heap.size m).S g2):=zh (λx=>x.elim (uq N2) (λe=>by have:=zat (uq H2);simp at this;omega));have HS0:Hid (∀ b,(E.more w.heap.size m).S b->b<(w.alloc (.cells #[.bool false] 4)).drew.heap.size):=zh (λb hb=>by
  show b<(w.alloc (.cells #[.bool false] 4)).heap.size;rw[World.size_alloc];rcases hb with hb|hb
  ·have:=(uq HS) b hb;omega
  ·omega)
 have HRa:Hid (Rdr (E.more w.heap.size m) (w.alloc (.cells #[.bool false] 4)) r):=by
  obtain⟨k,_,_,_,_,_,h7,_⟩:=(uq HR).1;exact((uq HR).keep ((zk w).alloc _)).more m w.heap.size h7
 have HLa:Hid (Cel (E.more w.heap.size m) (w.alloc (.cells #[.bool false] 4)) (c++ [dB false,dI 0]++rest)):=by
  have hx:Cel E w (c++([dI 0]++rest)):=by have:=uq HL;rwa[List.append_assoc]at this
  have:=hx.more (uq HS) ((uq HS) _ (uq HR).2.2) (dB false) (.bool false) 4 (zgi _);rw[uq hcm]at this;show Cel _ _ _;simpa [List.append_assoc]using this
 have B0:Hid ((E.more w.heap.size m).A m=(w.heap.size,0)):=zct _ _ _;have B1:Hid ((E.more w.heap.size m).A (m+1)=(b,o)):=by unfold Hid;rw[zca _ _ _ _ (Nat.le_refl _)];exact uq A0
 have HBx:Hid ((w.alloc (.cells #[.bool false] 4)).cell? ⟨g1,0,none⟩=some (.pointer (some ⟨E.rb,0,none⟩))/\(w.alloc (.cells #[.bool false] 4)).cell? ⟨g2,0,none⟩=some (.pointer (some ⟨b,o,none⟩))):=⟨((zk w).alloc _).cell' (uq H1),((zk w).alloc _).cell' (uq H2)⟩;clear h1 h2;go_enter Tryz.func167,Tryz.ntmps167;go_wp2_with fail
 refine wp_region_held_drew (S:=λw'=>w'.cell? ⟨g1,0,none⟩=some (.pointer (some ⟨E.rb,0,none⟩))/\w'.cell? ⟨g2,0,none⟩=some (.pointer (some ⟨b,o,none⟩))) (by kernel_rfl) (by exact uq HBx) (λzH=>?_);refine tk3 0 5 2 7 3 8 zH ?_;try simp only[Yq]
 refine zaq 1 (λK hK=>?_);go_simp;clear zH;(refine(zd5 (E:=E.more w.heap.size m) [45] (by decide) (dB false) m _ _ (uq B0) _ (uq HS0)).mono ?_;rintro e w1 ⟨f1,x1,y1,rfl,hk,hd⟩;have HS1:=zh (zae (uq HS0) hk);have HK1:=zh ((uq HK0).trans hk);have HJ1:Hid (Keep (w.alloc (.cells #[.bool false] 4)) w1):=zh (Keep.trans (zk _).drew hk);have HC1:Hid (zaw (E.more w.heap.size m) w1 m [(.func (.func f1) x1 y1,[dB false],zaQ [45])]):=zh ⟨hd,trivial⟩;clear hk hd);try go_wp2_with fail
 refine hK.out _ _ ?_ (λzH=>?_)
 ·exact⟨(uq HK1).cell' (uq H1),(uq HK1).cell' (uq H2)⟩
 clear hK K;try simp only[Yq]
 refine zaq 4 (λK hK=>?_);go_simp;clear zH;(refine(zaB (E:=E.more w.heap.size m) (dI 0) (m+1) _ _ (uq B1) _ (uq HS1)).mono ?_;rintro e w2 ⟨f2,x2,y2,rfl,hk,hd⟩;have HS2:=zh (zae (uq HS1) hk);have HK2:=zh ((uq HK1).trans hk);have HJ2:=zh ((uq HJ1).trans hk);have HC2:Hid (zaw (E.more w.heap.size m) w2 m [(.func (.func f1) x1 y1,[dB false],zaQ [45]),(.func (.func f2) x2 y2,[dI 0],zao)]):=zh (zab (uq HC1) hk hd);clear hk hd);try go_wp2_with fail
 refine hK.out _ _ ?_ (λzH=>?_)
 ·exact⟨(uq HK2).cell' (uq H1),(uq HK2).cell' (uq H2)⟩
 clear hK K;try simp only[Yq]
 refine zaq 5 (λK hK=>?_);go_simp;clear zH;refine hK.out _ _ ?_ (λzH=>?_)
 ·exact⟨((uq HK2).alloc _).cell' (uq H1),((uq HK2).alloc _).cell' (uq H2)⟩
 clear hK K;try simp only[Yq]
 refine zaq 6 (λK hK=>?_);go_simp;clear zH;(refine(za5 (E:=E.more w.heap.size m) (m:=m) (ss:= [(.func (.func f1) x1 y1,[dB false],zaQ [45]),(.func (.func f2) x2 y2,[dI 0],zao)]) (c:=c) (rest:=rest) (r:=r) (by simp) (zaS ((zk _).alloc _) (uq HC2)) (za1 _ _ _) (λh=>Nat.lt_irrefl _ ((uq HS2) _ h)) (uq hcm) ((uq HRa).keep ((uq HJ2).alloc _)) ((uq HLa).keep ((uq HJ2).alloc _))).mono ?_;rintro e wz hp;have hp2:=zgU (n:=m+2) (uq HX) hp;obtain rfl:e= .returned .nilIface:=hp2.2.1;have HP:=zh hp;have HP2:=zh hp2;have HKz:=zh ((uq HK2).alloc (.cells #[.func (.func f1) x1 y1,.func (.func f2) x2 y2] 162));clear hp hp2);try go_wp2_with fail
 refine hK.out _ _ ?_ (λzH=>?_)
 ·exact⟨(uq HP).1.cell ((uq HKz).cell' (uq H1)) (uq HQ1),(uq HP).1.cell ((uq HKz).cell' (uq H2)) (uq HQ2)⟩
 clear hK K;try simp only[Yq]
 refine tkk 7 4 zH ?_;try simp only[Yq]
 refine wpAnyH_done (by kernel_rfl) ?_ _;clear zH;have HFz:Hid (Fr E.S w wz):=zh (Fr.inner (.keep (uq HKz)) (uq HP2).1 (λi hi hs=>hs.elim id (λe=>absurd hi (by omega))));obtain⟨_,_,_,hr2,hl2⟩:=uq HP2;have d1:wz.cell? ⟨w.heap.size,0,none⟩=some (.bool true):=by
  obtain⟨u,k1,k2,_⟩:=hl2.2 m (dB true) (by rw[<- uq hcm];simp);rw[zct]at k1;rw[k1,(show u= .bool true from k2.1)]
 have hl3:Cel (E.more w.heap.size c.length) wz (c++ [dB true]++([dI n]++rest)):=by have:=hl2;rw[<- uq hcm]at this;simpa [List.append_assoc]using this
 have HLz:Hid (Cel E wz (c++ [dI n]++rest)):=zh (by have:=hl3.less (uq HL) (by simp);simpa [List.append_assoc]using this);have HRz:Hid (Rdr E wz r'):=zh ((uq HR).less hr2);clear hr2 hl2 hl3;have d2:Hid (wz.cell? ⟨g2,0,none⟩=some (.pointer (some ⟨b,o,none⟩))):=zh ((uq HFz).cell (uq H2) (uq N2));have hx:wz.cell? ⟨b,o,none⟩=some (.int .i64 n)/\wz.frozen? ⟨b,o,none⟩=false/\E.S b/\b≠E.rb:=by
  obtain⟨u,k1,k2,k3,k4,k5⟩:=(uq HLz).2 m (dI n) (by rw[<- uq hcm];simp);rw[uq A0]at k1 k3 k4 k5;exact⟨by rw[k1,(show u= .int .i64 n from k2.1)],k3,k4,k5⟩
 obtain⟨d3,d4,d5,d6⟩:=hx;have D3:=zh d3;have D5:=zh d5;clear d3 d5;have hn1:wrap64 (-n)= -n:=by unfold wrap64;omega
 have hn2:IntKind.i64.wrap (-n)= -n:=by rw[IntKind.wrap_i64];omega
 go_wp2_with fail
 have n2:g2≠b:=λe=>(uq N2) (e▸(uq D5))
 refine wp_region_held_drew (S:=λw'=>w'.cell? ⟨g2,0,none⟩=some (.pointer (some ⟨b,o,none⟩))) (by kernel_rfl) (by exact uq d2) (λzH=>?_);refine tk3 0 16 1 17 2 18 zH ?_;try simp only[Yq]
 have d3:=uq D3;refine zaq 3 (λK hK=>?_);go_simp;clear zH;refine hK.out _ _ ?_ (λzH=>?_)
 ·exact uq d2
 clear hK K;try simp only[Yq]
 refine tk2 4 20 5 21 zH ?_;try simp only[Yq]
 refine zaq 6 (λK hK=>?_);go_simp;clear zH;refine hK.out _ _ ?_ (λzH=>?_)
 ·show(wz.setCell ⟨b,o,none⟩ _).cell? _=_;rw[zac _ _ _ _ (λe=>n2 e.symm)];exact uq d2
 clear hK K;try simp only[Yq]
 refine wpAnyH_done (by kernel_rfl) ?_ _;clear zH;go_wp2_with fail
 go_ret;have hq:E.ta.block≠b:=λe=>(uq HR).2.1 (e▸uq D5)
 have hput:=(uq HLz).put (.int .i64 (-n)) _ (dI (-n)) rfl (zbE _);rw[uq hcm,uq A0]at hput;have hpost:zcv E w rest (m+1) (.ok (c++ [dI (-n)],r')) (.returned .nilIface) (wz.setCell ⟨b,o,none⟩ (.int .i64 (-n))):=zbF rfl ((uq HFz).set ⟨b,o,none⟩ _ (uq D5)) (by have:=uq hcm;simp;omega) ⟨(uq HRz).1.far _ _ d6 (λe=>hq e.symm),(uq HR).2⟩ hput;exact zke hpost (zk _).drew
theorem zid {E:Env} {w0:World} {g1 g2 m b o:Nat} (hA:E.A m=(b,o)) (hS:∀ b,E.S b->b<w0.heap.size) (b1:Bx E w0 g1 (.pointer (some ⟨E.rb,0,none⟩))) (b2:Bx E w0 g2 (.pointer (some ⟨b,o,none⟩))):
  Does E w0 (.func (.func 167) #[] #[.pointer (some ⟨g1,0,none⟩),.pointer (some ⟨g2,0,none⟩)]) m [dI 0] zaF:=by
 refine⟨_,_,_,rfl,λxs w=>by kernel_rfl,λw c rest r hf hc hr hl=>?_⟩;obtain⟨k,_,hk,_,_,_,_,_,hw⟩:=hr.1;rcases zlH c E.l k hw with ⟨x,h1,h2⟩|⟨b',n,r',h1,h2,h3⟩
 ·rw[<- hk]at h1 h2;rw[h2];exact zkf E g1 g2 b o m c rest w r (b1.fr hf).1 (b2.fr hf).1 (zh b1.2) (zh b2.2) (zh hA) (zh (Rdr.hs hS hf)) (zh hc) (zh hr) (zh hl) x (zh h1)
 ·rw[<- hk]at h1 h2;rw[h2];cases b' with
  |false=>exact zkg E g1 g2 b o m c rest w r (b1.fr hf).1 (b2.fr hf).1 (zh b1.2) (zh b2.2) (zh hA) (zh (Rdr.hs hS hf)) (zh hc) (zh hr) (zh hl) n r' (zh h1)
  |true=>exact zkh E g1 g2 b o m c rest w r (b1.fr hf).1 (b2.fr hf).1 (zh b1.2) (zh b2.2) (zh hA) (zh (Rdr.hs hS hf)) (zh hc) (zh hr) (zh hl) n r' h3 (zh h1)
set_option maxHeartbeats 1000000 in
theorem zie (a b:Option Addr) (w:World):Calls Tryz.prog 146 #[.pointer a,.pointer b] w λe w'=>e= .returned (.func (.func 167) #[] #[.pointer (some ⟨w.heap.size,0,none⟩),.pointer (some ⟨w.heap.size+1,0,none⟩)])/\w'=(w.alloc (.cells #[.pointer a] 123)).alloc (.cells #[.pointer b] 165):=by
 go_enter Tryz.func146,Tryz.ntmps146;go_wp2;go_ret;exact⟨rfl,rfl⟩
theorem zeM {E:Env} (m b o:Nat) (hA:E.A m=(b,o)) (w:World) (hS:∀ b,E.S b->b<w.heap.size):Calls Tryz.prog 146 #[.pointer (some ⟨E.rb,0,none⟩),.pointer (some ⟨b,o,none⟩)] w (Mk E m [dI 0] zaF w):=by
 refine(zie _ _ w).mono ?_;rintro e w' ⟨rfl,rfl⟩;obtain⟨b1,b2⟩:=zbY E w _ _ _ _ hS;exact⟨_,_,_,rfl,zaM _ _ _,zid hA (zae hS (zaM _ _ _)) b1 b2⟩
end Go.Proofs.YthceiikgecoimaaGreatDoor
