/- Package need: jobOf, over letters. -/
import Derived.Test.YtpmaonkelkmhbaaGreatNjA
import Derived.Test.YtpmaonkelkmhbaaGreatLSkip
import Derived.Test.YtpmaonkelkmhbaaGreatNjI
namespace Go.Proofs.YtpmaonkelkmhbaaGreat
open Go.RowKit
attribute [local go_sem ↓] Go.wp_at_zero Go.wp_at_succ
set_option linter.unusedVariables false
set_option linter.unusedSimpArgs false
set_option maxRecDepth 10000
namespace Nj
theorem znL:(Tryz.prog.info? 42).map (fun i=>(i.zero,i.size,i.bytes))=some (some (.slice none 0 0),1,24):=by kernel_rfl
theorem znM:(Tryz.prog.info? 4).map (fun i=>(i.zero,i.size,i.bytes))=some (some (.bool false),1,1):=by kernel_rfl
def Jb (w:World) (T:Nat) (vr vf vp:Value):Prop:=w.heap[T]? =some (.cells #[vr,vf,vp] 55 (0,0))
theorem Jb.lt {w:World} {T:Nat} {vr vf vp:Value} (h:Jb w T vr vf vp):T<w.heap.size:=(Array.getElem?_eq_some_iff.1 h).1
theorem Jb.keep {w w':World} {T:Nat} {vr vf vp:Value} (h:Jb w T vr vf vp) (hk:Keep w w'):Jb w' T vr vf vp:=(hk.block T h.lt).trans h
theorem Jb.c {w:World} {T:Nat} {vr vf vp:Value} (h:Jb w T vr vf vp):w.cell? ⟨T,0,none⟩=some vr∧w.cell? ⟨T,1,none⟩=some vf∧w.cell? ⟨T,2,none⟩=some vp:=by
 unfold Jb at h
 refine⟨?_,?_,?_⟩<;>simp[World.cell?,h]
theorem Jb.fz {w:World} {T:Nat} {vr vf vp:Value} (h:Jb w T vr vf vp) (i:Nat):w.frozen? ⟨T,i,none⟩=false:=by
 unfold Jb at h
 simp[World.frozen?,h]
theorem Jb.set0 {w:World} {T:Nat} {vr vf vp:Value} (h:Jb w T vr vf vp) (u:Value):Jb (w.setCell ⟨T,0,none⟩ u) T u vf vp:=by
 unfold Jb at h ⊢
 rw[Q.set_cells h u];rfl
theorem Jb.set1 {w:World} {T:Nat} {vr vf vp:Value} (h:Jb w T vr vf vp) (u:Value):Jb (w.setCell ⟨T,1,none⟩ u) T vr u vp:=by
 unfold Jb at h ⊢
 rw[Q.set_cells h u];rfl
theorem Jb.set2 {w:World} {T:Nat} {vr vf vp:Value} (h:Jb w T vr vf vp) (u:Value):Jb (w.setCell ⟨T,2,none⟩ u) T vr vf u:=by
 unfold Jb at h ⊢
 rw[Q.set_cells h u];rfl
theorem Jb.grown {w w':World} {T:Nat} {vr vf vp v:Value} {B z n:Nat} {e:TypeId} {xs:List Value} (h:Jb w T vr vf vp) (ho:w.ownsRow B e z v n xs) (he:55≠e) (hg:w.grownBy w' v.ownBlock):Jb w' T vr vf vp:=by
 unfold Jb at h ⊢
 rw[hg.block T (Array.getElem?_eq_some_iff.1 h).1 (fun e2=>?_)]
 ·exact h
 ·rcases ho.2 with ⟨rfl,_⟩|⟨g,c,cur,rfl,_,h2,_⟩
  ·simp[Value.ownBlock]at e2
  ·simp only[Value.ownBlock,Option.some.injEq]at e2;subst e2;rw[h]at h2;injection h2 with h2
   injection h2 with h3 h4
   exact he h4
theorem zeI {w w':World} {T B z n:Nat} {arr:Array Value} {t e:TypeId} {v:Value} {xs:List Value} (h:w.heap[T]? =some (.cells arr t (0,0))) (ho:w.ownsRow B e z v n xs) (he:t≠e) (hg:w.grownBy w' v.ownBlock):w'.heap[T]? =some (.cells arr t (0,0)):=by
 rw[hg.block T (Array.getElem?_eq_some_iff.1 h).1 (fun e2=>?_)]
 ·exact h
 ·rcases ho.2 with ⟨rfl,_⟩|⟨g,c,cur,rfl,_,h2,_⟩
  ·simp[Value.ownBlock]at e2
  ·simp only[Value.ownBlock,Option.some.injEq]at e2;subst e2;rw[h]at h2;injection h2 with h2
   injection h2 with h3 h4
   exact he h4
theorem zbf {w w':World} {T:Nat} {o:Obj} (h:w.heap[T]? =some o) (hk:Keep w w'):w'.heap[T]? =some o:=(hk.block T (Array.getElem?_eq_some_iff.1 h).1).trans h
theorem zae {w:World} {B:Nat} {e t:TypeId} {z n T i:Nat} {v u:Value} {xs:List Value} {arr:Array Value} (h:w.ownsRow B e z v n xs) (hT:w.heap[T]? =some (.cells arr t (0,0))) (he:e≠t):(w.setCell ⟨T,i,none⟩ u).ownsRow B e z v n xs:=by
 refine⟨h.1,?_⟩;rcases h.2 with h2|⟨g,cap,cur,hv,hg,hc,r⟩
 ·exact .inl h2
 ·refine .inr ⟨g,cap,cur,hv,hg,?_,r⟩;rw[heap_setCell_other w _ g u (fun e9=>?_)]
  ·exact hc
  ·subst e9;rw[hc]at hT;injection hT with hT
   injection hT with h3 h4
   exact he h4
theorem zd4 {w w':World} {B B':Nat} {e e':TypeId} {z z' n n':Nat} {v v':Value} {xs xs':List Value} (h:w.ownsRow B e z v n xs) (h':w.ownsRow B' e' z' v' n' xs') (he:e≠e') (hg:w.grownBy w' v'.ownBlock):w'.ownsRow B e z v n xs:=by
 refine⟨h.1,?_⟩;rcases h.2 with h2|⟨g,cap,cur,hv,hb,hc,r⟩
 ·exact .inl h2
 ·refine .inr ⟨g,cap,cur,hv,hb,?_,r⟩;rw[hg.block g (Array.getElem?_eq_some_iff.1 hc).1 (fun e2=>?_)]
  ·exact hc
  ·rcases h'.2 with ⟨rfl,_⟩|⟨g',c',cur',rfl,_,h2,_⟩
   ·simp[Value.ownBlock]at e2
   ·simp only[Value.ownBlock,Option.some.injEq]at e2;subst e2;rw[hc]at h2;injection h2 with h2
    injection h2 with h3 h4
    exact he h4
def Jq (PL:List (Nat×Nat)) (w:World) (e:Ending) (w':World):Prop:=∃ ra rn rc fa fn fc v,e= .returned (.agg #[.slice ra rn rc,.slice fa fn fc,v])∧Keep w w'∧w'.ownsRow w.heap.size 57 2 v PL.length (pcs PL)
set_option maxHeartbeats 8000000 in
theorem zf3 (s:ByteArray) (x1:Option Addr) (n1 c1:Nat) (x2:Option Addr) (n2 c2:Nat) (x3:Option Addr) (n3 c3:Nat) (x4:Option Addr) (n4 c4:Nat) (x5:Option Addr) (n5 c5:Nat) (p:Int) (ga:Option Addr) (gn gc:Nat) (la:Option Addr) (lc:Nat) (F:Nat→Bool) (RA:Nat→Option Addr) (RN RC:Nat→Nat) (N:Nat→Nat→Nat) (G:Nat→Nat→Nat→List UInt8) (PL:List (Nat×Nat)) (w:World) (hn:gn≤1000)
  (HG:Hid (∀ k,k<gn→∃ ad,ga=some ad∧ad.block<w.heap.size∧w.cell? (ad.add (k * 2))=some (.bool (F k))∧w.cell? ⟨(ad.add (k * 2)).block,(ad.add (k * 2)).off+1,none⟩=some (.slice (RA k) (RN k) (RC k))))
  (TT:Hid (∀ k,k<gn→∀ w',Keep w w'→Calls Tryz.prog 40 #[.agg #[.string s,.slice x1 n1 c1,.slice x2 n2 c2,.slice x3 n3 c3,.slice x4 n4 c4,.slice x5 n5 c5,.int .i64 p],.agg #[.bool (F k),.slice (RA k) (RN k) (RC k)],.slice la n3 lc] w' fun e w''=>∃ a c,e= .returned (.slice a (RN k) c)∧Keep w' w''))
  (TH:Hid (∀ k,k<gn→∀ w',Keep w w'→Calls Tryz.prog 42 #[.agg #[.string s,.slice x1 n1 c1,.slice x2 n2 c2,.slice x3 n3 c3,.slice x4 n4 c4,.slice x5 n5 c5,.int .i64 p],.agg #[.bool (F k),.slice (RA k) (RN k) (RC k)]] w' (Hq (RN k) (N k) (G k) w')))
  (TA:Hid (gn=2→∀ w' T1 T2,Keep w w'→Hs w' T1 (RN 0) (N 0) (G 0)→Hs w' T2 (RN 1) (N 1) (G 1)→Calls Tryz.prog 41 #[.slice x5 n5 c5,.slice (some ⟨T1,0,none⟩) (RN 0) (RN 0),.slice (some ⟨T2,0,none⟩) (RN 1) (RN 1)] w' fun e w''=>∃ v,e= .returned v∧Keep w' w''∧w''.ownsRow w'.heap.size 57 2 v PL.length (pcs PL)))
  (HPL:Hid (¬gn=2→PL= [])):
  Calls Tryz.prog 19 #[.agg #[.string s,.slice x1 n1 c1,.slice x2 n2 c2,.slice x3 n3 c3,.slice x4 n4 c4,.slice x5 n5 c5,.int .i64 p],.agg #[.slice ga gn gc],.slice la n3 lc] w (Jq PL w):=by
 obtain⟨i0,hi0,hz0,hz1,hz2⟩:=W.info_f znL;obtain⟨i1,hi1,hy0,hy1,hy2⟩:=W.info_f znM;have hx0:=heap_alloc_new w (.cells #[.string s,.slice x1 n1 c1,.slice x2 n2 c2,.slice x3 n3 c3,.slice x4 n4 c4,.slice x5 n5 c5,.int .i64 p] 39);have hx1:=heap_alloc_new (w.alloc (.cells #[.string s,.slice x1 n1 c1,.slice x2 n2 c2,.slice x3 n3 c3,.slice x4 n4 c4,.slice x5 n5 c5,.int .i64 p] 39)) (.cells #[.slice ga gn gc] 62);have ke:=(Keep.refl (w.alloc (.cells #[.string s,.slice x1 n1 c1,.slice x2 n2 c2,.slice x3 n3 c3,.slice x4 n4 c4,.slice x5 n5 c5,.int .i64 p] 39))).alloc (.cells #[.slice ga gn gc] 62);have KB:=hide ((Keep.refl w).alloc (.cells #[.string s,.slice x1 n1 c1,.slice x2 n2 c2,.slice x3 n3 c3,.slice x4 n4 c4,.slice x5 n5 c5,.int .i64 p] 39) |>.trans ke);have e0:(w.alloc (.cells #[.string s,.slice x1 n1 c1,.slice x2 n2 c2,.slice x3 n3 c3,.slice x4 n4 c4,.slice x5 n5 c5,.int .i64 p] 39)).heap.size=w.heap.size+1:=by simp[go_sem]
 have e9:((w.alloc (.cells #[.string s,.slice x1 n1 c1,.slice x2 n2 c2,.slice x3 n3 c3,.slice x4 n4 c4,.slice x5 n5 c5,.int .i64 p] 39)).alloc (.cells #[.slice ga gn gc] 62)).heap.size=w.heap.size+2:=by simp[go_sem]
 have hx3:=(ke.block w.heap.size (by omega)).trans hx0;rw[e0]at hx1;clear ke hx0 e0;go_enter Tryz.func19,Tryz.ntmps19
 go_upto_region 2 with fail
 generalize (w.alloc (.cells #[.string s,.slice x1 n1 c1,.slice x2 n2 c2,.slice x3 n3 c3,.slice x4 n4 c4,.slice x5 n5 c5,.int .i64 p] 39)).alloc (.cells #[.slice ga gn gc] 62)=wb at hx1 hx3 KB e9 ⊢;have HT:Hid (wb.heap.size=w.heap.size+2):=hide e9;have J0:Jb ((wb.alloc (.cells #[.slice none 0 0,.slice none 0 0,.slice none 0 0] 55)).alloc (.cells #[.slice none 0 0,.slice none 0 0,.slice none 0 0] 55)) (wb.heap.size+1) (.slice none 0 0) (.slice none 0 0) (.slice none 0 0):=by
  have h:=heap_alloc_new (wb.alloc (.cells #[.slice none 0 0,.slice none 0 0,.slice none 0 0] 55)) (.cells #[.slice none 0 0,.slice none 0 0,.slice none 0 0] 55);rw[World.size_alloc]at h;exact h
 have R0:Jb ((wb.alloc (.cells #[.slice none 0 0,.slice none 0 0,.slice none 0 0] 55)).alloc (.cells #[.slice none 0 0,.slice none 0 0,.slice none 0 0] 55)) wb.heap.size (.slice none 0 0) (.slice none 0 0) (.slice none 0 0):=by
  have h:=heap_alloc_new wb (.cells #[.slice none 0 0,.slice none 0 0,.slice none 0 0] 55);exact Jb.keep (h:Jb _ _ _ _ _) ((Keep.refl _).alloc _)
 have KZ:=hide (((Keep.refl wb).alloc (.cells #[.slice none 0 0,.slice none 0 0,.slice none 0 0] 55)).alloc (.cells #[.slice none 0 0,.slice none 0 0,.slice none 0 0] 55));rw[e9]at J0 R0;obtain⟨q0,hq⟩:∃ q,w.heap.size=q:=⟨_,rfl⟩;have HQW:=hide hq;rw[hq]at hx1 hx3 HT J0 R0 ⊢;have HX:Hid (∀ w':World,Keep wb w'→(w'.cell? ⟨q0,0,none⟩=some (.string s)∧w'.cell? ⟨q0,1,none⟩=some (.slice x1 n1 c1)∧w'.cell? ⟨q0,2,none⟩=some (.slice x2 n2 c2)∧w'.cell? ⟨q0,3,none⟩=some (.slice x3 n3 c3)∧w'.cell? ⟨q0,4,none⟩=some (.slice x4 n4 c4)∧w'.cell? ⟨q0,5,none⟩=some (.slice x5 n5 c5)∧w'.cell? ⟨q0,6,none⟩=some (.int .i64 p))∧w'.cell? ⟨q0+1,0,none⟩=some (.slice ga gn gc)):=hide (fun w' k9=>by
  have h1:=k9.block q0 (Array.getElem?_eq_some_iff.1 hx3).1;have h2:=k9.block (q0+1) (Array.getElem?_eq_some_iff.1 hx1).1;rw[hx3]at h1;rw[hx1]at h2;refine⟨⟨?_,?_,?_,?_,?_,?_,?_⟩,?_⟩<;>simp[World.cell?,h1,h2])
 have HJ0:=hide J0;have HR0:=hide R0;generalize (wb.alloc (.cells #[.slice none 0 0,.slice none 0 0,.slice none 0 0] 55)).alloc (.cells #[.slice none 0 0,.slice none 0 0,.slice none 0 0] 55)=wz at HJ0 HR0 KZ ⊢;clear hx1 hx3 e9 hq J0 R0;obtain⟨⟨z0,z1,z2,z3,z4,z5,z6⟩,f0⟩:=(uq HX) wz (uq KZ);go_wp2_with fail
 clear z0 z1 z2 z3 z4 z5 z6 f0
 go_loopw [13] (fun vi wr=>∃(k:Nat) (vr vf:Value) (US BS:List Value),vi= .int .i64 (k:Int)∧k≤gn∧Hid (Jb wr (q0+2+1) vr vf (.slice none 0 0))∧Hid (Jb wr (q0+2) (.slice none 0 0) (.slice none 0 0) (.slice none 0 0))∧Hid (wr.ownsRow (q0+2) 42 1 vr k US)∧Hid (wr.ownsRow (q0+2) 4 1 vf k BS)∧Hid (Keep wb wr)) (fun vi _=>gn - (intOf vi).toNat)
 case atStart=>exact⟨0,_,_,[],[],rfl,Nat.zero_le _,HJ0,HR0,hide (World.ownsRow_nil _ _ _ _),hide (World.ownsRow_nil _ _ _ _),KZ⟩
 case round=>
  clear HJ0 HR0 KZ;obtain⟨k,vr,vf,US,BS,rfl,hk,JW,RW,OR,OF,KW⟩:=hrel;obtain⟨ra,rc,hvr⟩:=zbA (uq OR);obtain⟨fa,fc,hvf⟩:=zbA (uq OF);subst hvr hvf;by_cases hlt:k<gn
  ·have li:(k:Int)<(gn:Int):=by omega
   obtain⟨ad,hga,hb,e0,e1⟩:=(uq HG) k hlt;have y0:=V.far_cell ((uq KB).trans (uq KW)) (by rw[V.add_block9];exact hb) e0;have y1:=V.far_cell ((uq KB).trans (uq KW)) (by show(ad.add (k * 2)).block<_;rw[V.add_block9];exact hb) e1;clear e0 e1;have TTk:=hide (fun w' h=>(uq TT) k hlt w' h);obtain⟨rA,hrA⟩:∃ r,RA k=r:=⟨_,rfl⟩;obtain⟨rN,hrN⟩:∃ r,RN k=r:=⟨_,rfl⟩;obtain⟨rC,hrC⟩:∃ r,RC k=r:=⟨_,rfl⟩;obtain⟨fK,hfK⟩:∃ r,F k=r:=⟨_,rfl⟩;rw[hrA,hrN,hrC,hfK]at TTk;rw[hfK]at y0;rw[hrA,hrN,hrC]at y1;clear hrA hrN hrC hfK;subst hga;have hn1:=heap_alloc_new wr (.cells #[.bool fK,.slice rA rN rC] 59);have KA:=(Keep.refl wr).alloc (.cells #[.bool fK,.slice rA rN rC] 59);obtain⟨b9,hb9⟩:∃ b,wr.heap.size=b:=⟨_,rfl⟩;have HB9:=hide hb9;rw[hb9]at hn1
   go_upto_region 5 with fail
   generalize hw1:wr.alloc (.cells #[.bool fK,.slice rA rN rC] 59)=w1 at hn1 KA ⊢;have K1:=hide ((uq KW).trans KA);have J1:=hide ((uq JW).keep KA);have R1:=hide ((uq RW).keep KA);have OR1:=hide (own_k (uq OR) KA);have OF1:=hide (own_k (uq OF) KA);have BX1:=hide hn1;have HLT:Hid (q0+2+1<b9):=hide (by have:=(uq JW).lt;have:=uq HB9;omega);have SS:Hid (∀ w',Keep wb w'→w'.heap[b9]? =some (.cells #[.bool fK,.slice rA rN rC] 59 (0,0))→(w'.cell? ⟨q0,0,none⟩=some (.string s)∧w'.cell? ⟨q0,1,none⟩=some (.slice x1 n1 c1)∧w'.cell? ⟨q0,2,none⟩=some (.slice x2 n2 c2)∧w'.cell? ⟨q0,3,none⟩=some (.slice x3 n3 c3)∧w'.cell? ⟨q0,4,none⟩=some (.slice x4 n4 c4)∧w'.cell? ⟨q0,5,none⟩=some (.slice x5 n5 c5)∧w'.cell? ⟨q0,6,none⟩=some (.int .i64 p))∧w'.cell? ⟨b9,0,none⟩=some (.bool fK)∧w'.cell? ⟨b9,1,none⟩=some (.slice rA rN rC)):=hide (fun w' h1 h2=>⟨((uq HX) w' h1).1,by simp[World.cell?,h2],by simp[World.cell?,h2]⟩);clear y0 y1 hb9 hn1 KA JW RW OR OF KW hw1;have jc:w1.drew.cell? ⟨q0+2+1,0,none⟩=some (.slice ra k rc):=(uq J1).c.1;refine wp_region_held_drew (S:=(fun w'=>(w'.cell? ⟨q0,0,none⟩=some (.string s)∧w'.cell? ⟨q0,1,none⟩=some (.slice x1 n1 c1)∧w'.cell? ⟨q0,2,none⟩=some (.slice x2 n2 c2)∧w'.cell? ⟨q0,3,none⟩=some (.slice x3 n3 c3)∧w'.cell? ⟨q0,4,none⟩=some (.slice x4 n4 c4)∧w'.cell? ⟨q0,5,none⟩=some (.slice x5 n5 c5)∧w'.cell? ⟨q0,6,none⟩=some (.int .i64 p))∧w'.cell? ⟨b9,0,none⟩=some (.bool fK)∧w'.cell? ⟨b9,1,none⟩=some (.slice rA rN rC))) (by kernel_rfl) (by exact uq SS _ ((uq K1).drew) (uq BX1)) (fun hHeld=>?_);refine tkk 0 17 hHeld ?_;try simp only[Act.put,Ya,Yb,Yc]
   refine tkk 2 19 hHeld ?_;try simp only[Act.put,Ya,Yb,Yc]
   refine tkk 3 20 hHeld ?_;try simp only[Act.put,Ya,Yb,Yc]
   refine tkk 4 21 hHeld ?_;try simp only[Act.put,Ya,Yb,Yc]
   refine wpAnyH_ready (rs:= [1,5]) (by kernel_rfl) (by simp) ?_;refine AllReadyH.cons rfl (fun K hK=>?_) (AllReadyH.cons rfl (fun K hK=>?_) AllReadyH.nil)
   ·
    go_simp;clear hHeld;refine hK.out _ _ ?_ (fun hHeld=>?_)
    ·exact uq SS _ ((uq K1).drew) (uq BX1)
    clear hK K;try simp only[Act.put,Ya,Yb,Yc]
    clear jc;refine zal 5 (fun K hK=>?_);go_simp;clear hHeld;(refine((uq TTk) _ ((uq KB).trans ((uq K1).drew))).mono ?_;rintro e w2 ⟨a2,c2,rfl,hk9⟩);try go_wp2_with fail
    refine hK.out _ _ ?_ (fun hHeld=>?_)
    ·exact uq SS _ (((uq K1).drew).trans hk9) (zbf (w:=w1.drew) (uq BX1) hk9)
    clear hK K;try simp only[Act.put,Ya,Yb,Yc]
    refine zal 6 (fun K hK=>?_);go_simp;clear hHeld;refine hK.out _ _ ?_ (fun hHeld=>?_)
    ·exact uq SS _ ((((uq K1).drew).trans hk9).alloc _) (zbf (w:=w1.drew) (uq BX1) (hk9.alloc _))
    clear hK K;try simp only[Act.put,Ya,Yb,Yc]
    have K2:=hide (((uq K1).drew).trans hk9);have kk9:Keep w1.drew w2:=hk9;have J2:=Jb.keep (w:=w1.drew) (uq J1) (kk9.alloc (.cells #[.slice a2 rN c2] 42));have R2:=Jb.keep (w:=w1.drew) (uq R1) (kk9.alloc (.cells #[.slice a2 rN c2] 42));have OR2:=own_k (w:=w1.drew) (uq OR1) (kk9.alloc (.cells #[.slice a2 rN c2] 42));have OF2:=own_k (w:=w1.drew) (uq OF1) (kk9.alloc (.cells #[.slice a2 rN c2] 42));have BX2:=zbf (w:=w1.drew) (uq BX1) (kk9.alloc (.cells #[.slice a2 rN c2] 42));have hnv:=Nd.new_v w2 [.slice a2 rN c2] 42;clear hk9 kk9;refine wpAnyH_ready (rs:= [7]) (by kernel_rfl) (by simp) ?_;refine AllReadyH.cons rfl (fun K hK=>?_) AllReadyH.nil;clear hHeld;rw[if_pos (by rfl)];refine wp_append_own _ _ _ 51 rfl (q0+2) 42 i0 _ 1 24 Tryz.underlying51 hi0 hz0 hz1 hz2 rfl (by decide) _ _ _ rfl OR2 ⟨w2.heap.size,0,none⟩ 1 1 [.slice a2 rN c2] rfl rfl hnv (by simp[Value.oneCell']) (by unfold maxLen;omega) (by omega) (by have h1:=Below.size (uq K2);have h2:=uq HT;simp;omega) ?_;intro v7 w7 hown' hgrow hnil
    obtain⟨r7,d7,rfl⟩:=zbA hown';have K7:Keep wb w7:=Below.grown ((uq K2).alloc (.cells #[.slice a2 rN c2] 42)) hgrow (by have h1:=Below.size (uq K2);have h2:=uq HT;simp;omega) (fun j ej=>by have h1:=(OR2.lt j ej).1;have h2:=uq HT;omega);have J7:=J2.grown OR2 (by decide) hgrow;have R7:=R2.grown OR2 (by decide) hgrow;have OF7:=zd4 OF2 OR2 (by decide) hgrow;have BX7:=zeI BX2 OR2 (by decide) hgrow;have c7:=J7.c.1;have f7:=J7.fz 0;have HS7:=uq SS _ K7 BX7;refine hK.out _ _ HS7 (fun hHeld=>?_);clear hK K HS7;try simp only[Act.put,List.setIfInBounds_toArray,List.set_cons_zero,List.set_cons_succ]
    have J8:=hide (J7.set0 (.slice r7 (k+1) d7));have R8:=hide (show Jb (w7.setCell ⟨q0+2+1,0,none⟩ (.slice r7 (k+1) d7)) (q0+2) _ _ _ from by unfold Jb;rw[heap_setCell_other w7 _ (q0+2) _ (by show q0+2≠q0+2+1;omega)];exact R7);have OR8:=hide (zae (i:=0) (u:= .slice r7 (k+1) d7) hown' J7 (by decide));have OF8:=hide (zae (i:=0) (u:= .slice r7 (k+1) d7) OF7 J7 (by decide));have K8:Hid (Keep wb (w7.setCell ⟨q0+2+1,0,none⟩ (.slice r7 (k+1) d7))):=hide (Below.setCell K7 (by show wb.heap.size≤q0+2+1;have:=uq HT;omega) _);have BX8:=hide (show(w7.setCell ⟨q0+2+1,0,none⟩ (.slice r7 (k+1) d7)).heap[b9]? =_ from(heap_setCell_other w7 _ b9 _ (by show b9≠q0+2+1;have:=uq HLT;omega)).trans BX7);refine tkk 8 25 hHeld ?_;try simp only[Act.put,Ya,Yb,Yc]
    refine zal 9 (fun K hK=>?_);go_simp;clear hHeld;refine hK.out _ _ ?_ (fun hHeld=>?_)
    ·exact uq SS _ (uq K8) (uq BX8)
    clear hK K;try simp only[Act.put,Ya,Yb,Yc]
    refine wpAnyH_done (by kernel_rfl) ?_ _;clear hHeld;clear J2 R2 OR2 OF2 BX2 hnv hown' hgrow hnil K7 J7 R7 OF7 BX7 c7 f7 J1 R1 OR1 OF1 BX1 K1;generalize w7.setCell ⟨q0+2+1,0,none⟩ (.slice r7 (k+1) d7)=w8 at J8 R8 OR8 OF8 K8 BX8 ⊢;have jc1:=(uq J8).c.2.1;obtain⟨_,bc0,_⟩:=uq SS _ (uq K8) (uq BX8);go_wp2_with (at_builtin;refine wpList_append_own _ rfl _ _ 52 rfl (q0+2) 4 i1 _ 1 1 Tryz.underlying52 hi1 hy0 hy1 hy2 rfl (by decide) _ _ _ rfl ((uq OF8).alloc _) ⟨w8.heap.size,0,none⟩ 1 1 [.bool fK] rfl rfl (Nd.new_v w8 [.bool fK] _) (by simp[Value.oneCell']) (by unfold maxLen;omega) (by omega) (by have h1:=Below.size (uq K8);have h2:=uq HT;simp;omega) ?_;intro v9 w9 hown' hgrow hnil;obtain⟨r9,d9,rfl⟩:=zbA hown';have K9:Keep wb w9:=Below.grown ((uq K8).alloc (.cells #[.bool fK] 4)) hgrow (by have h1:=Below.size (uq K8);have h2:=uq HT;simp;omega) (fun j ej=>by have h1:=((uq OF8).lt j ej).1;have h2:=uq HT;omega);have J9:=((uq J8).keep ((Keep.refl w8).alloc (.cells #[.bool fK] 4))).grown ((uq OF8).alloc _) (by decide) hgrow;have R9:=((uq R8).keep ((Keep.refl w8).alloc (.cells #[.bool fK] 4))).grown ((uq OF8).alloc _) (by decide) hgrow;have OR9:=zd4 ((uq OR8).alloc (.cells #[.bool fK] 4)) ((uq OF8).alloc _) (by decide) hgrow;have J10:=hide (J9.set1 (.slice r9 (k+1) d9));have R10:=hide (show Jb (w9.setCell ⟨q0+2+1,1,none⟩ (.slice r9 (k+1) d9)) (q0+2) _ _ _ from by unfold Jb;rw[heap_setCell_other w9 _ (q0+2) _ (by show q0+2≠q0+2+1;omega)];exact R9);have OR10:=hide (zae (i:=1) (u:= .slice r9 (k+1) d9) OR9 J9 (by decide));have OF10:=hide (zae (i:=1) (u:= .slice r9 (k+1) d9) hown' J9 (by decide));have K10:Hid (Keep wb (w9.setCell ⟨q0+2+1,1,none⟩ (.slice r9 (k+1) d9))):=hide (Below.setCell K9 (by show wb.heap.size≤q0+2+1;have:=uq HT;omega) _);have c9:=J9.c.2.1;have f9:=J9.fz 1;clear hown' hgrow hnil K9 J9 R9 OR9)
    go_roundw
    case rel=>exact⟨k+1,_,_,_,_,by go_num,hlt,J10,R10,OR10,OF10,K10⟩
    case measure=>simp[intOf];omega
   ·
    clear jc;go_simp;clear hHeld;(refine((uq TTk) _ ((uq KB).trans ((uq K1).drew))).mono ?_;rintro e w2 ⟨a2,c2,rfl,hk9⟩;have jc2:w2.cell? ⟨q0+2+1,0,none⟩=some (.slice ra k rc):=(Jb.keep (w:=w1.drew) (uq J1) hk9).c.1);try go_wp2_with fail
    refine hK.out _ _ ?_ (fun hHeld=>?_)
    ·exact uq SS _ (((uq K1).drew).trans hk9) (zbf (w:=w1.drew) (uq BX1) hk9)
    clear hK K;try simp only[Act.put,Ya,Yb,Yc]
    refine wpAnyH_ready (rs:= [1,6]) (by kernel_rfl) (by simp) ?_;refine AllReadyH.cons rfl (fun K hK=>?_) (AllReadyH.cons rfl (fun K hK=>?_) AllReadyH.nil)
    ·
     go_simp;clear hHeld;refine hK.out _ _ ?_ (fun hHeld=>?_)
     ·exact uq SS _ (((uq K1).drew).trans hk9) (zbf (w:=w1.drew) (uq BX1) hk9)
     clear hK K;try simp only[Act.put,Ya,Yb,Yc]
     clear jc2;refine zal 6 (fun K hK=>?_);go_simp;clear hHeld;refine hK.out _ _ ?_ (fun hHeld=>?_)
     ·exact uq SS _ ((((uq K1).drew).trans hk9).alloc _) (zbf (w:=w1.drew) (uq BX1) (hk9.alloc _))
     clear hK K;try simp only[Act.put,Ya,Yb,Yc]
     have K2:=hide (((uq K1).drew).trans hk9);have kk9:Keep w1.drew w2:=hk9;have J2:=Jb.keep (w:=w1.drew) (uq J1) (kk9.alloc (.cells #[.slice a2 rN c2] 42));have R2:=Jb.keep (w:=w1.drew) (uq R1) (kk9.alloc (.cells #[.slice a2 rN c2] 42));have OR2:=own_k (w:=w1.drew) (uq OR1) (kk9.alloc (.cells #[.slice a2 rN c2] 42));have OF2:=own_k (w:=w1.drew) (uq OF1) (kk9.alloc (.cells #[.slice a2 rN c2] 42));have BX2:=zbf (w:=w1.drew) (uq BX1) (kk9.alloc (.cells #[.slice a2 rN c2] 42));have hnv:=Nd.new_v w2 [.slice a2 rN c2] 42;clear hk9 kk9;refine wpAnyH_ready (rs:= [7]) (by kernel_rfl) (by simp) ?_;refine AllReadyH.cons rfl (fun K hK=>?_) AllReadyH.nil;clear hHeld;rw[if_pos (by rfl)];refine wp_append_own _ _ _ 51 rfl (q0+2) 42 i0 _ 1 24 Tryz.underlying51 hi0 hz0 hz1 hz2 rfl (by decide) _ _ _ rfl OR2 ⟨w2.heap.size,0,none⟩ 1 1 [.slice a2 rN c2] rfl rfl hnv (by simp[Value.oneCell']) (by unfold maxLen;omega) (by omega) (by have h1:=Below.size (uq K2);have h2:=uq HT;simp;omega) ?_;intro v7 w7 hown' hgrow hnil
     obtain⟨r7,d7,rfl⟩:=zbA hown';have K7:Keep wb w7:=Below.grown ((uq K2).alloc (.cells #[.slice a2 rN c2] 42)) hgrow (by have h1:=Below.size (uq K2);have h2:=uq HT;simp;omega) (fun j ej=>by have h1:=(OR2.lt j ej).1;have h2:=uq HT;omega);have J7:=J2.grown OR2 (by decide) hgrow;have R7:=R2.grown OR2 (by decide) hgrow;have OF7:=zd4 OF2 OR2 (by decide) hgrow;have BX7:=zeI BX2 OR2 (by decide) hgrow;have c7:=J7.c.1;have f7:=J7.fz 0;have HS7:=uq SS _ K7 BX7;refine hK.out _ _ HS7 (fun hHeld=>?_);clear hK K HS7;try simp only[Act.put,List.setIfInBounds_toArray,List.set_cons_zero,List.set_cons_succ]
     have J8:=hide (J7.set0 (.slice r7 (k+1) d7));have R8:=hide (show Jb (w7.setCell ⟨q0+2+1,0,none⟩ (.slice r7 (k+1) d7)) (q0+2) _ _ _ from by unfold Jb;rw[heap_setCell_other w7 _ (q0+2) _ (by show q0+2≠q0+2+1;omega)];exact R7);have OR8:=hide (zae (i:=0) (u:= .slice r7 (k+1) d7) hown' J7 (by decide));have OF8:=hide (zae (i:=0) (u:= .slice r7 (k+1) d7) OF7 J7 (by decide));have K8:Hid (Keep wb (w7.setCell ⟨q0+2+1,0,none⟩ (.slice r7 (k+1) d7))):=hide (Below.setCell K7 (by show wb.heap.size≤q0+2+1;have:=uq HT;omega) _);have BX8:=hide (show(w7.setCell ⟨q0+2+1,0,none⟩ (.slice r7 (k+1) d7)).heap[b9]? =_ from(heap_setCell_other w7 _ b9 _ (by show b9≠q0+2+1;have:=uq HLT;omega)).trans BX7);refine tkk 8 25 hHeld ?_;try simp only[Act.put,Ya,Yb,Yc]
     refine zal 9 (fun K hK=>?_);go_simp;clear hHeld;refine hK.out _ _ ?_ (fun hHeld=>?_)
     ·exact uq SS _ (uq K8) (uq BX8)
     clear hK K;try simp only[Act.put,Ya,Yb,Yc]
     refine wpAnyH_done (by kernel_rfl) ?_ _;clear hHeld;clear J2 R2 OR2 OF2 BX2 hnv hown' hgrow hnil K7 J7 R7 OF7 BX7 c7 f7 J1 R1 OR1 OF1 BX1 K1;generalize w7.setCell ⟨q0+2+1,0,none⟩ (.slice r7 (k+1) d7)=w8 at J8 R8 OR8 OF8 K8 BX8 ⊢;have jc1:=(uq J8).c.2.1;obtain⟨_,bc0,_⟩:=uq SS _ (uq K8) (uq BX8);go_wp2_with (at_builtin;refine wpList_append_own _ rfl _ _ 52 rfl (q0+2) 4 i1 _ 1 1 Tryz.underlying52 hi1 hy0 hy1 hy2 rfl (by decide) _ _ _ rfl ((uq OF8).alloc _) ⟨w8.heap.size,0,none⟩ 1 1 [.bool fK] rfl rfl (Nd.new_v w8 [.bool fK] _) (by simp[Value.oneCell']) (by unfold maxLen;omega) (by omega) (by have h1:=Below.size (uq K8);have h2:=uq HT;simp;omega) ?_;intro v9 w9 hown' hgrow hnil;obtain⟨r9,d9,rfl⟩:=zbA hown';have K9:Keep wb w9:=Below.grown ((uq K8).alloc (.cells #[.bool fK] 4)) hgrow (by have h1:=Below.size (uq K8);have h2:=uq HT;simp;omega) (fun j ej=>by have h1:=((uq OF8).lt j ej).1;have h2:=uq HT;omega);have J9:=((uq J8).keep ((Keep.refl w8).alloc (.cells #[.bool fK] 4))).grown ((uq OF8).alloc _) (by decide) hgrow;have R9:=((uq R8).keep ((Keep.refl w8).alloc (.cells #[.bool fK] 4))).grown ((uq OF8).alloc _) (by decide) hgrow;have OR9:=zd4 ((uq OR8).alloc (.cells #[.bool fK] 4)) ((uq OF8).alloc _) (by decide) hgrow;have J10:=hide (J9.set1 (.slice r9 (k+1) d9));have R10:=hide (show Jb (w9.setCell ⟨q0+2+1,1,none⟩ (.slice r9 (k+1) d9)) (q0+2) _ _ _ from by unfold Jb;rw[heap_setCell_other w9 _ (q0+2) _ (by show q0+2≠q0+2+1;omega)];exact R9);have OR10:=hide (zae (i:=1) (u:= .slice r9 (k+1) d9) OR9 J9 (by decide));have OF10:=hide (zae (i:=1) (u:= .slice r9 (k+1) d9) hown' J9 (by decide));have K10:Hid (Keep wb (w9.setCell ⟨q0+2+1,1,none⟩ (.slice r9 (k+1) d9))):=hide (Below.setCell K9 (by show wb.heap.size≤q0+2+1;have:=uq HT;omega) _);have c9:=J9.c.2.1;have f9:=J9.fz 1;clear hown' hgrow hnil K9 J9 R9 OR9)
     go_roundw
     case rel=>exact⟨k+1,_,_,_,_,by go_num,hlt,J10,R10,OR10,OF10,K10⟩
     case measure=>simp[intOf];omega
    ·
     go_simp;clear hHeld;refine hK.out _ _ ?_ (fun hHeld=>?_)
     ·exact uq SS _ ((((uq K1).drew).trans hk9).alloc _) (zbf (w:=w1.drew) (uq BX1) (hk9.alloc _))
     clear hK K;try simp only[Act.put,Ya,Yb,Yc]
     have jc3:(w2.alloc (.cells #[.slice a2 rN c2] 42)).cell? ⟨q0+2+1,0,none⟩=some (.slice ra k rc):=(Jb.keep (w:=w1.drew) (uq J1) (hk9.alloc _)).c.1;clear jc2;refine zal 1 (fun K hK=>?_);go_simp;clear hHeld;refine hK.out _ _ ?_ (fun hHeld=>?_)
     ·exact uq SS _ ((((uq K1).drew).trans hk9).alloc _) (zbf (w:=w1.drew) (uq BX1) (hk9.alloc _))
     clear hK K;try simp only[Act.put,Ya,Yb,Yc]
     clear jc3;have K2:=hide (((uq K1).drew).trans hk9);have kk9:Keep w1.drew w2:=hk9;have J2:=Jb.keep (w:=w1.drew) (uq J1) (kk9.alloc (.cells #[.slice a2 rN c2] 42));have R2:=Jb.keep (w:=w1.drew) (uq R1) (kk9.alloc (.cells #[.slice a2 rN c2] 42));have OR2:=own_k (w:=w1.drew) (uq OR1) (kk9.alloc (.cells #[.slice a2 rN c2] 42));have OF2:=own_k (w:=w1.drew) (uq OF1) (kk9.alloc (.cells #[.slice a2 rN c2] 42));have BX2:=zbf (w:=w1.drew) (uq BX1) (kk9.alloc (.cells #[.slice a2 rN c2] 42));have hnv:=Nd.new_v w2 [.slice a2 rN c2] 42;clear hk9 kk9;refine wpAnyH_ready (rs:= [7]) (by kernel_rfl) (by simp) ?_;refine AllReadyH.cons rfl (fun K hK=>?_) AllReadyH.nil;clear hHeld;rw[if_pos (by rfl)];refine wp_append_own _ _ _ 51 rfl (q0+2) 42 i0 _ 1 24 Tryz.underlying51 hi0 hz0 hz1 hz2 rfl (by decide) _ _ _ rfl OR2 ⟨w2.heap.size,0,none⟩ 1 1 [.slice a2 rN c2] rfl rfl hnv (by simp[Value.oneCell']) (by unfold maxLen;omega) (by omega) (by have h1:=Below.size (uq K2);have h2:=uq HT;simp;omega) ?_;intro v7 w7 hown' hgrow hnil
     obtain⟨r7,d7,rfl⟩:=zbA hown';have K7:Keep wb w7:=Below.grown ((uq K2).alloc (.cells #[.slice a2 rN c2] 42)) hgrow (by have h1:=Below.size (uq K2);have h2:=uq HT;simp;omega) (fun j ej=>by have h1:=(OR2.lt j ej).1;have h2:=uq HT;omega);have J7:=J2.grown OR2 (by decide) hgrow;have R7:=R2.grown OR2 (by decide) hgrow;have OF7:=zd4 OF2 OR2 (by decide) hgrow;have BX7:=zeI BX2 OR2 (by decide) hgrow;have c7:=J7.c.1;have f7:=J7.fz 0;have HS7:=uq SS _ K7 BX7;refine hK.out _ _ HS7 (fun hHeld=>?_);clear hK K HS7;try simp only[Act.put,List.setIfInBounds_toArray,List.set_cons_zero,List.set_cons_succ]
     have J8:=hide (J7.set0 (.slice r7 (k+1) d7));have R8:=hide (show Jb (w7.setCell ⟨q0+2+1,0,none⟩ (.slice r7 (k+1) d7)) (q0+2) _ _ _ from by unfold Jb;rw[heap_setCell_other w7 _ (q0+2) _ (by show q0+2≠q0+2+1;omega)];exact R7);have OR8:=hide (zae (i:=0) (u:= .slice r7 (k+1) d7) hown' J7 (by decide));have OF8:=hide (zae (i:=0) (u:= .slice r7 (k+1) d7) OF7 J7 (by decide));have K8:Hid (Keep wb (w7.setCell ⟨q0+2+1,0,none⟩ (.slice r7 (k+1) d7))):=hide (Below.setCell K7 (by show wb.heap.size≤q0+2+1;have:=uq HT;omega) _);have BX8:=hide (show(w7.setCell ⟨q0+2+1,0,none⟩ (.slice r7 (k+1) d7)).heap[b9]? =_ from(heap_setCell_other w7 _ b9 _ (by show b9≠q0+2+1;have:=uq HLT;omega)).trans BX7);refine tkk 8 25 hHeld ?_;try simp only[Act.put,Ya,Yb,Yc]
     refine zal 9 (fun K hK=>?_);go_simp;clear hHeld;refine hK.out _ _ ?_ (fun hHeld=>?_)
     ·exact uq SS _ (uq K8) (uq BX8)
     clear hK K;try simp only[Act.put,Ya,Yb,Yc]
     refine wpAnyH_done (by kernel_rfl) ?_ _;clear hHeld;clear J2 R2 OR2 OF2 BX2 hnv hown' hgrow hnil K7 J7 R7 OF7 BX7 c7 f7 J1 R1 OR1 OF1 BX1 K1;generalize w7.setCell ⟨q0+2+1,0,none⟩ (.slice r7 (k+1) d7)=w8 at J8 R8 OR8 OF8 K8 BX8 ⊢;have jc1:=(uq J8).c.2.1;obtain⟨_,bc0,_⟩:=uq SS _ (uq K8) (uq BX8);go_wp2_with (at_builtin;refine wpList_append_own _ rfl _ _ 52 rfl (q0+2) 4 i1 _ 1 1 Tryz.underlying52 hi1 hy0 hy1 hy2 rfl (by decide) _ _ _ rfl ((uq OF8).alloc _) ⟨w8.heap.size,0,none⟩ 1 1 [.bool fK] rfl rfl (Nd.new_v w8 [.bool fK] _) (by simp[Value.oneCell']) (by unfold maxLen;omega) (by omega) (by have h1:=Below.size (uq K8);have h2:=uq HT;simp;omega) ?_;intro v9 w9 hown' hgrow hnil;obtain⟨r9,d9,rfl⟩:=zbA hown';have K9:Keep wb w9:=Below.grown ((uq K8).alloc (.cells #[.bool fK] 4)) hgrow (by have h1:=Below.size (uq K8);have h2:=uq HT;simp;omega) (fun j ej=>by have h1:=((uq OF8).lt j ej).1;have h2:=uq HT;omega);have J9:=((uq J8).keep ((Keep.refl w8).alloc (.cells #[.bool fK] 4))).grown ((uq OF8).alloc _) (by decide) hgrow;have R9:=((uq R8).keep ((Keep.refl w8).alloc (.cells #[.bool fK] 4))).grown ((uq OF8).alloc _) (by decide) hgrow;have OR9:=zd4 ((uq OR8).alloc (.cells #[.bool fK] 4)) ((uq OF8).alloc _) (by decide) hgrow;have J10:=hide (J9.set1 (.slice r9 (k+1) d9));have R10:=hide (show Jb (w9.setCell ⟨q0+2+1,1,none⟩ (.slice r9 (k+1) d9)) (q0+2) _ _ _ from by unfold Jb;rw[heap_setCell_other w9 _ (q0+2) _ (by show q0+2≠q0+2+1;omega)];exact R9);have OR10:=hide (zae (i:=1) (u:= .slice r9 (k+1) d9) OR9 J9 (by decide));have OF10:=hide (zae (i:=1) (u:= .slice r9 (k+1) d9) hown' J9 (by decide));have K10:Hid (Keep wb (w9.setCell ⟨q0+2+1,1,none⟩ (.slice r9 (k+1) d9))):=hide (Below.setCell K9 (by show wb.heap.size≤q0+2+1;have:=uq HT;omega) _);have c9:=J9.c.2.1;have f9:=J9.fz 1;clear hown' hgrow hnil K9 J9 R9 OR9)
     go_roundw
     case rel=>exact⟨k+1,_,_,_,_,by go_num,hlt,J10,R10,OR10,OF10,K10⟩
     case measure=>simp[intOf];omega
  ·have li:¬(k:Int)<(gn:Int):=by omega
   obtain rfl:k=gn:=by omega
   by_cases h2:k=2
   ·subst h2;obtain⟨ad,hga,hb,e0,e1⟩:=(uq HG) 0 (by omega);obtain⟨ad',hga',hb',e2,e3⟩:=(uq HG) 1 (by omega);rw[hga]at hga';injection hga' with hga'
    subst hga';have ea0:ad.add (0 * 2)=ad:=by simp[Addr.add]
    have ea2:ad.add (1 * 2)=⟨ad.block,ad.off+2,none⟩:=by simp[Addr.add]
    rw[ea0]at e0 e1;rw[ea2]at e2 e3;have SS:Hid (∀ w',Keep wb w'→(w'.cell? ⟨q0,0,none⟩=some (.string s)∧w'.cell? ⟨q0,1,none⟩=some (.slice x1 n1 c1)∧w'.cell? ⟨q0,2,none⟩=some (.slice x2 n2 c2)∧w'.cell? ⟨q0,3,none⟩=some (.slice x3 n3 c3)∧w'.cell? ⟨q0,4,none⟩=some (.slice x4 n4 c4)∧w'.cell? ⟨q0,5,none⟩=some (.slice x5 n5 c5)∧w'.cell? ⟨q0,6,none⟩=some (.int .i64 p))∧w'.cell? ⟨q0+1,0,none⟩=some (.slice ga 2 gc)∧w'.cell? ad=some (.bool (F 0))∧w'.cell? ⟨ad.block,ad.off+1,none⟩=some (.slice (RA 0) (RN 0) (RC 0))∧w'.cell? ⟨ad.block,ad.off+2,none⟩=some (.bool (F 1))∧w'.cell? ⟨ad.block,ad.off+2+1,none⟩=some (.slice (RA 1) (RN 1) (RC 1))):=hide (fun w' k=>⟨((uq HX) w' k).1,((uq HX) w' k).2,V.far_cell ((uq KB).trans k) hb e0,V.far_cell ((uq KB).trans k) hb e1,V.far_cell (a:=⟨ad.block,ad.off+2,none⟩) ((uq KB).trans k) hb e2,V.far_cell (a:=⟨ad.block,ad.off+2+1,none⟩) ((uq KB).trans k) hb e3⟩);have TH0:=hide (fun w' h=>(uq TH) 0 (by omega) w' h);have TH1:=hide (fun w' h=>(uq TH) 1 (by omega) w' h);have TA2:=hide ((uq TA) rfl);subst hga;clear e0 e1 e2 e3 ea0 ea2;obtain⟨⟨z0,z1,z2,z3,z4,z5,z6⟩,f0⟩:=(uq HX) wr (uq KW)
    go_upto_region 9 with fail
    clear z0 z1 z2 z3 z4 z5 z6 f0;refine wp_region_held_drew (S:=(fun w'=>(w'.cell? ⟨q0,0,none⟩=some (.string s)∧w'.cell? ⟨q0,1,none⟩=some (.slice x1 n1 c1)∧w'.cell? ⟨q0,2,none⟩=some (.slice x2 n2 c2)∧w'.cell? ⟨q0,3,none⟩=some (.slice x3 n3 c3)∧w'.cell? ⟨q0,4,none⟩=some (.slice x4 n4 c4)∧w'.cell? ⟨q0,5,none⟩=some (.slice x5 n5 c5)∧w'.cell? ⟨q0,6,none⟩=some (.int .i64 p))∧w'.cell? ⟨q0+1,0,none⟩=some (.slice (some ad) 2 gc)∧w'.cell? ad=some (.bool (F 0))∧w'.cell? ⟨ad.block,ad.off+1,none⟩=some (.slice (RA 0) (RN 0) (RC 0))∧w'.cell? ⟨ad.block,ad.off+2,none⟩=some (.bool (F 1))∧w'.cell? ⟨ad.block,ad.off+2+1,none⟩=some (.slice (RA 1) (RN 1) (RC 1)))) (by kernel_rfl) (by exact uq SS _ ((uq KW).drew)) (fun hHeld=>?_);refine tkk 0 38 hHeld ?_;try simp only[Act.put,Ya,Yb,Yc]
    refine tkk 1 39 hHeld ?_;try simp only[Act.put,Ya,Yb,Yc]
    refine tkk 2 40 hHeld ?_;try simp only[Act.put,Ya,Yb,Yc]
    refine tkk 3 41 hHeld ?_;try simp only[Act.put,Ya,Yb,Yc]
    refine tkk 4 42 hHeld ?_;try simp only[Act.put,Ya,Yb,Yc]
    refine tkk 5 43 hHeld ?_;try simp only[Act.put,Ya,Yb,Yc]
    refine tkk 6 44 hHeld ?_;try simp only[Act.put,Ya,Yb,Yc]
    refine tkk 8 46 hHeld ?_;try simp only[Act.put,Ya,Yb,Yc]
    refine tkk 9 47 hHeld ?_;try simp only[Act.put,Ya,Yb,Yc]
    refine tkk 10 48 hHeld ?_;try simp only[Act.put,Ya,Yb,Yc]
    refine tkk 11 49 hHeld ?_;try simp only[Act.put,Ya,Yb,Yc]
    refine tkk 12 50 hHeld ?_;try simp only[Act.put,Ya,Yb,Yc]
    refine zal 7 (fun K hK=>?_);go_simp;clear hHeld;(refine((uq TH0) _ ((uq KB).trans ((uq KW).drew))).mono ?_;rintro e w2 ⟨T1,rfl,hk7,hl7,hs7⟩);try go_wp2_with fail
    refine hK.out _ _ ?_ (fun hHeld=>?_)
    ·exact uq SS _ (((uq KW).drew).trans hk7)
    clear hK K;try simp only[Act.put,Ya,Yb,Yc]
    refine zal 13 (fun K hK=>?_);go_simp;clear hHeld;(refine((uq TH1) _ ((uq KB).trans (((uq KW).drew).trans hk7))).mono ?_;rintro e w3 ⟨T2,rfl,hk8,hl8,hs8⟩);try go_wp2_with fail
    refine hK.out _ _ ?_ (fun hHeld=>?_)
    ·exact uq SS _ ((((uq KW).drew).trans hk7).trans hk8)
    clear hK K;try simp only[Act.put,Ya,Yb,Yc]
    refine zal 14 (fun K hK=>?_);go_simp;clear hHeld;(refine((uq TA2) w3 T1 T2 ((uq KB).trans ((((uq KW).drew).trans hk7).trans hk8)) (hs7.keep hk8) hs8).mono ?_;rintro e w4 ⟨v4,rfl,hk9,ho9⟩);try go_wp2_with fail
    refine hK.out _ _ ?_ (fun hHeld=>?_)
    ·exact uq SS _ (((((uq KW).drew).trans hk7).trans hk8).trans hk9)
    clear hK K;try simp only[Act.put,Ya,Yb,Yc]
    have hkA:Keep wr.drew w4:=(hk7.trans hk8).trans hk9;have K4:=hide (((uq KW).drew).trans hkA);have J4:=Jb.keep (w:=wr.drew) (uq JW) hkA;have R4:=Jb.keep (w:=wr.drew) (uq RW) hkA;have hs3:w.heap.size≤w3.heap.size:=Nat.le_trans (Below.size (uq KB)) (Nat.le_trans (Below.size ((uq KW).drew)) (Nat.le_trans (Below.size hk7) (Below.size hk8)));have O4:=Nj.own_mono ho9 hs3;obtain⟨pa,pc,rfl⟩:=zbA ho9;have c4:=J4.c.2.2;have f4:=J4.fz 2;have J5:=hide (J4.set2 (.slice pa PL.length pc));have R5:=hide (show Jb (w4.setCell ⟨q0+2+1,2,none⟩ (.slice pa PL.length pc)) (q0+2) _ _ _ from by unfold Jb;rw[heap_setCell_other w4 _ (q0+2) _ (by show q0+2≠q0+2+1;omega)];exact R4);have O5:=hide (zae (i:=2) (u:= .slice pa PL.length pc) O4 J4 (by decide));have K5:Hid (Keep wb (w4.setCell ⟨q0+2+1,2,none⟩ (.slice pa PL.length pc))):=hide (Below.setCell (uq K4) (by show wb.heap.size≤q0+2+1;have:=uq HT;omega) _);clear hk7 hs7 hk8 hs8 hk9 ho9 hkA J4 R4 O4 hl7 hl8 hs3;refine tkk 15 53 hHeld ?_;try simp only[Act.put,Ya,Yb,Yc]
    refine zal 16 (fun K hK=>?_);go_simp;clear hHeld;refine hK.out _ _ ?_ (fun hHeld=>?_)
    ·exact uq SS _ (uq K5)
    clear hK K;try simp only[Act.put,Ya,Yb,Yc]
    refine wpAnyH_done (by kernel_rfl) ?_ _;clear hHeld;clear c4 f4;generalize w4.setCell ⟨q0+2+1,2,none⟩ (.slice pa PL.length pc)=w5 at J5 R5 O5 K5 ⊢;obtain⟨j0,j1,j2⟩:=(uq J5).c;obtain⟨r0,r1,r2⟩:=(uq R5).c;have g0:=(uq R5).fz 0;have g1:=(uq R5).fz 1;have g2:=(uq R5).fz 2;go_wp2_with fail
    clear j0 j1 j2 r0 r1 r2 g0 g1 g2;have RX:=(((uq R5).set0 (.slice ra 2 rc)).set1 (.slice fa 2 fc)).set2 (.slice pa PL.length pc);have hT:=uq HT;have KX:Keep wb (((w5.setCell ⟨q0+2,0,none⟩ (.slice ra 2 rc)).setCell ⟨q0+2,1,none⟩ (.slice fa 2 fc)).setCell ⟨q0+2,2,none⟩ (.slice pa PL.length pc)):=Below.setCell (Below.setCell (Below.setCell (uq K5) (by show wb.heap.size≤q0+2;omega) _) (by show wb.heap.size≤q0+2;omega) _) (by show wb.heap.size≤q0+2;omega) _;have OX:=zae (i:=2) (u:= .slice pa PL.length pc) (zae (i:=1) (u:= .slice fa 2 fc) (zae (i:=0) (u:= .slice ra 2 rc) (uq O5) (uq R5) (by decide)) ((uq R5).set0 (.slice ra 2 rc)) (by decide)) (((uq R5).set0 (.slice ra 2 rc)).set1 (.slice fa 2 fc)) (by decide);generalize ((w5.setCell ⟨q0+2,0,none⟩ (.slice ra 2 rc)).setCell ⟨q0+2,1,none⟩ (.slice fa 2 fc)).setCell ⟨q0+2,2,none⟩ (.slice pa PL.length pc)=wX at RX KX OX ⊢;obtain⟨r0,r1,r2⟩:=RX.c;refine bodyPost_ret (v:= .agg #[.slice ra 2 rc,.slice fa 2 fc,.slice pa PL.length pc]) (by simp[results,Tryz.results19,go_sem,r0,r1,r2]) rfl ?_;exact⟨_,_,_,_,_,_,_,rfl,(uq KB).trans KX,OX⟩
   ·have hne:¬(k:Int)=2:=by omega
    have hnb:((k:Int)==2)=false:=by simp;omega
    have HP:=uq HPL h2;subst HP;obtain⟨⟨z0,z1,z2,z3,z4,z5,z6⟩,f0⟩:=(uq HX) wr (uq KW);obtain⟨j0,j1,j2⟩:=(uq JW).c;obtain⟨r0,r1,r2⟩:=(uq RW).c;have g0:=(uq RW).fz 0;have g1:=(uq RW).fz 1;have g2:=(uq RW).fz 2;go_wp2_with fail
    clear j0 j1 j2 r0 r1 r2 g0 g1 g2 z0 z1 z2 z3 z4 z5 z6 f0;have RX:=(((uq RW).set0 (.slice ra k rc)).set1 (.slice fa k fc)).set2 (.slice none 0 0);have hT:=uq HT;have KX:Keep wb (((wr.setCell ⟨q0+2,0,none⟩ (.slice ra k rc)).setCell ⟨q0+2,1,none⟩ (.slice fa k fc)).setCell ⟨q0+2,2,none⟩ (.slice none 0 0)):=Below.setCell (Below.setCell (Below.setCell (uq KW) (by show wb.heap.size≤q0+2;omega) _) (by show wb.heap.size≤q0+2;omega) _) (by show wb.heap.size≤q0+2;omega) _;generalize ((wr.setCell ⟨q0+2,0,none⟩ (.slice ra k rc)).setCell ⟨q0+2,1,none⟩ (.slice fa k fc)).setCell ⟨q0+2,2,none⟩ (.slice none 0 0)=wX at RX KX ⊢;obtain⟨r0,r1,r2⟩:=RX.c;refine bodyPost_ret (v:= .agg #[.slice ra k rc,.slice fa k fc,.slice none 0 0]) (by simp[results,Tryz.results19,go_sem,r0,r1,r2]) rfl ?_;exact⟨_,_,_,_,_,_,_,rfl,(uq KB).trans KX,World.ownsRow_nil _ _ _ _⟩
end Nj
end Go.Proofs.YtpmaonkelkmhbaaGreat
