/- Package show: the lines of a net. -/
import Derived.Test.YtfepanidippjlaaGreatDoorSGrp
import Derived.Test.YtfepanidippjlaaGreatDoorLEnd
import Derived.Deep.DrawnRows
import Derived.Deep.RegionHeld
namespace Go.Proofs.YtfepanidippjlaaGreatDoor
open Go.RowKit
attribute [local go_sem ↓] Go.wp_at_zero Go.wp_at_succ
set_option linter.unusedVariables false
set_option linter.unusedSimpArgs false
set_option maxRecDepth 10000
namespace S
def ntw (v0 v1 v2 v3 v4:Int) (n5:Nat) (WN:Nat→List (List UInt8)) (n6:Nat) (v7 v8:Int) (AW:List (List UInt8)):List (List UInt8):= [[99,121,99,108,101],dg v0,[116,111],dg v1,[98,121],dg v2,[59]]++([[112,101,97,107],dg v3,[47],dg v4,[59]]++((List.range n5).flatMap WN++(if 0<n6∨v7≠0∨v8≠0 then AW else [])))
set_option maxHeartbeats 32000000 in
theorem zjh (p:Nat) (v0 v1 v2 v3 v4:Int) (a5:Option Addr) (n5 c5:Nat) (a6:Option Addr) (n6 c6:Nat) (v7 v8:Int) (S0:Nat→List UInt8) (A1:Nat→Option Addr) (N1 C1:Nat→Nat) (A2:Nat→Option Addr) (N2 C2:Nat→Nat) (A3:Nat→Option Addr) (N3 C3:Nat→Nat) (A4:Nat→Option Addr) (N4 C4:Nat→Nat) (A5:Nat→Option Addr) (N5 C5:Nat→Nat) (V6:Nat→Int) (WN:Nat→List (List UInt8)) (AW:List (List UInt8)) (st:St) (w:World) (G:World→Prop) (hN:Nc p G) (h5:n5≤1000)
  (HC:Hid (∀ k,k<n5→∃ ad,a5=some ad∧ad.block<p∧w.cell? (ad.add (k * 7))=some (.string (sv (S0 k)))∧w.cell? ⟨(ad.add (k * 7)).block,(ad.add (k * 7)).off+1,none⟩=some (.slice (A1 k) (N1 k) (C1 k))∧w.cell? ⟨(ad.add (k * 7)).block,(ad.add (k * 7)).off+2,none⟩=some (.slice (A2 k) (N2 k) (C2 k))∧w.cell? ⟨(ad.add (k * 7)).block,(ad.add (k * 7)).off+3,none⟩=some (.slice (A3 k) (N3 k) (C3 k))∧w.cell? ⟨(ad.add (k * 7)).block,(ad.add (k * 7)).off+4,none⟩=some (.slice (A4 k) (N4 k) (C4 k))∧w.cell? ⟨(ad.add (k * 7)).block,(ad.add (k * 7)).off+5,none⟩=some (.slice (A5 k) (N5 k) (C5 k))∧w.cell? ⟨(ad.add (k * 7)).block,(ad.add (k * 7)).off+6,none⟩=some (.int .i64 (V6 k))))
  (TN:Hid (∀ k,k<n5→∀ w' s,G w'→Fb p w w'→Ps w' p s→oks s (WN k)→s.out.length+zbi (WN k)≤1000000000→Calls Tryz.prog 43 #[.pointer (some ⟨p,0,none⟩),.agg #[.string (sv (S0 k)),.slice (A1 k) (N1 k) (C1 k),.slice (A2 k) (N2 k) (C2 k),.slice (A3 k) (N3 k) (C3 k),.slice (A4 k) (N4 k) (C4 k),.slice (A5 k) (N5 k) (C5 k),.int .i64 (V6 k)]] w' fun e w''=>e= .returned (.tuple #[])∧Ps w'' p (pss s (WN k))∧Fb p w' w''))
  (TA:Hid (∀ w' s,G w'→Fb p w w'→Ps w' p s→oks s AW→s.out.length+zbi AW≤1000000000→Calls Tryz.prog 44 #[.pointer (some ⟨p,0,none⟩),.agg #[.int .i64 v0,.int .i64 v1,.int .i64 v2,.int .i64 v3,.int .i64 v4,.slice a5 n5 c5,.slice a6 n6 c6,.int .i64 v7,.int .i64 v8]] w' fun e w''=>e= .returned (.tuple #[])∧Ps w'' p (pss s AW)∧Fb p w' w''))
  (R0:Hid (-999999999999999999≤v0∧v0≤999999999999999999)) (R1:Hid (-999999999999999999≤v1∧v1≤999999999999999999)) (R2:Hid (-999999999999999999≤v2∧v2≤999999999999999999)) (R3:Hid (-999999999999999999≤v3∧v3≤999999999999999999)) (R4:Hid (-999999999999999999≤v4∧v4≤999999999999999999))
  (HP:Hid (Ps w p st)) (HG:Hid (G w)) (HO:Hid (oks st (ntw v0 v1 v2 v3 v4 n5 WN n6 v7 v8 AW))) (HL:Hid (st.out.length+zbi (ntw v0 v1 v2 v3 v4 n5 WN n6 v7 v8 AW)≤1000000000)):
  Calls Tryz.prog 17 #[.pointer (some ⟨p,0,none⟩),.agg #[.int .i64 v0,.int .i64 v1,.int .i64 v2,.int .i64 v3,.int .i64 v4,.slice a5 n5 c5,.slice a6 n6 c6,.int .i64 v7,.int .i64 v8]] w fun e w'=>e= .returned (.tuple #[])∧Ps w' p (pss st (ntw v0 v1 v2 v3 v4 n5 WN n6 v7 v8 AW))∧Fb p w w':=by
 obtain⟨fin,HFin⟩:∃ fin,Hid (pss st (ntw v0 v1 v2 v3 v4 n5 WN n6 v7 v8 AW)=fin):=⟨_,hide rfl⟩;rw[uq HFin];unfold ntw at HO HL HFin
 obtain⟨t6,HT6⟩:∃ t,Hid ((if 0<n6∨v7≠0∨v8≠0 then AW else []:List (List UInt8))=t):=⟨_,hide rfl⟩;rw[uq HT6]at HO HL HFin;obtain⟨t0,HT0⟩:∃ t,Hid ((List.range n5).flatMap WN++t6=t):=⟨_,hide rfl⟩;rw[uq HT0]at HO HL HFin;rw[zaq,zaq]at HO;rw[zah,zah]at HL;rw[← zas,← zas]at HFin;have HLA:=hide (zaO _ _ (uq HO).1);have HLB:=hide (zaO _ _ (uq HO).2.1);have HPL:=hide (Pr.lt (uq HP));have HF0:Hid (Fb p w (w.alloc (.cells #[.int .i64 v0,.int .i64 v1,.int .i64 v2,.int .i64 v3,.int .i64 v4,.slice a5 n5 c5,.slice a6 n6 c6,.int .i64 v7,.int .i64 v8] 27))):=hide (Fb.keep ((Keep.refl w).alloc _));have HP0:=hide ((uq HP).keep ((Keep.refl w).alloc (.cells #[.int .i64 v0,.int .i64 v1,.int .i64 v2,.int .i64 v3,.int .i64 v4,.slice a5 n5 c5,.slice a6 n6 c6,.int .i64 v7,.int .i64 v8] 27)));have HG0:=hide (hN.keep _ _ (uq HG) ((Keep.refl w).alloc (.cells #[.int .i64 v0,.int .i64 v1,.int .i64 v2,.int .i64 v3,.int .i64 v4,.slice a5 n5 c5,.slice a6 n6 c6,.int .i64 v7,.int .i64 v8] 27)));have HB0:=hide (heap_alloc_new w (.cells #[.int .i64 v0,.int .i64 v1,.int .i64 v2,.int .i64 v3,.int .i64 v4,.slice a5 n5 c5,.slice a6 n6 c6,.int .i64 v7,.int .i64 v8] 27));go_enter Tryz.func17,Tryz.ntmps17
 go_upto_region 1 with fail
 generalize w.alloc (.cells #[.int .i64 v0,.int .i64 v1,.int .i64 v2,.int .i64 v3,.int .i64 v4,.slice a5 n5 c5,.slice a6 n6 c6,.int .i64 v7,.int .i64 v8] 27)=w0 at HF0 HP0 HG0 HB0 ⊢;obtain⟨gb,HGb⟩:∃ gb,Hid (w.heap.size=gb):=⟨_,rfl⟩;rw[uq HGb]at HB0 ⊢;have HGP:Hid (gb≠p):=hide (by have:=uq HPL;have:=uq HGb;omega);have HBX:Hid (∀ w':World,w'.heap[gb]? =some (.cells #[.int .i64 v0,.int .i64 v1,.int .i64 v2,.int .i64 v3,.int .i64 v4,.slice a5 n5 c5,.slice a6 n6 c6,.int .i64 v7,.int .i64 v8] 27 (0,0))→w'.cell? ⟨gb,0,none⟩=some (.int .i64 v0)∧w'.cell? ⟨gb,1,none⟩=some (.int .i64 v1)∧w'.cell? ⟨gb,2,none⟩=some (.int .i64 v2)∧w'.cell? ⟨gb,3,none⟩=some (.int .i64 v3)∧w'.cell? ⟨gb,4,none⟩=some (.int .i64 v4)∧w'.cell? ⟨gb,5,none⟩=some (.slice a5 n5 c5)∧w'.cell? ⟨gb,6,none⟩=some (.slice a6 n6 c6)∧w'.cell? ⟨gb,7,none⟩=some (.int .i64 v7)∧w'.cell? ⟨gb,8,none⟩=some (.int .i64 v8)):=hide (fun w' h=>⟨by simp[World.cell?,h],by simp[World.cell?,h],by simp[World.cell?,h],by simp[World.cell?,h],by simp[World.cell?,h],by simp[World.cell?,h],by simp[World.cell?,h],by simp[World.cell?,h],by simp[World.cell?,h]⟩);refine wp_region_held_drew (S:=fun w'=>w'.cell? ⟨gb,0,none⟩=some (.int .i64 v0)∧w'.cell? ⟨gb,1,none⟩=some (.int .i64 v1)∧w'.cell? ⟨gb,2,none⟩=some (.int .i64 v2)∧w'.cell? ⟨gb,3,none⟩=some (.int .i64 v3)∧w'.cell? ⟨gb,4,none⟩=some (.int .i64 v4)∧w'.cell? ⟨gb,5,none⟩=some (.slice a5 n5 c5)∧w'.cell? ⟨gb,6,none⟩=some (.slice a6 n6 c6)∧w'.cell? ⟨gb,7,none⟩=some (.int .i64 v7)∧w'.cell? ⟨gb,8,none⟩=some (.int .i64 v8)) (by kernel_rfl) (by exact(uq HBX) _ (uq HB0)) (fun hHeld=>?_);refine tkk 0 6 hHeld ?_;try simp only[Act.put,Ya,Yb,Yc]
 refine tkk 1 7 hHeld ?_;try simp only[Act.put,Ya,Yb,Yc]
 refine tkk 2 8 hHeld ?_;try simp only[Act.put,Ya,Yb,Yc]
 refine tkk 4 10 hHeld ?_;try simp only[Act.put,Ya,Yb,Yc]
 refine tkk 5 11 hHeld ?_;try simp only[Act.put,Ya,Yb,Yc]
 refine tkk 7 13 hHeld ?_;try simp only[Act.put,Ya,Yb,Yc]
 refine tkk 8 14 hHeld ?_;try simp only[Act.put,Ya,Yb,Yc]
 have HP_0:=hide ((uq HP0).keep (Keep.refl w0).drew);have HF_0:=hide ((uq HF0).trans (Fb.keep (Keep.refl w0).drew));have HG_0:=hide (hN.keep _ _ (uq HG0) (Keep.refl w0).drew);have HB_0:Hid (w0.drew.heap[gb]? =some (.cells #[.int .i64 v0,.int .i64 v1,.int .i64 v2,.int .i64 v3,.int .i64 v4,.slice a5 n5 c5,.slice a6 n6 c6,.int .i64 v7,.int .i64 v8] 27 (0,0))):=HB0;generalize w0.drew=u0 at HP_0 HF_0 HG_0 HB_0 ⊢;refine zaC 3 (fun K hK=>?_);go_simp;clear hHeld;(refine(hN.num v0 _ (uq R0).1 (uq R0).2 (uq HG_0)).mono ?_;rintro e u1 ⟨rfl,hk9⟩;have HP_1:=hide ((uq HP_0).keep hk9);have HF_1:=hide ((uq HF_0).trans (Fb.keep hk9));have HG_1:=hide (hN.keep _ _ (uq HG_0) hk9);have HB_1:Hid (u1.heap[gb]? =some (.cells #[.int .i64 v0,.int .i64 v1,.int .i64 v2,.int .i64 v3,.int .i64 v4,.slice a5 n5 c5,.slice a6 n6 c6,.int .i64 v7,.int .i64 v8] 27 (0,0))):=hide (by rw[hk9.block _ (Array.getElem?_eq_some_iff.1 (uq HB_0)).1];exact uq HB_0);clear hk9);try go_wp2_with fail
 refine hK.out _ _ ?_ (fun hHeld=>?_)
 ·exact(uq HBX) _ (uq HB_1)
 clear hK K;try simp only[Act.put,Ya,Yb,Yc]
 refine zaC 6 (fun K hK=>?_);go_simp;clear hHeld;(refine(hN.num v1 _ (uq R1).1 (uq R1).2 (uq HG_1)).mono ?_;rintro e u2 ⟨rfl,hk9⟩;have HP_2:=hide ((uq HP_1).keep hk9);have HF_2:=hide ((uq HF_1).trans (Fb.keep hk9));have HG_2:=hide (hN.keep _ _ (uq HG_1) hk9);have HB_2:Hid (u2.heap[gb]? =some (.cells #[.int .i64 v0,.int .i64 v1,.int .i64 v2,.int .i64 v3,.int .i64 v4,.slice a5 n5 c5,.slice a6 n6 c6,.int .i64 v7,.int .i64 v8] 27 (0,0))):=hide (by rw[hk9.block _ (Array.getElem?_eq_some_iff.1 (uq HB_1)).1];exact uq HB_1);clear hk9);try go_wp2_with fail
 refine hK.out _ _ ?_ (fun hHeld=>?_)
 ·exact(uq HBX) _ (uq HB_2)
 clear hK K;try simp only[Act.put,Ya,Yb,Yc]
 refine zaC 9 (fun K hK=>?_);go_simp;clear hHeld;(refine(hN.num v2 _ (uq R2).1 (uq R2).2 (uq HG_2)).mono ?_;rintro e u3 ⟨rfl,hk9⟩;have HP_3:=hide ((uq HP_2).keep hk9);have HF_3:=hide ((uq HF_2).trans (Fb.keep hk9));have HG_3:=hide (hN.keep _ _ (uq HG_2) hk9);have HB_3:Hid (u3.heap[gb]? =some (.cells #[.int .i64 v0,.int .i64 v1,.int .i64 v2,.int .i64 v3,.int .i64 v4,.slice a5 n5 c5,.slice a6 n6 c6,.int .i64 v7,.int .i64 v8] 27 (0,0))):=hide (by rw[hk9.block _ (Array.getElem?_eq_some_iff.1 (uq HB_2)).1];exact uq HB_2);clear hk9);try go_wp2_with fail
 refine hK.out _ _ ?_ (fun hHeld=>?_)
 ·exact(uq HBX) _ (uq HB_3)
 clear hK K;try simp only[Act.put,Ya,Yb,Yc]
 refine zaC 10 (fun K hK=>?_);go_simp;clear hHeld;refine hK.out _ _ ?_ (fun hHeld=>?_)
 ·exact(uq HBX) _ (by rw[heap_alloc_old _ _ (Array.getElem?_eq_some_iff.1 (uq HB_3)).1];exact uq HB_3)
 clear hK K;try simp only[Act.put,Ya,Yb,Yc]
 refine zaC 11 (fun K hK=>?_);go_simp;clear hHeld
 (have T9:=zaU (W:=u3) [[99,121,99,108,101],dg v0,[116,111],dg v1,[98,121],dg v2,[59]] rfl (uq HP_3) (by simp) (uq HO).1 (by have:=uq HL;omega);simp only[wc,List.map_cons,List.map_nil]at T9;refine T9.mono ?_;clear T9;rintro e wm ⟨rfl,hp,hf⟩;have HPm:=hide hp;have HFm:=hide ((uq HF_3).trans hf);have HGm:=hide (hN.fb _ _ (uq HG_3) hf);have HBm:=hide (hf.words (uq HB_3) (by decide) (uq HGP));clear hp hf)
 try go_wp2_with fail
 refine hK.out _ _ ?_ (fun hHeld=>?_)
 ·exact(uq HBX) _ (uq HBm)
 clear hK K;try simp only[Act.put,Ya,Yb,Yc]
 refine wpAnyH_done (by kernel_rfl) ?_ _;clear hHeld;clear HBX HP_0 HF_0 HG_0 HB_0 HP_1 HF_1 HG_1 HB_1 HP_2 HF_2 HG_2 HB_2 HP_3 HF_3 HG_3 HB_3
 go_upto_region 2 with fail
 have HBX:Hid (∀ w':World,w'.heap[gb]? =some (.cells #[.int .i64 v0,.int .i64 v1,.int .i64 v2,.int .i64 v3,.int .i64 v4,.slice a5 n5 c5,.slice a6 n6 c6,.int .i64 v7,.int .i64 v8] 27 (0,0))→w'.cell? ⟨gb,0,none⟩=some (.int .i64 v0)∧w'.cell? ⟨gb,1,none⟩=some (.int .i64 v1)∧w'.cell? ⟨gb,2,none⟩=some (.int .i64 v2)∧w'.cell? ⟨gb,3,none⟩=some (.int .i64 v3)∧w'.cell? ⟨gb,4,none⟩=some (.int .i64 v4)∧w'.cell? ⟨gb,5,none⟩=some (.slice a5 n5 c5)∧w'.cell? ⟨gb,6,none⟩=some (.slice a6 n6 c6)∧w'.cell? ⟨gb,7,none⟩=some (.int .i64 v7)∧w'.cell? ⟨gb,8,none⟩=some (.int .i64 v8)):=hide (fun w' h=>⟨by simp[World.cell?,h],by simp[World.cell?,h],by simp[World.cell?,h],by simp[World.cell?,h],by simp[World.cell?,h],by simp[World.cell?,h],by simp[World.cell?,h],by simp[World.cell?,h],by simp[World.cell?,h]⟩);refine wp_region_held_drew (S:=fun w'=>w'.cell? ⟨gb,0,none⟩=some (.int .i64 v0)∧w'.cell? ⟨gb,1,none⟩=some (.int .i64 v1)∧w'.cell? ⟨gb,2,none⟩=some (.int .i64 v2)∧w'.cell? ⟨gb,3,none⟩=some (.int .i64 v3)∧w'.cell? ⟨gb,4,none⟩=some (.int .i64 v4)∧w'.cell? ⟨gb,5,none⟩=some (.slice a5 n5 c5)∧w'.cell? ⟨gb,6,none⟩=some (.slice a6 n6 c6)∧w'.cell? ⟨gb,7,none⟩=some (.int .i64 v7)∧w'.cell? ⟨gb,8,none⟩=some (.int .i64 v8)) (by kernel_rfl) (by exact(uq HBX) _ (uq HBm)) (fun hHeld=>?_);refine tkk 0 18 hHeld ?_;try simp only[Act.put,Ya,Yb,Yc]
 refine tkk 1 19 hHeld ?_;try simp only[Act.put,Ya,Yb,Yc]
 refine tkk 2 20 hHeld ?_;try simp only[Act.put,Ya,Yb,Yc]
 refine tkk 3 21 hHeld ?_;try simp only[Act.put,Ya,Yb,Yc]
 refine tkk 5 23 hHeld ?_;try simp only[Act.put,Ya,Yb,Yc]
 refine tkk 6 24 hHeld ?_;try simp only[Act.put,Ya,Yb,Yc]
 refine tkk 7 25 hHeld ?_;try simp only[Act.put,Ya,Yb,Yc]
 have HP_0:=hide ((uq HPm).keep (Keep.refl wm).drew);have HF_0:=hide ((uq HFm).trans (Fb.keep (Keep.refl wm).drew));have HG_0:=hide (hN.keep _ _ (uq HGm) (Keep.refl wm).drew);have HB_0:Hid (wm.drew.heap[gb]? =some (.cells #[.int .i64 v0,.int .i64 v1,.int .i64 v2,.int .i64 v3,.int .i64 v4,.slice a5 n5 c5,.slice a6 n6 c6,.int .i64 v7,.int .i64 v8] 27 (0,0))):=HBm;generalize wm.drew=u0 at HP_0 HF_0 HG_0 HB_0 ⊢;refine zaC 4 (fun K hK=>?_);go_simp;clear hHeld;(refine(hN.num v3 _ (uq R3).1 (uq R3).2 (uq HG_0)).mono ?_;rintro e u1 ⟨rfl,hk9⟩;have HP_1:=hide ((uq HP_0).keep hk9);have HF_1:=hide ((uq HF_0).trans (Fb.keep hk9));have HG_1:=hide (hN.keep _ _ (uq HG_0) hk9);have HB_1:Hid (u1.heap[gb]? =some (.cells #[.int .i64 v0,.int .i64 v1,.int .i64 v2,.int .i64 v3,.int .i64 v4,.slice a5 n5 c5,.slice a6 n6 c6,.int .i64 v7,.int .i64 v8] 27 (0,0))):=hide (by rw[hk9.block _ (Array.getElem?_eq_some_iff.1 (uq HB_0)).1];exact uq HB_0);clear hk9);try go_wp2_with fail
 refine hK.out _ _ ?_ (fun hHeld=>?_)
 ·exact(uq HBX) _ (uq HB_1)
 clear hK K;try simp only[Act.put,Ya,Yb,Yc]
 refine zaC 8 (fun K hK=>?_);go_simp;clear hHeld;(refine(hN.num v4 _ (uq R4).1 (uq R4).2 (uq HG_1)).mono ?_;rintro e u2 ⟨rfl,hk9⟩;have HP_2:=hide ((uq HP_1).keep hk9);have HF_2:=hide ((uq HF_1).trans (Fb.keep hk9));have HG_2:=hide (hN.keep _ _ (uq HG_1) hk9);have HB_2:Hid (u2.heap[gb]? =some (.cells #[.int .i64 v0,.int .i64 v1,.int .i64 v2,.int .i64 v3,.int .i64 v4,.slice a5 n5 c5,.slice a6 n6 c6,.int .i64 v7,.int .i64 v8] 27 (0,0))):=hide (by rw[hk9.block _ (Array.getElem?_eq_some_iff.1 (uq HB_1)).1];exact uq HB_1);clear hk9);try go_wp2_with fail
 refine hK.out _ _ ?_ (fun hHeld=>?_)
 ·exact(uq HBX) _ (uq HB_2)
 clear hK K;try simp only[Act.put,Ya,Yb,Yc]
 refine zaC 9 (fun K hK=>?_);go_simp;clear hHeld;refine hK.out _ _ ?_ (fun hHeld=>?_)
 ·exact(uq HBX) _ (by rw[heap_alloc_old _ _ (Array.getElem?_eq_some_iff.1 (uq HB_2)).1];exact uq HB_2)
 clear hK K;try simp only[Act.put,Ya,Yb,Yc]
 refine zaC 10 (fun K hK=>?_);go_simp;clear hHeld
 (have T9:=zaU (W:=u2) [[112,101,97,107],dg v3,[47],dg v4,[59]] rfl (uq HP_2) (by simp) (uq HO).2.1 (by have:=uq HL;have:=uq HLA;omega);simp only[wc,List.map_cons,List.map_nil]at T9;refine T9.mono ?_;clear T9;rintro e w1 ⟨rfl,hp,hf⟩;have HP1:=hide hp;have HF1:=hide ((uq HF_2).trans hf);have HG1:=hide (hN.fb _ _ (uq HG_2) hf);have HB1:=hide (hf.words (uq HB_2) (by decide) (uq HGP));clear hp hf)
 try go_wp2_with fail
 refine hK.out _ _ ?_ (fun hHeld=>?_)
 ·exact(uq HBX) _ (uq HB1)
 clear hK K;try simp only[Act.put,Ya,Yb,Yc]
 refine wpAnyH_done (by kernel_rfl) ?_ _;clear hHeld;clear HBX HP_0 HF_0 HG_0 HB_0 HP_1 HF_1 HG_1 HB_1 HP_2 HF_2 HG_2 HB_2;have HO1:=hide (uq HO).2.2;have HE1:=HFin;have HL1:Hid ((pss (pss st [[99,121,99,108,101],dg v0,[116,111],dg v1,[98,121],dg v2,[59]]) [[112,101,97,107],dg v3,[47],dg v4,[59]]).out.length+zbi t0≤1000000000):=hide (by have:=uq HLA;have:=uq HLB;have:=uq HL;omega);obtain⟨s1,HS1⟩:∃ s1,Hid (pss (pss st [[99,121,99,108,101],dg v0,[116,111],dg v1,[98,121],dg v2,[59]]) [[112,101,97,107],dg v3,[47],dg v4,[59]]=s1):=⟨_,rfl⟩;rw[uq HS1]at HO1 HE1 HL1 HP1;clear HO HL HFin HS1 HLA HLB;have cg:w1.cell? ⟨gb,5,none⟩=some (.slice a5 n5 c5):=by simp[World.cell?,uq HB1]
 go_wp2_with fail
 clear cg;rw[← uq HT0]at HO1 HE1 HL1
 go_loopw [32] (fun vi wr=>∃(k:Nat) (s:St),k≤n5∧vi= .int .i64 (k:Int)∧Hid (Ps wr p s)∧Hid (G wr)∧Hid (oks s (((List.range n5).drop k).flatMap WN++t6))∧Hid (pss s (((List.range n5).drop k).flatMap WN++t6)=fin)∧Hid (s.out.length+zbi (((List.range n5).drop k).flatMap WN++t6)≤1000000000)∧Hid (Fb p w wr)∧Hid (wr.heap[gb]? =some (.cells #[.int .i64 v0,.int .i64 v1,.int .i64 v2,.int .i64 v3,.int .i64 v4,.slice a5 n5 c5,.slice a6 n6 c6,.int .i64 v7,.int .i64 v8] 27 (0,0)))) (fun vi wr=>n5 - (intOf vi).toNat)
 case atStart=>exact⟨0,s1,Nat.zero_le _,rfl,HP1,HG1,hide (by rw[List.drop_zero];exact uq HO1),hide (by rw[List.drop_zero];exact uq HE1),hide (by rw[List.drop_zero];exact uq HL1),HF1,HB1⟩
 case round=>
  obtain⟨k,s,hk,rfl,HPk,HGk,HOk,HEk,HLk,HFk,HBk⟩:=hrel;by_cases hlt:k<n5
  ·have li:(k:Int)<(n5:Int):=by omega
   rw[zbn n5 k hlt,List.append_assoc]at HOk HEk HLk;obtain⟨rst,HRst⟩:∃ rst,Hid (((List.range n5).drop (k+1)).flatMap WN++t6=rst):=⟨_,hide rfl⟩;rw[uq HRst]at HOk HEk HLk;rw[zaq]at HOk;rw[zah]at HLk;rw[← zas]at HEk;have HLA:=hide (zaO _ _ (uq HOk).1);have HTk:=hide ((uq TN) k hlt);obtain⟨ad,ea,hadp,e0,e1,e2,e3,e4,e5,e6⟩:=(uq HC) k hlt;subst ea;have x0:=zaj (uq HFk) e0 (by rw[zae];exact hadp);have x1:=zaj (uq HFk) e1 (by show(ad.add (k * 7)).block<p;rw[zae];exact hadp);have x2:=zaj (uq HFk) e2 (by show(ad.add (k * 7)).block<p;rw[zae];exact hadp);have x3:=zaj (uq HFk) e3 (by show(ad.add (k * 7)).block<p;rw[zae];exact hadp);have x4:=zaj (uq HFk) e4 (by show(ad.add (k * 7)).block<p;rw[zae];exact hadp);have x5:=zaj (uq HFk) e5 (by show(ad.add (k * 7)).block<p;rw[zae];exact hadp);have x6:=zaj (uq HFk) e6 (by show(ad.add (k * 7)).block<p;rw[zae];exact hadp);clear e0 e1 e2 e3 e4 e5 e6 hadp;obtain⟨Y0,HY0⟩:∃ Y,Hid (sv (S0 k)=Y):=⟨_,rfl⟩;rw[uq HY0]at x0 HTk;have HPa:=hide ((uq HPk).keep ((Keep.refl wr).alloc (.cells #[.string Y0,.slice (A1 k) (N1 k) (C1 k),.slice (A2 k) (N2 k) (C2 k),.slice (A3 k) (N3 k) (C3 k),.slice (A4 k) (N4 k) (C4 k),.slice (A5 k) (N5 k) (C5 k),.int .i64 (V6 k)] 46)));have HGa:=hide (hN.keep _ _ (uq HGk) ((Keep.refl wr).alloc (.cells #[.string Y0,.slice (A1 k) (N1 k) (C1 k),.slice (A2 k) (N2 k) (C2 k),.slice (A3 k) (N3 k) (C3 k),.slice (A4 k) (N4 k) (C4 k),.slice (A5 k) (N5 k) (C5 k),.int .i64 (V6 k)] 46)));have HFa:Hid (Fb p w (wr.alloc (.cells #[.string Y0,.slice (A1 k) (N1 k) (C1 k),.slice (A2 k) (N2 k) (C2 k),.slice (A3 k) (N3 k) (C3 k),.slice (A4 k) (N4 k) (C4 k),.slice (A5 k) (N5 k) (C5 k),.int .i64 (V6 k)] 46))):=hide ((uq HFk).trans (Fb.keep ((Keep.refl wr).alloc _)));have HBa:Hid ((wr.alloc (.cells #[.string Y0,.slice (A1 k) (N1 k) (C1 k),.slice (A2 k) (N2 k) (C2 k),.slice (A3 k) (N3 k) (C3 k),.slice (A4 k) (N4 k) (C4 k),.slice (A5 k) (N5 k) (C5 k),.int .i64 (V6 k)] 46)).heap[gb]? =some (.cells #[.int .i64 v0,.int .i64 v1,.int .i64 v2,.int .i64 v3,.int .i64 v4,.slice (some ad) n5 c5,.slice a6 n6 c6,.int .i64 v7,.int .i64 v8] 27 (0,0))):=hide (by rw[heap_alloc_old _ _ (Array.getElem?_eq_some_iff.1 (uq HBk)).1];exact uq HBk);have HXa:=hide (heap_alloc_new wr (.cells #[.string Y0,.slice (A1 k) (N1 k) (C1 k),.slice (A2 k) (N2 k) (C2 k),.slice (A3 k) (N3 k) (C3 k),.slice (A4 k) (N4 k) (C4 k),.slice (A5 k) (N5 k) (C5 k),.int .i64 (V6 k)] 46))
   go_upto_region 6 with fail
   generalize wr.alloc (.cells #[.string Y0,.slice (A1 k) (N1 k) (C1 k),.slice (A2 k) (N2 k) (C2 k),.slice (A3 k) (N3 k) (C3 k),.slice (A4 k) (N4 k) (C4 k),.slice (A5 k) (N5 k) (C5 k),.int .i64 (V6 k)] 46)=wa at HPa HGa HFa HBa HXa ⊢;generalize wr.heap.size=qb at HXa ⊢;clear x0 x1 x2 x3 x4 x5 x6;have y0:wa.cell? ⟨qb,0,none⟩=some (.string Y0):=by simp[World.cell?,uq HXa]
   have y1:wa.cell? ⟨qb,1,none⟩=some (.slice (A1 k) (N1 k) (C1 k)):=by simp[World.cell?,uq HXa]
   have y2:wa.cell? ⟨qb,2,none⟩=some (.slice (A2 k) (N2 k) (C2 k)):=by simp[World.cell?,uq HXa]
   have y3:wa.cell? ⟨qb,3,none⟩=some (.slice (A3 k) (N3 k) (C3 k)):=by simp[World.cell?,uq HXa]
   have y4:wa.cell? ⟨qb,4,none⟩=some (.slice (A4 k) (N4 k) (C4 k)):=by simp[World.cell?,uq HXa]
   have y5:wa.cell? ⟨qb,5,none⟩=some (.slice (A5 k) (N5 k) (C5 k)):=by simp[World.cell?,uq HXa]
   have y6:wa.cell? ⟨qb,6,none⟩=some (.int .i64 (V6 k)):=by simp[World.cell?,uq HXa]
   go_wp2_with fail
   (refine((uq HTk) wa s (uq HGa) (uq HFa) (uq HPa) (uq HOk).1 (by have:=uq HLk;omega)).mono ?_;rintro e wz ⟨rfl,hp,hf⟩;have HPz:=hide hp;have HFz:=hide ((uq HFa).trans hf);have HGz:=hide (hN.fb _ _ (uq HGa) hf);have HBz:=hide (hf.words (uq HBa) (by decide) (uq HGP));clear hp hf);clear y0 y1 y2 y3 y4 y5 y6;go_wp2_with fail
   go_roundw
   case rel=>
    refine⟨k+1,_,hlt,by go_num,HPz,HGz,hide ?_,hide ?_,hide ?_,HFz,HBz⟩
    ·rw[uq HRst];exact(uq HOk).2
    ·rw[uq HRst];exact uq HEk
    ·rw[uq HRst];have:=uq HLk;have:=uq HLA;omega
   case measure=>simp[intOf];omega
  ·rw[zbV n5 k hlt,List.nil_append]at HOk HEk HLk;have y0:wr.cell? ⟨gb,0,none⟩=some (.int .i64 v0):=by simp[World.cell?,uq HBk]
   have y1:wr.cell? ⟨gb,1,none⟩=some (.int .i64 v1):=by simp[World.cell?,uq HBk]
   have y2:wr.cell? ⟨gb,2,none⟩=some (.int .i64 v2):=by simp[World.cell?,uq HBk]
   have y3:wr.cell? ⟨gb,3,none⟩=some (.int .i64 v3):=by simp[World.cell?,uq HBk]
   have y4:wr.cell? ⟨gb,4,none⟩=some (.int .i64 v4):=by simp[World.cell?,uq HBk]
   have y5:wr.cell? ⟨gb,5,none⟩=some (.slice a5 n5 c5):=by simp[World.cell?,uq HBk]
   have y6:wr.cell? ⟨gb,6,none⟩=some (.slice a6 n6 c6):=by simp[World.cell?,uq HBk]
   have y7:wr.cell? ⟨gb,7,none⟩=some (.int .i64 v7):=by simp[World.cell?,uq HBk]
   have y8:wr.cell? ⟨gb,8,none⟩=some (.int .i64 v8):=by simp[World.cell?,uq HBk]
   rcases Decidable.em (v7=0)with d7|d7<;>rcases Decidable.em (v8=0)with d8|d8<;>rcases Decidable.em (0<n6)with k6|k6
   ·have g6:(0:Int)<(n6:Int):=by omega
    have g7:(v7 !=0)=false:=by simp[d7]
    have g8:(v8 !=0)=false:=by simp[d8]
    have HC9:Hid (0<n6∨v7≠0∨v8≠0):=hide (.inl k6);clear k6 d7 d8;rw[← uq HT6,if_pos (uq HC9)]at HOk HEk HLk;go_wp2_with fail
    (refine((uq TA) wr s (uq HGk) (uq HFk) (uq HPk) (uq HOk) (uq HLk)).mono ?_;rintro e wz ⟨rfl,hp,hf⟩;have HPz:=hide hp;have HFz:=hide ((uq HFk).trans hf);clear hp hf);go_wp2_with fail
    go_end0
    have h9:=uq HPz;rw[uq HEk]at h9;exact⟨rfl,h9,uq HFz⟩
   ·obtain rfl:n6=0:=by omega
    have g7:(v7 !=0)=false:=by simp[d7]
    have g8:(v8 !=0)=false:=by simp[d8]
    have HC9:Hid (¬(0<0∨v7≠0∨v8≠0)):=hide (fun h=>h.elim k6 (fun h=>h.elim (fun h=>h d7) (fun h=>h d8)));clear k6 d7 d8;rw[← uq HT6,if_neg (uq HC9)]at HEk;go_wp2_with fail
    go_end0
    have h9:=uq HPk;have h8:s=fin:=uq HEk;rw[h8]at h9;exact⟨rfl,h9,uq HFk⟩
   ·have g6:(0:Int)<(n6:Int):=by omega
    have g7:(v7 !=0)=false:=by simp[d7]
    have g8:(v8 !=0)=true:=by simp[d8]
    have HC9:Hid (0<n6∨v7≠0∨v8≠0):=hide (.inl k6);clear k6 d7 d8;rw[← uq HT6,if_pos (uq HC9)]at HOk HEk HLk;go_wp2_with fail
    (refine((uq TA) wr s (uq HGk) (uq HFk) (uq HPk) (uq HOk) (uq HLk)).mono ?_;rintro e wz ⟨rfl,hp,hf⟩;have HPz:=hide hp;have HFz:=hide ((uq HFk).trans hf);clear hp hf);go_wp2_with fail
    go_end0
    have h9:=uq HPz;rw[uq HEk]at h9;exact⟨rfl,h9,uq HFz⟩
   ·obtain rfl:n6=0:=by omega
    have g7:(v7 !=0)=false:=by simp[d7]
    have g8:(v8 !=0)=true:=by simp[d8]
    have HC9:Hid (0<0∨v7≠0∨v8≠0):=hide (.inr (.inr d8));clear k6 d7 d8;rw[← uq HT6,if_pos (uq HC9)]at HOk HEk HLk;go_wp2_with fail
    (refine((uq TA) wr s (uq HGk) (uq HFk) (uq HPk) (uq HOk) (uq HLk)).mono ?_;rintro e wz ⟨rfl,hp,hf⟩;have HPz:=hide hp;have HFz:=hide ((uq HFk).trans hf);clear hp hf);go_wp2_with fail
    go_end0
    have h9:=uq HPz;rw[uq HEk]at h9;exact⟨rfl,h9,uq HFz⟩
   ·have g6:(0:Int)<(n6:Int):=by omega
    have g7:(v7 !=0)=true:=by simp[d7]
    have g8:(v8 !=0)=false:=by simp[d8]
    have HC9:Hid (0<n6∨v7≠0∨v8≠0):=hide (.inl k6);clear k6 d7 d8;rw[← uq HT6,if_pos (uq HC9)]at HOk HEk HLk;go_wp2_with fail
    (refine((uq TA) wr s (uq HGk) (uq HFk) (uq HPk) (uq HOk) (uq HLk)).mono ?_;rintro e wz ⟨rfl,hp,hf⟩;have HPz:=hide hp;have HFz:=hide ((uq HFk).trans hf);clear hp hf);go_wp2_with fail
    go_end0
    have h9:=uq HPz;rw[uq HEk]at h9;exact⟨rfl,h9,uq HFz⟩
   ·obtain rfl:n6=0:=by omega
    have g7:(v7 !=0)=true:=by simp[d7]
    have g8:(v8 !=0)=false:=by simp[d8]
    have HC9:Hid (0<0∨v7≠0∨v8≠0):=hide (.inr (.inl d7));clear k6 d7 d8;rw[← uq HT6,if_pos (uq HC9)]at HOk HEk HLk;go_wp2_with fail
    (refine((uq TA) wr s (uq HGk) (uq HFk) (uq HPk) (uq HOk) (uq HLk)).mono ?_;rintro e wz ⟨rfl,hp,hf⟩;have HPz:=hide hp;have HFz:=hide ((uq HFk).trans hf);clear hp hf);go_wp2_with fail
    go_end0
    have h9:=uq HPz;rw[uq HEk]at h9;exact⟨rfl,h9,uq HFz⟩
   ·have g6:(0:Int)<(n6:Int):=by omega
    have g7:(v7 !=0)=true:=by simp[d7]
    have g8:(v8 !=0)=true:=by simp[d8]
    have HC9:Hid (0<n6∨v7≠0∨v8≠0):=hide (.inl k6);clear k6 d7 d8;rw[← uq HT6,if_pos (uq HC9)]at HOk HEk HLk;go_wp2_with fail
    (refine((uq TA) wr s (uq HGk) (uq HFk) (uq HPk) (uq HOk) (uq HLk)).mono ?_;rintro e wz ⟨rfl,hp,hf⟩;have HPz:=hide hp;have HFz:=hide ((uq HFk).trans hf);clear hp hf);go_wp2_with fail
    go_end0
    have h9:=uq HPz;rw[uq HEk]at h9;exact⟨rfl,h9,uq HFz⟩
   ·obtain rfl:n6=0:=by omega
    have g7:(v7 !=0)=true:=by simp[d7]
    have g8:(v8 !=0)=true:=by simp[d8]
    have HC9:Hid (0<0∨v7≠0∨v8≠0):=hide (.inr (.inl d7));clear k6 d7 d8;rw[← uq HT6,if_pos (uq HC9)]at HOk HEk HLk;go_wp2_with fail
    (refine((uq TA) wr s (uq HGk) (uq HFk) (uq HPk) (uq HOk) (uq HLk)).mono ?_;rintro e wz ⟨rfl,hp,hf⟩;have HPz:=hide hp;have HFz:=hide ((uq HFk).trans hf);clear hp hf);go_wp2_with fail
    go_end0
    have h9:=uq HPz;rw[uq HEk]at h9;exact⟨rfl,h9,uq HFz⟩
end S
end Go.Proofs.YtfepanidippjlaaGreatDoor
