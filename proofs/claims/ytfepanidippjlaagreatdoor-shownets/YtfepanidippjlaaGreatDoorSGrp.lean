/- Package show: the line of a head. -/
import Derived.Test.YtfepanidippjlaaGreatDoorSLst
import Derived.Test.YtfepanidippjlaaGreatDoorLEnd
import Derived.Lib.ItoaNum
import Derived.Deep.DrawnRows
import Derived.Deep.RegionHeld
namespace Go.Proofs.YtfepanidippjlaaGreatDoor
open Go.RowKit
attribute [local go_sem ↓] Go.wp_at_zero Go.wp_at_succ
set_option linter.unusedVariables false
set_option linter.unusedSimpArgs false
set_option maxRecDepth 10000
namespace S
def dg (n:Int):List UInt8:=Lib.itoa n
structure Nc (p:Nat) (G:World→Prop):Prop where
 keep:∀ w w',G w→Keep w w'→G w'
 fb:∀ w w',G w→Fb p w w'→G w'
 num:∀(n:Int) (w:World), -999999999999999999≤n→n≤999999999999999999→G w→Calls Tryz.prog 42 #[.int .i64 n] w fun e w'=>e= .returned (.string (sv (dg n)))∧Keep w w'
def Bh (hb:Nat) (S:ByteArray) (v1 v2 v3 v4 v5 v6 v7 v8 v9 v10:Int) (w:World):Prop:=w.heap[hb]? =some (.cells #[.string S,.int .i64 v1,.int .i64 v2,.int .i64 v3,.int .i64 v4,.int .i64 v5,.int .i64 v6,.int .i64 v7,.int .i64 v8,.int .i64 v9,.int .i64 v10] 84 (0,0))
section
variable {hb : Nat} {S : ByteArray} {v1 v2 v3 v4 v5 v6 v7 v8 v9 v10 : Int}
theorem za8 {w w':World} (h:Bh hb S v1 v2 v3 v4 v5 v6 v7 v8 v9 v10 w) (k:Keep w w'):Bh hb S v1 v2 v3 v4 v5 v6 v7 v8 v9 v10 w':=by unfold Bh at *;rw[k.block hb (Array.getElem?_eq_some_iff.1 h).1];exact h
theorem zjg {w w':World} {p:Nat} (h:Bh hb S v1 v2 v3 v4 v5 v6 v7 v8 v9 v10 w) (hp:hb≠p) (k:Fb p w w'):Bh hb S v1 v2 v3 v4 v5 v6 v7 v8 v9 v10 w':=k.words h (by decide) hp
theorem zaK {w':World} (h:Bh hb S v1 v2 v3 v4 v5 v6 v7 v8 v9 v10 w'):w'.cell? ⟨hb,0,none⟩=some (.string S)∧w'.cell? ⟨hb,1,none⟩=some (.int .i64 v1)∧w'.cell? ⟨hb,2,none⟩=some (.int .i64 v2)∧w'.cell? ⟨hb,3,none⟩=some (.int .i64 v3)∧w'.cell? ⟨hb,4,none⟩=some (.int .i64 v4)∧w'.cell? ⟨hb,5,none⟩=some (.int .i64 v5)∧w'.cell? ⟨hb,6,none⟩=some (.int .i64 v6)∧w'.cell? ⟨hb,7,none⟩=some (.int .i64 v7)∧w'.cell? ⟨hb,8,none⟩=some (.int .i64 v8)∧w'.cell? ⟨hb,9,none⟩=some (.int .i64 v9)∧w'.cell? ⟨hb,10,none⟩=some (.int .i64 v10):=by
 unfold Bh at h
 refine⟨?_,?_,?_,?_,?_,?_,?_,?_,?_,?_,?_⟩<;>simp[World.cell?,h]
end
def hw (S0:List UInt8) (v1 v2 v3 v4 v5 v6 v7 v8 v9:Int):List (List UInt8):= [[104,101,97,100],S0,[118,111,108,117,109,101],dg v1,[102,108,111,119],dg v2]++([[117,115,101],dg v3,[47],dg v4]++([[115,112,101,101,100],dg v5,[103,114,97,100,101],dg v6]++([[119,105,100,116,104],dg v7,[108,101,110,103,116,104],dg v8,[103,114,101,101,110],dg v9,[59]])))
set_option maxHeartbeats 16000000 in
theorem zhD (p:Nat) (S0:List UInt8) (v1 v2 v3 v4 v5 v6 v7 v8 v9 v10:Int) (st:St) (w:World) (G:World→Prop) (hN:Nc p G) (Rv1:Hid (-999999999999999999≤v1∧v1≤999999999999999999)) (Rv2:Hid (-999999999999999999≤v2∧v2≤999999999999999999)) (Rv3:Hid (-999999999999999999≤v3∧v3≤999999999999999999)) (Rv4:Hid (-999999999999999999≤v4∧v4≤999999999999999999)) (Rv5:Hid (-999999999999999999≤v5∧v5≤999999999999999999)) (Rv6:Hid (-999999999999999999≤v6∧v6≤999999999999999999)) (Rv7:Hid (-999999999999999999≤v7∧v7≤999999999999999999)) (Rv8:Hid (-999999999999999999≤v8∧v8≤999999999999999999)) (Rv9:Hid (-999999999999999999≤v9∧v9≤999999999999999999))
  (HP:Hid (Ps w p st)) (HG:Hid (G w)) (HO:Hid (oks st (hw S0 v1 v2 v3 v4 v5 v6 v7 v8 v9))) (HL:Hid (st.out.length+zbi (hw S0 v1 v2 v3 v4 v5 v6 v7 v8 v9)≤1000000000)):
  Calls Tryz.prog 82 #[.pointer (some ⟨p,0,none⟩),.agg #[.string (sv S0),.int .i64 v1,.int .i64 v2,.int .i64 v3,.int .i64 v4,.int .i64 v5,.int .i64 v6,.int .i64 v7,.int .i64 v8,.int .i64 v9,.int .i64 v10]] w fun e w'=>e= .returned (.tuple #[])∧Ps w' p (pss st (hw S0 v1 v2 v3 v4 v5 v6 v7 v8 v9))∧Fb p w w':=by
 obtain⟨fin,HFin⟩:∃ fin,Hid (pss st (hw S0 v1 v2 v3 v4 v5 v6 v7 v8 v9)=fin):=⟨_,rfl⟩;rw[uq HFin];have a1:=uq HO;have a2:=uq HL;have a3:=uq HFin;simp only[hw]at a1 a2 a3;rw[zaq,zaq,zaq]at a1;rw[zah,zah,zah]at a2;rw[← zas,← zas,← zas]at a3;have HO1:=hide a1.1;have HO2:=hide a1.2.1;have HO3:=hide a1.2.2.1;have HO4:=hide a1.2.2.2;have l1:=zaO _ _ a1.1;have l2:=zaO _ _ a1.2.1;have l3:=zaO _ _ a1.2.2.1;have HL1:Hid (st.out.length+zbi [[104,101,97,100],S0,[118,111,108,117,109,101],dg v1,[102,108,111,119],dg v2]≤1000000000):=hide (by omega);have HL2:Hid ((pss st [[104,101,97,100],S0,[118,111,108,117,109,101],dg v1,[102,108,111,119],dg v2]).out.length+zbi [[117,115,101],dg v3,[47],dg v4]≤1000000000):=hide (by omega);have HL3:Hid ((pss (pss st [[104,101,97,100],S0,[118,111,108,117,109,101],dg v1,[102,108,111,119],dg v2]) [[117,115,101],dg v3,[47],dg v4]).out.length+zbi [[115,112,101,101,100],dg v5,[103,114,97,100,101],dg v6]≤1000000000):=hide (by omega);have HL4:Hid ((pss (pss (pss st [[104,101,97,100],S0,[118,111,108,117,109,101],dg v1,[102,108,111,119],dg v2]) [[117,115,101],dg v3,[47],dg v4]) [[115,112,101,101,100],dg v5,[103,114,97,100,101],dg v6]).out.length+zbi [[119,105,100,116,104],dg v7,[108,101,110,103,116,104],dg v8,[103,114,101,101,110],dg v9,[59]]≤1000000000):=hide (by omega);have HFZ:=hide a3;clear a1 a2 a3 l1 l2 l3 HO HL HFin;obtain⟨S,HS0⟩:∃ S,Hid (sv S0=S):=⟨_,rfl⟩;rw[uq HS0];have HX0:Hid (Bh w.heap.size S v1 v2 v3 v4 v5 v6 v7 v8 v9 v10 (w.alloc (.cells #[.string S,.int .i64 v1,.int .i64 v2,.int .i64 v3,.int .i64 v4,.int .i64 v5,.int .i64 v6,.int .i64 v7,.int .i64 v8,.int .i64 v9,.int .i64 v10] 84))):=hide (heap_alloc_new w _);have HP0:=hide ((uq HP).keep ((Keep.refl w).alloc (.cells #[.string S,.int .i64 v1,.int .i64 v2,.int .i64 v3,.int .i64 v4,.int .i64 v5,.int .i64 v6,.int .i64 v7,.int .i64 v8,.int .i64 v9,.int .i64 v10] 84)));have HF0:Hid (Fb p w (w.alloc (.cells #[.string S,.int .i64 v1,.int .i64 v2,.int .i64 v3,.int .i64 v4,.int .i64 v5,.int .i64 v6,.int .i64 v7,.int .i64 v8,.int .i64 v9,.int .i64 v10] 84))):=hide (Fb.keep ((Keep.refl w).alloc _));have HG0:=hide (hN.keep _ _ (uq HG) ((Keep.refl w).alloc (.cells #[.string S,.int .i64 v1,.int .i64 v2,.int .i64 v3,.int .i64 v4,.int .i64 v5,.int .i64 v6,.int .i64 v7,.int .i64 v8,.int .i64 v9,.int .i64 v10] 84)));have HBP:Hid (w.heap.size≠p):=hide (by have:=Pr.lt (uq HP);omega);go_enter Tryz.func82,Tryz.ntmps82;go_wp2_with fail
 generalize w.alloc (.cells #[.string S,.int .i64 v1,.int .i64 v2,.int .i64 v3,.int .i64 v4,.int .i64 v5,.int .i64 v6,.int .i64 v7,.int .i64 v8,.int .i64 v9,.int .i64 v10] 84)=w0 at HX0 HP0 HF0 HG0 ⊢;generalize w.heap.size=hb at HX0 HBP ⊢;refine wp_region_held_drew (S:=fun w'=>w'.cell? ⟨hb,0,none⟩=some (.string S)∧w'.cell? ⟨hb,1,none⟩=some (.int .i64 v1)∧w'.cell? ⟨hb,2,none⟩=some (.int .i64 v2)∧w'.cell? ⟨hb,3,none⟩=some (.int .i64 v3)∧w'.cell? ⟨hb,4,none⟩=some (.int .i64 v4)∧w'.cell? ⟨hb,5,none⟩=some (.int .i64 v5)∧w'.cell? ⟨hb,6,none⟩=some (.int .i64 v6)∧w'.cell? ⟨hb,7,none⟩=some (.int .i64 v7)∧w'.cell? ⟨hb,8,none⟩=some (.int .i64 v8)∧w'.cell? ⟨hb,9,none⟩=some (.int .i64 v9)∧w'.cell? ⟨hb,10,none⟩=some (.int .i64 v10)) (by kernel_rfl) (by exact zaK (uq HX0)) (fun hHeld=>?_);refine tkk 0 4 hHeld ?_;try simp only[Act.put,Ya,Yb,Yc]
 refine tkk 1 5 hHeld ?_;try simp only[Act.put,Ya,Yb,Yc]
 refine tkk 2 6 hHeld ?_;try simp only[Act.put,Ya,Yb,Yc]
 refine tkk 3 7 hHeld ?_;try simp only[Act.put,Ya,Yb,Yc]
 refine tkk 4 8 hHeld ?_;try simp only[Act.put,Ya,Yb,Yc]
 refine tkk 6 10 hHeld ?_;try simp only[Act.put,Ya,Yb,Yc]
 refine tkk 7 11 hHeld ?_;try simp only[Act.put,Ya,Yb,Yc]
 have HP1:=hide ((uq HP0).keep (Keep.refl w0).drew);have HF1:=hide ((uq HF0).trans (Fb.keep (Keep.refl w0).drew));have HG1:=hide (hN.keep _ _ (uq HG0) (Keep.refl w0).drew);have HX1:=hide (za8 (uq HX0) (Keep.refl w0).drew);generalize w0.drew=w1 at HP1 HF1 HG1 HX1 ⊢;refine zaC 5 (fun K hK=>?_);go_simp;clear hHeld;(refine(hN.num v1 _ (uq Rv1).1 (uq Rv1).2 (uq HG1)).mono ?_;rintro e w2 ⟨rfl,hk⟩;have HP2:=hide ((uq HP1).keep hk);have HF2:=hide ((uq HF1).trans (Fb.keep hk));have HG2:=hide (hN.keep _ _ (uq HG1) hk);have HX2:=hide (za8 (uq HX1) hk);clear hk);try go_wp2_with fail
 refine hK.out _ _ ?_ (fun hHeld=>?_)
 ·exact zaK (uq HX2)
 clear hK K;try simp only[Act.put,Ya,Yb,Yc]
 refine zaC 8 (fun K hK=>?_);go_simp;clear hHeld;(refine(hN.num v2 _ (uq Rv2).1 (uq Rv2).2 (uq HG2)).mono ?_;rintro e w3 ⟨rfl,hk⟩;have HP3:=hide ((uq HP2).keep hk);have HF3:=hide ((uq HF2).trans (Fb.keep hk));have HG3:=hide (hN.keep _ _ (uq HG2) hk);have HX3:=hide (za8 (uq HX2) hk);clear hk);try go_wp2_with fail
 refine hK.out _ _ ?_ (fun hHeld=>?_)
 ·exact zaK (uq HX3)
 clear hK K;try simp only[Act.put,Ya,Yb,Yc]
 refine zaC 9 (fun K hK=>?_);go_simp;clear hHeld;refine hK.out _ _ ?_ (fun hHeld=>?_)
 ·exact zaK (za8 (uq HX3) ((Keep.refl w3).alloc _))
 clear hK K;try simp only[Act.put,Ya,Yb,Yc]
 refine zaC 10 (fun K hK=>?_);go_simp;clear hHeld
 (have T1:=zaU (W:=w3) [[104,101,97,100],S0,[118,111,108,117,109,101],dg v1,[102,108,111,119],dg v2] rfl (uq HP3) (by simp) (uq HO1) (uq HL1);simp only[wc,List.map_cons,List.map_nil]at T1;rw[uq HS0]at T1;refine T1.mono ?_;clear T1;rintro e w4 ⟨rfl,hp,hf⟩;have HP4:=hide hp;have HF4:=hide ((uq HF3).trans hf);have HG4:=hide (hN.fb _ _ (uq HG3) hf);have HX4:=hide (zjg (uq HX3) (uq HBP) hf);clear hp hf)
 try go_wp2_with fail
 refine hK.out _ _ ?_ (fun hHeld=>?_)
 ·exact zaK (uq HX4)
 clear hK K;try simp only[Act.put,Ya,Yb,Yc]
 refine wpAnyH_done (by kernel_rfl) ?_ _;clear hHeld;go_wp2_with fail
 refine wp_region_held_drew (S:=fun w'=>w'.cell? ⟨hb,0,none⟩=some (.string S)∧w'.cell? ⟨hb,1,none⟩=some (.int .i64 v1)∧w'.cell? ⟨hb,2,none⟩=some (.int .i64 v2)∧w'.cell? ⟨hb,3,none⟩=some (.int .i64 v3)∧w'.cell? ⟨hb,4,none⟩=some (.int .i64 v4)∧w'.cell? ⟨hb,5,none⟩=some (.int .i64 v5)∧w'.cell? ⟨hb,6,none⟩=some (.int .i64 v6)∧w'.cell? ⟨hb,7,none⟩=some (.int .i64 v7)∧w'.cell? ⟨hb,8,none⟩=some (.int .i64 v8)∧w'.cell? ⟨hb,9,none⟩=some (.int .i64 v9)∧w'.cell? ⟨hb,10,none⟩=some (.int .i64 v10)) (by kernel_rfl) (by exact zaK (uq HX4)) (fun hHeld=>?_);refine tkk 0 15 hHeld ?_;try simp only[Act.put,Ya,Yb,Yc]
 refine tkk 1 16 hHeld ?_;try simp only[Act.put,Ya,Yb,Yc]
 refine tkk 2 17 hHeld ?_;try simp only[Act.put,Ya,Yb,Yc]
 refine tkk 3 18 hHeld ?_;try simp only[Act.put,Ya,Yb,Yc]
 refine tkk 5 20 hHeld ?_;try simp only[Act.put,Ya,Yb,Yc]
 refine tkk 6 21 hHeld ?_;try simp only[Act.put,Ya,Yb,Yc]
 refine tkk 7 22 hHeld ?_;try simp only[Act.put,Ya,Yb,Yc]
 have HP5:=hide ((uq HP4).keep (Keep.refl w4).drew);have HF5:=hide ((uq HF4).trans (Fb.keep (Keep.refl w4).drew));have HG5:=hide (hN.keep _ _ (uq HG4) (Keep.refl w4).drew);have HX5:=hide (za8 (uq HX4) (Keep.refl w4).drew);generalize w4.drew=w5 at HP5 HF5 HG5 HX5 ⊢;refine zaC 4 (fun K hK=>?_);go_simp;clear hHeld;(refine(hN.num v3 _ (uq Rv3).1 (uq Rv3).2 (uq HG5)).mono ?_;rintro e w6 ⟨rfl,hk⟩;have HP6:=hide ((uq HP5).keep hk);have HF6:=hide ((uq HF5).trans (Fb.keep hk));have HG6:=hide (hN.keep _ _ (uq HG5) hk);have HX6:=hide (za8 (uq HX5) hk);clear hk);try go_wp2_with fail
 refine hK.out _ _ ?_ (fun hHeld=>?_)
 ·exact zaK (uq HX6)
 clear hK K;try simp only[Act.put,Ya,Yb,Yc]
 refine zaC 8 (fun K hK=>?_);go_simp;clear hHeld;(refine(hN.num v4 _ (uq Rv4).1 (uq Rv4).2 (uq HG6)).mono ?_;rintro e w7 ⟨rfl,hk⟩;have HP7:=hide ((uq HP6).keep hk);have HF7:=hide ((uq HF6).trans (Fb.keep hk));have HG7:=hide (hN.keep _ _ (uq HG6) hk);have HX7:=hide (za8 (uq HX6) hk);clear hk);try go_wp2_with fail
 refine hK.out _ _ ?_ (fun hHeld=>?_)
 ·exact zaK (uq HX7)
 clear hK K;try simp only[Act.put,Ya,Yb,Yc]
 refine zaC 9 (fun K hK=>?_);go_simp;clear hHeld;refine hK.out _ _ ?_ (fun hHeld=>?_)
 ·exact zaK (za8 (uq HX7) ((Keep.refl w7).alloc _))
 clear hK K;try simp only[Act.put,Ya,Yb,Yc]
 refine zaC 10 (fun K hK=>?_);go_simp;clear hHeld
 (have T1:=zaU (W:=w7) [[117,115,101],dg v3,[47],dg v4] rfl (uq HP7) (by simp) (uq HO2) (uq HL2);simp only[wc,List.map_cons,List.map_nil]at T1;refine T1.mono ?_;clear T1;rintro e w8 ⟨rfl,hp,hf⟩;have HP8:=hide hp;have HF8:=hide ((uq HF7).trans hf);have HG8:=hide (hN.fb _ _ (uq HG7) hf);have HX8:=hide (zjg (uq HX7) (uq HBP) hf);clear hp hf)
 try go_wp2_with fail
 refine hK.out _ _ ?_ (fun hHeld=>?_)
 ·exact zaK (uq HX8)
 clear hK K;try simp only[Act.put,Ya,Yb,Yc]
 refine wpAnyH_done (by kernel_rfl) ?_ _;clear hHeld;go_wp2_with fail
 refine wp_region_held_drew (S:=fun w'=>w'.cell? ⟨hb,0,none⟩=some (.string S)∧w'.cell? ⟨hb,1,none⟩=some (.int .i64 v1)∧w'.cell? ⟨hb,2,none⟩=some (.int .i64 v2)∧w'.cell? ⟨hb,3,none⟩=some (.int .i64 v3)∧w'.cell? ⟨hb,4,none⟩=some (.int .i64 v4)∧w'.cell? ⟨hb,5,none⟩=some (.int .i64 v5)∧w'.cell? ⟨hb,6,none⟩=some (.int .i64 v6)∧w'.cell? ⟨hb,7,none⟩=some (.int .i64 v7)∧w'.cell? ⟨hb,8,none⟩=some (.int .i64 v8)∧w'.cell? ⟨hb,9,none⟩=some (.int .i64 v9)∧w'.cell? ⟨hb,10,none⟩=some (.int .i64 v10)) (by kernel_rfl) (by exact zaK (uq HX8)) (fun hHeld=>?_);refine tkk 0 26 hHeld ?_;try simp only[Act.put,Ya,Yb,Yc]
 refine tkk 1 27 hHeld ?_;try simp only[Act.put,Ya,Yb,Yc]
 refine tkk 2 28 hHeld ?_;try simp only[Act.put,Ya,Yb,Yc]
 refine tkk 4 30 hHeld ?_;try simp only[Act.put,Ya,Yb,Yc]
 refine tkk 5 31 hHeld ?_;try simp only[Act.put,Ya,Yb,Yc]
 have HP9:=hide ((uq HP8).keep (Keep.refl w8).drew);have HF9:=hide ((uq HF8).trans (Fb.keep (Keep.refl w8).drew));have HG9:=hide (hN.keep _ _ (uq HG8) (Keep.refl w8).drew);have HX9:=hide (za8 (uq HX8) (Keep.refl w8).drew);generalize w8.drew=w9 at HP9 HF9 HG9 HX9 ⊢;refine zaC 3 (fun K hK=>?_);go_simp;clear hHeld;(refine(hN.num v5 _ (uq Rv5).1 (uq Rv5).2 (uq HG9)).mono ?_;rintro e w10 ⟨rfl,hk⟩;have HP10:=hide ((uq HP9).keep hk);have HF10:=hide ((uq HF9).trans (Fb.keep hk));have HG10:=hide (hN.keep _ _ (uq HG9) hk);have HX10:=hide (za8 (uq HX9) hk);clear hk);try go_wp2_with fail
 refine hK.out _ _ ?_ (fun hHeld=>?_)
 ·exact zaK (uq HX10)
 clear hK K;try simp only[Act.put,Ya,Yb,Yc]
 refine zaC 6 (fun K hK=>?_);go_simp;clear hHeld;(refine(hN.num v6 _ (uq Rv6).1 (uq Rv6).2 (uq HG10)).mono ?_;rintro e w11 ⟨rfl,hk⟩;have HP11:=hide ((uq HP10).keep hk);have HF11:=hide ((uq HF10).trans (Fb.keep hk));have HG11:=hide (hN.keep _ _ (uq HG10) hk);have HX11:=hide (za8 (uq HX10) hk);clear hk);try go_wp2_with fail
 refine hK.out _ _ ?_ (fun hHeld=>?_)
 ·exact zaK (uq HX11)
 clear hK K;try simp only[Act.put,Ya,Yb,Yc]
 refine zaC 7 (fun K hK=>?_);go_simp;clear hHeld;refine hK.out _ _ ?_ (fun hHeld=>?_)
 ·exact zaK (za8 (uq HX11) ((Keep.refl w11).alloc _))
 clear hK K;try simp only[Act.put,Ya,Yb,Yc]
 refine zaC 8 (fun K hK=>?_);go_simp;clear hHeld
 (have T1:=zaU (W:=w11) [[115,112,101,101,100],dg v5,[103,114,97,100,101],dg v6] rfl (uq HP11) (by simp) (uq HO3) (uq HL3);simp only[wc,List.map_cons,List.map_nil]at T1;refine T1.mono ?_;clear T1;rintro e w12 ⟨rfl,hp,hf⟩;have HP12:=hide hp;have HF12:=hide ((uq HF11).trans hf);have HG12:=hide (hN.fb _ _ (uq HG11) hf);have HX12:=hide (zjg (uq HX11) (uq HBP) hf);clear hp hf)
 try go_wp2_with fail
 refine hK.out _ _ ?_ (fun hHeld=>?_)
 ·exact zaK (uq HX12)
 clear hK K;try simp only[Act.put,Ya,Yb,Yc]
 refine wpAnyH_done (by kernel_rfl) ?_ _;clear hHeld;go_wp2_with fail
 refine wp_region_held_drew (S:=fun w'=>w'.cell? ⟨hb,0,none⟩=some (.string S)∧w'.cell? ⟨hb,1,none⟩=some (.int .i64 v1)∧w'.cell? ⟨hb,2,none⟩=some (.int .i64 v2)∧w'.cell? ⟨hb,3,none⟩=some (.int .i64 v3)∧w'.cell? ⟨hb,4,none⟩=some (.int .i64 v4)∧w'.cell? ⟨hb,5,none⟩=some (.int .i64 v5)∧w'.cell? ⟨hb,6,none⟩=some (.int .i64 v6)∧w'.cell? ⟨hb,7,none⟩=some (.int .i64 v7)∧w'.cell? ⟨hb,8,none⟩=some (.int .i64 v8)∧w'.cell? ⟨hb,9,none⟩=some (.int .i64 v9)∧w'.cell? ⟨hb,10,none⟩=some (.int .i64 v10)) (by kernel_rfl) (by exact zaK (uq HX12)) (fun hHeld=>?_);refine tkk 0 35 hHeld ?_;try simp only[Act.put,Ya,Yb,Yc]
 refine tkk 1 36 hHeld ?_;try simp only[Act.put,Ya,Yb,Yc]
 refine tkk 2 37 hHeld ?_;try simp only[Act.put,Ya,Yb,Yc]
 refine tkk 4 39 hHeld ?_;try simp only[Act.put,Ya,Yb,Yc]
 refine tkk 5 40 hHeld ?_;try simp only[Act.put,Ya,Yb,Yc]
 refine tkk 7 42 hHeld ?_;try simp only[Act.put,Ya,Yb,Yc]
 refine tkk 8 43 hHeld ?_;try simp only[Act.put,Ya,Yb,Yc]
 have HP13:=hide ((uq HP12).keep (Keep.refl w12).drew);have HF13:=hide ((uq HF12).trans (Fb.keep (Keep.refl w12).drew));have HG13:=hide (hN.keep _ _ (uq HG12) (Keep.refl w12).drew);have HX13:=hide (za8 (uq HX12) (Keep.refl w12).drew);generalize w12.drew=w13 at HP13 HF13 HG13 HX13 ⊢;refine zaC 3 (fun K hK=>?_);go_simp;clear hHeld;(refine(hN.num v7 _ (uq Rv7).1 (uq Rv7).2 (uq HG13)).mono ?_;rintro e w14 ⟨rfl,hk⟩;have HP14:=hide ((uq HP13).keep hk);have HF14:=hide ((uq HF13).trans (Fb.keep hk));have HG14:=hide (hN.keep _ _ (uq HG13) hk);have HX14:=hide (za8 (uq HX13) hk);clear hk);try go_wp2_with fail
 refine hK.out _ _ ?_ (fun hHeld=>?_)
 ·exact zaK (uq HX14)
 clear hK K;try simp only[Act.put,Ya,Yb,Yc]
 refine zaC 6 (fun K hK=>?_);go_simp;clear hHeld;(refine(hN.num v8 _ (uq Rv8).1 (uq Rv8).2 (uq HG14)).mono ?_;rintro e w15 ⟨rfl,hk⟩;have HP15:=hide ((uq HP14).keep hk);have HF15:=hide ((uq HF14).trans (Fb.keep hk));have HG15:=hide (hN.keep _ _ (uq HG14) hk);have HX15:=hide (za8 (uq HX14) hk);clear hk);try go_wp2_with fail
 refine hK.out _ _ ?_ (fun hHeld=>?_)
 ·exact zaK (uq HX15)
 clear hK K;try simp only[Act.put,Ya,Yb,Yc]
 refine zaC 9 (fun K hK=>?_);go_simp;clear hHeld;(refine(hN.num v9 _ (uq Rv9).1 (uq Rv9).2 (uq HG15)).mono ?_;rintro e w16 ⟨rfl,hk⟩;have HP16:=hide ((uq HP15).keep hk);have HF16:=hide ((uq HF15).trans (Fb.keep hk));have HG16:=hide (hN.keep _ _ (uq HG15) hk);have HX16:=hide (za8 (uq HX15) hk);clear hk);try go_wp2_with fail
 refine hK.out _ _ ?_ (fun hHeld=>?_)
 ·exact zaK (uq HX16)
 clear hK K;try simp only[Act.put,Ya,Yb,Yc]
 refine zaC 10 (fun K hK=>?_);go_simp;clear hHeld;refine hK.out _ _ ?_ (fun hHeld=>?_)
 ·exact zaK (za8 (uq HX16) ((Keep.refl w16).alloc _))
 clear hK K;try simp only[Act.put,Ya,Yb,Yc]
 refine zaC 11 (fun K hK=>?_);go_simp;clear hHeld
 (have T1:=zaU (W:=w16) [[119,105,100,116,104],dg v7,[108,101,110,103,116,104],dg v8,[103,114,101,101,110],dg v9,[59]] rfl (uq HP16) (by simp) (uq HO4) (uq HL4);simp only[wc,List.map_cons,List.map_nil]at T1;refine T1.mono ?_;clear T1;rintro e w17 ⟨rfl,hp,hf⟩;have HP17:=hide hp;have HF17:=hide ((uq HF16).trans hf);have HG17:=hide (hN.fb _ _ (uq HG16) hf);have HX17:=hide (zjg (uq HX16) (uq HBP) hf);clear hp hf)
 try go_wp2_with fail
 refine hK.out _ _ ?_ (fun hHeld=>?_)
 ·exact zaK (uq HX17)
 clear hK K;try simp only[Act.put,Ya,Yb,Yc]
 refine wpAnyH_done (by kernel_rfl) ?_ _;clear hHeld;go_wp2_with fail
 go_end0
 have h9:=uq HP17;rw[uq HFZ]at h9;exact⟨rfl,h9,uq HF17⟩
end S
namespace S
def rw1 (f:Bool) (l:List (List UInt8)):List (List UInt8):= [[114,105,110,103]]++((if f then [[102,114,101,101]]else [])++lw l)
def gw (n:Nat) (F:Nat→Bool) (NW:Nat→List (List UInt8)):List (List UInt8):= [[103,114,111,117,112],[123]]++((List.range n).flatMap (fun k=>rw1 (F k) (NW k))++ [[125]])
theorem zbn {α:Type} (n k:Nat) (h:k<n) (f:Nat→List α):((List.range n).drop k).flatMap f=f k++((List.range n).drop (k+1)).flatMap f:=by
 rw[List.drop_eq_getElem_cons (by simpa using h),List.flatMap_cons];simp
theorem zbV {α:Type} (n k:Nat) (h:¬k<n) (f:Nat→List α):((List.range n).drop k).flatMap f= []:=by
 rw[List.drop_eq_nil_of_le (by simp;omega)];rfl
theorem zmt (st:St):pss st []=st:=rfl
def LsT (p:Nat) (w:World) (a:Option Addr) (n c:Nat) (nw:List (List UInt8)):Prop:=∀ w' s,Fb p w w'→Ps w' p s→oks s (lw nw)→s.out.length+zbi (lw nw)≤1000000000→Calls Tryz.prog 83 #[.pointer (some ⟨p,0,none⟩),.slice a n c] w' fun e w''=>e= .returned (.tuple #[])∧Ps w'' p (pss s (lw nw))∧Fb p w' w''
set_option maxHeartbeats 16000000 in
theorem zgh (p:Nat) (a:Option Addr) (n cap:Nat) (F:Nat→Bool) (A:Nat→Option Addr) (N C:Nat→Nat) (NW:Nat→List (List UInt8)) (st:St) (w:World) (hn:n≤1000)
  (HC:Hid (∀ k,k<n→∃ ad,a=some ad∧ad.block<p∧w.cell? (ad.add (k * 2))=some (.bool (F k))∧w.cell? ⟨(ad.add (k * 2)).block,(ad.add (k * 2)).off+1,none⟩=some (.slice (A k) (N k) (C k))))
  (T:Hid (∀ k,k<n→LsT p w (A k) (N k) (C k) (NW k)))
  (HP:Hid (Ps w p st)) (HO:Hid (oks st (gw n F NW))) (HL:Hid (st.out.length+zbi (gw n F NW)≤1000000000)):
  Calls Tryz.prog 84 #[.pointer (some ⟨p,0,none⟩),.agg #[.slice a n cap]] w fun e w'=>e= .returned (.tuple #[])∧Ps w' p (pss st (gw n F NW))∧Fb p w w':=by
 obtain⟨fin,HFin⟩:∃ fin,Hid (pss st (gw n F NW)=fin):=⟨_,rfl⟩;rw[uq HFin];obtain⟨mid,HM⟩:∃ mid,Hid ((List.range n).flatMap (fun k=>rw1 (F k) (NW k))++ [[125]]=mid):=⟨_,hide rfl⟩;have HGW:Hid (gw n F NW= [[103,114,111,117,112],[123]]++mid):=hide (by rw[← uq HM];rfl);rw[uq HGW]at HO HL HFin;have HO0:=hide ((zaq _ _ _).1 (uq HO));rw[zah]at HL;rw[← zas]at HFin;have HPL:=hide (Pr.lt (uq HP));clear HO HGW;have HW0:Hid (Fb p w (w.alloc (.cells #[.slice a n cap] 91))):=hide (Fb.keep ((Keep.refl w).alloc _));have HP0:=hide ((uq HP).keep ((Keep.refl w).alloc (.cells #[.slice a n cap] 91)));have HB0:=hide (heap_alloc_new w (.cells #[.slice a n cap] 91));go_enter Tryz.func84,Tryz.ntmps84
 go_upto_region 1 with fail
 generalize w.alloc (.cells #[.slice a n cap] 91)=w0 at HW0 HP0 HB0 ⊢;obtain⟨gb,HGb⟩:∃ gb,Hid (w.heap.size=gb):=⟨_,rfl⟩;rw[uq HGb]at HB0 ⊢;go_wp2_with fail
 (have T1:=zaU (W:=w0) [[103,114,111,117,112],[123]] rfl (uq HP0) (by simp) (uq HO0).1 (by have:=uq HL;omega);simp only[wc,List.map_cons,List.map_nil]at T1;refine T1.mono ?_;clear T1;rintro e w1 ⟨rfl,hp,hf⟩;have HP1:=hide hp;have HF1:=hide ((uq HW0).trans hf);have HB1:=hide (hf.words (uq HB0) (by decide) (by have:=uq HPL;have:=uq HGb;omega));clear hp hf)
 have cg:w1.cell? ⟨gb,0,none⟩=some (.slice a n cap):=by simp[World.cell?,uq HB1]
 go_wp2_with fail
 clear cg
 go_loopw [12] (fun vi wr=>∃(k:Nat) (s:St),k≤n∧vi= .int .i64 (k:Int)∧Hid (Ps wr p s)∧Hid (oks s (((List.range n).drop k).flatMap (fun k=>rw1 (F k) (NW k))++ [[125]]))∧Hid (pss s (((List.range n).drop k).flatMap (fun k=>rw1 (F k) (NW k))++ [[125]])=fin)∧Hid (s.out.length+zbi (((List.range n).drop k).flatMap (fun k=>rw1 (F k) (NW k))++ [[125]])≤1000000000)∧Hid (Fb p w wr)) (fun vi wr=>n - (intOf vi).toNat)
 case atStart=>
  refine⟨0,_,Nat.zero_le _,rfl,HP1,hide ?_,hide ?_,hide ?_,HF1⟩
  ·rw[List.drop_zero,uq HM];exact(uq HO0).2
  ·rw[List.drop_zero,uq HM];exact uq HFin
  ·rw[List.drop_zero,uq HM];have:=zaO _ _ (uq HO0).1;have:=uq HL;omega
 case round=>
  obtain⟨k,s,hk,rfl,HPk,HOk,HEk,HLk,HFk⟩:=hrel;by_cases hlt:k<n
  ·have li:(k:Int)<(n:Int):=by omega
   obtain⟨rst,HRst⟩:∃ rst,Hid (((List.range n).drop (k+1)).flatMap (fun k=>rw1 (F k) (NW k))++ [[125]]=rst):=⟨_,hide rfl⟩;have hd:((List.range n).drop k).flatMap (fun k=>rw1 (F k) (NW k))++ [[125]]= [[114,105,110,103]]++((if F k then [[102,114,101,101]]else [])++(lw (NW k)++rst)):=by
    rw[zbn n k hlt,List.append_assoc,uq HRst];simp only[rw1,List.append_assoc]
   rw[hd]at HOk HEk HLk;rw[zaq,zaq,zaq]at HOk;rw[zah,zah,zah]at HLk;rw[← zas,← zas,← zas]at HEk;have l1:=hide (zaO _ _ (uq HOk).1);have l2:=hide (zaO _ _ (uq HOk).2.1);have l3:=hide (zaO _ _ (uq HOk).2.2.1);obtain⟨ad,ea,hadp,e0,e1⟩:=(uq HC) k hlt;subst ea;have c0:=zaj (uq HFk) e0 (by rw[zae];exact hadp);have c1:=zaj (uq HFk) e1 (by show(ad.add (k * 2)).block<p;rw[zae];exact hadp);have HTk:=hide ((uq T) k hlt);have HE1:=HEk;clear hd e0 e1 hadp HEk;have HPk1:=hide ((uq HPk).keep ((Keep.refl wr).alloc (.cells #[.bool (F k),.slice (A k) (N k) (C k)] 93)));have HFk1:Hid (Fb p w (wr.alloc (.cells #[.bool (F k),.slice (A k) (N k) (C k)] 93))):=hide ((uq HFk).trans (Fb.keep ((Keep.refl wr).alloc _)));have HBk:=hide (heap_alloc_new wr (.cells #[.bool (F k),.slice (A k) (N k) (C k)] 93));have HNp:Hid (wr.heap.size≠p):=hide (by have:=Pr.lt (uq HPk);omega);obtain⟨fk,HFK⟩:∃ fk,Hid (F k=fk):=⟨_,rfl⟩;obtain⟨nwk,HNW⟩:∃ nwk,Hid (NW k=nwk):=⟨_,rfl⟩;rw[uq HFK]at HOk HLk HE1 l2 l3 c0 HPk1 HFk1 HBk;rw[uq HNW]at HOk HLk HE1 l3 HTk;generalize A k=x1 at c1 HPk1 HFk1 HBk HTk;generalize N k=x2 at c1 HPk1 HFk1 HBk HTk;generalize C k=x3 at c1 HPk1 HFk1 HBk HTk
   go_upto_region 5 with fail
   generalize wr.alloc (.cells #[.bool fk,.slice x1 x2 x3] 93)=w2 at HPk1 HFk1 HBk ⊢;generalize wr.heap.size=qb at HBk HNp ⊢;clear c0 c1;go_wp2_with fail
   (have T1:=zaU (W:=w2) [[114,105,110,103]] rfl (uq HPk1) (by simp) (uq HOk).1 (by have:=uq HLk;omega);simp only[wc,List.map_cons,List.map_nil]at T1;refine T1.mono ?_;clear T1;rintro e w3 ⟨rfl,hp,hf⟩;have HP3:=hide hp;have HF3:=hide ((uq HFk1).trans hf);have HB3:=hide (hf.words (uq HBk) (by decide) (uq HNp));clear hp hf)
   have d0:w3.cell? ⟨qb,0,none⟩=some (.bool fk):=by simp[World.cell?,uq HB3]
   have d1:w3.cell? ⟨qb,1,none⟩=some (.slice x1 x2 x3):=by simp[World.cell?,uq HB3]
   cases fk with
   |true=>
    go_wp2_with fail
    (have T1:=zaU (W:=w3) [[102,114,101,101]] rfl (uq HP3) (by simp) (uq HOk).2.1 (by have:=uq HLk;have:=uq l1;simp only[if_true]at *;omega);simp only[wc,List.map_cons,List.map_nil]at T1;refine T1.mono ?_;clear T1;rintro e w4 ⟨rfl,hp,hf⟩;have HP4:=hide hp;have HF4:=hide ((uq HF3).trans hf);have HB4:=hide (hf.words (uq HB3) (by decide) (uq HNp));clear hp hf)
    clear d0 d1;have d1:w4.cell? ⟨qb,1,none⟩=some (.slice x1 x2 x3):=by simp[World.cell?,uq HB4]
    go_wp2_with fail
    (refine((uq HTk) w4 _ (uq HF4) (uq HP4) (uq HOk).2.2.1 (by have:=uq HLk;have:=uq l1;have:=uq l2;simp only[if_true]at *;omega)).mono ?_;rintro e w5 ⟨rfl,hp,hf⟩;have HP5:=hide hp;have HF5:=hide ((uq HF4).trans hf);clear hp hf);clear d1;go_wp2_with fail
    go_roundw
    case rel=>
     refine⟨k+1,_,hlt,by go_num,HP5,hide ?_,hide ?_,hide ?_,HF5⟩
     ·rw[uq HRst];exact(uq HOk).2.2.2
     ·rw[uq HRst];exact uq HE1
     ·rw[uq HRst];have:=uq HLk;have:=uq l1;have:=uq l2;have:=uq l3;simp only[if_true]at *;omega
    case measure=>simp[intOf];omega
   |false=>
    go_wp2_with fail
    (refine((uq HTk) w3 _ (uq HF3) (uq HP3) (uq HOk).2.2.1 (by have:=uq HLk;have:=uq l1;have:=uq l2;simp only[Bool.false_eq_true,if_false]at *;omega)).mono ?_;rintro e w5 ⟨rfl,hp,hf⟩;have HP5:=hide hp;have HF5:=hide ((uq HF3).trans hf);clear hp hf);clear d0 d1;go_wp2_with fail
    go_roundw
    case rel=>
     refine⟨k+1,_,hlt,by go_num,HP5,hide ?_,hide ?_,hide ?_,HF5⟩
     ·rw[uq HRst];exact(uq HOk).2.2.2
     ·rw[uq HRst];exact uq HE1
     ·rw[uq HRst];have:=uq HLk;have:=uq l1;have:=uq l2;have:=uq l3;simp only[Bool.false_eq_true,if_false,zmt]at *;omega
    case measure=>simp[intOf];omega
  ·rw[zbV n k hlt,List.nil_append]at HOk HEk HLk;go_wp2_with fail
   (have T1:=zaU (W:=wr) [[125]] rfl (uq HPk) (by simp) (uq HOk) (uq HLk);simp only[wc,List.map_cons,List.map_nil]at T1;refine T1.mono ?_;clear T1;rintro e w2 ⟨rfl,hp,hf⟩;have HP2:=hide hp;have HF2:=hide ((uq HFk).trans hf);clear hp hf)
   go_wp2_with fail
   go_end0
   have h9:=uq HP2;rw[uq HEk]at h9;exact⟨rfl,h9,uq HF2⟩
end S
end Go.Proofs.YtfepanidippjlaaGreatDoor
