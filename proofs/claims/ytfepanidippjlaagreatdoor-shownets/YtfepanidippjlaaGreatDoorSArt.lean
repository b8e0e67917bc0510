/- Package show: the lines of the artery. -/
import Derived.Test.YtfepanidippjlaaGreatDoorSGrp
import Derived.Test.YtfepanidippjlaaGreatDoorLEnd
import Derived.Deep.DrawnRows
import Derived.Deep.RegionHeld
namespace Go.Proofs.YtfepanidippjlaaGreatDoor
open Go.RowKit
attribute [local go_sem ↓] Go.wp_at_zero Go.wp_at_succ
set_option linter.unusedVariables false
set_option linter.unusedSimpArgs false
set_option maxRecDepth 10000
namespace S
def aw (n6:Nat) (S0 S1 S2:Nat→List UInt8) (V3 V4:Nat→Int) (v7 v8:Int):List (List UInt8):= [[97,114,116,101,114,121],[123]]++((List.range n6).flatMap (fun k=> [[115,116,111,112],S0 k,[111,117,116],S1 k,[105,110],S2 k,[97,104,101,97,100],dg (V3 k),[98,97,99,107],dg (V4 k),[59]])++([[119,101,105,103,104,116,115],dg v7,dg v8,[59]]++ [[125]]))
set_option maxHeartbeats 32000000 in
theorem zfh (p:Nat) (v0 v1 v2 v3 v4:Int) (a5:Option Addr) (n5 c5:Nat) (a6:Option Addr) (n6 c6:Nat) (v7 v8:Int) (S0 S1 S2:Nat→List UInt8) (V3 V4 V5:Nat→Int) (st:St) (w:World) (G:World→Prop) (hN:Nc p G) (h6:n6≤1000)
  (HC:Hid (∀ k,k<n6→∃ ad,a6=some ad∧ad.block<p∧w.cell? (ad.add (k * 6))=some (.string (sv (S0 k)))∧w.cell? ⟨(ad.add (k * 6)).block,(ad.add (k * 6)).off+1,none⟩=some (.string (sv (S1 k)))∧w.cell? ⟨(ad.add (k * 6)).block,(ad.add (k * 6)).off+2,none⟩=some (.string (sv (S2 k)))∧w.cell? ⟨(ad.add (k * 6)).block,(ad.add (k * 6)).off+3,none⟩=some (.int .i64 (V3 k))∧w.cell? ⟨(ad.add (k * 6)).block,(ad.add (k * 6)).off+4,none⟩=some (.int .i64 (V4 k))∧w.cell? ⟨(ad.add (k * 6)).block,(ad.add (k * 6)).off+5,none⟩=some (.int .i64 (V5 k))))
  (RR:Hid (∀ k,k<n6→(-999999999999999999≤V3 k∧V3 k≤999999999999999999)∧(-999999999999999999≤V4 k∧V4 k≤999999999999999999))) (R7:Hid (-999999999999999999≤v7∧v7≤999999999999999999)) (R8:Hid (-999999999999999999≤v8∧v8≤999999999999999999))
  (HP:Hid (Ps w p st)) (HG:Hid (G w)) (HO:Hid (oks st (aw n6 S0 S1 S2 V3 V4 v7 v8))) (HL:Hid (st.out.length+zbi (aw n6 S0 S1 S2 V3 V4 v7 v8)≤1000000000)):
  Calls Tryz.prog 44 #[.pointer (some ⟨p,0,none⟩),.agg #[.int .i64 v0,.int .i64 v1,.int .i64 v2,.int .i64 v3,.int .i64 v4,.slice a5 n5 c5,.slice a6 n6 c6,.int .i64 v7,.int .i64 v8]] w fun e w'=>e= .returned (.tuple #[])∧Ps w' p (pss st (aw n6 S0 S1 S2 V3 V4 v7 v8))∧Fb p w w':=by
 obtain⟨fin,HFin⟩:∃ fin,Hid (pss st (aw n6 S0 S1 S2 V3 V4 v7 v8)=fin):=⟨_,hide rfl⟩;rw[uq HFin];unfold aw at HO HL HFin
 obtain⟨t6,HT6⟩:∃ t,Hid (([[119,101,105,103,104,116,115],dg v7,dg v8,[59]]++ [[125]]:List (List UInt8))=t):=⟨_,hide rfl⟩;rw[uq HT6]at HO HL HFin;obtain⟨t0,HT0⟩:∃ t,Hid ((List.range n6).flatMap (fun k=> [[115,116,111,112],S0 k,[111,117,116],S1 k,[105,110],S2 k,[97,104,101,97,100],dg (V3 k),[98,97,99,107],dg (V4 k),[59]])++t6=t):=⟨_,hide rfl⟩;rw[uq HT0]at HO HL HFin;rw[zaq]at HO;rw[zah]at HL;rw[← zas]at HFin;have HPL:=hide (Pr.lt (uq HP));have HF0:Hid (Fb p w (w.alloc (.cells #[.int .i64 v0,.int .i64 v1,.int .i64 v2,.int .i64 v3,.int .i64 v4,.slice a5 n5 c5,.slice a6 n6 c6,.int .i64 v7,.int .i64 v8] 27))):=hide (Fb.keep ((Keep.refl w).alloc _));have HP0:=hide ((uq HP).keep ((Keep.refl w).alloc (.cells #[.int .i64 v0,.int .i64 v1,.int .i64 v2,.int .i64 v3,.int .i64 v4,.slice a5 n5 c5,.slice a6 n6 c6,.int .i64 v7,.int .i64 v8] 27)));have HG0:=hide (hN.keep _ _ (uq HG) ((Keep.refl w).alloc (.cells #[.int .i64 v0,.int .i64 v1,.int .i64 v2,.int .i64 v3,.int .i64 v4,.slice a5 n5 c5,.slice a6 n6 c6,.int .i64 v7,.int .i64 v8] 27)));have HB0:=hide (heap_alloc_new w (.cells #[.int .i64 v0,.int .i64 v1,.int .i64 v2,.int .i64 v3,.int .i64 v4,.slice a5 n5 c5,.slice a6 n6 c6,.int .i64 v7,.int .i64 v8] 27));go_enter Tryz.func44,Tryz.ntmps44
 go_upto_region 1 with fail
 generalize w.alloc (.cells #[.int .i64 v0,.int .i64 v1,.int .i64 v2,.int .i64 v3,.int .i64 v4,.slice a5 n5 c5,.slice a6 n6 c6,.int .i64 v7,.int .i64 v8] 27)=w0 at HF0 HP0 HG0 HB0 ⊢;obtain⟨gb,HGb⟩:∃ gb,Hid (w.heap.size=gb):=⟨_,rfl⟩;rw[uq HGb]at HB0 ⊢;have HGP:Hid (gb≠p):=hide (by have:=uq HPL;have:=uq HGb;omega);go_wp2_with fail
 (have T9:=zaU (W:=w0) [[97,114,116,101,114,121],[123]] rfl (uq HP0) (by simp) (uq HO).1 (by have:=uq HL;omega);simp only[wc,List.map_cons,List.map_nil]at T9;refine T9.mono ?_;clear T9;rintro e w1 ⟨rfl,hp,hf⟩;have HP1:=hide hp;have HF1:=hide ((uq HF0).trans hf);have HG1:=hide (hN.fb _ _ (uq HG0) hf);have HB1:=hide (hf.words (uq HB0) (by decide) (uq HGP));clear hp hf)
 have HO1:=hide (uq HO).2;have HE1:=HFin;have HL1:Hid ((pss st [[97,114,116,101,114,121],[123]]).out.length+zbi t0≤1000000000):=hide (by have:=zaO _ _ (uq HO).1;have:=uq HL;omega);obtain⟨s1,HS1⟩:∃ s1,Hid (pss st [[97,114,116,101,114,121],[123]]=s1):=⟨_,rfl⟩;rw[uq HS1]at HO1 HE1 HL1 HP1;clear HO HL HFin HS1;have cg:w1.cell? ⟨gb,6,none⟩=some (.slice a6 n6 c6):=by simp[World.cell?,uq HB1]
 go_wp2_with fail
 clear cg;rw[← uq HT0]at HO1 HE1 HL1
 go_loopw [12] (fun vi wr=>∃(k:Nat) (s:St),k≤n6∧vi= .int .i64 (k:Int)∧Hid (Ps wr p s)∧Hid (G wr)∧Hid (oks s (((List.range n6).drop k).flatMap (fun k=> [[115,116,111,112],S0 k,[111,117,116],S1 k,[105,110],S2 k,[97,104,101,97,100],dg (V3 k),[98,97,99,107],dg (V4 k),[59]])++t6))∧Hid (pss s (((List.range n6).drop k).flatMap (fun k=> [[115,116,111,112],S0 k,[111,117,116],S1 k,[105,110],S2 k,[97,104,101,97,100],dg (V3 k),[98,97,99,107],dg (V4 k),[59]])++t6)=fin)∧Hid (s.out.length+zbi (((List.range n6).drop k).flatMap (fun k=> [[115,116,111,112],S0 k,[111,117,116],S1 k,[105,110],S2 k,[97,104,101,97,100],dg (V3 k),[98,97,99,107],dg (V4 k),[59]])++t6)≤1000000000)∧Hid (Fb p w wr)∧Hid (wr.heap[gb]? =some (.cells #[.int .i64 v0,.int .i64 v1,.int .i64 v2,.int .i64 v3,.int .i64 v4,.slice a5 n5 c5,.slice a6 n6 c6,.int .i64 v7,.int .i64 v8] 27 (0,0)))) (fun vi wr=>n6 - (intOf vi).toNat)
 case atStart=>exact⟨0,s1,Nat.zero_le _,rfl,HP1,HG1,hide (by rw[List.drop_zero];exact uq HO1),hide (by rw[List.drop_zero];exact uq HE1),hide (by rw[List.drop_zero];exact uq HL1),HF1,HB1⟩
 case round=>
  obtain⟨k,s,hk,rfl,HPk,HGk,HOk,HEk,HLk,HFk,HBk⟩:=hrel;by_cases hlt:k<n6
  ·have li:(k:Int)<(n6:Int):=by omega
   rw[zbn n6 k hlt,List.append_assoc]at HOk HEk HLk;obtain⟨rst,HRst⟩:∃ rst,Hid (((List.range n6).drop (k+1)).flatMap (fun k=> [[115,116,111,112],S0 k,[111,117,116],S1 k,[105,110],S2 k,[97,104,101,97,100],dg (V3 k),[98,97,99,107],dg (V4 k),[59]])++t6=rst):=⟨_,hide rfl⟩;rw[uq HRst]at HOk HEk HLk;rw[zaq]at HOk;rw[zah]at HLk;rw[← zas]at HEk;have HLA:=hide (zaO _ _ (uq HOk).1);obtain⟨ad,ea,hadp,e0,e1,e2,e3,e4,e5⟩:=(uq HC) k hlt;subst ea;have x0:=zaj (uq HFk) e0 (by rw[zae];exact hadp);have x1:=zaj (uq HFk) e1 (by show(ad.add (k * 6)).block<p;rw[zae];exact hadp);have x2:=zaj (uq HFk) e2 (by show(ad.add (k * 6)).block<p;rw[zae];exact hadp);have x3:=zaj (uq HFk) e3 (by show(ad.add (k * 6)).block<p;rw[zae];exact hadp);have x4:=zaj (uq HFk) e4 (by show(ad.add (k * 6)).block<p;rw[zae];exact hadp);have x5:=zaj (uq HFk) e5 (by show(ad.add (k * 6)).block<p;rw[zae];exact hadp);clear e0 e1 e2 e3 e4 e5 hadp;have R3:=hide ((uq RR) k hlt).1;have R4:=hide ((uq RR) k hlt).2;obtain⟨Y0,HY0⟩:∃ Y,Hid (sv (S0 k)=Y):=⟨_,rfl⟩;rw[uq HY0]at x0;obtain⟨Y1,HY1⟩:∃ Y,Hid (sv (S1 k)=Y):=⟨_,rfl⟩;rw[uq HY1]at x1;obtain⟨Y2,HY2⟩:∃ Y,Hid (sv (S2 k)=Y):=⟨_,rfl⟩;rw[uq HY2]at x2;have HPa:=hide ((uq HPk).keep ((Keep.refl wr).alloc (.cells #[.string Y0,.string Y1,.string Y2,.int .i64 (V3 k),.int .i64 (V4 k),.int .i64 (V5 k)] 49)));have HGa:=hide (hN.keep _ _ (uq HGk) ((Keep.refl wr).alloc (.cells #[.string Y0,.string Y1,.string Y2,.int .i64 (V3 k),.int .i64 (V4 k),.int .i64 (V5 k)] 49)));have HFa:Hid (Fb p w (wr.alloc (.cells #[.string Y0,.string Y1,.string Y2,.int .i64 (V3 k),.int .i64 (V4 k),.int .i64 (V5 k)] 49))):=hide ((uq HFk).trans (Fb.keep ((Keep.refl wr).alloc _)));have HBa:Hid ((wr.alloc (.cells #[.string Y0,.string Y1,.string Y2,.int .i64 (V3 k),.int .i64 (V4 k),.int .i64 (V5 k)] 49)).heap[gb]? =some (.cells #[.int .i64 v0,.int .i64 v1,.int .i64 v2,.int .i64 v3,.int .i64 v4,.slice a5 n5 c5,.slice (some ad) n6 c6,.int .i64 v7,.int .i64 v8] 27 (0,0))):=hide (by rw[heap_alloc_old _ _ (Array.getElem?_eq_some_iff.1 (uq HBk)).1];exact uq HBk);have HXa:=hide (heap_alloc_new wr (.cells #[.string Y0,.string Y1,.string Y2,.int .i64 (V3 k),.int .i64 (V4 k),.int .i64 (V5 k)] 49));have HNp:Hid (wr.heap.size≠p):=hide (by have:=Pr.lt (uq HPk);omega)
   go_upto_region 5 with fail
   generalize wr.alloc (.cells #[.string Y0,.string Y1,.string Y2,.int .i64 (V3 k),.int .i64 (V4 k),.int .i64 (V5 k)] 49)=wa at HPa HGa HFa HBa HXa ⊢;generalize wr.heap.size=qb at HXa HNp ⊢;clear x0 x1 x2 x3 x4 x5;have HBX:Hid (∀ w':World,w'.heap[qb]? =some (.cells #[.string Y0,.string Y1,.string Y2,.int .i64 (V3 k),.int .i64 (V4 k),.int .i64 (V5 k)] 49 (0,0))→w'.cell? ⟨qb,0,none⟩=some (.string Y0)∧w'.cell? ⟨qb,1,none⟩=some (.string Y1)∧w'.cell? ⟨qb,2,none⟩=some (.string Y2)∧w'.cell? ⟨qb,3,none⟩=some (.int .i64 (V3 k))∧w'.cell? ⟨qb,4,none⟩=some (.int .i64 (V4 k))∧w'.cell? ⟨qb,5,none⟩=some (.int .i64 (V5 k))):=hide (fun w' h=>⟨by simp[World.cell?,h],by simp[World.cell?,h],by simp[World.cell?,h],by simp[World.cell?,h],by simp[World.cell?,h],by simp[World.cell?,h]⟩);refine wp_region_held_drew (S:=fun w'=>w'.cell? ⟨qb,0,none⟩=some (.string Y0)∧w'.cell? ⟨qb,1,none⟩=some (.string Y1)∧w'.cell? ⟨qb,2,none⟩=some (.string Y2)∧w'.cell? ⟨qb,3,none⟩=some (.int .i64 (V3 k))∧w'.cell? ⟨qb,4,none⟩=some (.int .i64 (V4 k))∧w'.cell? ⟨qb,5,none⟩=some (.int .i64 (V5 k))) (by kernel_rfl) (by exact(uq HBX) _ (uq HXa)) (fun hHeld=>?_);refine tkk 0 16 hHeld ?_;try simp only[Act.put,Ya,Yb,Yc]
   refine tkk 1 17 hHeld ?_;try simp only[Act.put,Ya,Yb,Yc]
   refine tkk 2 18 hHeld ?_;try simp only[Act.put,Ya,Yb,Yc]
   refine tkk 3 19 hHeld ?_;try simp only[Act.put,Ya,Yb,Yc]
   refine tkk 4 20 hHeld ?_;try simp only[Act.put,Ya,Yb,Yc]
   refine tkk 5 21 hHeld ?_;try simp only[Act.put,Ya,Yb,Yc]
   refine tkk 6 22 hHeld ?_;try simp only[Act.put,Ya,Yb,Yc]
   refine tkk 7 23 hHeld ?_;try simp only[Act.put,Ya,Yb,Yc]
   refine tkk 8 24 hHeld ?_;try simp only[Act.put,Ya,Yb,Yc]
   refine tkk 10 26 hHeld ?_;try simp only[Act.put,Ya,Yb,Yc]
   refine tkk 11 27 hHeld ?_;try simp only[Act.put,Ya,Yb,Yc]
   have HP_0:=hide ((uq HPa).keep (Keep.refl wa).drew);have HF_0:=hide ((uq HFa).trans (Fb.keep (Keep.refl wa).drew));have HG_0:=hide (hN.keep _ _ (uq HGa) (Keep.refl wa).drew);have HB_0:Hid (wa.drew.heap[gb]? =some (.cells #[.int .i64 v0,.int .i64 v1,.int .i64 v2,.int .i64 v3,.int .i64 v4,.slice a5 n5 c5,.slice (some ad) n6 c6,.int .i64 v7,.int .i64 v8] 27 (0,0))):=HBa;have HX_0:Hid (wa.drew.heap[qb]? =some (.cells #[.string Y0,.string Y1,.string Y2,.int .i64 (V3 k),.int .i64 (V4 k),.int .i64 (V5 k)] 49 (0,0))):=HXa;generalize wa.drew=u0 at HP_0 HF_0 HG_0 HB_0 HX_0 ⊢;refine zaC 9 (fun K hK=>?_);go_simp;clear hHeld;(refine(hN.num (V3 k) _ (uq R3).1 (uq R3).2 (uq HG_0)).mono ?_;rintro e u1 ⟨rfl,hk9⟩;have HP_1:=hide ((uq HP_0).keep hk9);have HF_1:=hide ((uq HF_0).trans (Fb.keep hk9));have HG_1:=hide (hN.keep _ _ (uq HG_0) hk9);have HB_1:Hid (u1.heap[gb]? =some (.cells #[.int .i64 v0,.int .i64 v1,.int .i64 v2,.int .i64 v3,.int .i64 v4,.slice a5 n5 c5,.slice (some ad) n6 c6,.int .i64 v7,.int .i64 v8] 27 (0,0))):=hide (by rw[hk9.block _ (Array.getElem?_eq_some_iff.1 (uq HB_0)).1];exact uq HB_0);have HX_1:Hid (u1.heap[qb]? =some (.cells #[.string Y0,.string Y1,.string Y2,.int .i64 (V3 k),.int .i64 (V4 k),.int .i64 (V5 k)] 49 (0,0))):=hide (by rw[hk9.block _ (Array.getElem?_eq_some_iff.1 (uq HX_0)).1];exact uq HX_0);clear hk9);try go_wp2_with fail
   refine hK.out _ _ ?_ (fun hHeld=>?_)
   ·exact(uq HBX) _ (uq HX_1)
   clear hK K;try simp only[Act.put,Ya,Yb,Yc]
   refine zaC 12 (fun K hK=>?_);go_simp;clear hHeld;(refine(hN.num (V4 k) _ (uq R4).1 (uq R4).2 (uq HG_1)).mono ?_;rintro e u2 ⟨rfl,hk9⟩;have HP_2:=hide ((uq HP_1).keep hk9);have HF_2:=hide ((uq HF_1).trans (Fb.keep hk9));have HG_2:=hide (hN.keep _ _ (uq HG_1) hk9);have HB_2:Hid (u2.heap[gb]? =some (.cells #[.int .i64 v0,.int .i64 v1,.int .i64 v2,.int .i64 v3,.int .i64 v4,.slice a5 n5 c5,.slice (some ad) n6 c6,.int .i64 v7,.int .i64 v8] 27 (0,0))):=hide (by rw[hk9.block _ (Array.getElem?_eq_some_iff.1 (uq HB_1)).1];exact uq HB_1);have HX_2:Hid (u2.heap[qb]? =some (.cells #[.string Y0,.string Y1,.string Y2,.int .i64 (V3 k),.int .i64 (V4 k),.int .i64 (V5 k)] 49 (0,0))):=hide (by rw[hk9.block _ (Array.getElem?_eq_some_iff.1 (uq HX_1)).1];exact uq HX_1);clear hk9);try go_wp2_with fail
   refine hK.out _ _ ?_ (fun hHeld=>?_)
   ·exact(uq HBX) _ (uq HX_2)
   clear hK K;try simp only[Act.put,Ya,Yb,Yc]
   refine zaC 13 (fun K hK=>?_);go_simp;clear hHeld;refine hK.out _ _ ?_ (fun hHeld=>?_)
   ·exact(uq HBX) _ (by rw[heap_alloc_old _ _ (Array.getElem?_eq_some_iff.1 (uq HX_2)).1];exact uq HX_2)
   clear hK K;try simp only[Act.put,Ya,Yb,Yc]
   refine zaC 14 (fun K hK=>?_);go_simp;clear hHeld
   (have T9:=zaU (W:=u2) [[115,116,111,112],S0 k,[111,117,116],S1 k,[105,110],S2 k,[97,104,101,97,100],dg (V3 k),[98,97,99,107],dg (V4 k),[59]] rfl (uq HP_2) (by simp) (uq HOk).1 (by have:=uq HLk;omega);simp only[wc,List.map_cons,List.map_nil]at T9;rw[uq HY0,uq HY1,uq HY2]at T9;refine T9.mono ?_;clear T9;rintro e wz ⟨rfl,hp,hf⟩;have HPz:=hide hp;have HFz:=hide ((uq HF_2).trans hf);have HGz:=hide (hN.fb _ _ (uq HG_2) hf);have HBz:=hide (hf.words (uq HB_2) (by decide) (uq HGP));have HXz:=hide (hf.words (uq HX_2) (by decide) (uq HNp));clear hp hf)
   try go_wp2_with fail
   refine hK.out _ _ ?_ (fun hHeld=>?_)
   ·exact(uq HBX) _ (uq HXz)
   clear hK K;try simp only[Act.put,Ya,Yb,Yc]
   refine wpAnyH_done (by kernel_rfl) ?_ _;clear hHeld;clear HBX HP_0 HF_0 HG_0 HB_0 HX_0 HP_1 HF_1 HG_1 HB_1 HX_1 HP_2 HF_2 HG_2 HB_2 HX_2;go_wp2_with fail
   go_roundw
   case rel=>
    refine⟨k+1,_,hlt,by go_num,HPz,HGz,hide ?_,hide ?_,hide ?_,HFz,HBz⟩
    ·rw[uq HRst];exact(uq HOk).2
    ·rw[uq HRst];exact uq HEk
    ·rw[uq HRst];have:=uq HLk;have:=uq HLA;omega
   case measure=>simp[intOf];omega
  ·rw[zbV n6 k hlt,List.nil_append]at HOk HEk HLk;rw[← uq HT6]at HOk HEk HLk;rw[zaq]at HOk;rw[zah]at HLk;rw[← zas]at HEk;have HLA:=hide (zaO _ _ (uq HOk).1)
   go_upto_region 7 with fail
   have HBX:Hid (∀ w':World,w'.heap[gb]? =some (.cells #[.int .i64 v0,.int .i64 v1,.int .i64 v2,.int .i64 v3,.int .i64 v4,.slice a5 n5 c5,.slice a6 n6 c6,.int .i64 v7,.int .i64 v8] 27 (0,0))→w'.cell? ⟨gb,0,none⟩=some (.int .i64 v0)∧w'.cell? ⟨gb,1,none⟩=some (.int .i64 v1)∧w'.cell? ⟨gb,2,none⟩=some (.int .i64 v2)∧w'.cell? ⟨gb,3,none⟩=some (.int .i64 v3)∧w'.cell? ⟨gb,4,none⟩=some (.int .i64 v4)∧w'.cell? ⟨gb,5,none⟩=some (.slice a5 n5 c5)∧w'.cell? ⟨gb,6,none⟩=some (.slice a6 n6 c6)∧w'.cell? ⟨gb,7,none⟩=some (.int .i64 v7)∧w'.cell? ⟨gb,8,none⟩=some (.int .i64 v8)):=hide (fun w' h=>⟨by simp[World.cell?,h],by simp[World.cell?,h],by simp[World.cell?,h],by simp[World.cell?,h],by simp[World.cell?,h],by simp[World.cell?,h],by simp[World.cell?,h],by simp[World.cell?,h],by simp[World.cell?,h]⟩);refine wp_region_held_drew (S:=fun w'=>w'.cell? ⟨gb,0,none⟩=some (.int .i64 v0)∧w'.cell? ⟨gb,1,none⟩=some (.int .i64 v1)∧w'.cell? ⟨gb,2,none⟩=some (.int .i64 v2)∧w'.cell? ⟨gb,3,none⟩=some (.int .i64 v3)∧w'.cell? ⟨gb,4,none⟩=some (.int .i64 v4)∧w'.cell? ⟨gb,5,none⟩=some (.slice a5 n5 c5)∧w'.cell? ⟨gb,6,none⟩=some (.slice a6 n6 c6)∧w'.cell? ⟨gb,7,none⟩=some (.int .i64 v7)∧w'.cell? ⟨gb,8,none⟩=some (.int .i64 v8)) (by kernel_rfl) (by exact(uq HBX) _ (uq HBk)) (fun hHeld=>?_);refine tkk 0 32 hHeld ?_;try simp only[Act.put,Ya,Yb,Yc]
   refine tkk 1 33 hHeld ?_;try simp only[Act.put,Ya,Yb,Yc]
   refine tkk 2 34 hHeld ?_;try simp only[Act.put,Ya,Yb,Yc]
   refine tkk 4 36 hHeld ?_;try simp only[Act.put,Ya,Yb,Yc]
   refine tkk 5 37 hHeld ?_;try simp only[Act.put,Ya,Yb,Yc]
   have HP_0:=hide ((uq HPk).keep (Keep.refl wr).drew);have HF_0:=hide ((uq HFk).trans (Fb.keep (Keep.refl wr).drew));have HG_0:=hide (hN.keep _ _ (uq HGk) (Keep.refl wr).drew);have HB_0:Hid (wr.drew.heap[gb]? =some (.cells #[.int .i64 v0,.int .i64 v1,.int .i64 v2,.int .i64 v3,.int .i64 v4,.slice a5 n5 c5,.slice a6 n6 c6,.int .i64 v7,.int .i64 v8] 27 (0,0))):=HBk;generalize wr.drew=u0 at HP_0 HF_0 HG_0 HB_0 ⊢;refine zaC 3 (fun K hK=>?_);go_simp;clear hHeld;(refine(hN.num v7 _ (uq R7).1 (uq R7).2 (uq HG_0)).mono ?_;rintro e u1 ⟨rfl,hk9⟩;have HP_1:=hide ((uq HP_0).keep hk9);have HF_1:=hide ((uq HF_0).trans (Fb.keep hk9));have HG_1:=hide (hN.keep _ _ (uq HG_0) hk9);have HB_1:Hid (u1.heap[gb]? =some (.cells #[.int .i64 v0,.int .i64 v1,.int .i64 v2,.int .i64 v3,.int .i64 v4,.slice a5 n5 c5,.slice a6 n6 c6,.int .i64 v7,.int .i64 v8] 27 (0,0))):=hide (by rw[hk9.block _ (Array.getElem?_eq_some_iff.1 (uq HB_0)).1];exact uq HB_0);clear hk9);try go_wp2_with fail
   refine hK.out _ _ ?_ (fun hHeld=>?_)
   ·exact(uq HBX) _ (uq HB_1)
   clear hK K;try simp only[Act.put,Ya,Yb,Yc]
   refine zaC 6 (fun K hK=>?_);go_simp;clear hHeld;(refine(hN.num v8 _ (uq R8).1 (uq R8).2 (uq HG_1)).mono ?_;rintro e u2 ⟨rfl,hk9⟩;have HP_2:=hide ((uq HP_1).keep hk9);have HF_2:=hide ((uq HF_1).trans (Fb.keep hk9));have HG_2:=hide (hN.keep _ _ (uq HG_1) hk9);have HB_2:Hid (u2.heap[gb]? =some (.cells #[.int .i64 v0,.int .i64 v1,.int .i64 v2,.int .i64 v3,.int .i64 v4,.slice a5 n5 c5,.slice a6 n6 c6,.int .i64 v7,.int .i64 v8] 27 (0,0))):=hide (by rw[hk9.block _ (Array.getElem?_eq_some_iff.1 (uq HB_1)).1];exact uq HB_1);clear hk9);try go_wp2_with fail
   refine hK.out _ _ ?_ (fun hHeld=>?_)
   ·exact(uq HBX) _ (uq HB_2)
   clear hK K;try simp only[Act.put,Ya,Yb,Yc]
   refine zaC 7 (fun K hK=>?_);go_simp;clear hHeld;refine hK.out _ _ ?_ (fun hHeld=>?_)
   ·exact(uq HBX) _ (by rw[heap_alloc_old _ _ (Array.getElem?_eq_some_iff.1 (uq HB_2)).1];exact uq HB_2)
   clear hK K;try simp only[Act.put,Ya,Yb,Yc]
   refine zaC 8 (fun K hK=>?_);go_simp;clear hHeld
   (have T9:=zaU (W:=u2) [[119,101,105,103,104,116,115],dg v7,dg v8,[59]] rfl (uq HP_2) (by simp) (uq HOk).1 (by have:=uq HLk;omega);simp only[wc,List.map_cons,List.map_nil]at T9;refine T9.mono ?_;clear T9;rintro e wz ⟨rfl,hp,hf⟩;have HPz:=hide hp;have HFz:=hide ((uq HF_2).trans hf);have HGz:=hide (hN.fb _ _ (uq HG_2) hf);have HBz:=hide (hf.words (uq HB_2) (by decide) (uq HGP));clear hp hf)
   try go_wp2_with fail
   refine hK.out _ _ ?_ (fun hHeld=>?_)
   ·exact(uq HBX) _ (uq HBz)
   clear hK K;try simp only[Act.put,Ya,Yb,Yc]
   refine wpAnyH_done (by kernel_rfl) ?_ _;clear hHeld;clear HBX HP_0 HF_0 HG_0 HB_0 HP_1 HF_1 HG_1 HB_1 HP_2 HF_2 HG_2 HB_2;go_wp2_with fail
   (have T9:=zaU (W:=wz) [[125]] rfl (uq HPz) (by simp) (uq HOk).2 (by have:=uq HLk;have:=uq HLA;omega);simp only[wc,List.map_cons,List.map_nil]at T9;refine T9.mono ?_;clear T9;rintro e wy ⟨rfl,hp,hf⟩;have HPy:=hide hp;have HFy:=hide ((uq HFz).trans hf);clear hp hf)
   go_wp2_with fail
   go_end0
   have h9:=uq HPy;rw[uq HEk]at h9;exact⟨rfl,h9,uq HFy⟩
end S
end Go.Proofs.YtfepanidippjlaaGreatDoor
