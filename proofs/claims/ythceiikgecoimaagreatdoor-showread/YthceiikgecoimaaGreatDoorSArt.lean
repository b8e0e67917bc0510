/- Package show: the lines of a net. -/
import Derived.Test.YthceiikgecoimaaGreatDoorSGrp
import Derived.Test.YthceiikgecoimaaGreatDoorLVal
import Derived.Deep.DrawnRows
import Derived.Deep.RegionHeld
namespace Go.Proofs.YthceiikgecoimaaGreatDoor
open Go.RowKit
attribute [local go_sem ↓] Go.wp_at_zero Go.wp_at_succ
set_option linter.unusedVariables false
set_option linter.unusedSimpArgs false
set_option maxRecDepth 10000
namespace S
def ntw (v0 v1 v2 v3 v4:Int) (n5:Nat) (WN:Nat->List (List UInt8)) (n6:Nat) (v7 v8:Int) (AW:List (List UInt8)):List (List UInt8):= [[99,121,99,108,101],dg v0,[116,111],dg v1,[98,121],dg v2,[59]]++([[112,101,97,107],dg v3,[47],dg v4,[59]]++((List.range n5).flatMap WN++(if 0<n6\/v7≠0\/v8≠0 then AW else [])))
set_option maxHeartbeats 32000000 in
theorem zfK (p:Nat) (v0 v1 v2 v3 v4:Int) (a5:Option Addr) (n5 c5:Nat) (a6:Option Addr) (n6 c6:Nat) (v7 v8:Int) (S0:Nat->List UInt8) (A1:Nat->Option Addr) (N1 C1:Nat->Nat) (A2:Nat->Option Addr) (N2 C2:Nat->Nat) (A3:Nat->Option Addr) (N3 C3:Nat->Nat) (A4:Nat->Option Addr) (N4 C4:Nat->Nat) (A5:Nat->Option Addr) (N5 C5:Nat->Nat) (V6:Nat->Int) (WN:Nat->List (List UInt8)) (AW:List (List UInt8)) (st:St) (w:World) (G:World->Prop) (hN:Nc p G) (h5:n5<=1000)
  (HC:Hid (∀ k,k<n5->∃ ad,a5=some ad/\ad.block<p/\w.cell? (ad.add (k * 7))=some (.string (sv (S0 k)))/\w.cell? ⟨(ad.add (k * 7)).block,(ad.add (k * 7)).off+1,none⟩=some (.slice (A1 k) (N1 k) (C1 k))/\w.cell? ⟨(ad.add (k * 7)).block,(ad.add (k * 7)).off+2,none⟩=some (.slice (A2 k) (N2 k) (C2 k))/\w.cell? ⟨(ad.add (k * 7)).block,(ad.add (k * 7)).off+3,none⟩=some (.slice (A3 k) (N3 k) (C3 k))/\w.cell? ⟨(ad.add (k * 7)).block,(ad.add (k * 7)).off+4,none⟩=some (.slice (A4 k) (N4 k) (C4 k))/\w.cell? ⟨(ad.add (k * 7)).block,(ad.add (k * 7)).off+5,none⟩=some (.slice (A5 k) (N5 k) (C5 k))/\w.cell? ⟨(ad.add (k * 7)).block,(ad.add (k * 7)).off+6,none⟩=some (.int .i64 (V6 k))))
  (TN:Hid (∀ k,k<n5->∀ w' s,G w'->Fb p w w'->Ps w' p s->oks s (WN k)->s.out.length+zbt (WN k)<=1000000000->Calls Tryz.prog 32 #[.pointer (some ⟨p,0,none⟩),.agg #[.string (sv (S0 k)),.slice (A1 k) (N1 k) (C1 k),.slice (A2 k) (N2 k) (C2 k),.slice (A3 k) (N3 k) (C3 k),.slice (A4 k) (N4 k) (C4 k),.slice (A5 k) (N5 k) (C5 k),.int .i64 (V6 k)]] w' λe w''=>e= .returned (.tuple #[])/\Ps w'' p (pss s (WN k))/\Fb p w' w''))
  (TA:Hid (∀ w' s,G w'->Fb p w w'->Ps w' p s->oks s AW->s.out.length+zbt AW<=1000000000->Calls Tryz.prog 33 #[.pointer (some ⟨p,0,none⟩),.agg #[.int .i64 v0,.int .i64 v1,.int .i64 v2,.int .i64 v3,.int .i64 v4,.slice a5 n5 c5,.slice a6 n6 c6,.int .i64 v7,.int .i64 v8]] w' λe w''=>e= .returned (.tuple #[])/\Ps w'' p (pss s AW)/\Fb p w' w''))
  (R0:Hid (-999999999999999999<=v0/\v0<=999999999999999999)) (R1:Hid (-999999999999999999<=v1/\v1<=999999999999999999)) (R2:Hid (-999999999999999999<=v2/\v2<=999999999999999999)) (R3:Hid (-999999999999999999<=v3/\v3<=999999999999999999)) (R4:Hid (-999999999999999999<=v4/\v4<=999999999999999999))
  (HP:Hid (Ps w p st)) (HG:Hid (G w)) (HO:Hid (oks st (ntw v0 v1 v2 v3 v4 n5 WN n6 v7 v8 AW))) (HL:Hid (st.out.length+zbt (ntw v0 v1 v2 v3 v4 n5 WN n6 v7 v8 AW)<=1000000000)):
  Calls Tryz.prog 13 #[.pointer (some ⟨p,0,none⟩),.agg #[.int .i64 v0,.int .i64 v1,.int .i64 v2,.int .i64 v3,.int .i64 v4,.slice a5 n5 c5,.slice a6 n6 c6,.int .i64 v7,.int .i64 v8]] w λe w'=>e= .returned (.tuple #[])/\Ps w' p (pss st (ntw v0 v1 v2 v3 v4 n5 WN n6 v7 v8 AW))/\Fb p w w':=by
 obtain⟨fin,HFin⟩:∃ fin,Hid (pss st (ntw v0 v1 v2 v3 v4 n5 WN n6 v7 v8 AW)=fin):=⟨_,zh rfl⟩;rw[uq HFin];unfold ntw at HO HL HFin
 obtain⟨t6,HT6⟩:∃ t,Hid ((if 0<n6\/v7≠0\/v8≠0 then AW else []:List (List UInt8))=t):=⟨_,zh rfl⟩;rw[uq HT6]at HO HL HFin;obtain⟨t0,HT0⟩:∃ t,Hid ((List.range n5).flatMap WN++t6=t):=⟨_,zh rfl⟩;rw[uq HT0]at HO HL HFin;rw[zaA,zaA]at HO;rw[zan,zan]at HL;rw[<- zaE,<- zaE]at HFin;have HLA:=zh (za3 _ _ (uq HO).1);have HLB:=zh (za3 _ _ (uq HO).2.1);have HPL:=zh (Pr.lt (uq HP));have HF0:Hid (Fb p w (w.alloc (.cells #[.int .i64 v0,.int .i64 v1,.int .i64 v2,.int .i64 v3,.int .i64 v4,.slice a5 n5 c5,.slice a6 n6 c6,.int .i64 v7,.int .i64 v8] 27))):=zh (Fb.keep ((zk w).alloc _));have HP0:=zh ((uq HP).keep ((zk w).alloc (.cells #[.int .i64 v0,.int .i64 v1,.int .i64 v2,.int .i64 v3,.int .i64 v4,.slice a5 n5 c5,.slice a6 n6 c6,.int .i64 v7,.int .i64 v8] 27)));have HG0:=zh (hN.keep _ _ (uq HG) ((zk w).alloc (.cells #[.int .i64 v0,.int .i64 v1,.int .i64 v2,.int .i64 v3,.int .i64 v4,.slice a5 n5 c5,.slice a6 n6 c6,.int .i64 v7,.int .i64 v8] 27)));have HB0:=zh (heap_alloc_new w (.cells #[.int .i64 v0,.int .i64 v1,.int .i64 v2,.int .i64 v3,.int .i64 v4,.slice a5 n5 c5,.slice a6 n6 c6,.int .i64 v7,.int .i64 v8] 27));go_enter Tryz.func13,Tryz.ntmps13
 go_upto_region 1 with fail
 generalize w.alloc (.cells #[.int .i64 v0,.int .i64 v1,.int .i64 v2,.int .i64 v3,.int .i64 v4,.slice a5 n5 c5,.slice a6 n6 c6,.int .i64 v7,.int .i64 v8] 27)=w0 at HF0 HP0 HG0 HB0 |-;obtain⟨gb,HGb⟩:∃ gb,Hid (w.heap.size=gb):=⟨_,rfl⟩;rw[uq HGb]at HB0 |-;have HGP:Hid (gb≠p):=zh (by have:=uq HPL;have:=uq HGb;omega);have HBX:Hid (∀ w':World,w'.heap[gb]? =some (.cells #[.int .i64 v0,.int .i64 v1,.int .i64 v2,.int .i64 v3,.int .i64 v4,.slice a5 n5 c5,.slice a6 n6 c6,.int .i64 v7,.int .i64 v8] 27 (0,0))->w'.cell? ⟨gb,0,none⟩=some (.int .i64 v0)/\w'.cell? ⟨gb,1,none⟩=some (.int .i64 v1)/\w'.cell? ⟨gb,2,none⟩=some (.int .i64 v2)/\w'.cell? ⟨gb,3,none⟩=some (.int .i64 v3)/\w'.cell? ⟨gb,4,none⟩=some (.int .i64 v4)/\w'.cell? ⟨gb,5,none⟩=some (.slice a5 n5 c5)/\w'.cell? ⟨gb,6,none⟩=some (.slice a6 n6 c6)/\w'.cell? ⟨gb,7,none⟩=some (.int .i64 v7)/\w'.cell? ⟨gb,8,none⟩=some (.int .i64 v8)):=zh (λw' h=>⟨by simp[World.cell?,h],by simp[World.cell?,h],by simp[World.cell?,h],by simp[World.cell?,h],by simp[World.cell?,h],by simp[World.cell?,h],by simp[World.cell?,h],by simp[World.cell?,h],by simp[World.cell?,h]⟩);refine wp_region_held_drew (S:=λw'=>w'.cell? ⟨gb,0,none⟩=some (.int .i64 v0)/\w'.cell? ⟨gb,1,none⟩=some (.int .i64 v1)/\w'.cell? ⟨gb,2,none⟩=some (.int .i64 v2)/\w'.cell? ⟨gb,3,none⟩=some (.int .i64 v3)/\w'.cell? ⟨gb,4,none⟩=some (.int .i64 v4)/\w'.cell? ⟨gb,5,none⟩=some (.slice a5 n5 c5)/\w'.cell? ⟨gb,6,none⟩=some (.slice a6 n6 c6)/\w'.cell? ⟨gb,7,none⟩=some (.int .i64 v7)/\w'.cell? ⟨gb,8,none⟩=some (.int .i64 v8)) (by kernel_rfl) (by exact(uq HBX) _ (uq HB0)) (λzH=>?_);refine tk6 0 6 1 7 2 8 4 10 5 11 7 13 zH ?_;try simp only[Yq]
 refine tkk 8 14 zH ?_;try simp only[Yq]
 have HP_0:=zh ((uq HP0).keep (zk w0).drew);have HF_0:=zh ((uq HF0).trans (Fb.keep (zk w0).drew));have HG_0:=zh (hN.keep _ _ (uq HG0) (zk w0).drew);have HB_0:Hid (w0.drew.heap[gb]? =some (.cells #[.int .i64 v0,.int .i64 v1,.int .i64 v2,.int .i64 v3,.int .i64 v4,.slice a5 n5 c5,.slice a6 n6 c6,.int .i64 v7,.int .i64 v8] 27 (0,0))):=HB0;generalize w0.drew=u0 at HP_0 HF_0 HG_0 HB_0 |-;refine zaq 3 (λK hK=>?_);go_simp;clear zH;(refine(hN.num v0 _ (uq R0).1 (uq R0).2 (uq HG_0)).mono ?_;rintro e u1 ⟨rfl,hk9⟩;have HP_1:=zh ((uq HP_0).keep hk9);have HF_1:=zh ((uq HF_0).trans (Fb.keep hk9));have HG_1:=zh (hN.keep _ _ (uq HG_0) hk9);have HB_1:Hid (u1.heap[gb]? =some (.cells #[.int .i64 v0,.int .i64 v1,.int .i64 v2,.int .i64 v3,.int .i64 v4,.slice a5 n5 c5,.slice a6 n6 c6,.int .i64 v7,.int .i64 v8] 27 (0,0))):=zh (by rw[hk9.block _ (Array.getElem?_eq_some_iff.1 (uq HB_0)).1];exact uq HB_0);clear hk9);try go_wp2_with fail
 refine hK.out _ _ ?_ (λzH=>?_)
 ·exact(uq HBX) _ (uq HB_1)
 clear hK K;try simp only[Yq]
 refine zaq 6 (λK hK=>?_);go_simp;clear zH;(refine(hN.num v1 _ (uq R1).1 (uq R1).2 (uq HG_1)).mono ?_;rintro e u2 ⟨rfl,hk9⟩;have HP_2:=zh ((uq HP_1).keep hk9);have HF_2:=zh ((uq HF_1).trans (Fb.keep hk9));have HG_2:=zh (hN.keep _ _ (uq HG_1) hk9);have HB_2:Hid (u2.heap[gb]? =some (.cells #[.int .i64 v0,.int .i64 v1,.int .i64 v2,.int .i64 v3,.int .i64 v4,.slice a5 n5 c5,.slice a6 n6 c6,.int .i64 v7,.int .i64 v8] 27 (0,0))):=zh (by rw[hk9.block _ (Array.getElem?_eq_some_iff.1 (uq HB_1)).1];exact uq HB_1);clear hk9);try go_wp2_with fail
 refine hK.out _ _ ?_ (λzH=>?_)
 ·exact(uq HBX) _ (uq HB_2)
 clear hK K;try simp only[Yq]
 refine zaq 9 (λK hK=>?_);go_simp;clear zH;(refine(hN.num v2 _ (uq R2).1 (uq R2).2 (uq HG_2)).mono ?_;rintro e u3 ⟨rfl,hk9⟩;have HP_3:=zh ((uq HP_2).keep hk9);have HF_3:=zh ((uq HF_2).trans (Fb.keep hk9));have HG_3:=zh (hN.keep _ _ (uq HG_2) hk9);have HB_3:Hid (u3.heap[gb]? =some (.cells #[.int .i64 v0,.int .i64 v1,.int .i64 v2,.int .i64 v3,.int .i64 v4,.slice a5 n5 c5,.slice a6 n6 c6,.int .i64 v7,.int .i64 v8] 27 (0,0))):=zh (by rw[hk9.block _ (Array.getElem?_eq_some_iff.1 (uq HB_2)).1];exact uq HB_2);clear hk9);try go_wp2_with fail
 refine hK.out _ _ ?_ (λzH=>?_)
 ·exact(uq HBX) _ (uq HB_3)
 clear hK K;try simp only[Yq]
 refine zaq 10 (λK hK=>?_);go_simp;clear zH;refine hK.out _ _ ?_ (λzH=>?_)
 ·exact(uq HBX) _ (by rw[heap_alloc_old _ _ (Array.getElem?_eq_some_iff.1 (uq HB_3)).1];exact uq HB_3)
 clear hK K;try simp only[Yq]
 refine zaq 11 (λK hK=>?_);go_simp;clear zH
 (have T9:=za9 (W:=u3) [[99,121,99,108,101],dg v0,[116,111],dg v1,[98,121],dg v2,[59]] rfl (uq HP_3) (by simp) (uq HO).1 (by have:=uq HL;omega);simp only[wc,List.map_cons,List.map_nil]at T9;refine T9.mono ?_;clear T9;rintro e wm ⟨rfl,hp,hf⟩;have HPm:=zh hp;have HFm:=zh ((uq HF_3).trans hf);have HGm:=zh (hN.fb _ _ (uq HG_3) hf);have HBm:=zh (hf.words (uq HB_3) (by decide) (uq HGP));clear hp hf)
 try go_wp2_with fail
 refine hK.out _ _ ?_ (λzH=>?_)
 ·exact(uq HBX) _ (uq HBm)
 clear hK K;try simp only[Yq]
 refine wpAnyH_done (by kernel_rfl) ?_ _;clear zH;clear HBX HP_0 HF_0 HG_0 HB_0 HP_1 HF_1 HG_1 HB_1 HP_2 HF_2 HG_2 HB_2 HP_3 HF_3 HG_3 HB_3
 go_upto_region 2 with fail
 have HBX:Hid (∀ w':World,w'.heap[gb]? =some (.cells #[.int .i64 v0,.int .i64 v1,.int .i64 v2,.int .i64 v3,.int .i64 v4,.slice a5 n5 c5,.slice a6 n6 c6,.int .i64 v7,.int .i64 v8] 27 (0,0))->w'.cell? ⟨gb,0,none⟩=some (.int .i64 v0)/\w'.cell? ⟨gb,1,none⟩=some (.int .i64 v1)/\w'.cell? ⟨gb,2,none⟩=some (.int .i64 v2)/\w'.cell? ⟨gb,3,none⟩=some (.int .i64 v3)/\w'.cell? ⟨gb,4,none⟩=some (.int .i64 v4)/\w'.cell? ⟨gb,5,none⟩=some (.slice a5 n5 c5)/\w'.cell? ⟨gb,6,none⟩=some (.slice a6 n6 c6)/\w'.cell? ⟨gb,7,none⟩=some (.int .i64 v7)/\w'.cell? ⟨gb,8,none⟩=some (.int .i64 v8)):=zh (λw' h=>⟨by simp[World.cell?,h],by simp[World.cell?,h],by simp[World.cell?,h],by simp[World.cell?,h],by simp[World.cell?,h],by simp[World.cell?,h],by simp[World.cell?,h],by simp[World.cell?,h],by simp[World.cell?,h]⟩);refine wp_region_held_drew (S:=λw'=>w'.cell? ⟨gb,0,none⟩=some (.int .i64 v0)/\w'.cell? ⟨gb,1,none⟩=some (.int .i64 v1)/\w'.cell? ⟨gb,2,none⟩=some (.int .i64 v2)/\w'.cell? ⟨gb,3,none⟩=some (.int .i64 v3)/\w'.cell? ⟨gb,4,none⟩=some (.int .i64 v4)/\w'.cell? ⟨gb,5,none⟩=some (.slice a5 n5 c5)/\w'.cell? ⟨gb,6,none⟩=some (.slice a6 n6 c6)/\w'.cell? ⟨gb,7,none⟩=some (.int .i64 v7)/\w'.cell? ⟨gb,8,none⟩=some (.int .i64 v8)) (by kernel_rfl) (by exact(uq HBX) _ (uq HBm)) (λzH=>?_);refine tk6 0 18 1 19 2 20 3 21 5 23 6 24 zH ?_;try simp only[Yq]
 refine tkk 7 25 zH ?_;try simp only[Yq]
 have HP_0:=zh ((uq HPm).keep (zk wm).drew);have HF_0:=zh ((uq HFm).trans (Fb.keep (zk wm).drew));have HG_0:=zh (hN.keep _ _ (uq HGm) (zk wm).drew);have HB_0:Hid (wm.drew.heap[gb]? =some (.cells #[.int .i64 v0,.int .i64 v1,.int .i64 v2,.int .i64 v3,.int .i64 v4,.slice a5 n5 c5,.slice a6 n6 c6,.int .i64 v7,.int .i64 v8] 27 (0,0))):=HBm;generalize wm.drew=u0 at HP_0 HF_0 HG_0 HB_0 |-;refine zaq 4 (λK hK=>?_);go_simp;clear zH;(refine(hN.num v3 _ (uq R3).1 (uq R3).2 (uq HG_0)).mono ?_;rintro e u1 ⟨rfl,hk9⟩;have HP_1:=zh ((uq HP_0).keep hk9);have HF_1:=zh ((uq HF_0).trans (Fb.keep hk9));have HG_1:=zh (hN.keep _ _ (uq HG_0) hk9);have HB_1:Hid (u1.heap[gb]? =some (.cells #[.int .i64 v0,.int .i64 v1,.int .i64 v2,.int .i64 v3,.int .i64 v4,.slice a5 n5 c5,.slice a6 n6 c6,.int .i64 v7,.int .i64 v8] 27 (0,0))):=zh (by rw[hk9.block _ (Array.getElem?_eq_some_iff.1 (uq HB_0)).1];exact uq HB_0);clear hk9);try go_wp2_with fail
 refine hK.out _ _ ?_ (λzH=>?_)
 ·exact(uq HBX) _ (uq HB_1)
 clear hK K;try simp only[Yq]
 refine zaq 8 (λK hK=>?_);go_simp;clear zH;(refine(hN.num v4 _ (uq R4).1 (uq R4).2 (uq HG_1)).mono ?_;rintro e u2 ⟨rfl,hk9⟩;have HP_2:=zh ((uq HP_1).keep hk9);have HF_2:=zh ((uq HF_1).trans (Fb.keep hk9));have HG_2:=zh (hN.keep _ _ (uq HG_1) hk9);have HB_2:Hid (u2.heap[gb]? =some (.cells #[.int .i64 v0,.int .i64 v1,.int .i64 v2,.int .i64 v3,.int .i64 v4,.slice a5 n5 c5,.slice a6 n6 c6,.int .i64 v7,.int .i64 v8] 27 (0,0))):=zh (by rw[hk9.block _ (Array.getElem?_eq_some_iff.1 (uq HB_1)).1];exact uq HB_1);clear hk9);try go_wp2_with fail
 refine hK.out _ _ ?_ (λzH=>?_)
 ·exact(uq HBX) _ (uq HB_2)
 clear hK K;try simp only[Yq]
 refine zaq 9 (λK hK=>?_);go_simp;clear zH;refine hK.out _ _ ?_ (λzH=>?_)
 ·exact(uq HBX) _ (by rw[heap_alloc_old _ _ (Array.getElem?_eq_some_iff.1 (uq HB_2)).1];exact uq HB_2)
 clear hK K;try simp only[Yq]
 refine zaq 10 (λK hK=>?_);go_simp;clear zH
 (have T9:=za9 (W:=u2) [[112,101,97,107],dg v3,[47],dg v4,[59]] rfl (uq HP_2) (by simp) (uq HO).2.1 (by have:=uq HL;have:=uq HLA;omega);simp only[wc,List.map_cons,List.map_nil]at T9;refine T9.mono ?_;clear T9;rintro e w1 ⟨rfl,hp,hf⟩;have HP1:=zh hp;have HF1:=zh ((uq HF_2).trans hf);have HG1:=zh (hN.fb _ _ (uq HG_2) hf);have HB1:=zh (hf.words (uq HB_2) (by decide) (uq HGP));clear hp hf)
 try go_wp2_with fail
 refine hK.out _ _ ?_ (λzH=>?_)
 ·exact(uq HBX) _ (uq HB1)
 clear hK K;try simp only[Yq]
 refine wpAnyH_done (by kernel_rfl) ?_ _;clear zH;clear HBX HP_0 HF_0 HG_0 HB_0 HP_1 HF_1 HG_1 HB_1 HP_2 HF_2 HG_2 HB_2;have HO1:=zh (uq HO).2.2;have HE1:=HFin;have HL1:Hid ((pss (pss st [[99,121,99,108,101],dg v0,[116,111],dg v1,[98,121],dg v2,[59]]) [[112,101,97,107],dg v3,[47],dg v4,[59]]).out.length+zbt t0<=1000000000):=zh (by have:=uq HLA;have:=uq HLB;have:=uq HL;omega);obtain⟨s1,HS1⟩:∃ s1,Hid (pss (pss st [[99,121,99,108,101],dg v0,[116,111],dg v1,[98,121],dg v2,[59]]) [[112,101,97,107],dg v3,[47],dg v4,[59]]=s1):=⟨_,rfl⟩;rw[uq HS1]at HO1 HE1 HL1 HP1;clear HO HL HFin HS1 HLA HLB;have cg:w1.cell? ⟨gb,5,none⟩=some (.slice a5 n5 c5):=by simp[World.cell?,uq HB1]
 go_wp2_with fail
 clear cg;rw[<- uq HT0]at HO1 HE1 HL1
 go_loopw [32] (λvi wr=>∃(k:Nat) (s:St),k<=n5/\vi= .int .i64 (k:Int)/\Hid (Ps wr p s)/\Hid (G wr)/\Hid (oks s (((List.range n5).drop k).flatMap WN++t6))/\Hid (pss s (((List.range n5).drop k).flatMap WN++t6)=fin)/\Hid (s.out.length+zbt (((List.range n5).drop k).flatMap WN++t6)<=1000000000)/\Hid (Fb p w wr)/\Hid (wr.heap[gb]? =some (.cells #[.int .i64 v0,.int .i64 v1,.int .i64 v2,.int .i64 v3,.int .i64 v4,.slice a5 n5 c5,.slice a6 n6 c6,.int .i64 v7,.int .i64 v8] 27 (0,0)))) (λvi wr=>n5 - (intOf vi).toNat)
 case atStart=>exact⟨0,s1,Nat.zero_le _,rfl,HP1,HG1,zh (by rw[List.drop_zero];exact uq HO1),zh (by rw[List.drop_zero];exact uq HE1),zh (by rw[List.drop_zero];exact uq HL1),HF1,HB1⟩
 case round=>
  obtain⟨k,s,hk,rfl,HPk,HGk,HOk,HEk,HLk,HFk,HBk⟩:=hrel;by_cases hlt:k<n5
  ·have li:(k:Int)<(n5:Int):=by omega
   rw[zbG n5 k hlt,List.append_assoc]at HOk HEk HLk;obtain⟨rst,HRst⟩:∃ rst,Hid (((List.range n5).drop (k+1)).flatMap WN++t6=rst):=⟨_,zh rfl⟩;rw[uq HRst]at HOk HEk HLk;rw[zaA]at HOk;rw[zan]at HLk;rw[<- zaE]at HEk;have HLA:=zh (za3 _ _ (uq HOk).1);have HTk:=zh ((uq TN) k hlt);obtain⟨ad,ea,hadp,e0,e1,e2,e3,e4,e5,e6⟩:=(uq HC) k hlt;subst ea;have x0:=zau (uq HFk) e0 (by rw[zag];exact hadp);have x1:=zau (uq HFk) e1 (by show(ad.add (k * 7)).block<p;rw[zag];exact hadp);have x2:=zau (uq HFk) e2 (by show(ad.add (k * 7)).block<p;rw[zag];exact hadp);have x3:=zau (uq HFk) e3 (by show(ad.add (k * 7)).block<p;rw[zag];exact hadp);have x4:=zau (uq HFk) e4 (by show(ad.add (k * 7)).block<p;rw[zag];exact hadp);have x5:=zau (uq HFk) e5 (by show(ad.add (k * 7)).block<p;rw[zag];exact hadp);have x6:=zau (uq HFk) e6 (by show(ad.add (k * 7)).block<p;rw[zag];exact hadp);clear e0 e1 e2 e3 e4 e5 e6 hadp;obtain⟨Y0,HY0⟩:∃ Y,Hid (sv (S0 k)=Y):=⟨_,rfl⟩;rw[uq HY0]at x0 HTk;have HPa:=zh ((uq HPk).keep ((zk wr).alloc (.cells #[.string Y0,.slice (A1 k) (N1 k) (C1 k),.slice (A2 k) (N2 k) (C2 k),.slice (A3 k) (N3 k) (C3 k),.slice (A4 k) (N4 k) (C4 k),.slice (A5 k) (N5 k) (C5 k),.int .i64 (V6 k)] 45)));have HGa:=zh (hN.keep _ _ (uq HGk) ((zk wr).alloc (.cells #[.string Y0,.slice (A1 k) (N1 k) (C1 k),.slice (A2 k) (N2 k) (C2 k),.slice (A3 k) (N3 k) (C3 k),.slice (A4 k) (N4 k) (C4 k),.slice (A5 k) (N5 k) (C5 k),.int .i64 (V6 k)] 45)));have HFa:Hid (Fb p w (wr.alloc (.cells #[.string Y0,.slice (A1 k) (N1 k) (C1 k),.slice (A2 k) (N2 k) (C2 k),.slice (A3 k) (N3 k) (C3 k),.slice (A4 k) (N4 k) (C4 k),.slice (A5 k) (N5 k) (C5 k),.int .i64 (V6 k)] 45))):=zh ((uq HFk).trans (Fb.keep ((zk wr).alloc _)));have HBa:Hid ((wr.alloc (.cells #[.string Y0,.slice (A1 k) (N1 k) (C1 k),.slice (A2 k) (N2 k) (C2 k),.slice (A3 k) (N3 k) (C3 k),.slice (A4 k) (N4 k) (C4 k),.slice (A5 k) (N5 k) (C5 k),.int .i64 (V6 k)] 45)).heap[gb]? =some (.cells #[.int .i64 v0,.int .i64 v1,.int .i64 v2,.int .i64 v3,.int .i64 v4,.slice (some ad) n5 c5,.slice a6 n6 c6,.int .i64 v7,.int .i64 v8] 27 (0,0))):=zh (by rw[heap_alloc_old _ _ (Array.getElem?_eq_some_iff.1 (uq HBk)).1];exact uq HBk);have HXa:=zh (heap_alloc_new wr (.cells #[.string Y0,.slice (A1 k) (N1 k) (C1 k),.slice (A2 k) (N2 k) (C2 k),.slice (A3 k) (N3 k) (C3 k),.slice (A4 k) (N4 k) (C4 k),.slice (A5 k) (N5 k) (C5 k),.int .i64 (V6 k)] 45))
   go_upto_region 6 with fail
   generalize wr.alloc (.cells #[.string Y0,.slice (A1 k) (N1 k) (C1 k),.slice (A2 k) (N2 k) (C2 k),.slice (A3 k) (N3 k) (C3 k),.slice (A4 k) (N4 k) (C4 k),.slice (A5 k) (N5 k) (C5 k),.int .i64 (V6 k)] 45)=wa at HPa HGa HFa HBa HXa |-;generalize wr.heap.size=qb at HXa |-;clear x0 x1 x2 x3 x4 x5 x6;have y0:wa.cell? ⟨qb,0,none⟩=some (.string Y0):=by simp[World.cell?,uq HXa]
   have y1:wa.cell? ⟨qb,1,none⟩=some (.slice (A1 k) (N1 k) (C1 k)):=by simp[World.cell?,uq HXa]
   have y2:wa.cell? ⟨qb,2,none⟩=some (.slice (A2 k) (N2 k) (C2 k)):=by simp[World.cell?,uq HXa]
   have y3:wa.cell? ⟨qb,3,none⟩=some (.slice (A3 k) (N3 k) (C3 k)):=by simp[World.cell?,uq HXa]
   have y4:wa.cell? ⟨qb,4,none⟩=some (.slice (A4 k) (N4 k) (C4 k)):=by simp[World.cell?,uq HXa]
   have y5:wa.cell? ⟨qb,5,none⟩=some (.slice (A5 k) (N5 k) (C5 k)):=by simp[World.cell?,uq HXa]
   have y6:wa.cell? ⟨qb,6,none⟩=some (.int .i64 (V6 k)):=by simp[World.cell?,uq HXa]
   go_wp2_with fail
   (refine((uq HTk) wa s (uq HGa) (uq HFa) (uq HPa) (uq HOk).1 (by have:=uq HLk;omega)).mono ?_;rintro e wz ⟨rfl,hp,hf⟩;have HPz:=zh hp;have HFz:=zh ((uq HFa).trans hf);have HGz:=zh (hN.fb _ _ (uq HGa) hf);have HBz:=zh (hf.words (uq HBa) (by decide) (uq HGP));clear hp hf);clear y0 y1 y2 y3 y4 y5 y6;go_wp2_with fail
   go_roundw
   case rel=>
    refine⟨k+1,_,hlt,by go_num,HPz,HGz,zh ?_,zh ?_,zh ?_,HFz,HBz⟩
    ·rw[uq HRst];exact(uq HOk).2
    ·rw[uq HRst];exact uq HEk
    ·rw[uq HRst];have:=uq HLk;have:=uq HLA;omega
   case measure=>simp[intOf];omega
  ·rw[zci n5 k hlt,List.nil_append]at HOk HEk HLk;have y0:wr.cell? ⟨gb,0,none⟩=some (.int .i64 v0):=by simp[World.cell?,uq HBk]
   have y1:wr.cell? ⟨gb,1,none⟩=some (.int .i64 v1):=by simp[World.cell?,uq HBk]
   have y2:wr.cell? ⟨gb,2,none⟩=some (.int .i64 v2):=by simp[World.cell?,uq HBk]
   have y3:wr.cell? ⟨gb,3,none⟩=some (.int .i64 v3):=by simp[World.cell?,uq HBk]
   have y4:wr.cell? ⟨gb,4,none⟩=some (.int .i64 v4):=by simp[World.cell?,uq HBk]
   have y5:wr.cell? ⟨gb,5,none⟩=some (.slice a5 n5 c5):=by simp[World.cell?,uq HBk]
   have y6:wr.cell? ⟨gb,6,none⟩=some (.slice a6 n6 c6):=by simp[World.cell?,uq HBk]
   have y7:wr.cell? ⟨gb,7,none⟩=some (.int .i64 v7):=by simp[World.cell?,uq HBk]
   have y8:wr.cell? ⟨gb,8,none⟩=some (.int .i64 v8):=by simp[World.cell?,uq HBk]
   rcases Decidable.em (v7=0)with d7|d7<;>rcases Decidable.em (v8=0)with d8|d8<;>rcases Decidable.em (0<n6)with k6|k6
   ·have g6:(0:Int)<(n6:Int):=by omega
    have g7:(v7 !=0)=false:=by simp[d7]
    have g8:(v8 !=0)=false:=by simp[d8]
    have HC9:Hid (0<n6\/v7≠0\/v8≠0):=zh (.inl k6);clear k6 d7 d8;rw[<- uq HT6,if_pos (uq HC9)]at HOk HEk HLk;go_wp2_with fail
    (refine((uq TA) wr s (uq HGk) (uq HFk) (uq HPk) (uq HOk) (uq HLk)).mono ?_;rintro e wz ⟨rfl,hp,hf⟩;have HPz:=zh hp;have HFz:=zh ((uq HFk).trans hf);clear hp hf);go_wp2_with fail
    go_end0
    have h9:=uq HPz;rw[uq HEk]at h9;exact⟨rfl,h9,uq HFz⟩
   ·obtain rfl:n6=0:=by omega
    have g7:(v7 !=0)=false:=by simp[d7]
    have g8:(v8 !=0)=false:=by simp[d8]
    have HC9:Hid (¬(0<0\/v7≠0\/v8≠0)):=zh (λh=>h.elim k6 (λh=>h.elim (λh=>h d7) (λh=>h d8)));clear k6 d7 d8;rw[<- uq HT6,if_neg (uq HC9)]at HEk;go_wp2_with fail
    go_end0
    have h9:=uq HPk;have h8:s=fin:=uq HEk;rw[h8]at h9;exact⟨rfl,h9,uq HFk⟩
   ·have g6:(0:Int)<(n6:Int):=by omega
    have g7:(v7 !=0)=false:=by simp[d7]
    have g8:(v8 !=0)=true:=by simp[d8]
    have HC9:Hid (0<n6\/v7≠0\/v8≠0):=zh (.inl k6);clear k6 d7 d8;rw[<- uq HT6,if_pos (uq HC9)]at HOk HEk HLk;go_wp2_with fail
    (refine((uq TA) wr s (uq HGk) (uq HFk) (uq HPk) (uq HOk) (uq HLk)).mono ?_;rintro e wz ⟨rfl,hp,hf⟩;have HPz:=zh hp;have HFz:=zh ((uq HFk).trans hf);clear hp hf);go_wp2_with fail
    go_end0
    have h9:=uq HPz;rw[uq HEk]at h9;exact⟨rfl,h9,uq HFz⟩
   ·obtain rfl:n6=0:=by omega
    have g7:(v7 !=0)=false:=by simp[d7]
    have g8:(v8 !=0)=true:=by simp[d8]
    have HC9:Hid (0<0\/v7≠0\/v8≠0):=zh (.inr (.inr d8));clear k6 d7 d8;rw[<- uq HT6,if_pos (uq HC9)]at HOk HEk HLk;go_wp2_with fail
    (refine((uq TA) wr s (uq HGk) (uq HFk) (uq HPk) (uq HOk) (uq HLk)).mono ?_;rintro e wz ⟨rfl,hp,hf⟩;have HPz:=zh hp;have HFz:=zh ((uq HFk).trans hf);clear hp hf);go_wp2_with fail
    go_end0
    have h9:=uq HPz;rw[uq HEk]at h9;exact⟨rfl,h9,uq HFz⟩
   ·have g6:(0:Int)<(n6:Int):=by omega
    have g7:(v7 !=0)=true:=by simp[d7]
    have g8:(v8 !=0)=false:=by simp[d8]
    have HC9:Hid (0<n6\/v7≠0\/v8≠0):=zh (.inl k6);clear k6 d7 d8;rw[<- uq HT6,if_pos (uq HC9)]at HOk HEk HLk;go_wp2_with fail
    (refine((uq TA) wr s (uq HGk) (uq HFk) (uq HPk) (uq HOk) (uq HLk)).mono ?_;rintro e wz ⟨rfl,hp,hf⟩;have HPz:=zh hp;have HFz:=zh ((uq HFk).trans hf);clear hp hf);go_wp2_with fail
    go_end0
    have h9:=uq HPz;rw[uq HEk]at h9;exact⟨rfl,h9,uq HFz⟩
   ·obtain rfl:n6=0:=by omega
    have g7:(v7 !=0)=true:=by simp[d7]
    have g8:(v8 !=0)=false:=by simp[d8]
    have HC9:Hid (0<0\/v7≠0\/v8≠0):=zh (.inr (.inl d7));clear k6 d7 d8;rw[<- uq HT6,if_pos (uq HC9)]at HOk HEk HLk;go_wp2_with fail
    (refine((uq TA) wr s (uq HGk) (uq HFk) (uq HPk) (uq HOk) (uq HLk)).mono ?_;rintro e wz ⟨rfl,hp,hf⟩;have HPz:=zh hp;have HFz:=zh ((uq HFk).trans hf);clear hp hf);go_wp2_with fail
    go_end0
    have h9:=uq HPz;rw[uq HEk]at h9;exact⟨rfl,h9,uq HFz⟩
   ·have g6:(0:Int)<(n6:Int):=by omega
    have g7:(v7 !=0)=true:=by simp[d7]
    have g8:(v8 !=0)=true:=by simp[d8]
    have HC9:Hid (0<n6\/v7≠0\/v8≠0):=zh (.inl k6);clear k6 d7 d8;rw[<- uq HT6,if_pos (uq HC9)]at HOk HEk HLk;go_wp2_with fail
    (refine((uq TA) wr s (uq HGk) (uq HFk) (uq HPk) (uq HOk) (uq HLk)).mono ?_;rintro e wz ⟨rfl,hp,hf⟩;have HPz:=zh hp;have HFz:=zh ((uq HFk).trans hf);clear hp hf);go_wp2_with fail
    go_end0
    have h9:=uq HPz;rw[uq HEk]at h9;exact⟨rfl,h9,uq HFz⟩
   ·obtain rfl:n6=0:=by omega
    have g7:(v7 !=0)=true:=by simp[d7]
    have g8:(v8 !=0)=true:=by simp[d8]
    have HC9:Hid (0<0\/v7≠0\/v8≠0):=zh (.inr (.inl d7));clear k6 d7 d8;rw[<- uq HT6,if_pos (uq HC9)]at HOk HEk HLk;go_wp2_with fail
    (refine((uq TA) wr s (uq HGk) (uq HFk) (uq HPk) (uq HOk) (uq HLk)).mono ?_;rintro e wz ⟨rfl,hp,hf⟩;have HPz:=zh hp;have HFz:=zh ((uq HFk).trans hf);clear hp hf);go_wp2_with fail
    go_end0
    have h9:=uq HPz;rw[uq HEk]at h9;exact⟨rfl,h9,uq HFz⟩
end S
namespace S
def aw (n6:Nat) (S0 S1 S2:Nat->List UInt8) (V3 V4:Nat->Int) (v7 v8:Int):List (List UInt8):= [[97,114,116,101,114,121],[123]]++((List.range n6).flatMap (λk=> [[115,116,111,112],S0 k,[111,117,116],S1 k,[105,110],S2 k,[97,104,101,97,100],dg (V3 k),[98,97,99,107],dg (V4 k),[59]])++([[119,101,105,103,104,116,115],dg v7,dg v8,[59]]++ [[125]]))
set_option maxHeartbeats 32000000 in
theorem zgC (p:Nat) (v0 v1 v2 v3 v4:Int) (a5:Option Addr) (n5 c5:Nat) (a6:Option Addr) (n6 c6:Nat) (v7 v8:Int) (S0 S1 S2:Nat->List UInt8) (V3 V4 V5:Nat->Int) (st:St) (w:World) (G:World->Prop) (hN:Nc p G) (h6:n6<=1000)
  (HC:Hid (∀ k,k<n6->∃ ad,a6=some ad/\ad.block<p/\w.cell? (ad.add (k * 6))=some (.string (sv (S0 k)))/\w.cell? ⟨(ad.add (k * 6)).block,(ad.add (k * 6)).off+1,none⟩=some (.string (sv (S1 k)))/\w.cell? ⟨(ad.add (k * 6)).block,(ad.add (k * 6)).off+2,none⟩=some (.string (sv (S2 k)))/\w.cell? ⟨(ad.add (k * 6)).block,(ad.add (k * 6)).off+3,none⟩=some (.int .i64 (V3 k))/\w.cell? ⟨(ad.add (k * 6)).block,(ad.add (k * 6)).off+4,none⟩=some (.int .i64 (V4 k))/\w.cell? ⟨(ad.add (k * 6)).block,(ad.add (k * 6)).off+5,none⟩=some (.int .i64 (V5 k))))
  (RR:Hid (∀ k,k<n6->(-999999999999999999<=V3 k/\V3 k<=999999999999999999)/\(-999999999999999999<=V4 k/\V4 k<=999999999999999999))) (R7:Hid (-999999999999999999<=v7/\v7<=999999999999999999)) (R8:Hid (-999999999999999999<=v8/\v8<=999999999999999999))
  (HP:Hid (Ps w p st)) (HG:Hid (G w)) (HO:Hid (oks st (aw n6 S0 S1 S2 V3 V4 v7 v8))) (HL:Hid (st.out.length+zbt (aw n6 S0 S1 S2 V3 V4 v7 v8)<=1000000000)):
  Calls Tryz.prog 33 #[.pointer (some ⟨p,0,none⟩),.agg #[.int .i64 v0,.int .i64 v1,.int .i64 v2,.int .i64 v3,.int .i64 v4,.slice a5 n5 c5,.slice a6 n6 c6,.int .i64 v7,.int .i64 v8]] w λe w'=>e= .returned (.tuple #[])/\Ps w' p (pss st (aw n6 S0 S1 S2 V3 V4 v7 v8))/\Fb p w w':=by
 obtain⟨fin,HFin⟩:∃ fin,Hid (pss st (aw n6 S0 S1 S2 V3 V4 v7 v8)=fin):=⟨_,zh rfl⟩;rw[uq HFin];unfold aw at HO HL HFin
 obtain⟨t6,HT6⟩:∃ t,Hid (([[119,101,105,103,104,116,115],dg v7,dg v8,[59]]++ [[125]]:List (List UInt8))=t):=⟨_,zh rfl⟩;rw[uq HT6]at HO HL HFin;obtain⟨t0,HT0⟩:∃ t,Hid ((List.range n6).flatMap (λk=> [[115,116,111,112],S0 k,[111,117,116],S1 k,[105,110],S2 k,[97,104,101,97,100],dg (V3 k),[98,97,99,107],dg (V4 k),[59]])++t6=t):=⟨_,zh rfl⟩;rw[uq HT0]at HO HL HFin;rw[zaA]at HO;rw[zan]at HL;rw[<- zaE]at HFin;have HPL:=zh (Pr.lt (uq HP));have HF0:Hid (Fb p w (w.alloc (.cells #[.int .i64 v0,.int .i64 v1,.int .i64 v2,.int .i64 v3,.int .i64 v4,.slice a5 n5 c5,.slice a6 n6 c6,.int .i64 v7,.int .i64 v8] 27))):=zh (Fb.keep ((zk w).alloc _));have HP0:=zh ((uq HP).keep ((zk w).alloc (.cells #[.int .i64 v0,.int .i64 v1,.int .i64 v2,.int .i64 v3,.int .i64 v4,.slice a5 n5 c5,.slice a6 n6 c6,.int .i64 v7,.int .i64 v8] 27)));have HG0:=zh (hN.keep _ _ (uq HG) ((zk w).alloc (.cells #[.int .i64 v0,.int .i64 v1,.int .i64 v2,.int .i64 v3,.int .i64 v4,.slice a5 n5 c5,.slice a6 n6 c6,.int .i64 v7,.int .i64 v8] 27)));have HB0:=zh (heap_alloc_new w (.cells #[.int .i64 v0,.int .i64 v1,.int .i64 v2,.int .i64 v3,.int .i64 v4,.slice a5 n5 c5,.slice a6 n6 c6,.int .i64 v7,.int .i64 v8] 27));go_enter Tryz.func33,Tryz.ntmps33
 go_upto_region 1 with fail
 generalize w.alloc (.cells #[.int .i64 v0,.int .i64 v1,.int .i64 v2,.int .i64 v3,.int .i64 v4,.slice a5 n5 c5,.slice a6 n6 c6,.int .i64 v7,.int .i64 v8] 27)=w0 at HF0 HP0 HG0 HB0 |-;obtain⟨gb,HGb⟩:∃ gb,Hid (w.heap.size=gb):=⟨_,rfl⟩;rw[uq HGb]at HB0 |-;have HGP:Hid (gb≠p):=zh (by have:=uq HPL;have:=uq HGb;omega);go_wp2_with fail
 (have T9:=za9 (W:=w0) [[97,114,116,101,114,121],[123]] rfl (uq HP0) (by simp) (uq HO).1 (by have:=uq HL;omega);simp only[wc,List.map_cons,List.map_nil]at T9;refine T9.mono ?_;clear T9;rintro e w1 ⟨rfl,hp,hf⟩;have HP1:=zh hp;have HF1:=zh ((uq HF0).trans hf);have HG1:=zh (hN.fb _ _ (uq HG0) hf);have HB1:=zh (hf.words (uq HB0) (by decide) (uq HGP));clear hp hf)
 have HO1:=zh (uq HO).2;have HE1:=HFin;have HL1:Hid ((pss st [[97,114,116,101,114,121],[123]]).out.length+zbt t0<=1000000000):=zh (by have:=za3 _ _ (uq HO).1;have:=uq HL;omega);obtain⟨s1,HS1⟩:∃ s1,Hid (pss st [[97,114,116,101,114,121],[123]]=s1):=⟨_,rfl⟩;rw[uq HS1]at HO1 HE1 HL1 HP1;clear HO HL HFin HS1;have cg:w1.cell? ⟨gb,6,none⟩=some (.slice a6 n6 c6):=by simp[World.cell?,uq HB1]
 go_wp2_with fail
 clear cg;rw[<- uq HT0]at HO1 HE1 HL1
 go_loopw [12] (λvi wr=>∃(k:Nat) (s:St),k<=n6/\vi= .int .i64 (k:Int)/\Hid (Ps wr p s)/\Hid (G wr)/\Hid (oks s (((List.range n6).drop k).flatMap (λk=> [[115,116,111,112],S0 k,[111,117,116],S1 k,[105,110],S2 k,[97,104,101,97,100],dg (V3 k),[98,97,99,107],dg (V4 k),[59]])++t6))/\Hid (pss s (((List.range n6).drop k).flatMap (λk=> [[115,116,111,112],S0 k,[111,117,116],S1 k,[105,110],S2 k,[97,104,101,97,100],dg (V3 k),[98,97,99,107],dg (V4 k),[59]])++t6)=fin)/\Hid (s.out.length+zbt (((List.range n6).drop k).flatMap (λk=> [[115,116,111,112],S0 k,[111,117,116],S1 k,[105,110],S2 k,[97,104,101,97,100],dg (V3 k),[98,97,99,107],dg (V4 k),[59]])++t6)<=1000000000)/\Hid (Fb p w wr)/\Hid (wr.heap[gb]? =some (.cells #[.int .i64 v0,.int .i64 v1,.int .i64 v2,.int .i64 v3,.int .i64 v4,.slice a5 n5 c5,.slice a6 n6 c6,.int .i64 v7,.int .i64 v8] 27 (0,0)))) (λvi wr=>n6 - (intOf vi).toNat)
 case atStart=>exact⟨0,s1,Nat.zero_le _,rfl,HP1,HG1,zh (by rw[List.drop_zero];exact uq HO1),zh (by rw[List.drop_zero];exact uq HE1),zh (by rw[List.drop_zero];exact uq HL1),HF1,HB1⟩
 case round=>
  obtain⟨k,s,hk,rfl,HPk,HGk,HOk,HEk,HLk,HFk,HBk⟩:=hrel;by_cases hlt:k<n6
  ·have li:(k:Int)<(n6:Int):=by omega
   rw[zbG n6 k hlt,List.append_assoc]at HOk HEk HLk;obtain⟨rst,HRst⟩:∃ rst,Hid (((List.range n6).drop (k+1)).flatMap (λk=> [[115,116,111,112],S0 k,[111,117,116],S1 k,[105,110],S2 k,[97,104,101,97,100],dg (V3 k),[98,97,99,107],dg (V4 k),[59]])++t6=rst):=⟨_,zh rfl⟩;rw[uq HRst]at HOk HEk HLk;rw[zaA]at HOk;rw[zan]at HLk;rw[<- zaE]at HEk;have HLA:=zh (za3 _ _ (uq HOk).1);obtain⟨ad,ea,hadp,e0,e1,e2,e3,e4,e5⟩:=(uq HC) k hlt;subst ea;have x0:=zau (uq HFk) e0 (by rw[zag];exact hadp);have x1:=zau (uq HFk) e1 (by show(ad.add (k * 6)).block<p;rw[zag];exact hadp);have x2:=zau (uq HFk) e2 (by show(ad.add (k * 6)).block<p;rw[zag];exact hadp);have x3:=zau (uq HFk) e3 (by show(ad.add (k * 6)).block<p;rw[zag];exact hadp);have x4:=zau (uq HFk) e4 (by show(ad.add (k * 6)).block<p;rw[zag];exact hadp);have x5:=zau (uq HFk) e5 (by show(ad.add (k * 6)).block<p;rw[zag];exact hadp);clear e0 e1 e2 e3 e4 e5 hadp;have R3:=zh ((uq RR) k hlt).1;have R4:=zh ((uq RR) k hlt).2;obtain⟨Y0,HY0⟩:∃ Y,Hid (sv (S0 k)=Y):=⟨_,rfl⟩;rw[uq HY0]at x0;obtain⟨Y1,HY1⟩:∃ Y,Hid (sv (S1 k)=Y):=⟨_,rfl⟩;rw[uq HY1]at x1;obtain⟨Y2,HY2⟩:∃ Y,Hid (sv (S2 k)=Y):=⟨_,rfl⟩;rw[uq HY2]at x2;have HPa:=zh ((uq HPk).keep ((zk wr).alloc (.cells #[.string Y0,.string Y1,.string Y2,.int .i64 (V3 k),.int .i64 (V4 k),.int .i64 (V5 k)] 48)));have HGa:=zh (hN.keep _ _ (uq HGk) ((zk wr).alloc (.cells #[.string Y0,.string Y1,.string Y2,.int .i64 (V3 k),.int .i64 (V4 k),.int .i64 (V5 k)] 48)));have HFa:Hid (Fb p w (wr.alloc (.cells #[.string Y0,.string Y1,.string Y2,.int .i64 (V3 k),.int .i64 (V4 k),.int .i64 (V5 k)] 48))):=zh ((uq HFk).trans (Fb.keep ((zk wr).alloc _)));have HBa:Hid ((wr.alloc (.cells #[.string Y0,.string Y1,.string Y2,.int .i64 (V3 k),.int .i64 (V4 k),.int .i64 (V5 k)] 48)).heap[gb]? =some (.cells #[.int .i64 v0,.int .i64 v1,.int .i64 v2,.int .i64 v3,.int .i64 v4,.slice a5 n5 c5,.slice (some ad) n6 c6,.int .i64 v7,.int .i64 v8] 27 (0,0))):=zh (by rw[heap_alloc_old _ _ (Array.getElem?_eq_some_iff.1 (uq HBk)).1];exact uq HBk);have HXa:=zh (heap_alloc_new wr (.cells #[.string Y0,.string Y1,.string Y2,.int .i64 (V3 k),.int .i64 (V4 k),.int .i64 (V5 k)] 48));have HNp:Hid (wr.heap.size≠p):=zh (by have:=Pr.lt (uq HPk);omega)
   go_upto_region 5 with fail
   generalize wr.alloc (.cells #[.string Y0,.string Y1,.string Y2,.int .i64 (V3 k),.int .i64 (V4 k),.int .i64 (V5 k)] 48)=wa at HPa HGa HFa HBa HXa |-;generalize wr.heap.size=qb at HXa HNp |-;clear x0 x1 x2 x3 x4 x5;have HBX:Hid (∀ w':World,w'.heap[qb]? =some (.cells #[.string Y0,.string Y1,.string Y2,.int .i64 (V3 k),.int .i64 (V4 k),.int .i64 (V5 k)] 48 (0,0))->w'.cell? ⟨qb,0,none⟩=some (.string Y0)/\w'.cell? ⟨qb,1,none⟩=some (.string Y1)/\w'.cell? ⟨qb,2,none⟩=some (.string Y2)/\w'.cell? ⟨qb,3,none⟩=some (.int .i64 (V3 k))/\w'.cell? ⟨qb,4,none⟩=some (.int .i64 (V4 k))/\w'.cell? ⟨qb,5,none⟩=some (.int .i64 (V5 k))):=zh (λw' h=>⟨by simp[World.cell?,h],by simp[World.cell?,h],by simp[World.cell?,h],by simp[World.cell?,h],by simp[World.cell?,h],by simp[World.cell?,h]⟩);refine wp_region_held_drew (S:=λw'=>w'.cell? ⟨qb,0,none⟩=some (.string Y0)/\w'.cell? ⟨qb,1,none⟩=some (.string Y1)/\w'.cell? ⟨qb,2,none⟩=some (.string Y2)/\w'.cell? ⟨qb,3,none⟩=some (.int .i64 (V3 k))/\w'.cell? ⟨qb,4,none⟩=some (.int .i64 (V4 k))/\w'.cell? ⟨qb,5,none⟩=some (.int .i64 (V5 k))) (by kernel_rfl) (by exact(uq HBX) _ (uq HXa)) (λzH=>?_);refine tk6 0 16 1 17 2 18 3 19 4 20 5 21 zH ?_;try simp only[Yq]
   refine tk4 6 22 7 23 8 24 10 26 zH ?_;try simp only[Yq]
   refine tkk 11 27 zH ?_;try simp only[Yq]
   have HP_0:=zh ((uq HPa).keep (zk wa).drew);have HF_0:=zh ((uq HFa).trans (Fb.keep (zk wa).drew));have HG_0:=zh (hN.keep _ _ (uq HGa) (zk wa).drew);have HB_0:Hid (wa.drew.heap[gb]? =some (.cells #[.int .i64 v0,.int .i64 v1,.int .i64 v2,.int .i64 v3,.int .i64 v4,.slice a5 n5 c5,.slice (some ad) n6 c6,.int .i64 v7,.int .i64 v8] 27 (0,0))):=HBa;have HX_0:Hid (wa.drew.heap[qb]? =some (.cells #[.string Y0,.string Y1,.string Y2,.int .i64 (V3 k),.int .i64 (V4 k),.int .i64 (V5 k)] 48 (0,0))):=HXa;generalize wa.drew=u0 at HP_0 HF_0 HG_0 HB_0 HX_0 |-;refine zaq 9 (λK hK=>?_);go_simp;clear zH;(refine(hN.num (V3 k) _ (uq R3).1 (uq R3).2 (uq HG_0)).mono ?_;rintro e u1 ⟨rfl,hk9⟩;have HP_1:=zh ((uq HP_0).keep hk9);have HF_1:=zh ((uq HF_0).trans (Fb.keep hk9));have HG_1:=zh (hN.keep _ _ (uq HG_0) hk9);have HB_1:Hid (u1.heap[gb]? =some (.cells #[.int .i64 v0,.int .i64 v1,.int .i64 v2,.int .i64 v3,.int .i64 v4,.slice a5 n5 c5,.slice (some ad) n6 c6,.int .i64 v7,.int .i64 v8] 27 (0,0))):=zh (by rw[hk9.block _ (Array.getElem?_eq_some_iff.1 (uq HB_0)).1];exact uq HB_0);have HX_1:Hid (u1.heap[qb]? =some (.cells #[.string Y0,.string Y1,.string Y2,.int .i64 (V3 k),.int .i64 (V4 k),.int .i64 (V5 k)] 48 (0,0))):=zh (by rw[hk9.block _ (Array.getElem?_eq_some_iff.1 (uq HX_0)).1];exact uq HX_0);clear hk9);try go_wp2_with fail
   refine hK.out _ _ ?_ (λzH=>?_)
   ·exact(uq HBX) _ (uq HX_1)
   clear hK K;try simp only[Yq]
   refine zaq 12 (λK hK=>?_);go_simp;clear zH;(refine(hN.num (V4 k) _ (uq R4).1 (uq R4).2 (uq HG_1)).mono ?_;rintro e u2 ⟨rfl,hk9⟩;have HP_2:=zh ((uq HP_1).keep hk9);have HF_2:=zh ((uq HF_1).trans (Fb.keep hk9));have HG_2:=zh (hN.keep _ _ (uq HG_1) hk9);have HB_2:Hid (u2.heap[gb]? =some (.cells #[.int .i64 v0,.int .i64 v1,.int .i64 v2,.int .i64 v3,.int .i64 v4,.slice a5 n5 c5,.slice (some ad) n6 c6,.int .i64 v7,.int .i64 v8] 27 (0,0))):=zh (by rw[hk9.block _ (Array.getElem?_eq_some_iff.1 (uq HB_1)).1];exact uq HB_1);have HX_2:Hid (u2.heap[qb]? =some (.cells #[.string Y0,.string Y1,.string Y2,.int .i64 (V3 k),.int .i64 (V4 k),.int .i64 (V5 k)] 48 (0,0))):=zh (by rw[hk9.block _ (Array.getElem?_eq_some_iff.1 (uq HX_1)).1];exact uq HX_1);clear hk9);try go_wp2_with fail
   refine hK.out _ _ ?_ (λzH=>?_)
   ·exact(uq HBX) _ (uq HX_2)
   clear hK K;try simp only[Yq]
   refine zaq 13 (λK hK=>?_);go_simp;clear zH;refine hK.out _ _ ?_ (λzH=>?_)
   ·exact(uq HBX) _ (by rw[heap_alloc_old _ _ (Array.getElem?_eq_some_iff.1 (uq HX_2)).1];exact uq HX_2)
   clear hK K;try simp only[Yq]
   refine zaq 14 (λK hK=>?_);go_simp;clear zH
   (have T9:=za9 (W:=u2) [[115,116,111,112],S0 k,[111,117,116],S1 k,[105,110],S2 k,[97,104,101,97,100],dg (V3 k),[98,97,99,107],dg (V4 k),[59]] rfl (uq HP_2) (by simp) (uq HOk).1 (by have:=uq HLk;omega);simp only[wc,List.map_cons,List.map_nil]at T9;rw[uq HY0,uq HY1,uq HY2]at T9;refine T9.mono ?_;clear T9;rintro e wz ⟨rfl,hp,hf⟩;have HPz:=zh hp;have HFz:=zh ((uq HF_2).trans hf);have HGz:=zh (hN.fb _ _ (uq HG_2) hf);have HBz:=zh (hf.words (uq HB_2) (by decide) (uq HGP));have HXz:=zh (hf.words (uq HX_2) (by decide) (uq HNp));clear hp hf)
   try go_wp2_with fail
   refine hK.out _ _ ?_ (λzH=>?_)
   ·exact(uq HBX) _ (uq HXz)
   clear hK K;try simp only[Yq]
   refine wpAnyH_done (by kernel_rfl) ?_ _;clear zH;clear HBX HP_0 HF_0 HG_0 HB_0 HX_0 HP_1 HF_1 HG_1 HB_1 HX_1 HP_2 HF_2 HG_2 HB_2 HX_2;go_wp2_with fail
   go_roundw
   case rel=>
    refine⟨k+1,_,hlt,by go_num,HPz,HGz,zh ?_,zh ?_,zh ?_,HFz,HBz⟩
    ·rw[uq HRst];exact(uq HOk).2
    ·rw[uq HRst];exact uq HEk
    ·rw[uq HRst];have:=uq HLk;have:=uq HLA;omega
   case measure=>simp[intOf];omega
  ·rw[zci n6 k hlt,List.nil_append]at HOk HEk HLk;rw[<- uq HT6]at HOk HEk HLk;rw[zaA]at HOk;rw[zan]at HLk;rw[<- zaE]at HEk;have HLA:=zh (za3 _ _ (uq HOk).1)
   go_upto_region 7 with fail
   have HBX:Hid (∀ w':World,w'.heap[gb]? =some (.cells #[.int .i64 v0,.int .i64 v1,.int .i64 v2,.int .i64 v3,.int .i64 v4,.slice a5 n5 c5,.slice a6 n6 c6,.int .i64 v7,.int .i64 v8] 27 (0,0))->w'.cell? ⟨gb,0,none⟩=some (.int .i64 v0)/\w'.cell? ⟨gb,1,none⟩=some (.int .i64 v1)/\w'.cell? ⟨gb,2,none⟩=some (.int .i64 v2)/\w'.cell? ⟨gb,3,none⟩=some (.int .i64 v3)/\w'.cell? ⟨gb,4,none⟩=some (.int .i64 v4)/\w'.cell? ⟨gb,5,none⟩=some (.slice a5 n5 c5)/\w'.cell? ⟨gb,6,none⟩=some (.slice a6 n6 c6)/\w'.cell? ⟨gb,7,none⟩=some (.int .i64 v7)/\w'.cell? ⟨gb,8,none⟩=some (.int .i64 v8)):=zh (λw' h=>⟨by simp[World.cell?,h],by simp[World.cell?,h],by simp[World.cell?,h],by simp[World.cell?,h],by simp[World.cell?,h],by simp[World.cell?,h],by simp[World.cell?,h],by simp[World.cell?,h],by simp[World.cell?,h]⟩);refine wp_region_held_drew (S:=λw'=>w'.cell? ⟨gb,0,none⟩=some (.int .i64 v0)/\w'.cell? ⟨gb,1,none⟩=some (.int .i64 v1)/\w'.cell? ⟨gb,2,none⟩=some (.int .i64 v2)/\w'.cell? ⟨gb,3,none⟩=some (.int .i64 v3)/\w'.cell? ⟨gb,4,none⟩=some (.int .i64 v4)/\w'.cell? ⟨gb,5,none⟩=some (.slice a5 n5 c5)/\w'.cell? ⟨gb,6,none⟩=some (.slice a6 n6 c6)/\w'.cell? ⟨gb,7,none⟩=some (.int .i64 v7)/\w'.cell? ⟨gb,8,none⟩=some (.int .i64 v8)) (by kernel_rfl) (by exact(uq HBX) _ (uq HBk)) (λzH=>?_);refine tk4 0 32 1 33 2 34 4 36 zH ?_;try simp only[Yq]
   refine tkk 5 37 zH ?_;try simp only[Yq]
   have HP_0:=zh ((uq HPk).keep (zk wr).drew);have HF_0:=zh ((uq HFk).trans (Fb.keep (zk wr).drew));have HG_0:=zh (hN.keep _ _ (uq HGk) (zk wr).drew);have HB_0:Hid (wr.drew.heap[gb]? =some (.cells #[.int .i64 v0,.int .i64 v1,.int .i64 v2,.int .i64 v3,.int .i64 v4,.slice a5 n5 c5,.slice a6 n6 c6,.int .i64 v7,.int .i64 v8] 27 (0,0))):=HBk;generalize wr.drew=u0 at HP_0 HF_0 HG_0 HB_0 |-;refine zaq 3 (λK hK=>?_);go_simp;clear zH;(refine(hN.num v7 _ (uq R7).1 (uq R7).2 (uq HG_0)).mono ?_;rintro e u1 ⟨rfl,hk9⟩;have HP_1:=zh ((uq HP_0).keep hk9);have HF_1:=zh ((uq HF_0).trans (Fb.keep hk9));have HG_1:=zh (hN.keep _ _ (uq HG_0) hk9);have HB_1:Hid (u1.heap[gb]? =some (.cells #[.int .i64 v0,.int .i64 v1,.int .i64 v2,.int .i64 v3,.int .i64 v4,.slice a5 n5 c5,.slice a6 n6 c6,.int .i64 v7,.int .i64 v8] 27 (0,0))):=zh (by rw[hk9.block _ (Array.getElem?_eq_some_iff.1 (uq HB_0)).1];exact uq HB_0);clear hk9);try go_wp2_with fail
   refine hK.out _ _ ?_ (λzH=>?_)
   ·exact(uq HBX) _ (uq HB_1)
   clear hK K;try simp only[Yq]
   refine zaq 6 (λK hK=>?_);go_simp;clear zH;(refine(hN.num v8 _ (uq R8).1 (uq R8).2 (uq HG_1)).mono ?_;rintro e u2 ⟨rfl,hk9⟩;have HP_2:=zh ((uq HP_1).keep hk9);have HF_2:=zh ((uq HF_1).trans (Fb.keep hk9));have HG_2:=zh (hN.keep _ _ (uq HG_1) hk9);have HB_2:Hid (u2.heap[gb]? =some (.cells #[.int .i64 v0,.int .i64 v1,.int .i64 v2,.int .i64 v3,.int .i64 v4,.slice a5 n5 c5,.slice a6 n6 c6,.int .i64 v7,.int .i64 v8] 27 (0,0))):=zh (by rw[hk9.block _ (Array.getElem?_eq_some_iff.1 (uq HB_1)).1];exact uq HB_1);clear hk9);try go_wp2_with fail
   refine hK.out _ _ ?_ (λzH=>?_)
   ·exact(uq HBX) _ (uq HB_2)
   clear hK K;try simp only[Yq]
   refine zaq 7 (λK hK=>?_);go_simp;clear zH;refine hK.out _ _ ?_ (λzH=>?_)
   ·exact(uq HBX) _ (by rw[heap_alloc_old _ _ (Array.getElem?_eq_some_iff.1 (uq HB_2)).1];exact uq HB_2)
   clear hK K;try simp only[Yq]
   refine zaq 8 (λK hK=>?_);go_simp;clear zH
   (have T9:=za9 (W:=u2) [[119,101,105,103,104,116,115],dg v7,dg v8,[59]] rfl (uq HP_2) (by simp) (uq HOk).1 (by have:=uq HLk;omega);simp only[wc,List.map_cons,List.map_nil]at T9;refine T9.mono ?_;clear T9;rintro e wz ⟨rfl,hp,hf⟩;have HPz:=zh hp;have HFz:=zh ((uq HF_2).trans hf);have HGz:=zh (hN.fb _ _ (uq HG_2) hf);have HBz:=zh (hf.words (uq HB_2) (by decide) (uq HGP));clear hp hf)
   try go_wp2_with fail
   refine hK.out _ _ ?_ (λzH=>?_)
   ·exact(uq HBX) _ (uq HBz)
   clear hK K;try simp only[Yq]
   refine wpAnyH_done (by kernel_rfl) ?_ _;clear zH;clear HBX HP_0 HF_0 HG_0 HB_0 HP_1 HF_1 HG_1 HB_1 HP_2 HF_2 HG_2 HB_2;go_wp2_with fail
   (have T9:=za9 (W:=wz) [[125]] rfl (uq HPz) (by simp) (uq HOk).2 (by have:=uq HLk;have:=uq HLA;omega);simp only[wc,List.map_cons,List.map_nil]at T9;refine T9.mono ?_;clear T9;rintro e wy ⟨rfl,hp,hf⟩;have HPy:=zh hp;have HFy:=zh ((uq HFz).trans hf);clear hp hf)
   go_wp2_with fail
   go_end0
   have h9:=uq HPy;rw[uq HEk]at h9;exact⟨rfl,h9,uq HFy⟩
end S
end Go.Proofs.YthceiikgecoimaaGreatDoor
