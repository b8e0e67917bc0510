/- ValidOnce over letters. -/
import Derived.Test.YtpdcabfabghbkaaVAw
import Derived.Test.YtpdcabfabghbkaaLMath
import Derived.Test.YtpdcabfabghbkaaVFwT
import Derived.Test.YtpdcabfabghbkaaVCt
import Derived.Deep.DrawnRows
import Derived.Deep.RegionHeld3
namespace Go.Proofs.Ytpdcabfabghbkaa
open Go.RowKit
attribute [local go_sem ↓] Go.wp_at_zero Go.wp_at_succ
set_option linter.unusedVariables false
set_option linter.unusedSimpArgs false
set_option maxRecDepth 10000
namespace V
open S
theorem kcl {w w2:World} (k:Keep w w2) {a:Addr} {v:Value} (h:w.cell? a=some v):w2.cell? a=some v:=by rw[Below.cell k (World.block_lt_of_cell? w a h)];exact h
set_option maxHeartbeats 4000000 in
theorem zig (a0 a1 a2 a3 a4:Int) (aN:Option Addr) (nN cN:Nat) (aS:Option Addr) (nS cS:Nat) (a5 a6:Int) (r p:Int) (w:World) (hr:¬r=0)
  (TF:Hid (∀ w',Keep w w'→Calls Try.prog 7 #[.agg #[.int .i64 a0,.int .i64 a1,.int .i64 a2,.int .i64 a3,.int .i64 a4,.slice aN nN cN,.slice aS nS cS,.int .i64 a5,.int .i64 a6]] w' (Ak w')))
  (TC:Hid (∀ w',Keep w w'→Calls Try.prog 8 #[.agg #[.int .i64 a0,.int .i64 a1,.int .i64 a2,.int .i64 a3,.int .i64 a4,.slice aN nN cN,.slice aS nS cS,.int .i64 a5,.int .i64 a6]] w' fun e w''=>e= .returned (.tuple #[.int .i64 r,.int .i64 p])∧Keep w' w''))
  (TA:Hid (∀ w',Calls Try.prog 10 #[] w' fun e w''=>e= .returned (.bool true)∧Keep w' w'')):
  Calls Try.prog 5 #[.agg #[.int .i64 a0,.int .i64 a1,.int .i64 a2,.int .i64 a3,.int .i64 a4,.slice aN nN cN,.slice aS nS cS,.int .i64 a5,.int .i64 a6]] w fun e w'=>e= .returned (.bool true)∧Keep w w':=by
 have hnw:=heap_alloc_new w (.cells #[.int .i64 a0,.int .i64 a1,.int .i64 a2,.int .i64 a3,.int .i64 a4,.slice aN nN cN,.slice aS nS cS,.int .i64 a5,.int .i64 a6] 27);have K1:=hide ((Keep.refl w).alloc (.cells #[.int .i64 a0,.int .i64 a1,.int .i64 a2,.int .i64 a3,.int .i64 a4,.slice aN nN cN,.slice aS nS cS,.int .i64 a5,.int .i64 a6] 27));go_enter Try.func5,Try.ntmps5
 go_upto_region 1 with fail
 generalize w.alloc (.cells #[.int .i64 a0,.int .i64 a1,.int .i64 a2,.int .i64 a3,.int .i64 a4,.slice aN nN cN,.slice aS nS cS,.int .i64 a5,.int .i64 a6] 27)=w1 at hnw K1 ⊢;obtain⟨x,HXX⟩:∃ x,Hid (w.heap.size=x):=⟨_,hide rfl⟩;rw[uq HXX]at hnw ⊢;have HX:Hid (∀ w':World,Keep w1 w'→w'.cell? ⟨x,0,none⟩=some (.int .i64 a0)∧w'.cell? ⟨x,1,none⟩=some (.int .i64 a1)∧w'.cell? ⟨x,2,none⟩=some (.int .i64 a2)∧w'.cell? ⟨x,3,none⟩=some (.int .i64 a3)∧w'.cell? ⟨x,4,none⟩=some (.int .i64 a4)∧w'.cell? ⟨x,5,none⟩=some (.slice aN nN cN)∧w'.cell? ⟨x,6,none⟩=some (.slice aS nS cS)∧w'.cell? ⟨x,7,none⟩=some (.int .i64 a5)∧w'.cell? ⟨x,8,none⟩=some (.int .i64 a6)):=hide (fun w' k9=>by have h:=k9.block x (Array.getElem?_eq_some_iff.1 hnw).1;rw[hnw]at h;refine⟨?_,?_,?_,?_,?_,?_,?_,?_,?_⟩<;>simp[World.cell?,h]);clear hnw;obtain⟨f0,f1,f2,f3,f4,f5,f6,f7,f8⟩:=(uq HX) w1 (Keep.refl _);go_wp2_with fail
 (refine((uq TF) _ (uq K1)).mono ?_;rintro e w2 ⟨b,rfl,hk⟩;have L2:=hide hk;have K2:=hide ((uq K1).trans hk);clear hk);clear f0 f1 f2 f3 f4 f5 f6 f7 f8;cases b
 ·go_wp2_with fail
  go_ret;exact⟨rfl,uq K2⟩
 obtain⟨f0,f1,f2,f3,f4,f5,f6,f7,f8⟩:=(uq HX) w2 (uq L2);go_wp2_with fail
 (refine((uq TC) _ (uq K2)).mono ?_;rintro e w3 ⟨rfl,hk⟩;have L3:=hide ((uq L2).trans hk);have K3:=hide ((uq K2).trans hk);clear hk);clear f0 f1 f2 f3 f4 f5 f6 f7 f8;go_wp2_with fail
 (refine((uq TA) _).mono ?_;rintro e w9 ⟨rfl,hk9⟩);go_wp2_with fail
 go_ret;exact⟨rfl,(uq K3).trans hk9⟩
set_option maxHeartbeats 16000000 in
theorem ze8 (a0 a1 a2 a3 a4:Int) (aN:Option Addr) (nN cN:Nat) (aS:Option Addr) (nS cS:Nat) (a5 a6:Int) (T:Nat→List UInt8) (X1 X2 X3 X4 X5:Nat→Option Addr) (N1 C1 N2 C2 N3 C3 N4 C4 N5 C5:Nat→Nat) (P:Nat→Int) (HT:Nat→Nat→List UInt8) (PT:Nat→Nat→List UInt8) (PA:Nat→Nat→Option Addr) (PN PC:Nat→Nat→Nat) (PH:Nat→Nat→Nat→List UInt8) (FA FB:Nat→Nat→List UInt8) (hA hB:Nat→Nat→Int) (w:World) (hn:nN≤9223372036854775807)
  (HC:Hid (∀ k,k<nN→∃ ad,aN=some ad∧ad.block<w.heap.size∧w.cell? (ad.add (k * 7))=some (.string (sv (T k)))∧w.cell? ⟨(ad.add (k * 7)).block,(ad.add (k * 7)).off+1,none⟩=some (.slice (X1 k) (N1 k) (C1 k))∧w.cell? ⟨(ad.add (k * 7)).block,(ad.add (k * 7)).off+2,none⟩=some (.slice (X2 k) (N2 k) (C2 k))∧w.cell? ⟨(ad.add (k * 7)).block,(ad.add (k * 7)).off+3,none⟩=some (.slice (X3 k) (N3 k) (C3 k))∧w.cell? ⟨(ad.add (k * 7)).block,(ad.add (k * 7)).off+4,none⟩=some (.slice (X4 k) (N4 k) (C4 k))∧w.cell? ⟨(ad.add (k * 7)).block,(ad.add (k * 7)).off+5,none⟩=some (.slice (X5 k) (N5 k) (C5 k))∧w.cell? ⟨(ad.add (k * 7)).block,(ad.add (k * 7)).off+6,none⟩=some (.int .i64 (P k))))
  (HZ:Hid (∀ k,k<nN→N1 k≤9223372036854775807∧N3 k≤9223372036854775807∧N5 k≤9223372036854775807∧∀ m,m<N3 k→PN k m≤9223372036854775807))
  (HH:Hid (∀ k,k<nN→∀ h,h<N1 k→∃ hd,X1 k=some hd∧hd.block<w.heap.size∧w.cell? (hd.add (h * 11))=some (.string (sv (HT k h)))))
  (HP:Hid (∀ k,k<nN→∀ m,m<N3 k→∃ bd,X3 k=some bd∧bd.block<w.heap.size∧w.cell? (bd.add (m * 3))=some (.string (sv (PT k m)))∧w.cell? ⟨(bd.add (m * 3)).block,(bd.add (m * 3)).off+1,none⟩=some (.slice (PA k m) (PN k m) (PC k m))))
  (HO:Hid (∀ k,k<nN→∀ m,m<N3 k→∀ o,o<PN k m→∃ cd,PA k m=some cd∧cd.block<w.heap.size∧w.cell? (cd.add o)=some (.string (sv (PH k m o)))))
  (HF:Hid (∀ k,k<nN→∀ f,f<N5 k→∃ fd,X5 k=some fd∧fd.block<w.heap.size∧w.cell? (fd.add (f * 3))=some (.string (sv (FA k f)))∧w.cell? ⟨(fd.add (f * 3)).block,(fd.add (f * 3)).off+1,none⟩=some (.string (sv (FB k f)))))
  (H1:Hid (∀ k,k<nN→∀ h,h<N1 k→sm (fun m=>cq (fun o=>PH k m o==HT k h) (PN k m)) (N3 k)=1))
  (TQ:Hid (∀ k,k<nN→∀ m,m<N3 k→∀ w',Keep w w'→Calls Try.prog 19 #[.agg #[.string (sv (T k)),.slice (X1 k) (N1 k) (C1 k),.slice (X2 k) (N2 k) (C2 k),.slice (X3 k) (N3 k) (C3 k),.slice (X4 k) (N4 k) (C4 k),.slice (X5 k) (N5 k) (C5 k),.int .i64 (P k)],.string (sv (PT k m))] w' fun e w''=>e= .returned (.int .i64 1)∧Keep w' w''))
  (TH:Hid (∀ k,k<nN→∀ f,f<N5 k→∀ w',Keep w w'→(Calls Try.prog 17 #[.agg #[.string (sv (T k)),.slice (X1 k) (N1 k) (C1 k),.slice (X2 k) (N2 k) (C2 k),.slice (X3 k) (N3 k) (C3 k),.slice (X4 k) (N4 k) (C4 k),.slice (X5 k) (N5 k) (C5 k),.int .i64 (P k)],.string (sv (FA k f))] w' fun e w''=>e= .returned (.int .i64 (hA k f))∧Keep w' w'')∧(Calls Try.prog 17 #[.agg #[.string (sv (T k)),.slice (X1 k) (N1 k) (C1 k),.slice (X2 k) (N2 k) (C2 k),.slice (X3 k) (N3 k) (C3 k),.slice (X4 k) (N4 k) (C4 k),.slice (X5 k) (N5 k) (C5 k),.int .i64 (P k)],.string (sv (FB k f))] w' fun e w''=>e= .returned (.int .i64 (hB k f))∧Keep w' w'')))
  (HN:Hid (∀ k,k<nN→∀ f,f<N5 k→(hA k f==hB k f)=false∧decide (hA k f<0)=false))
  (TF:Hid (∀ w',Keep w w'→Calls Try.prog 7 #[.agg #[.int .i64 a0,.int .i64 a1,.int .i64 a2,.int .i64 a3,.int .i64 a4,.slice aN nN cN,.slice aS nS cS,.int .i64 a5,.int .i64 a6]] w' (Ak w')))
  (TC:Hid (∀ w',Keep w w'→Calls Try.prog 8 #[.agg #[.int .i64 a0,.int .i64 a1,.int .i64 a2,.int .i64 a3,.int .i64 a4,.slice aN nN cN,.slice aS nS cS,.int .i64 a5,.int .i64 a6]] w' fun e w''=>e= .returned (.tuple #[.int .i64 0,.int .i64 0])∧Keep w' w''))
  (TA:Hid (∀ w',Calls Try.prog 10 #[] w' fun e w''=>e= .returned (.bool true)∧Keep w' w'')):
  Calls Try.prog 5 #[.agg #[.int .i64 a0,.int .i64 a1,.int .i64 a2,.int .i64 a3,.int .i64 a4,.slice aN nN cN,.slice aS nS cS,.int .i64 a5,.int .i64 a6]] w fun e w'=>e= .returned (.bool true)∧Keep w w':=by
 have hnw:=heap_alloc_new w (.cells #[.int .i64 a0,.int .i64 a1,.int .i64 a2,.int .i64 a3,.int .i64 a4,.slice aN nN cN,.slice aS nS cS,.int .i64 a5,.int .i64 a6] 27);have K1:=hide ((Keep.refl w).alloc (.cells #[.int .i64 a0,.int .i64 a1,.int .i64 a2,.int .i64 a3,.int .i64 a4,.slice aN nN cN,.slice aS nS cS,.int .i64 a5,.int .i64 a6] 27));go_enter Try.func5,Try.ntmps5
 go_upto_region 1 with fail
 generalize w.alloc (.cells #[.int .i64 a0,.int .i64 a1,.int .i64 a2,.int .i64 a3,.int .i64 a4,.slice aN nN cN,.slice aS nS cS,.int .i64 a5,.int .i64 a6] 27)=w1 at hnw K1 ⊢;obtain⟨x,HXX⟩:∃ x,Hid (w.heap.size=x):=⟨_,hide rfl⟩;rw[uq HXX]at hnw ⊢;have HX:Hid (∀ w':World,Keep w1 w'→w'.cell? ⟨x,0,none⟩=some (.int .i64 a0)∧w'.cell? ⟨x,1,none⟩=some (.int .i64 a1)∧w'.cell? ⟨x,2,none⟩=some (.int .i64 a2)∧w'.cell? ⟨x,3,none⟩=some (.int .i64 a3)∧w'.cell? ⟨x,4,none⟩=some (.int .i64 a4)∧w'.cell? ⟨x,5,none⟩=some (.slice aN nN cN)∧w'.cell? ⟨x,6,none⟩=some (.slice aS nS cS)∧w'.cell? ⟨x,7,none⟩=some (.int .i64 a5)∧w'.cell? ⟨x,8,none⟩=some (.int .i64 a6)):=hide (fun w' k9=>by have h:=k9.block x (Array.getElem?_eq_some_iff.1 hnw).1;rw[hnw]at h;refine⟨?_,?_,?_,?_,?_,?_,?_,?_,?_⟩<;>simp[World.cell?,h]);clear hnw;obtain⟨f0,f1,f2,f3,f4,f5,f6,f7,f8⟩:=(uq HX) w1 (Keep.refl _);go_wp2_with fail
 (refine((uq TF) _ (uq K1)).mono ?_;rintro e w2 ⟨b,rfl,hk⟩;have L2:=hide hk;have K2:=hide ((uq K1).trans hk);clear hk);clear f0 f1 f2 f3 f4 f5 f6 f7 f8;cases b
 ·go_wp2_with fail
  go_ret;exact⟨rfl,uq K2⟩
 obtain⟨f0,f1,f2,f3,f4,f5,f6,f7,f8⟩:=(uq HX) w2 (uq L2);go_wp2_with fail
 (refine((uq TC) _ (uq K2)).mono ?_;rintro e w3 ⟨rfl,hk⟩;have L3:=hide ((uq L2).trans hk);have K3:=hide ((uq K2).trans hk);clear hk);clear f0 f1 f2 f3 f4 f5 f6 f7 f8;go_wp2_with fail
 go_loopw [5] (fun iv wr=>∃ k:Nat,iv= .int .i64 (k:Int)∧k≤nN∧Hid (Keep w3 wr)) (fun iv _=>nN - (intOf iv).toNat)
 case atStart=>exact⟨0,rfl,Nat.zero_le _,hide (Keep.refl _)⟩
 case round=>
  obtain⟨k,rfl,hk,KR⟩:=hrel;have LR:=hide ((uq L3).trans (uq KR));have KW:=hide ((uq K3).trans (uq KR));obtain⟨f0,f1,f2,f3,f4,f5,f6,f7,f8⟩:=(uq HX) wr (uq LR);by_cases hlt:k<nN
  ·have li:(k:Int)<(nN:Int):=by omega
   obtain⟨ad,hA0,hb,e0,e1,e2,e3,e4,e5,e6⟩:=(uq HC) k hlt;have x0:=zab (uq KW) (by rw[zaa];exact hb) e0;have x1:=zab (uq KW) (by show(ad.add (k * 7)).block<_;rw[zaa];exact hb) e1;have x2:=zab (uq KW) (by show(ad.add (k * 7)).block<_;rw[zaa];exact hb) e2;have x3:=zab (uq KW) (by show(ad.add (k * 7)).block<_;rw[zaa];exact hb) e3;have x4:=zab (uq KW) (by show(ad.add (k * 7)).block<_;rw[zaa];exact hb) e4;have x5:=zab (uq KW) (by show(ad.add (k * 7)).block<_;rw[zaa];exact hb) e5;have x6:=zab (uq KW) (by show(ad.add (k * 7)).block<_;rw[zaa];exact hb) e6;rw[hA0]at f5;clear hA0 e0 e1 e2 e3 e4 e5 e6;obtain⟨z1,z3,z5,zp⟩:=(uq HZ) k hlt;have ZP:=hide zp;clear zp;have hbx:=heap_alloc_new wr (.cells #[.string (sv (T k)),.slice (X1 k) (N1 k) (C1 k),.slice (X2 k) (N2 k) (C2 k),.slice (X3 k) (N3 k) (C3 k),.slice (X4 k) (N4 k) (C4 k),.slice (X5 k) (N5 k) (C5 k),.int .i64 (P k)] 40);have KB:=hide ((uq KW).alloc (.cells #[.string (sv (T k)),.slice (X1 k) (N1 k) (C1 k),.slice (X2 k) (N2 k) (C2 k),.slice (X3 k) (N3 k) (C3 k),.slice (X4 k) (N4 k) (C4 k),.slice (X5 k) (N5 k) (C5 k),.int .i64 (P k)] 40));have KA:=hide ((uq KR).alloc (.cells #[.string (sv (T k)),.slice (X1 k) (N1 k) (C1 k),.slice (X2 k) (N2 k) (C2 k),.slice (X3 k) (N3 k) (C3 k),.slice (X4 k) (N4 k) (C4 k),.slice (X5 k) (N5 k) (C5 k),.int .i64 (P k)] 40))
   go_upto_region 10 with fail
   generalize wr.alloc (.cells #[.string (sv (T k)),.slice (X1 k) (N1 k) (C1 k),.slice (X2 k) (N2 k) (C2 k),.slice (X3 k) (N3 k) (C3 k),.slice (X4 k) (N4 k) (C4 k),.slice (X5 k) (N5 k) (C5 k),.int .i64 (P k)] 40)=wa at hbx KB KA ⊢;obtain⟨q,HQ⟩:∃ q,Hid (wr.heap.size=q):=⟨_,hide rfl⟩;rw[uq HQ]at hbx ⊢;have HB:Hid (∀ w':World,Keep wa w'→w'.cell? ⟨q,0,none⟩=some (.string (sv (T k)))∧w'.cell? ⟨q,1,none⟩=some (.slice (X1 k) (N1 k) (C1 k))∧w'.cell? ⟨q,2,none⟩=some (.slice (X2 k) (N2 k) (C2 k))∧w'.cell? ⟨q,3,none⟩=some (.slice (X3 k) (N3 k) (C3 k))∧w'.cell? ⟨q,4,none⟩=some (.slice (X4 k) (N4 k) (C4 k))∧w'.cell? ⟨q,5,none⟩=some (.slice (X5 k) (N5 k) (C5 k))∧w'.cell? ⟨q,6,none⟩=some (.int .i64 (P k))):=hide (fun w' k9=>by have h:=k9.block q (Array.getElem?_eq_some_iff.1 hbx).1;rw[hbx]at h;refine⟨?_,?_,?_,?_,?_,?_,?_⟩<;>simp[World.cell?,h]);clear hbx f0 f1 f2 f3 f4 f5 f6 f7 f8 x0 x1 x2 x3 x4 x5 x6;obtain⟨wk,HWK⟩:∃ wk,Hid (wk=wr):=⟨wr,hide rfl⟩;rw[← uq HWK]at KR LR KW;clear HQ HWK;go_wp2_with fail
   go_loopw [7] (fun hv wr=>∃ h:Nat,hv= .int .i64 (h:Int)∧h≤N1 k∧Hid (Keep wa wr)) (fun hv _=>N1 k - (intOf hv).toNat)
   case atStart=>exact⟨0,rfl,Nat.zero_le _,hide (Keep.refl _)⟩
   case round=>
    obtain⟨h,rfl,hh,KH⟩:=hrel;have KV:=hide ((uq KB).trans (uq KH));obtain⟨g0,g1,g2,g3,g4,g5,g6⟩:=(uq HB) wr (uq KH);by_cases hlh:h<N1 k
    ·have lh:(h:Int)<(N1 k:Int):=by omega
     obtain⟨hd,hX1,hbh,r0⟩:=(uq HH) k hlt h hlh;obtain⟨G,HG⟩:∃ G:Nat→Nat,Hid (G=fun m=>cq (fun o=>PH k m o==HT k h) (PN k m)):=⟨_,hide rfl⟩;have HGm:Hid (∀ m,G m=cq (fun o=>PH k m o==HT k h) (PN k m)):=hide (fun m=>by rw[uq HG]);have HG1:Hid (sm G (N3 k)=1):=hide (by rw[uq HG];exact(uq H1) k hlt h hlh);have R0:=hide r0;clear HG r0;go_wp2_with fail
     clear g0 g1 g2 g3 g4 g5 g6;obtain⟨wh,rfl⟩:∃ wh,wh=wr:=⟨wr,rfl⟩
     go_loopw [8,9] (fun nv mv wr=>∃ m:Nat,mv= .int .i64 (m:Int)∧m≤N3 k∧nv= .int .i64 ((sm G m:Nat):Int)∧Hid (Keep wa wr)) (fun _ mv _=>N3 k - (intOf mv).toNat)
     case atStart=>exact⟨0,rfl,Nat.zero_le _,rfl,KH⟩
     case round=>
      obtain⟨m,rfl,hm,rfl,KM⟩:=hrel;clear KV;have KV:=hide ((uq KB).trans (uq KM));obtain⟨_,_,_,G3,_,_,_⟩:=(uq HB) wr (uq KM);by_cases hlm:m<N3 k
      ·have lm:(m:Int)<(N3 k:Int):=by omega
       obtain⟨bd,hX3,hbb,_,r1⟩:=(uq HP) k hlt m hlm;have d1:=zab (uq KV) (by show(bd.add (m * 3)).block<_;rw[zaa];exact hbb) r1;rw[hX3]at G3;have zpm:=(uq ZP) m hlm;have R1:=hide r1;clear r1;have HGi:Hid (G m=cq (fun o=>PH k m o==HT k h) (PN k m)):=hide ((uq HGm) m);go_wp2_with fail
       clear G3 d1;obtain⟨wm,rfl⟩:∃ wm,wm=wr:=⟨wr,rfl⟩
       go_loopw [8,10] (fun nv ov wr=>∃ o:Nat,ov= .int .i64 (o:Int)∧o≤PN k m∧nv= .int .i64 ((sm G m+cq (fun o=>PH k m o==HT k h) o:Nat):Int)∧Hid (Keep wa wr)) (fun _ ov _=>PN k m - (intOf ov).toNat)
       case atStart=>exact⟨0,rfl,Nat.zero_le _,rfl,KM⟩
       case round=>
        obtain⟨o,rfl,ho,rfl,KO⟩:=hrel;clear KV;have KV:=hide ((uq KB).trans (uq KO));obtain⟨_,G1,_,G3,_,_,_⟩:=(uq HB) wr (uq KO);rw[hX3]at G3;rw[hX1]at G1;have d1:=zab (uq KV) (by show(bd.add (m * 3)).block<_;rw[zaa];exact hbb) (uq R1);by_cases hlo:o<PN k m
        ·have lo:(o:Int)<(PN k m:Int):=by omega
         obtain⟨cd,hPA,hbc,t0⟩:=(uq HO) k hlt m hlm o hlo;have t1:=zab (uq KV) (by rw[zaa];exact hbc) t0;have c1:=zab (uq KV) (by rw[zaa];exact hbh) (uq R0);have d2:=d1;rw[hPA]at d2;clear d1 t0;have hpart:=zj1 (f:=(fun o=>PH k m o==HT k h)) hlm (uq HGi) (show o+1≤PN k m from hlo);have hsucc:cq (fun o=>PH k m o==HT k h) (o+1)=cq (fun o=>PH k m o==HT k h) o+if(PH k m o==HT k h)then 1 else 0:=rfl
         rw[hsucc]at hpart;clear hsucc;cases hq:(PH k m o==HT k h)with
         |true=>
          have hsq:((sv (PH k m o)).toList==(sv (HT k h)).toList)=true:=by rw[zbW];exact hq
          have HQQ:=hide hq;rw[hq]at hpart;simp only[if_true]at hpart;have hbd:((sm G m+cq (fun o=>PH k m o==HT k h) o:Nat):Int)≤1000:=by have:=uq HG1;omega
          obtain⟨V,hV⟩:∃ V:Nat,sm G m+cq (fun o=>PH k m o==HT k h) o=V:=⟨_,rfl⟩;rw[hV]at hbd ⊢;have HV:=hide hV;clear hq hV hpart;go_wp2_with fail
          refine wp_region_held_drew (S:=(fun w'=>w'.cell? ⟨q,3,none⟩=some (.slice (some bd) (N3 k) (C3 k))∧w'.cell? ⟨(bd.add (m * 3)).block,(bd.add (m * 3)).off+1,none⟩=some (.slice (some cd) (PN k m) (PC k m))∧w'.cell? (cd.add o)=some (.string (sv (PH k m o)))∧w'.cell? ⟨q,1,none⟩=some (.slice (some hd) (N1 k) (C1 k))∧w'.cell? (hd.add (h * 11))=some (.string (sv (HT k h))))) (by kernel_rfl) (by exact⟨kcl (Keep.refl wr).drew G3,kcl (Keep.refl wr).drew d2,kcl (Keep.refl wr).drew t1,kcl (Keep.refl wr).drew G1,kcl (Keep.refl wr).drew c1⟩) (fun hHeld=>?_);refine tkk 0 61 hHeld ?_;try simp only[Act.put,Ya,Yb,Yc]
          refine tkk 1 62 hHeld ?_;try simp only[Act.put,Ya,Yb,Yc]
          refine tkk 2 63 hHeld ?_;try simp only[Act.put,Ya,Yb,Yc]
          refine tkk 3 64 hHeld ?_;try simp only[Act.put,Ya,Yb,Yc]
          refine tkk 4 65 hHeld ?_;try simp only[Act.put,Ya,Yb,Yc]
          refine tkk 5 66 hHeld ?_;try simp only[Act.put,Ya,Yb,Yc]
          refine tkk 6 67 hHeld ?_;try simp only[Act.put,Ya,Yb,Yc]
          refine tkk 7 68 hHeld ?_;try simp only[Act.put,Ya,Yb,Yc]
          refine tkk 8 69 hHeld ?_;try simp only[Act.put,Ya,Yb,Yc]
          refine tkk 9 70 hHeld ?_;try simp only[Act.put,Ya,Yb,Yc]
          refine tkk 10 71 hHeld ?_;try simp only[Act.put,Ya,Yb,Yc]
          refine tkk 11 72 hHeld ?_;try simp only[Act.put,Ya,Yb,Yc]
          refine tkk 12 73 hHeld ?_;try simp only[Act.put,Ya,Yb,Yc]
          refine tkk 13 74 hHeld ?_;try simp only[Act.put,Ya,Yb,Yc]
          refine tkk 14 75 hHeld ?_;try simp only[Act.put,Ya,Yb,Yc]
          refine tkk 15 76 hHeld ?_;try simp only[Act.put,Ya,Yb,Yc]
          refine wpAnyH_done (by kernel_rfl) ?_ _;clear hHeld;go_wp2_with fail
          go_roundw
          case rel=>exact⟨o+1,by go_num,hlo,by rw[show cq (fun o=>PH k m o==HT k h) (o+1)=cq (fun o=>PH k m o==HT k h) o+1 by show _+(if(PH k m o==HT k h)then 1 else 0)=_;rw[uq HQQ];rfl,← Nat.add_assoc,uq HV];go_num,hide (uq KO).drew⟩
          case measure=>simp[intOf];omega
         |false=>
          have hsq:((sv (PH k m o)).toList==(sv (HT k h)).toList)=false:=by rw[zbW];exact hq
          have HQQ:=hide hq;obtain⟨V,hV⟩:∃ V:Nat,sm G m+cq (fun o=>PH k m o==HT k h) o=V:=⟨_,rfl⟩;rw[hV];have HV:=hide hV;clear hq hV hpart;go_wp2_with fail
          refine wp_region_held_drew (S:=(fun w'=>w'.cell? ⟨q,3,none⟩=some (.slice (some bd) (N3 k) (C3 k))∧w'.cell? ⟨(bd.add (m * 3)).block,(bd.add (m * 3)).off+1,none⟩=some (.slice (some cd) (PN k m) (PC k m))∧w'.cell? (cd.add o)=some (.string (sv (PH k m o)))∧w'.cell? ⟨q,1,none⟩=some (.slice (some hd) (N1 k) (C1 k))∧w'.cell? (hd.add (h * 11))=some (.string (sv (HT k h))))) (by kernel_rfl) (by exact⟨kcl (Keep.refl wr).drew G3,kcl (Keep.refl wr).drew d2,kcl (Keep.refl wr).drew t1,kcl (Keep.refl wr).drew G1,kcl (Keep.refl wr).drew c1⟩) (fun hHeld=>?_);refine tkk 0 61 hHeld ?_;try simp only[Act.put,Ya,Yb,Yc]
          refine tkk 1 62 hHeld ?_;try simp only[Act.put,Ya,Yb,Yc]
          refine tkk 2 63 hHeld ?_;try simp only[Act.put,Ya,Yb,Yc]
          refine tkk 3 64 hHeld ?_;try simp only[Act.put,Ya,Yb,Yc]
          refine tkk 4 65 hHeld ?_;try simp only[Act.put,Ya,Yb,Yc]
          refine tkk 5 66 hHeld ?_;try simp only[Act.put,Ya,Yb,Yc]
          refine tkk 6 67 hHeld ?_;try simp only[Act.put,Ya,Yb,Yc]
          refine tkk 7 68 hHeld ?_;try simp only[Act.put,Ya,Yb,Yc]
          refine tkk 8 69 hHeld ?_;try simp only[Act.put,Ya,Yb,Yc]
          refine tkk 9 70 hHeld ?_;try simp only[Act.put,Ya,Yb,Yc]
          refine tkk 10 71 hHeld ?_;try simp only[Act.put,Ya,Yb,Yc]
          refine tkk 11 72 hHeld ?_;try simp only[Act.put,Ya,Yb,Yc]
          refine tkk 12 73 hHeld ?_;try simp only[Act.put,Ya,Yb,Yc]
          refine tkk 13 74 hHeld ?_;try simp only[Act.put,Ya,Yb,Yc]
          refine tkk 14 75 hHeld ?_;try simp only[Act.put,Ya,Yb,Yc]
          refine tkk 15 76 hHeld ?_;try simp only[Act.put,Ya,Yb,Yc]
          refine wpAnyH_done (by kernel_rfl) ?_ _;clear hHeld;go_wp2_with fail
          go_roundw
          case rel=>exact⟨o+1,by go_num,hlo,by rw[show cq (fun o=>PH k m o==HT k h) (o+1)=cq (fun o=>PH k m o==HT k h) o by show _+(if(PH k m o==HT k h)then 1 else 0)=_;rw[uq HQQ];rfl,uq HV],hide (uq KO).drew⟩
          case measure=>simp[intOf];omega
        ·have lo:¬(o:Int)<(PN k m:Int):=by omega
         have hoo:o=PN k m:=by omega
         subst hoo;go_wp2_with fail
         go_roundw
         case rel=>exact⟨m+1,by go_num,hlm,by rw[show sm G (m+1)=sm G m+G m from rfl,uq HGi],KO⟩
         case measure=>simp[intOf];omega
      ·have lm:¬(m:Int)<(N3 k:Int):=by omega
       have hmm:m=N3 k:=by omega
       subst hmm;have hone:((sm G (N3 k):Nat):Int)=1:=by have:=uq HG1;omega
       rw[hone];clear hone;go_wp2_with fail
       go_roundw
       case rel=>exact⟨h+1,by go_num,hlh,KM⟩
       case measure=>simp[intOf];omega
    ·have lh:¬(h:Int)<(N1 k:Int):=by omega
     have lhd:decide ((h:Int)<(N1 k:Int))=false:=by simp;omega
     go_wp2_with fail
     clear g0 g1 g2 g3 g4 g5 g6;obtain⟨wh,rfl⟩:∃ wh,wh=wr:=⟨wr,rfl⟩
     go_loopw [11] (fun mv wr=>∃ m:Nat,mv= .int .i64 (m:Int)∧m≤N3 k∧Hid (Keep wa wr)) (fun mv _=>N3 k - (intOf mv).toNat)
     case atStart=>exact⟨0,rfl,Nat.zero_le _,KH⟩
     case round=>
      obtain⟨m,rfl,hm,KM⟩:=hrel;clear KV;have KV:=hide ((uq KB).trans (uq KM));obtain⟨g0,g1,g2,g3,g4,g5,g6⟩:=(uq HB) wr (uq KM);by_cases hlm:m<N3 k
      ·have lm:(m:Int)<(N3 k:Int):=by omega
       obtain⟨bd,hX3,hbb,r0,_⟩:=(uq HP) k hlt m hlm;have d0:=zab (uq KV) (by rw[zaa];exact hbb) r0;rw[hX3]at g3;have TQ1:=(uq TQ) k hlt m hlm;rw[hX3]at TQ1;have TQ2:=hide TQ1;have HS:Hid (∀ w':World,Keep wr w'→w'.cell? ⟨q,0,none⟩=some (.string (sv (T k)))∧w'.cell? ⟨q,1,none⟩=some (.slice (X1 k) (N1 k) (C1 k))∧w'.cell? ⟨q,2,none⟩=some (.slice (X2 k) (N2 k) (C2 k))∧w'.cell? ⟨q,3,none⟩=some (.slice (some bd) (N3 k) (C3 k))∧w'.cell? ⟨q,4,none⟩=some (.slice (X4 k) (N4 k) (C4 k))∧w'.cell? ⟨q,5,none⟩=some (.slice (X5 k) (N5 k) (C5 k))∧w'.cell? ⟨q,6,none⟩=some (.int .i64 (P k))∧w'.cell? (bd.add (m * 3))=some (.string (sv (PT k m)))):=hide (fun w' k9=>⟨kcl k9 g0,kcl k9 g1,kcl k9 g2,kcl k9 g3,kcl k9 g4,kcl k9 g5,kcl k9 g6,kcl k9 d0⟩);clear TQ1 hX3 r0 d0 g0 g1 g2 g4 g5 g6;go_wp2_with fail
       refine wp_region_held_drew (S:=(fun w'=>w'.cell? ⟨q,0,none⟩=some (.string (sv (T k)))∧w'.cell? ⟨q,1,none⟩=some (.slice (X1 k) (N1 k) (C1 k))∧w'.cell? ⟨q,2,none⟩=some (.slice (X2 k) (N2 k) (C2 k))∧w'.cell? ⟨q,3,none⟩=some (.slice (some bd) (N3 k) (C3 k))∧w'.cell? ⟨q,4,none⟩=some (.slice (X4 k) (N4 k) (C4 k))∧w'.cell? ⟨q,5,none⟩=some (.slice (X5 k) (N5 k) (C5 k))∧w'.cell? ⟨q,6,none⟩=some (.int .i64 (P k))∧w'.cell? (bd.add (m * 3))=some (.string (sv (PT k m))))) (by kernel_rfl) (by exact(uq HS) _ (Keep.refl wr).drew) (fun hHeld=>?_);refine tkk 0 88 hHeld ?_;try simp only[Act.put,Ya,Yb,Yc]
       refine tkk 1 89 hHeld ?_;try simp only[Act.put,Ya,Yb,Yc]
       refine tkk 2 90 hHeld ?_;try simp only[Act.put,Ya,Yb,Yc]
       refine tkk 3 91 hHeld ?_;try simp only[Act.put,Ya,Yb,Yc]
       refine tkk 4 92 hHeld ?_;try simp only[Act.put,Ya,Yb,Yc]
       refine tkk 5 93 hHeld ?_;try simp only[Act.put,Ya,Yb,Yc]
       refine tkk 6 94 hHeld ?_;try simp only[Act.put,Ya,Yb,Yc]
       refine zaz 7 (fun K hK=>?_);go_simp;clear hHeld;(refine((uq TQ2) _ (uq KV).drew).mono ?_;rintro e y1 ⟨rfl,hk9⟩;have Z1:=hide ((Keep.refl wr).drew.trans hk9);clear hk9);try go_wp2_with fail
       refine hK.out _ _ ?_ (fun hHeld=>?_)
       ·exact(uq HS) _ (uq Z1)
       clear hK K;try simp only[Act.put,Ya,Yb,Yc]
       refine tkk 8 96 hHeld ?_;try simp only[Act.put,Ya,Yb,Yc]
       refine wpAnyH_done (by kernel_rfl) ?_ _;clear hHeld;go_wp2_with fail
       go_roundw
       case rel=>exact⟨m+1,by go_num,hlm,hide ((uq KM).trans (uq Z1))⟩
       case measure=>simp[intOf];omega
      ·have lm:¬(m:Int)<(N3 k:Int):=by omega
       have lmd:decide ((m:Int)<(N3 k:Int))=false:=by simp;omega
       go_wp2_with fail
       clear g0 g1 g2 g3 g4 g5 g6;obtain⟨wm,rfl⟩:∃ wm,wm=wr:=⟨wr,rfl⟩
       go_loopw [12] (fun fv wr=>∃ f:Nat,fv= .int .i64 (f:Int)∧f≤N5 k∧Hid (Keep wa wr)) (fun fv _=>N5 k - (intOf fv).toNat)
       case atStart=>exact⟨0,rfl,Nat.zero_le _,KM⟩
       case round=>
        obtain⟨f,rfl,hf,KF⟩:=hrel;clear KV;have KV:=hide ((uq KB).trans (uq KF));obtain⟨g0,g1,g2,g3,g4,g5,g6⟩:=(uq HB) wr (uq KF);by_cases hlf:f<N5 k
        ·have lf:(f:Int)<(N5 k:Int):=by omega
         obtain⟨fd,hX5,hbf,r0,r1⟩:=(uq HF) k hlt f hlf;have d0:=zab (uq KV) (by rw[zaa];exact hbf) r0;have d1:=zab (uq KV) (by show(fd.add (f * 3)).block<_;rw[zaa];exact hbf) r1;rw[hX5]at g5;have TH1:=(uq TH) k hlt f hlf;rw[hX5]at TH1;have TH2:=hide TH1;obtain⟨hne,hge⟩:=(uq HN) k hlt f hlf;have HS:Hid (∀ w':World,Keep wr w'→w'.cell? ⟨q,0,none⟩=some (.string (sv (T k)))∧w'.cell? ⟨q,1,none⟩=some (.slice (X1 k) (N1 k) (C1 k))∧w'.cell? ⟨q,2,none⟩=some (.slice (X2 k) (N2 k) (C2 k))∧w'.cell? ⟨q,3,none⟩=some (.slice (X3 k) (N3 k) (C3 k))∧w'.cell? ⟨q,4,none⟩=some (.slice (X4 k) (N4 k) (C4 k))∧w'.cell? ⟨q,5,none⟩=some (.slice (some fd) (N5 k) (C5 k))∧w'.cell? ⟨q,6,none⟩=some (.int .i64 (P k))∧w'.cell? (fd.add (f * 3))=some (.string (sv (FA k f)))∧w'.cell? ⟨(fd.add (f * 3)).block,(fd.add (f * 3)).off+1,none⟩=some (.string (sv (FB k f)))):=hide (fun w' k9=>⟨kcl k9 g0,kcl k9 g1,kcl k9 g2,kcl k9 g3,kcl k9 g4,kcl k9 g5,kcl k9 g6,kcl k9 d0,kcl k9 d1⟩);clear TH1 hX5 r0 r1 d0 d1 g0 g1 g2 g3 g4 g6;go_wp2_with fail
         refine wp_region_held_drew (S:=(fun w'=>w'.cell? ⟨q,0,none⟩=some (.string (sv (T k)))∧w'.cell? ⟨q,1,none⟩=some (.slice (X1 k) (N1 k) (C1 k))∧w'.cell? ⟨q,2,none⟩=some (.slice (X2 k) (N2 k) (C2 k))∧w'.cell? ⟨q,3,none⟩=some (.slice (X3 k) (N3 k) (C3 k))∧w'.cell? ⟨q,4,none⟩=some (.slice (X4 k) (N4 k) (C4 k))∧w'.cell? ⟨q,5,none⟩=some (.slice (some fd) (N5 k) (C5 k))∧w'.cell? ⟨q,6,none⟩=some (.int .i64 (P k))∧w'.cell? (fd.add (f * 3))=some (.string (sv (FA k f)))∧w'.cell? ⟨(fd.add (f * 3)).block,(fd.add (f * 3)).off+1,none⟩=some (.string (sv (FB k f))))) (by kernel_rfl) (by exact(uq HS) _ (Keep.refl wr).drew) (fun hHeld=>?_);refine tkk 0 104 hHeld ?_;try simp only[Act.put,Ya,Yb,Yc]
         refine tkk 1 105 hHeld ?_;try simp only[Act.put,Ya,Yb,Yc]
         refine tkk 2 106 hHeld ?_;try simp only[Act.put,Ya,Yb,Yc]
         refine tkk 3 107 hHeld ?_;try simp only[Act.put,Ya,Yb,Yc]
         refine tkk 4 108 hHeld ?_;try simp only[Act.put,Ya,Yb,Yc]
         refine tkk 5 109 hHeld ?_;try simp only[Act.put,Ya,Yb,Yc]
         refine tkk 6 110 hHeld ?_;try simp only[Act.put,Ya,Yb,Yc]
         refine tkk 8 112 hHeld ?_;try simp only[Act.put,Ya,Yb,Yc]
         refine tkk 9 113 hHeld ?_;try simp only[Act.put,Ya,Yb,Yc]
         refine tkk 10 114 hHeld ?_;try simp only[Act.put,Ya,Yb,Yc]
         refine tkk 11 115 hHeld ?_;try simp only[Act.put,Ya,Yb,Yc]
         refine tkk 12 116 hHeld ?_;try simp only[Act.put,Ya,Yb,Yc]
         refine tkk 13 117 hHeld ?_;try simp only[Act.put,Ya,Yb,Yc]
         refine tkk 14 118 hHeld ?_;try simp only[Act.put,Ya,Yb,Yc]
         refine zaz 7 (fun K hK=>?_);go_simp;clear hHeld;(refine((uq TH2) _ (uq KV).drew).1.mono ?_;rintro e y1 ⟨rfl,hk9⟩;have Z1:=hide ((Keep.refl wr).drew.trans hk9);clear hk9);try go_wp2_with fail
         refine hK.out _ _ ?_ (fun hHeld=>?_)
         ·exact(uq HS) _ (uq Z1)
         clear hK K;try simp only[Act.put,Ya,Yb,Yc]
         refine zaz 15 (fun K hK=>?_);go_simp;clear hHeld;(refine((uq TH2) _ ((uq KV).trans (uq Z1))).2.mono ?_;rintro e y2 ⟨rfl,hk9⟩;have Z2:=hide ((uq Z1).trans hk9);clear hk9);try go_wp2_with fail
         refine hK.out _ _ ?_ (fun hHeld=>?_)
         ·exact(uq HS) _ (uq Z2)
         clear hK K;try simp only[Act.put,Ya,Yb,Yc]
         refine tkk 16 120 hHeld ?_;try simp only[Act.put,Ya,Yb,Yc]
         refine tkk 17 121 hHeld ?_;try simp only[Act.put,Ya,Yb,Yc]
         refine tkk 18 122 hHeld ?_;try simp only[Act.put,Ya,Yb,Yc]
         refine tkk 19 123 hHeld ?_;try simp only[Act.put,Ya,Yb,Yc]
         refine tkk 20 124 hHeld ?_;try simp only[Act.put,Ya,Yb,Yc]
         refine tkk 21 125 hHeld ?_;try simp only[Act.put,Ya,Yb,Yc]
         refine tkk 22 126 hHeld ?_;try simp only[Act.put,Ya,Yb,Yc]
         refine tkk 23 127 hHeld ?_;try simp only[Act.put,Ya,Yb,Yc]
         refine tkk 24 128 hHeld ?_;try simp only[Act.put,Ya,Yb,Yc]
         refine zaz 25 (fun K hK=>?_);go_simp;clear hHeld;(refine((uq TH2) _ ((uq KV).trans (uq Z2))).1.mono ?_;rintro e y3 ⟨rfl,hk9⟩;have Z3:=hide ((uq Z2).trans hk9);clear hk9);try go_wp2_with fail
         refine hK.out _ _ ?_ (fun hHeld=>?_)
         ·exact(uq HS) _ (uq Z3)
         clear hK K;try simp only[Act.put,Ya,Yb,Yc]
         refine tkk 26 130 hHeld ?_;try simp only[Act.put,Ya,Yb,Yc]
         refine tkk 27 131 hHeld ?_;try simp only[Act.put,Ya,Yb,Yc]
         refine wpAnyH_done (by kernel_rfl) ?_ _;clear hHeld;go_wp2_with fail
         go_roundw
         case rel=>exact⟨f+1,by go_num,hlf,hide ((uq KF).trans (uq Z3))⟩
         case measure=>simp[intOf];omega
        ·have lf:¬(f:Int)<(N5 k:Int):=by omega
         go_wp2_with fail
         go_roundw
         case rel=>exact⟨k+1,by go_num,hlt,hide ((uq KA).trans (uq KF))⟩
         case measure=>simp[intOf];omega
  ·have li:¬(k:Int)<(nN:Int):=by omega
   go_wp2_with fail
   (refine((uq TA) _).mono ?_;rintro e w9 ⟨rfl,hk9⟩);go_wp2_with fail
   go_ret;exact⟨rfl,(uq KW).trans hk9⟩
end V
end Go.Proofs.Ytpdcabfabghbkaa
