/- ValidParts over letters. -/
import Derived.Test.YtpdcabfabghbkaaVAw
import Derived.Test.YtpdcabfabghbkaaVFwT
import Derived.Deep.DrawnRows
import Derived.Deep.RegionHeld3
namespace Go.Proofs.Ytpdcabfabghbkaa
open Go.RowKit
attribute [local go_sem ↓] Go.wp_at_zero Go.wp_at_succ
set_option linter.unusedVariables false
set_option linter.unusedSimpArgs false
set_option maxRecDepth 10000
namespace V
open S
set_option maxHeartbeats 4000000 in
theorem zft (a0 a1 a2 a3 a4:Int) (aN:Option Addr) (nN cN:Nat) (aS:Option Addr) (nS cS:Nat) (a5 a6:Int) (r p:Int) (w:World) (hr:¬r=0)
  (TF:Hid (∀ w',Keep w w'→Calls Try.prog 7 #[.agg #[.int .i64 a0,.int .i64 a1,.int .i64 a2,.int .i64 a3,.int .i64 a4,.slice aN nN cN,.slice aS nS cS,.int .i64 a5,.int .i64 a6]] w' (Ak w')))
  (TC:Hid (∀ w',Keep w w'→Calls Try.prog 8 #[.agg #[.int .i64 a0,.int .i64 a1,.int .i64 a2,.int .i64 a3,.int .i64 a4,.slice aN nN cN,.slice aS nS cS,.int .i64 a5,.int .i64 a6]] w' fun e w''=>e= .returned (.tuple #[.int .i64 r,.int .i64 p])∧Keep w' w''))
  (TA:Hid (∀ w',Calls Try.prog 10 #[] w' fun e w''=>e= .returned (.bool true)∧Keep w' w'')):
  Calls Try.prog 6 #[.agg #[.int .i64 a0,.int .i64 a1,.int .i64 a2,.int .i64 a3,.int .i64 a4,.slice aN nN cN,.slice aS nS cS,.int .i64 a5,.int .i64 a6]] w fun e w'=>e= .returned (.bool true)∧Keep w w':=by
 have n1:=heap_alloc_new w (.cells #[.int .i64 a0,.int .i64 a1,.int .i64 a2,.int .i64 a3,.int .i64 a4,.slice aN nN cN,.slice aS nS cS,.int .i64 a5,.int .i64 a6] 27);have K1:=hide ((Keep.refl w).alloc (.cells #[.int .i64 a0,.int .i64 a1,.int .i64 a2,.int .i64 a3,.int .i64 a4,.slice aN nN cN,.slice aS nS cS,.int .i64 a5,.int .i64 a6] 27));go_enter Try.func6,Try.ntmps6
 go_upto_region 1 with fail
 generalize w.alloc (.cells #[.int .i64 a0,.int .i64 a1,.int .i64 a2,.int .i64 a3,.int .i64 a4,.slice aN nN cN,.slice aS nS cS,.int .i64 a5,.int .i64 a6] 27)=w1 at n1 K1 ⊢;obtain⟨x,HXX⟩:∃ x,Hid (w.heap.size=x):=⟨_,hide rfl⟩;rw[uq HXX]at n1 ⊢;have HX:Hid (∀ w':World,Keep w1 w'→w'.cell? ⟨x,0,none⟩=some (.int .i64 a0)∧w'.cell? ⟨x,1,none⟩=some (.int .i64 a1)∧w'.cell? ⟨x,2,none⟩=some (.int .i64 a2)∧w'.cell? ⟨x,3,none⟩=some (.int .i64 a3)∧w'.cell? ⟨x,4,none⟩=some (.int .i64 a4)∧w'.cell? ⟨x,5,none⟩=some (.slice aN nN cN)∧w'.cell? ⟨x,6,none⟩=some (.slice aS nS cS)∧w'.cell? ⟨x,7,none⟩=some (.int .i64 a5)∧w'.cell? ⟨x,8,none⟩=some (.int .i64 a6)):=hide (fun w' k9=>by have h:=k9.block x (Array.getElem?_eq_some_iff.1 n1).1;rw[n1]at h;refine⟨?_,?_,?_,?_,?_,?_,?_,?_,?_⟩<;>simp[World.cell?,h]);clear n1;obtain⟨f0,f1,f2,f3,f4,f5,f6,f7,f8⟩:=(uq HX) w1 (Keep.refl _);go_wp2_with fail
 (refine((uq TF) _ (uq K1)).mono ?_;rintro e w2 ⟨b,rfl,hk⟩;have L2:=hide hk;have K2:=hide ((uq K1).trans hk);clear hk);clear f0 f1 f2 f3 f4 f5 f6 f7 f8;cases b
 ·go_wp2_with fail
  go_ret;exact⟨rfl,uq K2⟩
 obtain⟨f0,f1,f2,f3,f4,f5,f6,f7,f8⟩:=(uq HX) w2 (uq L2);go_wp2_with fail
 (refine((uq TC) _ (uq K2)).mono ?_;rintro e w3 ⟨rfl,hk⟩;have L3:=hide ((uq L2).trans hk);have K3:=hide ((uq K2).trans hk);clear hk);clear f0 f1 f2 f3 f4 f5 f6 f7 f8;go_wp2_with fail
 (refine((uq TA) _).mono ?_;rintro e w9 ⟨rfl,hk9⟩);go_wp2_with fail
 go_ret;exact⟨rfl,(uq K3).trans hk9⟩
set_option maxHeartbeats 8000000 in
theorem zdQ (a0 a1 a2 a3 a4:Int) (aN:Option Addr) (nN cN:Nat) (aS:Option Addr) (nS cS:Nat) (a5 a6:Int) (T:Nat→List UInt8) (X1 X2 X3 X4 X5:Nat→Option Addr) (N1 C1 N2 C2 N3 C3 N4 C4 N5 C5:Nat→Nat) (P:Nat→Int) (w:World) (hn:nN≤9223372036854775807)
  (HC:Hid (∀ k,k<nN→∃ ad,aN=some ad∧ad.block<w.heap.size∧w.cell? (ad.add (k * 7))=some (.string (sv (T k)))∧w.cell? ⟨(ad.add (k * 7)).block,(ad.add (k * 7)).off+1,none⟩=some (.slice (X1 k) (N1 k) (C1 k))∧w.cell? ⟨(ad.add (k * 7)).block,(ad.add (k * 7)).off+2,none⟩=some (.slice (X2 k) (N2 k) (C2 k))∧w.cell? ⟨(ad.add (k * 7)).block,(ad.add (k * 7)).off+3,none⟩=some (.slice (X3 k) (N3 k) (C3 k))∧w.cell? ⟨(ad.add (k * 7)).block,(ad.add (k * 7)).off+4,none⟩=some (.slice (X4 k) (N4 k) (C4 k))∧w.cell? ⟨(ad.add (k * 7)).block,(ad.add (k * 7)).off+5,none⟩=some (.slice (X5 k) (N5 k) (C5 k))∧w.cell? ⟨(ad.add (k * 7)).block,(ad.add (k * 7)).off+6,none⟩=some (.int .i64 (P k))))
  (TF:Hid (∀ w',Keep w w'→Calls Try.prog 7 #[.agg #[.int .i64 a0,.int .i64 a1,.int .i64 a2,.int .i64 a3,.int .i64 a4,.slice aN nN cN,.slice aS nS cS,.int .i64 a5,.int .i64 a6]] w' (Ak w')))
  (TC:Hid (∀ w',Keep w w'→Calls Try.prog 8 #[.agg #[.int .i64 a0,.int .i64 a1,.int .i64 a2,.int .i64 a3,.int .i64 a4,.slice aN nN cN,.slice aS nS cS,.int .i64 a5,.int .i64 a6]] w' fun e w''=>e= .returned (.tuple #[.int .i64 0,.int .i64 0])∧Keep w' w''))
  (TM:Hid (∀ w',Keep w w'→Calls Try.prog 8 #[.agg #[.int .i64 a0,.int .i64 a1,.int .i64 a2,.int .i64 a3,.int .i64 a4,.slice aN nN cN,.slice none 0 0,.int .i64 a5,.int .i64 a6]] w' fun e w''=>e= .returned (.tuple #[.int .i64 0,.int .i64 0])∧Keep w' w''))
  (T1:Hid (∀ k,k<nN→∀(w':World) (b:Nat),Keep w w'→b<w'.heap.size→(w'.cell? ⟨b,0,none⟩=some (.string (sv (T k)))∧w'.cell? ⟨b,1,none⟩=some (.slice (X1 k) (N1 k) (C1 k))∧w'.cell? ⟨b,2,none⟩=some (.slice (X2 k) (N2 k) (C2 k))∧w'.cell? ⟨b,3,none⟩=some (.slice (X3 k) (N3 k) (C3 k))∧w'.cell? ⟨b,4,none⟩=some (.slice (X4 k) (N4 k) (C4 k))∧w'.cell? ⟨b,5,none⟩=some (.slice (X5 k) (N5 k) (C5 k))∧w'.cell? ⟨b,6,none⟩=some (.int .i64 (P k)))→Calls Try.prog 8 #[.agg #[.int .i64 a0,.int .i64 a1,.int .i64 a2,.int .i64 a3,.int .i64 a4,.slice (some ⟨b,0,none⟩) 1 1,.slice none 0 0,.int .i64 a5,.int .i64 a6]] w' fun e w''=>e= .returned (.tuple #[.int .i64 0,.int .i64 0])∧Keep w' w''))
  (T2:Hid (∀ k,k<nN→∀(w':World) (b:Nat),Keep w w'→b<w'.heap.size→(w'.cell? ⟨b,0,none⟩=some (.string (sv (T k)))∧w'.cell? ⟨b,1,none⟩=some (.slice (X1 k) (N1 k) (C1 k))∧w'.cell? ⟨b,2,none⟩=some (.slice none 0 0)∧w'.cell? ⟨b,3,none⟩=some (.slice (X3 k) (N3 k) (C3 k))∧w'.cell? ⟨b,4,none⟩=some (.slice (X4 k) (N4 k) (C4 k))∧w'.cell? ⟨b,5,none⟩=some (.slice none 0 0)∧w'.cell? ⟨b,6,none⟩=some (.int .i64 (P k)))→Calls Try.prog 8 #[.agg #[.int .i64 a0,.int .i64 a1,.int .i64 a2,.int .i64 a3,.int .i64 a4,.slice (some ⟨b,0,none⟩) 1 1,.slice none 0 0,.int .i64 a5,.int .i64 a6]] w' fun e w''=>e= .returned (.tuple #[.int .i64 0,.int .i64 0])∧Keep w' w''))
  (TA:Hid (∀ w',Calls Try.prog 10 #[] w' fun e w''=>e= .returned (.bool true)∧Keep w' w'')):
  Calls Try.prog 6 #[.agg #[.int .i64 a0,.int .i64 a1,.int .i64 a2,.int .i64 a3,.int .i64 a4,.slice aN nN cN,.slice aS nS cS,.int .i64 a5,.int .i64 a6]] w fun e w'=>e= .returned (.bool true)∧Keep w w':=by
 have n1:=heap_alloc_new w (.cells #[.int .i64 a0,.int .i64 a1,.int .i64 a2,.int .i64 a3,.int .i64 a4,.slice aN nN cN,.slice aS nS cS,.int .i64 a5,.int .i64 a6] 27);have K1:=hide ((Keep.refl w).alloc (.cells #[.int .i64 a0,.int .i64 a1,.int .i64 a2,.int .i64 a3,.int .i64 a4,.slice aN nN cN,.slice aS nS cS,.int .i64 a5,.int .i64 a6] 27));go_enter Try.func6,Try.ntmps6
 go_upto_region 1 with fail
 generalize w.alloc (.cells #[.int .i64 a0,.int .i64 a1,.int .i64 a2,.int .i64 a3,.int .i64 a4,.slice aN nN cN,.slice aS nS cS,.int .i64 a5,.int .i64 a6] 27)=w1 at n1 K1 ⊢;obtain⟨x,HXX⟩:∃ x,Hid (w.heap.size=x):=⟨_,hide rfl⟩;rw[uq HXX]at n1 ⊢;have HX:Hid (∀ w':World,Keep w1 w'→w'.cell? ⟨x,0,none⟩=some (.int .i64 a0)∧w'.cell? ⟨x,1,none⟩=some (.int .i64 a1)∧w'.cell? ⟨x,2,none⟩=some (.int .i64 a2)∧w'.cell? ⟨x,3,none⟩=some (.int .i64 a3)∧w'.cell? ⟨x,4,none⟩=some (.int .i64 a4)∧w'.cell? ⟨x,5,none⟩=some (.slice aN nN cN)∧w'.cell? ⟨x,6,none⟩=some (.slice aS nS cS)∧w'.cell? ⟨x,7,none⟩=some (.int .i64 a5)∧w'.cell? ⟨x,8,none⟩=some (.int .i64 a6)):=hide (fun w' k9=>by have h:=k9.block x (Array.getElem?_eq_some_iff.1 n1).1;rw[n1]at h;refine⟨?_,?_,?_,?_,?_,?_,?_,?_,?_⟩<;>simp[World.cell?,h]);clear n1;obtain⟨f0,f1,f2,f3,f4,f5,f6,f7,f8⟩:=(uq HX) w1 (Keep.refl _);go_wp2_with fail
 (refine((uq TF) _ (uq K1)).mono ?_;rintro e w2 ⟨b,rfl,hk⟩;have L2:=hide hk;have K2:=hide ((uq K1).trans hk);clear hk);clear f0 f1 f2 f3 f4 f5 f6 f7 f8;cases b
 ·go_wp2_with fail
  go_ret;exact⟨rfl,uq K2⟩
 obtain⟨f0,f1,f2,f3,f4,f5,f6,f7,f8⟩:=(uq HX) w2 (uq L2);go_wp2_with fail
 (refine((uq TC) _ (uq K2)).mono ?_;rintro e w3 ⟨rfl,hk⟩;have L3:=hide ((uq L2).trans hk);have K3:=hide ((uq K2).trans hk);clear hk);clear f0 f1 f2 f3 f4 f5 f6 f7 f8;obtain⟨f0,f1,f2,f3,f4,f5,f6,f7,f8⟩:=(uq HX) w3 (uq L3);have m1:=heap_alloc_new w3 (.cells #[.int .i64 a0,.int .i64 a1,.int .i64 a2,.int .i64 a3,.int .i64 a4,.slice aN nN cN,.slice none 0 0,.int .i64 a5,.int .i64 a6] 27);have K4:=hide ((uq K3).alloc (.cells #[.int .i64 a0,.int .i64 a1,.int .i64 a2,.int .i64 a3,.int .i64 a4,.slice aN nN cN,.slice none 0 0,.int .i64 a5,.int .i64 a6] 27));have L4:=hide ((uq L3).alloc (.cells #[.int .i64 a0,.int .i64 a1,.int .i64 a2,.int .i64 a3,.int .i64 a4,.slice aN nN cN,.slice none 0 0,.int .i64 a5,.int .i64 a6] 27))
 go_upto_region 8 with fail
 generalize w3.alloc (.cells #[.int .i64 a0,.int .i64 a1,.int .i64 a2,.int .i64 a3,.int .i64 a4,.slice aN nN cN,.slice none 0 0,.int .i64 a5,.int .i64 a6] 27)=wm at m1 K4 L4 ⊢;obtain⟨mb,HMM⟩:∃ x,Hid (w3.heap.size=x):=⟨_,hide rfl⟩;rw[uq HMM]at m1 ⊢;have HM:Hid (∀ w':World,Keep wm w'→w'.cell? ⟨mb,0,none⟩=some (.int .i64 a0)∧w'.cell? ⟨mb,1,none⟩=some (.int .i64 a1)∧w'.cell? ⟨mb,2,none⟩=some (.int .i64 a2)∧w'.cell? ⟨mb,3,none⟩=some (.int .i64 a3)∧w'.cell? ⟨mb,4,none⟩=some (.int .i64 a4)∧w'.cell? ⟨mb,5,none⟩=some (.slice aN nN cN)∧w'.cell? ⟨mb,6,none⟩=some (.slice none 0 0)∧w'.cell? ⟨mb,7,none⟩=some (.int .i64 a5)∧w'.cell? ⟨mb,8,none⟩=some (.int .i64 a6)):=hide (fun w' k9=>by have h:=k9.block mb (Array.getElem?_eq_some_iff.1 m1).1;rw[m1]at h;refine⟨?_,?_,?_,?_,?_,?_,?_,?_,?_⟩<;>simp[World.cell?,h]);clear m1 f0 f1 f2 f3 f4 f5 f6 f7 f8;go_wp2_with fail
 go_loopw [6] (fun iv wr=>∃ k:Nat,iv= .int .i64 (k:Int)∧k≤nN∧Hid (Keep wm wr)) (fun iv _=>nN - (intOf iv).toNat)
 case atStart=>exact⟨0,rfl,Nat.zero_le _,hide (Keep.refl _)⟩
 case round=>
  obtain⟨k,rfl,hk,KR⟩:=hrel;have LR:=hide ((uq L4).trans (uq KR));have KW:=hide ((uq K4).trans (uq KR));obtain⟨f0,f1,f2,f3,f4,f5,f6,f7,f8⟩:=(uq HX) wr (uq LR);obtain⟨g0,g1,g2,g3,g4,g5,g6,g7,g8⟩:=(uq HM) wr (uq KR);by_cases hlt:k<nN
  ·have li:(k:Int)<(nN:Int):=by omega
   obtain⟨ad,hA,hb,e0,e1,e2,e3,e4,e5,e6⟩:=(uq HC) k hlt;have x0:=zab (uq KW) (by rw[zaa];exact hb) e0;have x1:=zab (uq KW) (by show(ad.add (k * 7)).block<_;rw[zaa];exact hb) e1;have x2:=zab (uq KW) (by show(ad.add (k * 7)).block<_;rw[zaa];exact hb) e2;have x3:=zab (uq KW) (by show(ad.add (k * 7)).block<_;rw[zaa];exact hb) e3;have x4:=zab (uq KW) (by show(ad.add (k * 7)).block<_;rw[zaa];exact hb) e4;have x5:=zab (uq KW) (by show(ad.add (k * 7)).block<_;rw[zaa];exact hb) e5;have x6:=zab (uq KW) (by show(ad.add (k * 7)).block<_;rw[zaa];exact hb) e6;rw[hA]at f5;clear hA e0 e1 e2 e3 e4 e5 e6;have lx:x<wr.heap.size:=World.block_lt_of_cell? wr _ f0;have la:(ad.add (k * 7)).block<wr.heap.size:=World.block_lt_of_cell? wr _ x0;have lx2:x<wr.heap.size+1:=by omega
   have la2:(ad.add (k * 7)).block<wr.heap.size+1:=by omega
   have TT1:=hide ((uq T1) k hlt);have TT2:=hide ((uq T2) k hlt);go_wp2_with fail
   (refine((uq TT1) _ (wr.heap.size+1+1) ((uq KW).trans (by repeat(first|(with_reducible exact Keep.refl _)|apply zav|apply Keep.alloc|apply Keep.drew))) (by simp[go_sem]) (by simp[go_sem])).mono ?_;rintro e w5 ⟨rfl,hk5⟩;obtain⟨o1,k1,rfl⟩:=hk5.ext;clear hk5);go_wp2_with fail
   (refine((uq TT2) _ (wr.heap.size+1+1+1+o1.size) ((uq KW).trans (by repeat(first|(with_reducible exact Keep.refl _)|apply zav|apply Keep.alloc|apply Keep.drew))) (by simp[go_sem]) (by simp[go_sem])).mono ?_;rintro e w6 ⟨rfl,hk6⟩;obtain⟨o2,k2,rfl⟩:=hk6.ext;clear hk6);go_wp2_with fail
   go_roundw
   case rel=>exact⟨k+1,by go_num,by omega,hide ((uq KR).trans (by repeat(first|(with_reducible exact Keep.refl _)|apply zav|apply Keep.alloc|apply Keep.drew)))⟩
   case measure=>simp[intOf];omega
  ·have li:¬(k:Int)<(nN:Int):=by omega
   go_wp2_with fail
   (refine((uq TM) _ (uq KW)).mono ?_;rintro e w8 ⟨rfl,hk8⟩);have K8:=hide ((uq KW).trans hk8);clear hk8;go_wp2_with fail
   (refine((uq TA) _).mono ?_;rintro e w9 ⟨rfl,hk9⟩);go_wp2_with fail
   go_ret;exact⟨rfl,(uq K8).trans hk9⟩
end V
end Go.Proofs.Ytpdcabfabghbkaa
