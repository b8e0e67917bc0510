/- ValidFinds over letters. -/
import Derived.Test.YtfmpfmhdddikcaaVAw
import Derived.Test.YtfmpfmhdddikcaaLMath
import Derived.Test.YtfmpfmhdddikcaaVFwT
import Derived.Test.YtfmpfmhdddikcaaVRf
import Derived.Deep.DrawnRows
import Derived.Deep.RegionHeld3
namespace Go.Proofs.Ytfmpfmhdddikcaa
open Go.RowKit
attribute [local go_sem ↓] Go.wp_at_zero Go.wp_at_succ
set_option linter.unusedVariables false
set_option linter.unusedSimpArgs false
set_option maxRecDepth 10000
namespace V
open S
set_option maxHeartbeats 8000000 in
theorem zdR (a0 a1 a2 a3 a4:Int) (aN:Option Addr) (nN cN:Nat) (aS:Option Addr) (nS cS:Nat) (a5 a6:Int) (nm:ByteArray) (T:Nat→List UInt8) (X1 X2 X3 X4 X5:Nat→Option Addr) (N1 C1 N2 C2 N3 C3 N4 C4 N5 C5:Nat→Nat) (P:Nat→Int) (rN:Int) (rh rp rm:Nat→Int) (w:World) (hn:nN≤9223372036854775807)
  (HC:Hid (∀ k,k<nN→∃ ad,aN=some ad∧ad.block<w.heap.size∧w.cell? (ad.add (k * 7))=some (.string (sv (T k)))∧w.cell? ⟨(ad.add (k * 7)).block,(ad.add (k * 7)).off+1,none⟩=some (.slice (X1 k) (N1 k) (C1 k))∧w.cell? ⟨(ad.add (k * 7)).block,(ad.add (k * 7)).off+2,none⟩=some (.slice (X2 k) (N2 k) (C2 k))∧w.cell? ⟨(ad.add (k * 7)).block,(ad.add (k * 7)).off+3,none⟩=some (.slice (X3 k) (N3 k) (C3 k))∧w.cell? ⟨(ad.add (k * 7)).block,(ad.add (k * 7)).off+4,none⟩=some (.slice (X4 k) (N4 k) (C4 k))∧w.cell? ⟨(ad.add (k * 7)).block,(ad.add (k * 7)).off+5,none⟩=some (.slice (X5 k) (N5 k) (C5 k))∧w.cell? ⟨(ad.add (k * 7)).block,(ad.add (k * 7)).off+6,none⟩=some (.int .i64 (P k))))
  (TF:Hid (∀ w',Keep w w'→Calls Try.prog 7 #[.agg #[.int .i64 a0,.int .i64 a1,.int .i64 a2,.int .i64 a3,.int .i64 a4,.slice aN nN cN,.slice aS nS cS,.int .i64 a5,.int .i64 a6]] w' (Ak w')))
  (TN:Hid (∀ w',Keep w w'→(Calls Try.prog 11 #[.agg #[.int .i64 a0,.int .i64 a1,.int .i64 a2,.int .i64 a3,.int .i64 a4,.slice aN nN cN,.slice aS nS cS,.int .i64 a5,.int .i64 a6],.string nm] w' fun e w''=>e= .returned (.int .i64 (rN))∧Keep w' w'')∧(Calls Try.prog 12 #[.agg #[.int .i64 a0,.int .i64 a1,.int .i64 a2,.int .i64 a3,.int .i64 a4,.slice aN nN cN,.slice aS nS cS,.int .i64 a5,.int .i64 a6],.string nm] w' fun e w''=>e= .returned (.int .i64 (rN))∧Keep w' w'')))
  (TH:Hid (∀ k,k<nN→∀ w',Keep w w'→(Calls Try.prog 13 #[.agg #[.string (sv (T k)),.slice (X1 k) (N1 k) (C1 k),.slice (X2 k) (N2 k) (C2 k),.slice (X3 k) (N3 k) (C3 k),.slice (X4 k) (N4 k) (C4 k),.slice (X5 k) (N5 k) (C5 k),.int .i64 (P k)],.string nm] w' fun e w''=>e= .returned (.int .i64 (rh k))∧Keep w' w'')∧(Calls Try.prog 14 #[.agg #[.string (sv (T k)),.slice (X1 k) (N1 k) (C1 k),.slice (X2 k) (N2 k) (C2 k),.slice (X3 k) (N3 k) (C3 k),.slice (X4 k) (N4 k) (C4 k),.slice (X5 k) (N5 k) (C5 k),.int .i64 (P k)],.string nm] w' fun e w''=>e= .returned (.int .i64 (rh k))∧Keep w' w'')))
  (TP:Hid (∀ k,k<nN→∀ w',Keep w w'→(Calls Try.prog 15 #[.agg #[.string (sv (T k)),.slice (X1 k) (N1 k) (C1 k),.slice (X2 k) (N2 k) (C2 k),.slice (X3 k) (N3 k) (C3 k),.slice (X4 k) (N4 k) (C4 k),.slice (X5 k) (N5 k) (C5 k),.int .i64 (P k)],.string nm] w' fun e w''=>e= .returned (.int .i64 (rp k))∧Keep w' w'')∧(Calls Try.prog 16 #[.agg #[.string (sv (T k)),.slice (X1 k) (N1 k) (C1 k),.slice (X2 k) (N2 k) (C2 k),.slice (X3 k) (N3 k) (C3 k),.slice (X4 k) (N4 k) (C4 k),.slice (X5 k) (N5 k) (C5 k),.int .i64 (P k)],.string nm] w' fun e w''=>e= .returned (.int .i64 (rp k))∧Keep w' w'')))
  (TM:Hid (∀ k,k<nN→∀ w',Keep w w'→(Calls Try.prog 17 #[.agg #[.string (sv (T k)),.slice (X1 k) (N1 k) (C1 k),.slice (X2 k) (N2 k) (C2 k),.slice (X3 k) (N3 k) (C3 k),.slice (X4 k) (N4 k) (C4 k),.slice (X5 k) (N5 k) (C5 k),.int .i64 (P k)],.string nm] w' fun e w''=>e= .returned (.int .i64 (rm k))∧Keep w' w'')∧(Calls Try.prog 18 #[.agg #[.string (sv (T k)),.slice (X1 k) (N1 k) (C1 k),.slice (X2 k) (N2 k) (C2 k),.slice (X3 k) (N3 k) (C3 k),.slice (X4 k) (N4 k) (C4 k),.slice (X5 k) (N5 k) (C5 k),.int .i64 (P k)],.string nm] w' fun e w''=>e= .returned (.int .i64 (rm k))∧Keep w' w'')))
  (TA:Hid (∀ w',Calls Try.prog 10 #[] w' fun e w''=>e= .returned (.bool true)∧Keep w' w'')):
  Calls Try.prog 4 #[.agg #[.int .i64 a0,.int .i64 a1,.int .i64 a2,.int .i64 a3,.int .i64 a4,.slice aN nN cN,.slice aS nS cS,.int .i64 a5,.int .i64 a6],.string nm] w fun e w'=>e= .returned (.bool true)∧Keep w w':=by
 have n1:=heap_alloc_new w (.cells #[.int .i64 a0,.int .i64 a1,.int .i64 a2,.int .i64 a3,.int .i64 a4,.slice aN nN cN,.slice aS nS cS,.int .i64 a5,.int .i64 a6] 27);have K1:=hide ((Keep.refl w).alloc (.cells #[.int .i64 a0,.int .i64 a1,.int .i64 a2,.int .i64 a3,.int .i64 a4,.slice aN nN cN,.slice aS nS cS,.int .i64 a5,.int .i64 a6] 27));go_enter Try.func4,Try.ntmps4
 go_upto_region 1 with fail
 generalize w.alloc (.cells #[.int .i64 a0,.int .i64 a1,.int .i64 a2,.int .i64 a3,.int .i64 a4,.slice aN nN cN,.slice aS nS cS,.int .i64 a5,.int .i64 a6] 27)=w1 at n1 K1 ⊢;obtain⟨x,HXX⟩:∃ x,Hid (w.heap.size=x):=⟨_,hide rfl⟩;rw[uq HXX]at n1 ⊢;have HX:Hid (∀ w':World,Keep w1 w'→w'.cell? ⟨x,0,none⟩=some (.int .i64 a0)∧w'.cell? ⟨x,1,none⟩=some (.int .i64 a1)∧w'.cell? ⟨x,2,none⟩=some (.int .i64 a2)∧w'.cell? ⟨x,3,none⟩=some (.int .i64 a3)∧w'.cell? ⟨x,4,none⟩=some (.int .i64 a4)∧w'.cell? ⟨x,5,none⟩=some (.slice aN nN cN)∧w'.cell? ⟨x,6,none⟩=some (.slice aS nS cS)∧w'.cell? ⟨x,7,none⟩=some (.int .i64 a5)∧w'.cell? ⟨x,8,none⟩=some (.int .i64 a6)):=hide (fun w' k9=>by have h:=k9.block x (Array.getElem?_eq_some_iff.1 n1).1;rw[n1]at h;refine⟨?_,?_,?_,?_,?_,?_,?_,?_,?_⟩<;>simp[World.cell?,h]);clear n1;obtain⟨f0,f1,f2,f3,f4,f5,f6,f7,f8⟩:=(uq HX) w1 (Keep.refl _);go_wp2_with fail
 (refine((uq TF) _ (uq K1)).mono ?_;rintro e w2 ⟨b,rfl,hk⟩;have L2:=hide hk;have K2:=hide ((uq K1).trans hk);clear hk);clear f0 f1 f2 f3 f4 f5 f6 f7 f8;cases b
 ·go_wp2_with fail
  go_ret;exact⟨rfl,uq K2⟩
 by_cases hl:(100:Int)<(nm.size:Int)
 ·go_wp2_with fail
  go_ret;exact⟨rfl,uq K2⟩
 have TNa:=hide ((uq TN) _ (uq K2).drew)
 go_upto_region 3 with fail
 refine wp_region_held_drew (S:=(fun w'=>w'.cell? ⟨x,0,none⟩=some (.int .i64 a0)∧w'.cell? ⟨x,1,none⟩=some (.int .i64 a1)∧w'.cell? ⟨x,2,none⟩=some (.int .i64 a2)∧w'.cell? ⟨x,3,none⟩=some (.int .i64 a3)∧w'.cell? ⟨x,4,none⟩=some (.int .i64 a4)∧w'.cell? ⟨x,5,none⟩=some (.slice aN nN cN)∧w'.cell? ⟨x,6,none⟩=some (.slice aS nS cS)∧w'.cell? ⟨x,7,none⟩=some (.int .i64 a5)∧w'.cell? ⟨x,8,none⟩=some (.int .i64 a6))) (by kernel_rfl) (by exact(uq HX) _ (uq L2).drew) (fun hHeld=>?_);refine tkk 0 15 hHeld ?_;try simp only[Act.put,Ya,Yb,Yc]
 refine tkk 1 16 hHeld ?_;try simp only[Act.put,Ya,Yb,Yc]
 refine tkk 3 18 hHeld ?_;try simp only[Act.put,Ya,Yb,Yc]
 refine tkk 4 19 hHeld ?_;try simp only[Act.put,Ya,Yb,Yc]
 refine zav 2 (fun K hK=>?_);go_simp;clear hHeld;(refine((uq TN) _ (uq K2).drew).1.mono ?_;rintro e w3 ⟨rfl,hk⟩;have L3:=hide ((uq L2).drew.trans hk);have K3:=hide ((uq K2).drew.trans hk);clear hk);try go_wp2_with fail
 refine hK.out _ _ ?_ (fun hHeld=>?_)
 ·exact(uq HX) _ (uq L3)
 clear hK K;try simp only[Act.put,Ya,Yb,Yc]
 refine zav 5 (fun K hK=>?_);go_simp;clear hHeld;(refine((uq TN) _ (uq K3)).2.mono ?_;rintro e w4 ⟨rfl,hk⟩;have L4:=hide ((uq L3).trans hk);have K4:=hide ((uq K3).trans hk);clear hk);try go_wp2_with fail
 refine hK.out _ _ ?_ (fun hHeld=>?_)
 ·exact(uq HX) _ (uq L4)
 clear hK K;try simp only[Act.put,Ya,Yb,Yc]
 refine tkk 6 21 hHeld ?_;try simp only[Act.put,Ya,Yb,Yc]
 refine wpAnyH_done (by kernel_rfl) ?_ _;clear hHeld;clear TNa L3 K3;go_wp2_with fail
 go_loopw [5] (fun iv wr=>∃ k:Nat,iv= .int .i64 (k:Int)∧k≤nN∧Hid (Keep w4 wr)) (fun iv _=>nN - (intOf iv).toNat)
 case atStart=>exact⟨0,rfl,Nat.zero_le _,hide (Keep.refl _)⟩
 case round=>
  obtain⟨k,rfl,hk,KR⟩:=hrel;have LR:=hide ((uq L4).trans (uq KR));have KW:=hide ((uq K4).trans (uq KR));obtain⟨f0,f1,f2,f3,f4,f5,f6,f7,f8⟩:=(uq HX) wr (uq LR);by_cases hlt:k<nN
  ·have li:(k:Int)<(nN:Int):=by omega
   obtain⟨ad,hA,hb,e0,e1,e2,e3,e4,e5,e6⟩:=(uq HC) k hlt;have x0:=zab (uq KW) (by rw[zaa];exact hb) e0;have x1:=zab (uq KW) (by show(ad.add (k * 7)).block<_;rw[zaa];exact hb) e1;have x2:=zab (uq KW) (by show(ad.add (k * 7)).block<_;rw[zaa];exact hb) e2;have x3:=zab (uq KW) (by show(ad.add (k * 7)).block<_;rw[zaa];exact hb) e3;have x4:=zab (uq KW) (by show(ad.add (k * 7)).block<_;rw[zaa];exact hb) e4;have x5:=zab (uq KW) (by show(ad.add (k * 7)).block<_;rw[zaa];exact hb) e5;have x6:=zab (uq KW) (by show(ad.add (k * 7)).block<_;rw[zaa];exact hb) e6;rw[hA]at f5;clear hA e0 e1 e2 e3 e4 e5 e6;have hbx:=heap_alloc_new wr (.cells #[.string (sv (T k)),.slice (X1 k) (N1 k) (C1 k),.slice (X2 k) (N2 k) (C2 k),.slice (X3 k) (N3 k) (C3 k),.slice (X4 k) (N4 k) (C4 k),.slice (X5 k) (N5 k) (C5 k),.int .i64 (P k)] 40);have KB:=hide ((uq KW).alloc (.cells #[.string (sv (T k)),.slice (X1 k) (N1 k) (C1 k),.slice (X2 k) (N2 k) (C2 k),.slice (X3 k) (N3 k) (C3 k),.slice (X4 k) (N4 k) (C4 k),.slice (X5 k) (N5 k) (C5 k),.int .i64 (P k)] 40));have KA:=hide ((uq KR).alloc (.cells #[.string (sv (T k)),.slice (X1 k) (N1 k) (C1 k),.slice (X2 k) (N2 k) (C2 k),.slice (X3 k) (N3 k) (C3 k),.slice (X4 k) (N4 k) (C4 k),.slice (X5 k) (N5 k) (C5 k),.int .i64 (P k)] 40));have TH1:=hide ((uq TH) k hlt);have TP1:=hide ((uq TP) k hlt);have TM1:=hide ((uq TM) k hlt)
   go_upto_region 9 with fail
   generalize wr.alloc (.cells #[.string (sv (T k)),.slice (X1 k) (N1 k) (C1 k),.slice (X2 k) (N2 k) (C2 k),.slice (X3 k) (N3 k) (C3 k),.slice (X4 k) (N4 k) (C4 k),.slice (X5 k) (N5 k) (C5 k),.int .i64 (P k)] 40)=wa at hbx KB KA ⊢;obtain⟨q,HQ⟩:∃ q,Hid (wr.heap.size=q):=⟨_,hide rfl⟩;rw[uq HQ]at hbx ⊢;have HB:Hid (∀ w':World,Keep wa w'→w'.cell? ⟨q,0,none⟩=some (.string (sv (T k)))∧w'.cell? ⟨q,1,none⟩=some (.slice (X1 k) (N1 k) (C1 k))∧w'.cell? ⟨q,2,none⟩=some (.slice (X2 k) (N2 k) (C2 k))∧w'.cell? ⟨q,3,none⟩=some (.slice (X3 k) (N3 k) (C3 k))∧w'.cell? ⟨q,4,none⟩=some (.slice (X4 k) (N4 k) (C4 k))∧w'.cell? ⟨q,5,none⟩=some (.slice (X5 k) (N5 k) (C5 k))∧w'.cell? ⟨q,6,none⟩=some (.int .i64 (P k))):=hide (fun w' k9=>by have h:=k9.block q (Array.getElem?_eq_some_iff.1 hbx).1;rw[hbx]at h;refine⟨?_,?_,?_,?_,?_,?_,?_⟩<;>simp[World.cell?,h]);clear hbx f0 f1 f2 f3 f4 f5 f6 f7 f8 x0 x1 x2 x3 x4 x5 x6;refine wp_region_held_drew (S:=(fun w'=>w'.cell? ⟨q,0,none⟩=some (.string (sv (T k)))∧w'.cell? ⟨q,1,none⟩=some (.slice (X1 k) (N1 k) (C1 k))∧w'.cell? ⟨q,2,none⟩=some (.slice (X2 k) (N2 k) (C2 k))∧w'.cell? ⟨q,3,none⟩=some (.slice (X3 k) (N3 k) (C3 k))∧w'.cell? ⟨q,4,none⟩=some (.slice (X4 k) (N4 k) (C4 k))∧w'.cell? ⟨q,5,none⟩=some (.slice (X5 k) (N5 k) (C5 k))∧w'.cell? ⟨q,6,none⟩=some (.int .i64 (P k)))) (by kernel_rfl) (by exact(uq HB) _ (Keep.refl wa).drew) (fun hHeld=>?_);refine tkk 0 34 hHeld ?_;try simp only[Act.put,Ya,Yb,Yc]
   refine tkk 1 35 hHeld ?_;try simp only[Act.put,Ya,Yb,Yc]
   refine tkk 3 37 hHeld ?_;try simp only[Act.put,Ya,Yb,Yc]
   refine tkk 4 38 hHeld ?_;try simp only[Act.put,Ya,Yb,Yc]
   refine zav 2 (fun K hK=>?_);go_simp;clear hHeld;(refine((uq TH1) _ ((uq KB).trans (Keep.refl wa).drew)).1.mono ?_;rintro e y1 ⟨rfl,hk9⟩;have Z1:=hide ((Keep.refl wa).drew.trans hk9);clear hk9);try go_wp2_with fail
   refine hK.out _ _ ?_ (fun hHeld=>?_)
   ·exact(uq HB) _ (uq Z1)
   clear hK K;try simp only[Act.put,Ya,Yb,Yc]
   refine zav 5 (fun K hK=>?_);go_simp;clear hHeld;(refine((uq TH1) _ ((uq KB).trans (uq Z1))).2.mono ?_;rintro e y2 ⟨rfl,hk9⟩;have Z2:=hide ((uq Z1).trans hk9);clear hk9);try go_wp2_with fail
   refine hK.out _ _ ?_ (fun hHeld=>?_)
   ·exact(uq HB) _ (uq Z2)
   clear hK K;try simp only[Act.put,Ya,Yb,Yc]
   refine tkk 6 40 hHeld ?_;try simp only[Act.put,Ya,Yb,Yc]
   refine tkk 7 41 hHeld ?_;try simp only[Act.put,Ya,Yb,Yc]
   refine tkk 8 42 hHeld ?_;try simp only[Act.put,Ya,Yb,Yc]
   refine tkk 9 43 hHeld ?_;try simp only[Act.put,Ya,Yb,Yc]
   refine tkk 11 45 hHeld ?_;try simp only[Act.put,Ya,Yb,Yc]
   refine tkk 12 46 hHeld ?_;try simp only[Act.put,Ya,Yb,Yc]
   refine zav 10 (fun K hK=>?_);go_simp;clear hHeld;(refine((uq TP1) _ ((uq KB).trans (uq Z2))).1.mono ?_;rintro e y3 ⟨rfl,hk9⟩;have Z3:=hide ((uq Z2).trans hk9);clear hk9);try go_wp2_with fail
   refine hK.out _ _ ?_ (fun hHeld=>?_)
   ·exact(uq HB) _ (uq Z3)
   clear hK K;try simp only[Act.put,Ya,Yb,Yc]
   refine zav 13 (fun K hK=>?_);go_simp;clear hHeld;(refine((uq TP1) _ ((uq KB).trans (uq Z3))).2.mono ?_;rintro e y4 ⟨rfl,hk9⟩;have Z4:=hide ((uq Z3).trans hk9);clear hk9);try go_wp2_with fail
   refine hK.out _ _ ?_ (fun hHeld=>?_)
   ·exact(uq HB) _ (uq Z4)
   clear hK K;try simp only[Act.put,Ya,Yb,Yc]
   refine tkk 14 48 hHeld ?_;try simp only[Act.put,Ya,Yb,Yc]
   refine tkk 15 49 hHeld ?_;try simp only[Act.put,Ya,Yb,Yc]
   refine tkk 16 50 hHeld ?_;try simp only[Act.put,Ya,Yb,Yc]
   refine tkk 17 51 hHeld ?_;try simp only[Act.put,Ya,Yb,Yc]
   refine tkk 18 52 hHeld ?_;try simp only[Act.put,Ya,Yb,Yc]
   refine tkk 20 54 hHeld ?_;try simp only[Act.put,Ya,Yb,Yc]
   refine tkk 21 55 hHeld ?_;try simp only[Act.put,Ya,Yb,Yc]
   refine zav 19 (fun K hK=>?_);go_simp;clear hHeld;(refine((uq TM1) _ ((uq KB).trans (uq Z4))).1.mono ?_;rintro e y5 ⟨rfl,hk9⟩;have Z5:=hide ((uq Z4).trans hk9);clear hk9);try go_wp2_with fail
   refine hK.out _ _ ?_ (fun hHeld=>?_)
   ·exact(uq HB) _ (uq Z5)
   clear hK K;try simp only[Act.put,Ya,Yb,Yc]
   refine zav 22 (fun K hK=>?_);go_simp;clear hHeld;(refine((uq TM1) _ ((uq KB).trans (uq Z5))).2.mono ?_;rintro e y6 ⟨rfl,hk9⟩;have Z6:=hide ((uq Z5).trans hk9);clear hk9);try go_wp2_with fail
   refine hK.out _ _ ?_ (fun hHeld=>?_)
   ·exact(uq HB) _ (uq Z6)
   clear hK K;try simp only[Act.put,Ya,Yb,Yc]
   refine tkk 23 57 hHeld ?_;try simp only[Act.put,Ya,Yb,Yc]
   refine tkk 24 58 hHeld ?_;try simp only[Act.put,Ya,Yb,Yc]
   refine wpAnyH_done (by kernel_rfl) ?_ _;clear hHeld;go_wp2_with fail
   go_roundw
   case rel=>exact⟨k+1,by go_num,by omega,hide ((uq KA).trans (uq Z6))⟩
   case measure=>simp[intOf];omega
  ·have li:¬(k:Int)<(nN:Int):=by omega
   go_wp2_with fail
   (refine((uq TA) _).mono ?_;rintro e w9 ⟨rfl,hk9⟩);go_wp2_with fail
   go_ret;exact⟨rfl,(uq KW).trans hk9⟩
end V
end Go.Proofs.Ytfmpfmhdddikcaa
