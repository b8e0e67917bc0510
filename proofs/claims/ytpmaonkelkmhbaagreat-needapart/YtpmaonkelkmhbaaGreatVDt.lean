/- The document's answer for layer 7: the whole. -/
import Derived.Test.YtpmaonkelkmhbaaGreatVDn
import Derived.Test.YtpmaonkelkmhbaaGreatLSkip
import Derived.Deep.DrawnRows
import Derived.Deep.RegionHeld3
import Derived.Test.YtpmaonkelkmhbaaGreatVDw
import Derived.Test.YtpmaonkelkmhbaaGreatVDp
import Derived.Test.YtpmaonkelkmhbaaGreatVDs
namespace Go.Proofs.YtpmaonkelkmhbaaGreat
open Go.RowKit
attribute [local go_sem ↓] Go.wp_at_zero Go.wp_at_succ
set_option linter.unusedVariables false
set_option linter.unusedSimpArgs false
set_option maxRecDepth 10000
namespace V
set_option maxHeartbeats 8000000 in
theorem zeD (a0 a1 a2 a3 a4:Int) (aN:Option Addr) (nN cN:Nat) (aS:Option Addr) (nS cS:Nat) (a5 a6:Int) (T:Nat→ByteArray) (X1 X2 X3 X4 X5:Nat→Option Addr) (N1 C1 N2 C2 N3 C3 N4 C4 N5 C5:Nat→Nat) (P:Nat→Int) (nN9:List UInt8→Int) (T9:Nat→List UInt8) (R:Nat→Eq2) (es r:Eq2) (w:World) (hnS:nS≤9223372036854775807) (hnN:nN≤9223372036854775807)
  (HCN:Hid (∀ k,k<nN→∃ ad,aN=some ad∧ad.block<w.heap.size∧w.cell? (ad.add (k * 7))=some (.string (T k))∧w.cell? ⟨(ad.add (k * 7)).block,(ad.add (k * 7)).off+1,none⟩=some (.slice (X1 k) (N1 k) (C1 k))∧w.cell? ⟨(ad.add (k * 7)).block,(ad.add (k * 7)).off+2,none⟩=some (.slice (X2 k) (N2 k) (C2 k))∧w.cell? ⟨(ad.add (k * 7)).block,(ad.add (k * 7)).off+3,none⟩=some (.slice (X3 k) (N3 k) (C3 k))∧w.cell? ⟨(ad.add (k * 7)).block,(ad.add (k * 7)).off+4,none⟩=some (.slice (X4 k) (N4 k) (C4 k))∧w.cell? ⟨(ad.add (k * 7)).block,(ad.add (k * 7)).off+5,none⟩=some (.slice (X5 k) (N5 k) (C5 k))∧w.cell? ⟨(ad.add (k * 7)).block,(ad.add (k * 7)).off+6,none⟩=some (.int .i64 (P k)))) (HT:Hid (∀ k,k<nN→T k=sv (T9 k)))
  (TN:Hid (∀ nm w',Keep w w'→Calls Tryz.prog 11 #[.agg #[.int .i64 a0,.int .i64 a1,.int .i64 a2,.int .i64 a3,.int .i64 a4,.slice aN nN cN,.slice aS nS cS,.int .i64 a5,.int .i64 a6],.string (sv nm)] w' fun e w''=>e= .returned (.int .i64 (nN9 nm))∧Keep w' w''))
  (TD:Hid (nN≤12→∀ k,k<nN→∀ w',Keep w w'→Calls Tryz.prog 12 #[.agg #[.string (T k),.slice (X1 k) (N1 k) (C1 k),.slice (X2 k) (N2 k) (C2 k),.slice (X3 k) (N3 k) (C3 k),.slice (X4 k) (N4 k) (C4 k),.slice (X5 k) (N5 k) (C5 k),.int .i64 (P k)]] w' (Zq (R k) w')))
  (TS:Hid (∀ w',Keep w w'→Calls Tryz.prog 13 #[.agg #[.int .i64 a0,.int .i64 a1,.int .i64 a2,.int .i64 a3,.int .i64 a4,.slice aN nN cN,.slice aS nS cS,.int .i64 a5,.int .i64 a6]] w' (Zq es w')))
  (HNI:Hid (∀ k,k<nN→(nN9 (T9 k)<(k:Int)↔hs (mk T9 k) (T9 k)=true))) (HZ:Hid (∀ k,Nz (R k)))
  (HI:Hid (ors [(whE a0 a1 a2 a3 a4 nN nS a5 a6).map (fun c=>(c,0)),fE (nsF T9 R P) 0 nN,es]=r)):
  Calls Tryz.prog 4 #[.agg #[.int .i64 a0,.int .i64 a1,.int .i64 a2,.int .i64 a3,.int .i64 a4,.slice aN nN cN,.slice aS nS cS,.int .i64 a5,.int .i64 a6]] w (Zq r w):=by
 have TB:=hide zcD;have hnw:=heap_alloc_new w (.cells #[.int .i64 a0,.int .i64 a1,.int .i64 a2,.int .i64 a3,.int .i64 a4,.slice aN nN cN,.slice aS nS cS,.int .i64 a5,.int .i64 a6] 27);have K0:=hide ((Keep.refl w).alloc (.cells #[.int .i64 a0,.int .i64 a1,.int .i64 a2,.int .i64 a3,.int .i64 a4,.slice aN nN cN,.slice aS nS cS,.int .i64 a5,.int .i64 a6] 27));go_enter Tryz.func4,Tryz.ntmps4
 go_upto_region 1 with fail
 generalize w.alloc (.cells #[.int .i64 a0,.int .i64 a1,.int .i64 a2,.int .i64 a3,.int .i64 a4,.slice aN nN cN,.slice aS nS cS,.int .i64 a5,.int .i64 a6] 27)=w0 at hnw K0 ⊢;obtain⟨q0,HQ0⟩:∃ q,Hid (w.heap.size=q):=⟨_,hide rfl⟩;rw[uq HQ0]at hnw ⊢;have HX0:Hid (∀ w':World,Keep w0 w'→w'.cell? ⟨q0,0,none⟩=some (.int .i64 a0)∧w'.cell? ⟨q0,1,none⟩=some (.int .i64 a1)∧w'.cell? ⟨q0,2,none⟩=some (.int .i64 a2)∧w'.cell? ⟨q0,3,none⟩=some (.int .i64 a3)∧w'.cell? ⟨q0,4,none⟩=some (.int .i64 a4)∧w'.cell? ⟨q0,5,none⟩=some (.slice aN nN cN)∧w'.cell? ⟨q0,6,none⟩=some (.slice aS nS cS)∧w'.cell? ⟨q0,7,none⟩=some (.int .i64 a5)∧w'.cell? ⟨q0,8,none⟩=some (.int .i64 a6)):=hide (fun w' k9=>by
  have h1:=k9.block q0 (Array.getElem?_eq_some_iff.1 hnw).1;rw[hnw]at h1;refine⟨?_,?_,?_,?_,?_,?_,?_,?_,?_⟩<;>simp[World.cell?,h1])
 clear hnw;obtain⟨z0,z1,z2,z3,z4,z5,z6,z7,z8⟩:=(uq HX0) w0 (Keep.refl _);by_cases g0:(12:Int)<(nN:Int)
 ·have hc:whE a0 a1 a2 a3 a4 nN nS a5 a6=some 4:=by
   unfold whE
   simp only[fst];rw[if_pos (by simp;omega)]
  have hr:r=some (4,0):=by rw[← uq HI,hc];rfl
  subst hr;clear hc HI;go_wp2_with fail
  go_ret2;exact⟨uq K0,rfl⟩
 by_cases g1:(12:Int)<(nS:Int)
 ·have hc:whE a0 a1 a2 a3 a4 nN nS a5 a6=some 4:=by
   unfold whE
   simp only[fst];rw[if_pos (by simp;omega)]
  have hr:r=some (4,0):=by rw[← uq HI,hc];rfl
  subst hr;clear hc HI;go_wp2_with fail
  go_ret2;exact⟨uq K0,rfl⟩
 by_cases g2:a0<1
 ·have hc:whE a0 a1 a2 a3 a4 nN nS a5 a6=some 70:=by
   unfold whE
   simp only[fst];rw[if_neg (by simp;omega),if_pos (by simp;omega)]
  have hr:r=some (70,0):=by rw[← uq HI,hc];rfl
  subst hr;clear hc HI;go_wp2_with fail
  go_ret2;exact⟨uq K0,rfl⟩
 by_cases g3:a1<a0
 ·have hc:whE a0 a1 a2 a3 a4 nN nS a5 a6=some 70:=by
   unfold whE
   simp only[fst];rw[if_neg (by simp;omega),if_pos (by simp;omega)]
  have hr:r=some (70,0):=by rw[← uq HI,hc];rfl
  subst hr;clear hc HI;go_wp2_with fail
  go_ret2;exact⟨uq K0,rfl⟩
 by_cases g4:6000<a1
 ·have hc:whE a0 a1 a2 a3 a4 nN nS a5 a6=some 70:=by
   unfold whE
   simp only[fst];rw[if_neg (by simp;omega),if_pos (by simp;omega)]
  have hr:r=some (70,0):=by rw[← uq HI,hc];rfl
  subst hr;clear hc HI;go_wp2_with fail
  go_ret2;exact⟨uq K0,rfl⟩
 by_cases g5:a2<1
 ·have hc:whE a0 a1 a2 a3 a4 nN nS a5 a6=some 70:=by
   unfold whE
   simp only[fst];rw[if_neg (by simp;omega),if_pos (by simp;omega)]
  have hr:r=some (70,0):=by rw[← uq HI,hc];rfl
  subst hr;clear hc HI;go_wp2_with fail
  go_ret2;exact⟨uq K0,rfl⟩
 have G0:=hide (show(decide ((12:Int)<(nN:Int)) || decide ((12:Int)<(nS:Int)))=false by simp;omega);have G1:=hide (show(decide (a0<1) || decide (a1<a0) || decide (6000<a1) || decide (a2<1))=false by simp;omega);have HNN:=hide (show nN≤12 by omega);go_wp2_with fail
 (refine((uq TB) _ _ _ _).mono ?_;rintro e w0 ⟨rfl,rfl⟩);cases hB0:btw 1 a3 1000000000
 ·have hc:whE a0 a1 a2 a3 a4 nN nS a5 a6=some 70:=by
   unfold whE
   simp only[fst];rw[if_neg (by rw[uq G0];decide),if_neg (by rw[uq G1];decide)];rw[if_pos (by simp[zcY,hB0])]
  have hr:r=some (70,0):=by rw[← uq HI,hc];rfl
  subst hr;clear hc HI;go_wp2_with fail
  go_ret2;exact⟨uq K0,rfl⟩
 go_wp2_with fail
 (refine((uq TB) _ _ _ _).mono ?_;rintro e w0 ⟨rfl,rfl⟩);cases hB1:btw 1 a4 1000000000
 ·have hc:whE a0 a1 a2 a3 a4 nN nS a5 a6=some 70:=by
   unfold whE
   simp only[fst];rw[if_neg (by rw[uq G0];decide),if_neg (by rw[uq G1];decide)];rw[if_pos (by simp[zcY,hB0,hB1])]
  have hr:r=some (70,0):=by rw[← uq HI,hc];rfl
  subst hr;clear hc HI;go_wp2_with fail
  go_ret2;exact⟨uq K0,rfl⟩
 go_wp2_with fail
 (refine((uq TB) _ _ _ _).mono ?_;rintro e w0 ⟨rfl,rfl⟩);cases hB2:btw 0 a5 1000000000
 ·have hc:whE a0 a1 a2 a3 a4 nN nS a5 a6=some 70:=by
   unfold whE
   simp only[fst];rw[if_neg (by rw[uq G0];decide),if_neg (by rw[uq G1];decide)];rw[if_neg (by simp[zcY,hB0,hB1]),if_pos (by simp[hB2])]
  have hr:r=some (70,0):=by rw[← uq HI,hc];rfl
  subst hr;clear hc HI;go_wp2_with fail
  go_ret2;exact⟨uq K0,rfl⟩
 go_wp2_with fail
 (refine((uq TB) _ _ _ _).mono ?_;rintro e w0 ⟨rfl,rfl⟩);cases hB3:btw 0 a6 1000000000
 ·have hc:whE a0 a1 a2 a3 a4 nN nS a5 a6=some 70:=by
   unfold whE
   simp only[fst];rw[if_neg (by rw[uq G0];decide),if_neg (by rw[uq G1];decide)];rw[if_neg (by simp[zcY,hB0,hB1]),if_pos (by simp[hB2,hB3])]
  have hr:r=some (70,0):=by rw[← uq HI,hc];rfl
  subst hr;clear hc HI;go_wp2_with fail
  go_ret2;exact⟨uq K0,rfl⟩
 by_cases hz:((nN:Int)==0)=true
 ·have hc:whE a0 a1 a2 a3 a4 nN nS a5 a6=some 73:=by
   unfold whE
   simp only[fst];rw[if_neg (by rw[uq G0];decide),if_neg (by rw[uq G1];decide),if_neg (by simp[zcY,hB0,hB1]),if_neg (by simp[hB2,hB3]),if_pos hz]
  have hr:r=some (73,0):=by rw[← uq HI,hc];rfl
  subst hr;clear hc HI;go_wp2_with fail
  go_ret2;exact⟨uq K0,rfl⟩
 have hz0:((nN:Int)==0)=false:=by simpa using hz
 have HI2:Hid (ors [fE (nsF T9 R P) 0 nN,es]=r):=hide (by
  have hc:whE a0 a1 a2 a3 a4 nN nS a5 a6=none:=by
   unfold whE
   simp only[fst];rw[if_neg (by rw[uq G0];decide),if_neg (by rw[uq G1];decide),if_neg (by simp[zcY,hB0,hB1]),if_neg (by simp[hB2,hB3]),if_neg hz]
  have:=uq HI;rw[hc]at this;exact this)
 replace TD:=hide ((uq TD) (uq HNN));clear hB0 hB1 hB2 hB3 hz g0 g1 g2 g3 g4 g5;obtain⟨r1,HR1⟩:∃ r1,Hid (fE (nsF T9 R P) 0 nN=r1):=⟨_,hide rfl⟩;have HF0:Hid (fE (nsF T9 R P) 0 (nN - 0)=r1):=HR1;rw[uq HR1]at HI2;go_wp2_with fail
 clear hz0 z0 z1 z2 z3 z4 z5 z6 z7 z8
 go_loopw [4] (fun vi wr=>∃ k:Nat,vi= .int .i64 (k:Int)∧k≤nN∧Hid (Keep w0 wr)∧Hid (fE (nsF T9 R P) k (nN - k)=r1)) (fun vi _=>nN - (intOf vi).toNat)
 case atStart=>exact⟨0,rfl,by omega,hide (Keep.refl _),HF0⟩
 case round=>
  obtain⟨k,rfl,hk,KW,HF⟩:=hrel;obtain⟨z0,z1,z2,z3,z4,z5,z6,z7,z8⟩:=(uq HX0) wr (uq KW);by_cases hlt:k<nN
  ·have li:(k:Int)<(nN:Int):=by omega
   obtain⟨ad,rfl,hb,d0,d1,d2,d3,d4,d5,d6⟩:=(uq HCN) k hlt;have HD9:Hid (∀ w',Keep w0 w'→(w'.cell? ⟨q0,0,none⟩=some (.int .i64 a0)∧w'.cell? ⟨q0,1,none⟩=some (.int .i64 a1)∧w'.cell? ⟨q0,2,none⟩=some (.int .i64 a2)∧w'.cell? ⟨q0,3,none⟩=some (.int .i64 a3)∧w'.cell? ⟨q0,4,none⟩=some (.int .i64 a4)∧w'.cell? ⟨q0,5,none⟩=some (.slice (some ad) nN cN)∧w'.cell? ⟨q0,6,none⟩=some (.slice aS nS cS)∧w'.cell? ⟨q0,7,none⟩=some (.int .i64 a5)∧w'.cell? ⟨q0,8,none⟩=some (.int .i64 a6))∧w'.cell? (ad.add (k * 7))=some (.string (T k))∧w'.cell? ⟨(ad.add (k * 7)).block,(ad.add (k * 7)).off+1,none⟩=some (.slice (X1 k) (N1 k) (C1 k))∧w'.cell? ⟨(ad.add (k * 7)).block,(ad.add (k * 7)).off+2,none⟩=some (.slice (X2 k) (N2 k) (C2 k))∧w'.cell? ⟨(ad.add (k * 7)).block,(ad.add (k * 7)).off+3,none⟩=some (.slice (X3 k) (N3 k) (C3 k))∧w'.cell? ⟨(ad.add (k * 7)).block,(ad.add (k * 7)).off+4,none⟩=some (.slice (X4 k) (N4 k) (C4 k))∧w'.cell? ⟨(ad.add (k * 7)).block,(ad.add (k * 7)).off+5,none⟩=some (.slice (X5 k) (N5 k) (C5 k))∧w'.cell? ⟨(ad.add (k * 7)).block,(ad.add (k * 7)).off+6,none⟩=some (.int .i64 (P k))):=hide (fun w' k9=>by
    have k8:=(uq K0).trans k9;have hB:(ad.add (k * 7)).block<w.heap.size:=by rw[add_block9];exact hb
    exact⟨(uq HX0) w' k9,far_cell k8 hB d0,far_cell k8 hB d1,far_cell k8 hB d2,far_cell k8 hB d3,far_cell k8 hB d4,far_cell k8 hB d5,far_cell k8 hB d6⟩)
   clear d0 d1 d2 d3 d4 d5 d6;have ht:=(uq HT) k hlt;obtain⟨j,HJ⟩:∃ j,Hid (nN9 (T9 k)=j):=⟨_,hide rfl⟩;have TK:=hide (fun w'=>(uq TN) (T9 k) w');have hja:=(uq HNI) k hlt;rw[uq HJ]at TK hja;rw[← ht]at TK;clear ht;have HLT:=hide hlt;have HZk:=hide ((uq HZ) k);by_cases hh:hs (mk T9 k) (T9 k)=true
   ·have hj:decide (j<(k:Int))=true:=decide_eq_true (hja.2 hh);have hr1:=zab (uq HF) hlt (show nsF T9 R P k=some (71,P k) by unfold nsF;rw[if_pos hh]);have hr:r=some (71,P k):=by rw[← uq HI2,hr1];rfl
    subst hr;clear HF hja hh hr1 HI2 HR1 HI
    go_upto_region 10 with fail
    clear z0 z1 z2 z3 z4 z5 z6 z7 z8;refine wp_region_held_drew (S:=(fun w'=>(w'.cell? ⟨q0,0,none⟩=some (.int .i64 a0)∧w'.cell? ⟨q0,1,none⟩=some (.int .i64 a1)∧w'.cell? ⟨q0,2,none⟩=some (.int .i64 a2)∧w'.cell? ⟨q0,3,none⟩=some (.int .i64 a3)∧w'.cell? ⟨q0,4,none⟩=some (.int .i64 a4)∧w'.cell? ⟨q0,5,none⟩=some (.slice (some ad) nN cN)∧w'.cell? ⟨q0,6,none⟩=some (.slice aS nS cS)∧w'.cell? ⟨q0,7,none⟩=some (.int .i64 a5)∧w'.cell? ⟨q0,8,none⟩=some (.int .i64 a6))∧w'.cell? (ad.add (k * 7))=some (.string (T k))∧w'.cell? ⟨(ad.add (k * 7)).block,(ad.add (k * 7)).off+1,none⟩=some (.slice (X1 k) (N1 k) (C1 k))∧w'.cell? ⟨(ad.add (k * 7)).block,(ad.add (k * 7)).off+2,none⟩=some (.slice (X2 k) (N2 k) (C2 k))∧w'.cell? ⟨(ad.add (k * 7)).block,(ad.add (k * 7)).off+3,none⟩=some (.slice (X3 k) (N3 k) (C3 k))∧w'.cell? ⟨(ad.add (k * 7)).block,(ad.add (k * 7)).off+4,none⟩=some (.slice (X4 k) (N4 k) (C4 k))∧w'.cell? ⟨(ad.add (k * 7)).block,(ad.add (k * 7)).off+5,none⟩=some (.slice (X5 k) (N5 k) (C5 k))∧w'.cell? ⟨(ad.add (k * 7)).block,(ad.add (k * 7)).off+6,none⟩=some (.int .i64 (P k)))) (by kernel_rfl) (by exact(uq HD9) _ (uq KW).drew) (fun hHeld=>?_);refine tkk 0 74 hHeld ?_;try simp only[Act.put,Ya,Yb,Yc]
    refine tkk 1 75 hHeld ?_;try simp only[Act.put,Ya,Yb,Yc]
    refine tkk 2 76 hHeld ?_;try simp only[Act.put,Ya,Yb,Yc]
    refine tkk 3 77 hHeld ?_;try simp only[Act.put,Ya,Yb,Yc]
    refine tkk 4 78 hHeld ?_;try simp only[Act.put,Ya,Yb,Yc]
    refine tkk 5 79 hHeld ?_;try simp only[Act.put,Ya,Yb,Yc]
    refine tkk 6 80 hHeld ?_;try simp only[Act.put,Ya,Yb,Yc]
    refine tkk 8 82 hHeld ?_;try simp only[Act.put,Ya,Yb,Yc]
    refine zal 7 (fun K hK=>?_);go_simp;clear hHeld;(refine((uq TK) _ ((uq K0).trans (uq KW).drew)).mono ?_;rintro e w3 ⟨rfl,hk9⟩;have K3:=hide ((uq KW).drew.trans hk9);clear hk9);try go_wp2_with fail
    refine hK.out _ _ ?_ (fun hHeld=>?_)
    ·exact(uq HD9) _ (uq K3)
    clear hK K;try simp only[Act.put,Ya,Yb,Yc]
    refine tkk 9 83 hHeld ?_;try simp only[Act.put,Ya,Yb,Yc]
    refine wpAnyH_done (by kernel_rfl) ?_ _;clear hHeld
    go_upto_region 11 with fail
    refine wp_region_held_drew (S:=(fun w'=>(w'.cell? ⟨q0,0,none⟩=some (.int .i64 a0)∧w'.cell? ⟨q0,1,none⟩=some (.int .i64 a1)∧w'.cell? ⟨q0,2,none⟩=some (.int .i64 a2)∧w'.cell? ⟨q0,3,none⟩=some (.int .i64 a3)∧w'.cell? ⟨q0,4,none⟩=some (.int .i64 a4)∧w'.cell? ⟨q0,5,none⟩=some (.slice (some ad) nN cN)∧w'.cell? ⟨q0,6,none⟩=some (.slice aS nS cS)∧w'.cell? ⟨q0,7,none⟩=some (.int .i64 a5)∧w'.cell? ⟨q0,8,none⟩=some (.int .i64 a6))∧w'.cell? (ad.add (k * 7))=some (.string (T k))∧w'.cell? ⟨(ad.add (k * 7)).block,(ad.add (k * 7)).off+1,none⟩=some (.slice (X1 k) (N1 k) (C1 k))∧w'.cell? ⟨(ad.add (k * 7)).block,(ad.add (k * 7)).off+2,none⟩=some (.slice (X2 k) (N2 k) (C2 k))∧w'.cell? ⟨(ad.add (k * 7)).block,(ad.add (k * 7)).off+3,none⟩=some (.slice (X3 k) (N3 k) (C3 k))∧w'.cell? ⟨(ad.add (k * 7)).block,(ad.add (k * 7)).off+4,none⟩=some (.slice (X4 k) (N4 k) (C4 k))∧w'.cell? ⟨(ad.add (k * 7)).block,(ad.add (k * 7)).off+5,none⟩=some (.slice (X5 k) (N5 k) (C5 k))∧w'.cell? ⟨(ad.add (k * 7)).block,(ad.add (k * 7)).off+6,none⟩=some (.int .i64 (P k)))) (by kernel_rfl) (by exact(uq HD9) _ (uq K3).drew) (fun hHeld=>?_);refine tkk 0 84 hHeld ?_;try simp only[Act.put,Ya,Yb,Yc]
    refine tkk 1 85 hHeld ?_;try simp only[Act.put,Ya,Yb,Yc]
    refine tkk 2 86 hHeld ?_;try simp only[Act.put,Ya,Yb,Yc]
    refine tkk 3 87 hHeld ?_;try simp only[Act.put,Ya,Yb,Yc]
    refine tkk 4 88 hHeld ?_;try simp only[Act.put,Ya,Yb,Yc]
    refine tkk 5 89 hHeld ?_;try simp only[Act.put,Ya,Yb,Yc]
    refine tkk 6 2 hHeld ?_;try simp only[Act.put,Ya,Yb,Yc]
    refine tkk 7 3 hHeld ?_;try simp only[Act.put,Ya,Yb,Yc]
    refine wpAnyH_done (by kernel_rfl) ?_ _;clear hHeld;go_wp2_with fail
    go_ret2;exact⟨(uq K0).trans (uq K3).drew,rfl⟩
   have hj:decide (j<(k:Int))=false:=decide_eq_false (fun h=>hh (hja.1 h));have HH:=hide hh;have TDk:=hide ((uq TD) k hlt);clear hja hh
   go_upto_region 10 with fail
   clear z0 z1 z2 z3 z4 z5 z6 z7 z8;refine wp_region_held_drew (S:=(fun w'=>(w'.cell? ⟨q0,0,none⟩=some (.int .i64 a0)∧w'.cell? ⟨q0,1,none⟩=some (.int .i64 a1)∧w'.cell? ⟨q0,2,none⟩=some (.int .i64 a2)∧w'.cell? ⟨q0,3,none⟩=some (.int .i64 a3)∧w'.cell? ⟨q0,4,none⟩=some (.int .i64 a4)∧w'.cell? ⟨q0,5,none⟩=some (.slice (some ad) nN cN)∧w'.cell? ⟨q0,6,none⟩=some (.slice aS nS cS)∧w'.cell? ⟨q0,7,none⟩=some (.int .i64 a5)∧w'.cell? ⟨q0,8,none⟩=some (.int .i64 a6))∧w'.cell? (ad.add (k * 7))=some (.string (T k))∧w'.cell? ⟨(ad.add (k * 7)).block,(ad.add (k * 7)).off+1,none⟩=some (.slice (X1 k) (N1 k) (C1 k))∧w'.cell? ⟨(ad.add (k * 7)).block,(ad.add (k * 7)).off+2,none⟩=some (.slice (X2 k) (N2 k) (C2 k))∧w'.cell? ⟨(ad.add (k * 7)).block,(ad.add (k * 7)).off+3,none⟩=some (.slice (X3 k) (N3 k) (C3 k))∧w'.cell? ⟨(ad.add (k * 7)).block,(ad.add (k * 7)).off+4,none⟩=some (.slice (X4 k) (N4 k) (C4 k))∧w'.cell? ⟨(ad.add (k * 7)).block,(ad.add (k * 7)).off+5,none⟩=some (.slice (X5 k) (N5 k) (C5 k))∧w'.cell? ⟨(ad.add (k * 7)).block,(ad.add (k * 7)).off+6,none⟩=some (.int .i64 (P k)))) (by kernel_rfl) (by exact(uq HD9) _ (uq KW).drew) (fun hHeld=>?_);refine tkk 0 74 hHeld ?_;try simp only[Act.put,Ya,Yb,Yc]
   refine tkk 1 75 hHeld ?_;try simp only[Act.put,Ya,Yb,Yc]
   refine tkk 2 76 hHeld ?_;try simp only[Act.put,Ya,Yb,Yc]
   refine tkk 3 77 hHeld ?_;try simp only[Act.put,Ya,Yb,Yc]
   refine tkk 4 78 hHeld ?_;try simp only[Act.put,Ya,Yb,Yc]
   refine tkk 5 79 hHeld ?_;try simp only[Act.put,Ya,Yb,Yc]
   refine tkk 6 80 hHeld ?_;try simp only[Act.put,Ya,Yb,Yc]
   refine tkk 8 82 hHeld ?_;try simp only[Act.put,Ya,Yb,Yc]
   refine zal 7 (fun K hK=>?_);go_simp;clear hHeld;(refine((uq TK) _ ((uq K0).trans (uq KW).drew)).mono ?_;rintro e w3 ⟨rfl,hk9⟩;have K3:=hide ((uq KW).drew.trans hk9);clear hk9);try go_wp2_with fail
   refine hK.out _ _ ?_ (fun hHeld=>?_)
   ·exact(uq HD9) _ (uq K3)
   clear hK K;try simp only[Act.put,Ya,Yb,Yc]
   refine tkk 9 83 hHeld ?_;try simp only[Act.put,Ya,Yb,Yc]
   refine wpAnyH_done (by kernel_rfl) ?_ _;clear hHeld;obtain⟨⟨z0,z1,z2,z3,z4,z5,z6,z7,z8⟩,d0,d1,d2,d3,d4,d5,d6⟩:=(uq HD9) w3 (uq K3);clear hj;have HFk:=hide (show nsF T9 R P k=R k by unfold nsF;rw[if_neg (uq HH)]);generalize R k=Rk at *;have TE:=hide ((uq TDk) w3 ((uq K0).trans (uq K3)));rcases Rk with _|⟨cc,pp⟩
   ·have HF2:=hide (zaY (uq HF) (uq HLT) (uq HFk));clear HF HFk HZk;go_wp2_with fail
    (refine(uq TE).mono ?_;rintro e w4 ⟨hk9,rfl⟩);simp only[ez];have K4:=hide ((uq K3).trans hk9);clear hk9;go_wp2_with fail
    go_roundw
    case rel=>exact⟨k+1,by go_num,by have:=uq HLT;omega,K4,HF2⟩
    case measure=>have:=uq HLT;simp[intOf];omega
   ·have hc:(cc !=0)=true:=by have:=(uq HZk) _ rfl;simpa using this
    have hr1:=zab (uq HF) (uq HLT) (uq HFk);have hr:r=some (cc,pp):=by rw[← uq HI2,hr1];rfl
    subst hr;clear HF hr1 HFk HZk HI2 HR1 HI;go_wp2_with fail
    (refine(uq TE).mono ?_;rintro e w4 ⟨hk9,rfl⟩);simp only[ez];have K4:=hide ((uq K3).trans hk9);clear hk9;go_wp2_with fail
    go_ret2;exact⟨(uq K0).trans (uq K4),rfl⟩
  ·have li:¬(k:Int)<(nN:Int):=by omega
   have hr1:=zaF (uq HF) (by omega);have hr:r=es:=by rw[← uq HI2,hr1];cases es<;>rfl
   subst hr;have TE:=hide ((uq TS) wr ((uq K0).trans (uq KW)));clear HF hr1 HI2 HR1 HI;go_wp2_with fail
   (refine(uq TE).mono ?_;rintro e w4 ⟨hk9,rfl⟩);go_wp2_with fail
   go_ret2;exact⟨(uq K0).trans ((uq KW).trans hk9),rfl⟩
end V
end Go.Proofs.YtpmaonkelkmhbaaGreat
namespace Go.Proofs.YtpmaonkelkmhbaaGreat
open Go.RowKit
set_option linter.unusedVariables false
set_option linter.unusedSimpArgs false
set_option maxRecDepth 10000
namespace V
open S
theorem zoN {B:Nat→Bool} {n:Nat} :ix B 0 n<0↔¬0≤ix B 0 n:=by omega
theorem zdG {T:Nat→List UInt8} {s:List UInt8} :∀ n,(0≤ix (fun k=>T k==s) 0 n↔hs (mk T n) s=true)∧(hs (mk T n) s=true→ix (fun k=>T k==s) 0 n=lk (mk T n) s)
 |0=>by simp[mk,hs,ix]
 |n+1=>by
  obtain⟨h1,h2⟩:=zdG (T:=T) (s:=s) n;rw[zdF,zbO,zfd,zi3,Nat.zero_add];by_cases h:hs (mk T n) s=true
  ·have h0:=h1.2 h;rw[if_pos h0,h,if_pos rfl];exact⟨by simpa using h0,fun _=>h2 h⟩
  ·have h0:¬0≤ix (fun k=>T k==s) 0 n:=fun k=>h (h1.1 k)
   have hf:hs (mk T n) s=false:=by simpa using h
   rw[if_neg h0,hf];by_cases h3:(T n==s)=true
   ·rw[if_pos h3];have e:T n=s:=by simpa using h3
    refine⟨by simp[hs,e],fun _=>?_⟩;simp[lk,e]
   ·rw[if_neg h3];have e:¬T n=s:=by simpa using h3
    refine⟨by simp[hs,e],fun k=>?_⟩;simp[hs,e]at k
theorem zfX {L:List (List D)} (nm:List UInt8):nI L nm<0↔hs (mk (tn L) L.length) nm=false:=by
 unfold nI
 rw[zoN,(zdG (T:=tn L) (s:=nm) L.length).1];simp
theorem zoO {L:List (List D)} {nm:List UInt8} (h:hs (mk (tn L) L.length) nm=true):nI L nm=lk (mk (tn L) L.length) nm:=(zdG (T:=tn L) (s:=nm) L.length).2 h
theorem zny {L:List (List D)} (nm:List UInt8):0≤hI L nm↔hs (hmL (ln L 1) (sb L 1) L.length) nm=true:=by
 unfold hI
 exact(zcV (N:=ln L 1) (H:=sb L 1) (B:=fun k=>cI (sub L 1 k) nm) (s:=nm) (fun m=>zfe L m nm) L.length).1.symm
theorem zoP {L:List (List D)} {nm:List UInt8} (h:hs (hmL (ln L 1) (sb L 1) L.length) nm=true):hI L nm=lk (hmL (ln L 1) (sb L 1) L.length) nm:=by
 unfold hI
 exact((zcV (N:=ln L 1) (H:=sb L 1) (B:=fun k=>cI (sub L 1 k) nm) (s:=nm) (fun m=>zfe L m nm) L.length).2 h).symm
theorem zix {B:Nat→Bool} {i:Nat} :∀(n:Nat),i≤n→(0≤ix B 0 n)→(ix B 0 n<(i:Int)↔0≤ix B 0 i):=by
 intro n
 induction n with
 |zero=>
  intro hi h
  have e:i=0:=by omega
  subst e;simp[ix]at h
 |succ n ih=>
  intro hi h
  rcases Nat.eq_or_lt_of_le hi with e|e
  ·subst e;refine⟨fun _=>h,fun _=>?_⟩;rcases zdu B (n+1) 0 with h1|⟨h1,h2⟩
   ·omega
   ·omega
  ·rw[zdF,Nat.zero_add]at h ⊢;by_cases h0:0≤ix B 0 n
   ·rw[if_pos h0];exact ih (by omega) h0
   ·rw[if_neg h0]at h ⊢;by_cases hb:B n=true
    ·rw[if_pos hb];constructor
     ·intro h9;omega
     ·intro h9
      exfalso;apply h0;rw[zaU]at h9 ⊢;obtain⟨j,h1,h2,h3⟩:=h9;exact⟨j,h1,by omega,h3⟩
    ·rw[if_neg hb]at h;omega
theorem zfY {L:List (List D)} {i k:Nat} (hi:i<L.length) (hk:k<ln L 1 i) (BI:Bool) (hB:BI=decide (0≤ix (fun m=>sb L 1 i k==sb L 1 i m) 0 k)):
  (hI L (sb L 1 i k)<(i:Int)∨BI=true)↔hs (hmL (ln L 1) (sb L 1) i++inn (sb L 1) i k) (sb L 1 i k)=true:=by
 have h0:0≤hI L (sb L 1 i k):=by
  rw[zny,zbb];have:∀ M,i<M→sb L 1 i k∈(hmL (ln L 1) (sb L 1) M).map Prod.fst:=by
   intro M
   induction M with
   |zero=>intro h;omega
   |succ M ih=>
    intro h
    rw[hmL,List.map_append,List.mem_append];rcases Nat.lt_succ_iff_lt_or_eq.1 h with e|e
    ·exact .inl (ih e)
    ·subst e;right;rw[zeA];exact List.mem_map.2 ⟨k,List.mem_range.2 hk,rfl⟩
  exact this _ hi
 have h1:=zix (B:=fun m=>cI (sub L 1 m) (sb L 1 i k)) L.length (Nat.le_of_lt hi) h0;have h2:=(zcV (N:=ln L 1) (H:=sb L 1) (B:=fun m=>cI (sub L 1 m) (sb L 1 i k)) (s:=sb L 1 i k) (fun m=>zfe L m _) i).1;unfold hI
 rw[h1,← h2,zfd,Bool.or_eq_true_iff,hB];have h3:(decide (0≤ix (fun m=>sb L 1 i k==sb L 1 i m) 0 k)=true)↔hs (inn (sb L 1) i k) (sb L 1 i k)=true:=by
  rw[decide_eq_true_eq,zaU,zbb,zeA,List.mem_map];constructor
  ·rintro⟨j,_,h2,h3⟩;have h4:sb L 1 i k=sb L 1 i j:=by simpa using h3
   exact⟨j,List.mem_range.2 (by omega),h4.symm⟩
  ·rintro⟨j,h2,h3⟩;exact⟨j,Nat.zero_le _,by have:=List.mem_range.1 h2;omega,by simp[h3]⟩
 rw[h3]
theorem zff {L:List (List D)} {MH:List (List UInt8×Int)} (h:phE L MH=none):∀ m,m<L.length→∀ o,o<ln L 1 m→hs MH (sb L 1 m o)=true:=by
 intro m hm o ho
 have h1:=zaS _ _ h m (Nat.zero_le _) (by omega);unfold phF at h1
 split at h1
 ·cases h1
 ·cases h2:fE (phI (ln L 1) (sb L 1) MH (iv L 2) m) 0 (ln L 1 m)with
  |some e=>rw[h2]at h1;cases h1
  |none=>
   have h3:=zaS _ _ h2 o (Nat.zero_le _) (by omega);unfold phI at h3
   split at h3
   ·assumption
   ·cases h3
theorem zi5 {N:Nat→Nat} {H:Nat→Nat→List UInt8} {MH:List (List UInt8×Int)} :∀ M,(∀ m,m<M→∀ o,o<N m→hs MH (H m o)=true)→∀ s,hs (hmL N H M) s=true→hs MH s=true
 |0,_,s,h=>by simp[hmL,hs]at h
 |M+1,ho,s,h=>by
  rw[hmL,zfd]at h;rcases Bool.or_eq_true_iff.1 h with h|h
  ·exact zi5 M (fun m hm=>ho m (by omega)) s h
  ·have:=zbb.1 h;rw[zeA,List.mem_map]at this;obtain⟨o,h1,rfl⟩:=this;exact ho M (by omega) o (List.mem_range.1 h1)
theorem zeE {L1 L3:List (List D)} (h2:phE L3 (mk (tn L1) L1.length)=none) (h3:fE (ltF (hmL (ln L3 1) (sb L3 1) L3.length) (tn L1) 73 (iv L1 10)) 0 L1.length=none) (s:List UInt8):hs (mk (tn L1) L1.length) s=hs (hmL (ln L3 1) (sb L3 1) L3.length) s:=by
 rw[Bool.eq_iff_iff];constructor
 ·intro h
  have:=zbb.1 h;simp only[mk,List.map_map,List.mem_map,List.mem_range,Function.comp]at this;obtain⟨k,hk,rfl⟩:=this;exact znu h3 k hk
 ·exact zi5 _ (zff h2) s
theorem zhu {a b:Eq2} (ha:Nz a) (hb:Nz b):Nz (ors [a,b]):=zhp _ (by intro x hx;simp at hx;rcases hx with rfl|rfl<;>assumption)
theorem zpk {a b:Eq2} (h:ors [a,b]=none):a=none∧b=none:=⟨zcE _ h _ (by simp),zcE _ h _ (by simp)⟩
set_option maxHeartbeats 2000000 in
theorem zhv {w:World} {ds:List D} {us:List Value} (hs0:ShL za5 ds) (hr:Rvs w ds us):Calls Tryz.prog 12 #[.agg us.toArray] w (Zq (zei ds) w):=by
 simp only[ShL,Sh1,za5]at hs0;obtain⟨_,_,rfl,⟨s0,rfl,_⟩,⟨_,_,rfl,⟨L1,rfl,b1,q1⟩,⟨_,_,rfl,⟨L2,rfl,b2,q2⟩,⟨_,_,rfl,⟨L3,rfl,b3,q3⟩,⟨_,_,rfl,⟨L4,rfl,b4,q4⟩,⟨_,_,rfl,⟨L5,rfl,b5,q5⟩,⟨_,_,rfl,⟨v6,rfl,_,_⟩,rfl⟩⟩⟩⟩⟩⟩⟩:=hs0;simp only[Rvs,Rv,dS,dI,dB]at hr;obtain⟨_,_,rfl,rfl,⟨_,_,rfl,⟨x1,z1,rfl,y1,m1⟩,⟨_,_,rfl,⟨x2,z2,rfl,y2,m2⟩,⟨_,_,rfl,⟨x3,z3,rfl,y3,m3⟩,⟨_,_,rfl,⟨x4,z4,rfl,y4,m4⟩,⟨_,_,rfl,⟨x5,z5,rfl,y5,m5⟩,⟨_,_,rfl,rfl,rfl⟩⟩⟩⟩⟩⟩⟩:=hr;show Calls _ _ #[.agg #[.string (sv s0),.slice x1 L1.length z1,.slice x2 L2.length z2,.slice x3 L3.length z3,.slice x4 L4.length z4,.slice x5 L5.length z5,.int .i64 v6]] w (Zq (zb2 L1 L2 L3 L4 L5 v6) w);have TH:∀(w1:World),Keep w w1→∀ nm w',Keep w1 w'→Calls Tryz.prog 26 #[.agg #[.string (sv s0),.slice x1 L1.length z1,.slice x2 L2.length z2,.slice x3 L3.length z3,.slice x4 L4.length z4,.slice x5 L5.length z5,.int .i64 v6],.string (sv nm)] w' fun e w''=>e= .returned (.int .i64 (nI L1 nm))∧Keep w' w'':=fun w1 k1 nm w' k=>zfa nm q1 (Rvss.keep (k1.trans k) _ _ _ _ m1) b1
 have TP:∀(w1:World),Keep w w1→∀ nm w',Keep w1 w'→Calls Tryz.prog 43 #[.agg #[.string (sv s0),.slice x1 L1.length z1,.slice x2 L2.length z2,.slice x3 L3.length z3,.slice x4 L4.length z4,.slice x5 L5.length z5,.int .i64 v6],.string (sv nm)] w' fun e w''=>e= .returned (.int .i64 (nI L3 nm))∧Keep w' w'':=fun w1 k1 nm w' k=>zho nm q3 (Rvss.keep (k1.trans k) _ _ _ _ m3) b3
 have TO:∀(w1:World),Keep w w1→∀ nm w',Keep w1 w'→Calls Tryz.prog 8 #[.agg #[.string (sv s0),.slice x1 L1.length z1,.slice x2 L2.length z2,.slice x3 L3.length z3,.slice x4 L4.length z4,.slice x5 L5.length z5,.int .i64 v6],.string (sv nm)] w' fun e w''=>e= .returned (.int .i64 (hI L3 nm))∧Keep w' w'':=fun w1 k1 nm w' k=>zdE nm q3 (Rvss.keep (k1.trans k) _ _ _ _ m3) b3
 refine zfW (sv s0) x1 L1.length z1 x2 L2.length z2 x3 L3.length z3 x4 L4.length z4 x5 L5.length z5 v6 (hdE L1) (ors [phE L3 (mk (tn L1) L1.length),fE (ltF (hmL (ln L3 1) (sb L3 1) L3.length) (tn L1) 73 (iv L1 10)) 0 L1.length]) (wkE L2 (mk (tn L3) L3.length)) (ors [grE L4 (mk (tn L3) L3.length) v6,fE (ltF (rgG (ln L4 0) (gN L4) (gH L4) L4.length) (tn L3) 74 (iv L3 2)) 0 L3.length]) (foE L5 (hmL (ln L3 1) (sb L3 1) L3.length)) w b1 b2 b3 b4 b5
  (hide (znp L1)) (hide (zhu (znq L3 _) (zbQ (fun j=>zfb (by decide) j) _ _))) (hide (znr L2 _)) (hide (zhu (zns L4 _ _) (zbQ (fun j=>zfb (by decide) j) _ _)))
  (hide fun w1 k1=>?_) (hide fun w1 k1=>?_) (hide fun w1 k1=>?_) (hide fun h16 w1 k1=>?_) (hide fun h2n w1 k1=>?_) _ (hide (ziw _ _ _ _ _ _ _ _))
 ·exact zey _ _ _ _ _ _ _ _ _ _ _ _ _ _ _ _ _ (tn L1) (iv L1 1) (iv L1 2) (iv L1 3) (iv L1 4) (iv L1 5) (iv L1 6) (iv L1 7) (iv L1 8) (iv L1 9) (iv L1 10) _ w1 b1 (hide fun k hk=>S.clHead (Keep.refl w1) q1 (Rvss.keep k1 _ _ _ _ m1) k hk) (hide (TH w1 k1)) (hide rfl)
 ·have M1:=Rvss.keep k1 _ _ _ _ m1;have M3:=Rvss.keep k1 _ _ _ _ m3;refine zd1 _ _ _ _ _ _ _ _ _ _ _ _ _ _ _ _ _ (tn L3) (sA w1 x3 3 1) (ln L3 1) (sC w1 x3 3 1) (sb L3 1) (mk (tn L1) L1.length) (iv L3 2) (tn L1) (iv L1 10) (nI L3) (nI L1) (hI L3) (fun i k=>decide (0≤ix (fun m=>sb L3 1 i k==sb L3 1 i m) 0 k)) _ _ w1 b3 b1
   (hide fun i hi=>⟨?_,zcR (w:=w1) (a:=x3) q3 i hi⟩) (hide fun k hk=>?_) (hide fun i hi k hk=>?_) (hide fun k hk=>?_) (hide (TP w1 k1)) (hide (TH w1 k1)) (hide (TO w1 k1)) (hide fun i hi k hk w' kw=>?_) (hide fun k hk=>ahead (tn L3) hk) (hide fun nm=>zfX nm) (hide fun i hi k hk=>zfY hi hk _ rfl) (hide fun k hk=>?_) (hide rfl) (hide rfl)
  ·obtain⟨r1,r2,r3,r4⟩:=rsPhase q3 M3 i hi;exact r2
  ·obtain⟨ad,e,hb,h0,h1,h2⟩:=S.clPhase (Keep.refl w1) q3 M3 k hk;rw[(rsPhase q3 M3 k hk).1]at h1;exact⟨ad,e,hb,h0,h1,h2⟩
  ·obtain⟨r1,r2,r3,r4⟩:=rsPhase q3 M3 i hi;obtain⟨ad,e,hb,h0,_⟩:=clName r4 r3 k hk;exact⟨ad,e,hb,h0⟩
  ·obtain⟨ad,e,hb,h0,h1,h2,h3,h4,h5,h6,h7,h8,h9,h10⟩:=S.clHead (Keep.refl w1) q1 M1 k hk;exact⟨ad,e,hb,h0,h10⟩
  ·obtain⟨r1,r2,r3,r4⟩:=rsPhase q3 M3 i hi;exact zcC _ k _ (sb L3 1 i) (sb L3 1 i k) w' (by have:=zcR (w:=w1) (a:=x3) q3 i hi;unfold maxLen at this;omega) (hide fun m hm=>by
    obtain⟨ad,e,hb,h0,_⟩:=clName r4 (Rvss.keep kw _ _ _ _ r3) m (by unfold ln sub at hk;omega);exact⟨ad,e,h0⟩)
  ·have:=zny (L:=L3) (tn L1 k);rw[← Bool.not_eq_true,← this];omega
 ·exact zez _ _ _ _ _ _ _ _ _ _ _ _ _ _ _ _ _ (tn L2) (un L2) (mk (tn L3) L3.length) (nI L3) (iv L2 2) (iv L2 3) (iv L2 4) (iv L2 5) _ w1 b2 (hide fun k hk=>S.clPed (Keep.refl w1) q2 (Rvss.keep k1 _ _ _ _ m2) k hk) (hide (TP w1 k1)) (hide fun nm=>zfX nm) (hide rfl)
 ·have M3:=Rvss.keep k1 _ _ _ _ m3;have M4:=Rvss.keep k1 _ _ _ _ m4;refine zeB _ _ _ _ _ _ _ _ _ _ _ _ _ _ _ _ _ (sA w1 x4 1 0) (ln L4 0) (sC w1 x4 1 0) (fun _ _=>false) (fun i j=>sA w1 (sA w1 x4 1 0 i) 2 1 j) (gN L4) (fun i j=>sC w1 (sA w1 x4 1 0 i) 2 1 j) (gH L4) (mk (tn L3) L3.length) (tn L3) (iv L3 2) (nI L3) _ _ w1 b4 b3 (by rw[zbZ];omega)
   (hide fun i hi=>⟨zgG q4 i hi,fun j hj=>?_⟩) (hide fun i hi=>?_) (hide fun i hi j hj=>?_) (hide fun i hi j hj m hm=>?_) (hide fun k hk=>?_) (hide (TP w1 k1)) (hide fun nm=>zfX nm) (hide rfl) (hide rfl)
  ·obtain⟨r1,r2,r3,r4⟩:=rsGroup q4 M4 i hi;exact zeh r4 j hj
  ·obtain⟨ad,e,hb,h0⟩:=S.clGroup (Keep.refl w1) q4 M4 i hi;rw[(rsGroup q4 M4 i hi).1]at h0;exact⟨ad,e,hb,h0⟩
  ·obtain⟨r1,r2,r3,r4⟩:=rsGroup q4 M4 i hi;obtain⟨ad,e,hb,h0,h1⟩:=S.clRow (Keep.refl w1) r4 r3 j hj;rw[(rsRow r4 r3 j hj).1]at h1;exact⟨ad,e,hb,h1⟩
  ·obtain⟨r1,r2,r3,r4⟩:=rsGroup q4 M4 i hi;obtain⟨t1,t2,t3,t4⟩:=rsRow r4 r3 j hj;obtain⟨ad,e,hb,h0,_⟩:=clName t4 t3 m hm;exact⟨ad,e,hb,h0⟩
  ·obtain⟨ad,e,hb,h0,h1,h2⟩:=S.clPhase (Keep.refl w1) q3 M3 k hk;exact⟨ad,e,hb,h0,h2⟩
 ·obtain⟨g2,g3⟩:=zpk h2n;exact zfV _ _ _ _ _ _ _ _ _ _ _ _ _ _ _ _ _ (tn L5) (un L5) (hmL (ln L3 1) (sb L3 1) L3.length) (nI L1) (hI L3) (iv L5 2) _ w1 b5 (hide fun k hk=>S.clFoe (Keep.refl w1) q5 (Rvss.keep k1 _ _ _ _ m5) k hk) (hide (TH w1 k1)) (hide (TO w1 k1)) (hide fun nm=>by rw[zfX,zeE g2 g3]) (hide fun nm h=>zoP h) (hide rfl)
theorem znz {a0 a1 a2 a3 a4:Int} {LN LS:List (List D)} {a5 a6:Int} :ez (ors [(whE a0 a1 a2 a3 a4 LN.length LS.length a5 a6).map (fun c=>(c,0)),nsE LN,stE LN LS])=zhL a0 a1 a2 a3 a4 LN LS a5 a6:=by
 unfold zhL
 cases whE a0 a1 a2 a3 a4 LN.length LS.length a5 a6 with
 |some c=>rfl
 |none=>
  cases nsE LN with
  |some x=>rfl
  |none=>cases stE LN LS<;>rfl
set_option maxHeartbeats 2000000 in
theorem zfZ {w:World} {ds:List D} {us:List Value} (hs:ShL zgo ds) (hr:Rvs w ds us):Calls Tryz.prog 4 #[.agg us.toArray] w fun e w'=>e= .returned (.tuple #[.int .i64 (zk5 ds).1,.int .i64 (zk5 ds).2])∧Keep w w':=by
 simp only[ShL,Sh1,zgo]at hs;obtain⟨_,_,rfl,⟨a0,rfl,_,_⟩,⟨_,_,rfl,⟨a1,rfl,_,_⟩,⟨_,_,rfl,⟨a2,rfl,_,_⟩,⟨_,_,rfl,⟨a3,rfl,_,_⟩,⟨_,_,rfl,⟨a4,rfl,_,_⟩,⟨_,_,rfl,⟨LN,rfl,bN,qN⟩,⟨_,_,rfl,⟨LS,rfl,bS,qS⟩,⟨_,_,rfl,⟨a5,rfl,_,_⟩,⟨_,_,rfl,⟨a6,rfl,_,_⟩,rfl⟩⟩⟩⟩⟩⟩⟩⟩⟩:=hs;simp only[Rvs,Rv,dS,dI,dB]at hr;obtain⟨_,_,rfl,rfl,⟨_,_,rfl,rfl,⟨_,_,rfl,rfl,⟨_,_,rfl,rfl,⟨_,_,rfl,rfl,⟨_,_,rfl,⟨aN,cN,rfl,yN,mN⟩,⟨_,_,rfl,⟨aS,cS,rfl,yS,mS⟩,⟨_,_,rfl,rfl,⟨_,_,rfl,rfl,rfl⟩⟩⟩⟩⟩⟩⟩⟩⟩:=hr;show Calls _ _ #[.agg #[.int .i64 a0,.int .i64 a1,.int .i64 a2,.int .i64 a3,.int .i64 a4,.slice aN LN.length cN,.slice aS LS.length cS,.int .i64 a5,.int .i64 a6]] w fun e w'=>e= .returned (.tuple #[.int .i64 (zhL a0 a1 a2 a3 a4 LN LS a5 a6).1,.int .i64 (zhL a0 a1 a2 a3 a4 LN LS a5 a6).2])∧Keep w w'
 rw[← znz];have TN:∀(w1:World),Keep w w1→∀ nm w',Keep w1 w'→Calls Tryz.prog 11 #[.agg #[.int .i64 a0,.int .i64 a1,.int .i64 a2,.int .i64 a3,.int .i64 a4,.slice aN LN.length cN,.slice aS LS.length cS,.int .i64 a5,.int .i64 a6],.string (sv nm)] w' fun e w''=>e= .returned (.int .i64 (nI LN nm))∧Keep w' w'':=fun w1 k1 nm w' k=>ziu nm qN (Rvss.keep (k1.trans k) _ _ _ _ mN) bN
 refine(zeD a0 a1 a2 a3 a4 aN LN.length cN aS LS.length cS a5 a6 (fun k=>sv (tn LN k)) (sA w aN 7 1) (sA w aN 7 2) (sA w aN 7 3) (sA w aN 7 4) (sA w aN 7 5) (sN w aN 7 1) (sC w aN 7 1) (sN w aN 7 2) (sC w aN 7 2) (sN w aN 7 3) (sC w aN 7 3) (sN w aN 7 4) (sC w aN 7 4) (sN w aN 7 5) (sC w aN 7 5) (iv LN 6) (nI LN) (tn LN) (fun k=>zei (LN.getD k [])) (stE LN LS) _ w bS bN
  (hide fun k hk=>S.clNode (Keep.refl w) qN mN k hk) (hide fun k hk=>rfl) (hide (TN w (Keep.refl w))) (hide fun _ k hk w' kw=>zhv (qN _ (zaR hk)) (Rvs.keep kw _ _ (zdp qN mN k hk)))
  (hide fun w1 k1=>?_) (hide fun k hk=>ahead (tn LN) hk) (hide fun k=>zhr _) (hide rfl)).mono fun e w' h=>⟨h.2,h.1⟩
 have MN:=Rvss.keep k1 _ _ _ _ mN;refine zeC a0 a1 a2 a3 a4 aN LN.length cN aS LS.length cS a5 a6 (fun k=>sv (tn LN k)) (sA w1 aN 7 1) (sA w1 aN 7 2) (sA w1 aN 7 3) (sA w1 aN 7 4) (sA w1 aN 7 5) (sN w1 aN 7 1) (sC w1 aN 7 1) (sN w1 aN 7 2) (sC w1 aN 7 2) (sN w1 aN 7 3) (sC w1 aN 7 3) (sN w1 aN 7 4) (sC w1 aN 7 4) (sN w1 aN 7 5) (sC w1 aN 7 5) (iv LN 6) (mk (tn LN) LN.length) (nI LN) (tn LS) (un LS) (s2 LS) (iv LS 3) (iv LS 4) (iv LS 5) (hdj LN) _ w1 bS bN
  (hide fun k hk=>S.clStop (Keep.refl w1) qS (Rvss.keep k1 _ _ _ _ mS) k hk) (hide fun j hj=>S.clNode (Keep.refl w1) qN MN j hj) (hide (TN w1 k1)) (hide fun j hj nm w' kw=>?_) (hide fun nm=>zfX nm) (hide fun nm h=>?_) (hide rfl)
 ·obtain⟨⟨r1,r2,r3,r4⟩,_⟩:=zeV qN MN j hj;have hl:(sub LN 1 j).length≤maxLen:=by
   have hs:=qN _ (zaR hj);unfold sub
   generalize LN.getD j []=ds at hs ⊢;simp only[ShL,Sh1,za5]at hs;obtain⟨_,_,rfl,_,⟨_,_,rfl,⟨L1,rfl,hl,_⟩,_⟩⟩:=hs;exact hl
  have e:hdj LN (j:Int) nm=nI (sub LN 1 j) nm:=by unfold hdj;rw[Int.toNat_natCast]
  rw[e,r1];exact zfa nm r4 (Rvss.keep kw _ _ _ _ r3) hl
 ·obtain⟨j,h1,h2⟩:=zk4 _ h;exact⟨j,h1,by rw[zoO h];exact h2,h2⟩
end V
end Go.Proofs.YtpmaonkelkmhbaaGreat
