/- The document's answer for layer 7: the whole. -/
import Derived.Test.YthbfohohelflnaaVDn
import Derived.Test.YthbfohohelflnaaLMath
import Derived.Deep.DrawnRows
import Derived.Deep.RegionHeld3
namespace Go.Proofs.Ythbfohohelflnaa
open Go.RowKit
attribute [local go_sem ↓] Go.wp_at_zero Go.wp_at_succ
set_option linter.unusedVariables false
set_option linter.unusedSimpArgs false
set_option maxRecDepth 10000
namespace V
set_option maxHeartbeats 8000000 in
theorem zdy (a0 a1 a2 a3 a4:Int) (aN:Option Addr) (nN cN:Nat) (aS:Option Addr) (nS cS:Nat) (a5 a6:Int) (T:Nat→ByteArray) (X1 X2 X3 X4 X5:Nat→Option Addr) (N1 C1 N2 C2 N3 C3 N4 C4 N5 C5:Nat→Nat) (P:Nat→Int) (nN9:List UInt8→Int) (T9:Nat→List UInt8) (R:Nat→Eq2) (es r:Eq2) (w:World) (hnS:nS≤9223372036854775807) (hnN:nN≤9223372036854775807)
  (HCN:Hid (∀ k,k<nN→∃ ad,aN=some ad∧ad.block<w.heap.size∧w.cell? (ad.add (k * 7))=some (.string (T k))∧w.cell? ⟨(ad.add (k * 7)).block,(ad.add (k * 7)).off+1,none⟩=some (.slice (X1 k) (N1 k) (C1 k))∧w.cell? ⟨(ad.add (k * 7)).block,(ad.add (k * 7)).off+2,none⟩=some (.slice (X2 k) (N2 k) (C2 k))∧w.cell? ⟨(ad.add (k * 7)).block,(ad.add (k * 7)).off+3,none⟩=some (.slice (X3 k) (N3 k) (C3 k))∧w.cell? ⟨(ad.add (k * 7)).block,(ad.add (k * 7)).off+4,none⟩=some (.slice (X4 k) (N4 k) (C4 k))∧w.cell? ⟨(ad.add (k * 7)).block,(ad.add (k * 7)).off+5,none⟩=some (.slice (X5 k) (N5 k) (C5 k))∧w.cell? ⟨(ad.add (k * 7)).block,(ad.add (k * 7)).off+6,none⟩=some (.int .i64 (P k)))) (HT:Hid (∀ k,k<nN→T k=sv (T9 k)))
  (TN:Hid (∀ nm w',Keep w w'→Calls Try.prog 15 #[.agg #[.int .i64 a0,.int .i64 a1,.int .i64 a2,.int .i64 a3,.int .i64 a4,.slice aN nN cN,.slice aS nS cS,.int .i64 a5,.int .i64 a6],.string (sv nm)] w' fun e w''=>e= .returned (.int .i64 (nN9 nm))∧Keep w' w''))
  (TD:Hid (nN≤12→∀ k,k<nN→∀ w',Keep w w'→Calls Try.prog 16 #[.agg #[.string (T k),.slice (X1 k) (N1 k) (C1 k),.slice (X2 k) (N2 k) (C2 k),.slice (X3 k) (N3 k) (C3 k),.slice (X4 k) (N4 k) (C4 k),.slice (X5 k) (N5 k) (C5 k),.int .i64 (P k)]] w' (Zq (R k) w')))
  (TS:Hid (∀ w',Keep w w'→Calls Try.prog 17 #[.agg #[.int .i64 a0,.int .i64 a1,.int .i64 a2,.int .i64 a3,.int .i64 a4,.slice aN nN cN,.slice aS nS cS,.int .i64 a5,.int .i64 a6]] w' (Zq es w')))
  (HNI:Hid (∀ k,k<nN→(nN9 (T9 k)<(k:Int)↔hs (mk T9 k) (T9 k)=true))) (HZ:Hid (∀ k,Nz (R k)))
  (HI:Hid (ors [(whE a0 a1 a2 a3 a4 nN nS a5 a6).map (fun c=>(c,0)),fE (nsF T9 R P) 0 nN,es]=r)):
  Calls Try.prog 6 #[.agg #[.int .i64 a0,.int .i64 a1,.int .i64 a2,.int .i64 a3,.int .i64 a4,.slice aN nN cN,.slice aS nS cS,.int .i64 a5,.int .i64 a6]] w (Zq r w):=by
 have TB:=hide zcc;have hnw:=heap_alloc_new w (.cells #[.int .i64 a0,.int .i64 a1,.int .i64 a2,.int .i64 a3,.int .i64 a4,.slice aN nN cN,.slice aS nS cS,.int .i64 a5,.int .i64 a6] 27);have K0:=hide ((Keep.refl w).alloc (.cells #[.int .i64 a0,.int .i64 a1,.int .i64 a2,.int .i64 a3,.int .i64 a4,.slice aN nN cN,.slice aS nS cS,.int .i64 a5,.int .i64 a6] 27));go_enter Try.func6,Try.ntmps6
 go_upto_region 1 with fail
 generalize w.alloc (.cells #[.int .i64 a0,.int .i64 a1,.int .i64 a2,.int .i64 a3,.int .i64 a4,.slice aN nN cN,.slice aS nS cS,.int .i64 a5,.int .i64 a6] 27)=w0 at hnw K0 ⊢;obtain⟨q0,HQ0⟩:∃ q,Hid (w.heap.size=q):=⟨_,hide rfl⟩;rw[uq HQ0]at hnw ⊢;have HX0:Hid (∀ w':World,Keep w0 w'→w'.cell? ⟨q0,0,none⟩=some (.int .i64 a0)∧w'.cell? ⟨q0,1,none⟩=some (.int .i64 a1)∧w'.cell? ⟨q0,2,none⟩=some (.int .i64 a2)∧w'.cell? ⟨q0,3,none⟩=some (.int .i64 a3)∧w'.cell? ⟨q0,4,none⟩=some (.int .i64 a4)∧w'.cell? ⟨q0,5,none⟩=some (.slice aN nN cN)∧w'.cell? ⟨q0,6,none⟩=some (.slice aS nS cS)∧w'.cell? ⟨q0,7,none⟩=some (.int .i64 a5)∧w'.cell? ⟨q0,8,none⟩=some (.int .i64 a6)):=hide (fun w' k9=>by
  have h1:=k9.block q0 (Array.getElem?_eq_some_iff.1 hnw).1;rw[hnw]at h1;refine⟨?_,?_,?_,?_,?_,?_,?_,?_,?_⟩<;>simp[World.cell?,h1])
 clear hnw;obtain⟨z0,z1,z2,z3,z4,z5,z6,z7,z8⟩:=(uq HX0) w0 (Keep.refl _);by_cases g0:(12:Int)<(nN:Int)
 ·have hc:whE a0 a1 a2 a3 a4 nN nS a5 a6=some 4:=by
   unfold whE
   simp only[fst];rw[if_pos (by simp;omega)]
  have hr:r=some (4,0):=by rw[← uq HI,hc];rfl
  subst hr;clear hc HI;go_wp2_with fail
  go_ret2;exact⟨uq K0,rfl⟩
 by_cases g1:(12:Int)<(nS:Int)
 ·have hc:whE a0 a1 a2 a3 a4 nN nS a5 a6=some 4:=by
   unfold whE
   simp only[fst];rw[if_pos (by simp;omega)]
  have hr:r=some (4,0):=by rw[← uq HI,hc];rfl
  subst hr;clear hc HI;go_wp2_with fail
  go_ret2;exact⟨uq K0,rfl⟩
 by_cases g2:a0<1
 ·have hc:whE a0 a1 a2 a3 a4 nN nS a5 a6=some 70:=by
   unfold whE
   simp only[fst];rw[if_neg (by simp;omega),if_pos (by simp;omega)]
  have hr:r=some (70,0):=by rw[← uq HI,hc];rfl
  subst hr;clear hc HI;go_wp2_with fail
  go_ret2;exact⟨uq K0,rfl⟩
 by_cases g3:a1<a0
 ·have hc:whE a0 a1 a2 a3 a4 nN nS a5 a6=some 70:=by
   unfold whE
   simp only[fst];rw[if_neg (by simp;omega),if_pos (by simp;omega)]
  have hr:r=some (70,0):=by rw[← uq HI,hc];rfl
  subst hr;clear hc HI;go_wp2_with fail
  go_ret2;exact⟨uq K0,rfl⟩
 by_cases g4:6000<a1
 ·have hc:whE a0 a1 a2 a3 a4 nN nS a5 a6=some 70:=by
   unfold whE
   simp only[fst];rw[if_neg (by simp;omega),if_pos (by simp;omega)]
  have hr:r=some (70,0):=by rw[← uq HI,hc];rfl
  subst hr;clear hc HI;go_wp2_with fail
  go_ret2;exact⟨uq K0,rfl⟩
 by_cases g5:a2<1
 ·have hc:whE a0 a1 a2 a3 a4 nN nS a5 a6=some 70:=by
   unfold whE
   simp only[fst];rw[if_neg (by simp;omega),if_pos (by simp;omega)]
  have hr:r=some (70,0):=by rw[← uq HI,hc];rfl
  subst hr;clear hc HI;go_wp2_with fail
  go_ret2;exact⟨uq K0,rfl⟩
 have G0:=hide (show(decide ((12:Int)<(nN:Int)) || decide ((12:Int)<(nS:Int)))=false by simp;omega);have G1:=hide (show(decide (a0<1) || decide (a1<a0) || decide (6000<a1) || decide (a2<1))=false by simp;omega);have HNN:=hide (show nN≤12 by omega);go_wp2_with fail
 (refine((uq TB) _ _ _ _).mono ?_;rintro e w0 ⟨rfl,rfl⟩);cases hB0:btw 1 a3 1000000000
 ·have hc:whE a0 a1 a2 a3 a4 nN nS a5 a6=some 70:=by
   unfold whE
   simp only[fst];rw[if_neg (by rw[uq G0];decide),if_neg (by rw[uq G1];decide)];rw[if_pos (by simp[zcr,hB0])]
  have hr:r=some (70,0):=by rw[← uq HI,hc];rfl
  subst hr;clear hc HI;go_wp2_with fail
  go_ret2;exact⟨uq K0,rfl⟩
 go_wp2_with fail
 (refine((uq TB) _ _ _ _).mono ?_;rintro e w0 ⟨rfl,rfl⟩);cases hB1:btw 1 a4 1000000000
 ·have hc:whE a0 a1 a2 a3 a4 nN nS a5 a6=some 70:=by
   unfold whE
   simp only[fst];rw[if_neg (by rw[uq G0];decide),if_neg (by rw[uq G1];decide)];rw[if_pos (by simp[zcr,hB0,hB1])]
  have hr:r=some (70,0):=by rw[← uq HI,hc];rfl
  subst hr;clear hc HI;go_wp2_with fail
  go_ret2;exact⟨uq K0,rfl⟩
 go_wp2_with fail
 (refine((uq TB) _ _ _ _).mono ?_;rintro e w0 ⟨rfl,rfl⟩);cases hB2:btw 0 a5 1000000000
 ·have hc:whE a0 a1 a2 a3 a4 nN nS a5 a6=some 70:=by
   unfold whE
   simp only[fst];rw[if_neg (by rw[uq G0];decide),if_neg (by rw[uq G1];decide)];rw[if_neg (by simp[zcr,hB0,hB1]),if_pos (by simp[hB2])]
  have hr:r=some (70,0):=by rw[← uq HI,hc];rfl
  subst hr;clear hc HI;go_wp2_with fail
  go_ret2;exact⟨uq K0,rfl⟩
 go_wp2_with fail
 (refine((uq TB) _ _ _ _).mono ?_;rintro e w0 ⟨rfl,rfl⟩);cases hB3:btw 0 a6 1000000000
 ·have hc:whE a0 a1 a2 a3 a4 nN nS a5 a6=some 70:=by
   unfold whE
   simp only[fst];rw[if_neg (by rw[uq G0];decide),if_neg (by rw[uq G1];decide)];rw[if_neg (by simp[zcr,hB0,hB1]),if_pos (by simp[hB2,hB3])]
  have hr:r=some (70,0):=by rw[← uq HI,hc];rfl
  subst hr;clear hc HI;go_wp2_with fail
  go_ret2;exact⟨uq K0,rfl⟩
 by_cases hz:((nN:Int)==0)=true
 ·have hc:whE a0 a1 a2 a3 a4 nN nS a5 a6=some 73:=by
   unfold whE
   simp only[fst];rw[if_neg (by rw[uq G0];decide),if_neg (by rw[uq G1];decide),if_neg (by simp[zcr,hB0,hB1]),if_neg (by simp[hB2,hB3]),if_pos hz]
  have hr:r=some (73,0):=by rw[← uq HI,hc];rfl
  subst hr;clear hc HI;go_wp2_with fail
  go_ret2;exact⟨uq K0,rfl⟩
 have hz0:((nN:Int)==0)=false:=by simpa using hz
 have HI2:Hid (ors [fE (nsF T9 R P) 0 nN,es]=r):=hide (by
  have hc:whE a0 a1 a2 a3 a4 nN nS a5 a6=none:=by
   unfold whE
   simp only[fst];rw[if_neg (by rw[uq G0];decide),if_neg (by rw[uq G1];decide),if_neg (by simp[zcr,hB0,hB1]),if_neg (by simp[hB2,hB3]),if_neg hz]
  have:=uq HI;rw[hc]at this;exact this)
 replace TD:=hide ((uq TD) (uq HNN));clear hB0 hB1 hB2 hB3 hz g0 g1 g2 g3 g4 g5;obtain⟨r1,HR1⟩:∃ r1,Hid (fE (nsF T9 R P) 0 nN=r1):=⟨_,hide rfl⟩;have HF0:Hid (fE (nsF T9 R P) 0 (nN - 0)=r1):=HR1;rw[uq HR1]at HI2;go_wp2_with fail
 clear hz0 z0 z1 z2 z3 z4 z5 z6 z7 z8
 go_loopw [4] (fun vi wr=>∃ k:Nat,vi= .int .i64 (k:Int)∧k≤nN∧Hid (Keep w0 wr)∧Hid (fE (nsF T9 R P) k (nN - k)=r1)) (fun vi _=>nN - (intOf vi).toNat)
 case atStart=>exact⟨0,rfl,by omega,hide (Keep.refl _),HF0⟩
 case round=>
  obtain⟨k,rfl,hk,KW,HF⟩:=hrel;obtain⟨z0,z1,z2,z3,z4,z5,z6,z7,z8⟩:=(uq HX0) wr (uq KW);by_cases hlt:k<nN
  ·have li:(k:Int)<(nN:Int):=by omega
   obtain⟨ad,rfl,hb,d0,d1,d2,d3,d4,d5,d6⟩:=(uq HCN) k hlt;have HD9:Hid (∀ w',Keep w0 w'→(w'.cell? ⟨q0,0,none⟩=some (.int .i64 a0)∧w'.cell? ⟨q0,1,none⟩=some (.int .i64 a1)∧w'.cell? ⟨q0,2,none⟩=some (.int .i64 a2)∧w'.cell? ⟨q0,3,none⟩=some (.int .i64 a3)∧w'.cell? ⟨q0,4,none⟩=some (.int .i64 a4)∧w'.cell? ⟨q0,5,none⟩=some (.slice (some ad) nN cN)∧w'.cell? ⟨q0,6,none⟩=some (.slice aS nS cS)∧w'.cell? ⟨q0,7,none⟩=some (.int .i64 a5)∧w'.cell? ⟨q0,8,none⟩=some (.int .i64 a6))∧w'.cell? (ad.add (k * 7))=some (.string (T k))∧w'.cell? ⟨(ad.add (k * 7)).block,(ad.add (k * 7)).off+1,none⟩=some (.slice (X1 k) (N1 k) (C1 k))∧w'.cell? ⟨(ad.add (k * 7)).block,(ad.add (k * 7)).off+2,none⟩=some (.slice (X2 k) (N2 k) (C2 k))∧w'.cell? ⟨(ad.add (k * 7)).block,(ad.add (k * 7)).off+3,none⟩=some (.slice (X3 k) (N3 k) (C3 k))∧w'.cell? ⟨(ad.add (k * 7)).block,(ad.add (k * 7)).off+4,none⟩=some (.slice (X4 k) (N4 k) (C4 k))∧w'.cell? ⟨(ad.add (k * 7)).block,(ad.add (k * 7)).off+5,none⟩=some (.slice (X5 k) (N5 k) (C5 k))∧w'.cell? ⟨(ad.add (k * 7)).block,(ad.add (k * 7)).off+6,none⟩=some (.int .i64 (P k))):=hide (fun w' k9=>by
    have k8:=(uq K0).trans k9;have hB:(ad.add (k * 7)).block<w.heap.size:=by rw[zaa];exact hb
    exact⟨(uq HX0) w' k9,zab k8 hB d0,zab k8 hB d1,zab k8 hB d2,zab k8 hB d3,zab k8 hB d4,zab k8 hB d5,zab k8 hB d6⟩)
   clear d0 d1 d2 d3 d4 d5 d6;have ht:=(uq HT) k hlt;obtain⟨j,HJ⟩:∃ j,Hid (nN9 (T9 k)=j):=⟨_,hide rfl⟩;have TK:=hide (fun w'=>(uq TN) (T9 k) w');have hja:=(uq HNI) k hlt;rw[uq HJ]at TK hja;rw[← ht]at TK;clear ht;have HLT:=hide hlt;have HZk:=hide ((uq HZ) k);by_cases hh:hs (mk T9 k) (T9 k)=true
   ·have hj:decide (j<(k:Int))=true:=decide_eq_true (hja.2 hh);have hr1:=zac (uq HF) hlt (show nsF T9 R P k=some (71,P k) by unfold nsF;rw[if_pos hh]);have hr:r=some (71,P k):=by rw[← uq HI2,hr1];rfl
    subst hr;clear HF hja hh hr1 HI2 HR1 HI
    go_upto_region 10 with fail
    clear z0 z1 z2 z3 z4 z5 z6 z7 z8;refine wp_region_held_drew (S:=(fun w'=>(w'.cell? ⟨q0,0,none⟩=some (.int .i64 a0)∧w'.cell? ⟨q0,1,none⟩=some (.int .i64 a1)∧w'.cell? ⟨q0,2,none⟩=some (.int .i64 a2)∧w'.cell? ⟨q0,3,none⟩=some (.int .i64 a3)∧w'.cell? ⟨q0,4,none⟩=some (.int .i64 a4)∧w'.cell? ⟨q0,5,none⟩=some (.slice (some ad) nN cN)∧w'.cell? ⟨q0,6,none⟩=some (.slice aS nS cS)∧w'.cell? ⟨q0,7,none⟩=some (.int .i64 a5)∧w'.cell? ⟨q0,8,none⟩=some (.int .i64 a6))∧w'.cell? (ad.add (k * 7))=some (.string (T k))∧w'.cell? ⟨(ad.add (k * 7)).block,(ad.add (k * 7)).off+1,none⟩=some (.slice (X1 k) (N1 k) (C1 k))∧w'.cell? ⟨(ad.add (k * 7)).block,(ad.add (k * 7)).off+2,none⟩=some (.slice (X2 k) (N2 k) (C2 k))∧w'.cell? ⟨(ad.add (k * 7)).block,(ad.add (k * 7)).off+3,none⟩=some (.slice (X3 k) (N3 k) (C3 k))∧w'.cell? ⟨(ad.add (k * 7)).block,(ad.add (k * 7)).off+4,none⟩=some (.slice (X4 k) (N4 k) (C4 k))∧w'.cell? ⟨(ad.add (k * 7)).block,(ad.add (k * 7)).off+5,none⟩=some (.slice (X5 k) (N5 k) (C5 k))∧w'.cell? ⟨(ad.add (k * 7)).block,(ad.add (k * 7)).off+6,none⟩=some (.int .i64 (P k)))) (by kernel_rfl) (by exact(uq HD9) _ (uq KW).drew) (fun hHeld=>?_);refine tkk 0 74 hHeld ?_;try simp only[Act.put,Ya,Yb,Yc]
    refine tkk 1 75 hHeld ?_;try simp only[Act.put,Ya,Yb,Yc]
    refine tkk 2 76 hHeld ?_;try simp only[Act.put,Ya,Yb,Yc]
    refine tkk 3 77 hHeld ?_;try simp only[Act.put,Ya,Yb,Yc]
    refine tkk 4 78 hHeld ?_;try simp only[Act.put,Ya,Yb,Yc]
    refine tkk 5 79 hHeld ?_;try simp only[Act.put,Ya,Yb,Yc]
    refine tkk 6 80 hHeld ?_;try simp only[Act.put,Ya,Yb,Yc]
    refine tkk 8 82 hHeld ?_;try simp only[Act.put,Ya,Yb,Yc]
    refine zat 7 (fun K hK=>?_);go_simp;clear hHeld;(refine((uq TK) _ ((uq K0).trans (uq KW).drew)).mono ?_;rintro e w3 ⟨rfl,hk9⟩;have K3:=hide ((uq KW).drew.trans hk9);clear hk9);try go_wp2_with fail
    refine hK.out _ _ ?_ (fun hHeld=>?_)
    ·exact(uq HD9) _ (uq K3)
    clear hK K;try simp only[Act.put,Ya,Yb,Yc]
    refine tkk 9 83 hHeld ?_;try simp only[Act.put,Ya,Yb,Yc]
    refine wpAnyH_done (by kernel_rfl) ?_ _;clear hHeld
    go_upto_region 11 with fail
    refine wp_region_held_drew (S:=(fun w'=>(w'.cell? ⟨q0,0,none⟩=some (.int .i64 a0)∧w'.cell? ⟨q0,1,none⟩=some (.int .i64 a1)∧w'.cell? ⟨q0,2,none⟩=some (.int .i64 a2)∧w'.cell? ⟨q0,3,none⟩=some (.int .i64 a3)∧w'.cell? ⟨q0,4,none⟩=some (.int .i64 a4)∧w'.cell? ⟨q0,5,none⟩=some (.slice (some ad) nN cN)∧w'.cell? ⟨q0,6,none⟩=some (.slice aS nS cS)∧w'.cell? ⟨q0,7,none⟩=some (.int .i64 a5)∧w'.cell? ⟨q0,8,none⟩=some (.int .i64 a6))∧w'.cell? (ad.add (k * 7))=some (.string (T k))∧w'.cell? ⟨(ad.add (k * 7)).block,(ad.add (k * 7)).off+1,none⟩=some (.slice (X1 k) (N1 k) (C1 k))∧w'.cell? ⟨(ad.add (k * 7)).block,(ad.add (k * 7)).off+2,none⟩=some (.slice (X2 k) (N2 k) (C2 k))∧w'.cell? ⟨(ad.add (k * 7)).block,(ad.add (k * 7)).off+3,none⟩=some (.slice (X3 k) (N3 k) (C3 k))∧w'.cell? ⟨(ad.add (k * 7)).block,(ad.add (k * 7)).off+4,none⟩=some (.slice (X4 k) (N4 k) (C4 k))∧w'.cell? ⟨(ad.add (k * 7)).block,(ad.add (k * 7)).off+5,none⟩=some (.slice (X5 k) (N5 k) (C5 k))∧w'.cell? ⟨(ad.add (k * 7)).block,(ad.add (k * 7)).off+6,none⟩=some (.int .i64 (P k)))) (by kernel_rfl) (by exact(uq HD9) _ (uq K3).drew) (fun hHeld=>?_);refine tkk 0 84 hHeld ?_;try simp only[Act.put,Ya,Yb,Yc]
    refine tkk 1 85 hHeld ?_;try simp only[Act.put,Ya,Yb,Yc]
    refine tkk 2 86 hHeld ?_;try simp only[Act.put,Ya,Yb,Yc]
    refine tkk 3 87 hHeld ?_;try simp only[Act.put,Ya,Yb,Yc]
    refine tkk 4 88 hHeld ?_;try simp only[Act.put,Ya,Yb,Yc]
    refine tkk 5 89 hHeld ?_;try simp only[Act.put,Ya,Yb,Yc]
    refine tkk 6 2 hHeld ?_;try simp only[Act.put,Ya,Yb,Yc]
    refine tkk 7 3 hHeld ?_;try simp only[Act.put,Ya,Yb,Yc]
    refine wpAnyH_done (by kernel_rfl) ?_ _;clear hHeld;go_wp2_with fail
    go_ret2;exact⟨(uq K0).trans (uq K3).drew,rfl⟩
   have hj:decide (j<(k:Int))=false:=decide_eq_false (fun h=>hh (hja.1 h));have HH:=hide hh;have TDk:=hide ((uq TD) k hlt);clear hja hh
   go_upto_region 10 with fail
   clear z0 z1 z2 z3 z4 z5 z6 z7 z8;refine wp_region_held_drew (S:=(fun w'=>(w'.cell? ⟨q0,0,none⟩=some (.int .i64 a0)∧w'.cell? ⟨q0,1,none⟩=some (.int .i64 a1)∧w'.cell? ⟨q0,2,none⟩=some (.int .i64 a2)∧w'.cell? ⟨q0,3,none⟩=some (.int .i64 a3)∧w'.cell? ⟨q0,4,none⟩=some (.int .i64 a4)∧w'.cell? ⟨q0,5,none⟩=some (.slice (some ad) nN cN)∧w'.cell? ⟨q0,6,none⟩=some (.slice aS nS cS)∧w'.cell? ⟨q0,7,none⟩=some (.int .i64 a5)∧w'.cell? ⟨q0,8,none⟩=some (.int .i64 a6))∧w'.cell? (ad.add (k * 7))=some (.string (T k))∧w'.cell? ⟨(ad.add (k * 7)).block,(ad.add (k * 7)).off+1,none⟩=some (.slice (X1 k) (N1 k) (C1 k))∧w'.cell? ⟨(ad.add (k * 7)).block,(ad.add (k * 7)).off+2,none⟩=some (.slice (X2 k) (N2 k) (C2 k))∧w'.cell? ⟨(ad.add (k * 7)).block,(ad.add (k * 7)).off+3,none⟩=some (.slice (X3 k) (N3 k) (C3 k))∧w'.cell? ⟨(ad.add (k * 7)).block,(ad.add (k * 7)).off+4,none⟩=some (.slice (X4 k) (N4 k) (C4 k))∧w'.cell? ⟨(ad.add (k * 7)).block,(ad.add (k * 7)).off+5,none⟩=some (.slice (X5 k) (N5 k) (C5 k))∧w'.cell? ⟨(ad.add (k * 7)).block,(ad.add (k * 7)).off+6,none⟩=some (.int .i64 (P k)))) (by kernel_rfl) (by exact(uq HD9) _ (uq KW).drew) (fun hHeld=>?_);refine tkk 0 74 hHeld ?_;try simp only[Act.put,Ya,Yb,Yc]
   refine tkk 1 75 hHeld ?_;try simp only[Act.put,Ya,Yb,Yc]
   refine tkk 2 76 hHeld ?_;try simp only[Act.put,Ya,Yb,Yc]
   refine tkk 3 77 hHeld ?_;try simp only[Act.put,Ya,Yb,Yc]
   refine tkk 4 78 hHeld ?_;try simp only[Act.put,Ya,Yb,Yc]
   refine tkk 5 79 hHeld ?_;try simp only[Act.put,Ya,Yb,Yc]
   refine tkk 6 80 hHeld ?_;try simp only[Act.put,Ya,Yb,Yc]
   refine tkk 8 82 hHeld ?_;try simp only[Act.put,Ya,Yb,Yc]
   refine zat 7 (fun K hK=>?_);go_simp;clear hHeld;(refine((uq TK) _ ((uq K0).trans (uq KW).drew)).mono ?_;rintro e w3 ⟨rfl,hk9⟩;have K3:=hide ((uq KW).drew.trans hk9);clear hk9);try go_wp2_with fail
   refine hK.out _ _ ?_ (fun hHeld=>?_)
   ·exact(uq HD9) _ (uq K3)
   clear hK K;try simp only[Act.put,Ya,Yb,Yc]
   refine tkk 9 83 hHeld ?_;try simp only[Act.put,Ya,Yb,Yc]
   refine wpAnyH_done (by kernel_rfl) ?_ _;clear hHeld;obtain⟨⟨z0,z1,z2,z3,z4,z5,z6,z7,z8⟩,d0,d1,d2,d3,d4,d5,d6⟩:=(uq HD9) w3 (uq K3);clear hj;have HFk:=hide (show nsF T9 R P k=R k by unfold nsF;rw[if_neg (uq HH)]);generalize R k=Rk at *;have TE:=hide ((uq TDk) w3 ((uq K0).trans (uq K3)));rcases Rk with _|⟨cc,pp⟩
   ·have HF2:=hide (zaU (uq HF) (uq HLT) (uq HFk));clear HF HFk HZk;go_wp2_with fail
    (refine(uq TE).mono ?_;rintro e w4 ⟨hk9,rfl⟩);simp only[ez];have K4:=hide ((uq K3).trans hk9);clear hk9;go_wp2_with fail
    go_roundw
    case rel=>exact⟨k+1,by go_num,by have:=uq HLT;omega,K4,HF2⟩
    case measure=>have:=uq HLT;simp[intOf];omega
   ·have hc:(cc !=0)=true:=by have:=(uq HZk) _ rfl;simpa using this
    have hr1:=zac (uq HF) (uq HLT) (uq HFk);have hr:r=some (cc,pp):=by rw[← uq HI2,hr1];rfl
    subst hr;clear HF hr1 HFk HZk HI2 HR1 HI;go_wp2_with fail
    (refine(uq TE).mono ?_;rintro e w4 ⟨hk9,rfl⟩);simp only[ez];have K4:=hide ((uq K3).trans hk9);clear hk9;go_wp2_with fail
    go_ret2;exact⟨(uq K0).trans (uq K4),rfl⟩
  ·have li:¬(k:Int)<(nN:Int):=by omega
   have hr1:=zaF (uq HF) (by omega);have hr:r=es:=by rw[← uq HI2,hr1];cases es<;>rfl
   subst hr;have TE:=hide ((uq TS) wr ((uq K0).trans (uq KW)));clear HF hr1 HI2 HR1 HI;go_wp2_with fail
   (refine(uq TE).mono ?_;rintro e w4 ⟨hk9,rfl⟩);go_wp2_with fail
   go_ret2;exact⟨(uq K0).trans ((uq KW).trans hk9),rfl⟩
end V
end Go.Proofs.Ythbfohohelflnaa
