/- The document's answer for layer 7: stops, the whole. -/
import Derived.Test.YtpmaonkelkmhbaaGreatVDn
import Derived.Test.YtpmaonkelkmhbaaGreatLSkip
import Derived.Deep.DrawnRows
import Derived.Deep.RegionHeld3
namespace Go.Proofs.YtpmaonkelkmhbaaGreat
open Go.RowKit
attribute [local go_sem ↓] Go.wp_at_zero Go.wp_at_succ
set_option linter.unusedVariables false
set_option linter.unusedSimpArgs false
set_option maxRecDepth 10000
namespace V
set_option maxHeartbeats 8000000 in
theorem zeC (a0 a1 a2 a3 a4:Int) (aN:Option Addr) (nN cN:Nat) (aS:Option Addr) (nS cS:Nat) (a5 a6:Int) (T:Nat→ByteArray) (X1 X2 X3 X4 X5:Nat→Option Addr) (N1 C1 N2 C2 N3 C3 N4 C4 N5 C5:Nat→Nat) (P:Nat→Int) (MN:List (List UInt8×Int)) (nN9:List UInt8→Int) (S0 S1 S2:Nat→List UInt8) (V3 V4 Q:Nat→Int) (hd:Int→List UInt8→Int) (r:Eq2) (w:World) (hn:nS≤9223372036854775807) (hnN:nN≤9223372036854775807)
  (HC:Hid (∀ k,k<nS→∃ ad,aS=some ad∧ad.block<w.heap.size∧w.cell? (ad.add (k * 6))=some (.string (sv (S0 k)))∧w.cell? ⟨(ad.add (k * 6)).block,(ad.add (k * 6)).off+1,none⟩=some (.string (sv (S1 k)))∧w.cell? ⟨(ad.add (k * 6)).block,(ad.add (k * 6)).off+2,none⟩=some (.string (sv (S2 k)))∧w.cell? ⟨(ad.add (k * 6)).block,(ad.add (k * 6)).off+3,none⟩=some (.int .i64 (V3 k))∧w.cell? ⟨(ad.add (k * 6)).block,(ad.add (k * 6)).off+4,none⟩=some (.int .i64 (V4 k))∧w.cell? ⟨(ad.add (k * 6)).block,(ad.add (k * 6)).off+5,none⟩=some (.int .i64 (Q k))))
  (HCN:Hid (∀ j,j<nN→∃ ad,aN=some ad∧ad.block<w.heap.size∧w.cell? (ad.add (j * 7))=some (.string (T j))∧w.cell? ⟨(ad.add (j * 7)).block,(ad.add (j * 7)).off+1,none⟩=some (.slice (X1 j) (N1 j) (C1 j))∧w.cell? ⟨(ad.add (j * 7)).block,(ad.add (j * 7)).off+2,none⟩=some (.slice (X2 j) (N2 j) (C2 j))∧w.cell? ⟨(ad.add (j * 7)).block,(ad.add (j * 7)).off+3,none⟩=some (.slice (X3 j) (N3 j) (C3 j))∧w.cell? ⟨(ad.add (j * 7)).block,(ad.add (j * 7)).off+4,none⟩=some (.slice (X4 j) (N4 j) (C4 j))∧w.cell? ⟨(ad.add (j * 7)).block,(ad.add (j * 7)).off+5,none⟩=some (.slice (X5 j) (N5 j) (C5 j))∧w.cell? ⟨(ad.add (j * 7)).block,(ad.add (j * 7)).off+6,none⟩=some (.int .i64 (P j))))
  (TN:Hid (∀ nm w',Keep w w'→Calls Tryz.prog 11 #[.agg #[.int .i64 a0,.int .i64 a1,.int .i64 a2,.int .i64 a3,.int .i64 a4,.slice aN nN cN,.slice aS nS cS,.int .i64 a5,.int .i64 a6],.string (sv nm)] w' fun e w''=>e= .returned (.int .i64 (nN9 nm))∧Keep w' w''))
  (THD:Hid (∀ j,j<nN→∀ nm w',Keep w w'→Calls Tryz.prog 26 #[.agg #[.string (T j),.slice (X1 j) (N1 j) (C1 j),.slice (X2 j) (N2 j) (C2 j),.slice (X3 j) (N3 j) (C3 j),.slice (X4 j) (N4 j) (C4 j),.slice (X5 j) (N5 j) (C5 j),.int .i64 (P j)],.string (sv nm)] w' fun e w''=>e= .returned (.int .i64 (hd (j:Int) nm))∧Keep w' w''))
  (HNI:Hid (∀ nm,nN9 nm<0↔hs MN nm=false)) (HNJ:Hid (∀ nm,hs MN nm=true→∃ j:Nat,j<nN∧nN9 nm=(j:Int)∧lk MN nm=(j:Int)))
  (HI:Hid (fE (stF MN S0 S1 S2 hd V3 V4 Q) 0 nS=r)):
  Calls Tryz.prog 13 #[.agg #[.int .i64 a0,.int .i64 a1,.int .i64 a2,.int .i64 a3,.int .i64 a4,.slice aN nN cN,.slice aS nS cS,.int .i64 a5,.int .i64 a6]] w (Zq r w):=by
 have TB:=hide zcD;have hnw:=heap_alloc_new w (.cells #[.int .i64 a0,.int .i64 a1,.int .i64 a2,.int .i64 a3,.int .i64 a4,.slice aN nN cN,.slice aS nS cS,.int .i64 a5,.int .i64 a6] 27);have K0:=hide ((Keep.refl w).alloc (.cells #[.int .i64 a0,.int .i64 a1,.int .i64 a2,.int .i64 a3,.int .i64 a4,.slice aN nN cN,.slice aS nS cS,.int .i64 a5,.int .i64 a6] 27));go_enter Tryz.func13,Tryz.ntmps13
 go_upto_region 1 with fail
 generalize w.alloc (.cells #[.int .i64 a0,.int .i64 a1,.int .i64 a2,.int .i64 a3,.int .i64 a4,.slice aN nN cN,.slice aS nS cS,.int .i64 a5,.int .i64 a6] 27)=w0 at hnw K0 ⊢;obtain⟨q0,HQ0⟩:∃ q,Hid (w.heap.size=q):=⟨_,hide rfl⟩;rw[uq HQ0]at hnw ⊢;have HX0:Hid (∀ w':World,Keep w0 w'→w'.cell? ⟨q0,0,none⟩=some (.int .i64 a0)∧w'.cell? ⟨q0,1,none⟩=some (.int .i64 a1)∧w'.cell? ⟨q0,2,none⟩=some (.int .i64 a2)∧w'.cell? ⟨q0,3,none⟩=some (.int .i64 a3)∧w'.cell? ⟨q0,4,none⟩=some (.int .i64 a4)∧w'.cell? ⟨q0,5,none⟩=some (.slice aN nN cN)∧w'.cell? ⟨q0,6,none⟩=some (.slice aS nS cS)∧w'.cell? ⟨q0,7,none⟩=some (.int .i64 a5)∧w'.cell? ⟨q0,8,none⟩=some (.int .i64 a6)):=hide (fun w' k9=>by
  have h1:=k9.block q0 (Array.getElem?_eq_some_iff.1 hnw).1;rw[hnw]at h1;refine⟨?_,?_,?_,?_,?_,?_,?_,?_,?_⟩<;>simp[World.cell?,h1])
 clear hnw;go_wp2_with fail
 go_loopw [4] (fun vi wr=>∃ k:Nat,vi= .int .i64 (k:Int)∧k≤nS∧Hid (Keep w0 wr)∧Hid (fE (stF MN S0 S1 S2 hd V3 V4 Q) k (nS - k)=r)) (fun vi _=>nS - (intOf vi).toNat)
 case atStart=>exact⟨0,rfl,by omega,hide (Keep.refl _),HI⟩
 case round=>
  obtain⟨k,rfl,hk,KW,HF⟩:=hrel;obtain⟨z0,z1,z2,z3,z4,z5,z6,z7,z8⟩:=(uq HX0) wr (uq KW);by_cases hlt:k<nS
  ·have li:(k:Int)<(nS:Int):=by omega
   have KWW:=hide ((uq K0).trans (uq KW));obtain⟨ad,rfl,hb,e0,e1,e2,e3,e4,e5⟩:=(uq HC) k hlt;have HLT:=hide hlt;have y0:=far_cell (uq KWW) (by rw[add_block9];exact hb) e0;have y1:=far_cell (uq KWW) (by show(ad.add (k * 6)).block<_;rw[add_block9];exact hb) e1;have y2:=far_cell (uq KWW) (by show(ad.add (k * 6)).block<_;rw[add_block9];exact hb) e2;have y3:=far_cell (uq KWW) (by show(ad.add (k * 6)).block<_;rw[add_block9];exact hb) e3;have y4:=far_cell (uq KWW) (by show(ad.add (k * 6)).block<_;rw[add_block9];exact hb) e4;have y5:=far_cell (uq KWW) (by show(ad.add (k * 6)).block<_;rw[add_block9];exact hb) e5;clear e0 e1 e2 e3 e4 e5;have hbx:=heap_alloc_new wr (.cells #[.string (sv (S0 k)),.string (sv (S1 k)),.string (sv (S2 k)),.int .i64 (V3 k),.int .i64 (V4 k),.int .i64 (Q k)] 70);have KB:=hide ((uq KW).alloc (.cells #[.string (sv (S0 k)),.string (sv (S1 k)),.string (sv (S2 k)),.int .i64 (V3 k),.int .i64 (V4 k),.int .i64 (Q k)] 70))
   go_upto_region 5 with fail
   generalize wr.alloc (.cells #[.string (sv (S0 k)),.string (sv (S1 k)),.string (sv (S2 k)),.int .i64 (V3 k),.int .i64 (V4 k),.int .i64 (Q k)] 70)=wa at hbx KB ⊢;obtain⟨q,HQ⟩:∃ q,Hid (wr.heap.size=q):=⟨_,hide rfl⟩;rw[uq HQ]at hbx ⊢;have HXX:Hid (∀ w':World,Keep wa w'→(w'.cell? ⟨q0,0,none⟩=some (.int .i64 a0)∧w'.cell? ⟨q0,1,none⟩=some (.int .i64 a1)∧w'.cell? ⟨q0,2,none⟩=some (.int .i64 a2)∧w'.cell? ⟨q0,3,none⟩=some (.int .i64 a3)∧w'.cell? ⟨q0,4,none⟩=some (.int .i64 a4)∧w'.cell? ⟨q0,5,none⟩=some (.slice aN nN cN)∧w'.cell? ⟨q0,6,none⟩=some (.slice (some ad) nS cS)∧w'.cell? ⟨q0,7,none⟩=some (.int .i64 a5)∧w'.cell? ⟨q0,8,none⟩=some (.int .i64 a6))∧w'.cell? ⟨q,0,none⟩=some (.string (sv (S0 k)))∧w'.cell? ⟨q,1,none⟩=some (.string (sv (S1 k)))∧w'.cell? ⟨q,2,none⟩=some (.string (sv (S2 k)))∧w'.cell? ⟨q,3,none⟩=some (.int .i64 (V3 k))∧w'.cell? ⟨q,4,none⟩=some (.int .i64 (V4 k))∧w'.cell? ⟨q,5,none⟩=some (.int .i64 (Q k))):=hide (fun w' k9=>by
    have h1:=k9.block q (Array.getElem?_eq_some_iff.1 hbx).1;rw[hbx]at h1;refine⟨(uq HX0) w' ((uq KB).trans k9),?_,?_,?_,?_,?_,?_⟩<;>simp[World.cell?,h1])
   clear hbx y0 y1 y2 y3 y4 y5 z0 z1 z2 z3 z4 z5 z6 z7 z8;obtain⟨⟨z0,z1,z2,z3,z4,z5,z6,z7,z8⟩,f0,f1,f2,f3,f4,f5⟩:=(uq HXX) wa (Keep.refl wa);obtain⟨j,HJ⟩:∃ j,Hid (nN9 (S0 k)=j):=⟨_,hide rfl⟩;have TK:=hide ((uq TN) (S0 k) wa ((uq K0).trans (uq KB)));have hjn:=(uq HNI) (S0 k);have HJN:=hide ((uq HNJ) (S0 k));rw[uq HJ]at TK hjn HJN;go_wp2_with fail
   (refine(uq TK).mono ?_;rintro e w2 ⟨rfl,hk9⟩;have K2:=hide (hk9);clear hk9);clear z0 z1 z2 z3 z4 z5 z6 z7 z8 f0 f1 f2 f3 f4 f5;obtain⟨⟨z0,z1,z2,z3,z4,z5,z6,z7,z8⟩,f0,f1,f2,f3,f4,f5⟩:=(uq HXX) w2 (uq K2);cases hw:hs MN (S0 k)
   ·have hj:j<0:=hjn.2 hw;have hr:=zab (uq HF) hlt (show stF MN S0 S1 S2 hd V3 V4 Q k=some (72,Q k) by unfold stF;rw[if_neg (by rw[hw];decide)]);subst hr;clear HF hjn hw HJN
    go_upto_region 7 with fail
    refine wp_region_held_drew (S:=(fun w'=>w'.cell? ⟨q,5,none⟩=some (.int .i64 (Q k)))) (by kernel_rfl) (by(obtain⟨⟨_,_,_,_,_,_,_,_,_⟩,_,_,_,_,_,g9⟩:=(uq HXX) _ (uq K2).drew;exact g9)) (fun hHeld=>?_);refine tkk 0 26 hHeld ?_;try simp only[Act.put,Ya,Yb,Yc]
    refine tkk 1 27 hHeld ?_;try simp only[Act.put,Ya,Yb,Yc]
    refine tkk 2 2 hHeld ?_;try simp only[Act.put,Ya,Yb,Yc]
    refine tkk 3 3 hHeld ?_;try simp only[Act.put,Ya,Yb,Yc]
    refine wpAnyH_done (by kernel_rfl) ?_ _;clear hHeld;go_wp2_with fail
    go_ret2;exact⟨(uq K0).trans ((uq KB).trans ((uq K2).drew)),rfl⟩
   have hj:¬j<0:=fun h=>by have:=hjn.1 h;rw[hw]at this;cases this
   obtain⟨jn,hjl,rfl,hlk⟩:=(uq HJN) hw;have HW:=hide hw;have HLK:=hide hlk;clear hjn hw HJN hj hlk;have hj:¬(jn:Int)<0:=by omega
   obtain⟨an,rfl,hnb,d0,d1,d2,d3,d4,d5,d6⟩:=(uq HCN) jn hjl;have HD9:Hid (∀ w',Keep wa w'→(w'.cell? ⟨q0,0,none⟩=some (.int .i64 a0)∧w'.cell? ⟨q0,1,none⟩=some (.int .i64 a1)∧w'.cell? ⟨q0,2,none⟩=some (.int .i64 a2)∧w'.cell? ⟨q0,3,none⟩=some (.int .i64 a3)∧w'.cell? ⟨q0,4,none⟩=some (.int .i64 a4)∧w'.cell? ⟨q0,5,none⟩=some (.slice (some an) nN cN)∧w'.cell? ⟨q0,6,none⟩=some (.slice (some ad) nS cS)∧w'.cell? ⟨q0,7,none⟩=some (.int .i64 a5)∧w'.cell? ⟨q0,8,none⟩=some (.int .i64 a6))∧(w'.cell? ⟨q,0,none⟩=some (.string (sv (S0 k)))∧w'.cell? ⟨q,1,none⟩=some (.string (sv (S1 k)))∧w'.cell? ⟨q,2,none⟩=some (.string (sv (S2 k)))∧w'.cell? ⟨q,3,none⟩=some (.int .i64 (V3 k))∧w'.cell? ⟨q,4,none⟩=some (.int .i64 (V4 k))∧w'.cell? ⟨q,5,none⟩=some (.int .i64 (Q k)))∧w'.cell? (an.add (jn * 7))=some (.string (T jn))∧w'.cell? ⟨(an.add (jn * 7)).block,(an.add (jn * 7)).off+1,none⟩=some (.slice (X1 jn) (N1 jn) (C1 jn))∧w'.cell? ⟨(an.add (jn * 7)).block,(an.add (jn * 7)).off+2,none⟩=some (.slice (X2 jn) (N2 jn) (C2 jn))∧w'.cell? ⟨(an.add (jn * 7)).block,(an.add (jn * 7)).off+3,none⟩=some (.slice (X3 jn) (N3 jn) (C3 jn))∧w'.cell? ⟨(an.add (jn * 7)).block,(an.add (jn * 7)).off+4,none⟩=some (.slice (X4 jn) (N4 jn) (C4 jn))∧w'.cell? ⟨(an.add (jn * 7)).block,(an.add (jn * 7)).off+5,none⟩=some (.slice (X5 jn) (N5 jn) (C5 jn))∧w'.cell? ⟨(an.add (jn * 7)).block,(an.add (jn * 7)).off+6,none⟩=some (.int .i64 (P jn))):=hide (fun w' k9=>by
    obtain⟨g,g2⟩:=(uq HXX) w' k9;have k8:=(uq K0).trans ((uq KB).trans k9);have hB:(an.add (jn * 7)).block<w.heap.size:=by rw[add_block9];exact hnb
    exact⟨g,g2,far_cell k8 hB d0,far_cell k8 hB d1,far_cell k8 hB d2,far_cell k8 hB d3,far_cell k8 hB d4,far_cell k8 hB d5,far_cell k8 hB d6⟩)
   clear d0 d1 d2 d3 d4 d5 d6;go_wp2_with fail
   clear z0 z1 z2 z3 z4 z5 z6 z7 z8 f0 f1 f2 f3 f4 f5
   go_loopw [7] (fun vm wq=>∃ m:Nat,vm= .int .i64 (m:Int)∧m≤k∧Hid (Keep wa wq)∧Hid (∀ j,j<m→¬S0 j=S0 k)) (fun vm _=>k - (intOf vm).toNat)
   case atStart=>exact⟨0,rfl,Nat.zero_le _,K2,hide (fun j hj=>absurd hj (Nat.not_lt_zero _))⟩
   case round=>
    obtain⟨m,rfl,hm,KM,HN⟩:=hrel;obtain⟨⟨z0,z1,z2,z3,z4,z5,z6,z7,z8⟩,f0,f1,f2,f3,f4,f5⟩:=(uq HXX) wr (uq KM);by_cases hmt:m<k
    ·have lm:(m:Int)<(k:Int):=by omega
     have hmn:m<nS:=by have:=uq HLT;omega
     obtain⟨ad2,hA,_,e0,_⟩:=(uq HC) m hmn;cases hA
     have y0:=far_cell ((uq K0).trans ((uq KB).trans (uq KM))) (by rw[add_block9];exact hb) e0;clear e0;have HE9:Hid (∀ w',Keep wr w'→w'.cell? ⟨q0,6,none⟩=some (.slice (some ad) nS cS)∧w'.cell? (ad.add (m * 6))=some (.string (sv (S0 m)))∧w'.cell? ⟨q,0,none⟩=some (.string (sv (S0 k)))):=hide (fun w' k9=>by obtain⟨⟨_,_,_,_,_,_,g6,_⟩,g0,_⟩:=(uq HXX) w' ((uq KM).trans k9);exact⟨g6,far_cell k9 (by have:=Below.size ((uq K0).trans ((uq KB).trans (uq KM)));rw[add_block9];omega) y0,g0⟩);have e9:=sv_beq (S0 m) (S0 k);cases hB:(S0 m==S0 k)
     ·rw[hB]at e9;have HN2:Hid (∀ j,j<m+1→¬S0 j=S0 k):=hide (fun j hj=>(Nat.lt_succ_iff_lt_or_eq.1 hj).elim (fun h=>(uq HN) j h) (fun h=>by subst h;simpa using hB));clear HN hB
      go_upto_region 11 with fail
      refine wp_region_held_drew (S:=(fun w'=>w'.cell? ⟨q0,6,none⟩=some (.slice (some ad) nS cS)∧w'.cell? (ad.add (m * 6))=some (.string (sv (S0 m)))∧w'.cell? ⟨q,0,none⟩=some (.string (sv (S0 k))))) (by kernel_rfl) (by exact(uq HE9) _ (Keep.refl wr).drew) (fun hHeld=>?_);refine tkk 0 33 hHeld ?_;try simp only[Act.put,Ya,Yb,Yc]
      refine tkk 1 34 hHeld ?_;try simp only[Act.put,Ya,Yb,Yc]
      refine tkk 2 35 hHeld ?_;try simp only[Act.put,Ya,Yb,Yc]
      refine tkk 3 36 hHeld ?_;try simp only[Act.put,Ya,Yb,Yc]
      refine tkk 4 37 hHeld ?_;try simp only[Act.put,Ya,Yb,Yc]
      refine tkk 5 38 hHeld ?_;try simp only[Act.put,Ya,Yb,Yc]
      refine tkk 6 39 hHeld ?_;try simp only[Act.put,Ya,Yb,Yc]
      refine tkk 7 40 hHeld ?_;try simp only[Act.put,Ya,Yb,Yc]
      refine tkk 8 41 hHeld ?_;try simp only[Act.put,Ya,Yb,Yc]
      refine wpAnyH_done (by kernel_rfl) ?_ _;clear hHeld;go_wp2_with fail
      go_roundw
      case rel=>exact⟨m+1,by go_num,by omega,hide ((uq KM).drew),HN2⟩
      case measure=>simp[intOf];omega
     ·rw[hB]at e9;have hh:hs (mk S0 k) (S0 k)=true:=zbb.2 (by simp only[mk,List.map_map,List.mem_map,List.mem_range,Function.comp];exact⟨m,hmt,by simpa using hB⟩);have hr:=zab (uq HF) (uq HLT) (show stF MN S0 S1 S2 hd V3 V4 Q k=some (71,Q k) by unfold stF;rw[if_pos (uq HW),if_pos hh]);subst hr;clear HF HN hB hh
      go_upto_region 11 with fail
      refine wp_region_held_drew (S:=(fun w'=>w'.cell? ⟨q0,6,none⟩=some (.slice (some ad) nS cS)∧w'.cell? (ad.add (m * 6))=some (.string (sv (S0 m)))∧w'.cell? ⟨q,0,none⟩=some (.string (sv (S0 k))))) (by kernel_rfl) (by exact(uq HE9) _ (Keep.refl wr).drew) (fun hHeld=>?_);refine tkk 0 33 hHeld ?_;try simp only[Act.put,Ya,Yb,Yc]
      refine tkk 1 34 hHeld ?_;try simp only[Act.put,Ya,Yb,Yc]
      refine tkk 2 35 hHeld ?_;try simp only[Act.put,Ya,Yb,Yc]
      refine tkk 3 36 hHeld ?_;try simp only[Act.put,Ya,Yb,Yc]
      refine tkk 4 37 hHeld ?_;try simp only[Act.put,Ya,Yb,Yc]
      refine tkk 5 38 hHeld ?_;try simp only[Act.put,Ya,Yb,Yc]
      refine tkk 6 39 hHeld ?_;try simp only[Act.put,Ya,Yb,Yc]
      refine tkk 7 40 hHeld ?_;try simp only[Act.put,Ya,Yb,Yc]
      refine tkk 8 41 hHeld ?_;try simp only[Act.put,Ya,Yb,Yc]
      refine wpAnyH_done (by kernel_rfl) ?_ _;clear hHeld
      go_upto_region 12 with fail
      refine wp_region_held_drew (S:=(fun w'=>w'.cell? ⟨q,5,none⟩=some (.int .i64 (Q k)))) (by kernel_rfl) (by(obtain⟨⟨_,_,_,_,_,_,_,_,_⟩,_,_,_,_,_,g9⟩:=(uq HXX) _ ((uq KM).drew).drew;exact g9)) (fun hHeld=>?_);refine tkk 0 42 hHeld ?_;try simp only[Act.put,Ya,Yb,Yc]
      refine tkk 1 43 hHeld ?_;try simp only[Act.put,Ya,Yb,Yc]
      refine tkk 2 2 hHeld ?_;try simp only[Act.put,Ya,Yb,Yc]
      refine tkk 3 3 hHeld ?_;try simp only[Act.put,Ya,Yb,Yc]
      refine wpAnyH_done (by kernel_rfl) ?_ _;clear hHeld;go_wp2_with fail
      go_ret2;exact⟨(uq K0).trans ((uq KB).trans (((uq KM).drew).drew)),rfl⟩
    ·have lm:¬(m:Int)<(k:Int):=by omega
     have hmk:m=k:=by omega
     have hh0:hs (mk S0 k) (S0 k)=false:=by
      cases h:hs (mk S0 k) (S0 k)with
      |false=>rfl
      |true=>have h2:=zbb.1 h;simp only[mk,List.map_map,List.mem_map,List.mem_range,Function.comp]at h2;obtain⟨j,h3,h4⟩:=h2;exact absurd h4 ((uq HN) j (by omega))
     have HH0:=hide hh0;clear HN hh0 hmk;obtain⟨b1,HB1⟩:∃ b,Hid (hd (jn:Int) (S1 k)=b):=⟨_,hide rfl⟩;obtain⟨b2,HB2⟩:∃ b,Hid (hd (jn:Int) (S2 k)=b):=⟨_,hide rfl⟩;have TK1:=hide (fun w'=>(uq THD) jn hjl (S1 k) w');have TK2:=hide (fun w'=>(uq THD) jn hjl (S2 k) w');rw[uq HB1]at TK1;rw[uq HB2]at TK2;by_cases g1:b1<0
     ·have h9:decide (b1<0)=true:=decide_eq_true g1;have hr:=zab (uq HF) (uq HLT) (show stF MN S0 S1 S2 hd V3 V4 Q k=some (72,Q k) by unfold stF;rw[if_pos (uq HW),if_neg (by rw[uq HH0];decide),uq HLK,uq HB1,if_pos g1]);subst hr;clear HF g1
      go_upto_region 13 with fail
      clear z0 z1 z2 z3 z4 z5 z6 z7 z8 f0 f1 f2 f3 f4 f5;refine wp_region_held_drew (S:=(fun w'=>(w'.cell? ⟨q0,0,none⟩=some (.int .i64 a0)∧w'.cell? ⟨q0,1,none⟩=some (.int .i64 a1)∧w'.cell? ⟨q0,2,none⟩=some (.int .i64 a2)∧w'.cell? ⟨q0,3,none⟩=some (.int .i64 a3)∧w'.cell? ⟨q0,4,none⟩=some (.int .i64 a4)∧w'.cell? ⟨q0,5,none⟩=some (.slice (some an) nN cN)∧w'.cell? ⟨q0,6,none⟩=some (.slice (some ad) nS cS)∧w'.cell? ⟨q0,7,none⟩=some (.int .i64 a5)∧w'.cell? ⟨q0,8,none⟩=some (.int .i64 a6))∧(w'.cell? ⟨q,0,none⟩=some (.string (sv (S0 k)))∧w'.cell? ⟨q,1,none⟩=some (.string (sv (S1 k)))∧w'.cell? ⟨q,2,none⟩=some (.string (sv (S2 k)))∧w'.cell? ⟨q,3,none⟩=some (.int .i64 (V3 k))∧w'.cell? ⟨q,4,none⟩=some (.int .i64 (V4 k))∧w'.cell? ⟨q,5,none⟩=some (.int .i64 (Q k)))∧w'.cell? (an.add (jn * 7))=some (.string (T jn))∧w'.cell? ⟨(an.add (jn * 7)).block,(an.add (jn * 7)).off+1,none⟩=some (.slice (X1 jn) (N1 jn) (C1 jn))∧w'.cell? ⟨(an.add (jn * 7)).block,(an.add (jn * 7)).off+2,none⟩=some (.slice (X2 jn) (N2 jn) (C2 jn))∧w'.cell? ⟨(an.add (jn * 7)).block,(an.add (jn * 7)).off+3,none⟩=some (.slice (X3 jn) (N3 jn) (C3 jn))∧w'.cell? ⟨(an.add (jn * 7)).block,(an.add (jn * 7)).off+4,none⟩=some (.slice (X4 jn) (N4 jn) (C4 jn))∧w'.cell? ⟨(an.add (jn * 7)).block,(an.add (jn * 7)).off+5,none⟩=some (.slice (X5 jn) (N5 jn) (C5 jn))∧w'.cell? ⟨(an.add (jn * 7)).block,(an.add (jn * 7)).off+6,none⟩=some (.int .i64 (P jn)))) (by kernel_rfl) (by exact(uq HD9) _ (uq KM).drew) (fun hHeld=>?_);refine tkk 0 44 hHeld ?_;try simp only[Act.put,Ya,Yb,Yc]
      refine tkk 1 45 hHeld ?_;try simp only[Act.put,Ya,Yb,Yc]
      refine tkk 2 46 hHeld ?_;try simp only[Act.put,Ya,Yb,Yc]
      refine tkk 3 47 hHeld ?_;try simp only[Act.put,Ya,Yb,Yc]
      refine tkk 4 48 hHeld ?_;try simp only[Act.put,Ya,Yb,Yc]
      refine tkk 5 49 hHeld ?_;try simp only[Act.put,Ya,Yb,Yc]
      refine tkk 6 50 hHeld ?_;try simp only[Act.put,Ya,Yb,Yc]
      refine zal 7 (fun K hK=>?_);go_simp;clear hHeld;(refine((uq TK1) _ ((uq K0).trans ((uq KB).trans ((uq KM).drew)))).mono ?_;rintro e w3 ⟨rfl,hk9⟩;have K3:=hide ((uq KM).drew.trans hk9);clear hk9);try go_wp2_with fail
      refine hK.out _ _ ?_ (fun hHeld=>?_)
      ·exact(uq HD9) _ (uq K3)
      clear hK K;try simp only[Act.put,Ya,Yb,Yc]
      refine tkk 8 52 hHeld ?_;try simp only[Act.put,Ya,Yb,Yc]
      refine tkk 9 53 hHeld ?_;try simp only[Act.put,Ya,Yb,Yc]
      refine wpAnyH_take (i:=10) (v:=undef) rfl (by kernel_rfl) (by kernel_rfl) (by kernel_rfl) (fun _ _ _ h=>h) (Or.inr ⟨by rfl,rfl⟩) hHeld ?_;show wpAnyH _ _ _ _ _ _ _ (Act.put _ (some 54) _) _;try simp only[Act.put,Ya,Yb,Yc]
      refine wpAnyH_take (i:=11) (v:=undef) rfl (by kernel_rfl) (by kernel_rfl) (by kernel_rfl) (fun _ _ _ h=>h) (Or.inr ⟨by rfl,rfl⟩) hHeld ?_;show wpAnyH _ _ _ _ _ _ _ (Act.put _ (some 55) _) _;try simp only[Act.put,Ya,Yb,Yc]
      refine wpAnyH_take (i:=12) (v:=undef) rfl (by kernel_rfl) (by kernel_rfl) (by kernel_rfl) (fun _ _ _ h=>h) (Or.inr ⟨by rfl,rfl⟩) hHeld ?_;show wpAnyH _ _ _ _ _ _ _ (Act.put _ (some 56) _) _;try simp only[Act.put,Ya,Yb,Yc]
      refine wpAnyH_take (i:=13) (v:=undef) rfl (by kernel_rfl) (by kernel_rfl) (by kernel_rfl) (fun _ _ _ h=>h) (Or.inr ⟨by rfl,rfl⟩) hHeld ?_;show wpAnyH _ _ _ _ _ _ _ (Act.put _ (some 57) _) _;try simp only[Act.put,Ya,Yb,Yc]
      refine wpAnyH_take (i:=14) (v:=undef) rfl (by kernel_rfl) (by kernel_rfl) (by kernel_rfl) (fun _ _ _ h=>h) (Or.inr ⟨by rfl,rfl⟩) hHeld ?_;show wpAnyH _ _ _ _ _ _ _ (Act.put _ (some 58) _) _;try simp only[Act.put,Ya,Yb,Yc]
      refine wpAnyH_take (i:=15) (v:=undef) rfl (by kernel_rfl) (by kernel_rfl) (by kernel_rfl) (fun _ _ _ h=>h) (Or.inr ⟨by rfl,rfl⟩) hHeld ?_;show wpAnyH _ _ _ _ _ _ _ (Act.put _ (some 59) _) _;try simp only[Act.put,Ya,Yb,Yc]
      refine wpAnyH_take (i:=16) (v:=undef) rfl (by kernel_rfl) (by kernel_rfl) (by kernel_rfl) (fun _ _ _ h=>h) (Or.inr ⟨by rfl,rfl⟩) hHeld ?_;show wpAnyH _ _ _ _ _ _ _ (Act.put _ (some 60) _) _;try simp only[Act.put,Ya,Yb,Yc]
      refine wpAnyH_take (i:=17) (v:=undef) rfl (by kernel_rfl) (by kernel_rfl) (by kernel_rfl) (fun _ _ _ h=>h) (Or.inr ⟨by rfl,rfl⟩) hHeld ?_;show wpAnyH _ _ _ _ _ _ _ (Act.put _ (some 61) _) _;try simp only[Act.put,Ya,Yb,Yc]
      refine wpAnyH_take (i:=18) (v:=undef) rfl (by kernel_rfl) (by kernel_rfl) (by kernel_rfl) (fun _ _ _ h=>h) (Or.inr ⟨by rfl,rfl⟩) hHeld ?_;show wpAnyH _ _ _ _ _ _ _ (Act.put _ (some 62) _) _;try simp only[Act.put,Ya,Yb,Yc]
      refine tkk 19 63 hHeld ?_;try simp only[Act.put,Ya,Yb,Yc]
      refine wpAnyH_done (by kernel_rfl) ?_ _;clear hHeld;obtain⟨⟨z0,z1,z2,z3,z4,z5,z6,z7,z8⟩,f0,f1,f2,f3,f4,f5⟩:=(uq HXX) w3 (uq K3)
      go_upto_region 14 with fail
      refine wp_region_held_drew (S:=(fun w'=>w'.cell? ⟨q,5,none⟩=some (.int .i64 (Q k)))) (by kernel_rfl) (by(obtain⟨⟨_,_,_,_,_,_,_,_,_⟩,_,_,_,_,_,g9⟩:=(uq HXX) _ (uq K3).drew;exact g9)) (fun hHeld=>?_);refine tkk 0 64 hHeld ?_;try simp only[Act.put,Ya,Yb,Yc]
      refine tkk 1 65 hHeld ?_;try simp only[Act.put,Ya,Yb,Yc]
      refine tkk 2 2 hHeld ?_;try simp only[Act.put,Ya,Yb,Yc]
      refine tkk 3 3 hHeld ?_;try simp only[Act.put,Ya,Yb,Yc]
      refine wpAnyH_done (by kernel_rfl) ?_ _;clear hHeld;go_wp2_with fail
      go_ret2;exact⟨(uq K0).trans ((uq KB).trans ((uq K3).drew)),rfl⟩
     have h9:decide (b1<0)=false:=decide_eq_false g1;have G1:=hide g1;clear g1;by_cases g2:b2<0
     ·have h8:decide (b2<0)=true:=decide_eq_true g2;have hr:=zab (uq HF) (uq HLT) (show stF MN S0 S1 S2 hd V3 V4 Q k=some (72,Q k) by unfold stF;rw[if_pos (uq HW),if_neg (by rw[uq HH0];decide),uq HLK,uq HB1,if_neg (by have:=uq G1;omega),uq HB2,if_pos g2]);subst hr;clear HF g2
      go_upto_region 13 with fail
      clear z0 z1 z2 z3 z4 z5 z6 z7 z8 f0 f1 f2 f3 f4 f5;refine wp_region_held_drew (S:=(fun w'=>(w'.cell? ⟨q0,0,none⟩=some (.int .i64 a0)∧w'.cell? ⟨q0,1,none⟩=some (.int .i64 a1)∧w'.cell? ⟨q0,2,none⟩=some (.int .i64 a2)∧w'.cell? ⟨q0,3,none⟩=some (.int .i64 a3)∧w'.cell? ⟨q0,4,none⟩=some (.int .i64 a4)∧w'.cell? ⟨q0,5,none⟩=some (.slice (some an) nN cN)∧w'.cell? ⟨q0,6,none⟩=some (.slice (some ad) nS cS)∧w'.cell? ⟨q0,7,none⟩=some (.int .i64 a5)∧w'.cell? ⟨q0,8,none⟩=some (.int .i64 a6))∧(w'.cell? ⟨q,0,none⟩=some (.string (sv (S0 k)))∧w'.cell? ⟨q,1,none⟩=some (.string (sv (S1 k)))∧w'.cell? ⟨q,2,none⟩=some (.string (sv (S2 k)))∧w'.cell? ⟨q,3,none⟩=some (.int .i64 (V3 k))∧w'.cell? ⟨q,4,none⟩=some (.int .i64 (V4 k))∧w'.cell? ⟨q,5,none⟩=some (.int .i64 (Q k)))∧w'.cell? (an.add (jn * 7))=some (.string (T jn))∧w'.cell? ⟨(an.add (jn * 7)).block,(an.add (jn * 7)).off+1,none⟩=some (.slice (X1 jn) (N1 jn) (C1 jn))∧w'.cell? ⟨(an.add (jn * 7)).block,(an.add (jn * 7)).off+2,none⟩=some (.slice (X2 jn) (N2 jn) (C2 jn))∧w'.cell? ⟨(an.add (jn * 7)).block,(an.add (jn * 7)).off+3,none⟩=some (.slice (X3 jn) (N3 jn) (C3 jn))∧w'.cell? ⟨(an.add (jn * 7)).block,(an.add (jn * 7)).off+4,none⟩=some (.slice (X4 jn) (N4 jn) (C4 jn))∧w'.cell? ⟨(an.add (jn * 7)).block,(an.add (jn * 7)).off+5,none⟩=some (.slice (X5 jn) (N5 jn) (C5 jn))∧w'.cell? ⟨(an.add (jn * 7)).block,(an.add (jn * 7)).off+6,none⟩=some (.int .i64 (P jn)))) (by kernel_rfl) (by exact(uq HD9) _ (uq KM).drew) (fun hHeld=>?_);refine tkk 0 44 hHeld ?_;try simp only[Act.put,Ya,Yb,Yc]
      refine tkk 1 45 hHeld ?_;try simp only[Act.put,Ya,Yb,Yc]
      refine tkk 2 46 hHeld ?_;try simp only[Act.put,Ya,Yb,Yc]
      refine tkk 3 47 hHeld ?_;try simp only[Act.put,Ya,Yb,Yc]
      refine tkk 4 48 hHeld ?_;try simp only[Act.put,Ya,Yb,Yc]
      refine tkk 5 49 hHeld ?_;try simp only[Act.put,Ya,Yb,Yc]
      refine tkk 6 50 hHeld ?_;try simp only[Act.put,Ya,Yb,Yc]
      refine zal 7 (fun K hK=>?_);go_simp;clear hHeld;(refine((uq TK1) _ ((uq K0).trans ((uq KB).trans ((uq KM).drew)))).mono ?_;rintro e w3 ⟨rfl,hk9⟩;have K3:=hide ((uq KM).drew.trans hk9);clear hk9);try go_wp2_with fail
      refine hK.out _ _ ?_ (fun hHeld=>?_)
      ·exact(uq HD9) _ (uq K3)
      clear hK K;try simp only[Act.put,Ya,Yb,Yc]
      refine tkk 8 52 hHeld ?_;try simp only[Act.put,Ya,Yb,Yc]
      refine tkk 9 53 hHeld ?_;try simp only[Act.put,Ya,Yb,Yc]
      refine tkk 10 54 hHeld ?_;try simp only[Act.put,Ya,Yb,Yc]
      refine tkk 11 55 hHeld ?_;try simp only[Act.put,Ya,Yb,Yc]
      refine tkk 12 56 hHeld ?_;try simp only[Act.put,Ya,Yb,Yc]
      refine tkk 13 57 hHeld ?_;try simp only[Act.put,Ya,Yb,Yc]
      refine tkk 14 58 hHeld ?_;try simp only[Act.put,Ya,Yb,Yc]
      refine tkk 15 59 hHeld ?_;try simp only[Act.put,Ya,Yb,Yc]
      refine tkk 16 60 hHeld ?_;try simp only[Act.put,Ya,Yb,Yc]
      refine zal 17 (fun K hK=>?_);go_simp;clear hHeld;(refine((uq TK2) _ ((uq K0).trans ((uq KB).trans (uq K3)))).mono ?_;rintro e w4 ⟨rfl,hk9⟩;have K4:=hide ((uq K3).trans hk9);clear hk9);try go_wp2_with fail
      refine hK.out _ _ ?_ (fun hHeld=>?_)
      ·exact(uq HD9) _ (uq K4)
      clear hK K;try simp only[Act.put,Ya,Yb,Yc]
      refine tkk 18 62 hHeld ?_;try simp only[Act.put,Ya,Yb,Yc]
      refine tkk 19 63 hHeld ?_;try simp only[Act.put,Ya,Yb,Yc]
      refine wpAnyH_done (by kernel_rfl) ?_ _;clear hHeld;obtain⟨⟨z0,z1,z2,z3,z4,z5,z6,z7,z8⟩,f0,f1,f2,f3,f4,f5⟩:=(uq HXX) w4 (uq K4)
      go_upto_region 14 with fail
      refine wp_region_held_drew (S:=(fun w'=>w'.cell? ⟨q,5,none⟩=some (.int .i64 (Q k)))) (by kernel_rfl) (by(obtain⟨⟨_,_,_,_,_,_,_,_,_⟩,_,_,_,_,_,g9⟩:=(uq HXX) _ (uq K4).drew;exact g9)) (fun hHeld=>?_);refine tkk 0 64 hHeld ?_;try simp only[Act.put,Ya,Yb,Yc]
      refine tkk 1 65 hHeld ?_;try simp only[Act.put,Ya,Yb,Yc]
      refine tkk 2 2 hHeld ?_;try simp only[Act.put,Ya,Yb,Yc]
      refine tkk 3 3 hHeld ?_;try simp only[Act.put,Ya,Yb,Yc]
      refine wpAnyH_done (by kernel_rfl) ?_ _;clear hHeld;go_wp2_with fail
      go_ret2;exact⟨(uq K0).trans ((uq KB).trans ((uq K4).drew)),rfl⟩
     have h8:decide (b2<0)=false:=decide_eq_false g2;have G2:=hide g2;clear g2
     go_upto_region 13 with fail
     clear z0 z1 z2 z3 z4 z5 z6 z7 z8 f0 f1 f2 f3 f4 f5;refine wp_region_held_drew (S:=(fun w'=>(w'.cell? ⟨q0,0,none⟩=some (.int .i64 a0)∧w'.cell? ⟨q0,1,none⟩=some (.int .i64 a1)∧w'.cell? ⟨q0,2,none⟩=some (.int .i64 a2)∧w'.cell? ⟨q0,3,none⟩=some (.int .i64 a3)∧w'.cell? ⟨q0,4,none⟩=some (.int .i64 a4)∧w'.cell? ⟨q0,5,none⟩=some (.slice (some an) nN cN)∧w'.cell? ⟨q0,6,none⟩=some (.slice (some ad) nS cS)∧w'.cell? ⟨q0,7,none⟩=some (.int .i64 a5)∧w'.cell? ⟨q0,8,none⟩=some (.int .i64 a6))∧(w'.cell? ⟨q,0,none⟩=some (.string (sv (S0 k)))∧w'.cell? ⟨q,1,none⟩=some (.string (sv (S1 k)))∧w'.cell? ⟨q,2,none⟩=some (.string (sv (S2 k)))∧w'.cell? ⟨q,3,none⟩=some (.int .i64 (V3 k))∧w'.cell? ⟨q,4,none⟩=some (.int .i64 (V4 k))∧w'.cell? ⟨q,5,none⟩=some (.int .i64 (Q k)))∧w'.cell? (an.add (jn * 7))=some (.string (T jn))∧w'.cell? ⟨(an.add (jn * 7)).block,(an.add (jn * 7)).off+1,none⟩=some (.slice (X1 jn) (N1 jn) (C1 jn))∧w'.cell? ⟨(an.add (jn * 7)).block,(an.add (jn * 7)).off+2,none⟩=some (.slice (X2 jn) (N2 jn) (C2 jn))∧w'.cell? ⟨(an.add (jn * 7)).block,(an.add (jn * 7)).off+3,none⟩=some (.slice (X3 jn) (N3 jn) (C3 jn))∧w'.cell? ⟨(an.add (jn * 7)).block,(an.add (jn * 7)).off+4,none⟩=some (.slice (X4 jn) (N4 jn) (C4 jn))∧w'.cell? ⟨(an.add (jn * 7)).block,(an.add (jn * 7)).off+5,none⟩=some (.slice (X5 jn) (N5 jn) (C5 jn))∧w'.cell? ⟨(an.add (jn * 7)).block,(an.add (jn * 7)).off+6,none⟩=some (.int .i64 (P jn)))) (by kernel_rfl) (by exact(uq HD9) _ (uq KM).drew) (fun hHeld=>?_);refine tkk 0 44 hHeld ?_;try simp only[Act.put,Ya,Yb,Yc]
     refine tkk 1 45 hHeld ?_;try simp only[Act.put,Ya,Yb,Yc]
     refine tkk 2 46 hHeld ?_;try simp only[Act.put,Ya,Yb,Yc]
     refine tkk 3 47 hHeld ?_;try simp only[Act.put,Ya,Yb,Yc]
     refine tkk 4 48 hHeld ?_;try simp only[Act.put,Ya,Yb,Yc]
     refine tkk 5 49 hHeld ?_;try simp only[Act.put,Ya,Yb,Yc]
     refine tkk 6 50 hHeld ?_;try simp only[Act.put,Ya,Yb,Yc]
     refine zal 7 (fun K hK=>?_);go_simp;clear hHeld;(refine((uq TK1) _ ((uq K0).trans ((uq KB).trans ((uq KM).drew)))).mono ?_;rintro e w3 ⟨rfl,hk9⟩;have K3:=hide ((uq KM).drew.trans hk9);clear hk9);try go_wp2_with fail
     refine hK.out _ _ ?_ (fun hHeld=>?_)
     ·exact(uq HD9) _ (uq K3)
     clear hK K;try simp only[Act.put,Ya,Yb,Yc]
     refine tkk 8 52 hHeld ?_;try simp only[Act.put,Ya,Yb,Yc]
     refine tkk 9 53 hHeld ?_;try simp only[Act.put,Ya,Yb,Yc]
     refine tkk 10 54 hHeld ?_;try simp only[Act.put,Ya,Yb,Yc]
     refine tkk 11 55 hHeld ?_;try simp only[Act.put,Ya,Yb,Yc]
     refine tkk 12 56 hHeld ?_;try simp only[Act.put,Ya,Yb,Yc]
     refine tkk 13 57 hHeld ?_;try simp only[Act.put,Ya,Yb,Yc]
     refine tkk 14 58 hHeld ?_;try simp only[Act.put,Ya,Yb,Yc]
     refine tkk 15 59 hHeld ?_;try simp only[Act.put,Ya,Yb,Yc]
     refine tkk 16 60 hHeld ?_;try simp only[Act.put,Ya,Yb,Yc]
     refine zal 17 (fun K hK=>?_);go_simp;clear hHeld;(refine((uq TK2) _ ((uq K0).trans ((uq KB).trans (uq K3)))).mono ?_;rintro e w4 ⟨rfl,hk9⟩;have K4:=hide ((uq K3).trans hk9);clear hk9);try go_wp2_with fail
     refine hK.out _ _ ?_ (fun hHeld=>?_)
     ·exact(uq HD9) _ (uq K4)
     clear hK K;try simp only[Act.put,Ya,Yb,Yc]
     refine tkk 18 62 hHeld ?_;try simp only[Act.put,Ya,Yb,Yc]
     refine tkk 19 63 hHeld ?_;try simp only[Act.put,Ya,Yb,Yc]
     refine wpAnyH_done (by kernel_rfl) ?_ _;clear hHeld;obtain⟨⟨z0,z1,z2,z3,z4,z5,z6,z7,z8⟩,f0,f1,f2,f3,f4,f5⟩:=(uq HXX) w4 (uq K4);clear h8 h9;go_wp2_with fail
     (refine((uq TB) _ _ _ _).mono ?_;rintro e w4 ⟨rfl,rfl⟩);cases hB3:btw 0 (V3 k) 6000
     ·have hr:=zab (uq HF) (uq HLT) (show stF MN S0 S1 S2 hd V3 V4 Q k=some (70,Q k) by unfold stF;rw[if_pos (uq HW),if_neg (by rw[uq HH0];decide),uq HLK,uq HB1,if_neg (by have:=uq G1;omega),uq HB2,if_neg (by have:=uq G2;omega),if_neg (by rw[hB3];decide)]);subst hr;clear HF
      go_upto_region 16 with fail
      refine wp_region_held_drew (S:=(fun w'=>w'.cell? ⟨q,5,none⟩=some (.int .i64 (Q k)))) (by kernel_rfl) (by(obtain⟨⟨_,_,_,_,_,_,_,_,_⟩,_,_,_,_,_,g9⟩:=(uq HXX) _ (uq K4).drew;exact g9)) (fun hHeld=>?_);refine tkk 0 76 hHeld ?_;try simp only[Act.put,Ya,Yb,Yc]
      refine tkk 1 77 hHeld ?_;try simp only[Act.put,Ya,Yb,Yc]
      refine tkk 2 2 hHeld ?_;try simp only[Act.put,Ya,Yb,Yc]
      refine tkk 3 3 hHeld ?_;try simp only[Act.put,Ya,Yb,Yc]
      refine wpAnyH_done (by kernel_rfl) ?_ _;clear hHeld;go_wp2_with fail
      go_ret2;exact⟨(uq K0).trans ((uq KB).trans ((uq K4).drew)),rfl⟩
     go_wp2_with fail
     (refine((uq TB) _ _ _ _).mono ?_;rintro e w4 ⟨rfl,rfl⟩);cases hB4:btw 0 (V4 k) 6000
     ·have hr:=zab (uq HF) (uq HLT) (show stF MN S0 S1 S2 hd V3 V4 Q k=some (70,Q k) by unfold stF;rw[if_pos (uq HW),if_neg (by rw[uq HH0];decide),uq HLK,uq HB1,if_neg (by have:=uq G1;omega),uq HB2,if_neg (by have:=uq G2;omega),if_pos hB3,if_neg (by rw[hB4];decide)]);subst hr;clear HF
      go_upto_region 16 with fail
      refine wp_region_held_drew (S:=(fun w'=>w'.cell? ⟨q,5,none⟩=some (.int .i64 (Q k)))) (by kernel_rfl) (by(obtain⟨⟨_,_,_,_,_,_,_,_,_⟩,_,_,_,_,_,g9⟩:=(uq HXX) _ (uq K4).drew;exact g9)) (fun hHeld=>?_);refine tkk 0 76 hHeld ?_;try simp only[Act.put,Ya,Yb,Yc]
      refine tkk 1 77 hHeld ?_;try simp only[Act.put,Ya,Yb,Yc]
      refine tkk 2 2 hHeld ?_;try simp only[Act.put,Ya,Yb,Yc]
      refine tkk 3 3 hHeld ?_;try simp only[Act.put,Ya,Yb,Yc]
      refine wpAnyH_done (by kernel_rfl) ?_ _;clear hHeld;go_wp2_with fail
      go_ret2;exact⟨(uq K0).trans ((uq KB).trans ((uq K4).drew)),rfl⟩
     by_cases hk0:k=0
     ·have hk9:((k:Int)==0)=true:=by simp[hk0]
      by_cases v3:V3 k=0
      ·have v39:(V3 k !=0)=false:=by simp[v3]
       by_cases v4:V4 k=0
       ·have v49:(V4 k !=0)=false:=by simp[v4]
        have HF2:=hide (zaY (uq HF) (uq HLT) (show stF MN S0 S1 S2 hd V3 V4 Q k=none by unfold stF;rw[if_pos (uq HW),if_neg (by rw[uq HH0];decide),uq HLK,uq HB1,if_neg (by have:=uq G1;omega),uq HB2,if_neg (by have:=uq G2;omega),if_pos hB3,if_pos hB4,if_pos hk0,if_pos v3,if_pos v4]));clear HF;clear hk0 v3 v4;go_wp2_with fail
        go_roundw
        case rel=>exact⟨k+1,by go_num,by have:=uq HLT;omega,hide ((uq KB).trans (uq K4)),HF2⟩
        case measure=>have:=uq HLT;simp[intOf];omega
       ·have v49:(V4 k !=0)=true:=by simp[v4]
        have hr:=zab (uq HF) (uq HLT) (show stF MN S0 S1 S2 hd V3 V4 Q k=some (76,Q k) by unfold stF;rw[if_pos (uq HW),if_neg (by rw[uq HH0];decide),uq HLK,uq HB1,if_neg (by have:=uq G1;omega),uq HB2,if_neg (by have:=uq G2;omega),if_pos hB3,if_pos hB4,if_pos hk0,if_pos v3,if_neg v4]);subst hr;clear HF;clear hk0 v3 v4
        go_upto_region 18 with fail
        refine wp_region_held_drew (S:=(fun w'=>w'.cell? ⟨q,5,none⟩=some (.int .i64 (Q k)))) (by kernel_rfl) (by(obtain⟨⟨_,_,_,_,_,_,_,_,_⟩,_,_,_,_,_,g9⟩:=(uq HXX) _ (uq K4).drew;exact g9)) (fun hHeld=>?_);refine tkk 0 90 hHeld ?_;try simp only[Act.put,Ya,Yb,Yc]
        refine tkk 1 91 hHeld ?_;try simp only[Act.put,Ya,Yb,Yc]
        refine tkk 2 2 hHeld ?_;try simp only[Act.put,Ya,Yb,Yc]
        refine tkk 3 3 hHeld ?_;try simp only[Act.put,Ya,Yb,Yc]
        refine wpAnyH_done (by kernel_rfl) ?_ _;clear hHeld;go_wp2_with fail
        go_ret2;exact⟨(uq K0).trans ((uq KB).trans ((uq K4).drew)),rfl⟩
      ·have v39:(V3 k !=0)=true:=by simp[v3]
       have hr:=zab (uq HF) (uq HLT) (show stF MN S0 S1 S2 hd V3 V4 Q k=some (76,Q k) by unfold stF;rw[if_pos (uq HW),if_neg (by rw[uq HH0];decide),uq HLK,uq HB1,if_neg (by have:=uq G1;omega),uq HB2,if_neg (by have:=uq G2;omega),if_pos hB3,if_pos hB4,if_pos hk0,if_neg v3]);subst hr;clear HF;clear hk0 v3
       go_upto_region 18 with fail
       refine wp_region_held_drew (S:=(fun w'=>w'.cell? ⟨q,5,none⟩=some (.int .i64 (Q k)))) (by kernel_rfl) (by(obtain⟨⟨_,_,_,_,_,_,_,_,_⟩,_,_,_,_,_,g9⟩:=(uq HXX) _ (uq K4).drew;exact g9)) (fun hHeld=>?_);refine tkk 0 90 hHeld ?_;try simp only[Act.put,Ya,Yb,Yc]
       refine tkk 1 91 hHeld ?_;try simp only[Act.put,Ya,Yb,Yc]
       refine tkk 2 2 hHeld ?_;try simp only[Act.put,Ya,Yb,Yc]
       refine tkk 3 3 hHeld ?_;try simp only[Act.put,Ya,Yb,Yc]
       refine wpAnyH_done (by kernel_rfl) ?_ _;clear hHeld;go_wp2_with fail
       go_ret2;exact⟨(uq K0).trans ((uq KB).trans ((uq K4).drew)),rfl⟩
     ·have hk9:((k:Int)==0)=false:=by simp[hk0]
      have HF2:=hide (zaY (uq HF) (uq HLT) (show stF MN S0 S1 S2 hd V3 V4 Q k=none by unfold stF;rw[if_pos (uq HW),if_neg (by rw[uq HH0];decide),uq HLK,uq HB1,if_neg (by have:=uq G1;omega),uq HB2,if_neg (by have:=uq G2;omega),if_pos hB3,if_pos hB4,if_neg hk0]));clear HF;clear hk0;go_wp2_with fail
      go_roundw
      case rel=>exact⟨k+1,by go_num,by have:=uq HLT;omega,hide ((uq KB).trans (uq K4)),HF2⟩
      case measure=>have:=uq HLT;simp[intOf];omega
  ·have li:¬(k:Int)<(nS:Int):=by omega
   have hr:=zaF (uq HF) (by omega);subst hr;go_wp2_with fail
   go_ret2;exact⟨(uq K0).trans (uq KW),rfl⟩
end V
end Go.Proofs.YtpmaonkelkmhbaaGreat
