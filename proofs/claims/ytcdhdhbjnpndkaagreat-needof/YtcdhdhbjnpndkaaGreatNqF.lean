/- The document's answer for layer 10: Of. -/
import Derived.Test.YtcdhdhbjnpndkaaGreatNqO
import Derived.Test.YtcdhdhbjnpndkaaGreatLSkip
import Derived.Deep.DrawnRows
import Derived.Deep.RegionHeld3
namespace Go.Proofs.YtcdhdhbjnpndkaaGreat
open Go.RowKit
attribute [local go_sem ↓] Go.wp_at_zero Go.wp_at_succ
set_option linter.unusedVariables false
set_option linter.unusedSimpArgs false
set_option maxRecDepth 10000
namespace Nd
theorem zrb {w:World} {T:Nat} {t:TypeId} {z0 z1 z2 z3 z4 z5 z6:Value} (h:w.heap[T]? =some (.cells #[z0,z1,z2,z3,z4,z5,z6] t (0,0))) (u0 u1 u2 u3 u4 u5 u6:Value):(((((((w.setCell ⟨T,0,none⟩ u0).setCell ⟨T,1,none⟩ u1).setCell ⟨T,2,none⟩ u2).setCell ⟨T,3,none⟩ u3).setCell ⟨T,4,none⟩ u4).setCell ⟨T,5,none⟩ u5).setCell ⟨T,6,none⟩ u6).heap[T]? =some (.cells #[u0,u1,u2,u3,u4,u5,u6] t (0,0)):=by
 have h7:=Q.set_cells (i:=6) (Q.set_cells (i:=5) (Q.set_cells (i:=4) (Q.set_cells (i:=3) (Q.set_cells (i:=2) (Q.set_cells (i:=1) (Q.set_cells (i:=0) h u0) u1) u2) u3) u4) u5) u6;simp only[List.setIfInBounds_toArray,List.set_cons_zero,List.set_cons_succ]at h7;exact h7
set_option maxHeartbeats 4000000 in
theorem zpJ (a0 a1 a2 a3 a4:Int) (aN:Option Addr) (nN cN:Nat) (aS:Option Addr) (nS cS:Nat) (a5 a6:Int) (i:Int) (n:Nat) (P:Nat→List UInt8) (G Y R:Nat→Int) (XZ:Nat→Int×Int) (WL:Nat→List (List UInt8×Int×Int)) (ce cp:Int) (w:World) (hc:i<0∨(nN:Int)≤i∨¬ce=0)
  (TC:Hid (∀ w',Keep w w'→Calls Tryz.prog 13 #[.agg #[.int .i64 a0,.int .i64 a1,.int .i64 a2,.int .i64 a3,.int .i64 a4,.slice aN nN cN,.slice aS nS cS,.int .i64 a5,.int .i64 a6]] w' fun e w''=>e= .returned (.tuple #[.int .i64 ce,.int .i64 cp])∧Keep w' w'')):Calls Tryz.prog 7 #[.agg #[.int .i64 a0,.int .i64 a1,.int .i64 a2,.int .i64 a3,.int .i64 a4,.slice aN nN cN,.slice aS nS cS,.int .i64 a5,.int .i64 a6],.int .i64 i] w (Oq 1 n P G Y R XZ WL w):=by
 have hnw0:=heap_alloc_new w (.cells #[.int .i64 a0,.int .i64 a1,.int .i64 a2,.int .i64 a3,.int .i64 a4,.slice aN nN cN,.slice aS nS cS,.int .i64 a5,.int .i64 a6] 27);have K0:=hide ((Keep.refl w).alloc (.cells #[.int .i64 a0,.int .i64 a1,.int .i64 a2,.int .i64 a3,.int .i64 a4,.slice aN nN cN,.slice aS nS cS,.int .i64 a5,.int .i64 a6] 27));go_enter Tryz.func7,Tryz.ntmps7
 go_upto_region 1 with fail
 generalize w.alloc (.cells #[.int .i64 a0,.int .i64 a1,.int .i64 a2,.int .i64 a3,.int .i64 a4,.slice aN nN cN,.slice aS nS cS,.int .i64 a5,.int .i64 a6] 27)=w0 at hnw0 K0 ⊢;obtain⟨q0,HQ0⟩:∃ q,Hid (w.heap.size=q):=⟨_,hide rfl⟩;rw[uq HQ0]at hnw0 ⊢;have HX0:Hid (∀ w':World,Keep w0 w'→w'.cell? ⟨q0,0,none⟩=some (.int .i64 a0)∧w'.cell? ⟨q0,1,none⟩=some (.int .i64 a1)∧w'.cell? ⟨q0,2,none⟩=some (.int .i64 a2)∧w'.cell? ⟨q0,3,none⟩=some (.int .i64 a3)∧w'.cell? ⟨q0,4,none⟩=some (.int .i64 a4)∧w'.cell? ⟨q0,5,none⟩=some (.slice aN nN cN)∧w'.cell? ⟨q0,6,none⟩=some (.slice aS nS cS)∧w'.cell? ⟨q0,7,none⟩=some (.int .i64 a5)∧w'.cell? ⟨q0,8,none⟩=some (.int .i64 a6)):=hide (fun w' k9=>by
  have h1:=k9.block q0 (Array.getElem?_eq_some_iff.1 hnw0).1;rw[hnw0]at h1;refine⟨?_,?_,?_,?_,?_,?_,?_,?_,?_⟩<;>simp[World.cell?,h1])
 clear hnw0;obtain⟨z0,z1,z2,z3,z4,z5,z6,z7,z8⟩:=(uq HX0) w0 (Keep.refl _);go_wp2_with fail
 (refine((uq TC) _ (uq K0)).mono ?_;rintro e w2 ⟨rfl,hk9⟩;have K2:=hide hk9;clear hk9);clear z0 z1 z2 z3 z4 z5 z6 z7 z8;obtain⟨z0,z1,z2,z3,z4,z5,z6,z7,z8⟩:=(uq HX0) w2 (uq K2);by_cases h1:i<0
 ·go_wp2_with fail
  go_ret2;exact⟨_,rfl,(uq K0).trans (uq K2),fun _=>rfl,fun h=>by cases h⟩
 by_cases h2:(nN:Int)≤i
 ·go_wp2_with fail
  go_ret2;exact⟨_,rfl,(uq K0).trans (uq K2),fun _=>rfl,fun h=>by cases h⟩
 have h3:(ce !=0)=true:=by rcases hc with h|h|h;exact absurd h h1;exact absurd h h2;simpa using h
 clear hc;go_wp2_with fail
 go_ret2;exact⟨_,rfl,(uq K0).trans (uq K2),fun _=>rfl,fun h=>by cases h⟩
set_option maxHeartbeats 16000000 in
theorem zpK (a0 a1 a2 a3 a4:Int) (aN:Option Addr) (nN cN:Nat) (aS:Option Addr) (nS cS:Nat) (a5 a6:Int) (j:Nat) (s:ByteArray) (x1:Option Addr) (n1 c1:Nat) (x2:Option Addr) (n2 c2:Nat) (x3:Option Addr) (n3 c3:Nat) (x4:Option Addr) (n4 c4:Nat) (x5:Option Addr) (n5 c5:Nat) (p:Int) (A:Nat→Option Addr) (N C:Nat→Nat) (pp:Nat→Int) (P:Nat→List UInt8) (G Y R:Nat→Int) (XZ:Nat→Int×Int) (WL:Nat→List (List UInt8×Int×Int)) (T1:Nat→List UInt8) (V1 V2 V3 V4 V5 V6 V7 V8 V9 V10 X Y9 Z:Nat→Int) (cp:Int) (w:World) (hj:j<nN) (hn1:n1≤1000) (hn3:n3≤1000)
  (HCN:Hid (∃ ad,aN=some ad∧ad.block<w.heap.size∧w.cell? (ad.add (j * 7))=some (.string s)∧w.cell? ⟨(ad.add (j * 7)).block,(ad.add (j * 7)).off+1,none⟩=some (.slice x1 n1 c1)∧w.cell? ⟨(ad.add (j * 7)).block,(ad.add (j * 7)).off+2,none⟩=some (.slice x2 n2 c2)∧w.cell? ⟨(ad.add (j * 7)).block,(ad.add (j * 7)).off+3,none⟩=some (.slice x3 n3 c3)∧w.cell? ⟨(ad.add (j * 7)).block,(ad.add (j * 7)).off+4,none⟩=some (.slice x4 n4 c4)∧w.cell? ⟨(ad.add (j * 7)).block,(ad.add (j * 7)).off+5,none⟩=some (.slice x5 n5 c5)∧w.cell? ⟨(ad.add (j * 7)).block,(ad.add (j * 7)).off+6,none⟩=some (.int .i64 p)))
  (HC:Hid (∀ k,k<n1→∃ ad,x1=some ad∧ad.block<w.heap.size∧w.cell? (ad.add (k * 11))=some (.string (sv (T1 k)))∧w.cell? ⟨(ad.add (k * 11)).block,(ad.add (k * 11)).off+1,none⟩=some (.int .i64 (V1 k))∧w.cell? ⟨(ad.add (k * 11)).block,(ad.add (k * 11)).off+2,none⟩=some (.int .i64 (V2 k))∧w.cell? ⟨(ad.add (k * 11)).block,(ad.add (k * 11)).off+3,none⟩=some (.int .i64 (V3 k))∧w.cell? ⟨(ad.add (k * 11)).block,(ad.add (k * 11)).off+4,none⟩=some (.int .i64 (V4 k))∧w.cell? ⟨(ad.add (k * 11)).block,(ad.add (k * 11)).off+5,none⟩=some (.int .i64 (V5 k))∧w.cell? ⟨(ad.add (k * 11)).block,(ad.add (k * 11)).off+6,none⟩=some (.int .i64 (V6 k))∧w.cell? ⟨(ad.add (k * 11)).block,(ad.add (k * 11)).off+7,none⟩=some (.int .i64 (V7 k))∧w.cell? ⟨(ad.add (k * 11)).block,(ad.add (k * 11)).off+8,none⟩=some (.int .i64 (V8 k))∧w.cell? ⟨(ad.add (k * 11)).block,(ad.add (k * 11)).off+9,none⟩=some (.int .i64 (V9 k))∧w.cell? ⟨(ad.add (k * 11)).block,(ad.add (k * 11)).off+10,none⟩=some (.int .i64 (V10 k))))
  (HC3:Hid (∀ k,k<n3→∃ ad,x3=some ad∧ad.block<w.heap.size∧w.cell? (ad.add (k * 3))=some (.string (sv (P k)))∧w.cell? ⟨(ad.add (k * 3)).block,(ad.add (k * 3)).off+1,none⟩=some (.slice (A k) (N k) (C k))∧w.cell? ⟨(ad.add (k * 3)).block,(ad.add (k * 3)).off+2,none⟩=some (.int .i64 (pp k))))
  (TC:Hid (∀ w',Keep w w'→Calls Tryz.prog 13 #[.agg #[.int .i64 a0,.int .i64 a1,.int .i64 a2,.int .i64 a3,.int .i64 a4,.slice aN nN cN,.slice aS nS cS,.int .i64 a5,.int .i64 a6]] w' fun e w''=>e= .returned (.tuple #[.int .i64 0,.int .i64 cp])∧Keep w' w''))
  (TQ:Hid (∀ k,k<n1→∀ w',Calls Tryz.prog 22 #[.agg #[.string (sv (T1 k)),.int .i64 (V1 k),.int .i64 (V2 k),.int .i64 (V3 k),.int .i64 (V4 k),.int .i64 (V5 k),.int .i64 (V6 k),.int .i64 (V7 k),.int .i64 (V8 k),.int .i64 (V9 k),.int .i64 (V10 k)],.agg #[.int .i64 a3,.int .i64 a4]] w' fun e w''=>e= .returned (.tuple #[.agg #[.int .i64 (X k),.int .i64 (Y9 k)],.int .i64 (Z k)])∧Keep w' w''))
  (TN1:Hid (W.fz Z 0 n1=0→∀ k,k<n3→∀ w',Keep w w'→Calls Tryz.prog 23 #[.agg #[.int .i64 a0,.int .i64 a1,.int .i64 a2,.int .i64 a3,.int .i64 a4,.slice aN nN cN,.slice aS nS cS,.int .i64 a5,.int .i64 a6],.agg #[.string s,.slice x1 n1 c1,.slice x2 n2 c2,.slice x3 n3 c3,.slice x4 n4 c4,.slice x5 n5 c5,.int .i64 p],.agg #[.string (sv (P k)),.slice (A k) (N k) (C k),.int .i64 (pp k)]] w' (Rq9 (P k) (G k) (Y k) (R k) (XZ k) (WL k) w'))):
  Calls Tryz.prog 7 #[.agg #[.int .i64 a0,.int .i64 a1,.int .i64 a2,.int .i64 a3,.int .i64 a4,.slice aN nN cN,.slice aS nS cS,.int .i64 a5,.int .i64 a6],.int .i64 (j:Int)] w (Oq (W.fz Z 0 n1) n3 P G Y R XZ WL w):=by
 obtain⟨i0,hi0,hz0,hz1,hz2⟩:=W.info_f zpG;have h2:¬(j:Int)<0:=by omega
 have h3:¬(nN:Int)≤(j:Int):=by omega
 obtain⟨r,hr⟩:∃ r,W.fz Z 0 n1=r:=⟨_,rfl⟩;have HR0:Hid (W.fz Z 0 (n1 - 0)=r):=hide hr;rw[hr];rw[hr]at TN1;clear hr;have hnw0:=heap_alloc_new w (.cells #[.int .i64 a0,.int .i64 a1,.int .i64 a2,.int .i64 a3,.int .i64 a4,.slice aN nN cN,.slice aS nS cS,.int .i64 a5,.int .i64 a6] 27);have K0:=hide ((Keep.refl w).alloc (.cells #[.int .i64 a0,.int .i64 a1,.int .i64 a2,.int .i64 a3,.int .i64 a4,.slice aN nN cN,.slice aS nS cS,.int .i64 a5,.int .i64 a6] 27));go_enter Tryz.func7,Tryz.ntmps7
 go_upto_region 1 with fail
 generalize w.alloc (.cells #[.int .i64 a0,.int .i64 a1,.int .i64 a2,.int .i64 a3,.int .i64 a4,.slice aN nN cN,.slice aS nS cS,.int .i64 a5,.int .i64 a6] 27)=w0 at hnw0 K0 ⊢;obtain⟨q0,HQ0⟩:∃ q,Hid (w.heap.size=q):=⟨_,hide rfl⟩;rw[uq HQ0]at hnw0 ⊢;have HX0:Hid (∀ w':World,Keep w0 w'→w'.cell? ⟨q0,0,none⟩=some (.int .i64 a0)∧w'.cell? ⟨q0,1,none⟩=some (.int .i64 a1)∧w'.cell? ⟨q0,2,none⟩=some (.int .i64 a2)∧w'.cell? ⟨q0,3,none⟩=some (.int .i64 a3)∧w'.cell? ⟨q0,4,none⟩=some (.int .i64 a4)∧w'.cell? ⟨q0,5,none⟩=some (.slice aN nN cN)∧w'.cell? ⟨q0,6,none⟩=some (.slice aS nS cS)∧w'.cell? ⟨q0,7,none⟩=some (.int .i64 a5)∧w'.cell? ⟨q0,8,none⟩=some (.int .i64 a6)):=hide (fun w' k9=>by
  have h1:=k9.block q0 (Array.getElem?_eq_some_iff.1 hnw0).1;rw[hnw0]at h1;refine⟨?_,?_,?_,?_,?_,?_,?_,?_,?_⟩<;>simp[World.cell?,h1])
 clear hnw0;obtain⟨z0,z1,z2,z3,z4,z5,z6,z7,z8⟩:=(uq HX0) w0 (Keep.refl _);go_wp2_with fail
 (refine((uq TC) _ (uq K0)).mono ?_;rintro e w2 ⟨rfl,hk9⟩;have K2:=hide hk9;clear hk9);clear z0 z1 z2 z3 z4 z5 z6 z7 z8;obtain⟨z0,z1,z2,z3,z4,z5,z6,z7,z8⟩:=(uq HX0) w2 (uq K2);obtain⟨ad,rfl,hb,e0,e1,e2,e3,e4,e5,e6⟩:=uq HCN;have y0:=V.far_cell ((uq K0).trans (uq K2)) (by rw[V.add_block9];exact hb) e0;have y1:=V.far_cell ((uq K0).trans (uq K2)) (by show(ad.add (j * 7)).block<_;rw[V.add_block9];exact hb) e1;have y2:=V.far_cell ((uq K0).trans (uq K2)) (by show(ad.add (j * 7)).block<_;rw[V.add_block9];exact hb) e2;have y3:=V.far_cell ((uq K0).trans (uq K2)) (by show(ad.add (j * 7)).block<_;rw[V.add_block9];exact hb) e3;have y4:=V.far_cell ((uq K0).trans (uq K2)) (by show(ad.add (j * 7)).block<_;rw[V.add_block9];exact hb) e4;have y5:=V.far_cell ((uq K0).trans (uq K2)) (by show(ad.add (j * 7)).block<_;rw[V.add_block9];exact hb) e5;have y6:=V.far_cell ((uq K0).trans (uq K2)) (by show(ad.add (j * 7)).block<_;rw[V.add_block9];exact hb) e6;clear e0 e1 e2 e3 e4 e5 e6;have hbx:=heap_alloc_new w2 (.cells #[.string s,.slice x1 n1 c1,.slice x2 n2 c2,.slice x3 n3 c3,.slice x4 n4 c4,.slice x5 n5 c5,.int .i64 p] 47);have KB:=hide ((uq K2).alloc (.cells #[.string s,.slice x1 n1 c1,.slice x2 n2 c2,.slice x3 n3 c3,.slice x4 n4 c4,.slice x5 n5 c5,.int .i64 p] 47))
 go_upto_region 5 with fail
 generalize w2.alloc (.cells #[.string s,.slice x1 n1 c1,.slice x2 n2 c2,.slice x3 n3 c3,.slice x4 n4 c4,.slice x5 n5 c5,.int .i64 p] 47)=wh at hbx KB ⊢;obtain⟨q,HQ⟩:∃ q,Hid (w2.heap.size=q):=⟨_,hide rfl⟩;rw[uq HQ]at hbx ⊢;have HXq:Hid (∀ w':World,Keep wh w'→(w'.cell? ⟨q0,0,none⟩=some (.int .i64 a0)∧w'.cell? ⟨q0,1,none⟩=some (.int .i64 a1)∧w'.cell? ⟨q0,2,none⟩=some (.int .i64 a2)∧w'.cell? ⟨q0,3,none⟩=some (.int .i64 a3)∧w'.cell? ⟨q0,4,none⟩=some (.int .i64 a4)∧w'.cell? ⟨q0,5,none⟩=some (.slice (some ad) nN cN)∧w'.cell? ⟨q0,6,none⟩=some (.slice aS nS cS)∧w'.cell? ⟨q0,7,none⟩=some (.int .i64 a5)∧w'.cell? ⟨q0,8,none⟩=some (.int .i64 a6))∧w'.cell? ⟨q,0,none⟩=some (.string s)∧w'.cell? ⟨q,1,none⟩=some (.slice x1 n1 c1)∧w'.cell? ⟨q,2,none⟩=some (.slice x2 n2 c2)∧w'.cell? ⟨q,3,none⟩=some (.slice x3 n3 c3)∧w'.cell? ⟨q,4,none⟩=some (.slice x4 n4 c4)∧w'.cell? ⟨q,5,none⟩=some (.slice x5 n5 c5)∧w'.cell? ⟨q,6,none⟩=some (.int .i64 p)):=hide (fun w' k9=>by
  have h1:=k9.block q (Array.getElem?_eq_some_iff.1 hbx).1;rw[hbx]at h1;refine⟨(uq HX0) w' ((uq KB).trans k9),?_,?_,?_,?_,?_,?_,?_⟩<;>simp[World.cell?,h1])
 clear hbx y0 y1 y2 y3 y4 y5 y6 z0 z1 z2 z3 z4 z5 z6 z7 z8;have KH:=hide ((uq K0).trans (uq KB));go_wp2_with fail
 have g1:decide (nN≤j)=false:=decide_eq_false (by omega);have g2:decide ((j:Int)<0)=false:=decide_eq_false (by omega);simp only[g1,g2,Bool.or_false];clear g1 g2 h2 h3 hj
 go_loopw [9] (fun vi wr=>∃ k:Nat,vi= .int .i64 (k:Int)∧k≤n1∧Hid (W.fz Z k (n1 - k)=r)∧Hid (Keep wh wr)) (fun vi _=>n1 - (intOf vi).toNat)
 case atStart=>exact⟨0,rfl,Nat.zero_le _,HR0,hide (Keep.refl _)⟩
 case round=>
  obtain⟨k,rfl,hk,HFZ,KW⟩:=hrel;obtain⟨⟨z0,z1,z2,z3,z4,z5,z6,z7,z8⟩,f0,f1,f2,f3,f4,f5,f6⟩:=(uq HXq) wr (uq KW);by_cases hlt:k<n1
  ·have li:(k:Int)<(n1:Int):=by omega
   obtain⟨bd,rfl,hbb,e0,e1,e2,e3,e4,e5,e6,e7,e8,e9,e10⟩:=(uq HC) k hlt;have TK:=hide ((uq TQ) k hlt);obtain⟨zk,hzk⟩:∃ z,Z k=z:=⟨_,rfl⟩;rw[hzk]at TK;have HZK:=hide hzk;clear hzk;have HD9:Hid (∀ w',Keep wh w'→(w'.cell? (bd.add (k * 11))=some (.string (sv (T1 k)))∧w'.cell? ⟨(bd.add (k * 11)).block,(bd.add (k * 11)).off+1,none⟩=some (.int .i64 (V1 k))∧w'.cell? ⟨(bd.add (k * 11)).block,(bd.add (k * 11)).off+2,none⟩=some (.int .i64 (V2 k))∧w'.cell? ⟨(bd.add (k * 11)).block,(bd.add (k * 11)).off+3,none⟩=some (.int .i64 (V3 k))∧w'.cell? ⟨(bd.add (k * 11)).block,(bd.add (k * 11)).off+4,none⟩=some (.int .i64 (V4 k))∧w'.cell? ⟨(bd.add (k * 11)).block,(bd.add (k * 11)).off+5,none⟩=some (.int .i64 (V5 k))∧w'.cell? ⟨(bd.add (k * 11)).block,(bd.add (k * 11)).off+6,none⟩=some (.int .i64 (V6 k))∧w'.cell? ⟨(bd.add (k * 11)).block,(bd.add (k * 11)).off+7,none⟩=some (.int .i64 (V7 k))∧w'.cell? ⟨(bd.add (k * 11)).block,(bd.add (k * 11)).off+8,none⟩=some (.int .i64 (V8 k))∧w'.cell? ⟨(bd.add (k * 11)).block,(bd.add (k * 11)).off+9,none⟩=some (.int .i64 (V9 k))∧w'.cell? ⟨(bd.add (k * 11)).block,(bd.add (k * 11)).off+10,none⟩=some (.int .i64 (V10 k)))∧(w'.cell? ⟨q0,3,none⟩=some (.int .i64 a3)∧w'.cell? ⟨q0,4,none⟩=some (.int .i64 a4))∧w'.cell? ⟨q,1,none⟩=some (.slice (some bd) n1 c1)):=hide (fun w' k9=>by
    have k8:=(uq KH).trans k9;have hB:(bd.add (k * 11)).block<w.heap.size:=by rw[V.add_block9];exact hbb
    obtain⟨⟨m0,m1,m2,m3,m4,m5,m6,m7,m8⟩,h0,h1,hh2,hh3,h4,h5,h6⟩:=(uq HXq) w' k9;exact⟨⟨V.far_cell k8 hB e0,V.far_cell k8 hB e1,V.far_cell k8 hB e2,V.far_cell k8 hB e3,V.far_cell k8 hB e4,V.far_cell k8 hB e5,V.far_cell k8 hB e6,V.far_cell k8 hB e7,V.far_cell k8 hB e8,V.far_cell k8 hB e9,V.far_cell k8 hB e10⟩,⟨m3,m4⟩,h1⟩)
   clear e0 e1 e2 e3 e4 e5 e6 e7 e8 e9 e10
   go_upto_region 8 with fail
   clear z0 z1 z2 z3 z4 z5 z6 z7 z8 f0 f1 f2 f3 f4 f5 f6
   go_cut [10,11] (fun s10 s11 wc=>∃ T,s10= .pointer (some ⟨T,0,none⟩)∧s11= .int .i64 zk∧Keep wh wc)
   case first=>
    refine wp_region_held_drew (S:=(fun w'=>(w'.cell? (bd.add (k * 11))=some (.string (sv (T1 k)))∧w'.cell? ⟨(bd.add (k * 11)).block,(bd.add (k * 11)).off+1,none⟩=some (.int .i64 (V1 k))∧w'.cell? ⟨(bd.add (k * 11)).block,(bd.add (k * 11)).off+2,none⟩=some (.int .i64 (V2 k))∧w'.cell? ⟨(bd.add (k * 11)).block,(bd.add (k * 11)).off+3,none⟩=some (.int .i64 (V3 k))∧w'.cell? ⟨(bd.add (k * 11)).block,(bd.add (k * 11)).off+4,none⟩=some (.int .i64 (V4 k))∧w'.cell? ⟨(bd.add (k * 11)).block,(bd.add (k * 11)).off+5,none⟩=some (.int .i64 (V5 k))∧w'.cell? ⟨(bd.add (k * 11)).block,(bd.add (k * 11)).off+6,none⟩=some (.int .i64 (V6 k))∧w'.cell? ⟨(bd.add (k * 11)).block,(bd.add (k * 11)).off+7,none⟩=some (.int .i64 (V7 k))∧w'.cell? ⟨(bd.add (k * 11)).block,(bd.add (k * 11)).off+8,none⟩=some (.int .i64 (V8 k))∧w'.cell? ⟨(bd.add (k * 11)).block,(bd.add (k * 11)).off+9,none⟩=some (.int .i64 (V9 k))∧w'.cell? ⟨(bd.add (k * 11)).block,(bd.add (k * 11)).off+10,none⟩=some (.int .i64 (V10 k)))∧(w'.cell? ⟨q0,3,none⟩=some (.int .i64 a3)∧w'.cell? ⟨q0,4,none⟩=some (.int .i64 a4))∧w'.cell? ⟨q,1,none⟩=some (.slice (some bd) n1 c1))) (by kernel_rfl) (by exact(uq HD9) _ (uq KW).drew) (fun hHeld=>?_);refine tkk 0 47 hHeld ?_;try simp only[Act.put,Ya,Yb,Yc]
    refine tkk 1 48 hHeld ?_;try simp only[Act.put,Ya,Yb,Yc]
    refine tkk 2 49 hHeld ?_;try simp only[Act.put,Ya,Yb,Yc]
    refine tkk 3 50 hHeld ?_;try simp only[Act.put,Ya,Yb,Yc]
    refine tkk 4 51 hHeld ?_;try simp only[Act.put,Ya,Yb,Yc]
    refine tkk 5 52 hHeld ?_;try simp only[Act.put,Ya,Yb,Yc]
    refine tkk 6 53 hHeld ?_;try simp only[Act.put,Ya,Yb,Yc]
    refine wpAnyH_ready (rs:= [7,11]) (by kernel_rfl) (by simp) ?_;refine AllReadyH.cons rfl (fun K hK=>?_) (AllReadyH.cons rfl (fun K hK=>?_) AllReadyH.nil)
    ·skip
     go_simp;clear hHeld;(refine((uq TK) _).mono ?_;rintro e w5 ⟨rfl,hk9⟩;obtain⟨o5,k5,rfl⟩:=hk9.ext;clear hk9);try go_wp2_with fail
     refine hK.out _ _ ?_ (fun hHeld=>?_)
     ·exact(uq HD9) _ ((uq KW).trans (by repeat(first|(with_reducible exact Keep.refl _)|apply zaa|apply Keep.alloc|apply Keep.drew)))
     clear hK K;try simp only[Act.put,Ya,Yb,Yc]
     refine tkk 8 46 hHeld ?_;try simp only[Act.put,Ya,Yb,Yc]
     refine tkk 9 55 hHeld ?_;try simp only[Act.put,Ya,Yb,Yc]
     refine tkk 10 56 hHeld ?_;try simp only[Act.put,Ya,Yb,Yc]
     refine zak 11 (fun K hK=>?_);go_simp;clear hHeld;refine hK.out _ _ ?_ (fun hHeld=>?_)
     ·exact(uq HD9) _ ((uq KW).trans (by repeat(first|(with_reducible exact Keep.refl _)|apply zaa|apply Keep.alloc|apply Keep.drew)))
     clear hK K;try simp only[Act.put,Ya,Yb,Yc]
     refine zak 12 (fun K hK=>?_);go_simp;clear hHeld;refine hK.out _ _ ?_ (fun hHeld=>?_)
     ·exact(uq HD9) _ ((uq KW).trans (by repeat(first|(with_reducible exact Keep.refl _)|apply zaa|apply Keep.alloc|apply Keep.drew)))
     clear hK K;try simp only[Act.put,Ya,Yb,Yc]
     refine tkk 13 11 hHeld ?_;try simp only[Act.put,Ya,Yb,Yc]
     refine wpAnyH_done (by kernel_rfl) ?_ _;clear hHeld;go_wp2_with fail
     go_meet;exact⟨_,rfl,rfl,(uq KW).trans (by repeat(first|(with_reducible exact Keep.refl _)|apply zaa|apply Keep.alloc|apply Keep.drew))⟩
    ·skip
     go_simp;clear hHeld;refine hK.out _ _ ?_ (fun hHeld=>?_)
     ·exact(uq HD9) _ ((uq KW).trans (by repeat(first|(with_reducible exact Keep.refl _)|apply zaa|apply Keep.alloc|apply Keep.drew)))
     clear hK K;try simp only[Act.put,Ya,Yb,Yc]
     refine zak 7 (fun K hK=>?_);go_simp;clear hHeld;(refine((uq TK) _).mono ?_;rintro e w5 ⟨rfl,hk9⟩;obtain⟨o5,k5,rfl⟩:=hk9.ext;clear hk9);try go_wp2_with fail
     refine hK.out _ _ ?_ (fun hHeld=>?_)
     ·exact(uq HD9) _ ((uq KW).trans (by repeat(first|(with_reducible exact Keep.refl _)|apply zaa|apply Keep.alloc|apply Keep.drew)))
     clear hK K;try simp only[Act.put,Ya,Yb,Yc]
     refine tkk 8 46 hHeld ?_;try simp only[Act.put,Ya,Yb,Yc]
     refine tkk 9 55 hHeld ?_;try simp only[Act.put,Ya,Yb,Yc]
     refine tkk 10 56 hHeld ?_;try simp only[Act.put,Ya,Yb,Yc]
     refine zak 12 (fun K hK=>?_);go_simp;clear hHeld;refine hK.out _ _ ?_ (fun hHeld=>?_)
     ·exact(uq HD9) _ ((uq KW).trans (by repeat(first|(with_reducible exact Keep.refl _)|apply zaa|apply Keep.alloc|apply Keep.drew)))
     clear hK K;try simp only[Act.put,Ya,Yb,Yc]
     refine tkk 13 11 hHeld ?_;try simp only[Act.put,Ya,Yb,Yc]
     refine wpAnyH_done (by kernel_rfl) ?_ _;clear hHeld;go_wp2_with fail
     go_meet;exact⟨_,rfl,rfl,(uq KW).trans (by repeat(first|(with_reducible exact Keep.refl _)|apply zaa|apply Keep.alloc|apply Keep.drew))⟩
   case rest=>
    obtain⟨T,hs0,hs,hkc⟩:=hcut;subst hs0;subst hs;have HKC:=hide hkc;clear hkc;by_cases hz:zk=0
    ·subst hz;have HF2:=hide (W.fz_no (uq HFZ) hlt (uq HZK));clear HFZ HZK;go_wp2_with fail
     go_roundw
     case rel=>exact⟨k+1,by go_num,by omega,HF2,HKC⟩
     case measure=>simp[intOf];omega
    ·have hrz:r=zk:=by rw[W.fz_yes (uq HFZ) hlt (by rw[uq HZK];exact hz),uq HZK]
     subst hrz;have hzb:(r !=0)=true:=by simpa using hz
     have HZ0:=hide hz;clear hz HFZ HZK TN1 HR0;go_wp2_with fail
     go_ret2;exact⟨_,rfl,(uq KH).trans (uq HKC),fun _=>rfl,fun h=>absurd h (uq HZ0)⟩
  ·have li:¬(k:Int)<(n1:Int):=by omega
   have hr0:r=0:=W.fz_end (uq HFZ) (by omega);subst hr0;replace TN1:=hide ((uq TN1) rfl);clear HFZ HR0;go_wp2_with fail
   clear z0 z1 z2 z3 z4 z5 z6 z7 z8 f0 f1 f2 f3 f4 f5 f6
   go_loopw [12,13] (fun va vi wr=>∃(k:Nat) (vs:List Value),k≤n3∧vi= .int .i64 (k:Int)∧Hid (wr.ownsRow wh.heap.size 79 7 va k (ndc P G Y R XZ vs k))∧Hid (Wr wr WL vs k)∧Hid (Keep wh wr)) (fun va vi _=>n3 - (intOf vi).toNat)
   case atStart=>exact⟨0,[],Nat.zero_le _,rfl,hide (World.ownsRow_nil _ _ _ _),hide ⟨rfl,fun j hj=>absurd hj (Nat.not_lt_zero _)⟩,KW⟩
   case round=>
    obtain⟨k,vs,hk,rfl,OWK,WRK,KX⟩:=hrel;obtain⟨⟨z0,z1,z2,z3,z4,z5,z6,z7,z8⟩,f0,f1,f2,f3,f4,f5,f6⟩:=(uq HXq) wr (uq KX);by_cases hlt:k<n3
    ·have li:(k:Int)<(n3:Int):=by omega
     obtain⟨bd,rfl,hbb,e0,e1,e2⟩:=(uq HC3) k hlt;have TK:=hide ((uq TN1) k hlt);have HD9:Hid (∀ w',Keep wh w'→(w'.cell? ⟨q0,0,none⟩=some (.int .i64 a0)∧w'.cell? ⟨q0,1,none⟩=some (.int .i64 a1)∧w'.cell? ⟨q0,2,none⟩=some (.int .i64 a2)∧w'.cell? ⟨q0,3,none⟩=some (.int .i64 a3)∧w'.cell? ⟨q0,4,none⟩=some (.int .i64 a4)∧w'.cell? ⟨q0,5,none⟩=some (.slice (some ad) nN cN)∧w'.cell? ⟨q0,6,none⟩=some (.slice aS nS cS)∧w'.cell? ⟨q0,7,none⟩=some (.int .i64 a5)∧w'.cell? ⟨q0,8,none⟩=some (.int .i64 a6))∧(w'.cell? ⟨q,0,none⟩=some (.string s)∧w'.cell? ⟨q,1,none⟩=some (.slice x1 n1 c1)∧w'.cell? ⟨q,2,none⟩=some (.slice x2 n2 c2)∧w'.cell? ⟨q,3,none⟩=some (.slice (some bd) n3 c3)∧w'.cell? ⟨q,4,none⟩=some (.slice x4 n4 c4)∧w'.cell? ⟨q,5,none⟩=some (.slice x5 n5 c5)∧w'.cell? ⟨q,6,none⟩=some (.int .i64 p))∧w'.cell? (bd.add (k * 3))=some (.string (sv (P k)))∧w'.cell? ⟨(bd.add (k * 3)).block,(bd.add (k * 3)).off+1,none⟩=some (.slice (A k) (N k) (C k))∧w'.cell? ⟨(bd.add (k * 3)).block,(bd.add (k * 3)).off+2,none⟩=some (.int .i64 (pp k))):=hide (fun w' k9=>by
      have k8:=(uq KH).trans k9;have hB:(bd.add (k * 3)).block<w.heap.size:=by rw[V.add_block9];exact hbb
      obtain⟨m,h⟩:=(uq HXq) w' k9;exact⟨m,h,V.far_cell k8 hB e0,V.far_cell k8 hB e1,V.far_cell k8 hB e2⟩)
     clear e0 e1 e2
     go_upto_region 15 with fail
     clear z0 z1 z2 z3 z4 z5 z6 z7 z8 f0 f1 f2 f3 f4 f5 f6
     go_cut [14,15] (fun s14 s15 wc=>∃ T a9 c9,s14= .pointer (some ⟨T,0,none⟩)∧s15= .int .i64 0∧(wc.cell? ⟨T,0,none⟩=some (.string (sv (P k)))∧wc.cell? ⟨T,1,none⟩=some (.int .i64 (G k))∧wc.cell? ⟨T,2,none⟩=some (.int .i64 (Y k))∧wc.cell? ⟨T,3,none⟩=some (.int .i64 (R k))∧wc.cell? ⟨T,4,none⟩=some (.int .i64 (XZ k).1)∧wc.cell? ⟨T,5,none⟩=some (.int .i64 (XZ k).2)∧wc.cell? ⟨T,6,none⟩=some (.slice a9 (WL k).length c9))∧Keep wr wc∧wc.ownsRow 0 114 3 (.slice a9 (WL k).length c9) (WL k).length (wcs (WL k)))
     case first=>
      refine wp_region_held_drew (S:=(fun w'=>(w'.cell? ⟨q0,0,none⟩=some (.int .i64 a0)∧w'.cell? ⟨q0,1,none⟩=some (.int .i64 a1)∧w'.cell? ⟨q0,2,none⟩=some (.int .i64 a2)∧w'.cell? ⟨q0,3,none⟩=some (.int .i64 a3)∧w'.cell? ⟨q0,4,none⟩=some (.int .i64 a4)∧w'.cell? ⟨q0,5,none⟩=some (.slice (some ad) nN cN)∧w'.cell? ⟨q0,6,none⟩=some (.slice aS nS cS)∧w'.cell? ⟨q0,7,none⟩=some (.int .i64 a5)∧w'.cell? ⟨q0,8,none⟩=some (.int .i64 a6))∧(w'.cell? ⟨q,0,none⟩=some (.string s)∧w'.cell? ⟨q,1,none⟩=some (.slice x1 n1 c1)∧w'.cell? ⟨q,2,none⟩=some (.slice x2 n2 c2)∧w'.cell? ⟨q,3,none⟩=some (.slice (some bd) n3 c3)∧w'.cell? ⟨q,4,none⟩=some (.slice x4 n4 c4)∧w'.cell? ⟨q,5,none⟩=some (.slice x5 n5 c5)∧w'.cell? ⟨q,6,none⟩=some (.int .i64 p))∧w'.cell? (bd.add (k * 3))=some (.string (sv (P k)))∧w'.cell? ⟨(bd.add (k * 3)).block,(bd.add (k * 3)).off+1,none⟩=some (.slice (A k) (N k) (C k))∧w'.cell? ⟨(bd.add (k * 3)).block,(bd.add (k * 3)).off+2,none⟩=some (.int .i64 (pp k)))) (by kernel_rfl) (by exact(uq HD9) _ (uq KX).drew) (fun hHeld=>?_);refine tkk 0 68 hHeld ?_;try simp only[Act.put,Ya,Yb,Yc]
      refine tkk 1 69 hHeld ?_;try simp only[Act.put,Ya,Yb,Yc]
      refine tkk 2 70 hHeld ?_;try simp only[Act.put,Ya,Yb,Yc]
      refine tkk 3 71 hHeld ?_;try simp only[Act.put,Ya,Yb,Yc]
      refine tkk 4 72 hHeld ?_;try simp only[Act.put,Ya,Yb,Yc]
      refine tkk 5 73 hHeld ?_;try simp only[Act.put,Ya,Yb,Yc]
      refine tkk 6 74 hHeld ?_;try simp only[Act.put,Ya,Yb,Yc]
      refine wpAnyH_ready (rs:= [7,11]) (by kernel_rfl) (by simp) ?_;refine AllReadyH.cons rfl (fun K hK=>?_) (AllReadyH.cons rfl (fun K hK=>?_) AllReadyH.nil)
      ·skip
       go_simp;clear hHeld;(refine((uq TK) _ ((uq KH).trans (uq KX).drew)).mono ?_;rintro e w5 ⟨a9,c9,rfl,hk9,how⟩;have L5:=hide hk9;have HOW:=hide how;clear hk9 how);try go_wp2_with fail
       refine hK.out _ _ ?_ (fun hHeld=>?_)
       ·exact(uq HD9) _ ((uq KX).trans ((Keep.refl wr).drew.trans (uq L5)))
       clear hK K;try simp only[Act.put,Ya,Yb,Yc]
       refine tkk 8 67 hHeld ?_;try simp only[Act.put,Ya,Yb,Yc]
       refine tkk 9 76 hHeld ?_;try simp only[Act.put,Ya,Yb,Yc]
       refine tkk 10 77 hHeld ?_;try simp only[Act.put,Ya,Yb,Yc]
       refine zak 11 (fun K hK=>?_);go_simp;clear hHeld;refine hK.out _ _ ?_ (fun hHeld=>?_)
       ·exact(uq HD9) _ ((uq KX).trans (((Keep.refl wr).drew.trans (uq L5)).alloc _))
       clear hK K;try simp only[Act.put,Ya,Yb,Yc]
       refine zak 12 (fun K hK=>?_);go_simp;clear hHeld;refine hK.out _ _ ?_ (fun hHeld=>?_)
       ·exact(uq HD9) _ ((uq KX).trans (((Keep.refl wr).drew.trans (uq L5)).alloc _))
       clear hK K;try simp only[Act.put,Ya,Yb,Yc]
       refine tkk 13 15 hHeld ?_;try simp only[Act.put,Ya,Yb,Yc]
       refine wpAnyH_done (by kernel_rfl) ?_ _;clear hHeld;go_wp2_with fail
       go_meet;exact⟨_,a9,c9,rfl,rfl,by simp[go_sem],((Keep.refl wr).drew.trans (uq L5)).alloc _,(W.own_mono (uq HOW) (Nat.zero_le _)).alloc _⟩
      ·skip
       go_simp;clear hHeld;refine hK.out _ _ ?_ (fun hHeld=>?_)
       ·exact(uq HD9) _ ((uq KX).trans (((Keep.refl wr).alloc _).drew))
       clear hK K;try simp only[Act.put,Ya,Yb,Yc]
       have HB1:=hide (heap_alloc_new wr (.cells #[.string ⟨#[]⟩,.int .i64 0,.int .i64 0,.int .i64 0,.int .i64 0,.int .i64 0,.slice none 0 0] 79));have KZ:=hide ((Keep.refl wr).alloc (.cells #[.string ⟨#[]⟩,.int .i64 0,.int .i64 0,.int .i64 0,.int .i64 0,.int .i64 0,.slice none 0 0] 79));obtain⟨T,HT⟩:∃ T,Hid (T=wr.heap.size):=⟨_,hide rfl⟩;generalize wr.alloc (.cells #[.string ⟨#[]⟩,.int .i64 0,.int .i64 0,.int .i64 0,.int .i64 0,.int .i64 0,.slice none 0 0] 79)=wz at HB1 KZ hHeld ⊢;rw[← uq HT];have HB2:Hid (wz.heap[T]? =some (.cells #[.string ⟨#[]⟩,.int .i64 0,.int .i64 0,.int .i64 0,.int .i64 0,.int .i64 0,.slice none 0 0] 79 (0,0))):=hide (by rw[uq HT];exact uq HB1);clear HB1;refine zak 7 (fun K hK=>?_);go_simp;clear hHeld;(refine((uq TK) _ ((uq KH).trans ((uq KX).trans (uq KZ).drew))).mono ?_;rintro e w5 ⟨a9,c9,rfl,hk9,how⟩;have L5:=hide hk9;have HOW:=hide how;clear hk9 how);try go_wp2_with fail
       refine hK.out _ _ ?_ (fun hHeld=>?_)
       ·exact(uq HD9) _ ((uq KX).trans ((uq KZ).drew.trans (uq L5)))
       clear hK K;try simp only[Act.put,Ya,Yb,Yc]
       refine tkk 8 67 hHeld ?_;try simp only[Act.put,Ya,Yb,Yc]
       refine tkk 9 76 hHeld ?_;try simp only[Act.put,Ya,Yb,Yc]
       refine tkk 10 77 hHeld ?_;try simp only[Act.put,Ya,Yb,Yc]
       have hb3:w5.heap[T]? =some (.cells #[.string ⟨#[]⟩,.int .i64 0,.int .i64 0,.int .i64 0,.int .i64 0,.int .i64 0,.slice none 0 0] 79 (0,0)):=((uq L5).block T (Array.getElem?_eq_some_iff.1 (uq HB2)).1).trans (uq HB2);have HB3:=hide hb3;have u0:w5.cell? ⟨T,0,none⟩=some (.string ⟨#[]⟩):=by simp[World.cell?,hb3]
       have u1:w5.cell? ⟨T,1,none⟩=some (.int .i64 0):=by simp[World.cell?,hb3]
       have u2:w5.cell? ⟨T,2,none⟩=some (.int .i64 0):=by simp[World.cell?,hb3]
       have u3:w5.cell? ⟨T,3,none⟩=some (.int .i64 0):=by simp[World.cell?,hb3]
       have u4:w5.cell? ⟨T,4,none⟩=some (.int .i64 0):=by simp[World.cell?,hb3]
       have u5:w5.cell? ⟨T,5,none⟩=some (.int .i64 0):=by simp[World.cell?,hb3]
       have u6:w5.cell? ⟨T,6,none⟩=some (.slice none 0 0):=by simp[World.cell?,hb3]
       have v0:w5.frozen? ⟨T,0,none⟩=false:=by simp[World.frozen?,hb3]
       have v1:w5.frozen? ⟨T,1,none⟩=false:=by simp[World.frozen?,hb3]
       have v2:w5.frozen? ⟨T,2,none⟩=false:=by simp[World.frozen?,hb3]
       have v3:w5.frozen? ⟨T,3,none⟩=false:=by simp[World.frozen?,hb3]
       have v4:w5.frozen? ⟨T,4,none⟩=false:=by simp[World.frozen?,hb3]
       have v5:w5.frozen? ⟨T,5,none⟩=false:=by simp[World.frozen?,hb3]
       have v6:w5.frozen? ⟨T,6,none⟩=false:=by simp[World.frozen?,hb3]
       have HTW:Hid (wr.heap.size≤T):=hide (by have:=uq HT;omega);have hTT:(Value.slice a9 (WL k).length c9).ownBlock≠some T:=ziT hb3 (uq HOW) (by decide);have K7:Hid (Keep wr (((((((w5.setCell ⟨T,0,none⟩ (.string (sv (P k)))).setCell ⟨T,1,none⟩ (.int .i64 (G k))).setCell ⟨T,2,none⟩ (.int .i64 (Y k))).setCell ⟨T,3,none⟩ (.int .i64 (R k))).setCell ⟨T,4,none⟩ (.int .i64 (XZ k).1)).setCell ⟨T,5,none⟩ (.int .i64 (XZ k).2)).setCell ⟨T,6,none⟩ (.slice a9 (WL k).length c9))):=hide (zag (zag (zag (zag (zag (zag (zag ((uq KZ).drew.trans (uq L5)) (uq HTW)) (uq HTW)) (uq HTW)) (uq HTW)) (uq HTW)) (uq HTW)) (uq HTW));have HTT:=hide hTT;clear hb3 hTT;refine zak 12 (fun K hK=>?_);go_simp;clear hHeld;refine hK.out _ _ ?_ (fun hHeld=>?_)
       ·exact(uq HD9) _ ((uq KX).trans (uq K7))
       clear hK K;try simp only[Act.put,Ya,Yb,Yc]
       refine tkk 13 15 hHeld ?_;try simp only[Act.put,Ya,Yb,Yc]
       refine wpAnyH_done (by kernel_rfl) ?_ _;clear hHeld;go_wp2_with fail
       go_meet;have hm:=zrb (uq HB3) (.string (sv (P k))) (.int .i64 (G k)) (.int .i64 (Y k)) (.int .i64 (R k)) (.int .i64 (XZ k).1) (.int .i64 (XZ k).2) (.slice a9 (WL k).length c9);exact⟨T,a9,c9,rfl,rfl,by refine⟨?_,?_,?_,?_,?_,?_,?_⟩<;>simp[World.cell?,hm],uq K7,zae (zae (zae (zae (zae (zae (zae (W.own_mono (uq HOW) (Nat.zero_le _)) (uq HTT)) (uq HTT)) (uq HTT)) (uq HTT)) (uq HTT)) (uq HTT)) (uq HTT)⟩
     case rest=>
      obtain⟨T,a9,c9,hs1,hs2,⟨e0,e1,e2,e3,e4,e5,e6⟩,hkc,how⟩:=hcut;subst hs1;subst hs2;have HKC:=hide ((uq KX).trans hkc);have OW5:=hide (W.own_k (uq OWK) hkc);have WR5:=hide ((uq WRK).keep hkc);have HW5:=hide how;have hsz:=Below.size (uq HKC);clear hkc how OWK WRK;obtain⟨L,hL⟩:∃ L,(WL k).length=L:=⟨_,rfl⟩;rw[hL]at e6;have HL:=hide hL;clear hL;go_wp2_with (at_builtin;refine wpList_append_own _ rfl _ _ 29 rfl wh.heap.size 79 i0 _ 7 80 Tryz.underlying29 hi0 hz0 hz1 hz2 rfl (by decide) _ _ _ rfl ((uq OW5).alloc _) ⟨wc.heap.size,0,none⟩ 1 1 [.string (sv (P k)),.int .i64 (G k),.int .i64 (Y k),.int .i64 (R k),.int .i64 (XZ k).1,.int .i64 (XZ k).2,.slice a9 L c9] rfl rfl (zhk wc [.string (sv (P k)),.int .i64 (G k),.int .i64 (Y k),.int .i64 (R k),.int .i64 (XZ k).1,.int .i64 (XZ k).2,.slice a9 L c9] _) (by simp[Value.oneCell']) (by unfold maxLen;omega) (by omega) (by simp;omega) ?_;intro v' w6 hown' hgrow hnil;have HOWN:=hide hown';have HK6:Hid (Keep wh w6):=hide (Below.grown ((uq HKC).alloc _) hgrow (by simp;omega) (fun j ej=>((uq OW5).lt j ej).1));have HWR:Hid (Wr w6 WL (vs++ [.slice a9 L c9]) (k+1)):=hide (Wr.grown (((uq WR5).snoc (by rw[← uq HL];exact uq HW5)).keep ((Keep.refl wc).alloc _)) hgrow (W.own_blk ((uq OW5).alloc _)));clear hown' hgrow hnil)
      go_roundw
      case rel=>
       refine⟨k+1,vs++ [.slice a9 L c9],hlt,by go_num,hide ?_,HWR,HK6⟩;have hv:=(uq WR5).1;rw[ndc,zfz k (by omega),zgu (by omega),hv,Nat.sub_self];exact uq HOWN
      case measure=>simp[intOf];omega
    ·have li:¬(k:Int)<(n3:Int):=by omega
     obtain rfl:k=n3:=by omega
     go_wp2_with fail
     go_ret2;exact⟨_,rfl,(uq KH).trans (uq KX),fun h=>absurd rfl h,fun _=>⟨vs,W.own_mono (uq OWK) (Nat.zero_le _),uq WRK⟩⟩
end Nd
end Go.Proofs.YtcdhdhbjnpndkaaGreat
