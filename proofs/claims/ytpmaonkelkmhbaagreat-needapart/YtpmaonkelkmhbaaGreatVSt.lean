/- Package valid: stops. -/
import Derived.Test.YtpmaonkelkmhbaaGreatVNs
import Derived.Test.YtpmaonkelkmhbaaGreatLSkip
import Derived.Maps.OwnOps
import Derived.Deep.DrawnRows
import Derived.Deep.RegionHeld3
namespace Go.Proofs.YtpmaonkelkmhbaaGreat
open Go.RowKit Go.Maps
attribute [local go_sem ↓] Go.wp_at_zero Go.wp_at_succ
set_option linter.unusedVariables false
set_option linter.unusedSimpArgs false
set_option maxRecDepth 10000
namespace V
theorem zeY {w w':World} {row:Option Nat} (h:Keep w w'):w.grownBy w' row:=⟨h.os,h.tape,h.output,h.size,fun k hk _=>h.block k hk⟩
def stF (MN:List (List UInt8×Int)) (S0 S1 S2:Nat→List UInt8) (hd:Int→List UInt8→Int) (V3 V4 Q:Nat→Int) (k:Nat):Eq2:=if hs MN (S0 k)then(if hs (mk S0 k) (S0 k)then some (71,Q k)else
 if hd (lk MN (S0 k)) (S1 k)<0 then some (72,Q k)else if hd (lk MN (S0 k)) (S2 k)<0 then some (72,Q k)else if btw 0 (V3 k) 6000 then(if btw 0 (V4 k) 6000 then(if k=0 then(if V3 k=0 then(if V4 k=0 then none else some (76,Q k))else some (76,Q k))else none)else some (70,Q k))else some (70,Q k))else some (72,Q k)
set_option maxHeartbeats 8000000 in
theorem zfx (a0 a1 a2 a3 a4:Int) (aN:Option Addr) (nN cN:Nat) (aS:Option Addr) (nS cS:Nat) (a5 a6:Int) (bn:Nat) (MN:List (List UInt8×Int)) (T:Nat→List UInt8) (X1 X2 X3 X4 X5:Nat→Option Addr) (N1 C1 N2 C2 N3 C3 N4 C4 N5 C5:Nat→Nat) (P:Nat→Int) (S0 S1 S2:Nat→List UInt8) (V3 V4 Q:Nat→Int) (hd:Int→List UInt8→Int) (r:Eq2) (w:World) (hn:nS≤9223372036854775807) (hnN:nN≤9223372036854775807) (HP:Hid (Mp w bn MN))
  (HT:Hid (∀ k,k<nS→(S0 k).length≤maxLen))
  (HJ:Hid (∀ k,k<nS→hs MN (S0 k)=true→∃ j:Nat,j<nN∧lk MN (S0 k)=(j:Int)))
  (HC:Hid (∀ k,k<nS→∃ ad,aS=some ad∧ad.block<w.heap.size∧w.cell? (ad.add (k * 6))=some (.string (sv (S0 k)))∧w.cell? ⟨(ad.add (k * 6)).block,(ad.add (k * 6)).off+1,none⟩=some (.string (sv (S1 k)))∧w.cell? ⟨(ad.add (k * 6)).block,(ad.add (k * 6)).off+2,none⟩=some (.string (sv (S2 k)))∧w.cell? ⟨(ad.add (k * 6)).block,(ad.add (k * 6)).off+3,none⟩=some (.int .i64 (V3 k))∧w.cell? ⟨(ad.add (k * 6)).block,(ad.add (k * 6)).off+4,none⟩=some (.int .i64 (V4 k))∧w.cell? ⟨(ad.add (k * 6)).block,(ad.add (k * 6)).off+5,none⟩=some (.int .i64 (Q k))))
  (HCN:Hid (∀ j,j<nN→∃ ad,aN=some ad∧ad.block<w.heap.size∧w.cell? (ad.add (j * 7))=some (.string (sv (T j)))∧w.cell? ⟨(ad.add (j * 7)).block,(ad.add (j * 7)).off+1,none⟩=some (.slice (X1 j) (N1 j) (C1 j))∧w.cell? ⟨(ad.add (j * 7)).block,(ad.add (j * 7)).off+2,none⟩=some (.slice (X2 j) (N2 j) (C2 j))∧w.cell? ⟨(ad.add (j * 7)).block,(ad.add (j * 7)).off+3,none⟩=some (.slice (X3 j) (N3 j) (C3 j))∧w.cell? ⟨(ad.add (j * 7)).block,(ad.add (j * 7)).off+4,none⟩=some (.slice (X4 j) (N4 j) (C4 j))∧w.cell? ⟨(ad.add (j * 7)).block,(ad.add (j * 7)).off+5,none⟩=some (.slice (X5 j) (N5 j) (C5 j))∧w.cell? ⟨(ad.add (j * 7)).block,(ad.add (j * 7)).off+6,none⟩=some (.int .i64 (P j))))
  (TH:Hid (∀ j,j<nN→∀ k,k<nS→∀ w',Keep w w'→(Calls Tryz.prog 58 #[.agg #[.string (sv (T j)),.slice (X1 j) (N1 j) (C1 j),.slice (X2 j) (N2 j) (C2 j),.slice (X3 j) (N3 j) (C3 j),.slice (X4 j) (N4 j) (C4 j),.slice (X5 j) (N5 j) (C5 j),.int .i64 (P j)],.string (sv (S1 k))] w' fun e w''=>e= .returned (.int .i64 (hd (j:Int) (S1 k)))∧Keep w' w'')∧(Calls Tryz.prog 58 #[.agg #[.string (sv (T j)),.slice (X1 j) (N1 j) (C1 j),.slice (X2 j) (N2 j) (C2 j),.slice (X3 j) (N3 j) (C3 j),.slice (X4 j) (N4 j) (C4 j),.slice (X5 j) (N5 j) (C5 j),.int .i64 (P j)],.string (sv (S2 k))] w' fun e w''=>e= .returned (.int .i64 (hd (j:Int) (S2 k)))∧Keep w' w'')))
  (HI:Hid (fE (stF MN S0 S1 S2 hd V3 V4 Q) 0 nS=r)):
  Calls Tryz.prog 53 #[.agg #[.int .i64 a0,.int .i64 a1,.int .i64 a2,.int .i64 a3,.int .i64 a4,.slice aN nN cN,.slice aS nS cS,.int .i64 a5,.int .i64 a6],.map (some bn)] w (Nq r w):=by
 have RX:=hide zaJ;have RN:=hide zaQ;have hmm:=@run_makeMap Tryz.prog;go_enter Tryz.func53,Tryz.ntmps53;go_wp2_with fail
 obtain⟨q0,HQ0⟩:∃ q,Hid (q=w.heap.size):=⟨_,hide rfl⟩;obtain⟨b,HB⟩:∃ b,Hid (b=q0+1):=⟨_,hide rfl⟩;have Z0:Hid (((w.alloc (.cells #[.int .i64 a0,.int .i64 a1,.int .i64 a2,.int .i64 a3,.int .i64 a4,.slice aN nN cN,.slice aS nS cS,.int .i64 a5,.int .i64 a6] 27)).alloc (.map #[] 0)).cell? ⟨q0,5,none⟩=some (.slice aN nN cN)):=hide (by rw[uq HQ0];simp[go_sem]);have M0:Hid (Mp ((w.alloc (.cells #[.int .i64 a0,.int .i64 a1,.int .i64 a2,.int .i64 a3,.int .i64 a4,.slice aN nN cN,.slice aS nS cS,.int .i64 a5,.int .i64 a6] 27)).alloc (.map #[] 0)) b (mk S0 0)):=hide (by have:=zbM (w.alloc (.cells #[.int .i64 a0,.int .i64 a1,.int .i64 a2,.int .i64 a3,.int .i64 a4,.slice aN nN cN,.slice aS nS cS,.int .i64 a5,.int .i64 a6] 27));rw[World.size_alloc]at this;rw[uq HB,uq HQ0];exact this);have K0:Hid (Keep w ((w.alloc (.cells #[.int .i64 a0,.int .i64 a1,.int .i64 a2,.int .i64 a3,.int .i64 a4,.slice aN nN cN,.slice aS nS cS,.int .i64 a5,.int .i64 a6] 27)).alloc (.map #[] 0))):=hide (((Keep.refl w).alloc _).alloc _);rw[← uq HQ0,← uq HB];generalize (w.alloc (.cells #[.int .i64 a0,.int .i64 a1,.int .i64 a2,.int .i64 a3,.int .i64 a4,.slice aN nN cN,.slice aS nS cS,.int .i64 a5,.int .i64 a6] 27)).alloc (.map #[] 0)=w0 at Z0 M0 K0 ⊢;have HBW:Hid (w.heap.size≤b):=hide (by have:=uq HB;have:=uq HQ0;omega);have HQB0:Hid (q0≠b):=hide (by have:=uq HB;omega)
 go_loopw [12] (fun iv wr=>∃ k:Nat,iv= .int .i64 (k:Int)∧k≤nS∧Hid (Mp wr b (mk S0 k))∧Hid (w0.grownBy wr (some b))∧Hid (fE (stF MN S0 S1 S2 hd V3 V4 Q) k (nS - k)=r)) (fun iv _=>nS - (intOf iv).toNat)
 case atStart=>exact⟨0,rfl,by omega,M0,hide (World.grownBy.refl _ _),HI⟩
 case round=>
  obtain⟨k,rfl,hk,MK,G0,HF⟩:=hrel;have KW:=hide (zav (uq K0) (uq G0) (uq HBW));by_cases hlt:k<nS
  ·have li:(k:Int)<(nS:Int):=by omega
   obtain⟨ad,rfl,hb,e0,e1,e2,e3,e4,e5⟩:=(uq HC) k hlt;have tl:=hide ((uq HT) k hlt);have HJk:=hide ((uq HJ) k hlt);have THk:=hide (fun j hj=>(uq TH) j hj k hlt);have x0:=far_cell (uq KW) (by rw[add_block9];exact hb) e0;have x1:=far_cell (uq KW) (by show(ad.add (k * 6)).block<_;rw[add_block9];exact hb) e1;have x2:=far_cell (uq KW) (by show(ad.add (k * 6)).block<_;rw[add_block9];exact hb) e2;have x3:=far_cell (uq KW) (by show(ad.add (k * 6)).block<_;rw[add_block9];exact hb) e3;have x4:=far_cell (uq KW) (by show(ad.add (k * 6)).block<_;rw[add_block9];exact hb) e4;have x5:=far_cell (uq KW) (by show(ad.add (k * 6)).block<_;rw[add_block9];exact hb) e5;clear e0 e1 e2 e3 e4 e5;have GA:=hide (World.grownBy_alloc wr (.cells #[.string (sv (S0 k)),.string (sv (S1 k)),.string (sv (S2 k)),.int .i64 (V3 k),.int .i64 (V4 k),.int .i64 (Q k)] 70) (some b));have hbx:=heap_alloc_new wr (.cells #[.string (sv (S0 k)),.string (sv (S1 k)),.string (sv (S2 k)),.int .i64 (V3 k),.int .i64 (V4 k),.int .i64 (Q k)] 70);have KBq:=hide ((uq KW).alloc (.cells #[.string (sv (S0 k)),.string (sv (S1 k)),.string (sv (S2 k)),.int .i64 (V3 k),.int .i64 (V4 k),.int .i64 (Q k)] 70));have KAq:=hide ((Keep.refl wr).alloc (.cells #[.string (sv (S0 k)),.string (sv (S1 k)),.string (sv (S2 k)),.int .i64 (V3 k),.int .i64 (V4 k),.int .i64 (Q k)] 70))
   go_upto_region 5 with fail
   generalize hwa:wr.alloc (.cells #[.string (sv (S0 k)),.string (sv (S1 k)),.string (sv (S2 k)),.int .i64 (V3 k),.int .i64 (V4 k),.int .i64 (Q k)] 70)=wa at hbx KBq KAq GA ⊢;obtain⟨q,HQq⟩:∃ q,Hid (wr.heap.size=q):=⟨_,hide rfl⟩;rw[uq HQq]at hbx ⊢;have HXq:Hid (∀ w':World,w'.heap[q]? =wa.heap[q]? →w'.cell? ⟨q,0,none⟩=some (.string (sv (S0 k)))∧w'.cell? ⟨q,1,none⟩=some (.string (sv (S1 k)))∧w'.cell? ⟨q,2,none⟩=some (.string (sv (S2 k)))∧w'.cell? ⟨q,3,none⟩=some (.int .i64 (V3 k))∧w'.cell? ⟨q,4,none⟩=some (.int .i64 (V4 k))∧w'.cell? ⟨q,5,none⟩=some (.int .i64 (Q k))):=hide (fun w' h9=>by rw[hbx]at h9;refine⟨?_,?_,?_,?_,?_,?_⟩<;>simp[World.cell?,h9]);have HQLq:=hide (Array.getElem?_eq_some_iff.1 hbx).1;clear hbx hwa x0 x1 x2 x3 x4 x5;have HMB:=hide ((uq MK).keep (uq KAq));have HQB:Hid (q≠b):=hide (by have:=(uq MK).lt;have:=uq HQq;omega);have G1:=hide ((uq G0).trans (uq GA));clear GA;obtain⟨f0,f1,f2,f3,f4,f5⟩:=(uq HXq) wa rfl;have TW:=hide (zag bn MN (Q k) (S0 k) wa ((uq HP).keep (uq KBq)) (uq tl));cases hw:hs MN (S0 k)
   ·have hr:=zab (uq HF) hlt (show stF MN S0 S1 S2 hd V3 V4 Q k=some (72,Q k) by unfold stF;rw[if_neg (by rw[hw];decide)]);subst hr;rw[hw]at TW;clear HF hw;go_wp2_with fail
    (refine(uq TW).mono ?_;rintro e w3 ⟨rfl,rfl⟩;simp only[Bool.not_false,fl,En,if_true]);go_wp2_with fail
    exact⟨rfl,uq KBq,rfl⟩
   have HW:=hide hw;rw[hw]at TW;obtain⟨j,hj,ej⟩:=(uq HJk) hw;have HJL:=hide ej;have hj':=hide hj;clear hw ej HJk;go_wp2_with fail
   (refine(uq TW).mono ?_;rintro e wa ⟨rfl,rfl⟩;simp only[Bool.not_true,fl,En,if_false,Bool.false_eq_true]);clear TW;by_cases hh:hs (mk S0 k) (S0 k)=true
   ·have hr:=zab (uq HF) hlt (show stF MN S0 S1 S2 hd V3 V4 Q k=some (71,Q k) by unfold stF;rw[if_pos (uq HW),if_pos hh]);subst hr;clear HF;go_wp2_with fail
    (refine(zbN b (mk S0 k) (Q k) _ (S0 k) _ (uq HMB) (uq tl) hh).mono ?_;rintro e w2 ⟨rfl,rfl⟩);go_wp2_with fail
    exact⟨rfl,uq KBq,rfl⟩
   have hh0:hs (mk S0 k) (S0 k)=false:=by simpa using hh
   have HH0:=hide hh0;clear hh hh0;go_wp2_with fail
   (refine(zcj b (mk S0 k) (Q k) _ (S0 k) _ (uq HMB) (uq tl) (by rw[zbZ];unfold maxLen;omega) (zcQ (by omega)) (uq HH0)).mono ?_;rintro e w2 ⟨rfl,hM2,hG2⟩);have HM2:Hid (Mp w2 b (mk S0 (k+1))):=hide (by rw[zbO];exact hM2);have HK2:=hide (zav (uq KBq) hG2 (uq HBW));have G2:=hide ((uq G1).trans hG2);have HE2:Hid (w2.heap[q]? =wa.heap[q]? ∧q<w2.heap.size):=hide ⟨hG2.block q (uq HQLq) (by simpa using uq HQB),Nat.lt_of_lt_of_le (uq HQLq) hG2.size⟩;clear hM2 hG2 f0 f1 f2 f3 f4 f5;obtain⟨f0,f1,f2,f3,f4,f5⟩:=(uq HXq) w2 (uq HE2).1;have z0:=(uq G2).cell (uq Z0) (by simpa using uq HQB0);obtain⟨bd,hA,hbb,y0,y1,y2,y3,y4,y5,y6⟩:=(uq HCN) j hj;have x0:=far_cell (uq HK2) (by rw[add_block9];exact hbb) y0;have x1:=far_cell (uq HK2) (by show(bd.add (j * 7)).block<_;rw[add_block9];exact hbb) y1;have x2:=far_cell (uq HK2) (by show(bd.add (j * 7)).block<_;rw[add_block9];exact hbb) y2;have x3:=far_cell (uq HK2) (by show(bd.add (j * 7)).block<_;rw[add_block9];exact hbb) y3;have x4:=far_cell (uq HK2) (by show(bd.add (j * 7)).block<_;rw[add_block9];exact hbb) y4;have x5:=far_cell (uq HK2) (by show(bd.add (j * 7)).block<_;rw[add_block9];exact hbb) y5;have x6:=far_cell (uq HK2) (by show(bd.add (j * 7)).block<_;rw[add_block9];exact hbb) y6;rw[hA]at z0;clear hA y0 y1 y2 y3 y4 y5 y6;obtain⟨D,hown,HD⟩:=((uq HP).keep (uq HK2)).own;have HDk:Hid (∀ c:Int,D.atKey (.string (S0 k)) (.lit (.int .i64 0))= .lit (.int .i64 c)→c=(j:Int)):=hide (fun c hc=>(HD _ _ hc).trans (uq HJL));clear HD;have k1:=zdQ (uq tl);generalize hsv:sv (S0 k)=sT at f0 k1;have HSV:=hide hsv;clear hsv;have lj:(j:Int)<(nN:Int):=by omega
   have hbx:=heap_alloc_new w2 (.cells #[.string (sv (T j)),.slice (X1 j) (N1 j) (C1 j),.slice (X2 j) (N2 j) (C2 j),.slice (X3 j) (N3 j) (C3 j),.slice (X4 j) (N4 j) (C4 j),.slice (X5 j) (N5 j) (C5 j),.int .i64 (P j)] 39);have KN:=hide ((Keep.refl w2).alloc (.cells #[.string (sv (T j)),.slice (X1 j) (N1 j) (C1 j),.slice (X2 j) (N2 j) (C2 j),.slice (X3 j) (N3 j) (C3 j),.slice (X4 j) (N4 j) (C4 j),.slice (X5 j) (N5 j) (C5 j),.int .i64 (P j)] 39));have GN:=hide (World.grownBy_alloc w2 (.cells #[.string (sv (T j)),.slice (X1 j) (N1 j) (C1 j),.slice (X2 j) (N2 j) (C2 j),.slice (X3 j) (N3 j) (C3 j),.slice (X4 j) (N4 j) (C4 j),.slice (X5 j) (N5 j) (C5 j),.int .i64 (P j)] 39) (some b))
   go_upto_region 7 with fail
   go_wp2_with (first|(at_lookup;refine wpList_lookup_own_int _ rfl _ _ 126 rfl 9 3 .i64 law Tryz.underlying126 Tryz.underlying3 (zk0 _) bn _ D rfl hown _ _ rfl k1 ?_;intro c hat hwc;obtain rfl:=(uq HDk) c hat)|fail)
   generalize hwn:w2.alloc (.cells #[.string (sv (T j)),.slice (X1 j) (N1 j) (C1 j),.slice (X2 j) (N2 j) (C2 j),.slice (X3 j) (N3 j) (C3 j),.slice (X4 j) (N4 j) (C4 j),.slice (X5 j) (N5 j) (C5 j),.int .i64 (P j)] 39)=w3 at hbx KN GN ⊢;obtain⟨q3,HQ3⟩:∃ q,Hid (w2.heap.size=q):=⟨_,hide rfl⟩;rw[uq HQ3]at hbx ⊢;have HX3:Hid (∀ w':World,Keep w3 w'→w'.cell? ⟨q,0,none⟩=some (.string (sv (S0 k)))∧w'.cell? ⟨q,1,none⟩=some (.string (sv (S1 k)))∧w'.cell? ⟨q,2,none⟩=some (.string (sv (S2 k)))∧w'.cell? ⟨q,3,none⟩=some (.int .i64 (V3 k))∧w'.cell? ⟨q,4,none⟩=some (.int .i64 (V4 k))∧w'.cell? ⟨q,5,none⟩=some (.int .i64 (Q k))∧w'.cell? ⟨q3,0,none⟩=some (.string (sv (T j)))∧w'.cell? ⟨q3,1,none⟩=some (.slice (X1 j) (N1 j) (C1 j))∧w'.cell? ⟨q3,2,none⟩=some (.slice (X2 j) (N2 j) (C2 j))∧w'.cell? ⟨q3,3,none⟩=some (.slice (X3 j) (N3 j) (C3 j))∧w'.cell? ⟨q3,4,none⟩=some (.slice (X4 j) (N4 j) (C4 j))∧w'.cell? ⟨q3,5,none⟩=some (.slice (X5 j) (N5 j) (C5 j))∧w'.cell? ⟨q3,6,none⟩=some (.int .i64 (P j))):=hide (fun w' k9=>by have h:=k9.block q3 (Array.getElem?_eq_some_iff.1 hbx).1;rw[hbx]at h;obtain⟨t0,t1,t2,t3,t4,t5⟩:=(uq HXq) w' ((((uq KN).trans k9).block q (uq HE2).2).trans (uq HE2).1);refine⟨t0,t1,t2,t3,t4,t5,?_,?_,?_,?_,?_,?_,?_⟩<;>simp[World.cell?,h]);have KN3:=hide ((uq HK2).trans (uq KN));clear hbx hwn GN hown HDk k1 HSV z0 lj f0 f1 f2 f3 f4 f5 x0 x1 x2 x3 x4 x5 x6;have TJ:=hide (uq THk j hj);have HF1:=hide (show hd (lk MN (S0 k))=hd (j:Int) by rw[uq HJL]);obtain⟨h1,E1⟩:∃ h,Hid (hd (j:Int) (S1 k)=h):=⟨_,hide rfl⟩;obtain⟨h2,E2⟩:∃ h,Hid (hd (j:Int) (S2 k)=h):=⟨_,hide rfl⟩;rw[uq E1,uq E2]at TJ;clear hj THk;by_cases o1:h1<0
   ·have hr:=zab (uq HF) hlt (show stF MN S0 S1 S2 hd V3 V4 Q k=some (72,Q k) by unfold stF;rw[if_pos (uq HW),if_neg (by rw[uq HH0];decide),uq HF1,uq E1,if_pos o1]);subst hr;clear HF;refine wp_region_held_drew (S:=(fun w'=>w'.cell? ⟨q,0,none⟩=some (.string (sv (S0 k)))∧w'.cell? ⟨q,1,none⟩=some (.string (sv (S1 k)))∧w'.cell? ⟨q,2,none⟩=some (.string (sv (S2 k)))∧w'.cell? ⟨q,3,none⟩=some (.int .i64 (V3 k))∧w'.cell? ⟨q,4,none⟩=some (.int .i64 (V4 k))∧w'.cell? ⟨q,5,none⟩=some (.int .i64 (Q k))∧w'.cell? ⟨q3,0,none⟩=some (.string (sv (T j)))∧w'.cell? ⟨q3,1,none⟩=some (.slice (X1 j) (N1 j) (C1 j))∧w'.cell? ⟨q3,2,none⟩=some (.slice (X2 j) (N2 j) (C2 j))∧w'.cell? ⟨q3,3,none⟩=some (.slice (X3 j) (N3 j) (C3 j))∧w'.cell? ⟨q3,4,none⟩=some (.slice (X4 j) (N4 j) (C4 j))∧w'.cell? ⟨q3,5,none⟩=some (.slice (X5 j) (N5 j) (C5 j))∧w'.cell? ⟨q3,6,none⟩=some (.int .i64 (P j)))) (by kernel_rfl) (by exact(uq HX3) _ (Keep.refl w3).drew) (fun hHeld=>?_);refine tkk 0 38 hHeld ?_;try simp only[Act.put,Ya,Yb,Yc]
    refine tkk 1 39 hHeld ?_;try simp only[Act.put,Ya,Yb,Yc]
    refine tkk 2 40 hHeld ?_;try simp only[Act.put,Ya,Yb,Yc]
    refine tkk 3 41 hHeld ?_;try simp only[Act.put,Ya,Yb,Yc]
    refine tkk 4 42 hHeld ?_;try simp only[Act.put,Ya,Yb,Yc]
    refine zal 5 (fun K hK=>?_);go_simp;clear hHeld;(refine((uq TJ) _ (uq KN3).drew).1.mono ?_;rintro e w4 ⟨rfl,hk9⟩;have K4:=hide (((Keep.refl w3).drew).trans hk9);clear hk9);try go_wp2_with fail
    refine hK.out _ _ ?_ (fun hHeld=>?_)
    ·exact(uq HX3) _ (uq K4)
    clear hK K;try simp only[Act.put,Ya,Yb,Yc]
    refine tkk 6 44 hHeld ?_;try simp only[Act.put,Ya,Yb,Yc]
    refine tkk 7 45 hHeld ?_;try simp only[Act.put,Ya,Yb,Yc]
    refine wpAnyH_take (i:=8) (v:=undef) rfl (by kernel_rfl) (by kernel_rfl) (by kernel_rfl) (fun _ _ _ h=>h) (Or.inr ⟨by rfl,rfl⟩) hHeld ?_;show wpAnyH _ _ _ _ _ _ _ (Act.put _ (some 46) _) _;try simp only[Act.put,Ya,Yb,Yc]
    refine wpAnyH_take (i:=9) (v:=undef) rfl (by kernel_rfl) (by kernel_rfl) (by kernel_rfl) (fun _ _ _ h=>h) (Or.inr ⟨by rfl,rfl⟩) hHeld ?_;show wpAnyH _ _ _ _ _ _ _ (Act.put _ (some 47) _) _;try simp only[Act.put,Ya,Yb,Yc]
    refine wpAnyH_take (i:=10) (v:=undef) rfl (by kernel_rfl) (by kernel_rfl) (by kernel_rfl) (fun _ _ _ h=>h) (Or.inr ⟨by rfl,rfl⟩) hHeld ?_;show wpAnyH _ _ _ _ _ _ _ (Act.put _ (some 48) _) _;try simp only[Act.put,Ya,Yb,Yc]
    refine wpAnyH_take (i:=11) (v:=undef) rfl (by kernel_rfl) (by kernel_rfl) (by kernel_rfl) (fun _ _ _ h=>h) (Or.inr ⟨by rfl,rfl⟩) hHeld ?_;show wpAnyH _ _ _ _ _ _ _ (Act.put _ (some 49) _) _;try simp only[Act.put,Ya,Yb,Yc]
    refine wpAnyH_take (i:=12) (v:=undef) rfl (by kernel_rfl) (by kernel_rfl) (by kernel_rfl) (fun _ _ _ h=>h) (Or.inr ⟨by rfl,rfl⟩) hHeld ?_;show wpAnyH _ _ _ _ _ _ _ (Act.put _ (some 50) _) _;try simp only[Act.put,Ya,Yb,Yc]
    refine tkk 13 51 hHeld ?_;try simp only[Act.put,Ya,Yb,Yc]
    refine wpAnyH_ready (rs:= [14]) (by kernel_rfl) (by simp) ?_;refine AllReadyH.cons rfl (fun K hK=>?_) AllReadyH.nil;go_simp;clear hHeld;(refine((uq RX) _ _ _).mono ?_;rintro e w6 ⟨rfl,rfl⟩);try go_wp2_with fail
    exact⟨rfl,(uq KN3).trans (uq K4),rfl⟩
   have O1:=hide o1;have d1:decide (h1<0)=false:=decide_eq_false o1;clear o1;by_cases o2:h2<0
   ·have hr:=zab (uq HF) hlt (show stF MN S0 S1 S2 hd V3 V4 Q k=some (72,Q k) by unfold stF;rw[if_pos (uq HW),if_neg (by rw[uq HH0];decide),uq HF1,uq E1,if_neg (by have:=uq O1;omega),uq E2,if_pos o2]);subst hr;clear HF;refine wp_region_held_drew (S:=(fun w'=>w'.cell? ⟨q,0,none⟩=some (.string (sv (S0 k)))∧w'.cell? ⟨q,1,none⟩=some (.string (sv (S1 k)))∧w'.cell? ⟨q,2,none⟩=some (.string (sv (S2 k)))∧w'.cell? ⟨q,3,none⟩=some (.int .i64 (V3 k))∧w'.cell? ⟨q,4,none⟩=some (.int .i64 (V4 k))∧w'.cell? ⟨q,5,none⟩=some (.int .i64 (Q k))∧w'.cell? ⟨q3,0,none⟩=some (.string (sv (T j)))∧w'.cell? ⟨q3,1,none⟩=some (.slice (X1 j) (N1 j) (C1 j))∧w'.cell? ⟨q3,2,none⟩=some (.slice (X2 j) (N2 j) (C2 j))∧w'.cell? ⟨q3,3,none⟩=some (.slice (X3 j) (N3 j) (C3 j))∧w'.cell? ⟨q3,4,none⟩=some (.slice (X4 j) (N4 j) (C4 j))∧w'.cell? ⟨q3,5,none⟩=some (.slice (X5 j) (N5 j) (C5 j))∧w'.cell? ⟨q3,6,none⟩=some (.int .i64 (P j)))) (by kernel_rfl) (by exact(uq HX3) _ (Keep.refl w3).drew) (fun hHeld=>?_);refine tkk 0 38 hHeld ?_;try simp only[Act.put,Ya,Yb,Yc]
    refine tkk 1 39 hHeld ?_;try simp only[Act.put,Ya,Yb,Yc]
    refine tkk 2 40 hHeld ?_;try simp only[Act.put,Ya,Yb,Yc]
    refine tkk 3 41 hHeld ?_;try simp only[Act.put,Ya,Yb,Yc]
    refine tkk 4 42 hHeld ?_;try simp only[Act.put,Ya,Yb,Yc]
    refine zal 5 (fun K hK=>?_);go_simp;clear hHeld;(refine((uq TJ) _ (uq KN3).drew).1.mono ?_;rintro e w4 ⟨rfl,hk9⟩;have K4:=hide (((Keep.refl w3).drew).trans hk9);clear hk9);try go_wp2_with fail
    refine hK.out _ _ ?_ (fun hHeld=>?_)
    ·exact(uq HX3) _ (uq K4)
    clear hK K;try simp only[Act.put,Ya,Yb,Yc]
    refine tkk 6 44 hHeld ?_;try simp only[Act.put,Ya,Yb,Yc]
    refine tkk 7 45 hHeld ?_;try simp only[Act.put,Ya,Yb,Yc]
    refine tkk 8 46 hHeld ?_;try simp only[Act.put,Ya,Yb,Yc]
    refine tkk 9 47 hHeld ?_;try simp only[Act.put,Ya,Yb,Yc]
    refine tkk 10 48 hHeld ?_;try simp only[Act.put,Ya,Yb,Yc]
    refine zal 11 (fun K hK=>?_);go_simp;clear hHeld;(refine((uq TJ) _ ((uq KN3).trans (uq K4))).2.mono ?_;rintro e w5 ⟨rfl,hk9⟩;have K5:=hide ((uq K4).trans hk9);clear hk9);try go_wp2_with fail
    refine hK.out _ _ ?_ (fun hHeld=>?_)
    ·exact(uq HX3) _ (uq K5)
    clear hK K;try simp only[Act.put,Ya,Yb,Yc]
    refine tkk 12 50 hHeld ?_;try simp only[Act.put,Ya,Yb,Yc]
    refine tkk 13 51 hHeld ?_;try simp only[Act.put,Ya,Yb,Yc]
    refine wpAnyH_ready (rs:= [14]) (by kernel_rfl) (by simp) ?_;refine AllReadyH.cons rfl (fun K hK=>?_) AllReadyH.nil;go_simp;clear hHeld;(refine((uq RX) _ _ _).mono ?_;rintro e w6 ⟨rfl,rfl⟩);try go_wp2_with fail
    exact⟨rfl,(uq KN3).trans (uq K5),rfl⟩
   have O2:=hide o2;have d2:decide (h2<0)=false:=decide_eq_false o2;clear o2;refine wp_region_held_drew (S:=(fun w'=>w'.cell? ⟨q,0,none⟩=some (.string (sv (S0 k)))∧w'.cell? ⟨q,1,none⟩=some (.string (sv (S1 k)))∧w'.cell? ⟨q,2,none⟩=some (.string (sv (S2 k)))∧w'.cell? ⟨q,3,none⟩=some (.int .i64 (V3 k))∧w'.cell? ⟨q,4,none⟩=some (.int .i64 (V4 k))∧w'.cell? ⟨q,5,none⟩=some (.int .i64 (Q k))∧w'.cell? ⟨q3,0,none⟩=some (.string (sv (T j)))∧w'.cell? ⟨q3,1,none⟩=some (.slice (X1 j) (N1 j) (C1 j))∧w'.cell? ⟨q3,2,none⟩=some (.slice (X2 j) (N2 j) (C2 j))∧w'.cell? ⟨q3,3,none⟩=some (.slice (X3 j) (N3 j) (C3 j))∧w'.cell? ⟨q3,4,none⟩=some (.slice (X4 j) (N4 j) (C4 j))∧w'.cell? ⟨q3,5,none⟩=some (.slice (X5 j) (N5 j) (C5 j))∧w'.cell? ⟨q3,6,none⟩=some (.int .i64 (P j)))) (by kernel_rfl) (by exact(uq HX3) _ (Keep.refl w3).drew) (fun hHeld=>?_);refine tkk 0 38 hHeld ?_;try simp only[Act.put,Ya,Yb,Yc]
   refine tkk 1 39 hHeld ?_;try simp only[Act.put,Ya,Yb,Yc]
   refine tkk 2 40 hHeld ?_;try simp only[Act.put,Ya,Yb,Yc]
   refine tkk 3 41 hHeld ?_;try simp only[Act.put,Ya,Yb,Yc]
   refine tkk 4 42 hHeld ?_;try simp only[Act.put,Ya,Yb,Yc]
   refine zal 5 (fun K hK=>?_);go_simp;clear hHeld;(refine((uq TJ) _ (uq KN3).drew).1.mono ?_;rintro e w4 ⟨rfl,hk9⟩;have K4:=hide (((Keep.refl w3).drew).trans hk9);clear hk9);try go_wp2_with fail
   refine hK.out _ _ ?_ (fun hHeld=>?_)
   ·exact(uq HX3) _ (uq K4)
   clear hK K;try simp only[Act.put,Ya,Yb,Yc]
   refine tkk 6 44 hHeld ?_;try simp only[Act.put,Ya,Yb,Yc]
   refine tkk 7 45 hHeld ?_;try simp only[Act.put,Ya,Yb,Yc]
   refine tkk 8 46 hHeld ?_;try simp only[Act.put,Ya,Yb,Yc]
   refine tkk 9 47 hHeld ?_;try simp only[Act.put,Ya,Yb,Yc]
   refine tkk 10 48 hHeld ?_;try simp only[Act.put,Ya,Yb,Yc]
   refine zal 11 (fun K hK=>?_);go_simp;clear hHeld;(refine((uq TJ) _ ((uq KN3).trans (uq K4))).2.mono ?_;rintro e w5 ⟨rfl,hk9⟩;have K5:=hide ((uq K4).trans hk9);clear hk9);try go_wp2_with fail
   refine hK.out _ _ ?_ (fun hHeld=>?_)
   ·exact(uq HX3) _ (uq K5)
   clear hK K;try simp only[Act.put,Ya,Yb,Yc]
   refine tkk 12 50 hHeld ?_;try simp only[Act.put,Ya,Yb,Yc]
   refine tkk 13 51 hHeld ?_;try simp only[Act.put,Ya,Yb,Yc]
   refine zal 14 (fun K hK=>?_);go_simp;clear hHeld;(refine((uq RN) _ _ _).mono ?_;rintro e w5 ⟨rfl,rfl⟩);try go_wp2_with fail
   refine hK.out _ _ ?_ (fun hHeld=>?_)
   ·exact(uq HX3) _ (uq K5)
   clear hK K;try simp only[Act.put,Ya,Yb,Yc]
   refine wpAnyH_done (by kernel_rfl) ?_ _;clear hHeld;clear d1 d2 TJ;have TB:=hide (zaO 0 (V3 k) 6000);have TD:=hide (zaO 0 (V4 k) 6000);generalize hv3:btw 0 (V3 k) 6000=b3 at TB;generalize hv4:btw 0 (V4 k) 6000=b4 at TD;have HV3:=hide hv3;have HV4:=hide hv4;clear hv3 hv4;have K6:=hide (uq K5).drew;cases b3
   ·have hr:=zab (uq HF) hlt (show stF MN S0 S1 S2 hd V3 V4 Q k=some (70,Q k) by unfold stF;rw[if_pos (uq HW),if_neg (by rw[uq HH0];decide),uq HF1,uq E1,if_neg (by have:=uq O1;omega),uq E2,if_neg (by have:=uq O2;omega),if_neg (by rw[uq HV3];decide)]);subst hr;clear HF
    go_upto_region 9 with fail
    refine wp_region_held_drew (S:=(fun w'=>w'.cell? ⟨q,0,none⟩=some (.string (sv (S0 k)))∧w'.cell? ⟨q,1,none⟩=some (.string (sv (S1 k)))∧w'.cell? ⟨q,2,none⟩=some (.string (sv (S2 k)))∧w'.cell? ⟨q,3,none⟩=some (.int .i64 (V3 k))∧w'.cell? ⟨q,4,none⟩=some (.int .i64 (V4 k))∧w'.cell? ⟨q,5,none⟩=some (.int .i64 (Q k))∧w'.cell? ⟨q3,0,none⟩=some (.string (sv (T j)))∧w'.cell? ⟨q3,1,none⟩=some (.slice (X1 j) (N1 j) (C1 j))∧w'.cell? ⟨q3,2,none⟩=some (.slice (X2 j) (N2 j) (C2 j))∧w'.cell? ⟨q3,3,none⟩=some (.slice (X3 j) (N3 j) (C3 j))∧w'.cell? ⟨q3,4,none⟩=some (.slice (X4 j) (N4 j) (C4 j))∧w'.cell? ⟨q3,5,none⟩=some (.slice (X5 j) (N5 j) (C5 j))∧w'.cell? ⟨q3,6,none⟩=some (.int .i64 (P j)))) (by kernel_rfl) (by exact(uq HX3) _ (uq K6)) (fun hHeld=>?_);refine tkk 0 53 hHeld ?_;try simp only[Act.put,Ya,Yb,Yc]
    refine tkk 1 54 hHeld ?_;try simp only[Act.put,Ya,Yb,Yc]
    refine tkk 2 55 hHeld ?_;try simp only[Act.put,Ya,Yb,Yc]
    refine tkk 3 56 hHeld ?_;try simp only[Act.put,Ya,Yb,Yc]
    refine zal 4 (fun K hK=>?_);go_simp;clear hHeld;(refine((uq TB) _).mono ?_;rintro e w7 ⟨rfl,rfl⟩);try go_wp2_with fail
    refine hK.out _ _ ?_ (fun hHeld=>?_)
    ·exact(uq HX3) _ (uq K6)
    clear hK K;try simp only[Act.put,Ya,Yb,Yc]
    refine tkk 5 58 hHeld ?_;try simp only[Act.put,Ya,Yb,Yc]
    refine tkk 6 59 hHeld ?_;try simp only[Act.put,Ya,Yb,Yc]
    refine wpAnyH_take (i:=7) (v:=undef) rfl (by kernel_rfl) (by kernel_rfl) (by kernel_rfl) (fun _ _ _ h=>h) (Or.inr ⟨by rfl,rfl⟩) hHeld ?_;show wpAnyH _ _ _ _ _ _ _ (Act.put _ (some 60) _) _;try simp only[Act.put,Ya,Yb,Yc]
    refine wpAnyH_take (i:=8) (v:=undef) rfl (by kernel_rfl) (by kernel_rfl) (by kernel_rfl) (fun _ _ _ h=>h) (Or.inr ⟨by rfl,rfl⟩) hHeld ?_;show wpAnyH _ _ _ _ _ _ _ (Act.put _ (some 61) _) _;try simp only[Act.put,Ya,Yb,Yc]
    refine wpAnyH_take (i:=9) (v:=undef) rfl (by kernel_rfl) (by kernel_rfl) (by kernel_rfl) (fun _ _ _ h=>h) (Or.inr ⟨by rfl,rfl⟩) hHeld ?_;show wpAnyH _ _ _ _ _ _ _ (Act.put _ (some 62) _) _;try simp only[Act.put,Ya,Yb,Yc]
    refine wpAnyH_take (i:=10) (v:=undef) rfl (by kernel_rfl) (by kernel_rfl) (by kernel_rfl) (fun _ _ _ h=>h) (Or.inr ⟨by rfl,rfl⟩) hHeld ?_;show wpAnyH _ _ _ _ _ _ _ (Act.put _ (some 63) _) _;try simp only[Act.put,Ya,Yb,Yc]
    refine tkk 11 64 hHeld ?_;try simp only[Act.put,Ya,Yb,Yc]
    refine wpAnyH_ready (rs:= [12]) (by kernel_rfl) (by simp) ?_;refine AllReadyH.cons rfl (fun K hK=>?_) AllReadyH.nil;go_simp;clear hHeld;(refine((uq RX) _ _ _).mono ?_;rintro e w8 ⟨rfl,rfl⟩);try go_wp2_with fail
    exact⟨rfl,(uq KN3).trans (uq K6),rfl⟩
   cases b4
   ·have hr:=zab (uq HF) hlt (show stF MN S0 S1 S2 hd V3 V4 Q k=some (70,Q k) by unfold stF;rw[if_pos (uq HW),if_neg (by rw[uq HH0];decide),uq HF1,uq E1,if_neg (by have:=uq O1;omega),uq E2,if_neg (by have:=uq O2;omega),if_pos (uq HV3),if_neg (by rw[uq HV4];decide)]);subst hr;clear HF
    go_upto_region 9 with fail
    refine wp_region_held_drew (S:=(fun w'=>w'.cell? ⟨q,0,none⟩=some (.string (sv (S0 k)))∧w'.cell? ⟨q,1,none⟩=some (.string (sv (S1 k)))∧w'.cell? ⟨q,2,none⟩=some (.string (sv (S2 k)))∧w'.cell? ⟨q,3,none⟩=some (.int .i64 (V3 k))∧w'.cell? ⟨q,4,none⟩=some (.int .i64 (V4 k))∧w'.cell? ⟨q,5,none⟩=some (.int .i64 (Q k))∧w'.cell? ⟨q3,0,none⟩=some (.string (sv (T j)))∧w'.cell? ⟨q3,1,none⟩=some (.slice (X1 j) (N1 j) (C1 j))∧w'.cell? ⟨q3,2,none⟩=some (.slice (X2 j) (N2 j) (C2 j))∧w'.cell? ⟨q3,3,none⟩=some (.slice (X3 j) (N3 j) (C3 j))∧w'.cell? ⟨q3,4,none⟩=some (.slice (X4 j) (N4 j) (C4 j))∧w'.cell? ⟨q3,5,none⟩=some (.slice (X5 j) (N5 j) (C5 j))∧w'.cell? ⟨q3,6,none⟩=some (.int .i64 (P j)))) (by kernel_rfl) (by exact(uq HX3) _ (uq K6)) (fun hHeld=>?_);refine tkk 0 53 hHeld ?_;try simp only[Act.put,Ya,Yb,Yc]
    refine tkk 1 54 hHeld ?_;try simp only[Act.put,Ya,Yb,Yc]
    refine tkk 2 55 hHeld ?_;try simp only[Act.put,Ya,Yb,Yc]
    refine tkk 3 56 hHeld ?_;try simp only[Act.put,Ya,Yb,Yc]
    refine zal 4 (fun K hK=>?_);go_simp;clear hHeld;(refine((uq TB) _).mono ?_;rintro e w7 ⟨rfl,rfl⟩);try go_wp2_with fail
    refine hK.out _ _ ?_ (fun hHeld=>?_)
    ·exact(uq HX3) _ (uq K6)
    clear hK K;try simp only[Act.put,Ya,Yb,Yc]
    refine tkk 5 58 hHeld ?_;try simp only[Act.put,Ya,Yb,Yc]
    refine tkk 6 59 hHeld ?_;try simp only[Act.put,Ya,Yb,Yc]
    refine tkk 7 60 hHeld ?_;try simp only[Act.put,Ya,Yb,Yc]
    refine tkk 8 61 hHeld ?_;try simp only[Act.put,Ya,Yb,Yc]
    refine zal 9 (fun K hK=>?_);go_simp;clear hHeld;(refine((uq TD) _).mono ?_;rintro e w7 ⟨rfl,rfl⟩);try go_wp2_with fail
    refine hK.out _ _ ?_ (fun hHeld=>?_)
    ·exact(uq HX3) _ (uq K6)
    clear hK K;try simp only[Act.put,Ya,Yb,Yc]
    refine tkk 10 63 hHeld ?_;try simp only[Act.put,Ya,Yb,Yc]
    refine tkk 11 64 hHeld ?_;try simp only[Act.put,Ya,Yb,Yc]
    refine wpAnyH_ready (rs:= [12]) (by kernel_rfl) (by simp) ?_;refine AllReadyH.cons rfl (fun K hK=>?_) AllReadyH.nil;go_simp;clear hHeld;(refine((uq RX) _ _ _).mono ?_;rintro e w8 ⟨rfl,rfl⟩);try go_wp2_with fail
    exact⟨rfl,(uq KN3).trans (uq K6),rfl⟩
   go_upto_region 9 with fail
   refine wp_region_held_drew (S:=(fun w'=>w'.cell? ⟨q,0,none⟩=some (.string (sv (S0 k)))∧w'.cell? ⟨q,1,none⟩=some (.string (sv (S1 k)))∧w'.cell? ⟨q,2,none⟩=some (.string (sv (S2 k)))∧w'.cell? ⟨q,3,none⟩=some (.int .i64 (V3 k))∧w'.cell? ⟨q,4,none⟩=some (.int .i64 (V4 k))∧w'.cell? ⟨q,5,none⟩=some (.int .i64 (Q k))∧w'.cell? ⟨q3,0,none⟩=some (.string (sv (T j)))∧w'.cell? ⟨q3,1,none⟩=some (.slice (X1 j) (N1 j) (C1 j))∧w'.cell? ⟨q3,2,none⟩=some (.slice (X2 j) (N2 j) (C2 j))∧w'.cell? ⟨q3,3,none⟩=some (.slice (X3 j) (N3 j) (C3 j))∧w'.cell? ⟨q3,4,none⟩=some (.slice (X4 j) (N4 j) (C4 j))∧w'.cell? ⟨q3,5,none⟩=some (.slice (X5 j) (N5 j) (C5 j))∧w'.cell? ⟨q3,6,none⟩=some (.int .i64 (P j)))) (by kernel_rfl) (by exact(uq HX3) _ (uq K6)) (fun hHeld=>?_);refine tkk 0 53 hHeld ?_;try simp only[Act.put,Ya,Yb,Yc]
   refine tkk 1 54 hHeld ?_;try simp only[Act.put,Ya,Yb,Yc]
   refine tkk 2 55 hHeld ?_;try simp only[Act.put,Ya,Yb,Yc]
   refine tkk 3 56 hHeld ?_;try simp only[Act.put,Ya,Yb,Yc]
   refine zal 4 (fun K hK=>?_);go_simp;clear hHeld;(refine((uq TB) _).mono ?_;rintro e w7 ⟨rfl,rfl⟩);try go_wp2_with fail
   refine hK.out _ _ ?_ (fun hHeld=>?_)
   ·exact(uq HX3) _ (uq K6)
   clear hK K;try simp only[Act.put,Ya,Yb,Yc]
   refine tkk 5 58 hHeld ?_;try simp only[Act.put,Ya,Yb,Yc]
   refine tkk 6 59 hHeld ?_;try simp only[Act.put,Ya,Yb,Yc]
   refine tkk 7 60 hHeld ?_;try simp only[Act.put,Ya,Yb,Yc]
   refine tkk 8 61 hHeld ?_;try simp only[Act.put,Ya,Yb,Yc]
   refine zal 9 (fun K hK=>?_);go_simp;clear hHeld;(refine((uq TD) _).mono ?_;rintro e w7 ⟨rfl,rfl⟩);try go_wp2_with fail
   refine hK.out _ _ ?_ (fun hHeld=>?_)
   ·exact(uq HX3) _ (uq K6)
   clear hK K;try simp only[Act.put,Ya,Yb,Yc]
   refine tkk 10 63 hHeld ?_;try simp only[Act.put,Ya,Yb,Yc]
   refine tkk 11 64 hHeld ?_;try simp only[Act.put,Ya,Yb,Yc]
   refine zal 12 (fun K hK=>?_);go_simp;clear hHeld;(refine((uq RN) _ _ _).mono ?_;rintro e w8 ⟨rfl,rfl⟩);try go_wp2_with fail
   refine hK.out _ _ ?_ (fun hHeld=>?_)
   ·exact(uq HX3) _ (uq K6)
   clear hK K;try simp only[Act.put,Ya,Yb,Yc]
   refine wpAnyH_done (by kernel_rfl) ?_ _;clear hHeld;clear TB TD;have hx3:=(uq HX3) _ (uq K6);obtain⟨f0,f1,f2,f3,f4,f5,_⟩:=hx3;by_cases z:k=0
   ·have hz:((k:Int)==0)=true:=by simp[z]
    have Z:=hide z;clear z;by_cases z3:V3 k=0
    ·by_cases z4:V4 k=0
     ·have hf:=zaY (uq HF) hlt (show stF MN S0 S1 S2 hd V3 V4 Q k=none by unfold stF;rw[if_pos (uq HW),if_neg (by rw[uq HH0];decide),uq HF1,uq E1,if_neg (by have:=uq O1;omega),uq E2,if_neg (by have:=uq O2;omega),if_pos (uq HV3),if_pos (uq HV4),if_pos (uq Z),if_pos z3,if_pos z4]);have y3:(V3 k !=0)=false:=by simp[z3]
      have y4:(V4 k !=0)=false:=by simp[z4]
      clear z3 z4;have HF2:=hide hf;clear hf HF;go_wp2_with fail
      (refine((uq RN) _ _ _).mono ?_;rintro e w8 ⟨rfl,rfl⟩);go_wp2_with fail
      go_roundw
      case rel=>exact⟨k+1,by go_num,by omega,hide ((uq HM2).keep ((uq KN).trans (uq K6))),hide ((uq G2).trans (zeY ((uq KN).trans (uq K6)))),HF2⟩
      case measure=>simp[intOf];omega
     ·have y3:(V3 k !=0)=false:=by simp[z3]
      have y4:(V4 k !=0)=true:=by simp[z4]
      have hr:=zab (uq HF) hlt (show stF MN S0 S1 S2 hd V3 V4 Q k=some (76,Q k) by unfold stF;rw[if_pos (uq HW),if_neg (by rw[uq HH0];decide),uq HF1,uq E1,if_neg (by have:=uq O1;omega),uq E2,if_neg (by have:=uq O2;omega),if_pos (uq HV3),if_pos (uq HV4),if_pos (uq Z),if_pos z3,if_neg z4]);subst hr;clear HF;clear z3 z4;go_wp2_with fail
      (refine((uq RX) _ _ _).mono ?_;rintro e w8 ⟨rfl,rfl⟩);go_wp2_with fail
      exact⟨rfl,(uq KN3).trans (uq K6),rfl⟩
    ·have y3:(V3 k !=0)=true:=by simp[z3]
     have hr:=zab (uq HF) hlt (show stF MN S0 S1 S2 hd V3 V4 Q k=some (76,Q k) by unfold stF;rw[if_pos (uq HW),if_neg (by rw[uq HH0];decide),uq HF1,uq E1,if_neg (by have:=uq O1;omega),uq E2,if_neg (by have:=uq O2;omega),if_pos (uq HV3),if_pos (uq HV4),if_pos (uq Z),if_neg z3]);subst hr;clear HF;clear z3;go_wp2_with fail
     (refine((uq RX) _ _ _).mono ?_;rintro e w8 ⟨rfl,rfl⟩);go_wp2_with fail
     exact⟨rfl,(uq KN3).trans (uq K6),rfl⟩
   ·have hz:((k:Int)==0)=false:=by simp;omega
    have hf:=zaY (uq HF) hlt (show stF MN S0 S1 S2 hd V3 V4 Q k=none by unfold stF;rw[if_pos (uq HW),if_neg (by rw[uq HH0];decide),uq HF1,uq E1,if_neg (by have:=uq O1;omega),uq E2,if_neg (by have:=uq O2;omega),if_pos (uq HV3),if_pos (uq HV4),if_neg z]);clear z;have HF2:=hide hf;clear hf HF;go_wp2_with fail
    (refine((uq RN) _ _ _).mono ?_;rintro e w8 ⟨rfl,rfl⟩);go_wp2_with fail
    go_roundw
    case rel=>exact⟨k+1,by go_num,by omega,hide ((uq HM2).keep ((uq KN).trans (uq K6))),hide ((uq G2).trans (zeY ((uq KN).trans (uq K6)))),HF2⟩
    case measure=>simp[intOf];omega
  ·have li:¬(k:Int)<(nS:Int):=by omega
   have hr:=zaF (uq HF) (by omega);subst hr;go_wp2_with fail
   go_end0
   exact⟨uq KW,rfl⟩
end V
end Go.Proofs.YtpmaonkelkmhbaaGreat
