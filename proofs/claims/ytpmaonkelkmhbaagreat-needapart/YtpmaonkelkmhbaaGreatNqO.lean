/- Package need: Of, Least. -/
import Derived.Test.YtpmaonkelkmhbaaGreatNdO
import Derived.Laws.MakeOwn
import Derived.Deep.DrawnRows
import Derived.Deep.RegionHeld3
import Derived.Test.YtpmaonkelkmhbaaGreatVFew
namespace Go.Proofs.YtpmaonkelkmhbaaGreat
open Go.RowKit
attribute [local go_sem ↓] Go.wp_at_zero Go.wp_at_succ
set_option linter.unusedVariables false
set_option linter.unusedSimpArgs false
set_option maxRecDepth 10000
namespace Nd
theorem zoE:(Tryz.prog.info? 80).map (fun i=>(i.zero,i.size,i.bytes))=some (some (.agg #[.string ⟨#[]⟩,.int .i64 0,.int .i64 0,.int .i64 0,.int .i64 0,.int .i64 0,.slice none 0 0]),7,80):=by kernel_rfl
def ndc (P:Nat→List UInt8) (G Y R:Nat→Int) (XZ:Nat→Int×Int) (vs:List Value):Nat→List Value
 |0=> []
 |k+1=>ndc P G Y R XZ vs k++ [.string (sv (P k)),.int .i64 (G k),.int .i64 (Y k),.int .i64 (R k),.int .i64 (XZ k).1,.int .i64 (XZ k).2,vs.getD k (.bool false)]
theorem zi0 {α:Type} {l m:List α} {k:Nat} {d:α} (h:k<l.length):(l++m).getD k d=l.getD k d:=by rw[List.getD_eq_getElem?_getD,List.getD_eq_getElem?_getD,List.getElem?_append_left h]
theorem zi1 {α:Type} {l m:List α} {k:Nat} {d:α} (h:l.length≤k):(l++m).getD k d=m.getD (k - l.length) d:=by rw[List.getD_eq_getElem?_getD,List.getD_eq_getElem?_getD,List.getElem?_append_right h]
theorem zhk {P:Nat→List UInt8} {G Y R:Nat→Int} {XZ:Nat→Int×Int} {vs:List Value} {v:Value} :∀ k,k≤vs.length→ndc P G Y R XZ (vs++ [v]) k=ndc P G Y R XZ vs k
 |0,_=>rfl
 |k+1,h=>by
  rw[ndc,ndc,zhk k (by omega),zi0 (by omega)]
def Wr (w:World) (WL:Nat→List (List UInt8×Int×Int)) (vs:List Value) (k:Nat):Prop:=vs.length=k∧∀ j,j<k→w.ownsRow 0 137 3 (vs.getD j (.bool false)) (WL j).length (wcs (WL j))
theorem Wr.keep {w w':World} {WL:Nat→List (List UInt8×Int×Int)} {vs:List Value} {k:Nat} (h:Wr w WL vs k) (hk:Keep w w'):Wr w' WL vs k:=⟨h.1,fun j hj=>W.own_k (h.2 j hj) hk⟩
theorem Wr.snoc {w:World} {WL:Nat→List (List UInt8×Int×Int)} {vs:List Value} {k:Nat} {v:Value} (h:Wr w WL vs k) (hv:w.ownsRow 0 137 3 v (WL k).length (wcs (WL k))):Wr w WL (vs++ [v]) (k+1):=by
 refine⟨by rw[List.length_append,h.1];rfl,fun j hj=>?_⟩;rcases Nat.lt_succ_iff_lt_or_eq.1 hj with e|e
 ·rw[zi0 (by rw[h.1];exact e)];exact h.2 j e
 ·subst e;rw[zi1 (by rw[h.1];exact Nat.le_refl _),h.1,Nat.sub_self];exact hv
theorem Wr.grown {w w':World} {WL:Nat→List (List UInt8×Int×Int)} {vs:List Value} {k:Nat} {row:Option Nat} (h:Wr w WL vs k) (hg:w.grownBy w' row) (hr:∀ k,row=some k→∃ cur,w.heap[k]? =some (.cells cur 80 (0,0))):Wr w' WL vs k:=⟨h.1,fun j hj=>W.own_other (h.2 j hj) hg (by decide) hr⟩
def Oq (e0:Int) (n:Nat) (P:Nat→List UInt8) (G Y R:Nat→Int) (XZ:Nat→Int×Int) (WL:Nat→List (List UInt8×Int×Int)) (w:World) (e:Ending) (w':World):Prop:=∃ v,e= .returned (.tuple #[v,.int .i64 e0])∧Keep w w'∧(¬e0=0→v= .slice none 0 0)∧(e0=0→∃ vs,w'.ownsRow 0 80 7 v n (ndc P G Y R XZ vs n)∧Wr w' WL vs n)
set_option maxHeartbeats 4000000 in
theorem znn (a0 a1 a2 a3 a4:Int) (aN:Option Addr) (nN cN:Nat) (aS:Option Addr) (nS cS:Nat) (a5 a6:Int) (i:Int) (n:Nat) (P:Nat→List UInt8) (G Y R:Nat→Int) (XZ:Nat→Int×Int) (WL:Nat→List (List UInt8×Int×Int)) (w:World) (hi:i<0∨(nN:Int)≤i):Calls Tryz.prog 17 #[.agg #[.int .i64 a0,.int .i64 a1,.int .i64 a2,.int .i64 a3,.int .i64 a4,.slice aN nN cN,.slice aS nS cS,.int .i64 a5,.int .i64 a6],.int .i64 i] w (Oq 1 n P G Y R XZ WL w):=by
 have hnw0:=heap_alloc_new w (.cells #[.int .i64 a0,.int .i64 a1,.int .i64 a2,.int .i64 a3,.int .i64 a4,.slice aN nN cN,.slice aS nS cS,.int .i64 a5,.int .i64 a6] 27);have K0:=hide ((Keep.refl w).alloc (.cells #[.int .i64 a0,.int .i64 a1,.int .i64 a2,.int .i64 a3,.int .i64 a4,.slice aN nN cN,.slice aS nS cS,.int .i64 a5,.int .i64 a6] 27));go_enter Tryz.func17,Tryz.ntmps17
 go_upto_region 1 with fail
 generalize w.alloc (.cells #[.int .i64 a0,.int .i64 a1,.int .i64 a2,.int .i64 a3,.int .i64 a4,.slice aN nN cN,.slice aS nS cS,.int .i64 a5,.int .i64 a6] 27)=w0 at hnw0 K0 ⊢;obtain⟨q0,HQ0⟩:∃ q,Hid (w.heap.size=q):=⟨_,hide rfl⟩;rw[uq HQ0]at hnw0 ⊢;have HX0:Hid (∀ w':World,Keep w0 w'→w'.cell? ⟨q0,0,none⟩=some (.int .i64 a0)∧w'.cell? ⟨q0,1,none⟩=some (.int .i64 a1)∧w'.cell? ⟨q0,2,none⟩=some (.int .i64 a2)∧w'.cell? ⟨q0,3,none⟩=some (.int .i64 a3)∧w'.cell? ⟨q0,4,none⟩=some (.int .i64 a4)∧w'.cell? ⟨q0,5,none⟩=some (.slice aN nN cN)∧w'.cell? ⟨q0,6,none⟩=some (.slice aS nS cS)∧w'.cell? ⟨q0,7,none⟩=some (.int .i64 a5)∧w'.cell? ⟨q0,8,none⟩=some (.int .i64 a6)):=hide (fun w' k9=>by
  have h1:=k9.block q0 (Array.getElem?_eq_some_iff.1 hnw0).1;rw[hnw0]at h1;refine⟨?_,?_,?_,?_,?_,?_,?_,?_,?_⟩<;>simp[World.cell?,h1])
 clear hnw0;obtain⟨z0,z1,z2,z3,z4,z5,z6,z7,z8⟩:=(uq HX0) w0 (Keep.refl _);rcases hi with hi|hi
 ·go_wp2_with fail
  go_ret2;exact⟨_,rfl,uq K0,fun _=>rfl,fun h=>by cases h⟩
 ·by_cases h0:i<0
  ·go_wp2_with fail
   go_ret2;exact⟨_,rfl,uq K0,fun _=>rfl,fun h=>by cases h⟩
  ·go_wp2_with fail
   go_ret2;exact⟨_,rfl,uq K0,fun _=>rfl,fun h=>by cases h⟩
set_option maxHeartbeats 4000000 in
theorem zoF (a0 a1 a2 a3 a4:Int) (aN:Option Addr) (nN cN:Nat) (aS:Option Addr) (nS cS:Nat) (a5 a6:Int) (i:Int) (n:Nat) (P:Nat→List UInt8) (G Y R:Nat→Int) (XZ:Nat→Int×Int) (WL:Nat→List (List UInt8×Int×Int)) (ce cp:Int) (w:World) (h0:0≤i) (h1:i<(nN:Int)) (hc:¬ce=0)
  (TC:Hid (∀ w',Keep w w'→Calls Tryz.prog 37 #[.agg #[.int .i64 a0,.int .i64 a1,.int .i64 a2,.int .i64 a3,.int .i64 a4,.slice aN nN cN,.slice aS nS cS,.int .i64 a5,.int .i64 a6]] w' fun e w''=>e= .returned (.tuple #[.int .i64 ce,.int .i64 cp])∧Keep w' w'')):Calls Tryz.prog 17 #[.agg #[.int .i64 a0,.int .i64 a1,.int .i64 a2,.int .i64 a3,.int .i64 a4,.slice aN nN cN,.slice aS nS cS,.int .i64 a5,.int .i64 a6],.int .i64 i] w (Oq 1 n P G Y R XZ WL w):=by
 have hcb:(ce !=0)=true:=by simpa using hc
 have h2:¬i<0:=by omega
 have h3:¬(nN:Int)≤i:=by omega
 clear hc;have hnw0:=heap_alloc_new w (.cells #[.int .i64 a0,.int .i64 a1,.int .i64 a2,.int .i64 a3,.int .i64 a4,.slice aN nN cN,.slice aS nS cS,.int .i64 a5,.int .i64 a6] 27);have K0:=hide ((Keep.refl w).alloc (.cells #[.int .i64 a0,.int .i64 a1,.int .i64 a2,.int .i64 a3,.int .i64 a4,.slice aN nN cN,.slice aS nS cS,.int .i64 a5,.int .i64 a6] 27));go_enter Tryz.func17,Tryz.ntmps17
 go_upto_region 1 with fail
 generalize w.alloc (.cells #[.int .i64 a0,.int .i64 a1,.int .i64 a2,.int .i64 a3,.int .i64 a4,.slice aN nN cN,.slice aS nS cS,.int .i64 a5,.int .i64 a6] 27)=w0 at hnw0 K0 ⊢;obtain⟨q0,HQ0⟩:∃ q,Hid (w.heap.size=q):=⟨_,hide rfl⟩;rw[uq HQ0]at hnw0 ⊢;have HX0:Hid (∀ w':World,Keep w0 w'→w'.cell? ⟨q0,0,none⟩=some (.int .i64 a0)∧w'.cell? ⟨q0,1,none⟩=some (.int .i64 a1)∧w'.cell? ⟨q0,2,none⟩=some (.int .i64 a2)∧w'.cell? ⟨q0,3,none⟩=some (.int .i64 a3)∧w'.cell? ⟨q0,4,none⟩=some (.int .i64 a4)∧w'.cell? ⟨q0,5,none⟩=some (.slice aN nN cN)∧w'.cell? ⟨q0,6,none⟩=some (.slice aS nS cS)∧w'.cell? ⟨q0,7,none⟩=some (.int .i64 a5)∧w'.cell? ⟨q0,8,none⟩=some (.int .i64 a6)):=hide (fun w' k9=>by
  have h1:=k9.block q0 (Array.getElem?_eq_some_iff.1 hnw0).1;rw[hnw0]at h1;refine⟨?_,?_,?_,?_,?_,?_,?_,?_,?_⟩<;>simp[World.cell?,h1])
 clear hnw0;obtain⟨z0,z1,z2,z3,z4,z5,z6,z7,z8⟩:=(uq HX0) w0 (Keep.refl _);go_wp2_with fail
 (refine((uq TC) _ (uq K0)).mono ?_;rintro e w2 ⟨rfl,hk9⟩);go_wp2_with fail
 go_ret2;exact⟨_,rfl,(uq K0).trans hk9,fun _=>rfl,fun h=>by cases h⟩
set_option maxHeartbeats 16000000 in
theorem zoG (a0 a1 a2 a3 a4:Int) (aN:Option Addr) (nN cN:Nat) (aS:Option Addr) (nS cS:Nat) (a5 a6:Int) (j:Nat) (s:ByteArray) (x1:Option Addr) (n1 c1:Nat) (x2:Option Addr) (n2 c2:Nat) (x3:Option Addr) (n3 c3:Nat) (x4:Option Addr) (n4 c4:Nat) (x5:Option Addr) (n5 c5:Nat) (p:Int) (A:Nat→Option Addr) (N C:Nat→Nat) (pp:Nat→Int) (P:Nat→List UInt8) (G Y R:Nat→Int) (XZ:Nat→Int×Int) (WL:Nat→List (List UInt8×Int×Int)) (X Y9 Z:Nat→Int) (cp:Int) (w:World) (hj:j<nN) (hn3:n3≤1000)
  (HCN:Hid (∃ ad,aN=some ad∧ad.block<w.heap.size∧w.cell? (ad.add (j * 7))=some (.string s)∧w.cell? ⟨(ad.add (j * 7)).block,(ad.add (j * 7)).off+1,none⟩=some (.slice x1 n1 c1)∧w.cell? ⟨(ad.add (j * 7)).block,(ad.add (j * 7)).off+2,none⟩=some (.slice x2 n2 c2)∧w.cell? ⟨(ad.add (j * 7)).block,(ad.add (j * 7)).off+3,none⟩=some (.slice x3 n3 c3)∧w.cell? ⟨(ad.add (j * 7)).block,(ad.add (j * 7)).off+4,none⟩=some (.slice x4 n4 c4)∧w.cell? ⟨(ad.add (j * 7)).block,(ad.add (j * 7)).off+5,none⟩=some (.slice x5 n5 c5)∧w.cell? ⟨(ad.add (j * 7)).block,(ad.add (j * 7)).off+6,none⟩=some (.int .i64 p)))
  (HC3:Hid (∀ k,k<n3→∃ ad,x3=some ad∧ad.block<w.heap.size∧w.cell? (ad.add (k * 3))=some (.string (sv (P k)))∧w.cell? ⟨(ad.add (k * 3)).block,(ad.add (k * 3)).off+1,none⟩=some (.slice (A k) (N k) (C k))∧w.cell? ⟨(ad.add (k * 3)).block,(ad.add (k * 3)).off+2,none⟩=some (.int .i64 (pp k))))
  (TC:Hid (∀ w',Keep w w'→Calls Tryz.prog 37 #[.agg #[.int .i64 a0,.int .i64 a1,.int .i64 a2,.int .i64 a3,.int .i64 a4,.slice aN nN cN,.slice aS nS cS,.int .i64 a5,.int .i64 a6]] w' fun e w''=>e= .returned (.tuple #[.int .i64 0,.int .i64 cp])∧Keep w' w''))
  (TRt:Hid (∀ w',Keep w w'→Calls Tryz.prog 38 #[.agg #[.string s,.slice x1 n1 c1,.slice x2 n2 c2,.slice x3 n3 c3,.slice x4 n4 c4,.slice x5 n5 c5,.int .i64 p],.agg #[.int .i64 a3,.int .i64 a4]] w' (Rp0 n1 X Y9 Z w')))
  (TNd:Hid (∀ k,k<n3→∀ w' (ra:Option Addr) (rc:Nat),Keep w w'→w'.ownsRow 0 23 2 (.slice ra n1 rc) n1 (W.cp X Y9 n1)→Calls Tryz.prog 39 #[.agg #[.string s,.slice x1 n1 c1,.slice x2 n2 c2,.slice x3 n3 c3,.slice x4 n4 c4,.slice x5 n5 c5,.int .i64 p],.agg #[.string (sv (P k)),.slice (A k) (N k) (C k),.int .i64 (pp k)],.slice ra n1 rc] w' (Nq9 (P k) (G k) (Y k) (R k) (XZ k) (WL k) w'))):
  Calls Tryz.prog 17 #[.agg #[.int .i64 a0,.int .i64 a1,.int .i64 a2,.int .i64 a3,.int .i64 a4,.slice aN nN cN,.slice aS nS cS,.int .i64 a5,.int .i64 a6],.int .i64 (j:Int)] w (Oq (W.fz Z 0 n1) n3 P G Y R XZ WL w):=by
 obtain⟨i0,hi0,hz0,hz1,hz2⟩:=W.info_f zoE;have h2:¬(j:Int)<0:=by omega
 have h3:¬(nN:Int)≤(j:Int):=by omega
 obtain⟨ZZ,hZ,hmk⟩:∃ ZZ:Array Value,ZZ.size=n3 * 7∧∀ w,(Instr.makeSlice 74 (.int .i64 0) (.int .i64 (n3:Int))).run Tryz.prog w= .ok (.slice (some ⟨w.heap.size,0,none⟩) 0 n3) (w.alloc (.cells ZZ 80)):=by
  refine⟨madeCells (Value.agg #[.string ⟨#[]⟩,.int .i64 0,.int .i64 0,.int .i64 0,.int .i64 0,.int .i64 0,.slice none 0 0]).cells (n3 * 7),by simp[size_madeCells],fun w=>?_⟩;have h:=run_make (P:=Tryz.prog) w 74 80 i0 _ Tryz.underlying74 hi0 hz0 .i64 .i64 0 (n3:Int) (by omega) (by omega) (by rw[hz2];omega) (by omega);rw[hz1]at h;simpa using h
 have hnw0:=heap_alloc_new w (.cells #[.int .i64 a0,.int .i64 a1,.int .i64 a2,.int .i64 a3,.int .i64 a4,.slice aN nN cN,.slice aS nS cS,.int .i64 a5,.int .i64 a6] 27);have K0:=hide ((Keep.refl w).alloc (.cells #[.int .i64 a0,.int .i64 a1,.int .i64 a2,.int .i64 a3,.int .i64 a4,.slice aN nN cN,.slice aS nS cS,.int .i64 a5,.int .i64 a6] 27));go_enter Tryz.func17,Tryz.ntmps17
 go_upto_region 1 with fail
 generalize w.alloc (.cells #[.int .i64 a0,.int .i64 a1,.int .i64 a2,.int .i64 a3,.int .i64 a4,.slice aN nN cN,.slice aS nS cS,.int .i64 a5,.int .i64 a6] 27)=w0 at hnw0 K0 ⊢;obtain⟨q0,HQ0⟩:∃ q,Hid (w.heap.size=q):=⟨_,hide rfl⟩;rw[uq HQ0]at hnw0 ⊢;have HX0:Hid (∀ w':World,Keep w0 w'→w'.cell? ⟨q0,0,none⟩=some (.int .i64 a0)∧w'.cell? ⟨q0,1,none⟩=some (.int .i64 a1)∧w'.cell? ⟨q0,2,none⟩=some (.int .i64 a2)∧w'.cell? ⟨q0,3,none⟩=some (.int .i64 a3)∧w'.cell? ⟨q0,4,none⟩=some (.int .i64 a4)∧w'.cell? ⟨q0,5,none⟩=some (.slice aN nN cN)∧w'.cell? ⟨q0,6,none⟩=some (.slice aS nS cS)∧w'.cell? ⟨q0,7,none⟩=some (.int .i64 a5)∧w'.cell? ⟨q0,8,none⟩=some (.int .i64 a6)):=hide (fun w' k9=>by
  have h1:=k9.block q0 (Array.getElem?_eq_some_iff.1 hnw0).1;rw[hnw0]at h1;refine⟨?_,?_,?_,?_,?_,?_,?_,?_,?_⟩<;>simp[World.cell?,h1])
 clear hnw0;obtain⟨z0,z1,z2,z3,z4,z5,z6,z7,z8⟩:=(uq HX0) w0 (Keep.refl _);go_wp2_with fail
 (refine((uq TC) _ (uq K0)).mono ?_;rintro e w2 ⟨rfl,hk9⟩;have K2:=hide hk9;clear hk9);clear z0 z1 z2 z3 z4 z5 z6 z7 z8;obtain⟨z0,z1,z2,z3,z4,z5,z6,z7,z8⟩:=(uq HX0) w2 (uq K2);obtain⟨ad,rfl,hb,e0,e1,e2,e3,e4,e5,e6⟩:=uq HCN;have y0:=V.far_cell ((uq K0).trans (uq K2)) (by rw[V.add_block9];exact hb) e0;have y1:=V.far_cell ((uq K0).trans (uq K2)) (by show(ad.add (j * 7)).block<_;rw[V.add_block9];exact hb) e1;have y2:=V.far_cell ((uq K0).trans (uq K2)) (by show(ad.add (j * 7)).block<_;rw[V.add_block9];exact hb) e2;have y3:=V.far_cell ((uq K0).trans (uq K2)) (by show(ad.add (j * 7)).block<_;rw[V.add_block9];exact hb) e3;have y4:=V.far_cell ((uq K0).trans (uq K2)) (by show(ad.add (j * 7)).block<_;rw[V.add_block9];exact hb) e4;have y5:=V.far_cell ((uq K0).trans (uq K2)) (by show(ad.add (j * 7)).block<_;rw[V.add_block9];exact hb) e5;have y6:=V.far_cell ((uq K0).trans (uq K2)) (by show(ad.add (j * 7)).block<_;rw[V.add_block9];exact hb) e6;clear e0 e1 e2 e3 e4 e5 e6;have hbx:=heap_alloc_new w2 (.cells #[.string s,.slice x1 n1 c1,.slice x2 n2 c2,.slice x3 n3 c3,.slice x4 n4 c4,.slice x5 n5 c5,.int .i64 p] 39);have KB:=hide ((uq K2).alloc (.cells #[.string s,.slice x1 n1 c1,.slice x2 n2 c2,.slice x3 n3 c3,.slice x4 n4 c4,.slice x5 n5 c5,.int .i64 p] 39))
 go_upto_region 7 with fail
 generalize w2.alloc (.cells #[.string s,.slice x1 n1 c1,.slice x2 n2 c2,.slice x3 n3 c3,.slice x4 n4 c4,.slice x5 n5 c5,.int .i64 p] 39)=wh at hbx KB ⊢;obtain⟨q,HQ⟩:∃ q,Hid (w2.heap.size=q):=⟨_,hide rfl⟩;rw[uq HQ]at hbx ⊢;have HXq:Hid (∀ w':World,Keep wh w'→w'.cell? ⟨q,0,none⟩=some (.string s)∧w'.cell? ⟨q,1,none⟩=some (.slice x1 n1 c1)∧w'.cell? ⟨q,2,none⟩=some (.slice x2 n2 c2)∧w'.cell? ⟨q,3,none⟩=some (.slice x3 n3 c3)∧w'.cell? ⟨q,4,none⟩=some (.slice x4 n4 c4)∧w'.cell? ⟨q,5,none⟩=some (.slice x5 n5 c5)∧w'.cell? ⟨q,6,none⟩=some (.int .i64 p)):=hide (fun w' k9=>by
  have h1:=k9.block q (Array.getElem?_eq_some_iff.1 hbx).1;rw[hbx]at h1;refine⟨?_,?_,?_,?_,?_,?_,?_⟩<;>simp[World.cell?,h1])
 clear hbx y0 y1 y2 y3 y4 y5 y6 z0 z1 z2 z3 z4 z5 z6 z7 z8;obtain⟨z0,z1,z2,z3,z4,z5,z6,z7,z8⟩:=(uq HX0) wh (uq KB);obtain⟨f0,f1,f2,f3,f4,f5,f6⟩:=(uq HXq) wh (Keep.refl wh);go_wp2_with fail
 (refine((uq TRt) _ ((uq K0).trans (uq KB))).mono ?_;rintro e w3 ⟨v,z,rfl,hk9,hz,hv⟩;have K3:=hide hk9;have HZ:=hide hz;clear hk9 hz);clear z0 z1 z2 z3 z4 z5 z6 z7 z8 f0 f1 f2 f3 f4 f5 f6;rcases hv with ⟨h1,rfl⟩|⟨h1,hv⟩
 ·have h9:(z !=0)=true:=by simpa using h1
  have H1:=hide h1;clear h1;go_wp2_with fail
  go_ret2;exact⟨.slice none 0 0,(uq HZ)▸rfl,(uq K0).trans ((uq KB).trans (uq K3)),fun _=>rfl,fun h=>absurd ((uq HZ).trans h) (uq H1)⟩
 ·subst h1;obtain⟨ra,rc,rfl,hrc⟩:=zcg hv;have HV:=hide hv;clear hv hrc;obtain⟨f0,f1,f2,f3,f4,f5,f6⟩:=(uq HXq) w3 (uq K3);have KW3:=hide ((uq KB).trans (uq K3));have hrow0:=hide (World.ownsRow_made (base:=w3.heap.size) (e:=80) (size:=7) w3 ZZ n3 (Nat.le_refl _) (by unfold maxLen;omega) hZ);have KM0:=hide ((Keep.refl w3).alloc (.cells ZZ 80))
  go_upto_region 11 with fail
  generalize w3.alloc (.cells ZZ 80)=w4 at hrow0 KM0 ⊢;clear f0 f1 f2 f3 f4 f5 f6;obtain⟨f0,f1,f2,f3,f4,f5,f6⟩:=(uq HXq) w4 ((uq K3).trans (uq KM0));go_wp2_with fail
  clear f0 f1 f2 f3 f4 f5 f6
  go_loopw [11,52] (fun va vi wr=>∃(k:Nat) (vs:List Value),k≤n3∧vi= .int .i64 (k:Int)∧Hid (wr.ownsRow w3.heap.size 80 7 va k (ndc P G Y R XZ vs k))∧Hid (Wr wr WL vs k)∧Hid (Keep w3 wr)) (fun va vi _=>n3 - (intOf vi).toNat)
  case atStart=>exact⟨0,[],Nat.zero_le _,rfl,hrow0,hide ⟨rfl,fun j hj=>absurd hj (Nat.not_lt_zero _)⟩,KM0⟩
  case round=>
   obtain⟨k,vs,hk,rfl,OWK,WRK,K3W⟩:=hrel;have KW:=hide ((uq KW3).trans (uq K3W));obtain⟨f0,f1,f2,f3,f4,f5,f6⟩:=(uq HXq) wr ((uq K3).trans (uq K3W));by_cases hlt:k<n3
   ·have li:(k:Int)<(n3:Int):=by omega
    obtain⟨bd,rfl,hbb,e0,e1,e2⟩:=(uq HC3) k hlt;have y0:=V.far_cell ((uq K0).trans (uq KW)) (by rw[V.add_block9];exact hbb) e0;have y1:=V.far_cell ((uq K0).trans (uq KW)) (by show(bd.add (k * 3)).block<_;rw[V.add_block9];exact hbb) e1;have y2:=V.far_cell ((uq K0).trans (uq KW)) (by show(bd.add (k * 3)).block<_;rw[V.add_block9];exact hbb) e2;clear e0 e1 e2;have hbx:=heap_alloc_new wr (.cells #[.string (sv (P k)),.slice (A k) (N k) (C k),.int .i64 (pp k)] 45);have KP:=hide ((Keep.refl wr).alloc (.cells #[.string (sv (P k)),.slice (A k) (N k) (C k),.int .i64 (pp k)] 45))
    go_upto_region 14 with fail
    generalize wr.alloc (.cells #[.string (sv (P k)),.slice (A k) (N k) (C k),.int .i64 (pp k)] 45)=wp at hbx KP ⊢;obtain⟨q2,HQ2⟩:∃ q,Hid (wr.heap.size=q):=⟨_,hide rfl⟩;rw[uq HQ2]at hbx ⊢;have g0:wp.cell? ⟨q2,0,none⟩=some (.string (sv (P k))):=by simp[World.cell?,hbx]
    have g1:wp.cell? ⟨q2,1,none⟩=some (.slice (A k) (N k) (C k)):=by simp[World.cell?,hbx]
    have g2:wp.cell? ⟨q2,2,none⟩=some (.int .i64 (pp k)):=by simp[World.cell?,hbx]
    clear hbx y0 y1 y2 f0 f1 f2 f3 f4 f5 f6;obtain⟨f0,f1,f2,f3,f4,f5,f6⟩:=(uq HXq) wp (((uq K3).trans (uq K3W)).trans (uq KP));have TK:=hide ((uq TNd) k hlt wp ra rc ((uq K0).trans ((uq KW).trans (uq KP))) (W.own_k (uq HV) ((uq K3W).trans (uq KP))));go_wp2_with fail
    (refine(uq TK).mono ?_;rintro e w5 ⟨a,c,rfl,hk9,how⟩;have K5:=hide hk9;have HOW:=hide how;clear hk9 how);clear g0 g1 g2 f0 f1 f2 f3 f4 f5 f6;have KR5:=hide ((uq KP).trans (uq K5));have OW5:=hide (W.own_k (uq OWK) (uq KR5));have WR5:=hide ((uq WRK).keep (uq KR5));have K35:=hide ((uq K3W).trans (uq KR5));have hsz:=Below.size (uq K35);have HW5:Hid (w5.ownsRow 0 137 3 (.slice a (WL k).length c) (WL k).length (wcs (WL k))):=hide (W.own_mono (uq HOW) (Nat.zero_le _));obtain⟨L,hL⟩:∃ L,(WL k).length=L:=⟨_,rfl⟩;rw[hL];have HL:=hide hL;clear hL OWK WRK;go_wp2_with (at_builtin;refine wpList_append_own _ rfl _ _ 74 rfl w3.heap.size 80 i0 _ 7 80 Tryz.underlying74 hi0 hz0 hz1 hz2 rfl (by decide) _ _ _ rfl ((uq OW5).alloc _) ⟨w5.heap.size,0,none⟩ 1 1 [.string (sv (P k)),.int .i64 (G k),.int .i64 (Y k),.int .i64 (R k),.int .i64 (XZ k).1,.int .i64 (XZ k).2,.slice a L c] rfl rfl (new_v w5 [.string (sv (P k)),.int .i64 (G k),.int .i64 (Y k),.int .i64 (R k),.int .i64 (XZ k).1,.int .i64 (XZ k).2,.slice a L c] _) (by simp[Value.oneCell']) (by unfold maxLen;omega) (by omega) (by simp;omega) ?_;intro v' w6 hown' hgrow hnil;have HOWN:=hide hown';have HK6:Hid (Keep w3 w6):=hide (Below.grown ((uq K35).alloc _) hgrow (by simp;omega) (fun j ej=>((uq OW5).lt j ej).1));have HWR:Hid (Wr w6 WL (vs++ [.slice a L c]) (k+1)):=hide (Wr.grown (((uq WR5).snoc (by rw[← uq HL];exact uq HW5)).keep ((Keep.refl w5).alloc _)) hgrow (W.own_blk ((uq OW5).alloc _)));clear hown' hgrow hnil)
    go_roundw
    case rel=>
     refine⟨k+1,vs++ [.slice a L c],hlt,by go_num,hide ?_,HWR,HK6⟩;have hv:=(uq WR5).1;rw[ndc,zhk k (by omega),zi1 (by omega),hv,Nat.sub_self];exact uq HOWN
    case measure=>simp[intOf];omega
   ·have li:¬(k:Int)<(n3:Int):=by omega
    obtain rfl:k=n3:=by omega
    go_wp2_with fail
    go_ret2;exact⟨_,(uq HZ)▸rfl,(uq K0).trans (uq KW),fun h=>absurd (uq HZ).symm h,fun _=>⟨vs,W.own_mono (uq OWK) (Nat.zero_le _),uq WRK⟩⟩
end Nd
namespace Nd
def Ndr (w:World) (la:Option Addr) (n:Nat) (G Y R:Nat→Int) (WN:Nat→Nat) (v1 v2:Nat→Nat→Int):Prop:=∀ k,k<n→∃ ad a c,la=some ad∧ad.block<w.heap.size∧w.cell? ⟨(ad.add (k * 7)).block,(ad.add (k * 7)).off+1,none⟩=some (.int .i64 (G k))∧w.cell? ⟨(ad.add (k * 7)).block,(ad.add (k * 7)).off+2,none⟩=some (.int .i64 (Y k))∧w.cell? ⟨(ad.add (k * 7)).block,(ad.add (k * 7)).off+3,none⟩=some (.int .i64 (R k))∧w.cell? ⟨(ad.add (k * 7)).block,(ad.add (k * 7)).off+6,none⟩=some (.slice a (WN k) c)∧∀ m,m<WN k→∃ wd,a=some wd∧wd.block<w.heap.size∧w.cell? ⟨(wd.add (m * 3)).block,(wd.add (m * 3)).off+1,none⟩=some (.int .i64 (v1 k m))∧w.cell? ⟨(wd.add (m * 3)).block,(wd.add (m * 3)).off+2,none⟩=some (.int .i64 (v2 k m))
theorem Ndr.keep {w w':World} {la:Option Addr} {n:Nat} {G Y R:Nat→Int} {WN:Nat→Nat} {v1 v2:Nat→Nat→Int} (h:Ndr w la n G Y R WN v1 v2) (hk:Keep w w'):Ndr w' la n G Y R WN v1 v2:=fun k hlt=>by
 obtain⟨ad,a,c,e,hb,h1,h2,h3,h6,hw⟩:=h k hlt;refine⟨ad,a,c,e,Nat.lt_of_lt_of_le hb hk.size,W.Keep.cl hk h1,W.Keep.cl hk h2,W.Keep.cl hk h3,W.Keep.cl hk h6,fun m hm=>?_⟩;obtain⟨wd,e2,hb2,g1,g2⟩:=hw m hm;exact⟨wd,e2,Nat.lt_of_lt_of_le hb2 hk.size,W.Keep.cl hk g1,W.Keep.cl hk g2⟩
end Nd
namespace Nd
theorem zdD {P:Nat→List UInt8} {G Y R:Nat→Int} {XZ:Nat→Int×Int} {vs:List Value} :∀ n,(ndc P G Y R XZ vs n).length=n * 7
 |0=>rfl
 |n+1=>by rw[ndc,List.length_append,zdD n];simp;omega
theorem zi2 {P:Nat→List UInt8} {G Y R:Nat→Int} {XZ:Nat→Int×Int} {vs:List Value} :∀ n k,k<n→∀ j,j<7→(ndc P G Y R XZ vs n)[k * 7+j]? = [.string (sv (P k)),.int .i64 (G k),.int .i64 (Y k),.int .i64 (R k),.int .i64 (XZ k).1,.int .i64 (XZ k).2,vs.getD k (.bool false)][j]?
 |0,k,h,j,_=>by omega
 |n+1,k,h,j,hj=>by
  rw[ndc];rcases Nat.lt_succ_iff_lt_or_eq.1 h with e|e
  ·rw[List.getElem?_append_left (by rw[zdD];omega)];exact zi2 n k e j hj
  ·subst e;rw[List.getElem?_append_right (by rw[zdD];omega),zdD,Nat.add_sub_cancel_left]
theorem zly {w:World} {n:Nat} {P:Nat→List UInt8} {G Y R:Nat→Int} {XZ:Nat→Int×Int} {WL:Nat→List (List UInt8×Int×Int)} {v:Value} {vs:List Value} (h:w.ownsRow 0 80 7 v n (ndc P G Y R XZ vs n)) (hw:Wr w WL vs n):
  ∃ la lc,v= .slice la n lc∧∀ k,k<n→∃ ad a c,la=some ad∧ad.block<w.heap.size∧w.cell? (ad.add (k * 7))=some (.string (sv (P k)))∧w.cell? ⟨(ad.add (k * 7)).block,(ad.add (k * 7)).off+1,none⟩=some (.int .i64 (G k))∧w.cell? ⟨(ad.add (k * 7)).block,(ad.add (k * 7)).off+2,none⟩=some (.int .i64 (Y k))∧w.cell? ⟨(ad.add (k * 7)).block,(ad.add (k * 7)).off+3,none⟩=some (.int .i64 (R k))∧w.cell? ⟨(ad.add (k * 7)).block,(ad.add (k * 7)).off+4,none⟩=some (.int .i64 (XZ k).1)∧w.cell? ⟨(ad.add (k * 7)).block,(ad.add (k * 7)).off+5,none⟩=some (.int .i64 (XZ k).2)∧w.cell? ⟨(ad.add (k * 7)).block,(ad.add (k * 7)).off+6,none⟩=some (.slice a (WL k).length c)∧w.ownsRow 0 137 3 (.slice a (WL k).length c) (WL k).length (wcs (WL k)):=by
 obtain⟨la,lc,rfl,hlc⟩:=zcg h;refine⟨la,lc,rfl,fun k hk=>?_⟩;obtain⟨g,cap,e,hg,_,_,hc⟩:=own_cell h (by omega);cases e
 have hv:=hw.2 k hk;obtain⟨a,c,e2,_⟩:=zcg hv;have h7:=zi2 (P:=P) (G:=G) (Y:=Y) (R:=R) (XZ:=XZ) (vs:=vs) n k hk;rw[e2]at h7 hv;refine⟨⟨g,0,none⟩,a,c,rfl,hg,?_⟩;rw[W.add_pl];simp only[Nat.zero_add];exact⟨hc _ _ (h7 0 (by omega)),hc _ _ (h7 1 (by omega)),hc _ _ (h7 2 (by omega)),hc _ _ (h7 3 (by omega)),hc _ _ (h7 4 (by omega)),hc _ _ (h7 5 (by omega)),hc _ _ (h7 6 (by omega)),hv⟩
theorem infoI:(Tryz.prog.info? 2).map (fun i=>(i.zero,i.size,i.bytes))=some (some (.int .i64 0),1,8):=by kernel_rfl
def ics (S:Nat→Int):Nat→List Value
 |0=> []
 |k+1=>ics S k++ [.int .i64 (S k)]
set_option maxHeartbeats 4000000 in
theorem zfT (la:Option Addr) (n lc:Nat) (P:Nat→List UInt8) (G Y R:Nat→Int) (XZ:Nat→Int×Int) (WA:Nat→Option Addr) (WN WC:Nat→Nat) (s1 s2:Nat→Int) (w:World) (hn:n≤1000)
  (HC:Hid (∀ k,k<n→∃ ad,la=some ad∧ad.block<w.heap.size∧w.cell? (ad.add (k * 7))=some (.string (sv (P k)))∧w.cell? ⟨(ad.add (k * 7)).block,(ad.add (k * 7)).off+1,none⟩=some (.int .i64 (G k))∧w.cell? ⟨(ad.add (k * 7)).block,(ad.add (k * 7)).off+2,none⟩=some (.int .i64 (Y k))∧w.cell? ⟨(ad.add (k * 7)).block,(ad.add (k * 7)).off+3,none⟩=some (.int .i64 (R k))∧w.cell? ⟨(ad.add (k * 7)).block,(ad.add (k * 7)).off+4,none⟩=some (.int .i64 (XZ k).1)∧w.cell? ⟨(ad.add (k * 7)).block,(ad.add (k * 7)).off+5,none⟩=some (.int .i64 (XZ k).2)∧w.cell? ⟨(ad.add (k * 7)).block,(ad.add (k * 7)).off+6,none⟩=some (.slice (WA k) (WN k) (WC k))))
  (HS:Hid (∀ k,k<n→wrap64 (G k+Y k)=s1 k∧wrap64 (s1 k+R k)=s2 k)):
  Calls Tryz.prog 18 #[.slice la n lc] w fun e w'=>∃ v,e= .returned v∧Keep w w'∧w'.ownsRow w.heap.size 2 1 v n (ics s2 n):=by
 obtain⟨i0,hi0,hz0,hz1,hz2⟩:=W.info_f infoI;obtain⟨ZZ,hZ,hmk⟩:∃ ZZ:Array Value,ZZ.size=n * 1∧∀ w,(Instr.makeSlice 42 (.int .i64 0) (.int .i64 (n:Int))).run Tryz.prog w= .ok (.slice (some ⟨w.heap.size,0,none⟩) 0 n) (w.alloc (.cells ZZ 2)):=by
  refine⟨madeCells (Value.int .i64 0).cells (n * 1),by simp[size_madeCells],fun w=>?_⟩;have h:=run_make (P:=Tryz.prog) w 42 2 i0 _ Tryz.underlying42 hi0 hz0 .i64 .i64 0 (n:Int) (by omega) (by omega) (by rw[hz2];omega) (by omega);rw[hz1]at h;simpa using h
 have hrow0:=hide (World.ownsRow_made (base:=w.heap.size) (e:=2) (size:=1) w ZZ n (Nat.le_refl _) (by unfold maxLen;omega) hZ);have K0:=hide ((Keep.refl w).alloc (.cells ZZ 2));go_enter Tryz.func18,Tryz.ntmps18
 go_upto_region 2 with fail
 generalize w.alloc (.cells ZZ 2)=w0 at hrow0 K0 ⊢;go_wp2_with fail
 go_loopw [3,11] (fun va vi wr=>∃ k:Nat,k≤n∧vi= .int .i64 (k:Int)∧Hid (wr.ownsRow w.heap.size 2 1 va k (ics s2 k))∧Hid (Keep w wr)) (fun va vi _=>n - (intOf vi).toNat)
 case atStart=>exact⟨0,Nat.zero_le _,rfl,hrow0,K0⟩
 case round=>
  obtain⟨k,hk,rfl,OWK,KW⟩:=hrel;by_cases hlt:k<n
  ·have li:(k:Int)<(n:Int):=by omega
   obtain⟨ad,rfl,hb,e0,e1,e2,e3,e4,e5,e6⟩:=(uq HC) k hlt;have y0:=V.far_cell (uq KW) (by rw[V.add_block9];exact hb) e0;have y1:=V.far_cell (uq KW) (by show(ad.add (k * 7)).block<_;rw[V.add_block9];exact hb) e1;have y2:=V.far_cell (uq KW) (by show(ad.add (k * 7)).block<_;rw[V.add_block9];exact hb) e2;have y3:=V.far_cell (uq KW) (by show(ad.add (k * 7)).block<_;rw[V.add_block9];exact hb) e3;have y4:=V.far_cell (uq KW) (by show(ad.add (k * 7)).block<_;rw[V.add_block9];exact hb) e4;have y5:=V.far_cell (uq KW) (by show(ad.add (k * 7)).block<_;rw[V.add_block9];exact hb) e5;have y6:=V.far_cell (uq KW) (by show(ad.add (k * 7)).block<_;rw[V.add_block9];exact hb) e6;clear e0 e1 e2 e3 e4 e5 e6;have hbx:=heap_alloc_new wr (.cells #[.string (sv (P k)),.int .i64 (G k),.int .i64 (Y k),.int .i64 (R k),.int .i64 (XZ k).1,.int .i64 (XZ k).2,.slice (WA k) (WN k) (WC k)] 80);have KA:=hide ((Keep.refl wr).alloc (.cells #[.string (sv (P k)),.int .i64 (G k),.int .i64 (Y k),.int .i64 (R k),.int .i64 (XZ k).1,.int .i64 (XZ k).2,.slice (WA k) (WN k) (WC k)] 80))
   go_upto_region 5 with fail
   generalize wr.alloc (.cells #[.string (sv (P k)),.int .i64 (G k),.int .i64 (Y k),.int .i64 (R k),.int .i64 (XZ k).1,.int .i64 (XZ k).2,.slice (WA k) (WN k) (WC k)] 80)=wa at hbx KA ⊢;obtain⟨q,HQ⟩:∃ q,Hid (wr.heap.size=q):=⟨_,hide rfl⟩;rw[uq HQ]at hbx ⊢;have f1:wa.cell? ⟨q,1,none⟩=some (.int .i64 (G k)):=by simp[World.cell?,hbx]
   have f2:wa.cell? ⟨q,2,none⟩=some (.int .i64 (Y k)):=by simp[World.cell?,hbx]
   have f3:wa.cell? ⟨q,3,none⟩=some (.int .i64 (R k)):=by simp[World.cell?,hbx]
   clear hbx y0 y1 y2 y3 y4 y5 y6;obtain⟨h1,h2⟩:=(uq HS) k hlt;have KW2:=hide ((uq KW).trans (uq KA));have OW2:=hide (W.own_k (uq OWK) (uq KA));have hsz:=Below.size (uq KW2);go_wp2_with (at_builtin;refine wpList_append_own _ rfl _ _ 42 rfl w.heap.size 2 i0 _ 1 8 Tryz.underlying42 hi0 hz0 hz1 hz2 rfl (by decide) _ _ _ rfl ((uq OW2).alloc _) ⟨wa.heap.size,0,none⟩ 1 1 [.int .i64 (s2 k)] rfl rfl (new_v wa [.int .i64 (s2 k)] _) (by simp[Value.oneCell']) (by unfold maxLen;omega) (by omega) (by simp;omega) ?_;intro v' w4 hown' hgrow hnil;have HOWN:=hide hown';have HK4:Hid (Keep w w4):=hide (Below.grown ((uq KW2).alloc _) hgrow (by simp;omega) (fun j ej=>((uq OW2).lt j ej).1));clear hown' hgrow hnil)
   go_roundw
   case rel=>exact⟨k+1,hlt,by go_num,HOWN,HK4⟩
   case measure=>simp[intOf];omega
  ·have li:¬(k:Int)<(n:Int):=by omega
   obtain rfl:k=n:=by omega
   go_wp2_with fail
   go_ret;exact⟨_,rfl,uq KW,uq OWK⟩
end Nd
namespace Nd
def NT (w:World) (T:Nat):Prop:=∃ arr,w.heap[T]? =some (.cells arr 80 (0,0))
theorem NT.keep {w w':World} {T:Nat} (h:NT w T) (k:Keep w w'):NT w' T:=by
 obtain⟨arr,h⟩:=h;exact⟨arr,(k.block T (Array.getElem?_eq_some_iff.1 h).1).trans h⟩
theorem NT.set {w:World} {T i:Nat} {v:Value} (h:NT w T):NT (w.setCell ⟨T,i,none⟩ v) T:=by
 obtain⟨arr,h⟩:=h;exact⟨_,Q.set_cells h v⟩
theorem NT.fz {w:World} {T:Nat} (h:NT w T) (i:Nat):w.frozen? ⟨T,i,none⟩=false:=by
 obtain⟨arr,h⟩:=h;simp[World.frozen?,h]
theorem zno {w:World} {B T:Nat} {t:TypeId} {arr:Array Value} {fr:Nat×Nat} {v:Value} {n:Nat} {xs:List Value} (h:w.heap[T]? =some (.cells arr t fr)) (ho:w.ownsRow B 137 3 v n xs) (hne:t≠137):v.ownBlock≠some T:=by
 intro e
 obtain⟨cur,hc⟩:=W.own_blk ho T e;rw[h]at hc;injection hc with hc
 injection hc with h1 h2 h3
 exact hne h2
theorem NT.ne {w:World} {T B:Nat} {v:Value} {n:Nat} {xs:List Value} (h:NT w T) (ho:w.ownsRow B 137 3 v n xs):v.ownBlock≠some T:=by
 obtain⟨arr,h⟩:=h;exact zno h ho (by decide)
theorem NB.block {w w':World} {T:Nat} {nm:List UInt8} {g y r x z:Int} {wv:Value} (h:NB w T nm g y r x z wv) (e:w'.heap[T]? =w.heap[T]?):NB w' T nm g y r x z wv:=by
 obtain⟨h0,h1,h2,h3,h4,h5,h6,k1,k2,k3,k4,k5⟩:=h;have c:∀ i,w'.cell? ⟨T,i,none⟩=w.cell? ⟨T,i,none⟩:=fun i=>World.cell?_of_block (w:=w) (a:=⟨T,i,none⟩) e
 have f:∀ i,w'.frozen? ⟨T,i,none⟩=w.frozen? ⟨T,i,none⟩:=fun i=>World.frozen?_of_block (w:=w) (a:=⟨T,i,none⟩) e
 exact⟨(c 0).trans h0,(c 1).trans h1,(c 2).trans h2,(c 3).trans h3,(c 4).trans h4,(c 5).trans h5,(c 6).trans h6,(f 1).trans k1,(f 2).trans k2,(f 3).trans k3,(f 4).trans k4,(f 5).trans k5⟩
end Nd
end Go.Proofs.YtpmaonkelkmhbaaGreat
