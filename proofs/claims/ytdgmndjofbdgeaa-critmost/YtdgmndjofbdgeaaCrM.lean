/- Package crit: Rank, over letters. -/
import Derived.Test.YtdgmndjofbdgeaaCrF
import Derived.Test.YtdgmndjofbdgeaaLMath
import Derived.Test.YtdgmndjofbdgeaaCrD
import Derived.Deep.DrawnRows
import Derived.Deep.RegionHeld3
import Derived.Laws.AppendOwn
import Derived.Laws.OwnMore
import Derived.Laws.MakeOwn
import Derived.OwnWalk
namespace Go.Proofs.Ytdgmndjofbdgeaa
open Go.RowKit
attribute [local go_sem ↓] Go.wp_at_zero Go.wp_at_succ
set_option linter.unusedVariables false
set_option linter.unusedSimpArgs false
set_option maxRecDepth 10000
namespace Cr
theorem run_append_is (w : World) (base : Nat) (t ty e : TypeId) (i : TypeInfo) (z : Value) (ht : Try.prog.underlying t = some (.slice e)) (hi : Try.prog.info? e = some i) (hz : i.zero = some z)
    (hsize : i.size = 1) (hby : i.bytes = 8) (hzs : z.cells.size = 1)
    (v : Value) (A : List Int) (hown : w.ownsRow base e 1 v A.length (ics A)) (x : Value) (B : List Int) (hx : Is w x B) (hl : A.length + B.length ≤ 1000000) (hbase : base ≤ w.heap.size) :
    ∃ v' w', (Builtin.append_ #[t, t] ty #[v, x]).run Try.prog w = .ok v' w' ∧ w'.ownsRow base e 1 v' (A ++ B).length (ics (A ++ B)) ∧ w.grownBy w' v.ownBlock := by
  obtain ⟨a, cap, rfl, hx⟩ := hx
  cases a with
  | none =>
    have hB : B = [] := by
      cases B with
      | nil => rfl
      | cons p B => obtain ⟨ad, h0, _⟩ := hx 0 (by simp); cases h0
    subst hB
    refine ⟨v, w, ?_, by rw [List.append_nil]; exact hown, ⟨rfl, rfl, rfl, Nat.le_refl _, fun _ _ _ => rfl⟩⟩
    rcases hown.2 with ⟨rfl, h0⟩ | ⟨g, cp, cur, rfl, _, _, hc, _⟩
    · simp [Builtin.append_, run_underlying ht, sizeOf, typeInfo, hi, Builtin.lenOf, Builtin.firstCells, Result.andThen]
    · simp [Builtin.append_, run_underlying ht, sizeOf, typeInfo, hi, Builtin.lenOf, hc, Builtin.firstCells, storeCells, Result.andThen]
  | some ad =>
    have hnews : ∀ j u, (ics B)[j]? = some u → w.cell? (ad.add j) = some u := by
      intro j u hu
      have hj : j < B.length := by
        rcases Nat.lt_or_ge j B.length with h | h
        · exact h
        · rw [ics, List.getElem?_map, List.getElem?_eq_none h] at hu; cases hu
      obtain ⟨ad2, h0, _, hc⟩ := hx j hj
      injection h0 with h0
      subst h0
      rw [ics, List.getElem?_map, List.getElem?_eq_getElem hj] at hu
      rw [hc, List.getD_eq_getElem?_getD, List.getElem?_eq_getElem hj]
      simpa using hu
    obtain ⟨v', w', h1, h2, h3, _⟩ := run_append_own (P := Try.prog) w base t ty e i z 1 8 ht hi hz hsize hby hzs (by decide) v A.length (ics A) hown ad B.length cap (ics B) (by simp [ics]) hnews (by simp [ics, Value.oneCell']) (by unfold maxLen; omega) (by omega) hbase
    refine ⟨v', w', h1, ?_, h3⟩
    rw [ics_app, List.length_append]
    exact h2
theorem wp_append_is {o : Oper} {a : Act} {K : Act → World → Prop} {Q : Exit → Act → World → Prop} (w : World) (s x : Operand) (t : TypeId)
    (ho : o.op = .call { callee := .builtin .append, args := #[s, x], argTypes := #[t, t] })
    (base : Nat) (e : TypeId) (i : TypeInfo) (z : Value) (ht : Try.prog.underlying t = some (.slice e)) (hi : Try.prog.info? e = some i) (hz : i.zero = some z)
    (hsize : i.size = 1) (hby : i.bytes = 8) (hzs : z.cells.size = 1)
    (v : Value) (A : List Int) (hs : a.eval s = v) (hown : w.ownsRow base e 1 v A.length (ics A)) (xv : Value) (B : List Int) (hx : a.eval x = xv) (hr : Is w xv B) (hl : A.length + B.length ≤ 1000000) (hbase : base ≤ w.heap.size)
    (h : ∀ v' w', w'.ownsRow base e 1 v' (A ++ B).length (ics (A ++ B)) → w.grownBy w' v.ownBlock → K (a.put o.dst v') w') : o.wp Try.prog a w K Q := by
  obtain ⟨v', w', hr, h2, h3⟩ := run_append_is w base t o.type e i z ht hi hz hsize hby hzs v A hown xv B hr hl hbase
  unfold Oper.wp execOp
  simp only [ho, resolve, invoke, builtin, Sem.run_bind, Sem.run_pure, Result.andThen_ok, List.map_toArray, List.map_cons, List.map_nil, hs, hx, hr]
  exact h v' w' h2 h3
set_option maxHeartbeats 4000000 in
theorem rank_no (s : ByteArray) (x1 : Option Addr) (n1 c1 : Nat) (x2 : Option Addr) (n2 c2 : Nat) (x3 : Option Addr) (n3 c3 : Nat) (x4 : Option Addr) (n4 c4 : Nat) (x5 : Option Addr) (n5 c5 : Nat) (p : Int) (xf : Option Addr) (nf cf : Nat) (X Y z : Int) (va : Option Addr) (vn vc : Nat) (w : World) (hz : ¬ z = 0)
    (TS : Hid (∀ w', Keep w w' → Calls Try.prog 7 #[.agg #[.string s, .slice x1 n1 c1, .slice x2 n2 c2, .slice x3 n3 c3, .slice x4 n4 c4, .slice x5 n5 c5, .int .i64 p], .slice xf nf cf] w' fun e w'' => e = .returned (.tuple #[.agg #[.int .i64 X, .int .i64 Y, .slice va vn vc], .int .i64 z]) ∧ Keep w' w'')) :
    Calls Try.prog 9 #[.agg #[.string s, .slice x1 n1 c1, .slice x2 n2 c2, .slice x3 n3 c3, .slice x4 n4 c4, .slice x5 n5 c5, .int .i64 p], .slice xf nf cf] w fun e w' => e = .returned (.slice none 0 0) ∧ Keep w w' := by
  have hzb : (z != 0) = true := by simpa using hz
  have hnw0 := heap_alloc_new w (.cells #[.string s, .slice x1 n1 c1, .slice x2 n2 c2, .slice x3 n3 c3, .slice x4 n4 c4, .slice x5 n5 c5, .int .i64 p] 28)
  have K0 := hide ((Keep.refl w).alloc (.cells #[.string s, .slice x1 n1 c1, .slice x2 n2 c2, .slice x3 n3 c3, .slice x4 n4 c4, .slice x5 n5 c5, .int .i64 p] 28))
  go_enter Try.func9, Try.ntmps9
  go_upto_region 1 with fail
  generalize w.alloc (.cells #[.string s, .slice x1 n1 c1, .slice x2 n2 c2, .slice x3 n3 c3, .slice x4 n4 c4, .slice x5 n5 c5, .int .i64 p] 28) = w0 at hnw0 K0 ⊢
  obtain ⟨q0, HQ0⟩ : ∃ q, Hid (w.heap.size = q) := ⟨_, hide rfl⟩
  rw [uq HQ0] at hnw0 ⊢
  have HX0 : Hid (∀ w' : World, Keep w0 w' → w'.cell? ⟨q0, 0, none⟩ = some (.string s) ∧ w'.cell? ⟨q0, 1, none⟩ = some (.slice x1 n1 c1) ∧ w'.cell? ⟨q0, 2, none⟩ = some (.slice x2 n2 c2) ∧ w'.cell? ⟨q0, 3, none⟩ = some (.slice x3 n3 c3) ∧ w'.cell? ⟨q0, 4, none⟩ = some (.slice x4 n4 c4) ∧ w'.cell? ⟨q0, 5, none⟩ = some (.slice x5 n5 c5) ∧ w'.cell? ⟨q0, 6, none⟩ = some (.int .i64 p)) := hide (fun w' k9 => by
    have h1 := k9.block q0 (Array.getElem?_eq_some_iff.1 hnw0).1
    rw [hnw0] at h1
    refine ⟨?_, ?_, ?_, ?_, ?_, ?_, ?_⟩ <;> simp [World.cell?, h1])
  clear hnw0
  obtain ⟨z0, z1, z2, z3, z4, z5, z6⟩ := (uq HX0) w0 (Keep.refl _)
  go_wp2_with fail
  (refine ((uq TS) _ (uq K0)).mono ?_; rintro e w2 ⟨rfl, hk9⟩; have K2 := hide ((uq K0).trans hk9); clear hk9)
  clear z0 z1 z2 z3 z4 z5 z6
  go_wp2_with fail
  go_ret
  exact ⟨rfl, (uq K2).alloc _⟩
set_option maxHeartbeats 8000000 in
theorem rank_yes (s : ByteArray) (x1 : Option Addr) (n1 c1 : Nat) (x2 : Option Addr) (n2 c2 : Nat) (x3 : Option Addr) (n3 c3 : Nat) (x4 : Option Addr) (n4 c4 : Nat) (x5 : Option Addr) (n5 c5 : Nat) (p : Int) (xf : Option Addr) (nf cf : Nat) (X Y : Int) (G : Nat → Nat) (XG : Nat → Option Addr) (NG CG : Nat → Nat) (FR : Nat → Bool) (XR : Nat → Option Addr) (T : Nat → List (List UInt8)) (CR : Nat → Nat) (A : List UInt8 → Int) (w : World) (hn : n4 ≤ 50)
    (HT : Hid (∀ k, (T k).length ≤ 1000))
    (HG : Hid (∀ k, k < n4 → G k < NG k))
    (HC : Hid (∀ k, k < n4 → ∃ ad, x4 = some ad ∧ ad.block < w.heap.size ∧ w.cell? (ad.add k) = some (.slice (XG k) (NG k) (CG k))))
    (HR : Hid (∀ k, k < n4 → ∃ ad, XG k = some ad ∧ ad.block < w.heap.size ∧ w.cell? (ad.add (G k * 2)) = some (.bool (FR k)) ∧ w.cell? ⟨(ad.add (G k * 2)).block, (ad.add (G k * 2)).off + 1, none⟩ = some (.slice (XR k) (T k).length (CR k))))
    (TS : Hid (∀ w', Keep w w' → Calls Try.prog 7 #[.agg #[.string s, .slice x1 n1 c1, .slice x2 n2 c2, .slice x3 n3 c3, .slice x4 n4 c4, .slice x5 n5 c5, .int .i64 p], .slice xf nf cf] w' fun e w'' => ∃ va vc, e = .returned (.tuple #[.agg #[.int .i64 X, .int .i64 Y, .slice va n4 vc], .int .i64 0]) ∧ Keep w' w'' ∧ (∀ k, k < n4 → ∃ ad, va = some ad ∧ ad.block < w''.heap.size ∧ w''.cell? (ad.add k) = some (.int .i64 ((G k : Nat) : Int)))))
    (PL : Hid (∀ k, k < n4 → ∀ w', Keep w w' → Calls Try.prog 28 #[.agg #[.string s, .slice x1 n1 c1, .slice x2 n2 c2, .slice x3 n3 c3, .slice x4 n4 c4, .slice x5 n5 c5, .int .i64 p], .agg #[.bool (FR k), .slice (XR k) (T k).length (CR k)]] w' (Iq (plc A (T k)) w'))) :
    Calls Try.prog 9 #[.agg #[.string s, .slice x1 n1 c1, .slice x2 n2 c2, .slice x3 n3 c3, .slice x4 n4 c4, .slice x5 n5 c5, .int .i64 p], .slice xf nf cf] w (Iq (wy (fun k => plc A (T k)) n4) w) := by
  obtain ⟨i0, hi0, hz00, hz01, hz02⟩ := info_f infoI
  have hnw0 := heap_alloc_new w (.cells #[.string s, .slice x1 n1 c1, .slice x2 n2 c2, .slice x3 n3 c3, .slice x4 n4 c4, .slice x5 n5 c5, .int .i64 p] 28)
  have K0 := hide ((Keep.refl w).alloc (.cells #[.string s, .slice x1 n1 c1, .slice x2 n2 c2, .slice x3 n3 c3, .slice x4 n4 c4, .slice x5 n5 c5, .int .i64 p] 28))
  go_enter Try.func9, Try.ntmps9
  go_upto_region 1 with fail
  generalize w.alloc (.cells #[.string s, .slice x1 n1 c1, .slice x2 n2 c2, .slice x3 n3 c3, .slice x4 n4 c4, .slice x5 n5 c5, .int .i64 p] 28) = w0 at hnw0 K0 ⊢
  obtain ⟨q0, HQ0⟩ : ∃ q, Hid (w.heap.size = q) := ⟨_, hide rfl⟩
  rw [uq HQ0] at hnw0 ⊢
  have HX0 : Hid (∀ w' : World, Keep w0 w' → w'.cell? ⟨q0, 0, none⟩ = some (.string s) ∧ w'.cell? ⟨q0, 1, none⟩ = some (.slice x1 n1 c1) ∧ w'.cell? ⟨q0, 2, none⟩ = some (.slice x2 n2 c2) ∧ w'.cell? ⟨q0, 3, none⟩ = some (.slice x3 n3 c3) ∧ w'.cell? ⟨q0, 4, none⟩ = some (.slice x4 n4 c4) ∧ w'.cell? ⟨q0, 5, none⟩ = some (.slice x5 n5 c5) ∧ w'.cell? ⟨q0, 6, none⟩ = some (.int .i64 p)) := hide (fun w' k9 => by
    have h1 := k9.block q0 (Array.getElem?_eq_some_iff.1 hnw0).1
    rw [hnw0] at h1
    refine ⟨?_, ?_, ?_, ?_, ?_, ?_, ?_⟩ <;> simp [World.cell?, h1])
  clear hnw0
  obtain ⟨z0, z1, z2, z3, z4, z5, z6⟩ := (uq HX0) w0 (Keep.refl _)
  go_wp2_with fail
  (refine ((uq TS) _ (uq K0)).mono ?_; rintro e w2 ⟨va, vc, rfl, hk9, hi9⟩; have K2 := hide hk9; have HI2 := hide hi9; clear hk9 hi9)
  clear z0 z1 z2 z3 z4 z5 z6
  have KA := hide ((uq K2).alloc (.cells #[.int .i64 X, .int .i64 Y, .slice va n4 vc] 35))
  have hbx := heap_alloc_new w2 (.cells #[.int .i64 X, .int .i64 Y, .slice va n4 vc] 35)
  have KI := hide ((Keep.refl w2).alloc (.cells #[.int .i64 X, .int .i64 Y, .slice va n4 vc] 35))
  go_upto_region 2 with fail
  generalize w2.alloc (.cells #[.int .i64 X, .int .i64 Y, .slice va n4 vc] 35) = w3 at KA hbx KI ⊢
  obtain ⟨q3, HQ3⟩ : ∃ q, Hid (w2.heap.size = q) := ⟨_, hide rfl⟩
  rw [uq HQ3] at hbx ⊢
  have g2 : w3.cell? ⟨q3, 2, none⟩ = some (.slice va n4 vc) := by simp [World.cell?, hbx]
  clear hbx
  go_wp2_with fail
  clear g2
  go_loopw [7, 21] (fun vs vi wr => ∃ i : Nat, i ≤ n4 ∧ vi = .int .i64 (i : Int) ∧ Hid (wr.ownsRow w3.heap.size 3 1 vs (wy (fun k => plc A (T k)) i).length (ics (wy (fun k => plc A (T k)) i))) ∧ Hid (Keep w3 wr)) (fun vs vi _ => n4 - (intOf vi).toNat)
  case atStart => exact ⟨0, Nat.zero_le _, rfl, hide (World.ownsRow_nil _ _ _ _), hide (Keep.refl _)⟩
  case round =>
    obtain ⟨i, hi, rfl, HOW, KW⟩ := hrel
    by_cases hlt : i < n4
    · have li : (i : Int) < (n4 : Int) := by omega
      obtain ⟨ag, rfl, hbg, d0⟩ := (uq HC) i hlt
      obtain ⟨ai, rfl, hbi, d1⟩ := (uq HI2) i hlt
      obtain ⟨ar, ear, hbr, d2, d3⟩ := (uq HR) i hlt
      have y0 := V.far_cell ((uq KI).trans (uq KW)) (by rw [V.add_block9]; exact hbi) d1
      clear d1
      have hTi := (uq HT) i
      have hgi := (uq HG) i hlt
      have PLi := hide ((uq PL) i hlt)
      have HW1 : Hid (wy (fun k => plc A (T k)) (i + 1) = wy (fun k => plc A (T k)) i ++ plc A (T i)) := hide rfl
      have hwl : (wy (fun k => plc A (T k)) i).length ≤ 50000 := by
        have h1 := wy_len (fun k => plc A (T k)) 1000 (fun k => Nat.le_trans (plc_len A (T k)) ((uq HT) k)) i
        have : i * 1000 ≤ 50 * 1000 := Nat.mul_le_mul_right _ (by omega)
        omega
      have hpl : (plc A (T i)).length ≤ 1000 := Nat.le_trans (plc_len A (T i)) hTi
      obtain ⟨WN, hWN⟩ : ∃ WN, wy (fun k => plc A (T k)) (i + 1) = WN := ⟨_, rfl⟩
      rw [hWN] at HW1
      have HWN := hide hWN
      clear hWN
      generalize wy (fun k => plc A (T k)) i = WI at HOW HW1 hwl
      generalize plc A (T i) = PI at PLi HW1 hpl
      generalize (T i).length = nr at d3 PLi hTi
      generalize G i = g at y0 d2 d3 hgi
      generalize FR i = fr at d2 PLi
      generalize XR i = xr at d3 PLi
      generalize CR i = cr at d3 PLi
      rw [ear] at d0
      have lg : (g : Int) < (NG i : Int) := by omega
      clear ear
      have HS : Hid (∀ w' : World, Keep w3 w' → w'.cell? ⟨q0, 0, none⟩ = some (.string s) ∧ w'.cell? ⟨q0, 1, none⟩ = some (.slice x1 n1 c1) ∧ w'.cell? ⟨q0, 2, none⟩ = some (.slice x2 n2 c2) ∧ w'.cell? ⟨q0, 3, none⟩ = some (.slice x3 n3 c3) ∧ w'.cell? ⟨q0, 4, none⟩ = some (.slice (some ag) n4 c4) ∧ w'.cell? ⟨q0, 5, none⟩ = some (.slice x5 n5 c5) ∧ w'.cell? ⟨q0, 6, none⟩ = some (.int .i64 p) ∧ w'.cell? (ag.add i) = some (.slice (some ar) (NG i) (CG i)) ∧ w'.cell? (ar.add (g * 2)) = some (.bool fr) ∧ w'.cell? ⟨(ar.add (g * 2)).block, (ar.add (g * 2)).off + 1, none⟩ = some (.slice xr nr cr)) := hide (fun w' k9 => by
        have k8 := (uq K0).trans ((uq KA).trans k9)
        obtain ⟨a0, a1, a2, a3, a4, a5, a6⟩ := (uq HX0) w' ((uq KA).trans k9)
        exact ⟨a0, a1, a2, a3, a4, a5, a6, V.far_cell k8 (by rw [V.add_block9]; exact hbg) d0, V.far_cell k8 (by rw [V.add_block9]; exact hbr) d2, V.far_cell k8 (by show (ar.add (g * 2)).block < _; rw [V.add_block9]; exact hbr) d3⟩)
      clear d0 d2 d3
      go_upto_region 8 with fail
      clear y0
      refine wp_region_held_drew (S := fun w' => w'.cell? ⟨q0, 0, none⟩ = some (.string s) ∧ w'.cell? ⟨q0, 1, none⟩ = some (.slice x1 n1 c1) ∧ w'.cell? ⟨q0, 2, none⟩ = some (.slice x2 n2 c2) ∧ w'.cell? ⟨q0, 3, none⟩ = some (.slice x3 n3 c3) ∧ w'.cell? ⟨q0, 4, none⟩ = some (.slice (some ag) n4 c4) ∧ w'.cell? ⟨q0, 5, none⟩ = some (.slice x5 n5 c5) ∧ w'.cell? ⟨q0, 6, none⟩ = some (.int .i64 p) ∧ w'.cell? (ag.add i) = some (.slice (some ar) (NG i) (CG i)) ∧ w'.cell? (ar.add (g * 2)) = some (.bool fr) ∧ w'.cell? ⟨(ar.add (g * 2)).block, (ar.add (g * 2)).off + 1, none⟩ = some (.slice xr nr cr)) (by kernel_rfl) (by exact (uq HS) _ ((uq KW).drew)) (fun hHeld => ?_)
      refine tkk 0 26 hHeld ?_; try simp only [Act.put, Ya, Yb, Yc]
      refine tkk 1 27 hHeld ?_; try simp only [Act.put, Ya, Yb, Yc]
      refine tkk 2 28 hHeld ?_; try simp only [Act.put, Ya, Yb, Yc]
      refine tkk 3 29 hHeld ?_; try simp only [Act.put, Ya, Yb, Yc]
      refine tkk 4 30 hHeld ?_; try simp only [Act.put, Ya, Yb, Yc]
      refine tkk 5 31 hHeld ?_; try simp only [Act.put, Ya, Yb, Yc]
      refine tkk 6 32 hHeld ?_; try simp only [Act.put, Ya, Yb, Yc]
      refine tkk 7 33 hHeld ?_; try simp only [Act.put, Ya, Yb, Yc]
      refine tkk 8 34 hHeld ?_; try simp only [Act.put, Ya, Yb, Yc]
      refine tkk 9 35 hHeld ?_; try simp only [Act.put, Ya, Yb, Yc]
      refine tkk 10 36 hHeld ?_; try simp only [Act.put, Ya, Yb, Yc]
      refine rdyy 11 (fun K hK => ?_)
      go_simp
      clear hHeld
      (refine ((uq PLi) _ ((uq K0).trans ((uq KA).trans (uq KW).drew))).mono ?_; rintro e w5 ⟨v5, rfl, hk9, ho9⟩; have K5 := hide ((uq KW).drew.trans hk9); have HO5 := hide (own_k (own_k (uq HOW) ((Keep.refl wr).drew)) hk9); have HI5 := hide (is_own ho9); clear hk9 ho9)
      try go_wp2_with fail
      refine hK.out _ _ ?_ (fun hHeld => ?_)
      · exact (uq HS) _ (uq K5)
      clear hK K
      try simp only [Act.put, Ya, Yb, Yc]
      refine wpAnyH_ready (rs := [12]) (by kernel_rfl) (by simp) ?_
      refine AllReadyH.cons rfl (fun K hK => ?_) AllReadyH.nil
      refine wp_append_is _ _ _ 33 rfl w3.heap.size 3 i0 _ Try.underlying33 hi0 hz00 hz01 hz02 rfl _ WI rfl (uq HO5) _ PI rfl (uq HI5) (by omega) (Below.size (uq K5)) ?_
      intro v6 w6 hown hgrow
      have HO6 := hide hown
      have K6 : Hid (Keep w3 w6) := hide (Below.grown (uq K5) hgrow (Below.size (uq K5)) (fun j ej => ((uq HO5).lt j ej).1))
      clear hown hgrow hHeld
      refine hK.out _ _ ?_ (fun hHeld => ?_)
      · exact (uq HS) _ (uq K6)
      clear hK K
      try simp only [Act.put, List.setIfInBounds_toArray, List.set_cons_zero, List.set_cons_succ]
      refine tkk 13 7 hHeld ?_; try simp only [Act.put, Ya, Yb, Yc]
      refine wpAnyH_done (by kernel_rfl) ?_ _
      clear hHeld
      go_wp2_with fail
      go_roundw
      case rel => exact ⟨i + 1, hlt, by go_num, hide (by rw [uq HWN, uq HW1]; exact uq HO6), K6⟩
      case measure => simp [intOf]; omega
    · have li : ¬ (i : Int) < (n4 : Int) := by omega
      obtain rfl : i = n4 := by omega
      go_wp2_with fail
      go_ret
      exact ⟨_, rfl, (uq K0).trans ((uq KA).trans (uq KW)), own_mono (uq HOW) (Below.size ((uq K0).trans (uq KA)))⟩
end Cr
end Go.Proofs.Ytdgmndjofbdgeaa

namespace Go.Proofs.Ytdgmndjofbdgeaa
open Go.RowKit
set_option linter.unusedVariables false
set_option linter.unusedSimpArgs false
namespace Cr
theorem cd_pos (n d : Int) : 1 ≤ cd n d := by
  unfold cd
  split
  · rename_i h
    unfold rt at h
    simp only [decide_eq_true_eq] at h
    exact h.1
  · omega
theorem rt01 : Rt 0 1 := ⟨by omega, by decide, by omega, by omega, by omega⟩
/-- a sum that fits is right -/
theorem ad_rt {t f : Int × Int} (h : adE t f = 0) : Rt (adX t f) (adY t f) := by
  have hD : 0 < adD t f := by unfold adD; exact Int.mul_pos (by have := cd_pos t.1 t.2; omega) (by have := cd_pos f.1 f.2; omega)
  obtain ⟨h1, h2, _⟩ := red_spec (N := adN t f) hD
  unfold adE pE at h
  by_cases hf : (fit (rn (adN t f) (adD t f)) && fit (rd (adN t f) (adD t f))) = true
  · unfold adX adY pN pD
    rw [if_pos hf, if_pos hf]
    simp [fit] at hf
    exact ⟨by omega, h2, by omega, by omega, by omega⟩
  · rw [if_neg hf] at h
    cases h
theorem sm_cons (t f : Int × Int) (L : List (Int × Int)) : sm t (f :: L) = if adE t f = 0 then sm (adX t f, adY t f) L else (0, 0, adE t f) := by
  by_cases h : adE t f = 0
  · rw [if_pos h]
    exact sm_yes (t := t) (L := f :: L) (k := 0) (by simp) h
  · rw [if_neg h]
    exact sm_no (t := t) (L := f :: L) (k := 0) (by simp) h
end Cr
end Go.Proofs.Ytdgmndjofbdgeaa
