/- Package clear's calls: bounds held by one call, quotients rounded up; Yellow, Red, Flash. -/
import Derived.Test.YtfholjcncnbocaaKMath
import Derived.Test.YtfholjcncnbocaaChecked
import Derived.Test.YtfholjcncnbocaaExt
import Derived.LoopTactic
namespace Go.Proofs.Ytfholjcncnbocaa
open Go.RowKit
set_option linter.unusedVariables false
set_option linter.unusedSimpArgs false
set_option maxRecDepth 10000
set_option maxHeartbeats 400000 in
theorem ceil_p0 (a b t : Int) (w : World) (h2 : a ≤ 9223372036854775807) (h4 : b ≤ 9223372036854775807) (ha : 0 ≤ a) (hb : 0 < b) (e1 : a.tdiv b = t) (e2 : a.tmod b = 0) (e3 : a / b = t) (e4 : a % b = 0) (t1 : 0 ≤ t) (t2 : t ≤ 9223372036854775807) :
    Calls Try.prog 14 #[.int .i64 a, .int .i64 b] w fun e w' => e = .returned (.tuple #[.int .i64 t, .int .i64 0]) ∧ w' = w := by
  have hda : decide (a < 0) = false := by simp; omega
  have hdb : decide (b < 0) = false := by simp; omega
  have hz : (b == 0) = false := by simp; omega
  have hx1 : (a == -9223372036854775808) = false := by simp; omega
  go_enter Try.func14, Try.ntmps14
  go_wp2
  go_ret2
  exact ⟨rfl, rfl⟩
set_option maxHeartbeats 400000 in
theorem ceil_p1 (a b t m : Int) (w : World) (h2 : a ≤ 9223372036854775807) (h4 : b ≤ 9223372036854775807) (ha : 0 ≤ a) (hb : 0 < b) (e1 : a.tdiv b = t) (e2 : a.tmod b = m) (e3 : a / b = t) (e4 : a % b = m) (hm : (m == 0) = false) (hm' : ¬ m = 0) (t1 : 0 ≤ t) (t2 : t ≤ 4611686018427387904) :
    Calls Try.prog 14 #[.int .i64 a, .int .i64 b] w fun e w' => e = .returned (.tuple #[.int .i64 (t + 1), .int .i64 0]) ∧ w' = w := by
  have hmn : (m != 0) = true := by simp [hm']
  have hda : decide (a < 0) = false := by simp; omega
  have hdb : decide (b < 0) = false := by simp; omega
  have hz : (b == 0) = false := by simp; omega
  have hx1 : (a == -9223372036854775808) = false := by simp; omega
  go_enter Try.func14, Try.ntmps14
  go_wp2
  go_ret2
  exact ⟨rfl, rfl⟩
theorem ceil_up (a b : Int) (w : World) (h2 : a ≤ 4611686018427387904) (h4 : b ≤ 9223372036854775807) (ha : 0 ≤ a) (hb : 0 < b) :
    Calls Try.prog 14 #[.int .i64 a, .int .i64 b] w fun e w' => e = .returned (.tuple #[.int .i64 (up a b), .int .i64 0]) ∧ w' = w := by
  have d0 : 0 ≤ a / b := Int.ediv_nonneg ha (by omega)
  have d1 : a / b ≤ a := Int.ediv_le_self _ ha
  have e1 : a.tdiv b = a / b := Int.tdiv_eq_ediv_of_nonneg ha
  have e2 : a.tmod b = a % b := Int.tmod_eq_emod_of_nonneg ha
  by_cases hm : a % b = 0
  · rw [show up a b = a / b by unfold up; rw [if_pos hm]; omega]
    exact ceil_p0 a b _ w (by omega) h4 ha hb e1 (by omega) rfl hm d0 (by omega)
  · rw [show up a b = a / b + 1 by unfold up; rw [if_neg hm]]
    exact ceil_p1 a b _ _ w (by omega) h4 ha hb e1 e2 rfl rfl (by simpa using hm) hm d0 (by omega)
/-- bounds one behind another from an address on -/
def Bds (w : World) (ad : Addr) (n : Nat) (f : Nat → Int × Int × Int) : Prop := ad.block < w.heap.size ∧ ∀ k, k < n → w.cell? (ad.add (k * 3)) = some (.int .i64 (f k).1)
  ∧ w.cell? ⟨(ad.add (k * 3)).block, (ad.add (k * 3)).off + 1, none⟩ = some (.int .i64 (f k).2.1) ∧ w.cell? ⟨(ad.add (k * 3)).block, (ad.add (k * 3)).off + 2, none⟩ = some (.int .i64 (f k).2.2)
theorem add_block (ad : Addr) (n : Nat) : (ad.add n).block = ad.block := by unfold Addr.add; split <;> rfl
theorem Bds.keep {w w' : World} {ad : Addr} {n : Nat} {f : Nat → Int × Int × Int} (h : Bds w ad n f) (hk : Keep w w') : Bds w' ad n f := by
  have hs := Below.size hk
  have hb := h.1
  refine ⟨by omega, fun k hlt => ?_⟩
  obtain ⟨h4, h5, h6⟩ := h.2 k hlt
  refine ⟨?_, ?_, ?_⟩
  · rw [Below.cell hk (by rw [add_block]; exact hb)]; exact h4
  · rw [Below.cell (p := ⟨(ad.add (k * 3)).block, (ad.add (k * 3)).off + 1, none⟩) hk (by show (ad.add (k * 3)).block < _; rw [add_block]; exact hb)]; exact h5
  · rw [Below.cell (p := ⟨(ad.add (k * 3)).block, (ad.add (k * 3)).off + 2, none⟩) hk (by show (ad.add (k * 3)).block < _; rw [add_block]; exact hb)]; exact h6
set_option maxHeartbeats 2000000 in
theorem within_core (ad : Addr) (n cap : Nat) (f : Nat → Int × Int × Int) (r : Bool) (w : World) (hn : n ≤ 50) (HB : Hid (Bds w ad n f))
    (H1 : Hid (∀ k, k < n → ((f k).1 < (f k).2.1 ∨ (f k).2.2 < (f k).1) → r = false)) (H2 : Hid ((∀ k, k < n → (f k).2.1 ≤ (f k).1 ∧ (f k).1 ≤ (f k).2.2) → r = true)) :
    Calls Try.prog 13 #[.slice (some ad) n cap] w fun e w' => e = .returned (.bool r) ∧ Keep w w' := by
  go_enter Try.func13, Try.ntmps13
  go_wp2_with fail
  go_loopw [7] (fun iv wr => ∃ k : Nat, iv = .int .i64 (k : Int) ∧ k ≤ n ∧ Hid (∀ j, j < k → (f j).2.1 ≤ (f j).1 ∧ (f j).1 ≤ (f j).2.2) ∧ Hid (Keep w wr)) (fun iv _ => n - (intOf iv).toNat)
  case atStart => exact ⟨0, rfl, by omega, hide fun j hj => by omega, hide (Keep.refl _)⟩
  case round =>
    obtain ⟨k, rfl, hk, HS, KW⟩ := hrel
    by_cases hlt : k < n
    · have li : (k : Int) < (n : Int) := by omega
      obtain ⟨c0, c1, c2⟩ := ((unhide HB).keep (unhide KW)).2 k hlt
      have HQ := hide ((unhide H1) k hlt)
      have HT : Hid (((f k).2.1 ≤ (f k).1 ∧ (f k).1 ≤ (f k).2.2) → ∀ j, j < k + 1 → (f j).2.1 ≤ (f j).1 ∧ (f j).1 ≤ (f j).2.2) := by
        intro h j hj
        rcases Nat.lt_succ_iff_lt_or_eq.1 hj with h' | h'
        · exact (unhide HS) j h'
        · rw [h']; exact h
      generalize (f k).1 = x at c0 HQ HT
      generalize (f k).2.1 = y at c1 HQ HT
      generalize (f k).2.2 = z at c2 HQ HT
      by_cases h1 : x < y
      · have hr := (unhide HQ) (.inl h1)
        subst hr
        go_wp2_with fail
        go_ret
        exact ⟨rfl, by repeat (first | exact unhide KW | apply Keep.alloc | apply Keep.drew)⟩
      · by_cases h2 : z < x
        · have hr := (unhide HQ) (.inr h2)
          subst hr
          go_wp2_with fail
          go_ret
          exact ⟨rfl, by repeat (first | exact unhide KW | apply Keep.alloc | apply Keep.drew)⟩
        · have HN := hide ((unhide HT) ⟨by omega, by omega⟩)
          go_wp2_with fail
          go_roundw
          case rel => exact ⟨k + 1, by go_num, by omega, HN, hide (by repeat (first | exact unhide KW | apply Keep.alloc | apply Keep.drew))⟩
          case measure => simp [intOf]; omega
    · have li : ¬ (k : Int) < (n : Int) := by omega
      have hr := (unhide H2) (fun j hj => (unhide HS) j (by omega))
      subst hr
      go_wp2_with fail
      go_ret
      exact ⟨rfl, unhide KW⟩
end Go.Proofs.Ytfholjcncnbocaa
