/- Divisors, multiples, and products compared: what package whole comes to. -/
import Derived.Test.YtnegcifbbbmlnaaDoorWholeQ
import Derived.Test.YtnegcifbbbmlnaaDoorWholeB
import Derived.LoopTactic
import Derived.RegionTactic
namespace Go.Proofs.YtnegcifbbbmlnaaDoor
open Go.RowKit
set_option linter.unusedVariables false

set_option maxHeartbeats 400000 in
theorem size_any (a : Int) (w : World) (h1 : -9223372036854775808 ≤ a) (h2 : a ≤ 9223372036854775807) :
    Calls Tryd.prog 69 #[.int .i64 a] w fun e w' => e = .returned (.int .u64 (a.natAbs : Int)) ∧ w' = w := by
  by_cases ha : a < 0
  · go_enter Tryd.func69, Tryd.ntmps69
    go_wp2
    go_ret
    exact ⟨one_ret (by rw [IntKind.wrap_u64, IntKind.wrap_u64]; omega), rfl⟩
  · go_enter Tryd.func69, Tryd.ntmps69
    go_wp2
    go_ret
    exact ⟨one_ret (by omega), rfl⟩

set_option maxHeartbeats 1000000 in
theorem gcd_core (a b : Int) (x y G : Nat) (w : World) (hx : x ≤ 9223372036854775808) (hy : y ≤ 9223372036854775808) (HG : Hid (Nat.gcd x y = G))
    (S1 : Hid (∀ w, Calls Tryd.prog 69 #[.int .i64 a] w fun e w' => e = .returned (.int .u64 (x : Int)) ∧ w' = w))
    (S2 : Hid (∀ w, Calls Tryd.prog 69 #[.int .i64 b] w fun e w' => e = .returned (.int .u64 (y : Int)) ∧ w' = w)) :
    Calls Tryd.prog 50 #[.int .i64 a, .int .i64 b] w fun e w' => e = .returned (.tuple #[.int .i64 (ans (G : Int)), .int .i64 (err (G : Int))]) ∧ Keep w w' := by
  go_enter Tryd.func50, Tryd.ntmps50
  go_wp2_with fail
  refine (unhide S1 _).mono ?_
  rintro e w' ⟨rfl, rfl⟩
  go_wp2_with fail
  refine (unhide S2 _).mono ?_
  rintro e w' ⟨rfl, rfl⟩
  go_wp2_with fail
  go_loopw [6, 7] (fun p q wr => ∃ u v : Nat, p = .int .u64 (u : Int) ∧ q = .int .u64 (v : Int) ∧ u ≤ 9223372036854775808 ∧ v ≤ 9223372036854775808 ∧ Hid (Nat.gcd u v = G) ∧ Keep w' wr) (fun _ q _ => (intOf q).toNat)
  case atStart => exact ⟨x, y, rfl, rfl, hx, hy, HG, Keep.refl _⟩
  case round =>
    obtain ⟨u, v, rfl, rfl, hu, hv, Hg, hk⟩ := hrel
    by_cases hz : v = 0
    · subst hz
      have e0 : u = G := by have := unhide Hg; simpa using this
      by_cases hf : u ≤ 9223372036854775807
      · have k := ans_yes (n := (u : Int)) (by omega) (by omega)
        have k' := err_yes (n := (u : Int)) (by omega) (by omega)
        rw [e0] at k k'
        have K := hide k
        have K' := hide k'
        have E0 := hide e0
        clear k k' e0
        go_wp2
        go_ret2
        exact ⟨two_ret (by rw [unhide K, unhide E0]) (by rw [unhide K']), hk⟩
      · have k := ans_no (n := (u : Int)) (by omega)
        have k' := err_no (n := (u : Int)) (by omega)
        rw [e0] at k k'
        have K := hide k
        have K' := hide k'
        have E0 := hide e0
        clear k k' e0
        go_wp2
        go_ret2
        exact ⟨two_ret (by rw [unhide K]) (by rw [unhide K']), hk⟩
    · have hb : ((v : Int) == 0) = false := by simp; omega
      have hb2 : ((v : Int) != 0) = true := by simp; omega
      have hm : u % v < v := Nat.mod_lt _ (by omega)
      have Hg2 : Hid (Nat.gcd v (u % v) = G) := by
        refine hide ?_
        rw [← unhide Hg, Nat.gcd_comm u v]
        exact (Nat.gcd_rec v u).symm ▸ (by rw [Nat.gcd_comm])
      go_wp2
      go_region
      all_goals go_wp2
      all_goals go_roundw
      case rel => exact ⟨v, u % v, rfl, by go_num, by omega, by omega, Hg2, hk.drew⟩
      case measure => simp [intOf]; omega

theorem gcd_any (a b : Int) (w : World) (h1 : -9223372036854775808 ≤ a) (h2 : a ≤ 9223372036854775807) (h3 : -9223372036854775808 ≤ b) (h4 : b ≤ 9223372036854775807) :
    Calls Tryd.prog 50 #[.int .i64 a, .int .i64 b] w fun e w' => e = .returned (.tuple #[.int .i64 (ans (Int.gcd a b : Int)), .int .i64 (err (Int.gcd a b : Int))]) ∧ Keep w w' :=
  gcd_core a b a.natAbs b.natAbs (Int.gcd a b) w (by omega) (by omega) (hide rfl) (hide fun w => size_any a w h1 h2) (hide fun w => size_any b w h3 h4)

/-! ### multiples -/
/-! ### products compared -/
theorem halves_inj {x y : Int} (h1 : hiOf x = hiOf y) (h2 : loOf x = loOf y) : x = y := by unfold hiOf loOf at *; omega
theorem halves_lt {x y : Int} (h1 : ¬ hiOf x = hiOf y) : hiOf x < hiOf y ↔ x < y := by unfold hiOf at *; omega
theorem halves_lt2 {x y : Int} (h1 : hiOf x = hiOf y) : loOf x < loOf y ↔ x < y := by unfold hiOf loOf at *; omega
end Go.Proofs.YtnegcifbbbmlnaaDoor
