/- Package paths: sets of points, a bit each. -/
import Derived.Test.YtakandlehneciaaPaR
import Derived.Test.YtakandlehneciaaExt
import Derived.Test.YtakandlehneciaaChecked
import Derived.LoopTactic
import Derived.Deep.DeepCutAuto
import Derived.Deep.DrawnRows
import Derived.Deep.RegionHeld3
import Derived.Laws.AppendOwn
import Derived.Laws.OwnMore
import Derived.Laws.MakeOwn
import Derived.Laws.CopyOwn
import Derived.Laws.Bits64b
import Derived.Laws.BitsAllLaws
import Derived.OwnWalk
import Derived.Lib.LaidTab
namespace Go.Proofs.Ytakandlehneciaa
open Go.RowKit
attribute [local go_sem ↓] Go.wp_at_zero Go.wp_at_succ
set_option linter.unusedVariables false
set_option linter.unusedSimpArgs false
set_option maxRecDepth 10000
namespace Pa
theorem kc {w w' : World} {a : Addr} {v : Value} (hk : Keep w w') (h : w.cell? a = some v) : w'.cell? a = some v := by
  rw [Below.cell hk (World.block_lt_of_cell? w _ h)]; exact h
theorem add_pl (b o n : Nat) : (⟨b, o, none⟩ : Addr).add n = ⟨b, o + n, none⟩ := by unfold Addr.add; split <;> simp_all
theorem wu (n : Int) : IntKind.u64.wrap n = n % 18446744073709551616 := IntKind.wrap_u64 n
theorem shl_is {p : Nat} (hp : p < 64) : IntKind.u64.wrap (1 * 2 ^ p) = ((2 ^ p : Nat) : Int) := by
  have h : 2 ^ p < 2 ^ 64 := Nat.pow_lt_pow_right (by decide) hp
  rw [wu, Int.one_mul]
  have : ((2 ^ p : Nat) : Int) = (2 : Int) ^ p := by simp
  rw [← this]
  generalize 2 ^ p = P at h ⊢
  omega
theorem pow_lt {p : Nat} (hp : p < 64) : 2 ^ p < 18446744073709551616 := Nat.pow_lt_pow_right (by decide) hp
set_option maxHeartbeats 2000000 in
theorem put_any (b i x p : Nat) (w : World) (hc : w.cell? ⟨b, i, none⟩ = some (.int .u64 x)) (hf : w.frozen? ⟨b, i, none⟩ = false) (hx : x < 18446744073709551616) (hp : p < 64) : Calls Try.prog 54 #[.pointer (some ⟨b, i, none⟩), .int .i64 p] w fun e w' => (∃ v, e = .returned v) ∧ w' = (w.setCell ⟨b, i, none⟩ (.int .u64 ((x ||| 2 ^ p : Nat) : Int))).drew := by
  have h0 : (0 : Int) ≤ (p : Int) := by omega
  have h1 : (p : Int) ≤ 64 := by omega
  have hc2 : w.drew.cell? ⟨b, i, none⟩ = some (.int .u64 x) := hc
  have hf2 : w.drew.frozen? ⟨b, i, none⟩ = false := hf
  have e1 : IntKind.u64.wrap (2 ^ p) = ((2 ^ p : Nat) : Int) := by have := shl_is hp; rwa [Int.one_mul] at this
  have e2 := bits_or_u64_nat x (2 ^ p) hx (pow_lt hp)
  obtain ⟨P, hP⟩ : ∃ P : Nat, 2 ^ p = P := ⟨_, rfl⟩
  rw [hP] at e1 e2 ⊢
  clear hP
  go_enter Try.func54, Try.ntmps54
  go_upto_region 0 with fail
  refine wp_region_held_drew (S := (fun w' => True)) (by kernel_rfl) (by trivial) (fun hHeld => ?_)
  refine wpAnyH_take (i := 0) (v := ?_) rfl (by kernel_rfl) (by kernel_rfl) (by kernel_rfl) (fun _ _ _ h => h) (Or.inl ⟨by rfl, ?_⟩) hHeld ?_
  rotate_left
  · intro w hSw
    try dsimp only at hSw
    go_simp
    try with_reducible rfl
  show wpAnyH _ _ _ _ _ _ _ (Act.put _ (some 4) _) _
  try simp only [Act.put, List.setIfInBounds_toArray, List.set_cons_zero, List.set_cons_succ]
  refine wpAnyH_take (i := 1) (v := ?_) rfl (by kernel_rfl) (by kernel_rfl) (by kernel_rfl) (fun _ _ _ h => h) (Or.inl ⟨by rfl, ?_⟩) hHeld ?_
  rotate_left
  · intro w hSw
    try dsimp only at hSw
    go_simp
    try with_reducible rfl
  show wpAnyH _ _ _ _ _ _ _ (Act.put _ (some 5) _) _
  try simp only [Act.put, List.setIfInBounds_toArray, List.set_cons_zero, List.set_cons_succ]
  refine wpAnyH_take (i := 3) (v := ?_) rfl (by kernel_rfl) (by kernel_rfl) (by kernel_rfl) (fun _ _ _ h => h) (Or.inl ⟨by rfl, ?_⟩) hHeld ?_
  rotate_left
  · intro w hSw
    try dsimp only at hSw
    go_simp
    try with_reducible rfl
  show wpAnyH _ _ _ _ _ _ _ (Act.put _ (some 7) _) _
  try simp only [Act.put, List.setIfInBounds_toArray, List.set_cons_zero, List.set_cons_succ]
  refine wpAnyH_take (i := 4) (v := ?_) rfl (by kernel_rfl) (by kernel_rfl) (by kernel_rfl) (fun _ _ _ h => h) (Or.inl ⟨by rfl, ?_⟩) hHeld ?_
  rotate_left
  · intro w hSw
    try dsimp only at hSw
    go_simp
    try with_reducible rfl
  show wpAnyH _ _ _ _ _ _ _ (Act.put _ (some 8) _) _
  try simp only [Act.put, List.setIfInBounds_toArray, List.set_cons_zero, List.set_cons_succ]
  refine wpAnyH_ready (rs := [2]) (by kernel_rfl) (by simp) ?_
  refine AllReadyH.cons rfl (fun K hK => ?_) AllReadyH.nil
  go_simp
  clear hHeld
  refine hK.out _ _ ?_ (fun hHeld => ?_)
  · trivial
  clear hK K
  try simp only [Act.put, List.setIfInBounds_toArray, List.set_cons_zero, List.set_cons_succ]
  refine wpAnyH_take (i := 5) (v := ?_) rfl (by kernel_rfl) (by kernel_rfl) (by kernel_rfl) (fun _ _ _ h => h) (Or.inl ⟨by rfl, ?_⟩) hHeld ?_
  rotate_left
  · intro w hSw
    try dsimp only at hSw
    go_simp
    try with_reducible rfl
  show wpAnyH _ _ _ _ _ _ _ (Act.put _ (some 9) _) _
  try simp only [Act.put, List.setIfInBounds_toArray, List.set_cons_zero, List.set_cons_succ]
  refine wpAnyH_take (i := 6) (v := ?_) rfl (by kernel_rfl) (by kernel_rfl) (by kernel_rfl) (fun _ _ _ h => h) (Or.inl ⟨by rfl, ?_⟩) hHeld ?_
  rotate_left
  · intro w hSw
    try dsimp only at hSw
    go_simp
    try with_reducible rfl
  show wpAnyH _ _ _ _ _ _ _ (Act.put _ (some 10) _) _
  try simp only [Act.put, List.setIfInBounds_toArray, List.set_cons_zero, List.set_cons_succ]
  refine wpAnyH_ready (rs := [7]) (by kernel_rfl) (by simp) ?_
  refine AllReadyH.cons rfl (fun K hK => ?_) AllReadyH.nil
  go_simp
  clear hHeld
  refine hK.out _ _ ?_ (fun hHeld => ?_)
  · trivial
  clear hK K
  try simp only [Act.put, List.setIfInBounds_toArray, List.set_cons_zero, List.set_cons_succ]
  refine wpAnyH_done (by kernel_rfl) ?_ _
  clear hHeld
  go_wp2_with fail
  go_end0
  exact ⟨⟨_, rfl⟩, rfl⟩
theorem empty_any (x : Nat) (w : World) : Calls Try.prog 55 #[.int .u64 x] w fun e w' => e = .returned (.bool (decide (x = 0))) ∧ w' = w := by
  by_cases h : x = 0
  · subst h
    go_enter Try.func55, Try.ntmps55
    go_wp2_with fail
    go_ret
    exact ⟨rfl, rfl⟩
  · have h1 : ((x : Int) == 0) = false := by simp; omega
    rw [decide_eq_false h]
    go_enter Try.func55, Try.ntmps55
    go_wp2_with fail
    go_ret
    exact ⟨rfl, rfl⟩
theorem shr_is (x p : Nat) : (x : Int) / 2 ^ p = ((x >>> p : Nat) : Int) := by
  rw [Nat.shiftRight_eq_div_pow]
  simp
theorem one_is (x : Nat) : x &&& 1 = if x.testBit 0 then 1 else 0 := by
  rw [Nat.and_one_is_mod, Nat.testBit_zero]
  have := Nat.mod_two_eq_zero_or_one x
  rcases this with h | h <;> simp [h]
set_option maxHeartbeats 2000000 in
theorem has_any (x p : Nat) (w : World) (hx : x < 18446744073709551616) (hp : p < 64) : Calls Try.prog 69 #[.int .u64 x, .int .i64 p] w fun e w' => e = .returned (.bool (bt x p)) ∧ w' = w := by
  have h0 : (0 : Int) ≤ (p : Int) := by omega
  have h1 : (p : Int) ≤ 64 := by omega
  have e1 := shr_is x p
  have hl : x >>> p < 18446744073709551616 := Nat.lt_of_le_of_lt (by rw [Nat.shiftRight_eq_div_pow]; exact Nat.div_le_self _ _) hx
  have e2 : bits .and .u64 ((x >>> p : Nat) : Int) 1 = (((x >>> p) &&& 1 : Nat) : Int) := bits_and_u64_nat (x >>> p) 1 hl (by decide)
  have e3 : (((((x >>> p) &&& 1 : Nat) : Int)) == 1) = bt x p := by
    rw [one_is, Nat.testBit_shiftRight]
    simp only [Nat.add_zero, bt]
    cases x.testBit p <;> rfl
  generalize bt x p = B at e3 ⊢
  generalize hy : (x >>> p) &&& 1 = y at e2 e3
  clear hy
  generalize x >>> p = z at *
  go_enter Try.func69, Try.ntmps69
  go_wp2_with fail
  go_ret
  exact ⟨rfl, rfl⟩
theorem tz_key (x a : Nat) (hx : x < 18446744073709551616) (hx0 : x ≠ 0) (hlow : x &&& (18446744073709551616 - x) = a) :
    IntKind.u64.wrap (bits BinOp.and IntKind.u64 (x : Int) (IntKind.u64.wrap (-(x : Int))) * 285870213051353865) / 288230376151711744 = ((a * 285870213051353865 % 18446744073709551616 / 288230376151711744 : Nat) : Int) := by
  have e1 : IntKind.u64.wrap (-(x : Int)) = ((18446744073709551616 - x : Nat) : Int) := by rw [wu]; omega
  rw [e1, bits_and_u64_nat x _ hx (by omega), hlow, wu]
  omega
set_option maxHeartbeats 2000000 in
theorem takeAll_any (b i x : Nat) (w : World) (hc : w.cell? ⟨b, i, none⟩ = some (.int .u64 x)) (hf : w.frozen? ⟨b, i, none⟩ = false) : Calls Try.prog 68 #[.pointer (some ⟨b, i, none⟩)] w fun e w' => e = .returned (.int .u64 x) ∧ w' = w.setCell ⟨b, i, none⟩ (.int .u64 0) := by
  go_enter Try.func68, Try.ntmps68
  go_wp2_with fail
  go_ret
  exact ⟨rfl, rfl⟩
/-- a set less a point -/
def del (x p : Nat) : Nat := x &&& (18446744073709551615 - 2 ^ p)
theorem bt_del {x p : Nat} (hx : x < 18446744073709551616) (hp : p < 64) (q : Nat) : bt (del x p) q = (bt x q && !decide (p = q)) := by
  unfold del bt
  have h := pow_lt hp
  rw [Nat.testBit_and, show 18446744073709551615 - 2 ^ p = 2 ^ 64 - (2 ^ p + 1) by omega, Nat.testBit_two_pow_sub_succ h, Nat.testBit_two_pow]
  by_cases hq : q < 64
  · simp [hq]
  · have : x.testBit q = false := Nat.testBit_lt_two_pow (Nat.lt_of_lt_of_le hx (Nat.pow_le_pow_right (n := 2) (by decide) (show 64 ≤ q by omega)))
    simp [this]
theorem del_lt {x p : Nat} (hx : x < 18446744073709551616) : del x p < 18446744073709551616 := Nat.lt_of_le_of_lt Nat.and_le_left hx
end Pa
end Go.Proofs.Ytakandlehneciaa
