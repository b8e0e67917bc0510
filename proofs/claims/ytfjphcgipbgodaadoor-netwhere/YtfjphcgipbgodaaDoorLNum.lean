/- Package lex: the number that digits tell. -/
import Derived.Test.YtfjphcgipbgodaaDoorLTok
namespace Go.Proofs.YtfjphcgipbgodaaDoor
open Go.RowKit
attribute [local go_sem ↓] Go.wp_at_zero Go.wp_at_succ
set_option linter.unusedVariables false
set_option linter.unusedSimpArgs false
set_option maxRecDepth 10000
set_option maxHeartbeats 2000000 in
theorem number_core (s : ByteArray) (D V : Nat → Int) (w : World) (hn : s.size ≤ 18) 
    (HD : Hid (∀ k (h : k < s.size), ((s[k]'h).toNat : Int) = D k + 48 ∧ 0 ≤ D k ∧ D k ≤ 9))
    (H0 : Hid (V 0 = 0))
    (HV : Hid (∀ k, k < s.size → V (k + 1) = V k * 10 + D k ∧ 0 ≤ V k ∧ V k ≤ 100000000000000000)) :
    Calls Tryd.prog 49 #[.string s] w fun e w' => e = .returned (.int .i64 (V s.size)) ∧ w' = w := by
  go_enter Tryd.func49, Tryd.ntmps49
  go_wp2_with fail
  go_loop [3, 7] (fun vn vi => ∃ k : Nat, k ≤ s.size ∧ vi = .int .i64 (k : Int) ∧ vn = .int .i64 (V k)) (fun vn vi => s.size - (intOf vi).toNat)
  case atStart => exact ⟨0, Nat.zero_le _, rfl, by rw [unhide H0]⟩
  case round =>
    obtain ⟨k, hk, rfl, rfl⟩ := hrel
    by_cases hlt : k < s.size
    · have li : (k : Int) < (s.size : Int) := by omega
      obtain ⟨h1, h2, h3⟩ := (unhide HD) k hlt
      obtain ⟨h4, h5, h6⟩ := (unhide HV) k hlt
      have H4 := hide h4
      clear h4
      go_wp2_with fail
      exact ⟨⟨k + 1, hlt, by go_num, by rw [unhide H4]⟩, by simp [intOf]; omega⟩
    · have e : k = s.size := by omega
      subst e
      go_wp2_with fail
      go_ret
      exact ⟨rfl, rfl⟩
theorem num_snoc (m : List UInt8) (c : UInt8) : num (m ++ [c]) = num m * 10 + ((c.toNat : Int) - 48) := by unfold num; rw [List.foldl_append]; rfl
theorem take_one (l : List UInt8) (k : Nat) (h : k < l.length) : l.take (k + 1) = l.take k ++ [l.getD k 0] := by
  rw [List.take_add_one, List.getElem?_eq_getElem h, List.getD_eq_getElem?_getD, List.getElem?_eq_getElem h]; rfl
theorem num_bd (l : List UInt8) (hd : ∀ c, c ∈ l → kd c.toNat = 5) : ∀ k, k ≤ l.length → 0 ≤ num (l.take k) ∧ num (l.take k) < 10 ^ k
  | 0, _ => by simp [num]
  | k + 1, h => by
    have ih := num_bd l hd k (by omega)
    have hc := (kd_5 _).1 (hd (l.getD k 0) (by rw [List.getD_eq_getElem?_getD, List.getElem?_eq_getElem (by omega)]; exact List.getElem_mem _))
    rw [take_one l k (by omega), num_snoc, Int.pow_succ]
    generalize num (l.take k) = x at *
    generalize (10 : Int) ^ k = y at *
    omega
theorem sv_at (l : List UInt8) (k : Nat) (h : k < (sv l).size) : (sv l)[k]'h = l.getD k 0 := by
  rw [sv_size] at h
  rw [List.getD_eq_getElem?_getD, List.getElem?_eq_getElem h]
  rfl
theorem number_any (l : List UInt8) (hl : l.length ≤ 18) (hd : ∀ c, c ∈ l → kd c.toNat = 5) (w : World) :
    Calls Tryd.prog 49 #[.string (sv l)] w fun e w' => e = .returned (.int .i64 (num l)) ∧ w' = w := by
  have h := number_core (sv l) (fun k => ((l.getD k 0).toNat : Int) - 48) (fun k => num (l.take k)) w (by rw [sv_size]; exact hl) (hide fun k hk => ?_) (hide (by simp [num])) (hide fun k hk => ?_)
  · simp only [sv_size, List.take_length] at h
    exact h
  · rw [sv_at]
    rw [sv_size] at hk
    have hc := (kd_5 _).1 (hd (l.getD k 0) (by rw [List.getD_eq_getElem?_getD, List.getElem?_eq_getElem hk]; exact List.getElem_mem _))
    omega
  · rw [sv_size] at hk
    have hb := num_bd l hd k (by omega)
    have hp : (10 : Int) ^ k ≤ 10 ^ 17 := by exact_mod_cast Nat.pow_le_pow_right (n := 10) (by decide) (show k ≤ 17 by omega)
    exact ⟨by rw [take_one l k hk, num_snoc], hb.1, by omega⟩
end Go.Proofs.YtfjphcgipbgodaaDoor
