/- Plain numbers by parts of 16 bits, the lowest first: what sums, differences, products and the order of them are. No program is met here. -/
import Derived.Test.YtdgmndjofbdgeaaLMath
namespace Go.Proofs.Ytdgmndjofbdgeaa
open Go.RowKit
set_option linter.unusedVariables false

/-- the number of a list of parts -/
def val : List Int → Int
  | [] => 0
  | d :: l => d + 65536 * val l
def Dig (l : List Int) : Prop := ∀ d, d ∈ l → 0 ≤ d ∧ d < 65536
/-- 65536 to the k -/
def pw (k : Nat) : Int := 65536 ^ k
theorem pw_zero : pw 0 = 1 := rfl
theorem pw_succ (k : Nat) : pw (k + 1) = 65536 * pw k := by unfold pw; rw [Int.pow_succ]; omega
theorem pw_add (i k : Nat) : pw (i + k) = pw i * pw k := by unfold pw; exact Int.pow_add _ _ _
theorem pw_pos (k : Nat) : 0 < pw k := by unfold pw; exact Int.pow_pos (by omega)
theorem pw_mono {i k : Nat} (h : i ≤ k) : pw i ≤ pw k := by
  induction k with
  | zero => rw [show i = 0 by omega]; exact Int.le_refl _
  | succ k ih =>
    by_cases he : i = k + 1
    · rw [he]; exact Int.le_refl _
    · have := ih (by omega); have := pw_pos k; rw [pw_succ]; omega
theorem dig_nil : Dig [] := fun d h => by simp at h
theorem dig_snoc {l : List Int} {d : Int} (h : Dig l) (h0 : 0 ≤ d) (h1 : d < 65536) : Dig (l ++ [d]) := by
  intro e he
  rcases List.mem_append.1 he with h2 | h2
  · exact h e h2
  · simp at h2; subst h2; exact ⟨h0, h1⟩
theorem dig_getD {l : List Int} (h : Dig l) (k : Nat) : 0 ≤ l.getD k 0 ∧ l.getD k 0 < 65536 := by
  by_cases hk : k < l.length
  · rw [List.getD_eq_getElem?_getD, List.getElem?_eq_getElem hk]
    exact h _ (List.getElem_mem hk)
  · rw [List.getD_eq_getElem?_getD, List.getElem?_eq_none (by omega)]
    simp
theorem val_snoc (l : List Int) (d : Int) : val (l ++ [d]) = val l + pw l.length * d := by
  induction l with
  | nil => simp [val, pw_zero]
  | cons e l ih =>
    simp only [List.cons_append, val, List.length_cons]
    rw [ih, pw_succ, Int.mul_add, Int.mul_assoc]
    omega
theorem val_zeros (n : Nat) : val (List.replicate n 0) = 0 := by
  induction n with
  | zero => rfl
  | succ n ih => rw [List.replicate_succ]; simp only [val]; rw [ih]; rfl
theorem dig_zeros (n : Nat) : Dig (List.replicate n 0) := by
  intro d hd
  have := List.eq_of_mem_replicate hd
  omega
theorem val_bd {l : List Int} (h : Dig l) : 0 ≤ val l ∧ val l < pw l.length := by
  induction l with
  | nil => simp [val, pw_zero]
  | cons e l ih =>
    have h1 := h e (by simp)
    have h2 := ih (fun d hd => h d (by simp [hd]))
    simp only [val, List.length_cons]
    rw [pw_succ]
    omega
theorem take_succ_getD (l : List Int) (k : Nat) (hk : k < l.length) : l.take (k + 1) = l.take k ++ [l.getD k 0] := by
  rw [List.take_succ_eq_append_getElem hk, List.getD_eq_getElem?_getD, List.getElem?_eq_getElem hk]
  rfl
theorem val_take_succ (l : List Int) (k : Nat) : val (l.take (k + 1)) = val (l.take k) + pw k * l.getD k 0 := by
  by_cases hk : k < l.length
  · rw [take_succ_getD l k hk, val_snoc, List.length_take, Nat.min_eq_left (by omega)]
  · rw [List.take_of_length_le (by omega), List.take_of_length_le (by omega), List.getD_eq_getElem?_getD, List.getElem?_eq_none (by omega)]
    simp
theorem dig_take {l : List Int} (h : Dig l) (k : Nat) : Dig (l.take k) := fun d hd => h d (List.mem_of_mem_take hd)
theorem dig_drop {l : List Int} (h : Dig l) (k : Nat) : Dig (l.drop k) := fun d hd => h d (List.mem_of_mem_drop hd)
theorem val_take_all {l : List Int} {k : Nat} (h : l.length ≤ k) : val (l.take k) = val l := by rw [List.take_of_length_le h]
theorem val_split (l : List Int) (k : Nat) : val l = val (l.take k) + pw k * val (l.drop k) := by
  induction k with
  | zero => simp [val, pw_zero]
  | succ k ih =>
    rw [val_take_succ, pw_succ]
    have : val (l.drop k) = l.getD k 0 + 65536 * val (l.drop (k + 1)) := by
      by_cases hk : k < l.length
      · rw [List.drop_eq_getElem_cons hk]
        simp only [val]
        rw [List.getD_eq_getElem?_getD, List.getElem?_eq_getElem hk]
        rfl
      · rw [List.drop_of_length_le (by omega), List.drop_of_length_le (by omega), List.getD_eq_getElem?_getD, List.getElem?_eq_none (by omega)]
        simp [val]
    rw [this, Int.mul_add] at ih
    rw [Int.mul_comm 65536 (pw k), Int.mul_assoc]
    omega
theorem val_drop_succ (l : List Int) (k : Nat) : val (l.drop k) = l.getD k 0 + 65536 * val (l.drop (k + 1)) := by
  by_cases hk : k < l.length
  · rw [List.drop_eq_getElem_cons hk]
    simp only [val]
    rw [List.getD_eq_getElem?_getD, List.getElem?_eq_getElem hk]
    rfl
  · rw [List.drop_of_length_le (by omega), List.drop_of_length_le (by omega), List.getD_eq_getElem?_getD, List.getElem?_eq_none (by omega)]
    simp [val]
theorem carry_num (P s : Int) : P * (s % 65536) + s / 65536 * (65536 * P) = P * s := by
  have e : s / 65536 * (65536 * P) = P * (65536 * (s / 65536)) := by rw [Int.mul_comm, Int.mul_comm 65536 P, Int.mul_assoc]
  rw [e, ← Int.mul_add]
  congr 1
  omega

/-! ### sums -/
/-- what holds at each round's head of Plus -/
def PlusInv (A B out : List Int) (k : Nat) (c : Int) : Prop :=
  out.length = k ∧ Dig out ∧ 0 ≤ c ∧ c ≤ 1 ∧ val out + c * pw k = val (A.take k) + val (B.take k)
theorem plus_start (A B : List Int) : PlusInv A B [] 0 0 := ⟨rfl, dig_nil, by omega, by omega, by simp [val]⟩
theorem plus_step {A B out : List Int} {k : Nat} {c x y s : Int} (h : PlusInv A B out k c) (hA : Dig A) (hB : Dig B) (hx : x = A.getD k 0) (hy : y = B.getD k 0) (hs : s = c + x + y) :
    PlusInv A B (out ++ [s % 65536]) (k + 1) (s / 65536) := by
  obtain ⟨h1, h2, h3, h4, h5⟩ := h
  have a := dig_getD hA k
  have b := dig_getD hB k
  rw [← hx] at a
  rw [← hy] at b
  refine ⟨by simp [h1], dig_snoc h2 (by omega) (by omega), by omega, by omega, ?_⟩
  rw [val_snoc, h1, val_take_succ, val_take_succ, ← hx, ← hy, pw_succ]
  have cn := carry_num (pw k) s
  have e : pw k * s = c * pw k + pw k * x + pw k * y := by rw [hs, Int.mul_add, Int.mul_add, Int.mul_comm (pw k) c]
  omega
theorem plus_end {A B out : List Int} {k : Nat} (h : PlusInv A B out k 0) (ha : A.length ≤ k) (hb : B.length ≤ k) : val out = val A + val B := by
  have := h.2.2.2.2
  rw [val_take_all ha, val_take_all hb] at this
  omega

/-! ### differences -/
def MinusInv (A B out : List Int) (k : Nat) (c : Int) : Prop :=
  out.length = k ∧ Dig out ∧ 0 ≤ c ∧ c ≤ 1 ∧ val out = val (A.take k) - val (B.take k) + c * pw k
theorem minus_start (A B : List Int) : MinusInv A B [] 0 0 := ⟨rfl, dig_nil, by omega, by omega, by simp [val]⟩
theorem minus_step {A B out : List Int} {k : Nat} {c x y d n : Int} (h : MinusInv A B out k c) (hA : Dig A) (hB : Dig B) (hx : x = A.getD k 0) (hy : y = B.getD k 0)
    (hn : (c + y ≤ x ∧ d = x - (c + y) ∧ n = 0) ∨ (x < c + y ∧ d = x + 65536 - (c + y) ∧ n = 1)) :
    MinusInv A B (out ++ [d]) (k + 1) n := by
  obtain ⟨h1, h2, h3, h4, h5⟩ := h
  have a := dig_getD hA k
  have b := dig_getD hB k
  rw [← hx] at a
  rw [← hy] at b
  refine ⟨by simp [h1], dig_snoc h2 (by omega) (by omega), by omega, by omega, ?_⟩
  rw [val_snoc, h1, val_take_succ, val_take_succ, ← hx, ← hy, pw_succ]
  rcases hn with ⟨q1, rfl, rfl⟩ | ⟨q1, rfl, rfl⟩
  · rw [Int.mul_sub, Int.mul_add, Int.mul_comm (pw k) c]; omega
  · rw [Int.mul_sub, Int.mul_add, Int.mul_add, Int.mul_comm (pw k) c]; omega
theorem minus_end {A B out : List Int} {k : Nat} {c : Int} (h : MinusInv A B out k c) (hA : Dig A) (hB : Dig B) (ha : A.length = k) (hle : val B ≤ val A) : val out = val A - val B := by
  obtain ⟨h1, h2, h3, h4, h5⟩ := h
  rw [val_take_all (by omega)] at h5
  have bo := val_bd h2
  have ba := val_bd hA
  have sp := val_split B k
  have bt := val_bd (dig_take hB k)
  have bd := val_bd (dig_drop hB k)
  rw [h1] at bo
  rw [ha] at ba
  have hp := pw_pos k
  have hz : val (B.drop k) = 0 := by
    by_cases hz : val (B.drop k) = 0
    · exact hz
    · have : pw k * 1 ≤ pw k * val (B.drop k) := Int.mul_le_mul_of_nonneg_left (by omega) (by omega)
      omega
  rw [hz] at sp
  by_cases hc : c = 0
  · subst hc; omega
  · have : c = 1 := by omega
    subst this; omega

/-! ### order -/
theorem order_lt {A B : List Int} {j : Nat} (hA : Dig A) (hB : Dig B) (hd : val (A.drop (j + 1)) = val (B.drop (j + 1))) (hx : A.getD j 0 < B.getD j 0) : val A < val B := by
  rw [val_split A j, val_split B j, val_drop_succ A j, val_drop_succ B j, hd]
  have ha := val_bd (dig_take hA j)
  have hb := val_bd (dig_take hB j)
  have hl : pw (A.take j).length ≤ pw j := pw_mono (by simp; omega)
  have hm : pw j * (A.getD j 0 + 65536 * val (B.drop (j + 1)) + 1) ≤ pw j * (B.getD j 0 + 65536 * val (B.drop (j + 1))) := Int.mul_le_mul_of_nonneg_left (by omega) (by have := pw_pos j; omega)
  rw [Int.mul_add (pw j) _ 1] at hm
  omega
theorem order_same {A B : List Int} {j : Nat} (hd : val (A.drop (j + 1)) = val (B.drop (j + 1))) (hx : A.getD j 0 = B.getD j 0) : val (A.drop j) = val (B.drop j) := by
  rw [val_drop_succ A j, val_drop_succ B j, hd, hx]

/-! ### products -/
def RowInv (Y row : List Int) (i k : Nat) (x c : Int) : Prop :=
  row.length = i + k ∧ Dig row ∧ 0 ≤ c ∧ c < 65536 ∧ val row + c * pw (i + k) = pw i * (x * val (Y.take k))
theorem row_start (Y : List Int) (i : Nat) (x : Int) : RowInv Y (List.replicate i 0) i 0 x 0 :=
  ⟨by simp, dig_zeros i, by omega, by omega, by rw [val_zeros]; simp [val]⟩
theorem row_prod {x y c : Int} (hx : 0 ≤ x) (hx' : x < 65536) (hy : 0 ≤ y) (hy' : y < 65536) (hc : 0 ≤ c) (hc' : c < 65536) : 0 ≤ x * y ∧ x * y ≤ 4294836225 ∧ 0 ≤ x * y + c ∧ x * y + c < 4294967296 := by
  have := Int.mul_le_mul (show x ≤ 65535 by omega) (show y ≤ 65535 by omega) hy (by omega)
  have := Int.mul_nonneg hx hy
  omega
theorem row_step {Y row : List Int} {i k : Nat} {x c y t : Int} (h : RowInv Y row i k x c) (hY : Dig Y) (hx : 0 ≤ x) (hx' : x < 65536) (hy : y = Y.getD k 0) (ht : t = x * y + c) :
    RowInv Y (row ++ [t % 65536]) i (k + 1) x (t / 65536) := by
  obtain ⟨h1, h2, h3, h4, h5⟩ := h
  have b := dig_getD hY k
  rw [← hy] at b
  have hp := row_prod hx hx' b.1 b.2 h3 h4
  rw [← ht] at hp
  refine ⟨by simp [h1]; omega, dig_snoc h2 (by omega) (by omega), by omega, by omega, ?_⟩
  rw [val_snoc, h1, val_take_succ, ← hy, ← Nat.add_assoc, pw_succ]
  have cn := carry_num (pw (i + k)) t
  have e : pw (i + k) * t = pw (i + k) * (x * y) + c * pw (i + k) := by rw [ht, Int.mul_add, Int.mul_comm _ c]
  have e2 : pw i * (x * (val (Y.take k) + pw k * y)) = pw i * (x * val (Y.take k)) + pw (i + k) * (x * y) := by
    rw [Int.mul_add, Int.mul_add, pw_add]
    congr 1
    rw [Int.mul_left_comm x, ← Int.mul_assoc (pw i)]
  rw [e2]
  omega
theorem row_end {Y row : List Int} {i : Nat} {x c : Int} (h : RowInv Y row i Y.length x c) : val (row ++ [c]) = pw i * (x * val Y) ∧ Dig (row ++ [c]) ∧ (row ++ [c]).length = i + Y.length + 1 := by
  obtain ⟨h1, h2, h3, h4, h5⟩ := h
  rw [val_take_all (Nat.le_refl _)] at h5
  refine ⟨?_, dig_snoc h2 h3 h4, by simp [h1]⟩
  rw [val_snoc, h1, Int.mul_comm _ c]
  exact h5
theorem times_step {X Y : List Int} {i : Nat} {o r : Int} (ho : o = val (X.take i) * val Y) (hr : r = pw i * (X.getD i 0 * val Y)) : o + r = val (X.take (i + 1)) * val Y := by
  rw [val_take_succ, Int.add_mul, ho, hr, Int.mul_assoc]
end Go.Proofs.Ytdgmndjofbdgeaa
