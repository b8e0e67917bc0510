/- The tokens of bytes, in plain words: kinds of bytes, what is passed over, one token, all tokens. No program is met here. -/
import Derived.Test.YtmplckdpddmifaaGreatDoorNum
namespace Go.Proofs.YtmplckdpddmifaaGreatDoor
set_option linter.unusedVariables false
/-- what a byte does -/
def kd (c : Int) : Int :=
  if c = 32 ∨ c = 9 ∨ c = 13 then 1 else if c = 10 then 2 else if c = 35 then 3 else if c = 95 then 6
  else if c = 123 ∨ c = 125 ∨ c = 44 ∨ c = 59 ∨ c = 58 ∨ c = 47 ∨ c = 45 then 7
  else if 97 ≤ c ∧ c ≤ 122 then 4 else if 48 ≤ c ∧ c ≤ 57 then 5 else 0
/-- does a byte of the second kind go on with what one of the first begins? -/
def on (f n : Int) : Bool :=
  if f = 3 then decide (n ≠ 2) else if f = 4 then decide (n = 4 ∨ n = 6 ∨ n = 5) else if f = 5 then decide (n = 5) else false
theorem on_iff (f n : Int) : on f n = true ↔ (f = 3 ∧ n ≠ 2) ∨ (f = 4 ∧ (n = 4 ∨ n = 6 ∨ n = 5)) ∨ (f = 5 ∧ n = 5) := by
  unfold on
  (repeat' split) <;> simp <;> omega
theorem kd_bd (c : Int) : 0 ≤ kd c ∧ kd c ≤ 7 := by unfold kd; (repeat' split) <;> omega
/-- how many bytes at the front have it -/
def tw (P : UInt8 → Bool) (l : List UInt8) : Nat := (l.takeWhile P).length
theorem tw_step (P : UInt8 → Bool) (l : List UInt8) (k : Nat) (h : k < l.length) : tw P (l.drop k) = if P (l.getD k 0) then 1 + tw P (l.drop (k + 1)) else 0 := by
  unfold tw
  rw [List.drop_eq_getElem_cons h, List.takeWhile_cons, List.getD_eq_getElem?_getD, List.getElem?_eq_getElem h, Option.getD_some]
  split <;> simp <;> omega
theorem tw_end (P : UInt8 → Bool) (l : List UInt8) (k : Nat) (h : l.length ≤ k) : tw P (l.drop k) = 0 := by
  unfold tw
  rw [List.drop_eq_nil_of_le h]; rfl
theorem tw_le (P : UInt8 → Bool) (l : List UInt8) : tw P l ≤ l.length := List.Sublist.length_le (List.takeWhile_sublist P)
/-- what goes on with a byte -/
def goes (c : UInt8) (x : UInt8) : Bool := on (kd c.toNat) (kd x.toNat)
/-- how long what begins here is -/
def en : List UInt8 → Nat
  | [] => 0
  | c :: r => 1 + tw (goes c) r
theorem en_at (l : List UInt8) (k : Nat) (h : k < l.length) : en (l.drop k) = 1 + tw (goes (l.getD k 0)) (l.drop (k + 1)) := by
  rw [List.drop_eq_getElem_cons h, List.getD_eq_getElem?_getD, List.getElem?_eq_getElem h, Option.getD_some]; rfl
theorem en_le (l : List UInt8) : en l ≤ l.length := by
  cases l with
  | nil => exact Nat.le_refl _
  | cons c r => have := tw_le (goes c) r; simp [en]; omega
theorem kd_1 (c : Int) : kd c = 1 ↔ (c = 32 ∨ c = 9 ∨ c = 13) := by unfold kd; (repeat' split) <;> omega
theorem kd_2 (c : Int) : kd c = 2 ↔ c = 10 := by unfold kd; (repeat' split) <;> omega
theorem kd_3 (c : Int) : kd c = 3 ↔ c = 35 := by unfold kd; (repeat' split) <;> omega
theorem kd_6 (c : Int) : kd c = 6 ↔ c = 95 := by unfold kd; (repeat' split) <;> omega
theorem kd_7 (c : Int) : kd c = 7 ↔ (c = 123 ∨ c = 125 ∨ c = 44 ∨ c = 59 ∨ c = 58 ∨ c = 47 ∨ c = 45) := by unfold kd; (repeat' split) <;> omega
theorem kd_4 (c : Int) : kd c = 4 ↔ (97 ≤ c ∧ c ≤ 122) := by unfold kd; (repeat' split) <;> omega
theorem kd_5 (c : Int) : kd c = 5 ↔ (48 ≤ c ∧ c ≤ 57) := by unfold kd; (repeat' split) <;> omega
/-- how many bytes are passed over (b: within a remark) -/
def skp : Bool → List UInt8 → Nat
  | _, [] => 0
  | true, c :: r => 1 + skp (decide (kd c.toNat ≠ 2)) r
  | false, c :: r => if kd c.toNat = 3 then 1 + skp true r else if kd c.toNat = 1 ∨ kd c.toNat = 2 then 1 + skp false r else 0
theorem skp_le : ∀ (b : Bool) (l : List UInt8), skp b l ≤ l.length
  | b, [] => by cases b <;> exact Nat.le_refl _
  | true, c :: r => by have := skp_le (decide (kd c.toNat ≠ 2)) r; simp only [skp, List.length_cons]; omega
  | false, c :: r => by
    have h1 := skp_le true r
    have h2 := skp_le false r
    simp only [skp, List.length_cons]
    (repeat' split) <;> omega
theorem skp_true : ∀ r : List UInt8, skp true r = tw (fun x => on 3 (kd x.toNat)) r + skp false (r.drop (tw (fun x => on 3 (kd x.toNat)) r))
  | [] => rfl
  | c :: r => by
    have ih := skp_true r
    by_cases h : kd c.toNat = 2
    · have h0 : on 3 (kd c.toNat) = false := by rw [h]; decide
      have e : tw (fun x => on 3 (kd x.toNat)) (c :: r) = 0 := by unfold tw; rw [List.takeWhile_cons]; simp [h0]
      rw [e, List.drop_zero]
      simp [skp, h]
    · have h0 : on 3 (kd c.toNat) = true := by rw [on_iff]; exact .inl ⟨rfl, h⟩
      have e : tw (fun x => on 3 (kd x.toNat)) (c :: r) = 1 + tw (fun x => on 3 (kd x.toNat)) r := by unfold tw; rw [List.takeWhile_cons]; simp [h0]; omega
      rw [e, Nat.add_comm 1 (tw _ r), List.drop_succ_cons]
      simp only [skp, ne_eq, h, not_false_eq_true, decide_true]
      omega
theorem tw_none {P : UInt8 → Bool} {l : List UInt8} (h : ∀ x, P x = false) : tw P l = 0 := by
  unfold tw
  cases l with
  | nil => rfl
  | cons c r => rw [List.takeWhile_cons]; simp [h]
theorem skp_en {c : UInt8} {r : List UInt8} (h : kd c.toNat = 1 ∨ kd c.toNat = 2 ∨ kd c.toNat = 3) : skp false (c :: r) = en (c :: r) + skp false ((c :: r).drop (en (c :: r))) := by
  rcases h with h | h | h
  · have e : tw (goes c) r = 0 := tw_none fun x => by unfold goes; rw [h]; unfold on; simp
    simp [en, e, skp, h]
  · have e : tw (goes c) r = 0 := tw_none fun x => by unfold goes; rw [h]; unfold on; simp
    simp [en, e, skp, h]
  · have e : goes c = fun x => on 3 (kd x.toNat) := by funext x; unfold goes; rw [h]
    have := skp_true r
    simp only [en, e, skp, h, if_true, Nat.add_comm 1 (tw _ r), List.drop_succ_cons]
    omega
theorem drop_at (l : List UInt8) (k : Nat) (h : k < l.length) : l.drop k = l.getD k 0 :: l.drop (k + 1) := by
  rw [List.drop_eq_getElem_cons h, List.getD_eq_getElem?_getD, List.getElem?_eq_getElem h, Option.getD_some]
/-- the place behind what is passed over, from a place on -/
def sk (b : Bool) (l : List UInt8) (k : Nat) : Nat := k + skp b (l.drop k)
theorem sk_end (b : Bool) (l : List UInt8) (k : Nat) (h : l.length ≤ k) : sk b l k = k := by
  unfold sk; rw [List.drop_eq_nil_of_le h]; cases b <;> rfl
theorem sk_en (l : List UInt8) (k : Nat) (h : k < l.length) (hk : kd (l.getD k 0).toNat = 1 ∨ kd (l.getD k 0).toNat = 2 ∨ kd (l.getD k 0).toNat = 3) : sk false l (k + en (l.drop k)) = sk false l k := by
  unfold sk
  have e := drop_at l k h
  rw [← List.drop_drop, e, skp_en hk]
  omega
theorem sk_stop (l : List UInt8) (k : Nat) (h : k < l.length) (hk : ¬ (kd (l.getD k 0).toNat = 1 ∨ kd (l.getD k 0).toNat = 2 ∨ kd (l.getD k 0).toNat = 3)) : sk false l k = k := by
  unfold sk
  rw [drop_at l k h]
  simp only [skp]
  rw [if_neg (fun h => hk (.inr (.inr h))), if_neg (fun h => hk (h.elim .inl fun h => .inr (.inl h)))]
  rfl
theorem sk_t10 (l : List UInt8) (k : Nat) (h : k < l.length) (hk : kd (l.getD k 0).toNat = 2) : sk true l k = sk false l k := by
  unfold sk
  rw [drop_at l k h]
  generalize l.getD k 0 = c at hk ⊢
  simp [skp, hk]
theorem sk_tgo (l : List UInt8) (k : Nat) (h : k < l.length) (hk : kd (l.getD k 0).toNat ≠ 2) : sk true l (k + 1) = sk true l k := by
  unfold sk
  rw [drop_at l k h]
  simp only [skp, hk, ne_eq, not_false_eq_true, decide_true]
  omega
theorem sk_hash (l : List UInt8) (k : Nat) (h : k < l.length) (hk : kd (l.getD k 0).toNat = 3) : sk true l k = sk false l k := by
  unfold sk
  rw [drop_at l k h]
  generalize l.getD k 0 = c at hk ⊢
  simp [skp, hk]
theorem sk_blank (l : List UInt8) (k : Nat) (h : k < l.length) (hk : kd (l.getD k 0).toNat = 1 ∨ kd (l.getD k 0).toNat = 2) : sk false l (k + 1) = sk false l k := by
  unfold sk
  rw [drop_at l k h]
  simp only [skp]
  rw [if_neg (by omega), if_pos hk]
  omega
theorem sk_le (b : Bool) (l : List UInt8) (k : Nat) (h : k ≤ l.length) : sk b l k ≤ l.length := by
  have := skp_le b (l.drop k)
  rw [List.length_drop] at this
  unfold sk; omega
theorem sk_ge (b : Bool) (l : List UInt8) (k : Nat) : k ≤ sk b l k := by unfold sk; omega
end Go.Proofs.YtmplckdpddmifaaGreatDoor
