/- Plain numbers: what fits 64 bits; what sums, quotients and rests are. No program is met here. -/
import Derived.WalkKit
import Derived.Deep.DrawnRows
import Derived.Deep.RegionHeld
import Derived.Deep.RegionHeld3
namespace Go.Proofs.Ytjincjlalopbfaa
open Go.RowKit
set_option linter.unusedVariables false

theorem hide {p : Prop} (h : p) : Hid p := h
theorem unhide {p : Prop} (h : Hid p) : p := h
/-- nothing that was there has turned; there may be new blocks -/
def Keep (w w' : World) : Prop := Below w.heap.size w w'
theorem Keep.refl (w : World) : Keep w w := Below.refl _ _
theorem Keep.trans {a b c : World} (h : Keep a b) (k : Keep b c) : Keep a c := Below.trans h (Below.mono k h.size)
theorem Keep.drew {a b : World} (h : Keep a b) : Keep a b.drew := Below.drew h
theorem Keep.alloc {a b : World} (h : Keep a b) (o : Obj) : Keep a (b.alloc o) := Below.alloc h h.size o
/-- does a number fit 64 bits with a sign? -/
def fit (n : Int) : Bool := decide (-9223372036854775808 ≤ n ∧ n ≤ 9223372036854775807)
/-- the answer for an exact number: itself where it fits, else nought -/
def ans (n : Int) : Int := if fit n then n else 0
/-- the error for an exact number: none where it fits, else 2 (it does not fit) -/
def err (n : Int) : Int := if fit n then 0 else 2
theorem fit_yes {n : Int} (h1 : -9223372036854775808 ≤ n) (h2 : n ≤ 9223372036854775807) : fit n = true := by simp [fit]; omega
theorem fit_no {n : Int} (h1 : n < -9223372036854775808 ∨ 9223372036854775807 < n) : fit n = false := by simp [fit]; omega
theorem ans_yes {n : Int} (h1 : -9223372036854775808 ≤ n) (h2 : n ≤ 9223372036854775807) : ans n = n := by simp [ans, fit_yes h1 h2]
theorem err_yes {n : Int} (h1 : -9223372036854775808 ≤ n) (h2 : n ≤ 9223372036854775807) : err n = 0 := by simp [err, fit_yes h1 h2]
theorem ans_no {n : Int} (h1 : n < -9223372036854775808 ∨ 9223372036854775807 < n) : ans n = 0 := by simp [ans, fit_no h1]
theorem err_no {n : Int} (h1 : n < -9223372036854775808 ∨ 9223372036854775807 < n) : err n = 2 := by simp [err, fit_no h1]
theorem one_ret {k : IntKind} {a b : Int} (h : a = b) : Ending.returned (.int k a) = .returned (.int k b) := by rw [h]
theorem two_ret {a b c d : Int} (h1 : a = b) (h2 : c = d) : Ending.returned (.tuple #[.int .i64 a, .int .i64 c]) = .returned (.tuple #[.int .i64 b, .int .i64 d]) := by rw [h1, h2]

theorem add_no {a b : Int} (h1 : -9223372036854775808 ≤ a) (h2 : a ≤ 9223372036854775807) (h3 : -9223372036854775808 ≤ b) (h4 : b ≤ 9223372036854775807)
    (hs : a < 0 ↔ b < 0) (h : (!decide (wrap64 (a + b) < 0) == decide (b < 0)) = true) : a + b < -9223372036854775808 ∨ 9223372036854775807 < a + b := by
  by_cases hb : b < 0 <;> simp [hb, wrap64] at h hs <;> omega
theorem wrap_in {n : Int} (h : -9223372036854775808 ≤ n ∧ n ≤ 9223372036854775807) : wrap64 n = n := by unfold wrap64; omega
/-- how two numbers are to one another -/
def cm (x y : Int) : Int := if x = y then 0 else if x < y then -1 else 1

/-! ### products -/
theorem prod_bd {a b : Int} (h1 : -9223372036854775808 ≤ a) (h2 : a ≤ 9223372036854775807) (h3 : -9223372036854775808 ≤ b) (h4 : b ≤ 9223372036854775807) :
    -85070591730234615865843651857942052864 ≤ a * b ∧ a * b ≤ 85070591730234615865843651857942052864 := by
  have e := Int.natAbs_mul a b
  have m : a.natAbs * b.natAbs ≤ 9223372036854775808 * 9223372036854775808 := Nat.mul_le_mul (by omega) (by omega)
  generalize a.natAbs * b.natAbs = u at e m
  omega
theorem agg_ret {a b c d : Int} (h1 : a = b) (h2 : c = d) : Ending.returned (.agg #[.int .i64 a, .int .u64 c]) = .returned (.agg #[.int .i64 b, .int .u64 d]) := by rw [h1, h2]
/-- the two halves of a number of 128 bits -/
def hiOf (x : Int) : Int := x / 18446744073709551616
def loOf (x : Int) : Int := x % 18446744073709551616
theorem halves (x : Int) : x = hiOf x * 18446744073709551616 + loOf x ∧ 0 ≤ loOf x ∧ loOf x < 18446744073709551616 := by unfold hiOf loOf; omega
theorem halves_one {x H L : Int} (h : x = H * 18446744073709551616 + L) (h0 : 0 ≤ L) (h1 : L < 18446744073709551616) : hiOf x = H ∧ loOf x = L := by unfold hiOf loOf; omega
theorem two_up (a b : Int) : (a + 18446744073709551616) * (b + 18446744073709551616) = a * b + 18446744073709551616 * (a + b) + 340282366920938463463374607431768211456 := by
  rw [Int.add_mul, Int.mul_add, Int.mul_add]; omega
theorem one_up (a b : Int) : (a + 18446744073709551616) * b = a * b + 18446744073709551616 * b := by rw [Int.add_mul]
theorem one_up' (a b : Int) : a * (b + 18446744073709551616) = a * b + 18446744073709551616 * a := by rw [Int.mul_add]; omega
theorem wrapu_neg {a : Int} (h1 : -9223372036854775808 ≤ a) (h : a < 0) : IntKind.u64.wrap a = a + 18446744073709551616 := by rw [IntKind.wrap_u64]; omega
/-- how a frame is laid out, under short names -/
theorem Ya {α : Type} (l : List α) (i : Nat) (a : α) : l.toArray.setIfInBounds i a = (l.set i a).toArray := List.setIfInBounds_toArray ..
theorem Yb {α : Type} {x y : α} {xs : List α} : (x :: xs).set 0 y = y :: xs := List.set_cons_zero
theorem Yc {α : Type} {x y : α} {n : Nat} {xs : List α} : (x :: xs).set (n + 1) y = x :: xs.set n y := List.set_cons_succ
theorem uq {p : Prop} (h : Hid p) : p := h
end Go.Proofs.Ytjincjlalopbfaa

namespace Go.Proofs.Ytjincjlalopbfaa
section
variable {P : Program} {ops : Array Oper} {Q : Exit → Act → World → Prop} {md : Region.Mode} {S : World → Prop}
theorem tkk (i d : Nat) {oi : Oper} {v : Value} {fuel : Nat} {listed : Array Bool} {a : Act} {w : World} (hS : S w) (h : wpAnyH P md ops Q S fuel (listed.setIfInBounds i true) (a.put (some d) v) w)
    (hi : ops[i]? = some oi := by rfl) (hd : oi.dst = some d := by rfl) (hs : Region.noSelect ops = true := by kernel_rfl) (hf : Region.free md ops listed i = true := by kernel_rfl) (hr : (Region.ready md ops listed).contains i = true := by kernel_rfl)
    (hQ : ∀ c a w, Q (.panic c) (a.put oi.dst v) w → Q (.panic c) a w := by exact fun _ _ _ h => h) (hy : YieldsIf P ops S oi v a := by exact Or.inl ⟨by rfl, by intro w hSw; (try dsimp only at hSw); go_simp; (try with_reducible rfl)⟩) : wpAnyH P md ops Q S (fuel + 1) listed a w :=
  wpAnyH_take hi hs hf hr hQ hy hS (hd ▸ h)
theorem rdyy (i : Nat) {fuel : Nat} {listed : Array Bool} {a : Act} {w : World} {o : Oper}
    (h : ∀ K' : Act → World → Prop, Shut (∀ a w, S w → (S w → wpAnyH P md ops Q S fuel (listed.setIfInBounds i true) a w) → K' a w) → if Region.wanted o (yielded ops a.tmps) = true then Oper.wp P o a w K' Q else K' (a.put o.dst undef) w)
    (ho : ops[i]? = some o := by rfl) (hr : Region.ready md ops listed = [i] := by kernel_rfl) : wpAnyH P md ops Q S (fuel + 1) listed a w :=
  wpAnyH_ready hr (by simp) (AllReadyH.cons ho h AllReadyH.nil)
end
end Go.Proofs.Ytjincjlalopbfaa

namespace Go.Proofs.Ytjincjlalopbfaa
set_option linter.unusedVariables false
/-- what a byte does -/
def kd (c : Int) : Int :=
  if c = 32 ∨ c = 9 ∨ c = 13 then 1 else if c = 10 then 2 else if c = 35 then 3 else if c = 95 then 6
  else if c = 123 ∨ c = 125 ∨ c = 44 ∨ c = 59 ∨ c = 58 ∨ c = 47 ∨ c = 45 then 7
  else if 97 ≤ c ∧ c ≤ 122 then 4 else if 48 ≤ c ∧ c ≤ 57 then 5 else 0
/-- does a byte of the second kind go on with what one of the first begins? -/
def on (f n : Int) : Bool :=
  if f = 3 then decide (n ≠ 2) else if f = 4 then decide (n = 4 ∨ n = 6 ∨ n = 5) else if f = 5 then decide (n = 5) else false
theorem on_iff (f n : Int) : on f n = true ↔ (f = 3 ∧ n ≠ 2) ∨ (f = 4 ∧ (n = 4 ∨ n = 6 ∨ n = 5)) ∨ (f = 5 ∧ n = 5) := by
  unfold on
  (repeat' split) <;> simp <;> omega
/-- how many bytes at the front have it -/
def tw (P : UInt8 → Bool) (l : List UInt8) : Nat := (l.takeWhile P).length
theorem tw_step (P : UInt8 → Bool) (l : List UInt8) (k : Nat) (h : k < l.length) : tw P (l.drop k) = if P (l.getD k 0) then 1 + tw P (l.drop (k + 1)) else 0 := by
  unfold tw
  rw [List.drop_eq_getElem_cons h, List.takeWhile_cons, List.getD_eq_getElem?_getD, List.getElem?_eq_getElem h, Option.getD_some]
  split <;> simp <;> omega
theorem tw_end (P : UInt8 → Bool) (l : List UInt8) (k : Nat) (h : l.length ≤ k) : tw P (l.drop k) = 0 := by
  unfold tw
  rw [List.drop_eq_nil_of_le h]; rfl
theorem tw_le (P : UInt8 → Bool) (l : List UInt8) : tw P l ≤ l.length := List.Sublist.length_le (List.takeWhile_sublist P)
/-- what goes on with a byte -/
def goes (c : UInt8) (x : UInt8) : Bool := on (kd c.toNat) (kd x.toNat)
/-- how long what begins here is -/
def en : List UInt8 → Nat
  | [] => 0
  | c :: r => 1 + tw (goes c) r
theorem en_at (l : List UInt8) (k : Nat) (h : k < l.length) : en (l.drop k) = 1 + tw (goes (l.getD k 0)) (l.drop (k + 1)) := by
  rw [List.drop_eq_getElem_cons h, List.getD_eq_getElem?_getD, List.getElem?_eq_getElem h, Option.getD_some]; rfl
theorem en_le (l : List UInt8) : en l ≤ l.length := by
  cases l with
  | nil => exact Nat.le_refl _
  | cons c r => have := tw_le (goes c) r; simp [en]; omega
theorem kd_1 (c : Int) : kd c = 1 ↔ (c = 32 ∨ c = 9 ∨ c = 13) := by unfold kd; (repeat' split) <;> omega
theorem kd_2 (c : Int) : kd c = 2 ↔ c = 10 := by unfold kd; (repeat' split) <;> omega
theorem kd_3 (c : Int) : kd c = 3 ↔ c = 35 := by unfold kd; (repeat' split) <;> omega
theorem kd_6 (c : Int) : kd c = 6 ↔ c = 95 := by unfold kd; (repeat' split) <;> omega
theorem kd_7 (c : Int) : kd c = 7 ↔ (c = 123 ∨ c = 125 ∨ c = 44 ∨ c = 59 ∨ c = 58 ∨ c = 47 ∨ c = 45) := by unfold kd; (repeat' split) <;> omega
theorem kd_4 (c : Int) : kd c = 4 ↔ (97 ≤ c ∧ c ≤ 122) := by unfold kd; (repeat' split) <;> omega
theorem kd_5 (c : Int) : kd c = 5 ↔ (48 ≤ c ∧ c ≤ 57) := by unfold kd; (repeat' split) <;> omega
/-- how many bytes are passed over (b: within a remark) -/
def skp : Bool → List UInt8 → Nat
  | _, [] => 0
  | true, c :: r => 1 + skp (decide (kd c.toNat ≠ 2)) r
  | false, c :: r => if kd c.toNat = 3 then 1 + skp true r else if kd c.toNat = 1 ∨ kd c.toNat = 2 then 1 + skp false r else 0
theorem skp_le : ∀ (b : Bool) (l : List UInt8), skp b l ≤ l.length
  | b, [] => by cases b <;> exact Nat.le_refl _
  | true, c :: r => by have := skp_le (decide (kd c.toNat ≠ 2)) r; simp only [skp, List.length_cons]; omega
  | false, c :: r => by
    have h1 := skp_le true r
    have h2 := skp_le false r
    simp only [skp, List.length_cons]
    (repeat' split) <;> omega
theorem tw_none {P : UInt8 → Bool} {l : List UInt8} (h : ∀ x, P x = false) : tw P l = 0 := by
  unfold tw
  cases l with
  | nil => rfl
  | cons c r => rw [List.takeWhile_cons]; simp [h]
theorem drop_at (l : List UInt8) (k : Nat) (h : k < l.length) : l.drop k = l.getD k 0 :: l.drop (k + 1) := by
  rw [List.drop_eq_getElem_cons h, List.getD_eq_getElem?_getD, List.getElem?_eq_getElem h, Option.getD_some]
/-- the place behind what is passed over, from a place on -/
def sk (b : Bool) (l : List UInt8) (k : Nat) : Nat := k + skp b (l.drop k)
theorem sk_end (b : Bool) (l : List UInt8) (k : Nat) (h : l.length ≤ k) : sk b l k = k := by
  unfold sk; rw [List.drop_eq_nil_of_le h]; cases b <;> rfl
theorem sk_stop (l : List UInt8) (k : Nat) (h : k < l.length) (hk : ¬ (kd (l.getD k 0).toNat = 1 ∨ kd (l.getD k 0).toNat = 2 ∨ kd (l.getD k 0).toNat = 3)) : sk false l k = k := by
  unfold sk
  rw [drop_at l k h]
  simp only [skp]
  rw [if_neg (fun h => hk (.inr (.inr h))), if_neg (fun h => hk (h.elim .inl fun h => .inr (.inl h)))]
  rfl
theorem sk_t10 (l : List UInt8) (k : Nat) (h : k < l.length) (hk : kd (l.getD k 0).toNat = 2) : sk true l k = sk false l k := by
  unfold sk
  rw [drop_at l k h]
  generalize l.getD k 0 = c at hk ⊢
  simp [skp, hk]
theorem sk_tgo (l : List UInt8) (k : Nat) (h : k < l.length) (hk : kd (l.getD k 0).toNat ≠ 2) : sk true l (k + 1) = sk true l k := by
  unfold sk
  rw [drop_at l k h]
  simp only [skp, hk, ne_eq, not_false_eq_true, decide_true]
  omega
theorem sk_hash (l : List UInt8) (k : Nat) (h : k < l.length) (hk : kd (l.getD k 0).toNat = 3) : sk true l k = sk false l k := by
  unfold sk
  rw [drop_at l k h]
  generalize l.getD k 0 = c at hk ⊢
  simp [skp, hk]
theorem sk_blank (l : List UInt8) (k : Nat) (h : k < l.length) (hk : kd (l.getD k 0).toNat = 1 ∨ kd (l.getD k 0).toNat = 2) : sk false l (k + 1) = sk false l k := by
  unfold sk
  rw [drop_at l k h]
  simp only [skp]
  rw [if_neg (by omega), if_pos hk]
  omega
theorem sk_le (b : Bool) (l : List UInt8) (k : Nat) (h : k ≤ l.length) : sk b l k ≤ l.length := by
  have := skp_le b (l.drop k)
  rw [List.length_drop] at this
  unfold sk; omega
theorem sk_ge (b : Bool) (l : List UInt8) (k : Nat) : k ≤ sk b l k := by unfold sk; omega
end Go.Proofs.Ytjincjlalopbfaa
