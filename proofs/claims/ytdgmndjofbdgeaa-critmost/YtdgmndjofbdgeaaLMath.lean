/- Plain numbers: what fits 64 bits; what sums, quotients and rests are. No program is met here. -/
import Derived.WalkKit
import Derived.Deep.DrawnRows
import Derived.Deep.RegionHeld
import Derived.Deep.RegionHeld3
namespace Go.Proofs.Ytdgmndjofbdgeaa
open Go.RowKit
set_option linter.unusedVariables false

theorem hide {p : Prop} (h : p) : Hid p := h
theorem unhide {p : Prop} (h : Hid p) : p := h
/-- nothing that was there has turned; there may be new blocks -/
def Keep (w w' : World) : Prop := Below w.heap.size w w'
theorem Keep.refl (w : World) : Keep w w := Below.refl _ _
theorem Keep.trans {a b c : World} (h : Keep a b) (k : Keep b c) : Keep a c := Below.trans h (Below.mono k h.size)
theorem Keep.drew {a b : World} (h : Keep a b) : Keep a b.drew := Below.drew h
theorem Keep.alloc {a b : World} (h : Keep a b) (o : Obj) : Keep a (b.alloc o) := Below.alloc h h.size o
/-- does a number fit 64 bits with a sign? -/
def fit (n : Int) : Bool := decide (-9223372036854775808 ≤ n ∧ n ≤ 9223372036854775807)
/-- the answer for an exact number: itself where it fits, else nought -/
def ans (n : Int) : Int := if fit n then n else 0
/-- the error for an exact number: none where it fits, else 2 (it does not fit) -/
def err (n : Int) : Int := if fit n then 0 else 2
theorem fit_yes {n : Int} (h1 : -9223372036854775808 ≤ n) (h2 : n ≤ 9223372036854775807) : fit n = true := by simp [fit]; omega
theorem fit_no {n : Int} (h1 : n < -9223372036854775808 ∨ 9223372036854775807 < n) : fit n = false := by simp [fit]; omega
theorem ans_yes {n : Int} (h1 : -9223372036854775808 ≤ n) (h2 : n ≤ 9223372036854775807) : ans n = n := by simp [ans, fit_yes h1 h2]
theorem err_yes {n : Int} (h1 : -9223372036854775808 ≤ n) (h2 : n ≤ 9223372036854775807) : err n = 0 := by simp [err, fit_yes h1 h2]
theorem ans_no {n : Int} (h1 : n < -9223372036854775808 ∨ 9223372036854775807 < n) : ans n = 0 := by simp [ans, fit_no h1]
theorem err_no {n : Int} (h1 : n < -9223372036854775808 ∨ 9223372036854775807 < n) : err n = 2 := by simp [err, fit_no h1]
theorem one_ret {k : IntKind} {a b : Int} (h : a = b) : Ending.returned (.int k a) = .returned (.int k b) := by rw [h]
theorem two_ret {a b c d : Int} (h1 : a = b) (h2 : c = d) : Ending.returned (.tuple #[.int .i64 a, .int .i64 c]) = .returned (.tuple #[.int .i64 b, .int .i64 d]) := by rw [h1, h2]

theorem wrap_in {n : Int} (h : -9223372036854775808 ≤ n ∧ n ≤ 9223372036854775807) : wrap64 n = n := by unfold wrap64; omega
/-- how two numbers are to one another -/
def cm (x y : Int) : Int := if x = y then 0 else if x < y then -1 else 1

theorem cm_le {x y : Int} : cm x y ≤ 0 ↔ x ≤ y := by
  unfold cm
  by_cases h : x = y
  · simp [h]
  · by_cases h2 : x < y
    · simp [h, h2]; omega
    · simp [h, h2]; omega
theorem cm_lt {x y : Int} : cm x y < 0 ↔ x < y := by
  unfold cm
  by_cases h : x = y
  · simp [h]
  · by_cases h2 : x < y
    · simp [h, h2]
    · simp [h, h2]


/-! ### products -/
theorem prod_bd {a b : Int} (h1 : -9223372036854775808 ≤ a) (h2 : a ≤ 9223372036854775807) (h3 : -9223372036854775808 ≤ b) (h4 : b ≤ 9223372036854775807) :
    -85070591730234615865843651857942052864 ≤ a * b ∧ a * b ≤ 85070591730234615865843651857942052864 := by
  have e := Int.natAbs_mul a b
  have m : a.natAbs * b.natAbs ≤ 9223372036854775808 * 9223372036854775808 := Nat.mul_le_mul (by omega) (by omega)
  generalize a.natAbs * b.natAbs = u at e m
  omega
theorem agg_ret {a b c d : Int} (h1 : a = b) (h2 : c = d) : Ending.returned (.agg #[.int .i64 a, .int .u64 c]) = .returned (.agg #[.int .i64 b, .int .u64 d]) := by rw [h1, h2]
/-- the two halves of a number of 128 bits -/
def hiOf (x : Int) : Int := x / 18446744073709551616
def loOf (x : Int) : Int := x % 18446744073709551616
theorem halves (x : Int) : x = hiOf x * 18446744073709551616 + loOf x ∧ 0 ≤ loOf x ∧ loOf x < 18446744073709551616 := by unfold hiOf loOf; omega
theorem halves_one {x H L : Int} (h : x = H * 18446744073709551616 + L) (h0 : 0 ≤ L) (h1 : L < 18446744073709551616) : hiOf x = H ∧ loOf x = L := by unfold hiOf loOf; omega
theorem two_up (a b : Int) : (a + 18446744073709551616) * (b + 18446744073709551616) = a * b + 18446744073709551616 * (a + b) + 340282366920938463463374607431768211456 := by
  rw [Int.add_mul, Int.mul_add, Int.mul_add]; omega
theorem one_up (a b : Int) : (a + 18446744073709551616) * b = a * b + 18446744073709551616 * b := by rw [Int.add_mul]
theorem one_up' (a b : Int) : a * (b + 18446744073709551616) = a * b + 18446744073709551616 * a := by rw [Int.mul_add]; omega
theorem wrapu_neg {a : Int} (h1 : -9223372036854775808 ≤ a) (h : a < 0) : IntKind.u64.wrap a = a + 18446744073709551616 := by rw [IntKind.wrap_u64]; omega
/-- how a frame is laid out, under short names -/
theorem Ya {α : Type} (l : List α) (i : Nat) (a : α) : l.toArray.setIfInBounds i a = (l.set i a).toArray := List.setIfInBounds_toArray ..
theorem Yb {α : Type} {x y : α} {xs : List α} : (x :: xs).set 0 y = y :: xs := List.set_cons_zero
theorem Yc {α : Type} {x y : α} {n : Nat} {xs : List α} : (x :: xs).set (n + 1) y = x :: xs.set n y := List.set_cons_succ
theorem uq {p : Prop} (h : Hid p) : p := h
end Go.Proofs.Ytdgmndjofbdgeaa

namespace Go.Proofs.Ytdgmndjofbdgeaa
section
variable {P : Program} {ops : Array Oper} {Q : Exit → Act → World → Prop} {md : Region.Mode} {S : World → Prop}
theorem tkk (i d : Nat) {oi : Oper} {v : Value} {fuel : Nat} {listed : Array Bool} {a : Act} {w : World} (hS : S w) (h : wpAnyH P md ops Q S fuel (listed.setIfInBounds i true) (a.put (some d) v) w)
    (hi : ops[i]? = some oi := by rfl) (hd : oi.dst = some d := by rfl) (hs : Region.noSelect ops = true := by kernel_rfl) (hf : Region.free md ops listed i = true := by kernel_rfl) (hr : (Region.ready md ops listed).contains i = true := by kernel_rfl)
    (hQ : ∀ c a w, Q (.panic c) (a.put oi.dst v) w → Q (.panic c) a w := by exact fun _ _ _ h => h) (hy : YieldsIf P ops S oi v a := by exact Or.inl ⟨by rfl, by intro w hSw; (try dsimp only at hSw); go_simp; (try with_reducible rfl)⟩) : wpAnyH P md ops Q S (fuel + 1) listed a w :=
  wpAnyH_take hi hs hf hr hQ hy hS (hd ▸ h)
theorem rdyy (i : Nat) {fuel : Nat} {listed : Array Bool} {a : Act} {w : World} {o : Oper}
    (h : ∀ K' : Act → World → Prop, Shut (∀ a w, S w → (S w → wpAnyH P md ops Q S fuel (listed.setIfInBounds i true) a w) → K' a w) → if Region.wanted o (yielded ops a.tmps) = true then Oper.wp P o a w K' Q else K' (a.put o.dst undef) w)
    (ho : ops[i]? = some o := by rfl) (hr : Region.ready md ops listed = [i] := by kernel_rfl) : wpAnyH P md ops Q S (fuel + 1) listed a w :=
  wpAnyH_ready hr (by simp) (AllReadyH.cons ho h AllReadyH.nil)
end
end Go.Proofs.Ytdgmndjofbdgeaa

namespace Go.Proofs.Ytdgmndjofbdgeaa
set_option linter.unusedVariables false
/-- what a byte does -/
def kd (c : Int) : Int :=
  if c = 32 ∨ c = 9 ∨ c = 13 then 1 else if c = 10 then 2 else if c = 35 then 3 else if c = 95 then 6
  else if c = 123 ∨ c = 125 ∨ c = 44 ∨ c = 59 ∨ c = 58 ∨ c = 47 ∨ c = 45 then 7
  else if 97 ≤ c ∧ c ≤ 122 then 4 else if 48 ≤ c ∧ c ≤ 57 then 5 else 0
/-- does a byte of the second kind go on with what one of the first begins? -/
def on (f n : Int) : Bool :=
  if f = 3 then decide (n ≠ 2) else if f = 4 then decide (n = 4 ∨ n = 6 ∨ n = 5) else if f = 5 then decide (n = 5) else false
/-- how many bytes at the front have it -/
def tw (P : UInt8 → Bool) (l : List UInt8) : Nat := (l.takeWhile P).length
/-- what goes on with a byte -/
def goes (c : UInt8) (x : UInt8) : Bool := on (kd c.toNat) (kd x.toNat)
/-- how long what begins here is -/
def en : List UInt8 → Nat
  | [] => 0
  | c :: r => 1 + tw (goes c) r
/-- how many bytes are passed over (b: within a remark) -/
def skp : Bool → List UInt8 → Nat
  | _, [] => 0
  | true, c :: r => 1 + skp (decide (kd c.toNat ≠ 2)) r
  | false, c :: r => if kd c.toNat = 3 then 1 + skp true r else if kd c.toNat = 1 ∨ kd c.toNat = 2 then 1 + skp false r else 0
end Go.Proofs.Ytdgmndjofbdgeaa
