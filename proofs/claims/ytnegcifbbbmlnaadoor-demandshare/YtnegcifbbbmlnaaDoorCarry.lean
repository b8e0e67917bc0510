/- math/bits.Add64 and Sub64 over Int, at this program; halves added to and turned. -/
import Derived.Shelf.Spec.BitsCarry
import Derived.Test.YtnegcifbbbmlnaaDoorWholeB
import Derived.Test.YtnegcifbbbmlnaaDoorDiv
namespace Go.Proofs.YtnegcifbbbmlnaaDoor
open Go.RowKit
set_option linter.unusedVariables false

theorem add64_0 (x y : Int) (hx : 0 ≤ x) (hy : 0 ≤ y) (w : World) : (callFunc 99 #[.int .u64 x, .int .u64 y, .int .u64 0]).run Tryd.prog w =
    .ok (.value (.tuple #[.int .u64 ((x + y) % 18446744073709551616), .int .u64 ((x + y) / 18446744073709551616)])) w := by
  rw [run_callFunc_extern Tryd.func99 (by kernel_rfl) (by kernel_rfl) (by kernel_rfl) (e := add64Entry) (by kernel_rfl), run_add64 (P := Tryd.prog) x y 0 hx hy (by omega) (by omega) w]
  simp only [Result.andThen, Int.add_zero]
/-- the borrow of 0 - x - b -/
def bor (x b : Int) : Int := if 0 < x + b then 1 else 0
theorem sub64_any (y b : Int) (hy : 0 ≤ y) (hy' : y < 18446744073709551616) (hb : 0 ≤ b) (hb' : b ≤ 1) (w : World) : (callFunc 89 #[.int .u64 0, .int .u64 y, .int .u64 b]).run Tryd.prog w =
    .ok (.value (.tuple #[.int .u64 ((-y - b) % 18446744073709551616), .int .u64 (bor y b)])) w := by
  obtain ⟨y, rfl⟩ := Int.eq_ofNat_of_zero_le hy
  obtain ⟨b, rfl⟩ := Int.eq_ofNat_of_zero_le hb
  have h := run_sub64 (P := Tryd.prog) 0 y b (by omega) w
  have e1 : (((0 + 18446744073709551616 - y - b) % 18446744073709551616 : Nat) : Int) = (-(y : Int) - b) % 18446744073709551616 := by omega
  have e2 : ((if 0 < y + b then 1 else 0 : Nat) : Int) = bor y b := by unfold bor; split <;> split <;> omega
  rw [run_callFunc_extern Tryd.func89 (by kernel_rfl) (by kernel_rfl) (by kernel_rfl) (e := sub64Entry) (by kernel_rfl)]
  have h' : (sub64Entry #[.int .u64 0, .int .u64 y, .int .u64 b]).run Tryd.prog w = .ok (.tuple #[.int .u64 ((-(y : Int) - b) % 18446744073709551616), .int .u64 (bor y b)]) w := by
    rw [← e1, ← e2]; exact h
  rw [h']
  simp only [Result.andThen]
theorem sub64_0 (y : Int) (hy : 0 ≤ y) (hy' : y < 18446744073709551616) (w : World) : (callFunc 89 #[.int .u64 0, .int .u64 y, .int .u64 0]).run Tryd.prog w =
    .ok (.value (.tuple #[.int .u64 (-y % 18446744073709551616), .int .u64 (bor y 0)])) w := by
  have := sub64_any y 0 hy hy' (by omega) (by omega) w
  rw [show -y - 0 = -y by omega] at this
  exact this
theorem bor_bd (x b : Int) : 0 ≤ bor x b ∧ bor x b ≤ 1 := by unfold bor; split <;> omega

set_option maxHeartbeats 400000 in
theorem opposite_core (H L uH l b h : Int) (w : World) (g1 : -9223372036854775808 ≤ H) (g2 : H ≤ 9223372036854775807) (g3 : 0 ≤ L) (g4 : L < 18446744073709551616)
    (eH : IntKind.u64.wrap H = uH)
    (S1 : ∀ w, (callFunc 89 #[.int .u64 0, .int .u64 L, .int .u64 0]).run Tryd.prog w = .ok (.value (.tuple #[.int .u64 l, .int .u64 b])) w)
    (S2 : ∃ c, ∀ w, (callFunc 89 #[.int .u64 0, .int .u64 uH, .int .u64 b]).run Tryd.prog w = .ok (.value (.tuple #[.int .u64 h, .int .u64 c])) w) :
    Calls Tryd.prog 74 #[.agg #[.int .i64 H, .int .u64 L]] w fun e w' => e = .returned (.agg #[.int .i64 (wrap64 h), .int .u64 l]) ∧ Keep w w' := by
  obtain ⟨c, S2⟩ := S2
  go_enter Tryd.func74, Tryd.ntmps74
  go_wp2
  exact bodyPost_ret (v := .agg #[.int .i64 (wrap64 h), .int .u64 l]) (by simp [results, Tryd.results74, go_sem]) rfl ⟨rfl, ((Keep.refl _).alloc _).alloc _⟩
theorem opp_num {x : Int} (h1 : -85070591730234615865843651857942052864 ≤ x) (h2 : x ≤ 85070591730234615865843651857942052864) :
    wrap64 ((-IntKind.u64.wrap (hiOf x) - bor (loOf x) 0) % 18446744073709551616) = hiOf (-x) ∧ -loOf x % 18446744073709551616 = loOf (-x) := by
  unfold bor hiOf loOf wrap64
  rw [IntKind.wrap_u64]
  split <;> omega
theorem opposite_any (x : Int) (w : World) (h1 : -85070591730234615865843651857942052864 ≤ x) (h2 : x ≤ 85070591730234615865843651857942052864) :
    Calls Tryd.prog 74 #[.agg #[.int .i64 (hiOf x), .int .u64 (loOf x)]] w fun e w' => e = .returned (.agg #[.int .i64 (hiOf (-x)), .int .u64 (loOf (-x))]) ∧ Keep w w' := by
  have hb := halves x
  obtain ⟨g1, g2⟩ := hiOf_bd ⟨h1, h2⟩
  obtain ⟨n1, n2⟩ := opp_num h1 h2
  have e2 := sub64_any (IntKind.u64.wrap (hiOf x)) (bor (loOf x) 0) (by rw [IntKind.wrap_u64]; omega) (by rw [IntKind.wrap_u64]; omega) (bor_bd _ _).1 (bor_bd _ _).2
  have h := opposite_core (hiOf x) (loOf x) _ _ _ _ w (by omega) (by omega) hb.2.1 hb.2.2 rfl (sub64_0 (loOf x) hb.2.1 hb.2.2) ⟨_, e2⟩
  rw [n1, n2] at h
  exact h

set_option maxHeartbeats 400000 in
theorem plus_core (H L n l c : Int) (w : World) (g1 : -9223372036854775808 ≤ H) (g2 : H < 9223372036854775807) (g3 : 0 ≤ L) (g4 : L < 18446744073709551616) (k1 : 0 ≤ n) (k2 : n < 18446744073709551616) (c1 : 0 ≤ c) (c2 : c ≤ 1)
    (S1 : ∀ w, (callFunc 99 #[.int .u64 L, .int .u64 n, .int .u64 0]).run Tryd.prog w = .ok (.value (.tuple #[.int .u64 l, .int .u64 c])) w) :
    Calls Tryd.prog 88 #[.agg #[.int .i64 H, .int .u64 L], .int .u64 n] w fun e w' => e = .returned (.agg #[.int .i64 (H + c), .int .u64 l]) ∧ Keep w w' := by
  go_enter Tryd.func88, Tryd.ntmps88
  go_wp2
  exact bodyPost_ret (v := .agg #[.int .i64 (H + c), .int .u64 l]) (by simp [results, Tryd.results88, go_sem]) rfl ⟨rfl, ((Keep.refl _).alloc _).alloc _⟩
theorem plus_any (x n : Int) (w : World) (h1 : -85070591730234615865843651857942052864 ≤ x) (h2 : x ≤ 85070591730234615865843651857942052864) (k1 : 0 ≤ n) (k2 : n < 18446744073709551616) :
    Calls Tryd.prog 88 #[.agg #[.int .i64 (hiOf x), .int .u64 (loOf x)], .int .u64 n] w fun e w' => e = .returned (.agg #[.int .i64 (hiOf (x + n)), .int .u64 (loOf (x + n))]) ∧ Keep w w' := by
  have hb := halves x
  obtain ⟨g1, g2⟩ := hiOf_bd ⟨h1, h2⟩
  have h := plus_core (hiOf x) (loOf x) n _ _ w (by omega) (by omega) hb.2.1 hb.2.2 k1 k2 (by omega) (by omega) (add64_0 (loOf x) n hb.2.1 k1)
  have n1 : hiOf x + (loOf x + n) / 18446744073709551616 = hiOf (x + n) := by unfold hiOf loOf; omega
  have n2 : (loOf x + n) % 18446744073709551616 = loOf (x + n) := by unfold loOf; omega
  rw [n1, n2] at h
  exact h

/-! ### over -/
set_option maxHeartbeats 400000 in
theorem over_no (H L c : Int) (w : World) (g1 : 0 ≤ H) (g2 : H ≤ 9223372036854775807) (g3 : 0 ≤ L) (g4 : L < 18446744073709551616) (k1 : 1 ≤ c) (k2 : c ≤ 9223372036854775807) (h : c ≤ H) :
    Calls Tryd.prog 75 #[.agg #[.int .i64 H, .int .u64 L], .int .i64 c] w fun e w' => e = .returned (.tuple #[.int .u64 0, .bool false]) ∧ Keep w w' := by
  go_enter Tryd.func75, Tryd.ntmps75
  go_wp2
  go_ret2
  exact ⟨rfl, (Keep.refl _).alloc _⟩
set_option maxHeartbeats 400000 in
theorem over_yes (H L c q : Int) (w : World) (g1 : 0 ≤ H) (g2 : H ≤ 9223372036854775807) (g3 : 0 ≤ L) (g4 : L < 18446744073709551616) (k1 : 1 ≤ c) (k2 : c ≤ 9223372036854775807) (h : H < c)
    (hq : Hid ((H * 18446744073709551616 + L) / c = q)) :
    Calls Tryd.prog 75 #[.agg #[.int .i64 H, .int .u64 L], .int .i64 c] w fun e w' => e = .returned (.tuple #[.int .u64 q, .bool true]) ∧ Keep w w' := by
  have D : Hid (∀ w, Calls Tryd.prog 90 #[.int .u64 H, .int .u64 L, .int .u64 c] w fun e w' => (∃ r, e = .returned (.tuple #[.int .u64 q, .int .u64 r])) ∧ Keep w w') := by
    intro w
    have := div64_any H L c w g1 h (by omega) g3 g4
    rw [unhide hq] at this
    exact this
  go_enter Tryd.func75, Tryd.ntmps75
  go_wp2_with (go_at_call 90; refine (unhide D _).mono ?_; rintro e w1 ⟨⟨r, rfl⟩, hk⟩)
  go_ret2
  exact ⟨rfl, ((Keep.refl _).alloc _).trans hk⟩
end Go.Proofs.YtnegcifbbbmlnaaDoor
