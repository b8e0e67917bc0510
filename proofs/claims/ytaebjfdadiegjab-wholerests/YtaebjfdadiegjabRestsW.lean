/- The walks of WholeRests, one for each way through her tests. -/
import Derived.Test.YtaebjfdadiegjabWholeG
import Derived.Test.YtaebjfdadiegjabAwake
namespace Go.Proofs.Ytaebjfdadiegjab
open Go.RowKit
set_option linter.unusedVariables false
set_option maxHeartbeats 1000000 in
theorem rests_A1 (a b q r Z n x y i : Int) (w : World) (l0 : -9223372036854775808 ≤ a) (u0 : a ≤ 9223372036854775807) (l1 : -9223372036854775808 ≤ b) (u1 : b ≤ 9223372036854775807) (hb : 1 ≤ b) (hr0 : 0 ≤ r) (hr1 : r < b) (d1 : decide (r < 0) = false) (d2 : decide (b ≤ r) = false) (E1 : wrap64 (a - r) = Z) (E2 : wrap64 (q * b) = Z) (hq : -9223372036854775808 < q) (hqu : q ≤ 9223372036854775807) 
    (FL : Hid (∀ w, Calls Try.prog 8 #[.int .i64 a, .int .i64 b] w fun e w' => e = .returned (.tuple #[.int .i64 q, .int .i64 0]) ∧ w' = w)) (MO : Hid (∀ w, Calls Try.prog 9 #[.int .i64 a, .int .i64 b] w fun e w' => e = .returned (.tuple #[.int .i64 r, .int .i64 0]) ∧ w' = w)) (NE : Hid (∀ w, Calls Try.prog 10 #[.int .i64 a] w fun e w' => e = .returned (.tuple #[.int .i64 n, .int .i64 0]) ∧ w' = w)) (CE : Hid (∀ w, Calls Try.prog 11 #[.int .i64 n, .int .i64 b] w fun e w' => e = .returned (.tuple #[.int .i64 (-q), .int .i64 0]) ∧ w' = w)) (GC : Hid (∀ w, Calls Try.prog 12 #[.int .i64 a, .int .i64 b] w fun e w' => e = .returned (.tuple #[.int .i64 x, .int .i64 2]) ∧ Keep w w')) (LC : Hid (∀ w, Calls Try.prog 13 #[.int .i64 a, .int .i64 b] w fun e w' => e = .returned (.tuple #[.int .i64 y, .int .i64 i]) ∧ Keep w w')) :
    Calls Try.prog 4 #[.int .i64 a, .int .i64 b] w fun e w' => e = .returned (.bool true) ∧ Keep w w' := by
  go_enter Try.func4, Try.ntmps4
  go_wp2_with fail
  refine (unhide FL _).mono ?_
  rintro e w0 ⟨rfl, rfl⟩
  go_wp2_with fail
  refine (unhide MO _).mono ?_
  rintro e w0 ⟨rfl, rfl⟩
  go_wp2_with fail
  refine (unhide NE _).mono ?_
  rintro e w0 ⟨rfl, rfl⟩
  go_wp2_with fail
  refine (unhide CE _).mono ?_
  rintro e w0 ⟨rfl, rfl⟩
  go_wp2_with fail
  refine (unhide GC _).mono ?_
  rintro e wGC ⟨rfl, kGC⟩
  go_wp2_with fail
  refine (unhide LC _).mono ?_
  rintro e wLC ⟨rfl, kLC⟩
  go_wp2_with fail
  refine (awake_any _).mono ?_
  rintro e wz ⟨rfl, kz⟩
  go_wp2_with fail
  go_ret
  exact ⟨rfl, ((kGC.trans kLC).trans kz)⟩
set_option maxHeartbeats 1000000 in
theorem rests_A2 (a b q r Z n y : Int) (w : World) (l0 : -9223372036854775808 ≤ a) (u0 : a ≤ 9223372036854775807) (l1 : -9223372036854775808 ≤ b) (u1 : b ≤ 9223372036854775807) (hb : 1 ≤ b) (hr0 : 0 ≤ r) (hr1 : r < b) (d1 : decide (r < 0) = false) (d2 : decide (b ≤ r) = false) (E1 : wrap64 (a - r) = Z) (E2 : wrap64 (q * b) = Z) (hq : -9223372036854775808 < q) (hqu : q ≤ 9223372036854775807) 
    (FL : Hid (∀ w, Calls Try.prog 8 #[.int .i64 a, .int .i64 b] w fun e w' => e = .returned (.tuple #[.int .i64 q, .int .i64 0]) ∧ w' = w)) (MO : Hid (∀ w, Calls Try.prog 9 #[.int .i64 a, .int .i64 b] w fun e w' => e = .returned (.tuple #[.int .i64 r, .int .i64 0]) ∧ w' = w)) (NE : Hid (∀ w, Calls Try.prog 10 #[.int .i64 a] w fun e w' => e = .returned (.tuple #[.int .i64 n, .int .i64 0]) ∧ w' = w)) (CE : Hid (∀ w, Calls Try.prog 11 #[.int .i64 n, .int .i64 b] w fun e w' => e = .returned (.tuple #[.int .i64 (-q), .int .i64 0]) ∧ w' = w)) (GC : Hid (∀ w, Calls Try.prog 12 #[.int .i64 a, .int .i64 b] w fun e w' => e = .returned (.tuple #[.int .i64 0, .int .i64 0]) ∧ Keep w w')) (LC : Hid (∀ w, Calls Try.prog 13 #[.int .i64 a, .int .i64 b] w fun e w' => e = .returned (.tuple #[.int .i64 y, .int .i64 0]) ∧ Keep w w')) (CP1 : Hid (∀ w, Calls Try.prog 5 #[.int .i64 0, .int .i64 y, .int .i64 a, .int .i64 b] w fun e w' => e = .returned (.int .i64 0) ∧ Keep w w')) :
    Calls Try.prog 4 #[.int .i64 a, .int .i64 b] w fun e w' => e = .returned (.bool true) ∧ Keep w w' := by
  go_enter Try.func4, Try.ntmps4
  go_wp2_with fail
  refine (unhide FL _).mono ?_
  rintro e w0 ⟨rfl, rfl⟩
  go_wp2_with fail
  refine (unhide MO _).mono ?_
  rintro e w0 ⟨rfl, rfl⟩
  go_wp2_with fail
  refine (unhide NE _).mono ?_
  rintro e w0 ⟨rfl, rfl⟩
  go_wp2_with fail
  refine (unhide CE _).mono ?_
  rintro e w0 ⟨rfl, rfl⟩
  go_wp2_with fail
  refine (unhide GC _).mono ?_
  rintro e wGC ⟨rfl, kGC⟩
  go_wp2_with fail
  refine (unhide LC _).mono ?_
  rintro e wLC ⟨rfl, kLC⟩
  go_wp2_with fail
  refine (unhide CP1 _).mono ?_
  rintro e wCP1 ⟨rfl, kCP1⟩
  go_wp2_with fail
  refine (awake_any _).mono ?_
  rintro e wz ⟨rfl, kz⟩
  go_wp2_with fail
  go_ret
  exact ⟨rfl, (((kGC.trans kLC).trans kCP1).trans kz)⟩
set_option maxHeartbeats 1000000 in
theorem rests_A3 (a b q r Z n x y : Int) (w : World) (l0 : -9223372036854775808 ≤ a) (u0 : a ≤ 9223372036854775807) (l1 : -9223372036854775808 ≤ b) (u1 : b ≤ 9223372036854775807) (hb : 1 ≤ b) (hr0 : 0 ≤ r) (hr1 : r < b) (d1 : decide (r < 0) = false) (d2 : decide (b ≤ r) = false) (E1 : wrap64 (a - r) = Z) (E2 : wrap64 (q * b) = Z) (hq : -9223372036854775808 < q) (hqu : q ≤ 9223372036854775807) (hx : 0 < x) (hx' : x ≤ 9223372036854775807) (x1 : a.tmod x = 0) (x2 : a % x = 0) (x3 : b.tmod x = 0) (x4 : b % x = 0) (xz : (x == 0) = false)
    (FL : Hid (∀ w, Calls Try.prog 8 #[.int .i64 a, .int .i64 b] w fun e w' => e = .returned (.tuple #[.int .i64 q, .int .i64 0]) ∧ w' = w)) (MO : Hid (∀ w, Calls Try.prog 9 #[.int .i64 a, .int .i64 b] w fun e w' => e = .returned (.tuple #[.int .i64 r, .int .i64 0]) ∧ w' = w)) (NE : Hid (∀ w, Calls Try.prog 10 #[.int .i64 a] w fun e w' => e = .returned (.tuple #[.int .i64 n, .int .i64 0]) ∧ w' = w)) (CE : Hid (∀ w, Calls Try.prog 11 #[.int .i64 n, .int .i64 b] w fun e w' => e = .returned (.tuple #[.int .i64 (-q), .int .i64 0]) ∧ w' = w)) (GC : Hid (∀ w, Calls Try.prog 12 #[.int .i64 a, .int .i64 b] w fun e w' => e = .returned (.tuple #[.int .i64 x, .int .i64 0]) ∧ Keep w w')) (LC : Hid (∀ w, Calls Try.prog 13 #[.int .i64 a, .int .i64 b] w fun e w' => e = .returned (.tuple #[.int .i64 y, .int .i64 2]) ∧ Keep w w')) :
    Calls Try.prog 4 #[.int .i64 a, .int .i64 b] w fun e w' => e = .returned (.bool true) ∧ Keep w w' := by
  go_enter Try.func4, Try.ntmps4
  go_wp2_with fail
  refine (unhide FL _).mono ?_
  rintro e w0 ⟨rfl, rfl⟩
  go_wp2_with fail
  refine (unhide MO _).mono ?_
  rintro e w0 ⟨rfl, rfl⟩
  go_wp2_with fail
  refine (unhide NE _).mono ?_
  rintro e w0 ⟨rfl, rfl⟩
  go_wp2_with fail
  refine (unhide CE _).mono ?_
  rintro e w0 ⟨rfl, rfl⟩
  go_wp2_with fail
  refine (unhide GC _).mono ?_
  rintro e wGC ⟨rfl, kGC⟩
  go_wp2_with fail
  refine (unhide LC _).mono ?_
  rintro e wLC ⟨rfl, kLC⟩
  go_wp2_with fail
  refine (awake_any _).mono ?_
  rintro e wz ⟨rfl, kz⟩
  go_wp2_with fail
  go_ret
  exact ⟨rfl, ((kGC.trans kLC).trans kz)⟩
set_option maxHeartbeats 1000000 in
theorem rests_A4 (a b q r Z n x y : Int) (w : World) (l0 : -9223372036854775808 ≤ a) (u0 : a ≤ 9223372036854775807) (l1 : -9223372036854775808 ≤ b) (u1 : b ≤ 9223372036854775807) (hb : 1 ≤ b) (hr0 : 0 ≤ r) (hr1 : r < b) (d1 : decide (r < 0) = false) (d2 : decide (b ≤ r) = false) (E1 : wrap64 (a - r) = Z) (E2 : wrap64 (q * b) = Z) (hq : -9223372036854775808 < q) (hqu : q ≤ 9223372036854775807) (hx : 0 < x) (hx' : x ≤ 9223372036854775807) (x1 : a.tmod x = 0) (x2 : a % x = 0) (x3 : b.tmod x = 0) (x4 : b % x = 0) (xz : (x == 0) = false)
    (FL : Hid (∀ w, Calls Try.prog 8 #[.int .i64 a, .int .i64 b] w fun e w' => e = .returned (.tuple #[.int .i64 q, .int .i64 0]) ∧ w' = w)) (MO : Hid (∀ w, Calls Try.prog 9 #[.int .i64 a, .int .i64 b] w fun e w' => e = .returned (.tuple #[.int .i64 r, .int .i64 0]) ∧ w' = w)) (NE : Hid (∀ w, Calls Try.prog 10 #[.int .i64 a] w fun e w' => e = .returned (.tuple #[.int .i64 n, .int .i64 0]) ∧ w' = w)) (CE : Hid (∀ w, Calls Try.prog 11 #[.int .i64 n, .int .i64 b] w fun e w' => e = .returned (.tuple #[.int .i64 (-q), .int .i64 0]) ∧ w' = w)) (GC : Hid (∀ w, Calls Try.prog 12 #[.int .i64 a, .int .i64 b] w fun e w' => e = .returned (.tuple #[.int .i64 x, .int .i64 0]) ∧ Keep w w')) (LC : Hid (∀ w, Calls Try.prog 13 #[.int .i64 a, .int .i64 b] w fun e w' => e = .returned (.tuple #[.int .i64 y, .int .i64 0]) ∧ Keep w w')) (CP1 : Hid (∀ w, Calls Try.prog 5 #[.int .i64 x, .int .i64 y, .int .i64 a, .int .i64 b] w fun e w' => e = .returned (.int .i64 0) ∧ Keep w w')) :
    Calls Try.prog 4 #[.int .i64 a, .int .i64 b] w fun e w' => e = .returned (.bool true) ∧ Keep w w' := by
  go_enter Try.func4, Try.ntmps4
  go_wp2_with fail
  refine (unhide FL _).mono ?_
  rintro e w0 ⟨rfl, rfl⟩
  go_wp2_with fail
  refine (unhide MO _).mono ?_
  rintro e w0 ⟨rfl, rfl⟩
  go_wp2_with fail
  refine (unhide NE _).mono ?_
  rintro e w0 ⟨rfl, rfl⟩
  go_wp2_with fail
  refine (unhide CE _).mono ?_
  rintro e w0 ⟨rfl, rfl⟩
  go_wp2_with fail
  refine (unhide GC _).mono ?_
  rintro e wGC ⟨rfl, kGC⟩
  go_wp2_with fail
  refine (unhide LC _).mono ?_
  rintro e wLC ⟨rfl, kLC⟩
  go_wp2_with fail
  refine (unhide CP1 _).mono ?_
  rintro e wCP1 ⟨rfl, kCP1⟩
  go_wp2_with fail
  refine (awake_any _).mono ?_
  rintro e wz ⟨rfl, kz⟩
  go_wp2_with fail
  go_ret
  exact ⟨rfl, (((kGC.trans kLC).trans kCP1).trans kz)⟩
set_option maxHeartbeats 1000000 in
theorem rests_A5 (a b q r Z n x y v1 : Int) (w : World) (l0 : -9223372036854775808 ≤ a) (u0 : a ≤ 9223372036854775807) (l1 : -9223372036854775808 ≤ b) (u1 : b ≤ 9223372036854775807) (hb : 1 ≤ b) (hr0 : 0 ≤ r) (hr1 : r < b) (d1 : decide (r < 0) = false) (d2 : decide (b ≤ r) = false) (E1 : wrap64 (a - r) = Z) (E2 : wrap64 (q * b) = Z) (hq : -9223372036854775808 < q) (hqu : q ≤ 9223372036854775807) (hx : 0 < x) (hx' : x ≤ 9223372036854775807) (ha : -9223372036854775808 < a) (hv : (v1 == 0) = false) (x1 : a.tmod x = 0) (x2 : a % x = 0) (x3 : b.tmod x = 0) (x4 : b % x = 0) (xz : (x == 0) = false)
    (FL : Hid (∀ w, Calls Try.prog 8 #[.int .i64 a, .int .i64 b] w fun e w' => e = .returned (.tuple #[.int .i64 q, .int .i64 0]) ∧ w' = w)) (MO : Hid (∀ w, Calls Try.prog 9 #[.int .i64 a, .int .i64 b] w fun e w' => e = .returned (.tuple #[.int .i64 r, .int .i64 0]) ∧ w' = w)) (NE : Hid (∀ w, Calls Try.prog 10 #[.int .i64 a] w fun e w' => e = .returned (.tuple #[.int .i64 n, .int .i64 0]) ∧ w' = w)) (CE : Hid (∀ w, Calls Try.prog 11 #[.int .i64 n, .int .i64 b] w fun e w' => e = .returned (.tuple #[.int .i64 (-q), .int .i64 0]) ∧ w' = w)) (GC : Hid (∀ w, Calls Try.prog 12 #[.int .i64 a, .int .i64 b] w fun e w' => e = .returned (.tuple #[.int .i64 x, .int .i64 0]) ∧ Keep w w')) (LC : Hid (∀ w, Calls Try.prog 13 #[.int .i64 a, .int .i64 b] w fun e w' => e = .returned (.tuple #[.int .i64 y, .int .i64 0]) ∧ Keep w w')) (CP1 : Hid (∀ w, Calls Try.prog 5 #[.int .i64 x, .int .i64 y, .int .i64 a, .int .i64 b] w fun e w' => e = .returned (.int .i64 v1) ∧ Keep w w')) (CP2 : Hid (∀ w, Calls Try.prog 5 #[.int .i64 x, .int .i64 y, .int .i64 (-a), .int .i64 b] w fun e w' => e = .returned (.int .i64 0) ∧ Keep w w')) :
    Calls Try.prog 4 #[.int .i64 a, .int .i64 b] w fun e w' => e = .returned (.bool true) ∧ Keep w w' := by
  have hv' : (v1 != 0) = true := by simpa using hv
  go_enter Try.func4, Try.ntmps4
  go_wp2_with fail
  refine (unhide FL _).mono ?_
  rintro e w0 ⟨rfl, rfl⟩
  go_wp2_with fail
  refine (unhide MO _).mono ?_
  rintro e w0 ⟨rfl, rfl⟩
  go_wp2_with fail
  refine (unhide NE _).mono ?_
  rintro e w0 ⟨rfl, rfl⟩
  go_wp2_with fail
  refine (unhide CE _).mono ?_
  rintro e w0 ⟨rfl, rfl⟩
  go_wp2_with fail
  refine (unhide GC _).mono ?_
  rintro e wGC ⟨rfl, kGC⟩
  go_wp2_with fail
  refine (unhide LC _).mono ?_
  rintro e wLC ⟨rfl, kLC⟩
  go_wp2_with fail
  refine (unhide CP1 _).mono ?_
  rintro e wCP1 ⟨rfl, kCP1⟩
  go_wp2_with fail
  refine (unhide CP2 _).mono ?_
  rintro e wCP2 ⟨rfl, kCP2⟩
  go_wp2_with fail
  refine (awake_any _).mono ?_
  rintro e wz ⟨rfl, kz⟩
  go_wp2_with fail
  go_ret
  exact ⟨rfl, ((((kGC.trans kLC).trans kCP1).trans kCP2).trans kz)⟩
set_option maxHeartbeats 1000000 in
theorem rests_B1 (a b q r Z n g c x y i : Int) (w : World) (l0 : -9223372036854775808 ≤ a) (u0 : a ≤ 9223372036854775807) (l1 : -9223372036854775808 ≤ b) (u1 : b ≤ 9223372036854775807) (hb : 1 ≤ b) (hr0 : 0 ≤ r) (hr1 : r < b) (d1 : decide (r < 0) = false) (d2 : decide (b ≤ r) = false) (E1 : wrap64 (a - r) = Z) (E2 : wrap64 (q * b) = Z) 
    (FL : Hid (∀ w, Calls Try.prog 8 #[.int .i64 a, .int .i64 b] w fun e w' => e = .returned (.tuple #[.int .i64 q, .int .i64 0]) ∧ w' = w)) (MO : Hid (∀ w, Calls Try.prog 9 #[.int .i64 a, .int .i64 b] w fun e w' => e = .returned (.tuple #[.int .i64 r, .int .i64 0]) ∧ w' = w)) (NE : Hid (∀ w, Calls Try.prog 10 #[.int .i64 a] w fun e w' => e = .returned (.tuple #[.int .i64 n, .int .i64 2]) ∧ w' = w)) (CE : Hid (∀ w, Calls Try.prog 11 #[.int .i64 n, .int .i64 b] w fun e w' => e = .returned (.tuple #[.int .i64 c, .int .i64 g]) ∧ w' = w)) (GC : Hid (∀ w, Calls Try.prog 12 #[.int .i64 a, .int .i64 b] w fun e w' => e = .returned (.tuple #[.int .i64 x, .int .i64 2]) ∧ Keep w w')) (LC : Hid (∀ w, Calls Try.prog 13 #[.int .i64 a, .int .i64 b] w fun e w' => e = .returned (.tuple #[.int .i64 y, .int .i64 i]) ∧ Keep w w')) :
    Calls Try.prog 4 #[.int .i64 a, .int .i64 b] w fun e w' => e = .returned (.bool true) ∧ Keep w w' := by
  go_enter Try.func4, Try.ntmps4
  go_wp2_with fail
  refine (unhide FL _).mono ?_
  rintro e w0 ⟨rfl, rfl⟩
  go_wp2_with fail
  refine (unhide MO _).mono ?_
  rintro e w0 ⟨rfl, rfl⟩
  go_wp2_with fail
  refine (unhide NE _).mono ?_
  rintro e w0 ⟨rfl, rfl⟩
  go_wp2_with fail
  refine (unhide CE _).mono ?_
  rintro e w0 ⟨rfl, rfl⟩
  go_wp2_with fail
  refine (unhide GC _).mono ?_
  rintro e wGC ⟨rfl, kGC⟩
  go_wp2_with fail
  refine (unhide LC _).mono ?_
  rintro e wLC ⟨rfl, kLC⟩
  go_wp2_with fail
  refine (awake_any _).mono ?_
  rintro e wz ⟨rfl, kz⟩
  go_wp2_with fail
  go_ret
  exact ⟨rfl, ((kGC.trans kLC).trans kz)⟩
set_option maxHeartbeats 1000000 in
theorem rests_B2 (a b q r Z n g c y : Int) (w : World) (l0 : -9223372036854775808 ≤ a) (u0 : a ≤ 9223372036854775807) (l1 : -9223372036854775808 ≤ b) (u1 : b ≤ 9223372036854775807) (hb : 1 ≤ b) (hr0 : 0 ≤ r) (hr1 : r < b) (d1 : decide (r < 0) = false) (d2 : decide (b ≤ r) = false) (E1 : wrap64 (a - r) = Z) (E2 : wrap64 (q * b) = Z) 
    (FL : Hid (∀ w, Calls Try.prog 8 #[.int .i64 a, .int .i64 b] w fun e w' => e = .returned (.tuple #[.int .i64 q, .int .i64 0]) ∧ w' = w)) (MO : Hid (∀ w, Calls Try.prog 9 #[.int .i64 a, .int .i64 b] w fun e w' => e = .returned (.tuple #[.int .i64 r, .int .i64 0]) ∧ w' = w)) (NE : Hid (∀ w, Calls Try.prog 10 #[.int .i64 a] w fun e w' => e = .returned (.tuple #[.int .i64 n, .int .i64 2]) ∧ w' = w)) (CE : Hid (∀ w, Calls Try.prog 11 #[.int .i64 n, .int .i64 b] w fun e w' => e = .returned (.tuple #[.int .i64 c, .int .i64 g]) ∧ w' = w)) (GC : Hid (∀ w, Calls Try.prog 12 #[.int .i64 a, .int .i64 b] w fun e w' => e = .returned (.tuple #[.int .i64 0, .int .i64 0]) ∧ Keep w w')) (LC : Hid (∀ w, Calls Try.prog 13 #[.int .i64 a, .int .i64 b] w fun e w' => e = .returned (.tuple #[.int .i64 y, .int .i64 0]) ∧ Keep w w')) (CP1 : Hid (∀ w, Calls Try.prog 5 #[.int .i64 0, .int .i64 y, .int .i64 a, .int .i64 b] w fun e w' => e = .returned (.int .i64 0) ∧ Keep w w')) :
    Calls Try.prog 4 #[.int .i64 a, .int .i64 b] w fun e w' => e = .returned (.bool true) ∧ Keep w w' := by
  go_enter Try.func4, Try.ntmps4
  go_wp2_with fail
  refine (unhide FL _).mono ?_
  rintro e w0 ⟨rfl, rfl⟩
  go_wp2_with fail
  refine (unhide MO _).mono ?_
  rintro e w0 ⟨rfl, rfl⟩
  go_wp2_with fail
  refine (unhide NE _).mono ?_
  rintro e w0 ⟨rfl, rfl⟩
  go_wp2_with fail
  refine (unhide CE _).mono ?_
  rintro e w0 ⟨rfl, rfl⟩
  go_wp2_with fail
  refine (unhide GC _).mono ?_
  rintro e wGC ⟨rfl, kGC⟩
  go_wp2_with fail
  refine (unhide LC _).mono ?_
  rintro e wLC ⟨rfl, kLC⟩
  go_wp2_with fail
  refine (unhide CP1 _).mono ?_
  rintro e wCP1 ⟨rfl, kCP1⟩
  go_wp2_with fail
  refine (awake_any _).mono ?_
  rintro e wz ⟨rfl, kz⟩
  go_wp2_with fail
  go_ret
  exact ⟨rfl, (((kGC.trans kLC).trans kCP1).trans kz)⟩
set_option maxHeartbeats 1000000 in
theorem rests_B3 (a b q r Z n g c x y : Int) (w : World) (l0 : -9223372036854775808 ≤ a) (u0 : a ≤ 9223372036854775807) (l1 : -9223372036854775808 ≤ b) (u1 : b ≤ 9223372036854775807) (hb : 1 ≤ b) (hr0 : 0 ≤ r) (hr1 : r < b) (d1 : decide (r < 0) = false) (d2 : decide (b ≤ r) = false) (E1 : wrap64 (a - r) = Z) (E2 : wrap64 (q * b) = Z) (hx : 0 < x) (hx' : x ≤ 9223372036854775807) (x1 : a.tmod x = 0) (x2 : a % x = 0) (x3 : b.tmod x = 0) (x4 : b % x = 0) (xz : (x == 0) = false)
    (FL : Hid (∀ w, Calls Try.prog 8 #[.int .i64 a, .int .i64 b] w fun e w' => e = .returned (.tuple #[.int .i64 q, .int .i64 0]) ∧ w' = w)) (MO : Hid (∀ w, Calls Try.prog 9 #[.int .i64 a, .int .i64 b] w fun e w' => e = .returned (.tuple #[.int .i64 r, .int .i64 0]) ∧ w' = w)) (NE : Hid (∀ w, Calls Try.prog 10 #[.int .i64 a] w fun e w' => e = .returned (.tuple #[.int .i64 n, .int .i64 2]) ∧ w' = w)) (CE : Hid (∀ w, Calls Try.prog 11 #[.int .i64 n, .int .i64 b] w fun e w' => e = .returned (.tuple #[.int .i64 c, .int .i64 g]) ∧ w' = w)) (GC : Hid (∀ w, Calls Try.prog 12 #[.int .i64 a, .int .i64 b] w fun e w' => e = .returned (.tuple #[.int .i64 x, .int .i64 0]) ∧ Keep w w')) (LC : Hid (∀ w, Calls Try.prog 13 #[.int .i64 a, .int .i64 b] w fun e w' => e = .returned (.tuple #[.int .i64 y, .int .i64 2]) ∧ Keep w w')) :
    Calls Try.prog 4 #[.int .i64 a, .int .i64 b] w fun e w' => e = .returned (.bool true) ∧ Keep w w' := by
  go_enter Try.func4, Try.ntmps4
  go_wp2_with fail
  refine (unhide FL _).mono ?_
  rintro e w0 ⟨rfl, rfl⟩
  go_wp2_with fail
  refine (unhide MO _).mono ?_
  rintro e w0 ⟨rfl, rfl⟩
  go_wp2_with fail
  refine (unhide NE _).mono ?_
  rintro e w0 ⟨rfl, rfl⟩
  go_wp2_with fail
  refine (unhide CE _).mono ?_
  rintro e w0 ⟨rfl, rfl⟩
  go_wp2_with fail
  refine (unhide GC _).mono ?_
  rintro e wGC ⟨rfl, kGC⟩
  go_wp2_with fail
  refine (unhide LC _).mono ?_
  rintro e wLC ⟨rfl, kLC⟩
  go_wp2_with fail
  refine (awake_any _).mono ?_
  rintro e wz ⟨rfl, kz⟩
  go_wp2_with fail
  go_ret
  exact ⟨rfl, ((kGC.trans kLC).trans kz)⟩
set_option maxHeartbeats 1000000 in
theorem rests_B4 (a b q r Z n g c x y : Int) (w : World) (l0 : -9223372036854775808 ≤ a) (u0 : a ≤ 9223372036854775807) (l1 : -9223372036854775808 ≤ b) (u1 : b ≤ 9223372036854775807) (hb : 1 ≤ b) (hr0 : 0 ≤ r) (hr1 : r < b) (d1 : decide (r < 0) = false) (d2 : decide (b ≤ r) = false) (E1 : wrap64 (a - r) = Z) (E2 : wrap64 (q * b) = Z) (hx : 0 < x) (hx' : x ≤ 9223372036854775807) (x1 : a.tmod x = 0) (x2 : a % x = 0) (x3 : b.tmod x = 0) (x4 : b % x = 0) (xz : (x == 0) = false)
    (FL : Hid (∀ w, Calls Try.prog 8 #[.int .i64 a, .int .i64 b] w fun e w' => e = .returned (.tuple #[.int .i64 q, .int .i64 0]) ∧ w' = w)) (MO : Hid (∀ w, Calls Try.prog 9 #[.int .i64 a, .int .i64 b] w fun e w' => e = .returned (.tuple #[.int .i64 r, .int .i64 0]) ∧ w' = w)) (NE : Hid (∀ w, Calls Try.prog 10 #[.int .i64 a] w fun e w' => e = .returned (.tuple #[.int .i64 n, .int .i64 2]) ∧ w' = w)) (CE : Hid (∀ w, Calls Try.prog 11 #[.int .i64 n, .int .i64 b] w fun e w' => e = .returned (.tuple #[.int .i64 c, .int .i64 g]) ∧ w' = w)) (GC : Hid (∀ w, Calls Try.prog 12 #[.int .i64 a, .int .i64 b] w fun e w' => e = .returned (.tuple #[.int .i64 x, .int .i64 0]) ∧ Keep w w')) (LC : Hid (∀ w, Calls Try.prog 13 #[.int .i64 a, .int .i64 b] w fun e w' => e = .returned (.tuple #[.int .i64 y, .int .i64 0]) ∧ Keep w w')) (CP1 : Hid (∀ w, Calls Try.prog 5 #[.int .i64 x, .int .i64 y, .int .i64 a, .int .i64 b] w fun e w' => e = .returned (.int .i64 0) ∧ Keep w w')) :
    Calls Try.prog 4 #[.int .i64 a, .int .i64 b] w fun e w' => e = .returned (.bool true) ∧ Keep w w' := by
  go_enter Try.func4, Try.ntmps4
  go_wp2_with fail
  refine (unhide FL _).mono ?_
  rintro e w0 ⟨rfl, rfl⟩
  go_wp2_with fail
  refine (unhide MO _).mono ?_
  rintro e w0 ⟨rfl, rfl⟩
  go_wp2_with fail
  refine (unhide NE _).mono ?_
  rintro e w0 ⟨rfl, rfl⟩
  go_wp2_with fail
  refine (unhide CE _).mono ?_
  rintro e w0 ⟨rfl, rfl⟩
  go_wp2_with fail
  refine (unhide GC _).mono ?_
  rintro e wGC ⟨rfl, kGC⟩
  go_wp2_with fail
  refine (unhide LC _).mono ?_
  rintro e wLC ⟨rfl, kLC⟩
  go_wp2_with fail
  refine (unhide CP1 _).mono ?_
  rintro e wCP1 ⟨rfl, kCP1⟩
  go_wp2_with fail
  refine (awake_any _).mono ?_
  rintro e wz ⟨rfl, kz⟩
  go_wp2_with fail
  go_ret
  exact ⟨rfl, (((kGC.trans kLC).trans kCP1).trans kz)⟩
set_option maxHeartbeats 1000000 in
theorem rests_B5 (a b q r Z n g c x y v1 : Int) (w : World) (l0 : -9223372036854775808 ≤ a) (u0 : a ≤ 9223372036854775807) (l1 : -9223372036854775808 ≤ b) (u1 : b ≤ 9223372036854775807) (hb : 1 ≤ b) (hr0 : 0 ≤ r) (hr1 : r < b) (d1 : decide (r < 0) = false) (d2 : decide (b ≤ r) = false) (E1 : wrap64 (a - r) = Z) (E2 : wrap64 (q * b) = Z) (hx : 0 < x) (hx' : x ≤ 9223372036854775807) (ha : -9223372036854775808 < a) (hv : (v1 == 0) = false) (x1 : a.tmod x = 0) (x2 : a % x = 0) (x3 : b.tmod x = 0) (x4 : b % x = 0) (xz : (x == 0) = false)
    (FL : Hid (∀ w, Calls Try.prog 8 #[.int .i64 a, .int .i64 b] w fun e w' => e = .returned (.tuple #[.int .i64 q, .int .i64 0]) ∧ w' = w)) (MO : Hid (∀ w, Calls Try.prog 9 #[.int .i64 a, .int .i64 b] w fun e w' => e = .returned (.tuple #[.int .i64 r, .int .i64 0]) ∧ w' = w)) (NE : Hid (∀ w, Calls Try.prog 10 #[.int .i64 a] w fun e w' => e = .returned (.tuple #[.int .i64 n, .int .i64 2]) ∧ w' = w)) (CE : Hid (∀ w, Calls Try.prog 11 #[.int .i64 n, .int .i64 b] w fun e w' => e = .returned (.tuple #[.int .i64 c, .int .i64 g]) ∧ w' = w)) (GC : Hid (∀ w, Calls Try.prog 12 #[.int .i64 a, .int .i64 b] w fun e w' => e = .returned (.tuple #[.int .i64 x, .int .i64 0]) ∧ Keep w w')) (LC : Hid (∀ w, Calls Try.prog 13 #[.int .i64 a, .int .i64 b] w fun e w' => e = .returned (.tuple #[.int .i64 y, .int .i64 0]) ∧ Keep w w')) (CP1 : Hid (∀ w, Calls Try.prog 5 #[.int .i64 x, .int .i64 y, .int .i64 a, .int .i64 b] w fun e w' => e = .returned (.int .i64 v1) ∧ Keep w w')) (CP2 : Hid (∀ w, Calls Try.prog 5 #[.int .i64 x, .int .i64 y, .int .i64 (-a), .int .i64 b] w fun e w' => e = .returned (.int .i64 0) ∧ Keep w w')) :
    Calls Try.prog 4 #[.int .i64 a, .int .i64 b] w fun e w' => e = .returned (.bool true) ∧ Keep w w' := by
  have hv' : (v1 != 0) = true := by simpa using hv
  go_enter Try.func4, Try.ntmps4
  go_wp2_with fail
  refine (unhide FL _).mono ?_
  rintro e w0 ⟨rfl, rfl⟩
  go_wp2_with fail
  refine (unhide MO _).mono ?_
  rintro e w0 ⟨rfl, rfl⟩
  go_wp2_with fail
  refine (unhide NE _).mono ?_
  rintro e w0 ⟨rfl, rfl⟩
  go_wp2_with fail
  refine (unhide CE _).mono ?_
  rintro e w0 ⟨rfl, rfl⟩
  go_wp2_with fail
  refine (unhide GC _).mono ?_
  rintro e wGC ⟨rfl, kGC⟩
  go_wp2_with fail
  refine (unhide LC _).mono ?_
  rintro e wLC ⟨rfl, kLC⟩
  go_wp2_with fail
  refine (unhide CP1 _).mono ?_
  rintro e wCP1 ⟨rfl, kCP1⟩
  go_wp2_with fail
  refine (unhide CP2 _).mono ?_
  rintro e wCP2 ⟨rfl, kCP2⟩
  go_wp2_with fail
  refine (awake_any _).mono ?_
  rintro e wz ⟨rfl, kz⟩
  go_wp2_with fail
  go_ret
  exact ⟨rfl, ((((kGC.trans kLC).trans kCP1).trans kCP2).trans kz)⟩
set_option maxHeartbeats 1000000 in
theorem rests_C1 (a b q r n d me g c x y i : Int) (w : World) (l0 : -9223372036854775808 ≤ a) (u0 : a ≤ 9223372036854775807) (l1 : -9223372036854775808 ≤ b) (u1 : b ≤ 9223372036854775807) (hb : b < 1) 
    (FL : Hid (∀ w, Calls Try.prog 8 #[.int .i64 a, .int .i64 b] w fun e w' => e = .returned (.tuple #[.int .i64 q, .int .i64 d]) ∧ w' = w)) (MO : Hid (∀ w, Calls Try.prog 9 #[.int .i64 a, .int .i64 b] w fun e w' => e = .returned (.tuple #[.int .i64 r, .int .i64 me]) ∧ w' = w)) (NE : Hid (∀ w, Calls Try.prog 10 #[.int .i64 a] w fun e w' => e = .returned (.tuple #[.int .i64 n, .int .i64 2]) ∧ w' = w)) (CE : Hid (∀ w, Calls Try.prog 11 #[.int .i64 n, .int .i64 b] w fun e w' => e = .returned (.tuple #[.int .i64 c, .int .i64 g]) ∧ w' = w)) (GC : Hid (∀ w, Calls Try.prog 12 #[.int .i64 a, .int .i64 b] w fun e w' => e = .returned (.tuple #[.int .i64 x, .int .i64 2]) ∧ Keep w w')) (LC : Hid (∀ w, Calls Try.prog 13 #[.int .i64 a, .int .i64 b] w fun e w' => e = .returned (.tuple #[.int .i64 y, .int .i64 i]) ∧ Keep w w')) :
    Calls Try.prog 4 #[.int .i64 a, .int .i64 b] w fun e w' => e = .returned (.bool true) ∧ Keep w w' := by
  go_enter Try.func4, Try.ntmps4
  go_wp2_with fail
  refine (unhide FL _).mono ?_
  rintro e w0 ⟨rfl, rfl⟩
  go_wp2_with fail
  refine (unhide MO _).mono ?_
  rintro e w0 ⟨rfl, rfl⟩
  go_wp2_with fail
  refine (unhide NE _).mono ?_
  rintro e w0 ⟨rfl, rfl⟩
  go_wp2_with fail
  refine (unhide CE _).mono ?_
  rintro e w0 ⟨rfl, rfl⟩
  go_wp2_with fail
  refine (unhide GC _).mono ?_
  rintro e wGC ⟨rfl, kGC⟩
  go_wp2_with fail
  refine (unhide LC _).mono ?_
  rintro e wLC ⟨rfl, kLC⟩
  go_wp2_with fail
  refine (awake_any _).mono ?_
  rintro e wz ⟨rfl, kz⟩
  go_wp2_with fail
  go_ret
  exact ⟨rfl, ((kGC.trans kLC).trans kz)⟩
set_option maxHeartbeats 1000000 in
theorem rests_C2 (a b q r n d me g c y : Int) (w : World) (l0 : -9223372036854775808 ≤ a) (u0 : a ≤ 9223372036854775807) (l1 : -9223372036854775808 ≤ b) (u1 : b ≤ 9223372036854775807) (hb : b < 1) 
    (FL : Hid (∀ w, Calls Try.prog 8 #[.int .i64 a, .int .i64 b] w fun e w' => e = .returned (.tuple #[.int .i64 q, .int .i64 d]) ∧ w' = w)) (MO : Hid (∀ w, Calls Try.prog 9 #[.int .i64 a, .int .i64 b] w fun e w' => e = .returned (.tuple #[.int .i64 r, .int .i64 me]) ∧ w' = w)) (NE : Hid (∀ w, Calls Try.prog 10 #[.int .i64 a] w fun e w' => e = .returned (.tuple #[.int .i64 n, .int .i64 2]) ∧ w' = w)) (CE : Hid (∀ w, Calls Try.prog 11 #[.int .i64 n, .int .i64 b] w fun e w' => e = .returned (.tuple #[.int .i64 c, .int .i64 g]) ∧ w' = w)) (GC : Hid (∀ w, Calls Try.prog 12 #[.int .i64 a, .int .i64 b] w fun e w' => e = .returned (.tuple #[.int .i64 0, .int .i64 0]) ∧ Keep w w')) (LC : Hid (∀ w, Calls Try.prog 13 #[.int .i64 a, .int .i64 b] w fun e w' => e = .returned (.tuple #[.int .i64 y, .int .i64 0]) ∧ Keep w w')) (CP1 : Hid (∀ w, Calls Try.prog 5 #[.int .i64 0, .int .i64 y, .int .i64 a, .int .i64 b] w fun e w' => e = .returned (.int .i64 0) ∧ Keep w w')) :
    Calls Try.prog 4 #[.int .i64 a, .int .i64 b] w fun e w' => e = .returned (.bool true) ∧ Keep w w' := by
  go_enter Try.func4, Try.ntmps4
  go_wp2_with fail
  refine (unhide FL _).mono ?_
  rintro e w0 ⟨rfl, rfl⟩
  go_wp2_with fail
  refine (unhide MO _).mono ?_
  rintro e w0 ⟨rfl, rfl⟩
  go_wp2_with fail
  refine (unhide NE _).mono ?_
  rintro e w0 ⟨rfl, rfl⟩
  go_wp2_with fail
  refine (unhide CE _).mono ?_
  rintro e w0 ⟨rfl, rfl⟩
  go_wp2_with fail
  refine (unhide GC _).mono ?_
  rintro e wGC ⟨rfl, kGC⟩
  go_wp2_with fail
  refine (unhide LC _).mono ?_
  rintro e wLC ⟨rfl, kLC⟩
  go_wp2_with fail
  refine (unhide CP1 _).mono ?_
  rintro e wCP1 ⟨rfl, kCP1⟩
  go_wp2_with fail
  refine (awake_any _).mono ?_
  rintro e wz ⟨rfl, kz⟩
  go_wp2_with fail
  go_ret
  exact ⟨rfl, (((kGC.trans kLC).trans kCP1).trans kz)⟩
set_option maxHeartbeats 1000000 in
theorem rests_C3 (a b q r n d me g c x y : Int) (w : World) (l0 : -9223372036854775808 ≤ a) (u0 : a ≤ 9223372036854775807) (l1 : -9223372036854775808 ≤ b) (u1 : b ≤ 9223372036854775807) (hb : b < 1) (hx : 0 < x) (hx' : x ≤ 9223372036854775807) (x1 : a.tmod x = 0) (x2 : a % x = 0) (x3 : b.tmod x = 0) (x4 : b % x = 0) (xz : (x == 0) = false)
    (FL : Hid (∀ w, Calls Try.prog 8 #[.int .i64 a, .int .i64 b] w fun e w' => e = .returned (.tuple #[.int .i64 q, .int .i64 d]) ∧ w' = w)) (MO : Hid (∀ w, Calls Try.prog 9 #[.int .i64 a, .int .i64 b] w fun e w' => e = .returned (.tuple #[.int .i64 r, .int .i64 me]) ∧ w' = w)) (NE : Hid (∀ w, Calls Try.prog 10 #[.int .i64 a] w fun e w' => e = .returned (.tuple #[.int .i64 n, .int .i64 2]) ∧ w' = w)) (CE : Hid (∀ w, Calls Try.prog 11 #[.int .i64 n, .int .i64 b] w fun e w' => e = .returned (.tuple #[.int .i64 c, .int .i64 g]) ∧ w' = w)) (GC : Hid (∀ w, Calls Try.prog 12 #[.int .i64 a, .int .i64 b] w fun e w' => e = .returned (.tuple #[.int .i64 x, .int .i64 0]) ∧ Keep w w')) (LC : Hid (∀ w, Calls Try.prog 13 #[.int .i64 a, .int .i64 b] w fun e w' => e = .returned (.tuple #[.int .i64 y, .int .i64 2]) ∧ Keep w w')) :
    Calls Try.prog 4 #[.int .i64 a, .int .i64 b] w fun e w' => e = .returned (.bool true) ∧ Keep w w' := by
  go_enter Try.func4, Try.ntmps4
  go_wp2_with fail
  refine (unhide FL _).mono ?_
  rintro e w0 ⟨rfl, rfl⟩
  go_wp2_with fail
  refine (unhide MO _).mono ?_
  rintro e w0 ⟨rfl, rfl⟩
  go_wp2_with fail
  refine (unhide NE _).mono ?_
  rintro e w0 ⟨rfl, rfl⟩
  go_wp2_with fail
  refine (unhide CE _).mono ?_
  rintro e w0 ⟨rfl, rfl⟩
  go_wp2_with fail
  refine (unhide GC _).mono ?_
  rintro e wGC ⟨rfl, kGC⟩
  go_wp2_with fail
  refine (unhide LC _).mono ?_
  rintro e wLC ⟨rfl, kLC⟩
  go_wp2_with fail
  refine (awake_any _).mono ?_
  rintro e wz ⟨rfl, kz⟩
  go_wp2_with fail
  go_ret
  exact ⟨rfl, ((kGC.trans kLC).trans kz)⟩
set_option maxHeartbeats 1000000 in
theorem rests_C4 (a b q r n d me g c x y : Int) (w : World) (l0 : -9223372036854775808 ≤ a) (u0 : a ≤ 9223372036854775807) (l1 : -9223372036854775808 ≤ b) (u1 : b ≤ 9223372036854775807) (hb : b < 1) (hx : 0 < x) (hx' : x ≤ 9223372036854775807) (x1 : a.tmod x = 0) (x2 : a % x = 0) (x3 : b.tmod x = 0) (x4 : b % x = 0) (xz : (x == 0) = false)
    (FL : Hid (∀ w, Calls Try.prog 8 #[.int .i64 a, .int .i64 b] w fun e w' => e = .returned (.tuple #[.int .i64 q, .int .i64 d]) ∧ w' = w)) (MO : Hid (∀ w, Calls Try.prog 9 #[.int .i64 a, .int .i64 b] w fun e w' => e = .returned (.tuple #[.int .i64 r, .int .i64 me]) ∧ w' = w)) (NE : Hid (∀ w, Calls Try.prog 10 #[.int .i64 a] w fun e w' => e = .returned (.tuple #[.int .i64 n, .int .i64 2]) ∧ w' = w)) (CE : Hid (∀ w, Calls Try.prog 11 #[.int .i64 n, .int .i64 b] w fun e w' => e = .returned (.tuple #[.int .i64 c, .int .i64 g]) ∧ w' = w)) (GC : Hid (∀ w, Calls Try.prog 12 #[.int .i64 a, .int .i64 b] w fun e w' => e = .returned (.tuple #[.int .i64 x, .int .i64 0]) ∧ Keep w w')) (LC : Hid (∀ w, Calls Try.prog 13 #[.int .i64 a, .int .i64 b] w fun e w' => e = .returned (.tuple #[.int .i64 y, .int .i64 0]) ∧ Keep w w')) (CP1 : Hid (∀ w, Calls Try.prog 5 #[.int .i64 x, .int .i64 y, .int .i64 a, .int .i64 b] w fun e w' => e = .returned (.int .i64 0) ∧ Keep w w')) :
    Calls Try.prog 4 #[.int .i64 a, .int .i64 b] w fun e w' => e = .returned (.bool true) ∧ Keep w w' := by
  go_enter Try.func4, Try.ntmps4
  go_wp2_with fail
  refine (unhide FL _).mono ?_
  rintro e w0 ⟨rfl, rfl⟩
  go_wp2_with fail
  refine (unhide MO _).mono ?_
  rintro e w0 ⟨rfl, rfl⟩
  go_wp2_with fail
  refine (unhide NE _).mono ?_
  rintro e w0 ⟨rfl, rfl⟩
  go_wp2_with fail
  refine (unhide CE _).mono ?_
  rintro e w0 ⟨rfl, rfl⟩
  go_wp2_with fail
  refine (unhide GC _).mono ?_
  rintro e wGC ⟨rfl, kGC⟩
  go_wp2_with fail
  refine (unhide LC _).mono ?_
  rintro e wLC ⟨rfl, kLC⟩
  go_wp2_with fail
  refine (unhide CP1 _).mono ?_
  rintro e wCP1 ⟨rfl, kCP1⟩
  go_wp2_with fail
  refine (awake_any _).mono ?_
  rintro e wz ⟨rfl, kz⟩
  go_wp2_with fail
  go_ret
  exact ⟨rfl, (((kGC.trans kLC).trans kCP1).trans kz)⟩
set_option maxHeartbeats 1000000 in
theorem rests_C5 (a b q r n d me g c x y v1 : Int) (w : World) (l0 : -9223372036854775808 ≤ a) (u0 : a ≤ 9223372036854775807) (l1 : -9223372036854775808 ≤ b) (u1 : b ≤ 9223372036854775807) (hb : b < 1) (hx : 0 < x) (hx' : x ≤ 9223372036854775807) (ha : -9223372036854775808 < a) (hv : (v1 == 0) = false) (x1 : a.tmod x = 0) (x2 : a % x = 0) (x3 : b.tmod x = 0) (x4 : b % x = 0) (xz : (x == 0) = false)
    (FL : Hid (∀ w, Calls Try.prog 8 #[.int .i64 a, .int .i64 b] w fun e w' => e = .returned (.tuple #[.int .i64 q, .int .i64 d]) ∧ w' = w)) (MO : Hid (∀ w, Calls Try.prog 9 #[.int .i64 a, .int .i64 b] w fun e w' => e = .returned (.tuple #[.int .i64 r, .int .i64 me]) ∧ w' = w)) (NE : Hid (∀ w, Calls Try.prog 10 #[.int .i64 a] w fun e w' => e = .returned (.tuple #[.int .i64 n, .int .i64 2]) ∧ w' = w)) (CE : Hid (∀ w, Calls Try.prog 11 #[.int .i64 n, .int .i64 b] w fun e w' => e = .returned (.tuple #[.int .i64 c, .int .i64 g]) ∧ w' = w)) (GC : Hid (∀ w, Calls Try.prog 12 #[.int .i64 a, .int .i64 b] w fun e w' => e = .returned (.tuple #[.int .i64 x, .int .i64 0]) ∧ Keep w w')) (LC : Hid (∀ w, Calls Try.prog 13 #[.int .i64 a, .int .i64 b] w fun e w' => e = .returned (.tuple #[.int .i64 y, .int .i64 0]) ∧ Keep w w')) (CP1 : Hid (∀ w, Calls Try.prog 5 #[.int .i64 x, .int .i64 y, .int .i64 a, .int .i64 b] w fun e w' => e = .returned (.int .i64 v1) ∧ Keep w w')) (CP2 : Hid (∀ w, Calls Try.prog 5 #[.int .i64 x, .int .i64 y, .int .i64 (-a), .int .i64 b] w fun e w' => e = .returned (.int .i64 0) ∧ Keep w w')) :
    Calls Try.prog 4 #[.int .i64 a, .int .i64 b] w fun e w' => e = .returned (.bool true) ∧ Keep w w' := by
  have hv' : (v1 != 0) = true := by simpa using hv
  go_enter Try.func4, Try.ntmps4
  go_wp2_with fail
  refine (unhide FL _).mono ?_
  rintro e w0 ⟨rfl, rfl⟩
  go_wp2_with fail
  refine (unhide MO _).mono ?_
  rintro e w0 ⟨rfl, rfl⟩
  go_wp2_with fail
  refine (unhide NE _).mono ?_
  rintro e w0 ⟨rfl, rfl⟩
  go_wp2_with fail
  refine (unhide CE _).mono ?_
  rintro e w0 ⟨rfl, rfl⟩
  go_wp2_with fail
  refine (unhide GC _).mono ?_
  rintro e wGC ⟨rfl, kGC⟩
  go_wp2_with fail
  refine (unhide LC _).mono ?_
  rintro e wLC ⟨rfl, kLC⟩
  go_wp2_with fail
  refine (unhide CP1 _).mono ?_
  rintro e wCP1 ⟨rfl, kCP1⟩
  go_wp2_with fail
  refine (unhide CP2 _).mono ?_
  rintro e wCP2 ⟨rfl, kCP2⟩
  go_wp2_with fail
  refine (awake_any _).mono ?_
  rintro e wz ⟨rfl, kz⟩
  go_wp2_with fail
  go_ret
  exact ⟨rfl, ((((kGC.trans kLC).trans kCP1).trans kCP2).trans kz)⟩
set_option maxHeartbeats 1000000 in
theorem rests_D1 (a b q r n me g c x y i : Int) (w : World) (l0 : -9223372036854775808 ≤ a) (u0 : a ≤ 9223372036854775807) (l1 : -9223372036854775808 ≤ b) (u1 : b ≤ 9223372036854775807) (hb : b < 1) 
    (FL : Hid (∀ w, Calls Try.prog 8 #[.int .i64 a, .int .i64 b] w fun e w' => e = .returned (.tuple #[.int .i64 q, .int .i64 3]) ∧ w' = w)) (MO : Hid (∀ w, Calls Try.prog 9 #[.int .i64 a, .int .i64 b] w fun e w' => e = .returned (.tuple #[.int .i64 r, .int .i64 me]) ∧ w' = w)) (NE : Hid (∀ w, Calls Try.prog 10 #[.int .i64 a] w fun e w' => e = .returned (.tuple #[.int .i64 n, .int .i64 0]) ∧ w' = w)) (CE : Hid (∀ w, Calls Try.prog 11 #[.int .i64 n, .int .i64 b] w fun e w' => e = .returned (.tuple #[.int .i64 c, .int .i64 g]) ∧ w' = w)) (GC : Hid (∀ w, Calls Try.prog 12 #[.int .i64 a, .int .i64 b] w fun e w' => e = .returned (.tuple #[.int .i64 x, .int .i64 2]) ∧ Keep w w')) (LC : Hid (∀ w, Calls Try.prog 13 #[.int .i64 a, .int .i64 b] w fun e w' => e = .returned (.tuple #[.int .i64 y, .int .i64 i]) ∧ Keep w w')) :
    Calls Try.prog 4 #[.int .i64 a, .int .i64 b] w fun e w' => e = .returned (.bool true) ∧ Keep w w' := by
  go_enter Try.func4, Try.ntmps4
  go_wp2_with fail
  refine (unhide FL _).mono ?_
  rintro e w0 ⟨rfl, rfl⟩
  go_wp2_with fail
  refine (unhide MO _).mono ?_
  rintro e w0 ⟨rfl, rfl⟩
  go_wp2_with fail
  refine (unhide NE _).mono ?_
  rintro e w0 ⟨rfl, rfl⟩
  go_wp2_with fail
  refine (unhide CE _).mono ?_
  rintro e w0 ⟨rfl, rfl⟩
  go_wp2_with fail
  refine (unhide GC _).mono ?_
  rintro e wGC ⟨rfl, kGC⟩
  go_wp2_with fail
  refine (unhide LC _).mono ?_
  rintro e wLC ⟨rfl, kLC⟩
  go_wp2_with fail
  refine (awake_any _).mono ?_
  rintro e wz ⟨rfl, kz⟩
  go_wp2_with fail
  go_ret
  exact ⟨rfl, ((kGC.trans kLC).trans kz)⟩
set_option maxHeartbeats 1000000 in
theorem rests_D2 (a b q r n me g c y : Int) (w : World) (l0 : -9223372036854775808 ≤ a) (u0 : a ≤ 9223372036854775807) (l1 : -9223372036854775808 ≤ b) (u1 : b ≤ 9223372036854775807) (hb : b < 1) 
    (FL : Hid (∀ w, Calls Try.prog 8 #[.int .i64 a, .int .i64 b] w fun e w' => e = .returned (.tuple #[.int .i64 q, .int .i64 3]) ∧ w' = w)) (MO : Hid (∀ w, Calls Try.prog 9 #[.int .i64 a, .int .i64 b] w fun e w' => e = .returned (.tuple #[.int .i64 r, .int .i64 me]) ∧ w' = w)) (NE : Hid (∀ w, Calls Try.prog 10 #[.int .i64 a] w fun e w' => e = .returned (.tuple #[.int .i64 n, .int .i64 0]) ∧ w' = w)) (CE : Hid (∀ w, Calls Try.prog 11 #[.int .i64 n, .int .i64 b] w fun e w' => e = .returned (.tuple #[.int .i64 c, .int .i64 g]) ∧ w' = w)) (GC : Hid (∀ w, Calls Try.prog 12 #[.int .i64 a, .int .i64 b] w fun e w' => e = .returned (.tuple #[.int .i64 0, .int .i64 0]) ∧ Keep w w')) (LC : Hid (∀ w, Calls Try.prog 13 #[.int .i64 a, .int .i64 b] w fun e w' => e = .returned (.tuple #[.int .i64 y, .int .i64 0]) ∧ Keep w w')) (CP1 : Hid (∀ w, Calls Try.prog 5 #[.int .i64 0, .int .i64 y, .int .i64 a, .int .i64 b] w fun e w' => e = .returned (.int .i64 0) ∧ Keep w w')) :
    Calls Try.prog 4 #[.int .i64 a, .int .i64 b] w fun e w' => e = .returned (.bool true) ∧ Keep w w' := by
  go_enter Try.func4, Try.ntmps4
  go_wp2_with fail
  refine (unhide FL _).mono ?_
  rintro e w0 ⟨rfl, rfl⟩
  go_wp2_with fail
  refine (unhide MO _).mono ?_
  rintro e w0 ⟨rfl, rfl⟩
  go_wp2_with fail
  refine (unhide NE _).mono ?_
  rintro e w0 ⟨rfl, rfl⟩
  go_wp2_with fail
  refine (unhide CE _).mono ?_
  rintro e w0 ⟨rfl, rfl⟩
  go_wp2_with fail
  refine (unhide GC _).mono ?_
  rintro e wGC ⟨rfl, kGC⟩
  go_wp2_with fail
  refine (unhide LC _).mono ?_
  rintro e wLC ⟨rfl, kLC⟩
  go_wp2_with fail
  refine (unhide CP1 _).mono ?_
  rintro e wCP1 ⟨rfl, kCP1⟩
  go_wp2_with fail
  refine (awake_any _).mono ?_
  rintro e wz ⟨rfl, kz⟩
  go_wp2_with fail
  go_ret
  exact ⟨rfl, (((kGC.trans kLC).trans kCP1).trans kz)⟩
set_option maxHeartbeats 1000000 in
theorem rests_D3 (a b q r n me g c x y : Int) (w : World) (l0 : -9223372036854775808 ≤ a) (u0 : a ≤ 9223372036854775807) (l1 : -9223372036854775808 ≤ b) (u1 : b ≤ 9223372036854775807) (hb : b < 1) (hx : 0 < x) (hx' : x ≤ 9223372036854775807) (x1 : a.tmod x = 0) (x2 : a % x = 0) (x3 : b.tmod x = 0) (x4 : b % x = 0) (xz : (x == 0) = false)
    (FL : Hid (∀ w, Calls Try.prog 8 #[.int .i64 a, .int .i64 b] w fun e w' => e = .returned (.tuple #[.int .i64 q, .int .i64 3]) ∧ w' = w)) (MO : Hid (∀ w, Calls Try.prog 9 #[.int .i64 a, .int .i64 b] w fun e w' => e = .returned (.tuple #[.int .i64 r, .int .i64 me]) ∧ w' = w)) (NE : Hid (∀ w, Calls Try.prog 10 #[.int .i64 a] w fun e w' => e = .returned (.tuple #[.int .i64 n, .int .i64 0]) ∧ w' = w)) (CE : Hid (∀ w, Calls Try.prog 11 #[.int .i64 n, .int .i64 b] w fun e w' => e = .returned (.tuple #[.int .i64 c, .int .i64 g]) ∧ w' = w)) (GC : Hid (∀ w, Calls Try.prog 12 #[.int .i64 a, .int .i64 b] w fun e w' => e = .returned (.tuple #[.int .i64 x, .int .i64 0]) ∧ Keep w w')) (LC : Hid (∀ w, Calls Try.prog 13 #[.int .i64 a, .int .i64 b] w fun e w' => e = .returned (.tuple #[.int .i64 y, .int .i64 2]) ∧ Keep w w')) :
    Calls Try.prog 4 #[.int .i64 a, .int .i64 b] w fun e w' => e = .returned (.bool true) ∧ Keep w w' := by
  go_enter Try.func4, Try.ntmps4
  go_wp2_with fail
  refine (unhide FL _).mono ?_
  rintro e w0 ⟨rfl, rfl⟩
  go_wp2_with fail
  refine (unhide MO _).mono ?_
  rintro e w0 ⟨rfl, rfl⟩
  go_wp2_with fail
  refine (unhide NE _).mono ?_
  rintro e w0 ⟨rfl, rfl⟩
  go_wp2_with fail
  refine (unhide CE _).mono ?_
  rintro e w0 ⟨rfl, rfl⟩
  go_wp2_with fail
  refine (unhide GC _).mono ?_
  rintro e wGC ⟨rfl, kGC⟩
  go_wp2_with fail
  refine (unhide LC _).mono ?_
  rintro e wLC ⟨rfl, kLC⟩
  go_wp2_with fail
  refine (awake_any _).mono ?_
  rintro e wz ⟨rfl, kz⟩
  go_wp2_with fail
  go_ret
  exact ⟨rfl, ((kGC.trans kLC).trans kz)⟩
set_option maxHeartbeats 1000000 in
theorem rests_D4 (a b q r n me g c x y : Int) (w : World) (l0 : -9223372036854775808 ≤ a) (u0 : a ≤ 9223372036854775807) (l1 : -9223372036854775808 ≤ b) (u1 : b ≤ 9223372036854775807) (hb : b < 1) (hx : 0 < x) (hx' : x ≤ 9223372036854775807) (x1 : a.tmod x = 0) (x2 : a % x = 0) (x3 : b.tmod x = 0) (x4 : b % x = 0) (xz : (x == 0) = false)
    (FL : Hid (∀ w, Calls Try.prog 8 #[.int .i64 a, .int .i64 b] w fun e w' => e = .returned (.tuple #[.int .i64 q, .int .i64 3]) ∧ w' = w)) (MO : Hid (∀ w, Calls Try.prog 9 #[.int .i64 a, .int .i64 b] w fun e w' => e = .returned (.tuple #[.int .i64 r, .int .i64 me]) ∧ w' = w)) (NE : Hid (∀ w, Calls Try.prog 10 #[.int .i64 a] w fun e w' => e = .returned (.tuple #[.int .i64 n, .int .i64 0]) ∧ w' = w)) (CE : Hid (∀ w, Calls Try.prog 11 #[.int .i64 n, .int .i64 b] w fun e w' => e = .returned (.tuple #[.int .i64 c, .int .i64 g]) ∧ w' = w)) (GC : Hid (∀ w, Calls Try.prog 12 #[.int .i64 a, .int .i64 b] w fun e w' => e = .returned (.tuple #[.int .i64 x, .int .i64 0]) ∧ Keep w w')) (LC : Hid (∀ w, Calls Try.prog 13 #[.int .i64 a, .int .i64 b] w fun e w' => e = .returned (.tuple #[.int .i64 y, .int .i64 0]) ∧ Keep w w')) (CP1 : Hid (∀ w, Calls Try.prog 5 #[.int .i64 x, .int .i64 y, .int .i64 a, .int .i64 b] w fun e w' => e = .returned (.int .i64 0) ∧ Keep w w')) :
    Calls Try.prog 4 #[.int .i64 a, .int .i64 b] w fun e w' => e = .returned (.bool true) ∧ Keep w w' := by
  go_enter Try.func4, Try.ntmps4
  go_wp2_with fail
  refine (unhide FL _).mono ?_
  rintro e w0 ⟨rfl, rfl⟩
  go_wp2_with fail
  refine (unhide MO _).mono ?_
  rintro e w0 ⟨rfl, rfl⟩
  go_wp2_with fail
  refine (unhide NE _).mono ?_
  rintro e w0 ⟨rfl, rfl⟩
  go_wp2_with fail
  refine (unhide CE _).mono ?_
  rintro e w0 ⟨rfl, rfl⟩
  go_wp2_with fail
  refine (unhide GC _).mono ?_
  rintro e wGC ⟨rfl, kGC⟩
  go_wp2_with fail
  refine (unhide LC _).mono ?_
  rintro e wLC ⟨rfl, kLC⟩
  go_wp2_with fail
  refine (unhide CP1 _).mono ?_
  rintro e wCP1 ⟨rfl, kCP1⟩
  go_wp2_with fail
  refine (awake_any _).mono ?_
  rintro e wz ⟨rfl, kz⟩
  go_wp2_with fail
  go_ret
  exact ⟨rfl, (((kGC.trans kLC).trans kCP1).trans kz)⟩
set_option maxHeartbeats 1000000 in
theorem rests_D5 (a b q r n me g c x y v1 : Int) (w : World) (l0 : -9223372036854775808 ≤ a) (u0 : a ≤ 9223372036854775807) (l1 : -9223372036854775808 ≤ b) (u1 : b ≤ 9223372036854775807) (hb : b < 1) (hx : 0 < x) (hx' : x ≤ 9223372036854775807) (ha : -9223372036854775808 < a) (hv : (v1 == 0) = false) (x1 : a.tmod x = 0) (x2 : a % x = 0) (x3 : b.tmod x = 0) (x4 : b % x = 0) (xz : (x == 0) = false)
    (FL : Hid (∀ w, Calls Try.prog 8 #[.int .i64 a, .int .i64 b] w fun e w' => e = .returned (.tuple #[.int .i64 q, .int .i64 3]) ∧ w' = w)) (MO : Hid (∀ w, Calls Try.prog 9 #[.int .i64 a, .int .i64 b] w fun e w' => e = .returned (.tuple #[.int .i64 r, .int .i64 me]) ∧ w' = w)) (NE : Hid (∀ w, Calls Try.prog 10 #[.int .i64 a] w fun e w' => e = .returned (.tuple #[.int .i64 n, .int .i64 0]) ∧ w' = w)) (CE : Hid (∀ w, Calls Try.prog 11 #[.int .i64 n, .int .i64 b] w fun e w' => e = .returned (.tuple #[.int .i64 c, .int .i64 g]) ∧ w' = w)) (GC : Hid (∀ w, Calls Try.prog 12 #[.int .i64 a, .int .i64 b] w fun e w' => e = .returned (.tuple #[.int .i64 x, .int .i64 0]) ∧ Keep w w')) (LC : Hid (∀ w, Calls Try.prog 13 #[.int .i64 a, .int .i64 b] w fun e w' => e = .returned (.tuple #[.int .i64 y, .int .i64 0]) ∧ Keep w w')) (CP1 : Hid (∀ w, Calls Try.prog 5 #[.int .i64 x, .int .i64 y, .int .i64 a, .int .i64 b] w fun e w' => e = .returned (.int .i64 v1) ∧ Keep w w')) (CP2 : Hid (∀ w, Calls Try.prog 5 #[.int .i64 x, .int .i64 y, .int .i64 (-a), .int .i64 b] w fun e w' => e = .returned (.int .i64 0) ∧ Keep w w')) :
    Calls Try.prog 4 #[.int .i64 a, .int .i64 b] w fun e w' => e = .returned (.bool true) ∧ Keep w w' := by
  have hv' : (v1 != 0) = true := by simpa using hv
  go_enter Try.func4, Try.ntmps4
  go_wp2_with fail
  refine (unhide FL _).mono ?_
  rintro e w0 ⟨rfl, rfl⟩
  go_wp2_with fail
  refine (unhide MO _).mono ?_
  rintro e w0 ⟨rfl, rfl⟩
  go_wp2_with fail
  refine (unhide NE _).mono ?_
  rintro e w0 ⟨rfl, rfl⟩
  go_wp2_with fail
  refine (unhide CE _).mono ?_
  rintro e w0 ⟨rfl, rfl⟩
  go_wp2_with fail
  refine (unhide GC _).mono ?_
  rintro e wGC ⟨rfl, kGC⟩
  go_wp2_with fail
  refine (unhide LC _).mono ?_
  rintro e wLC ⟨rfl, kLC⟩
  go_wp2_with fail
  refine (unhide CP1 _).mono ?_
  rintro e wCP1 ⟨rfl, kCP1⟩
  go_wp2_with fail
  refine (unhide CP2 _).mono ?_
  rintro e wCP2 ⟨rfl, kCP2⟩
  go_wp2_with fail
  refine (awake_any _).mono ?_
  rintro e wz ⟨rfl, kz⟩
  go_wp2_with fail
  go_ret
  exact ⟨rfl, ((((kGC.trans kLC).trans kCP1).trans kCP2).trans kz)⟩
set_option maxHeartbeats 1000000 in
theorem rests_E1 (a b q r n me x y i : Int) (w : World) (l0 : -9223372036854775808 ≤ a) (u0 : a ≤ 9223372036854775807) (l1 : -9223372036854775808 ≤ b) (u1 : b ≤ 9223372036854775807) (hb : b < 1) (hq : -9223372036854775808 < q) (hqu : q ≤ 9223372036854775807) 
    (FL : Hid (∀ w, Calls Try.prog 8 #[.int .i64 a, .int .i64 b] w fun e w' => e = .returned (.tuple #[.int .i64 q, .int .i64 0]) ∧ w' = w)) (MO : Hid (∀ w, Calls Try.prog 9 #[.int .i64 a, .int .i64 b] w fun e w' => e = .returned (.tuple #[.int .i64 r, .int .i64 me]) ∧ w' = w)) (NE : Hid (∀ w, Calls Try.prog 10 #[.int .i64 a] w fun e w' => e = .returned (.tuple #[.int .i64 n, .int .i64 0]) ∧ w' = w)) (CE : Hid (∀ w, Calls Try.prog 11 #[.int .i64 n, .int .i64 b] w fun e w' => e = .returned (.tuple #[.int .i64 (-q), .int .i64 0]) ∧ w' = w)) (GC : Hid (∀ w, Calls Try.prog 12 #[.int .i64 a, .int .i64 b] w fun e w' => e = .returned (.tuple #[.int .i64 x, .int .i64 2]) ∧ Keep w w')) (LC : Hid (∀ w, Calls Try.prog 13 #[.int .i64 a, .int .i64 b] w fun e w' => e = .returned (.tuple #[.int .i64 y, .int .i64 i]) ∧ Keep w w')) :
    Calls Try.prog 4 #[.int .i64 a, .int .i64 b] w fun e w' => e = .returned (.bool true) ∧ Keep w w' := by
  go_enter Try.func4, Try.ntmps4
  go_wp2_with fail
  refine (unhide FL _).mono ?_
  rintro e w0 ⟨rfl, rfl⟩
  go_wp2_with fail
  refine (unhide MO _).mono ?_
  rintro e w0 ⟨rfl, rfl⟩
  go_wp2_with fail
  refine (unhide NE _).mono ?_
  rintro e w0 ⟨rfl, rfl⟩
  go_wp2_with fail
  refine (unhide CE _).mono ?_
  rintro e w0 ⟨rfl, rfl⟩
  go_wp2_with fail
  refine (unhide GC _).mono ?_
  rintro e wGC ⟨rfl, kGC⟩
  go_wp2_with fail
  refine (unhide LC _).mono ?_
  rintro e wLC ⟨rfl, kLC⟩
  go_wp2_with fail
  refine (awake_any _).mono ?_
  rintro e wz ⟨rfl, kz⟩
  go_wp2_with fail
  go_ret
  exact ⟨rfl, ((kGC.trans kLC).trans kz)⟩
set_option maxHeartbeats 1000000 in
theorem rests_E2 (a b q r n me y : Int) (w : World) (l0 : -9223372036854775808 ≤ a) (u0 : a ≤ 9223372036854775807) (l1 : -9223372036854775808 ≤ b) (u1 : b ≤ 9223372036854775807) (hb : b < 1) (hq : -9223372036854775808 < q) (hqu : q ≤ 9223372036854775807) 
    (FL : Hid (∀ w, Calls Try.prog 8 #[.int .i64 a, .int .i64 b] w fun e w' => e = .returned (.tuple #[.int .i64 q, .int .i64 0]) ∧ w' = w)) (MO : Hid (∀ w, Calls Try.prog 9 #[.int .i64 a, .int .i64 b] w fun e w' => e = .returned (.tuple #[.int .i64 r, .int .i64 me]) ∧ w' = w)) (NE : Hid (∀ w, Calls Try.prog 10 #[.int .i64 a] w fun e w' => e = .returned (.tuple #[.int .i64 n, .int .i64 0]) ∧ w' = w)) (CE : Hid (∀ w, Calls Try.prog 11 #[.int .i64 n, .int .i64 b] w fun e w' => e = .returned (.tuple #[.int .i64 (-q), .int .i64 0]) ∧ w' = w)) (GC : Hid (∀ w, Calls Try.prog 12 #[.int .i64 a, .int .i64 b] w fun e w' => e = .returned (.tuple #[.int .i64 0, .int .i64 0]) ∧ Keep w w')) (LC : Hid (∀ w, Calls Try.prog 13 #[.int .i64 a, .int .i64 b] w fun e w' => e = .returned (.tuple #[.int .i64 y, .int .i64 0]) ∧ Keep w w')) (CP1 : Hid (∀ w, Calls Try.prog 5 #[.int .i64 0, .int .i64 y, .int .i64 a, .int .i64 b] w fun e w' => e = .returned (.int .i64 0) ∧ Keep w w')) :
    Calls Try.prog 4 #[.int .i64 a, .int .i64 b] w fun e w' => e = .returned (.bool true) ∧ Keep w w' := by
  go_enter Try.func4, Try.ntmps4
  go_wp2_with fail
  refine (unhide FL _).mono ?_
  rintro e w0 ⟨rfl, rfl⟩
  go_wp2_with fail
  refine (unhide MO _).mono ?_
  rintro e w0 ⟨rfl, rfl⟩
  go_wp2_with fail
  refine (unhide NE _).mono ?_
  rintro e w0 ⟨rfl, rfl⟩
  go_wp2_with fail
  refine (unhide CE _).mono ?_
  rintro e w0 ⟨rfl, rfl⟩
  go_wp2_with fail
  refine (unhide GC _).mono ?_
  rintro e wGC ⟨rfl, kGC⟩
  go_wp2_with fail
  refine (unhide LC _).mono ?_
  rintro e wLC ⟨rfl, kLC⟩
  go_wp2_with fail
  refine (unhide CP1 _).mono ?_
  rintro e wCP1 ⟨rfl, kCP1⟩
  go_wp2_with fail
  refine (awake_any _).mono ?_
  rintro e wz ⟨rfl, kz⟩
  go_wp2_with fail
  go_ret
  exact ⟨rfl, (((kGC.trans kLC).trans kCP1).trans kz)⟩
set_option maxHeartbeats 1000000 in
theorem rests_E3 (a b q r n me x y : Int) (w : World) (l0 : -9223372036854775808 ≤ a) (u0 : a ≤ 9223372036854775807) (l1 : -9223372036854775808 ≤ b) (u1 : b ≤ 9223372036854775807) (hb : b < 1) (hq : -9223372036854775808 < q) (hqu : q ≤ 9223372036854775807) (hx : 0 < x) (hx' : x ≤ 9223372036854775807) (x1 : a.tmod x = 0) (x2 : a % x = 0) (x3 : b.tmod x = 0) (x4 : b % x = 0) (xz : (x == 0) = false)
    (FL : Hid (∀ w, Calls Try.prog 8 #[.int .i64 a, .int .i64 b] w fun e w' => e = .returned (.tuple #[.int .i64 q, .int .i64 0]) ∧ w' = w)) (MO : Hid (∀ w, Calls Try.prog 9 #[.int .i64 a, .int .i64 b] w fun e w' => e = .returned (.tuple #[.int .i64 r, .int .i64 me]) ∧ w' = w)) (NE : Hid (∀ w, Calls Try.prog 10 #[.int .i64 a] w fun e w' => e = .returned (.tuple #[.int .i64 n, .int .i64 0]) ∧ w' = w)) (CE : Hid (∀ w, Calls Try.prog 11 #[.int .i64 n, .int .i64 b] w fun e w' => e = .returned (.tuple #[.int .i64 (-q), .int .i64 0]) ∧ w' = w)) (GC : Hid (∀ w, Calls Try.prog 12 #[.int .i64 a, .int .i64 b] w fun e w' => e = .returned (.tuple #[.int .i64 x, .int .i64 0]) ∧ Keep w w')) (LC : Hid (∀ w, Calls Try.prog 13 #[.int .i64 a, .int .i64 b] w fun e w' => e = .returned (.tuple #[.int .i64 y, .int .i64 2]) ∧ Keep w w')) :
    Calls Try.prog 4 #[.int .i64 a, .int .i64 b] w fun e w' => e = .returned (.bool true) ∧ Keep w w' := by
  go_enter Try.func4, Try.ntmps4
  go_wp2_with fail
  refine (unhide FL _).mono ?_
  rintro e w0 ⟨rfl, rfl⟩
  go_wp2_with fail
  refine (unhide MO _).mono ?_
  rintro e w0 ⟨rfl, rfl⟩
  go_wp2_with fail
  refine (unhide NE _).mono ?_
  rintro e w0 ⟨rfl, rfl⟩
  go_wp2_with fail
  refine (unhide CE _).mono ?_
  rintro e w0 ⟨rfl, rfl⟩
  go_wp2_with fail
  refine (unhide GC _).mono ?_
  rintro e wGC ⟨rfl, kGC⟩
  go_wp2_with fail
  refine (unhide LC _).mono ?_
  rintro e wLC ⟨rfl, kLC⟩
  go_wp2_with fail
  refine (awake_any _).mono ?_
  rintro e wz ⟨rfl, kz⟩
  go_wp2_with fail
  go_ret
  exact ⟨rfl, ((kGC.trans kLC).trans kz)⟩
set_option maxHeartbeats 1000000 in
theorem rests_E4 (a b q r n me x y : Int) (w : World) (l0 : -9223372036854775808 ≤ a) (u0 : a ≤ 9223372036854775807) (l1 : -9223372036854775808 ≤ b) (u1 : b ≤ 9223372036854775807) (hb : b < 1) (hq : -9223372036854775808 < q) (hqu : q ≤ 9223372036854775807) (hx : 0 < x) (hx' : x ≤ 9223372036854775807) (x1 : a.tmod x = 0) (x2 : a % x = 0) (x3 : b.tmod x = 0) (x4 : b % x = 0) (xz : (x == 0) = false)
    (FL : Hid (∀ w, Calls Try.prog 8 #[.int .i64 a, .int .i64 b] w fun e w' => e = .returned (.tuple #[.int .i64 q, .int .i64 0]) ∧ w' = w)) (MO : Hid (∀ w, Calls Try.prog 9 #[.int .i64 a, .int .i64 b] w fun e w' => e = .returned (.tuple #[.int .i64 r, .int .i64 me]) ∧ w' = w)) (NE : Hid (∀ w, Calls Try.prog 10 #[.int .i64 a] w fun e w' => e = .returned (.tuple #[.int .i64 n, .int .i64 0]) ∧ w' = w)) (CE : Hid (∀ w, Calls Try.prog 11 #[.int .i64 n, .int .i64 b] w fun e w' => e = .returned (.tuple #[.int .i64 (-q), .int .i64 0]) ∧ w' = w)) (GC : Hid (∀ w, Calls Try.prog 12 #[.int .i64 a, .int .i64 b] w fun e w' => e = .returned (.tuple #[.int .i64 x, .int .i64 0]) ∧ Keep w w')) (LC : Hid (∀ w, Calls Try.prog 13 #[.int .i64 a, .int .i64 b] w fun e w' => e = .returned (.tuple #[.int .i64 y, .int .i64 0]) ∧ Keep w w')) (CP1 : Hid (∀ w, Calls Try.prog 5 #[.int .i64 x, .int .i64 y, .int .i64 a, .int .i64 b] w fun e w' => e = .returned (.int .i64 0) ∧ Keep w w')) :
    Calls Try.prog 4 #[.int .i64 a, .int .i64 b] w fun e w' => e = .returned (.bool true) ∧ Keep w w' := by
  go_enter Try.func4, Try.ntmps4
  go_wp2_with fail
  refine (unhide FL _).mono ?_
  rintro e w0 ⟨rfl, rfl⟩
  go_wp2_with fail
  refine (unhide MO _).mono ?_
  rintro e w0 ⟨rfl, rfl⟩
  go_wp2_with fail
  refine (unhide NE _).mono ?_
  rintro e w0 ⟨rfl, rfl⟩
  go_wp2_with fail
  refine (unhide CE _).mono ?_
  rintro e w0 ⟨rfl, rfl⟩
  go_wp2_with fail
  refine (unhide GC _).mono ?_
  rintro e wGC ⟨rfl, kGC⟩
  go_wp2_with fail
  refine (unhide LC _).mono ?_
  rintro e wLC ⟨rfl, kLC⟩
  go_wp2_with fail
  refine (unhide CP1 _).mono ?_
  rintro e wCP1 ⟨rfl, kCP1⟩
  go_wp2_with fail
  refine (awake_any _).mono ?_
  rintro e wz ⟨rfl, kz⟩
  go_wp2_with fail
  go_ret
  exact ⟨rfl, (((kGC.trans kLC).trans kCP1).trans kz)⟩
set_option maxHeartbeats 1000000 in
theorem rests_E5 (a b q r n me x y v1 : Int) (w : World) (l0 : -9223372036854775808 ≤ a) (u0 : a ≤ 9223372036854775807) (l1 : -9223372036854775808 ≤ b) (u1 : b ≤ 9223372036854775807) (hb : b < 1) (hq : -9223372036854775808 < q) (hqu : q ≤ 9223372036854775807) (hx : 0 < x) (hx' : x ≤ 9223372036854775807) (ha : -9223372036854775808 < a) (hv : (v1 == 0) = false) (x1 : a.tmod x = 0) (x2 : a % x = 0) (x3 : b.tmod x = 0) (x4 : b % x = 0) (xz : (x == 0) = false)
    (FL : Hid (∀ w, Calls Try.prog 8 #[.int .i64 a, .int .i64 b] w fun e w' => e = .returned (.tuple #[.int .i64 q, .int .i64 0]) ∧ w' = w)) (MO : Hid (∀ w, Calls Try.prog 9 #[.int .i64 a, .int .i64 b] w fun e w' => e = .returned (.tuple #[.int .i64 r, .int .i64 me]) ∧ w' = w)) (NE : Hid (∀ w, Calls Try.prog 10 #[.int .i64 a] w fun e w' => e = .returned (.tuple #[.int .i64 n, .int .i64 0]) ∧ w' = w)) (CE : Hid (∀ w, Calls Try.prog 11 #[.int .i64 n, .int .i64 b] w fun e w' => e = .returned (.tuple #[.int .i64 (-q), .int .i64 0]) ∧ w' = w)) (GC : Hid (∀ w, Calls Try.prog 12 #[.int .i64 a, .int .i64 b] w fun e w' => e = .returned (.tuple #[.int .i64 x, .int .i64 0]) ∧ Keep w w')) (LC : Hid (∀ w, Calls Try.prog 13 #[.int .i64 a, .int .i64 b] w fun e w' => e = .returned (.tuple #[.int .i64 y, .int .i64 0]) ∧ Keep w w')) (CP1 : Hid (∀ w, Calls Try.prog 5 #[.int .i64 x, .int .i64 y, .int .i64 a, .int .i64 b] w fun e w' => e = .returned (.int .i64 v1) ∧ Keep w w')) (CP2 : Hid (∀ w, Calls Try.prog 5 #[.int .i64 x, .int .i64 y, .int .i64 (-a), .int .i64 b] w fun e w' => e = .returned (.int .i64 0) ∧ Keep w w')) :
    Calls Try.prog 4 #[.int .i64 a, .int .i64 b] w fun e w' => e = .returned (.bool true) ∧ Keep w w' := by
  have hv' : (v1 != 0) = true := by simpa using hv
  go_enter Try.func4, Try.ntmps4
  go_wp2_with fail
  refine (unhide FL _).mono ?_
  rintro e w0 ⟨rfl, rfl⟩
  go_wp2_with fail
  refine (unhide MO _).mono ?_
  rintro e w0 ⟨rfl, rfl⟩
  go_wp2_with fail
  refine (unhide NE _).mono ?_
  rintro e w0 ⟨rfl, rfl⟩
  go_wp2_with fail
  refine (unhide CE _).mono ?_
  rintro e w0 ⟨rfl, rfl⟩
  go_wp2_with fail
  refine (unhide GC _).mono ?_
  rintro e wGC ⟨rfl, kGC⟩
  go_wp2_with fail
  refine (unhide LC _).mono ?_
  rintro e wLC ⟨rfl, kLC⟩
  go_wp2_with fail
  refine (unhide CP1 _).mono ?_
  rintro e wCP1 ⟨rfl, kCP1⟩
  go_wp2_with fail
  refine (unhide CP2 _).mono ?_
  rintro e wCP2 ⟨rfl, kCP2⟩
  go_wp2_with fail
  refine (awake_any _).mono ?_
  rintro e wz ⟨rfl, kz⟩
  go_wp2_with fail
  go_ret
  exact ⟨rfl, ((((kGC.trans kLC).trans kCP1).trans kCP2).trans kz)⟩
end Go.Proofs.Ytaebjfdadiegjab
