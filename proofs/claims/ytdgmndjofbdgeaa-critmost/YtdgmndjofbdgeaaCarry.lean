/- math/bits.Div64: the quotient of a number of 128 bits. -/
import Derived.Test.YtdgmndjofbdgeaaShelf
import Derived.Test.YtdgmndjofbdgeaaDivNum
import Derived.LoopTactic
import Derived.Shelf.Spec.BitsCarry
import Derived.Test.YtdgmndjofbdgeaaFracA
namespace Go.Proofs.Ytdgmndjofbdgeaa
open Go.RowKit
set_option linter.unusedVariables false

theorem lz_any (y : Int) (w : World) (h0 : 0 < y) (h1 : y < 18446744073709551616) :
    Calls Try.prog 84 #[.int .u64 y] w fun e w' => e = .returned (.int .i64 ((64 - Lib.bitLen y.toNat : Nat) : Int)) ∧ w' = w := by
  refine (Try.bits_LeadingZeros64 y w (by omega) (by omega)).mono ?_
  rintro e w' ⟨rfl, rfl⟩
  have := (bl_shift y.toNat (by omega) (by omega)).1
  refine ⟨?_, rfl⟩
  rw [show (64 : Int) - (Lib.bitLen y.toNat : Int) = ((64 - Lib.bitLen y.toNat : Nat) : Int) by omega]

/-- what Div64 ends with: both steps' true quotients -/
def DivPost (U u1 u0 y1 y0 Y : Int) (s : Nat) (e : Ending) : Prop := ∃ q1 q0 R r, e = .returned (.tuple #[.int .u64 (q1 * 4294967296 + q0), .int .u64 r]) ∧ dq U u1 y1 y0 = q1 ∧ R = U * 4294967296 + u1 - q1 * Y ∧ dq R u0 y1 y0 = q0
    ∧ r = IntKind.u64.wrap (IntKind.u64.wrap (IntKind.u64.wrap (R * 4294967296) + u0) - IntKind.u64.wrap (q0 * Y)) / 2 ^ s

set_option maxHeartbeats 1000000 in
/-- the walk of Div64 where the high half is not 0: every number that it reckons bears a name -/
theorem div64_core (hi lo y Y y1 y0 A Z U V u1 u0 : Int) (s : Nat) (w : World) (h0 : 0 < hi) (h1 : hi < y) (h2 : y < 18446744073709551616) (h3 : 0 ≤ lo) (h4 : lo < 18446744073709551616) (hs : s ≤ 63)
    (LZ : Hid (∀ w, Calls Try.prog 84 #[.int .u64 y] w fun e w' => e = .returned (.int .i64 (s : Int)) ∧ w' = w))
    (HY : Hid (Y = y1 * 4294967296 + y0)) (e1 : IntKind.u64.wrap (y * 2 ^ s) = Y) (e2 : Y / 4294967296 = y1) (e3 : bits .and .u64 Y 4294967295 = y0) (e4 : IntKind.u64.wrap (hi * 2 ^ s) = A) (e5 : lo / 2 ^ (64 - s) = Z)
    (e6 : bits .or .u64 A Z = U) (e7 : IntKind.u64.wrap (lo * 2 ^ s) = V) (e8 : V / 4294967296 = u1) (e9 : bits .and .u64 V 4294967295 = u0)
    (k1 : 2147483648 ≤ y1) (k2 : y1 < 4294967296) (k3 : 0 ≤ y0) (k4 : y0 < 4294967296) (k5 : 0 ≤ U) (k6 : U < y1 * 4294967296 + y0) (k7 : 0 ≤ u1) (k8 : u1 < 4294967296) (k9 : 0 ≤ u0) (k10 : u0 < 4294967296) :
    Calls Try.prog 83 #[.int .u64 hi, .int .u64 lo, .int .u64 y] w fun e w' => DivPost U u1 u0 y1 y0 Y s e ∧ w' = w := by
  have hy0 : (y == 0) = false := by simp; omega
  have hh0 : (hi == 0) = false := by simp; omega
  have hyl : ¬ y ≤ hi := by omega
  go_enter Try.func83, Try.ntmps83
  go_wp2_with fail
  refine (uq LZ _).mono ?_
  rintro e w' ⟨rfl, rfl⟩
  go_wp2_with fail
  go_loop [15, 16] (fun q r => ∃ qv rv : Int, q = .int .u64 qv ∧ r = .int .u64 rv ∧ DInv U u1 y1 y0 qv rv) (fun q _ => (intOf q).toNat)
  case atStart => exact ⟨_, _, rfl, by rw [dstart (by omega) (by omega) k1 k2 k4], dinit (by omega) (by omega) (by omega) (by omega) k1 k2 k3 k4⟩
  case round =>
    obtain ⟨q, r, rfl, rfl, hinv⟩ := hrel
    obtain ⟨i1, i2, i3, i4, i5, i6⟩ := hinv
    have I1 := hide i1
    have I4 := hide i4
    clear i1 i4
    by_cases hge : 4294967296 ≤ q
    · by_cases hr : 4294967296 ≤ r + y1
      · have HQ := hide (dend1 (u := u1) k1 k3 k4 (by omega) (dround (uq I1)) (by omega) (by omega) hr (dgo1 (r := r) (by omega) (by omega) k1 k3 hge))
        have hQ1 := dq_lt (U := U) (u := u1) (y1 := y1) (y0 := y0) (by omega) (by omega) k1 k3
        rw [uq HQ] at hQ1
        obtain ⟨q1, hq1'⟩ : ∃ q1, q1 = (q - 1) := ⟨_, rfl⟩
        have HQ1 : Hid (dq U u1 y1 y0 = q1) := by rw [hq1']; exact HQ
        have hd := drest k1 k3 (uq HQ1)
        have hw := dwrap (uq HY) k1 k2 k3 k4 (uq HQ1)
        obtain ⟨R, hR⟩ : ∃ R, R = U * 4294967296 + u1 - q1 * Y := ⟨_, rfl⟩
        rw [← hR] at hw
        rw [← uq HY, ← hR] at hd
        obtain ⟨hd1, hd2⟩ := hd
        have HR := hide hR
        have b0 : 0 ≤ q1 := by omega
        have b1 : q1 < 4294967296 := by omega
        rw [uq HY] at hd2
        have hq1'' := hq1'.symm
        clear hR hq1' HQ
        go_wp2_with fail
        go_loop [18, 16] (fun q r => ∃ qv rv : Int, q = .int .u64 qv ∧ r = .int .u64 rv ∧ DInv R u0 y1 y0 qv rv) (fun q _ => (intOf q).toNat)
        case atStart => exact ⟨_, _, rfl, by rw [dstart (by omega) (by omega) k1 k2 k4], dinit (by omega) (by omega) (by omega) (by omega) k1 k2 k3 k4⟩
        case round =>
          obtain ⟨q, r, rfl, rfl, hinv⟩ := hrel
          obtain ⟨i1, i2, i3, i4, i5, i6⟩ := hinv
          have I1 := hide i1
          have I4 := hide i4
          clear i1 i4
          by_cases hge : 4294967296 ≤ q
          · by_cases hr : 4294967296 ≤ r + y1
            · have HQ := hide (dend1 (u := u0) k1 k3 k4 (by omega) (dround (uq I1)) (by omega) (by omega) hr (dgo1 (r := r) (by omega) (by omega) k1 k3 hge))
              have hQ1 := dq_lt (U := R) (u := u0) (y1 := y1) (y0 := y0) (by omega) (by omega) k1 k3
              rw [uq HQ] at hQ1
              go_wp2_with fail
              go_ret2
              exact ⟨⟨q1, _, R, _, rfl, uq HQ1, uq HR, uq HQ, rfl⟩, rfl⟩

            · have N4 := hide (dgo1 (U := R) (u := u0) (y1 := y1) (y0 := y0) (r := r) (by omega) (by omega) k1 k3 hge)
              have N1 := hide (dround (uq I1))
              go_wp2_with fail
              exact ⟨⟨_, _, rfl, rfl, uq N1, by omega, by omega, uq N4, by omega, by omega⟩, by simp [intOf]; omega⟩
          · have hp := dprod i6 (show q < 4294967296 by omega) k3 k4
            obtain ⟨P, hP⟩ : ∃ P, P = q * y0 := ⟨_, rfl⟩
            rw [← hP] at hp
            have eP : IntKind.u64.wrap (q * y0) = P := by rw [IntKind.wrap_u64]; omega
            have HP := hide hP
            clear hP
            obtain ⟨hp1, hp2⟩ := hp
            by_cases ht : 4294967296 * r + u0 < P
            · have hq1 := dpos (uq HP) i6 ht (by omega)
              by_cases hr : 4294967296 ≤ r + y1
              · have HQ := hide (dend1 (u := u0) k1 k3 k4 (by omega) (dround (uq I1)) (by omega) (by omega) hr (dgo2 k1 k3 (uq I1) (by rw [← uq HP]; exact ht)))
                have hQ1 := dq_lt (U := R) (u := u0) (y1 := y1) (y0 := y0) (by omega) (by omega) k1 k3
                rw [uq HQ] at hQ1
                go_wp2_with fail
                go_ret2
                exact ⟨⟨q1, _, R, _, rfl, uq HQ1, uq HR, uq HQ, rfl⟩, rfl⟩

              · have N4 := hide (dgo2 (u := u0) k1 k3 (uq I1) (by rw [← uq HP]; exact ht))
                have N1 := hide (dround (uq I1))
                go_wp2_with fail
                exact ⟨⟨_, _, rfl, rfl, uq N1, by omega, by omega, uq N4, by omega, by omega⟩, by simp [intOf]; omega⟩
            · have HQ := hide (dend2 (u := u0) k1 k3 (uq I1) (by rw [← uq HP]; omega) (uq I4))
              have hQ1 := dq_lt (U := R) (u := u0) (y1 := y1) (y0 := y0) (by omega) (by omega) k1 k3
              rw [uq HQ] at hQ1
              go_wp2_with fail
              go_ret2
              exact ⟨⟨q1, _, R, _, rfl, uq HQ1, uq HR, uq HQ, rfl⟩, rfl⟩


      · have N4 := hide (dgo1 (U := U) (u := u1) (y1 := y1) (y0 := y0) (r := r) (by omega) (by omega) k1 k3 hge)
        have N1 := hide (dround (uq I1))
        go_wp2_with fail
        exact ⟨⟨_, _, rfl, rfl, uq N1, by omega, by omega, uq N4, by omega, by omega⟩, by simp [intOf]; omega⟩
    · have hp := dprod i6 (show q < 4294967296 by omega) k3 k4
      obtain ⟨P, hP⟩ : ∃ P, P = q * y0 := ⟨_, rfl⟩
      rw [← hP] at hp
      have eP : IntKind.u64.wrap (q * y0) = P := by rw [IntKind.wrap_u64]; omega
      have HP := hide hP
      clear hP
      obtain ⟨hp1, hp2⟩ := hp
      by_cases ht : 4294967296 * r + u1 < P
      · have hq1 := dpos (uq HP) i6 ht (by omega)
        by_cases hr : 4294967296 ≤ r + y1
        · have HQ := hide (dend1 (u := u1) k1 k3 k4 (by omega) (dround (uq I1)) (by omega) (by omega) hr (dgo2 k1 k3 (uq I1) (by rw [← uq HP]; exact ht)))
          have hQ1 := dq_lt (U := U) (u := u1) (y1 := y1) (y0 := y0) (by omega) (by omega) k1 k3
          rw [uq HQ] at hQ1
          obtain ⟨q1, hq1'⟩ : ∃ q1, q1 = (q - 1) := ⟨_, rfl⟩
          have HQ1 : Hid (dq U u1 y1 y0 = q1) := by rw [hq1']; exact HQ
          have hd := drest k1 k3 (uq HQ1)
          have hw := dwrap (uq HY) k1 k2 k3 k4 (uq HQ1)
          obtain ⟨R, hR⟩ : ∃ R, R = U * 4294967296 + u1 - q1 * Y := ⟨_, rfl⟩
          rw [← hR] at hw
          rw [← uq HY, ← hR] at hd
          obtain ⟨hd1, hd2⟩ := hd
          have HR := hide hR
          have b0 : 0 ≤ q1 := by omega
          have b1 : q1 < 4294967296 := by omega
          rw [uq HY] at hd2
          have hq1'' := hq1'.symm
          clear hR hq1' HQ
          go_wp2_with fail
          go_loop [18, 16] (fun q r => ∃ qv rv : Int, q = .int .u64 qv ∧ r = .int .u64 rv ∧ DInv R u0 y1 y0 qv rv) (fun q _ => (intOf q).toNat)
          case atStart => exact ⟨_, _, rfl, by rw [dstart (by omega) (by omega) k1 k2 k4], dinit (by omega) (by omega) (by omega) (by omega) k1 k2 k3 k4⟩
          case round =>
            obtain ⟨q, r, rfl, rfl, hinv⟩ := hrel
            obtain ⟨i1, i2, i3, i4, i5, i6⟩ := hinv
            have I1 := hide i1
            have I4 := hide i4
            clear i1 i4
            by_cases hge : 4294967296 ≤ q
            · by_cases hr : 4294967296 ≤ r + y1
              · have HQ := hide (dend1 (u := u0) k1 k3 k4 (by omega) (dround (uq I1)) (by omega) (by omega) hr (dgo1 (r := r) (by omega) (by omega) k1 k3 hge))
                have hQ1 := dq_lt (U := R) (u := u0) (y1 := y1) (y0 := y0) (by omega) (by omega) k1 k3
                rw [uq HQ] at hQ1
                go_wp2_with fail
                go_ret2
                exact ⟨⟨q1, _, R, _, rfl, uq HQ1, uq HR, uq HQ, rfl⟩, rfl⟩

              · have N4 := hide (dgo1 (U := R) (u := u0) (y1 := y1) (y0 := y0) (r := r) (by omega) (by omega) k1 k3 hge)
                have N1 := hide (dround (uq I1))
                go_wp2_with fail
                exact ⟨⟨_, _, rfl, rfl, uq N1, by omega, by omega, uq N4, by omega, by omega⟩, by simp [intOf]; omega⟩
            · have hp := dprod i6 (show q < 4294967296 by omega) k3 k4
              obtain ⟨P, hP⟩ : ∃ P, P = q * y0 := ⟨_, rfl⟩
              rw [← hP] at hp
              have eP : IntKind.u64.wrap (q * y0) = P := by rw [IntKind.wrap_u64]; omega
              have HP := hide hP
              clear hP
              obtain ⟨hp1, hp2⟩ := hp
              by_cases ht : 4294967296 * r + u0 < P
              · have hq1 := dpos (uq HP) i6 ht (by omega)
                by_cases hr : 4294967296 ≤ r + y1
                · have HQ := hide (dend1 (u := u0) k1 k3 k4 (by omega) (dround (uq I1)) (by omega) (by omega) hr (dgo2 k1 k3 (uq I1) (by rw [← uq HP]; exact ht)))
                  have hQ1 := dq_lt (U := R) (u := u0) (y1 := y1) (y0 := y0) (by omega) (by omega) k1 k3
                  rw [uq HQ] at hQ1
                  go_wp2_with fail
                  go_ret2
                  exact ⟨⟨q1, _, R, _, rfl, uq HQ1, uq HR, uq HQ, rfl⟩, rfl⟩

                · have N4 := hide (dgo2 (u := u0) k1 k3 (uq I1) (by rw [← uq HP]; exact ht))
                  have N1 := hide (dround (uq I1))
                  go_wp2_with fail
                  exact ⟨⟨_, _, rfl, rfl, uq N1, by omega, by omega, uq N4, by omega, by omega⟩, by simp [intOf]; omega⟩
              · have HQ := hide (dend2 (u := u0) k1 k3 (uq I1) (by rw [← uq HP]; omega) (uq I4))
                have hQ1 := dq_lt (U := R) (u := u0) (y1 := y1) (y0 := y0) (by omega) (by omega) k1 k3
                rw [uq HQ] at hQ1
                go_wp2_with fail
                go_ret2
                exact ⟨⟨q1, _, R, _, rfl, uq HQ1, uq HR, uq HQ, rfl⟩, rfl⟩


        · have N4 := hide (dgo2 (u := u1) k1 k3 (uq I1) (by rw [← uq HP]; exact ht))
          have N1 := hide (dround (uq I1))
          go_wp2_with fail
          exact ⟨⟨_, _, rfl, rfl, uq N1, by omega, by omega, uq N4, by omega, by omega⟩, by simp [intOf]; omega⟩
      · have HQ := hide (dend2 (u := u1) k1 k3 (uq I1) (by rw [← uq HP]; omega) (uq I4))
        have hQ1 := dq_lt (U := U) (u := u1) (y1 := y1) (y0 := y0) (by omega) (by omega) k1 k3
        rw [uq HQ] at hQ1
        obtain ⟨q1, hq1'⟩ : ∃ q1, q1 = q := ⟨_, rfl⟩
        have HQ1 : Hid (dq U u1 y1 y0 = q1) := by rw [hq1']; exact HQ
        have hd := drest k1 k3 (uq HQ1)
        have hw := dwrap (uq HY) k1 k2 k3 k4 (uq HQ1)
        obtain ⟨R, hR⟩ : ∃ R, R = U * 4294967296 + u1 - q1 * Y := ⟨_, rfl⟩
        rw [← hR] at hw
        rw [← uq HY, ← hR] at hd
        obtain ⟨hd1, hd2⟩ := hd
        have HR := hide hR
        have b0 : 0 ≤ q1 := by omega
        have b1 : q1 < 4294967296 := by omega
        rw [uq HY] at hd2
        subst hq1'
        clear hR HQ
        go_wp2_with fail
        go_loop [18, 16] (fun q r => ∃ qv rv : Int, q = .int .u64 qv ∧ r = .int .u64 rv ∧ DInv R u0 y1 y0 qv rv) (fun q _ => (intOf q).toNat)
        case atStart => exact ⟨_, _, rfl, by rw [dstart (by omega) (by omega) k1 k2 k4], dinit (by omega) (by omega) (by omega) (by omega) k1 k2 k3 k4⟩
        case round =>
          obtain ⟨q, r, rfl, rfl, hinv⟩ := hrel
          obtain ⟨i1, i2, i3, i4, i5, i6⟩ := hinv
          have I1 := hide i1
          have I4 := hide i4
          clear i1 i4
          by_cases hge : 4294967296 ≤ q
          · by_cases hr : 4294967296 ≤ r + y1
            · have HQ := hide (dend1 (u := u0) k1 k3 k4 (by omega) (dround (uq I1)) (by omega) (by omega) hr (dgo1 (r := r) (by omega) (by omega) k1 k3 hge))
              have hQ1 := dq_lt (U := R) (u := u0) (y1 := y1) (y0 := y0) (by omega) (by omega) k1 k3
              rw [uq HQ] at hQ1
              go_wp2_with fail
              go_ret2
              exact ⟨⟨q1, _, R, _, rfl, uq HQ1, uq HR, uq HQ, rfl⟩, rfl⟩

            · have N4 := hide (dgo1 (U := R) (u := u0) (y1 := y1) (y0 := y0) (r := r) (by omega) (by omega) k1 k3 hge)
              have N1 := hide (dround (uq I1))
              go_wp2_with fail
              exact ⟨⟨_, _, rfl, rfl, uq N1, by omega, by omega, uq N4, by omega, by omega⟩, by simp [intOf]; omega⟩
          · have hp := dprod i6 (show q < 4294967296 by omega) k3 k4
            obtain ⟨P, hP⟩ : ∃ P, P = q * y0 := ⟨_, rfl⟩
            rw [← hP] at hp
            have eP : IntKind.u64.wrap (q * y0) = P := by rw [IntKind.wrap_u64]; omega
            have HP := hide hP
            clear hP
            obtain ⟨hp1, hp2⟩ := hp
            by_cases ht : 4294967296 * r + u0 < P
            · have hq1 := dpos (uq HP) i6 ht (by omega)
              by_cases hr : 4294967296 ≤ r + y1
              · have HQ := hide (dend1 (u := u0) k1 k3 k4 (by omega) (dround (uq I1)) (by omega) (by omega) hr (dgo2 k1 k3 (uq I1) (by rw [← uq HP]; exact ht)))
                have hQ1 := dq_lt (U := R) (u := u0) (y1 := y1) (y0 := y0) (by omega) (by omega) k1 k3
                rw [uq HQ] at hQ1
                go_wp2_with fail
                go_ret2
                exact ⟨⟨q1, _, R, _, rfl, uq HQ1, uq HR, uq HQ, rfl⟩, rfl⟩

              · have N4 := hide (dgo2 (u := u0) k1 k3 (uq I1) (by rw [← uq HP]; exact ht))
                have N1 := hide (dround (uq I1))
                go_wp2_with fail
                exact ⟨⟨_, _, rfl, rfl, uq N1, by omega, by omega, uq N4, by omega, by omega⟩, by simp [intOf]; omega⟩
            · have HQ := hide (dend2 (u := u0) k1 k3 (uq I1) (by rw [← uq HP]; omega) (uq I4))
              have hQ1 := dq_lt (U := R) (u := u0) (y1 := y1) (y0 := y0) (by omega) (by omega) k1 k3
              rw [uq HQ] at hQ1
              go_wp2_with fail
              go_ret2
              exact ⟨⟨q1, _, R, _, rfl, uq HQ1, uq HR, uq HQ, rfl⟩, rfl⟩



set_option maxHeartbeats 400000 in
theorem div64_small (lo y : Int) (w : World) (h1 : 0 < y) (h2 : y < 18446744073709551616) (h3 : 0 ≤ lo) (h4 : lo < 18446744073709551616) :
    Calls Try.prog 83 #[.int .u64 0, .int .u64 lo, .int .u64 y] w fun e w' => e = .returned (.tuple #[.int .u64 (lo / y), .int .u64 (lo % y)]) ∧ Keep w w' := by
  have hy0 : (y == 0) = false := by simp; omega
  have hyl : ¬ y ≤ 0 := by omega
  go_enter Try.func83, Try.ntmps83
  go_wp2
  go_region
  go_wp2
  go_ret2
  exact ⟨rfl, (Keep.refl _).drew⟩

theorem drem {U V q1 q0 R n y : Int} {s : Nat} (hR : R = U * 4294967296 + V / 4294967296 - q1 * (y * 2 ^ s)) (hn : n * 2 ^ s = U * 18446744073709551616 + V) (hq : q1 * 4294967296 + q0 = n / y) (hy : 0 < y)
    (h0 : 0 ≤ R * 4294967296 + V % 4294967296 - q0 * (y * 2 ^ s)) (h1 : R * 4294967296 + V % 4294967296 - q0 * (y * 2 ^ s) < y * 2 ^ s) (hY : y * 2 ^ s < 18446744073709551616) :
    IntKind.u64.wrap (IntKind.u64.wrap (IntKind.u64.wrap (R * 4294967296) + V % 4294967296) - IntKind.u64.wrap (q0 * (y * 2 ^ s))) / 2 ^ s = n % y := by
  have e : R * 4294967296 + V % 4294967296 - q0 * (y * 2 ^ s) = n % y * 2 ^ s := by
    have e1 : n % y = n - y * (n / y) := by rw [Int.emod_def]
    have e2 : (q1 * 4294967296 + q0) * (y * 2 ^ s) = q1 * (y * 2 ^ s) * 4294967296 + q0 * (y * 2 ^ s) := by rw [Int.add_mul, Int.mul_right_comm]
    have e3 : (n - y * (n / y)) * 2 ^ s = n * 2 ^ s - (q1 * 4294967296 + q0) * (y * 2 ^ s) := by rw [← hq, Int.sub_mul]; congr 1; ac_rfl
    rw [e1, e3, e2, hn]
    generalize q1 * (y * 2 ^ s) = P1 at *
    generalize q0 * (y * 2 ^ s) = P0 at *
    omega
  have e4 : IntKind.u64.wrap (IntKind.u64.wrap (IntKind.u64.wrap (R * 4294967296) + V % 4294967296) - IntKind.u64.wrap (q0 * (y * 2 ^ s))) = R * 4294967296 + V % 4294967296 - q0 * (y * 2 ^ s) := by
    rw [IntKind.wrap_u64, IntKind.wrap_u64, IntKind.wrap_u64, IntKind.wrap_u64]
    generalize q0 * (y * 2 ^ s) = P0 at *
    omega
  rw [e4, e]
  exact Int.mul_ediv_cancel _ (Int.ne_of_gt (Int.pow_pos (by omega)))

/-- Div64, whole: the quotient and the rest, exact -/
theorem div64_all (hi lo y : Int) (w : World) (h0 : 0 ≤ hi) (h1 : hi < y) (h2 : y < 18446744073709551616) (h3 : 0 ≤ lo) (h4 : lo < 18446744073709551616) :
    Calls Try.prog 83 #[.int .u64 hi, .int .u64 lo, .int .u64 y] w fun e w' => e = .returned (.tuple #[.int .u64 ((hi * 18446744073709551616 + lo) / y), .int .u64 ((hi * 18446744073709551616 + lo) % y)]) ∧ Keep w w' := by
  by_cases hz : hi = 0
  · subst hz
    refine (div64_small lo y w (by omega) h2 h3 h4).mono ?_
    rintro e w' ⟨rfl, hk⟩
    refine ⟨?_, hk⟩
    rw [show (0 : Int) * 18446744073709551616 + lo = lo by omega]
  · have S := bl_shift y.toNat (by omega) (by omega)
    generalize hs : 64 - Lib.bitLen y.toNat = s at S
    obtain ⟨_, S1, S2, S3⟩ := S
    have c : ((y.toNat * 2 ^ s : Nat) : Int) = y * 2 ^ s := by rw [Int.natCast_mul, Int.natCast_pow, Int.toNat_of_nonneg (by omega)]; rfl
    have T2 : 9223372036854775808 ≤ y * 2 ^ s := by rw [← c]; omega
    have T3 : y * 2 ^ s < 18446744073709551616 := by rw [← c]; omega
    obtain ⟨d1, d2, d3, d4, d5, d6⟩ := dshift hi lo y s S1 h0 h1 h3 h4 T3
    have hV0 : 0 ≤ IntKind.u64.wrap (lo * 2 ^ s) ∧ IntKind.u64.wrap (lo * 2 ^ s) < 18446744073709551616 := by rw [IntKind.wrap_u64]; omega
    have hY : y * 2 ^ s = y * 2 ^ s / 4294967296 * 4294967296 + y * 2 ^ s % 4294967296 := by omega
    refine (div64_core hi lo y (y * 2 ^ s) (y * 2 ^ s / 4294967296) (y * 2 ^ s % 4294967296) (hi * 2 ^ s) (lo / 2 ^ (64 - s)) (hi * 2 ^ s + lo / 2 ^ (64 - s)) (IntKind.u64.wrap (lo * 2 ^ s)) (IntKind.u64.wrap (lo * 2 ^ s) / 4294967296) (IntKind.u64.wrap (lo * 2 ^ s) % 4294967296) s w (by omega) h1 h2 h3 h4 S1
      (hide fun w => by rw [← hs]; exact lz_any y w (by omega) h2) (hide hY) d1 rfl (dmask _ (by omega) T3) d2 rfl d3 rfl rfl (dmask _ hV0.1 hV0.2)
      (by omega) (by omega) (by omega) (by omega) d5 (by rw [← hY]; exact d6) (by omega) (by omega) (by omega) (by omega)).mono ?_
    rintro e w' ⟨⟨q1, q0, R, r, rfl, g1, g2, g3, rfl⟩, rfl⟩
    refine ⟨?_, Keep.refl _⟩
    have hb := dboth (U := hi * 2 ^ s + lo / 2 ^ (64 - s)) (V := IntKind.u64.wrap (lo * 2 ^ s)) (q1 := q1) (R := R) (by omega) (by omega) hV0.1 (by rw [← hY]; exact g2) g3
    rw [← hY, ← d4, dscale] at hb
    have hr := drest (U := R) (u := IntKind.u64.wrap (lo * 2 ^ s) % 4294967296) (y1 := y * 2 ^ s / 4294967296) (y0 := y * 2 ^ s % 4294967296) (q := q0) (by omega) (by omega) g3
    rw [← hY] at hr
    rw [drem (V := IntKind.u64.wrap (lo * 2 ^ s)) (y := y) g2 d4 hb.symm (by omega) hr.1 hr.2 T3, hb]
theorem div64_any (hi lo y : Int) (w : World) (h0 : 0 ≤ hi) (h1 : hi < y) (h2 : y < 18446744073709551616) (h3 : 0 ≤ lo) (h4 : lo < 18446744073709551616) :
    Calls Try.prog 83 #[.int .u64 hi, .int .u64 lo, .int .u64 y] w fun e w' => (∃ r, e = .returned (.tuple #[.int .u64 ((hi * 18446744073709551616 + lo) / y), .int .u64 r])) ∧ Keep w w' :=
  (div64_all hi lo y w h0 h1 h2 h3 h4).mono fun e w' h => ⟨⟨_, h.1⟩, h.2⟩
/-- Rem64, whole -/
theorem rem64_any (hi lo y : Int) (w : World) (h0 : 0 ≤ hi) (h1 : hi < 18446744073709551616) (hy : 0 < y) (h2 : y < 18446744073709551616) (h3 : 0 ≤ lo) (h4 : lo < 18446744073709551616) :
    Calls Try.prog 82 #[.int .u64 hi, .int .u64 lo, .int .u64 y] w fun e w' => e = .returned (.int .u64 ((hi * 18446744073709551616 + lo) % y)) ∧ Keep w w' := by
  have e1 : (hi % y * 18446744073709551616 + lo) % y = (hi * 18446744073709551616 + lo) % y := by
    rw [Int.add_emod, Int.mul_emod, Int.emod_emod, ← Int.mul_emod, ← Int.add_emod]
  have m0 := Int.emod_nonneg hi (show y ≠ 0 by omega)
  have m1 := Int.emod_lt_of_pos hi hy
  have T : Hid (∀ w, _) := fun w => div64_all (hi % y) lo y w m0 m1 h2 h3 h4
  rw [e1] at T
  generalize hq : (hi % y * 18446744073709551616 + lo) / y = q at T
  generalize hr : (hi * 18446744073709551616 + lo) % y = r at T ⊢
  have hy0 : (y == 0) = false := by simp; omega
  clear hq hr e1
  go_enter Try.func82, Try.ntmps82
  go_wp2_with fail
  refine (uq T _).mono ?_
  rintro e w1 ⟨rfl, hk⟩
  go_wp2_with fail
  go_ret
  exact ⟨rfl, hk⟩
end Go.Proofs.Ytdgmndjofbdgeaa

namespace Go.Proofs.Ytdgmndjofbdgeaa
open Go.RowKit
set_option linter.unusedVariables false

theorem add64_0 (x y : Int) (hx : 0 ≤ x) (hy : 0 ≤ y) (w : World) : (callFunc 80 #[.int .u64 x, .int .u64 y, .int .u64 0]).run Try.prog w =
    .ok (.value (.tuple #[.int .u64 ((x + y) % 18446744073709551616), .int .u64 ((x + y) / 18446744073709551616)])) w := by
  rw [run_callFunc_extern Try.func80 (by kernel_rfl) (by kernel_rfl) (by kernel_rfl) (e := add64Entry) (by kernel_rfl), run_add64 (P := Try.prog) x y 0 hx hy (by omega) (by omega) w]
  simp only [Result.andThen, Int.add_zero]
/-! ### over -/
end Go.Proofs.Ytdgmndjofbdgeaa
