/- The document's answer, by parts of 16 bits: quotients, and what products and quotients of whole numbers come to by them. -/
import Derived.Test.YtnegcifbbbmlnaaDoorRefC
namespace Go.Proofs.YtnegcifbbbmlnaaDoor
open Go.RowKit
set_option linter.unusedVariables false
set_option maxRecDepth 10000

/-- the greatest number of 64 bits that, c times, is not above x -/
def qm (x c : Int) : Int := if x / c < 18446744073709551616 then x / c else 18446744073709551615
theorem qm_bd {x c : Int} (hx : 0 ≤ x) (hc : 1 ≤ c) : 0 ≤ qm x c ∧ qm x c < 18446744073709551616 := by
  have := Int.ediv_nonneg hx (show 0 ≤ c by omega)
  unfold qm; split <;> omega
theorem qm_le {x c t : Int} (hc : 1 ≤ c) (h1 : t < 18446744073709551616) : t ≤ qm x c ↔ t * c ≤ x := by
  have := Int.le_ediv_iff_mul_le (a := t) (b := x) (c := c) (by omega)
  rw [← this]
  unfold qm; split <;> omega
theorem qm_rest {x c : Int} (hx : 0 ≤ x) (hc : 1 ≤ c) : qm x c * c ≤ x ∧ (x - qm x c * c < c ↔ x / c < 18446744073709551616) := by
  have hd := Int.emod_add_mul_ediv x c
  have hm := Int.emod_nonneg x (show c ≠ 0 by omega)
  have hl := Int.emod_lt_of_pos x (show 0 < c by omega)
  have hle := (qm_le (x := x) hc (qm_bd hx hc).2).1 (Int.le_refl _)
  refine ⟨hle, ?_⟩
  unfold qm at *
  split
  · rename_i h
    rw [Int.mul_comm] at hd ⊢
    constructor
    · intro; exact h
    · intro; rw [Int.mul_comm]; rw [Int.mul_comm] at hd; rw [Int.mul_comm (x / c)]; omega
  · rename_i h
    constructor
    · intro h2
      have h3 : x < 18446744073709551616 * c := by omega
      have := Int.ediv_lt_of_lt_mul (show 0 < c by omega) h3
      omega
    · intro h2; omega
def QInv (Q q : Int) (j : Nat) : Prop := 0 ≤ q ∧ q ≤ Q ∧ Q < q + 2 ^ j ∧ q + 2 ^ j ≤ 18446744073709551616
theorem qi_start {Q : Int} (h0 : 0 ≤ Q) (h1 : Q < 18446744073709551616) : QInv Q 0 64 := ⟨by omega, h0, by simpa using h1, by decide⟩
theorem two_pos (i : Nat) : (0 : Int) < 2 ^ i := Int.pow_pos (by omega)
theorem qi_t {Q q : Int} {i : Nat} (h : QInv Q q (i + 1)) : 0 ≤ q + 2 ^ i ∧ q + 2 ^ i < 18446744073709551616 ∧ (0 : Int) < 2 ^ i ∧ (2 : Int) ^ i < 18446744073709551616 := by
  obtain ⟨h1, h2, h3, h4⟩ := h
  have := two_pos i
  rw [Int.pow_succ] at h3 h4
  omega
theorem qi_yes {Q q : Int} {i : Nat} (h : QInv Q q (i + 1)) (ht : q + 2 ^ i ≤ Q) : QInv Q (q + 2 ^ i) i := by
  obtain ⟨h1, h2, h3, h4⟩ := h
  have := two_pos i
  rw [Int.pow_succ] at h3 h4
  exact ⟨by omega, ht, by omega, by omega⟩
theorem qi_no {Q q : Int} {i : Nat} (h : QInv Q q (i + 1)) (ht : ¬ q + 2 ^ i ≤ Q) : QInv Q q i := by
  obtain ⟨h1, h2, h3, h4⟩ := h
  have := two_pos i
  rw [Int.pow_succ] at h3 h4
  exact ⟨by omega, by omega, by omega, by omega⟩
theorem qi_end {Q q : Int} (h : QInv Q q 0) : q = Q := by
  obtain ⟨h1, h2, h3, h4⟩ := h
  simp at h3
  omega
theorem quot_ret {a b : Int} {x y : Bool} (h1 : a = b) (h2 : x = y) : Ending.returned (.tuple #[.int .u64 a, .bool x]) = .returned (.tuple #[.int .u64 b, .bool y]) := by rw [h1, h2]
set_option maxHeartbeats 4000000 in
set_option maxRecDepth 100000 in
theorem quot_ref (va : Value) (A : List Int) (Ba : Nat) (c : Int) (w : World) (ra : RowB Ba w va A) (hA : Dig A) (ha0 : 0 < A.length) (ha : A.length ≤ 1000) (hc : 1 ≤ c) (hc' : c < 18446744073709551616) :
    Calls Tryd.prog 58 #[va, .int .u64 c] w fun e w' => e = .returned (.tuple #[.int .u64 (qm (val A) c), .bool (decide (val A / c < 18446744073709551616))]) ∧ Keep w w' := by
  have hvA := (val_bd hA).1
  have hqb := qm_bd hvA hc
  have hqr := qm_rest hvA hc
  have OR : Hid (∀ (w' : World) (v : Value) (l : List Int) (B : Nat), Keep w w' → RowB B w' v l → Dig l → 0 < l.length → l.length ≤ 1000 → Calls Tryd.prog 32 #[v, va] w' fun e w'' => e = .returned (.int .i64 (cm (val l) (val A))) ∧ w'' = w') :=
    fun w' v l B hk hr hd hl0 hl => order_any v va l A B Ba w' hr (ra.keep hk) hd hA hl0 ha0 hl ha
  go_enter Tryd.func58, Tryd.ntmps58
  go_wp2_with fail
  go_loopw [6, 7] (fun qv kv wr => ∃ (j : Nat) (q : Int), kv = .int .i64 ((j : Int) - 1) ∧ j ≤ 64 ∧ qv = .int .u64 q ∧ QInv (qm (val A) c) q j ∧ Keep w wr) (fun _ kv _ => (intOf kv + 1).toNat)
  case atStart => exact ⟨64, 0, rfl, by omega, rfl, qi_start hqb.1 hqb.2, Keep.refl _⟩
  case round =>
    obtain ⟨j, q, rfl, hj, rfl, inv, hk⟩ := hrel
    by_cases hj0 : j = 0
    · subst hj0
      have hq := qi_end inv
      subst hq
      rw [show (((0 : Nat) : Int) - 1) = -1 by rfl]
      have NO : Hid (∀ (w' : World) (v : Value) (l : List Int) (B : Nat), Keep w w' → RowB B w' v l → Dig l → 0 < l.length → l.length ≤ 1000 → val l ≤ val A → Calls Tryd.prog 83 #[v, va] w' fun e w'' => e = .returned v ∧ w'' = w') :=
        fun w' v l B hk hr hd hl0 hl hle => nothing_any v va l A B Ba w' hr (ra.keep hk) hd hA hl0 ha0 hl ha hle
      have MI : Hid (∀ (w' : World) (v : Value) (l : List Int) (B : Nat), Keep w w' → RowB B w' v l → Dig l → 0 < l.length → l.length ≤ 1000 → val l ≤ val A → Calls Tryd.prog 29 #[va, v] w' fun e w'' => GivesRow w' w'' e fun m => m.length = A.length ∧ val m = val A - val l) :=
        fun w' v l B hk hr hd hl0 hl hle => minus_any va v A l Ba B w' (ra.keep hk) hr hA hd ha0 hl0 ha hl hle
      have HR := hide hqr
      obtain ⟨b1, b2⟩ := hqb
      generalize hQ : qm (val A) c = Q at *
      have HQ := hide hQ
      clear hqr hQ ra inv
      go_wp2_with fail
      refine (times_ref _ _ _ b1 b2 (by omega) hc').mono ?_
      rintro e w1 ⟨v1, l1, rfl, r1, d1, ⟨n0, n1, n2⟩, bb1⟩
      have k1 : Keep w w1 := hk.trans bb1
      have hle : val l1 ≤ val A := by rw [n2]; exact (unhide HR).1
      have NO' := hide (unhide NO w1 v1 l1 _ k1 r1 d1 n0 (by omega) hle)
      have MI' := hide (unhide MI w1 v1 l1 _ k1 r1 d1 n0 (by omega) hle)
      have N2 := hide n2
      have HLE := hide hle
      clear r1 n2 hle NO MI
      go_wp2_with fail
      refine (unhide NO').mono ?_
      rintro e w1' ⟨rfl, rfl⟩
      go_wp2_with fail
      refine (unhide MI').mono ?_
      rintro e w2 ⟨v2, l2, rfl, r2, d2, ⟨m0, m1⟩, bb2⟩
      have M1 := hide m1
      clear m1
      go_wp2_with fail
      refine (parts_any c _ (by omega) hc').mono ?_
      rintro e w3 ⟨v3, l3, rfl, r3, d3, ⟨p0, p1⟩, bb3⟩
      have O3 := hide (order_any v2 v3 l2 l3 _ _ w3 (r2.keep bb3) r3 d2 d3 (by omega) (by omega) (by omega) (by omega))
      have k3 : Keep w w3 := (k1.trans bb2).trans bb3
      have hiff : cm (val l2) (val l3) < 0 ↔ val A / c < 18446744073709551616 := by
        rw [cm_lt, p1, unhide M1, unhide N2]; exact (unhide HR).2
      have hdec : decide (cm (val l2) (val l3) < 0) = decide (val A / c < 18446744073709551616) := decide_eq_decide.2 hiff
      have HDEC := hide hdec
      clear r2 r3 p1 hiff hdec
      generalize cm (val l2) (val l3) = cv at *
      go_wp2_with fail
      refine (unhide O3).mono ?_
      rintro e w4 ⟨rfl, rfl⟩
      go_wp2_with fail
      go_ret2
      exact ⟨quot_ret (unhide HQ).symm (unhide HDEC), k3⟩
    · obtain ⟨i, rfl⟩ : ∃ i, j = i + 1 := ⟨j - 1, by omega⟩
      rw [show (((i + 1 : Nat) : Int) - 1) = (i : Int) by omega]
      have ht := qi_t inv
      have q0 : 0 ≤ q := inv.1
      obtain ⟨t1, t2, t3, t4⟩ := ht
      by_cases hy : q + 2 ^ i ≤ qm (val A) c
      · have HI := hide (qi_yes inv hy)
        have hle := (qm_le hc t2).1 hy
        have HLE := hide hle
        clear hle hqr hqb inv hy
        go_wp2_with fail
        refine (times_ref _ _ _ t1 t2 (by omega) hc').mono ?_
        rintro e w1 ⟨v1, l1, rfl, r1, d1, ⟨n0, n1, n2⟩, bb1⟩
        have k1 : Keep w w1 := hk.trans bb1
        have O1 := hide (unhide OR w1 v1 l1 _ k1 r1 d1 n0 (by omega))
        have hcm : cm (val l1) (val A) ≤ 0 := by rw [cm_le, n2]; exact unhide HLE
        clear r1 n2
        generalize cm (val l1) (val A) = cv at *
        go_wp2_with fail
        refine (unhide O1).mono ?_
        rintro e w2 ⟨rfl, rfl⟩
        go_wp2_with fail
        go_roundw
        case rel => exact ⟨i, _, by go_num, by omega, rfl, unhide HI, k1⟩
        case measure => simp [intOf] <;> omega
      · have hy2 : ¬ q + 2 ^ i ≤ qm (val A) c := hy
        have HI := hide (qi_no inv hy)
        have hle : val A < (q + 2 ^ i) * c := Int.not_le.1 fun h => hy ((qm_le hc t2).2 h)
        have HLE := hide hle
        clear hle hqr hqb inv hy hy2
        go_wp2_with fail
        refine (times_ref _ _ _ t1 t2 (by omega) hc').mono ?_
        rintro e w1 ⟨v1, l1, rfl, r1, d1, ⟨n0, n1, n2⟩, bb1⟩
        have k1 : Keep w w1 := hk.trans bb1
        have O1 := hide (unhide OR w1 v1 l1 _ k1 r1 d1 n0 (by omega))
        have hcm : 0 < cm (val l1) (val A) := by
          have h := cm_le (x := val l1) (y := val A)
          rw [n2] at h ⊢
          have := unhide HLE
          omega
        clear r1 n2 OR HLE
        generalize cm (val l1) (val A) = cv at *
        have hcb : decide (cv ≤ 0) = false := by simp; omega
        generalize hpw : (2 : Int) ^ i = pi at *
        have HPW := hide hpw
        clear hpw hcm
        go_wp2_with fail
        refine (unhide O1).mono ?_
        rintro e w2 ⟨rfl, rfl⟩
        go_wp2
        go_roundw
        case rel => exact ⟨i, _, by go_num, by omega, rfl, unhide HI, k1⟩
        case measure => simp [intOf] <;> omega
end Go.Proofs.YtnegcifbbbmlnaaDoor
