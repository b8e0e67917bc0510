/- The document's answer, by parts of 16 bits: the order and the difference of numbers by parts. -/
import Derived.Test.YtaebjfdadiegjabRefA
import Derived.Maps.AppendAt
namespace Go.Proofs.Ytaebjfdadiegjab
open Go.RowKit
set_option linter.unusedVariables false

theorem one_u64 (d : Int) : ∀ u ∈ [Value.int .u64 d], u.oneCell' = true := by intro u hu; simp at hu; subst hu; rfl
set_option maxHeartbeats 2000000 in
theorem order_b (A B : List Int) (w : World) (hA : Dig A) (hB : Dig B) (hab : A.length < B.length) (hm1 : A.length ≤ 100) (hm2 : B.length ≤ 100) (ga capa : Nat) (hca : ∀ j, j < A.length → w.cell? ⟨ga, j, none⟩ = some (.int .u64 (A.getD j 0))) (gb capb : Nat) (hcb : ∀ j, j < B.length → w.cell? ⟨gb, j, none⟩ = some (.int .u64 (B.getD j 0))) :
    Calls Try.prog 18 #[.slice (some ⟨ga, 0, none⟩) A.length capa, .slice (some ⟨gb, 0, none⟩) B.length capb] w fun e w' => e = .returned (.int .i64 (cm (val A) (val B))) ∧ w' = w := by
  have HCA := hide hca
  have HCB := hide hcb
  clear hca hcb
  go_enter Try.func18, Try.ntmps18
  go_wp2
  go_loop [6] (fun i => ∃ k : Nat, i = .int .i64 ((k : Int) - 1) ∧ k ≤ B.length ∧ Hid (val (A.drop k) = val (B.drop k))) (fun i => (intOf i + 1).toNat)
  case atStart => exact ⟨B.length, rfl, by omega, hide (by rw [List.drop_of_length_le (by omega), List.drop_of_length_le (by omega)])⟩
  case round =>
    obtain ⟨k, rfl, hk, HD⟩ := hrel
    by_cases hk0 : k = 0
    · subst hk0
      have he : cm (val A) (val B) = 0 := by
        have := unhide HD
        simp at this
        simp [cm, this]
      have HE := hide he
      clear he
      rw [show (((0 : Nat) : Int) - 1) = -1 by rfl]
      go_wp2
      go_ret
      exact ⟨one_ret (unhide HE).symm, rfl⟩
    · obtain ⟨j, rfl⟩ : ∃ j, k = j + 1 := ⟨k - 1, by omega⟩
      rw [show (((j + 1 : Nat) : Int) - 1) = (j : Int) by omega]
      have dx := dig_getD hA j
      have dy := dig_getD hB j
      have lt := order_lt hA hB (unhide HD)
      have gt := order_lt hB hA (unhide HD).symm
      have eq := order_same (A := A) (B := B) (unhide HD)
      obtain ⟨x, hx⟩ : ∃ x, x = A.getD j 0 := ⟨_, rfl⟩
      obtain ⟨y, hy⟩ : ∃ y, y = B.getD j 0 := ⟨_, rfl⟩
      rw [← hx] at dx
      rw [← hy] at dy
      rw [← hx, ← hy] at lt gt eq
      obtain ⟨dx0, dx1⟩ := dx
      obtain ⟨dy0, dy1⟩ := dy
      have LT := hide lt
      have GT := hide gt
      have EQ := hide eq
      clear lt gt eq
      by_cases ka : j < A.length
      · by_cases kb : j < B.length
        · have hcx : w.cell? ⟨ga, j, none⟩ = some (.int .u64 x) := by rw [hx]; exact unhide HCA j ka
          have hcy : w.cell? ⟨gb, j, none⟩ = some (.int .u64 y) := by rw [hy]; exact unhide HCB j kb
          clear hx hy
          rcases Int.lt_trichotomy x y with hc | hc | hc
          · have he : cm (val A) (val B) = -1 := by
              have := unhide LT hc
              simp [cm, this, Int.ne_of_lt this]
            have HE := hide he
            clear he
            go_wp2
            go_ret
            exact ⟨one_ret (unhide HE).symm, rfl⟩
          · have HD2 := hide (unhide EQ hc)
            subst hc
            go_wp2
            go_round
            case rel => exact ⟨j, by go_num, by omega, HD2⟩
            case measure => simp [intOf] <;> omega
          · have he : cm (val A) (val B) = 1 := by
              have := unhide GT hc
              have h2 : ¬ val A < val B := by omega
              have h3 : ¬ val A = val B := by omega
              simp [cm, h2, h3]
            have HE := hide he
            clear he
            go_wp2
            go_ret
            exact ⟨one_ret (unhide HE).symm, rfl⟩
        · exact absurd ka (by omega)
      · by_cases kb : j < B.length
        · have hcy : w.cell? ⟨gb, j, none⟩ = some (.int .u64 y) := by rw [hy]; exact unhide HCB j kb
          have x0 : x = 0 := by rw [hx, List.getD_eq_getElem?_getD, List.getElem?_eq_none (by omega)]; rfl
          clear hx hy
          subst x0
          rcases Int.lt_trichotomy 0 y with hc | hc | hc
          · have he : cm (val A) (val B) = -1 := by
              have := unhide LT hc
              simp [cm, this, Int.ne_of_lt this]
            have HE := hide he
            clear he
            go_wp2
            go_ret
            exact ⟨one_ret (unhide HE).symm, rfl⟩
          · have HD2 := hide (unhide EQ hc)
            subst hc
            go_wp2
            go_round
            case rel => exact ⟨j, by go_num, by omega, HD2⟩
            case measure => simp [intOf] <;> omega
          · exact absurd hc (by omega)
        · exact absurd hk (by omega)
set_option maxHeartbeats 2000000 in
theorem order_a (A B : List Int) (w : World) (hA : Dig A) (hB : Dig B) (hab : B.length ≤ A.length) (hm1 : A.length ≤ 100) (hm2 : B.length ≤ 100) (ga capa : Nat) (hca : ∀ j, j < A.length → w.cell? ⟨ga, j, none⟩ = some (.int .u64 (A.getD j 0))) (gb capb : Nat) (hcb : ∀ j, j < B.length → w.cell? ⟨gb, j, none⟩ = some (.int .u64 (B.getD j 0))) :
    Calls Try.prog 18 #[.slice (some ⟨ga, 0, none⟩) A.length capa, .slice (some ⟨gb, 0, none⟩) B.length capb] w fun e w' => e = .returned (.int .i64 (cm (val A) (val B))) ∧ w' = w := by
  have HCA := hide hca
  have HCB := hide hcb
  clear hca hcb
  go_enter Try.func18, Try.ntmps18
  go_wp2
  go_loop [6] (fun i => ∃ k : Nat, i = .int .i64 ((k : Int) - 1) ∧ k ≤ A.length ∧ Hid (val (A.drop k) = val (B.drop k))) (fun i => (intOf i + 1).toNat)
  case atStart => exact ⟨A.length, rfl, by omega, hide (by rw [List.drop_of_length_le (by omega), List.drop_of_length_le (by omega)])⟩
  case round =>
    obtain ⟨k, rfl, hk, HD⟩ := hrel
    by_cases hk0 : k = 0
    · subst hk0
      have he : cm (val A) (val B) = 0 := by
        have := unhide HD
        simp at this
        simp [cm, this]
      have HE := hide he
      clear he
      rw [show (((0 : Nat) : Int) - 1) = -1 by rfl]
      go_wp2
      go_ret
      exact ⟨one_ret (unhide HE).symm, rfl⟩
    · obtain ⟨j, rfl⟩ : ∃ j, k = j + 1 := ⟨k - 1, by omega⟩
      rw [show (((j + 1 : Nat) : Int) - 1) = (j : Int) by omega]
      have dx := dig_getD hA j
      have dy := dig_getD hB j
      have lt := order_lt hA hB (unhide HD)
      have gt := order_lt hB hA (unhide HD).symm
      have eq := order_same (A := A) (B := B) (unhide HD)
      obtain ⟨x, hx⟩ : ∃ x, x = A.getD j 0 := ⟨_, rfl⟩
      obtain ⟨y, hy⟩ : ∃ y, y = B.getD j 0 := ⟨_, rfl⟩
      rw [← hx] at dx
      rw [← hy] at dy
      rw [← hx, ← hy] at lt gt eq
      obtain ⟨dx0, dx1⟩ := dx
      obtain ⟨dy0, dy1⟩ := dy
      have LT := hide lt
      have GT := hide gt
      have EQ := hide eq
      clear lt gt eq
      by_cases ka : j < A.length
      · by_cases kb : j < B.length
        · have hcx : w.cell? ⟨ga, j, none⟩ = some (.int .u64 x) := by rw [hx]; exact unhide HCA j ka
          have hcy : w.cell? ⟨gb, j, none⟩ = some (.int .u64 y) := by rw [hy]; exact unhide HCB j kb
          clear hx hy
          rcases Int.lt_trichotomy x y with hc | hc | hc
          · have he : cm (val A) (val B) = -1 := by
              have := unhide LT hc
              simp [cm, this, Int.ne_of_lt this]
            have HE := hide he
            clear he
            go_wp2
            go_ret
            exact ⟨one_ret (unhide HE).symm, rfl⟩
          · have HD2 := hide (unhide EQ hc)
            subst hc
            go_wp2
            go_round
            case rel => exact ⟨j, by go_num, by omega, HD2⟩
            case measure => simp [intOf] <;> omega
          · have he : cm (val A) (val B) = 1 := by
              have := unhide GT hc
              have h2 : ¬ val A < val B := by omega
              have h3 : ¬ val A = val B := by omega
              simp [cm, h2, h3]
            have HE := hide he
            clear he
            go_wp2
            go_ret
            exact ⟨one_ret (unhide HE).symm, rfl⟩
        · have hcx : w.cell? ⟨ga, j, none⟩ = some (.int .u64 x) := by rw [hx]; exact unhide HCA j ka
          have y0 : y = 0 := by rw [hy, List.getD_eq_getElem?_getD, List.getElem?_eq_none (by omega)]; rfl
          clear hx hy
          subst y0
          rcases Int.lt_trichotomy x 0 with hc | hc | hc
          · exact absurd hc (by omega)
          · have HD2 := hide (unhide EQ hc)
            subst hc
            go_wp2
            go_round
            case rel => exact ⟨j, by go_num, by omega, HD2⟩
            case measure => simp [intOf] <;> omega
          · have he : cm (val A) (val B) = 1 := by
              have := unhide GT hc
              have h2 : ¬ val A < val B := by omega
              have h3 : ¬ val A = val B := by omega
              simp [cm, h2, h3]
            have HE := hide he
            clear he
            go_wp2
            go_ret
            exact ⟨one_ret (unhide HE).symm, rfl⟩
      · by_cases kb : j < B.length
        · exact absurd kb (by omega)
        · exact absurd hk (by omega)
theorem order_any (va vb : Value) (A B : List Int) (Ba Bb : Nat) (w : World) (ra : RowB Ba w va A) (rb : RowB Bb w vb B) (hA : Dig A) (hB : Dig B) (ha0 : 0 < A.length) (hb0 : 0 < B.length) (ha : A.length ≤ 100) (hb : B.length ≤ 100) :
    Calls Try.prog 18 #[va, vb] w fun e w' => e = .returned (.int .i64 (cm (val A) (val B))) ∧ w' = w := by
  rcases rb.shape with ⟨_, e⟩ | ⟨gb, capb, rfl, hgb, _, hcb⟩
  · rw [e] at hb0; simp at hb0
  · rcases ra.shape with ⟨_, e⟩ | ⟨ga, capa, rfl, hga, _, hca⟩
    · rw [e] at ha0; simp at ha0
    · by_cases h : A.length < B.length
      · exact order_b A B w hA hB h ha hb ga capa hca gb capb hcb
      · exact order_a A B w hA hB (by omega) ha hb ga capa hca gb capb hcb

end Go.Proofs.Ytaebjfdadiegjab
