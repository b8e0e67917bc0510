/- The document's answer, by parts of 16 bits: the order and the difference of numbers by parts. -/
import Derived.Test.YtdgmndjofbdgeaaRefA
import Derived.Maps.AppendAt
namespace Go.Proofs.Ytdgmndjofbdgeaa
open Go.RowKit
set_option linter.unusedVariables false
set_option maxRecDepth 10000

theorem one_u64 (d : Int) : ∀ u ∈ [Value.int .u64 d], u.oneCell' = true := by intro u hu; simp at hu; subst hu; rfl
set_option maxHeartbeats 2000000 in
theorem order_b (A B : List Int) (w : World) (hA : Dig A) (hB : Dig B) (hab : A.length < B.length) (hm1 : A.length ≤ 1000) (hm2 : B.length ≤ 1000) (ga capa : Nat) (hca : ∀ j, j < A.length → w.cell? ⟨ga, j, none⟩ = some (.int .u64 (A.getD j 0))) (gb capb : Nat) (hcb : ∀ j, j < B.length → w.cell? ⟨gb, j, none⟩ = some (.int .u64 (B.getD j 0))) :
    Calls Try.prog 39 #[.slice (some ⟨ga, 0, none⟩) A.length capa, .slice (some ⟨gb, 0, none⟩) B.length capb] w fun e w' => e = .returned (.int .i64 (cm (val A) (val B))) ∧ w' = w := by
  have HCA := hide hca
  have HCB := hide hcb
  clear hca hcb
  go_enter Try.func39, Try.ntmps39
  go_wp2
  go_loop [6] (fun i => ∃ k : Nat, i = .int .i64 ((k : Int) - 1) ∧ k ≤ B.length ∧ Hid (val (A.drop k) = val (B.drop k))) (fun i => (intOf i + 1).toNat)
  case atStart => exact ⟨B.length, rfl, by omega, hide (by rw [List.drop_of_length_le (by omega), List.drop_of_length_le (by omega)])⟩
  case round =>
    obtain ⟨k, rfl, hk, HD⟩ := hrel
    by_cases hk0 : k = 0
    · subst hk0
      have he : cm (val A) (val B) = 0 := by
        have := uq HD
        simp at this
        simp [cm, this]
      have HE := hide he
      clear he
      rw [show (((0 : Nat) : Int) - 1) = -1 by rfl]
      go_wp2
      go_ret
      exact ⟨one_ret (uq HE).symm, rfl⟩
    · obtain ⟨j, rfl⟩ : ∃ j, k = j + 1 := ⟨k - 1, by omega⟩
      rw [show (((j + 1 : Nat) : Int) - 1) = (j : Int) by omega]
      have dx := dig_getD hA j
      have dy := dig_getD hB j
      have lt := order_lt hA hB (uq HD)
      have gt := order_lt hB hA (uq HD).symm
      have eq := order_same (A := A) (B := B) (uq HD)
      obtain ⟨x, hx⟩ : ∃ x, x = A.getD j 0 := ⟨_, rfl⟩
      obtain ⟨y, hy⟩ : ∃ y, y = B.getD j 0 := ⟨_, rfl⟩
      rw [← hx] at dx
      rw [← hy] at dy
      rw [← hx, ← hy] at lt gt eq
      obtain ⟨dx0, dx1⟩ := dx
      obtain ⟨dy0, dy1⟩ := dy
      have LT := hide lt
      have GT := hide gt
      have EQ := hide eq
      clear lt gt eq
      by_cases ka : j < A.length
      · by_cases kb : j < B.length
        · have hcx : w.cell? ⟨ga, j, none⟩ = some (.int .u64 x) := by rw [hx]; exact uq HCA j ka
          have hcy : w.cell? ⟨gb, j, none⟩ = some (.int .u64 y) := by rw [hy]; exact uq HCB j kb
          clear hx hy
          rcases Int.lt_trichotomy x y with hc | hc | hc
          · have he : cm (val A) (val B) = -1 := by
              have := uq LT hc
              simp [cm, this, Int.ne_of_lt this]
            have HE := hide he
            clear he
            go_wp2
            go_ret
            exact ⟨one_ret (uq HE).symm, rfl⟩
          · have HD2 := hide (uq EQ hc)
            subst hc
            go_wp2
            go_round
            case rel => exact ⟨j, by go_num, by omega, HD2⟩
            case measure => simp [intOf] <;> omega
          · have he : cm (val A) (val B) = 1 := by
              have := uq GT hc
              have h2 : ¬ val A < val B := by omega
              have h3 : ¬ val A = val B := by omega
              simp [cm, h2, h3]
            have HE := hide he
            clear he
            go_wp2
            go_ret
            exact ⟨one_ret (uq HE).symm, rfl⟩
        · exact absurd ka (by omega)
      · by_cases kb : j < B.length
        · have hcy : w.cell? ⟨gb, j, none⟩ = some (.int .u64 y) := by rw [hy]; exact uq HCB j kb
          have x0 : x = 0 := by rw [hx, List.getD_eq_getElem?_getD, List.getElem?_eq_none (by omega)]; rfl
          clear hx hy
          subst x0
          rcases Int.lt_trichotomy 0 y with hc | hc | hc
          · have he : cm (val A) (val B) = -1 := by
              have := uq LT hc
              simp [cm, this, Int.ne_of_lt this]
            have HE := hide he
            clear he
            go_wp2
            go_ret
            exact ⟨one_ret (uq HE).symm, rfl⟩
          · have HD2 := hide (uq EQ hc)
            subst hc
            go_wp2
            go_round
            case rel => exact ⟨j, by go_num, by omega, HD2⟩
            case measure => simp [intOf] <;> omega
          · exact absurd hc (by omega)
        · exact absurd hk (by omega)
set_option maxHeartbeats 2000000 in
theorem order_a (A B : List Int) (w : World) (hA : Dig A) (hB : Dig B) (hab : B.length ≤ A.length) (hm1 : A.length ≤ 1000) (hm2 : B.length ≤ 1000) (ga capa : Nat) (hca : ∀ j, j < A.length → w.cell? ⟨ga, j, none⟩ = some (.int .u64 (A.getD j 0))) (gb capb : Nat) (hcb : ∀ j, j < B.length → w.cell? ⟨gb, j, none⟩ = some (.int .u64 (B.getD j 0))) :
    Calls Try.prog 39 #[.slice (some ⟨ga, 0, none⟩) A.length capa, .slice (some ⟨gb, 0, none⟩) B.length capb] w fun e w' => e = .returned (.int .i64 (cm (val A) (val B))) ∧ w' = w := by
  have HCA := hide hca
  have HCB := hide hcb
  clear hca hcb
  go_enter Try.func39, Try.ntmps39
  go_wp2
  go_loop [6] (fun i => ∃ k : Nat, i = .int .i64 ((k : Int) - 1) ∧ k ≤ A.length ∧ Hid (val (A.drop k) = val (B.drop k))) (fun i => (intOf i + 1).toNat)
  case atStart => exact ⟨A.length, rfl, by omega, hide (by rw [List.drop_of_length_le (by omega), List.drop_of_length_le (by omega)])⟩
  case round =>
    obtain ⟨k, rfl, hk, HD⟩ := hrel
    by_cases hk0 : k = 0
    · subst hk0
      have he : cm (val A) (val B) = 0 := by
        have := uq HD
        simp at this
        simp [cm, this]
      have HE := hide he
      clear he
      rw [show (((0 : Nat) : Int) - 1) = -1 by rfl]
      go_wp2
      go_ret
      exact ⟨one_ret (uq HE).symm, rfl⟩
    · obtain ⟨j, rfl⟩ : ∃ j, k = j + 1 := ⟨k - 1, by omega⟩
      rw [show (((j + 1 : Nat) : Int) - 1) = (j : Int) by omega]
      have dx := dig_getD hA j
      have dy := dig_getD hB j
      have lt := order_lt hA hB (uq HD)
      have gt := order_lt hB hA (uq HD).symm
      have eq := order_same (A := A) (B := B) (uq HD)
      obtain ⟨x, hx⟩ : ∃ x, x = A.getD j 0 := ⟨_, rfl⟩
      obtain ⟨y, hy⟩ : ∃ y, y = B.getD j 0 := ⟨_, rfl⟩
      rw [← hx] at dx
      rw [← hy] at dy
      rw [← hx, ← hy] at lt gt eq
      obtain ⟨dx0, dx1⟩ := dx
      obtain ⟨dy0, dy1⟩ := dy
      have LT := hide lt
      have GT := hide gt
      have EQ := hide eq
      clear lt gt eq
      by_cases ka : j < A.length
      · by_cases kb : j < B.length
        · have hcx : w.cell? ⟨ga, j, none⟩ = some (.int .u64 x) := by rw [hx]; exact uq HCA j ka
          have hcy : w.cell? ⟨gb, j, none⟩ = some (.int .u64 y) := by rw [hy]; exact uq HCB j kb
          clear hx hy
          rcases Int.lt_trichotomy x y with hc | hc | hc
          · have he : cm (val A) (val B) = -1 := by
              have := uq LT hc
              simp [cm, this, Int.ne_of_lt this]
            have HE := hide he
            clear he
            go_wp2
            go_ret
            exact ⟨one_ret (uq HE).symm, rfl⟩
          · have HD2 := hide (uq EQ hc)
            subst hc
            go_wp2
            go_round
            case rel => exact ⟨j, by go_num, by omega, HD2⟩
            case measure => simp [intOf] <;> omega
          · have he : cm (val A) (val B) = 1 := by
              have := uq GT hc
              have h2 : ¬ val A < val B := by omega
              have h3 : ¬ val A = val B := by omega
              simp [cm, h2, h3]
            have HE := hide he
            clear he
            go_wp2
            go_ret
            exact ⟨one_ret (uq HE).symm, rfl⟩
        · have hcx : w.cell? ⟨ga, j, none⟩ = some (.int .u64 x) := by rw [hx]; exact uq HCA j ka
          have y0 : y = 0 := by rw [hy, List.getD_eq_getElem?_getD, List.getElem?_eq_none (by omega)]; rfl
          clear hx hy
          subst y0
          rcases Int.lt_trichotomy x 0 with hc | hc | hc
          · exact absurd hc (by omega)
          · have HD2 := hide (uq EQ hc)
            subst hc
            go_wp2
            go_round
            case rel => exact ⟨j, by go_num, by omega, HD2⟩
            case measure => simp [intOf] <;> omega
          · have he : cm (val A) (val B) = 1 := by
              have := uq GT hc
              have h2 : ¬ val A < val B := by omega
              have h3 : ¬ val A = val B := by omega
              simp [cm, h2, h3]
            have HE := hide he
            clear he
            go_wp2
            go_ret
            exact ⟨one_ret (uq HE).symm, rfl⟩
      · by_cases kb : j < B.length
        · exact absurd kb (by omega)
        · exact absurd hk (by omega)
theorem order_any (va vb : Value) (A B : List Int) (Ba Bb : Nat) (w : World) (ra : RowB Ba w va A) (rb : RowB Bb w vb B) (hA : Dig A) (hB : Dig B) (ha0 : 0 < A.length) (hb0 : 0 < B.length) (ha : A.length ≤ 1000) (hb : B.length ≤ 1000) :
    Calls Try.prog 39 #[va, vb] w fun e w' => e = .returned (.int .i64 (cm (val A) (val B))) ∧ w' = w := by
  rcases rb.shape with ⟨_, e⟩ | ⟨gb, capb, rfl, hgb, _, hcb⟩
  · rw [e] at hb0; simp at hb0
  · rcases ra.shape with ⟨_, e⟩ | ⟨ga, capa, rfl, hga, _, hca⟩
    · rw [e] at ha0; simp at ha0
    · by_cases h : A.length < B.length
      · exact order_b A B w hA hB h ha hb ga capa hca gb capb hcb
      · exact order_a A B w hA hB (by omega) ha hb ga capa hca gb capb hcb

set_option maxHeartbeats 2000000 in
theorem minus_some (A B : List Int) (w : World) (hA : Dig A) (hB : Dig B) (hm2 : A.length ≤ 1000) (hm3 : B.length ≤ 1000) (HLE : Hid (val B ≤ val A)) (ga capa : Nat) (hga : ga < w.heap.size) (hca : ∀ j, j < A.length → w.cell? ⟨ga, j, none⟩ = some (.int .u64 (A.getD j 0))) (gb capb : Nat) (hgb : gb < w.heap.size) (hcb : ∀ j, j < B.length → w.cell? ⟨gb, j, none⟩ = some (.int .u64 (B.getD j 0))) :
    Calls Try.prog 40 #[.slice (some ⟨ga, 0, none⟩) A.length capa, .slice (some ⟨gb, 0, none⟩) B.length capb] w fun e w' => GivesRow w w' e fun l => l.length = A.length ∧ val l = val A - val B := by
  obtain ⟨i0, hi, hz0, hz1, hz2⟩ := info_parts infoE
  go_enter Try.func40, Try.ntmps40
  go_wp2
  go_loopw [5, 6, 7] (fun v cv i wr => ∃ (k : Nat) (l : List Int) (c : Int), cv = .int .u64 c ∧ i = .int .i64 k ∧ k ≤ A.length ∧ MinusInv A B l k c ∧ RowB w.heap.size wr v l ∧ Below w.heap.size w wr) (fun _ _ i _ => A.length - (intOf i).toNat)
  case atStart => exact ⟨0, [], 0, rfl, rfl, by omega, minus_start A B, World.ownsRow_nil _ _ _ _, Below.refl _ _⟩
  case round =>
    obtain ⟨k, l, c, rfl, rfl, hk, hinv, hown, hnx⟩ := hrel
    have hll : l.length = k := hinv.1
    have hc0 : 0 ≤ c := hinv.2.2.1
    have hc9 : c ≤ 1 := hinv.2.2.2.1
    have hsz := hnx.size
    by_cases ka : k < A.length
    · have dx := dig_getD hA k
      have dy := dig_getD hB k
      obtain ⟨x, hx⟩ : ∃ x, x = A.getD k 0 := ⟨_, rfl⟩
      obtain ⟨y, hy⟩ : ∃ y, y = B.getD k 0 := ⟨_, rfl⟩
      rw [← hx] at dx
      rw [← hy] at dy
      obtain ⟨dx0, dx1⟩ := dx
      obtain ⟨dy0, dy1⟩ := dy
      have hcx : wr.cell? ⟨ga, k, none⟩ = some (.int .u64 x) := by rw [hnx.cell (p := ⟨ga, k, none⟩) hga, hx]; exact hca k ka
      have HX := hide hx
      by_cases kb : k < B.length
      · have hcy : wr.cell? ⟨gb, k, none⟩ = some (.int .u64 y) := by rw [hnx.cell (p := ⟨gb, k, none⟩) hgb, hy]; exact hcb k kb
        have HY := hide hy
        clear hx hy
        by_cases hc : c + y ≤ x
        · have HS := hide (minus_step (d := x - (c + y)) (n := 0) hinv hA hB (uq HX) (uq HY) (.inl ⟨by omega, by omega, rfl⟩))
          have a3 : k + 1 ≤ maxLen := by unfold maxLen; omega
          have hownk := hown
          unfold RowB at hownk
          rw [hll] at hownk
          go_wp2_with (first | (at_builtin; refine wpList_append_own _ rfl _ _ 79 rfl w.heap.size 82 i0 (.int .u64 0) 1 8 Try.underlying79 hi hz0 hz1 hz2 rfl (by decide) _ _ _ rfl (World.ownsRow.alloc hownk _) ⟨wr.heap.size, 0, none⟩ 1 1 [.int .u64 (x - (c + y))] rfl rfl (cell_one_new _ _ _) (one_u64 _) a3 (by omega) (by simp; omega) ?_) | go_in)
          · intro v' w1 hown' hgrow _
            have hb1 := below_grown hown hnx hgrow
            rw [← hll] at hown'
            have hrow := RowB.snoc hown'
            clear hown' hgrow hown hnx hll hownk
            go_wp2
            go_roundw
            case rel => exact ⟨k + 1, _, 0, rfl, by go_num, by omega, uq HS, hrow, hb1⟩
            case measure => simp [intOf]; omega
        · have HS := hide (minus_step (d := x + 65536 - (c + y)) (n := 1) hinv hA hB (uq HX) (uq HY) (.inr ⟨by omega, by omega, rfl⟩))
          have a3 : k + 1 ≤ maxLen := by unfold maxLen; omega
          have hownk := hown
          unfold RowB at hownk
          rw [hll] at hownk
          go_wp2_with (first | (at_builtin; refine wpList_append_own _ rfl _ _ 79 rfl w.heap.size 82 i0 (.int .u64 0) 1 8 Try.underlying79 hi hz0 hz1 hz2 rfl (by decide) _ _ _ rfl (World.ownsRow.alloc hownk _) ⟨wr.heap.size, 0, none⟩ 1 1 [.int .u64 (x + 65536 - (c + y))] rfl rfl (cell_one_new _ _ _) (one_u64 _) a3 (by omega) (by simp; omega) ?_) | go_in)
          · intro v' w1 hown' hgrow _
            have hb1 := below_grown hown hnx hgrow
            rw [← hll] at hown'
            have hrow := RowB.snoc hown'
            clear hown' hgrow hown hnx hll hownk
            go_wp2
            go_roundw
            case rel => exact ⟨k + 1, _, 1, rfl, by go_num, by omega, uq HS, hrow, hb1⟩
            case measure => simp [intOf]; omega
      · have h00 : (0 : Int) = B.getD k 0 := by rw [List.getD_eq_getElem?_getD, List.getElem?_eq_none (by omega)]; rfl
        have HY := hide h00
        clear hx hy h00 dy0 dy1
        by_cases hc : c ≤ x
        · have HS := hide (minus_step (d := x - c) (n := 0) hinv hA hB (uq HX) (uq HY) (.inl ⟨by omega, by omega, rfl⟩))
          have a3 : k + 1 ≤ maxLen := by unfold maxLen; omega
          have hownk := hown
          unfold RowB at hownk
          rw [hll] at hownk
          go_wp2_with (first | (at_builtin; refine wpList_append_own _ rfl _ _ 79 rfl w.heap.size 82 i0 (.int .u64 0) 1 8 Try.underlying79 hi hz0 hz1 hz2 rfl (by decide) _ _ _ rfl (World.ownsRow.alloc hownk _) ⟨wr.heap.size, 0, none⟩ 1 1 [.int .u64 (x - c)] rfl rfl (cell_one_new _ _ _) (one_u64 _) a3 (by omega) (by simp; omega) ?_) | go_in)
          · intro v' w1 hown' hgrow _
            have hb1 := below_grown hown hnx hgrow
            rw [← hll] at hown'
            have hrow := RowB.snoc hown'
            clear hown' hgrow hown hnx hll hownk
            go_wp2
            go_roundw
            case rel => exact ⟨k + 1, _, 0, rfl, by go_num, by omega, uq HS, hrow, hb1⟩
            case measure => simp [intOf]; omega
        · have HS := hide (minus_step (d := x + 65536 - c) (n := 1) hinv hA hB (uq HX) (uq HY) (.inr ⟨by omega, by omega, rfl⟩))
          have a3 : k + 1 ≤ maxLen := by unfold maxLen; omega
          have hownk := hown
          unfold RowB at hownk
          rw [hll] at hownk
          go_wp2_with (first | (at_builtin; refine wpList_append_own _ rfl _ _ 79 rfl w.heap.size 82 i0 (.int .u64 0) 1 8 Try.underlying79 hi hz0 hz1 hz2 rfl (by decide) _ _ _ rfl (World.ownsRow.alloc hownk _) ⟨wr.heap.size, 0, none⟩ 1 1 [.int .u64 (x + 65536 - c)] rfl rfl (cell_one_new _ _ _) (one_u64 _) a3 (by omega) (by simp; omega) ?_) | go_in)
          · intro v' w1 hown' hgrow _
            have hb1 := below_grown hown hnx hgrow
            rw [← hll] at hown'
            have hrow := RowB.snoc hown'
            clear hown' hgrow hown hnx hll hownk
            go_wp2
            go_roundw
            case rel => exact ⟨k + 1, _, 1, rfl, by go_num, by omega, uq HS, hrow, hb1⟩
            case measure => simp [intOf]; omega
    · have he := minus_end hinv hA hB (by omega) (uq HLE)
      have HE := hide he
      have hd := hinv.2.1
      clear he
      go_wp2
      go_ret
      exact ⟨u5, l, rfl, hown, hd, ⟨by omega, uq HE⟩, hnx⟩
end Go.Proofs.Ytdgmndjofbdgeaa
