/- The document's answer for fractions, numbers by parts: slices that are not nil; the order against nought; trim, twice. -/
import Derived.Test.YtdgmndjofbdgeaaRefC
import Derived.Test.YtdgmndjofbdgeaaExt
namespace Go.Proofs.Ytdgmndjofbdgeaa
open Go.RowKit
set_option linter.unusedVariables false
set_option maxRecDepth 10000
/-- v is a slice, not nil, that reads as the numbers l -/
def Sl (w : World) (v : Value) (l : List Int) : Prop := ∃ g cap, v = .slice (some ⟨g, 0, none⟩) l.length cap ∧ g < w.heap.size ∧ l.length ≤ cap ∧ cap ≤ maxLen ∧ (∀ j, j < l.length → w.cell? ⟨g, j, none⟩ = some (.int .u64 (l.getD j 0))) ∧ ∃ cur, w.heap[g]? = some (.cells cur 82 (0, 0))
theorem Sl.keep {w w' : World} {v : Value} {l : List Int} (h : Sl w v l) (hk : Keep w w') : Sl w' v l := by
  obtain ⟨g, cap, e, hg, hl, hm, hc, cur, hcur⟩ := h
  refine ⟨g, cap, e, ?_, hl, hm, fun j hj => ?_, cur, by rw [Below.block hk g hg]; exact hcur⟩
  · have := Below.size hk
    omega
  · rw [Below.cell (p := ⟨g, j, none⟩) hk hg]
    exact hc j hj
theorem RowB.cases {B : Nat} {w : World} {v : Value} {l : List Int} (h : RowB B w v l) : (v = .slice none 0 0 ∧ l = []) ∨ Sl w v l := by
  have h' := h.shape
  rcases h' with h' | ⟨g, cap, e, hg, _, hc⟩
  · exact .inl h'
  · obtain ⟨_, h2⟩ := h
    rcases h2 with ⟨h2, _⟩ | ⟨g2, cap2, cur, e2, _, hb, h3, h4, _⟩
    · rw [e] at h2; cases h2
    · rw [e] at e2
      injection e2 with e3 e4 e5
      injection e3 with e6
      injection e6 with e7
      subst e5 e7
      exact .inr ⟨g, cap, e, hg, h3, h4, hc, cur, hb⟩
theorem RowB.sl {B : Nat} {w : World} {v : Value} {l : List Int} (h : RowB B w v l) (hl : 0 < l.length) : Sl w v l := by
  rcases h.cases with ⟨_, h'⟩ | h'
  · rw [h'] at hl; simp at hl
  · exact h'
/-- a slice of numbers stands as it was where a row of another make has grown -/
theorem Sl.grown {w w' : World} {v : Value} {l : List Int} {row : Option Nat} {T : TypeId} (h : Sl w v l) (hg : w.grownBy w' row) (hT : T ≠ 82) (hr : ∀ k, row = some k → ∃ cur, w.heap[k]? = some (.cells cur T (0, 0))) : Sl w' v l := by
  obtain ⟨g, cap, e, hlt, hl, hm, hc, cur, hcur⟩ := h
  have hne : some g ≠ row := by
    intro h
    obtain ⟨cur2, h2⟩ := hr g h.symm
    rw [hcur] at h2
    injection h2 with h3
    injection h3 with h4 h5
    exact hT h5.symm
  have hb := hg.block g hlt hne
  refine ⟨g, cap, e, Nat.lt_of_lt_of_le hlt hg.size, hl, hm, fun j hj => ?_, cur, by rw [hb]; exact hcur⟩
  rw [World.cell?_of_block (a := ⟨g, j, none⟩) hb]
  exact hc j hj
/-- the call hands back a slice, not nil, of which P holds; nothing that was there has turned -/
def GivesSl (w w' : World) (e : Ending) (P : List Int → Prop) : Prop := ∃ v l, e = .returned v ∧ Sl w' v l ∧ Dig l ∧ P l ∧ Keep w w'
theorem order_sl (va vb : Value) (A B : List Int) (w : World) (ra : Sl w va A) (rb : Sl w vb B) (hA : Dig A) (hB : Dig B) (ha : A.length ≤ 1000) (hb : B.length ≤ 1000) :
    Calls Try.prog 39 #[va, vb] w fun e w' => e = .returned (.int .i64 (cm (val A) (val B))) ∧ w' = w := by
  obtain ⟨ga, capa, rfl, _, _, _, hca, _⟩ := ra
  obtain ⟨gb, capb, rfl, _, _, _, hcb, _⟩ := rb
  by_cases h : A.length < B.length
  · exact order_b A B w hA hB h ha hb ga capa hca gb capb hcb
  · exact order_a A B w hA hB (by omega) ha hb ga capa hca gb capb hcb
theorem minus_sl (va vb : Value) (A B : List Int) (w : World) (ra : Sl w va A) (rb : Sl w vb B) (hA : Dig A) (hB : Dig B) (ha : A.length ≤ 1000) (hb : B.length ≤ 1000) (hle : val B ≤ val A) :
    Calls Try.prog 40 #[va, vb] w fun e w' => GivesRow w w' e fun l => l.length = A.length ∧ val l = val A - val B := by
  obtain ⟨ga, capa, rfl, hga, _, _, hca, _⟩ := ra
  obtain ⟨gb, capb, rfl, hgb, _, _, hcb, _⟩ := rb
  exact minus_some A B w hA hB ha hb (hide hle) ga capa hga hca gb capb hgb hcb
theorem plus_sl (va vb : Value) (A B : List Int) (m : Nat) (w : World) (ra : Sl w va A) (rb : Sl w vb B) (hA : Dig A) (hB : Dig B) (ha : A.length ≤ m) (hb : B.length ≤ m) (hm : m ≤ 999) :
    Calls Try.prog 38 #[va, vb] w fun e w' => GivesRow w w' e fun l => B.length ≤ l.length ∧ l.length ≤ m + 1 ∧ val l = val A + val B := by
  obtain ⟨ga, capa, rfl, hga, _, _, hca, _⟩ := ra
  obtain ⟨gb, capb, rfl, hgb, _, _, hcb, _⟩ := rb
  by_cases h : A.length ≤ B.length
  · refine (plus_some A B B.length w hA hB h (Nat.le_refl _) (.inr rfl) (by omega) ga capa hga hca gb capb hgb hcb).mono ?_
    rintro e w' ⟨v, l, h1, h2, h3, ⟨h4, h5, h6⟩, h7⟩
    exact ⟨v, l, h1, h2, h3, ⟨h4, by omega, h6⟩, h7⟩
  · refine (plus_some A B A.length w hA hB (Nat.le_refl _) (by omega) (.inl rfl) (by omega) ga capa hga hca gb capb hgb hcb).mono ?_
    rintro e w' ⟨v, l, h1, h2, h3, ⟨h4, h5, h6⟩, h7⟩
    exact ⟨v, l, h1, h2, h3, ⟨h4, by omega, h6⟩, h7⟩
/-! ### the order against nought -/
set_option maxHeartbeats 2000000 in
theorem order_nil (va : Value) (A : List Int) (w : World) (ra : Sl w va A) (hA : Dig A) (hm1 : A.length ≤ 1000) :
    Calls Try.prog 39 #[va, .slice none 0 0] w fun e w' => e = .returned (.int .i64 (cm (val A) 0)) ∧ w' = w := by
  obtain ⟨ga, capa, rfl, _, _, _, hca, _⟩ := ra
  have HCA := hide hca
  clear hca
  go_enter Try.func39, Try.ntmps39
  go_wp2
  go_loop [6] (fun i => ∃ k : Nat, i = .int .i64 ((k : Int) - 1) ∧ k ≤ A.length ∧ Hid (val (A.drop k) = 0)) (fun i => (intOf i + 1).toNat)
  case atStart => exact ⟨A.length, rfl, by omega, hide (by rw [List.drop_of_length_le (by omega)]; rfl)⟩
  case round =>
    obtain ⟨k, rfl, hk, HD⟩ := hrel
    by_cases hk0 : k = 0
    · subst hk0
      have he : cm (val A) 0 = 0 := by
        have := uq HD
        simp at this
        simp [cm, this]
      have HE := hide he
      clear he
      rw [show (((0 : Nat) : Int) - 1) = -1 by rfl]
      go_wp2
      go_ret
      exact ⟨one_ret (uq HE).symm, rfl⟩
    · obtain ⟨j, rfl⟩ : ∃ j, k = j + 1 := ⟨k - 1, by omega⟩
      rw [show (((j + 1 : Nat) : Int) - 1) = (j : Int) by omega]
      have dx := dig_getD hA j
      have gt := order_lt (A := []) (B := A) dig_nil hA (j := j) (by simp [uq HD, val])
      have eq := order_same (A := A) (B := []) (j := j) (by simp [uq HD, val])
      obtain ⟨x, hx⟩ : ∃ x, x = A.getD j 0 := ⟨_, rfl⟩
      rw [← hx] at dx gt eq
      obtain ⟨dx0, dx1⟩ := dx
      have GT := hide gt
      have EQ := hide eq
      clear gt eq
      have ka : j < A.length := by omega
      have hcx : w.cell? ⟨ga, j, none⟩ = some (.int .u64 x) := by rw [hx]; exact uq HCA j ka
      clear hx
      by_cases hc : 0 < x
      · have he : cm (val A) 0 = 1 := by
          have := uq GT (by simpa using hc)
          have h1 : val ([] : List Int) = 0 := rfl
          rw [h1] at this
          have h2 : ¬ val A < 0 := by omega
          have h3 : ¬ val A = 0 := by omega
          simp [cm, h2, h3]
        have HE := hide he
        clear he
        go_wp2
        go_ret
        exact ⟨one_ret (uq HE).symm, rfl⟩
      · have hx0 : x = 0 := by omega
        subst hx0
        have hd := uq EQ (by simp)
        have hd2 : val (A.drop j) = 0 := by rw [hd]; simp [val]
        have HD2 := hide hd2
        clear hd hd2
        go_wp2
        go_round
        case rel => exact ⟨j, by go_num, by omega, HD2⟩
        case measure => simp [intOf] <;> omega
/-! ### trim -/
theorem take_cells {A : List Int} {w : World} {ga k : Nat} (hk : k ≤ A.length) (hca : ∀ j, j < A.length → w.cell? ⟨ga, j, none⟩ = some (.int .u64 (A.getD j 0))) :
    ∀ j u, ((A.take k).map (Value.int .u64))[j]? = some u → w.cell? ((⟨ga, 0, none⟩ : Addr).add j) = some u := by
  intro j u hu
  rw [List.getElem?_map] at hu
  by_cases hj : j < k
  · rw [List.getElem?_take_of_lt hj, List.getElem?_eq_getElem (by omega)] at hu
    simp at hu
    subst hu
    have := hca j (by omega)
    rw [List.getD_eq_getElem?_getD, List.getElem?_eq_getElem (by omega)] at this
    have e : ((⟨ga, 0, none⟩ : Addr).add j) = ⟨ga, j, none⟩ := by unfold Addr.add; split <;> simp_all
    rw [e]
    simpa using this
  · rw [List.getElem?_eq_none (by simp; omega)] at hu
    simp at hu
theorem ones_u64 (l : List Int) : ∀ u ∈ l.map (Value.int .u64), u.oneCell' = true := by
  intro u hu
  obtain ⟨a, _, rfl⟩ := List.mem_map.1 hu
  rfl
set_option maxHeartbeats 2000000 in
theorem trim_some (A : List Int) (w : World) (hA : Dig A) (hm : A.length ≤ 1000) (ga capa : Nat) (hga : ga < w.heap.size) (hla : A.length ≤ capa) (hma : capa ≤ maxLen) (hca : ∀ j, j < A.length → w.cell? ⟨ga, j, none⟩ = some (.int .u64 (A.getD j 0))) :
    Calls Try.prog 34 #[.slice (some ⟨ga, 0, none⟩) A.length capa] w fun e w' => GivesSl w w' e fun l => l.length ≤ A.length ∧ val l = val A := by
  obtain ⟨i0, hi, hz0, hz1, hz2⟩ := info_parts infoE
  have HCA := hide hca
  clear hca
  go_enter Try.func34, Try.ntmps34
  go_wp2
  go_loop [3] (fun i => ∃ k : Nat, i = .int .i64 (k : Int) ∧ k ≤ A.length ∧ Hid (val (A.take k) = val A)) (fun i => (intOf i).toNat)
  case atStart => exact ⟨A.length, rfl, by omega, hide (by rw [List.take_length])⟩
  case round =>
    obtain ⟨k, rfl, hk, HD⟩ := hrel
    by_cases hk0 : k = 0
    · subst hk0
      have hv : val ([] : List Int) = val A := by rw [← uq HD]; rfl
      have HV := hide hv
      clear hv
      go_wp2
      go_ret
      exact ⟨_, [], rfl, ⟨w.heap.size, 0, rfl, by simp, by simp, by unfold maxLen; omega, fun j hj => by simp at hj, #[], heap_alloc_new w _⟩, dig_nil, ⟨by simp, uq HV⟩, (Keep.refl w).alloc _⟩
    · obtain ⟨j, rfl⟩ : ∃ j, k = j + 1 := ⟨k - 1, by omega⟩
      have hts := val_take_succ A j
      obtain ⟨x, hx⟩ : ∃ x, x = A.getD j 0 := ⟨_, rfl⟩
      have dx := dig_getD hA j
      rw [← hx] at dx hts
      obtain ⟨dx0, dx1⟩ := dx
      have hcx : w.cell? ⟨ga, j, none⟩ = some (.int .u64 x) := by rw [hx]; exact uq HCA j (by omega)
      clear hx
      by_cases hx0 : x = 0
      · subst hx0
        have hd : val (A.take j) = val A := by rw [← uq HD, hts]; omega
        have HD2 := hide hd
        clear hd hts
        go_wp2
        go_round
        case rel => exact ⟨j, by go_num, by omega, HD2⟩
        case measure => simp [intOf] <;> omega
      · have hxb : (x == 0) = false := by simpa using hx0
        clear hts
        unfold maxLen at hma
        have hk1 : Keep w (w.alloc (.cells #[] 82)) := (Keep.refl w).alloc _
        have tc := take_cells (w := w.alloc (.cells #[] 82)) hk (fun i hi => by rw [Below.cell (p := ⟨ga, i, none⟩) hk1 hga]; exact uq HCA i hi)
        have hlen : (((A.take (j + 1)).map (Value.int .u64))).length = (j + 1) * 1 := by simp; omega
        have hml : 0 + (j + 1) ≤ maxLen := by unfold maxLen; omega
        have TC := hide tc
        have HL := hide hlen
        have HK1 := hide hk1
        clear tc hlen hk1
        go_wp2_with (first | (at_builtin; refine wpList_append_own _ rfl _ _ 79 rfl w.heap.size 82 i0 (.int .u64 0) 1 8 Try.underlying79 hi hz0 hz1 hz2 rfl (by decide) _ _ _ rfl (World.ownsRow_made w #[] 0 (Nat.le_refl _) (Nat.zero_le _) rfl) ⟨ga, 0, none⟩ (j + 1) capa ((A.take (j + 1)).map (Value.int .u64)) rfl (uq HL) (uq TC) (ones_u64 _) hml (by omega) (by simp) ?_) | go_in)
        intro v' w1 hown' hgrow hnil
        have hb1 : Below w.heap.size w w1 := Below.grown (uq HK1) hgrow (by simp) (fun k hk => by simp [Value.ownBlock] at hk; omega)
        have hrow : RowB w.heap.size w1 v' (A.take (j + 1)) := by
          unfold RowB
          have e : (A.take (j + 1)).length = 0 + (j + 1) := by simp; omega
          rw [e]
          simpa using hown'
        have hd := dig_take hA (j + 1)
        have hsl : Sl w1 v' (A.take (j + 1)) := hrow.sl (by simp; omega)
        have hle : (A.take (j + 1)).length ≤ A.length := by simp; omega
        have HS := hide hsl
        have HDD := hide hd
        have HLE := hide hle
        clear hown' hgrow hnil hrow hsl hd hle
        go_wp2
        go_ret
        exact ⟨_, _, rfl, uq HS, uq HDD, ⟨uq HLE, uq HD⟩, hb1⟩
set_option maxHeartbeats 400000 in
theorem trim_nil (w : World) :
    Calls Try.prog 34 #[.slice none 0 0] w fun e w' => GivesSl w w' e fun l => l.length ≤ 0 ∧ val l = 0 := by
  go_enter Try.func34, Try.ntmps34
  go_wp2
  go_loop [3] (fun i => i = .int .i64 0) (fun i => 0)
  case atStart => rfl
  case round =>
    subst hrel
    go_wp2
    go_ret
    exact ⟨_, [], rfl, ⟨w.heap.size, 0, rfl, by simp, by simp, by unfold maxLen; omega, fun j hj => by simp at hj, #[], heap_alloc_new w _⟩, dig_nil, ⟨by simp, rfl⟩, (Keep.refl w).alloc _⟩
/-- a row, nil or not, is trimmed -/
theorem trim_any (va : Value) (A : List Int) (w : World) (ra : (va = .slice none 0 0 ∧ A = []) ∨ Sl w va A) (hA : Dig A) (hm : A.length ≤ 1000) :
    Calls Try.prog 34 #[va] w fun e w' => GivesSl w w' e fun l => l.length ≤ A.length ∧ val l = val A := by
  rcases ra with ⟨rfl, rfl⟩ | ⟨ga, capa, rfl, hga, hla, hma, hca, _⟩
  · exact trim_nil w
  · exact trim_some A w hA hm ga capa hga hla hma hca
set_option maxHeartbeats 400000 in
theorem twice_any (va : Value) (A : List Int) (w : World) (ra : Sl w va A) (hA : Dig A) (hm : A.length ≤ 900) (h0 : 0 < A.length) :
    Calls Try.prog 62 #[va] w fun e w' => GivesSl w w' e fun l => 0 < l.length ∧ l.length ≤ A.length + 1 ∧ val l = 2 * val A := by
  have T := hide (plus_sl va va A A A.length w ra ra hA hA (Nat.le_refl _) (Nat.le_refl _) (by omega))
  clear ra
  go_enter Try.func62, Try.ntmps62
  go_wp2_with fail
  refine (uq T).mono ?_
  rintro e w1 ⟨v, l, rfl, h2, h3, ⟨h4, h5, h6⟩, h7⟩
  have H2 := hide (h2.sl (by omega))
  have H6 : Hid (val l = 2 * val A) := by rw [h6]; exact hide (by omega)
  clear h2 h6
  go_wp2
  go_ret
  exact ⟨_, l, rfl, uq H2, h3, ⟨by omega, h5, uq H6⟩, h7⟩
end Go.Proofs.Ytdgmndjofbdgeaa
