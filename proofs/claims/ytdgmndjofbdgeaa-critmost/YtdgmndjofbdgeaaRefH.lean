/- The document's answer, by parts of 16 bits: products and quotients. -/
import Derived.Test.YtdgmndjofbdgeaaRefB
import Derived.Deep.QuietTactic
import Derived.BigQuiet
import Derived.Test.YtdgmndjofbdgeaaLSkip
namespace Go.Proofs.Ytdgmndjofbdgeaa
open Go.RowKit
set_option linter.unusedVariables false
set_option maxRecDepth 10000

/-- what Parts hands back, its shape laid open -/
def PartsPost (w w' : World) (e : Ending) (u : Int) : Prop := ∃ g cap X, e = .returned (.slice (some ⟨g, 0, none⟩) 4 cap) ∧ w.heap.size ≤ g ∧ g < w'.heap.size ∧ (∀ j, j < 4 → w'.cell? ⟨g, j, none⟩ = some (.int .u64 (X.getD j 0))) ∧ Dig X ∧ X.length = 4 ∧ val X = u ∧ Below w.heap.size w w'
theorem parts_ex (u : Int) (w : World) (h0 : 0 ≤ u) (h1 : u < 18446744073709551616) : Calls Try.prog 52 #[.int .u64 u] w fun e w' => PartsPost w w' e u := by
  refine (parts_any u w h0 h1).mono ?_
  rintro e w' ⟨v, l, rfl, hr, hd, ⟨hl, hv⟩, hb⟩
  rcases hr.shape with ⟨_, e⟩ | ⟨g, cap, rfl, hg, hB, hc⟩
  · rw [e] at hl; simp at hl
  · rw [hl] at hc ⊢
    exact ⟨g, cap, l, rfl, hB, hg, hc, hd, hl, hv, hb⟩
theorem made_list (k : Nat) : (madeCells (Value.int .u64 0).cells (k * 1)).toList = (List.replicate k (0 : Int)).map (Value.int .u64) := by
  simp [madeCells, Value.cells, Nat.mod_one]
  rw [List.map_const', List.length_range]
theorem made_row {w : World} {v : Value} {B k : Nat} (h : w.ownsRow B 82 1 v k (madeCells (Value.int .u64 0).cells (k * 1)).toList) : RowB B w v (List.replicate k 0) := by
  unfold RowB
  rw [made_list] at h
  rw [List.length_replicate]
  exact h

theorem below_grown_drew {w wr w1 : World} {v : Value} {l : List Int} {o : Obj} (hown : RowB w.heap.size wr v l) (hb : Below w.heap.size w wr) (hg : (wr.alloc o).drew.grownBy w1 v.ownBlock) : Below w.heap.size w w1 :=
  Below.grown (hb.alloc hb.size o).drew hg (by have := hb.size; simp; omega) (fun k hk => (World.ownsRow.lt hown k hk).1)

set_option maxHeartbeats 4000000 in
theorem times_ref (a b : Int) (w : World) (h0 : 0 ≤ a) (h1 : a < 18446744073709551616) (h2 : 0 ≤ b) (h3 : b < 18446744073709551616) :
    Calls Try.prog 35 #[.int .u64 a, .int .u64 b] w fun e w' => GivesRow w w' e fun l => 0 < l.length ∧ l.length ≤ 9 ∧ val l = a * b := by
  obtain ⟨i0, hi, hz0, hz1, hz2⟩ := info_parts infoE
  go_enter Try.func35, Try.ntmps35
  go_wp2_with fail
  refine (parts_ex a _ h0 h1).mono ?_
  rintro e w1 ⟨gx, cx, X, rfl, hgx0, hgx, hcX, dX, lX, vX, bX⟩
  have HcX := hide hcX
  have HlX := hide lX
  have HvX := hide vX
  clear hcX lX vX
  go_wp2_with fail
  refine (parts_ex b _ h2 h3).mono ?_
  rintro e w2 ⟨gy, cy, Y, rfl, hgy0, hgy, hcY, dY, lY, vY, bY⟩
  have HcY := hide hcY
  have HlY := hide lY
  have HvY := hide vY
  clear hcY lY vY
  have hs1 := bX.size
  have hs2 := bY.size
  go_wp2_with fail
  go_loopw [7, 8] (fun v i wr => ∃ (k : Nat) (O : List Int), k ≤ 4 ∧ i = .int .i64 k ∧ RowB w2.heap.size wr v O ∧ Dig O ∧ O.length ≤ k + 5 ∧ (0 < k → 0 < O.length) ∧ Hid (val O = val (X.take k) * val Y) ∧ Below w2.heap.size w2 wr) (fun _ i _ => 4 - (intOf i).toNat)
  case atStart => exact ⟨0, [], by omega, rfl, World.ownsRow_nil _ _ _ _, dig_nil, by simp, by omega, hide (by simp [val]), Below.refl _ _⟩
  case round =>
    obtain ⟨wo, rfl⟩ : ∃ wo, wo = wr := ⟨wr, rfl⟩
    obtain ⟨k, O, hk, rfl, rO, dO, lO, pO, HO, bO⟩ := hrel
    have hso := bO.size
    by_cases hk4 : k < 4
    · have dx := dig_getD dX k
      obtain ⟨x, hx⟩ : ∃ x, x = X.getD k 0 := ⟨_, rfl⟩
      rw [← hx] at dx
      obtain ⟨dx0, dx1⟩ := dx
      have hcx : wo.cell? ⟨gx, k, none⟩ = some (.int .u64 x) := by
        rw [bO.cell (p := ⟨gx, k, none⟩) (by show gx < _; omega), bY.cell (p := ⟨gx, k, none⟩) hgx, hx]
        exact uq HcX k hk4
      have HX := hide hx
      have PO := hide pO
      clear hx pO
      go_wp2_with (at_make; refine wpList_make_full _ rfl _ _ 79 rfl wo.heap.size 82 i0 (.int .u64 0) 1 Try.underlying79 hi hz0 hz1 .i64 .i64 _ _ k rfl rfl rfl rfl (by rw [hz2]; omega) (by unfold maxLen; omega) (Nat.le_refl _) ?_; intro wm hownm hgrowm)
      have rM := made_row hownm
      have bM : Below wo.heap.size wo wm := Below.grown (Below.refl _ _) hgrowm (Nat.le_refl _) (fun q hq => by cases hq)
      clear hownm hgrowm
      go_loopw [9, 10, 11] (fun rv cv jv wi => ∃ (j : Nat) (R : List Int) (c : Int), j ≤ 4 ∧ jv = .int .i64 j ∧ cv = .int .u64 c ∧ RowInv Y R k j x c ∧ RowB wo.heap.size wi rv R ∧ Below wo.heap.size wo wi) (fun _ _ jv _ => 4 - (intOf jv).toNat)
      case atStart => exact ⟨0, List.replicate k 0, 0, by omega, rfl, rfl, row_start Y k x, rM, bM⟩
      case round =>
        obtain ⟨j, R, c, hj, rfl, rfl, inv, rR, bR⟩ := hrel
        have hlR : R.length = k + j := inv.1
        have hc0 : 0 ≤ c := inv.2.2.1
        have hc1 : c < 65536 := inv.2.2.2.1
        have hsr := bR.size
        by_cases hj4 : j < 4
        · have dy := dig_getD dY j
          obtain ⟨y, hy⟩ : ∃ y, y = Y.getD j 0 := ⟨_, rfl⟩
          rw [← hy] at dy
          obtain ⟨dy0, dy1⟩ := dy
          have hcxi : wr.cell? ⟨gx, k, none⟩ = some (.int .u64 x) := by
            rw [bR.cell (p := ⟨gx, k, none⟩) (by show gx < _; omega)]; exact hcx
          have hcyi : wr.cell? ⟨gy, j, none⟩ = some (.int .u64 y) := by
            rw [bR.cell (p := ⟨gy, j, none⟩) (by show gy < _; omega), bO.cell (p := ⟨gy, j, none⟩) hgy, hy]
            exact uq HcY j hj4
          have hp := row_prod dx0 dx1 dy0 dy1 hc0 hc1
          have HS := hide (row_step inv dY dx0 dx1 hy rfl)
          obtain ⟨P, hP⟩ : ∃ P, P = x * y := ⟨_, rfl⟩
          rw [← hP] at hp HS
          have eP : IntKind.u64.wrap (x * y) = P := by rw [IntKind.wrap_u64]; omega
          obtain ⟨hp1, hp2, hp3, hp4⟩ := hp
          have HP := hide hP
          have HY := hide hy
          clear hy hP
          have a3 : k + j + 1 ≤ maxLen := by unfold maxLen; omega
          have hownk := rR
          unfold RowB at hownk
          rw [hlR] at hownk
          go_wp2_with fail
          go_region
          have hownd : (wr.drew).ownsRow wo.heap.size 82 1 u9 (k + j) (List.map (Value.int .u64) R) := hownk
          go_wp2_with (first | (at_builtin; refine wpList_append_own _ rfl _ _ 79 rfl wo.heap.size 82 i0 (.int .u64 0) 1 8 Try.underlying79 hi hz0 hz1 hz2 rfl (by decide) _ _ _ rfl (World.ownsRow.alloc hownd _) ⟨wr.heap.size, 0, none⟩ 1 1 [.int .u64 ((P + c) % 65536)] rfl rfl (cell_one_new _ _ _) (one_u64 _) a3 (by omega) (by simp; omega) ?_) | go_in)
          intro v' w1 hown' hgrow _
          have hb1 := below_grown_drew rR bR hgrow
          rw [← hlR] at hown'
          have hrow := RowB.snoc hown'
          clear hown' hgrow rR bR hlR hownk hownd
          go_wp2
          go_roundw
          case rel => exact ⟨j + 1, _, _, by omega, by go_num, rfl, uq HS, hrow, hb1⟩
          case measure => simp [intOf]; omega
        · have hj4' : j = Y.length := by rw [uq HlY]; omega
          have he : val (R ++ [c]) = pw k * (x * val Y) ∧ Dig (R ++ [c]) ∧ (R ++ [c]).length = k + Y.length + 1 := by
            rw [hj4'] at inv
            exact row_end inv
          rw [uq HlY] at he hj4'
          obtain ⟨he1, he2, he3⟩ := he
          have HE1 := hide he1
          have HE3 := hide he3
          have a3 : k + j + 1 ≤ maxLen := by unfold maxLen; omega
          have hownk := rR
          unfold RowB at hownk
          rw [hlR] at hownk
          have HJ := hide hj4'
          clear he1 he3 hj4'
          go_wp2_with (first | (at_builtin; refine wpList_append_own _ rfl (.tmp 46) (.tmp 48) 79 rfl wo.heap.size 82 i0 (.int .u64 0) 1 8 Try.underlying79 hi hz0 hz1 hz2 rfl (by decide) _ _ _ rfl (World.ownsRow.alloc hownk _) ⟨wr.heap.size, 0, none⟩ 1 1 [.int .u64 c] rfl rfl (cell_one_new _ _ _) (one_u64 _) a3 (by omega) (by simp; omega) ?_))
          intro v' w3 hown' hgrow _
          have hb3 := below_grown rR bR hgrow
          rw [← hlR] at hown'
          have hrow := RowB.snoc hown'
          have rO3 : RowB w2.heap.size w3 u7 O := rO.keep hb3
          have PL : Hid (∀ w', w' = w3 → Calls Try.prog 38 #[u7, v'] w' fun e w4 => GivesRow w' w4 e fun l => (R ++ [c]).length ≤ l.length ∧ l.length ≤ k + 5 + 1 ∧ val l = val O + val (R ++ [c])) := by
            intro w' e; subst e
            exact rplus_any u7 v' O (R ++ [c]) _ _ (k + 5) w' rO3 hrow dO he2 (by rw [uq HE3]; omega) lO (by rw [uq HE3]; omega) (by omega)
          have hs3 := hb3.size
          clear hown' hgrow rR hownk hrow rO3 rO
          go_wp2_with fail
          refine (uq PL _ rfl).mono ?_
          rintro e w4 ⟨v4, l4, rfl, r4, d4, ⟨q1, q2, q3⟩, b4⟩
          have H4 := hide (times_step (uq HO) ((uq HE1).trans (by rw [uq HX])))
          have q3' : val l4 = val (X.take (k + 1)) * val Y := by rw [q3]; exact uq H4
          have HQ := hide q3'
          have q1' : 0 < l4.length := by rw [uq HE3] at q1; omega
          have r4' := r4.mono (show w2.heap.size ≤ w3.heap.size by omega)
          have b4' : Below w2.heap.size w2 w4 := (bO.trans (hb3.mono hso)).trans (b4.mono (by omega))
          clear q1 q3 q3' r4
          go_wp2
          go_roundw
          case rel => exact ⟨k + 1, l4, by omega, by go_num, r4', d4, by omega, fun _ => q1', HQ, b4'⟩
          case measure => simp [intOf]; omega
    · have hk4' : k = 4 := by omega
      subst hk4'
      have hv : val O = a * b := by
        rw [uq HO, val_take_all (by rw [uq HlX]; omega), uq HvX, uq HvY]
      have HV := hide hv
      have p0 := pO (by omega)
      clear hv pO
      go_wp2
      go_ret
      exact ⟨u7, O, rfl, rO.mono (by omega), dO, ⟨p0, by omega, uq HV⟩, (bX.trans (bY.mono (by omega))).trans (bO.mono (by omega))⟩
end Go.Proofs.Ytdgmndjofbdgeaa

namespace Go.Proofs.Ytdgmndjofbdgeaa
open Go.RowKit
set_option linter.unusedVariables false
set_option maxRecDepth 10000
/-- v is a slice, not nil, that reads as the numbers l -/
def Sl (w : World) (v : Value) (l : List Int) : Prop := ∃ g cap, v = .slice (some ⟨g, 0, none⟩) l.length cap ∧ g < w.heap.size ∧ l.length ≤ cap ∧ cap ≤ maxLen ∧ (∀ j, j < l.length → w.cell? ⟨g, j, none⟩ = some (.int .u64 (l.getD j 0))) ∧ ∃ cur, w.heap[g]? = some (.cells cur 82 (0, 0))
theorem Sl.keep {w w' : World} {v : Value} {l : List Int} (h : Sl w v l) (hk : Keep w w') : Sl w' v l := by
  obtain ⟨g, cap, e, hg, hl, hm, hc, cur, hcur⟩ := h
  refine ⟨g, cap, e, ?_, hl, hm, fun j hj => ?_, cur, by rw [Below.block hk g hg]; exact hcur⟩
  · have := Below.size hk
    omega
  · rw [Below.cell (p := ⟨g, j, none⟩) hk hg]
    exact hc j hj
theorem RowB.cases {B : Nat} {w : World} {v : Value} {l : List Int} (h : RowB B w v l) : (v = .slice none 0 0 ∧ l = []) ∨ Sl w v l := by
  have h' := h.shape
  rcases h' with h' | ⟨g, cap, e, hg, _, hc⟩
  · exact .inl h'
  · obtain ⟨_, h2⟩ := h
    rcases h2 with ⟨h2, _⟩ | ⟨g2, cap2, cur, e2, _, hb, h3, h4, _⟩
    · rw [e] at h2; cases h2
    · rw [e] at e2
      injection e2 with e3 e4 e5
      injection e3 with e6
      injection e6 with e7
      subst e5 e7
      exact .inr ⟨g, cap, e, hg, h3, h4, hc, cur, hb⟩
theorem RowB.sl {B : Nat} {w : World} {v : Value} {l : List Int} (h : RowB B w v l) (hl : 0 < l.length) : Sl w v l := by
  rcases h.cases with ⟨_, h'⟩ | h'
  · rw [h'] at hl; simp at hl
  · exact h'
/-- a slice of numbers stands as it was where a row of another make has grown -/
theorem Sl.grown {w w' : World} {v : Value} {l : List Int} {row : Option Nat} {T : TypeId} (h : Sl w v l) (hg : w.grownBy w' row) (hT : T ≠ 82) (hr : ∀ k, row = some k → ∃ cur, w.heap[k]? = some (.cells cur T (0, 0))) : Sl w' v l := by
  obtain ⟨g, cap, e, hlt, hl, hm, hc, cur, hcur⟩ := h
  have hne : some g ≠ row := by
    intro h
    obtain ⟨cur2, h2⟩ := hr g h.symm
    rw [hcur] at h2
    injection h2 with h3
    injection h3 with h4 h5
    exact hT h5.symm
  have hb := hg.block g hlt hne
  refine ⟨g, cap, e, Nat.lt_of_lt_of_le hlt hg.size, hl, hm, fun j hj => ?_, cur, by rw [hb]; exact hcur⟩
  rw [World.cell?_of_block (a := ⟨g, j, none⟩) hb]
  exact hc j hj
/-- the call hands back a slice, not nil, of which P holds; nothing that was there has turned -/
def GivesSl (w w' : World) (e : Ending) (P : List Int → Prop) : Prop := ∃ v l, e = .returned v ∧ Sl w' v l ∧ Dig l ∧ P l ∧ Keep w w'
theorem order_sl (va vb : Value) (A B : List Int) (w : World) (ra : Sl w va A) (rb : Sl w vb B) (hA : Dig A) (hB : Dig B) (ha : A.length ≤ 1000) (hb : B.length ≤ 1000) :
    Calls Try.prog 39 #[va, vb] w fun e w' => e = .returned (.int .i64 (cm (val A) (val B))) ∧ w' = w := by
  obtain ⟨ga, capa, rfl, _, _, _, hca, _⟩ := ra
  obtain ⟨gb, capb, rfl, _, _, _, hcb, _⟩ := rb
  by_cases h : A.length < B.length
  · exact order_b A B w hA hB h ha hb ga capa hca gb capb hcb
  · exact order_a A B w hA hB (by omega) ha hb ga capa hca gb capb hcb
theorem minus_sl (va vb : Value) (A B : List Int) (w : World) (ra : Sl w va A) (rb : Sl w vb B) (hA : Dig A) (hB : Dig B) (ha : A.length ≤ 1000) (hb : B.length ≤ 1000) (hle : val B ≤ val A) :
    Calls Try.prog 40 #[va, vb] w fun e w' => GivesRow w w' e fun l => l.length = A.length ∧ val l = val A - val B := by
  obtain ⟨ga, capa, rfl, hga, _, _, hca, _⟩ := ra
  obtain ⟨gb, capb, rfl, hgb, _, _, hcb, _⟩ := rb
  exact minus_some A B w hA hB ha hb (hide hle) ga capa hga hca gb capb hgb hcb
theorem plus_sl (va vb : Value) (A B : List Int) (m : Nat) (w : World) (ra : Sl w va A) (rb : Sl w vb B) (hA : Dig A) (hB : Dig B) (ha : A.length ≤ m) (hb : B.length ≤ m) (hm : m ≤ 999) :
    Calls Try.prog 38 #[va, vb] w fun e w' => GivesRow w w' e fun l => B.length ≤ l.length ∧ l.length ≤ m + 1 ∧ val l = val A + val B := by
  obtain ⟨ga, capa, rfl, hga, _, _, hca, _⟩ := ra
  obtain ⟨gb, capb, rfl, hgb, _, _, hcb, _⟩ := rb
  by_cases h : A.length ≤ B.length
  · refine (plus_some A B B.length w hA hB h (Nat.le_refl _) (.inr rfl) (by omega) ga capa hga hca gb capb hgb hcb).mono ?_
    rintro e w' ⟨v, l, h1, h2, h3, ⟨h4, h5, h6⟩, h7⟩
    exact ⟨v, l, h1, h2, h3, ⟨h4, by omega, h6⟩, h7⟩
  · refine (plus_some A B A.length w hA hB (Nat.le_refl _) (by omega) (.inl rfl) (by omega) ga capa hga hca gb capb hgb hcb).mono ?_
    rintro e w' ⟨v, l, h1, h2, h3, ⟨h4, h5, h6⟩, h7⟩
    exact ⟨v, l, h1, h2, h3, ⟨h4, by omega, h6⟩, h7⟩
/-! ### the order against nought -/
set_option maxHeartbeats 2000000 in
theorem order_nil (va : Value) (A : List Int) (w : World) (ra : Sl w va A) (hA : Dig A) (hm1 : A.length ≤ 1000) :
    Calls Try.prog 39 #[va, .slice none 0 0] w fun e w' => e = .returned (.int .i64 (cm (val A) 0)) ∧ w' = w := by
  obtain ⟨ga, capa, rfl, _, _, _, hca, _⟩ := ra
  have HCA := hide hca
  clear hca
  go_enter Try.func39, Try.ntmps39
  go_wp2
  go_loop [6] (fun i => ∃ k : Nat, i = .int .i64 ((k : Int) - 1) ∧ k ≤ A.length ∧ Hid (val (A.drop k) = 0)) (fun i => (intOf i + 1).toNat)
  case atStart => exact ⟨A.length, rfl, by omega, hide (by rw [List.drop_of_length_le (by omega)]; rfl)⟩
  case round =>
    obtain ⟨k, rfl, hk, HD⟩ := hrel
    by_cases hk0 : k = 0
    · subst hk0
      have he : cm (val A) 0 = 0 := by
        have := uq HD
        simp at this
        simp [cm, this]
      have HE := hide he
      clear he
      rw [show (((0 : Nat) : Int) - 1) = -1 by rfl]
      go_wp2
      go_ret
      exact ⟨one_ret (uq HE).symm, rfl⟩
    · obtain ⟨j, rfl⟩ : ∃ j, k = j + 1 := ⟨k - 1, by omega⟩
      rw [show (((j + 1 : Nat) : Int) - 1) = (j : Int) by omega]
      have dx := dig_getD hA j
      have gt := order_lt (A := []) (B := A) dig_nil hA (j := j) (by simp [uq HD, val])
      have eq := order_same (A := A) (B := []) (j := j) (by simp [uq HD, val])
      obtain ⟨x, hx⟩ : ∃ x, x = A.getD j 0 := ⟨_, rfl⟩
      rw [← hx] at dx gt eq
      obtain ⟨dx0, dx1⟩ := dx
      have GT := hide gt
      have EQ := hide eq
      clear gt eq
      have ka : j < A.length := by omega
      have hcx : w.cell? ⟨ga, j, none⟩ = some (.int .u64 x) := by rw [hx]; exact uq HCA j ka
      clear hx
      by_cases hc : 0 < x
      · have he : cm (val A) 0 = 1 := by
          have := uq GT (by simpa using hc)
          have h1 : val ([] : List Int) = 0 := rfl
          rw [h1] at this
          have h2 : ¬ val A < 0 := by omega
          have h3 : ¬ val A = 0 := by omega
          simp [cm, h2, h3]
        have HE := hide he
        clear he
        go_wp2
        go_ret
        exact ⟨one_ret (uq HE).symm, rfl⟩
      · have hx0 : x = 0 := by omega
        subst hx0
        have hd := uq EQ (by simp)
        have hd2 : val (A.drop j) = 0 := by rw [hd]; simp [val]
        have HD2 := hide hd2
        clear hd hd2
        go_wp2
        go_round
        case rel => exact ⟨j, by go_num, by omega, HD2⟩
        case measure => simp [intOf] <;> omega
/-! ### trim -/
theorem take_cells {A : List Int} {w : World} {ga k : Nat} (hk : k ≤ A.length) (hca : ∀ j, j < A.length → w.cell? ⟨ga, j, none⟩ = some (.int .u64 (A.getD j 0))) :
    ∀ j u, ((A.take k).map (Value.int .u64))[j]? = some u → w.cell? ((⟨ga, 0, none⟩ : Addr).add j) = some u := by
  intro j u hu
  rw [List.getElem?_map] at hu
  by_cases hj : j < k
  · rw [List.getElem?_take_of_lt hj, List.getElem?_eq_getElem (by omega)] at hu
    simp at hu
    subst hu
    have := hca j (by omega)
    rw [List.getD_eq_getElem?_getD, List.getElem?_eq_getElem (by omega)] at this
    have e : ((⟨ga, 0, none⟩ : Addr).add j) = ⟨ga, j, none⟩ := by unfold Addr.add; split <;> simp_all
    rw [e]
    simpa using this
  · rw [List.getElem?_eq_none (by simp; omega)] at hu
    simp at hu
theorem ones_u64 (l : List Int) : ∀ u ∈ l.map (Value.int .u64), u.oneCell' = true := by
  intro u hu
  obtain ⟨a, _, rfl⟩ := List.mem_map.1 hu
  rfl
set_option maxHeartbeats 2000000 in
theorem trim_some (A : List Int) (w : World) (hA : Dig A) (hm : A.length ≤ 1000) (ga capa : Nat) (hga : ga < w.heap.size) (hla : A.length ≤ capa) (hma : capa ≤ maxLen) (hca : ∀ j, j < A.length → w.cell? ⟨ga, j, none⟩ = some (.int .u64 (A.getD j 0))) :
    Calls Try.prog 34 #[.slice (some ⟨ga, 0, none⟩) A.length capa] w fun e w' => GivesSl w w' e fun l => l.length ≤ A.length ∧ val l = val A := by
  obtain ⟨i0, hi, hz0, hz1, hz2⟩ := info_parts infoE
  have HCA := hide hca
  clear hca
  go_enter Try.func34, Try.ntmps34
  go_wp2
  go_loop [3] (fun i => ∃ k : Nat, i = .int .i64 (k : Int) ∧ k ≤ A.length ∧ Hid (val (A.take k) = val A)) (fun i => (intOf i).toNat)
  case atStart => exact ⟨A.length, rfl, by omega, hide (by rw [List.take_length])⟩
  case round =>
    obtain ⟨k, rfl, hk, HD⟩ := hrel
    by_cases hk0 : k = 0
    · subst hk0
      have hv : val ([] : List Int) = val A := by rw [← uq HD]; rfl
      have HV := hide hv
      clear hv
      go_wp2
      go_ret
      exact ⟨_, [], rfl, ⟨w.heap.size, 0, rfl, by simp, by simp, by unfold maxLen; omega, fun j hj => by simp at hj, #[], heap_alloc_new w _⟩, dig_nil, ⟨by simp, uq HV⟩, (Keep.refl w).alloc _⟩
    · obtain ⟨j, rfl⟩ : ∃ j, k = j + 1 := ⟨k - 1, by omega⟩
      have hts := val_take_succ A j
      obtain ⟨x, hx⟩ : ∃ x, x = A.getD j 0 := ⟨_, rfl⟩
      have dx := dig_getD hA j
      rw [← hx] at dx hts
      obtain ⟨dx0, dx1⟩ := dx
      have hcx : w.cell? ⟨ga, j, none⟩ = some (.int .u64 x) := by rw [hx]; exact uq HCA j (by omega)
      clear hx
      by_cases hx0 : x = 0
      · subst hx0
        have hd : val (A.take j) = val A := by rw [← uq HD, hts]; omega
        have HD2 := hide hd
        clear hd hts
        go_wp2
        go_round
        case rel => exact ⟨j, by go_num, by omega, HD2⟩
        case measure => simp [intOf] <;> omega
      · have hxb : (x == 0) = false := by simpa using hx0
        clear hts
        unfold maxLen at hma
        have hk1 : Keep w (w.alloc (.cells #[] 82)) := (Keep.refl w).alloc _
        have tc := take_cells (w := w.alloc (.cells #[] 82)) hk (fun i hi => by rw [Below.cell (p := ⟨ga, i, none⟩) hk1 hga]; exact uq HCA i hi)
        have hlen : (((A.take (j + 1)).map (Value.int .u64))).length = (j + 1) * 1 := by simp; omega
        have hml : 0 + (j + 1) ≤ maxLen := by unfold maxLen; omega
        have TC := hide tc
        have HL := hide hlen
        have HK1 := hide hk1
        clear tc hlen hk1
        go_wp2_with (first | (at_builtin; refine wpList_append_own _ rfl _ _ 79 rfl w.heap.size 82 i0 (.int .u64 0) 1 8 Try.underlying79 hi hz0 hz1 hz2 rfl (by decide) _ _ _ rfl (World.ownsRow_made w #[] 0 (Nat.le_refl _) (Nat.zero_le _) rfl) ⟨ga, 0, none⟩ (j + 1) capa ((A.take (j + 1)).map (Value.int .u64)) rfl (uq HL) (uq TC) (ones_u64 _) hml (by omega) (by simp) ?_) | go_in)
        intro v' w1 hown' hgrow hnil
        have hb1 : Below w.heap.size w w1 := Below.grown (uq HK1) hgrow (by simp) (fun k hk => by simp [Value.ownBlock] at hk; omega)
        have hrow : RowB w.heap.size w1 v' (A.take (j + 1)) := by
          unfold RowB
          have e : (A.take (j + 1)).length = 0 + (j + 1) := by simp; omega
          rw [e]
          simpa using hown'
        have hd := dig_take hA (j + 1)
        have hsl : Sl w1 v' (A.take (j + 1)) := hrow.sl (by simp; omega)
        have hle : (A.take (j + 1)).length ≤ A.length := by simp; omega
        have HS := hide hsl
        have HDD := hide hd
        have HLE := hide hle
        clear hown' hgrow hnil hrow hsl hd hle
        go_wp2
        go_ret
        exact ⟨_, _, rfl, uq HS, uq HDD, ⟨uq HLE, uq HD⟩, hb1⟩
set_option maxHeartbeats 400000 in
theorem trim_nil (w : World) :
    Calls Try.prog 34 #[.slice none 0 0] w fun e w' => GivesSl w w' e fun l => l.length ≤ 0 ∧ val l = 0 := by
  go_enter Try.func34, Try.ntmps34
  go_wp2
  go_loop [3] (fun i => i = .int .i64 0) (fun i => 0)
  case atStart => rfl
  case round =>
    subst hrel
    go_wp2
    go_ret
    exact ⟨_, [], rfl, ⟨w.heap.size, 0, rfl, by simp, by simp, by unfold maxLen; omega, fun j hj => by simp at hj, #[], heap_alloc_new w _⟩, dig_nil, ⟨by simp, rfl⟩, (Keep.refl w).alloc _⟩
/-- a row, nil or not, is trimmed -/
theorem trim_any (va : Value) (A : List Int) (w : World) (ra : (va = .slice none 0 0 ∧ A = []) ∨ Sl w va A) (hA : Dig A) (hm : A.length ≤ 1000) :
    Calls Try.prog 34 #[va] w fun e w' => GivesSl w w' e fun l => l.length ≤ A.length ∧ val l = val A := by
  rcases ra with ⟨rfl, rfl⟩ | ⟨ga, capa, rfl, hga, hla, hma, hca, _⟩
  · exact trim_nil w
  · exact trim_some A w hA hm ga capa hga hla hma hca
set_option maxHeartbeats 400000 in
theorem twice_any (va : Value) (A : List Int) (w : World) (ra : Sl w va A) (hA : Dig A) (hm : A.length ≤ 900) (h0 : 0 < A.length) :
    Calls Try.prog 62 #[va] w fun e w' => GivesSl w w' e fun l => 0 < l.length ∧ l.length ≤ A.length + 1 ∧ val l = 2 * val A := by
  have T := hide (plus_sl va va A A A.length w ra ra hA hA (Nat.le_refl _) (Nat.le_refl _) (by omega))
  clear ra
  go_enter Try.func62, Try.ntmps62
  go_wp2_with fail
  refine (uq T).mono ?_
  rintro e w1 ⟨v, l, rfl, h2, h3, ⟨h4, h5, h6⟩, h7⟩
  have H2 := hide (h2.sl (by omega))
  have H6 : Hid (val l = 2 * val A) := by rw [h6]; exact hide (by omega)
  clear h2 h6
  go_wp2
  go_ret
  exact ⟨_, l, rfl, uq H2, h3, ⟨by omega, h5, uq H6⟩, h7⟩
end Go.Proofs.Ytdgmndjofbdgeaa
