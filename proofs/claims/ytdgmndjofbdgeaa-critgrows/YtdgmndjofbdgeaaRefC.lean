/- The document's answer, by parts of 16 bits: products and quotients. -/
import Derived.Test.YtdgmndjofbdgeaaRefB
import Derived.Deep.QuietTactic
import Derived.BigQuiet
namespace Go.Proofs.Ytdgmndjofbdgeaa
open Go.RowKit
set_option linter.unusedVariables false
set_option maxRecDepth 10000

/-- what Parts hands back, its shape laid open -/
def PartsPost (w w' : World) (e : Ending) (u : Int) : Prop := ∃ g cap X, e = .returned (.slice (some ⟨g, 0, none⟩) 4 cap) ∧ w.heap.size ≤ g ∧ g < w'.heap.size ∧ (∀ j, j < 4 → w'.cell? ⟨g, j, none⟩ = some (.int .u64 (X.getD j 0))) ∧ Dig X ∧ X.length = 4 ∧ val X = u ∧ Below w.heap.size w w'
theorem parts_ex (u : Int) (w : World) (h0 : 0 ≤ u) (h1 : u < 18446744073709551616) : Calls Try.prog 52 #[.int .u64 u] w fun e w' => PartsPost w w' e u := by
  refine (parts_any u w h0 h1).mono ?_
  rintro e w' ⟨v, l, rfl, hr, hd, ⟨hl, hv⟩, hb⟩
  rcases hr.shape with ⟨_, e⟩ | ⟨g, cap, rfl, hg, hB, hc⟩
  · rw [e] at hl; simp at hl
  · rw [hl] at hc ⊢
    exact ⟨g, cap, l, rfl, hB, hg, hc, hd, hl, hv, hb⟩
theorem made_list (k : Nat) : (madeCells (Value.int .u64 0).cells (k * 1)).toList = (List.replicate k (0 : Int)).map (Value.int .u64) := by
  simp [madeCells, Value.cells, Nat.mod_one]
  rw [List.map_const', List.length_range]
theorem made_row {w : World} {v : Value} {B k : Nat} (h : w.ownsRow B 82 1 v k (madeCells (Value.int .u64 0).cells (k * 1)).toList) : RowB B w v (List.replicate k 0) := by
  unfold RowB
  rw [made_list] at h
  rw [List.length_replicate]
  exact h

theorem below_grown_drew {w wr w1 : World} {v : Value} {l : List Int} {o : Obj} (hown : RowB w.heap.size wr v l) (hb : Below w.heap.size w wr) (hg : (wr.alloc o).drew.grownBy w1 v.ownBlock) : Below w.heap.size w w1 :=
  Below.grown (hb.alloc hb.size o).drew hg (by have := hb.size; simp; omega) (fun k hk => (World.ownsRow.lt hown k hk).1)

set_option maxHeartbeats 4000000 in
theorem times_ref (a b : Int) (w : World) (h0 : 0 ≤ a) (h1 : a < 18446744073709551616) (h2 : 0 ≤ b) (h3 : b < 18446744073709551616) :
    Calls Try.prog 35 #[.int .u64 a, .int .u64 b] w fun e w' => GivesRow w w' e fun l => 0 < l.length ∧ l.length ≤ 9 ∧ val l = a * b := by
  obtain ⟨i0, hi, hz0, hz1, hz2⟩ := info_parts infoE
  go_enter Try.func35, Try.ntmps35
  go_wp2_with fail
  refine (parts_ex a _ h0 h1).mono ?_
  rintro e w1 ⟨gx, cx, X, rfl, hgx0, hgx, hcX, dX, lX, vX, bX⟩
  have HcX := hide hcX
  have HlX := hide lX
  have HvX := hide vX
  clear hcX lX vX
  go_wp2_with fail
  refine (parts_ex b _ h2 h3).mono ?_
  rintro e w2 ⟨gy, cy, Y, rfl, hgy0, hgy, hcY, dY, lY, vY, bY⟩
  have HcY := hide hcY
  have HlY := hide lY
  have HvY := hide vY
  clear hcY lY vY
  have hs1 := bX.size
  have hs2 := bY.size
  go_wp2_with fail
  go_loopw [7, 8] (fun v i wr => ∃ (k : Nat) (O : List Int), k ≤ 4 ∧ i = .int .i64 k ∧ RowB w2.heap.size wr v O ∧ Dig O ∧ O.length ≤ k + 5 ∧ (0 < k → 0 < O.length) ∧ Hid (val O = val (X.take k) * val Y) ∧ Below w2.heap.size w2 wr) (fun _ i _ => 4 - (intOf i).toNat)
  case atStart => exact ⟨0, [], by omega, rfl, World.ownsRow_nil _ _ _ _, dig_nil, by simp, by omega, hide (by simp [val]), Below.refl _ _⟩
  case round =>
    obtain ⟨wo, rfl⟩ : ∃ wo, wo = wr := ⟨wr, rfl⟩
    obtain ⟨k, O, hk, rfl, rO, dO, lO, pO, HO, bO⟩ := hrel
    have hso := bO.size
    by_cases hk4 : k < 4
    · have dx := dig_getD dX k
      obtain ⟨x, hx⟩ : ∃ x, x = X.getD k 0 := ⟨_, rfl⟩
      rw [← hx] at dx
      obtain ⟨dx0, dx1⟩ := dx
      have hcx : wo.cell? ⟨gx, k, none⟩ = some (.int .u64 x) := by
        rw [bO.cell (p := ⟨gx, k, none⟩) (by show gx < _; omega), bY.cell (p := ⟨gx, k, none⟩) hgx, hx]
        exact uq HcX k hk4
      have HX := hide hx
      have PO := hide pO
      clear hx pO
      go_wp2_with (at_make; refine wpList_make_full _ rfl _ _ 79 rfl wo.heap.size 82 i0 (.int .u64 0) 1 Try.underlying79 hi hz0 hz1 .i64 .i64 _ _ k rfl rfl rfl rfl (by rw [hz2]; omega) (by unfold maxLen; omega) (Nat.le_refl _) ?_; intro wm hownm hgrowm)
      have rM := made_row hownm
      have bM : Below wo.heap.size wo wm := Below.grown (Below.refl _ _) hgrowm (Nat.le_refl _) (fun q hq => by cases hq)
      clear hownm hgrowm
      go_loopw [9, 10, 11] (fun rv cv jv wi => ∃ (j : Nat) (R : List Int) (c : Int), j ≤ 4 ∧ jv = .int .i64 j ∧ cv = .int .u64 c ∧ RowInv Y R k j x c ∧ RowB wo.heap.size wi rv R ∧ Below wo.heap.size wo wi) (fun _ _ jv _ => 4 - (intOf jv).toNat)
      case atStart => exact ⟨0, List.replicate k 0, 0, by omega, rfl, rfl, row_start Y k x, rM, bM⟩
      case round =>
        obtain ⟨j, R, c, hj, rfl, rfl, inv, rR, bR⟩ := hrel
        have hlR : R.length = k + j := inv.1
        have hc0 : 0 ≤ c := inv.2.2.1
        have hc1 : c < 65536 := inv.2.2.2.1
        have hsr := bR.size
        by_cases hj4 : j < 4
        · have dy := dig_getD dY j
          obtain ⟨y, hy⟩ : ∃ y, y = Y.getD j 0 := ⟨_, rfl⟩
          rw [← hy] at dy
          obtain ⟨dy0, dy1⟩ := dy
          have hcxi : wr.cell? ⟨gx, k, none⟩ = some (.int .u64 x) := by
            rw [bR.cell (p := ⟨gx, k, none⟩) (by show gx < _; omega)]; exact hcx
          have hcyi : wr.cell? ⟨gy, j, none⟩ = some (.int .u64 y) := by
            rw [bR.cell (p := ⟨gy, j, none⟩) (by show gy < _; omega), bO.cell (p := ⟨gy, j, none⟩) hgy, hy]
            exact uq HcY j hj4
          have hp := row_prod dx0 dx1 dy0 dy1 hc0 hc1
          have HS := hide (row_step inv dY dx0 dx1 hy rfl)
          obtain ⟨P, hP⟩ : ∃ P, P = x * y := ⟨_, rfl⟩
          rw [← hP] at hp HS
          have eP : IntKind.u64.wrap (x * y) = P := by rw [IntKind.wrap_u64]; omega
          obtain ⟨hp1, hp2, hp3, hp4⟩ := hp
          have HP := hide hP
          have HY := hide hy
          clear hy hP
          have a3 : k + j + 1 ≤ maxLen := by unfold maxLen; omega
          have hownk := rR
          unfold RowB at hownk
          rw [hlR] at hownk
          go_wp2_with fail
          go_region
          have hownd : (wr.drew).ownsRow wo.heap.size 82 1 u9 (k + j) (List.map (Value.int .u64) R) := hownk
          go_wp2_with (first | (at_builtin; refine wpList_append_own _ rfl _ _ 79 rfl wo.heap.size 82 i0 (.int .u64 0) 1 8 Try.underlying79 hi hz0 hz1 hz2 rfl (by decide) _ _ _ rfl (World.ownsRow.alloc hownd _) ⟨wr.heap.size, 0, none⟩ 1 1 [.int .u64 ((P + c) % 65536)] rfl rfl (cell_one_new _ _ _) (one_u64 _) a3 (by omega) (by simp; omega) ?_) | go_in)
          intro v' w1 hown' hgrow _
          have hb1 := below_grown_drew rR bR hgrow
          rw [← hlR] at hown'
          have hrow := RowB.snoc hown'
          clear hown' hgrow rR bR hlR hownk hownd
          go_wp2
          go_roundw
          case rel => exact ⟨j + 1, _, _, by omega, by go_num, rfl, uq HS, hrow, hb1⟩
          case measure => simp [intOf]; omega
        · have hj4' : j = Y.length := by rw [uq HlY]; omega
          have he : val (R ++ [c]) = pw k * (x * val Y) ∧ Dig (R ++ [c]) ∧ (R ++ [c]).length = k + Y.length + 1 := by
            rw [hj4'] at inv
            exact row_end inv
          rw [uq HlY] at he hj4'
          obtain ⟨he1, he2, he3⟩ := he
          have HE1 := hide he1
          have HE3 := hide he3
          have a3 : k + j + 1 ≤ maxLen := by unfold maxLen; omega
          have hownk := rR
          unfold RowB at hownk
          rw [hlR] at hownk
          have HJ := hide hj4'
          clear he1 he3 hj4'
          go_wp2_with (first | (at_builtin; refine wpList_append_own _ rfl (.tmp 46) (.tmp 48) 79 rfl wo.heap.size 82 i0 (.int .u64 0) 1 8 Try.underlying79 hi hz0 hz1 hz2 rfl (by decide) _ _ _ rfl (World.ownsRow.alloc hownk _) ⟨wr.heap.size, 0, none⟩ 1 1 [.int .u64 c] rfl rfl (cell_one_new _ _ _) (one_u64 _) a3 (by omega) (by simp; omega) ?_))
          intro v' w3 hown' hgrow _
          have hb3 := below_grown rR bR hgrow
          rw [← hlR] at hown'
          have hrow := RowB.snoc hown'
          have rO3 : RowB w2.heap.size w3 u7 O := rO.keep hb3
          have PL : Hid (∀ w', w' = w3 → Calls Try.prog 38 #[u7, v'] w' fun e w4 => GivesRow w' w4 e fun l => (R ++ [c]).length ≤ l.length ∧ l.length ≤ k + 5 + 1 ∧ val l = val O + val (R ++ [c])) := by
            intro w' e; subst e
            exact rplus_any u7 v' O (R ++ [c]) _ _ (k + 5) w' rO3 hrow dO he2 (by rw [uq HE3]; omega) lO (by rw [uq HE3]; omega) (by omega)
          have hs3 := hb3.size
          clear hown' hgrow rR hownk hrow rO3 rO
          go_wp2_with fail
          refine (uq PL _ rfl).mono ?_
          rintro e w4 ⟨v4, l4, rfl, r4, d4, ⟨q1, q2, q3⟩, b4⟩
          have H4 := hide (times_step (uq HO) ((uq HE1).trans (by rw [uq HX])))
          have q3' : val l4 = val (X.take (k + 1)) * val Y := by rw [q3]; exact uq H4
          have HQ := hide q3'
          have q1' : 0 < l4.length := by rw [uq HE3] at q1; omega
          have r4' := r4.mono (show w2.heap.size ≤ w3.heap.size by omega)
          have b4' : Below w2.heap.size w2 w4 := (bO.trans (hb3.mono hso)).trans (b4.mono (by omega))
          clear q1 q3 q3' r4
          go_wp2
          go_roundw
          case rel => exact ⟨k + 1, l4, by omega, by go_num, r4', d4, by omega, fun _ => q1', HQ, b4'⟩
          case measure => simp [intOf]; omega
    · have hk4' : k = 4 := by omega
      subst hk4'
      have hv : val O = a * b := by
        rw [uq HO, val_take_all (by rw [uq HlX]; omega), uq HvX, uq HvY]
      have HV := hide hv
      have p0 := pO (by omega)
      clear hv pO
      go_wp2
      go_ret
      exact ⟨u7, O, rfl, rO.mono (by omega), dO, ⟨p0, by omega, uq HV⟩, (bX.trans (bY.mono (by omega))).trans (bO.mono (by omega))⟩
end Go.Proofs.Ytdgmndjofbdgeaa
