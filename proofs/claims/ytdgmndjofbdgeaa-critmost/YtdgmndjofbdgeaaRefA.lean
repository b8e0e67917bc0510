/- The document's answer, by parts of 16 bits: the walks of Parts, Plus, Order, Minus, Times, Quotient. -/
import Derived.Test.YtdgmndjofbdgeaaProg
import Derived.Test.YtdgmndjofbdgeaaDigits
import Derived.WalkKit
import Derived.ProofKit
import Derived.OwnWalk
import Derived.Laws.OwnMore
import Derived.LoopTactic
namespace Go.Proofs.Ytdgmndjofbdgeaa
open Go.RowKit
set_option linter.unusedVariables false
set_option maxRecDepth 10000

theorem infoE : (Try.prog.info? 82).map (fun i => (i.zero, i.size, i.bytes)) = some (some (.int .u64 0), 1, 8) := by kernel_rfl
/-- v is a slice that holds the numbers l, in a row of its own from block B on -/
def RowB (B : Nat) (w : World) (v : Value) (l : List Int) : Prop := w.ownsRow B 82 1 v l.length (l.map (Value.int .u64))
theorem RowB.mono {B B' : Nat} {w : World} {v : Value} {l : List Int} (h : RowB B w v l) (hb : B' ≤ B) : RowB B' w v l := by
  obtain ⟨h1, h2⟩ := h
  refine ⟨h1, ?_⟩
  rcases h2 with h2 | ⟨g, cap, cur, e, hg, r⟩
  · exact .inl h2
  · exact .inr ⟨g, cap, cur, e, by omega, r⟩
theorem RowB.keep {B : Nat} {w w' : World} {v : Value} {l : List Int} (h : RowB B w v l) (hk : Keep w w') : RowB B w' v l := by
  obtain ⟨h1, h2⟩ := h
  refine ⟨h1, ?_⟩
  rcases h2 with h2 | ⟨g, cap, cur, e, hg, hh, r⟩
  · exact .inl h2
  · have hlt : g < w.heap.size := by
      by_cases hc : g < w.heap.size
      · exact hc
      · rw [Array.getElem?_eq_none (by omega)] at hh; cases hh
    exact .inr ⟨g, cap, cur, e, hg, by rw [Below.block hk g hlt]; exact hh, r⟩
theorem RowB.shape {B : Nat} {w : World} {v : Value} {l : List Int} (h : RowB B w v l) :
    (v = .slice none 0 0 ∧ l = []) ∨ ∃ g cap, v = .slice (some ⟨g, 0, none⟩) l.length cap ∧ g < w.heap.size ∧ B ≤ g ∧ ∀ j, j < l.length → w.cell? ⟨g, j, none⟩ = some (.int .u64 (l.getD j 0)) := by
  have h' := h
  obtain ⟨h1, h2⟩ := h
  rcases h2 with ⟨h2, h3⟩ | ⟨g, cap, cur, e, hg, hh, r⟩
  · exact .inl ⟨h2, List.length_eq_zero_iff.1 h3⟩
  · have hlt : g < w.heap.size := by
      by_cases hc : g < w.heap.size
      · exact hc
      · rw [Array.getElem?_eq_none (by omega)] at hh; cases hh
    refine .inr ⟨g, cap, e, hlt, hg, fun j hj => ?_⟩
    subst e
    have := World.ownsRow.cellAt h' j (by omega)
    rw [this, List.getElem?_map, List.getElem?_eq_getElem hj, List.getD_eq_getElem?_getD, List.getElem?_eq_getElem hj]
    rfl
theorem RowB.snoc {B : Nat} {w : World} {v : Value} {l : List Int} {d : Int} (h : w.ownsRow B 82 1 v (l.length + 1) (l.map (Value.int .u64) ++ [.int .u64 d])) : RowB B w v (l ++ [d]) := by
  unfold RowB
  simpa using h
theorem below_grown {w wr w1 : World} {v : Value} {l : List Int} {o : Obj} (hown : RowB w.heap.size wr v l) (hb : Below w.heap.size w wr) (hg : (wr.alloc o).grownBy w1 v.ownBlock) : Below w.heap.size w w1 :=
  Below.grown (hb.alloc hb.size o) hg (by have := hb.size; simp; omega) (fun k hk => (World.ownsRow.lt hown k hk).1)

/-- the call hands back a new slice of parts, of which P holds; nothing that was there has turned -/
def GivesRow (w w' : World) (e : Ending) (P : List Int → Prop) : Prop := ∃ v l, e = .returned v ∧ RowB w.heap.size w' v l ∧ Dig l ∧ P l ∧ Below w.heap.size w w'

set_option maxHeartbeats 1000000 in
theorem parts_any (u : Int) (w : World) (h0 : 0 ≤ u) (h1 : u < 18446744073709551616) :
    Calls Try.prog 52 #[.int .u64 u] w fun e w' => GivesRow w w' e fun l => l.length = 4 ∧ val l = u := by
  obtain ⟨i0, hi, hz0, hz1, hz2⟩ := info_parts infoE
  go_enter Try.func52, Try.ntmps52
  go_wp2
  go_loopw [0, 3, 4] (fun p v i wr => ∃ (k : Nat) (l : List Int) (x : Int), k ≤ 4 ∧ i = .int .i64 k ∧ p = .int .u64 x ∧ 0 ≤ x ∧ x < 18446744073709551616 ∧ Hid (l.length = k) ∧ Dig l ∧ Hid (val l + pw k * x = u) ∧ RowB w.heap.size wr v l ∧ Below w.heap.size w wr) (fun _ _ i _ => 4 - (intOf i).toNat)
  case atStart => exact ⟨0, [], u, by omega, rfl, rfl, h0, h1, hide rfl, dig_nil, hide (by simp [val, pw_zero]), World.ownsRow_nil _ _ _ _, Below.refl _ _⟩
  case round =>
    obtain ⟨k, l, x, hk, rfl, rfl, hx0, hx1, Hl, hd, Hv, hown, hnx⟩ := hrel
    by_cases hlt : k < 4
    · have hll := uq Hl
      have hsz := hnx.size
      go_wp2_with (first | (at_builtin; refine wpList_append_own _ rfl _ _ 79 rfl w.heap.size 82 i0 (.int .u64 0) 1 8 Try.underlying79 hi hz0 hz1 hz2 rfl (by decide) _ _ _ rfl (World.ownsRow.alloc hown _) ⟨wr.heap.size, 0, none⟩ 1 1 [.int .u64 (x % 65536)] rfl rfl ?c1 ?c2 ?c3 ?c4 ?c5 ?_) | go_in)
      case c1 =>
        intro j u hj
        match j, hj with
        | 0, hj => simp at hj; subst hj; simp [Addr.add]
      case c2 => intro u hu; simp at hu; subst hu; rfl
      case c3 => unfold maxLen; omega
      case c4 => omega
      case c5 => simp; omega
      · intro v' w1 hown' hgrow _
        have hb1 := below_grown hown hnx hgrow
        rw [← hll] at hown'
        have hrow := RowB.snoc hown'
        have hd2 := dig_snoc hd (show 0 ≤ x % 65536 by omega) (show x % 65536 < 65536 by omega)
        have hv2 : val (l ++ [x % 65536]) + pw (k + 1) * (x / 65536) = u := by
          have := uq Hv
          have cn := carry_num (pw k) x
          rw [val_snoc, hll, pw_succ, Int.mul_comm _ (x / 65536)]
          omega
        have HV2 := hide hv2
        have HL2 : Hid ((l ++ [x % 65536]).length = k + 1) := hide (by simp [hll])
        clear hown' hgrow hown hnx hv2 hll
        go_wp2
        go_roundw
        case rel => exact ⟨k + 1, l ++ [x % 65536], x / 65536, by omega, by go_num, rfl, by omega, by omega, HL2, hd2, HV2, hrow, hb1⟩
        case measure => simp [intOf]; omega
    · have hk4 : k = 4 := by omega
      subst hk4
      have hx : x = 0 := by
        have h := uq Hv
        have hb := val_bd hd
        rw [uq Hl] at hb
        have e : pw 4 = 18446744073709551616 := by unfold pw; decide
        rw [e] at hb h
        omega
      have hval : val l = u := by
        have h := uq Hv
        rw [hx] at h
        omega
      have HX := hide hx
      have HV3 := hide hval
      clear hx hval
      go_wp2
      go_ret
      exact ⟨u3, l, rfl, hown, hd, ⟨uq Hl, uq HV3⟩, hnx⟩
/-! ### Plus -/
set_option maxHeartbeats 2000000 in
theorem plus_some (A B : List Int) (m : Nat) (w : World) (hA : Dig A) (hB : Dig B) (ha : A.length ≤ m) (hb : B.length ≤ m) (hm : A.length = m ∨ B.length = m) (hm2 : m ≤ 1000) (ga capa : Nat) (hga : ga < w.heap.size) (hca : ∀ j, j < A.length → w.cell? ⟨ga, j, none⟩ = some (.int .u64 (A.getD j 0))) (gb capb : Nat) (hgb : gb < w.heap.size) (hcb : ∀ j, j < B.length → w.cell? ⟨gb, j, none⟩ = some (.int .u64 (B.getD j 0))) :
    Calls Try.prog 38 #[.slice (some ⟨ga, 0, none⟩) A.length capa, .slice (some ⟨gb, 0, none⟩) B.length capb] w fun e w' => GivesRow w w' e fun l => B.length ≤ l.length ∧ l.length ≤ m + 1 ∧ val l = val A + val B := by
  obtain ⟨i0, hi, hz0, hz1, hz2⟩ := info_parts infoE
  go_enter Try.func38, Try.ntmps38
  go_wp2
  go_loopw [5, 6, 7] (fun v cv i wr => ∃ (k : Nat) (l : List Int) (c : Int), cv = .int .u64 c ∧ i = .int .i64 k ∧ (k ≤ m ∨ (k = m + 1 ∧ c = 0)) ∧ PlusInv A B l k c ∧ RowB w.heap.size wr v l ∧ Below w.heap.size w wr) (fun _ _ i _ => m + 1 - (intOf i).toNat)
  case atStart => exact ⟨0, [], 0, rfl, rfl, by omega, plus_start A B, World.ownsRow_nil _ _ _ _, Below.refl _ _⟩
  case round =>
    obtain ⟨k, l, c, rfl, rfl, hk, hinv, hown, hnx⟩ := hrel
    have hll : l.length = k := hinv.1
    have hc0 : 0 ≤ c := hinv.2.2.1
    have hc9 : c ≤ 1 := hinv.2.2.2.1
    have hsz := hnx.size
    have dx := dig_getD hA k
    have dy := dig_getD hB k
    obtain ⟨x, hx⟩ : ∃ x, x = A.getD k 0 := ⟨_, rfl⟩
    obtain ⟨y, hy⟩ : ∃ y, y = B.getD k 0 := ⟨_, rfl⟩
    rw [← hx] at dx
    rw [← hy] at dy
    obtain ⟨dx0, dx1⟩ := dx
    obtain ⟨dy0, dy1⟩ := dy
    by_cases ka : k < A.length
    · by_cases kb : k < B.length
      · have hcx : wr.cell? ⟨ga, k, none⟩ = some (.int .u64 x) := by rw [hnx.cell (p := ⟨ga, k, none⟩) hga, hx]; exact hca k ka
        have hcy : wr.cell? ⟨gb, k, none⟩ = some (.int .u64 y) := by rw [hnx.cell (p := ⟨gb, k, none⟩) hgb, hy]; exact hcb k kb
        have HX := hide hx
        have HY := hide hy
        clear hx hy
        have hstep := plus_step (s := c + x + y) hinv hA hB (uq HX) (uq HY) (by omega)
        have HS := hide hstep
        have hl2 : (l ++ [(c + x + y) % 65536]).length = k + 1 := by simp [hll]
        have HL2 := hide hl2
        have hbd := hstep.2.2
        have hc1 : 0 ≤ (c + x + y) / 65536 := hbd.1
        have hc2 : (c + x + y) / 65536 ≤ 1 := hbd.2.1
        clear hstep hl2 hbd
        go_wp2_with (first | (at_builtin; refine wpList_append_own _ rfl _ _ 79 rfl w.heap.size 82 i0 (.int .u64 0) 1 8 Try.underlying79 hi hz0 hz1 hz2 rfl (by decide) _ _ _ rfl (World.ownsRow.alloc hown _) ⟨wr.heap.size, 0, none⟩ 1 1 [.int .u64 ((c + x + y) % 65536)] rfl rfl ?c1 ?c2 ?c3 ?c4 ?c5 ?_) | go_in)
        case c1 =>
          intro j u hj
          match j, hj with
          | 0, hj => simp at hj; subst hj; simp [Addr.add]
        case c2 => intro u hu; simp at hu; subst hu; rfl
        case c3 => unfold maxLen; omega
        case c4 => omega
        case c5 => simp; omega
        · intro v' w1 hown' hgrow _
          have hb1 := below_grown hown hnx hgrow
          rw [← hll] at hown'
          have hrow := RowB.snoc hown'
          clear hown' hgrow hown hnx hll hcx hcy
          go_wp2
          go_roundw
          case rel => exact ⟨k + 1, _, _, rfl, by go_num, .inl (by omega), uq HS, hrow, hb1⟩
          case measure => simp [intOf]; omega
      · have hcx : wr.cell? ⟨ga, k, none⟩ = some (.int .u64 x) := by rw [hnx.cell (p := ⟨ga, k, none⟩) hga, hx]; exact hca k ka
        have y0 : y = 0 := by rw [hy, List.getD_eq_getElem?_getD, List.getElem?_eq_none (by omega)]; rfl
        have h00 : (0 : Int) = B.getD k 0 := by rw [← hy]; exact y0.symm
        have HX := hide hx
        have HY := hide h00
        clear hx hy y0 h00 dy0 dy1
        have hstep := plus_step (s := c + x) hinv hA hB (uq HX) (uq HY) (by omega)
        have HS := hide hstep
        have hl2 : (l ++ [(c + x) % 65536]).length = k + 1 := by simp [hll]
        have HL2 := hide hl2
        have hbd := hstep.2.2
        have hc1 : 0 ≤ (c + x) / 65536 := hbd.1
        have hc2 : (c + x) / 65536 ≤ 1 := hbd.2.1
        clear hstep hl2 hbd
        go_wp2_with (first | (at_builtin; refine wpList_append_own _ rfl _ _ 79 rfl w.heap.size 82 i0 (.int .u64 0) 1 8 Try.underlying79 hi hz0 hz1 hz2 rfl (by decide) _ _ _ rfl (World.ownsRow.alloc hown _) ⟨wr.heap.size, 0, none⟩ 1 1 [.int .u64 ((c + x) % 65536)] rfl rfl ?c1 ?c2 ?c3 ?c4 ?c5 ?_) | go_in)
        case c1 =>
          intro j u hj
          match j, hj with
          | 0, hj => simp at hj; subst hj; simp [Addr.add]
        case c2 => intro u hu; simp at hu; subst hu; rfl
        case c3 => unfold maxLen; omega
        case c4 => omega
        case c5 => simp; omega
        · intro v' w1 hown' hgrow _
          have hb1 := below_grown hown hnx hgrow
          rw [← hll] at hown'
          have hrow := RowB.snoc hown'
          clear hown' hgrow hown hnx hll hcx
          go_wp2
          go_roundw
          case rel => exact ⟨k + 1, _, _, rfl, by go_num, .inl (by omega), uq HS, hrow, hb1⟩
          case measure => simp [intOf]; omega
    · by_cases kb : k < B.length
      · have hcy : wr.cell? ⟨gb, k, none⟩ = some (.int .u64 y) := by rw [hnx.cell (p := ⟨gb, k, none⟩) hgb, hy]; exact hcb k kb
        have x0 : x = 0 := by rw [hx, List.getD_eq_getElem?_getD, List.getElem?_eq_none (by omega)]; rfl
        have h00 : (0 : Int) = A.getD k 0 := by rw [← hx]; exact x0.symm
        have HX := hide h00
        have HY := hide hy
        clear hx hy x0 h00 dx0 dx1
        have hstep := plus_step (s := c + y) hinv hA hB (uq HX) (uq HY) (by omega)
        have HS := hide hstep
        have hl2 : (l ++ [(c + y) % 65536]).length = k + 1 := by simp [hll]
        have HL2 := hide hl2
        have hbd := hstep.2.2
        have hc1 : 0 ≤ (c + y) / 65536 := hbd.1
        have hc2 : (c + y) / 65536 ≤ 1 := hbd.2.1
        clear hstep hl2 hbd
        go_wp2_with (first | (at_builtin; refine wpList_append_own _ rfl _ _ 79 rfl w.heap.size 82 i0 (.int .u64 0) 1 8 Try.underlying79 hi hz0 hz1 hz2 rfl (by decide) _ _ _ rfl (World.ownsRow.alloc hown _) ⟨wr.heap.size, 0, none⟩ 1 1 [.int .u64 ((c + y) % 65536)] rfl rfl ?c1 ?c2 ?c3 ?c4 ?c5 ?_) | go_in)
        case c1 =>
          intro j u hj
          match j, hj with
          | 0, hj => simp at hj; subst hj; simp [Addr.add]
        case c2 => intro u hu; simp at hu; subst hu; rfl
        case c3 => unfold maxLen; omega
        case c4 => omega
        case c5 => simp; omega
        · intro v' w1 hown' hgrow _
          have hb1 := below_grown hown hnx hgrow
          rw [← hll] at hown'
          have hrow := RowB.snoc hown'
          clear hown' hgrow hown hnx hll hcy
          go_wp2
          go_roundw
          case rel => exact ⟨k + 1, _, _, rfl, by go_num, .inl (by omega), uq HS, hrow, hb1⟩
          case measure => simp [intOf]; omega
      · have h00 : (0 : Int) = A.getD k 0 := by rw [List.getD_eq_getElem?_getD, List.getElem?_eq_none (by omega)]; rfl
        have h01 : (0 : Int) = B.getD k 0 := by rw [List.getD_eq_getElem?_getD, List.getElem?_eq_none (by omega)]; rfl
        have HX := hide h00
        have HY := hide h01
        clear hx hy h00 h01 dx0 dx1 dy0 dy1
        by_cases hc : c = 0
        · subst hc
          have he := plus_end hinv (by omega) (by omega)
          have HE := hide he
          have hd := hinv.2.1
          clear he
          go_wp2
          go_ret
          exact ⟨u5, l, rfl, hown, hd, ⟨by omega, by omega, uq HE⟩, hnx⟩
        · have hc1' : c = 1 := by omega
          subst hc1'
          have hstep := plus_step (s := 1) hinv hA hB (uq HX) (uq HY) (by omega)
          have HS : Hid (PlusInv A B (l ++ [1]) (k + 1) 0) := hide hstep
          clear hstep
          go_wp2_with (first | (at_builtin; refine wpList_append_own _ rfl _ _ 79 rfl w.heap.size 82 i0 (.int .u64 0) 1 8 Try.underlying79 hi hz0 hz1 hz2 rfl (by decide) _ _ _ rfl (World.ownsRow.alloc hown _) ⟨wr.heap.size, 0, none⟩ 1 1 [.int .u64 (1)] rfl rfl ?c1 ?c2 ?c3 ?c4 ?c5 ?_) | go_in)
          case c1 =>
            intro j u hj
            match j, hj with
            | 0, hj => simp at hj; subst hj; simp [Addr.add]
          case c2 => intro u hu; simp at hu; subst hu; rfl
          case c3 => unfold maxLen; omega
          case c4 => omega
          case c5 => simp; omega
          · intro v' w1 hown' hgrow _
            have hb1 := below_grown hown hnx hgrow
            rw [← hll] at hown'
            have hrow := RowB.snoc hown'
            clear hown' hgrow hown hnx hll
            go_wp2
            go_roundw
            case rel => exact ⟨k + 1, l ++ [1], 0, rfl, by go_num, by omega, uq HS, hrow, hb1⟩
            case measure => simp [intOf]; omega
set_option maxHeartbeats 2000000 in
theorem plus_nil (A B : List Int) (m : Nat) (w : World) (hA0 : Hid (A = [])) (hA : Dig A) (hB : Dig B) (ha : A.length ≤ m) (hb : B.length ≤ m) (hm : A.length = m ∨ B.length = m) (hm2 : m ≤ 1000) (gb capb : Nat) (hgb : gb < w.heap.size) (hcb : ∀ j, j < B.length → w.cell? ⟨gb, j, none⟩ = some (.int .u64 (B.getD j 0))) :
    Calls Try.prog 38 #[.slice none 0 0, .slice (some ⟨gb, 0, none⟩) B.length capb] w fun e w' => GivesRow w w' e fun l => B.length ≤ l.length ∧ l.length ≤ m + 1 ∧ val l = val A + val B := by
  obtain ⟨i0, hi, hz0, hz1, hz2⟩ := info_parts infoE
  go_enter Try.func38, Try.ntmps38
  go_wp2
  go_loopw [5, 6, 7] (fun v cv i wr => ∃ (k : Nat) (l : List Int) (c : Int), cv = .int .u64 c ∧ i = .int .i64 k ∧ (k ≤ m ∨ (k = m + 1 ∧ c = 0)) ∧ PlusInv A B l k c ∧ RowB w.heap.size wr v l ∧ Below w.heap.size w wr) (fun _ _ i _ => m + 1 - (intOf i).toNat)
  case atStart => exact ⟨0, [], 0, rfl, rfl, by omega, plus_start A B, World.ownsRow_nil _ _ _ _, Below.refl _ _⟩
  case round =>
    obtain ⟨k, l, c, rfl, rfl, hk, hinv, hown, hnx⟩ := hrel
    have hll : l.length = k := hinv.1
    have hc0 : 0 ≤ c := hinv.2.2.1
    have hc9 : c ≤ 1 := hinv.2.2.2.1
    have hsz := hnx.size
    have dx := dig_getD hA k
    have dy := dig_getD hB k
    obtain ⟨x, hx⟩ : ∃ x, x = A.getD k 0 := ⟨_, rfl⟩
    obtain ⟨y, hy⟩ : ∃ y, y = B.getD k 0 := ⟨_, rfl⟩
    rw [← hx] at dx
    rw [← hy] at dy
    obtain ⟨dx0, dx1⟩ := dx
    obtain ⟨dy0, dy1⟩ := dy
    have ka : ¬ k < A.length := by rw [uq hA0]; simp
    · by_cases kb : k < B.length
      · have hcy : wr.cell? ⟨gb, k, none⟩ = some (.int .u64 y) := by rw [hnx.cell (p := ⟨gb, k, none⟩) hgb, hy]; exact hcb k kb
        have x0 : x = 0 := by rw [hx, List.getD_eq_getElem?_getD, List.getElem?_eq_none (by omega)]; rfl
        have h00 : (0 : Int) = A.getD k 0 := by rw [← hx]; exact x0.symm
        have HX := hide h00
        have HY := hide hy
        clear hx hy x0 h00 dx0 dx1
        have hstep := plus_step (s := c + y) hinv hA hB (uq HX) (uq HY) (by omega)
        have HS := hide hstep
        have hl2 : (l ++ [(c + y) % 65536]).length = k + 1 := by simp [hll]
        have HL2 := hide hl2
        have hbd := hstep.2.2
        have hc1 : 0 ≤ (c + y) / 65536 := hbd.1
        have hc2 : (c + y) / 65536 ≤ 1 := hbd.2.1
        clear hstep hl2 hbd
        go_wp2_with (first | (at_builtin; refine wpList_append_own _ rfl _ _ 79 rfl w.heap.size 82 i0 (.int .u64 0) 1 8 Try.underlying79 hi hz0 hz1 hz2 rfl (by decide) _ _ _ rfl (World.ownsRow.alloc hown _) ⟨wr.heap.size, 0, none⟩ 1 1 [.int .u64 ((c + y) % 65536)] rfl rfl ?c1 ?c2 ?c3 ?c4 ?c5 ?_) | go_in)
        case c1 =>
          intro j u hj
          match j, hj with
          | 0, hj => simp at hj; subst hj; simp [Addr.add]
        case c2 => intro u hu; simp at hu; subst hu; rfl
        case c3 => unfold maxLen; omega
        case c4 => omega
        case c5 => simp; omega
        · intro v' w1 hown' hgrow _
          have hb1 := below_grown hown hnx hgrow
          rw [← hll] at hown'
          have hrow := RowB.snoc hown'
          clear hown' hgrow hown hnx hll hcy
          go_wp2
          go_roundw
          case rel => exact ⟨k + 1, _, _, rfl, by go_num, .inl (by omega), uq HS, hrow, hb1⟩
          case measure => simp [intOf]; omega
      · have h00 : (0 : Int) = A.getD k 0 := by rw [List.getD_eq_getElem?_getD, List.getElem?_eq_none (by omega)]; rfl
        have h01 : (0 : Int) = B.getD k 0 := by rw [List.getD_eq_getElem?_getD, List.getElem?_eq_none (by omega)]; rfl
        have HX := hide h00
        have HY := hide h01
        clear hx hy h00 h01 dx0 dx1 dy0 dy1
        by_cases hc : c = 0
        · subst hc
          have he := plus_end hinv (by omega) (by omega)
          have HE := hide he
          have hd := hinv.2.1
          clear he
          go_wp2
          go_ret
          exact ⟨u5, l, rfl, hown, hd, ⟨by omega, by omega, uq HE⟩, hnx⟩
        · have hc1' : c = 1 := by omega
          subst hc1'
          have hstep := plus_step (s := 1) hinv hA hB (uq HX) (uq HY) (by omega)
          have HS : Hid (PlusInv A B (l ++ [1]) (k + 1) 0) := hide hstep
          clear hstep
          go_wp2_with (first | (at_builtin; refine wpList_append_own _ rfl _ _ 79 rfl w.heap.size 82 i0 (.int .u64 0) 1 8 Try.underlying79 hi hz0 hz1 hz2 rfl (by decide) _ _ _ rfl (World.ownsRow.alloc hown _) ⟨wr.heap.size, 0, none⟩ 1 1 [.int .u64 (1)] rfl rfl ?c1 ?c2 ?c3 ?c4 ?c5 ?_) | go_in)
          case c1 =>
            intro j u hj
            match j, hj with
            | 0, hj => simp at hj; subst hj; simp [Addr.add]
          case c2 => intro u hu; simp at hu; subst hu; rfl
          case c3 => unfold maxLen; omega
          case c4 => omega
          case c5 => simp; omega
          · intro v' w1 hown' hgrow _
            have hb1 := below_grown hown hnx hgrow
            rw [← hll] at hown'
            have hrow := RowB.snoc hown'
            clear hown' hgrow hown hnx hll
            go_wp2
            go_roundw
            case rel => exact ⟨k + 1, l ++ [1], 0, rfl, by go_num, by omega, uq HS, hrow, hb1⟩
            case measure => simp [intOf]; omega
theorem rplus_any (va vb : Value) (A B : List Int) (Ba Bb m : Nat) (w : World) (ra : RowB Ba w va A) (rb : RowB Bb w vb B) (hA : Dig A) (hB : Dig B) (hb0 : 0 < B.length) (ha : A.length ≤ m) (hb : B.length ≤ m) (hm : m ≤ 1000) :
    Calls Try.prog 38 #[va, vb] w fun e w' => GivesRow w w' e fun l => B.length ≤ l.length ∧ l.length ≤ m + 1 ∧ val l = val A + val B := by
  rcases rb.shape with ⟨_, e⟩ | ⟨gb, capb, rfl, hgb, _, hcb⟩
  · rw [e] at hb0; simp at hb0
  · have key : ∀ m', A.length ≤ m' → B.length ≤ m' → (A.length = m' ∨ B.length = m') → m' ≤ m → Calls Try.prog 38 #[va, .slice (some ⟨gb, 0, none⟩) B.length capb] w fun e w' => GivesRow w w' e fun l => B.length ≤ l.length ∧ l.length ≤ m + 1 ∧ val l = val A + val B := by
      intro m' g1 g2 g3 g4
      rcases ra.shape with ⟨rfl, e⟩ | ⟨ga, capa, rfl, hga, _, hca⟩
      · refine (plus_nil A B m' w (hide e) hA hB g1 g2 g3 (by omega) gb capb hgb hcb).mono ?_
        rintro e w' ⟨v, l, h1, h2, h3, ⟨h0, h4, h5⟩, h6⟩
        exact ⟨v, l, h1, h2, h3, ⟨h0, by omega, h5⟩, h6⟩
      · refine (plus_some A B m' w hA hB g1 g2 g3 (by omega) ga capa hga hca gb capb hgb hcb).mono ?_
        rintro e w' ⟨v, l, h1, h2, h3, ⟨h0, h4, h5⟩, h6⟩
        exact ⟨v, l, h1, h2, h3, ⟨h0, by omega, h5⟩, h6⟩
    by_cases h : A.length ≤ B.length
    · exact key B.length h (by omega) (.inr rfl) hb
    · exact key A.length (by omega) (by omega) (.inl rfl) ha
end Go.Proofs.Ytdgmndjofbdgeaa
