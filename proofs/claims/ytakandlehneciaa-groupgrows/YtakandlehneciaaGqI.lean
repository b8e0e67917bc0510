/- Package group: is a time nought; how long a layout in a box is. -/
import Derived.Test.YtakandlehneciaaGqF
namespace Go.Proofs.Ytakandlehneciaa
open Go.RowKit
attribute [local go_sem ↓] Go.wp_at_zero Go.wp_at_succ
set_option linter.unusedVariables false
set_option linter.unusedSimpArgs false
set_option maxRecDepth 10000
namespace Gp
open Pa
/-- how long it is -/
def xb : Option Bt → Int
  | none => 0
  | some b => b.2
theorem bxf_x {RR : List (List Int)} {B : Option Bt} {w wc : World} {fb : Nat} (h : Bxf RR B w wc fb) : wc.cell? ⟨fb, 0, none⟩ = some (.int .i64 (xb B)) := by
  obtain ⟨x, ao, lo, co, as9, ls, cs, h1, h2, -, -⟩ := h
  have hx := (fit_sz h1).1
  cases B with
  | none =>
    have e : Value.agg #[.int .i64 x, .slice ao lo co, .slice as9 ls cs] = .agg #[.int .i64 0, .slice none 0 0, .slice none 0 0] := h2
    simp at e
    rw [hx, e.1]; rfl
  | some b =>
    obtain ⟨vo, st, e, -, -⟩ := h2
    simp at e
    rw [hx, e.1]; rfl
def NwQ (P : Prop) (w : World) (e : Ending) (w' : World) : Prop := ∃ B, e = .returned (.bool B) ∧ Keep w w' ∧ (B = false → P)
set_option maxHeartbeats 4000000 in
theorem nought_any (vr vf va : Value) (RR : List (List Int)) (FR : List Bool) (AP : List P2) (w : World) (hJ : Jb w (.agg #[vr, vf, va]) RR FR AP) (h5 : RR.length ≤ 5) (h3 : ∀ j, j < RR.length → (RR.getD j []).length ≤ 3) : Calls Try.prog 18 #[.agg #[vr, vf, va]] w (NwQ (∀ i, i < RR.length → ∀ j, j < (RR.getD i []).length → (RR.getD i []).getD j 0 ≠ 0) w) := by
  obtain ⟨hR, hF, hA⟩ := hJ.at
  have J0 : Jc w.heap.size vr vf va (w.alloc (.cells #[vr, vf, va] 26)) := ⟨box_c w [vr, vf, va] _ 0 _ rfl, box_c w [vr, vf, va] _ 1 _ rfl, box_c w [vr, vf, va] _ 2 _ rfl⟩
  have K0 := (Keep.refl w).alloc (.cells #[vr, vf, va] 26)
  have CK := hide (fun (w' : World) (hk : Keep (w.alloc (.cells #[vr, vf, va] 26)) w') => J0.keep hk)
  have EK := hide (fun (w' : World) (hk : Keep (w.alloc (.cells #[vr, vf, va] 26)) w') => K0.trans hk)
  obtain ⟨ar, cr, rfl, -, hR⟩ := hR
  obtain ⟨af, cf, rfl, -⟩ := hF
  obtain ⟨aa, ca, rfl, -, -⟩ := hA
  have HR := hide hR
  have H3 := hide h3
  have HP : Hid (∀ B w', Keep w w' → (B = false → ∀ i, i < RR.length → ∀ j, j < (RR.getD i []).length → (RR.getD i []).getD j 0 ≠ 0) → NwQ (∀ i, i < RR.length → ∀ j, j < (RR.getD i []).length → (RR.getD i []).getD j 0 ≠ 0) w (.returned (.bool B)) w') := hide (fun B w' h1 h2 => ⟨B, rfl, h1, h2⟩)
  generalize NwQ (∀ i, i < RR.length → ∀ j, j < (RR.getD i []).length → (RR.getD i []).getD j 0 ≠ 0) w = QQ at *
  obtain ⟨c0, c1, c2⟩ := unhide CK _ (Keep.refl _)
  clear J0 K0 hR hJ h3
  generalize RR.length = m at *
  generalize FR.length = fl at *
  generalize AP.length = al at *
  have KW1 : Hid (Keep (w.alloc (.cells #[.slice ar m cr, .slice af fl cf, .slice aa al ca] 26)) (w.alloc (.cells #[.slice ar m cr, .slice af fl cf, .slice aa al ca] 26))) := hide (Keep.refl _)
  go_enter Try.func18, Try.ntmps18
  go_wp2_with fail
  generalize w.alloc (.cells #[.slice ar m cr, .slice af fl cf, .slice aa al ca] 26) = w1 at CK EK KW1 c0 c1 c2 ⊢
  generalize w.heap.size = b at CK c0 c1 c2 ⊢
  go_loopw [3] (fun vi wr => ∃ i : Nat, i ≤ m ∧ vi = .int .i64 (i : Int) ∧ Hid (Keep w1 wr) ∧ Hid (∀ i', i' < i → ∀ j, j < (RR.getD i' []).length → (RR.getD i' []).getD j 0 ≠ 0)) (fun vi _ => m - (intOf vi).toNat)
  case atStart => exact ⟨0, Nat.zero_le _, rfl, KW1, hide (fun j h => absurd h (Nat.not_lt_zero _))⟩
  case round =>
    clear KW1 c0 c1 c2
    obtain ⟨i, hi, rfl, KW, NR⟩ := hrel
    obtain ⟨c0, c1, c2⟩ := unhide CK _ (unhide KW)
    by_cases hlt : i < m
    · have li : (i : Int) < (m : Int) := by omega
      obtain ⟨ad, u, rfl, y00, hu⟩ := (unhide HR) i hlt
      obtain ⟨ua, uc, rfl, hu⟩ := hu
      have HU := hide hu
      have Y00 := hide y00
      have HM : Hid ((∀ j, j < (RR.getD i []).length → (RR.getD i []).getD j 0 ≠ 0) → ∀ i', i' < i + 1 → ∀ j, j < (RR.getD i' []).length → (RR.getD i' []).getD j 0 ≠ 0) := hide (fun h => hi_more (P := fun i' => ∀ j, j < (RR.getD i' []).length → (RR.getD i' []).getD j 0 ≠ 0) (unhide NR) h)
      have h3 := unhide H3 i hlt
      clear hu y00 NR
      generalize RR.getD i [] = L at *
      generalize hn : L.length = n at *
      clear hn
      have y0 := kc ((unhide EK) _ (unhide KW)) (unhide Y00)
      go_wp2_with fail
      go_loopw [4] (fun vk wr => ∃ k : Nat, k ≤ n ∧ vk = .int .i64 (k : Int) ∧ Hid (Keep w1 wr) ∧ Hid (∀ j, j < k → L.getD j 0 ≠ 0)) (fun vk _ => n - (intOf vk).toNat)
      case atStart => exact ⟨0, Nat.zero_le _, rfl, KW, hide (fun j h => absurd h (Nat.not_lt_zero _))⟩
      case round =>
        clear c0 c1 c2 y0 KW
        obtain ⟨k, hk, rfl, KW, NT⟩ := hrel
        obtain ⟨c0, -, -⟩ := unhide CK _ (unhide KW)
        have y0 := kc ((unhide EK) _ (unhide KW)) (unhide Y00)
        by_cases hlk : k < n
        · have lk : (k : Int) < (n : Int) := by omega
          obtain ⟨ad3, rfl, x0⟩ := (unhide HU) k hlk
          have x0 := kc ((unhide EK) _ (unhide KW)) x0
          have HNT := hide (fun h => hi_more (P := fun j => L.getD j 0 ≠ 0) (unhide NT) (k := k) h)
          generalize L.getD k 0 = t at *
          by_cases ht : t = 0
          · have e1 : (t == 0) = true := by simp [ht]
            clear HNT
            go_wp2_with fail
            try go_ret
            exact (unhide HP) _ _ (unhide EK _ (unhide KW)) (fun h => by cases h)
          · have e1 : (t == 0) = false := by simp [ht]
            have HN2 := hide (unhide HNT ht)
            clear HNT ht
            go_wp2_with fail
            go_roundw
            case rel => exact ⟨k + 1, hlk, by go_num, KW, HN2⟩
            case measure => simp [intOf]; omega
        · have lk : ¬ (k : Int) < (n : Int) := by omega
          obtain rfl : k = n := by omega
          have HN := hide (unhide HM (unhide NT))
          go_wp2_with fail
          go_roundw
          case rel => exact ⟨i + 1, hlt, by go_num, KW, HN⟩
          case measure => simp [intOf]; omega
    · have li : ¬ (i : Int) < (m : Int) := by omega
      obtain rfl : i = m := by omega
      go_wp2_with fail
      try go_ret
      exact (unhide HP) _ _ (unhide EK _ (unhide KW)) (fun _ => unhide NR)
end Gp
end Go.Proofs.Ytakandlehneciaa
