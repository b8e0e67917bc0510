/- The document's Sum, over letters. -/
import Derived.Deep.DrawnRows
import Derived.Deep.RegionHeld3
import Derived.Laws.AppendOwn
import Derived.Laws.OwnMore
import Derived.Laws.MakeOwn
import Derived.OwnWalk
import Derived.Test.YtdgmndjofbdgeaaCrF
import Derived.Test.YtdgmndjofbdgeaaLMath
import Derived.Test.YtdgmndjofbdgeaaCrD
import Derived.Test.YtdgmndjofbdgeaaCrQ
namespace Go.Proofs.Ytdgmndjofbdgeaa
open Go.RowKit
attribute [local go_sem ↓] Go.wp_at_zero Go.wp_at_succ
set_option linter.unusedVariables false
set_option linter.unusedSimpArgs false
set_option maxRecDepth 10000
namespace Cr
/-- a call that compares two fractions -/
def CmpC (F : Nat) : Prop := ∀ (f t : Int × Int) (w : World), In f.1 → In f.2 → In t.1 → In t.2 → Calls Try.prog F #[.agg #[.int .i64 f.1, .int .i64 f.2], .agg #[.int .i64 t.1, .int .i64 t.2]] w fun e w' => e = .returned (.int .i64 (gtF f t)) ∧ Keep w w'
/-- what is best behind j rings -/
def Bst (L : List (Int × Int)) (j : Nat) (g : Int) (f : Int × Int) : Prop := (j = 0 ∧ g = -1 ∧ f = (0, 0)) ∨ (0 < j ∧ g = ((gst L j : Nat) : Int) ∧ f = L.getD (gst L j) (0, 0))
theorem gst_one (L : List (Int × Int)) : gst L 1 = 0 := by
  rw [gst]
  split <;> rfl
theorem Bst.first {L : List (Int × Int)} : Bst L 1 ((0 : Nat) : Int) (L.getD 0 (0, 0)) := .inr ⟨by omega, by rw [gst_one], by rw [gst_one]⟩
theorem Bst.more {L : List (Int × Int)} {j : Nat} {g : Int} {f : Int × Int} (h : Bst L j g f) (hj : 0 < j) (hg : 0 < gtF (L.getD j (0, 0)) f) : Bst L (j + 1) ((j : Nat) : Int) (L.getD j (0, 0)) := by
  rcases h with ⟨h, _⟩ | ⟨_, rfl, rfl⟩
  · omega
  · refine .inr ⟨by omega, ?_, ?_⟩ <;> rw [gst, if_pos hg]
theorem Bst.less {L : List (Int × Int)} {j : Nat} {g : Int} {f : Int × Int} (h : Bst L j g f) (hj : 0 < j) (hg : ¬ 0 < gtF (L.getD j (0, 0)) f) : Bst L (j + 1) g f := by
  rcases h with ⟨h, _⟩ | ⟨_, rfl, rfl⟩
  · omega
  · refine .inr ⟨by omega, ?_, ?_⟩ <;> rw [gst, if_neg hg]
theorem Bst.in {L : List (Int × Int)} {j : Nat} {g : Int} {f : Int × Int} (h : Bst L j g f) (hL : ∀ x ∈ L, In x.1 ∧ In x.2) : In f.1 ∧ In f.2 := by
  have z : In (0 : Int) := by unfold In; omega
  rcases h with ⟨_, _, rfl⟩ | ⟨_, _, rfl⟩
  · exact ⟨z, z⟩
  · rw [List.getD_eq_getElem?_getD]
    cases h9 : L[gst L j]? with
    | none => exact ⟨z, z⟩
    | some y => exact hL y (List.mem_of_getElem? h9)
end Cr
end Go.Proofs.Ytdgmndjofbdgeaa

namespace Go.Proofs.Ytdgmndjofbdgeaa
open Go.RowKit
attribute [local go_sem ↓] Go.wp_at_zero Go.wp_at_succ
set_option linter.unusedVariables false
set_option linter.unusedSimpArgs false
set_option maxRecDepth 10000
namespace Cr
theorem cmpC : CmpC 16 := fun f t w h1 h2 h3 h4 => rfcmp_any f.1 f.2 t.1 t.2 w h1.1 h1.2 h2.1 h2.2 h3.1 h3.2 h4.1 h4.2
/-- the answer, told once -/
theorem sq_det (Q : Nat → Nat → List (Int × Int)) (NG : Nat → Nat) (n3 n4 nr : Nat) : ∃ (X Y z : Int) (I : List Int), (I.length = n4 ∨ I = []) ∧ (z = 0 → okS n3 n4 nr NG ∧ zS Q NG n4 = 0 ∧ (X, Y) = sS (tb (sU Q NG) n4) ∧ I = tb (fun k => ((gR Q NG k : Nat) : Int)) n4) ∧ (¬ z = 0 → ¬ (okS n3 n4 nr NG ∧ zS Q NG n4 = 0)) ∧ (In X ∧ In Y) ∧ ∀ (w' : World) e w'', Sq Q NG n3 n4 nr w' e w'' → ∃ va vc, e = .returned (.tuple #[.agg #[.int .i64 X, .int .i64 Y, .slice va I.length vc], .int .i64 z]) ∧ Keep w' w'' ∧ Is w'' (.slice va I.length vc) I := by
  by_cases hz : okS n3 n4 nr NG ∧ zS Q NG n4 = 0
  · refine ⟨(sS (tb (sU Q NG) n4)).1, (sS (tb (sU Q NG) n4)).2, 0, tb (fun k => ((gR Q NG k : Nat) : Int)) n4, .inl (tb_len _ _), fun _ => ⟨hz.1, hz.2, rfl, rfl⟩, fun h => absurd rfl h, sS_in _, ?_⟩
    rintro w' e w'' ⟨X, Y, v, z, rfl, hk, e1, e2, e3⟩
    obtain rfl : z = 0 := by
      rcases e1 with ⟨e1, _⟩ | ⟨_, e1⟩
      · exact absurd hz.1 e1
      · rw [e1, hz.2]
    obtain ⟨_, e4, e5⟩ := e3 rfl
    have e6 := is_own (L := tb (fun k => ((gR Q NG k : Nat) : Int)) n4) (by rw [tb_len]; exact e5)
    obtain ⟨va, vc, rfl, hc⟩ := e6
    rw [← e4]
    exact ⟨va, vc, rfl, hk, va, vc, rfl, hc⟩
  · obtain ⟨z, hz0, hzz⟩ : ∃ z : Int, ¬ z = 0 ∧ ((¬ okS n3 n4 nr NG ∧ z = 1) ∨ (okS n3 n4 nr NG ∧ z = zS Q NG n4)) := by
      by_cases ho : okS n3 n4 nr NG
      · exact ⟨_, fun h0 => hz ⟨ho, h0⟩, .inr ⟨ho, rfl⟩⟩
      · exact ⟨1, by omega, .inl ⟨ho, rfl⟩⟩
    refine ⟨0, 0, z, [], .inr rfl, fun h => absurd h hz0, fun _ => hz, ⟨by unfold In; omega, by unfold In; omega⟩, ?_⟩
    rintro w' e w'' ⟨X, Y, v, z2, rfl, hk, e1, e2, e3⟩
    obtain rfl : z2 = z := by
      rcases e1 with ⟨e1, rfl⟩ | ⟨e1, rfl⟩ <;> rcases hzz with ⟨f1, rfl⟩ | ⟨f1, rfl⟩
      · rfl
      · exact absurd f1 e1
      · exact absurd e1 f1
      · rfl
    obtain ⟨rfl, rfl, rfl⟩ := e2 hz0
    exact ⟨none, 0, rfl, hk, none, 0, rfl, fun k hk => by simp at hk⟩
end Cr
end Go.Proofs.Ytdgmndjofbdgeaa
