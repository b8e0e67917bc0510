/- Texts and bytes: one made of the other. -/
import Derived.Test.YtdnlghenlmjodaaDoorLToks
import Derived.Test.YtdnlghenlmjodaaDoorLRd
import Derived.Deep.RegionHeld
namespace Go.Proofs.YtdnlghenlmjodaaDoor
open Go.RowKit
set_option linter.unusedVariables false
set_option linter.unusedSimpArgs false
set_option maxRecDepth 10000
/-- bytes of a text -/
theorem str_by (w : World) (s : ByteArray) : ∃ cap o k, (∀ src dst, Tryd.prog.underlying src = some .string → Tryd.prog.underlying dst = some (.slice 5) → (convert src dst (.string s)).run Tryd.prog w = .ok (.slice (some ⟨w.heap.size, 0, none⟩) s.size cap) (ext w #[o] k)) ∧ By (ext w #[o] k) (.slice (some ⟨w.heap.size, 0, none⟩) s.size cap) s.data.toList := by
  refine ⟨grownCap w s.size 0 5, .cells (bytesRow s (grownCap w s.size 0 5)) 5 ((bytesRow s (grownCap w s.size 0 5)).size, (bytesRow s (grownCap w s.size 0 5)).size + 1), w.drew.drawn, fun src dst hs hd => ?_, ?_⟩
  · rw [run_bytes_of_string (P := Tryd.prog) w src dst 5 s hs hd Tryd.underlying5]
    congr 1
  · refine ⟨_, _, rfl, grownCap_ge _ _ _ _, fun k hk => ⟨_, rfl, by simp, ?_⟩⟩
    rw [add_plain, Nat.zero_add]
    have hk' : k < s.data.size := by simpa using hk
    have h1 : (ext w #[Obj.cells (bytesRow s (grownCap w s.size 0 5)) 5 ((bytesRow s (grownCap w s.size 0 5)).size, (bytesRow s (grownCap w s.size 0 5)).size + 1)] w.drew.drawn).cell? ⟨w.heap.size, k, none⟩ = (bytesRow s (grownCap w s.size 0 5))[k]? := by
      unfold World.cell? ext
      simp
    rw [h1, bytesRow_at s _ k hk']
    congr 3
    rw [List.getD_eq_getElem?_getD, List.getElem?_eq_getElem (by simpa using hk')]
    simp
/-- the text of bytes -/
theorem by_str {w : World} {v : Value} {l : List UInt8} (h : By w v l) {t u : TypeId} (hs : Tryd.prog.underlying t = some (.slice 5)) (hu : Tryd.prog.underlying u = some .string) : (convert t u v).run Tryd.prog w = .ok (.string (sv l)) w := by
  obtain ⟨a, cap, rfl, _, h⟩ := h
  cases a with
  | none =>
    have : l = [] := by
      cases l with
      | nil => rfl
      | cons c r => obtain ⟨ad, e, _⟩ := h 0 (by simp); cases e
    subst this
    exact run_convert_bytes_nil w t 5 hs Tryd.underlying5 _ _ u hu
  | some ad =>
    refine run_convert_bytes_back (P := Tryd.prog) w t u 5 ad cap l hs Tryd.underlying5 hu (fun j hj => ?_)
    obtain ⟨ad', e, _, hc⟩ := h j hj
    injection e with e
    subst e
    rw [hc, List.getD_eq_getElem?_getD, List.getElem?_eq_getElem hj]
    rfl
theorem sv_cat (a b : List UInt8) : sv a ++ sv b = sv (a ++ b) := by
  apply ByteArray.ext
  simp [sv]
theorem sv_back (l : List UInt8) : (sv l).data.toList = l := by simp [sv]
end Go.Proofs.YtdnlghenlmjodaaDoor
