/- Arguments opened: a struct of numbers and texts, structs of such within it. -/
import Derived.Test.YtnegcifbbbmlnaaDoorDMath
import Derived.WalkKit
import Derived.ProofKit
import Derived.OpenShut
import Derived.ShutString
import Derived.ChangeOld
import Derived.Below
import Derived.Lib.SmallJoins
import Derived.JoinedOf
import Derived.Stop.Joined
namespace Go.Proofs.YtnegcifbbbmlnaaDoor
open Go.ChangeShapes Go.WideShapes Go.ChangeAt Go.RowKit Go.Joins
open Go.WideMaps Go.WideElems
set_option linter.unusedVariables false
set_option linter.unusedSimpArgs false
set_option maxRecDepth 10000
namespace W
/-- what the cells of a type are -/
inductive Tf where
  | i | s
def descG (go : TypeId → Option (List Tf)) (P : Program) : List Field → Nat → Option (List Tf)
  | [], _ => some []
  | f :: fs, o => if f.offset = o then (match go f.type with
    | some a => if P.cellsOf f.type = a.length then (match descG go P fs (o + a.length) with
      | some r => some (a ++ r)
      | none => none) else none
    | none => none) else none
def desG (P : Program) : Nat → TypeId → Option (List Tf)
  | 0, _ => none
  | n + 1, t => match P.underlying t with
    | some (.int .i64) => some [.i]
    | some .string => some [.s]
    | some (.struct fs) => match descG (desG P n) P fs.toList 0 with
      | some l => if P.cellsOf t = l.length then some l else none
      | none => none
    | _ => none
/-- cells of these kinds -/
def Fl : List Tf → List Value → Prop
  | [], us => us = []
  | .i :: ts, us => ∃ n r, us = .int .i64 n :: r ∧ i64 n ∧ Fl ts r
  | .s :: ts, us => ∃ S r, us = .string S :: r ∧ Fl ts r
theorem fl_append : ∀ (a b : List Tf) (us vs : List Value), Fl a us → Fl b vs → Fl (a ++ b) (us ++ vs)
  | [], b, us, vs, h, k => by simp only [Fl] at h; subst h; exact k
  | .i :: a, b, us, vs, h, k => by
    simp only [Fl, List.cons_append] at h ⊢
    obtain ⟨n, r, rfl, h1, h2⟩ := h
    exact ⟨n, r ++ vs, rfl, h1, fl_append a b r vs h2 k⟩
  | .s :: a, b, us, vs, h, k => by
    simp only [Fl, List.cons_append] at h ⊢
    obtain ⟨n, r, rfl, h2⟩ := h
    exact ⟨n, r ++ vs, rfl, fl_append a b r vs h2 k⟩
section
variable {H : Type} {enc : TypeId × Value → H} {P : Program} {w : World} {base : Nat} {spare : Nat → Bool} {held : Bool}
theorem open_fieldG {n m : Nat} (ih : ∀ (t : TypeId) (fs : List Tf) (fuel : Nat) (cs : List Value) (x : DataW H × List MemPlace), desG P n t = some fs → DataW.trod enc P w base spare held fuel t cs = some x → Fl fs cs) (cs : List Value) :
    ∀ (l : List Field) (o : Nat) (r : List Tf), descG (desG P n) P l o = some r → (∀ f ∈ l, ∃ x, DataW.trod enc P w base spare held m f.type ((cs.drop f.offset).take (P.cellsOf f.type)) = some x) → Fl r ((cs.drop o).take r.length)
  | [], o, r, h, _ => by
    simp only [descG, Option.some.injEq] at h
    subst h
    simp [Fl]
  | f :: l, o, r, h, hf => by
    simp only [descG] at h
    split at h
    · rename_i ho
      cases hd : desG P n f.type with
      | none => rw [hd] at h; cases h
      | some a =>
        rw [hd] at h
        simp only at h
        split at h
        · rename_i hc
          cases hr : descG (desG P n) P l (o + a.length) with
          | none => rw [hr] at h; cases h
          | some r' =>
            rw [hr] at h
            simp only [Option.some.injEq] at h
            subst h
            obtain ⟨x, hx⟩ := hf f List.mem_cons_self
            rw [ho, hc] at hx
            have h1 := ih f.type a m _ x hd hx
            have h3 := open_fieldG ih cs l (o + a.length) r' hr (fun g hg => hf g (List.mem_cons_of_mem _ hg))
            rw [List.length_append, List.take_add, List.drop_drop]
            exact fl_append _ _ _ _ h1 h3
        · cases h
    · cases h
theorem open_desG : ∀ (n : Nat) (t : TypeId) (fs : List Tf) (fuel : Nat) (cs : List Value) (x : DataW H × List MemPlace), desG P n t = some fs → DataW.trod enc P w base spare held fuel t cs = some x → Fl fs cs
  | 0, t, fs, fuel, cs, x, h, _ => by simp [desG] at h
  | n + 1, t, fs, fuel, cs, x, h, hx => by
    simp only [desG] at h
    split at h
    · rename_i hu
      obtain ⟨a, rfl, _, hw⟩ := DataW.trod_int hu hx
      simp only [Option.some.injEq] at h
      subst h
      simp only [Fl]
      exact ⟨a, [], rfl, bounds_i64 hw, rfl⟩
    · rename_i hu
      obtain ⟨s, rfl, _, hw⟩ := DataW.trod_string hu hx
      simp only [Option.some.injEq] at h
      subst h
      simp only [Fl]
      exact ⟨s, [], rfl, rfl⟩
    · rename_i ff hu
      cases hd : descG (desG P n) P ff.toList 0 with
      | none => rw [hd] at h; cases h
      | some l =>
        rw [hd] at h
        simp only at h
        split at h
        · rename_i hc
          simp only [Option.some.injEq] at h
          subst h
          obtain ⟨xs, m, _, _, hl, hxl, hf⟩ := DataW.trod_struct hu hx
          have h2 := open_fieldG (n := n) (m := m) (fun t fs fuel cs x => open_desG n t fs fuel cs x) cs ff.toList 0 l hd (fun f hf2 => by
            obtain ⟨i, hi, e1⟩ := List.getElem_of_mem hf2
            have hi2 : i < ff.size := by simpa using hi
            have := hf i f (by rw [Array.getElem?_eq_getElem hi2]; simpa using e1)
            rw [List.getElem?_eq_getElem (by omega)] at this
            exact ⟨_, this⟩)
          rw [List.drop_zero, List.take_of_length_le (by omega)] at h2
          exact h2
        · cases h
    · cases h
/-- a struct, opened -/
theorem open_flat {r : Reach} {b0 : Nat} {t : TypeId} {ff : Array Field} {v : Value} {d : DataW H} {p : List MemPlace} {n : Nat} {fs : List Tf} (ht : P.underlying t = some (.struct ff)) (hd : desG P n t = some fs)
    (hv : Value.okWide P w r b0 t v) (h : DataW.Trod enc P w base spare held t v d p) : ∃ us, v = .agg us.toArray ∧ Fl fs us := by
  obtain ⟨cs, rfl, hsz⟩ := okWide_struct ht hv
  obtain ⟨fuel, hf⟩ := h
  have h2 := open_desG n t fs fuel _ _ hd hf
  exact ⟨cs.toList, by simp, by simpa [Value.cells] using h2⟩
end
/-- a head; a fraction -/
def headG : List Tf := [.s, .i, .i, .i, .i, .i, .i, .i, .i, .i, .i]
def fracG : List Tf := [.i, .i]
theorem head_desG : desG Tryd.prog 12 25 = some headG := by kernel_rfl
theorem frac_desG : desG Tryd.prog 12 23 = some fracG := by kernel_rfl
theorem head_of {us : List Value} (h : Fl headG us) : ∃ S0 v s un ud n5 n6 n7 n8 n9 n10, us = [.string S0, .int .i64 v, .int .i64 s, .int .i64 un, .int .i64 ud, .int .i64 n5, .int .i64 n6, .int .i64 n7, .int .i64 n8, .int .i64 n9, .int .i64 n10] ∧ i64 v ∧ i64 s ∧ i64 un ∧ i64 ud := by
  simp only [headG, Fl] at h
  obtain ⟨S0, _, rfl, v, _, rfl, h1, s, _, rfl, h2, un, _, rfl, h3, ud, _, rfl, h4, n5, _, rfl, h5, n6, _, rfl, h6, n7, _, rfl, h7, n8, _, rfl, h8, n9, _, rfl, h9, n10, _, rfl, h10, rfl⟩ := h
  exact ⟨S0, v, s, un, ud, n5, n6, n7, n8, n9, n10, rfl, h1, h2, h3, h4⟩
theorem frac_of {us : List Value} (h : Fl fracG us) : ∃ n d, us = [.int .i64 n, .int .i64 d] ∧ i64 n ∧ i64 d := by
  simp only [fracG, Fl] at h
  obtain ⟨n, _, rfl, h1, d, _, rfl, h2, rfl⟩ := h
  exact ⟨n, d, rfl, h1, h2⟩
end W
end Go.Proofs.YtnegcifbbbmlnaaDoor
