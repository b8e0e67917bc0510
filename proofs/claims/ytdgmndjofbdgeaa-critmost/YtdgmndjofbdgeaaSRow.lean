/- Arguments opened: any struct of numbers, texts, truth values and slices of such structs, as a tree that is read. -/
import Derived.Test.YtdgmndjofbdgeaaLOpn
import Derived.Test.YtdgmndjofbdgeaaNVal
import Derived.Deep.RegionHeld
namespace Go.Proofs.Ytdgmndjofbdgeaa
open Go.ChangeShapes Go.WideShapes Go.ChangeAt Go.RowKit Go.Joins
open Go.WideMaps Go.WideElems
set_option linter.unusedVariables false
set_option linter.unusedSimpArgs false
set_option maxRecDepth 10000
/-- what the cells of a type are -/
inductive Ty where
  | i | s | b
  | row (e z : Nat) (fs : List Ty)
def descF (go : TypeId → Option (List Ty)) (P : Program) : List Field → Nat → Option (List Ty)
  | [], _ => some []
  | f :: fs, o => if f.offset = o then (match go f.type with
    | some a => if P.cellsOf f.type = a.length then (match descF go P fs (o + a.length) with
      | some r => some (a ++ r)
      | none => none) else none
    | none => none) else none
def desc (P : Program) : Nat → TypeId → Option (List Ty)
  | 0, _ => none
  | n + 1, t => match P.underlying t with
    | some .bool => some [.b]
    | some (.int .i64) => some [.i]
    | some .string => some [.s]
    | some (.slice e) => match desc P n e with
      | some fs => if P.cellsOf e = fs.length ∧ 0 < fs.length then some [.row e fs.length fs] else none
      | none => none
    | some (.struct fs) => match descF (desc P n) P fs.toList 0 with
      | some l => if P.cellsOf t = l.length then some l else none
      | none => none
    | _ => none
mutual
/-- a tree of these cells -/
def Sh1 : Ty → D → Prop
  | .i, d => ∃ n : Int, d = dI n ∧ -9223372036854775808 ≤ n ∧ n ≤ 9223372036854775807
  | .s, d => ∃ l : List UInt8, d = dS l ∧ l.length ≤ maxLen
  | .b, d => ∃ x, d = dB x
  | .row e z fs, d => ∃ L, d = .row e z L ∧ L.length ≤ maxLen ∧ ∀ ds ∈ L, ShL fs ds
def ShL : List Ty → List D → Prop
  | [], ds => ds = []
  | t :: ts, ds => ∃ d r, ds = d :: r ∧ Sh1 t d ∧ ShL ts r
end
theorem shl_append : ∀ (a b : List Ty) (ds es : List D), ShL a ds → ShL b es → ShL (a ++ b) (ds ++ es)
  | [], b, ds, es, h, k => by simp only [ShL] at h; subst h; exact k
  | t :: a, b, ds, es, h, k => by
    simp only [ShL, List.cons_append] at h ⊢
    obtain ⟨d, r, rfl, h1, h2⟩ := h
    exact ⟨d, r ++ es, rfl, h1, shl_append a b r es h2 k⟩
theorem rvs_append {w : World} : ∀ (ds es : List D) (us vs : List Value), Rvs w ds us → Rvs w es vs → Rvs w (ds ++ es) (us ++ vs)
  | [], es, us, vs, h, k => by simp only [Rvs] at h; subst h; exact k
  | d :: ds, es, us, vs, h, k => by
    simp only [Rvs, List.cons_append] at h ⊢
    obtain ⟨u, r, rfl, h1, h2⟩ := h
    exact ⟨u, r ++ vs, rfl, h1, rvs_append ds es r vs h2 k⟩
theorem rvss_of {w : World} {ad : Addr} {z : Nat} : ∀ (L : List (List D)) (k : Nat), (∀ i, i < L.length → ad.block < w.heap.size ∧ ∃ us, Rvs w (L.getD i []) us ∧ us.length = z ∧ ∀ j u, us[j]? = some u → w.cell? (ati (ad.add ((k + i) * z)) j) = some u) → Rvss w (some ad) z L k
  | [], k, h => trivial
  | ds :: L, k, h => by
    simp only [Rvss]
    obtain ⟨hb, us, h1, h2, h3⟩ := h 0 (by simp)
    refine ⟨⟨ad, us, rfl, hb, by simpa using h1, h2, by simpa using h3⟩, rvss_of L (k + 1) (fun i hi => ?_)⟩
    obtain ⟨hb, us, h1, h2, h3⟩ := h (i + 1) (by simpa using hi)
    refine ⟨hb, us, by simpa using h1, h2, fun j u hu => ?_⟩
    rw [show k + 1 + i = k + (i + 1) by omega]
    exact h3 j u hu
theorem add_ati (a : Addr) (j : Nat) : a.add j = ati a j := by
  unfold Addr.add ati
  split
  · rfl
  · rfl
section
variable {H : Type} {enc : TypeId × Value → H} {P : Program} {w : World} {base : Nat} {spare : Nat → Bool} {held : Bool}
theorem open_fields {n m : Nat} (ih : ∀ (t : TypeId) (fs : List Ty) (fuel : Nat) (cs : List Value) (x : DataW H × List MemPlace), desc P n t = some fs → DataW.trod enc P w base spare held fuel t cs = some x → ∃ ds, ShL fs ds ∧ Rvs w ds cs) (cs : List Value) :
    ∀ (l : List Field) (o : Nat) (r : List Ty), descF (desc P n) P l o = some r → (∀ f ∈ l, ∃ x, DataW.trod enc P w base spare held m f.type ((cs.drop f.offset).take (P.cellsOf f.type)) = some x) → ∃ ds, ShL r ds ∧ Rvs w ds ((cs.drop o).take r.length)
  | [], o, r, h, _ => by
    simp only [descF, Option.some.injEq] at h
    subst h
    exact ⟨[], by simp [ShL], by simp [Rvs]⟩
  | f :: l, o, r, h, hf => by
    simp only [descF] at h
    split at h
    · rename_i ho
      cases hd : desc P n f.type with
      | none => rw [hd] at h; cases h
      | some a =>
        rw [hd] at h
        simp only at h
        split at h
        · rename_i hc
          cases hr : descF (desc P n) P l (o + a.length) with
          | none => rw [hr] at h; cases h
          | some r' =>
            rw [hr] at h
            simp only [Option.some.injEq] at h
            subst h
            obtain ⟨x, hx⟩ := hf f List.mem_cons_self
            rw [ho, hc] at hx
            obtain ⟨ds, h1, h2⟩ := ih f.type a m _ x hd hx
            obtain ⟨es, h3, h4⟩ := open_fields ih cs l (o + a.length) r' hr (fun g hg => hf g (List.mem_cons_of_mem _ hg))
            refine ⟨ds ++ es, shl_append _ _ _ _ h1 h3, ?_⟩
            rw [List.length_append, List.take_add, List.drop_drop]
            exact rvs_append _ _ _ _ h2 h4
        · cases h
    · cases h
theorem open_desc : ∀ (n : Nat) (t : TypeId) (fs : List Ty) (fuel : Nat) (cs : List Value) (x : DataW H × List MemPlace), desc P n t = some fs → DataW.trod enc P w base spare held fuel t cs = some x → ∃ ds, ShL fs ds ∧ Rvs w ds cs
  | 0, t, fs, fuel, cs, x, h, _ => by simp [desc] at h
  | n + 1, t, fs, fuel, cs, x, h, hx => by
    simp only [desc] at h
    split at h
    · rename_i hu
      obtain ⟨b, rfl, _⟩ := DataW.trod_bool hu hx
      simp only [Option.some.injEq] at h
      subst h
      exact ⟨[dB b], by simp only [ShL, Sh1]; exact ⟨_, _, rfl, ⟨b, rfl⟩, rfl⟩, by simp only [Rvs, Rv, dB]; exact ⟨_, _, rfl, rfl, rfl⟩⟩
    · rename_i hu
      obtain ⟨a, rfl, _, hw⟩ := DataW.trod_int hu hx
      simp only [Option.some.injEq] at h
      subst h
      exact ⟨[dI a], by simp only [ShL, Sh1]; exact ⟨_, _, rfl, ⟨a, rfl, bounds_i64 hw⟩, rfl⟩, by simp only [Rvs, Rv, dI]; exact ⟨_, _, rfl, rfl, rfl⟩⟩
    · rename_i hu
      obtain ⟨s, rfl, _, hw⟩ := DataW.trod_string hu hx
      simp only [Option.some.injEq] at h
      subst h
      have e9 : s.data.toList.length = s.size := by rw [Array.length_toList]; rfl
      refine ⟨[dS s.data.toList], ?_, by simp only [Rvs, Rv, dS]; exact ⟨_, _, rfl, by rw [sv_of], rfl⟩⟩
      simp only [ShL, Sh1]
      exact ⟨_, _, rfl, ⟨s.data.toList, rfl, by rw [e9]; exact hw⟩, rfl⟩
    · rename_i e hu
      cases hd : desc P n e with
      | none => rw [hd] at h; cases h
      | some gs =>
        rw [hd] at h
        simp only at h
        split at h
        · rename_i hc
          simp only [Option.some.injEq] at h
          subst h
          rcases Go.Deep.open_slice hu hx with ⟨rfl, _⟩ | ⟨a, len, cap, m, k, DD, Pl, rfl, _, hl, hm, hmm, _, hall⟩
          · exact ⟨[.row e gs.length []], by simp only [ShL, Sh1]; exact ⟨_, _, rfl, ⟨[], rfl, Nat.zero_le _, fun _ hh => by cases hh⟩, rfl⟩, by simp only [Rvs, Rv]; exact ⟨_, _, rfl, ⟨none, 0, rfl, Nat.le_refl _, trivial⟩, rfl⟩⟩
          · have hml : len ≤ m := by rw [hmm]; split <;> omega
            have each : ∀ i, i < len → ∃ ds, ShL gs ds ∧ (0 < gs.length → a.block < w.heap.size) ∧ ∃ us, Rvs w ds us ∧ us.length = gs.length ∧ ∀ j u, us[j]? = some u → w.cell? (ati (a.add (i * gs.length)) j) = some u := by
              intro i hi
              obtain ⟨cs', hcs, htr⟩ := hall i (by omega)
              obtain ⟨ds, h1, h2⟩ := open_desc n e gs k cs' _ hd htr
              rw [hc.1] at hcs
              unfold World.cells? at hcs
              split at hcs
              · have hlen : cs'.length = gs.length := by simpa using mapM_some_length hcs
                have hcell : ∀ j u, cs'[j]? = some u → w.cell? (ati (a.add (i * gs.length)) j) = some u := fun j u hu2 => by
                  have hj : j < gs.length := by rw [← hlen]; exact (List.getElem?_eq_some_iff.1 hu2).1
                  obtain ⟨b, g1, g2⟩ := mapM_some_at hcs j j (by rw [List.getElem?_range hj])
                  rw [hu2] at g1
                  injection g1 with g1
                  subst g1
                  rw [← add_ati]
                  exact g2
                refine ⟨ds, h1, fun h0 => ?_, cs', h2, hlen, hcell⟩
                obtain ⟨u, hu2⟩ : ∃ u, cs'[0]? = some u := ⟨cs'[0]'(by omega), List.getElem?_eq_getElem _⟩
                have := World.block_lt_of_cell? w _ (hcell 0 u hu2)
                unfold ati at this
                rw [if_pos rfl, add_block] at this
                exact this
              · cases hcs
            obtain ⟨L, hL, hE⟩ := list_of ([] : List D) len each
            have h0 := hc.2
            · refine ⟨[.row e gs.length L], ?_, ?_⟩
              · simp only [ShL, Sh1]
                refine ⟨_, _, rfl, ⟨L, rfl, by omega, fun ds hd2 => ?_⟩, rfl⟩
                obtain ⟨i, hi, e1⟩ := List.getElem_of_mem hd2
                have := (hE i (by omega)).1
                rw [List.getD_eq_getElem?_getD, List.getElem?_eq_getElem hi, Option.getD_some, e1] at this
                exact this
              · simp only [Rvs, Rv]
                refine ⟨_, _, rfl, ⟨some a, cap, by rw [hL], by omega, rvss_of L 0 (fun i hi => ?_)⟩, rfl⟩
                obtain ⟨_, hb, us, g1, g2, g3⟩ := hE i (by omega)
                exact ⟨hb h0, us, g1, g2, by simpa using g3⟩
        · cases h
    · rename_i ff hu
      cases hd : descF (desc P n) P ff.toList 0 with
      | none => rw [hd] at h; cases h
      | some l =>
        rw [hd] at h
        simp only at h
        split at h
        · rename_i hc
          simp only [Option.some.injEq] at h
          subst h
          obtain ⟨xs, m, _, _, hl, hxl, hf⟩ := DataW.trod_struct hu hx
          obtain ⟨ds, h1, h2⟩ := open_fields (n := n) (m := m) (fun t fs fuel cs x => open_desc n t fs fuel cs x) cs ff.toList 0 l hd (fun f hf2 => by
            obtain ⟨i, hi, e1⟩ := List.getElem_of_mem hf2
            have hi2 : i < ff.size := by simpa using hi
            have := hf i f (by rw [Array.getElem?_eq_getElem hi2]; simpa using e1)
            rw [List.getElem?_eq_getElem (by omega)] at this
            exact ⟨_, this⟩)
          refine ⟨ds, h1, ?_⟩
          rw [List.drop_zero, List.take_of_length_le (by omega)] at h2
          exact h2
        · cases h
    · cases h
/-- a struct, opened -/
theorem open_struct {r : Reach} {b0 : Nat} {t : TypeId} {ff : Array Field} {v : Value} {d : DataW H} {p : List MemPlace} {n : Nat} {fs : List Ty} (ht : P.underlying t = some (.struct ff)) (hd : desc P n t = some fs)
    (hv : Value.okWide P w r b0 t v) (h : DataW.Trod enc P w base spare held t v d p) : ∃ ds us, v = .agg us.toArray ∧ ShL fs ds ∧ Rvs w ds us := by
  obtain ⟨cs, rfl, hsz⟩ := okWide_struct ht hv
  obtain ⟨fuel, hf⟩ := h
  obtain ⟨ds, h1, h2⟩ := open_desc n t fs fuel _ _ hd hf
  exact ⟨ds, cs.toList, by simp, h1, by simpa [Value.cells] using h2⟩
end
end Go.Proofs.Ytdgmndjofbdgeaa

namespace Go.Proofs.Ytdgmndjofbdgeaa
open Go.RowKit
attribute [local go_sem ↓] Go.wp_at_zero Go.wp_at_succ
set_option linter.unusedVariables false
set_option linter.unusedSimpArgs false
set_option maxRecDepth 10000
namespace S
def d0 : D := .val (.bool false)
def tS (d : D) : List UInt8 := (fS d).data.toList
def gt (ds : List D) (k : Nat) : D := ds.getD k d0
/-- the cells of each kind of thing -/
def nameT : List Ty := [.s]
def headT : List Ty := [.s, .i, .i, .i, .i, .i, .i, .i, .i, .i, .i]
def pedT : List Ty := [.s, .s, .i, .i, .i, .i]
def phaseT : List Ty := [.s, .row 9 1 nameT, .i]
def rowT : List Ty := [.b, .row 9 1 nameT]
def groupT : List Ty := [.row 70 2 rowT]
def foeT : List Ty := [.s, .s, .i]
def stopT : List Ty := [.s, .s, .s, .i, .i, .i]
def nodeT : List Ty := [.s, .row 100 11 headT, .row 102 6 pedT, .row 73 3 phaseT, .row 44 1 groupT, .row 104 3 foeT, .i]
def netT : List Ty := [.i, .i, .i, .i, .i, .row 28 7 nodeT, .row 91 6 stopT, .i, .i]
end S
end Go.Proofs.Ytdgmndjofbdgeaa

namespace Go.Proofs.Ytdgmndjofbdgeaa
open Go.RowKit
attribute [local go_sem ↓] Go.wp_at_zero Go.wp_at_succ
set_option linter.unusedVariables false
set_option linter.unusedSimpArgs false
set_option maxRecDepth 10000
namespace S
def adO (a : Option Addr) : Addr := a.getD ⟨0, 0, none⟩
end S
end Go.Proofs.Ytdgmndjofbdgeaa
