/- Arguments opened: any struct of numbers, truth values and slices of such, as a tree that is read; a job. -/
import Derived.Test.YtakandlehneciaaGpS
import Derived.WalkKit
import Derived.ProofKit
import Derived.OpenShut
import Derived.ShutString
import Derived.ChangeOld
import Derived.Below
import Derived.Lib.SmallJoins
import Derived.JoinedOf
import Derived.Stop.Joined
namespace Go.Proofs.Ytakandlehneciaa
open Go.ChangeShapes Go.WideShapes Go.ChangeAt Go.RowKit Go.Joins
open Go.WideMaps Go.WideElems
set_option linter.unusedVariables false
set_option linter.unusedSimpArgs false
set_option maxRecDepth 10000
namespace Gp
open Pa
inductive D where
  | val (v : Value)
  | row (e z : Nat) (L : List (List D))
def dI (n : Int) : D := .val (.int .i64 n)
def dB (b : Bool) : D := .val (.bool b)
theorem add_block (ad : Addr) (n : Nat) : (ad.add n).block = ad.block := by unfold Addr.add; split <;> rfl
theorem list_of {α : Type} {P : Nat → α → Prop} (z : α) : ∀ n, (∀ i, i < n → ∃ p, P i p) → ∃ L : List α, L.length = n ∧ ∀ i, i < n → P i (L.getD i z)
  | 0, _ => ⟨[], rfl, fun i h => by omega⟩
  | n + 1, h => by
    obtain ⟨L, h1, h2⟩ := list_of z n (fun i hi => h i (by omega))
    obtain ⟨p, hp⟩ := h n (by omega)
    refine ⟨L ++ [p], by simp [h1], fun i hi => ?_⟩
    by_cases hin : i < n
    · have := h2 i hin
      rw [List.getD_eq_getElem?_getD, List.getElem?_append_left (by omega), ← List.getD_eq_getElem?_getD]
      exact this
    · have : i = n := by omega
      subst this
      rw [List.getD_eq_getElem?_getD, List.getElem?_append_right (by omega), h1]
      simpa using hp
theorem mapM_some_at {α β : Type} {f : α → Option β} {l : List α} {r : List β} (h : l.mapM f = some r) (i : Nat) (a : α) (ha : l[i]? = some a) : ∃ b, r[i]? = some b ∧ f a = some b := Lib.mapM_at h i a ha
/-- the j-th cell behind an address -/
def ati (ad : Addr) (j : Nat) : Addr := if j = 0 then ad else ⟨ad.block, ad.off + j, none⟩
theorem ati_plain (b o j : Nat) : ati ⟨b, o, none⟩ j = ⟨b, o + j, none⟩ := by
  unfold ati
  split
  · rename_i h; subst h; rfl
  · rfl
mutual
/-- u reads as a tree -/
def Rv (w : World) : D → Value → Prop
  | .val v, u => u = v
  | .row e z L, u => ∃ a cap, u = .slice a L.length cap ∧ L.length ≤ cap ∧ Rvss w a z L 0
def Rvs (w : World) : List D → List Value → Prop
  | [], us => us = []
  | d :: ds, us => ∃ u vs, us = u :: vs ∧ Rv w d u ∧ Rvs w ds vs
def Rvss (w : World) (a : Option Addr) (z : Nat) : List (List D) → Nat → Prop
  | [], k => True
  | ds :: L, k => (∃ ad us, a = some ad ∧ ad.block < w.heap.size ∧ Rvs w ds us ∧ us.length = z ∧ ∀ j u, us[j]? = some u → w.cell? (ati (ad.add (k * z)) j) = some u) ∧ Rvss w a z L (k + 1)
end
theorem rvss_at {w : World} {a : Option Addr} {z : Nat} : ∀ (L : List (List D)) (k : Nat), Rvss w a z L k → ∀ i, i < L.length → ∃ ad us, a = some ad ∧ ad.block < w.heap.size ∧ Rvs w (L.getD i []) us ∧ us.length = z ∧ ∀ j u, us[j]? = some u → w.cell? (ati (ad.add ((k + i) * z)) j) = some u
  | [], k, h, i, hi => by simp at hi
  | ds :: L, k, h, i, hi => by
    simp only [Rvss] at h
    cases i with
    | zero => obtain ⟨⟨ad, us, h0, hb, h2, h3, h4⟩, _⟩ := h; exact ⟨ad, us, h0, hb, by simpa using h2, h3, by simpa using h4⟩
    | succ i =>
      obtain ⟨ad, us, h0, hb, h2, h3, h4⟩ := rvss_at L (k + 1) h.2 i (by simpa using hi)
      refine ⟨ad, us, h0, hb, by simpa using h2, h3, fun j u hu => ?_⟩
      rw [show k + (i + 1) = k + 1 + i by omega]
      exact h4 j u hu
/-- what the cells of a type are -/
inductive Ty where
  | i | b
  | row (e z : Nat) (fs : List Ty)
def descF (go : TypeId → Option (List Ty)) (P : Program) : List Field → Nat → Option (List Ty)
  | [], _ => some []
  | f :: fs, o => if f.offset = o then (match go f.type with
    | some a => if P.cellsOf f.type = a.length then (match descF go P fs (o + a.length) with
      | some r => some (a ++ r)
      | none => none) else none
    | none => none) else none
def desc (P : Program) : Nat → TypeId → Option (List Ty)
  | 0, _ => none
  | n + 1, t => match P.underlying t with
    | some .bool => some [.b]
    | some (.int .i64) => some [.i]
    | some (.slice e) => match desc P n e with
      | some fs => if P.cellsOf e = fs.length ∧ 0 < fs.length then some [.row e fs.length fs] else none
      | none => none
    | some (.struct fs) => match descF (desc P n) P fs.toList 0 with
      | some l => if P.cellsOf t = l.length then some l else none
      | none => none
    | _ => none
mutual
/-- a tree of these cells -/
def Sh1 : Ty → D → Prop
  | .i, d => ∃ n : Int, d = dI n ∧ -9223372036854775808 ≤ n ∧ n ≤ 9223372036854775807
  | .b, d => ∃ x, d = dB x
  | .row e z fs, d => ∃ L, d = .row e z L ∧ L.length ≤ maxLen ∧ ∀ ds ∈ L, ShL fs ds
def ShL : List Ty → List D → Prop
  | [], ds => ds = []
  | t :: ts, ds => ∃ d r, ds = d :: r ∧ Sh1 t d ∧ ShL ts r
end
theorem shl_append : ∀ (a b : List Ty) (ds es : List D), ShL a ds → ShL b es → ShL (a ++ b) (ds ++ es)
  | [], b, ds, es, h, k => by simp only [ShL] at h; subst h; exact k
  | t :: a, b, ds, es, h, k => by
    simp only [ShL, List.cons_append] at h ⊢
    obtain ⟨d, r, rfl, h1, h2⟩ := h
    exact ⟨d, r ++ es, rfl, h1, shl_append a b r es h2 k⟩
theorem rvs_append {w : World} : ∀ (ds es : List D) (us vs : List Value), Rvs w ds us → Rvs w es vs → Rvs w (ds ++ es) (us ++ vs)
  | [], es, us, vs, h, k => by simp only [Rvs] at h; subst h; exact k
  | d :: ds, es, us, vs, h, k => by
    simp only [Rvs, List.cons_append] at h ⊢
    obtain ⟨u, r, rfl, h1, h2⟩ := h
    exact ⟨u, r ++ vs, rfl, h1, rvs_append ds es r vs h2 k⟩
theorem rvss_of {w : World} {ad : Addr} {z : Nat} : ∀ (L : List (List D)) (k : Nat), (∀ i, i < L.length → ad.block < w.heap.size ∧ ∃ us, Rvs w (L.getD i []) us ∧ us.length = z ∧ ∀ j u, us[j]? = some u → w.cell? (ati (ad.add ((k + i) * z)) j) = some u) → Rvss w (some ad) z L k
  | [], k, h => trivial
  | ds :: L, k, h => by
    simp only [Rvss]
    obtain ⟨hb, us, h1, h2, h3⟩ := h 0 (by simp)
    refine ⟨⟨ad, us, rfl, hb, by simpa using h1, h2, by simpa using h3⟩, rvss_of L (k + 1) (fun i hi => ?_)⟩
    obtain ⟨hb, us, h1, h2, h3⟩ := h (i + 1) (by simpa using hi)
    refine ⟨hb, us, by simpa using h1, h2, fun j u hu => ?_⟩
    rw [show k + 1 + i = k + (i + 1) by omega]
    exact h3 j u hu
theorem add_ati (a : Addr) (j : Nat) : a.add j = ati a j := by
  unfold Addr.add ati
  split
  · rfl
  · rfl
section
variable {H : Type} {enc : TypeId × Value → H} {P : Program} {w : World} {base : Nat} {spare : Nat → Bool} {held : Bool}
theorem open_fields {n m : Nat} (ih : ∀ (t : TypeId) (fs : List Ty) (fuel : Nat) (cs : List Value) (x : DataW H × List MemPlace), desc P n t = some fs → DataW.trod enc P w base spare held fuel t cs = some x → ∃ ds, ShL fs ds ∧ Rvs w ds cs) (cs : List Value) :
    ∀ (l : List Field) (o : Nat) (r : List Ty), descF (desc P n) P l o = some r → (∀ f ∈ l, ∃ x, DataW.trod enc P w base spare held m f.type ((cs.drop f.offset).take (P.cellsOf f.type)) = some x) → ∃ ds, ShL r ds ∧ Rvs w ds ((cs.drop o).take r.length)
  | [], o, r, h, _ => by
    simp only [descF, Option.some.injEq] at h
    subst h
    exact ⟨[], by simp [ShL], by simp [Rvs]⟩
  | f :: l, o, r, h, hf => by
    simp only [descF] at h
    split at h
    · rename_i ho
      cases hd : desc P n f.type with
      | none => rw [hd] at h; cases h
      | some a =>
        rw [hd] at h
        simp only at h
        split at h
        · rename_i hc
          cases hr : descF (desc P n) P l (o + a.length) with
          | none => rw [hr] at h; cases h
          | some r' =>
            rw [hr] at h
            simp only [Option.some.injEq] at h
            subst h
            obtain ⟨x, hx⟩ := hf f List.mem_cons_self
            rw [ho, hc] at hx
            obtain ⟨ds, h1, h2⟩ := ih f.type a m _ x hd hx
            obtain ⟨es, h3, h4⟩ := open_fields ih cs l (o + a.length) r' hr (fun g hg => hf g (List.mem_cons_of_mem _ hg))
            refine ⟨ds ++ es, shl_append _ _ _ _ h1 h3, ?_⟩
            rw [List.length_append, List.take_add, List.drop_drop]
            exact rvs_append _ _ _ _ h2 h4
        · cases h
    · cases h
theorem open_desc : ∀ (n : Nat) (t : TypeId) (fs : List Ty) (fuel : Nat) (cs : List Value) (x : DataW H × List MemPlace), desc P n t = some fs → DataW.trod enc P w base spare held fuel t cs = some x → ∃ ds, ShL fs ds ∧ Rvs w ds cs
  | 0, t, fs, fuel, cs, x, h, _ => by simp [desc] at h
  | n + 1, t, fs, fuel, cs, x, h, hx => by
    simp only [desc] at h
    split at h
    · rename_i hu
      obtain ⟨b, rfl, _⟩ := DataW.trod_bool hu hx
      simp only [Option.some.injEq] at h
      subst h
      exact ⟨[dB b], by simp only [ShL, Sh1]; exact ⟨_, _, rfl, ⟨b, rfl⟩, rfl⟩, by simp only [Rvs, Rv, dB]; exact ⟨_, _, rfl, rfl, rfl⟩⟩
    · rename_i hu
      obtain ⟨a, rfl, _, hw⟩ := DataW.trod_int hu hx
      simp only [Option.some.injEq] at h
      subst h
      exact ⟨[dI a], by simp only [ShL, Sh1]; exact ⟨_, _, rfl, ⟨a, rfl, bounds_i64 hw⟩, rfl⟩, by simp only [Rvs, Rv, dI]; exact ⟨_, _, rfl, rfl, rfl⟩⟩
    · rename_i e hu
      cases hd : desc P n e with
      | none => rw [hd] at h; cases h
      | some gs =>
        rw [hd] at h
        simp only at h
        split at h
        · rename_i hc
          simp only [Option.some.injEq] at h
          subst h
          rcases Go.Deep.open_slice hu hx with ⟨rfl, _⟩ | ⟨a, len, cap, m, k, DD, Pl, rfl, _, hl, hm, hmm, _, hall⟩
          · exact ⟨[.row e gs.length []], by simp only [ShL, Sh1]; exact ⟨_, _, rfl, ⟨[], rfl, Nat.zero_le _, fun _ hh => by cases hh⟩, rfl⟩, by simp only [Rvs, Rv]; exact ⟨_, _, rfl, ⟨none, 0, rfl, Nat.le_refl _, trivial⟩, rfl⟩⟩
          · have hml : len ≤ m := by rw [hmm]; split <;> omega
            have each : ∀ i, i < len → ∃ ds, ShL gs ds ∧ (0 < gs.length → a.block < w.heap.size) ∧ ∃ us, Rvs w ds us ∧ us.length = gs.length ∧ ∀ j u, us[j]? = some u → w.cell? (ati (a.add (i * gs.length)) j) = some u := by
              intro i hi
              obtain ⟨cs', hcs, htr⟩ := hall i (by omega)
              obtain ⟨ds, h1, h2⟩ := open_desc n e gs k cs' _ hd htr
              rw [hc.1] at hcs
              unfold World.cells? at hcs
              split at hcs
              · have hlen : cs'.length = gs.length := by simpa using mapM_some_length hcs
                have hcell : ∀ j u, cs'[j]? = some u → w.cell? (ati (a.add (i * gs.length)) j) = some u := fun j u hu2 => by
                  have hj : j < gs.length := by rw [← hlen]; exact (List.getElem?_eq_some_iff.1 hu2).1
                  obtain ⟨b, g1, g2⟩ := mapM_some_at hcs j j (by rw [List.getElem?_range hj])
                  rw [hu2] at g1
                  injection g1 with g1
                  subst g1
                  rw [← add_ati]
                  exact g2
                refine ⟨ds, h1, fun h0 => ?_, cs', h2, hlen, hcell⟩
                obtain ⟨u, hu2⟩ : ∃ u, cs'[0]? = some u := ⟨cs'[0]'(by omega), List.getElem?_eq_getElem _⟩
                have := World.block_lt_of_cell? w _ (hcell 0 u hu2)
                unfold ati at this
                rw [if_pos rfl, add_block] at this
                exact this
              · cases hcs
            obtain ⟨L, hL, hE⟩ := list_of ([] : List D) len each
            have h0 := hc.2
            · refine ⟨[.row e gs.length L], ?_, ?_⟩
              · simp only [ShL, Sh1]
                refine ⟨_, _, rfl, ⟨L, rfl, by omega, fun ds hd2 => ?_⟩, rfl⟩
                obtain ⟨i, hi, e1⟩ := List.getElem_of_mem hd2
                have := (hE i (by omega)).1
                rw [List.getD_eq_getElem?_getD, List.getElem?_eq_getElem hi, Option.getD_some, e1] at this
                exact this
              · simp only [Rvs, Rv]
                refine ⟨_, _, rfl, ⟨some a, cap, by rw [hL], by omega, rvss_of L 0 (fun i hi => ?_)⟩, rfl⟩
                obtain ⟨_, hb, us, g1, g2, g3⟩ := hE i (by omega)
                exact ⟨hb h0, us, g1, g2, by simpa using g3⟩
        · cases h
    · rename_i ff hu
      cases hd : descF (desc P n) P ff.toList 0 with
      | none => rw [hd] at h; cases h
      | some l =>
        rw [hd] at h
        simp only at h
        split at h
        · rename_i hc
          simp only [Option.some.injEq] at h
          subst h
          obtain ⟨xs, m, _, _, hl, hxl, hf⟩ := DataW.trod_struct hu hx
          obtain ⟨ds, h1, h2⟩ := open_fields (n := n) (m := m) (fun t fs fuel cs x => open_desc n t fs fuel cs x) cs ff.toList 0 l hd (fun f hf2 => by
            obtain ⟨i, hi, e1⟩ := List.getElem_of_mem hf2
            have hi2 : i < ff.size := by simpa using hi
            have := hf i f (by rw [Array.getElem?_eq_getElem hi2]; simpa using e1)
            rw [List.getElem?_eq_getElem (by omega)] at this
            exact ⟨_, this⟩)
          refine ⟨ds, h1, ?_⟩
          rw [List.drop_zero, List.take_of_length_le (by omega)] at h2
          exact h2
        · cases h
    · cases h
/-- a struct, opened -/
theorem open_struct {r : Reach} {b0 : Nat} {t : TypeId} {ff : Array Field} {v : Value} {d : DataW H} {p : List MemPlace} {n : Nat} {fs : List Ty} (ht : P.underlying t = some (.struct ff)) (hd : desc P n t = some fs)
    (hv : Value.okWide P w r b0 t v) (h : DataW.Trod enc P w base spare held t v d p) : ∃ ds us, v = .agg us.toArray ∧ ShL fs ds ∧ Rvs w ds us := by
  obtain ⟨cs, rfl, hsz⟩ := okWide_struct ht hv
  obtain ⟨fuel, hf⟩ := h
  obtain ⟨ds, h1, h2⟩ := open_desc n t fs fuel _ _ hd hf
  exact ⟨ds, cs.toList, by simp, h1, by simpa [Value.cells] using h2⟩
end
/-- a job -/
def jobT : List Ty := [.row 39 1 [.row 2 1 [.i]], .row 4 1 [.b], .row 55 2 [.i, .i]]
theorem job_desc : desc Try.prog 12 26 = some jobT := by kernel_rfl
def rInt : List D → Int
  | .val (.int _ n) :: _ => n
  | _ => 0
def rBool : List D → Bool
  | .val (.bool b) :: _ => b
  | _ => false
def rRow : List D → List (List D)
  | .row _ _ L :: _ => L
  | _ => []
def rPair : List D → P2
  | .val (.int _ a) :: .val (.int _ b) :: _ => (a, b)
  | _ => (0, 0)
theorem getD_map {α β : Type} (f : α → β) (L : List α) (z : α) (y : β) {k : Nat} (h : k < L.length) : (L.map f).getD k y = f (L.getD k z) := by
  rw [List.getD_eq_getElem?_getD, List.getD_eq_getElem?_getD, List.getElem?_map, List.getElem?_eq_getElem h]; rfl
theorem getD_mem9 {α : Type} {l : List α} {k : Nat} {z : α} (h : k < l.length) : l.getD k z ∈ l := by
  rw [List.getD_eq_getElem?_getD, List.getElem?_eq_getElem h]
  exact List.getElem_mem h
theorem ints_of {w : World} {a : Option Addr} {c : Nat} {L : List (List D)} (hL : ∀ ds ∈ L, ShL [.i] ds) (hx : Rvss w a 1 L 0) : Is w (.slice a L.length c) (L.map rInt) := by
  refine ⟨a, c, by rw [List.length_map], fun k hk => ?_⟩
  rw [List.length_map] at hk
  obtain ⟨ad, us, h0, hb, h2, h3, h4⟩ := rvss_at L 0 hx k hk
  have hm := hL (L.getD k []) (getD_mem9 hk)
  simp only [ShL, Sh1] at hm
  obtain ⟨_, _, e1, ⟨n, rfl, _⟩, rfl⟩ := hm
  rw [getD_map rInt L [] 0 hk]
  rw [e1] at h2 ⊢
  simp only [Rvs, Rv, dI] at h2
  obtain ⟨_, _, rfl, rfl, rfl⟩ := h2
  have := h4 0 _ rfl
  rw [Nat.zero_add, Nat.mul_one] at this
  have h9 : w.cell? (ad.add k) = some (.int .i64 n) := by simpa [ati] using this
  exact ⟨ad, h0, h9⟩
theorem job_of {w : World} {ds : List D} {us : List Value} (hs : ShL jobT ds) (hr : Rvs w ds us) : ∃ (vr vf va : Value) (RR : List (List Int)) (FR : List Bool) (AP : List P2), us = [vr, vf, va] ∧ Jb w (.agg #[vr, vf, va]) RR FR AP ∧ RR.length ≤ maxLen ∧ FR.length ≤ maxLen ∧ AP.length ≤ maxLen ∧ ∀ L ∈ RR, L.length ≤ maxLen := by
  simp only [jobT, ShL, Sh1] at hs
  obtain ⟨_, _, rfl, ⟨L1, rfl, l1, q1⟩, _, _, rfl, ⟨L2, rfl, l2, q2⟩, _, _, rfl, ⟨L3, rfl, l3, q3⟩, rfl⟩ := hs
  simp only [Rvs, Rv] at hr
  obtain ⟨_, _, rfl, ⟨x1, c1, rfl, z1, y1⟩, _, _, rfl, ⟨x2, c2, rfl, z2', y2⟩, _, _, rfl, ⟨x3, c3, rfl, z3', y3⟩, rfl⟩ := hr
  refine ⟨_, _, _, L1.map (fun ds => (rRow ds).map rInt), L2.map rBool, L3.map rPair, rfl, ⟨_, _, _, rfl, ⟨x1, c1, by rw [List.length_map], by rw [List.length_map]; exact z1, fun k hk => ?_⟩, ⟨x2, c2, by rw [List.length_map], fun k hk => ?_⟩, ⟨x3, c3, by rw [List.length_map], by rw [List.length_map]; exact z3', fun k hk => ?_⟩⟩, by rw [List.length_map]; exact l1, by rw [List.length_map]; exact l2, by rw [List.length_map]; exact l3, fun L hL => ?_⟩
  · rw [List.length_map] at hk
    obtain ⟨ad, us, h0, hb, h2, h3, h4⟩ := rvss_at L1 0 y1 k hk
    have hm := q1 (L1.getD k []) (getD_mem9 hk)
    obtain ⟨_, _, e1, ⟨L9, rfl, l9, q9⟩, rfl⟩ := hm
    rw [getD_map _ L1 [] [] hk]
    rw [e1] at h2 ⊢
    simp only [Rvs, Rv] at h2
    obtain ⟨_, _, rfl, ⟨x9, c9, rfl, z9, y9⟩, rfl⟩ := h2
    have := h4 0 _ rfl
    rw [Nat.zero_add, Nat.mul_one] at this
    have h9 : w.cell? (ad.add k) = some (.slice x9 L9.length c9) := by simpa [ati] using this
    exact ⟨ad, _, h0, h9, ints_of q9 y9⟩
  · rw [List.length_map] at hk
    obtain ⟨ad, us, h0, hb, h2, h3, h4⟩ := rvss_at L2 0 y2 k hk
    have hm := q2 (L2.getD k []) (getD_mem9 hk)
    obtain ⟨_, _, e1, ⟨n, rfl⟩, rfl⟩ := hm
    rw [getD_map rBool L2 [] false hk]
    rw [e1] at h2 ⊢
    simp only [Rvs, Rv, dB] at h2
    obtain ⟨_, _, rfl, rfl, rfl⟩ := h2
    have := h4 0 _ rfl
    rw [Nat.zero_add, Nat.mul_one] at this
    have h9 : w.cell? (ad.add k) = some (.bool n) := by simpa [ati] using this
    exact ⟨ad, h0, h9⟩
  · rw [List.length_map] at hk
    obtain ⟨ad, us, h0, hb, h2, h3, h4⟩ := rvss_at L3 0 y3 k hk
    have hm := q3 (L3.getD k []) (getD_mem9 hk)
    obtain ⟨_, _, e1, ⟨n, rfl, _⟩, _, _, rfl, ⟨n2, rfl, _⟩, rfl⟩ := hm
    rw [getD_map rPair L3 [] z2 hk]
    rw [e1] at h2 ⊢
    simp only [Rvs, Rv, dI] at h2
    obtain ⟨_, _, rfl, rfl, _, _, rfl, rfl, rfl⟩ := h2
    have f0 := h4 0 _ rfl
    have f1 := h4 1 _ rfl
    rw [Nat.zero_add] at f0 f1
    have g0 : w.cell? (ad.add (k * 2)) = some (.int .i64 n) := by simpa [ati] using f0
    have g1 : w.cell? ⟨(ad.add (k * 2)).block, (ad.add (k * 2)).off + 1, none⟩ = some (.int .i64 n2) := by simpa [ati] using f1
    exact ⟨ad, h0, g0, g1⟩
  · obtain ⟨ds, hds, rfl⟩ := List.mem_map.1 hL
    obtain ⟨_, _, rfl, ⟨L9, rfl, l9, q9⟩, rfl⟩ := q1 ds hds
    rw [List.length_map]
    exact l9
end Gp
end Go.Proofs.Ytakandlehneciaa
