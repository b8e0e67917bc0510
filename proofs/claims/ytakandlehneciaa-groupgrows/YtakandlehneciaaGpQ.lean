/- Package group, plain: the search tells the best of all layouts, as the document has them. -/
import Derived.Test.YtakandlehneciaaGpP
namespace Go.Proofs.Ytakandlehneciaa
set_option linter.unusedVariables false
set_option linter.unusedSimpArgs false
set_option maxRecDepth 10000
namespace Gp
open Pa
/-- it tells the best of all -/
theorem go_fold2 {O β : Type} {f : O → List Bool → Option (β × Int)} {n : Nat} {fl : Int} {Q : O → Prop} (hm : ∀ o L M y, Q o → f o (L ++ M) = some y → ∃ x, f o L = some x ∧ x.2 ≤ y.2) (hf : ∀ o L y, Q o → L.length = n → f o L = some y → fl ≤ y.2) : ∀ (k : Nat) (B : Option (β × Int)) (T : List (O × List Bool)), (∀ t ∈ T, Q t.1 ∧ t.2.length ≤ n) → (go f n fl k B T).1 = true → (go f n fl k B T).2.1 = (T.flatMap (lvs n)).foldl (sf (fl2 f)) B
  | k, B, [], _, _ => by rw [go_nil]; rfl
  | 0, B, t :: T, _, h => by rw [go_out] at h; simp at h
  | k + 1, B, t :: T, hT, hh => by
    have ih := go_fold2 hm hf k
    have hT2 : ∀ s ∈ T, Q s.1 ∧ s.2.length ≤ n := fun s hs => hT s (by simp [hs])
    obtain ⟨hq, ht⟩ := hT t (by simp)
    rw [List.flatMap_cons, List.foldl_append]
    rcases go_case (f := f) (n := n) (fl := fl) B t with h | ⟨y, h, h1⟩ | ⟨y, h, h1, h2⟩ | ⟨y, h, h1, h2, h3⟩ | ⟨y, h, h1, h2, h3⟩
    · rw [go_none h] at hh ⊢
      rw [fold_idl (lvs n t) B, ih _ _ hT2 hh]
      intro a ha y hy
      obtain ⟨M, _, rfl⟩ := List.mem_map.1 ha
      obtain ⟨x, hx, _⟩ := hm _ _ _ _ hq hy
      rw [h] at hx; cases hx
    · rw [go_long h h1] at hh ⊢
      rw [fold_idl (lvs n t) B, ih _ _ hT2 hh]
      intro a ha v hv
      obtain ⟨M, _, rfl⟩ := List.mem_map.1 ha
      obtain ⟨x, hx, hl⟩ := hm _ _ _ _ hq hv
      rw [h] at hx; cases hx
      cases B with
      | none => simp [lt] at h1
      | some b => simp [lt] at h1 ⊢; omega
    · rw [go_two h h1 h2] at hh ⊢
      rw [ih _ _ (by intro s hs; simp at hs; rcases hs with rfl | rfl | hs; · exact ⟨hq, by simp; omega⟩
                     · exact ⟨hq, by simp; omega⟩
                     · exact hT2 s hs) hh, List.flatMap_cons, List.flatMap_cons, List.foldl_append, List.foldl_append, lvs_two h2, List.foldl_append]
    · rw [go_stop h h1 h2 h3]
      have hn : t.2.length = n := by omega
      rw [lvs_end hn]
      have e1 : [t].foldl (sf (fl2 f)) B = some y := by simp [sf, fl2, h, h1]
      rw [e1, fold_idl]
      intro a ha v hv
      obtain ⟨s, hs, ha⟩ := List.mem_flatMap.1 ha
      obtain ⟨hq2, hs2⟩ := hT2 s hs
      obtain ⟨M, hM, rfl⟩ := List.mem_map.1 ha
      have := hf _ _ _ hq2 (by simp [mem_allB.1 hM]; omega) hv
      simp [lt]; omega
    · rw [go_on h h1 h2 h3] at hh ⊢
      have hn : t.2.length = n := by omega
      rw [lvs_end hn, ih _ _ hT2 hh]
      have e1 : [t].foldl (sf (fl2 f)) B = some y := by simp [sf, fl2, h, h1]
      rw [e1]
theorem lvs_fold {O β : Type} {f : O → List Bool → Option (β × Int)} {n : Nat} : ∀ (l : List O) (B : Option (β × Int)), ((l.map fun o => (o, ([] : List Bool))).flatMap (lvs n)).foldl (sf (fl2 f)) B = l.foldl (fun B o => (allB n).foldl (sf (f o)) B) B
  | [], B => rfl
  | o :: l, B => by
    rw [List.map_cons, List.flatMap_cons, List.foldl_append, lvs_fold l, List.foldl_cons]
    congr 1
    unfold lvs
    rw [List.length_nil, Nat.sub_zero, List.foldl_map]
    have : (fun (x : Option (β × Int)) (y : List Bool) => sf (fl2 f) x (o, [] ++ y)) = sf (f o) := by funext x y; rfl
    rw [this]
theorem fold_cong {α β : Type} (f g : β → α → β) : ∀ (l : List α) (b : β), (∀ a ∈ l, ∀ b, f b a = g b a) → l.foldl f b = l.foldl g b
  | [], b, _ => rfl
  | a :: l, b, h => by rw [List.foldl_cons, List.foldl_cons, h a (by simp)]; exact fold_cong f g l _ fun c hc => h c (by simp [hc])
theorem zip_in {α : Type} {P : List α} {M : List Bool} {x : α × Bool} (h : x ∈ P.zip M) : x.1 ∈ P := (List.of_mem_zip (a := x.1) (b := x.2) h).1
/-- a layout of all pairs, or of each once: the same best -/
theorem once_fX {RR : List (List Int)} {AP : List P2} {o : O2} (h : La RR AP o) (B : Option Bt) : (allB AP.length).foldl (sf fun M => fX RR o (AP.zip M)) B = (allB (dn [] AP).length).foldl (sf fun L => fX RR o ((dn [] AP).zip L)) B := by
  have hin : ∀ x, x ∈ dn [] AP → x ∈ AP := fun x hx => by have := (dn_mem AP [] x).1 (by simpa using hx); simpa using this
  have h9 := once (F := fun X => if (X.all fun x => decide (x.1 ∈ AP)) = true then fX RR o X else none)
    (fun X Y hs v hv => by
      by_cases hY : (Y.all fun x => decide (x.1 ∈ AP)) = true
      · rw [if_pos hY] at hv
        have hY2 : ∀ x ∈ Y, x.1 ∈ AP := fun x hx => by simpa using (List.all_eq_true.1 hY) x hx
        have hX : (X.all fun x => decide (x.1 ∈ AP)) = true := List.all_eq_true.2 fun x hx => by simpa using hY2 x (hs x hx)
        rw [if_pos hX]
        exact fX_mono h hY2 hs hv
      · rw [if_neg hY] at hv; cases hv)
    (fun X Y hs => by
      by_cases hY : (Y.all fun x => decide (x.1 ∈ AP)) = true
      · have hY2 : ∀ x ∈ Y, x.1 ∈ AP := fun x hx => by simpa using (List.all_eq_true.1 hY) x hx
        have hX : (X.all fun x => decide (x.1 ∈ AP)) = true := List.all_eq_true.2 fun x hx => by simpa using hY2 x ((hs x).1 hx)
        rw [if_pos hX, if_pos hY]
        exact fX_same h hY2 hs
      · have hX : ¬ (X.all fun x => decide (x.1 ∈ AP)) = true := fun hX => hY (List.all_eq_true.2 fun x hx => (List.all_eq_true.1 hX) x ((hs x).2 hx))
        rw [if_neg hX, if_neg hY]) AP B
  have e1 : ∀ M ∈ allB AP.length, (fun M => if ((AP.zip M).all fun x => decide (x.1 ∈ AP)) = true then fX RR o (AP.zip M) else none) M = (fun M => fX RR o (AP.zip M)) M := fun M _ => if_pos (List.all_eq_true.2 fun x hx => by simpa using zip_in hx)
  have e2 : ∀ M ∈ allB (dn [] AP).length, (fun M => if (((dn [] AP).zip M).all fun x => decide (x.1 ∈ AP)) = true then fX RR o ((dn [] AP).zip M) else none) M = (fun M => fX RR o ((dn [] AP).zip M)) M := fun M _ => if_pos (List.all_eq_true.2 fun x hx => by simpa using hin _ (zip_in hx))
  rw [fold_same _ _ e1, fold_same _ _ e2] at h9
  exact h9
theorem zip_app {α : Type} : ∀ (P : List α) (L M : List Bool) (x : α × Bool), x ∈ P.zip L → x ∈ P.zip (L ++ M)
  | [], L, M, x, h => by simp at h
  | p :: P, [], M, x, h => by simp at h
  | p :: P, b :: L, M, x, h => by
    rw [List.zip_cons_cons, List.mem_cons] at h
    rw [List.cons_append, List.zip_cons_cons, List.mem_cons]
    exact h.imp id (zip_app P L M x)
theorem La.sub {RR : List (List Int)} {AP D : List P2} {o : O2} (h : La RR AP o) (hs : ∀ x ∈ D, x ∈ AP) : La RR D o := ⟨h.two, h.row, h.ord, fun p hp => h.pair p (hs p hp)⟩
/-- what the search tells, where its steps sufficed: the first of the best of all layouts -/
theorem search_best {RR : List (List Int)} {AP : List P2} {l : List O2} (h : ∀ o ∈ l, La RR AP o) (k : Nat) (hk : (go (fN RR (dn [] AP)) (dn [] AP).length (flr RR (dn [] AP)) k none (l.map fun o => (o, []))).1 = true) :
    (go (fN RR (dn [] AP)) (dn [] AP).length (flr RR (dn [] AP)) k none (l.map fun o => (o, []))).2.1 = l.foldl (fun B o => (allB AP.length).foldl (sf fun M => fX RR o (AP.zip M)) B) none := by
  have hin : ∀ x, x ∈ dn [] AP → x ∈ AP := fun x hx => by have := (dn_mem AP [] x).1 (by simpa using hx); simpa using this
  have hnd : (dn [] AP).Nodup := by have := dn_nd AP [] (by simp); simpa using this
  rw [go_fold2 (Q := fun o => La RR AP o) (fun o L M y ho hy => by
      rw [fN_X] at hy ⊢
      refine fX_mono (ho.sub hin) (fun x hx => zip_in hx) (fun x hx => ?_) hy
      exact zip_app _ _ _ x hx)
    (fun o L y ho hL hy => by
      rw [fN_X] at hy
      exact floor_le (ho.sub hin) hnd (fun x hx => zip_in hx) (fun p hp => zip_full _ _ hL hp) hy) k none _ (fun t ht => by
      obtain ⟨o, ho, rfl⟩ := List.mem_map.1 ht
      exact ⟨h o ho, by simp⟩) hk, lvs_fold]
  refine fold_cong _ _ l none fun o ho B => ?_
  rw [once_fX (h o ho) B]
  exact fold_same _ _ fun L _ => fN_X RR (dn [] AP) o L
/-- as many steps as there may be are enough -/
theorem search_done {RR : List (List Int)} {AP : List P2} {l : List O2} {fl : Int} {k : Nat} (hk : 2 ^ AP.length * l.length * (AP.length + 1) ≤ k) : (go (fN RR (dn [] AP)) (dn [] AP).length fl k none (l.map fun o => (o, []))).1 = true := by
  refine go_done _ _ _ ?_
  rw [csts_all]
  have hn := dn_len AP []
  refine Nat.le_trans ?_ hk
  have h1 : 2 ^ ((dn [] AP).length + 1) - 1 ≤ 2 ^ AP.length * (AP.length + 1) := by
    by_cases h0 : AP.length = 0
    · rw [h0] at hn ⊢
      have : (dn [] AP).length = 0 := by omega
      rw [this]; decide
    · have h2 : 2 ^ ((dn [] AP).length + 1) ≤ 2 ^ (AP.length + 1) := Nat.pow_le_pow_right (by decide) (by omega)
      have h3 : 2 ^ (AP.length + 1) = 2 ^ AP.length * 2 := Nat.pow_succ ..
      have h4 : 2 ^ AP.length * 2 ≤ 2 ^ AP.length * (AP.length + 1) := Nat.mul_le_mul_left _ (by omega)
      omega
  calc l.length * (2 ^ ((dn [] AP).length + 1) - 1) ≤ l.length * (2 ^ AP.length * (AP.length + 1)) := Nat.mul_le_mul_left _ h1
    _ = 2 ^ AP.length * l.length * (AP.length + 1) := by rw [← Nat.mul_assoc, Nat.mul_comm l.length]
/-- the bits of a number, the highest first -/
def bitsN (n m : Nat) : List Bool := (List.range n).map fun b => m.testBit (n - 1 - b)
theorem bitsN_len (n m : Nat) : (bitsN n m).length = n := by simp [bitsN]
theorem bitsN_succ (n m : Nat) : bitsN (n + 1) m = m.testBit n :: bitsN n m := by
  unfold bitsN
  rw [List.range_succ_eq_map, List.map_cons, List.map_map]
  congr 1
  refine List.map_congr_left fun b hb => ?_
  simp only [Function.comp]
  congr 1
  omega
theorem bitsN_mod (n m : Nat) : bitsN n (m % 2 ^ n) = bitsN n m := by
  unfold bitsN
  refine List.map_congr_left fun b hb => ?_
  rw [List.mem_range] at hb
  rw [Nat.testBit_mod_two_pow]
  simp; omega
theorem allB_bits : ∀ n, allB n = (List.range (2 ^ n)).map (bitsN n)
  | 0 => by simp [allB, bitsN]
  | n + 1 => by
    have e : List.range (2 ^ (n + 1)) = List.range (2 ^ n) ++ (List.range (2 ^ n)).map (2 ^ n + ·) := by
      rw [show 2 ^ (n + 1) = 2 ^ n + 2 ^ n by rw [Nat.pow_succ]; omega, List.range_add]
    rw [allB, e, List.map_append, List.map_map, allB_bits n, List.map_map, List.map_map]
    congr 1
    · refine List.map_congr_left fun m hm => ?_
      rw [List.mem_range] at hm
      simp only [Function.comp, bitsN_succ]
      rw [Nat.testBit_lt_two_pow hm]
    · refine List.map_congr_left fun m hm => ?_
      rw [List.mem_range] at hm
      simp only [Function.comp, bitsN_succ]
      have h1 : (2 ^ n + m).testBit n = true := by
        rw [Nat.testBit_two_pow_add_eq, Nat.testBit_lt_two_pow hm]; rfl
      have h2 : bitsN n (2 ^ n + m) = bitsN n m := by
        rw [← bitsN_mod n (2 ^ n + m), Nat.add_mod_left, Nat.mod_eq_of_lt hm]
      rw [h1, h2]
end Gp
end Go.Proofs.Ytakandlehneciaa
