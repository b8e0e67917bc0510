/- The library's sort at pieces: what it leaves. -/
import Derived.Test.YtcllijjmjmfedaaCRow
import Derived.Test.YtcllijjmjmfedaaShelf
namespace Go.Proofs.Ytcllijjmjmfedaa
open Go.RowKit Go.Shelf Go.Lib Go.Sort
set_option linter.unusedVariables false
set_option linter.unusedSimpArgs false
def encP (x : Int × Int) : List Value := [.int .i64 x.1, .int .i64 x.2]
theorem lt_encP (x y : Int × Int) : ltOf (fun x y : Int × Int => Lib.compareInt x.1 y.1) x y = decide (x.1 < y.1) := by
  unfold ltOf Lib.compareInt
  by_cases h1 : x.1 < y.1
  · simp [h1]
  · by_cases h2 : y.1 < x.1 <;> simp [h1, h2]
theorem swo_encP : SWO (ltOf fun x y : Int × Int => Lib.compareInt x.1 y.1) where
  irrefl x := by rw [lt_encP]; simp
  trans x y z h1 h2 := by rw [lt_encP] at *; simp at *; omega
  ntrans x y z h1 h2 := by rw [lt_encP] at *; simp at *; omega
set_option maxHeartbeats 1000000 in
theorem cmp_closure (x y : Int × Int) (W : World) : Calls Try.prog 28 #[.agg #[.int .i64 x.1, .int .i64 x.2], .agg #[.int .i64 y.1, .int .i64 y.2]] W fun e w' => e = .returned (.int .i64 (Lib.compareInt x.1 y.1)) ∧ ∃ q os', w' = grow (W.drewN q) os' := by
  have hcon := fun W' => AnyG.cmp_Compare_int Try.cmpInt x.1 y.1 W'
  change ∀ W', Calls Try.prog 29 _ _ _ at hcon
  generalize Lib.compareInt x.1 y.1 = r at hcon ⊢
  go_enter Try.func28, Try.ntmps28
  go_wp2_with (go_at_call 29; refine (hcon _).mono ?_; rintro e w' ⟨rfl, rfl⟩)
  go_ret
  exact ⟨rfl, 0, _, by rw [alloc_eq_grow, alloc_eq_grow, grow_grow]; rfl⟩
theorem flat_get (M : Array (Int × Int)) (j : Nat) (h : j < M.size * 2) : (cl M.toList)[j]? = some ((flatK encP 2 M)[j]!) := by
  rw [get_flatK encP 2 M j h]
  have hk : j / 2 < M.toList.length := by simp; omega
  have e : M.toList.getD (j / 2) (0, 0) = M[j / 2]! := by
    rw [List.getD_eq_getElem?_getD, Array.getElem?_toList, Array.getElem!_eq_getD, Array.getD_eq_getD_getElem?]
    rw [Array.getElem?_eq_getElem (by simpa using hk)]
    rfl
  rcases Nat.mod_two_eq_zero_or_one j with h0 | h0
  · have := cl_at0 M.toList (j / 2) hk
    rw [show j / 2 * 2 = j by omega, e] at this
    rw [this, h0]
    rfl
  · have := cl_at1 M.toList (j / 2) hk
    rw [show j / 2 * 2 + 1 = j by omega, e] at this
    rw [this, h0]
    rfl
theorem flat_cl (M : Array (Int × Int)) : (flatK encP 2 M).toList = cl M.toList := by
  apply List.ext_getElem?
  intro j
  by_cases h : j < M.size * 2
  · rw [flat_get M j h, Array.getElem?_toList, getElem!_pos _ j (by simpa using h), Array.getElem?_eq_getElem (by simpa using h)]
  · rw [List.getElem?_eq_none (by simp; omega), List.getElem?_eq_none (by rw [cl_length]; simp; omega)]
set_option maxHeartbeats 1000000 in
theorem sort_any (base g cap : Nat) (L : List Pr) (W : World) (hown : W.ownsRow base 45 2 (.slice (some ⟨g, 0, none⟩) L.length cap) L.length (cl L)) (hl : L.length ≤ 300000) :
    Calls Try.prog 27 #[.slice (some ⟨g, 0, none⟩) L.length cap, .func (.func 28) #[] #[]] W fun e w' => e = .returned (.tuple #[]) ∧ ∃ M : List Pr, M.Perm L ∧ M.Pairwise (fun p q => p.1 ≤ q.1) ∧ w'.ownsRow base 45 2 (.slice (some ⟨g, 0, none⟩) L.length cap) L.length (cl M) ∧ W.grownBy w' (some g) := by
  have eg : ∀ args w, (callFunc 28 args).run Try.prog w = .ok (.enter 28 args) w := enters_of Try.func28 (by kernel_rfl) rfl
  obtain ⟨hln, ⟨h0, _⟩ | ⟨g', cap', cur, h0, hb, hg, hnc, hm, hcs, htk⟩⟩ := hown
  · simp at h0
  simp only [Value.slice.injEq, Option.some.injEq, Addr.mk.injEq, and_true, true_and] at h0
  obtain ⟨rfl, rfl⟩ := h0
  have hH : HoldsK encP 2 W g 0 L.toArray := by
    intro j hj
    simp only [size_flatK, List.size_toArray] at hj
    have h1 := flat_get L.toArray j (by simpa using hj)
    rw [List.toList_toArray, ← htk, List.getElem?_take_of_lt hj] at h1
    constructor
    · simp only [World.cell?, hg, Nat.zero_add]
      simpa using h1
    · simp [World.frozen?, hg]
  have hcon := AnyQ.slices_SortFunc Try.sortIv 2 Try.isAgg45 Try.sizeOf45 encP (fun _ => rfl) (fun x v hv => by simp [encP] at hv; rcases hv with rfl | rfl <;> rfl) (fun x y => Lib.compareInt x.1 y.1) swo_encP 28 #[] g 0 cap L.toArray W eg (fun _ _ _ _ x y => cmp_closure x y _) hH (Array.getElem?_eq_some_iff.1 hg).1 (by simp; omega)
  change Calls Try.prog 27 _ _ _ at hcon
  rw [show L.toArray.size = L.length by simp] at hcon
  refine hcon.mono ?_
  rintro e w' ⟨rfl, d', n, os, ⟨hsz, _, hperm⟩, hsort, rfl⟩
  replace hsz : d'.size = L.length := by simpa using hsz
  have hlen : d'.toList.length = L.length := by simpa using hsz
  refine ⟨rfl, d'.toList, ?_, ?_, ?_, ?_⟩
  · have h1 : d'.extract 0 L.length = d' := by rw [← hsz]; simp
    have h2 : L.toArray.extract 0 L.length = L.toArray := by simp
    rw [h1, h2] at hperm
    simpa using hperm
  · rw [List.pairwise_iff_getElem]
    intro i j hi hj hij
    have := hsort i j (Nat.zero_le _) hij (by omega)
    rw [lt_encP] at this
    simp at this
    rw [getElem!_pos d' i (by simpa using hi), getElem!_pos d' j (by simpa using hj)] at this
    simpa using this
  · have hsK : (flatK encP 2 d').size = L.length * 2 := by rw [size_flatK, hsz]
    have hgl := (Array.getElem?_eq_some_iff.1 hg).1
    have hb' : (sortWorldK encP 2 W g 0 n d' os).heap[g]? = some (.cells (putCells id 0 (flatK encP 2 d') cur) 45 (0, 0)) := by
      unfold sortWorldK putRowK putRow grow
      simp only
      rw [Array.getElem?_append_left (by simp [mapBlock, ahead]; exact hgl)]
      simp [mapBlock, ahead, Array.getElem?_modify, hg, onCells]
    refine ⟨by rw [cl_length]; simp [hsz], .inr ⟨g, cap, _, rfl, hb, hb', hnc, hm, by simp [putCells, hcs], ?_⟩⟩
    rw [← flat_cl]
    apply List.ext_getElem?
    intro j
    by_cases hj : j < L.length * 2
    · rw [List.getElem?_take_of_lt hj]
      have hjc : j < cur.size := by rw [hcs]; omega
      simp only [putCells, Array.getElem?_toList, Array.getElem?_mapIdx, Array.getElem?_eq_getElem hjc, Option.map_some]
      rw [if_pos ⟨Nat.zero_le _, by rw [hsK]; omega⟩, Nat.sub_zero, getElem!_pos _ j (by rw [hsK]; exact hj), Array.getElem?_eq_getElem (by rw [hsK]; exact hj)]
      rfl
    · rw [List.getElem?_eq_none (by simp; omega), List.getElem?_eq_none (by simp [hsz]; omega)]
  · refine ⟨rfl, rfl, rfl, ?_, ?_⟩
    · exact size_sortWorldK_c encP 2 W g 0 n d' os
    · intro k hk hne
      have hne' : ¬ g = k := fun e => hne (by rw [e])
      unfold sortWorldK putRowK putRow grow
      simp only
      rw [Array.getElem?_append_left (by simp [mapBlock, ahead]; exact hk)]
      simp [mapBlock, ahead, Array.getElem?_modify, hne']
end Go.Proofs.Ytcllijjmjmfedaa
