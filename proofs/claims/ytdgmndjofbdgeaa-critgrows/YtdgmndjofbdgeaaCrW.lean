/- CritGrows over letters. -/
import Derived.Test.YtdgmndjofbdgeaaCrX
import Derived.Test.YtdgmndjofbdgeaaLMath
import Derived.Test.YtdgmndjofbdgeaaCrR
import Derived.Test.YtdgmndjofbdgeaaCrT
import Derived.Deep.DrawnRows
import Derived.Deep.RegionHeld3
import Derived.Laws.AppendOwn
import Derived.Laws.OwnMore
import Derived.Laws.MakeOwn
import Derived.OwnWalk
namespace Go.Proofs.Ytdgmndjofbdgeaa
open Go.RowKit
attribute [local go_sem ↓] Go.wp_at_zero Go.wp_at_succ
set_option linter.unusedVariables false
set_option linter.unusedSimpArgs false
set_option maxRecDepth 10000
namespace Cr
open S
theorem rin_at {w : World} {xf : Option Addr} {R : List (Int × Int)} (h : Rin w xf R) {ad : Addr} (e : xf = some ad) : ∀ j u, (fcs R)[j]? = some u → w.cell? (ad.add j) = some u := by
  subst e
  intro j u hu
  have hl : ∀ L : List (Int × Int), (fcs L).length = L.length * 2 := by
    intro L
    induction L with
    | nil => rfl
    | cons a L ih => show (fcs L).length + 1 + 1 = _; rw [ih]; simp; omega
  have hj : j < R.length * 2 := by
    rcases Nat.lt_or_ge j (R.length * 2) with h2 | h2
    · exact h2
    · rw [List.getElem?_eq_none (by rw [hl]; exact h2)] at hu; cases hu
  obtain ⟨ad2, e1, _, c1, c2⟩ := h.HF (j / 2) (by omega)
  cases e1
  obtain ⟨f1, f2⟩ := fcs_at R (j / 2) (by omega)
  rcases Nat.mod_two_eq_zero_or_one j with h0 | h0
  · have e2 : j / 2 * 2 = j := by omega
    rw [e2] at f1 c1
    rw [f1] at hu
    rw [c1]; exact hu
  · have e2 : j / 2 * 2 + 1 = j := by omega
    rw [e2] at f2
    rw [f2] at hu
    have e3 : ad.add j = ⟨(ad.add (j / 2 * 2)).block, (ad.add (j / 2 * 2)).off + 1, none⟩ := by
      have h5 : ¬ j = 0 := by omega
      unfold Addr.add
      rw [if_neg h5]
      split
      · rename_i h6; first | (simp [h6]; done) | (simp [h6]; omega)
      · first | (simp; done) | (simp; omega)
    rw [e3, c2]; exact hu
theorem fcs_len : ∀ L : List (Int × Int), (fcs L).length = L.length * 2
  | [] => rfl
  | a :: L => by have := fcs_len L; show (fcs L).length + 1 + 1 = _; rw [this]; simp; omega
theorem fcs_one : ∀ (L : List (Int × Int)) (u : Value), u ∈ fcs L → u.oneCell' = true
  | [], u, h => by cases h
  | a :: L, u, h => by
    have h2 : u = .int .i64 a.1 ∨ u = .int .i64 a.2 ∨ u ∈ fcs L := by simpa [fcs] using h
    rcases h2 with rfl | rfl | h2
    · rfl
    · rfl
    · exact fcs_one L u h2
theorem more_row {w : World} {B : Nat} {e : TypeId} {z n : Nat} {v : Value} {xs : List Value} (h : w.ownsRow B e z v n xs) (hn : 0 < n) : ∃ g cap cur, v = .slice (some ⟨g, 0, none⟩) n cap ∧ B ≤ g ∧ w.heap[g]? = some (.cells cur e (0, 0)) ∧ ∀ j u, xs[j]? = some u → w.cell? ⟨g, j, none⟩ = some u := by
  rcases h.2 with ⟨rfl, h0⟩ | ⟨g, cap, cur, rfl, hb, hg, hc, hm, hs, ht⟩
  · omega
  · refine ⟨g, cap, cur, rfl, hb, hg, fun j u hu => ?_⟩
    rw [← ht, List.getElem?_take] at hu
    simp only [World.cell?, hg]
    split at hu
    · simpa using hu
    · cases hu
theorem emp_row (w : World) (t : TypeId) : (w.alloc (.cells #[] t)).ownsRow w.heap.size t 2 (.slice (some ⟨w.heap.size, 0, none⟩) 0 0) 0 [] := ⟨rfl, .inr ⟨w.heap.size, 0, #[], rfl, Nat.le_refl _, heap_alloc_new w _, Nat.le_refl _, by unfold maxLen; omega, rfl, rfl⟩⟩
/-- fractions that stand in a block of their own, one of them set -/
theorem rin_set {w : World} {g i : Nat} {cur : Array Value} {R : List (Int × Int)} {b1 b2 : Int} (hg : w.heap[g]? = some (.cells cur 32 (0, 0))) (hc : ∀ j u, (fcs R)[j]? = some u → w.cell? ⟨g, j, none⟩ = some u) (hR : ∀ x ∈ R, In x.1 ∧ In x.2) (hl : R.length ≤ 50) (hi : i < R.length) (hb : In b1 ∧ In b2) :
    Rin ((w.setCell ⟨g, i * 2, none⟩ (.int .i64 b1)).setCell ⟨g, i * 2 + 1, none⟩ (.int .i64 b2)) (some ⟨g, 0, none⟩) (R.set i (b1, b2)) := by
  have e1 := set_cl (i := i * 2) hg (.int .i64 b1)
  have e2 := set_cl (i := i * 2 + 1) e1 (.int .i64 b2)
  have hlt : g < ((w.setCell ⟨g, i * 2, none⟩ (.int .i64 b1)).setCell ⟨g, i * 2 + 1, none⟩ (.int .i64 b2)).heap.size := (Array.getElem?_eq_some_iff.1 e2).1
  have old : ∀ (j : Nat) (u : Value), (fcs R)[j]? = some u → cur[j]? = some u := by
    intro j u hu
    have := hc j u hu
    simp only [World.cell?, hg] at this
    simpa using this
  refine ⟨fun k hk => ⟨_, rfl, hlt, ?_⟩, fun x hx => ?_, by rw [List.length_set]; exact hl⟩
  · rw [List.length_set] at hk
    obtain ⟨f1, f2⟩ := fcs_at R k hk
    have g1 := old _ _ f1
    have g2 := old _ _ f2
    have s1 : k * 2 < cur.size := (Array.getElem?_eq_some_iff.1 g1).1
    have s2 : k * 2 + 1 < cur.size := (Array.getElem?_eq_some_iff.1 g2).1
    rw [add_pl, Nat.zero_add]
    by_cases hki : k = i
    · subst hki
      have e : (R.set k (b1, b2)).getD k (0, 0) = (b1, b2) := by rw [List.getD_eq_getElem?_getD, List.getElem?_set_self hk]; rfl
      rw [e]
      constructor
      · simp only [World.cell?, e2]
        simp [Array.getElem?_setIfInBounds, s1, s2]
      · simp only [World.cell?, e2]
        simp [Array.getElem?_setIfInBounds, s1, s2]
    · have e : (R.set i (b1, b2)).getD k (0, 0) = R.getD k (0, 0) := by rw [List.getD_eq_getElem?_getD, List.getD_eq_getElem?_getD, List.getElem?_set_ne (fun h => hki h.symm)]
      rw [e]
      have d1 : ¬ i * 2 = k * 2 := by omega
      have d2 : ¬ i * 2 + 1 = k * 2 := by omega
      have d3 : ¬ i * 2 = k * 2 + 1 := by omega
      have d4 : ¬ i * 2 + 1 = k * 2 + 1 := by omega
      have d5 : ¬ i = k := fun h => hki h.symm
      constructor
      · simp only [World.cell?, e2]
        rw [← g1]
        simp [Array.getElem?_setIfInBounds, d1, d2, d5]
      · simp only [World.cell?, e2]
        rw [← g2]
        simp [Array.getElem?_setIfInBounds, d3, d4, d5] <;> (intro h; omega)
  · rcases List.mem_or_eq_of_mem_set hx with h | h
    · exact hR _ h
    · rw [h]; exact hb
set_option maxHeartbeats 16000000 in
theorem cgrows_core (s : ByteArray) (x1 : Option Addr) (n1 c1 : Nat) (x2 : Option Addr) (n2 c2 : Nat) (x3 : Option Addr) (n3 c3 : Nat) (x4 : Option Addr) (n4 c4 : Nat) (x5 : Option Addr) (n5 c5 : Nat) (p : Int) (ad : Addr) (nf cf : Nat) (at9 : Int) (P : Prop) (R : List (Int × Int)) (i m : Nat) (r1 r2 b1 b2 be : Int) (rtb bb : Bool) (X1 Y1 z1 X2 Y2 z2 X3 Y3 z3 v2 v3 : Int) (w : World)
    (hn : 0 < nf) (hn4 : n4 ≤ 9223372036854775807) (hnc : n4 ≤ c4) (hR : Hid (R.length = nf)) (h0 : 0 ≤ at9) (hi1 : at9.tmod (nf : Int) = (i : Int)) (hi2 : at9 % (nf : Int) = (i : Int)) (hil : i < nf) (HRi : Hid (R.getD i (0, 0) = (r1, r2))) (hm : Hid (m = n4 - 1)) (hb : Hid (In b1 ∧ In b2))
    (HP5 : Hid (P → nf ≤ 50 ∧ Rin w (some ad) R))
    (TF : Hid (∀ w', Keep w w' → Calls Try.prog 6 #[.agg #[.string s, .slice x1 n1 c1, .slice x2 n2 c2, .slice x3 n3 c3, .slice x4 n4 c4, .slice x5 n5 c5, .int .i64 p], .slice (some ad) nf cf] w' (Ak3 P w')))
    (TA : Hid (∀ w', Calls Try.prog 12 #[] w' fun e w'' => e = .returned (.bool true) ∧ Keep w' w''))
    (T1 : Hid (P → ∀ w', Keep w w' → Calls Try.prog 7 #[.agg #[.string s, .slice x1 n1 c1, .slice x2 n2 c2, .slice x3 n3 c3, .slice x4 n4 c4, .slice x5 n5 c5, .int .i64 p], .slice (some ad) nf cf] w' fun e w'' => ∃ va vn vc, e = .returned (.tuple #[.agg #[.int .i64 X1, .int .i64 Y1, .slice va vn vc], .int .i64 z1]) ∧ Keep w' w''))
    (F3 : Hid (∀ w, Calls Try.prog 18 #[.int .i64 1, .int .i64 3] w fun e w' => e = .returned (.agg #[.int .i64 1, .int .i64 3]) ∧ Keep w w'))
    (TD : Hid (∀ w, Calls Try.prog 17 #[.agg #[.int .i64 r1, .int .i64 r2], .agg #[.int .i64 1, .int .i64 3]] w fun e w' => e = .returned (.tuple #[.agg #[.int .i64 b1, .int .i64 b2], .int .i64 be]) ∧ Keep w w'))
    (TT : Hid (∀ w, Calls Try.prog 19 #[.agg #[.int .i64 r1, .int .i64 r2]] w fun e w' => e = .returned (.bool rtb) ∧ Keep w w'))
    (T2 : Hid (P → be = 0 → rtb = true → z1 = 0 → ∀ g cap w', Keep w w' → Rin w' (some ⟨g, 0, none⟩) (R.set i (b1, b2)) → Calls Try.prog 7 #[.agg #[.string s, .slice x1 n1 c1, .slice x2 n2 c2, .slice x3 n3 c3, .slice x4 n4 c4, .slice x5 n5 c5, .int .i64 p], .slice (some ⟨g, 0, none⟩) nf cap] w' fun e w'' => ∃ va vn vc, e = .returned (.tuple #[.agg #[.int .i64 X2, .int .i64 Y2, .slice va vn vc], .int .i64 z2]) ∧ Keep w' w''))
    (C2 : Hid (∀ w, Calls Try.prog 16 #[.agg #[.int .i64 X2, .int .i64 Y2], .agg #[.int .i64 X1, .int .i64 Y1]] w fun e w' => e = .returned (.int .i64 v2) ∧ Keep w w'))
    (HV2 : Hid (P → z1 = 0 → be = 0 → rtb = true → z2 = 0 → ¬ v2 < 0))
    (T3 : Hid (P → ∀ w', Keep w w' → Calls Try.prog 7 #[.agg #[.string s, .slice x1 n1 c1, .slice x2 n2 c2, .slice x3 n3 c3, .slice x4 m c4, .slice x5 n5 c5, .int .i64 p], .slice (some ad) nf cf] w' fun e w'' => ∃ va vn vc, e = .returned (.tuple #[.agg #[.int .i64 X3, .int .i64 Y3, .slice va vn vc], .int .i64 z3]) ∧ Keep w' w''))
    (C3 : Hid (∀ w, Calls Try.prog 16 #[.agg #[.int .i64 X3, .int .i64 Y3], .agg #[.int .i64 X1, .int .i64 Y1]] w fun e w' => e = .returned (.int .i64 v3) ∧ Keep w w'))
    (TB : Hid (P → ∀ w', Keep w w' → Calls Try.prog 20 #[.slice (some ad) nf cf] w' fun e w'' => e = .returned (.bool bb) ∧ w'' = w'))
    (HV3 : Hid (P → z1 = 0 → z3 = 0 → ¬ r1 < 0 → ¬ v3 ≤ 0 → bb = true)) :
    Calls Try.prog 5 #[.agg #[.string s, .slice x1 n1 c1, .slice x2 n2 c2, .slice x3 n3 c3, .slice x4 n4 c4, .slice x5 n5 c5, .int .i64 p], .slice (some ad) nf cf, .int .i64 at9] w fun e w' => e = .returned (.bool true) ∧ Keep w w' := by
  obtain ⟨i0, hi0, hz00, hz01, hz02⟩ := info_f infoF
  have hnw0 := heap_alloc_new w (.cells #[.string s, .slice x1 n1 c1, .slice x2 n2 c2, .slice x3 n3 c3, .slice x4 n4 c4, .slice x5 n5 c5, .int .i64 p] 28)
  have K0 := hide ((Keep.refl w).alloc (.cells #[.string s, .slice x1 n1 c1, .slice x2 n2 c2, .slice x3 n3 c3, .slice x4 n4 c4, .slice x5 n5 c5, .int .i64 p] 28))
  go_enter Try.func5, Try.ntmps5
  go_upto_region 1 with fail
  generalize w.alloc (.cells #[.string s, .slice x1 n1 c1, .slice x2 n2 c2, .slice x3 n3 c3, .slice x4 n4 c4, .slice x5 n5 c5, .int .i64 p] 28) = w0 at hnw0 K0 ⊢
  obtain ⟨q0, HQ0⟩ : ∃ q, Hid (w.heap.size = q) := ⟨_, hide rfl⟩
  rw [uq HQ0] at hnw0 ⊢
  have HX0 : Hid (∀ w' : World, Keep w0 w' → w'.cell? ⟨q0, 0, none⟩ = some (.string s) ∧ w'.cell? ⟨q0, 1, none⟩ = some (.slice x1 n1 c1) ∧ w'.cell? ⟨q0, 2, none⟩ = some (.slice x2 n2 c2) ∧ w'.cell? ⟨q0, 3, none⟩ = some (.slice x3 n3 c3) ∧ w'.cell? ⟨q0, 4, none⟩ = some (.slice x4 n4 c4) ∧ w'.cell? ⟨q0, 5, none⟩ = some (.slice x5 n5 c5) ∧ w'.cell? ⟨q0, 6, none⟩ = some (.int .i64 p)) := hide (fun w' k9 => by
    have h1 := k9.block q0 (Array.getElem?_eq_some_iff.1 hnw0).1
    rw [hnw0] at h1
    refine ⟨?_, ?_, ?_, ?_, ?_, ?_, ?_⟩ <;> simp [World.cell?, h1])
  clear hnw0
  obtain ⟨z0, z1, z2, z3, z4, z5, z6⟩ := (uq HX0) w0 (Keep.refl _)
  have hne : ¬ (nf : Int) = 0 := by omega
  have hnb : ((nf : Int) == 0) = false := by simpa using hne
  have hat : ¬ at9 < 0 := by omega
  have hab : decide (at9 < 0) = false := decide_eq_false hat
  go_wp2_with fail
  (refine ((uq TF) _ (uq K0)).mono ?_; rintro e w2 ⟨b, rfl, hk9, hp9⟩; have K2 := hide hk9; have HP := hide hp9; clear hk9 hp9)
  clear z0 z1 z2 z3 z4 z5 z6
  cases b
  · go_wp2_with fail
    (refine ((uq TA) _).mono ?_; rintro e w99 ⟨rfl, hk99⟩)
    go_wp2_with fail
    go_ret
    exact ⟨rfl, (uq K0).trans ((uq K2).trans hk99)⟩
  · have hp := (uq HP) rfl
    replace T1 := hide ((uq T1) hp)
    replace T2 := hide ((uq T2) hp)
    replace T3 := hide ((uq T3) hp)
    replace TB := hide ((uq TB) hp)
    replace HV2 := hide ((uq HV2) hp)
    replace HV3 := hide ((uq HV3) hp)
    obtain ⟨hn5, hrin⟩ := (uq HP5) hp
    have HRN := hide hrin
    clear HP hp TF HP5 hrin
    obtain ⟨z0, z1, z2, z3, z4, z5, z6⟩ := (uq HX0) w2 (uq K2)
    go_wp2_with fail
    (refine ((uq T1) _ ((uq K0).trans (uq K2))).mono ?_; rintro e w3 ⟨va, vn, vc, rfl, hk9⟩; have K3 := hide ((uq K2).trans hk9); clear hk9)
    clear z0 z1 z2 z3 z4 z5 z6
    have hb3 := heap_alloc_new w3 (.cells #[.int .i64 X1, .int .i64 Y1, .slice va vn vc] 35)
    have K4 := hide ((uq K3).alloc (.cells #[.int .i64 X1, .int .i64 Y1, .slice va vn vc] 35))
    go_upto_region 4 with fail
    generalize w3.alloc (.cells #[.int .i64 X1, .int .i64 Y1, .slice va vn vc] 35) = w4 at hb3 K4 ⊢
    generalize w3.heap.size = qa at hb3 ⊢
    have B4 := hide hb3
    clear hb3
    have HEM := hide (emp_row w4 32)
    have HNW := hide (rin_at ((uq HRN).keep ((uq K0).trans ((uq K4).alloc (.cells #[] 32)))) rfl)
    go_upto_region 5 with (at_builtin; refine wpList_append_own _ rfl _ _ 29 rfl w4.heap.size 32 i0 _ 2 16 Try.underlying29 hi0 hz00 hz01 hz02 rfl (by decide) _ _ _ rfl (uq HEM) ad nf cf (fcs R) rfl (by rw [fcs_len, uq hR]) (uq HNW) (fcs_one R) (by unfold maxLen; omega) (by omega) (by simp) ?_; intro v' w5 hown' hgrow hnil; rw [Nat.zero_add, List.nil_append] at hown'; have HO5 := hide hown'; have HG5 := hide hgrow; clear hown' hgrow hnil)
    have K5 : Hid (Keep w4 w5) := hide (Below.grown ((Keep.refl w4).alloc (.cells #[] 32)) (uq HG5) (by simp) (fun j ej => ((uq HEM).lt j ej).1))
    obtain ⟨g, cap, cur, e5, hg5, hcur, hcell⟩ := more_row (uq HO5) hn
    subst e5
    have HCU := hide hcur
    have HCE := hide hcell
    have hgl : g < w5.heap.size := (Array.getElem?_eq_some_iff.1 hcur).1
    clear hcur hcell HO5 HG5 HEM HNW
    have HF := hide (fcs_at R i (by have := uq hR; omega))
    rw [uq HRi] at HF
    have m0 : w5.cell? ⟨g, i * 2, none⟩ = some (.int .i64 r1) := (uq HCE) _ _ (uq HF).1
    have m1 : w5.cell? ⟨g, i * 2 + 1, none⟩ = some (.int .i64 r2) := (uq HCE) _ _ (uq HF).2
    have li : (i : Int) < (nf : Int) := by omega
    have lz : ¬ (i : Int) < 0 := by omega
    go_upto_region 6 with fail
    have HS : Hid (∀ w' : World, Keep w5 w' → w'.cell? ⟨g, i * 2, none⟩ = some (.int .i64 r1) ∧ w'.cell? ⟨g, i * 2 + 1, none⟩ = some (.int .i64 r2)) := hide (fun w' k9 => ⟨kcl k9 m0, kcl k9 m1⟩)
    clear m0 m1
    go_cut [11, 12] (fun s11 s12 wc => ∃ B, s11 = .pointer (some ⟨B, 0, none⟩) ∧ s12 = .int .i64 be ∧ B < wc.heap.size ∧ w5.heap.size ≤ B ∧ wc.cell? ⟨B, 0, none⟩ = some (.int .i64 b1) ∧ wc.cell? ⟨B, 1, none⟩ = some (.int .i64 b2) ∧ Keep w5 wc)
    case first =>
      refine wp_region_held_drew (S := fun w' => w'.cell? ⟨g, i * 2, none⟩ = some (.int .i64 r1) ∧ w'.cell? ⟨g, i * 2 + 1, none⟩ = some (.int .i64 r2)) (by kernel_rfl) (by exact (uq HS) _ ((Keep.refl w5).drew)) (fun hHeld => ?_)
      refine tkk 0 46 hHeld ?_; try simp only [Act.put, Ya, Yb, Yc]
      refine tkk 1 47 hHeld ?_; try simp only [Act.put, Ya, Yb, Yc]
      refine tkk 2 48 hHeld ?_; try simp only [Act.put, Ya, Yb, Yc]
      refine tkk 3 49 hHeld ?_; try simp only [Act.put, Ya, Yb, Yc]
      refine wpAnyH_ready (rs := [4, 9]) (by kernel_rfl) (by simp) ?_
      refine AllReadyH.cons rfl (fun K hK => ?_) (AllReadyH.cons rfl (fun K hK => ?_) AllReadyH.nil)
      · skip
        go_simp
        clear hHeld
        (refine ((uq F3) _).mono ?_; rintro e w6 ⟨rfl, hk9⟩; obtain ⟨o6, k6, rfl⟩ := hk9.ext; clear hk9)
        try go_wp2_with fail
        refine hK.out _ _ ?_ (fun hHeld => ?_)
        · exact (uq HS) _ (by repeat (first | (with_reducible exact Keep.refl _) | apply keep_ext | apply Keep.alloc | apply Keep.drew))
        clear hK K
        try simp only [Act.put, Ya, Yb, Yc]
        refine wpAnyH_ready (rs := [5, 9]) (by kernel_rfl) (by simp) ?_
        refine AllReadyH.cons rfl (fun K hK => ?_) (AllReadyH.cons rfl (fun K hK => ?_) AllReadyH.nil)
        · skip
          go_simp
          clear hHeld
          (refine ((uq TD) _).mono ?_; rintro e w7 ⟨rfl, hk9⟩; obtain ⟨o7, k7, rfl⟩ := hk9.ext; clear hk9)
          try go_wp2_with fail
          refine hK.out _ _ ?_ (fun hHeld => ?_)
          · exact (uq HS) _ (by repeat (first | (with_reducible exact Keep.refl _) | apply keep_ext | apply Keep.alloc | apply Keep.drew))
          clear hK K
          try simp only [Act.put, Ya, Yb, Yc]
          refine tkk 6 45 hHeld ?_; try simp only [Act.put, Ya, Yb, Yc]
          refine tkk 7 52 hHeld ?_; try simp only [Act.put, Ya, Yb, Yc]
          refine tkk 8 53 hHeld ?_; try simp only [Act.put, Ya, Yb, Yc]
          refine rdyy 9 (fun K hK => ?_)
          go_simp
          clear hHeld
          refine hK.out _ _ ?_ (fun hHeld => ?_)
          · exact (uq HS) _ (by repeat (first | (with_reducible exact Keep.refl _) | apply keep_ext | apply Keep.alloc | apply Keep.drew))
          clear hK K
          try simp only [Act.put, Ya, Yb, Yc]
          refine rdyy 10 (fun K hK => ?_)
          go_simp
          clear hHeld
          refine hK.out _ _ ?_ (fun hHeld => ?_)
          · exact (uq HS) _ (by repeat (first | (with_reducible exact Keep.refl _) | apply keep_ext | apply Keep.alloc | apply Keep.drew))
          clear hK K
          try simp only [Act.put, Ya, Yb, Yc]
          refine tkk 11 12 hHeld ?_; try simp only [Act.put, Ya, Yb, Yc]
          refine wpAnyH_done (by kernel_rfl) ?_ _
          clear hHeld
          go_wp2_with fail
          go_meet
          exact ⟨_, rfl, rfl, by simp <;> omega, by simp <;> omega, by simp [go_sem], by simp [go_sem], by repeat (first | (with_reducible exact Keep.refl _) | apply keep_ext | apply Keep.alloc | apply Keep.drew | (refine keep_st ?_ (by simp <;> omega)))⟩
        · skip
          go_simp
          clear hHeld
          refine hK.out _ _ ?_ (fun hHeld => ?_)
          · exact (uq HS) _ (by repeat (first | (with_reducible exact Keep.refl _) | apply keep_ext | apply Keep.alloc | apply Keep.drew))
          clear hK K
          try simp only [Act.put, Ya, Yb, Yc]
          refine rdyy 5 (fun K hK => ?_)
          go_simp
          clear hHeld
          (refine ((uq TD) _).mono ?_; rintro e w7 ⟨rfl, hk9⟩; obtain ⟨o7, k7, rfl⟩ := hk9.ext; clear hk9)
          try go_wp2_with fail
          refine hK.out _ _ ?_ (fun hHeld => ?_)
          · exact (uq HS) _ (by repeat (first | (with_reducible exact Keep.refl _) | apply keep_ext | apply Keep.alloc | apply Keep.drew))
          clear hK K
          try simp only [Act.put, Ya, Yb, Yc]
          refine tkk 6 45 hHeld ?_; try simp only [Act.put, Ya, Yb, Yc]
          refine tkk 7 52 hHeld ?_; try simp only [Act.put, Ya, Yb, Yc]
          refine tkk 8 53 hHeld ?_; try simp only [Act.put, Ya, Yb, Yc]
          refine rdyy 10 (fun K hK => ?_)
          go_simp
          clear hHeld
          refine hK.out _ _ ?_ (fun hHeld => ?_)
          · exact (uq HS) _ (by repeat (first | (with_reducible exact Keep.refl _) | apply keep_ext | apply Keep.alloc | apply Keep.drew))
          clear hK K
          try simp only [Act.put, Ya, Yb, Yc]
          refine tkk 11 12 hHeld ?_; try simp only [Act.put, Ya, Yb, Yc]
          refine wpAnyH_done (by kernel_rfl) ?_ _
          clear hHeld
          go_wp2_with fail
          go_meet
          exact ⟨_, rfl, rfl, by simp <;> omega, by simp <;> omega, by simp [go_sem], by simp [go_sem], by repeat (first | (with_reducible exact Keep.refl _) | apply keep_ext | apply Keep.alloc | apply Keep.drew | (refine keep_st ?_ (by simp <;> omega)))⟩
      · skip
        go_simp
        clear hHeld
        refine hK.out _ _ ?_ (fun hHeld => ?_)
        · exact (uq HS) _ (by repeat (first | (with_reducible exact Keep.refl _) | apply keep_ext | apply Keep.alloc | apply Keep.drew))
        clear hK K
        try simp only [Act.put, Ya, Yb, Yc]
        refine rdyy 4 (fun K hK => ?_)
        go_simp
        clear hHeld
        (refine ((uq F3) _).mono ?_; rintro e w6 ⟨rfl, hk9⟩; obtain ⟨o6, k6, rfl⟩ := hk9.ext; clear hk9)
        try go_wp2_with fail
        refine hK.out _ _ ?_ (fun hHeld => ?_)
        · exact (uq HS) _ (by repeat (first | (with_reducible exact Keep.refl _) | apply keep_ext | apply Keep.alloc | apply Keep.drew))
        clear hK K
        try simp only [Act.put, Ya, Yb, Yc]
        refine rdyy 5 (fun K hK => ?_)
        go_simp
        clear hHeld
        (refine ((uq TD) _).mono ?_; rintro e w7 ⟨rfl, hk9⟩; obtain ⟨o7, k7, rfl⟩ := hk9.ext; clear hk9)
        try go_wp2_with fail
        refine hK.out _ _ ?_ (fun hHeld => ?_)
        · exact (uq HS) _ (by repeat (first | (with_reducible exact Keep.refl _) | apply keep_ext | apply Keep.alloc | apply Keep.drew))
        clear hK K
        try simp only [Act.put, Ya, Yb, Yc]
        refine tkk 6 45 hHeld ?_; try simp only [Act.put, Ya, Yb, Yc]
        refine tkk 7 52 hHeld ?_; try simp only [Act.put, Ya, Yb, Yc]
        refine tkk 8 53 hHeld ?_; try simp only [Act.put, Ya, Yb, Yc]
        refine rdyy 10 (fun K hK => ?_)
        go_simp
        clear hHeld
        refine hK.out _ _ ?_ (fun hHeld => ?_)
        · exact (uq HS) _ (by repeat (first | (with_reducible exact Keep.refl _) | apply keep_ext | apply Keep.alloc | apply Keep.drew))
        clear hK K
        try simp only [Act.put, Ya, Yb, Yc]
        refine tkk 11 12 hHeld ?_; try simp only [Act.put, Ya, Yb, Yc]
        refine wpAnyH_done (by kernel_rfl) ?_ _
        clear hHeld
        go_wp2_with fail
        go_meet
        exact ⟨_, rfl, rfl, by simp <;> omega, by simp <;> omega, by simp [go_sem], by simp [go_sem], by repeat (first | (with_reducible exact Keep.refl _) | apply keep_ext | apply Keep.alloc | apply Keep.drew | (refine keep_st ?_ (by simp <;> omega)))⟩
    case rest =>
      obtain ⟨B, hs11, hs12, hB1, hB2, m0, m1, hkc⟩ := hcut
      subst hs11 hs12
      have K6 := hide ((uq K5).trans hkc)
      have M6 := hide hkc
      clear hkc HS F3 TD
      have HRC : Hid (∀ w' : World, Keep w4 w' → w'.cell? (ad.add (i * 2)) = some (.int .i64 r1) ∧ w'.cell? ⟨(ad.add (i * 2)).block, (ad.add (i * 2)).off + 1, none⟩ = some (.int .i64 r2)) := hide (fun w' k9 => by
        obtain ⟨ad2, e2, _, f1, f2⟩ := (uq HRN).HF i (by have := uq hR; omega)
        cases e2
        rw [uq HRi] at f1 f2
        exact ⟨kcl ((uq K0).trans ((uq K4).trans k9)) f1, kcl ((uq K0).trans ((uq K4).trans k9)) f2⟩)
      obtain ⟨y0, y1⟩ := (uq HRC) wc (uq K6)
      by_cases hz1 : z1 = 0
      · by_cases hbe : be = 0
        · subst hz1 hbe
          go_wp2_with fail
          (refine ((uq TT) _).mono ?_; rintro e w7 ⟨rfl, hk9⟩)
          have p0 := kcl hk9 m0
          have p1 := kcl hk9 m1
          have K7 := hide ((uq K6).trans hk9)
          have M7 := hide ((uq M6).trans hk9)
          clear hk9 m0 m1 y0 y1
          cases rtb
          · go_wp2_with fail
            (refine ((uq TA) _).mono ?_; rintro e w99 ⟨rfl, hk99⟩)
            go_wp2_with fail
            go_ret
            exact ⟨rfl, (uq K0).trans ((uq K4).trans ((uq K7).trans hk99))⟩
          · skip
            have Bg := (uq M7).block g (by omega)
            rw [uq HCU] at Bg
            have HC7 : Hid (∀ j u, (fcs R)[j]? = some u → w7.cell? ⟨g, j, none⟩ = some u) := hide (fun j u h => kcl (uq M7) ((uq HCE) j u h))
            have m0 := (uq HC7) _ _ (uq HF).1
            have m1 := (uq HC7) _ _ (uq HF).2
            have q0f : w7.frozen? ⟨g, i * 2, none⟩ = false := by simp [World.frozen?, Bg]
            have q1f : w7.frozen? ⟨g, i * 2 + 1, none⟩ = false := by simp [World.frozen?, Bg]
            have HRS := hide (rin_set (i := i) (b1 := b1) (b2 := b2) Bg (uq HC7) (uq HRN).HI (by have := uq hR; omega) (by have := uq hR; omega) (uq hb))
            have K8 : Hid (Keep w4 ((w7.setCell ⟨g, i * 2, none⟩ (.int .i64 b1)).setCell ⟨g, i * 2 + 1, none⟩ (.int .i64 b2))) := hide (keep_st (keep_st (uq K7) hg5) hg5)
            have hBg : ¬ B = g := by omega
            have hgB : ¬ g = B := by omega
            have hg7 : g < w7.heap.size := (Array.getElem?_eq_some_iff.1 Bg).1
            have hB7 : B < w7.heap.size := World.block_lt_of_cell? w7 _ p0
            clear Bg HC7 HCU HCE
            go_upto_region 10 with fail
            clear m0 m1 q0f q1f p0 p1
            generalize (w7.setCell ⟨g, i * 2, none⟩ (.int .i64 b1)).setCell ⟨g, i * 2 + 1, none⟩ (.int .i64 b2) = w8 at HRS K8 ⊢
            obtain ⟨z0, z1, z2, z3, z4, z5, z6⟩ := (uq HX0) w8 ((uq K4).trans (uq K8))
            replace T2 := hide ((uq T2) (by first | rfl | trivial) (by first | rfl | trivial) (by first | rfl | trivial))
            go_wp2_with fail
            (refine ((uq T2) _ _ _ ((uq K0).trans ((uq K4).trans (uq K8))) (uq HRS)).mono ?_; rintro e w9 ⟨va2, vn2, vc2, rfl, hk9⟩; have K9 := hide ((uq K8).trans hk9); clear hk9)
            clear z0 z1 z2 z3 z4 z5 z6
            have hb9 := heap_alloc_new w9 (.cells #[.int .i64 X2, .int .i64 Y2, .slice va2 vn2 vc2] 35)
            have K10 := hide ((uq K9).alloc (.cells #[.int .i64 X2, .int .i64 Y2, .slice va2 vn2 vc2] 35))
            go_upto_region 11 with fail
            generalize w9.alloc (.cells #[.int .i64 X2, .int .i64 Y2, .slice va2 vn2 vc2] 35) = w10 at hb9 K10 ⊢
            generalize w9.heap.size = q2 at hb9 ⊢
            have n0 : w10.cell? ⟨q2, 0, none⟩ = some (.int .i64 X2) := by simp [World.cell?, hb9]
            have n1 : w10.cell? ⟨q2, 1, none⟩ = some (.int .i64 Y2) := by simp [World.cell?, hb9]
            clear hb9
            have Ba := (uq K10).block qa (Array.getElem?_eq_some_iff.1 (uq B4)).1
            rw [uq B4] at Ba
            have a0 : w10.cell? ⟨qa, 0, none⟩ = some (.int .i64 X1) := by simp [World.cell?, Ba]
            have a1 : w10.cell? ⟨qa, 1, none⟩ = some (.int .i64 Y1) := by simp [World.cell?, Ba]
            clear Ba
            have hmx : max 0 ((n4 : Int) - 1) = (m : Int) := by have := uq hm; omega
            have hmc : ¬ (c4 : Int) < (m : Int) := by have := uq hm; omega
            have hmc2 : (m : Int) ≤ (c4 : Int) := by omega
            have hmc3 : m ≤ c4 := by omega
            by_cases hz2 : z2 = 0
            · have HV := (uq HV2) (by first | rfl | trivial) (by first | rfl | trivial) (by first | rfl | trivial) hz2
              subst hz2
              go_wp2_with fail
              (refine ((uq C2) _).mono ?_; rintro e w11 ⟨rfl, hk9⟩; have K11 := hide ((uq K10).trans hk9); clear hk9)
              clear n0 n1 a0 a1
              have hvb : decide (v2 < 0) = false := decide_eq_false (by omega)
              obtain ⟨z0, z1, z2, z3, z4, z5, z6⟩ := (uq HX0) w11 ((uq K4).trans (uq K11))
              have lq0 : q0 < w11.heap.size := World.block_lt_of_cell? w11 _ z0
              go_upto_region 15 with fail
              clear z0 z1 z2 z3 z4 z5 z6
              have hbl := heap_alloc_new w11 (.cells #[.string s, .slice x1 n1 c1, .slice x2 n2 c2, .slice x3 n3 c3, .slice x4 m c4, .slice x5 n5 c5, .int .i64 p] 28)
              have K12 := hide ((uq K11).alloc (.cells #[.string s, .slice x1 n1 c1, .slice x2 n2 c2, .slice x3 n3 c3, .slice x4 m c4, .slice x5 n5 c5, .int .i64 p] 28))
              generalize w11.alloc (.cells #[.string s, .slice x1 n1 c1, .slice x2 n2 c2, .slice x3 n3 c3, .slice x4 m c4, .slice x5 n5 c5, .int .i64 p] 28) = w12 at hbl K12 ⊢
              generalize w11.heap.size = ql at hbl ⊢
              have l0 : w12.cell? ⟨ql, 0, none⟩ = some (.string s) := by simp [World.cell?, hbl]
              have l1 : w12.cell? ⟨ql, 1, none⟩ = some (.slice x1 n1 c1) := by simp [World.cell?, hbl]
              have l2 : w12.cell? ⟨ql, 2, none⟩ = some (.slice x2 n2 c2) := by simp [World.cell?, hbl]
              have l3 : w12.cell? ⟨ql, 3, none⟩ = some (.slice x3 n3 c3) := by simp [World.cell?, hbl]
              have l4 : w12.cell? ⟨ql, 4, none⟩ = some (.slice x4 m c4) := by simp [World.cell?, hbl]
              have l5 : w12.cell? ⟨ql, 5, none⟩ = some (.slice x5 n5 c5) := by simp [World.cell?, hbl]
              have l6 : w12.cell? ⟨ql, 6, none⟩ = some (.int .i64 p) := by simp [World.cell?, hbl]
              clear hbl
              go_wp2_with fail
              (refine ((uq T3) _ ((uq K0).trans ((uq K4).trans (uq K12)))).mono ?_; rintro e w13 ⟨va3, vn3, vc3, rfl, hk9⟩; have K13 := hide ((uq K12).trans hk9); clear hk9)
              clear l0 l1 l2 l3 l4 l5 l6
              have hb4 := heap_alloc_new w13 (.cells #[.int .i64 X3, .int .i64 Y3, .slice va3 vn3 vc3] 35)
              have K14 := hide ((uq K13).alloc (.cells #[.int .i64 X3, .int .i64 Y3, .slice va3 vn3 vc3] 35))
              go_upto_region 16 with fail
              generalize w13.alloc (.cells #[.int .i64 X3, .int .i64 Y3, .slice va3 vn3 vc3] 35) = w14 at hb4 K14 ⊢
              generalize w13.heap.size = qh at hb4 ⊢
              have n0 : w14.cell? ⟨qh, 0, none⟩ = some (.int .i64 X3) := by simp [World.cell?, hb4]
              have n1 : w14.cell? ⟨qh, 1, none⟩ = some (.int .i64 Y3) := by simp [World.cell?, hb4]
              clear hb4
              have Ba := (uq K14).block qa (Array.getElem?_eq_some_iff.1 (uq B4)).1
              rw [uq B4] at Ba
              have a0 : w14.cell? ⟨qa, 0, none⟩ = some (.int .i64 X1) := by simp [World.cell?, Ba]
              have a1 : w14.cell? ⟨qa, 1, none⟩ = some (.int .i64 Y1) := by simp [World.cell?, Ba]
              clear Ba
              have y0 := (uq HRC) w14 (uq K14)
              have K9 := K14
              by_cases hz3 : z3 = 0
              · by_cases hr1 : r1 < 0
                · subst hz3
                  have y1 := y0.1
                  go_wp2_with fail
                  (refine ((uq TA) _).mono ?_; rintro e w99 ⟨rfl, hk99⟩)
                  go_wp2_with fail
                  go_ret
                  exact ⟨rfl, (uq K0).trans ((uq K4).trans ((uq K14).trans hk99))⟩
                · have HV := hide ((uq HV3) (by first | rfl | trivial) hz3 (by omega))
                  subst hz3
                  have y1 := y0.1
                  have hrb : decide (r1 < 0) = false := decide_eq_false hr1
                  go_wp2_with fail
                  (refine ((uq C3) _).mono ?_; rintro e w15 ⟨rfl, hk9⟩; have K15 := hide ((uq K14).trans hk9); clear hk9)
                  by_cases hv : v3 ≤ 0
                  · go_wp2_with fail
                    (refine ((uq TA) _).mono ?_; rintro e w99 ⟨rfl, hk99⟩)
                    go_wp2_with fail
                    go_ret
                    exact ⟨rfl, (uq K0).trans ((uq K4).trans ((uq K15).trans hk99))⟩
                  · obtain rfl := (uq HV) (by omega)
                    have hvb : decide (v3 ≤ 0) = false := decide_eq_false hv
                    clear HV
                    go_wp2_with fail
                    (refine ((uq TB) _ ((uq K0).trans ((uq K4).trans (uq K15)))).mono ?_; rintro e w16 ⟨rfl, rfl⟩)
                    go_wp2_with fail
                    (refine ((uq TA) _).mono ?_; rintro e w99 ⟨rfl, hk99⟩)
                    go_wp2_with fail
                    go_ret
                    exact ⟨rfl, (uq K0).trans ((uq K4).trans ((uq K15).trans hk99))⟩
              · have hzb : (z3 != 0) = true := by simpa using hz3
                go_wp2_with fail
                (refine ((uq TA) _).mono ?_; rintro e w99 ⟨rfl, hk99⟩)
                go_wp2_with fail
                go_ret
                exact ⟨rfl, (uq K0).trans ((uq K4).trans ((uq K14).trans hk99))⟩
            · have hzb : (z2 == 0) = false := by simpa using hz2
              clear n0 n1 a0 a1
              obtain ⟨z0, z1, z2, z3, z4, z5, z6⟩ := (uq HX0) w10 ((uq K4).trans (uq K10))
              have lq0 : q0 < w10.heap.size := World.block_lt_of_cell? w10 _ z0
              go_upto_region 15 with fail
              clear z0 z1 z2 z3 z4 z5 z6
              have hbl := heap_alloc_new w10 (.cells #[.string s, .slice x1 n1 c1, .slice x2 n2 c2, .slice x3 n3 c3, .slice x4 m c4, .slice x5 n5 c5, .int .i64 p] 28)
              have K12 := hide ((uq K10).alloc (.cells #[.string s, .slice x1 n1 c1, .slice x2 n2 c2, .slice x3 n3 c3, .slice x4 m c4, .slice x5 n5 c5, .int .i64 p] 28))
              generalize w10.alloc (.cells #[.string s, .slice x1 n1 c1, .slice x2 n2 c2, .slice x3 n3 c3, .slice x4 m c4, .slice x5 n5 c5, .int .i64 p] 28) = w12 at hbl K12 ⊢
              generalize w10.heap.size = ql at hbl ⊢
              have l0 : w12.cell? ⟨ql, 0, none⟩ = some (.string s) := by simp [World.cell?, hbl]
              have l1 : w12.cell? ⟨ql, 1, none⟩ = some (.slice x1 n1 c1) := by simp [World.cell?, hbl]
              have l2 : w12.cell? ⟨ql, 2, none⟩ = some (.slice x2 n2 c2) := by simp [World.cell?, hbl]
              have l3 : w12.cell? ⟨ql, 3, none⟩ = some (.slice x3 n3 c3) := by simp [World.cell?, hbl]
              have l4 : w12.cell? ⟨ql, 4, none⟩ = some (.slice x4 m c4) := by simp [World.cell?, hbl]
              have l5 : w12.cell? ⟨ql, 5, none⟩ = some (.slice x5 n5 c5) := by simp [World.cell?, hbl]
              have l6 : w12.cell? ⟨ql, 6, none⟩ = some (.int .i64 p) := by simp [World.cell?, hbl]
              clear hbl
              go_wp2_with fail
              (refine ((uq T3) _ ((uq K0).trans ((uq K4).trans (uq K12)))).mono ?_; rintro e w13 ⟨va3, vn3, vc3, rfl, hk9⟩; have K13 := hide ((uq K12).trans hk9); clear hk9)
              clear l0 l1 l2 l3 l4 l5 l6
              have hb4 := heap_alloc_new w13 (.cells #[.int .i64 X3, .int .i64 Y3, .slice va3 vn3 vc3] 35)
              have K14 := hide ((uq K13).alloc (.cells #[.int .i64 X3, .int .i64 Y3, .slice va3 vn3 vc3] 35))
              go_upto_region 16 with fail
              generalize w13.alloc (.cells #[.int .i64 X3, .int .i64 Y3, .slice va3 vn3 vc3] 35) = w14 at hb4 K14 ⊢
              generalize w13.heap.size = qh at hb4 ⊢
              have n0 : w14.cell? ⟨qh, 0, none⟩ = some (.int .i64 X3) := by simp [World.cell?, hb4]
              have n1 : w14.cell? ⟨qh, 1, none⟩ = some (.int .i64 Y3) := by simp [World.cell?, hb4]
              clear hb4
              have Ba := (uq K14).block qa (Array.getElem?_eq_some_iff.1 (uq B4)).1
              rw [uq B4] at Ba
              have a0 : w14.cell? ⟨qa, 0, none⟩ = some (.int .i64 X1) := by simp [World.cell?, Ba]
              have a1 : w14.cell? ⟨qa, 1, none⟩ = some (.int .i64 Y1) := by simp [World.cell?, Ba]
              clear Ba
              have y0 := (uq HRC) w14 (uq K14)
              have K9 := K14
              by_cases hz3 : z3 = 0
              · by_cases hr1 : r1 < 0
                · subst hz3
                  have y1 := y0.1
                  go_wp2_with fail
                  (refine ((uq TA) _).mono ?_; rintro e w99 ⟨rfl, hk99⟩)
                  go_wp2_with fail
                  go_ret
                  exact ⟨rfl, (uq K0).trans ((uq K4).trans ((uq K14).trans hk99))⟩
                · have HV := hide ((uq HV3) (by first | rfl | trivial) hz3 (by omega))
                  subst hz3
                  have y1 := y0.1
                  have hrb : decide (r1 < 0) = false := decide_eq_false hr1
                  go_wp2_with fail
                  (refine ((uq C3) _).mono ?_; rintro e w15 ⟨rfl, hk9⟩; have K15 := hide ((uq K14).trans hk9); clear hk9)
                  by_cases hv : v3 ≤ 0
                  · go_wp2_with fail
                    (refine ((uq TA) _).mono ?_; rintro e w99 ⟨rfl, hk99⟩)
                    go_wp2_with fail
                    go_ret
                    exact ⟨rfl, (uq K0).trans ((uq K4).trans ((uq K15).trans hk99))⟩
                  · obtain rfl := (uq HV) (by omega)
                    have hvb : decide (v3 ≤ 0) = false := decide_eq_false hv
                    clear HV
                    go_wp2_with fail
                    (refine ((uq TB) _ ((uq K0).trans ((uq K4).trans (uq K15)))).mono ?_; rintro e w16 ⟨rfl, rfl⟩)
                    go_wp2_with fail
                    (refine ((uq TA) _).mono ?_; rintro e w99 ⟨rfl, hk99⟩)
                    go_wp2_with fail
                    go_ret
                    exact ⟨rfl, (uq K0).trans ((uq K4).trans ((uq K15).trans hk99))⟩
              · have hzb : (z3 != 0) = true := by simpa using hz3
                go_wp2_with fail
                (refine ((uq TA) _).mono ?_; rintro e w99 ⟨rfl, hk99⟩)
                go_wp2_with fail
                go_ret
                exact ⟨rfl, (uq K0).trans ((uq K4).trans ((uq K14).trans hk99))⟩
        · have hbb : (be != 0) = true := by simpa using hbe
          subst hz1
          go_wp2_with fail
          (refine ((uq TA) _).mono ?_; rintro e w99 ⟨rfl, hk99⟩)
          go_wp2_with fail
          go_ret
          exact ⟨rfl, (uq K0).trans ((uq K4).trans ((uq K6).trans hk99))⟩
      · have hzb : (z1 != 0) = true := by simpa using hz1
        go_wp2_with fail
        (refine ((uq TA) _).mono ?_; rintro e w99 ⟨rfl, hk99⟩)
        go_wp2_with fail
        go_ret
        exact ⟨rfl, (uq K0).trans ((uq K4).trans ((uq K6).trans hk99))⟩
end Cr
end Go.Proofs.Ytdgmndjofbdgeaa
