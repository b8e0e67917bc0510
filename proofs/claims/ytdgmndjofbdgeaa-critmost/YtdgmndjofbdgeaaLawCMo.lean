/- Proved: for every node and all ratios, few of each (50; 5 groups of 2 rings at most), no way through the node, one ring of each group, has a greater sum than the critical one, and one has just that, ways whose sum does not fit aside. -/
import Derived.Test.YtdgmndjofbdgeaaRows
import Derived.Test.YtdgmndjofbdgeaaCrZ
import Derived.Test.YtdgmndjofbdgeaaCrV
namespace Go.Proofs.Ytdgmndjofbdgeaa.cmost
open Go.ChangeShapes Go.WideShapes Go.ChangeAt Go.RowKit
open Go.WideMaps Go.WideElems
set_option linter.unusedVariables false
set_option linter.unusedSimpArgs false
set_option maxRecDepth 10000
open Cr S
theorem ouW_mem {LL : List (List Int)} {r : List Int} : ∀ i, r ∈ ouW LL i ↔ ∃ i', i' < i ∧ ∃ q ∈ LL, r = (i' : Int) :: q
  | 0 => by simp [ouW]
  | i + 1 => by
    rw [ouW, List.mem_append, ouW_mem i, List.mem_map]
    constructor
    · rintro (⟨i', h1, q, h2, h3⟩ | ⟨q, h2, h3⟩)
      · exact ⟨i', by omega, q, h2, h3⟩
      · exact ⟨i, by omega, q, h2, h3.symm⟩
    · rintro ⟨i', h1, q, h2, h3⟩
      rcases Nat.lt_or_ge i' i with h | h
      · exact .inl ⟨i', h, q, h2, h3⟩
      · obtain rfl : i' = i := by omega
        exact .inr ⟨q, h2, h3.symm⟩
theorem wL_len {NG : Nat → Nat} : ∀ (m f : Nat), (∀ k, f ≤ k → k < f + m → NG k ≤ 2) → (wL NG m f).length ≤ 2 ^ m
  | 0, f, _ => by simp [wL]
  | m + 1, f, h => by
    have h1 := wL_len m (f + 1) (fun k a b => h k (by omega) (by omega))
    have h2 := h f (by omega) (by omega)
    rw [wL, ouW_len]
    have := Nat.mul_le_mul h2 h1
    rw [Nat.pow_succ]
    omega
theorem wL_in {NG : Nat → Nat} : ∀ (m f : Nat) (r : List Int), r ∈ wL NG m f → r.length = m ∧ ∀ j, j < m → ∃ g : Nat, r.getD j 0 = (g : Int) ∧ g < NG (f + j)
  | 0, f, r, h => by
    obtain rfl : r = [] := by simpa [wL] using h
    exact ⟨rfl, fun j hj => by omega⟩
  | m + 1, f, r, h => by
    rw [wL] at h
    obtain ⟨i, hi, q, hq, rfl⟩ := (ouW_mem _).1 h
    obtain ⟨h1, h2⟩ := wL_in m (f + 1) q hq
    refine ⟨by simp [h1], fun j hj => ?_⟩
    cases j with
    | zero => exact ⟨i, rfl, hi⟩
    | succ j =>
      obtain ⟨g, e, hg⟩ := h2 j (by omega)
      exact ⟨g, by simpa using e, by rw [show f + (j + 1) = f + 1 + j by omega]; exact hg⟩
def gL (G : Nat → Nat) : Nat → Nat → List Int
  | 0, _ => []
  | m + 1, f => (G f : Int) :: gL G m (f + 1)
theorem gL_at (G : Nat → Nat) : ∀ (m f j : Nat), j < m → (gL G m f).getD j 0 = (G (f + j) : Int)
  | 0, f, j, h => by omega
  | m + 1, f, 0, h => rfl
  | m + 1, f, j + 1, h => by
    have := gL_at G m (f + 1) j (by omega)
    rw [show f + (j + 1) = f + 1 + j by omega, ← this]
    simp [gL]
theorem wL_has {NG G : Nat → Nat} : ∀ (m f : Nat), (∀ k, f ≤ k → k < f + m → G k < NG k) → gL G m f ∈ wL NG m f
  | 0, f, _ => by simp [wL, gL]
  | m + 1, f, h => (ouW_mem _).2 ⟨G f, h f (by omega) (by omega), gL G m (f + 1), wL_has m (f + 1) (fun k a b => h k (by omega) (by omega)), rfl⟩
theorem ways_any {w : World} {s : ByteArray} {x1 : Option Addr} {n1 c1 : Nat} {x2 : Option Addr} {n2 c2 : Nat} {x3 : Option Addr} {n3 c3 : Nat} {x4 : Option Addr} {n4 c4 : Nat} {x5 : Option Addr} {n5 c5 : Nat} {p : Int} {XG : Nat → Option Addr} {NG CG : Nat → Nat} {FR : Nat → Nat → Bool} {XR : Nat → Nat → Option Addr} {T : Nat → Nat → List (List UInt8)} {CR : Nat → Nat → Nat} {A : List UInt8 → Int} (h : Nin w s x1 n1 c1 x2 n2 c2 x3 n3 c3 x4 n4 c4 x5 n5 c5 p XG NG CG FR XR T CR A) (h5 : n4 ≤ 5) (h2 : ∀ k, k < n4 → NG k ≤ 2) : ∀ (m f : Nat), f + m = n4 → ∀ w', Keep w w' → Calls Try.prog 13 #[.agg #[.string s, .slice x1 n1 c1, .slice x2 n2 c2, .slice x3 n3 c3, .slice x4 n4 c4, .slice x5 n5 c5, .int .i64 p], .int .i64 (f : Int)] w' (Wq (wL NG m f) w')
  | 0, f, e, w', k' => ways_base s x1 n1 c1 x2 n2 c2 x3 n3 c3 x4 n4 c4 x5 n5 c5 p (f : Int) w' (by omega)
  | m + 1, f, e, w', k' => by
    have hl := wL_len (NG := NG) m (f + 1) (fun k a b => h2 k (by omega))
    have hp : 2 ^ m ≤ 2 ^ 4 := Nat.pow_le_pow_right (by omega) (by omega)
    refine ways_step s x1 n1 c1 x2 n2 c2 x3 n3 c3 x4 n4 c4 x5 n5 c5 p f (NG f) (CG f) (XG f) (wL NG m (f + 1)) w' (by omega) (by omega) (h2 f (by omega)) (by omega) (hide fun k => ?_) (hide ((h.keep k').HC f (by omega))) (hide fun w2 k2 => ?_)
    · rcases Nat.lt_or_ge k (wL NG m (f + 1)).length with hk | hk
      · rw [(wL_in m (f + 1) _ (getD_mem hk)).1]; omega
      · rw [List.getD_eq_getElem?_getD, List.getElem?_eq_none hk]; simp
    · have := ways_any h h5 h2 m (f + 1) (by omega) w2 (k'.trans k2)
      rw [show (((f + 1 : Nat)) : Int) = (f : Int) + 1 by omega] at this
      exact this
theorem wayL_short {A : List UInt8 → Int} {T : Nat → Nat → List (List UInt8)} {G NG : Nat → Nat} : ∀ n, (∀ k, k < n → G k < NG k) → (∀ k, k < n → ∀ j, j < NG k → (T k j).length ≤ 50) → (wayL A T G n).length ≤ n * 50
  | 0, _, _ => by simp [wayL, wy]
  | n + 1, hG, hT => by
    have h2 := wayL_short (A := A) (T := T) n (fun k hk => hG k (by omega)) (fun k hk => hT k (by omega))
    have h3 := Cr.plc_len A (T n (G n))
    have h4 := hT n (by omega) _ (hG n (by omega))
    have e : wayL A T G (n + 1) = wayL A T G n ++ Cr.plc A (T n (G n)) := rfl
    rw [e, List.length_append, Nat.succ_mul]
    omega
theorem wayL_nn {A : List UInt8 → Int} {T : Nat → Nat → List (List UInt8)} {G : Nat → Nat} {q : Nat} (hA : ∀ nm, A nm < (q : Int)) : ∀ n, ∀ x ∈ wayL A T G n, ∃ m : Nat, x = (m : Int) ∧ m < q
  | 0, x, hx => by simp [wayL, wy] at hx
  | n + 1, x, hx => by
    have e : wayL A T G (n + 1) = wayL A T G n ++ Cr.plc A (T n (G n)) := rfl
    rw [e, List.mem_append] at hx
    rcases hx with hx | hx
    · exact wayL_nn hA n x hx
    · exact plc_nn hA hx
set_option maxHeartbeats 4000000 in
theorem early (s : ByteArray) (x1 : Option Addr) (n1 c1 : Nat) (x2 : Option Addr) (n2 c2 : Nat) (x3 : Option Addr) (n3 c3 : Nat) (x4 : Option Addr) (n4 c4 : Nat) (x5 : Option Addr) (n5 c5 : Nat) (p : Int) (xf : Option Addr) (nf cf : Nat) (P : Prop) (w : World) (h : ¬ P)
    (TF : Hid (∀ w', Keep w w' → Calls Try.prog 6 #[.agg #[.string s, .slice x1 n1 c1, .slice x2 n2 c2, .slice x3 n3 c3, .slice x4 n4 c4, .slice x5 n5 c5, .int .i64 p], .slice xf nf cf] w' (Ak3 P w'))) :
    Calls Try.prog 4 #[.agg #[.string s, .slice x1 n1 c1, .slice x2 n2 c2, .slice x3 n3 c3, .slice x4 n4 c4, .slice x5 n5 c5, .int .i64 p], .slice xf nf cf] w fun e w' => e = .returned (.bool true) ∧ Keep w w' := by
  have hnw0 := heap_alloc_new w (.cells #[.string s, .slice x1 n1 c1, .slice x2 n2 c2, .slice x3 n3 c3, .slice x4 n4 c4, .slice x5 n5 c5, .int .i64 p] 28)
  have K0 := hide ((Keep.refl w).alloc (.cells #[.string s, .slice x1 n1 c1, .slice x2 n2 c2, .slice x3 n3 c3, .slice x4 n4 c4, .slice x5 n5 c5, .int .i64 p] 28))
  go_enter Try.func4, Try.ntmps4
  go_upto_region 1 with fail
  generalize w.alloc (.cells #[.string s, .slice x1 n1 c1, .slice x2 n2 c2, .slice x3 n3 c3, .slice x4 n4 c4, .slice x5 n5 c5, .int .i64 p] 28) = w0 at hnw0 K0 ⊢
  obtain ⟨q0, HQ0⟩ : ∃ q, Hid (w.heap.size = q) := ⟨_, hide rfl⟩
  rw [uq HQ0] at hnw0 ⊢
  have HX0 : Hid (∀ w' : World, Keep w0 w' → w'.cell? ⟨q0, 0, none⟩ = some (.string s) ∧ w'.cell? ⟨q0, 1, none⟩ = some (.slice x1 n1 c1) ∧ w'.cell? ⟨q0, 2, none⟩ = some (.slice x2 n2 c2) ∧ w'.cell? ⟨q0, 3, none⟩ = some (.slice x3 n3 c3) ∧ w'.cell? ⟨q0, 4, none⟩ = some (.slice x4 n4 c4) ∧ w'.cell? ⟨q0, 5, none⟩ = some (.slice x5 n5 c5) ∧ w'.cell? ⟨q0, 6, none⟩ = some (.int .i64 p)) := hide (fun w' k9 => by
    have h1 := k9.block q0 (Array.getElem?_eq_some_iff.1 hnw0).1
    rw [hnw0] at h1
    refine ⟨?_, ?_, ?_, ?_, ?_, ?_, ?_⟩ <;> simp [World.cell?, h1])
  clear hnw0
  obtain ⟨z0, z1, z2, z3, z4, z5, z6⟩ := (uq HX0) w0 (Keep.refl _)
  go_wp2_with fail
  (refine ((uq TF) _ (uq K0)).mono ?_; rintro e w2 ⟨b, rfl, hk9, hp9⟩; have K2 := hide hk9; have HP := hide hp9; clear hk9 hp9)
  clear z0 z1 z2 z3 z4 z5 z6
  cases b
  · go_wp2_with fail
    go_ret
    exact ⟨rfl, (uq K0).trans (uq K2)⟩
  · exact absurd ((uq HP) rfl) h
set_option maxHeartbeats 2000000 in
theorem walk {w : World} {ds : List D} {us : List Value} (hs : ShL nodeT ds) (hr : Rvs w ds us) {es : List D} {v : Value} (gs : ShL fracsT es) (gr : Rvs w es [v]) : Calls Try.prog 4 #[.agg us.toArray, v] w fun e w' => e = .returned (.bool true) ∧ Below w.heap.size w w' := by
  obtain ⟨s, x1, n1, c1, x2, n2, c2, x3, n3, c3, x4, n4, c4, x5, n5, c5, p, XG, NG, CG, FR, XR, T, CR, A, rfl, hl4, hc4, hN⟩ := nin_of hs hr
  obtain ⟨xf, cf, R, rfl, hlR, hcR, hR⟩ := fracs gs gr
  have TF := fun w' (k' : Keep w w') => few_law s x1 n1 c1 x2 n2 c2 x3 n3 c3 x4 n4 c4 x5 n5 c5 p hs (Rvs.keep k' _ _ hr) xf R.length cf
  have m0 : maxLen ≤ 9223372036854775807 := by decide
  by_cases hP : R.length ≤ 50 ∧ FewN ds
  · have h := hN hP.2
    have hrr := hR hP.1
    obtain ⟨X, Y, z, I, _, d1, _, in1, D1⟩ := sq_det (Qr R A T) NG n3 n4 R.length
    by_cases hq : n4 ≤ 5 ∧ ∀ k, k < n4 → NG k ≤ 2
    · have hl := wL_len (NG := NG) n4 0 (fun k a b => hq.2 k (by omega))
      have hp5 : 2 ^ n4 ≤ 2 ^ 5 := Nat.pow_le_pow_right (by omega) hq.1
      have hin : ∀ k, k < (wL NG n4 0).length → ((wL NG n4 0).getD k []).length = n4 ∧ ∀ j, j < n4 → ((wL NG n4 0).getD k []).getD j 0 = (((((wL NG n4 0).getD k []).getD j 0).toNat : Nat) : Int) ∧ (((wL NG n4 0).getD k []).getD j 0).toNat < NG j := fun k hk => by
        obtain ⟨a, b⟩ := wL_in n4 0 _ (getD_mem (d := []) hk)
        refine ⟨a, fun j hj => ?_⟩
        obtain ⟨g, e1, e2⟩ := b j hj
        rw [e1]
        rw [Nat.zero_add] at e2
        exact ⟨by simp, by simpa using e2⟩
      refine cmost_core s x1 n1 c1 x2 n2 c2 x3 n3 c3 x4 n4 c4 x5 n5 c5 p xf R.length cf (R.length ≤ 50 ∧ FewN ds) R XG NG CG (wL NG n4 0) (fun k => wayL A T (fun j => (((wL NG n4 0).getD k []).getD j 0).toNat) n4) X Y z w (hide in1) (by omega) (by omega) (hide h.HC) (hide TF) (hide awake_any)
        (hide fun _ w' k' => (sum_any (h.keep k') cf (hrr.keep k')).mono fun e w'' hh => by obtain ⟨va, vc, e1, e2, _⟩ := D1 w' e w'' hh; exact ⟨va, _, vc, e1, e2⟩)
        (hide fun _ => ⟨hrr, rfl⟩) (hide fun _ _ _ _ w' k' => ways_any h hq.1 hq.2 n4 0 (by omega) w' k')
        (hide fun _ _ _ _ k hk u w' k' ho => way_any (h.keep k') (fun j => (((wL NG n4 0).getD k []).getD j 0).toNat) (is_own ho) (hin k hk).1 (fun j hj => (hin k hk).2 j hj))
        (hide fun _ _ _ hz k hk => ?_) (hide fun _ _ _ hz => ?_) (hide rsumK) (hide cmpC)
      · obtain ⟨o1, s1, q1, _⟩ := d1 hz
        have hG : ∀ j, j < n4 → (((wL NG n4 0).getD k []).getD j 0).toNat < NG j := fun j hj => ((hin k hk).2 j hj).2
        refine ⟨?_, fun j hj => ?_, fun h0 => ?_⟩
        · have := wayL_short (A := A) (T := T) (G := fun j => (((wL NG n4 0).getD k []).getD j 0).toNat) n4 hG h.bt
          omega
        · obtain ⟨m, e1, e2⟩ := wayL_nn (A := A) h.HA n4 _ (getD_mem (d := 0) hj)
          exact ⟨m, e1, by rw [o1.1]; exact e2⟩
        · rw [q1, gtF_v, (sS_v h0).2, vS_way]
          exact fun hx => hx (crit_most o1.2 s1 _ hG)
      · obtain ⟨o1, s1, q1, _⟩ := d1 hz
        have hmem := wL_has (NG := NG) (G := gR (Qr R A T) NG) n4 0 (fun k _ hk => gR_lt (o1.2 k (by omega)))
        obtain ⟨k, hk, e⟩ := List.getElem_of_mem hmem
        refine ⟨k, hk, ?_⟩
        have e2 : (wL NG n4 0).getD k [] = gL (gR (Qr R A T) NG) n4 0 := by rw [List.getD_eq_getElem?_getD, List.getElem?_eq_getElem hk, e]; rfl
        have e3 : wayL A T (fun j => (((wL NG n4 0).getD k []).getD j 0).toNat) n4 = wayL A T (gR (Qr R A T) NG) n4 := by
          rw [e2]
          refine wy_congr n4 fun j hj => ?_
          show Cr.plc A (T j ((gL (gR (Qr R A T) NG) n4 0).getD j 0).toNat) = _
          rw [gL_at _ _ _ _ hj, Nat.zero_add]
          simp
        show Cr.Met R X Y (wayL A T (fun j => (((wL NG n4 0).getD k []).getD j 0).toNat) n4)
        rw [e3]
        by_cases h0 : sZ (rts R (wayL A T (gR (Qr R A T) NG) n4)) = 0
        · refine .inr ?_
          obtain ⟨r1, r2⟩ := sS_v h0
          obtain ⟨r3, r4⟩ := crit_v o1.2 s1
          rw [q1]
          refine rt_eq r1 r3 ?_
          rw [r2, r4, vS_way]
        · exact .inl h0
    · exact cmost_core s x1 n1 c1 x2 n2 c2 x3 n3 c3 x4 n4 c4 x5 n5 c5 p xf R.length cf (R.length ≤ 50 ∧ FewN ds) R XG NG CG [] (fun _ => []) X Y z w (hide in1) (by omega) (by simp) (hide h.HC) (hide TF) (hide awake_any)
        (hide fun _ w' k' => (sum_any (h.keep k') cf (hrr.keep k')).mono fun e w'' hh => by obtain ⟨va, vc, e1, e2, _⟩ := D1 w' e w'' hh; exact ⟨va, _, vc, e1, e2⟩)
        (hide fun _ => ⟨hrr, rfl⟩) (hide fun _ a b => absurd ⟨a, b⟩ hq) (hide fun _ a b => absurd ⟨a, b⟩ hq) (hide fun _ a b => absurd ⟨a, b⟩ hq) (hide fun _ a b => absurd ⟨a, b⟩ hq) (hide rsumK) (hide cmpC)
  · refine early s x1 n1 c1 x2 n2 c2 x3 n3 c3 x4 n4 c4 x5 n5 c5 p xf R.length cf _ w hP (hide TF)
theorem laidOut : laidOutB Try.prog = true := by kernel_rfl
theorem own : ownKnob Try.prog.godebug = none := by kernel_rfl
set_option maxHeartbeats 400000 in
set_option maxRecDepth 100000 in
theorem lifted (os : Os) (started : os.Started) (H : Type) (enc : TypeId × Value → H) :
    ReturnsInHanded {} Try.checked os 4 .any (Rows.critMostSpec.pre6 enc Try.prog Try.f4 Rows.critMostRow.domain false) (Rows.critMostSpec.post enc Try.prog Try.f4 false true false false) := by
  refine returnsInHanded_of_change (C := Try.checked) own started (by kernel_rfl) Try.func4
    (ChangeSpec.witness6 (enc := enc) (C := Try.checked) false ⟨#[], #[.agg #[.string ⟨#[]⟩, .slice none 0 0, .slice none 0 0, .slice none 0 0, .slice none 0 0, .slice none 0 0, .int .i64 0], .slice none 0 0], []⟩ 8 (by kernel_rfl) (by kernel_rfl) (by kernel_rfl) (by kernel_rfl)) ?_
  intro W base args ds gs before hval0 hW hcnd _
  have hval : ∀ (j : Nat) t v, Try.f4.params[j]? = some t → args[j]? = some v → Value.okWide Try.prog W .any base t v := hval0
  have hW' := hW
  obtain ⟨p, q, hA0, hV, rfl, hfz, hnd⟩ := hW
  have hA : DataW.TrodAll enc Try.prog W 0 (fun _ => true) true Try.f4.params.toList args.toList ds p := hA0
  rw [Try.params4] at hA hval
  obtain ⟨v0, vs0, d0, ds0, p0, q0, hargs, rfl, rfl, h0, r0⟩ := trodAll_cons hA
  obtain ⟨v1, vs1, d1, ds1, p1, q1, rfl, rfl, rfl, h1, r1⟩ := trodAll_cons r0
  obtain ⟨rfl, rfl, rfl⟩ := trodAll_nil r1
  obtain rfl : args = #[v0, v1] := by cases args; simp_all
  obtain ⟨rfl, rfl⟩ := trodVars_none hV
  have k0 := h0
  have lt0 : ∀ x ∈ p0, x.block < W.heap.size := by obtain ⟨m, hm⟩ := k0; exact DataW.trod_lt m _ _ _ hm
  obtain ⟨es0, us0, rfl, s0, x0⟩ := open_struct Try.underlying28 Cr.node_desc (hval 0 28 v0 rfl rfl) h0
  clear h0
  have k1 := h1
  have lt1 : ∀ x ∈ p1, x.block < W.heap.size := by obtain ⟨m, hm⟩ := k1; exact DataW.trod_lt m _ _ _ hm
  obtain ⟨es1, s1, x1⟩ := Cr.open_row Try.underlying29 Cr.fracs_desc (hval 1 29 v1 rfl rfl) h1
  clear h1
  clear hA0 hval0
  refine (walk s0 x0 s1 x1).mono fun e W' ⟨he, bel⟩ => ?_
  subst he
  exact ⟨_, rfl, _, _, _, [], _, [], hW', trodAll_mk1 (shut_bool Try.underlying4 _), (trodAll_cons_mk (Below.trod laidOut (by kernel_rfl) (of_decide_eq_true (by kernel_rfl)) k0 bel lt0) (trodAll_cons_mk (Below.trod laidOut (by kernel_rfl) (of_decide_eq_true (by kernel_rfl)) k1 bel lt1) trodAll_mk0)), rfl, bel.frame _, fun h => by cases h⟩
theorem over : Rows.critMostRow.holds Try.pinned (OpenSpec.ofChange Rows.critMostSpec) :=
  OpenClaim.holds_of_wide 4 Try.f4 rfl rfl rfl rfl rfl rfl rfl ⟨rfl, rfl, rfl, rfl, rfl⟩ rfl rfl rfl rfl rfl (by kernel_rfl) Try.func4 (by kernel_rfl)
    (of_decide_eq_true (by kernel_rfl)) (by unfold Func.isWrapper; first | (rw [if_pos (by decide +kernel)]; kernel_rfl) | (rw [if_neg (by decide +kernel)]; exact ⟨rfl, rfl⟩))
    (fun os started H enc _ => lifted os started H enc)

end Go.Proofs.Ytdgmndjofbdgeaa.cmost
namespace Go.Proofs.Ytdgmndjofbdgeaa
theorem CritMost_holds : Rows.CritMostSaid := cmost.over
end Go.Proofs.Ytdgmndjofbdgeaa
