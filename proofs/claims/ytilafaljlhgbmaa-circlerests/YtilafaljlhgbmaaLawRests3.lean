/- Proved: for every cycle of at most 300 ticks, or of none that there is, and at most 30 arcs each: what meets the rest is nothing, both together are all, the rest of the rest is the same, what is not of both is of one rest, and what is one's alone is what it shares with the other's rest (more is let by). -/
import Derived.Test.YtilafaljlhgbmaaRows
import Derived.Test.YtilafaljlhgbmaaCAwk
import Derived.Test.YtilafaljlhgbmaaCApp
import Derived.Test.YtilafaljlhgbmaaCOpa
namespace Go.Proofs.Ytilafaljlhgbmaa.rests
open Go.ChangeShapes Go.WideShapes Go.ChangeAt Go.RowKit Go.Joins
set_option linter.unusedVariables false
set_option maxRecDepth 10000
set_option maxHeartbeats 1000000 in
theorem walk0 (c : Int) (a a' : Option Addr) (n cap n' cap' : Nat) (w : World) (T0 : Hid (∀ w g, w.cell? ⟨g, 0, none⟩ = some (.slice a n cap) → w.cell? ⟨g, 1, none⟩ = some (.slice a' n' cap') → Calls Try.prog 9 #[.int .i64 c, .slice (some ⟨g, 0, none⟩) 2 2] w fun e w' => e = .returned (.bool false) ∧ w' = w)) :
    Calls Try.prog 7 #[.int .i64 c, .slice a n cap, .slice a' n' cap'] w fun e w' => e = .returned (.bool true) ∧ Below w.heap.size w w' := by
  go_enter Try.func7, Try.ntmps7
  go_wp2_with fail
  (refine ((unhide T0) _ _ (by simp [go_sem]) (by simp [go_sem])).mono ?_; rintro e w2 ⟨rfl, rfl⟩)
  go_wp2_with fail
  go_ret
  exact ⟨rfl, (Below.refl _ w).alloc (Nat.le_refl _) _⟩
/-- the calls that the law makes, as lists: R the rest of A, RB that of B, S A in form, X the rest of what both share, Z A's alone -/
structure Ctx (c : Int) (w : World) (va vb : Value) (A B R RB S X MB Z : List Pr) (u u' : Int) : Prop where
  rest : ∀ w' v L, Rs w' v L → L.length ≤ 6000 → (L = A → Calls Try.prog 28 #[.int .i64 c, v] w' fun e w'' => ∃ v, e = .returned v ∧ Rs w'' v R ∧ Keep w' w'') ∧ (L = B → Calls Try.prog 28 #[.int .i64 c, v] w' fun e w'' => ∃ v, e = .returned v ∧ Rs w'' v RB ∧ Keep w' w'') ∧ (L = R → Calls Try.prog 28 #[.int .i64 c, v] w' fun e w'' => ∃ v, e = .returned v ∧ Rs w'' v S ∧ Keep w' w'') ∧ (L = MB → Calls Try.prog 28 #[.int .i64 c, v] w' fun e w'' => ∃ v, e = .returned v ∧ Rs w'' v X ∧ Keep w' w'')
  meet : ∀ w' v v' L, Rs w' v A → Rs w' v' L → (L = R → Calls Try.prog 24 #[.int .i64 c, v, v'] w' fun e w'' => ∃ v, e = .returned v ∧ Rs w'' v [] ∧ Keep w' w'') ∧ (L = B → Calls Try.prog 24 #[.int .i64 c, v, v'] w' fun e w'' => ∃ v, e = .returned v ∧ Rs w'' v MB ∧ Keep w' w'') ∧ (L = RB → Calls Try.prog 24 #[.int .i64 c, v, v'] w' fun e w'' => ∃ v, e = .returned v ∧ Rs w'' v Z ∧ Keep w' w'')
  set : ∀ w' v, (Rs w' v A → Calls Try.prog 11 #[.int .i64 c, v] w' fun e w'' => ∃ v, e = .returned v ∧ Rs w'' v S ∧ Keep w' w'') ∧ (Rs w' v (R ++ RB) → Calls Try.prog 11 #[.int .i64 c, v] w' fun e w'' => ∃ v, e = .returned v ∧ Rs w'' v X ∧ Keep w' w'')
  less : ∀ w' v v', Rs w' v A → Rs w' v' B → Calls Try.prog 26 #[.int .i64 c, v, v'] w' fun e w'' => ∃ v, e = .returned v ∧ Rs w'' v Z ∧ Keep w' w''
  same : ∀ w' v v' L, L.length ≤ 6000 → Rs w' v L → Rs w' v' L → Calls Try.prog 10 #[v, v'] w' fun e w'' => e = .returned (.bool true) ∧ Keep w' w''
  tot : ∀ w' v, (Rs w' v A → Calls Try.prog 13 #[.int .i64 c, v] w' fun e w'' => e = .returned (.int .i64 u) ∧ Keep w' w'') ∧ (Rs w' v R → Calls Try.prog 13 #[.int .i64 c, v] w' fun e w'' => e = .returned (.int .i64 u') ∧ Keep w' w'')
  awk : ∀ w', Calls Try.prog 17 #[] w' fun e w'' => e = .returned (.bool true) ∧ Keep w' w''
  len : A.length ≤ 6000 ∧ B.length ≤ 6000 ∧ R.length ≤ 6000 ∧ RB.length ≤ 6000 ∧ S.length ≤ 6000 ∧ X.length ≤ 6000 ∧ MB.length ≤ 6000 ∧ Z.length ≤ 6000
theorem own_none (v : Value) : v.ownBlock = none ∨ v.ownBlock ≠ none := by cases v.ownBlock <;> simp
theorem ta_append (c : Int) (l m : List Pr) (t : Int) : Ta c (l ++ m) t ↔ Ta c l t ∨ Ta c m t := by
  unfold Ta
  constructor
  · rintro ⟨a, ha, h⟩
    rcases List.mem_append.1 ha with k | k
    · exact .inl ⟨a, k, h⟩
    · exact .inr ⟨a, k, h⟩
  · rintro (⟨a, ha, h⟩ | ⟨a, ha, h⟩)
    · exact ⟨a, by simp [ha], h⟩
    · exact ⟨a, by simp [ha], h⟩
theorem fo_nil (c : Int) : Fo c (fun _ => False) [] := by
  by_cases h : Cyc c
  · refine .inr ⟨h, .inr ⟨fun k => k 0 (by omega) (by have := h.1; omega), List.Pairwise.nil, fun a => ⟨fun k => by simp at k, fun k => ?_⟩⟩⟩
    exact (k.2.2.2.2.1 0 (by omega) (by have := k.2.2.1; omega)).elim
  · exact .inl ⟨h, rfl⟩
set_option maxHeartbeats 1000000 in
theorem walkN
    (c : Int) (a a' : Option Addr) (n cap n' cap' : Nat) (w : World) (A B R RB S X MB Z : List Pr) (u u' : Int) (hA : Rs w (.slice a n cap) A) (hB : Rs w (.slice a' n' cap') B)
    (CX : Hid (Ctx c w (.slice a n cap) (.slice a' n' cap') A B R RB S X MB Z u u'))
    (T0 : Hid (∀ w g, w.cell? ⟨g, 0, none⟩ = some (.slice a n cap) → w.cell? ⟨g, 1, none⟩ = some (.slice a' n' cap') → Calls Try.prog 9 #[.int .i64 c, .slice (some ⟨g, 0, none⟩) 2 2] w fun e w' => e = .returned (.bool true) ∧ w' = w))
    (TC : Hid (∀ w, Calls Try.prog 32 #[.int .i64 c] w fun e w' => e = .returned (.bool false) ∧ w' = w)) :
    Calls Try.prog 7 #[.int .i64 c, .slice a n cap, .slice a' n' cap'] w fun e w' => e = .returned (.bool true) ∧ Below w.heap.size w w' := by
  obtain ⟨i0, hi, hz0, hz1, hz2⟩ := info_parts infoA
  go_enter Try.func7, Try.ntmps7
  go_wp2_with fail
  (refine ((unhide T0) _ _ (by simp [go_sem]) (by simp [go_sem])).mono ?_; rintro e w0 ⟨rfl, rfl⟩)
  go_wp2_with fail
  have k0 := hide ((Keep.refl w).alloc (.cells #[.slice a n cap, .slice a' n' cap'] 22))
  have ra := hide (hA.keep (unhide k0))
  have rb := hide (hB.keep (unhide k0))
  clear hA hB
  (refine (((unhide CX).rest _ _ _ (unhide ra) (unhide CX).len.1).1 rfl).mono ?_; rintro e w1 ⟨v1, rfl, hr, hk⟩; replace k0 := hide ((unhide k0).trans hk); replace ra := hide ((unhide ra).keep hk); replace rb := hide ((unhide rb).keep hk); have rr := hide hr; obtain ⟨a1, cp1, hv1⟩ := rs_slice hr; subst hv1; clear hk hr)
  go_wp2_with fail
  (refine (((unhide CX).meet _ _ _ _ (unhide ra) (unhide rr)).1 rfl).mono ?_; rintro e w2 ⟨v2, rfl, hr, hk⟩; replace k0 := hide ((unhide k0).trans hk); replace ra := hide ((unhide ra).keep hk); replace rb := hide ((unhide rb).keep hk); replace rr := hide ((unhide rr).keep hk); have rm := hide hr; obtain ⟨a2, cp2, hv2⟩ := rs_slice hr; subst hv2; clear hk hr)
  go_wp2_with fail
  try simp only [List.length_nil]
  try go_wp2_with fail
  clear rm
  (refine (((unhide CX).rest _ _ _ (unhide rr) (unhide CX).len.2.2.1).2.2.1 rfl).mono ?_; rintro e w3 ⟨v3, rfl, hr, hk⟩; replace k0 := hide ((unhide k0).trans hk); replace ra := hide ((unhide ra).keep hk); replace rb := hide ((unhide rb).keep hk); replace rr := hide ((unhide rr).keep hk); have r3 := hide hr; obtain ⟨a3, cp3, hv3⟩ := rs_slice hr; subst hv3; clear hk hr)
  go_wp2_with fail
  (refine (((unhide CX).set _ _).1 (unhide ra)).mono ?_; rintro e w4 ⟨v4, rfl, hr, hk⟩; replace k0 := hide ((unhide k0).trans hk); replace ra := hide ((unhide ra).keep hk); replace rb := hide ((unhide rb).keep hk); replace rr := hide ((unhide rr).keep hk); replace r3 := hide ((unhide r3).keep hk); have r4 := hide hr; obtain ⟨a4, cp4, hv4⟩ := rs_slice hr; subst hv4; clear hk hr)
  go_wp2_with fail
  (refine ((unhide CX).same _ _ _ _ (unhide CX).len.2.2.2.2.1 (unhide r3) (unhide r4)).mono ?_; rintro e w5 ⟨rfl, hk⟩; replace k0 := hide ((unhide k0).trans hk); replace ra := hide ((unhide ra).keep hk); replace rb := hide ((unhide rb).keep hk); replace rr := hide ((unhide rr).keep hk); replace r3 := hide ((unhide r3).keep hk); replace r4 := hide ((unhide r4).keep hk); clear hk)
  go_wp2_with fail
  clear r3
  clear r4
  (refine ((unhide TC) _).mono ?_; rintro e wc ⟨rfl, rfl⟩)
  go_wp2_with fail
  (refine (((unhide CX).meet _ _ _ _ (unhide ra) (unhide rb)).2.1 rfl).mono ?_; rintro e w9 ⟨v9, rfl, hr, hk⟩; replace k0 := hide ((unhide k0).trans hk); replace ra := hide ((unhide ra).keep hk); replace rb := hide ((unhide rb).keep hk); replace rr := hide ((unhide rr).keep hk); have r5 := hide hr; obtain ⟨a9, cp9, hv9⟩ := rs_slice hr; subst hv9; clear hk hr)
  go_wp2_with fail
  (refine (((unhide CX).rest _ _ _ (unhide r5) (unhide CX).len.2.2.2.2.2.2.1).2.2.2 rfl).mono ?_; rintro e w10 ⟨v10, rfl, hr, hk⟩; replace k0 := hide ((unhide k0).trans hk); replace ra := hide ((unhide ra).keep hk); replace rb := hide ((unhide rb).keep hk); replace rr := hide ((unhide rr).keep hk); replace r5 := hide ((unhide r5).keep hk); have rx := hide hr; obtain ⟨a10, cp10, hv10⟩ := rs_slice hr; subst hv10; clear hk hr)
  clear r5
  have OW := hide (World.ownsRow_made (base := w10.heap.size) (e := 29) (size := 2) w10 #[] 0 (Nat.le_refl _) (Nat.zero_le _) rfl)
  go_wp2_with (at_builtin; refine wpList_append_rs _ rfl _ _ 22 rfl w10.heap.size 29 i0 (.agg #[.int .i64 0, .int .i64 0]) Try.underlying22 hi hz0 hz1 hz2 rfl _ [] rfl (unhide OW) _ R rfl ((unhide rr).keep ((Keep.refl w10).alloc _)) (by have := (unhide CX).len.2.2.1; simp; omega) (by simp) ?_; intro v11 w11 ho hg; have K : Hid (Keep w10 w11) := hide (Below.grown ((Keep.refl w10).alloc _) hg (by simp) (fun j ej => ((unhide OW).lt j ej).1)); rw [List.nil_append] at ho; obtain ⟨a11, cp11, hv11⟩ := own_slice ho; subst hv11; have HO := hide ho; clear ho hg)
  (refine (((unhide CX).rest _ _ _ ((unhide rb).keep (unhide K)) (unhide CX).len.2.1).2.1 rfl).mono ?_; rintro e w12 ⟨v12, rfl, hr, hk⟩; replace K := hide ((unhide K).trans hk); replace HO := hide ((unhide HO).kept (keep_grown hk) (own_none _)); have rq := hide hr; obtain ⟨a12, cp12, hv12⟩ := rs_slice hr; subst hv12; clear hk hr)
  go_wp2_with (at_builtin; refine wpList_append_rs _ rfl _ _ 22 rfl w10.heap.size 29 i0 (.agg #[.int .i64 0, .int .i64 0]) Try.underlying22 hi hz0 hz1 hz2 rfl _ R rfl (unhide HO) _ RB rfl (unhide rq) (by have := (unhide CX).len.2.2.1; have := (unhide CX).len.2.2.2.1; omega) (Below.size (unhide K)) ?_; intro v13 w13 ho hg; replace K : Hid (Keep w10 w13) := hide (Below.grown (unhide K) hg (Below.size (unhide K)) (fun j ej => ((unhide HO).lt j ej).1)); have RSY := hide (rs_own (L := R ++ RB) (fun p hp => (List.mem_append.1 hp).elim (fun h => rs_inp (unhide rr) p h) (fun h => rs_inp (unhide rq) p h)) ho); obtain ⟨a13, cp13, hv13⟩ := own_slice ho; rw [List.length_append] at hv13; subst hv13; clear ho hg)
  (refine (((unhide CX).set _ _).2 (unhide RSY)).mono ?_; rintro e w14 ⟨v14, rfl, hr, hk⟩; replace K := hide ((unhide K).trans hk); have ry := hide hr; obtain ⟨a14, cp14, hv14⟩ := rs_slice hr; subst hv14; clear hk hr RSY HO rq OW)
  go_wp2_with fail
  (refine ((unhide CX).less _ _ _ ((unhide ra).keep (unhide K)) ((unhide rb).keep (unhide K))).mono ?_; rintro e w15 ⟨v15, rfl, hr, hk⟩; replace K := hide ((unhide K).trans hk); replace ry := hide ((unhide ry).keep hk); have rz := hide hr; obtain ⟨a15, cp15, hv15⟩ := rs_slice hr; subst hv15; clear hk hr)
  go_wp2_with fail
  (refine ((unhide CX).same _ _ _ _ (unhide CX).len.2.2.2.2.2.1 ((unhide rx).keep (unhide K)) (unhide ry)).mono ?_; rintro e w16 ⟨rfl, hk⟩; replace K := hide ((unhide K).trans hk); replace rz := hide ((unhide rz).keep hk); clear hk ry)
  go_wp2_with fail
  (refine (((unhide CX).rest _ _ _ ((unhide rb).keep (unhide K)) (unhide CX).len.2.1).2.1 rfl).mono ?_; rintro e w17 ⟨v17, rfl, hr, hk⟩; replace K := hide ((unhide K).trans hk); replace rz := hide ((unhide rz).keep hk); have rq := hide hr; obtain ⟨a17, cp17, hv17⟩ := rs_slice hr; subst hv17; clear hk hr)
  go_wp2_with fail
  (refine (((unhide CX).meet _ _ _ _ ((unhide ra).keep (unhide K)) (unhide rq)).2.2 rfl).mono ?_; rintro e w18 ⟨v18, rfl, hr, hk⟩; replace K := hide ((unhide K).trans hk); replace rz := hide ((unhide rz).keep hk); have rm := hide hr; obtain ⟨a18, cp18, hv18⟩ := rs_slice hr; subst hv18; clear hk hr)
  go_wp2_with fail
  (refine ((unhide CX).same _ _ _ _ (unhide CX).len.2.2.2.2.2.2.2 (unhide rz) (unhide rm)).mono ?_; rintro e w19 ⟨rfl, hk⟩; replace K := hide ((unhide K).trans hk); clear hk)
  go_wp2_with fail
  (refine ((unhide CX).awk _).mono ?_; rintro e w20 ⟨rfl, hk⟩; replace K := hide ((unhide K).trans hk); clear hk)
  go_wp2_with fail
  go_ret
  exact ⟨rfl, (unhide k0).trans (unhide K)⟩
set_option maxHeartbeats 1000000 in
theorem walkY
    (c : Int) (a a' : Option Addr) (n cap n' cap' : Nat) (w : World) (A B R RB S X MB Z : List Pr) (u u' : Int) (hA : Rs w (.slice a n cap) A) (hB : Rs w (.slice a' n' cap') B)
    (CX : Hid (Ctx c w (.slice a n cap) (.slice a' n' cap') A B R RB S X MB Z u u'))
    (T0 : Hid (∀ w g, w.cell? ⟨g, 0, none⟩ = some (.slice a n cap) → w.cell? ⟨g, 1, none⟩ = some (.slice a' n' cap') → Calls Try.prog 9 #[.int .i64 c, .slice (some ⟨g, 0, none⟩) 2 2] w fun e w' => e = .returned (.bool true) ∧ w' = w))
    (hsum : u + u' = c) (hcI : In c)
    (TC : Hid (∀ w, Calls Try.prog 32 #[.int .i64 c] w fun e w' => e = .returned (.bool true) ∧ w' = w)) :
    Calls Try.prog 7 #[.int .i64 c, .slice a n cap, .slice a' n' cap'] w fun e w' => e = .returned (.bool true) ∧ Below w.heap.size w w' := by
  have hbd := hcI
  unfold In at hbd
  obtain ⟨i0, hi, hz0, hz1, hz2⟩ := info_parts infoA
  go_enter Try.func7, Try.ntmps7
  go_wp2_with fail
  (refine ((unhide T0) _ _ (by simp [go_sem]) (by simp [go_sem])).mono ?_; rintro e w0 ⟨rfl, rfl⟩)
  go_wp2_with fail
  have k0 := hide ((Keep.refl w).alloc (.cells #[.slice a n cap, .slice a' n' cap'] 22))
  have ra := hide (hA.keep (unhide k0))
  have rb := hide (hB.keep (unhide k0))
  clear hA hB
  (refine (((unhide CX).rest _ _ _ (unhide ra) (unhide CX).len.1).1 rfl).mono ?_; rintro e w1 ⟨v1, rfl, hr, hk⟩; replace k0 := hide ((unhide k0).trans hk); replace ra := hide ((unhide ra).keep hk); replace rb := hide ((unhide rb).keep hk); have rr := hide hr; obtain ⟨a1, cp1, hv1⟩ := rs_slice hr; subst hv1; clear hk hr)
  go_wp2_with fail
  (refine (((unhide CX).meet _ _ _ _ (unhide ra) (unhide rr)).1 rfl).mono ?_; rintro e w2 ⟨v2, rfl, hr, hk⟩; replace k0 := hide ((unhide k0).trans hk); replace ra := hide ((unhide ra).keep hk); replace rb := hide ((unhide rb).keep hk); replace rr := hide ((unhide rr).keep hk); have rm := hide hr; obtain ⟨a2, cp2, hv2⟩ := rs_slice hr; subst hv2; clear hk hr)
  go_wp2_with fail
  try simp only [List.length_nil]
  try go_wp2_with fail
  clear rm
  (refine (((unhide CX).rest _ _ _ (unhide rr) (unhide CX).len.2.2.1).2.2.1 rfl).mono ?_; rintro e w3 ⟨v3, rfl, hr, hk⟩; replace k0 := hide ((unhide k0).trans hk); replace ra := hide ((unhide ra).keep hk); replace rb := hide ((unhide rb).keep hk); replace rr := hide ((unhide rr).keep hk); have r3 := hide hr; obtain ⟨a3, cp3, hv3⟩ := rs_slice hr; subst hv3; clear hk hr)
  go_wp2_with fail
  (refine (((unhide CX).set _ _).1 (unhide ra)).mono ?_; rintro e w4 ⟨v4, rfl, hr, hk⟩; replace k0 := hide ((unhide k0).trans hk); replace ra := hide ((unhide ra).keep hk); replace rb := hide ((unhide rb).keep hk); replace rr := hide ((unhide rr).keep hk); replace r3 := hide ((unhide r3).keep hk); have r4 := hide hr; obtain ⟨a4, cp4, hv4⟩ := rs_slice hr; subst hv4; clear hk hr)
  go_wp2_with fail
  (refine ((unhide CX).same _ _ _ _ (unhide CX).len.2.2.2.2.1 (unhide r3) (unhide r4)).mono ?_; rintro e w5 ⟨rfl, hk⟩; replace k0 := hide ((unhide k0).trans hk); replace ra := hide ((unhide ra).keep hk); replace rb := hide ((unhide rb).keep hk); replace rr := hide ((unhide rr).keep hk); replace r3 := hide ((unhide r3).keep hk); replace r4 := hide ((unhide r4).keep hk); clear hk)
  go_wp2_with fail
  clear r3
  clear r4
  (refine ((unhide TC) _).mono ?_; rintro e wc ⟨rfl, rfl⟩)
  go_wp2_with fail
  (refine (((unhide CX).tot _ _).1 (unhide ra)).mono ?_; rintro e w7 ⟨rfl, hk⟩; replace k0 := hide ((unhide k0).trans hk); replace ra := hide ((unhide ra).keep hk); replace rb := hide ((unhide rb).keep hk); replace rr := hide ((unhide rr).keep hk); clear hk)
  go_wp2_with fail
  (refine (((unhide CX).tot _ _).2 (unhide rr)).mono ?_; rintro e w8 ⟨rfl, hk⟩; replace k0 := hide ((unhide k0).trans hk); replace ra := hide ((unhide ra).keep hk); replace rb := hide ((unhide rb).keep hk); replace rr := hide ((unhide rr).keep hk); clear hk)
  go_wp2_with fail
  (refine (((unhide CX).meet _ _ _ _ (unhide ra) (unhide rb)).2.1 rfl).mono ?_; rintro e w9 ⟨v9, rfl, hr, hk⟩; replace k0 := hide ((unhide k0).trans hk); replace ra := hide ((unhide ra).keep hk); replace rb := hide ((unhide rb).keep hk); replace rr := hide ((unhide rr).keep hk); have r5 := hide hr; obtain ⟨a9, cp9, hv9⟩ := rs_slice hr; subst hv9; clear hk hr)
  go_wp2_with fail
  (refine (((unhide CX).rest _ _ _ (unhide r5) (unhide CX).len.2.2.2.2.2.2.1).2.2.2 rfl).mono ?_; rintro e w10 ⟨v10, rfl, hr, hk⟩; replace k0 := hide ((unhide k0).trans hk); replace ra := hide ((unhide ra).keep hk); replace rb := hide ((unhide rb).keep hk); replace rr := hide ((unhide rr).keep hk); replace r5 := hide ((unhide r5).keep hk); have rx := hide hr; obtain ⟨a10, cp10, hv10⟩ := rs_slice hr; subst hv10; clear hk hr)
  clear r5
  have OW := hide (World.ownsRow_made (base := w10.heap.size) (e := 29) (size := 2) w10 #[] 0 (Nat.le_refl _) (Nat.zero_le _) rfl)
  go_wp2_with (at_builtin; refine wpList_append_rs _ rfl _ _ 22 rfl w10.heap.size 29 i0 (.agg #[.int .i64 0, .int .i64 0]) Try.underlying22 hi hz0 hz1 hz2 rfl _ [] rfl (unhide OW) _ R rfl ((unhide rr).keep ((Keep.refl w10).alloc _)) (by have := (unhide CX).len.2.2.1; simp; omega) (by simp) ?_; intro v11 w11 ho hg; have K : Hid (Keep w10 w11) := hide (Below.grown ((Keep.refl w10).alloc _) hg (by simp) (fun j ej => ((unhide OW).lt j ej).1)); rw [List.nil_append] at ho; obtain ⟨a11, cp11, hv11⟩ := own_slice ho; subst hv11; have HO := hide ho; clear ho hg)
  (refine (((unhide CX).rest _ _ _ ((unhide rb).keep (unhide K)) (unhide CX).len.2.1).2.1 rfl).mono ?_; rintro e w12 ⟨v12, rfl, hr, hk⟩; replace K := hide ((unhide K).trans hk); replace HO := hide ((unhide HO).kept (keep_grown hk) (own_none _)); have rq := hide hr; obtain ⟨a12, cp12, hv12⟩ := rs_slice hr; subst hv12; clear hk hr)
  go_wp2_with (at_builtin; refine wpList_append_rs _ rfl _ _ 22 rfl w10.heap.size 29 i0 (.agg #[.int .i64 0, .int .i64 0]) Try.underlying22 hi hz0 hz1 hz2 rfl _ R rfl (unhide HO) _ RB rfl (unhide rq) (by have := (unhide CX).len.2.2.1; have := (unhide CX).len.2.2.2.1; omega) (Below.size (unhide K)) ?_; intro v13 w13 ho hg; replace K : Hid (Keep w10 w13) := hide (Below.grown (unhide K) hg (Below.size (unhide K)) (fun j ej => ((unhide HO).lt j ej).1)); have RSY := hide (rs_own (L := R ++ RB) (fun p hp => (List.mem_append.1 hp).elim (fun h => rs_inp (unhide rr) p h) (fun h => rs_inp (unhide rq) p h)) ho); obtain ⟨a13, cp13, hv13⟩ := own_slice ho; rw [List.length_append] at hv13; subst hv13; clear ho hg)
  (refine (((unhide CX).set _ _).2 (unhide RSY)).mono ?_; rintro e w14 ⟨v14, rfl, hr, hk⟩; replace K := hide ((unhide K).trans hk); have ry := hide hr; obtain ⟨a14, cp14, hv14⟩ := rs_slice hr; subst hv14; clear hk hr RSY HO rq OW)
  go_wp2_with fail
  (refine ((unhide CX).less _ _ _ ((unhide ra).keep (unhide K)) ((unhide rb).keep (unhide K))).mono ?_; rintro e w15 ⟨v15, rfl, hr, hk⟩; replace K := hide ((unhide K).trans hk); replace ry := hide ((unhide ry).keep hk); have rz := hide hr; obtain ⟨a15, cp15, hv15⟩ := rs_slice hr; subst hv15; clear hk hr)
  go_wp2_with fail
  (refine ((unhide CX).same _ _ _ _ (unhide CX).len.2.2.2.2.2.1 ((unhide rx).keep (unhide K)) (unhide ry)).mono ?_; rintro e w16 ⟨rfl, hk⟩; replace K := hide ((unhide K).trans hk); replace rz := hide ((unhide rz).keep hk); clear hk ry)
  go_wp2_with fail
  (refine (((unhide CX).rest _ _ _ ((unhide rb).keep (unhide K)) (unhide CX).len.2.1).2.1 rfl).mono ?_; rintro e w17 ⟨v17, rfl, hr, hk⟩; replace K := hide ((unhide K).trans hk); replace rz := hide ((unhide rz).keep hk); have rq := hide hr; obtain ⟨a17, cp17, hv17⟩ := rs_slice hr; subst hv17; clear hk hr)
  go_wp2_with fail
  (refine (((unhide CX).meet _ _ _ _ ((unhide ra).keep (unhide K)) (unhide rq)).2.2 rfl).mono ?_; rintro e w18 ⟨v18, rfl, hr, hk⟩; replace K := hide ((unhide K).trans hk); replace rz := hide ((unhide rz).keep hk); have rm := hide hr; obtain ⟨a18, cp18, hv18⟩ := rs_slice hr; subst hv18; clear hk hr)
  go_wp2_with fail
  (refine ((unhide CX).same _ _ _ _ (unhide CX).len.2.2.2.2.2.2.2 (unhide rz) (unhide rm)).mono ?_; rintro e w19 ⟨rfl, hk⟩; replace K := hide ((unhide K).trans hk); clear hk)
  go_wp2_with fail
  (refine ((unhide CX).awk _).mono ?_; rintro e w20 ⟨rfl, hk⟩; replace K := hide ((unhide K).trans hk); clear hk)
  go_wp2_with fail
  go_ret
  exact ⟨rfl, (unhide k0).trans (unhide K)⟩
theorem walk (c : Int) (va : Value) (A : List Pr) (vb : Value) (B : List Pr) (w : World) (w0 : (Lit.int .i64 c).wf = true) (hA : Rs w va A) (hB : Rs w vb B) :
    Calls Try.prog 7 #[.int .i64 c, va, vb] w fun e w' => e = .returned (.bool true) ∧ Below w.heap.size w w' := by
  have hc : In c := bounds_i64 w0
  obtain ⟨a, cap, hv⟩ := rs_slice hA
  obtain ⟨a', cap', hv'⟩ := rs_slice hB
  subst hv hv'
  by_cases hf : A.length ≤ 30 ∧ B.length ≤ 30 ∧ Few c
  · obtain ⟨h30, h30', hfew⟩ := hf
    have pA := ta_per c A
    have pB := ta_per c B
    obtain ⟨R, hRf⟩ := fo_ex c (fun t => ¬ Ta c A t) (per_not pA)
    obtain ⟨RB, hRBf⟩ := fo_ex c (fun t => ¬ Ta c B t) (per_not pB)
    obtain ⟨S, hSf⟩ := fo_ex c (Ta c A) pA
    obtain ⟨MB, hMBf⟩ := fo_ex c (fun t => Ta c A t ∧ Ta c B t) (per_and pA pB)
    obtain ⟨X, hXf⟩ := fo_ex c (fun t => ¬ (Ta c A t ∧ Ta c B t)) (per_not (per_and pA pB))
    obtain ⟨Z, hZf⟩ := fo_ex c (fun t => Ta c A t ∧ ¬ Ta c B t) (per_and pA (per_not pB))
    have tR : Cyc c → ∀ t, Ta c R t ↔ ¬ Ta c A t := fun h t => fo_ta (per_not pA) hRf h t
    have tRB : Cyc c → ∀ t, Ta c RB t ↔ ¬ Ta c B t := fun h t => fo_ta (per_not pB) hRBf h t
    have tMB : Cyc c → ∀ t, Ta c MB t ↔ (Ta c A t ∧ Ta c B t) := fun h t => fo_ta (per_and pA pB) hMBf h t
    have tRR : Cyc c → ∀ t, Ta c (R ++ RB) t ↔ ¬ (Ta c A t ∧ Ta c B t) := by
      intro h t
      rw [ta_append, tR h t, tRB h t]
      constructor
      · rintro (k | k) ⟨p, q⟩
        · exact k p
        · exact k q
      · intro k
        by_cases p : Ta c A t
        · exact .inr fun q => k ⟨p, q⟩
        · exact .inl p
    have lens : A.length ≤ 6000 ∧ B.length ≤ 6000 ∧ R.length ≤ 6000 ∧ RB.length ≤ 6000 ∧ S.length ≤ 6000 ∧ X.length ≤ 6000 ∧ MB.length ≤ 6000 ∧ Z.length ≤ 6000 := ⟨by omega, by omega, fo_len hRf, fo_len hRBf, fo_len hSf, fo_len hXf, fo_len hMBf, fo_len hZf⟩
    have rest1 : ∀ (L : List Pr) (P : Int → Prop) (M : List Pr), Per c P → Fo c P M → (Cyc c → ∀ t, (¬ Ta c L t) ↔ P t) → ∀ w' v, Rs w' v L → L.length ≤ 6000 → Calls Try.prog 28 #[.int .i64 c, v] w' fun e w'' => ∃ v, e = .returned v ∧ Rs w'' v M ∧ Keep w' w'' := by
      intro L P M hP hM he w' v hv hl
      refine (rest_any c hc v L w' (by omega) hv).mono ?_
      rintro e w'' ⟨u, h1, N, h2, h3, _, h4⟩
      rw [fo_one (per_not (ta_per c L)) hP h3 hM (fun h t _ _ => he h t)] at h2
      exact ⟨u, h1, h2, h4⟩
    have meet1 : ∀ (L : List Pr) (P : Int → Prop) (M : List Pr), L.length ≤ 6000 → Per c P → Fo c P M → (Cyc c → ∀ t, (Ta c A t ∧ Ta c L t) ↔ P t) → ∀ w' v v', Rs w' v A → Rs w' v' L → Calls Try.prog 24 #[.int .i64 c, v, v'] w' fun e w'' => ∃ v, e = .returned v ∧ Rs w'' v M ∧ Keep w' w'' := by
      intro L P M hl hP hM he w' v v' hv hv'
      refine (meet_any c hc v v' A L w' (by omega) (by omega) hv hv').mono ?_
      rintro e w'' ⟨u, h1, N, h2, h3, _, h4⟩
      rw [fo_one (per_and pA (ta_per c L)) hP h3 hM (fun h t _ _ => he h t)] at h2
      exact ⟨u, h1, h2, h4⟩
    have set1 : ∀ (L : List Pr) (P : Int → Prop) (M : List Pr), L.length ≤ 12000 → Per c P → Fo c P M → (Cyc c → ∀ t, Ta c L t ↔ P t) → ∀ w' v, Rs w' v L → Calls Try.prog 11 #[.int .i64 c, v] w' fun e w'' => ∃ v, e = .returned v ∧ Rs w'' v M ∧ Keep w' w'' := by
      intro L P M hl hP hM he w' v hv
      refine (set_any c hc v L w' (by omega) hv).mono ?_
      rintro e w'' ⟨u, h1, N, h2, h3, _, h4⟩
      rw [fo_one (ta_per c L) hP h3 hM (fun h t _ _ => he h t)] at h2
      exact ⟨u, h1, h2, h4⟩
    have nilf : Fo c (fun _ => False) [] := fo_nil c
    have CX : Ctx c w (.slice a A.length cap) (.slice a' B.length cap') A B R RB S X MB Z (tk c A) (tk c R) := {
      rest := fun w' v L hv hl => ⟨fun e => by subst e; exact rest1 _ _ R (per_not pA) hRf (fun _ _ => Iff.rfl) w' v hv hl, fun e => by subst e; exact rest1 _ _ RB (per_not pB) hRBf (fun _ _ => Iff.rfl) w' v hv hl, fun e => by subst e; exact rest1 _ _ S pA hSf (fun h t => by rw [tR h t]; exact Classical.not_not) w' v hv hl, fun e => by subst e; exact rest1 _ _ X (per_not (per_and pA pB)) hXf (fun h t => by rw [tMB h t]) w' v hv hl⟩
      meet := fun w' v v' L hv hv' => ⟨fun e => by subst e; exact meet1 _ _ [] lens.2.2.1 (fun t => Iff.rfl) nilf (fun h t => by rw [tR h t]; exact ⟨fun k => k.2 k.1, fun k => k.elim⟩) w' v v' hv hv', fun e => by subst e; exact meet1 _ _ MB lens.2.1 (per_and pA pB) hMBf (fun _ _ => Iff.rfl) w' v v' hv hv', fun e => by subst e; exact meet1 _ _ Z lens.2.2.2.1 (per_and pA (per_not pB)) hZf (fun h t => by rw [tRB h t]) w' v v' hv hv'⟩
      set := fun w' v => ⟨fun hv => set1 _ _ S (by omega) pA hSf (fun _ _ => Iff.rfl) w' v hv, fun hv => set1 _ _ X (by rw [List.length_append]; omega) (per_not (per_and pA pB)) hXf tRR w' v hv⟩
      less := fun w' v v' hv hv' => by
        refine (less_any c hc v v' A B w' (by omega) (by omega) hv hv').mono ?_
        rintro e w'' ⟨u, h1, N, h2, h3, _, h4⟩
        rw [fo_one (per_and pA (per_not pB)) (per_and pA (per_not pB)) h3 hZf (fun _ _ _ _ => Iff.rfl)] at h2
        exact ⟨u, h1, h2, h4⟩
      same := fun w' v v' L hl hv hv' => same_yes v v' L w' (by omega) hv hv'
      tot := fun w' v => ⟨fun hv => total_any c v A w' (by omega) hv, fun hv => total_any c v R w' (by omega) hv⟩
      awk := awake_any
      len := lens }
    by_cases hcy : Cyc c
    · have hsum : tk c A + tk c R = c := by
        unfold tk
        rw [if_pos hcy, if_pos hcy]
        have e1 : cnt (Ta c R) c.toNat = cnt (fun t => ¬ Ta c A t) c.toNat := cnt_congr _ fun t _ _ => tR hcy t
        have e2 := cnt_not (Ta c A) c.toNat
        rw [e1]
        have := hcy.1
        omega
      have hb1 : 0 ≤ tk c A ∧ tk c A ≤ c := by
        unfold tk
        rw [if_pos hcy]
        have := cnt_bd (Ta c A) c.toNat
        have := hcy.1
        omega
      exact walkY c a a' A.length cap B.length cap' w A B R RB S X MB Z _ _ hA hB (hide CX) (hide fun w' g h h' => few_yes2 c g _ cap _ cap' a a' w' h h' h30 h30' hfew) hsum hc (hide (rcyc_yes c hcy))
    · exact walkN c a a' A.length cap B.length cap' w A B R RB S X MB Z _ _ hA hB (hide CX) (hide fun w' g h h' => few_yes2 c g _ cap _ cap' a a' w' h h' h30 h30' hfew) (hide (rcyc_no c hcy))
  · exact walk0 c a a' A.length cap B.length cap' w (hide fun w' g h h' => few_no2 c g _ cap _ cap' a a' w' h h' hf)
theorem laidOut : laidOutB Try.prog = true := by kernel_rfl
theorem own : ownKnob Try.prog.godebug = none := by kernel_rfl
set_option maxHeartbeats 400000 in
set_option maxRecDepth 100000 in
theorem lifted (os : Os) (started : os.Started) (H : Type) (enc : TypeId × Value → H) :
    ReturnsInHanded {} Try.checked os 7 .any (Rows.circleRestsSpec.pre6 enc Try.prog Try.f7 Rows.circleRestsRow.domain false) (Rows.circleRestsSpec.post enc Try.prog Try.f7 false true false false) := by
  refine returnsInHanded_of_change (C := Try.checked) own started (by kernel_rfl) Try.func7
    (ChangeSpec.witness6 (enc := enc) (C := Try.checked) false ⟨#[], #[.int .i64 0, .slice none 0 0, .slice none 0 0], []⟩ 8 (by kernel_rfl) (by kernel_rfl) (by kernel_rfl) (by kernel_rfl)) ?_
  intro W base args ds gs before hval0 hW hcnd _
  have hval : ∀ (j : Nat) t v, Try.f7.params[j]? = some t → args[j]? = some v → Value.okWide Try.prog W .any base t v := hval0
  have hW' := hW
  obtain ⟨p, q, hA0, hV, rfl, hfz, hnd⟩ := hW
  have hA : DataW.TrodAll enc Try.prog W 0 (fun _ => true) true Try.f7.params.toList args.toList ds p := hA0
  rw [Try.params7] at hA hval
  obtain ⟨v0, vs0, d0, ds0, p0, q0, hargs, rfl, rfl, h0, r0⟩ := trodAll_cons hA
  obtain ⟨v1, vs1, d1, ds1, p1, q1, rfl, rfl, rfl, h1, r1⟩ := trodAll_cons r0
  obtain ⟨v2, vs2, d2, ds2, p2, q2, rfl, rfl, rfl, h2, r2⟩ := trodAll_cons r1
  obtain ⟨rfl, rfl, rfl⟩ := trodAll_nil r2
  obtain rfl : args = #[v0, v1, v2] := by cases args; simp_all
  obtain ⟨rfl, rfl⟩ := trodVars_none hV
  obtain ⟨a0, rfl, rfl, rfl, w0⟩ := open_int Try.underlying2 (hval 0 2 v0 rfl rfl) h0
  have k1 := h1
  have lt1 : ∀ x ∈ p1, x.block < W.heap.size := by obtain ⟨m, hm⟩ := k1; exact DataW.trod_lt m _ _ _ hm
  obtain ⟨L1, w1⟩ := open_arcs Try.underlying22 Try.underlying29 (by kernel_rfl) (by kernel_rfl) Try.underlying2 Try.underlying2 (hval 1 22 v1 rfl rfl) h1
  clear h1
  have k2 := h2
  have lt2 : ∀ x ∈ p2, x.block < W.heap.size := by obtain ⟨m, hm⟩ := k2; exact DataW.trod_lt m _ _ _ hm
  obtain ⟨L2, w2⟩ := open_arcs Try.underlying22 Try.underlying29 (by kernel_rfl) (by kernel_rfl) Try.underlying2 Try.underlying2 (hval 2 22 v2 rfl rfl) h2
  clear h2
  clear hA0 hval0
  refine (walk a0 v1 L1 v2 L2 W w0 w1 w2).mono fun e W' ⟨he, bel⟩ => ?_
  subst he
  exact ⟨_, rfl, _, _, _, [], _, [], hW', trodAll_mk1 (shut_bool Try.underlying4 _), (trodAll_cons_mk (shut_int Try.underlying2 w0) (trodAll_cons_mk (Below.trod laidOut (by kernel_rfl) (of_decide_eq_true (by kernel_rfl)) k1 bel lt1) (trodAll_cons_mk (Below.trod laidOut (by kernel_rfl) (of_decide_eq_true (by kernel_rfl)) k2 bel lt2) trodAll_mk0))), rfl, bel.frame _, fun h => by cases h⟩
theorem over : Rows.circleRestsRow.holds Try.pinned (OpenSpec.ofChange Rows.circleRestsSpec) :=
  OpenClaim.holds_of_wide 7 Try.f7 rfl rfl rfl rfl rfl rfl rfl ⟨rfl, rfl, rfl, rfl, rfl⟩ rfl rfl rfl rfl rfl (by kernel_rfl) Try.func7 (by kernel_rfl)
    (of_decide_eq_true (by kernel_rfl)) (by unfold Func.isWrapper; first | (rw [if_pos (by decide +kernel)]; kernel_rfl) | (rw [if_neg (by decide +kernel)]; exact ⟨rfl, rfl⟩))
    (fun os started H enc _ => lifted os started H enc)

end Go.Proofs.Ytilafaljlhgbmaa.rests
namespace Go.Proofs.Ytilafaljlhgbmaa
theorem CircleRests_holds : Rows.CircleRestsSaid := rests.over
end Go.Proofs.Ytilafaljlhgbmaa
