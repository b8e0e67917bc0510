/- Package circle: the ticks of none, of both, of one alone; how many ticks; the widest arc. -/
import Derived.Test.YtilafaljlhgbmaaCSet
import Derived.LoopTactic
namespace Go.Proofs.Ytilafaljlhgbmaa
open Go.RowKit Go.Shelf
attribute [local go_sem ↓] Go.wp_at_zero Go.wp_at_succ
set_option linter.unusedVariables false
set_option linter.unusedSimpArgs false
set_option maxRecDepth 10000
theorem rs_slice {w : World} {v : Value} {L : List Pr} (h : Rs w v L) : ∃ a cap, v = .slice a L.length cap := by obtain ⟨a, cap, h, _⟩ := h; exact ⟨a, cap, h⟩
theorem nil_fr (w : World) {c : Int} (h : ¬ Cyc c) (P : Int → Prop) {w' : World} (hk : Keep w w') : Fr w c P w' (.slice none 0 0) := ⟨[], rs_nil w', .inl ⟨h, rfl⟩, (fun ad m cap e => by cases e), hk⟩
theorem bts_op {c : Int} (hc : 0 ≤ c) {L ps : List Pr} (h : Op c L ps) : Ap c (bts c ps) ∧ ∀ t, 0 ≤ t → t < c → (Mm (bts c ps) t ↔ ¬ Ta c L t) := by
  obtain ⟨h1, h2⟩ := bts_ap hc h.1
  exact ⟨h1, fun t a b => by rw [h2 t a b, h.2.2 t a b]⟩
theorem bts_neg {c : Int} (hc : c < 0) : bts c [] = [] := by
  unfold bts
  rw [if_neg (by show ¬ (0 : Int) < c; omega)]
  rfl
theorem bts_any {c : Int} {L ps : List Pr} (h : Op c L ps) : Ap c (bts c ps) := by
  by_cases hc : 0 ≤ c
  · exact (bts_op hc h).1
  · have : ps = [] := h.2.1 (fun k => hc (by have := k.1; omega))
    rw [this, bts_neg (by omega)]
    exact ⟨fun p hp => by simp at hp, List.Pairwise.nil⟩
theorem bts_len (c : Int) (L : List Pr) : (bts c L).length ≤ L.length + 1 := by
  have := bt_len L [] 0
  unfold bts
  split
  · simp at this ⊢; omega
  · simp at this; omega
set_option maxHeartbeats 1000000 in
theorem rest_core0 (c : Int) (a : Option Addr) (n cap : Nat) (w : World) (T0 : Hid (∀ w, Calls Try.prog 39 #[.int .i64 c] w fun e w' => e = .returned (.bool false) ∧ w' = w)) :
    Calls Try.prog 28 #[.int .i64 c, .slice a n cap] w fun e w' => e = .returned (.slice none 0 0) ∧ w' = w := by
  go_enter Try.func28, Try.ntmps28
  go_wp2_with fail
  (refine ((unhide T0) _).mono ?_; rintro e w ⟨rfl, rfl⟩)
  go_wp2_with fail
  go_ret
  exact ⟨rfl, rfl⟩
set_option maxHeartbeats 1000000 in
theorem rest_core (c : Int) (a : Option Addr) (n cap : Nat) (w : World) (A A' B R : World → Value → Prop)
    (T0 : Hid (∀ w, Calls Try.prog 39 #[.int .i64 c] w fun e w' => e = .returned (.bool true) ∧ w' = w))
    (T1 : Hid (Calls Try.prog 36 #[.int .i64 c, .slice a n cap] w fun e w' => ∃ v, e = .returned v ∧ A w' v))
    (T1' : Hid (∀ w v, A w v → Calls Try.prog 43 #[.int .i64 c, v] w fun e w' => ∃ v, e = .returned v ∧ A' w' v))
    (T2 : Hid (∀ w v, A' w v → Calls Try.prog 35 #[v] w fun e w' => ∃ v, e = .returned v ∧ B w' v))
    (T3 : Hid (∀ w v, B w v → Calls Try.prog 34 #[.int .i64 c, v] w fun e w' => ∃ v, e = .returned v ∧ R w' v)) :
    Calls Try.prog 28 #[.int .i64 c, .slice a n cap] w fun e w' => ∃ v, e = .returned v ∧ R w' v := by
  go_enter Try.func28, Try.ntmps28
  go_wp2_with fail
  (refine ((unhide T0) _).mono ?_; rintro e w ⟨rfl, rfl⟩)
  go_wp2_with fail
  (refine (unhide T1).mono ?_; rintro e w1 ⟨v1, rfl, h1⟩; replace h1 := hide h1)
  go_wp2_with fail
  (refine (unhide T1' _ _ (unhide h1)).mono ?_; rintro e w2 ⟨v2, rfl, h2⟩; replace h2 := hide h2)
  go_wp2_with fail
  (refine (unhide T2 _ _ (unhide h2)).mono ?_; rintro e w3 ⟨v3, rfl, h3⟩; replace h3 := hide h3)
  go_wp2_with fail
  (refine (unhide T3 _ _ (unhide h3)).mono ?_; rintro e w4 ⟨v4, rfl, h4⟩; replace h4 := hide h4)
  go_wp2_with fail
  go_ret
  exact ⟨v4, rfl, unhide h4⟩
theorem rest_any (c : Int) (hc : In c) (v0 : Value) (L : List Pr) (w : World) (hl : L.length ≤ 50000) (hR : Rs w v0 L) :
    Calls Try.prog 28 #[.int .i64 c, v0] w fun e w' => ∃ v, e = .returned v ∧ Fr w c (fun t => ¬ Ta c L t) w' v := by
  obtain ⟨a, cap, hv⟩ := rs_slice hR
  subst hv
  by_cases hcy : Cyc c
  · refine rest_core c a _ cap w (fun w' v => ∃ ps, Op c L ps ∧ Rs w' v ps ∧ Keep w w') (fun w' v => ∃ ps, Op c L ps ∧ Rs w' v (bts c ps) ∧ Keep w w') (fun w' f => ∃ ps, Op c L ps ∧ Sq w' f (bts c ps) ∧ Keep w w') (Fr w c (fun t => ¬ Ta c L t)) (hide (cyc_yes c hcy)) (hide ?_) (hide ?_) (hide ?_) (hide ?_)
    · refine (opened_any c _ L w hl hR).mono ?_
      rintro e w' ⟨v, ps, he, h1, h2, h3⟩
      exact ⟨v, he, ps, h1, h2, h3⟩
    · rintro w1 v ⟨ps, h1, h2, h3⟩
      refine (between_any c hc v ps w1 (by have := op_len h1; omega) h2).mono ?_
      rintro e w' ⟨u, he, h4, h5⟩
      exact ⟨u, he, ps, h1, h4, h3.trans h5⟩
    · rintro w1 v ⟨ps, h1, h2, h3⟩
      refine (values_any v (bts c ps) w1 h2 (pcs_ok' hc.2 (bts_any h1).1) (by have := op_len h1; have := bts_len c ps; omega)).mono ?_
      rintro e w' ⟨f, he, h4, h5⟩
      exact ⟨f, he, ps, h1, h4, h3.trans h5⟩
    · rintro w1 f ⟨ps, h1, h2, h3⟩
      refine (form_any c hc f (bts c ps) (fun t => ¬ Ta c L t) w1 h2 (per_not (ta_per c L)) (bts_any h1) (fun k => absurd hcy k) (fun _ => (bts_op (by have := hcy.1; omega) h1).2)).mono ?_
      rintro e w' ⟨v, he, M, h4, h5, h7, h6⟩
      exact ⟨v, he, M, h4, h5, lob_mono h7 (Below.size h3), h3.trans h6⟩
  · refine (rest_core0 c a _ cap w (hide (cyc_no c hcy))).mono ?_
    rintro e w' ⟨rfl, rfl⟩
    exact ⟨_, rfl, nil_fr _ hcy _ (Keep.refl _)⟩
set_option maxHeartbeats 1000000 in
theorem meet_core (c : Int) (a a' : Option Addr) (n cap n' cap' : Nat) (w : World) (A B R : World → Value → Prop) (A2 : World → Value → Value → Prop)
    (T1 : Hid (Calls Try.prog 36 #[.int .i64 c, .slice a n cap] w fun e w' => ∃ v, e = .returned v ∧ A w' v))
    (T2 : Hid (∀ w u, A w u → Calls Try.prog 36 #[.int .i64 c, .slice a' n' cap'] w fun e w' => ∃ v, e = .returned v ∧ A2 w' u v))
    (T3 : Hid (∀ w u v, A2 w u v → Calls Try.prog 42 #[u, v] w fun e w' => ∃ v, e = .returned v ∧ B w' v))
    (T4 : Hid (∀ w v, B w v → Calls Try.prog 34 #[.int .i64 c, v] w fun e w' => ∃ v, e = .returned v ∧ R w' v)) :
    Calls Try.prog 24 #[.int .i64 c, .slice a n cap, .slice a' n' cap'] w fun e w' => ∃ v, e = .returned v ∧ R w' v := by
  go_enter Try.func24, Try.ntmps24
  go_wp2_with fail
  (refine (unhide T1).mono ?_; rintro e w1 ⟨v1, rfl, h1⟩; replace h1 := hide h1)
  go_wp2_with fail
  (refine (unhide T2 _ _ (unhide h1)).mono ?_; rintro e w2 ⟨v2, rfl, h2⟩; replace h2 := hide h2)
  go_wp2_with fail
  (refine (unhide T3 _ _ _ (unhide h2)).mono ?_; rintro e w3 ⟨v3, rfl, h3⟩; replace h3 := hide h3)
  go_wp2_with fail
  (refine (unhide T4 _ _ (unhide h3)).mono ?_; rintro e w4 ⟨v4, rfl, h4⟩; replace h4 := hide h4)
  go_wp2_with fail
  go_ret
  exact ⟨v4, rfl, unhide h4⟩
theorem meet_any (c : Int) (hc : In c) (va vb : Value) (A B : List Pr) (w : World) (hla : A.length ≤ 50000) (hlb : B.length ≤ 50000) (hA : Rs w va A) (hB : Rs w vb B) :
    Calls Try.prog 24 #[.int .i64 c, va, vb] w fun e w' => ∃ v, e = .returned v ∧ Fr w c (fun t => Ta c A t ∧ Ta c B t) w' v := by
  obtain ⟨a, cap, hv⟩ := rs_slice hA
  obtain ⟨a', cap', hv'⟩ := rs_slice hB
  subst hv hv'
  refine meet_core c a a' _ cap _ cap' w (fun w' v => ∃ ps, Op c A ps ∧ Rs w' v ps ∧ Keep w w') (fun w' f => ∃ ps qs, Op c A ps ∧ Op c B qs ∧ Sq w' f (cmn ps qs) ∧ Keep w w') (Fr w c (fun t => Ta c A t ∧ Ta c B t)) (fun w' u v => ∃ ps qs, Op c A ps ∧ Op c B qs ∧ Rs w' u ps ∧ Rs w' v qs ∧ Keep w w') (hide ?_) (hide ?_) (hide ?_) (hide ?_)
  · refine (opened_any c _ A w hla hA).mono ?_
    rintro e w' ⟨v, ps, he, h1, h2, h3⟩
    exact ⟨v, he, ps, h1, h2, h3⟩
  · rintro w1 u ⟨ps, h1, h2, h3⟩
    refine (opened_any c _ B w1 hlb (hB.keep h3)).mono ?_
    rintro e w' ⟨v, qs, he, h4, h5, h6⟩
    exact ⟨v, he, ps, qs, h1, h4, h2.keep h6, h5, h3.trans h6⟩
  · rintro w1 u v ⟨ps, qs, h1, h2, h3, h4, h5⟩
    refine (common_any u v ps qs w1 h3 h4 (pcs_ok' hc.2 h1.1.1) (pcs_ok' hc.2 h2.1.1) (by have := op_len h1; omega) (by have := op_len h2; omega)).mono ?_
    rintro e w' ⟨f, he, h6, h7⟩
    exact ⟨f, he, ps, qs, h1, h2, h6, h5.trans h7⟩
  · rintro w1 f ⟨ps, qs, h1, h2, h3, h4⟩
    obtain ⟨k1, _, k3⟩ := cmn_ap _ ps qs (Nat.le_refl _) h1.1 h2.1
    refine (form_any c hc f (cmn ps qs) (fun t => Ta c A t ∧ Ta c B t) w1 h3 (per_and (ta_per c A) (ta_per c B)) k1 (fun k => by rw [h1.2.1 k, cmn_nil]) (fun _ t a b => by rw [k3 t, h1.2.2 t a b, h2.2.2 t a b])).mono ?_
    rintro e w' ⟨v, he, M, h5, h6, h8, h7⟩
    exact ⟨v, he, M, h5, h6, lob_mono h8 (Below.size h4), h4.trans h7⟩
set_option maxHeartbeats 1000000 in
theorem less_core (c : Int) (a a' : Option Addr) (n cap n' cap' : Nat) (w : World) (A B R : World → Value → Prop) (A2 A3 : World → Value → Value → Prop)
    (T1 : Hid (Calls Try.prog 36 #[.int .i64 c, .slice a n cap] w fun e w' => ∃ v, e = .returned v ∧ A w' v))
    (T2 : Hid (∀ w u, A w u → Calls Try.prog 36 #[.int .i64 c, .slice a' n' cap'] w fun e w' => ∃ v, e = .returned v ∧ A2 w' u v))
    (T2' : Hid (∀ w u v, A2 w u v → Calls Try.prog 43 #[.int .i64 c, v] w fun e w' => ∃ v, e = .returned v ∧ A3 w' u v))
    (T3 : Hid (∀ w u v, A3 w u v → Calls Try.prog 42 #[u, v] w fun e w' => ∃ v, e = .returned v ∧ B w' v))
    (T4 : Hid (∀ w v, B w v → Calls Try.prog 34 #[.int .i64 c, v] w fun e w' => ∃ v, e = .returned v ∧ R w' v)) :
    Calls Try.prog 26 #[.int .i64 c, .slice a n cap, .slice a' n' cap'] w fun e w' => ∃ v, e = .returned v ∧ R w' v := by
  go_enter Try.func26, Try.ntmps26
  go_wp2_with fail
  (refine (unhide T1).mono ?_; rintro e w1 ⟨v1, rfl, h1⟩; replace h1 := hide h1)
  go_wp2_with fail
  (refine (unhide T2 _ _ (unhide h1)).mono ?_; rintro e w2 ⟨v2, rfl, h2⟩; replace h2 := hide h2)
  go_wp2_with fail
  (refine (unhide T2' _ _ _ (unhide h2)).mono ?_; rintro e w3 ⟨v3, rfl, h3⟩; replace h3 := hide h3)
  go_wp2_with fail
  (refine (unhide T3 _ _ _ (unhide h3)).mono ?_; rintro e w4 ⟨v4, rfl, h4⟩; replace h4 := hide h4)
  go_wp2_with fail
  (refine (unhide T4 _ _ (unhide h4)).mono ?_; rintro e w5 ⟨v5, rfl, h5⟩; replace h5 := hide h5)
  go_wp2_with fail
  go_ret
  exact ⟨v5, rfl, unhide h5⟩
theorem less_any (c : Int) (hc : In c) (va vb : Value) (A B : List Pr) (w : World) (hla : A.length ≤ 50000) (hlb : B.length ≤ 50000) (hA : Rs w va A) (hB : Rs w vb B) :
    Calls Try.prog 26 #[.int .i64 c, va, vb] w fun e w' => ∃ v, e = .returned v ∧ Fr w c (fun t => Ta c A t ∧ ¬ Ta c B t) w' v := by
  obtain ⟨a, cap, hv⟩ := rs_slice hA
  obtain ⟨a', cap', hv'⟩ := rs_slice hB
  subst hv hv'
  refine less_core c a a' _ cap _ cap' w (fun w' v => ∃ ps, Op c A ps ∧ Rs w' v ps ∧ Keep w w') (fun w' f => ∃ ps qs, Op c A ps ∧ Op c B qs ∧ Sq w' f (cmn ps (bts c qs)) ∧ Keep w w') (Fr w c (fun t => Ta c A t ∧ ¬ Ta c B t)) (fun w' u v => ∃ ps qs, Op c A ps ∧ Op c B qs ∧ Rs w' u ps ∧ Rs w' v qs ∧ Keep w w') (fun w' u v => ∃ ps qs, Op c A ps ∧ Op c B qs ∧ Rs w' u ps ∧ Rs w' v (bts c qs) ∧ Keep w w') (hide ?_) (hide ?_) (hide ?_) (hide ?_) (hide ?_)
  · refine (opened_any c _ A w hla hA).mono ?_
    rintro e w' ⟨v, ps, he, h1, h2, h3⟩
    exact ⟨v, he, ps, h1, h2, h3⟩
  · rintro w1 u ⟨ps, h1, h2, h3⟩
    refine (opened_any c _ B w1 hlb (hB.keep h3)).mono ?_
    rintro e w' ⟨v, qs, he, h4, h5, h6⟩
    exact ⟨v, he, ps, qs, h1, h4, h2.keep h6, h5, h3.trans h6⟩
  · rintro w1 u v ⟨ps, qs, h1, h2, h3, h4, h5⟩
    refine (between_any c hc v qs w1 (by have := op_len h2; omega) h4).mono ?_
    rintro e w' ⟨x, he, h6, h7⟩
    exact ⟨x, he, ps, qs, h1, h2, h3.keep h7, h6, h5.trans h7⟩
  · rintro w1 u v ⟨ps, qs, h1, h2, h3, h4, h5⟩
    refine (common_any u v ps (bts c qs) w1 h3 h4 (pcs_ok' hc.2 h1.1.1) (pcs_ok' hc.2 (bts_any h2).1) (by have := op_len h1; omega) (by have := op_len h2; have := bts_len c qs; omega)).mono ?_
    rintro e w' ⟨f, he, h6, h7⟩
    exact ⟨f, he, ps, qs, h1, h2, h6, h5.trans h7⟩
  · rintro w1 f ⟨ps, qs, h1, h2, h3, h4⟩
    obtain ⟨k1, _, k3⟩ := cmn_ap _ ps (bts c qs) (Nat.le_refl _) h1.1 (bts_any h2)
    refine (form_any c hc f (cmn ps (bts c qs)) (fun t => Ta c A t ∧ ¬ Ta c B t) w1 h3 (per_and (ta_per c A) (per_not (ta_per c B))) k1 (fun k => by rw [h1.2.1 k, cmn_nil]) (fun hcy t a b => by rw [k3 t, h1.2.2 t a b, (bts_op (by have := hcy.1; omega) h2).2 t a b])).mono ?_
    rintro e w' ⟨v, he, M, h5, h6, h8, h7⟩
    exact ⟨v, he, M, h5, h6, lob_mono h8 (Below.size h4), h4.trans h7⟩
end Go.Proofs.Ytilafaljlhgbmaa
