/- Package circle: the ticks of none, of both, of one alone; how many ticks; the widest arc. -/
import Derived.Test.YtcllijjmjmfedaaCSet
import Derived.LoopTactic
namespace Go.Proofs.Ytcllijjmjmfedaa
open Go.RowKit Go.Shelf
attribute [local go_sem ↓] Go.wp_at_zero Go.wp_at_succ
set_option linter.unusedVariables false
set_option linter.unusedSimpArgs false
set_option maxRecDepth 10000
theorem rs_slice {w : World} {v : Value} {L : List Pr} (h : Rs w v L) : ∃ a cap, v = .slice a L.length cap := by obtain ⟨a, cap, h, _⟩ := h; exact ⟨a, cap, h⟩
theorem nil_fr (w : World) {c : Int} (h : ¬ Cyc c) (P : Int → Prop) {w' : World} (hk : Keep w w') : Fr w c P w' (.slice none 0 0) := ⟨[], rs_nil w', .inl ⟨h, rfl⟩, (fun ad m cap e => by cases e), hk⟩
theorem bts_op {c : Int} (hc : 0 ≤ c) {L ps : List Pr} (h : Op c L ps) : Ap c (bts c ps) ∧ ∀ t, 0 ≤ t → t < c → (Mm (bts c ps) t ↔ ¬ Ta c L t) := by
  obtain ⟨h1, h2⟩ := bts_ap hc h.1
  exact ⟨h1, fun t a b => by rw [h2 t a b, h.2.2 t a b]⟩
theorem bts_neg {c : Int} (hc : c < 0) : bts c [] = [] := by
  unfold bts
  rw [if_neg (by show ¬ (0 : Int) < c; omega)]
  rfl
theorem bts_any {c : Int} {L ps : List Pr} (h : Op c L ps) : Ap c (bts c ps) := by
  by_cases hc : 0 ≤ c
  · exact (bts_op hc h).1
  · have : ps = [] := h.2.1 (fun k => hc (by have := k.1; omega))
    rw [this, bts_neg (by omega)]
    exact ⟨fun p hp => by simp at hp, List.Pairwise.nil⟩
theorem bts_len (c : Int) (L : List Pr) : (bts c L).length ≤ L.length + 1 := by
  have := bt_len L [] 0
  unfold bts
  split
  · simp at this ⊢; omega
  · simp at this; omega
set_option maxHeartbeats 1000000 in
theorem rest_core0 (c : Int) (a : Option Addr) (n cap : Nat) (w : World) (T0 : Hid (∀ w, Calls Try.prog 24 #[.int .i64 c] w fun e w' => e = .returned (.bool false) ∧ w' = w)) :
    Calls Try.prog 20 #[.int .i64 c, .slice a n cap] w fun e w' => e = .returned (.slice none 0 0) ∧ w' = w := by
  go_enter Try.func20, Try.ntmps20
  go_wp2_with fail
  (refine ((unhide T0) _).mono ?_; rintro e w ⟨rfl, rfl⟩)
  go_wp2_with fail
  go_ret
  exact ⟨rfl, rfl⟩
set_option maxHeartbeats 1000000 in
theorem rest_core (c : Int) (a : Option Addr) (n cap : Nat) (w : World) (A A' B R : World → Value → Prop)
    (T0 : Hid (∀ w, Calls Try.prog 24 #[.int .i64 c] w fun e w' => e = .returned (.bool true) ∧ w' = w))
    (T1 : Hid (Calls Try.prog 19 #[.int .i64 c, .slice a n cap] w fun e w' => ∃ v, e = .returned v ∧ A w' v))
    (T1' : Hid (∀ w v, A w v → Calls Try.prog 30 #[.int .i64 c, v] w fun e w' => ∃ v, e = .returned v ∧ A' w' v))
    (T2 : Hid (∀ w v, A' w v → Calls Try.prog 23 #[v] w fun e w' => ∃ v, e = .returned v ∧ B w' v))
    (T3 : Hid (∀ w v, B w v → Calls Try.prog 22 #[.int .i64 c, v] w fun e w' => ∃ v, e = .returned v ∧ R w' v)) :
    Calls Try.prog 20 #[.int .i64 c, .slice a n cap] w fun e w' => ∃ v, e = .returned v ∧ R w' v := by
  go_enter Try.func20, Try.ntmps20
  go_wp2_with fail
  (refine ((unhide T0) _).mono ?_; rintro e w ⟨rfl, rfl⟩)
  go_wp2_with fail
  (refine (unhide T1).mono ?_; rintro e w1 ⟨v1, rfl, h1⟩; replace h1 := hide h1)
  go_wp2_with fail
  (refine (unhide T1' _ _ (unhide h1)).mono ?_; rintro e w2 ⟨v2, rfl, h2⟩; replace h2 := hide h2)
  go_wp2_with fail
  (refine (unhide T2 _ _ (unhide h2)).mono ?_; rintro e w3 ⟨v3, rfl, h3⟩; replace h3 := hide h3)
  go_wp2_with fail
  (refine (unhide T3 _ _ (unhide h3)).mono ?_; rintro e w4 ⟨v4, rfl, h4⟩; replace h4 := hide h4)
  go_wp2_with fail
  go_ret
  exact ⟨v4, rfl, unhide h4⟩
theorem rest_any (c : Int) (hc : In c) (v0 : Value) (L : List Pr) (w : World) (hl : L.length ≤ 50000) (hR : Rs w v0 L) :
    Calls Try.prog 20 #[.int .i64 c, v0] w fun e w' => ∃ v, e = .returned v ∧ Fr w c (fun t => ¬ Ta c L t) w' v := by
  obtain ⟨a, cap, hv⟩ := rs_slice hR
  subst hv
  by_cases hcy : Cyc c
  · refine rest_core c a _ cap w (fun w' v => ∃ ps, Op c L ps ∧ Rs w' v ps ∧ Keep w w') (fun w' v => ∃ ps, Op c L ps ∧ Rs w' v (bts c ps) ∧ Keep w w') (fun w' f => ∃ ps, Op c L ps ∧ Sq w' f (bts c ps) ∧ Keep w w') (Fr w c (fun t => ¬ Ta c L t)) (hide (cyc_yes c hcy)) (hide ?_) (hide ?_) (hide ?_) (hide ?_)
    · refine (opened_any c _ L w hl hR).mono ?_
      rintro e w' ⟨v, ps, he, h1, h2, h3⟩
      exact ⟨v, he, ps, h1, h2, h3⟩
    · rintro w1 v ⟨ps, h1, h2, h3⟩
      refine (between_any c hc v ps w1 (by have := op_len h1; omega) h2).mono ?_
      rintro e w' ⟨u, he, h4, h5⟩
      exact ⟨u, he, ps, h1, h4, h3.trans h5⟩
    · rintro w1 v ⟨ps, h1, h2, h3⟩
      refine (values_any v (bts c ps) w1 h2 (pcs_ok' hc.2 (bts_any h1).1) (by have := op_len h1; have := bts_len c ps; omega)).mono ?_
      rintro e w' ⟨f, he, h4, h5⟩
      exact ⟨f, he, ps, h1, h4, h3.trans h5⟩
    · rintro w1 f ⟨ps, h1, h2, h3⟩
      refine (form_any c hc f (bts c ps) (fun t => ¬ Ta c L t) w1 h2 (per_not (ta_per c L)) (bts_any h1) (fun k => absurd hcy k) (fun _ => (bts_op (by have := hcy.1; omega) h1).2)).mono ?_
      rintro e w' ⟨v, he, M, h4, h5, h7, h6⟩
      exact ⟨v, he, M, h4, h5, lob_mono h7 (Below.size h3), h3.trans h6⟩
  · refine (rest_core0 c a _ cap w (hide (cyc_no c hcy))).mono ?_
    rintro e w' ⟨rfl, rfl⟩
    exact ⟨_, rfl, nil_fr _ hcy _ (Keep.refl _)⟩
end Go.Proofs.Ytcllijjmjmfedaa
