/- The document's answer for one arc: in form, whether a tick is one of its, how many ticks lie between two. -/
import Derived.Test.YtilafaljlhgbmaaCRefC
namespace Go.Proofs.Ytilafaljlhgbmaa
open Go.RowKit Go.Shelf
attribute [local go_sem ↓] Go.wp_at_zero Go.wp_at_succ
set_option linter.unusedVariables false
set_option linter.unusedSimpArgs false
set_option maxRecDepth 10000
theorem ia_nm (c : Int) (a : Pr) (t : Int) : Ta c [a] t ↔ Ia c a t := by
  unfold Ta
  constructor
  · rintro ⟨b, hb, h⟩; simp at hb; rw [hb] at h; exact h
  · intro h; exact ⟨a, by simp, h⟩
/-- one arc's form is the arc in form -/
theorem nm_form {c : Int} {a : Pr} {M : List Pr} (h : Fo c (Ta c [a]) M) : M = if (nm c a).2 = 0 then [] else [nm c a] := by
  by_cases hb : ¬ Cyc c ∨ a.2 < 1
  · have e : nm c a = (0, 0) := by unfold nm; rw [if_pos hb]
    rw [e, if_pos rfl]
    rcases h with ⟨_, h⟩ | ⟨hc, h⟩
    · exact h
    · have hno : ∀ t, ¬ Ta c [a] t := by
        intro t ht
        rw [ia_nm] at ht
        rcases hb with hb | hb
        · exact hb hc
        · have := ht.2.1; omega
      rcases h with ⟨hf, _⟩ | ⟨_, _, hm⟩
      · exact absurd (hf 0 (by omega) (by have := hc.1; omega)) (hno 0)
      · cases M with
        | nil => rfl
        | cons x M =>
          have h1 := ((hm x).1 (by simp)).2.2.2.2.1 0 (by omega) (by have := ((hm x).1 (by simp)).2.2.1; omega)
          exact absurd h1 (hno _)
  · have hc : Cyc c := Classical.byContradiction fun k => hb (.inl k)
    have hn : ¬ a.2 < 1 := fun k => hb (.inr k)
    have key : ∀ t, Ta c [a] t ↔ (t - a.1) % c < a.2 := by
      intro t
      rw [ia_nm]
      exact ⟨fun h => h.2.2, fun h => ⟨hc, by omega, h⟩⟩
    have h1 := hc.1
    by_cases h2 : c ≤ a.2
    · have e : nm c a = (0, c) := by unfold nm; rw [if_neg hb, if_pos h2]
      rw [e, if_neg (by simp only; omega)]
      refine fo_one (ta_per c [a]) (ta_per c [a]) h (.inr ⟨hc, .inl ⟨fun t _ _ => ?_, rfl⟩⟩) (fun _ _ _ _ => Iff.rfl)
      rw [key]
      have := (em_bd h1 (t - a.1)).2
      omega
    · have e : nm c a = (a.1 % c, a.2) := by unfold nm; rw [if_neg hb, if_neg h2]
      have hx := em_bd h1 a.1
      rw [e, if_neg (by simp only; omega)]
      have key2 : ∀ t, Ta c [a] t ↔ (t - a.1 % c) % c < a.2 := fun t => by rw [key t, em_sub]
      refine fo_one (ta_per c [a]) (ta_per c [a]) h (.inr ⟨hc, .inr ⟨?_, List.pairwise_singleton _ _, ?_⟩⟩) (fun _ _ _ _ => Iff.rfl)
      · intro hF
        by_cases k : a.1 % c = 0
        · have := (key2 (c - 1)).1 (hF (c - 1) (by omega) (by omega))
          rw [em_one (by omega) (by omega)] at this
          omega
        · have := (key2 (a.1 % c - 1)).1 (hF (a.1 % c - 1) (by omega) (by omega))
          rw [em_neg (by omega) (by omega)] at this
          omega
      · have arcx : Arc c (Ta c [a]) (a.1 % c, a.2) := by
          refine ⟨hx.1, hx.2, by simp only; omega, by simp only; omega, fun k k0 k1 => ?_, ?_, ?_⟩
          · simp only at k1 ⊢
            rw [key2, show a.1 % c + k - a.1 % c = k by omega, em_one k0 (by omega)]
            exact k1
          · simp only
            rw [key2, show a.1 % c + a.2 - a.1 % c = a.2 by omega, em_one (by omega) (by omega)]
            omega
          · simp only
            rw [key2, show a.1 % c - 1 - a.1 % c = -1 by omega, em_neg (by omega) (by omega)]
            omega
        intro b
        constructor
        · intro hb'
          simp only [List.mem_singleton] at hb'
          rw [hb']; exact arcx
        · intro hb'
          obtain ⟨y, m⟩ := b
          have h5 := hb'.2.2.2.2.1 0 (by omega) (by have := hb'.2.2.1; omega)
          have h7 := hb'.2.2.2.2.2.2
          simp only at h5 h7
          rw [Int.add_zero, key2] at h5
          rw [key2] at h7
          have y0 := hb'.1
          have y1 := hb'.2.1
          simp only at y0 y1
          have ey : y = a.1 % c := by
            apply Classical.byContradiction
            intro hne
            by_cases hs : 0 ≤ y - a.1 % c
            · rw [em_one hs (by omega)] at h5
              rw [em_one (by omega) (by omega)] at h7
              omega
            · rw [em_neg (by omega) (by omega)] at h5
              by_cases hm1 : -c ≤ y - 1 - a.1 % c
              · rw [em_neg hm1 (by omega)] at h7
                omega
              · omega
          subst ey
          rw [arc_len hb' arcx]
          simp
theorem rs_lit3 (w : World) (o1 o2 : Obj) (x y : Int) (t : TypeId) (hx : In x) (hy : In y) : Rs (((w.alloc o1).alloc o2).alloc (.cells #[.int .i64 x, .int .i64 y] t)) (.slice (some ⟨w.heap.size + 1 + 1, 0, none⟩) 1 1) [(x, y)] := by
  have h := rs_lit ((w.alloc o1).alloc o2) x y t hx hy
  rw [World.size_alloc, World.size_alloc] at h
  exact h
theorem two_new3 (w : World) (o1 o3 : Obj) (t : TypeId) {w' : World} (hk : Keep (((w.alloc o1).alloc (.cells #[.int .i64 0, .int .i64 0] t)).alloc o3) w') : Two w' (w.heap.size + 1) t (0, 0) := by
  have h := ((Two.new (w.alloc o1) t (0, 0)).alloc o3).keep hk
  rw [World.size_alloc] at h
  exact h
set_option maxHeartbeats 1000000 in
theorem rnorm_core (c x y u v : Int) (hx : In x) (hy : In y) (w : World) (L : List Pr) (hL : (L = [] ∧ u = 0 ∧ v = 0) ∨ L = [(u, v)]) (A : World → World → Value → Prop)
    (T1 : Hid (∀ w' v, Rs w' v [(x, y)] → Calls Try.prog 38 #[.int .i64 c, v] w' fun e w'' => ∃ v, e = .returned v ∧ A w' w'' v))
    (T2 : Hid (∀ w0 w' v, A w0 w' v → Calls Try.prog 37 #[v] w' fun e w'' => ∃ v, e = .returned v ∧ Rs w'' v L ∧ Keep w0 w'')) :
    Calls Try.prog 19 #[.int .i64 c, .agg #[.int .i64 x, .int .i64 y]] w fun e w' => e = .returned (.agg #[.int .i64 u, .int .i64 v]) ∧ Keep w w' := by
  go_enter Try.func19, Try.ntmps19
  go_wp2_with fail
  refine ((unhide T1) _ _ (rs_lit3 w _ _ x y _ hx hy)).mono ?_
  rintro e w1 ⟨v1, rfl, h1⟩
  have H1 := hide h1
  clear h1
  go_wp2_with fail
  refine ((unhide T2) _ _ _ (unhide H1)).mono ?_
  rintro e w2 ⟨v2, rfl, hr, hk⟩
  have b4 := two_new3 w _ _ _ hk
  have HK : Hid (Keep w w2) := hide ((((Keep.refl w).alloc _).alloc _).alloc _ |>.trans hk)
  have r0 := b4.f0
  have r1 := b4.f1
  have s0 := b4.c0
  have s1 := b4.c1
  simp only at s0 s1
  have B4 := hide b4
  clear b4 hk
  have FIN : Hid (∀ p q : Int, Two ((w2.setCell ⟨w.heap.size + 1, 0, none⟩ (.int .i64 p)).setCell ⟨w.heap.size + 1, 1, none⟩ (.int .i64 q)) (w.heap.size + 1) 29 (p, q) ∧ Keep w ((w2.setCell ⟨w.heap.size + 1, 0, none⟩ (.int .i64 p)).setCell ⟨w.heap.size + 1, 1, none⟩ (.int .i64 q))) := by
    intro p q
    exact ⟨((unhide B4).set0 p).set1 q, (Below.setCell (p := ⟨w.heap.size + 1, 0, none⟩) (unhide HK) (by show w.heap.size ≤ w.heap.size + 1; omega) _).setCell (p := ⟨w.heap.size + 1, 1, none⟩) (by show w.heap.size ≤ w.heap.size + 1; omega) _⟩
  rcases hL with ⟨rfl, rfl, rfl⟩ | rfl
  · obtain ⟨b, cp, rfl, _, _⟩ := hr
    simp only [List.length_nil]
    go_wp2_with fail
    have f := (unhide FIN) 0 0
    have e0 := f.1.c0
    have e1 := f.1.c1
    exact bodyPost_ret (v := .agg #[.int .i64 0, .int .i64 0]) (by simp [results, Try.results19, go_sem, e0, e1, s0, s1]) rfl ⟨rfl, by first | exact f.2 | exact unhide HK⟩
  · obtain ⟨b, cp, rfl, _, hcell⟩ := hr
    obtain ⟨ad, rfl, _, _, c0, c1⟩ := hcell 0 (by simp)
    have en : ad.add 0 = ad := by unfold Addr.add; split <;> simp_all
    simp only [List.getD_cons_zero, Nat.zero_mul, en] at c0 c1
    clear hcell en
    simp only [List.length_cons, List.length_nil]
    go_wp2_with fail
    have f := (unhide FIN) u v
    have e0 := f.1.c0
    have e1 := f.1.c1
    exact bodyPost_ret (v := .agg #[.int .i64 u, .int .i64 v]) (by simp [results, Try.results19, go_sem, e0, e1]) rfl ⟨rfl, f.2⟩
theorem rnorm_any (c : Int) (hf : Few c) (a : Pr) (ha : InP a) (w : World) :
    Calls Try.prog 19 #[.int .i64 c, .agg #[.int .i64 a.1, .int .i64 a.2]] w fun e w' => e = .returned (.agg #[.int .i64 (nm c a).1, .int .i64 (nm c a).2]) ∧ Keep w w' := by
  refine rnorm_core c a.1 a.2 _ _ ha.1 ha.2 w (if (nm c a).2 = 0 then [] else [nm c a]) ?_ (fun w0 w' v => Tb w0 c (Ta c [a]) w' v) (hide fun w' v h => ticks_any c hf v [a] w' (by simp) h) (hide ?_)
  · rcases nm_bd c a with ⟨h1, h2⟩ | ⟨_, _, _, h3, _⟩
    · rw [if_pos h1, h1, h2]; exact .inl ⟨rfl, rfl, rfl⟩
    · rw [if_neg (by omega)]; exact .inr rfl
  · intro w0 w' v h
    refine (formb_any c v _ (ta_per c _) w0 w' h).mono ?_
    rintro e w'' ⟨v, he, M, h1, h2, h3, h4⟩
    rw [nm_form h2] at h1
    exact ⟨v, he, h1, h4⟩
end Go.Proofs.Ytilafaljlhgbmaa
