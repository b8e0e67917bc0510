/- Package circle: arcs in form, the ticks of both, of one alone, of none; how many ticks. -/
import Derived.Test.YtcllijjmjmfedaaCOpn
import Derived.Test.YtcllijjmjmfedaaCBtw
import Derived.Test.YtcllijjmjmfedaaCCom
namespace Go.Proofs.Ytcllijjmjmfedaa
open Go.RowKit Go.Shelf
attribute [local go_sem ↓] Go.wp_at_zero Go.wp_at_succ
set_option linter.unusedVariables false
set_option linter.unusedSimpArgs false
set_option maxRecDepth 10000
theorem tot_len {c : Int} : ∀ {l : List Pr}, Ok c l → (l.length : Int) ≤ tot l
  | [], _ => by simp [tot]
  | p :: l, h => by
    have h1 := tot_len (l := l) fun x hx => h x (by simp [hx])
    have h2 := h p (by simp)
    rw [tot_cons]
    simp only [List.length_cons]
    omega
theorem ap_len {c : Int} {l : List Pr} (h : Ap c l) : l.length ≤ c.toNat := by
  have h1 := tot_len h.1
  rw [tot_cnt h] at h1
  have := (cnt_bd (Mm l) c.toNat).2
  omega
theorem rise_len {c : Int} : ∀ (L : List Pr) (lo : Int), Rise L → (∀ a, a ∈ L → lo ≤ a.1 ∧ a.1 < c) → L.length ≤ (c - lo).toNat
  | [], _, _, _ => by simp
  | a :: L, lo, h, hb => by
    unfold Rise at h
    rw [List.pairwise_cons] at h
    have h1 := hb a (by simp)
    have h2 := rise_len L (a.1 + 1) h.2 fun b hb' => ⟨by have := h.1 b hb'; omega, (hb b (by simp [hb'])).2⟩
    simp only [List.length_cons]
    omega
theorem fo_len {c : Int} {P : Int → Prop} {M : List Pr} (h : Fo c P M) : M.length ≤ 6000 := by
  rcases h with ⟨_, rfl⟩ | ⟨hc, h⟩
  · simp
  · rcases h with ⟨_, rfl⟩ | ⟨_, r, m⟩
    · simp
    · have := rise_len M 0 r fun a ha => by have := (m a).1 ha; exact ⟨this.1, this.2.1⟩
      have := hc.2
      omega
theorem last_split {L : List Pr} (h : 2 ≤ L.length) : ∃ x m z, L = x :: (m ++ [z]) := by
  cases L with
  | nil => simp at h
  | cons x r =>
    rcases List.eq_nil_or_concat r with rfl | ⟨m, z, rfl⟩
    · simp at h
    · exact ⟨x, m, z, by simp⟩
theorem fpx_wrap (c : Int) (x z : Pr) (m : List Pr) : fpx c (x :: (m ++ [z])) = if 0 < x.1 ∨ z.1 + (z.2 - z.1) < c then (x :: (m ++ [z])).map ar else m.map ar ++ [(z.1, z.2 - z.1 + (x.2 - x.1))] := by
  have hl : (x :: (m ++ [z])).length - 1 = m.length + 1 := by simp
  have h0 : ((x :: (m ++ [z])).map ar).getD 0 (0, 0) = ar x := by simp
  have h1 : ((x :: (m ++ [z])).map ar).getD (m.length + 1) (0, 0) = ar z := by
    simp [List.getD_eq_getElem?_getD]
  unfold fpx
  rw [hl, h0, h1]
  have h2 : ¬ ((x :: (m ++ [z])).map ar).length < 2 := by simp
  by_cases h : 0 < x.1 ∨ z.1 + (z.2 - z.1) < c
  · rw [if_pos (.inr h), if_pos h]
  · rw [if_neg (fun k => k.elim h2 h), if_neg h]
    simp [ar, List.set_append]
theorem fpx_fo {c : Int} {P : Int → Prop} {L : List Pr} (hp : Per c P) (h : Ap c L) (hn : ¬ Cyc c → L = []) (hm : Cyc c → ∀ t, 0 ≤ t → t < c → (Mm L t ↔ P t)) : Fo c P (fpx c L) := by
  by_cases hc : Cyc c
  · right
    refine ⟨hc, ?_⟩
    have hm' := fun t a b => (hm hc t a b).symm
    by_cases h2 : L.length < 2
    · have e : fpx c L = L.map ar := by unfold fpx; rw [if_pos (.inl (by simpa using h2))]
      rw [e]
      refine form_plain hp hc.1 h hm' ?_
      intro p q hp' hq' _ _
      cases L with
      | nil => simp at hp'
      | cons x r =>
        cases r with
        | nil => simp at hp'; rw [hp']
        | cons y r => simp at h2; omega
    · obtain ⟨x, m, z, hL⟩ := last_split (L := L) (by omega)
      subst hL
      rw [fpx_wrap]
      have hs := h.2
      rw [List.pairwise_cons] at hs
      have hxo := h.1 x (by simp)
      have hzo := h.1 z (by simp)
      by_cases k : 0 < x.1 ∨ z.1 + (z.2 - z.1) < c
      · rw [if_pos k]
        refine form_plain hp hc.1 h hm' ?_
        intro p q hp' hq' p0 qc
        exfalso
        rcases k with k | k
        · rcases List.mem_cons.1 hp' with e | e
          · rw [e] at p0; omega
          · have := hs.1 p e
            omega
        · rcases ap_tri h.2 hq' (show z ∈ x :: (m ++ [z]) by simp) with e | e | e
          · rw [e] at qc; omega
          · have := h.1 q hq'; omega
          · have := h.1 q hq'
            have hzl : ∀ y, y ∈ x :: (m ++ [z]) → y = z ∨ y.2 < z.1 := by
              intro y hy
              rcases List.mem_cons.1 hy with e | e
              · right; rw [e]; exact hs.1 z (by simp)
              · rcases List.mem_append.1 e with e | e
                · right; exact (List.pairwise_append.1 hs.2).2.2 y e z (by simp)
                · left; simpa using e
            rcases hzl q hq' with e' | e'
            · rw [e'] at qc; omega
            · omega
      · rw [if_neg k]
        exact form_wrap hp hc.1 h hm' (by omega) (by omega)
  · left
    refine ⟨hc, ?_⟩
    rw [hn hc]
    rfl
theorem sum_in {c : Int} {L : List Pr} (h : Ap c L) (hc : c ≤ 9223372036854775807) (h2 : 2 ≤ L.length) : In (((L.map ar).getD (L.length - 1) (0, 0)).2 + ((L.map ar).getD 0 (0, 0)).2) := by
  obtain ⟨x, m, z, rfl⟩ := last_split h2
  have hl : (x :: (m ++ [z])).length - 1 = m.length + 1 := by simp
  have h0 : ((x :: (m ++ [z])).map ar).getD 0 (0, 0) = ar x := by simp
  have h1 : ((x :: (m ++ [z])).map ar).getD (m.length + 1) (0, 0) = ar z := by
    simp [List.getD_eq_getElem?_getD]
  rw [hl, h0, h1]
  have hs := h.2
  rw [List.pairwise_cons] at hs
  have := hs.1 z (by simp)
  have hxo := h.1 x (by simp)
  have hzo := h.1 z (by simp)
  unfold ar In
  simp only
  omega
theorem lob_mono {n m : Nat} {v : Value} (h : LoB m v) (hn : n ≤ m) : LoB n v := fun ad k cap e => Nat.le_trans hn (h ad k cap e)
/-- v holds arcs in form of the ticks P -/
def Fr (w : World) (c : Int) (P : Int → Prop) (w' : World) (v : Value) : Prop := ∃ M, Rs w' v M ∧ Fo c P M ∧ LoB w.heap.size v ∧ Keep w w'
theorem form_any (c : Int) (hc : In c) (fv : Value) (L : List Pr) (P : Int → Prop) (w : World) (hs : Sq w fv L) (hp : Per c P) (h : Ap c L) (hn : ¬ Cyc c → L = []) (hm : Cyc c → ∀ t, 0 ≤ t → t < c → (Mm L t ↔ P t)) :
    Calls Try.prog 22 #[.int .i64 c, fv] w fun e w' => ∃ v, e = .returned v ∧ Fr w c P w' v := by
  have hl : L.length ≤ 100000 := by
    by_cases k : Cyc c
    · have := ap_len h
      have := k.2
      omega
    · rw [hn k]; simp
  refine (form_core c fv L w hl hs (pcs_ok' hc.2 h.1) (sum_in h hc.2)).mono ?_
  rintro e w' ⟨v, he, hr, hlb, hk⟩
  exact ⟨v, he, _, hr, fpx_fo hp h hn hm, hlb, hk⟩
set_option maxHeartbeats 1000000 in
theorem set_core (c : Int) (a : Option Addr) (n cap : Nat) (w : World) (A B R : World → Value → Prop)
    (T1 : Hid (Calls Try.prog 19 #[.int .i64 c, .slice a n cap] w fun e w' => ∃ v, e = .returned v ∧ A w' v))
    (T2 : Hid (∀ w v, A w v → Calls Try.prog 23 #[v] w fun e w' => ∃ v, e = .returned v ∧ B w' v))
    (T3 : Hid (∀ w v, B w v → Calls Try.prog 22 #[.int .i64 c, v] w fun e w' => ∃ v, e = .returned v ∧ R w' v)) :
    Calls Try.prog 14 #[.int .i64 c, .slice a n cap] w fun e w' => ∃ v, e = .returned v ∧ R w' v := by
  go_enter Try.func14, Try.ntmps14
  go_wp2_with fail
  (refine (unhide T1).mono ?_; rintro e w1 ⟨v1, rfl, h1⟩; replace h1 := hide h1)
  go_wp2_with fail
  (refine (unhide T2 _ _ (unhide h1)).mono ?_; rintro e w2 ⟨v2, rfl, h2⟩; replace h2 := hide h2)
  go_wp2_with fail
  (refine (unhide T3 _ _ (unhide h2)).mono ?_; rintro e w3 ⟨v3, rfl, h3⟩; replace h3 := hide h3)
  go_wp2_with fail
  go_ret
  exact ⟨v3, rfl, unhide h3⟩
theorem set_any (c : Int) (hc : In c) (v0 : Value) (L : List Pr) (w : World) (hl : L.length ≤ 50000) (hR : Rs w v0 L) :
    Calls Try.prog 14 #[.int .i64 c, v0] w fun e w' => ∃ v, e = .returned v ∧ Fr w c (Ta c L) w' v := by
  obtain ⟨a, cap, hv⟩ : ∃ a cap, v0 = .slice a L.length cap := by obtain ⟨a, cap, h, _⟩ := hR; exact ⟨a, cap, h⟩
  subst hv
  refine set_core c a _ cap w (fun w' v => ∃ ps, Op c L ps ∧ Rs w' v ps ∧ Keep w w') (fun w' f => ∃ ps, Op c L ps ∧ Sq w' f ps ∧ Keep w w') (Fr w c (Ta c L)) (hide ?_) (hide ?_) (hide ?_)
  · refine (opened_any c _ L w hl hR).mono ?_
    rintro e w' ⟨v, ps, he, h1, h2, h3⟩
    exact ⟨v, he, ps, h1, h2, h3⟩
  · rintro w1 v ⟨ps, h1, h2, h3⟩
    have hpl := ap_len h1.1
    have hps : ps.length ≤ 100000 := by
      by_cases k : Cyc c
      · have := k.2; omega
      · rw [h1.2.1 k]; simp
    refine (values_any v ps w1 h2 (pcs_ok' hc.2 h1.1.1) hps).mono ?_
    rintro e w' ⟨f, he, h4, h5⟩
    exact ⟨f, he, ps, h1, h4, h3.trans h5⟩
  · rintro w1 f ⟨ps, h1, h2, h3⟩
    refine (form_any c hc f ps (Ta c L) w1 h2 (ta_per c L) h1.1 h1.2.1 (fun _ => h1.2.2)).mono ?_
    rintro e w' ⟨v, he, M, h4, h5, h7, h6⟩
    exact ⟨v, he, M, h4, h5, lob_mono h7 (Below.size h3), h3.trans h6⟩
theorem op_len {c : Int} {L ps : List Pr} (h : Op c L ps) : ps.length ≤ 6000 := by
  by_cases k : Cyc c
  · have := k.2
    have := ap_len h.1
    omega
  · rw [h.2.1 k]; simp
end Go.Proofs.Ytcllijjmjmfedaa
