/- The words of a network that is right: no more braces are open than there may be, and they are not too long. -/
import Derived.Test.YtcdnbdajnagfiaaGreatDoorSWrd
import Derived.Lib.ItoaLen
namespace Go.Proofs.YtcdnbdajnagfiaaGreatDoor
open Go.RowKit
set_option linter.unusedVariables false
set_option linter.unusedSimpArgs false
set_option maxRecDepth 10000
namespace S
/-- from so many open braces to so many -/
def Bal (x : Int) (ws : List (List UInt8)) (y : Int) : Prop := ∀ st : St, st.op = x → oks st ws ∧ (pss st ws).op = y
theorem bal_nil (x : Int) : Bal x [] x := fun st h => ⟨trivial, h⟩
theorem Bal.append {x y z : Int} {a c : List (List UInt8)} (h : Bal x a y) (k : Bal y c z) : Bal x (a ++ c) z := fun st e => by
  obtain ⟨h1, h2⟩ := h st e
  obtain ⟨k1, k2⟩ := k (pss st a) h2
  exact ⟨(oks_append a c st).2 ⟨h1, k1⟩, by rw [← pss_append]; exact k2⟩
/-- a word that is no brace -/
def Pl (w : List UInt8) : Prop := w ≠ [123] ∧ w ≠ [125]
theorem bal_one {x : Int} {w : List UInt8} {ws : List (List UInt8)} {y : Int} (h0 : 0 ≤ x) (h2 : x ≤ 2) (h : Pl w) (k : Bal x ws y) : Bal x (w :: ws) y := by
  have : Bal x [w] x := fun st e => by
    have e1 : op1 st.op w = x := by unfold op1; rw [if_neg h.2, e]
    refine ⟨⟨⟨by rw [e1]; exact h0, by rw [e1]; exact h2⟩, trivial⟩, ?_⟩
    show (ps st w).op = x
    unfold ps
    rw [if_neg h.1]
    split <;> exact e1
  exact Bal.append this k
theorem bal_in {x : Int} {ws : List (List UInt8)} {y : Int} (h0 : 0 ≤ x) (h2 : x ≤ 2) (k : Bal (x + 1) ws y) : Bal x ([123] :: ws) y := by
  have : Bal x [[123]] (x + 1) := fun st e => by
    have e1 : op1 st.op [123] = x := by unfold op1; rw [if_neg (by decide), e]
    refine ⟨⟨⟨by rw [e1]; exact h0, by rw [e1]; exact h2⟩, trivial⟩, ?_⟩
    show (ps st [123]).op = x + 1
    unfold ps
    rw [if_pos rfl, e1]
  exact Bal.append this k
theorem bal_out {x : Int} {ws : List (List UInt8)} {y : Int} (h0 : 1 ≤ x) (h2 : x ≤ 3) (k : Bal (x - 1) ws y) : Bal x ([125] :: ws) y := by
  have : Bal x [[125]] (x - 1) := fun st e => by
    have e1 : op1 st.op [125] = x - 1 := by unfold op1; rw [if_pos rfl, e]
    refine ⟨⟨⟨by rw [e1]; omega, by rw [e1]; omega⟩, trivial⟩, ?_⟩
    show (ps st [125]).op = x - 1
    unfold ps
    rw [if_neg (by decide), if_pos (.inl rfl), e1]
  exact Bal.append this k
theorem bal_flat {x : Int} {f : List D → List (List UInt8)} : ∀ (L : List (List D)), (∀ d ∈ L, Bal x (f d) x) → Bal x (L.flatMap f) x
  | [], _ => bal_nil x
  | d :: L, h => by rw [List.flatMap_cons]; exact (h d List.mem_cons_self).append (bal_flat L (fun y hy => h y (List.mem_cons_of_mem _ hy)))
theorem gs_sign {s : List UInt8} {k n : Int} {c : UInt8} (h : Gs s k n) (hk : k ≠ 3) (hc : kd c.toNat = 7) : s ≠ [c] := by
  rintro rfl
  have h1 := h.2.1
  simp only [one] at h1
  rw [if_neg (by omega), if_neg (by omega), if_pos hc] at h1
  simp only [Except.ok.injEq, Tok.mk.injEq] at h1
  exact hk h1.1.symm
theorem pl_name {s : List UInt8} (h : nmB s = true) : Pl s := ⟨gs_sign (rg_gs (nmB_rg h).1) (by decide) (by decide), gs_sign (rg_gs (nmB_rg h).1) (by decide) (by decide)⟩
theorem pl_num {n : Int} (h : nuB n = true) : Pl (dg n) := ⟨gs_sign (gs_num h) (by decide) (by decide), gs_sign (gs_num h) (by decide) (by decide)⟩
theorem pl_grd {n : Int} (h : grB n = true) : Pl (dg n) := by
  by_cases h0 : n < 0
  · rw [dg_neg h0]
    exact ⟨by simp, by simp⟩
  · exact pl_num (by unfold nuB; have := of_decide_eq_true h; exact decide_eq_true ⟨by omega, by omega⟩)
theorem name_len {s : List UInt8} (h : nmB s = true) : s.length ≤ 24 := by
  have g := rg_gs (nmB_rg h).1
  rcases (one_ok g.2.1).2 with ⟨_, e⟩ | ⟨_, _, _, e1, _, e2⟩
  · simp at e
  · have : s.length = en s := e1
    omega
theorem dg_len {n : Int} (h : grB n = true) : (dg n).length ≤ 21 := Lib.itoa_length_le n (by have := of_decide_eq_true h; omega) (by have := of_decide_eq_true h; omega)
theorem nu_gr {n : Int} (h : nuB n = true) : grB n = true := by unfold nuB at h; unfold grB; have := of_decide_eq_true h; exact decide_eq_true ⟨by omega, by omega⟩
theorem cost_cons (w : List UInt8) (ws : List (List UInt8)) : cost (w :: ws) = w.length + 8 + cost ws := by simp [cost]
theorem cost_nil : cost [] = 0 := rfl
theorem cost_flat {f : List D → List (List UInt8)} {B : Nat} : ∀ (L : List (List D)), (∀ d ∈ L, cost (f d) ≤ B) → cost (L.flatMap f) ≤ L.length * B
  | [], _ => by simp [cost]
  | d :: L, h => by
    rw [List.flatMap_cons, cost_append, List.length_cons, Nat.succ_mul]
    have h1 := h d List.mem_cons_self
    have h2 := cost_flat L (fun y hy => h y (List.mem_cons_of_mem _ hy))
    omega
theorem cost_lw : ∀ {l : List (List UInt8)} {m : Nat}, (∀ s ∈ l, nmB s = true) → l.length ≤ m → cost (lw l) ≤ 41 * m + 9
  | [], m, _, _ => by simp [lw, cost]
  | s :: l, m, h, hm => by
    have key : ∀ l : List (List UInt8), (∀ s ∈ l, nmB s = true) → cost (l.flatMap (fun x => [[44], x])) ≤ 41 * l.length := by
      intro l
      induction l with
      | nil => intro _; simp [cost]
      | cons a l ih =>
        intro h
        rw [List.flatMap_cons, cost_append, cost_cons, cost_cons, cost_nil, List.length_cons]
        have := name_len (h a List.mem_cons_self)
        have := ih (fun y hy => h y (List.mem_cons_of_mem _ hy))
        simp only [List.length_cons, List.length_nil]
        omega
    have := key l (fun y hy => h y (List.mem_cons_of_mem _ hy))
    have := name_len (h s List.mem_cons_self)
    rw [lw, cost_cons, cost_append, cost_cons, cost_nil]
    simp only [List.length_cons, List.length_nil] at hm ⊢
    omega
theorem bal_lw {x : Int} (h0 : 0 ≤ x) (h2 : x ≤ 2) {l : List (List UInt8)} (h : ∀ s ∈ l, nmB s = true) : Bal x (lw l) x := by
  cases l with
  | nil => exact bal_one h0 h2 ⟨by decide, by decide⟩ (bal_nil x)
  | cons s l =>
    have key : ∀ l : List (List UInt8), (∀ s ∈ l, nmB s = true) → Bal x (l.flatMap (fun x => [[44], x])) x := by
      intro l
      induction l with
      | nil => intro _; exact bal_nil x
      | cons a l ih =>
        intro h
        rw [List.flatMap_cons]
        exact (bal_one h0 h2 ⟨by decide, by decide⟩ (bal_one h0 h2 (pl_name (h a List.mem_cons_self)) (bal_nil x))).append (ih (fun y hy => h y (List.mem_cons_of_mem _ hy)))
    rw [lw]
    exact bal_one h0 h2 (pl_name (h s List.mem_cons_self)) ((key l (fun y hy => h y (List.mem_cons_of_mem _ hy))).append (bal_one h0 h2 ⟨by decide, by decide⟩ (bal_nil x)))
theorem bal_head {ds : List D} (h : headB ds = true) : Bal 1 (headW ds) 1 := by
  have n0 := and_l h
  have v6 := and_l (and_r h)
  have hv := and_r (and_r h)
  obtain ⟨v1, hv⟩ := nus_cons hv
  obtain ⟨v2, hv⟩ := nus_cons hv
  obtain ⟨v3, hv⟩ := nus_cons hv
  obtain ⟨v4, hv⟩ := nus_cons hv
  obtain ⟨v5, hv⟩ := nus_cons hv
  obtain ⟨v7, hv⟩ := nus_cons hv
  obtain ⟨v8, hv⟩ := nus_cons hv
  obtain ⟨v9, hv⟩ := nus_cons hv
  exact (bal_one (by decide) (by decide) ⟨by decide, by decide⟩ (bal_one (by decide) (by decide) (pl_name n0) (bal_one (by decide) (by decide) ⟨by decide, by decide⟩ (bal_one (by decide) (by decide) (pl_num v1) (bal_one (by decide) (by decide) ⟨by decide, by decide⟩ (bal_one (by decide) (by decide) (pl_num v2) (bal_one (by decide) (by decide) ⟨by decide, by decide⟩ (bal_one (by decide) (by decide) (pl_num v3) (bal_one (by decide) (by decide) ⟨by decide, by decide⟩ (bal_one (by decide) (by decide) (pl_num v4) (bal_one (by decide) (by decide) ⟨by decide, by decide⟩ (bal_one (by decide) (by decide) (pl_num v5) (bal_one (by decide) (by decide) ⟨by decide, by decide⟩ (bal_one (by decide) (by decide) (pl_grd v6) (bal_one (by decide) (by decide) ⟨by decide, by decide⟩ (bal_one (by decide) (by decide) (pl_num v7) (bal_one (by decide) (by decide) ⟨by decide, by decide⟩ (bal_one (by decide) (by decide) (pl_num v8) (bal_one (by decide) (by decide) ⟨by decide, by decide⟩ (bal_one (by decide) (by decide) (pl_num v9) (bal_one (by decide) (by decide) ⟨by decide, by decide⟩ (bal_nil _))))))))))))))))))))))
theorem cost_head {ds : List D} (h : headB ds = true) : cost (headW ds) ≤ 800 := by
  have n0 := and_l h
  have v6 := and_l (and_r h)
  have hv := and_r (and_r h)
  obtain ⟨v1, hv⟩ := nus_cons hv
  obtain ⟨v2, hv⟩ := nus_cons hv
  obtain ⟨v3, hv⟩ := nus_cons hv
  obtain ⟨v4, hv⟩ := nus_cons hv
  obtain ⟨v5, hv⟩ := nus_cons hv
  obtain ⟨v7, hv⟩ := nus_cons hv
  obtain ⟨v8, hv⟩ := nus_cons hv
  obtain ⟨v9, hv⟩ := nus_cons hv
  have a0 := name_len n0
  have c1 := dg_len (nu_gr v1)
  have c2 := dg_len (nu_gr v2)
  have c3 := dg_len (nu_gr v3)
  have c4 := dg_len (nu_gr v4)
  have c5 := dg_len (nu_gr v5)
  have c6 := dg_len v6
  have c7 := dg_len (nu_gr v7)
  have c8 := dg_len (nu_gr v8)
  have c9 := dg_len (nu_gr v9)
  simp only [headW, hw, cost_append, cost_cons, cost_nil, List.length_cons, List.length_nil]
  omega
theorem bal_walk {ds : List D} (h : walkB ds = true) : Bal 1 (walkW ds) 1 := by
  have n0 := and_l h
  have n1 := and_l (and_r h)
  have hv := and_r (and_r h)
  obtain ⟨v2, hv⟩ := nus_cons hv
  obtain ⟨v3, hv⟩ := nus_cons hv
  obtain ⟨v4, hv⟩ := nus_cons hv
  exact (bal_one (by decide) (by decide) ⟨by decide, by decide⟩ (bal_one (by decide) (by decide) (pl_name n0) (bal_one (by decide) (by decide) ⟨by decide, by decide⟩ (bal_one (by decide) (by decide) (pl_name n1) (bal_one (by decide) (by decide) ⟨by decide, by decide⟩ (bal_one (by decide) (by decide) (pl_num v2) (bal_one (by decide) (by decide) ⟨by decide, by decide⟩ (bal_one (by decide) (by decide) (pl_num v3) (bal_one (by decide) (by decide) ⟨by decide, by decide⟩ (bal_one (by decide) (by decide) (pl_num v4) (bal_one (by decide) (by decide) ⟨by decide, by decide⟩ (bal_nil _))))))))))))
theorem cost_walk {ds : List D} (h : walkB ds = true) : cost (walkW ds) ≤ 400 := by
  have n0 := and_l h
  have n1 := and_l (and_r h)
  have hv := and_r (and_r h)
  obtain ⟨v2, hv⟩ := nus_cons hv
  obtain ⟨v3, hv⟩ := nus_cons hv
  obtain ⟨v4, hv⟩ := nus_cons hv
  have a0 := name_len n0
  have a1 := name_len n1
  have c2 := dg_len (nu_gr v2)
  have c3 := dg_len (nu_gr v3)
  have c4 := dg_len (nu_gr v4)
  simp only [walkW, cost_append, cost_cons, cost_nil, List.length_cons, List.length_nil]
  omega
theorem bal_foe {ds : List D} (h : foeB ds = true) : Bal 1 (foeW ds) 1 := by
  have n0 := and_l h
  have n1 := and_r h
  exact (bal_one (by decide) (by decide) ⟨by decide, by decide⟩ (bal_one (by decide) (by decide) (pl_name n0) (bal_one (by decide) (by decide) (pl_name n1) (bal_one (by decide) (by decide) ⟨by decide, by decide⟩ (bal_nil _)))))
theorem cost_foe {ds : List D} (h : foeB ds = true) : cost (foeW ds) ≤ 160 := by
  have n0 := and_l h
  have n1 := and_r h
  have a0 := name_len n0
  have a1 := name_len n1
  simp only [foeW, cost_append, cost_cons, cost_nil, List.length_cons, List.length_nil]
  omega
theorem bal_stop {ds : List D} (h : stopB ds = true) : Bal 1 (stopW ds) 1 := by
  have n0 := and_l h
  have n1 := and_l (and_r h)
  have n2 := and_l (and_r (and_r h))
  have hv := and_r (and_r (and_r h))
  obtain ⟨v3, hv⟩ := nus_cons hv
  obtain ⟨v4, hv⟩ := nus_cons hv
  exact (bal_one (by decide) (by decide) ⟨by decide, by decide⟩ (bal_one (by decide) (by decide) (pl_name n0) (bal_one (by decide) (by decide) ⟨by decide, by decide⟩ (bal_one (by decide) (by decide) (pl_name n1) (bal_one (by decide) (by decide) ⟨by decide, by decide⟩ (bal_one (by decide) (by decide) (pl_name n2) (bal_one (by decide) (by decide) ⟨by decide, by decide⟩ (bal_one (by decide) (by decide) (pl_num v3) (bal_one (by decide) (by decide) ⟨by decide, by decide⟩ (bal_one (by decide) (by decide) (pl_num v4) (bal_one (by decide) (by decide) ⟨by decide, by decide⟩ (bal_nil _))))))))))))
theorem cost_stop {ds : List D} (h : stopB ds = true) : cost (stopW ds) ≤ 400 := by
  have n0 := and_l h
  have n1 := and_l (and_r h)
  have n2 := and_l (and_r (and_r h))
  have hv := and_r (and_r (and_r h))
  obtain ⟨v3, hv⟩ := nus_cons hv
  obtain ⟨v4, hv⟩ := nus_cons hv
  have a0 := name_len n0
  have a1 := name_len n1
  have a2 := name_len n2
  have c3 := dg_len (nu_gr v3)
  have c4 := dg_len (nu_gr v4)
  simp only [stopW, cost_append, cost_cons, cost_nil, List.length_cons, List.length_nil]
  omega
theorem bal_phase {ds : List D} (h : phaseB ds = true) : Bal 1 (phaseW ds) 1 := by
  have n0 := and_l h
  obtain ⟨h1, h2, _⟩ := nms_ok (by decide) (and_r h)
  unfold phaseW
  exact Bal.append (bal_one (by decide) (by decide) ⟨by decide, by decide⟩ (bal_one (by decide) (by decide) (pl_name n0) (bal_one (by decide) (by decide) ⟨by decide, by decide⟩ (bal_nil _)))) (bal_lw (by decide) (by decide) h2)
theorem cost_phase {ds : List D} (h : phaseB ds = true) : cost (phaseW ds) ≤ 800 := by
  have a0 := name_len (and_l h)
  obtain ⟨h1, h2, h3⟩ := nms_ok (by decide) (and_r h)
  have := cost_lw h2 h3
  simp only [phaseW, cost_append, cost_cons, cost_nil, List.length_cons, List.length_nil]
  omega
theorem bal_ring {ds : List D} (h : ringB ds = true) : Bal 2 (ringW ds) 2 := by
  obtain ⟨h1, h2, _⟩ := nms_ok (by decide) h
  unfold ringW rw1
  refine Bal.append (bal_one (by decide) (by decide) ⟨by decide, by decide⟩ (bal_nil _)) (Bal.append ?_ (bal_lw (by decide) (by decide) h2))
  cases fB (gt ds 0)
  · exact bal_nil _
  · exact (bal_one (by decide) (by decide) ⟨by decide, by decide⟩ (bal_nil _))
theorem cost_ring {ds : List D} (h : ringB ds = true) : cost (ringW ds) ≤ 300 := by
  obtain ⟨h1, h2, h3⟩ := nms_ok (by decide) h
  have := cost_lw h2 h3
  unfold ringW rw1
  cases fB (gt ds 0) <;> simp [cost_append, cost_cons, cost_nil] <;> omega
theorem bal_group {ds : List D} (h : groupB ds = true) : Bal 1 (groupW ds) 1 := by
  obtain ⟨_, h3⟩ := rowB_all h
  unfold groupW
  exact Bal.append (y := 2) (bal_one (by decide) (by decide) ⟨by decide, by decide⟩ (bal_in (by decide) (by decide) (bal_nil _))) (Bal.append (bal_flat _ fun x hx => bal_ring (h3 x hx)) (bal_out (by decide) (by decide) (bal_nil _)))
theorem cost_group {ds : List D} (h : groupB ds = true) : cost (groupW ds) ≤ 800 := by
  obtain ⟨⟨_, h2⟩, h3⟩ := rowB_all h
  have := cost_flat (f := ringW) _ fun x hx => cost_ring (h3 x hx)
  simp only [groupW, cost_append, cost_cons, cost_nil, List.length_cons, List.length_nil]
  omega
theorem bal_node {ds : List D} (h : nodeB ds = true) : Bal 0 (nodeW ds) 0 := by
  have n0 := and_l h
  obtain ⟨⟨_, l1⟩, h1⟩ := rowB_all (and_l (and_r h))
  obtain ⟨⟨_, l2⟩, h2⟩ := rowB_all (and_l (and_r (and_r h)))
  obtain ⟨⟨_, l3⟩, h3⟩ := rowB_all (and_l (and_r (and_r (and_r h))))
  obtain ⟨⟨_, l4⟩, h4⟩ := rowB_all (and_l (and_r (and_r (and_r (and_r h)))))
  obtain ⟨⟨_, l5⟩, h5⟩ := rowB_all (and_r (and_r (and_r (and_r (and_r h)))))
  unfold nodeW
  exact Bal.append (y := 1) (bal_one (by decide) (by decide) ⟨by decide, by decide⟩ (bal_one (by decide) (by decide) (pl_name n0) (bal_in (by decide) (by decide) (bal_nil _)))) (Bal.append (bal_flat _ fun x hx => bal_head (h1 x hx)) (Bal.append (bal_flat _ fun x hx => bal_walk (h2 x hx)) (Bal.append (bal_flat _ fun x hx => bal_phase (h3 x hx)) (Bal.append (bal_flat _ fun x hx => bal_group (h4 x hx)) (Bal.append (bal_flat _ fun x hx => bal_foe (h5 x hx)) (bal_out (by decide) (by decide) (bal_nil _)))))))
theorem cost_node {ds : List D} (h : nodeB ds = true) : cost (nodeW ds) ≤ 60000 := by
  have n0 := and_l h
  obtain ⟨⟨_, l1⟩, h1⟩ := rowB_all (and_l (and_r h))
  obtain ⟨⟨_, l2⟩, h2⟩ := rowB_all (and_l (and_r (and_r h)))
  obtain ⟨⟨_, l3⟩, h3⟩ := rowB_all (and_l (and_r (and_r (and_r h))))
  obtain ⟨⟨_, l4⟩, h4⟩ := rowB_all (and_l (and_r (and_r (and_r (and_r h)))))
  obtain ⟨⟨_, l5⟩, h5⟩ := rowB_all (and_r (and_r (and_r (and_r (and_r h)))))
  have a0 := name_len n0
  have c1 := cost_flat (f := headW) _ fun x hx => cost_head (h1 x hx)
  have c2 := cost_flat (f := walkW) _ fun x hx => cost_walk (h2 x hx)
  have c3 := cost_flat (f := phaseW) _ fun x hx => cost_phase (h3 x hx)
  have c4 := cost_flat (f := groupW) _ fun x hx => cost_group (h4 x hx)
  have c5 := cost_flat (f := foeW) _ fun x hx => cost_foe (h5 x hx)
  simp only [nodeW, cost_append, cost_cons, cost_nil, List.length_cons, List.length_nil]
  omega
theorem bal_net {ds : List D} (h : netB ds = true) : Bal 0 (netW ds) 0 := by
  have hv := and_l h
  obtain ⟨v0, hv⟩ := nus_cons hv
  obtain ⟨v1, hv⟩ := nus_cons hv
  obtain ⟨v2, hv⟩ := nus_cons hv
  obtain ⟨v3, hv⟩ := nus_cons hv
  obtain ⟨v4, hv⟩ := nus_cons hv
  obtain ⟨v7, hv⟩ := nus_cons hv
  obtain ⟨v8, hv⟩ := nus_cons hv
  obtain ⟨⟨_, l5⟩, h5⟩ := rowB_all (and_l (and_r h))
  obtain ⟨⟨_, l6⟩, h6⟩ := rowB_all (and_r (and_r h))
  unfold netW
  refine Bal.append (bal_one (by decide) (by decide) ⟨by decide, by decide⟩ (bal_one (by decide) (by decide) (pl_num v0) (bal_one (by decide) (by decide) ⟨by decide, by decide⟩ (bal_one (by decide) (by decide) (pl_num v1) (bal_one (by decide) (by decide) ⟨by decide, by decide⟩ (bal_one (by decide) (by decide) (pl_num v2) (bal_one (by decide) (by decide) ⟨by decide, by decide⟩ (bal_nil _)))))))) (Bal.append (bal_one (by decide) (by decide) ⟨by decide, by decide⟩ (bal_one (by decide) (by decide) (pl_num v3) (bal_one (by decide) (by decide) ⟨by decide, by decide⟩ (bal_one (by decide) (by decide) (pl_num v4) (bal_one (by decide) (by decide) ⟨by decide, by decide⟩ (bal_nil _)))))) (Bal.append (bal_flat _ fun x hx => bal_node (h5 x hx)) ?_))
  split
  · unfold artW
    exact Bal.append (y := 1) (bal_one (by decide) (by decide) ⟨by decide, by decide⟩ (bal_in (by decide) (by decide) (bal_nil _))) (Bal.append (bal_flat _ fun x hx => bal_stop (h6 x hx)) (Bal.append (bal_one (by decide) (by decide) ⟨by decide, by decide⟩ (bal_one (by decide) (by decide) (pl_num v7) (bal_one (by decide) (by decide) (pl_num v8) (bal_one (by decide) (by decide) ⟨by decide, by decide⟩ (bal_nil _))))) (bal_out (by decide) (by decide) (bal_nil _))))
  · exact bal_nil _
theorem cost_net {ds : List D} (h : netB ds = true) : cost (netW ds) ≤ 1000000 := by
  have hv := and_l h
  obtain ⟨v0, hv⟩ := nus_cons hv
  obtain ⟨v1, hv⟩ := nus_cons hv
  obtain ⟨v2, hv⟩ := nus_cons hv
  obtain ⟨v3, hv⟩ := nus_cons hv
  obtain ⟨v4, hv⟩ := nus_cons hv
  obtain ⟨v7, hv⟩ := nus_cons hv
  obtain ⟨v8, hv⟩ := nus_cons hv
  obtain ⟨⟨_, l5⟩, h5⟩ := rowB_all (and_l (and_r h))
  obtain ⟨⟨_, l6⟩, h6⟩ := rowB_all (and_r (and_r h))
  have c0 := dg_len (nu_gr v0)
  have c1 := dg_len (nu_gr v1)
  have c2 := dg_len (nu_gr v2)
  have c3 := dg_len (nu_gr v3)
  have c4 := dg_len (nu_gr v4)
  have c7 := dg_len (nu_gr v7)
  have c8 := dg_len (nu_gr v8)
  have d5 := cost_flat (f := nodeW) _ fun x hx => cost_node (h5 x hx)
  have d6 := cost_flat (f := stopW) _ fun x hx => cost_stop (h6 x hx)
  unfold netW artW
  simp only [cost_append, cost_cons, cost_nil, List.length_cons, List.length_nil]
  split
  · simp only [cost_append, cost_cons, cost_nil, List.length_cons, List.length_nil]; omega
  · simp only [cost_nil]; omega
theorem net_oks {ds : List D} (h : netB ds = true) : oks ⟨[], 0, []⟩ (netW ds) := (bal_net h ⟨[], 0, []⟩ rfl).1
theorem txt_out (ds : List D) : (pss ⟨[], 0, []⟩ (netW ds)).out = txt ds := by rw [pss_out]; rfl
theorem txt_len {ds : List D} (h : netB ds = true) : (txt ds).length ≤ 1000000 := by
  have := pss_len (netW ds) ⟨[], 0, []⟩ (net_oks h)
  rw [txt_out] at this
  have := cost_net h
  simp at *
  omega
end S
end Go.Proofs.YtcdnbdajnagfiaaGreatDoor
