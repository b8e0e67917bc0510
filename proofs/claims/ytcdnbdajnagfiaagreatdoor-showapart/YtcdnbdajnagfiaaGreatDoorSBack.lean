/- The words of a network that is right: no more braces are open than there may be, and they are not too long. -/
import Derived.Test.YtcdnbdajnagfiaaGreatDoorSWrd
import Derived.Lib.ItoaLen
import Derived.Test.YtcdnbdajnagfiaaGreatDoorSPrs
namespace Go.Proofs.YtcdnbdajnagfiaaGreatDoor
open Go.RowKit
set_option linter.unusedVariables false
set_option linter.unusedSimpArgs false
set_option maxRecDepth 10000
namespace S
/-- from so many open braces to so many -/
def Bal (x : Int) (ws : List (List UInt8)) (y : Int) : Prop := ∀ st : St, st.op = x → oks st ws ∧ (pss st ws).op = y
theorem bal_nil (x : Int) : Bal x [] x := fun st h => ⟨trivial, h⟩
theorem Bal.append {x y z : Int} {a c : List (List UInt8)} (h : Bal x a y) (k : Bal y c z) : Bal x (a ++ c) z := fun st e => by
  obtain ⟨h1, h2⟩ := h st e
  obtain ⟨k1, k2⟩ := k (pss st a) h2
  exact ⟨(oks_append a c st).2 ⟨h1, k1⟩, by rw [← pss_append]; exact k2⟩
/-- a word that is no brace -/
def Pl (w : List UInt8) : Prop := w ≠ [123] ∧ w ≠ [125]
theorem bal_one {x : Int} {w : List UInt8} {ws : List (List UInt8)} {y : Int} (h0 : 0 ≤ x) (h2 : x ≤ 2) (h : Pl w) (k : Bal x ws y) : Bal x (w :: ws) y := by
  have : Bal x [w] x := fun st e => by
    have e1 : op1 st.op w = x := by unfold op1; rw [if_neg h.2, e]
    refine ⟨⟨⟨by rw [e1]; exact h0, by rw [e1]; exact h2⟩, trivial⟩, ?_⟩
    show (ps st w).op = x
    unfold ps
    rw [if_neg h.1]
    split <;> exact e1
  exact Bal.append this k
theorem bal_in {x : Int} {ws : List (List UInt8)} {y : Int} (h0 : 0 ≤ x) (h2 : x ≤ 2) (k : Bal (x + 1) ws y) : Bal x ([123] :: ws) y := by
  have : Bal x [[123]] (x + 1) := fun st e => by
    have e1 : op1 st.op [123] = x := by unfold op1; rw [if_neg (by decide), e]
    refine ⟨⟨⟨by rw [e1]; exact h0, by rw [e1]; exact h2⟩, trivial⟩, ?_⟩
    show (ps st [123]).op = x + 1
    unfold ps
    rw [if_pos rfl, e1]
  exact Bal.append this k
theorem bal_out {x : Int} {ws : List (List UInt8)} {y : Int} (h0 : 1 ≤ x) (h2 : x ≤ 3) (k : Bal (x - 1) ws y) : Bal x ([125] :: ws) y := by
  have : Bal x [[125]] (x - 1) := fun st e => by
    have e1 : op1 st.op [125] = x - 1 := by unfold op1; rw [if_pos rfl, e]
    refine ⟨⟨⟨by rw [e1]; omega, by rw [e1]; omega⟩, trivial⟩, ?_⟩
    show (ps st [125]).op = x - 1
    unfold ps
    rw [if_neg (by decide), if_pos (.inl rfl), e1]
  exact Bal.append this k
theorem bal_flat {x : Int} {f : List D → List (List UInt8)} : ∀ (L : List (List D)), (∀ d ∈ L, Bal x (f d) x) → Bal x (L.flatMap f) x
  | [], _ => bal_nil x
  | d :: L, h => by rw [List.flatMap_cons]; exact (h d List.mem_cons_self).append (bal_flat L (fun y hy => h y (List.mem_cons_of_mem _ hy)))
theorem gs_sign {s : List UInt8} {k n : Int} {c : UInt8} (h : Gs s k n) (hk : k ≠ 3) (hc : kd c.toNat = 7) : s ≠ [c] := by
  rintro rfl
  have h1 := h.2.1
  simp only [one] at h1
  rw [if_neg (by omega), if_neg (by omega), if_pos hc] at h1
  simp only [Except.ok.injEq, Tok.mk.injEq] at h1
  exact hk h1.1.symm
theorem pl_name {s : List UInt8} (h : nmB s = true) : Pl s := ⟨gs_sign (rg_gs (nmB_rg h).1) (by decide) (by decide), gs_sign (rg_gs (nmB_rg h).1) (by decide) (by decide)⟩
theorem pl_num {n : Int} (h : nuB n = true) : Pl (dg n) := ⟨gs_sign (gs_num h) (by decide) (by decide), gs_sign (gs_num h) (by decide) (by decide)⟩
theorem pl_grd {n : Int} (h : grB n = true) : Pl (dg n) := by
  by_cases h0 : n < 0
  · rw [dg_neg h0]
    exact ⟨by simp, by simp⟩
  · exact pl_num (by unfold nuB; have := of_decide_eq_true h; exact decide_eq_true ⟨by omega, by omega⟩)
theorem name_len {s : List UInt8} (h : nmB s = true) : s.length ≤ 24 := by
  have g := rg_gs (nmB_rg h).1
  rcases (one_ok g.2.1).2 with ⟨_, e⟩ | ⟨_, _, _, e1, _, e2⟩
  · simp at e
  · have : s.length = en s := e1
    omega
theorem dg_len {n : Int} (h : grB n = true) : (dg n).length ≤ 21 := Lib.itoa_length_le n (by have := of_decide_eq_true h; omega) (by have := of_decide_eq_true h; omega)
theorem nu_gr {n : Int} (h : nuB n = true) : grB n = true := by unfold nuB at h; unfold grB; have := of_decide_eq_true h; exact decide_eq_true ⟨by omega, by omega⟩
theorem cost_cons (w : List UInt8) (ws : List (List UInt8)) : cost (w :: ws) = w.length + 8 + cost ws := by simp [cost]
theorem cost_nil : cost [] = 0 := rfl
theorem cost_flat {f : List D → List (List UInt8)} {B : Nat} : ∀ (L : List (List D)), (∀ d ∈ L, cost (f d) ≤ B) → cost (L.flatMap f) ≤ L.length * B
  | [], _ => by simp [cost]
  | d :: L, h => by
    rw [List.flatMap_cons, cost_append, List.length_cons, Nat.succ_mul]
    have h1 := h d List.mem_cons_self
    have h2 := cost_flat L (fun y hy => h y (List.mem_cons_of_mem _ hy))
    omega
theorem cost_lw : ∀ {l : List (List UInt8)} {m : Nat}, (∀ s ∈ l, nmB s = true) → l.length ≤ m → cost (lw l) ≤ 41 * m + 9
  | [], m, _, _ => by simp [lw, cost]
  | s :: l, m, h, hm => by
    have key : ∀ l : List (List UInt8), (∀ s ∈ l, nmB s = true) → cost (l.flatMap (fun x => [[44], x])) ≤ 41 * l.length := by
      intro l
      induction l with
      | nil => intro _; simp [cost]
      | cons a l ih =>
        intro h
        rw [List.flatMap_cons, cost_append, cost_cons, cost_cons, cost_nil, List.length_cons]
        have := name_len (h a List.mem_cons_self)
        have := ih (fun y hy => h y (List.mem_cons_of_mem _ hy))
        simp only [List.length_cons, List.length_nil]
        omega
    have := key l (fun y hy => h y (List.mem_cons_of_mem _ hy))
    have := name_len (h s List.mem_cons_self)
    rw [lw, cost_cons, cost_append, cost_cons, cost_nil]
    simp only [List.length_cons, List.length_nil] at hm ⊢
    omega
theorem bal_lw {x : Int} (h0 : 0 ≤ x) (h2 : x ≤ 2) {l : List (List UInt8)} (h : ∀ s ∈ l, nmB s = true) : Bal x (lw l) x := by
  cases l with
  | nil => exact bal_one h0 h2 ⟨by decide, by decide⟩ (bal_nil x)
  | cons s l =>
    have key : ∀ l : List (List UInt8), (∀ s ∈ l, nmB s = true) → Bal x (l.flatMap (fun x => [[44], x])) x := by
      intro l
      induction l with
      | nil => intro _; exact bal_nil x
      | cons a l ih =>
        intro h
        rw [List.flatMap_cons]
        exact (bal_one h0 h2 ⟨by decide, by decide⟩ (bal_one h0 h2 (pl_name (h a List.mem_cons_self)) (bal_nil x))).append (ih (fun y hy => h y (List.mem_cons_of_mem _ hy)))
    rw [lw]
    exact bal_one h0 h2 (pl_name (h s List.mem_cons_self)) ((key l (fun y hy => h y (List.mem_cons_of_mem _ hy))).append (bal_one h0 h2 ⟨by decide, by decide⟩ (bal_nil x)))
theorem bal_head {ds : List D} (h : headB ds = true) : Bal 1 (headW ds) 1 := by
  have n0 := and_l h
  have v6 := and_l (and_r h)
  have hv := and_r (and_r h)
  obtain ⟨v1, hv⟩ := nus_cons hv
  obtain ⟨v2, hv⟩ := nus_cons hv
  obtain ⟨v3, hv⟩ := nus_cons hv
  obtain ⟨v4, hv⟩ := nus_cons hv
  obtain ⟨v5, hv⟩ := nus_cons hv
  obtain ⟨v7, hv⟩ := nus_cons hv
  obtain ⟨v8, hv⟩ := nus_cons hv
  obtain ⟨v9, hv⟩ := nus_cons hv
  exact (bal_one (by decide) (by decide) ⟨by decide, by decide⟩ (bal_one (by decide) (by decide) (pl_name n0) (bal_one (by decide) (by decide) ⟨by decide, by decide⟩ (bal_one (by decide) (by decide) (pl_num v1) (bal_one (by decide) (by decide) ⟨by decide, by decide⟩ (bal_one (by decide) (by decide) (pl_num v2) (bal_one (by decide) (by decide) ⟨by decide, by decide⟩ (bal_one (by decide) (by decide) (pl_num v3) (bal_one (by decide) (by decide) ⟨by decide, by decide⟩ (bal_one (by decide) (by decide) (pl_num v4) (bal_one (by decide) (by decide) ⟨by decide, by decide⟩ (bal_one (by decide) (by decide) (pl_num v5) (bal_one (by decide) (by decide) ⟨by decide, by decide⟩ (bal_one (by decide) (by decide) (pl_grd v6) (bal_one (by decide) (by decide) ⟨by decide, by decide⟩ (bal_one (by decide) (by decide) (pl_num v7) (bal_one (by decide) (by decide) ⟨by decide, by decide⟩ (bal_one (by decide) (by decide) (pl_num v8) (bal_one (by decide) (by decide) ⟨by decide, by decide⟩ (bal_one (by decide) (by decide) (pl_num v9) (bal_one (by decide) (by decide) ⟨by decide, by decide⟩ (bal_nil _))))))))))))))))))))))
theorem cost_head {ds : List D} (h : headB ds = true) : cost (headW ds) ≤ 800 := by
  have n0 := and_l h
  have v6 := and_l (and_r h)
  have hv := and_r (and_r h)
  obtain ⟨v1, hv⟩ := nus_cons hv
  obtain ⟨v2, hv⟩ := nus_cons hv
  obtain ⟨v3, hv⟩ := nus_cons hv
  obtain ⟨v4, hv⟩ := nus_cons hv
  obtain ⟨v5, hv⟩ := nus_cons hv
  obtain ⟨v7, hv⟩ := nus_cons hv
  obtain ⟨v8, hv⟩ := nus_cons hv
  obtain ⟨v9, hv⟩ := nus_cons hv
  have a0 := name_len n0
  have c1 := dg_len (nu_gr v1)
  have c2 := dg_len (nu_gr v2)
  have c3 := dg_len (nu_gr v3)
  have c4 := dg_len (nu_gr v4)
  have c5 := dg_len (nu_gr v5)
  have c6 := dg_len v6
  have c7 := dg_len (nu_gr v7)
  have c8 := dg_len (nu_gr v8)
  have c9 := dg_len (nu_gr v9)
  simp only [headW, hw, cost_append, cost_cons, cost_nil, List.length_cons, List.length_nil]
  omega
theorem bal_walk {ds : List D} (h : walkB ds = true) : Bal 1 (walkW ds) 1 := by
  have n0 := and_l h
  have n1 := and_l (and_r h)
  have hv := and_r (and_r h)
  obtain ⟨v2, hv⟩ := nus_cons hv
  obtain ⟨v3, hv⟩ := nus_cons hv
  obtain ⟨v4, hv⟩ := nus_cons hv
  exact (bal_one (by decide) (by decide) ⟨by decide, by decide⟩ (bal_one (by decide) (by decide) (pl_name n0) (bal_one (by decide) (by decide) ⟨by decide, by decide⟩ (bal_one (by decide) (by decide) (pl_name n1) (bal_one (by decide) (by decide) ⟨by decide, by decide⟩ (bal_one (by decide) (by decide) (pl_num v2) (bal_one (by decide) (by decide) ⟨by decide, by decide⟩ (bal_one (by decide) (by decide) (pl_num v3) (bal_one (by decide) (by decide) ⟨by decide, by decide⟩ (bal_one (by decide) (by decide) (pl_num v4) (bal_one (by decide) (by decide) ⟨by decide, by decide⟩ (bal_nil _))))))))))))
theorem cost_walk {ds : List D} (h : walkB ds = true) : cost (walkW ds) ≤ 400 := by
  have n0 := and_l h
  have n1 := and_l (and_r h)
  have hv := and_r (and_r h)
  obtain ⟨v2, hv⟩ := nus_cons hv
  obtain ⟨v3, hv⟩ := nus_cons hv
  obtain ⟨v4, hv⟩ := nus_cons hv
  have a0 := name_len n0
  have a1 := name_len n1
  have c2 := dg_len (nu_gr v2)
  have c3 := dg_len (nu_gr v3)
  have c4 := dg_len (nu_gr v4)
  simp only [walkW, cost_append, cost_cons, cost_nil, List.length_cons, List.length_nil]
  omega
theorem bal_foe {ds : List D} (h : foeB ds = true) : Bal 1 (foeW ds) 1 := by
  have n0 := and_l h
  have n1 := and_r h
  exact (bal_one (by decide) (by decide) ⟨by decide, by decide⟩ (bal_one (by decide) (by decide) (pl_name n0) (bal_one (by decide) (by decide) (pl_name n1) (bal_one (by decide) (by decide) ⟨by decide, by decide⟩ (bal_nil _)))))
theorem cost_foe {ds : List D} (h : foeB ds = true) : cost (foeW ds) ≤ 160 := by
  have n0 := and_l h
  have n1 := and_r h
  have a0 := name_len n0
  have a1 := name_len n1
  simp only [foeW, cost_append, cost_cons, cost_nil, List.length_cons, List.length_nil]
  omega
theorem bal_stop {ds : List D} (h : stopB ds = true) : Bal 1 (stopW ds) 1 := by
  have n0 := and_l h
  have n1 := and_l (and_r h)
  have n2 := and_l (and_r (and_r h))
  have hv := and_r (and_r (and_r h))
  obtain ⟨v3, hv⟩ := nus_cons hv
  obtain ⟨v4, hv⟩ := nus_cons hv
  exact (bal_one (by decide) (by decide) ⟨by decide, by decide⟩ (bal_one (by decide) (by decide) (pl_name n0) (bal_one (by decide) (by decide) ⟨by decide, by decide⟩ (bal_one (by decide) (by decide) (pl_name n1) (bal_one (by decide) (by decide) ⟨by decide, by decide⟩ (bal_one (by decide) (by decide) (pl_name n2) (bal_one (by decide) (by decide) ⟨by decide, by decide⟩ (bal_one (by decide) (by decide) (pl_num v3) (bal_one (by decide) (by decide) ⟨by decide, by decide⟩ (bal_one (by decide) (by decide) (pl_num v4) (bal_one (by decide) (by decide) ⟨by decide, by decide⟩ (bal_nil _))))))))))))
theorem cost_stop {ds : List D} (h : stopB ds = true) : cost (stopW ds) ≤ 400 := by
  have n0 := and_l h
  have n1 := and_l (and_r h)
  have n2 := and_l (and_r (and_r h))
  have hv := and_r (and_r (and_r h))
  obtain ⟨v3, hv⟩ := nus_cons hv
  obtain ⟨v4, hv⟩ := nus_cons hv
  have a0 := name_len n0
  have a1 := name_len n1
  have a2 := name_len n2
  have c3 := dg_len (nu_gr v3)
  have c4 := dg_len (nu_gr v4)
  simp only [stopW, cost_append, cost_cons, cost_nil, List.length_cons, List.length_nil]
  omega
theorem bal_phase {ds : List D} (h : phaseB ds = true) : Bal 1 (phaseW ds) 1 := by
  have n0 := and_l h
  obtain ⟨h1, h2, _⟩ := nms_ok (by decide) (and_r h)
  unfold phaseW
  exact Bal.append (bal_one (by decide) (by decide) ⟨by decide, by decide⟩ (bal_one (by decide) (by decide) (pl_name n0) (bal_one (by decide) (by decide) ⟨by decide, by decide⟩ (bal_nil _)))) (bal_lw (by decide) (by decide) h2)
theorem cost_phase {ds : List D} (h : phaseB ds = true) : cost (phaseW ds) ≤ 800 := by
  have a0 := name_len (and_l h)
  obtain ⟨h1, h2, h3⟩ := nms_ok (by decide) (and_r h)
  have := cost_lw h2 h3
  simp only [phaseW, cost_append, cost_cons, cost_nil, List.length_cons, List.length_nil]
  omega
theorem bal_ring {ds : List D} (h : ringB ds = true) : Bal 2 (ringW ds) 2 := by
  obtain ⟨h1, h2, _⟩ := nms_ok (by decide) h
  unfold ringW rw1
  refine Bal.append (bal_one (by decide) (by decide) ⟨by decide, by decide⟩ (bal_nil _)) (Bal.append ?_ (bal_lw (by decide) (by decide) h2))
  cases fB (gt ds 0)
  · exact bal_nil _
  · exact (bal_one (by decide) (by decide) ⟨by decide, by decide⟩ (bal_nil _))
theorem cost_ring {ds : List D} (h : ringB ds = true) : cost (ringW ds) ≤ 300 := by
  obtain ⟨h1, h2, h3⟩ := nms_ok (by decide) h
  have := cost_lw h2 h3
  unfold ringW rw1
  cases fB (gt ds 0) <;> simp [cost_append, cost_cons, cost_nil] <;> omega
theorem bal_group {ds : List D} (h : groupB ds = true) : Bal 1 (groupW ds) 1 := by
  obtain ⟨_, h3⟩ := rowB_all h
  unfold groupW
  exact Bal.append (y := 2) (bal_one (by decide) (by decide) ⟨by decide, by decide⟩ (bal_in (by decide) (by decide) (bal_nil _))) (Bal.append (bal_flat _ fun x hx => bal_ring (h3 x hx)) (bal_out (by decide) (by decide) (bal_nil _)))
theorem cost_group {ds : List D} (h : groupB ds = true) : cost (groupW ds) ≤ 800 := by
  obtain ⟨⟨_, h2⟩, h3⟩ := rowB_all h
  have := cost_flat (f := ringW) _ fun x hx => cost_ring (h3 x hx)
  simp only [groupW, cost_append, cost_cons, cost_nil, List.length_cons, List.length_nil]
  omega
theorem bal_node {ds : List D} (h : nodeB ds = true) : Bal 0 (nodeW ds) 0 := by
  have n0 := and_l h
  obtain ⟨⟨_, l1⟩, h1⟩ := rowB_all (and_l (and_r h))
  obtain ⟨⟨_, l2⟩, h2⟩ := rowB_all (and_l (and_r (and_r h)))
  obtain ⟨⟨_, l3⟩, h3⟩ := rowB_all (and_l (and_r (and_r (and_r h))))
  obtain ⟨⟨_, l4⟩, h4⟩ := rowB_all (and_l (and_r (and_r (and_r (and_r h)))))
  obtain ⟨⟨_, l5⟩, h5⟩ := rowB_all (and_r (and_r (and_r (and_r (and_r h)))))
  unfold nodeW
  exact Bal.append (y := 1) (bal_one (by decide) (by decide) ⟨by decide, by decide⟩ (bal_one (by decide) (by decide) (pl_name n0) (bal_in (by decide) (by decide) (bal_nil _)))) (Bal.append (bal_flat _ fun x hx => bal_head (h1 x hx)) (Bal.append (bal_flat _ fun x hx => bal_walk (h2 x hx)) (Bal.append (bal_flat _ fun x hx => bal_phase (h3 x hx)) (Bal.append (bal_flat _ fun x hx => bal_group (h4 x hx)) (Bal.append (bal_flat _ fun x hx => bal_foe (h5 x hx)) (bal_out (by decide) (by decide) (bal_nil _)))))))
theorem cost_node {ds : List D} (h : nodeB ds = true) : cost (nodeW ds) ≤ 60000 := by
  have n0 := and_l h
  obtain ⟨⟨_, l1⟩, h1⟩ := rowB_all (and_l (and_r h))
  obtain ⟨⟨_, l2⟩, h2⟩ := rowB_all (and_l (and_r (and_r h)))
  obtain ⟨⟨_, l3⟩, h3⟩ := rowB_all (and_l (and_r (and_r (and_r h))))
  obtain ⟨⟨_, l4⟩, h4⟩ := rowB_all (and_l (and_r (and_r (and_r (and_r h)))))
  obtain ⟨⟨_, l5⟩, h5⟩ := rowB_all (and_r (and_r (and_r (and_r (and_r h)))))
  have a0 := name_len n0
  have c1 := cost_flat (f := headW) _ fun x hx => cost_head (h1 x hx)
  have c2 := cost_flat (f := walkW) _ fun x hx => cost_walk (h2 x hx)
  have c3 := cost_flat (f := phaseW) _ fun x hx => cost_phase (h3 x hx)
  have c4 := cost_flat (f := groupW) _ fun x hx => cost_group (h4 x hx)
  have c5 := cost_flat (f := foeW) _ fun x hx => cost_foe (h5 x hx)
  simp only [nodeW, cost_append, cost_cons, cost_nil, List.length_cons, List.length_nil]
  omega
theorem bal_net {ds : List D} (h : netB ds = true) : Bal 0 (netW ds) 0 := by
  have hv := and_l h
  obtain ⟨v0, hv⟩ := nus_cons hv
  obtain ⟨v1, hv⟩ := nus_cons hv
  obtain ⟨v2, hv⟩ := nus_cons hv
  obtain ⟨v3, hv⟩ := nus_cons hv
  obtain ⟨v4, hv⟩ := nus_cons hv
  obtain ⟨v7, hv⟩ := nus_cons hv
  obtain ⟨v8, hv⟩ := nus_cons hv
  obtain ⟨⟨_, l5⟩, h5⟩ := rowB_all (and_l (and_r h))
  obtain ⟨⟨_, l6⟩, h6⟩ := rowB_all (and_r (and_r h))
  unfold netW
  refine Bal.append (bal_one (by decide) (by decide) ⟨by decide, by decide⟩ (bal_one (by decide) (by decide) (pl_num v0) (bal_one (by decide) (by decide) ⟨by decide, by decide⟩ (bal_one (by decide) (by decide) (pl_num v1) (bal_one (by decide) (by decide) ⟨by decide, by decide⟩ (bal_one (by decide) (by decide) (pl_num v2) (bal_one (by decide) (by decide) ⟨by decide, by decide⟩ (bal_nil _)))))))) (Bal.append (bal_one (by decide) (by decide) ⟨by decide, by decide⟩ (bal_one (by decide) (by decide) (pl_num v3) (bal_one (by decide) (by decide) ⟨by decide, by decide⟩ (bal_one (by decide) (by decide) (pl_num v4) (bal_one (by decide) (by decide) ⟨by decide, by decide⟩ (bal_nil _)))))) (Bal.append (bal_flat _ fun x hx => bal_node (h5 x hx)) ?_))
  split
  · unfold artW
    exact Bal.append (y := 1) (bal_one (by decide) (by decide) ⟨by decide, by decide⟩ (bal_in (by decide) (by decide) (bal_nil _))) (Bal.append (bal_flat _ fun x hx => bal_stop (h6 x hx)) (Bal.append (bal_one (by decide) (by decide) ⟨by decide, by decide⟩ (bal_one (by decide) (by decide) (pl_num v7) (bal_one (by decide) (by decide) (pl_num v8) (bal_one (by decide) (by decide) ⟨by decide, by decide⟩ (bal_nil _))))) (bal_out (by decide) (by decide) (bal_nil _))))
  · exact bal_nil _
theorem cost_net {ds : List D} (h : netB ds = true) : cost (netW ds) ≤ 1000000 := by
  have hv := and_l h
  obtain ⟨v0, hv⟩ := nus_cons hv
  obtain ⟨v1, hv⟩ := nus_cons hv
  obtain ⟨v2, hv⟩ := nus_cons hv
  obtain ⟨v3, hv⟩ := nus_cons hv
  obtain ⟨v4, hv⟩ := nus_cons hv
  obtain ⟨v7, hv⟩ := nus_cons hv
  obtain ⟨v8, hv⟩ := nus_cons hv
  obtain ⟨⟨_, l5⟩, h5⟩ := rowB_all (and_l (and_r h))
  obtain ⟨⟨_, l6⟩, h6⟩ := rowB_all (and_r (and_r h))
  have c0 := dg_len (nu_gr v0)
  have c1 := dg_len (nu_gr v1)
  have c2 := dg_len (nu_gr v2)
  have c3 := dg_len (nu_gr v3)
  have c4 := dg_len (nu_gr v4)
  have c7 := dg_len (nu_gr v7)
  have c8 := dg_len (nu_gr v8)
  have d5 := cost_flat (f := nodeW) _ fun x hx => cost_node (h5 x hx)
  have d6 := cost_flat (f := stopW) _ fun x hx => cost_stop (h6 x hx)
  unfold netW artW
  simp only [cost_append, cost_cons, cost_nil, List.length_cons, List.length_nil]
  split
  · simp only [cost_append, cost_cons, cost_nil, List.length_cons, List.length_nil]; omega
  · simp only [cost_nil]; omega
theorem net_oks {ds : List D} (h : netB ds = true) : oks ⟨[], 0, []⟩ (netW ds) := (bal_net h ⟨[], 0, []⟩ rfl).1
theorem txt_out (ds : List D) : (pss ⟨[], 0, []⟩ (netW ds)).out = txt ds := by rw [pss_out]; rfl
theorem txt_len {ds : List D} (h : netB ds = true) : (txt ds).length ≤ 1000000 := by
  have := pss_len (netW ds) ⟨[], 0, []⟩ (net_oks h)
  rw [txt_out] at this
  have := cost_net h
  simp at *
  omega
end S
end Go.Proofs.YtcdnbdajnagfiaaGreatDoor

namespace Go.Proofs.YtcdnbdajnagfiaaGreatDoor
open Go.RowKit
set_option linter.unusedVariables false
set_option linter.unusedSimpArgs false
set_option maxRecDepth 10000
namespace S
/-- words do not ask for places -/
theorem nms_z {L : List (List D)} {e : Nat} (h : ∀ ds ∈ L, ShL nameT ds) : nms (Z (.row e 1 L)) = nms (.row e 1 L) := by
  unfold nms
  simp only [Z, fL]
  rw [zss_map, List.map_map]
  apply List.map_congr_left
  intro x hx
  have hs := h x hx
  simp only [ShL, Sh1, nameT] at hs
  obtain ⟨_, _, rfl, ⟨s0, rfl, _⟩, rfl⟩ := hs
  simp [gt, Zl, Z, plc, dS]
theorem flat_z {W : List D → List (List UInt8)} {bb : Bool} {L : List (List D)} (h : ∀ ds ∈ L, W (Zl bb ds) = W ds) : (Zss bb L).flatMap W = L.flatMap W := by
  rw [zss_map, List.flatMap_map]
  induction L with
  | nil => rfl
  | cons d L ih => rw [List.flatMap_cons, List.flatMap_cons, h d List.mem_cons_self, ih (fun x hx => h x (List.mem_cons_of_mem _ hx))]
theorem headW_z {ds : List D} (hs : ShL headT ds) : headW (Zl true ds) = headW ds := by
  simp only [ShL, Sh1, headT] at hs
  obtain ⟨_, _, rfl, ⟨s0, rfl, _⟩, ⟨_, _, rfl, ⟨v1, rfl, _, _⟩, ⟨_, _, rfl, ⟨v2, rfl, _, _⟩, ⟨_, _, rfl, ⟨v3, rfl, _, _⟩, ⟨_, _, rfl, ⟨v4, rfl, _, _⟩, ⟨_, _, rfl, ⟨v5, rfl, _, _⟩, ⟨_, _, rfl, ⟨v6, rfl, _, _⟩, ⟨_, _, rfl, ⟨v7, rfl, _, _⟩, ⟨_, _, rfl, ⟨v8, rfl, _, _⟩, ⟨_, _, rfl, ⟨v9, rfl, _, _⟩, ⟨_, _, rfl, ⟨v10, rfl, _, _⟩, rfl⟩⟩⟩⟩⟩⟩⟩⟩⟩⟩⟩ := hs
  simp [headW, gt, Zl, Z, dS, dI]
theorem walkW_z {ds : List D} (hs : ShL pedT ds) : walkW (Zl true ds) = walkW ds := by
  simp only [ShL, Sh1, pedT] at hs
  obtain ⟨_, _, rfl, ⟨s0, rfl, _⟩, ⟨_, _, rfl, ⟨s1, rfl, _⟩, ⟨_, _, rfl, ⟨v2, rfl, _, _⟩, ⟨_, _, rfl, ⟨v3, rfl, _, _⟩, ⟨_, _, rfl, ⟨v4, rfl, _, _⟩, ⟨_, _, rfl, ⟨v5, rfl, _, _⟩, rfl⟩⟩⟩⟩⟩⟩ := hs
  simp [walkW, gt, Zl, Z, dS, dI]
theorem foeW_z {ds : List D} (hs : ShL foeT ds) : foeW (Zl true ds) = foeW ds := by
  simp only [ShL, Sh1, foeT] at hs
  obtain ⟨_, _, rfl, ⟨s0, rfl, _⟩, ⟨_, _, rfl, ⟨s1, rfl, _⟩, ⟨_, _, rfl, ⟨v2, rfl, _, _⟩, rfl⟩⟩⟩ := hs
  simp [foeW, gt, Zl, Z, dS, dI]
theorem stopW_z {ds : List D} (hs : ShL stopT ds) : stopW (Zl true ds) = stopW ds := by
  simp only [ShL, Sh1, stopT] at hs
  obtain ⟨_, _, rfl, ⟨s0, rfl, _⟩, ⟨_, _, rfl, ⟨s1, rfl, _⟩, ⟨_, _, rfl, ⟨s2, rfl, _⟩, ⟨_, _, rfl, ⟨v3, rfl, _, _⟩, ⟨_, _, rfl, ⟨v4, rfl, _, _⟩, ⟨_, _, rfl, ⟨v5, rfl, _, _⟩, rfl⟩⟩⟩⟩⟩⟩ := hs
  simp [stopW, gt, Zl, Z, dS, dI]
theorem phaseW_z {ds : List D} (hs : ShL phaseT ds) : phaseW (Zl true ds) = phaseW ds := by
  simp only [ShL, Sh1, phaseT] at hs
  obtain ⟨_, _, rfl, ⟨s0, rfl, _⟩, ⟨_, _, rfl, ⟨L1, rfl, _, q1⟩, ⟨_, _, rfl, ⟨v2, rfl, _, _⟩, rfl⟩⟩⟩ := hs
  have := nms_z (e := 9) q1
  simp only [phaseW, gt, Zl, List.isEmpty_cons, Bool.and_false, Bool.false_eq_true, if_false, List.getD_cons_zero, List.getD_cons_succ, this]
  rfl
theorem ringW_z {ds : List D} (hs : ShL rowT ds) : ringW (Zl false ds) = ringW ds := by
  simp only [ShL, Sh1, rowT] at hs
  obtain ⟨_, _, rfl, ⟨f0, rfl⟩, ⟨_, _, rfl, ⟨L1, rfl, _, q1⟩, rfl⟩⟩ := hs
  have := nms_z (e := 9) q1
  simp only [ringW, gt, Zl, Bool.false_and, Bool.false_eq_true, if_false, List.getD_cons_zero, List.getD_cons_succ, this]
  rfl
theorem groupW_z {ds : List D} (hs : ShL groupT ds) : groupW (Zl false ds) = groupW ds := by
  simp only [ShL, Sh1, groupT] at hs
  obtain ⟨_, _, rfl, ⟨L0, rfl, _, q0⟩, rfl⟩ := hs
  have e : (fL (Z (.row 93 2 L0))).flatMap ringW = L0.flatMap ringW := flat_z (bb := false) (fun x hx => ringW_z (q0 x hx))
  simp only [groupW, gt, Zl, Bool.false_and, Bool.false_eq_true, if_false, List.getD_cons_zero, e]
  rfl
theorem nodeW_z {ds : List D} (hs : ShL nodeT ds) : nodeW (Zl true ds) = nodeW ds := by
  simp only [ShL, Sh1, nodeT] at hs
  obtain ⟨_, _, rfl, ⟨s0, rfl, _⟩, ⟨_, _, rfl, ⟨L1, rfl, _, q1⟩, ⟨_, _, rfl, ⟨L2, rfl, _, q2⟩, ⟨_, _, rfl, ⟨L3, rfl, _, q3⟩, ⟨_, _, rfl, ⟨L4, rfl, _, q4⟩, ⟨_, _, rfl, ⟨L5, rfl, _, q5⟩, ⟨_, _, rfl, ⟨v6, rfl, _, _⟩, rfl⟩⟩⟩⟩⟩⟩⟩ := hs
  have e1 : (fL (Z (.row 84 11 L1))).flatMap headW = L1.flatMap headW := flat_z (bb := true) (fun x hx => headW_z (q1 x hx))
  have e2 : (fL (Z (.row 86 6 L2))).flatMap walkW = L2.flatMap walkW := flat_z (bb := true) (fun x hx => walkW_z (q2 x hx))
  have e3 : (fL (Z (.row 88 3 L3))).flatMap phaseW = L3.flatMap phaseW := flat_z (bb := true) (fun x hx => phaseW_z (q3 x hx))
  have e4 : (fL (Z (.row 91 1 L4))).flatMap groupW = L4.flatMap groupW := flat_z (bb := false) (fun x hx => groupW_z (q4 x hx))
  have e5 : (fL (Z (.row 95 3 L5))).flatMap foeW = L5.flatMap foeW := flat_z (bb := true) (fun x hx => foeW_z (q5 x hx))
  simp only [nodeW, gt, Zl, List.isEmpty_cons, Bool.and_false, Bool.false_eq_true, if_false, List.getD_cons_zero, List.getD_cons_succ, e1, e2, e3, e4, e5]
  simp only [Z, dS, fL]
theorem netW_z {ds : List D} (hs : ShL netT ds) : netW (ds.map Z) = netW ds := by
  simp only [ShL, Sh1, netT] at hs
  obtain ⟨_, _, rfl, ⟨v0, rfl, _, _⟩, ⟨_, _, rfl, ⟨v1, rfl, _, _⟩, ⟨_, _, rfl, ⟨v2, rfl, _, _⟩, ⟨_, _, rfl, ⟨v3, rfl, _, _⟩, ⟨_, _, rfl, ⟨v4, rfl, _, _⟩, ⟨_, _, rfl, ⟨L5, rfl, _, q5⟩, ⟨_, _, rfl, ⟨L6, rfl, _, q6⟩, ⟨_, _, rfl, ⟨v7, rfl, _, _⟩, ⟨_, _, rfl, ⟨v8, rfl, _, _⟩, rfl⟩⟩⟩⟩⟩⟩⟩⟩⟩ := hs
  have e5 : (fL (Z (.row 46 7 L5))).flatMap nodeW = L5.flatMap nodeW := flat_z (bb := true) (fun x hx => nodeW_z (q5 x hx))
  have e6 : (fL (Z (.row 49 6 L6))).flatMap stopW = L6.flatMap stopW := flat_z (bb := true) (fun x hx => stopW_z (q6 x hx))
  have e7 : (fL (Z (.row 49 6 L6))).length = L6.length := zss_len _ _
  unfold netW artW hasArt
  simp only [List.map_cons, List.map_nil, gt, List.getD_cons_zero, List.getD_cons_succ, e5, e6, e7]
  simp only [Z, dI, fL]
  congr
theorem txt_z {ds es : List D} (hs : ShL netT ds) (he : ShL netT es) (h : ds.map Z = es.map Z) : txt ds = txt es := by unfold txt; rw [← netW_z hs, h, netW_z he]
theorem apart {ds es : List D} (hs : ShL netT ds) (he : ShL netT es) (hB : netB ds = true) (hC : netB es = true) : txt ds = txt es ↔ ds.map Z = es.map Z := by
  refine ⟨fun h => ?_, txt_z hs he⟩
  obtain ⟨L, e, h1, h2⟩ := tk_txt hB
  obtain ⟨M, f, k1, k2⟩ := tk_txt hC
  rw [h, k1] at h1
  simp only [Except.ok.injEq] at h1
  have hLM := (List.append_inj' h1 rfl).1
  subst hLM
  have hK : netK ds = netK es := h2.symm.trans k2
  have r1 := read_net hs hB
  have r2 := read_net he hC
  rw [hK, r2] at r1
  simp only [Except.ok.injEq, Prod.mk.injEq, and_true] at r1
  exact r1.symm
/-- the shapes that Same asks for -/
theorem sh_names {L : List (List D)} {hi : Nat} (hh : hi ≤ 100000) (hl : L.length ≤ hi) (h : ∀ ds ∈ L, ShL nameT ds) : NamesSh L := ⟨by omega, fun x hx => by
  have hs := h x hx
  simp only [ShL, Sh1, nameT] at hs
  obtain ⟨_, _, rfl, ⟨s0, rfl, _⟩, rfl⟩ := hs
  exact ⟨s0, rfl⟩⟩
theorem sh_node {ds : List D} (hs : ShL nodeT ds) (hB : nodeB ds = true) : NodeSh ds := by
  obtain ⟨⟨_, l1⟩, h1⟩ := rowB_all (and_l (and_r hB))
  obtain ⟨⟨_, l2⟩, h2⟩ := rowB_all (and_l (and_r (and_r hB)))
  obtain ⟨⟨_, l3⟩, h3⟩ := rowB_all (and_l (and_r (and_r (and_r hB))))
  obtain ⟨⟨_, l4⟩, h4⟩ := rowB_all (and_l (and_r (and_r (and_r (and_r hB)))))
  obtain ⟨⟨_, l5⟩, h5⟩ := rowB_all (and_r (and_r (and_r (and_r (and_r hB)))))
  clear hB
  simp only [ShL, Sh1, nodeT] at hs
  obtain ⟨_, _, rfl, ⟨s0, rfl, _⟩, ⟨_, _, rfl, ⟨L1, rfl, _, q1⟩, ⟨_, _, rfl, ⟨L2, rfl, _, q2⟩, ⟨_, _, rfl, ⟨L3, rfl, _, q3⟩, ⟨_, _, rfl, ⟨L4, rfl, _, q4⟩, ⟨_, _, rfl, ⟨L5, rfl, _, q5⟩, ⟨_, _, rfl, ⟨v6, rfl, _, _⟩, rfl⟩⟩⟩⟩⟩⟩⟩ := hs
  simp only [gt, List.getD_cons_zero, List.getD_cons_succ, fL] at l1 l2 l3 l4 l5 h1 h2 h3 h4 h5
  refine ⟨s0, L1, L2, L3, L4, L5, v6, rfl, ⟨by omega, fun y hy => ?_⟩, ⟨by omega, fun y hy => ?_⟩, ⟨by omega, fun y hy => ?_⟩, ⟨by omega, fun y hy => ?_⟩, ⟨by omega, fun y hy => ?_⟩⟩
  · have hs := q1 y hy
    simp only [ShL, Sh1, headT] at hs
    obtain ⟨_, _, rfl, ⟨s0, rfl, _⟩, ⟨_, _, rfl, ⟨v1, rfl, _, _⟩, ⟨_, _, rfl, ⟨v2, rfl, _, _⟩, ⟨_, _, rfl, ⟨v3, rfl, _, _⟩, ⟨_, _, rfl, ⟨v4, rfl, _, _⟩, ⟨_, _, rfl, ⟨v5, rfl, _, _⟩, ⟨_, _, rfl, ⟨v6, rfl, _, _⟩, ⟨_, _, rfl, ⟨v7, rfl, _, _⟩, ⟨_, _, rfl, ⟨v8, rfl, _, _⟩, ⟨_, _, rfl, ⟨v9, rfl, _, _⟩, ⟨_, _, rfl, ⟨v10, rfl, _, _⟩, rfl⟩⟩⟩⟩⟩⟩⟩⟩⟩⟩⟩ := hs
    exact ⟨_, _, _, _, _, _, _, _, _, _, _, rfl⟩
  · have hs := q2 y hy
    simp only [ShL, Sh1, pedT] at hs
    obtain ⟨_, _, rfl, ⟨s0, rfl, _⟩, ⟨_, _, rfl, ⟨s1, rfl, _⟩, ⟨_, _, rfl, ⟨v2, rfl, _, _⟩, ⟨_, _, rfl, ⟨v3, rfl, _, _⟩, ⟨_, _, rfl, ⟨v4, rfl, _, _⟩, ⟨_, _, rfl, ⟨v5, rfl, _, _⟩, rfl⟩⟩⟩⟩⟩⟩ := hs
    exact ⟨_, _, _, _, _, _, rfl⟩
  · have hs := q3 y hy
    obtain ⟨⟨_, g⟩, _⟩ := rowB_all (and_r (h3 y hy))
    simp only [ShL, Sh1, phaseT] at hs
    obtain ⟨_, _, rfl, ⟨s0, rfl, _⟩, ⟨_, _, rfl, ⟨L1, rfl, _, q1⟩, ⟨_, _, rfl, ⟨v2, rfl, _, _⟩, rfl⟩⟩⟩ := hs
    exact ⟨_, _, _, rfl, sh_names (by decide) g q1⟩
  · have hs := q4 y hy
    obtain ⟨⟨_, g⟩, h6⟩ := rowB_all (h4 y hy)
    simp only [ShL, Sh1, groupT] at hs
    obtain ⟨_, _, rfl, ⟨L0, rfl, _, q0⟩, rfl⟩ := hs
    simp only [gt, List.getD_cons_zero, fL] at g h6
    refine ⟨_, rfl, by omega, fun z hz => ?_⟩
    have hs := q0 z hz
    obtain ⟨⟨_, g'⟩, _⟩ := rowB_all (h6 z hz)
    simp only [ShL, Sh1, rowT] at hs
    obtain ⟨_, _, rfl, ⟨f0, rfl⟩, ⟨_, _, rfl, ⟨L1, rfl, _, q1⟩, rfl⟩⟩ := hs
    exact ⟨_, _, rfl, sh_names (by decide) g' q1⟩
  · have hs := q5 y hy
    simp only [ShL, Sh1, foeT] at hs
    obtain ⟨_, _, rfl, ⟨s0, rfl, _⟩, ⟨_, _, rfl, ⟨s1, rfl, _⟩, ⟨_, _, rfl, ⟨v2, rfl, _, _⟩, rfl⟩⟩⟩ := hs
    exact ⟨_, _, _, rfl⟩
theorem sh_net {ds : List D} (hs : ShL netT ds) (hB : netB ds = true) : NetSh ds := by
  obtain ⟨⟨_, l5⟩, h5⟩ := rowB_all (and_l (and_r hB))
  obtain ⟨⟨_, l6⟩, h6⟩ := rowB_all (and_r (and_r hB))
  clear hB
  simp only [ShL, Sh1, netT] at hs
  obtain ⟨_, _, rfl, ⟨v0, rfl, _, _⟩, ⟨_, _, rfl, ⟨v1, rfl, _, _⟩, ⟨_, _, rfl, ⟨v2, rfl, _, _⟩, ⟨_, _, rfl, ⟨v3, rfl, _, _⟩, ⟨_, _, rfl, ⟨v4, rfl, _, _⟩, ⟨_, _, rfl, ⟨L5, rfl, _, q5⟩, ⟨_, _, rfl, ⟨L6, rfl, _, q6⟩, ⟨_, _, rfl, ⟨v7, rfl, _, _⟩, ⟨_, _, rfl, ⟨v8, rfl, _, _⟩, rfl⟩⟩⟩⟩⟩⟩⟩⟩⟩ := hs
  simp only [gt, List.getD_cons_zero, List.getD_cons_succ, fL] at l5 l6 h5 h6
  refine ⟨_, _, _, _, _, _, _, _, _, rfl, ⟨by omega, fun y hy => sh_node (q5 y hy) (h5 y hy)⟩, ⟨by omega, fun y hy => ?_⟩⟩
  have hs := q6 y hy
  simp only [ShL, Sh1, stopT] at hs
  obtain ⟨_, _, rfl, ⟨s0, rfl, _⟩, ⟨_, _, rfl, ⟨s1, rfl, _⟩, ⟨_, _, rfl, ⟨s2, rfl, _⟩, ⟨_, _, rfl, ⟨v3, rfl, _, _⟩, ⟨_, _, rfl, ⟨v4, rfl, _, _⟩, ⟨_, _, rfl, ⟨v5, rfl, _, _⟩, rfl⟩⟩⟩⟩⟩⟩ := hs
  exact ⟨_, _, _, _, _, _, rfl⟩
end S
end Go.Proofs.YtcdnbdajnagfiaaGreatDoor
