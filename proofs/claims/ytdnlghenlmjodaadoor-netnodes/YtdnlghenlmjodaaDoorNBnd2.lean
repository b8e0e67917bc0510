/- No network that is read has more than there may be. -/
import Derived.Test.YtdnlghenlmjodaaDoorNWf
import Derived.Test.YtdnlghenlmjodaaDoorNCt
namespace Go.Proofs.YtdnlghenlmjodaaDoor
open Go.RowKit
set_option linter.unusedVariables false
set_option linter.unusedSimpArgs false
set_option maxRecDepth 10000
def RingOk (d : List D) : Prop := ∃ b L, d = [dB b, .row 9 1 L] ∧ 1 ≤ L.length ∧ L.length ≤ 4
def GroupOk (d : List D) : Prop := ∃ L, d = [.row 161 2 L] ∧ 1 ≤ L.length ∧ L.length ≤ 2 ∧ ∀ x ∈ L, RingOk x
def NodeOk (d : List D) : Prop := ∃ s H P F G E n, d = [dS s, .row 57 11 H, .row 122 6 P, .row 128 3 F, .row 134 1 G, .row 139 3 E, dI n] ∧ ¬ s ∈ words ∧ H.length ≤ 16 ∧ P.length ≤ 8 ∧ F.length ≤ 16 ∧ G.length ≤ 4 ∧ E.length ≤ 64 ∧ ∀ x ∈ G, GroupOk x
def NetOk (d : List D) : Prop := ∃ a0 a1 a2 a3 a4 Ns Ss a5 a6, d = [dI a0, dI a1, dI a2, dI a3, dI a4, .row 55 7 Ns, .row 146 6 Ss, dI a5, dI a6] ∧ 0 ≤ a0 ∧ 0 ≤ a1 ∧ 0 ≤ a2 ∧ Ns.length ≤ 12 ∧ Ss.length ≤ 12 ∧ ∀ x ∈ Ns, NodeOk x
theorem ring_ok {r : List Tok} {d : List D} {r' : List Tok} (h : pRing r = .ok (d, r')) : RingOk d := by
  obtain ⟨c1, r1, h1, h⟩ := sq_inv h
  obtain ⟨c2, r2, h2, h⟩ := sq_inv h
  obtain ⟨c3, r3, h3, h⟩ := sq_inv h
  have e := sq_end h
  obtain ⟨b, rfl⟩ := may_inv h1
  obtain ⟨L, rfl, l1, l2⟩ := names_inv h2
  obtain ⟨rfl, _⟩ := the_inv h3
  simp at e
  exact ⟨b, L, e.1, l1, l2⟩
theorem group_ok {r : List Tok} {d : List D} {r' : List Tok} (h : pGroup r = .ok (d, r')) : GroupOk d := by
  obtain ⟨c1, r1, h1, h⟩ := sq_inv h
  obtain ⟨c2, r2, h2, h⟩ := sq_inv h
  obtain ⟨c3, r3, h3, h⟩ := sq_inv h
  obtain ⟨c4, r4, h4, h⟩ := sq_inv h
  have e := sq_end h
  obtain ⟨rfl, _⟩ := the_inv h1
  obtain ⟨L, rfl, l1, l2⟩ := row_inv (Q := RingOk) (fun r d r' h => ring_ok h) h2
  obtain ⟨rfl, hne⟩ := some_inv h3
  obtain ⟨rfl, _⟩ := the_inv h4
  simp at e
  refine ⟨L, e.1, ?_, l1, l2⟩
  cases L with
  | nil => exact absurd rfl (hne _ _)
  | cons a b => simp
theorem node_ok {r : List Tok} {d : List D} {r' : List Tok} (h : pNode r = .ok (d, r')) : NodeOk d := by
  obtain ⟨d0, h0, rfl⟩ := rotd_inv h
  clear h
  obtain ⟨c1, r1, h1, h⟩ := sq_inv h0
  obtain ⟨c2, r2, h2, h⟩ := sq_inv h
  obtain ⟨c3, r3, h3, h⟩ := sq_inv h
  obtain ⟨c4, r4, h4, h⟩ := sq_inv h
  obtain ⟨c5, r5, h5, h⟩ := sq_inv h
  obtain ⟨c6, r6, h6, h⟩ := sq_inv h
  obtain ⟨c7, r7, h7, h⟩ := sq_inv h
  obtain ⟨c8, r8, h8, h⟩ := sq_inv h
  obtain ⟨c9, r9, h9, h⟩ := sq_inv h
  have e := sq_end h
  obtain ⟨n, rfl, _⟩ := pos_inv h1
  obtain ⟨t, rfl, ht, _⟩ := name_inv h2
  obtain ⟨rfl, _⟩ := the_inv h3
  obtain ⟨H, rfl, l1, _⟩ := row_inv (Q := fun _ => True) (fun r d r' h => trivial) h4
  obtain ⟨P, rfl, l2, _⟩ := row_inv (Q := fun _ => True) (fun r d r' h => trivial) h5
  obtain ⟨F, rfl, l3, _⟩ := row_inv (Q := fun _ => True) (fun r d r' h => trivial) h6
  obtain ⟨G, rfl, l4, l5⟩ := row_inv (Q := GroupOk) (fun r d r' h => group_ok h) h7
  obtain ⟨E, rfl, l6, _⟩ := row_inv (Q := fun _ => True) (fun r d r' h => trivial) h8
  obtain ⟨rfl, _⟩ := the_inv h9
  simp at e
  exact ⟨t.s, H, P, F, G, E, n, by rw [e.1]; rfl, ht, l1, l2, l3, l4, l6, l5⟩
theorem net_ok {l : List UInt8} {cs : List D} (hl : l.length ≤ 65536) (h : N l = .ok cs) : NetOk cs := by
  unfold N at h
  cases hT : T l with
  | error x => rw [hT] at h; cases h
  | ok L =>
    rw [hT] at h
    simp only at h
    have hw := (T_wf hl hT).2.2
    cases hp : pNet L with
    | error x => rw [hp] at h; cases h
    | ok q =>
      obtain ⟨c, r'⟩ := q
      rw [hp] at h
      simp at h
      subst h
      obtain ⟨c1, r1, h1, h⟩ := sq_inv hp
      obtain ⟨c2, r2, h2, h⟩ := sq_inv h
      obtain ⟨c3, r3, h3, h⟩ := sq_inv h
      obtain ⟨c4, r4, h4, h⟩ := sq_inv h
      obtain ⟨c5, r5, h5, h⟩ := sq_inv h
      obtain ⟨c6, r6, h6, h⟩ := sq_inv h
      obtain ⟨c7, r7, h7, h⟩ := sq_inv h
      obtain ⟨c8, r8, h8, h⟩ := sq_inv h
      obtain ⟨c9, r9, h9, h⟩ := sq_inv h
      obtain ⟨c10, r10, h10, h⟩ := sq_inv h
      obtain ⟨c11, r11, h11, h⟩ := sq_inv h
      obtain ⟨c12, r12, h12, h⟩ := sq_inv h
      obtain ⟨c13, r13, h13, h⟩ := sq_inv h
      have e := sq_end h
      obtain ⟨rfl, t1, rfl⟩ := the_inv h1
      obtain ⟨t2, rfl, rfl⟩ := num_inv h2
      obtain ⟨rfl, t3, rfl⟩ := the_inv h3
      obtain ⟨t4, rfl, rfl⟩ := num_inv h4
      obtain ⟨rfl, t5, rfl⟩ := the_inv h5
      obtain ⟨t6, rfl, rfl⟩ := num_inv h6
      obtain ⟨rfl, t7, rfl⟩ := the_inv h7
      obtain ⟨rfl, t8, rfl⟩ := the_inv h8
      obtain ⟨a3, a4, rfl⟩ := frac_inv h9
      obtain ⟨rfl, t9, rfl⟩ := the_inv h10
      obtain ⟨Ns, rfl, l1, l2⟩ := row_inv (Q := NodeOk) (fun r d r' h => node_ok h) h11
      have h13' := end_inv h13
      have hart : ∃ Ss a5 a6, c12 = ([] ++ [dI t2.n] ++ [dI t4.n] ++ [dI t6.n] ++ [dI a3] ++ [dI a4] ++ [D.row 55 7 Ns]) ++ [.row 146 6 Ss, dI a5, dI a6] ∧ Ss.length ≤ 12 := by
        simp only [pArt] at h12
        split at h12
        · cases h12
        · obtain ⟨d1, s1, k1, h12⟩ := sq_inv h12
          obtain ⟨d2, s2, k2, h12⟩ := sq_inv h12
          obtain ⟨d3, s3, k3, h12⟩ := sq_inv h12
          obtain ⟨d4, s4, k4, h12⟩ := sq_inv h12
          obtain ⟨d5, s5, k5, h12⟩ := sq_inv h12
          obtain ⟨d6, s6, k6, h12⟩ := sq_inv h12
          obtain ⟨d7, s7, k7, h12⟩ := sq_inv h12
          have e2 := sq_end h12
          obtain ⟨rfl, _⟩ := the_inv k1
          obtain ⟨Ss, rfl, l3, _⟩ := row_inv (Q := fun _ => True) (fun r d r' h => trivial) k2
          obtain ⟨rfl, _⟩ := the_inv k3
          obtain ⟨u1, rfl, _⟩ := num_inv k4
          obtain ⟨u2, rfl, _⟩ := num_inv k5
          obtain ⟨rfl, _⟩ := the_inv k6
          obtain ⟨rfl, _⟩ := the_inv k7
          injection e2 with e2 _
          exact ⟨Ss, u1.n, u2.n, by rw [e2]; simp, l3⟩
        · simp only [Except.ok.injEq, Prod.mk.injEq] at h12
          exact ⟨[], 0, 0, h12.1.symm, by simp⟩
      obtain ⟨Ss, a5, a6, hc, l3⟩ := hart
      injection e with e _
      refine ⟨t2.n, t4.n, t6.n, a3, a4, Ns, Ss, a5, a6, by rw [e, h13', hc]; simp, (hw t2 (by simp)).1, (hw t4 (by simp)).1, (hw t6 (by simp)).1, l1, l3, l2⟩
end Go.Proofs.YtdnlghenlmjodaaDoor
