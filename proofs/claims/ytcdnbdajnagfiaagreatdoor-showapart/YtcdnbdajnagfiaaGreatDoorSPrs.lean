/- The tokens of a network are read as its tree, with all places 0. -/
import Derived.Test.YtcdnbdajnagfiaaGreatDoorSWrd
namespace Go.Proofs.YtcdnbdajnagfiaaGreatDoor
open Go.RowKit
set_option linter.unusedVariables false
set_option linter.unusedSimpArgs false
set_option maxRecDepth 10000
namespace S
theorem row_read {word : List UInt8} {most : Nat} {body : List Tok → Rs} (hm : Mon body) (K : List D → List Tok) (zf : List D → List D) (t : Tok) (r : List Tok) (ht : t.s ≠ word) :
    ∀ (L M : List (List D)), M.length + L.length ≤ most → (∀ ds ∈ L, ∀ u R, body (K ds ++ u :: R) = .ok (zf ds, u :: R)) → rw_ word most body M (L.flatMap (fun d => kS word :: K d) ++ t :: r) = .ok (M ++ L.map zf, t :: r)
  | [], M, _, _ => by
    rw [List.flatMap_nil, List.nil_append, rw_cons _ _ _ hm, if_neg ht]
    simp
  | d :: L, M, hl, hb => by
    rw [List.flatMap_cons, List.append_assoc, List.cons_append, rw_cons _ _ _ hm, if_pos (show (kS word).s = word from rfl), if_neg (by simp at hl; omega)]
    have hne : ∃ u R, L.flatMap (fun d => kS word :: K d) ++ t :: r = u :: R := by
      cases L with
      | nil => exact ⟨t, r, rfl⟩
      | cons x xs => exact ⟨_, _, rfl⟩
    obtain ⟨u, R, e⟩ := hne
    rw [e, hb d List.mem_cons_self u R]
    simp only
    rw [← e, row_read hm K zf t r ht L (M ++ [zf d]) (by simp at hl ⊢; omega) (fun x hx => hb x (List.mem_cons_of_mem _ hx))]
    simp
theorem prow_read {word : List UInt8} {most e z : Nat} {body : List Tok → Rs} (hm : Mon body) (K : List D → List Tok) (zf : List D → List D) {t : Tok} {r : List Tok} (ht : t.s ≠ word) (L : List (List D)) (hl : L.length ≤ most)
    (hb : ∀ ds ∈ L, ∀ u R, body (K ds ++ u :: R) = .ok (zf ds, u :: R)) (c : List D) : pRow word most e z body c (L.flatMap (fun d => kS word :: K d) ++ t :: r) = .ok (c ++ [.row e z (L.map zf)], t :: r) := by
  unfold pRow
  have := row_read hm K zf t r ht L [] (by simpa using hl) hb
  unfold rw_ at this
  rw [this]
  simp
theorem names_read (most : Nat) (t : Tok) (r : List Tok) (ht : t.s ≠ [44]) : ∀ (l : List (List UInt8)) (M : List (List D)) (s : List UInt8), M.length + l.length + 1 ≤ most → (∀ x ∈ s :: l, ¬ x ∈ words) → nm most M (kS s :: (l.flatMap (fun x => [kC 44, kS x]) ++ t :: r)) = .ok (M ++ (s :: l).map (fun x => [dS x]), t :: r)
  | [], M, s, hl, hw => by
    rw [nm_cons, if_pos ⟨rfl, hw s List.mem_cons_self⟩, if_neg (by simp at hl; omega)]
    simp [ht, kS]
  | x :: l, M, s, hl, hw => by
    rw [nm_cons, if_pos ⟨rfl, hw s List.mem_cons_self⟩, if_neg (by simp at hl; omega)]
    have ih := names_read most t r ht l (M ++ [[dS s]]) x (by simp at hl ⊢; omega) (fun y hy => hw y (List.mem_cons_of_mem _ hy))
    have e : (x :: l).flatMap (fun x => [kC 44, kS x]) ++ t :: r = kC 44 :: kS x :: (l.flatMap (fun x => [kC 44, kS x]) ++ t :: r) := by simp
    rw [e]
    simp only [if_true]
    rw [ih]
    simp
theorem pnames_read {e most : Nat} {l : List (List UInt8)} (hl : l ≠ []) (hm : l.length ≤ most) (hw : ∀ x ∈ l, nmB x = true) (c : List D) (R : List Tok) : pNames e most c (lk l ++ R) = .ok (c ++ [.row e 1 (l.map (fun x => [dS x]))], kC 59 :: R) := by
  cases l with
  | nil => exact absurd rfl hl
  | cons s l =>
    have := names_read most (kC 59) R (by decide) l [] s (by simp at hm ⊢; omega) (fun x hx => (nmB_rg (hw x hx)).2)
    unfold pNames
    unfold nm at this
    have e : lk (s :: l) ++ R = kS s :: (l.flatMap (fun x => [kC 44, kS x]) ++ kC 59 :: R) := by simp [lk]
    rw [e, this]
    simp
theorem step_the (s : List UInt8) (k n p : Int) (c : List D) (r : List Tok) (ps : List Sp) : sq (pThe s :: ps) c (⟨k, s, n, p⟩ :: r) = sq ps c r := by simp only [sq, pThe, if_true]
theorem step_name (s : List UInt8) (c : List D) (r : List Tok) (ps : List Sp) (h : nmB s = true) : sq (pName :: ps) c (kS s :: r) = sq ps (c ++ [dS s]) r := by
  have h2 := (nmB_rg h).2
  simp [sq, pName, h2]
theorem step_num (n : Int) (c : List D) (r : List Tok) (ps : List Sp) : sq (pNum :: ps) c (kN n :: r) = sq ps (c ++ [dI n]) r := rfl
theorem step_pos (c : List D) (t : Tok) (r : List Tok) (ps : List Sp) (h : t.p = 0) : sq (pPos :: ps) c (t :: r) = sq ps (c ++ [dI 0]) (t :: r) := by simp only [sq, pPos, h]
theorem step_frac (a b : Int) (c : List D) (r : List Tok) (ps : List Sp) : sq (pFrac :: ps) c (kN a :: kC 47 :: kN b :: r) = sq ps (c ++ [dI a, dI b]) r := by
  have : pFrac c (kN a :: kC 47 :: kN b :: r) = .ok (c ++ [dI a, dI b], r) := by
    unfold pFrac
    rw [step_num, step_the, step_num]
    simp [sq]
  simp only [sq, this]
theorem step_grade (n : Int) (c : List D) (r : List Tok) (ps : List Sp) (h : grB n = true) : sq (pGrade :: ps) c (kG n ++ r) = sq ps (c ++ [dI n]) r := by
  have : pGrade c (kG n ++ r) = .ok (c ++ [dI n], r) := by
    unfold pGrade kG
    by_cases h0 : n < 0
    · rw [if_pos h0]
      have e : sq [pMay [45], pNum] [] ([kC 45, kN (-n)] ++ r) = .ok ([dB true, dI (-n)], r) := rfl
      rw [e]
      simp [dB, dI]
    · rw [if_neg h0]
      have hg := gs_num (n := n) (by unfold nuB; have := of_decide_eq_true h; exact decide_eq_true ⟨by omega, by omega⟩)
      have hne : (kN n).s ≠ [45] := by
        intro e
        have h1 := hg.2.1
        have e' : dg n = [45] := e
        rw [e'] at h1
        have e2 : one [45] 0 = .ok ⟨3, [45], 0, 0⟩ := rfl
        rw [e2] at h1
        simp at h1
      have e : sq [pMay [45], pNum] [] ([kN n] ++ r) = .ok ([dB false, dI n], r) := by
        simp only [sq, pMay, List.cons_append, List.nil_append, if_neg hne]
        rfl
      rw [e]
      simp [dB, dI]
  simp only [sq, this]
theorem step_names {e most : Nat} {l : List (List UInt8)} (hl : l ≠ []) (hm : l.length ≤ most) (hw : ∀ x ∈ l, nmB x = true) (c : List D) (R : List Tok) (ps : List Sp) : sq (pNames e most :: ps) c (lk l ++ R) = sq ps (c ++ [.row e 1 (l.map (fun x => [dS x]))]) (kC 59 :: R) := by
  simp only [sq, pnames_read hl hm hw]
theorem step_row {word : List UInt8} {most e z : Nat} {body : List Tok → Rs} (hm : Mon body) (K : List D → List Tok) (zf : List D → List D) {t : Tok} {r : List Tok} (ht : t.s ≠ word) {L : List (List D)} (hl : L.length ≤ most)
    (hb : ∀ ds ∈ L, ∀ u R, body (K ds ++ u :: R) = .ok (zf ds, u :: R)) (c : List D) (ps : List Sp) {R : List Tok} (hR : R = t :: r) : sq (pRow word most e z body :: ps) c (L.flatMap (fun d => kS word :: K d) ++ R) = sq ps (c ++ [.row e z (L.map zf)]) R := by
  subst hR
  simp only [sq, prow_read hm K zf ht L hl hb]
theorem step_nil (c : List D) (r : List Tok) : sq [] c r = .ok (c, r) := rfl
/-- what is next behind a row's begin -/
theorem nxt (L : List (List D)) (word : List UInt8) (K : List D → List Tok) (t : Tok) (r : List Tok) : ∃ t' r', L.flatMap (fun d => kS word :: K d) ++ t :: r = t' :: r' ∧ (t'.s = word ∨ t'.s = t.s) := by
  cases L with
  | nil => exact ⟨t, r, rfl, .inr rfl⟩
  | cons x xs => exact ⟨_, _, rfl, .inl rfl⟩
set_option maxHeartbeats 1000000 in
theorem read_head {ds : List D} (hs : ShL headT ds) (h : headB ds = true) (R : List Tok) : pHead (headK ds ++ R) = .ok (Zl true ds, R) := by
  simp only [ShL, Sh1, headT] at hs
  obtain ⟨_, _, rfl, ⟨s0, rfl, _⟩, ⟨_, _, rfl, ⟨v1, rfl, _, _⟩, ⟨_, _, rfl, ⟨v2, rfl, _, _⟩, ⟨_, _, rfl, ⟨v3, rfl, _, _⟩, ⟨_, _, rfl, ⟨v4, rfl, _, _⟩, ⟨_, _, rfl, ⟨v5, rfl, _, _⟩, ⟨_, _, rfl, ⟨v6, rfl, _, _⟩, ⟨_, _, rfl, ⟨v7, rfl, _, _⟩, ⟨_, _, rfl, ⟨v8, rfl, _, _⟩, ⟨_, _, rfl, ⟨v9, rfl, _, _⟩, ⟨_, _, rfl, ⟨v10, rfl, _, _⟩, rfl⟩⟩⟩⟩⟩⟩⟩⟩⟩⟩⟩ := hs
  have n0 := and_l h
  have g6 := and_l (and_r h)
  clear h
  simp only [headK, gt, List.getD_cons_zero, List.getD_cons_succ, tS_dS, fI, dI, List.cons_append, List.nil_append, List.append_assoc] at *
  unfold pHead rotd
  rw [step_pos _ _ _ _ rfl]
  rw [step_name _ _ _ _ n0]
  rw [step_the]
  rw [step_num]
  rw [step_the]
  rw [step_num]
  rw [step_the]
  rw [step_frac]
  rw [step_the]
  rw [step_num]
  rw [step_the]
  rw [step_grade _ _ _ _ g6]
  rw [step_the]
  rw [step_num]
  rw [step_the]
  rw [step_num]
  rw [step_the]
  rw [step_num]
  rw [step_the]
  rw [step_nil]
  simp [rot, Zl, Z, dI, dS]
set_option maxHeartbeats 1000000 in
theorem read_walk {ds : List D} (hs : ShL pedT ds) (h : walkB ds = true) (R : List Tok) : pWalk (walkK ds ++ R) = .ok (Zl true ds, R) := by
  simp only [ShL, Sh1, pedT] at hs
  obtain ⟨_, _, rfl, ⟨s0, rfl, _⟩, ⟨_, _, rfl, ⟨s1, rfl, _⟩, ⟨_, _, rfl, ⟨v2, rfl, _, _⟩, ⟨_, _, rfl, ⟨v3, rfl, _, _⟩, ⟨_, _, rfl, ⟨v4, rfl, _, _⟩, ⟨_, _, rfl, ⟨v5, rfl, _, _⟩, rfl⟩⟩⟩⟩⟩⟩ := hs
  have n0 := and_l h
  have n1 := and_l (and_r h)
  clear h
  simp only [walkK, gt, List.getD_cons_zero, List.getD_cons_succ, tS_dS, fI, dI, List.cons_append, List.nil_append, List.append_assoc] at *
  unfold pWalk rotd
  rw [step_pos _ _ _ _ rfl]
  rw [step_name _ _ _ _ n0]
  rw [step_the]
  rw [step_name _ _ _ _ n1]
  rw [step_the]
  rw [step_num]
  rw [step_the]
  rw [step_num]
  rw [step_the]
  rw [step_num]
  rw [step_the]
  rw [step_nil]
  simp [rot, Zl, Z, dI, dS]
set_option maxHeartbeats 1000000 in
theorem read_foe {ds : List D} (hs : ShL foeT ds) (h : foeB ds = true) (R : List Tok) : pFoe (foeK ds ++ R) = .ok (Zl true ds, R) := by
  simp only [ShL, Sh1, foeT] at hs
  obtain ⟨_, _, rfl, ⟨s0, rfl, _⟩, ⟨_, _, rfl, ⟨s1, rfl, _⟩, ⟨_, _, rfl, ⟨v2, rfl, _, _⟩, rfl⟩⟩⟩ := hs
  have n0 := and_l h
  have n1 := and_r h
  clear h
  simp only [foeK, gt, List.getD_cons_zero, List.getD_cons_succ, tS_dS, fI, dI, List.cons_append, List.nil_append, List.append_assoc] at *
  unfold pFoe rotd
  rw [step_pos _ _ _ _ rfl]
  rw [step_name _ _ _ _ n0]
  rw [step_name _ _ _ _ n1]
  rw [step_the]
  rw [step_nil]
  simp [rot, Zl, Z, dI, dS]
set_option maxHeartbeats 1000000 in
theorem read_stop {ds : List D} (hs : ShL stopT ds) (h : stopB ds = true) (R : List Tok) : pStop (stopK ds ++ R) = .ok (Zl true ds, R) := by
  simp only [ShL, Sh1, stopT] at hs
  obtain ⟨_, _, rfl, ⟨s0, rfl, _⟩, ⟨_, _, rfl, ⟨s1, rfl, _⟩, ⟨_, _, rfl, ⟨s2, rfl, _⟩, ⟨_, _, rfl, ⟨v3, rfl, _, _⟩, ⟨_, _, rfl, ⟨v4, rfl, _, _⟩, ⟨_, _, rfl, ⟨v5, rfl, _, _⟩, rfl⟩⟩⟩⟩⟩⟩ := hs
  have n0 := and_l h
  have n1 := and_l (and_r h)
  have n2 := and_l (and_r (and_r h))
  clear h
  simp only [stopK, gt, List.getD_cons_zero, List.getD_cons_succ, tS_dS, fI, dI, List.cons_append, List.nil_append, List.append_assoc] at *
  unfold pStop rotd
  rw [step_pos _ _ _ _ rfl]
  rw [step_name _ _ _ _ n0]
  rw [step_the]
  rw [step_name _ _ _ _ n1]
  rw [step_the]
  rw [step_name _ _ _ _ n2]
  rw [step_the]
  rw [step_num]
  rw [step_the]
  rw [step_num]
  rw [step_the]
  rw [step_nil]
  simp [rot, Zl, Z, dI, dS]
theorem names_z {L : List (List D)} (h : ∀ ds ∈ L, ShL nameT ds) : (L.map (fun e => tS (gt e 0))).map (fun x => [dS x]) = Zss (plc 1) L := by
  rw [zss_map, List.map_map]
  apply List.map_congr_left
  intro x hx
  have hs := h x hx
  simp only [ShL, Sh1, nameT] at hs
  obtain ⟨_, _, rfl, ⟨s0, rfl, _⟩, rfl⟩ := hs
  simp [gt, tS, fS, dS, Zl, Z, plc, sv]
theorem read_phase {ds : List D} (hs : ShL phaseT ds) (h : phaseB ds = true) (R : List Tok) : pPhase (phaseK ds ++ R) = .ok (Zl true ds, R) := by
  simp only [ShL, Sh1, phaseT] at hs
  obtain ⟨_, _, rfl, ⟨s0, rfl, _⟩, ⟨_, _, rfl, ⟨L1, rfl, _, q1⟩, ⟨_, _, rfl, ⟨v2, rfl, _, _⟩, rfl⟩⟩⟩ := hs
  have n0 := and_l h
  obtain ⟨h1, h2, h3⟩ := nms_ok (by decide) (and_r h)
  simp only [phaseK, gt, List.getD_cons_zero, List.getD_cons_succ, tS_dS, List.cons_append, List.nil_append, List.append_assoc] at *
  have hz := hide (names_z q1)
  unfold pPhase rotd
  rw [step_pos _ _ _ _ rfl, step_name _ _ _ _ n0, step_the, step_names h1 h3 h2, step_the, step_nil]
  unfold nms
  simp only [fL]
  rw [uq hz]
  simp [rot, Zl, Z, dI, dS]
theorem read_ring {ds : List D} (hs : ShL rowT ds) (h : ringB ds = true) (R : List Tok) : pRing (ringK ds ++ R) = .ok (Zl false ds, R) := by
  simp only [ShL, Sh1, rowT] at hs
  obtain ⟨_, _, rfl, ⟨f0, rfl⟩, ⟨_, _, rfl, ⟨L1, rfl, _, q1⟩, rfl⟩⟩ := hs
  obtain ⟨h1, h2, h3⟩ := nms_ok (by decide) h
  have hz := names_z q1
  have hne : ∀ R', ∃ t r, lk (nms (.row 9 1 L1)) ++ R' = t :: r ∧ t.s ≠ [102, 114, 101, 101] := by
    intro R'
    simp only [gt, List.getD_cons_zero, List.getD_cons_succ] at h1 h2
    cases e : nms (.row 9 1 L1) with
    | nil => exact absurd e h1
    | cons s l =>
      refine ⟨kS s, _, rfl, ?_⟩
      intro e2
      have : s = [102, 114, 101, 101] := e2
      have h9 := h2 s (by rw [e]; exact List.mem_cons_self)
      rw [this] at h9
      revert h9
      decide
  have hf : sq [pMay [102, 114, 101, 101], pNames 9 4, pThe [59]] [] (ringK [dB f0, .row 9 1 L1] ++ R) = sq [pNames 9 4, pThe [59]] [dB f0] (lk (nms (.row 9 1 L1)) ++ R) := by
    unfold ringK
    cases f0
    · obtain ⟨t, r, e, ht⟩ := hne R
      simp only [gt, List.getD_cons_zero, List.getD_cons_succ, fB, dB, Bool.false_eq_true, if_false, List.nil_append]
      rw [e]
      simp only [sq, pMay, if_neg ht]
      rfl
    · rfl
  unfold pRing
  rw [hf]
  simp only [gt, List.getD_cons_zero, List.getD_cons_succ] at h1 h2 h3
  rw [step_names h1 h3 h2, step_the, step_nil]
  unfold nms
  simp only [fL]
  rw [hz]
  simp [Zl, Z, dB]
theorem read_group {ds : List D} (hs : ShL groupT ds) (h : groupB ds = true) (R : List Tok) : pGroup (groupK ds ++ R) = .ok (Zl false ds, R) := by
  simp only [ShL, Sh1, groupT] at hs
  obtain ⟨_, _, rfl, ⟨L0, rfl, _, q0⟩, rfl⟩ := hs
  obtain ⟨⟨h1, h2⟩, h3⟩ := rowB_all h
  simp only [groupK, gt, List.getD_cons_zero, fL, List.cons_append, List.nil_append, List.append_assoc] at *
  unfold pGroup
  rw [step_the, step_row mon_ring ringK (Zl false) (t := kC 125) (r := R) (by decide) h2 (fun d hd u R => read_ring (q0 d hd) (h3 d hd) _) _ _ rfl]
  have e : ∀ (c : List (List D)) r, c ≠ [] → sq (pSome :: [pThe [125]]) [D.row 93 2 c] r = sq [pThe [125]] [D.row 93 2 c] r := by
    intro c r hc
    cases c with
    | nil => exact absurd rfl hc
    | cons x xs => rfl
  rw [List.nil_append, e _ _ (by intro e; rw [List.map_eq_nil_iff] at e; rw [e] at h1; simp at h1), step_the, step_nil]
  simp [Zl, Z, zss_map, plc]
set_option maxHeartbeats 1000000 in
theorem read_node {ds : List D} (hs : ShL nodeT ds) (h : nodeB ds = true) (R : List Tok) : pNode (nodeK ds ++ R) = .ok (Zl true ds, R) := by
  simp only [ShL, Sh1, nodeT] at hs
  obtain ⟨_, _, rfl, ⟨s0, rfl, _⟩, ⟨_, _, rfl, ⟨L1, rfl, _, q1⟩, ⟨_, _, rfl, ⟨L2, rfl, _, q2⟩, ⟨_, _, rfl, ⟨L3, rfl, _, q3⟩, ⟨_, _, rfl, ⟨L4, rfl, _, q4⟩, ⟨_, _, rfl, ⟨L5, rfl, _, q5⟩, ⟨_, _, rfl, ⟨v6, rfl, _, _⟩, rfl⟩⟩⟩⟩⟩⟩⟩ := hs
  have n0 := and_l h
  obtain ⟨⟨_, l1⟩, h1⟩ := rowB_all (and_l (and_r h))
  obtain ⟨⟨_, l2⟩, h2⟩ := rowB_all (and_l (and_r (and_r h)))
  obtain ⟨⟨_, l3⟩, h3⟩ := rowB_all (and_l (and_r (and_r (and_r h))))
  obtain ⟨⟨_, l4⟩, h4⟩ := rowB_all (and_l (and_r (and_r (and_r (and_r h)))))
  obtain ⟨⟨_, l5⟩, h5⟩ := rowB_all (and_r (and_r (and_r (and_r (and_r h)))))
  clear h
  simp only [nodeK, gt, List.getD_cons_zero, List.getD_cons_succ, tS_dS, fL, List.cons_append, List.nil_append, List.append_assoc] at *
  unfold pNode rotd
  rw [step_pos _ _ _ _ rfl, step_name _ _ _ _ n0, step_the]
  obtain ⟨t5, r5, e5, w5⟩ := nxt L5 [102, 111, 101] foeK (kC 125) R
  obtain ⟨t4, r4, e4, w4⟩ := nxt L4 [103, 114, 111, 117, 112] groupK t5 r5
  obtain ⟨t3, r3, e3, w3⟩ := nxt L3 [112, 104, 97, 115, 101] phaseK t4 r4
  obtain ⟨t2, r2, e2, w2⟩ := nxt L2 [119, 97, 108, 107] walkK t3 r3
  have f5 := e5
  have f4 : List.flatMap (fun d => kS [103, 114, 111, 117, 112] :: groupK d) L4 ++ (List.flatMap (fun d => kS [102, 111, 101] :: foeK d) L5 ++ kC 125 :: R) = t4 :: r4 := by rw [f5, e4]
  have f3 : List.flatMap (fun d => kS [112, 104, 97, 115, 101] :: phaseK d) L3 ++ (List.flatMap (fun d => kS [103, 114, 111, 117, 112] :: groupK d) L4 ++ (List.flatMap (fun d => kS [102, 111, 101] :: foeK d) L5 ++ kC 125 :: R)) = t3 :: r3 := by rw [f4, e3]
  have f2 : List.flatMap (fun d => kS [119, 97, 108, 107] :: walkK d) L2 ++ (List.flatMap (fun d => kS [112, 104, 97, 115, 101] :: phaseK d) L3 ++ (List.flatMap (fun d => kS [103, 114, 111, 117, 112] :: groupK d) L4 ++ (List.flatMap (fun d => kS [102, 111, 101] :: foeK d) L5 ++ kC 125 :: R))) = t2 :: r2 := by rw [f3, e2]
  have d5 : t5.s = [102, 111, 101] ∨ t5.s = [125] := w5
  have d4 : t4.s = [103, 114, 111, 117, 112] ∨ t4.s = [102, 111, 101] ∨ t4.s = [125] := by rcases w4 with h | h; exact .inl h; rw [h]; exact .inr d5
  have d3 : t3.s = [112, 104, 97, 115, 101] ∨ t3.s = [103, 114, 111, 117, 112] ∨ t3.s = [102, 111, 101] ∨ t3.s = [125] := by rcases w3 with h | h; exact .inl h; rw [h]; exact .inr d4
  have d2 : t2.s = [119, 97, 108, 107] ∨ t2.s = [112, 104, 97, 115, 101] ∨ t2.s = [103, 114, 111, 117, 112] ∨ t2.s = [102, 111, 101] ∨ t2.s = [125] := by rcases w2 with h | h; exact .inl h; rw [h]; exact .inr d3
  rw [step_row mon_head headK (Zl true) (t := t2) (r := r2) (by rcases d2 with h | h | h | h | h <;> rw [h] <;> decide) l1 (fun d hd u R => read_head (q1 d hd) (h1 d hd) _) _ _ f2]
  rw [step_row mon_walk walkK (Zl true) (t := t3) (r := r3) (by rcases d3 with h | h | h | h <;> rw [h] <;> decide) l2 (fun d hd u R => read_walk (q2 d hd) (h2 d hd) _) _ _ f3]
  rw [step_row mon_phase phaseK (Zl true) (t := t4) (r := r4) (by rcases d4 with h | h | h <;> rw [h] <;> decide) l3 (fun d hd u R => read_phase (q3 d hd) (h3 d hd) _) _ _ f4]
  rw [step_row mon_group groupK (Zl false) (t := t5) (r := r5) (by rcases d5 with h | h <;> rw [h] <;> decide) l4 (fun d hd u R => read_group (q4 d hd) (h4 d hd) _) _ _ f5]
  rw [step_row mon_foe foeK (Zl true) (t := kC 125) (r := R) (by decide) l5 (fun d hd u R => read_foe (q5 d hd) (h5 d hd) _) _ _ rfl]
  rw [step_the, step_nil]
  simp [rot, Zl, Z, dI, dS, zss_map, plc]
set_option maxHeartbeats 1000000 in
theorem read_net {ds : List D} (hs : ShL netT ds) (h : netB ds = true) : pNet (netK ds ++ [⟨0, [], 0, 0⟩]) = .ok (ds.map Z, [⟨0, [], 0, 0⟩]) := by
  unfold netK
  obtain ⟨A, hA⟩ : ∃ A, (hasArt ds ∧ A = artK ds ∨ ¬ hasArt ds ∧ A = []) ∧ (if hasArt ds then artK ds else []) = A := by
    by_cases ha : hasArt ds
    · exact ⟨artK ds, .inl ⟨ha, rfl⟩, if_pos ha⟩
    · exact ⟨[], .inr ⟨ha, rfl⟩, if_neg ha⟩
  rw [hA.2]
  have hA := hA.1
  simp only [ShL, Sh1, netT] at hs
  obtain ⟨_, _, rfl, ⟨v0, rfl, _, _⟩, ⟨_, _, rfl, ⟨v1, rfl, _, _⟩, ⟨_, _, rfl, ⟨v2, rfl, _, _⟩, ⟨_, _, rfl, ⟨v3, rfl, _, _⟩, ⟨_, _, rfl, ⟨v4, rfl, _, _⟩, ⟨_, _, rfl, ⟨L5, rfl, _, q5⟩, ⟨_, _, rfl, ⟨L6, rfl, _, q6⟩, ⟨_, _, rfl, ⟨v7, rfl, _, _⟩, ⟨_, _, rfl, ⟨v8, rfl, _, _⟩, rfl⟩⟩⟩⟩⟩⟩⟩⟩⟩ := hs
  obtain ⟨⟨_, l5⟩, h5⟩ := rowB_all (and_l (and_r h))
  obtain ⟨⟨_, l6⟩, h6⟩ := rowB_all (and_r (and_r h))
  clear h
  simp only [gt, List.getD_cons_zero, List.getD_cons_succ, fL, fI, dI, List.cons_append, List.nil_append, List.append_assoc] at *
  unfold pNet
  rw [step_the, step_num, step_the, step_num, step_the, step_num, step_the, step_the, step_frac, step_the]
  have hend : ∀ c, sq [pEnd] c [(⟨0, [], 0, 0⟩ : Tok)] = .ok (c, [⟨0, [], 0, 0⟩]) := fun c => rfl
  rcases hA with ⟨ha, rfl⟩ | ⟨ha, rfl⟩
  · simp only [artK, gt, List.getD_cons_zero, List.getD_cons_succ, fL, fI, List.cons_append, List.nil_append, List.append_assoc]
    rw [step_row mon_node nodeK (Zl true) (t := kS [97, 114, 116, 101, 114, 121]) (by decide) l5 (fun d hd u R => read_node (q5 d hd) (h5 d hd) _) _ _ rfl]
    have e1 : ∀ c r, pArt c (kS [97, 114, 116, 101, 114, 121] :: r) = sq [pThe [123], pRow [115, 116, 111, 112] 12 49 6 pStop, pThe [119, 101, 105, 103, 104, 116, 115], pNum, pNum, pThe [59], pThe [125]] c r := fun c r => rfl
    have e2 : ∀ c r x, pArt c r = .ok x → sq (pArt :: [pEnd]) c r = sq [pEnd] x.1 x.2 := fun c r x hx => by simp only [sq, hx]
    rw [e2 _ _ _ (by rw [e1, step_the, step_row mon_stop stopK (Zl true) (t := kS [119, 101, 105, 103, 104, 116, 115]) (by decide) l6 (fun d hd u R => read_stop (q6 d hd) (h6 d hd) _) _ _ rfl, step_the, step_num, step_num, step_the, step_the, step_nil]), hend]
    simp [Z, dI, zss_map, plc]
  · simp only [List.nil_append]
    rw [step_row mon_node nodeK (Zl true) (t := ⟨0, [], 0, 0⟩) (r := []) (by decide) l5 (fun d hd u R => read_node (q5 d hd) (h5 d hd) _) _ _ rfl]
    have e1 : ∀ c, sq (pArt :: [pEnd]) c [(⟨0, [], 0, 0⟩ : Tok)] = .ok (c ++ [.row 49 6 [], dI 0, dI 0], [⟨0, [], 0, 0⟩]) := fun c => rfl
    rw [e1]
    unfold hasArt at ha
    simp only [gt, List.getD_cons_zero, List.getD_cons_succ, fL, fI, not_or, Decidable.not_not] at ha
    obtain ⟨ha, rfl, rfl⟩ := ha
    have : L6 = [] := List.eq_nil_of_length_eq_zero (by omega)
    subst this
    simp [Z, dI, zss_map, plc, Zss]
end S
end Go.Proofs.YtcdnbdajnagfiaaGreatDoor
