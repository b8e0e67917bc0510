/- A text is its network: what is shown is read again; two texts are one just where the networks are, their places aside. -/
import Derived.Test.YtcdnbdajnagfiaaGreatDoorSPrs
import Derived.Test.YtcdnbdajnagfiaaGreatDoorSOks
import Derived.Test.YtcdnbdajnagfiaaGreatDoorSShow
namespace Go.Proofs.YtcdnbdajnagfiaaGreatDoor
open Go.RowKit
set_option linter.unusedVariables false
set_option linter.unusedSimpArgs false
set_option maxRecDepth 10000
namespace S
/-- words do not ask for places -/
theorem nms_z {L : List (List D)} {e : Nat} (h : ∀ ds ∈ L, ShL nameT ds) : nms (Z (.row e 1 L)) = nms (.row e 1 L) := by
  unfold nms
  simp only [Z, fL]
  rw [zss_map, List.map_map]
  apply List.map_congr_left
  intro x hx
  have hs := h x hx
  simp only [ShL, Sh1, nameT] at hs
  obtain ⟨_, _, rfl, ⟨s0, rfl, _⟩, rfl⟩ := hs
  simp [gt, Zl, Z, plc, dS]
theorem flat_z {W : List D → List (List UInt8)} {bb : Bool} {L : List (List D)} (h : ∀ ds ∈ L, W (Zl bb ds) = W ds) : (Zss bb L).flatMap W = L.flatMap W := by
  rw [zss_map, List.flatMap_map]
  induction L with
  | nil => rfl
  | cons d L ih => rw [List.flatMap_cons, List.flatMap_cons, h d List.mem_cons_self, ih (fun x hx => h x (List.mem_cons_of_mem _ hx))]
theorem headW_z {ds : List D} (hs : ShL headT ds) : headW (Zl true ds) = headW ds := by
  simp only [ShL, Sh1, headT] at hs
  obtain ⟨_, _, rfl, ⟨s0, rfl, _⟩, ⟨_, _, rfl, ⟨v1, rfl, _, _⟩, ⟨_, _, rfl, ⟨v2, rfl, _, _⟩, ⟨_, _, rfl, ⟨v3, rfl, _, _⟩, ⟨_, _, rfl, ⟨v4, rfl, _, _⟩, ⟨_, _, rfl, ⟨v5, rfl, _, _⟩, ⟨_, _, rfl, ⟨v6, rfl, _, _⟩, ⟨_, _, rfl, ⟨v7, rfl, _, _⟩, ⟨_, _, rfl, ⟨v8, rfl, _, _⟩, ⟨_, _, rfl, ⟨v9, rfl, _, _⟩, ⟨_, _, rfl, ⟨v10, rfl, _, _⟩, rfl⟩⟩⟩⟩⟩⟩⟩⟩⟩⟩⟩ := hs
  simp [headW, gt, Zl, Z, dS, dI]
theorem walkW_z {ds : List D} (hs : ShL pedT ds) : walkW (Zl true ds) = walkW ds := by
  simp only [ShL, Sh1, pedT] at hs
  obtain ⟨_, _, rfl, ⟨s0, rfl, _⟩, ⟨_, _, rfl, ⟨s1, rfl, _⟩, ⟨_, _, rfl, ⟨v2, rfl, _, _⟩, ⟨_, _, rfl, ⟨v3, rfl, _, _⟩, ⟨_, _, rfl, ⟨v4, rfl, _, _⟩, ⟨_, _, rfl, ⟨v5, rfl, _, _⟩, rfl⟩⟩⟩⟩⟩⟩ := hs
  simp [walkW, gt, Zl, Z, dS, dI]
theorem foeW_z {ds : List D} (hs : ShL foeT ds) : foeW (Zl true ds) = foeW ds := by
  simp only [ShL, Sh1, foeT] at hs
  obtain ⟨_, _, rfl, ⟨s0, rfl, _⟩, ⟨_, _, rfl, ⟨s1, rfl, _⟩, ⟨_, _, rfl, ⟨v2, rfl, _, _⟩, rfl⟩⟩⟩ := hs
  simp [foeW, gt, Zl, Z, dS, dI]
theorem stopW_z {ds : List D} (hs : ShL stopT ds) : stopW (Zl true ds) = stopW ds := by
  simp only [ShL, Sh1, stopT] at hs
  obtain ⟨_, _, rfl, ⟨s0, rfl, _⟩, ⟨_, _, rfl, ⟨s1, rfl, _⟩, ⟨_, _, rfl, ⟨s2, rfl, _⟩, ⟨_, _, rfl, ⟨v3, rfl, _, _⟩, ⟨_, _, rfl, ⟨v4, rfl, _, _⟩, ⟨_, _, rfl, ⟨v5, rfl, _, _⟩, rfl⟩⟩⟩⟩⟩⟩ := hs
  simp [stopW, gt, Zl, Z, dS, dI]
theorem phaseW_z {ds : List D} (hs : ShL phaseT ds) : phaseW (Zl true ds) = phaseW ds := by
  simp only [ShL, Sh1, phaseT] at hs
  obtain ⟨_, _, rfl, ⟨s0, rfl, _⟩, ⟨_, _, rfl, ⟨L1, rfl, _, q1⟩, ⟨_, _, rfl, ⟨v2, rfl, _, _⟩, rfl⟩⟩⟩ := hs
  have := nms_z (e := 9) q1
  simp only [phaseW, gt, Zl, List.isEmpty_cons, Bool.and_false, Bool.false_eq_true, if_false, List.getD_cons_zero, List.getD_cons_succ, this]
  rfl
theorem ringW_z {ds : List D} (hs : ShL rowT ds) : ringW (Zl false ds) = ringW ds := by
  simp only [ShL, Sh1, rowT] at hs
  obtain ⟨_, _, rfl, ⟨f0, rfl⟩, ⟨_, _, rfl, ⟨L1, rfl, _, q1⟩, rfl⟩⟩ := hs
  have := nms_z (e := 9) q1
  simp only [ringW, gt, Zl, Bool.false_and, Bool.false_eq_true, if_false, List.getD_cons_zero, List.getD_cons_succ, this]
  rfl
theorem groupW_z {ds : List D} (hs : ShL groupT ds) : groupW (Zl false ds) = groupW ds := by
  simp only [ShL, Sh1, groupT] at hs
  obtain ⟨_, _, rfl, ⟨L0, rfl, _, q0⟩, rfl⟩ := hs
  have e : (fL (Z (.row 93 2 L0))).flatMap ringW = L0.flatMap ringW := flat_z (bb := false) (fun x hx => ringW_z (q0 x hx))
  simp only [groupW, gt, Zl, Bool.false_and, Bool.false_eq_true, if_false, List.getD_cons_zero, e]
  rfl
theorem nodeW_z {ds : List D} (hs : ShL nodeT ds) : nodeW (Zl true ds) = nodeW ds := by
  simp only [ShL, Sh1, nodeT] at hs
  obtain ⟨_, _, rfl, ⟨s0, rfl, _⟩, ⟨_, _, rfl, ⟨L1, rfl, _, q1⟩, ⟨_, _, rfl, ⟨L2, rfl, _, q2⟩, ⟨_, _, rfl, ⟨L3, rfl, _, q3⟩, ⟨_, _, rfl, ⟨L4, rfl, _, q4⟩, ⟨_, _, rfl, ⟨L5, rfl, _, q5⟩, ⟨_, _, rfl, ⟨v6, rfl, _, _⟩, rfl⟩⟩⟩⟩⟩⟩⟩ := hs
  have e1 : (fL (Z (.row 84 11 L1))).flatMap headW = L1.flatMap headW := flat_z (bb := true) (fun x hx => headW_z (q1 x hx))
  have e2 : (fL (Z (.row 86 6 L2))).flatMap walkW = L2.flatMap walkW := flat_z (bb := true) (fun x hx => walkW_z (q2 x hx))
  have e3 : (fL (Z (.row 88 3 L3))).flatMap phaseW = L3.flatMap phaseW := flat_z (bb := true) (fun x hx => phaseW_z (q3 x hx))
  have e4 : (fL (Z (.row 91 1 L4))).flatMap groupW = L4.flatMap groupW := flat_z (bb := false) (fun x hx => groupW_z (q4 x hx))
  have e5 : (fL (Z (.row 95 3 L5))).flatMap foeW = L5.flatMap foeW := flat_z (bb := true) (fun x hx => foeW_z (q5 x hx))
  simp only [nodeW, gt, Zl, List.isEmpty_cons, Bool.and_false, Bool.false_eq_true, if_false, List.getD_cons_zero, List.getD_cons_succ, e1, e2, e3, e4, e5]
  simp only [Z, dS, fL]
theorem netW_z {ds : List D} (hs : ShL netT ds) : netW (ds.map Z) = netW ds := by
  simp only [ShL, Sh1, netT] at hs
  obtain ⟨_, _, rfl, ⟨v0, rfl, _, _⟩, ⟨_, _, rfl, ⟨v1, rfl, _, _⟩, ⟨_, _, rfl, ⟨v2, rfl, _, _⟩, ⟨_, _, rfl, ⟨v3, rfl, _, _⟩, ⟨_, _, rfl, ⟨v4, rfl, _, _⟩, ⟨_, _, rfl, ⟨L5, rfl, _, q5⟩, ⟨_, _, rfl, ⟨L6, rfl, _, q6⟩, ⟨_, _, rfl, ⟨v7, rfl, _, _⟩, ⟨_, _, rfl, ⟨v8, rfl, _, _⟩, rfl⟩⟩⟩⟩⟩⟩⟩⟩⟩ := hs
  have e5 : (fL (Z (.row 46 7 L5))).flatMap nodeW = L5.flatMap nodeW := flat_z (bb := true) (fun x hx => nodeW_z (q5 x hx))
  have e6 : (fL (Z (.row 49 6 L6))).flatMap stopW = L6.flatMap stopW := flat_z (bb := true) (fun x hx => stopW_z (q6 x hx))
  have e7 : (fL (Z (.row 49 6 L6))).length = L6.length := zss_len _ _
  unfold netW artW hasArt
  simp only [List.map_cons, List.map_nil, gt, List.getD_cons_zero, List.getD_cons_succ, e5, e6, e7]
  simp only [Z, dI, fL]
  congr
theorem txt_z {ds es : List D} (hs : ShL netT ds) (he : ShL netT es) (h : ds.map Z = es.map Z) : txt ds = txt es := by unfold txt; rw [← netW_z hs, h, netW_z he]
theorem apart {ds es : List D} (hs : ShL netT ds) (he : ShL netT es) (hB : netB ds = true) (hC : netB es = true) : txt ds = txt es ↔ ds.map Z = es.map Z := by
  refine ⟨fun h => ?_, txt_z hs he⟩
  obtain ⟨L, e, h1, h2⟩ := tk_txt hB
  obtain ⟨M, f, k1, k2⟩ := tk_txt hC
  rw [h, k1] at h1
  simp only [Except.ok.injEq] at h1
  have hLM := (List.append_inj' h1 rfl).1
  subst hLM
  have hK : netK ds = netK es := h2.symm.trans k2
  have r1 := read_net hs hB
  have r2 := read_net he hC
  rw [hK, r2] at r1
  simp only [Except.ok.injEq, Prod.mk.injEq, and_true] at r1
  exact r1.symm
/-- the shapes that Same asks for -/
theorem sh_names {L : List (List D)} {hi : Nat} (hh : hi ≤ 100000) (hl : L.length ≤ hi) (h : ∀ ds ∈ L, ShL nameT ds) : NamesSh L := ⟨by omega, fun x hx => by
  have hs := h x hx
  simp only [ShL, Sh1, nameT] at hs
  obtain ⟨_, _, rfl, ⟨s0, rfl, _⟩, rfl⟩ := hs
  exact ⟨s0, rfl⟩⟩
theorem sh_node {ds : List D} (hs : ShL nodeT ds) (hB : nodeB ds = true) : NodeSh ds := by
  obtain ⟨⟨_, l1⟩, h1⟩ := rowB_all (and_l (and_r hB))
  obtain ⟨⟨_, l2⟩, h2⟩ := rowB_all (and_l (and_r (and_r hB)))
  obtain ⟨⟨_, l3⟩, h3⟩ := rowB_all (and_l (and_r (and_r (and_r hB))))
  obtain ⟨⟨_, l4⟩, h4⟩ := rowB_all (and_l (and_r (and_r (and_r (and_r hB)))))
  obtain ⟨⟨_, l5⟩, h5⟩ := rowB_all (and_r (and_r (and_r (and_r (and_r hB)))))
  clear hB
  simp only [ShL, Sh1, nodeT] at hs
  obtain ⟨_, _, rfl, ⟨s0, rfl, _⟩, ⟨_, _, rfl, ⟨L1, rfl, _, q1⟩, ⟨_, _, rfl, ⟨L2, rfl, _, q2⟩, ⟨_, _, rfl, ⟨L3, rfl, _, q3⟩, ⟨_, _, rfl, ⟨L4, rfl, _, q4⟩, ⟨_, _, rfl, ⟨L5, rfl, _, q5⟩, ⟨_, _, rfl, ⟨v6, rfl, _, _⟩, rfl⟩⟩⟩⟩⟩⟩⟩ := hs
  simp only [gt, List.getD_cons_zero, List.getD_cons_succ, fL] at l1 l2 l3 l4 l5 h1 h2 h3 h4 h5
  refine ⟨s0, L1, L2, L3, L4, L5, v6, rfl, ⟨by omega, fun y hy => ?_⟩, ⟨by omega, fun y hy => ?_⟩, ⟨by omega, fun y hy => ?_⟩, ⟨by omega, fun y hy => ?_⟩, ⟨by omega, fun y hy => ?_⟩⟩
  · have hs := q1 y hy
    simp only [ShL, Sh1, headT] at hs
    obtain ⟨_, _, rfl, ⟨s0, rfl, _⟩, ⟨_, _, rfl, ⟨v1, rfl, _, _⟩, ⟨_, _, rfl, ⟨v2, rfl, _, _⟩, ⟨_, _, rfl, ⟨v3, rfl, _, _⟩, ⟨_, _, rfl, ⟨v4, rfl, _, _⟩, ⟨_, _, rfl, ⟨v5, rfl, _, _⟩, ⟨_, _, rfl, ⟨v6, rfl, _, _⟩, ⟨_, _, rfl, ⟨v7, rfl, _, _⟩, ⟨_, _, rfl, ⟨v8, rfl, _, _⟩, ⟨_, _, rfl, ⟨v9, rfl, _, _⟩, ⟨_, _, rfl, ⟨v10, rfl, _, _⟩, rfl⟩⟩⟩⟩⟩⟩⟩⟩⟩⟩⟩ := hs
    exact ⟨_, _, _, _, _, _, _, _, _, _, _, rfl⟩
  · have hs := q2 y hy
    simp only [ShL, Sh1, pedT] at hs
    obtain ⟨_, _, rfl, ⟨s0, rfl, _⟩, ⟨_, _, rfl, ⟨s1, rfl, _⟩, ⟨_, _, rfl, ⟨v2, rfl, _, _⟩, ⟨_, _, rfl, ⟨v3, rfl, _, _⟩, ⟨_, _, rfl, ⟨v4, rfl, _, _⟩, ⟨_, _, rfl, ⟨v5, rfl, _, _⟩, rfl⟩⟩⟩⟩⟩⟩ := hs
    exact ⟨_, _, _, _, _, _, rfl⟩
  · have hs := q3 y hy
    obtain ⟨⟨_, g⟩, _⟩ := rowB_all (and_r (h3 y hy))
    simp only [ShL, Sh1, phaseT] at hs
    obtain ⟨_, _, rfl, ⟨s0, rfl, _⟩, ⟨_, _, rfl, ⟨L1, rfl, _, q1⟩, ⟨_, _, rfl, ⟨v2, rfl, _, _⟩, rfl⟩⟩⟩ := hs
    exact ⟨_, _, _, rfl, sh_names (by decide) g q1⟩
  · have hs := q4 y hy
    obtain ⟨⟨_, g⟩, h6⟩ := rowB_all (h4 y hy)
    simp only [ShL, Sh1, groupT] at hs
    obtain ⟨_, _, rfl, ⟨L0, rfl, _, q0⟩, rfl⟩ := hs
    simp only [gt, List.getD_cons_zero, fL] at g h6
    refine ⟨_, rfl, by omega, fun z hz => ?_⟩
    have hs := q0 z hz
    obtain ⟨⟨_, g'⟩, _⟩ := rowB_all (h6 z hz)
    simp only [ShL, Sh1, rowT] at hs
    obtain ⟨_, _, rfl, ⟨f0, rfl⟩, ⟨_, _, rfl, ⟨L1, rfl, _, q1⟩, rfl⟩⟩ := hs
    exact ⟨_, _, rfl, sh_names (by decide) g' q1⟩
  · have hs := q5 y hy
    simp only [ShL, Sh1, foeT] at hs
    obtain ⟨_, _, rfl, ⟨s0, rfl, _⟩, ⟨_, _, rfl, ⟨s1, rfl, _⟩, ⟨_, _, rfl, ⟨v2, rfl, _, _⟩, rfl⟩⟩⟩ := hs
    exact ⟨_, _, _, rfl⟩
theorem sh_net {ds : List D} (hs : ShL netT ds) (hB : netB ds = true) : NetSh ds := by
  obtain ⟨⟨_, l5⟩, h5⟩ := rowB_all (and_l (and_r hB))
  obtain ⟨⟨_, l6⟩, h6⟩ := rowB_all (and_r (and_r hB))
  clear hB
  simp only [ShL, Sh1, netT] at hs
  obtain ⟨_, _, rfl, ⟨v0, rfl, _, _⟩, ⟨_, _, rfl, ⟨v1, rfl, _, _⟩, ⟨_, _, rfl, ⟨v2, rfl, _, _⟩, ⟨_, _, rfl, ⟨v3, rfl, _, _⟩, ⟨_, _, rfl, ⟨v4, rfl, _, _⟩, ⟨_, _, rfl, ⟨L5, rfl, _, q5⟩, ⟨_, _, rfl, ⟨L6, rfl, _, q6⟩, ⟨_, _, rfl, ⟨v7, rfl, _, _⟩, ⟨_, _, rfl, ⟨v8, rfl, _, _⟩, rfl⟩⟩⟩⟩⟩⟩⟩⟩⟩ := hs
  simp only [gt, List.getD_cons_zero, List.getD_cons_succ, fL] at l5 l6 h5 h6
  refine ⟨_, _, _, _, _, _, _, _, _, rfl, ⟨by omega, fun y hy => sh_node (q5 y hy) (h5 y hy)⟩, ⟨by omega, fun y hy => ?_⟩⟩
  have hs := q6 y hy
  simp only [ShL, Sh1, stopT] at hs
  obtain ⟨_, _, rfl, ⟨s0, rfl, _⟩, ⟨_, _, rfl, ⟨s1, rfl, _⟩, ⟨_, _, rfl, ⟨s2, rfl, _⟩, ⟨_, _, rfl, ⟨v3, rfl, _, _⟩, ⟨_, _, rfl, ⟨v4, rfl, _, _⟩, ⟨_, _, rfl, ⟨v5, rfl, _, _⟩, rfl⟩⟩⟩⟩⟩⟩ := hs
  exact ⟨_, _, _, _, _, _, rfl⟩
end S
end Go.Proofs.YtcdnbdajnagfiaaGreatDoor

namespace Go.Proofs.YtcdnbdajnagfiaaGreatDoor
open Go.RowKit
attribute [local go_sem ↓] Go.wp_at_zero Go.wp_at_succ
set_option linter.unusedVariables false
set_option linter.unusedSimpArgs false
set_option maxRecDepth 100000
namespace S
/-- what Show leaves -/
def ShP (l : List UInt8) (w : World) (e : Ending) (w' : World) : Prop := ∃ v, e = .returned (.tuple #[v, .int .i64 0]) ∧ By w' v l ∧ Keep w w'
theorem txt_ne (ds : List D) : txt ds ≠ [] := by simp [txt, netW, rst]
theorem show_any {w : World} {ds : List D} {us : List Value} (hs : ShL netT ds) (hB : netB ds = true) (hr : Rvs w ds us) (ht : Tab w) : Calls Tryz.prog 8 #[.agg us.toArray] w (ShP (txt ds) w) := by
  have hs' := hs
  have hr' := hr
  obtain ⟨op, la, hT2⟩ : ∃ op la, ∀ w' p, Keep w w' → w.heap.size ≤ p → Ps w' p ⟨[], 0, []⟩ → Calls Tryz.prog 17 #[.pointer (some ⟨p, 0, none⟩), .agg us.toArray] w' fun e w'' => e = .returned (.tuple #[]) ∧ Pr w'' p (txt ds) op la ∧ Fb p w' w'' := by
    refine ⟨(pss ⟨[], 0, []⟩ (netW ds)).op, sv (pss ⟨[], 0, []⟩ (netW ds)).la, fun w' p hk hp h => ?_⟩
    have := net_any (nc (p := p) (Nat.lt_of_lt_of_le ht.lt hp)) hp (Fb.keep hk) hs' hB hr' ⟨[], 0, []⟩ (ht.keep hk) h (net_oks hB) (by have := cost_net hB; simp; omega)
    refine this.mono ?_
    rintro e w'' ⟨rfl, h1, h2⟩
    refine ⟨rfl, ?_, h2⟩
    rw [← txt_out]
    exact h1
  have hT1 : ∀ w', Keep w w' → Calls Tryz.prog 10 #[.agg us.toArray] w' fun e w'' => e = .returned (.bool true) ∧ Keep w' w'' := fun w' hk => by
    have := Right_any (w := w') hs' (Rvs.keep hk _ _ hr')
    rw [hB] at this
    exact this
  have hl := txt_len hB
  have hne := txt_ne ds
  generalize txt ds = out at *
  simp only [ShL, Sh1, netT] at hs
  obtain ⟨_, _, rfl, ⟨v0, rfl, _, _⟩, ⟨_, _, rfl, ⟨v1, rfl, _, _⟩, ⟨_, _, rfl, ⟨v2, rfl, _, _⟩, ⟨_, _, rfl, ⟨v3, rfl, _, _⟩, ⟨_, _, rfl, ⟨v4, rfl, _, _⟩, ⟨_, _, rfl, ⟨L5, rfl, _, q5⟩, ⟨_, _, rfl, ⟨L6, rfl, _, q6⟩, ⟨_, _, rfl, ⟨v7, rfl, _, _⟩, ⟨_, _, rfl, ⟨v8, rfl, _, _⟩, rfl⟩⟩⟩⟩⟩⟩⟩⟩⟩ := hs
  simp only [Rvs, Rv, dS, dI, dB] at hr
  obtain ⟨_, _, rfl, rfl, ⟨_, _, rfl, rfl, ⟨_, _, rfl, rfl, ⟨_, _, rfl, rfl, ⟨_, _, rfl, rfl, ⟨_, _, rfl, ⟨x5, z5, rfl, y5, m5⟩, ⟨_, _, rfl, ⟨x6, z6, rfl, y6, m6⟩, ⟨_, _, rfl, rfl, ⟨_, _, rfl, rfl, rfl⟩⟩⟩⟩⟩⟩⟩⟩⟩ := hr
  exact show_yes v0 v1 v2 v3 v4 x5 L5.length z5 x6 L6.length z6 v7 v8 out op la w hne (by omega) (hide hT1) (hide hT2)
theorem show_bad {w : World} {ds : List D} {us : List Value} (hs : ShL netT ds) (hB : netB ds = false) (hr : Rvs w ds us) : Calls Tryz.prog 8 #[.agg us.toArray] w fun e w' => e = .returned (.tuple #[.slice none 0 0, .int .i64 1]) ∧ Keep w w' := by
  have hs' := hs
  have hr' := hr
  simp only [ShL, Sh1, netT] at hs
  obtain ⟨_, _, rfl, ⟨v0, rfl, _, _⟩, ⟨_, _, rfl, ⟨v1, rfl, _, _⟩, ⟨_, _, rfl, ⟨v2, rfl, _, _⟩, ⟨_, _, rfl, ⟨v3, rfl, _, _⟩, ⟨_, _, rfl, ⟨v4, rfl, _, _⟩, ⟨_, _, rfl, ⟨L5, rfl, _, q5⟩, ⟨_, _, rfl, ⟨L6, rfl, _, q6⟩, ⟨_, _, rfl, ⟨v7, rfl, _, _⟩, ⟨_, _, rfl, ⟨v8, rfl, _, _⟩, rfl⟩⟩⟩⟩⟩⟩⟩⟩⟩ := hs
  simp only [Rvs, Rv, dS, dI, dB] at hr
  obtain ⟨_, _, rfl, rfl, ⟨_, _, rfl, rfl, ⟨_, _, rfl, rfl, ⟨_, _, rfl, rfl, ⟨_, _, rfl, rfl, ⟨_, _, rfl, ⟨x5, z5, rfl, y5, m5⟩, ⟨_, _, rfl, ⟨x6, z6, rfl, y6, m6⟩, ⟨_, _, rfl, rfl, ⟨_, _, rfl, rfl, rfl⟩⟩⟩⟩⟩⟩⟩⟩⟩ := hr
  refine show_no v0 v1 v2 v3 v4 x5 L5.length z5 x6 L6.length z6 v7 v8 w (hide fun w' hk => ?_)
  have := Right_any (w := w') hs' (Rvs.keep hk _ _ hr')
  rw [hB] at this
  exact this
end S
end Go.Proofs.YtcdnbdajnagfiaaGreatDoor

namespace Go.Proofs.YtcdnbdajnagfiaaGreatDoor
open Go.RowKit
set_option linter.unusedVariables false
set_option linter.unusedSimpArgs false
set_option maxRecDepth 10000
namespace S
/-- a token of a text: a word is right, a number and the place fit -/
def Tg (t : Tok) : Prop := (t.k = 1 → rg ⟨1, t.s, 0, 0⟩ = true) ∧ (0 ≤ t.n ∧ t.n ≤ 999999999999999999) ∧ (0 ≤ t.p ∧ t.p ≤ 70000)
theorem gs_rg {s : List UInt8} (h : Gs s 1 0) (hl : s.length ≤ 65536) : rg ⟨1, s, 0, 0⟩ = true := by
  have h1 := tk_gs h [] 0 nw_nil
  rw [List.append_nil, tk_nil] at h1
  have hT : T s = .ok [⟨1, s, 0, 0⟩, ⟨0, [], 0, ((0 + s.length : Nat) : Int)⟩] := by
    unfold T
    rw [if_neg (by omega), h1]
    rfl
  rw [rg_ok (t := ⟨1, s, 0, 0⟩) hT]
  simp
theorem tw_takes (P : UInt8 → Bool) : ∀ r : List UInt8, tw P (r.take (tw P r)) = tw P r
  | [] => rfl
  | c :: r => by
    have ih := tw_takes P r
    unfold tw at ih ⊢
    rw [List.takeWhile_cons]
    by_cases h : P c = true
    · rw [if_pos h, List.length_cons, List.take_succ_cons, List.takeWhile_cons, if_pos h, List.length_cons, ih]
    · rw [if_neg h]; simp
theorem one_word {r : List UInt8} {p : Nat} {t : Tok} (h : one r p = .ok t) (hk : t.k = 1) : Gs t.s 1 0 ∧ t.s.length ≤ 24 := by
  cases r with
  | nil => simp only [one, Except.ok.injEq] at h; subst h; simp at hk
  | cons c r =>
    have h0 := one_ok h
    simp only [one] at h
    split at h
    · rename_i h4
      split at h
      · cases h
      · rename_i h24
        simp only [Except.ok.injEq] at h
        subst h
        have et : (c :: r).take (en (c :: r)) = c :: r.take (tw (goes c) r) := by
          simp only [en]
          rw [Nat.add_comm, List.take_succ_cons]
        have hl : ((c :: r).take (en (c :: r))).length ≤ 24 := by rw [List.length_take]; omega
        simp only at hl ⊢
        rw [et] at hl ⊢
        have en2 : en (c :: r.take (tw (goes c) r)) = (c :: r.take (tw (goes c) r)).length := by
          simp only [en]
          rw [tw_takes, List.length_cons, List.length_take]
          have := tw_le (goes c) r
          omega
        refine ⟨⟨by decide, ?_, ?_⟩, hl⟩
        · simp only [one]
          rw [if_pos h4, if_neg (by rw [en2]; omega), en2, List.take_length]
          rfl
        · simp only [skp]
          rw [if_neg (by omega), if_neg (by omega)]
    · split at h
      · split at h
        · cases h
        · simp only [Except.ok.injEq] at h; subst h; simp at hk
      · split at h
        · simp only [Except.ok.injEq] at h; subst h; simp at hk
        · cases h
theorem num_bd : ∀ (l : List UInt8) (v : Int), (∀ c ∈ l, kd c.toNat = 5) → 0 ≤ v → 0 ≤ l.foldl (fun v c => v * 10 + ((c.toNat : Int) - 48)) v ∧ l.foldl (fun v c => v * 10 + ((c.toNat : Int) - 48)) v < (v + 1) * (10 : Int) ^ l.length
  | [], v, _, hv => by simp only [List.foldl_nil, List.length_nil, Int.pow_zero, Int.mul_one]; omega
  | c :: l, v, h, hv => by
    have hc := (kd_5 _).1 (h c List.mem_cons_self)
    have ih := num_bd l (v * 10 + ((c.toNat : Int) - 48)) (fun x hx => h x (List.mem_cons_of_mem _ hx)) (by omega)
    rw [List.foldl_cons]
    refine ⟨ih.1, Int.lt_of_lt_of_le ih.2 ?_⟩
    rw [List.length_cons, Int.pow_succ, Int.mul_comm ((10 : Int) ^ l.length) 10, ← Int.mul_assoc]
    refine Int.mul_le_mul_of_nonneg_right (by omega) ?_
    exact Int.le_of_lt (Int.pow_pos (by decide))
theorem tw_mem {P : UInt8 → Bool} : ∀ (r : List UInt8) (x : UInt8), x ∈ r.take (tw P r) → P x = true
  | [], x, h => by simp at h
  | c :: r, x, h => by
    unfold tw at h
    rw [List.takeWhile_cons] at h
    by_cases hc : P c = true
    · rw [if_pos hc, List.length_cons, List.take_succ_cons] at h
      rcases List.mem_cons.1 h with rfl | h
      · exact hc
      · exact tw_mem r x h
    · rw [if_neg hc] at h; simp at h
theorem one_bd {r : List UInt8} {p : Nat} {t : Tok} (h : one r p = .ok t) : 0 ≤ t.n ∧ t.n ≤ 999999999999999999 := by
  cases r with
  | nil => simp only [one, Except.ok.injEq] at h; subst h; simp
  | cons c r =>
    simp only [one] at h
    split at h
    · split at h
      · cases h
      · simp only [Except.ok.injEq] at h; subst h; simp
    · split at h
      · rename_i h4 h5
        split at h
        · cases h
        · rename_i h18
          simp only [Except.ok.injEq] at h
          subst h
          have et : (c :: r).take (en (c :: r)) = c :: r.take (tw (goes c) r) := by
            simp only [en]
            rw [Nat.add_comm, List.take_succ_cons]
          have hl : ((c :: r).take (en (c :: r))).length ≤ 18 := by rw [List.length_take]; omega
          have hall : ∀ x ∈ (c :: r).take (en (c :: r)), kd x.toNat = 5 := by
            intro x hx
            rw [et] at hx
            rcases List.mem_cons.1 hx with rfl | hx
            · exact h5
            · have := tw_mem r x hx
              unfold goes at this
              rw [on_iff] at this
              omega
          have hb := num_bd _ 0 hall (Int.le_refl 0)
          simp only
          unfold num
          refine ⟨hb.1, ?_⟩
          have h2 : ((10 : Int) ^ ((c :: r).take (en (c :: r))).length) ≤ 10 ^ 18 := by
            have := Nat.pow_le_pow_right (show 0 < 10 by decide) hl
            exact_mod_cast this
          have := hb.2
          rw [Int.zero_add, Int.one_mul] at this
          omega
      · split at h
        · simp only [Except.ok.injEq] at h; subst h; simp
        · cases h
theorem tk_tg : ∀ (n : Nat) (r : List UInt8) (p : Nat) (L : List Tok), r.length ≤ n → p + r.length ≤ 70000 → tk r p = .ok L → ∀ t ∈ L, Tg t
  | n, r, p, L, hn, hp, h => by
    rcases tk_cons h with ⟨rfl, _⟩ | ⟨t, M, rfl, h1, h2, h3, _, h5, h6, h7⟩
    · intro t ht
      simp only [List.mem_singleton] at ht
      subst ht
      exact ⟨by simp, by simp, by simp; omega⟩
    · cases n with
      | zero => omega
      | succ n =>
        intro u hu
        rcases List.mem_cons.1 hu with rfl | hu
        · refine ⟨fun hk => ?_, one_bd h1, ?_⟩
          · have := one_word h1 hk
            exact gs_rg this.1 (by omega)
          · have := (one_ok h1).1
            rw [this]
            omega
        · exact tk_tg n _ _ M (by rw [List.length_drop]; omega) (by rw [List.length_drop]; omega) h7 u hu
/-- a step over tokens of a text: what it reads is so, and what is left are tokens of a text -/
def RgC (p : Sp) (Q : List D → Prop) : Prop := ∀ c r c' r', (∀ t ∈ r, Tg t) → p c r = .ok (c', r') → (∀ t ∈ r', Tg t) ∧ ∃ d, c' = c ++ d ∧ Q d
theorem tl_tg {t : Tok} {r : List Tok} (h : ∀ x ∈ t :: r, Tg x) : Tg t ∧ ∀ x ∈ r, Tg x := ⟨h t List.mem_cons_self, fun x hx => h x (List.mem_cons_of_mem _ hx)⟩
theorem r_the (s : List UInt8) : RgC (pThe s) (fun d => d = []) := fun c r c' r' hr h => by
  obtain ⟨e, t, rfl⟩ := the_inv h
  exact ⟨(tl_tg hr).2, [], by simp [e], rfl⟩
theorem r_name : RgC pName (fun d => ∃ s, d = [dS s] ∧ nmB s = true ∧ s.length ≤ 24) := fun c r c' r' hr h => by
  cases r with
  | nil => simp [pName, bad] at h
  | cons t r =>
    simp only [pName] at h
    split at h
    · rename_i hk
      simp only [Except.ok.injEq, Prod.mk.injEq] at h
      obtain ⟨rfl, rfl⟩ := h
      have hg := (tl_tg hr).1.1 hk.1
      have hB : nmB t.s = true := by unfold nmB; rw [hg]; simp [hk.2]
      exact ⟨(tl_tg hr).2, _, rfl, t.s, rfl, hB, name_len hB⟩
    · exact absurd h bad_ne
theorem r_num : RgC pNum (fun d => ∃ n, d = [dI n] ∧ nuB n = true) := fun c r c' r' hr h => by
  obtain ⟨t, e, rfl⟩ := num_inv h
  have := (tl_tg hr).1.2.1
  exact ⟨(tl_tg hr).2, _, e, t.n, rfl, by unfold nuB; exact decide_eq_true this⟩
theorem r_pos : RgC pPos (fun d => ∃ n, d = [dI n] ∧ 0 ≤ n ∧ n ≤ 70000) := fun c r c' r' hr h => by
  cases r with
  | nil => simp [pPos, bad] at h
  | cons t r =>
    simp only [pPos, Except.ok.injEq, Prod.mk.injEq] at h
    obtain ⟨rfl, rfl⟩ := h
    exact ⟨hr, _, rfl, t.p, rfl, (tl_tg hr).1.2.2⟩
theorem r_end : RgC pEnd (fun d => d = []) := fun c r c' r' hr h => by
  cases r with
  | nil => simp [pEnd, bad] at h
  | cons t r =>
    simp only [pEnd] at h
    split at h
    · simp only [Except.ok.injEq, Prod.mk.injEq] at h
      obtain ⟨rfl, rfl⟩ := h
      exact ⟨hr, [], by simp, rfl⟩
    · exact absurd h bad_ne
theorem r_may (s : List UInt8) : RgC (pMay s) (fun d => ∃ b, d = [dB b]) := fun c r c' r' hr h => by
  cases r with
  | nil => simp [pMay, bad] at h
  | cons t r =>
    simp only [pMay] at h
    split at h
    · simp only [Except.ok.injEq, Prod.mk.injEq] at h
      obtain ⟨rfl, rfl⟩ := h
      exact ⟨(tl_tg hr).2, _, rfl, _, rfl⟩
    · simp only [Except.ok.injEq, Prod.mk.injEq] at h
      obtain ⟨rfl, rfl⟩ := h
      exact ⟨hr, _, rfl, _, rfl⟩
theorem r_nil : RgC (sq []) (fun d => d = []) := fun c r c' r' hr h => by
  have := sq_end h
  simp only [Prod.mk.injEq] at this
  obtain ⟨rfl, rfl⟩ := this
  exact ⟨hr, [], by simp, rfl⟩
theorem r_cons {p : Sp} {ps : List Sp} {Q R : List D → Prop} (hp : RgC p Q) (h2 : RgC (sq ps) R) : RgC (sq (p :: ps)) (fun d => ∃ d1 d2, d = d1 ++ d2 ∧ Q d1 ∧ R d2) := fun c r c' r' hr h => by
  obtain ⟨c1, r1, k1, k2⟩ := sq_inv h
  obtain ⟨hr1, d1, rfl, q1⟩ := hp _ _ _ _ hr k1
  obtain ⟨hr2, d2, e, q2⟩ := h2 _ _ _ _ hr1 k2
  exact ⟨hr2, d1 ++ d2, by rw [e, List.append_assoc], d1, d2, rfl, q1, q2⟩
theorem r_frac : RgC pFrac (fun d => ∃ a b, d = [dI a, dI b] ∧ nuB a = true ∧ nuB b = true) := fun c r c' r' hr h => by
  obtain ⟨hr', d, e, d1, d2, rfl, ⟨a, rfl, ha⟩, d3, d4, rfl, rfl, d5, d6, rfl, ⟨b, rfl, hb⟩, rfl⟩ := r_cons r_num (r_cons (r_the _) (r_cons r_num r_nil)) c r c' r' hr h
  exact ⟨hr', _, e, a, b, rfl, ha, hb⟩
theorem r_grade : RgC pGrade (fun d => ∃ n, d = [dI n] ∧ grB n = true) := fun c r c' r' hr h => by
  simp only [pGrade] at h
  split at h
  · cases h
  · rename_i b n r1 h1
    simp only [Except.ok.injEq, Prod.mk.injEq] at h
    obtain ⟨rfl, rfl⟩ := h
    obtain ⟨hr', d, e, d1, d2, rfl, ⟨b', rfl⟩, d3, d4, rfl, ⟨m, rfl, hm⟩, rfl⟩ := r_cons (r_may _) (r_cons r_num r_nil) [] r _ _ hr h1
    simp only [List.nil_append, List.append_nil, List.cons_append, List.cons.injEq, dI, dB, D.val.injEq, Value.int.injEq, true_and, and_true] at e
    obtain ⟨_, rfl⟩ := e
    refine ⟨hr', _, rfl, _, rfl, ?_⟩
    unfold nuB at hm
    have := of_decide_eq_true hm
    unfold grB
    refine decide_eq_true ?_
    split <;> omega
  · cases h
theorem nmz_r (most : Nat) : ∀ (f : Nat) (L : List (List D)) (r : List Tok) (L' : List (List D)) (r' : List Tok), (∀ t ∈ r, Tg t) → (∀ x ∈ L, ∃ s, x = [dS s] ∧ nmB s = true ∧ s.length ≤ 24) → nmz most f L r = .ok (L', r') → (∀ t ∈ r', Tg t) ∧ ∀ x ∈ L', ∃ s, x = [dS s] ∧ nmB s = true ∧ s.length ≤ 24
  | 0, _, _, _, _, _, _, h => by simp [nmz] at h
  | f + 1, L, r, L', r', hr, hL, h => by
    simp only [nmz] at h
    split at h
    · cases h
    · rename_i d r1 h1
      obtain ⟨hr1, d', e, s, rfl, hB, hs⟩ := r_name _ _ _ _ hr h1
      have hd : ∀ x ∈ L ++ [d], ∃ s, x = [dS s] ∧ nmB s = true ∧ s.length ≤ 24 := fun x hx => by
        rcases List.mem_append.1 hx with hx | hx
        · exact hL x hx
        · simp only [List.mem_singleton] at hx; subst hx; exact ⟨s, by simpa using e, hB, hs⟩
      split at h
      · split at h <;> cases h
      · split at h
        · rename_i r2 h2
          exact nmz_r most f _ _ _ _ (r_may _ _ _ _ _ hr1 h2).1 hd h
        · rename_i r2 _ h2
          simp only [Except.ok.injEq, Prod.mk.injEq] at h
          obtain ⟨rfl, rfl⟩ := h
          exact ⟨(r_may _ _ _ _ _ hr1 h2).1, hd⟩
        · cases h
/-- names in a row that are right -/
def NmR (most : Nat) (L : List (List D)) : Prop := rowB 1 most nameB L = true ∧ ∀ x ∈ L, ShL nameT x
theorem nm_sh {x : List D} (h : ∃ s, x = [dS s] ∧ nmB s = true ∧ s.length ≤ 24) : nameB x = true ∧ ShL nameT x := by
  obtain ⟨s, rfl, h1, h2⟩ := h
  refine ⟨h1, ?_⟩
  simp only [ShL, Sh1, nameT]
  exact ⟨_, _, rfl, ⟨s, rfl, by unfold maxLen; omega⟩, rfl⟩
theorem r_names (e most : Nat) : RgC (pNames e most) (fun d => ∃ L, d = [.row e 1 L] ∧ NmR most L ∧ L.length ≤ most) := fun c r c' r' hr h => by
  obtain ⟨L, e1, e2, e3⟩ := names_inv h
  simp only [pNames] at h
  split at h
  · cases h
  · rename_i L2 r1 h1
    simp only [Except.ok.injEq, Prod.mk.injEq] at h
    have : L2 = L := by have := h.1; rw [e1] at this; simpa using this
    subst this
    obtain ⟨hr1, hL⟩ := nmz_r most _ _ _ _ _ hr (fun x hx => by cases hx) h1
    rw [h.2] at hr1
    refine ⟨hr1, _, e1, L2, rfl, ⟨?_, fun x hx => (nm_sh (hL x hx)).2⟩, e3⟩
    unfold rowB
    rw [decide_eq_true ⟨e2, e3⟩, Bool.true_and, List.all_eq_true]
    exact fun x hx => (nm_sh (hL x hx)).1
/-- a body over tokens of a text -/
def RgB (body : List Tok → Rs) (Q : List D → Prop) : Prop := ∀ r d r', (∀ t ∈ r, Tg t) → body r = .ok (d, r') → (∀ t ∈ r', Tg t) ∧ Q d
theorem rwz_r (word : List UInt8) (most : Nat) (body : List Tok → Rs) (Q : List D → Prop) (hQ : RgB body Q) : ∀ (f : Nat) (L : List (List D)) (r : List Tok) (L' : List (List D)) (r' : List Tok), (∀ t ∈ r, Tg t) → L.length ≤ most → (∀ d ∈ L, Q d) → rwz word most body f L r = .ok (L', r') → (∀ t ∈ r', Tg t) ∧ L'.length ≤ most ∧ ∀ d ∈ L', Q d
  | 0, _, _, _, _, _, _, _, h => by simp [rwz] at h
  | f + 1, L, r, L', r', hr, hl, hL, h => by
    cases r with
    | nil => simp [rwz] at h
    | cons t r =>
      simp only [rwz] at h
      split at h
      · split at h
        · cases h
        · rename_i hne
          split at h
          · cases h
          · rename_i d r1 h1
            obtain ⟨hr1, hd⟩ := hQ _ _ _ (tl_tg hr).2 h1
            refine rwz_r word most body Q hQ f _ _ _ _ hr1 (by simp; omega) (fun x hx => ?_) h
            rcases List.mem_append.1 hx with hx | hx
            · exact hL x hx
            · simp only [List.mem_singleton] at hx; subst hx; exact hd
      · simp only [Except.ok.injEq, Prod.mk.injEq] at h
        obtain ⟨rfl, rfl⟩ := h
        exact ⟨hr, hl, hL⟩
theorem r_row {word : List UInt8} {most e z : Nat} {body : List Tok → Rs} {Q : List D → Prop} (hQ : RgB body Q) : RgC (pRow word most e z body) (fun d => ∃ L, d = [.row e z L] ∧ L.length ≤ most ∧ ∀ y ∈ L, Q y) := fun c r c' r' hr h => by
  simp only [pRow] at h
  split at h
  · cases h
  · rename_i L r1 h1
    simp only [Except.ok.injEq, Prod.mk.injEq] at h
    obtain ⟨rfl, rfl⟩ := h
    obtain ⟨k1, k2, k3⟩ := rwz_r word most body Q hQ _ _ _ _ _ hr (Nat.zero_le _) (fun d hd => by cases hd) h1
    exact ⟨k1, _, rfl, L, rfl, k2, k3⟩
theorem rowB_of {lo hi : Nat} {B : List D → Bool} {L : List (List D)} (h1 : lo ≤ L.length) (h2 : L.length ≤ hi) (h : ∀ x ∈ L, B x = true) : rowB lo hi B L = true := by
  unfold rowB
  rw [decide_eq_true ⟨h1, h2⟩, Bool.true_and, List.all_eq_true]
  exact h
theorem nu_bd0 {n : Int} (h : nuB n = true) : 0 ≤ n ∧ n ≤ 999999999999999999 := by unfold nuB at h; exact of_decide_eq_true h
theorem gr_i {n : Int} (h : grB n = true) : -9223372036854775808 ≤ n ∧ n ≤ 9223372036854775807 := by unfold grB at h; have := of_decide_eq_true h; omega
theorem nu_i {n : Int} (h : nuB n = true) : -9223372036854775808 ≤ n ∧ n ≤ 9223372036854775807 := by have := nu_bd0 h; omega
end S
end Go.Proofs.YtcdnbdajnagfiaaGreatDoor
