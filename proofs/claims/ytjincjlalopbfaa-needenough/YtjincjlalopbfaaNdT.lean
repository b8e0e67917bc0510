/- Package need: Of, by the network's tree. -/
import Derived.Test.YtjincjlalopbfaaVDh
import Derived.Test.YtjincjlalopbfaaVDt
namespace Go.Proofs.Ytjincjlalopbfaa
open Go.RowKit
set_option linter.unusedVariables false
set_option linter.unusedSimpArgs false
set_option maxRecDepth 10000
namespace Nd
open S V
def X9 (L1 : List (List D)) (pn pd : Int) (j : Nat) : Int := (W.ratF (iv L1 1 j) (iv L1 2 j) (iv L1 3 j) (iv L1 4 j) pn pd).1
def Y9 (L1 : List (List D)) (pn pd : Int) (j : Nat) : Int := (W.ratF (iv L1 1 j) (iv L1 2 j) (iv L1 3 j) (iv L1 4 j) pn pd).2.1
def Z9 (L1 : List (List D)) (pn pd : Int) (j : Nat) : Int := (W.ratF (iv L1 1 j) (iv L1 2 j) (iv L1 3 j) (iv L1 4 j) pn pd).2.2
theorem xy_in (L1 : List (List D)) (pn pd : Int) (j : Nat) : In (X9 L1 pn pd j) ∧ In (Y9 L1 pn pd j) := by
  have h := W.rat_ok (iv L1 1 j) (iv L1 2 j) (iv L1 3 j) (iv L1 4 j) pn pd
  exact ⟨⟨h.in1.1, h.in1.2⟩, h.in2.1, h.in2.2⟩
theorem hd_in {L1 : List (List D)} (q1 : ∀ ds ∈ L1, ShL headT ds) {j : Nat} (hj : j < L1.length) : W.i64 (iv L1 1 j) ∧ W.i64 (iv L1 2 j) ∧ W.i64 (iv L1 3 j) ∧ W.i64 (iv L1 4 j) := by
  have hs := q1 _ (mem_at hj)
  unfold iv
  generalize L1.getD j [] = ds at hs ⊢
  simp only [ShL, Sh1, headT] at hs
  obtain ⟨_, _, rfl, ⟨s0, rfl, _⟩, ⟨_, _, rfl, ⟨v1, rfl, b1⟩, ⟨_, _, rfl, ⟨v2, rfl, b2⟩, ⟨_, _, rfl, ⟨v3, rfl, b3⟩, ⟨_, _, rfl, ⟨v4, rfl, b4⟩, _⟩⟩⟩⟩⟩ := hs
  exact ⟨b1, b2, b3, b4⟩
theorem cp_len (X Y : Nat → Int) : ∀ n, (W.cp X Y n).length = n * 2
  | 0 => rfl
  | n + 1 => by rw [W.cp, List.length_append, cp_len X Y n]; simp; omega
theorem cp_at (X Y : Nat → Int) : ∀ n j, j < n → (W.cp X Y n)[j * 2]? = some (.int .i64 (X j)) ∧ (W.cp X Y n)[j * 2 + 1]? = some (.int .i64 (Y j))
  | 0, j, h => by omega
  | n + 1, j, h => by
    rw [W.cp]
    rcases Nat.lt_succ_iff_lt_or_eq.1 h with e | e
    · obtain ⟨h1, h2⟩ := cp_at X Y n j e
      rw [List.getElem?_append_left (by rw [cp_len]; omega), List.getElem?_append_left (by rw [cp_len]; omega)]
      exact ⟨h1, h2⟩
    · subst e
      rw [List.getElem?_append_right (by rw [cp_len]; omega), List.getElem?_append_right (by rw [cp_len]; omega), cp_len]
      rw [Nat.sub_self, Nat.add_sub_cancel_left]
      exact ⟨rfl, rfl⟩
theorem own_cp {w : World} {ra : Option Addr} {n rc : Nat} {X Y : Nat → Int} (h : w.ownsRow 0 23 2 (.slice ra n rc) n (W.cp X Y n)) (j : Nat) (hj : j < n) : ∃ rd, ra = some rd ∧ rd.block < w.heap.size ∧ w.cell? (rd.add (j * 2)) = some (.int .i64 (X j)) ∧ w.cell? ⟨(rd.add (j * 2)).block, (rd.add (j * 2)).off + 1, none⟩ = some (.int .i64 (Y j)) := by
  obtain ⟨g, cap, e, hg, _, _, hc⟩ := own_cell h (by omega)
  cases e
  obtain ⟨h0, h1⟩ := cp_at X Y n j hj
  refine ⟨⟨g, 0, none⟩, rfl, hg, ?_⟩
  rw [W.add_pl]
  simp only [Nat.zero_add]
  exact ⟨hc _ _ h0, hc _ _ h1⟩
theorem ratios_any {w : World} {s : ByteArray} {x1 : Option Addr} {c1 : Nat} {x2 : Option Addr} {n2 c2 : Nat} {x3 : Option Addr} {n3 c3 : Nat} {x4 : Option Addr} {n4 c4 : Nat} {x5 : Option Addr} {n5 c5 : Nat} {p pn pd : Int} {L1 : List (List D)} (q1 : ∀ ds ∈ L1, ShL headT ds) (m1 : Rvss w x1 11 L1 0) (b1 : L1.length ≤ 1000) (h3 : W.i64 pn) (h4 : W.i64 pd) :
    Calls Try.prog 11 #[.agg #[.string s, .slice x1 L1.length c1, .slice x2 n2 c2, .slice x3 n3 c3, .slice x4 n4 c4, .slice x5 n5 c5, .int .i64 p], .agg #[.int .i64 pn, .int .i64 pd]] w (Rp0 L1.length (X9 L1 pn pd) (Y9 L1 pn pd) (Z9 L1 pn pd) w) := by
  refine ratiosOf_core s x1 L1.length c1 x2 n2 c2 x3 n3 c3 x4 n4 c4 x5 n5 c5 p pn pd _ _ _ w (hide fun w' b k hb hc => ?_)
  obtain ⟨e0, e1, e2, e3, e4, e5, e6⟩ := hc
  refine W.table_core 0 0 0 pn pd (some ⟨b, 0, none⟩) 1 1 none 0 0 0 0 (fun _ => s) (fun _ => x1) (fun _ => x2) (fun _ => x3) (fun _ => x4) (fun _ => x5) (fun _ => L1.length) (fun _ => c1) (fun _ => n2) (fun _ => c2) (fun _ => n3) (fun _ => c3) (fun _ => n4) (fun _ => c4) (fun _ => n5) (fun _ => c5) (fun _ => p) (fun _ => X9 L1 pn pd) (fun _ => Y9 L1 pn pd) (fun _ => Z9 L1 pn pd) w' (by omega) (hide fun i hi => ?_) (hide fun i hi w2 k2 => ?_)
  · have : i = 0 := by omega
    subst this
    exact ⟨_, rfl, hb, by simpa [Addr.add] using e0, by simpa [Addr.add] using e1, by simpa [Addr.add] using e2, by simpa [Addr.add] using e3, by simpa [Addr.add] using e4, by simpa [Addr.add] using e5, by simpa [Addr.add] using e6⟩
  · refine W.ratios_core s x1 L1.length c1 x2 n2 c2 x3 n3 c3 x4 n4 c4 x5 n5 c5 p pn pd (fun j => sv (V.tn L1 j)) (iv L1 1) (iv L1 2) (iv L1 3) (iv L1 4) (iv L1 5) (iv L1 6) (iv L1 7) (iv L1 8) (iv L1 9) (iv L1 10) _ _ _ w2 b1 (hide fun j hj => ?_) (hide fun j hj w3 => ?_)
    · obtain ⟨ad, e, hb, h⟩ := S.clHead (k.trans k2) q1 m1 j hj
      exact ⟨ad, e, Nat.lt_of_lt_of_le hb (k.trans k2).size, h⟩
    · obtain ⟨i1, i2, i3, i4⟩ := hd_in q1 hj
      exact W.ratio_any _ _ _ _ _ _ _ i1 i2 i3 i4 h3 h4 w3
/-- the place of the m-th head of phase k -/
def jH (L1 L3 : List (List D)) (k m : Nat) : Nat := (nI L1 (sb L3 1 k m)).toNat
def wL (L2 : List (List D)) (nm : List UInt8) : List (List UInt8 × Int × Int) := wlk (V.tn L2) (un L2) (iv L2 4) (fun m => fN (iv L2 2 m) (iv L2 3 m)) nm L2.length
def g1 (L1 L3 : List (List D)) (k : Nat) : Int := fm (fun m => iv L1 9 (jH L1 L3 k m)) 0 (ln L3 1 k)
def yW (L1 L3 : List (List D)) (k : Nat) : Int := fm (fun m => yN (iv L1 5 (jH L1 L3 k m)) (iv L1 6 (jH L1 L3 k m))) 0 (ln L3 1 k)
def rW (L1 L3 : List (List D)) (k : Nat) : Int := fm (fun m => rN (iv L1 7 (jH L1 L3 k m)) (iv L1 8 (jH L1 L3 k m)) (iv L1 5 (jH L1 L3 k m))) 0 (ln L3 1 k)
def xZ (L1 L3 : List (List D)) (pn pd : Int) (k : Nat) : Int × Int := fx (fun m => X9 L1 pn pd (jH L1 L3 k m)) (fun m => Y9 L1 pn pd (jH L1 L3 k m)) (ln L3 1 k)
def wS (L : List (List UInt8 × Int × Int)) (m : Nat) : Int := wrap64 ((L.getD m ([], 0, 0)).2.1 + (L.getD m ([], 0, 0)).2.2)
def g2 (L1 L2 L3 : List (List D)) (k : Nat) : Int := fm (wS (wL L2 (V.tn L3 k))) (g1 L1 L3 k) (wL L2 (V.tn L3 k)).length
theorem cn_le {n1 n2 n3 n4 n5 : Nat} (h : cnE n1 n2 n3 n4 n5 = none) : n1 ≤ 16 ∧ n2 ≤ 8 ∧ n3 ≤ 16 ∧ n4 ≤ 4 ∧ n5 ≤ 64 ∧ 0 < n1 ∧ 0 < n3 ∧ 0 < n4 := by
  unfold cnE at h
  have g0 : (decide ((16 : Int) < (n1 : Int)) || decide ((16 : Int) < (n3 : Int))) = false := by
    cases hb : (decide ((16 : Int) < (n1 : Int)) || decide ((16 : Int) < (n3 : Int))) with
    | false => rfl
    | true => have := fst_yes h hb; cases this
  have h1 := fst_no h g0
  have g1 : (decide ((8 : Int) < (n2 : Int)) || decide ((4 : Int) < (n4 : Int)) || decide ((64 : Int) < (n5 : Int))) = false := by
    cases hb : (decide ((8 : Int) < (n2 : Int)) || decide ((4 : Int) < (n4 : Int)) || decide ((64 : Int) < (n5 : Int))) with
    | false => rfl
    | true => have := fst_yes h1 hb; cases this
  have h2 := fst_no h1 g1
  have g2 : ((n1 : Int) == 0 || (n3 : Int) == 0 || (n4 : Int) == 0) = false := by
    cases hb : ((n1 : Int) == 0 || (n3 : Int) == 0 || (n4 : Int) == 0) with
    | false => rfl
    | true => have := fst_yes h2 hb; cases this
  simp only [Bool.or_eq_false_iff, decide_eq_false_iff_not, beq_eq_false_iff_ne, ne_eq] at g0 g1 g2
  omega
theorem j_ok {L1 L2 L3 L4 L5 : List (List D)} {p : Int} (h : nodeL L1 L2 L3 L4 L5 p = none) {k m : Nat} (hk : k < L3.length) (hm : m < ln L3 1 k) : jH L1 L3 k m < L1.length ∧ ((jH L1 L3 k m : Nat) : Int) = nI L1 (sb L3 1 k m) := by
  obtain ⟨h0, h1, h2, h3, h4, h5, h6, h7⟩ := node_parts h
  have hh := ph_heads h2 k hk m hm
  have h8 : ¬ nI L1 (sb L3 1 k m) < 0 := fun e => by rw [nI_lt] at e; rw [hh] at e; cases e
  unfold jH
  have h9 : nI L1 (sb L3 1 k m) = -1 ∨ (0 : Int) ≤ nI L1 (sb L3 1 k m) ∧ nI L1 (sb L3 1 k m) < (0 : Int) + (L1.length : Int) := ix_range _ L1.length 0
  omega
set_option maxHeartbeats 2000000 in
theorem needOf_any {w w' : World} {s : ByteArray} {x1 : Option Addr} {c1 : Nat} {x2 : Option Addr} {c2 : Nat} {x3 : Option Addr} {c3 : Nat} {x4 : Option Addr} {n4 c4 : Nat} {x5 : Option Addr} {n5 c5 : Nat} {p pn pd : Int} {L1 L2 L3 L4 L5 : List (List D)} (q1 : ∀ ds ∈ L1, ShL headT ds) (m1 : Rvss w x1 11 L1 0) (b1 : L1.length ≤ maxLen) (q2 : ∀ ds ∈ L2, ShL pedT ds) (m2 : Rvss w x2 6 L2 0) (q3 : ∀ ds ∈ L3, ShL phaseT ds) (m3 : Rvss w x3 3 L3 0) (hv : nodeL L1 L2 L3 L4 L5 p = none) (kk : Keep w w') {ra : Option Addr} {rc : Nat} (hr : w'.ownsRow 0 23 2 (.slice ra L1.length rc) L1.length (W.cp (X9 L1 pn pd) (Y9 L1 pn pd) L1.length)) (k : Nat) (hk : k < L3.length) :
    Calls Try.prog 12 #[.agg #[.string s, .slice x1 L1.length c1, .slice x2 L2.length c2, .slice x3 L3.length c3, .slice x4 n4 c4, .slice x5 n5 c5, .int .i64 p], .agg #[.string (sv (V.tn L3 k)), .slice (sA w x3 3 1 k) (ln L3 1 k) (sC w x3 3 1 k), .int .i64 (iv L3 2 k)], .slice ra L1.length rc] w' (Nq9 (V.tn L3 k) (g2 L1 L2 L3 k) (yW L1 L3 k) (rW L1 L3 k) (xZ L1 L3 pn pd k) (wL L2 (V.tn L3 k)) w') := by
  obtain ⟨l1, l2, l3, _⟩ := cn_le (node_parts hv).1
  obtain ⟨r1, r2, r3, r4⟩ := rsPhase q3 m3 k hk
  have hwl : (wL L2 (V.tn L3 k)).length ≤ L2.length := wlk_len _ _ _ _ _ _
  refine needOf_core s x1 L1.length c1 x2 L2.length c2 x3 L3.length c3 x4 n4 c4 x5 n5 c5 p (V.tn L3 k) (sA w x3 3 1 k) (ln L3 1 k) (sC w x3 3 1 k) (iv L3 2 k) ra rc (sb L3 1 k) (jH L1 L3 k) (fun j => sv (V.tn L1 j)) (iv L1 1) (iv L1 2) (iv L1 3) (iv L1 4) (iv L1 5) (iv L1 6) (iv L1 7) (iv L1 8) (iv L1 9) (iv L1 10) (X9 L1 pn pd) (Y9 L1 pn pd) (fun j => yN (iv L1 5 j) (iv L1 6 j)) (fun j => yE (iv L1 5 j) (iv L1 6 j)) (fun j => rN (iv L1 7 j) (iv L1 8 j) (iv L1 5 j)) (fun j => rE (iv L1 7 j) (iv L1 8 j) (iv L1 5 j)) (wS (wL L2 (V.tn L3 k))) (wL L2 (V.tn L3 k)) (g1 L1 L3 k) _ _ _ _ w' (cap_len (w := w) (a := x3) q3 k hk) (by omega) (by omega)
    (hide fun j hj => ?_) (hide fun m hm => ?_) (hide fun m hm => (j_ok hv hk hm).1) (hide fun j hj => ?_) (hide fun m hm w2 k2 => ?_) (hide fun j hj w2 => yellow_any _ _ w2) (hide fun j hj w2 => red_any _ _ _ w2) (hide fun w2 k2 => ?_) (hide fun j hj => rfl) (hide ⟨rfl, rfl, rfl, rfl, rfl⟩)
  · obtain ⟨ad, e, hb, h⟩ := S.clHead kk q1 m1 j hj
    exact ⟨ad, e, Nat.lt_of_lt_of_le hb kk.size, h⟩
  · obtain ⟨ad, e, hb, h0, _⟩ := clName r4 (Rvss.keep kk _ _ _ _ r3) m hm
    exact ⟨ad, e, hb, h0⟩
  · obtain ⟨rd, e, hb, h0, h1⟩ := own_cp hr j hj
    obtain ⟨i1, i2⟩ := xy_in L1 pn pd j
    exact ⟨rd, e, hb, h0, h1, i1, i2⟩
  · rw [(j_ok hv hk hm).2]
    exact head_at _ q1 (Rvss.keep (kk.trans k2) _ _ _ _ m1) b1
  · refine walksWith_core s x1 L1.length c1 x2 L2.length c2 x3 L3.length c3 x4 n4 c4 x5 n5 c5 p (V.tn L2) (un L2) (iv L2 2) (iv L2 3) (iv L2 4) (iv L2 5) (fun m => fN (iv L2 2 m) (iv L2 3 m)) _ (V.tn L3 k) w2 (by omega) (hide fun j hj => ?_) (hide fun m hm w3 => flash_any _ _ w3)
    obtain ⟨ad, e, hb, h⟩ := S.clPed (kk.trans k2) q2 m2 j hj
    exact ⟨ad, e, Nat.lt_of_lt_of_le hb (kk.trans k2).size, h⟩
/-- which error Of answers -/
def ofL (a3 a4 : Int) (LN : List (List D)) (c i : Int) : Int := if i < 0 ∨ (LN.length : Int) ≤ i then 1 else if c = 0 then W.fz (Z9 (sub LN 1 i.toNat) a3 a4) 0 (sub LN 1 i.toNat).length else 1
def OfL (a3 a4 : Int) (LN : List (List D)) (c i : Int) (w : World) (e : Ending) (w' : World) : Prop := Oq (ofL a3 a4 LN c i) (sub LN 3 i.toNat).length (V.tn (sub LN 3 i.toNat)) (g2 (sub LN 1 i.toNat) (sub LN 2 i.toNat) (sub LN 3 i.toNat)) (yW (sub LN 1 i.toNat) (sub LN 3 i.toNat)) (rW (sub LN 1 i.toNat) (sub LN 3 i.toNat)) (xZ (sub LN 1 i.toNat) (sub LN 3 i.toNat) a3 a4) (fun k => wL (sub LN 2 i.toNat) (V.tn (sub LN 3 i.toNat) k)) w e w'
set_option maxHeartbeats 4000000 in
theorem of_all {w : World} (a0 a1 a2 a3 a4 : Int) (aN : Option Addr) (cN : Nat) (aS : Option Addr) (nS cS : Nat) (a5 a6 : Int) (LN : List (List D)) (c cp : Int) (bN : LN.length ≤ maxLen) (qN : ∀ ds ∈ LN, ShL nodeT ds) (mN : Rvss w aN 7 LN 0) (i3 : W.i64 a3) (i4 : W.i64 a4) (i : Int) (hv : c = 0 → nsE LN = none)
    (TC : ∀ w', Keep w w' → Calls Try.prog 10 #[.agg #[.int .i64 a0, .int .i64 a1, .int .i64 a2, .int .i64 a3, .int .i64 a4, .slice aN LN.length cN, .slice aS nS cS, .int .i64 a5, .int .i64 a6]] w' fun e w'' => e = .returned (.tuple #[.int .i64 c, .int .i64 cp]) ∧ Keep w' w'') :
    Calls Try.prog 5 #[.agg #[.int .i64 a0, .int .i64 a1, .int .i64 a2, .int .i64 a3, .int .i64 a4, .slice aN LN.length cN, .slice aS nS cS, .int .i64 a5, .int .i64 a6], .int .i64 i] w (OfL a3 a4 LN c i w) := by
  unfold OfL
  by_cases hi : i < 0 ∨ (LN.length : Int) ≤ i
  · have e : ofL a3 a4 LN c i = 1 := by unfold ofL; rw [if_pos hi]
    rw [e]
    exact of_out a0 a1 a2 a3 a4 aN LN.length cN aS nS cS a5 a6 i _ _ _ _ _ _ _ w hi
  · by_cases hc : c = 0
    · obtain ⟨j, rfl⟩ : ∃ j : Nat, i = (j : Int) := ⟨i.toNat, by omega⟩
      have hj : j < LN.length := by omega
      have e : ofL a3 a4 LN c (j : Int) = W.fz (Z9 (sub LN 1 j) a3 a4) 0 (sub LN 1 j).length := by unfold ofL; rw [if_neg hi, if_pos hc, Int.toNat_natCast]
      rw [e, Int.toNat_natCast]
      have hnd := node_of (hv hc) j hj
      have hnl : nodeL (sub LN 1 j) (sub LN 2 j) (sub LN 3 j) (sub LN 4 j) (sub LN 5 j) (iv LN 6 j) = none := hnd
      obtain ⟨l1, l2, l3, _⟩ := cn_le (node_parts hnl).1
      obtain ⟨⟨s11, s12, s13, s14⟩, ⟨s21, s22, s23, s24⟩, ⟨s31, s32, s33, s34⟩, ⟨s41, s42, s43, s44⟩, ⟨s51, s52, s53, s54⟩⟩ := rsNode qN mN j hj
      subst hc
      have hcl := S.clNode (Keep.refl w) qN mN j hj
      rw [s11, s21, s31, s41, s51] at hcl
      refine of_in a0 a1 a2 a3 a4 aN LN.length cN aS nS cS a5 a6 j (sv (V.tn LN j)) (sA w aN 7 1 j) (sub LN 1 j).length (sC w aN 7 1 j) (sA w aN 7 2 j) (sub LN 2 j).length (sC w aN 7 2 j) (sA w aN 7 3 j) (sub LN 3 j).length (sC w aN 7 3 j) (sA w aN 7 4 j) (sub LN 4 j).length (sC w aN 7 4 j) (sA w aN 7 5 j) (sub LN 5 j).length (sC w aN 7 5 j) (iv LN 6 j) (sA w (sA w aN 7 3 j) 3 1) (ln (sub LN 3 j) 1) (sC w (sA w aN 7 3 j) 3 1) (iv (sub LN 3 j) 2) _ _ _ _ _ _ (X9 (sub LN 1 j) a3 a4) (Y9 (sub LN 1 j) a3 a4) _ _ w hj (by omega) (hide hcl) (hide fun k hk => ?_) (hide TC) (hide fun w' k => ratios_any s14 (Rvss.keep k _ _ _ _ s13) (by omega) i3 i4) (hide fun k hk w' ra rc kw ho => needOf_any s14 s13 (show (sub LN 1 j).length ≤ maxLen by unfold maxLen; omega) s24 s23 s34 s33 hnl kw ho k hk)
      obtain ⟨ad, e, hb, h0, h1, h2⟩ := S.clPhase (Keep.refl w) s34 s33 k hk
      rw [(rsPhase s34 s33 k hk).1] at h1
      exact ⟨ad, e, hb, h0, h1, h2⟩
    · have e : ofL a3 a4 LN c i = 1 := by unfold ofL; rw [if_neg hi, if_neg hc]
      rw [e]
      exact of_no a0 a1 a2 a3 a4 aN LN.length cN aS nS cS a5 a6 i _ _ _ _ _ _ _ _ _ w (by omega) (by omega) hc (hide TC)
end Nd
end Go.Proofs.Ytjincjlalopbfaa
