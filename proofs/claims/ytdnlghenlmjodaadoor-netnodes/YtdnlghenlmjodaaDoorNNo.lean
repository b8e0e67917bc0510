/- NetNodes in plain words: the nodes of two texts, one behind the other. No program is met here. -/
import Derived.Test.YtdnlghenlmjodaaDoorNCt
import Derived.Test.YtdnlghenlmjodaaDoorLFj
import Derived.Test.YtdnlghenlmjodaaDoorLStr
import Derived.Test.YtdnlghenlmjodaaDoorLRToks
import Derived.Test.YtdnlghenlmjodaaDoorNInv
import Derived.Deep.DeepMust
import Derived.LaidLaws
import Derived.LaidHandle
import Derived.SevenTiedAt
namespace Go.Proofs.YtdnlghenlmjodaaDoor
set_option linter.unusedVariables false
set_option linter.unusedSimpArgs false
set_option maxRecDepth 100000
def hd0 : List UInt8 := [99, 121, 99, 108, 101, 32, 49, 32, 116, 111, 32, 50, 32, 98, 121, 32, 51, 59, 32, 112, 101, 97, 107, 32, 52, 47, 53, 59]
def hdT : List Tok := [⟨1, [99, 121, 99, 108, 101], 0, 0⟩, ⟨2, [49], 1, 6⟩, ⟨1, [116, 111], 0, 8⟩, ⟨2, [50], 2, 11⟩, ⟨1, [98, 121], 0, 13⟩, ⟨2, [51], 3, 16⟩, ⟨3, [59], 0, 17⟩, ⟨1, [112, 101, 97, 107], 0, 19⟩, ⟨2, [52], 4, 24⟩, ⟨3, [47], 0, 25⟩, ⟨2, [53], 5, 26⟩, ⟨3, [59], 0, 27⟩]
theorem T_hd0 : T hd0 = .ok (hdT ++ [⟨0, [], 0, 28⟩]) := by kernel_rfl
/-- what the steps ahead of the nodes leave -/
def hdC : List D := [dI 1, dI 2, dI 3, dI 4, dI 5]
def restIn : List Sp := [pRow [110, 111, 100, 101] 12 55 7 pNode, pArt, pEnd]
theorem net_hd (r : List Tok) : pNet (hdT ++ r) = sq restIn hdC r := by
  have : ∀ r, sq [pThe [99, 121, 99, 108, 101], pNum, pThe [116, 111], pNum, pThe [98, 121], pNum, pThe [59], pThe [112, 101, 97, 107], pFrac, pThe [59]] [] (hdT ++ r) = .ok (hdC, r) := fun r => by
    simp [sq, hdT, hdC, pThe, pNum, pFrac]
  have e := sq_app [pThe [99, 121, 99, 108, 101], pNum, pThe [116, 111], pNum, pThe [98, 121], pNum, pThe [59], pThe [112, 101, 97, 107], pFrac, pThe [59]] restIn [] (hdT ++ r)
  rw [this] at e
  exact e
theorem tk_shE (k : Nat) : ∀ (n : Nat) (r : List UInt8) (p : Nat) (x : Int × Nat), r.length ≤ n → tk r p = .error x → ∃ y, tk r (p + k) = .error y
  | n, r, p, x, hn, h => by
    rw [tk_eq] at h ⊢
    rw [show p + k + skp false r = p + skp false r + k by omega, one_sh]
    split at h
    · rename_i e he
      rw [he]
      exact ⟨_, rfl⟩
    · rename_i t ht
      rw [ht]
      simp only
      by_cases hk : t.k = 0
      · rw [if_pos hk] at h; cases h
      · rw [if_neg hk] at h
        have h' := pre_err h
        rw [if_neg (show (sh k t).k ≠ 0 from hk)]
        rcases (one_ok ht).2 with ⟨_, h2⟩ | ⟨_, _, _, h1, h2, _⟩
        · rw [h2] at hk; exact absurd rfl hk
        · have hl := en_le (r.drop (skp false r))
          cases n with
          | zero => simp only [List.length_drop] at hl; omega
          | succ n =>
            obtain ⟨y, hy⟩ := tk_shE k n _ _ x (by simp only [List.length_drop] at *; omega) h'
            rw [show p + skp false r + k + (sh k t).s.length = p + skp false r + t.s.length + k by show _ + t.s.length = _; omega]
            show ∃ y, pre [sh k t] (tk ((r.drop (skp false r)).drop t.s.length) _) = .error y
            rw [hy]
            exact ⟨y, rfl⟩
/-- a text behind one that has tokens, and a line: it has tokens where both have -/
theorem T_join2 {a b : List UInt8} {L V : List Tok} (ha : T a = .ok L) (hl : a.length + b.length < 65536) (h : T (a ++ 10 :: b) = .ok V) : ∃ M, T b = .ok M ∧ V = L.dropLast ++ M.map (sh (a.length + 1)) := by
  cases hb : T b with
  | ok M => rw [T_join ha hb hl] at h; injection h with h; exact ⟨M, rfl, h.symm⟩
  | error x =>
    exfalso
    have h0 : tk b 0 = .error x := by unfold T at hb; rw [if_neg (by omega)] at hb; exact hb
    obtain ⟨y, hy⟩ := tk_shE (a.length + 1) _ b 0 x (Nat.le_refl _) h0
    unfold T at h
    rw [if_neg (by simp; omega), tk_join b L a 0 (T_ok ha).2] at h
    rw [show 0 + (a.length + 1) = 0 + a.length + 1 by omega] at hy
    rw [hy] at h
    cases h
theorem q0_sh (k : Nat) (L : List Tok) : (L.map (sh k)).map q0 = L.map q0 := by
  rw [List.map_map]; rfl
theorem q0_append {a a' b b' : List Tok} (h : a.map q0 = a'.map q0) (k : b.map q0 = b'.map q0) : (a ++ b).map q0 = (a' ++ b').map q0 := by rw [List.map_append, List.map_append, h, k]
/-- nodes of another text, behind some -/
theorem rw_count (word : List UInt8) (most : Nat) (body : List Tok → Rs) (hm : Mon body) (hb : PlB true body) : ∀ (n : Nat) (L0 L : List (List D)) (B B' : List Tok) (Lb : List (List D)) (s : List Tok), B.length ≤ n → B.map q0 = B'.map q0 → L.length ≤ most → rw_ word most body L0 B = .ok (Lb, s) → L0.length ≤ Lb.length ∧
    (L.length + (Lb.length - L0.length) ≤ most → ∃ Lc s', rw_ word most body L B' = .ok (Lc, s') ∧ Lc.length = L.length + (Lb.length - L0.length) ∧ s.map q0 = s'.map q0) ∧ (most < L.length + (Lb.length - L0.length) → ∃ p, rw_ word most body L B' = .error (4, p))
  | n, L0, L, [], B', Lb, s, _, _, _, h => by simp [rw_, rwz] at h
  | n, L0, L, t :: B, B', Lb, s, hn, hq, hL, h => by
    obtain ⟨t', B2, rfl, hk, hs, _, h2⟩ := q0_cons hq
    rw [rw_cons _ _ _ hm] at h
    rw [rw_cons _ _ _ hm, hs]
    by_cases ht : t.s = word
    · rw [if_pos ht] at h
      rw [if_pos ht]
      by_cases hl : L0.length = most
      · rw [if_pos hl] at h; cases h
      · rw [if_neg hl] at h
        have h3 := hb B B2 h2
        cases hx : body B with
        | error y => rw [hx] at h; cases h
        | ok z =>
          obtain ⟨d, r1⟩ := z
          rw [hx] at h h3
          cases hy : body B2 with
          | error y => rw [hy] at h3; exact h3.elim
          | ok z' =>
            obtain ⟨d', r1'⟩ := z'
            rw [hy] at h3
            have hlen2 := hm _ _ _ hx
            cases n with
            | zero => simp at hn
            | succ n =>
              by_cases hl2 : L.length = most
              · have := rw_count word most body hm hb n (L0 ++ [d]) L r1 r1' Lb s (by simp at hn; omega) h3.1 hL h
                rw [if_pos hl2]
                have h4 := this.1
                simp at h4
                exact ⟨by omega, fun h5 => by omega, fun _ => ⟨_, rfl⟩⟩
              · have := rw_count word most body hm hb n (L0 ++ [d]) (L ++ [d']) r1 r1' Lb s (by simp at hn; omega) h3.1 (by simp; omega) h
                rw [if_neg hl2]
                obtain ⟨h4, h5, h6⟩ := this
                simp only [List.length_append, List.length_cons, List.length_nil] at h4 h5 h6
                refine ⟨by omega, fun h7 => ?_, fun h7 => ?_⟩
                · obtain ⟨Lc, s', e1, e2, e3⟩ := h5 (by omega)
                  exact ⟨Lc, s', e1, by omega, e3⟩
                · exact h6 (by omega)
    · rw [if_neg ht] at h ⊢
      simp at h
      obtain ⟨rfl, rfl⟩ := h
      exact ⟨Nat.le_refl _, fun _ => ⟨L, _, rfl, by omega, hq⟩, fun h7 => by omega⟩
theorem art_inv {c : List D} {r : List Tok} {c1 : List D} {s : List Tok} (h : pArt c r = .ok (c1, s)) : ∃ Ss x y, c1 = c ++ [.row 146 6 Ss, dI x, dI y] := by
  cases r with
  | nil => simp [pArt, pMay, bad] at h
  | cons t r =>
    by_cases ht : t.s = [97, 114, 116, 101, 114, 121]
    · rw [art_yes ht] at h
      obtain ⟨d1, r1, k1, g1⟩ := sq_inv h
      obtain ⟨d2, r2, k2, g2⟩ := sq_inv g1
      obtain ⟨d3, r3, k3, g3⟩ := sq_inv g2
      obtain ⟨d4, r4, k4, g4⟩ := sq_inv g3
      obtain ⟨d5, r5, k5, g5⟩ := sq_inv g4
      obtain ⟨d6, r6, k6, g6⟩ := sq_inv g5
      obtain ⟨d7, r7, k7, g7⟩ := sq_inv g6
      have e1 := (the_inv k1).1
      obtain ⟨L, e2, _⟩ := row_inv (Q := fun _ => True) (fun _ _ _ _ => trivial) k2
      have e3 := (the_inv k3).1
      obtain ⟨u, e4, _⟩ := num_inv k4
      obtain ⟨v, e5, _⟩ := num_inv k5
      have e6 := (the_inv k6).1
      have e7 := (the_inv k7).1
      have := sq_end g7
      simp only [Prod.mk.injEq] at this
      exact ⟨L, u.n, v.n, by rw [this.1, e7, e6, e5, e4, e3, e2, e1]; simp⟩
    · rw [art_no ht] at h
      simp only [Except.ok.injEq, Prod.mk.injEq] at h
      exact ⟨[], 0, 0, h.1.symm⟩
/-- what is behind the nodes, turned round -/
theorem rest_inv {c : List D} {r : List Tok} {c1 : List D} {s : List Tok} (h : sq restIn c r = .ok (c1, s)) : ∃ Lb s1 Ss x y, rw_ [110, 111, 100, 101] 12 pNode [] r = .ok (Lb, s1) ∧ sq [pArt, pEnd] (c ++ [.row 55 7 Lb]) s1 = .ok (c1, s) ∧ c1 = c ++ [.row 55 7 Lb, .row 146 6 Ss, dI x, dI y] := by
  obtain ⟨c2, r2, k1, k2⟩ := sq_inv h
  simp only [pRow] at k1
  cases hq : rw_ [110, 111, 100, 101] 12 pNode [] r with
  | error y => rw [show rwz [110, 111, 100, 101] 12 pNode (r.length + 1) [] r = _ from hq] at k1; cases k1
  | ok q =>
    obtain ⟨Lb, s1⟩ := q
    rw [show rwz [110, 111, 100, 101] 12 pNode (r.length + 1) [] r = _ from hq] at k1
    simp only [Except.ok.injEq, Prod.mk.injEq] at k1
    obtain ⟨rfl, rfl⟩ := k1
    have k3 := k2
    obtain ⟨c3, r3, k4, k5⟩ := sq_inv k2
    obtain ⟨Ss, x, y, rfl⟩ := art_inv k4
    obtain ⟨c4, r4, k6, k7⟩ := sq_inv k5
    obtain rfl := end_inv k6
    have := sq_end k7
    simp only [Prod.mk.injEq] at this
    obtain ⟨rfl, rfl⟩ := this
    exact ⟨Lb, s1, Ss, x, y, rfl, k3, by simp⟩
theorem rest_make {c : List D} {r : List Tok} {L : List (List D)} {s : List Tok} (h : rw_ [110, 111, 100, 101] 12 pNode [] r = .ok (L, s)) : sq restIn c r = sq [pArt, pEnd] (c ++ [.row 55 7 L]) s := by
  have : pRow [110, 111, 100, 101] 12 55 7 pNode c r = .ok (c ++ [.row 55 7 L], s) := by
    simp only [pRow]
    rw [show rwz [110, 111, 100, 101] 12 pNode (r.length + 1) [] r = _ from h]
  simp only [restIn, sq, this]
theorem rest_bad {c : List D} {r : List Tok} {x : Er} (h : rw_ [110, 111, 100, 101] 12 pNode [] r = .error x) : sq restIn c r = .error x := by
  have : pRow [110, 111, 100, 101] 12 55 7 pNode c r = .error x := by
    simp only [pRow]
    rw [show rwz [110, 111, 100, 101] 12 pNode (r.length + 1) [] r = _ from h]
  simp only [restIn, sq, this]
/-- only the last token is an end -/
theorem tk_end : ∀ (n : Nat) (r : List UInt8) (p : Nat) (L : List Tok), r.length ≤ n → tk r p = .ok L → ∃ m e, L = m ++ [e] ∧ e.k = 0 ∧ e.s = [] ∧ ∀ t ∈ m, t.k ≠ 0
  | n, r, p, L, hn, h => by
    rcases tk_cons h with ⟨rfl, _⟩ | ⟨t, M, rfl, h1, h2, _, _, h5, h6, h7⟩
    · exact ⟨[], _, rfl, rfl, rfl, fun t ht => by cases ht⟩
    · cases n with
      | zero => omega
      | succ n =>
        obtain ⟨m, e, rfl, e1, e2, e3⟩ := tk_end n _ _ M (by rw [List.length_drop]; omega) h7
        exact ⟨t :: m, e, rfl, e1, e2, fun u hu => by rcases List.mem_cons.1 hu with rfl | hu; exact h2; exact e3 u hu⟩
/-- a network of two texts' nodes -/
theorem nod {a b : List UInt8} {cm cn : List D} (ha : a.length ≤ 2000) (hb : b.length ≤ 2000) (hX : N (hd0 ++ 10 :: a) = .ok cm) (hY : N (hd0 ++ 10 :: b) = .ok cn) (hart : ∀ A, T a = .ok A → ∀ t ∈ A, t.s ≠ [97, 114, 116, 101, 114, 121]) :
    ∃ La Lb Sa Sb x y x1 y1, cm = hdC ++ [.row 55 7 La, .row 146 6 Sa, dI x1, dI y1] ∧ cn = hdC ++ [.row 55 7 Lb, .row 146 6 Sb, dI x, dI y] ∧
      (12 < La.length + Lb.length → ∃ p, N (hd0 ++ 10 :: a ++ 10 :: b) = .error (4, p)) ∧
      (La.length + Lb.length ≤ 12 → ∃ Lc Sc x' y', N (hd0 ++ 10 :: a ++ 10 :: b) = .ok (hdC ++ [.row 55 7 Lc, .row 146 6 Sc, dI x', dI y']) ∧ Lc.length = La.length + Lb.length ∧ Sc.length = Sb.length) := by
  have h28 : hd0.length = 28 := rfl
  unfold N at hX hY
  cases hTX : T (hd0 ++ 10 :: a) with
  | error x => rw [hTX] at hX; cases hX
  | ok VX =>
  cases hTY : T (hd0 ++ 10 :: b) with
  | error x => rw [hTY] at hY; cases hY
  | ok VY =>
  rw [hTX] at hX
  rw [hTY] at hY
  simp only at hX hY
  obtain ⟨A, hA, eA⟩ := T_join2 T_hd0 (by omega) hTX
  obtain ⟨B, hB, eB⟩ := T_join2 T_hd0 (by omega) hTY
  rw [List.dropLast_concat] at eA eB
  cases hpX : pNet VX with
  | error x => rw [hpX] at hX; cases hX
  | ok qX =>
  cases hpY : pNet VY with
  | error x => rw [hpY] at hY; cases hY
  | ok qY =>
  obtain ⟨c1, s1⟩ := qX
  obtain ⟨c2, s2⟩ := qY
  rw [hpX] at hX
  rw [hpY] at hY
  simp only [Except.ok.injEq] at hX hY
  subst hX hY
  rw [eA, net_hd] at hpX
  rw [eB, net_hd] at hpY
  obtain ⟨La, sa, Sa, x1, y1, k1, k2, k3⟩ := rest_inv hpX
  obtain ⟨Lb, sb, Sb, x, y, j1, j2, j3⟩ := rest_inv hpY
  refine ⟨La, Lb, Sa, Sb, x, y, x1, y1, k3, j3, ?_⟩
  -- the first text's tokens: things, and its end
  obtain ⟨m, e, hAm, e1, e2, e3⟩ := tk_end _ a 0 A (Nat.le_refl _) (T_ok hA).2
  have hsa : sa = [sh (hd0.length + 1) e] := by
    obtain ⟨pre1, hp1, _⟩ := okx_rw [110, 111, 100, 101] 12 pNode mon_node os_node.x _ _ _ _ _ (Nat.le_refl _) k1
    rw [hAm, List.map_append, List.map_cons, List.map_nil] at hp1
    rcases List.eq_nil_or_concat sa with hnil | ⟨s0, u, h0⟩
    · subst hnil
      simp [sq, pArt, pMay, bad] at k2
    · rw [List.concat_eq_append] at h0
      subst h0
      rw [← List.append_assoc] at hp1
      have hp2 := List.append_inj' hp1 rfl
      have hu : u = sh (hd0.length + 1) e := by simpa using hp2.2.symm
      subst hu
      cases s0 with
      | nil => rfl
      | cons t s0 =>
        exfalso
        have hmem : t ∈ m.map (sh (hd0.length + 1)) := by rw [hp2.1]; simp
        obtain ⟨t0, ht0, rfl⟩ := List.mem_map.1 hmem
        have ht1 : (sh (hd0.length + 1) t0).s ≠ [97, 114, 116, 101, 114, 121] := hart A hA t0 (by rw [hAm]; simp [ht0])
        have ht2 : (sh (hd0.length + 1) t0).k ≠ 0 := e3 t0 ht0
        rw [List.cons_append] at k2
        simp only [sq, art_no ht1, pEnd, if_neg ht2, bad] at k2
        cases k2
  subst hsa
  have hV : T (hd0 ++ 10 :: a ++ 10 :: b) = .ok (hdT ++ (m.map (sh (hd0.length + 1)) ++ B.map (sh ((hd0 ++ 10 :: a).length + 1)))) := by
    have := T_join hTX hB (by simp; omega)
    rw [this, eA, hAm, List.map_append, List.map_cons, List.map_nil, ← List.append_assoc, List.dropLast_concat, List.append_assoc]
  have hrw : ∀ x, rw_ [110, 111, 100, 101] 12 pNode [] (m.map (sh (hd0.length + 1)) ++ x) = rw_ [110, 111, 100, 101] 12 pNode La x := fun x => by
    rw [hAm, List.map_append, List.map_cons, List.map_nil] at k1
    exact rw_on _ (by decide) 12 pNode mon_node os_node _ (by exact e2) x _ [] _ La (Nat.le_refl _) k1
  have hLa : La.length ≤ 12 := (rwz_inv [110, 111, 100, 101] 12 pNode (fun _ => True) (fun _ _ _ _ => trivial) _ _ _ _ _ (Nat.zero_le _) (fun _ _ => trivial) k1).1
  have hcnt := rw_count [110, 111, 100, 101] 12 pNode mon_node plb_node _ [] La (B.map (sh (hd0.length + 1))) (B.map (sh ((hd0 ++ 10 :: a).length + 1))) Lb sb (Nat.le_refl _) (by rw [q0_sh, q0_sh]) hLa j1
  simp only [List.length_nil, Nat.sub_zero] at hcnt
  unfold N
  rw [hV]
  simp only [net_hd]
  refine ⟨fun h => ?_, fun h => ?_⟩
  · obtain ⟨p, hp⟩ := hcnt.2.2 h
    exact ⟨p, by rw [rest_bad ((hrw _).trans hp)]⟩
  · obtain ⟨Lc, s', hp, hlc, hs'⟩ := hcnt.2.1 h
    rw [rest_make ((hrw _).trans hp)]
    have ho := pl_cons pl_art (pl_cons pl_end pl_nil) (hdC ++ [.row 55 7 Lb]) (hdC ++ [.row 55 7 Lc]) sb s' hs'
    rw [j2] at ho
    cases hz : sq [pArt, pEnd] (hdC ++ [.row 55 7 Lc]) s' with
    | error x => rw [hz] at ho; exact ho.elim
    | ok q =>
      obtain ⟨c3, s3⟩ := q
      rw [hz] at ho
      obtain ⟨_, d, d', f1, f2, f3⟩ := ho
      obtain ⟨c4, r4, g1, g2⟩ := sq_inv hz
      obtain ⟨Sc, x', y', rfl⟩ := art_inv g1
      obtain ⟨c5, r5, g3, g4⟩ := sq_inv g2
      obtain rfl := end_inv g3
      have := sq_end g4
      simp only [Prod.mk.injEq] at this
      obtain ⟨rfl, rfl⟩ := this
      rw [j3] at f1
      have hd1 : d = [.row 146 6 Sb, dI x, dI y] := by simpa [hdC] using f1.symm
      have hd2 : d' = [.row 146 6 Sc, dI x', dI y'] := by simpa [hdC] using f2.symm
      rw [hd1, hd2] at f3
      simp only [List.map_cons, List.map_nil, Z, List.cons.injEq, D.row.injEq, true_and] at f3
      refine ⟨Lc, Sc, x', y', by simp, hlc, ?_⟩
      rw [← zss_len (plc 6) Sc, ← zss_len (plc 6) Sb, f3.1]
end Go.Proofs.YtdnlghenlmjodaaDoor
namespace Go.Proofs.YtdnlghenlmjodaaDoor.nodes
open Go.ChangeShapes Go.WideShapes Go.ChangeAt Go.RowKit

attribute [local go_sem ↓] Go.wp_at_zero Go.wp_at_succ
set_option linter.unusedVariables false
set_option linter.unusedSimpArgs false
set_option maxRecDepth 10000
set_option maxHeartbeats 4000000 in
theorem art_core (v0 : Value) (n : Nat) (E M : Int) (S : Nat → ByteArray) (B : Nat → Bool) (r : Bool) (w : World) (hn : n ≤ 70000)
    (T1 : Hid (Calls Tryd.prog 9 #[v0] w fun e w' => ∃ a cap, e = .returned (.tuple #[.slice a n cap, .int .i64 E, .int .i64 M]) ∧ Keep w w' ∧ ∀ k, k < n → ∃ ad, a = some ad ∧ w'.cell? ⟨(ad.add (k * 4)).block, (ad.add (k * 4)).off + 1, none⟩ = some (.string (S k))))
    (HB : Hid (∀ k, k < n → ((S k).toList == [97, 114, 116, 101, 114, 121]) = B k))
    (H1 : Hid (∀ k, k < n → B k = true → r = true)) (H2 : Hid ((∀ k, k < n → B k = false) → r = false)) :
    Calls Tryd.prog 5 #[v0] w fun e w' => e = .returned (.bool r) ∧ Keep w w' := by
  go_enter Tryd.func5, Tryd.ntmps5
  go_wp2_with fail
  (refine (unhide T1).mono ?_; rintro e w2 ⟨a, cap, rfl, hk, hc⟩; have HK := hide hk; have HC := hide hc; clear hk hc)
  go_wp2_with fail
  go_loop [6] (fun vi => ∃ k : Nat, k ≤ n ∧ vi = .int .i64 (k : Int) ∧ Hid (∀ j, j < k → B j = false)) (fun vi => n - (intOf vi).toNat)
  case atStart => exact ⟨0, Nat.zero_le _, rfl, hide fun j hj => by omega⟩
  case round =>
    obtain ⟨k, hk, rfl, HN⟩ := hrel
    by_cases hlt : k < n
    · have li : (k : Int) < (n : Int) := by omega
      obtain ⟨ad, rfl, ck⟩ := (unhide HC) k hlt
      have hb := (unhide HB) k hlt
      have HQ := hide ((unhide H1) k hlt)
      generalize S k = x at *
      obtain ⟨b, hbk⟩ : ∃ b, B k = b := ⟨_, rfl⟩
      rw [hbk] at hb
      have HBK := hide hbk
      clear hbk
      cases b with
      | true =>
        have hr := (unhide HQ) (unhide HBK)
        subst hr
        go_wp2_with fail
        go_ret
        exact ⟨rfl, unhide HK⟩
      | false =>
        go_wp2_with fail
        exact ⟨⟨k + 1, hlt, by go_num, hide fun j hj => (Nat.lt_succ_iff_lt_or_eq.1 hj).elim ((unhide HN) j) (fun e => e ▸ unhide HBK)⟩, by simp [intOf]; omega⟩
    · have hr := (unhide H2) (fun j hj => (unhide HN) j (by omega))
      subst hr
      go_wp2_with fail
      go_ret
      exact ⟨rfl, unhide HK⟩
def hasArt (l : List UInt8) : Bool := (tl (T l)).any (fun t => t.s == [97, 114, 116, 101, 114, 121])
theorem hasArt_no {l : List UInt8} (h : hasArt l = false) : ∀ A, T l = .ok A → ∀ t ∈ A, t.s ≠ [97, 114, 116, 101, 114, 121] := fun A hA t ht => by
  unfold hasArt at h
  rw [hA] at h
  simp only [tl, List.any_eq_false] at h
  have := h t ht
  simpa using this
theorem art_any (v : Value) (l : List UInt8) (w : World) (hl : l.length ≤ 2000) (h : By w v l) : Calls Tryd.prog 5 #[v] w fun e w' => e = .returned (.bool (hasArt l)) ∧ Keep w w' := by
  have hT := rtoks_any v l w (by omega) h
  have hlen : (tl (T l)).length ≤ 70000 := by
    cases hh : T l with
    | error x => simp [tl]
    | ok L => have := T_len hh; simp [tl]; omega
  · unfold hasArt
    refine art_core v (tl (T l)).length (te (T l)) (tn (T l) : Nat) (fun k => sv ((tl (T l)).getD k t0).s) (fun k => ((tl (T l)).getD k t0).s == [97, 114, 116, 101, 114, 121]) _ w hlen (hide (hT.mono ?_)) (hide fun k hk => by rw [show (sv ((tl (T l)).getD k t0).s).toList = ((tl (T l)).getD k t0).s from ByteArray.toList_mk _]) (hide fun k hk hb => ?_) (hide fun hb => ?_)
    · rintro e w' ⟨v', rfl, hts, _, hk⟩
      obtain ⟨a, cap, rfl, _, hx⟩ := hts
      refine ⟨a, cap, rfl, hk, fun k hlt => ?_⟩
      obtain ⟨ad, h0, _, h2⟩ := hx k hlt
      exact ⟨ad, h0, h2.2.1⟩
    · rw [List.any_eq_true]
      refine ⟨(tl (T l)).getD k t0, ?_, hb⟩
      rw [List.getD_eq_getElem?_getD, List.getElem?_eq_getElem hk]
      exact List.getElem_mem _
    · rw [List.any_eq_false]
      intro t ht
      obtain ⟨k, hk, rfl⟩ := List.getElem_of_mem ht
      have := hb k hk
      rw [List.getD_eq_getElem?_getD, List.getElem?_eq_getElem hk] at this
      simpa using this
set_option maxHeartbeats 2000000 in
theorem long (a b : Option Addr) (n m c d : Nat) (w : World) (hn : 2000 < n ∨ 2000 < m) : Calls Tryd.prog 3 #[.slice a n c, .slice b m d] w fun e w' => e = .returned (.bool true) ∧ Keep w w' := by
  by_cases h : (2000 : Int) < (n : Int)
  · clear hn
    go_enter Tryd.func3, Tryd.ntmps3
    go_wp2_with fail
    go_ret
    exact ⟨rfl, Keep.refl _⟩
  · have h2 : (2000 : Int) < (m : Int) := by omega
    clear hn
    go_enter Tryd.func3, Tryd.ntmps3
    go_wp2_with fail
    go_ret
    exact ⟨rfl, Keep.refl _⟩
/-- what a call of Parse leaves: an error, or a network of so many nodes and stops -/
def PP (E : Int) (nN nS : Nat) (x y : Int) (w : World) (e : Ending) (w' : World) : Prop := Keep w w' ∧ ∃ a0 a1 a2 a3 a4 aN cN aS cS P, e = .returned (.tuple #[.agg #[.int .i64 a0, .int .i64 a1, .int .i64 a2, .int .i64 a3, .int .i64 a4, .slice aN nN cN, .slice aS nS cS, .int .i64 x, .int .i64 y], .int .i64 E, .int .i64 P])
theorem hd_cat (A : List UInt8) : (⟨#[99, 121, 99, 108, 101, 32, 49, 32, 116, 111, 32, 50, 32, 98, 121, 32, 51, 59, 32, 112, 101, 97, 107, 32, 52, 47, 53, 59, 10]⟩ : ByteArray) ++ sv A = sv (hd0 ++ 10 :: A) := by
  have h := sv_cat (hd0 ++ [10]) A
  rw [List.append_assoc] at h
  exact h
theorem hd_cat2 (A B : List UInt8) : (⟨#[99, 121, 99, 108, 101, 32, 49, 32, 116, 111, 32, 50, 32, 98, 121, 32, 51, 59, 32, 112, 101, 97, 107, 32, 52, 47, 53, 59, 10]⟩ : ByteArray) ++ sv A ++ ⟨#[10]⟩ ++ sv B = sv (hd0 ++ 10 :: A ++ 10 :: B) := by
  have h := sv_cat (hd0 ++ 10 :: A) [10]
  have h2 := sv_cat (hd0 ++ 10 :: A ++ [10]) B
  rw [hd_cat]
  rw [← h] at h2
  rw [List.append_assoc (hd0 ++ 10 :: A)] at h2
  exact h2
set_option maxHeartbeats 8000000 in
theorem body (a b : Option Addr) (n m c d : Nat) (A B : List UInt8) (w : World) (hn : n ≤ 2000) (hm : m ≤ 2000) (hA : By w (.slice a n c) A) (hB : By w (.slice b m d) B) (hAl : A.length ≤ 2000) (hBl : B.length ≤ 2000)
    (E F G x y x2 y2 x3 y3 : Int) (nN nS mN mS pN pS : Nat) (r : Bool) (hN1 : nN ≤ 12) (hN2 : mN ≤ 12)
    (T1 : Hid (∀ w' v, Keep w w' → By w' v (hd0 ++ 10 :: A) → Calls Tryd.prog 4 #[v] w' (PP E nN nS x y w')))
    (T2 : Hid (∀ w' v, Keep w w' → By w' v (hd0 ++ 10 :: B) → Calls Tryd.prog 4 #[v] w' (PP F mN mS x2 y2 w')))
    (T3 : Hid (∀ w' v, Keep w w' → By w' v (hd0 ++ 10 :: A ++ 10 :: B) → Calls Tryd.prog 4 #[v] w' (PP G pN pS x3 y3 w')))
    (T4 : Hid (∀ w', Keep w w' → Calls Tryd.prog 5 #[.slice a n c] w' fun e w'' => e = .returned (.bool r) ∧ Keep w' w''))
    (T5 : Hid (∀ w', Keep w w' → Calls Tryd.prog 6 #[] w' fun e w'' => e = .returned (.bool true) ∧ Keep w' w''))
    (hcase : ((E != 0) = true ∧ (E == 0) = false) ∨ (E = 0 ∧ (F != 0) = true ∧ (F == 0) = false) ∨ (E = 0 ∧ F = 0 ∧ 0 < nS) ∨ (E = 0 ∧ F = 0 ∧ nS = 0 ∧ (x != 0) = true ∧ (x == 0) = false) ∨ (E = 0 ∧ F = 0 ∧ nS = 0 ∧ x = 0 ∧ (y != 0) = true ∧ (y == 0) = false) ∨ (E = 0 ∧ F = 0 ∧ nS = 0 ∧ x = 0 ∧ y = 0 ∧ r = true) ∨ (E = 0 ∧ F = 0 ∧ nS = 0 ∧ x = 0 ∧ y = 0 ∧ r = false ∧ 12 < nN + mN ∧ G = 4) ∨ (E = 0 ∧ F = 0 ∧ nS = 0 ∧ x = 0 ∧ y = 0 ∧ r = false ∧ nN + mN ≤ 12 ∧ G = 0 ∧ pN = nN + mN ∧ pS = mS)) :
    Calls Tryd.prog 3 #[.slice a n c, .slice b m d] w fun e w' => e = .returned (.bool true) ∧ Keep w w' := by
  have h1 : ¬ (2000 : Int) < (n : Int) := by omega
  have h2 : ¬ (2000 : Int) < (m : Int) := by omega
  have HK := hide (Keep.refl w)
  have HC := hide hcase
  have HB := hide hB
  have HA := hide hA
  have cv1 := by_str hA (t := 22) (u := 9) Tryd.underlying22 Tryd.underlying9
  have hx0 : (⟨#[99, 121, 99, 108, 101, 32, 49, 32, 116, 111, 32, 50, 32, 98, 121, 32, 51, 59, 32, 112, 101, 97, 107, 32, 52, 47, 53, 59, 10]⟩ : ByteArray) ++ sv A = sv (hd0 ++ 10 :: A) := hd_cat A
  have hs0 : (sv A).size = A.length := sv_size A
  obtain ⟨cp1, o1, k1, hcv, hby⟩ := str_by w (sv (hd0 ++ 10 :: A))
  have cv2 := hcv 9 22 Tryd.underlying9 Tryd.underlying22
  rw [sv_back] at hby
  have HBY := hide hby
  have hs1 : ¬ 9223372036854775807 < (⟨#[99, 121, 99, 108, 101, 32, 49, 32, 116, 111, 32, 50, 32, 98, 121, 32, 51, 59, 32, 112, 101, 97, 107, 32, 52, 47, 53, 59, 10]⟩ : ByteArray).size + (sv A).size := by rw [hs0]; show ¬ _ < 29 + _; omega
  have hs2 : ¬ 9223372036854775807 < 29 + (sv A).size := hs1
  have HK1 := hide (keep_ext (unhide HK) #[o1] k1)
  clear hcase hA hB hcv hby
  generalize sv (hd0 ++ 10 :: A) = SX at *
  generalize sv A = SA at *
  go_enter Tryd.func3, Tryd.ntmps3
  go_wp2_with fail
  (refine ((unhide T1) _ _ (unhide HK1) (unhide HBY)).mono ?_; rintro e w2 ⟨hk, a0, a1, a2, a3, a4, aN, ac, aS, ad, P1, rfl⟩; have HK2 := hide ((unhide HK1).trans hk); clear hk)
  clear cv1 cv2 hx0 hs0 hs1 hs2 HK1 HBY
  go_upto_region 5 with fail
  have n1 := heap_alloc_new w2 (.cells #[.int .i64 a0, .int .i64 a1, .int .i64 a2, .int .i64 a3, .int .i64 a4, .slice aN nN ac, .slice aS nS ad, .int .i64 x, .int .i64 y] 28)
  have HK3 := hide ((unhide HK2).alloc (.cells #[.int .i64 a0, .int .i64 a1, .int .i64 a2, .int .i64 a3, .int .i64 a4, .slice aN nN ac, .slice aS nS ad, .int .i64 x, .int .i64 y] 28))
  generalize w2.alloc (.cells #[.int .i64 a0, .int .i64 a1, .int .i64 a2, .int .i64 a3, .int .i64 a4, .slice aN nN ac, .slice aS nS ad, .int .i64 x, .int .i64 y] 28) = w3 at n1 HK3 ⊢
  generalize w2.heap.size = xb at n1 ⊢
  have N1 := hide n1
  clear n1 HK2
  have cv1 := by_str ((unhide HB).keep (unhide HK3)) (t := 22) (u := 9) Tryd.underlying22 Tryd.underlying9
  have hx0 := hd_cat B
  have hs0 : (sv B).size = B.length := sv_size B
  obtain ⟨cp2, o2, k2, hcv, hby⟩ := str_by w3 (sv (hd0 ++ 10 :: B))
  have cv2 := hcv 9 22 Tryd.underlying9 Tryd.underlying22
  rw [sv_back] at hby
  have HBY := hide hby
  have hs1 : ¬ 9223372036854775807 < (⟨#[99, 121, 99, 108, 101, 32, 49, 32, 116, 111, 32, 50, 32, 98, 121, 32, 51, 59, 32, 112, 101, 97, 107, 32, 52, 47, 53, 59, 10]⟩ : ByteArray).size + (sv B).size := by rw [hs0]; show ¬ _ < 29 + _; omega
  have hs2 : ¬ 9223372036854775807 < 29 + (sv B).size := hs1
  have HK4 := hide (keep_ext (unhide HK3) #[o2] k2)
  have HX4 := hide (keep_ext (Keep.refl w3) #[o2] k2)
  clear hcv hby
  generalize sv (hd0 ++ 10 :: B) = SY at *
  generalize sv B = SB at *
  go_wp2_with fail
  (refine ((unhide T2) _ _ (unhide HK4) (unhide HBY)).mono ?_; rintro e w5 ⟨hk, b0, b1, b2, b3, b4, bN, bc, bS, bd, P2, rfl⟩; have HK5 := hide ((unhide HK4).trans hk); have HX5 := hide ((unhide HX4).trans hk); clear hk)
  clear cv1 cv2 hx0 hs0 hs1 hs2 HK4 HBY HX4
  go_upto_region 6 with fail
  have n2 := heap_alloc_new w5 (.cells #[.int .i64 b0, .int .i64 b1, .int .i64 b2, .int .i64 b3, .int .i64 b4, .slice bN mN bc, .slice bS mS bd, .int .i64 x2, .int .i64 y2] 28)
  have HK6 := hide ((unhide HK5).alloc (.cells #[.int .i64 b0, .int .i64 b1, .int .i64 b2, .int .i64 b3, .int .i64 b4, .slice bN mN bc, .slice bS mS bd, .int .i64 x2, .int .i64 y2] 28))
  have HX6 := hide ((unhide HX5).alloc (.cells #[.int .i64 b0, .int .i64 b1, .int .i64 b2, .int .i64 b3, .int .i64 b4, .slice bN mN bc, .slice bS mS bd, .int .i64 x2, .int .i64 y2] 28))
  generalize w5.alloc (.cells #[.int .i64 b0, .int .i64 b1, .int .i64 b2, .int .i64 b3, .int .i64 b4, .slice bN mN bc, .slice bS mS bd, .int .i64 x2, .int .i64 y2] 28) = w6 at n2 HK6 HX6 ⊢
  generalize w5.heap.size = yb at n2 ⊢
  have N2 := hide n2
  clear n2 HK5 HX5 HK3
  have n1 := ((unhide HX6).block xb (by rcases Nat.lt_or_ge xb w3.heap.size with h | h; exact h; have := unhide N1; rw [Array.getElem?_eq_none h] at this; cases this)).trans (unhide N1)
  have c5 : w6.cell? ⟨xb, 5, none⟩ = some (.slice aN nN ac) := by simp [World.cell?, n1]
  have c6 : w6.cell? ⟨xb, 6, none⟩ = some (.slice aS nS ad) := by simp [World.cell?, n1]
  have c7 : w6.cell? ⟨xb, 7, none⟩ = some (.int .i64 x) := by simp [World.cell?, n1]
  have c8 : w6.cell? ⟨xb, 8, none⟩ = some (.int .i64 y) := by simp [World.cell?, n1]
  have d5 : w6.cell? ⟨yb, 5, none⟩ = some (.slice bN mN bc) := by have := unhide N2; simp [World.cell?, this]
  have d6 : w6.cell? ⟨yb, 6, none⟩ = some (.slice bS mS bd) := by have := unhide N2; simp [World.cell?, this]
  have C5 := hide c5
  have D5 := hide d5
  have D6 := hide d6
  clear n1 N1 N2 HX6
  rcases (unhide HC) with ⟨g1, g2⟩ | ⟨rfl, g1, g2⟩ | ⟨rfl, rfl, g1⟩ | ⟨rfl, rfl, rfl, g1, g2⟩ | ⟨rfl, rfl, rfl, rfl, g1, g2⟩ | ⟨rfl, rfl, rfl, rfl, rfl, rfl⟩ | ⟨rfl, rfl, rfl, rfl, rfl, rfl, g1, rfl⟩ | ⟨rfl, rfl, rfl, rfl, rfl, rfl, g1, rfl, gp, gq⟩
  rotate_right 1
  have GP := hide gp
  have GQ := hide gq
  clear gp gq
  rotate_left 1
  · go_wp2_with fail
    (refine ((unhide T5) _ (unhide HK6)).mono ?_; rintro e w9 ⟨rfl, hk⟩; have HK9 := hide ((unhide HK6).trans hk); clear hk)
    go_wp2_with fail
    go_ret
    exact ⟨rfl, unhide HK9⟩
  · go_wp2_with fail
    (refine ((unhide T5) _ (unhide HK6)).mono ?_; rintro e w9 ⟨rfl, hk⟩; have HK9 := hide ((unhide HK6).trans hk); clear hk)
    go_wp2_with fail
    go_ret
    exact ⟨rfl, unhide HK9⟩
  · have g3 : (0 : Int) < (nS : Int) := by omega
    go_wp2_with fail
    (refine ((unhide T5) _ (unhide HK6)).mono ?_; rintro e w9 ⟨rfl, hk⟩; have HK9 := hide ((unhide HK6).trans hk); clear hk)
    go_wp2_with fail
    go_ret
    exact ⟨rfl, unhide HK9⟩
  · go_wp2_with fail
    (refine ((unhide T5) _ (unhide HK6)).mono ?_; rintro e w9 ⟨rfl, hk⟩; have HK9 := hide ((unhide HK6).trans hk); clear hk)
    go_wp2_with fail
    go_ret
    exact ⟨rfl, unhide HK9⟩
  · go_wp2_with fail
    (refine ((unhide T5) _ (unhide HK6)).mono ?_; rintro e w9 ⟨rfl, hk⟩; have HK9 := hide ((unhide HK6).trans hk); clear hk)
    go_wp2_with fail
    go_ret
    exact ⟨rfl, unhide HK9⟩
  · go_wp2_with fail
    (refine ((unhide T4) _ (unhide HK6)).mono ?_; rintro e w7 ⟨rfl, hk⟩; have HK7 := hide ((unhide HK6).trans hk); clear hk)
    go_wp2_with fail
    (refine ((unhide T5) _ (unhide HK7)).mono ?_; rintro e w9 ⟨rfl, hk⟩; have HK9 := hide ((unhide HK7).trans hk); clear hk)
    go_wp2_with fail
    go_ret
    exact ⟨rfl, unhide HK9⟩
  all_goals
    go_wp2_with fail
    (refine ((unhide T4) _ (unhide HK6)).mono ?_; rintro e w7 ⟨rfl, hk⟩; have HK7 := hide ((unhide HK6).trans hk); have HX7 := hide hk; clear hk)
    clear c5 c6 c7 c8 d5 d6
    have cv0 := by_str ((unhide HA).keep (unhide HK7)) (t := 22) (u := 9) Tryd.underlying22 Tryd.underlying9
    have cv1 := by_str ((unhide HB).keep (unhide HK7)) (t := 22) (u := 9) Tryd.underlying22 Tryd.underlying9
    have hx0 := hd_cat A
    have hx1 : sv (hd0 ++ 10 :: A) ++ ⟨#[10]⟩ ++ sv B = sv (hd0 ++ 10 :: A ++ 10 :: B) := by rw [← hd_cat A]; exact hd_cat2 A B
    have hs0 : (sv A).size = A.length := sv_size A
    have hs00 : (sv B).size = B.length := sv_size B
    have hs01 : (sv (hd0 ++ 10 :: A)).size = 29 + A.length := by rw [sv_size]; simp [hd0]; omega
    have hs02 : (sv (hd0 ++ 10 :: A) ++ ⟨#[10]⟩).size = 30 + A.length := by rw [show sv (hd0 ++ 10 :: A) ++ ⟨#[10]⟩ = sv (hd0 ++ 10 :: A ++ [10]) from sv_cat _ [10], sv_size]; simp [hd0]; omega
    obtain ⟨cp3, o3, k3, hcv, hby⟩ := str_by w7 (sv (hd0 ++ 10 :: A ++ 10 :: B))
    have cv2 := hcv 9 22 Tryd.underlying9 Tryd.underlying22
    rw [sv_back] at hby
    have HBY := hide hby
    have hs1 : ¬ 9223372036854775807 < (⟨#[99, 121, 99, 108, 101, 32, 49, 32, 116, 111, 32, 50, 32, 98, 121, 32, 51, 59, 32, 112, 101, 97, 107, 32, 52, 47, 53, 59, 10]⟩ : ByteArray).size + (sv A).size := by rw [hs0]; show ¬ _ < 29 + _; omega
    have hs2 : ¬ 9223372036854775807 < 29 + (sv A).size := hs1
    have hs3 : ¬ 9223372036854775807 < (sv (hd0 ++ 10 :: A)).size + (⟨#[10]⟩ : ByteArray).size := by rw [hs01]; show ¬ _ < _ + 1; omega
    have hs4 : ¬ 9223372036854775807 < (sv (hd0 ++ 10 :: A)).size + 1 := hs3
    have hs5 : ¬ 9223372036854775807 < (sv (hd0 ++ 10 :: A) ++ ⟨#[10]⟩).size + (sv B).size := by rw [hs02, hs00]; omega
    have HK8 := hide (keep_ext (unhide HK7) #[o3] k3)
    have HX8 := hide (keep_ext (unhide HX7) #[o3] k3)
    clear hcv hby hs0 hs00 hs01 hs02
    generalize hSU : sv (hd0 ++ 10 :: A) ++ ⟨#[10]⟩ = SU at hx1 hs5
    have hx2 := hSU
    clear hSU
    generalize sv (hd0 ++ 10 :: A ++ 10 :: B) = SV at *
    generalize sv (hd0 ++ 10 :: A) = SX at *
    generalize sv A = SA at *
    generalize sv B = SB at *
    go_wp2_with fail
    (refine ((unhide T3) _ _ (unhide HK8) (unhide HBY)).mono ?_; rintro e w8 ⟨hk, e0, e1, e2, e3, e4, eN, ec, eS, ed, P3, rfl⟩; have HK10 := hide ((unhide HK8).trans hk); have HX10 := hide ((unhide HX8).trans hk); clear hk)
    clear cv0 cv1 cv2 hx0 hx1 hx2 hs1 hs2 hs3 hs4 hs5
    go_upto_region 9 with fail
    have n3 := heap_alloc_new w8 (.cells #[.int .i64 e0, .int .i64 e1, .int .i64 e2, .int .i64 e3, .int .i64 e4, .slice eN pN ec, .slice eS pS ed, .int .i64 x3, .int .i64 y3] 28)
    have HK11 := hide ((unhide HK10).alloc (.cells #[.int .i64 e0, .int .i64 e1, .int .i64 e2, .int .i64 e3, .int .i64 e4, .slice eN pN ec, .slice eS pS ed, .int .i64 x3, .int .i64 y3] 28))
    have HX11 := hide ((unhide HX10).alloc (.cells #[.int .i64 e0, .int .i64 e1, .int .i64 e2, .int .i64 e3, .int .i64 e4, .slice eN pN ec, .slice eS pS ed, .int .i64 x3, .int .i64 y3] 28))
    generalize w8.alloc (.cells #[.int .i64 e0, .int .i64 e1, .int .i64 e2, .int .i64 e3, .int .i64 e4, .slice eN pN ec, .slice eS pS ed, .int .i64 x3, .int .i64 y3] 28) = w11 at n3 HK11 HX11 ⊢
    generalize w8.heap.size = zb at n3 ⊢
    have c5 := (unhide HX11).cell' (unhide C5)
    have d5 := (unhide HX11).cell' (unhide D5)
    have d6 := (unhide HX11).cell' (unhide D6)
    have e5 : w11.cell? ⟨zb, 5, none⟩ = some (.slice eN pN ec) := by simp [World.cell?, n3]
    have e6 : w11.cell? ⟨zb, 6, none⟩ = some (.slice eS pS ed) := by simp [World.cell?, n3]
    have hwr : wrap64 ((nN : Int) + (mN : Int)) = ((nN + mN : Nat) : Int) := by unfold wrap64; omega
    clear n3
  · have g2 : (12 : Int) < ((nN + mN : Nat) : Int) := by omega
    go_wp2_with fail
    (refine ((unhide T5) _ (unhide HK11)).mono ?_; rintro e w9 ⟨rfl, hk⟩; have HK9 := hide ((unhide HK11).trans hk); clear hk)
    go_wp2_with fail
    go_ret
    exact ⟨rfl, unhide HK9⟩
  · have g2 : ¬ (12 : Int) < ((nN + mN : Nat) : Int) := by omega
    have gp := unhide GP
    have gq := unhide GQ
    clear GP GQ
    subst gp gq
    go_wp2_with fail
    (refine ((unhide T5) _ (unhide HK11)).mono ?_; rintro e w9 ⟨rfl, hk⟩; have HK9 := hide ((unhide HK11).trans hk); clear hk)
    go_wp2_with fail
    go_ret
    exact ⟨rfl, unhide HK9⟩
end Go.Proofs.YtdnlghenlmjodaaDoor.nodes
