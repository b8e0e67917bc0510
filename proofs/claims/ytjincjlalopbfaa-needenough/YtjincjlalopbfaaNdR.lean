/- What phases need, in a node that may be: enough for each head and walk. No program is met here. -/
import Derived.Test.YtjincjlalopbfaaNdT
import Derived.Test.YtjincjlalopbfaaNdL
import Derived.Deep.DrawnRows
import Derived.Deep.RegionHeld3
namespace Go.Proofs.Ytjincjlalopbfaa
open Go.RowKit
set_option linter.unusedVariables false
set_option linter.unusedSimpArgs false
set_option maxRecDepth 10000
namespace Nd
open S V
theorem fm_base (f : Nat → Int) (a : Int) : ∀ n, a ≤ fm f a n
  | 0 => Int.le_refl _
  | n + 1 => by
    have := fm_base f a n
    rw [fm]
    split <;> omega
theorem fm_ge (f : Nat → Int) (a : Int) {m : Nat} : ∀ n, m < n → f m ≤ fm f a n
  | 0, h => by omega
  | n + 1, h => by
    rw [fm]
    rcases Nat.lt_succ_iff_lt_or_eq.1 h with e | e
    · have := fm_ge f a n e
      split <;> omega
    · subst e
      split <;> omega
theorem fm_le (f : Nat → Int) (a c : Int) (ha : a ≤ c) : ∀ n, (∀ m, m < n → f m ≤ c) → fm f a n ≤ c
  | 0, _ => ha
  | n + 1, h => by
    have h1 := fm_le f a c ha n (fun m hm => h m (by omega))
    have h2 := h n (by omega)
    rw [fm]
    split <;> omega
theorem ix_hit {B : Nat → Bool} : ∀ m k, 0 ≤ ix B k m → ∃ j, k ≤ j ∧ j < k + m ∧ ix B k m = (j : Int) ∧ B j = true
  | 0, k, h => by simp [ix] at h
  | m + 1, k, h => by
    unfold ix at h ⊢
    by_cases hb : B k = true
    · rw [if_pos hb]; exact ⟨k, Nat.le_refl _, by omega, rfl, hb⟩
    · rw [if_neg hb] at h ⊢
      obtain ⟨j, h1, h2, h3, h4⟩ := ix_hit m (k + 1) h
      exact ⟨j, by omega, by omega, h3, h4⟩
theorem ix_first {B : Nat → Bool} {j : Nat} (hj : B j = true) : ∀ m k, k ≤ j → j < k + m → ix B k m ≤ (j : Int)
  | 0, k, h1, h2 => by omega
  | m + 1, k, h1, h2 => by
    unfold ix
    split
    · omega
    · rename_i hb
      rcases Nat.eq_or_lt_of_le h1 with e | e
      · rw [e] at hb; exact absurd hj hb
      · exact ix_first hj m (k + 1) (by omega) (by omega)
/-- a head's name leads to its own place -/
theorem head_self {L1 : List (List D)} (h : hdE L1 = none) {k : Nat} (hk : k < L1.length) : nI L1 (V.tn L1 k) = (k : Int) := by
  have h1 := fE_none _ _ h k (Nat.zero_le _) (by omega)
  have h2 : hs (mk (V.tn L1) k) (V.tn L1 k) = false := by
    cases hb : hs (mk (V.tn L1) k) (V.tn L1 k) with
    | false => rfl
    | true => unfold hdF at h1; rw [if_pos hb] at h1; cases h1
  have h3 := V.ahead (V.tn L1) hk
  have h4 : ¬ ix (fun j => V.tn L1 j == V.tn L1 k) 0 L1.length < (k : Int) := fun e => by rw [h3, h2] at e; cases e
  have h5 := ix_first (B := fun j => V.tn L1 j == V.tn L1 k) (j := k) (by simp) L1.length 0 (Nat.zero_le _) (by omega)
  unfold nI
  omega
theorem rng_of {L1 : List (List D)} (h : hdE L1 = none) {k : Nat} (hk : k < L1.length) : 1 ≤ iv L1 5 k ∧ iv L1 5 k ≤ 10000 ∧ -200 ≤ iv L1 6 k ∧ iv L1 6 k ≤ 200 ∧ 0 ≤ iv L1 7 k ∧ iv L1 7 k ≤ 100000 ∧ 0 ≤ iv L1 8 k ∧ iv L1 8 k ≤ 100000 ∧ 1 ≤ iv L1 9 k ∧ iv L1 9 k ≤ 6000 := by
  have h1 := fE_none _ _ h k (Nat.zero_le _) (by omega)
  unfold hdF at h1
  split at h1
  · cases h1
  · split at h1
    · rename_i hr
      simp only [rngB, btw, Bool.and_eq_true, decide_eq_true_eq] at hr
      omega
    · cases h1
/-- where a head's phase is -/
theorem home_of {L1 L2 L3 L4 L5 : List (List D)} {p : Int} (h : nodeL L1 L2 L3 L4 L5 p = none) {k : Nat} (hk : k < L1.length) : ∃ j o : Nat, hI L3 (V.tn L1 k) = (j : Int) ∧ j < L3.length ∧ o < ln L3 1 j ∧ jH L1 L3 j o = k := by
  obtain ⟨h0, h1, h2, h3, h4, h5, h6, h7⟩ := node_parts h
  have hh := (hI_hs (V.tn L1 k)).2 (lt_has h3 k hk)
  obtain ⟨j, _, hj, e, hb⟩ := ix_hit L3.length 0 hh
  have hb' : cI (sub L3 1 j) (V.tn L1 k) = true := hb
  unfold cI at hb'
  rw [decide_eq_true_eq] at hb'
  obtain ⟨o, _, ho, e2, hb2⟩ := ix_hit _ 0 hb'
  have e3 : V.tn L1 k = V.tn (sub L3 1 j) o := by simpa using hb2
  refine ⟨j, o, e, by omega, by unfold ln; omega, ?_⟩
  have e4 : sb L3 1 j o = V.tn L1 k := e3.symm
  unfold jH
  rw [e4, head_self h1 hk, Int.toNat_natCast]
theorem yN_of {s g : Int} (h1 : 1 ≤ s) (h2 : s ≤ 10000) (h3 : -200 ≤ g) (h4 : g ≤ 200) : yN s g = 10 + up (10000 * s) (610000 + 1962 * g) := by
  unfold yN yK
  rw [if_pos (by simp; omega)]
theorem rN_of {a b s : Int} (h1 : 0 ≤ a) (h2 : a ≤ 100000) (h3 : 0 ≤ b) (h4 : b ≤ 100000) (h5 : 1 ≤ s) (h6 : s ≤ 10000) : rN a b s = up (10 * (a + b)) s := by
  unfold rN rK
  rw [if_pos (by simp; omega)]
theorem y_le {s g : Int} (h1 : 1 ≤ s) (h2 : s ≤ 10000) (h3 : -200 ≤ g) (h4 : g ≤ 200) : yN s g ≤ 100000010 := by
  rw [yN_of h1 h2 h3 h4]
  have := up_small (n := 10000 * s) (d := 610000 + 1962 * g) (by omega) (by omega)
  omega
theorem r_le {a b s : Int} (h1 : 0 ≤ a) (h2 : a ≤ 100000) (h3 : 0 ≤ b) (h4 : b ≤ 100000) (h5 : 1 ≤ s) (h6 : s ≤ 10000) : rN a b s ≤ 2000000 := by
  rw [rN_of h1 h2 h3 h4 h5 h6]
  have := up_small (n := 10 * (a + b)) (d := s) (by omega) (by omega)
  omega
theorem wrp {n : Int} (h1 : -9223372036854775808 ≤ n) (h2 : n ≤ 9223372036854775807) : IntKind.i64.wrap n = n := by rw [IntKind.wrap_i64]; omega
/-- yellow and red are enough, and nothing goes round on the way -/
theorem enough_head {y r s g a b : Int} (hs1 : 1 ≤ s) (hs2 : s ≤ 10000) (hg1 : -200 ≤ g) (hg2 : g ≤ 200) (ha1 : 0 ≤ a) (ha2 : a ≤ 100000) (hb1 : 0 ≤ b) (hb2 : b ≤ 100000) (hy1 : yN s g ≤ y) (hy2 : y ≤ 100000010) (hr1 : rN a b s ≤ r) (hr2 : r ≤ 2000000) :
    IntKind.i64.wrap (1962 * g) = 1962 * g ∧ IntKind.i64.wrap (610000 + 1962 * g) = 610000 + 1962 * g ∧ IntKind.i64.wrap (y - 10) = y - 10 ∧ IntKind.i64.wrap ((y - 10) * (610000 + 1962 * g)) = (y - 10) * (610000 + 1962 * g) ∧ IntKind.i64.wrap (10000 * s) = 10000 * s ∧ ¬ (y - 10) * (610000 + 1962 * g) < 10000 * s ∧ IntKind.i64.wrap (r * s) = r * s ∧ IntKind.i64.wrap (a + b) = a + b ∧ IntKind.i64.wrap (10 * (a + b)) = 10 * (a + b) ∧ ¬ r * s < 10 * (a + b) := by
  have hd : 0 < 610000 + 1962 * g := by omega
  rw [yN_of hs1 hs2 hg1 hg2] at hy1
  rw [rN_of ha1 ha2 hb1 hb2 hs1 hs2] at hr1
  have u1 := up_ge (n := 10000 * s) hd
  have u2 := up_ge (n := 10 * (a + b)) (d := s) (by omega)
  have n1 := up_nn (n := 10000 * s) hd (by omega)
  have n2 := up_nn (n := 10 * (a + b)) (d := s) (by omega) (by omega)
  have m1 : up (10000 * s) (610000 + 1962 * g) * (610000 + 1962 * g) ≤ (y - 10) * (610000 + 1962 * g) := Int.mul_le_mul_of_nonneg_right (by omega) (by omega)
  have m2 : up (10 * (a + b)) s * s ≤ r * s := Int.mul_le_mul_of_nonneg_right hr1 (by omega)
  have m3 : (y - 10) * (610000 + 1962 * g) ≤ 100000000 * (610000 + 1962 * g) := Int.mul_le_mul_of_nonneg_right (by omega) (by omega)
  have m4 : r * s ≤ 2000000 * s := Int.mul_le_mul_of_nonneg_right hr2 (by omega)
  exact ⟨wrp (by omega) (by omega), wrp (by omega) (by omega), wrp (by omega) (by omega), wrp (by omega) (by omega), wrp (by omega) (by omega), by omega, wrp (by omega) (by omega), wrp (by omega) (by omega), wrp (by omega) (by omega), by omega⟩
theorem needs_le {L1 L2 L3 L4 L5 : List (List D)} {p : Int} (h : nodeL L1 L2 L3 L4 L5 p = none) {k : Nat} (hk : k < L3.length) : yW L1 L3 k ≤ 100000010 ∧ rW L1 L3 k ≤ 2000000 := by
  have hd := (node_parts h).2.1
  constructor
  · refine fm_le _ _ _ (by omega) _ (fun m hm => ?_)
    obtain ⟨a1, a2, a3, a4, a5, a6, a7, a8, a9, a10⟩ := rng_of hd (j_ok h hk hm).1
    exact y_le a1 a2 a3 a4
  · refine fm_le _ _ _ (by omega) _ (fun m hm => ?_)
    obtain ⟨a1, a2, a3, a4, a5, a6, a7, a8, a9, a10⟩ := rng_of hd (j_ok h hk hm).1
    exact r_le a5 a6 a7 a8 a1 a2
/-! ### walks -/
theorem wlk_cq (T U : Nat → List UInt8) (V F : Nat → Int) (nm : List UInt8) : ∀ m, (wlk T U V F nm m).length = cq (fun o => U o == nm) m
  | 0 => rfl
  | m + 1 => by
    rw [wlk, List.length_append, wlk_cq T U V F nm m]
    show _ = cq _ m + (if (U m == nm) then 1 else 0)
    by_cases hb : (U m == nm) = true
    · rw [if_pos hb, if_pos hb]; rfl
    · rw [if_neg hb, if_neg hb]; rfl
theorem ws_add (f g : Nat → Nat) : ∀ n, ws (fun k => f k + g k) n = ws f n + ws g n
  | 0 => rfl
  | n + 1 => by rw [ws, ws, ws, ws_add f g n]; omega
theorem ws_cq (B : Nat → Bool) : ∀ n, ws (fun k => if B k then 1 else 0) n = cq B n
  | 0 => rfl
  | n + 1 => by rw [ws, ws_cq B n]; rfl
theorem ws_zero : ∀ n, ws (fun _ => 0) n = 0
  | 0 => rfl
  | n + 1 => by rw [ws, ws_zero n]
theorem mk_nodup {T : Nat → List UInt8} : ∀ n, (∀ k, k < n → hs (mk T k) (T k) = false) → ((mk T n).map Prod.fst).Nodup
  | 0, _ => by simp [mk]
  | n + 1, h => by
    rw [mk_succ]
    exact add_nodup _ (mk_nodup n (fun k hk => h k (by omega))) (h n (by omega))
theorem mk_fst (T : Nat → List UInt8) (n : Nat) : (mk T n).map Prod.fst = (List.range n).map T := by simp [mk, List.map_map, Function.comp_def]
/-- each walk is with one phase -/
theorem walks_all {T U : Nat → List UInt8} {n3 : Nat} (h1 : ∀ k, k < n3 → hs (mk T k) (T k) = false) : ∀ n2, (∀ m, m < n2 → hs (mk T n3) (U m) = true) → ws (fun k => cq (fun m => U m == T k) n2) n3 = n2
  | 0, _ => ws_zero n3
  | n2 + 1, h2 => by
    have e : (fun k => cq (fun m => U m == T k) (n2 + 1)) = fun k => cq (fun m => U m == T k) n2 + (if (T k == U n2) then 1 else 0) := by
      funext k
      show cq _ n2 + (if (U n2 == T k) then 1 else 0) = _
      have : (U n2 == T k) = (T k == U n2) := by rw [Bool.eq_iff_iff, beq_iff_eq, beq_iff_eq]; exact eq_comm
      rw [this]
    rw [e, ws_add, walks_all h1 n2 (fun m hm => h2 m (by omega)), ws_cq, cq_count, ← mk_fst, List.Nodup.count (mk_nodup n3 h1), if_pos (hs_mem.1 (h2 n2 (by omega)))]
theorem walks_sum {L1 L2 L3 L4 L5 : List (List D)} {p : Int} (h : nodeL L1 L2 L3 L4 L5 p = none) : ws (fun k => (wL L2 (V.tn L3 k)).length) L3.length = L2.length := by
  obtain ⟨h0, h1, h2, h3, h4, h5, h6, h7⟩ := node_parts h
  have e : (fun k => (wL L2 (V.tn L3 k)).length) = fun k => cq (fun m => un L2 m == V.tn L3 k) L2.length := by funext k; exact wlk_cq _ _ _ _ _ _
  rw [e]
  refine walks_all (fun k hk => ?_) _ (fun m hm => ?_)
  · have h8 := fE_none _ _ h2 k (Nat.zero_le _) (by omega)
    cases hb : hs (mk (V.tn L3) k) (V.tn L3 k) with
    | false => rfl
    | true => unfold phF at h8; rw [if_pos hb] at h8; cases h8
  · have h8 := fE_none _ _ h4 m (Nat.zero_le _) (by omega)
    unfold wkF at h8
    split at h8
    · cases h8
    · split at h8
      · assumption
      · cases h8
end Nd
end Go.Proofs.Ytjincjlalopbfaa

namespace Go.Proofs.Ytjincjlalopbfaa
open Go.RowKit
attribute [local go_sem ↓] Go.wp_at_zero Go.wp_at_succ
set_option linter.unusedVariables false
set_option linter.unusedSimpArgs false
set_option maxRecDepth 10000
namespace Nd
theorem ndc_len {P : Nat → List UInt8} {G Y R : Nat → Int} {XZ : Nat → Int × Int} {vs : List Value} : ∀ n, (ndc P G Y R XZ vs n).length = n * 7
  | 0 => rfl
  | n + 1 => by rw [ndc, List.length_append, ndc_len n]; simp; omega
theorem ndc_at {P : Nat → List UInt8} {G Y R : Nat → Int} {XZ : Nat → Int × Int} {vs : List Value} : ∀ n k, k < n → ∀ j, j < 7 → (ndc P G Y R XZ vs n)[k * 7 + j]? = [.string (sv (P k)), .int .i64 (G k), .int .i64 (Y k), .int .i64 (R k), .int .i64 (XZ k).1, .int .i64 (XZ k).2, vs.getD k (.bool false)][j]?
  | 0, k, h, j, _ => by omega
  | n + 1, k, h, j, hj => by
    rw [ndc]
    rcases Nat.lt_succ_iff_lt_or_eq.1 h with e | e
    · rw [List.getElem?_append_left (by rw [ndc_len]; omega)]
      exact ndc_at n k e j hj
    · subst e
      rw [List.getElem?_append_right (by rw [ndc_len]; omega), ndc_len, Nat.add_sub_cancel_left]
/-- needs as they lie in memory -/
theorem own_nds {w : World} {n : Nat} {P : Nat → List UInt8} {G Y R : Nat → Int} {XZ : Nat → Int × Int} {WL : Nat → List (List UInt8 × Int × Int)} {v : Value} {vs : List Value} (h : w.ownsRow 0 46 7 v n (ndc P G Y R XZ vs n)) (hw : Wr w WL vs n) :
    ∃ la lc, v = .slice la n lc ∧ ∀ k, k < n → ∃ ad a c, la = some ad ∧ ad.block < w.heap.size ∧ w.cell? (ad.add (k * 7)) = some (.string (sv (P k))) ∧ w.cell? ⟨(ad.add (k * 7)).block, (ad.add (k * 7)).off + 1, none⟩ = some (.int .i64 (G k)) ∧ w.cell? ⟨(ad.add (k * 7)).block, (ad.add (k * 7)).off + 2, none⟩ = some (.int .i64 (Y k)) ∧ w.cell? ⟨(ad.add (k * 7)).block, (ad.add (k * 7)).off + 3, none⟩ = some (.int .i64 (R k)) ∧ w.cell? ⟨(ad.add (k * 7)).block, (ad.add (k * 7)).off + 4, none⟩ = some (.int .i64 (XZ k).1) ∧ w.cell? ⟨(ad.add (k * 7)).block, (ad.add (k * 7)).off + 5, none⟩ = some (.int .i64 (XZ k).2) ∧ w.cell? ⟨(ad.add (k * 7)).block, (ad.add (k * 7)).off + 6, none⟩ = some (.slice a (WL k).length c) ∧ w.ownsRow 0 48 3 (.slice a (WL k).length c) (WL k).length (wcs (WL k)) := by
  obtain ⟨la, lc, rfl, hlc⟩ := own_sl2 h
  refine ⟨la, lc, rfl, fun k hk => ?_⟩
  obtain ⟨g, cap, e, hg, _, _, hc⟩ := own_cell h (by omega)
  cases e
  have hv := hw.2 k hk
  obtain ⟨a, c, e2, _⟩ := own_sl2 hv
  have h7 := ndc_at (P := P) (G := G) (Y := Y) (R := R) (XZ := XZ) (vs := vs) n k hk
  rw [e2] at h7 hv
  refine ⟨⟨g, 0, none⟩, a, c, rfl, hg, ?_⟩
  rw [W.add_pl]
  simp only [Nat.zero_add]
  exact ⟨hc _ _ (h7 0 (by omega)), hc _ _ (h7 1 (by omega)), hc _ _ (h7 2 (by omega)), hc _ _ (h7 3 (by omega)), hc _ _ (h7 4 (by omega)), hc _ _ (h7 5 (by omega)), hc _ _ (h7 6 (by omega)), hv⟩
theorem ndr_of {w : World} {n : Nat} {P : Nat → List UInt8} {G Y R : Nat → Int} {XZ : Nat → Int × Int} {WL : Nat → List (List UInt8 × Int × Int)} {v : Value} {vs : List Value} (h : w.ownsRow 0 46 7 v n (ndc P G Y R XZ vs n)) (hw : Wr w WL vs n) :
    ∃ la lc, v = .slice la n lc ∧ Ndr w la n G Y R (fun k => (WL k).length) (fun k m => ((WL k).getD m ([], 0, 0)).2.1) (fun k m => ((WL k).getD m ([], 0, 0)).2.2) := by
  obtain ⟨la, lc, e, hk⟩ := own_nds h hw
  refine ⟨la, lc, e, fun k hlt => ?_⟩
  obtain ⟨ad, a, c, e1, hb, h0, h1, h2, h3, h4, h5, h6, ho⟩ := hk k hlt
  refine ⟨ad, a, c, e1, hb, h1, h2, h3, h6, fun m hm => ?_⟩
  obtain ⟨wd, e2, hb2, g0, g1, g2⟩ := own_wlk ho m hm
  exact ⟨wd, e2, hb2, g1, g2⟩
theorem infoI : (Try.prog.info? 2).map (fun i => (i.zero, i.size, i.bytes)) = some (some (.int .i64 0), 1, 8) := by kernel_rfl
/-- numbers as cells -/
def ics (S : Nat → Int) : Nat → List Value
  | 0 => []
  | k + 1 => ics S k ++ [.int .i64 (S k)]
set_option maxHeartbeats 4000000 in
theorem least_core (la : Option Addr) (n lc : Nat) (P : Nat → List UInt8) (G Y R : Nat → Int) (XZ : Nat → Int × Int) (WA : Nat → Option Addr) (WN WC : Nat → Nat) (s1 s2 : Nat → Int) (w : World) (hn : n ≤ 1000)
    (HC : Hid (∀ k, k < n → ∃ ad, la = some ad ∧ ad.block < w.heap.size ∧ w.cell? (ad.add (k * 7)) = some (.string (sv (P k))) ∧ w.cell? ⟨(ad.add (k * 7)).block, (ad.add (k * 7)).off + 1, none⟩ = some (.int .i64 (G k)) ∧ w.cell? ⟨(ad.add (k * 7)).block, (ad.add (k * 7)).off + 2, none⟩ = some (.int .i64 (Y k)) ∧ w.cell? ⟨(ad.add (k * 7)).block, (ad.add (k * 7)).off + 3, none⟩ = some (.int .i64 (R k)) ∧ w.cell? ⟨(ad.add (k * 7)).block, (ad.add (k * 7)).off + 4, none⟩ = some (.int .i64 (XZ k).1) ∧ w.cell? ⟨(ad.add (k * 7)).block, (ad.add (k * 7)).off + 5, none⟩ = some (.int .i64 (XZ k).2) ∧ w.cell? ⟨(ad.add (k * 7)).block, (ad.add (k * 7)).off + 6, none⟩ = some (.slice (WA k) (WN k) (WC k))))
    (HS : Hid (∀ k, k < n → wrap64 (G k + Y k) = s1 k ∧ wrap64 (s1 k + R k) = s2 k)) :
    Calls Try.prog 14 #[.slice la n lc] w fun e w' => ∃ v, e = .returned v ∧ Keep w w' ∧ w'.ownsRow w.heap.size 2 1 v n (ics s2 n) := by
  obtain ⟨i0, hi0, hz0, hz1, hz2⟩ := W.info_f infoI
  obtain ⟨ZZ, hZ, hmk⟩ : ∃ ZZ : Array Value, ZZ.size = n * 1 ∧ ∀ w, (Instr.makeSlice 66 (.int .i64 0) (.int .i64 (n : Int))).run Try.prog w = .ok (.slice (some ⟨w.heap.size, 0, none⟩) 0 n) (w.alloc (.cells ZZ 2)) := by
    refine ⟨madeCells (Value.int .i64 0).cells (n * 1), by simp [size_madeCells], fun w => ?_⟩
    have h := run_make (P := Try.prog) w 66 2 i0 _ Try.underlying66 hi0 hz0 .i64 .i64 0 (n : Int) (by omega) (by omega) (by rw [hz2]; omega) (by omega)
    rw [hz1] at h
    simpa using h
  have hrow0 := hide (World.ownsRow_made (base := w.heap.size) (e := 2) (size := 1) w ZZ n (Nat.le_refl _) (by unfold maxLen; omega) hZ)
  have K0 := hide ((Keep.refl w).alloc (.cells ZZ 2))
  go_enter Try.func14, Try.ntmps14
  go_upto_region 2 with fail
  generalize w.alloc (.cells ZZ 2) = w0 at hrow0 K0 ⊢
  go_wp2_with fail
  go_loopw [3, 11] (fun va vi wr => ∃ k : Nat, k ≤ n ∧ vi = .int .i64 (k : Int) ∧ Hid (wr.ownsRow w.heap.size 2 1 va k (ics s2 k)) ∧ Hid (Keep w wr)) (fun va vi _ => n - (intOf vi).toNat)
  case atStart => exact ⟨0, Nat.zero_le _, rfl, hrow0, K0⟩
  case round =>
    obtain ⟨k, hk, rfl, OWK, KW⟩ := hrel
    by_cases hlt : k < n
    · have li : (k : Int) < (n : Int) := by omega
      obtain ⟨ad, rfl, hb, e0, e1, e2, e3, e4, e5, e6⟩ := (uq HC) k hlt
      have y0 := V.far_cell (uq KW) (by rw [V.add_block9]; exact hb) e0
      have y1 := V.far_cell (uq KW) (by show (ad.add (k * 7)).block < _; rw [V.add_block9]; exact hb) e1
      have y2 := V.far_cell (uq KW) (by show (ad.add (k * 7)).block < _; rw [V.add_block9]; exact hb) e2
      have y3 := V.far_cell (uq KW) (by show (ad.add (k * 7)).block < _; rw [V.add_block9]; exact hb) e3
      have y4 := V.far_cell (uq KW) (by show (ad.add (k * 7)).block < _; rw [V.add_block9]; exact hb) e4
      have y5 := V.far_cell (uq KW) (by show (ad.add (k * 7)).block < _; rw [V.add_block9]; exact hb) e5
      have y6 := V.far_cell (uq KW) (by show (ad.add (k * 7)).block < _; rw [V.add_block9]; exact hb) e6
      clear e0 e1 e2 e3 e4 e5 e6
      have hbx := heap_alloc_new wr (.cells #[.string (sv (P k)), .int .i64 (G k), .int .i64 (Y k), .int .i64 (R k), .int .i64 (XZ k).1, .int .i64 (XZ k).2, .slice (WA k) (WN k) (WC k)] 46)
      have KA := hide ((Keep.refl wr).alloc (.cells #[.string (sv (P k)), .int .i64 (G k), .int .i64 (Y k), .int .i64 (R k), .int .i64 (XZ k).1, .int .i64 (XZ k).2, .slice (WA k) (WN k) (WC k)] 46))
      go_upto_region 5 with fail
      generalize wr.alloc (.cells #[.string (sv (P k)), .int .i64 (G k), .int .i64 (Y k), .int .i64 (R k), .int .i64 (XZ k).1, .int .i64 (XZ k).2, .slice (WA k) (WN k) (WC k)] 46) = wa at hbx KA ⊢
      obtain ⟨q, HQ⟩ : ∃ q, Hid (wr.heap.size = q) := ⟨_, hide rfl⟩
      rw [uq HQ] at hbx ⊢
      have f1 : wa.cell? ⟨q, 1, none⟩ = some (.int .i64 (G k)) := by simp [World.cell?, hbx]
      have f2 : wa.cell? ⟨q, 2, none⟩ = some (.int .i64 (Y k)) := by simp [World.cell?, hbx]
      have f3 : wa.cell? ⟨q, 3, none⟩ = some (.int .i64 (R k)) := by simp [World.cell?, hbx]
      clear hbx y0 y1 y2 y3 y4 y5 y6
      obtain ⟨h1, h2⟩ := (uq HS) k hlt
      have KW2 := hide ((uq KW).trans (uq KA))
      have OW2 := hide (W.own_k (uq OWK) (uq KA))
      have hsz := Below.size (uq KW2)
      go_wp2_with (at_builtin; refine wpList_append_own _ rfl _ _ 66 rfl w.heap.size 2 i0 _ 1 8 Try.underlying66 hi0 hz0 hz1 hz2 rfl (by decide) _ _ _ rfl ((uq OW2).alloc _) ⟨wa.heap.size, 0, none⟩ 1 1 [.int .i64 (s2 k)] rfl rfl (new_v wa [.int .i64 (s2 k)] _) (by simp [Value.oneCell']) (by unfold maxLen; omega) (by omega) (by simp; omega) ?_; intro v' w4 hown' hgrow hnil; have HOWN := hide hown'; have HK4 : Hid (Keep w w4) := hide (Below.grown ((uq KW2).alloc _) hgrow (by simp; omega) (fun j ej => ((uq OW2).lt j ej).1)); clear hown' hgrow hnil)
      go_roundw
      case rel => exact ⟨k + 1, hlt, by go_num, HOWN, HK4⟩
      case measure => simp [intOf]; omega
    · have li : ¬ (k : Int) < (n : Int) := by omega
      obtain rfl : k = n := by omega
      go_wp2_with fail
      go_ret
      exact ⟨_, rfl, uq KW, uq OWK⟩
end Nd
end Go.Proofs.Ytjincjlalopbfaa
