/- Package valid: a node, by its tree. -/
import Derived.Test.YtjincjlalopbfaaVFew
import Derived.Test.YtjincjlalopbfaaVNs
import Derived.Test.YtjincjlalopbfaaVSt
import Derived.Test.YtjincjlalopbfaaVNd
import Derived.Test.YtjincjlalopbfaaNPlc
import Derived.Test.YtjincjlalopbfaaNVal
namespace Go.Proofs.Ytjincjlalopbfaa
open Go.RowKit
set_option linter.unusedVariables false
set_option linter.unusedSimpArgs false
set_option maxRecDepth 10000
namespace V
open S
/-- of a row's things: the name; the j-th number; how long the j-th row is; the names of the j-th row -/
def tn (L : List (List D)) (k : Nat) : List UInt8 := tS (gt (L.getD k []) 0)
def un (L : List (List D)) (k : Nat) : List UInt8 := tS (gt (L.getD k []) 1)
def iv (L : List (List D)) (j k : Nat) : Int := fI (gt (L.getD k []) j)
def sub (L : List (List D)) (j k : Nat) : List (List D) := fL (gt (L.getD k []) j)
def ln (L : List (List D)) (j k : Nat) : Nat := (sub L j k).length
def sb (L : List (List D)) (j k m : Nat) : List UInt8 := tn (sub L j k) m
theorem mem_at {L : List (List D)} {k : Nat} (hk : k < L.length) : L.getD k [] ∈ L := by rw [List.getD_eq_getElem?_getD, List.getElem?_eq_getElem hk]; exact List.getElem_mem hk
theorem nm0 {ts : List Ty} {ds : List D} (h : ShL (.s :: ts) ds) : (tS (gt ds 0)).length ≤ maxLen := by
  simp only [ShL, Sh1] at h
  obtain ⟨_, _, rfl, ⟨l, rfl, hl⟩, _⟩ := h
  exact hl
theorem nm1 {t : Ty} {ts : List Ty} {ds : List D} (h : ShL (t :: .s :: ts) ds) : (tS (gt ds 1)).length ≤ maxLen := by
  simp only [ShL, Sh1] at h
  obtain ⟨_, _, rfl, _, ⟨_, _, rfl, ⟨l, rfl, hl⟩, _⟩⟩ := h
  exact hl
theorem clName {w : World} {a : Option Addr} {L : List (List D)} (hL : ∀ ds ∈ L, ShL nameT ds) (HA : Rvss w a 1 L 0) (k : Nat) (hk : k < L.length) : ∃ ad, a = some ad ∧ ad.block < w.heap.size ∧ w.cell? (ad.add k) = some (.string (sv (tn L k))) ∧ (tn L k).length ≤ maxLen := by
  obtain ⟨ad, us, rfl, hb, h1, h2, h3⟩ := rvss_at L 0 HA k hk
  have hs := hL _ (mem_at hk)
  unfold tn
  generalize L.getD k [] = ds at h1 hs ⊢
  simp only [ShL, Sh1, nameT] at hs
  obtain ⟨_, _, rfl, ⟨s0, rfl, hl⟩, rfl⟩ := hs
  simp only [Rvs, Rv, dS] at h1
  obtain ⟨_, _, rfl, rfl, rfl⟩ := h1
  have := h3 0 _ rfl
  rw [Nat.zero_add, Nat.mul_one] at this
  exact ⟨ad, rfl, hb, this, hl⟩
def hdE (L : List (List D)) : Eq2 := fE (hdF (tn L) (fun k => rngB (iv L 1 k) (iv L 2 k) (iv L 3 k) (iv L 4 k) (iv L 5 k) (iv L 6 k) (iv L 7 k) (iv L 8 k) (iv L 9 k)) (iv L 10)) 0 L.length
theorem heads_any {w : World} {a : Option Addr} {cap : Nat} {L : List (List D)} (hL : ∀ ds ∈ L, ShL headT ds) (HA : Rvss w a 11 L 0) (hn : L.length ≤ maxLen) : Calls Try.prog 64 #[.slice a L.length cap] w (Hq (hdE L) (mk (tn L) L.length) w) :=
  heads_core a L.length cap (tn L) (iv L 1) (iv L 2) (iv L 3) (iv L 4) (iv L 5) (iv L 6) (iv L 7) (iv L 8) (iv L 9) (iv L 10) _ w hn (hide fun k hk => nm0 (hL _ (mem_at hk))) (hide fun k hk => clHead (Keep.refl w) hL HA k hk) (hide rfl)
def wkE (L : List (List D)) (MP : List (List UInt8 × Int)) : Eq2 := fE (wkF (tn L) (un L) MP (iv L 2) (iv L 3) (iv L 4) (iv L 5)) 0 L.length
theorem walks_any {w : World} {a : Option Addr} {cap bp : Nat} {L : List (List D)} {MP : List (List UInt8 × Int)} (hL : ∀ ds ∈ L, ShL pedT ds) (HA : Rvss w a 6 L 0) (hn : L.length ≤ maxLen) (hM : Mp w bp MP) : Calls Try.prog 66 #[.slice a L.length cap, .map (some bp)] w (Nq (wkE L MP) w) :=
  walks_core a L.length cap bp (tn L) (un L) MP (iv L 2) (iv L 3) (iv L 4) (iv L 5) _ w hn (hide hM) (hide fun k hk => ⟨nm0 (hL _ (mem_at hk)), nm1 (hL _ (mem_at hk))⟩) (hide fun k hk => clPed (Keep.refl w) hL HA k hk) (hide rfl)
def foE (L : List (List D)) (M : List (List UInt8 × Int)) : Eq2 := fE (foF (tn L) (un L) M (iv L 2)) 0 L.length
theorem foes_any {w : World} {a : Option Addr} {cap bp : Nat} {L : List (List D)} {M : List (List UInt8 × Int)} (hL : ∀ ds ∈ L, ShL foeT ds) (HA : Rvss w a 3 L 0) (hn : L.length ≤ maxLen) (hM : Mp w bp M) : Calls Try.prog 68 #[.slice a L.length cap, .map (some bp)] w (Nq (foE L M) w) :=
  foes_core a L.length cap bp (tn L) (un L) M (iv L 2) _ w hn (hide hM) (hide fun k hk => ⟨nm0 (hL _ (mem_at hk)), nm1 (hL _ (mem_at hk))⟩) (hide fun k hk => clFoe (Keep.refl w) hL HA k hk) (hide rfl)
theorem cap_len {w : World} {a : Option Addr} {L : List (List D)} (hL : ∀ ds ∈ L, ShL phaseT ds) (k : Nat) (hk : k < L.length) : ln L 1 k ≤ maxLen := by
  have hs := hL _ (mem_at hk)
  unfold ln sub
  generalize L.getD k [] = ds at hs ⊢
  simp only [ShL, Sh1, phaseT] at hs
  obtain ⟨_, _, rfl, _, ⟨_, _, rfl, ⟨L1, rfl, hl, _⟩, _⟩⟩ := hs
  exact hl
def phE (L : List (List D)) (MH : List (List UInt8 × Int)) : Eq2 := fE (phF (tn L) (ln L 1) (sb L 1) MH (iv L 2)) 0 L.length
theorem phases_any {w : World} {a : Option Addr} {cap bp : Nat} {L : List (List D)} {MH : List (List UInt8 × Int)} (hL : ∀ ds ∈ L, ShL phaseT ds) (HA : Rvss w a 3 L 0) (hn : L.length ≤ maxLen) (hMH : MH.length ≤ maxLen) (hM : Mp w bp MH) :
    Calls Try.prog 65 #[.slice a L.length cap, .map (some bp)] w (Hq2 (phE L MH) (mk (tn L) L.length) (hmL (ln L 1) (sb L 1) L.length) w) := by
  refine phases_core a L.length cap bp (tn L) (sA w a 3 1) (ln L 1) (sC w a 3 1) (sb L 1) MH (iv L 2) _ w hn hMH (hide hM) (hide fun k hk => nm0 (hL _ (mem_at hk))) (hide fun k hk => cap_len (w := w) (a := a) hL k hk) (hide fun k hk => ?_) (hide fun i hi k hk => ?_) (hide rfl)
  · obtain ⟨ad, e, hb, h0, h1, h2⟩ := clPhase (Keep.refl w) hL HA k hk
    rw [(rsPhase hL HA k hk).1] at h1
    exact ⟨ad, e, hb, h0, h1, h2⟩
  · obtain ⟨r1, r2, r3, r4⟩ := rsPhase hL HA i hi
    exact clName r4 r3 k hk
end V
end Go.Proofs.Ytjincjlalopbfaa

namespace Go.Proofs.Ytjincjlalopbfaa
open Go.RowKit
set_option linter.unusedVariables false
set_option linter.unusedSimpArgs false
set_option maxRecDepth 10000
namespace V
open S
def gN (L : List (List D)) (i j : Nat) : Nat := ln (sub L 0 i) 1 j
def gH (L : List (List D)) (i j m : Nat) : List UInt8 := sb (sub L 0 i) 1 j m
theorem grp_len {L : List (List D)} (hL : ∀ ds ∈ L, ShL groupT ds) (k : Nat) (hk : k < L.length) : ln L 0 k ≤ maxLen := by
  have hs := hL _ (mem_at hk)
  unfold ln sub
  generalize L.getD k [] = ds at hs ⊢
  simp only [ShL, Sh1, groupT] at hs
  obtain ⟨_, _, rfl, ⟨L1, rfl, hl, _⟩, _⟩ := hs
  exact hl
theorem row_len {L : List (List D)} (hL : ∀ ds ∈ L, ShL rowT ds) (k : Nat) (hk : k < L.length) : ln L 1 k ≤ maxLen := by
  have hs := hL _ (mem_at hk)
  unfold ln sub
  generalize L.getD k [] = ds at hs ⊢
  simp only [ShL, Sh1, rowT] at hs
  obtain ⟨_, _, rfl, _, ⟨_, _, rfl, ⟨L1, rfl, hl, _⟩, _⟩⟩ := hs
  exact hl
def grE (L : List (List D)) (MP : List (List UInt8 × Int)) (p : Int) : Eq2 := fE (grF (ln L 0) (gN L) (gH L) MP p) 0 L.length
theorem groups_any {w : World} {s : ByteArray} {x1 : Option Addr} {n1 c1 : Nat} {x2 : Option Addr} {n2 c2 : Nat} {x3 : Option Addr} {n3 c3 : Nat} {a : Option Addr} {c4 : Nat} {x5 : Option Addr} {n5 c5 : Nat} {p : Int} {bp : Nat} {L : List (List D)} {MP : List (List UInt8 × Int)}
    (hL : ∀ ds ∈ L, ShL groupT ds) (HA : Rvss w a 1 L 0) (hn : L.length ≤ maxLen) (hMP : MP.length ≤ maxLen) (hM : Mp w bp MP) :
    Calls Try.prog 67 #[.agg #[.string s, .slice x1 n1 c1, .slice x2 n2 c2, .slice x3 n3 c3, .slice a L.length c4, .slice x5 n5 c5, .int .i64 p], .map (some bp)] w (Hq (grE L MP p) (rgG (ln L 0) (gN L) (gH L) L.length) w) := by
  refine groups_core s x1 n1 c1 x2 n2 c2 x3 n3 c3 a L.length c4 x5 n5 c5 p bp (sA w a 1 0) (ln L 0) (sC w a 1 0) (fun i j => fB (gt ((sub L 0 i).getD j []) 0)) (fun i j => sA w (sA w a 1 0 i) 2 1 j) (gN L) (fun i j => sC w (sA w a 1 0 i) 2 1 j) (gH L) MP _ w hn hMP (hide hM) (hide fun i hi => ⟨grp_len hL i hi, fun j hj => ?_⟩) (hide fun i hi => ?_) (hide fun i hi j hj => ?_) (hide fun i hi j hj m hm => ?_) (hide rfl)
  · obtain ⟨r1, r2, r3, r4⟩ := rsGroup hL HA i hi
    exact row_len r4 j hj
  · obtain ⟨ad, e, hb, h0⟩ := clGroup (Keep.refl w) hL HA i hi
    rw [(rsGroup hL HA i hi).1] at h0
    exact ⟨ad, e, hb, h0⟩
  · obtain ⟨r1, r2, r3, r4⟩ := rsGroup hL HA i hi
    obtain ⟨ad, e, hb, h0, h1⟩ := clRow (Keep.refl w) r4 r3 j hj
    rw [(rsRow r4 r3 j hj).1] at h1
    exact ⟨ad, e, hb, h0, h1⟩
  · obtain ⟨r1, r2, r3, r4⟩ := rsGroup hL HA i hi
    obtain ⟨t1, t2, t3, t4⟩ := rsRow r4 r3 j hj
    exact clName t4 t3 m hm
/-- what is wrong with a node first, by its rows -/
def nodeL (L1 L2 L3 L4 L5 : List (List D)) (p : Int) : Eq2 :=
  ors [(cnE L1.length L2.length L3.length L4.length L5.length).map (fun c => (c, p)), hdE L1, phE L3 (mk (tn L1) L1.length), fE (ltF (hmL (ln L3 1) (sb L3 1) L3.length) (tn L1) 73 (iv L1 10)) 0 L1.length,
    wkE L2 (mk (tn L3) L3.length), grE L4 (mk (tn L3) L3.length) p, fE (ltF (rgG (ln L4 0) (gN L4) (gH L4) L4.length) (tn L3) 74 (iv L3 2)) 0 L3.length, foE L5 (hmL (ln L3 1) (sb L3 1) L3.length)]
def nodeE (ds : List D) : Eq2 := nodeL (fL (gt ds 1)) (fL (gt ds 2)) (fL (gt ds 3)) (fL (gt ds 4)) (fL (gt ds 5)) (fI (gt ds 6))
set_option maxHeartbeats 1000000 in
theorem node_any {w : World} {ds : List D} {us : List Value} (hs : ShL nodeT ds) (hr : Rvs w ds us) : Calls Try.prog 45 #[.agg us.toArray] w (Nq (nodeE ds) w) := by
  simp only [ShL, Sh1, nodeT] at hs
  obtain ⟨_, _, rfl, ⟨s0, rfl, _⟩, ⟨_, _, rfl, ⟨L1, rfl, b1, q1⟩, ⟨_, _, rfl, ⟨L2, rfl, b2, q2⟩, ⟨_, _, rfl, ⟨L3, rfl, b3, q3⟩, ⟨_, _, rfl, ⟨L4, rfl, b4, q4⟩, ⟨_, _, rfl, ⟨L5, rfl, b5, q5⟩, ⟨_, _, rfl, ⟨v6, rfl, _, _⟩, rfl⟩⟩⟩⟩⟩⟩⟩ := hs
  simp only [Rvs, Rv, dS, dI, dB] at hr
  obtain ⟨_, _, rfl, rfl, ⟨_, _, rfl, ⟨x1, z1, rfl, y1, m1⟩, ⟨_, _, rfl, ⟨x2, z2, rfl, y2, m2⟩, ⟨_, _, rfl, ⟨x3, z3, rfl, y3, m3⟩, ⟨_, _, rfl, ⟨x4, z4, rfl, y4, m4⟩, ⟨_, _, rfl, ⟨x5, z5, rfl, y5, m5⟩, ⟨_, _, rfl, rfl, rfl⟩⟩⟩⟩⟩⟩⟩ := hr
  show Calls _ _ #[.agg #[.string (sv s0), .slice x1 L1.length z1, .slice x2 L2.length z2, .slice x3 L3.length z3, .slice x4 L4.length z4, .slice x5 L5.length z5, .int .i64 v6]] w (Nq (nodeL L1 L2 L3 L4 L5 v6) w)
  refine node_core (sv s0) x1 L1.length z1 x2 L2.length z2 x3 L3.length z3 x4 L4.length z4 x5 L5.length z5 v6 (tn L1) (iv L1 1) (iv L1 2) (iv L1 3) (iv L1 4) (iv L1 5) (iv L1 6) (iv L1 7) (iv L1 8) (iv L1 9) (iv L1 10) (tn L3) (sA w x3 3 1) (sN w x3 3 1) (sC w x3 3 1) (iv L3 2)
    (mk (tn L1) L1.length) (mk (tn L3) L3.length) (hmL (ln L3 1) (sb L3 1) L3.length) (rgG (ln L4 0) (gN L4) (gH L4) L4.length) (cnE L1.length L2.length L3.length L4.length L5.length) (hdE L1) (phE L3 (mk (tn L1) L1.length)) (wkE L2 (mk (tn L3) L3.length)) (grE L4 (mk (tn L3) L3.length) v6) (foE L5 (hmL (ln L3 1) (sb L3 1) L3.length)) _ w
    b1 b3 (hide fun k hk => nm0 (q1 _ (mem_at hk))) (hide fun k hk => nm0 (q3 _ (mem_at hk))) (hide fun k hk => clHead (Keep.refl w) q1 m1 k hk) (hide fun k hk => clPhase (Keep.refl w) q3 m3 k hk)
    (hide fun w' k => counts_core _ _ _ _ _ _ _ _ _ _ _ _ _ _ _ _ _ w' _ (hide rfl)) (hide fun w' k => heads_any q1 (Rvss.keep k _ _ _ _ m1) b1) (hide fun w' b k hM => phases_any q3 (Rvss.keep k _ _ _ _ m3) b3 (by rw [mk_len]; exact b1) hM)
    (hide fun w' b k hM => walks_any q2 (Rvss.keep k _ _ _ _ m2) b2 hM) (hide fun w' b k hM => groups_any q4 (Rvss.keep k _ _ _ _ m4) b4 (by rw [mk_len]; exact b3) hM) (hide fun w' b k hM => foes_any q5 (Rvss.keep k _ _ _ _ m5) b5 hM) (hide rfl)
end V
end Go.Proofs.Ytjincjlalopbfaa

namespace Go.Proofs.Ytjincjlalopbfaa
open Go.RowKit
attribute [local go_sem ↓] Go.wp_at_zero Go.wp_at_succ
set_option linter.unusedVariables false
set_option linter.unusedSimpArgs false
set_option maxRecDepth 10000
set_option maxHeartbeats 4000000 in
theorem words_any (w : World) : Calls Try.prog 86 #[] w fun e w' => e = .returned (.slice (some ⟨w.heap.size, 0, none⟩) 42 42) ∧ w' = w.alloc (.cells ((words.map fun x => Value.string (sv x)).toArray) 9) := by
  go_enter Try.func86, Try.ntmps86
  go_wp2_with fail
  go_ret
  exact ⟨rfl, rfl⟩
set_option maxHeartbeats 4000000 in
theorem in_core (s : ByteArray) (ad : Addr) (n cap : Nat) (X : Nat → ByteArray) (B : Nat → Bool) (r : Bool) (w : World) (hn : n ≤ 100000)
    (HC : Hid (∀ k, k < n → w.cell? (ad.add k) = some (.string (X k))))
    (HB : Hid (∀ k, k < n → ((X k).toList == s.toList) = B k))
    (H1 : Hid (∀ k, k < n → B k = true → r = true))
    (H2 : Hid ((∀ k, k < n → B k = false) → r = false)) :
    Calls Try.prog 85 #[.string s, .slice (some ad) n cap] w fun e w' => e = .returned (.bool r) ∧ w' = w := by
  go_enter Try.func85, Try.ntmps85
  go_wp2_with fail
  go_loop [5] (fun vi => ∃ k : Nat, k ≤ n ∧ vi = .int .i64 (k : Int) ∧ Hid (∀ j, j < k → B j = false)) (fun vi => n - (intOf vi).toNat)
  case atStart => exact ⟨0, Nat.zero_le _, rfl, hide fun j hj => by omega⟩
  case round =>
    obtain ⟨k, hk, rfl, HN⟩ := hrel
    by_cases hlt : k < n
    · have li : (k : Int) < (n : Int) := by omega
      have ck := (uq HC) k hlt
      have hb := (uq HB) k hlt
      have HQ := hide ((uq H1) k hlt)
      generalize X k = x at *
      obtain ⟨b, hbk⟩ : ∃ b, B k = b := ⟨_, rfl⟩
      rw [hbk] at hb
      have HBK := hide hbk
      clear hbk
      cases b with
      | true =>
        have hr := (uq HQ) (uq HBK)
        subst hr
        go_wp2_with fail
        go_ret
        exact ⟨rfl, rfl⟩
      | false =>
        go_wp2_with fail
        exact ⟨⟨k + 1, hlt, by go_num, hide fun j hj => (Nat.lt_succ_iff_lt_or_eq.1 hj).elim ((uq HN) j) (fun e => e ▸ uq HBK)⟩, by simp [intOf]; omega⟩
    · have hr := (uq H2) (fun j hj => (uq HN) j (by omega))
      subst hr
      go_wp2_with fail
      go_ret
      exact ⟨rfl, rfl⟩
theorem sv_list (l : List UInt8) : (sv l).toList = l := ByteArray.toList_mk l
theorem in_words (s : ByteArray) (g : Nat) (w : World) (HC : ∀ k, k < 42 → w.cell? ⟨g, k, none⟩ = some (.string (sv (words.getD k [])))) :
    Calls Try.prog 85 #[.string s, .slice (some ⟨g, 0, none⟩) 42 42] w fun e w' => e = .returned (.bool (decide (s.toList ∈ words))) ∧ w' = w := by
  refine in_core s ⟨g, 0, none⟩ 42 42 (fun k => sv (words.getD k [])) (fun k => words.getD k [] == s.toList) _ w (by decide) (hide fun k hk => ?_) (hide fun k hk => by rw [sv_list]) (hide fun k hk hb => ?_) (hide fun h => ?_)
  · rw [add_plain, Nat.zero_add]; exact HC k hk
  · rw [decide_eq_true_iff, ← eq_of_beq hb, List.getD_eq_getElem?_getD, List.getElem?_eq_getElem (show k < words.length from hk)]
    exact List.getElem_mem _
  · rw [decide_eq_false_iff_not]
    intro hm
    obtain ⟨k, hk, e⟩ := List.getElem_of_mem hm
    have := h k hk
    rw [List.getD_eq_getElem?_getD, List.getElem?_eq_getElem hk, Option.getD_some, e] at this
    simp at this
set_option maxHeartbeats 4000000 in
theorem rres_core (s : ByteArray) (r : Bool) (w : World) (o : Obj)
    (T1 : Hid (∀ w : World, Calls Try.prog 86 #[] w fun e w' => e = .returned (.slice (some ⟨w.heap.size, 0, none⟩) 42 42) ∧ w' = w.alloc o))
    (T2 : Hid (∀ w : World, Calls Try.prog 85 #[.string s, .slice (some ⟨w.heap.size, 0, none⟩) 42 42] (w.alloc o) fun e w' => e = .returned (.bool r) ∧ w' = w.alloc o)) :
    Calls Try.prog 76 #[.string s] w fun e w' => e = .returned (.bool r) ∧ Keep w w' := by
  go_enter Try.func76, Try.ntmps76
  go_wp2_with fail
  (refine ((uq T1) _).mono ?_; rintro e w2 ⟨rfl, rfl⟩)
  go_wp2_with fail
  (refine ((uq T2) _).mono ?_; rintro e w2 ⟨rfl, rfl⟩)
  go_wp2_with fail
  go_ret
  exact ⟨rfl, (Keep.refl w).alloc _⟩
theorem rres_any (s : ByteArray) (w : World) : Calls Try.prog 76 #[.string s] w fun e w' => e = .returned (.bool (decide (s.toList ∈ words))) ∧ Keep w w' := by
  refine rres_core s _ w _ (hide fun w => words_any w) (hide fun w => in_words s w.heap.size _ fun k hk => ?_)
  rw [World.cell?_alloc_mark, List.getElem?_toArray, List.getElem?_map, List.getD_eq_getElem?_getD, List.getElem?_eq_getElem (show k < words.length from hk)]
  rfl
end Go.Proofs.Ytjincjlalopbfaa
