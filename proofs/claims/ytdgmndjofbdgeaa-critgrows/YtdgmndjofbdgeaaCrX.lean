/- The document's answer for layer 7: where a name stands. -/
import Derived.Test.YtdgmndjofbdgeaaVTc
import Derived.Deep.DrawnRows
import Derived.Deep.RegionHeld3
import Derived.Test.YtdgmndjofbdgeaaVHd
import Derived.Laws.AppendOwn
import Derived.Laws.OwnMore
import Derived.Laws.MakeOwn
import Derived.OwnWalk
namespace Go.Proofs.Ytdgmndjofbdgeaa
open Go.RowKit
attribute [local go_sem ↓] Go.wp_at_zero Go.wp_at_succ
set_option linter.unusedVariables false
set_option linter.unusedSimpArgs false
set_option maxRecDepth 10000
namespace V
set_option maxHeartbeats 2000000 in
theorem rfindPhase (s : ByteArray) (x1 : Option Addr) (n1 c1 : Nat) (x2 : Option Addr) (n2 c2 : Nat) (x3 : Option Addr) (n3 c3 : Nat) (x4 : Option Addr) (n4 c4 : Nat) (x5 : Option Addr) (n5 c5 : Nat) (p : Int) (nm : List UInt8) (T : Nat → List UInt8) (r : Int) (w : World) (hn : n3 ≤ 9223372036854775807)
    (HC : Hid (∀ k, k < n3 → ∃ ad, x3 = some ad ∧ ad.block < w.heap.size ∧ w.cell? (ad.add (k * 3)) = some (.string (sv (T k))))) (HI : Hid (ix (fun k => T k == nm) 0 n3 = r)) :
    Calls Try.prog 29 #[.agg #[.string s, .slice x1 n1 c1, .slice x2 n2 c2, .slice x3 n3 c3, .slice x4 n4 c4, .slice x5 n5 c5, .int .i64 p], .string (sv nm)] w fun e w' => e = .returned (.int .i64 r) ∧ Keep w w' := by
  have K := hide ((Keep.refl w).alloc (.cells #[.string s, .slice x1 n1 c1, .slice x2 n2 c2, .slice x3 n3 c3, .slice x4 n4 c4, .slice x5 n5 c5, .int .i64 p] 28))
  go_enter Try.func29, Try.ntmps29
  go_wp2_with fail
  go_loop [5] (fun vi => ∃ k : Nat, k ≤ n3 ∧ vi = .int .i64 (k : Int) ∧ Hid (ix (fun k => T k == nm) k (n3 - k) = r)) (fun vi => n3 - (intOf vi).toNat)
  case atStart => exact ⟨0, Nat.zero_le _, rfl, HI⟩
  case round =>
    obtain ⟨k, hk, rfl, HF⟩ := hrel
    by_cases hlt : k < n3
    · have li : (k : Int) < (n3 : Int) := by omega
      obtain ⟨ad, rfl, hb, ck⟩ := (uq HC) k hlt
      have hb' : (ad.add (k * 3)).block < w.heap.size := by rw [add_block9]; exact hb
      have ck' := far_cell (uq K) hb' ck
      have e := sv_beq (T k) nm
      clear ck
      cases hB : (T k == nm)
      · have HF2 := hide (ix_no (uq HF) hlt hB)
        rw [hB] at e
        clear hB HF
        go_wp2_with fail
        exact ⟨⟨k + 1, hlt, by go_num, HF2⟩, by simp [intOf]; omega⟩
      · have hr := ix_yes (uq HF) hlt hB
        rw [hB] at e
        subst hr
        clear hB HF
        go_wp2_with fail
        go_ret
        exact ⟨rfl, uq K⟩
    · have li : ¬ (k : Int) < (n3 : Int) := by omega
      have hr := ix_end (uq HF) (by omega)
      subst hr
      go_wp2_with fail
      go_ret
      exact ⟨rfl, uq K⟩
open S
theorem rphase_at {w : World} {s : ByteArray} {x1 : Option Addr} {n1 c1 : Nat} {x2 : Option Addr} {n2 c2 : Nat} {x3 : Option Addr} {c3 : Nat} {x4 : Option Addr} {n4 c4 : Nat} {x5 : Option Addr} {n5 c5 : Nat} {p : Int} {L : List (List D)} (nm : List UInt8)
    (hL : ∀ ds ∈ L, ShL phaseT ds) (HA : Rvss w x3 3 L 0) (hn : L.length ≤ maxLen) : Calls Try.prog 29 #[.agg #[.string s, .slice x1 n1 c1, .slice x2 n2 c2, .slice x3 L.length c3, .slice x4 n4 c4, .slice x5 n5 c5, .int .i64 p], .string (sv nm)] w fun e w' => e = .returned (.int .i64 (nI L nm)) ∧ Keep w w' :=
  rfindPhase s x1 n1 c1 x2 n2 c2 x3 L.length c3 x4 n4 c4 x5 n5 c5 p nm (tn L) _ w hn (hide fun k hk => by obtain ⟨ad, e, hb, h, _⟩ := S.clPhase (Keep.refl w) hL HA k hk; exact ⟨ad, e, hb, h⟩) (hide rfl)
end V
end Go.Proofs.Ytdgmndjofbdgeaa

namespace Go.Proofs.Ytdgmndjofbdgeaa
open Go.ChangeShapes Go.WideShapes Go.ChangeAt Go.RowKit Go.Joins
open Go.WideMaps Go.WideElems
attribute [local go_sem ↓] Go.wp_at_zero Go.wp_at_succ
set_option linter.unusedVariables false
set_option linter.unusedSimpArgs false
set_option maxRecDepth 10000
namespace Cr
open S V
theorem node_desc : desc Try.prog 12 28 = some nodeT := by kernel_rfl
def fracsT : List Ty := [.row 32 2 [.i, .i]]
theorem fracs_desc : desc Try.prog 12 29 = some fracsT := by kernel_rfl
theorem open_row {H : Type} {enc : TypeId × Value → H} {P : Program} {w : World} {base : Nat} {spare : Nat → Bool} {held : Bool} {r : Reach} {b0 : Nat} {t e : TypeId} {v : Value} {d : DataW H} {p : List MemPlace} {n : Nat} {fs : List Ty} (ht : P.underlying t = some (.slice e)) (hd : desc P n t = some fs)
    (hv : Value.okWide P w r b0 t v) (h : DataW.Trod enc P w base spare held t v d p) : ∃ ds, ShL fs ds ∧ Rvs w ds [v] := by
  obtain ⟨a0, len, cap, rfl⟩ := okWide_slice ht hv
  obtain ⟨fuel, hf⟩ := h
  obtain ⟨ds, h1, h2⟩ := open_desc n t fs fuel _ _ hd hf
  exact ⟨ds, h1, by simpa [Value.cells] using h2⟩
/-- fractions that are handed in -/
theorem fracs {w : World} {ds : List D} {v : Value} (hs : ShL fracsT ds) (hr : Rvs w ds [v]) : ∃ (xf : Option Addr) (cf : Nat) (R : List (Int × Int)), v = .slice xf R.length cf ∧ R.length ≤ maxLen ∧ R.length ≤ cf ∧ (R.length ≤ 50 → Rin w xf R) := by
  simp only [fracsT, ShL, Sh1] at hs
  obtain ⟨_, _, rfl, ⟨L, rfl, hl, hL⟩, rfl⟩ := hs
  simp only [Rvs, Rv] at hr
  obtain ⟨_, _, he, ⟨a, c, rfl, hlc, hx⟩, rfl⟩ := hr
  obtain rfl : v = _ := by simpa using he
  have each : ∀ k, k < L.length → ∃ x : Int × Int, (In x.1 ∧ In x.2) ∧ ∃ ad, a = some ad ∧ ad.block < w.heap.size ∧ w.cell? (ad.add (k * 2)) = some (.int .i64 x.1) ∧ w.cell? ⟨(ad.add (k * 2)).block, (ad.add (k * 2)).off + 1, none⟩ = some (.int .i64 x.2) := by
    intro k hk
    obtain ⟨ad, us, h0, hb, h2, h3, h4⟩ := rvss_at L 0 hx k hk
    obtain ⟨_, _, e1, ⟨n, rfl, n1, n2⟩, _, _, rfl, ⟨d, rfl, d1, d2⟩, rfl⟩ := hL (L.getD k []) (by rw [List.getD_eq_getElem?_getD, List.getElem?_eq_getElem hk]; exact List.getElem_mem hk)
    rw [e1] at h2
    simp only [Rvs, Rv, dI] at h2
    obtain ⟨_, _, rfl, rfl, _, _, rfl, rfl, rfl⟩ := h2
    have f0 := h4 0 _ rfl
    have f1 := h4 1 _ rfl
    rw [Nat.zero_add] at f0 f1
    exact ⟨(n, d), ⟨⟨n1, n2⟩, ⟨d1, d2⟩⟩, ad, h0, hb, by simpa [ati] using f0, by simpa [ati] using f1⟩
  have hRl : (tb (fun k => if hk : k < L.length then (each k hk).choose else (0, 0)) L.length).length = L.length := tb_len _ _
  refine ⟨a, c, tb (fun k => if hk : k < L.length then (each k hk).choose else (0, 0)) L.length, by rw [hRl], by rw [hRl]; exact hl, by rw [hRl]; exact hlc, fun h50 => ⟨fun k hk => ?_, fun x hx => ?_, h50⟩⟩
  · rw [hRl] at hk
    have hs := (each k hk).choose_spec.2
    rw [tb_at _ _ _ _ hk]
    simp only [hk, dite_true]
    exact hs
  · obtain ⟨j, hj, rfl⟩ := tb_mem hx
    simp only [hj, dite_true]
    exact (each j hj).choose_spec.1
/-- the names of a row -/
def nms (L : List (List D)) : List (List UInt8) := tb (V.tn L) L.length
theorem nms_len (L : List (List D)) : (nms L).length = L.length := tb_len _ _
theorem nms_at (L : List (List D)) {k : Nat} (hk : k < L.length) : (nms L).getD k [] = V.tn L k := tb_at _ _ _ _ hk
theorem nI_lt3 (L : List (List D)) (nm : List UInt8) : nI L nm < (L.length : Int) := by
  unfold nI
  rcases ix_range (fun k => V.tn L k == nm) L.length 0 with h | h
  · rw [h]; omega
  · omega
set_option maxHeartbeats 2000000 in
theorem few_core (s : ByteArray) (x1 : Option Addr) (n1 c1 : Nat) (x2 : Option Addr) (n2 c2 : Nat) (x3 : Option Addr) (n3 c3 : Nat) (x4 : Option Addr) (n4 c4 : Nat) (x5 : Option Addr) (n5 c5 : Nat) (p : Int) (xf : Option Addr) (nf cf : Nat) (P : Prop) (w : World)
    (TF : Hid (∀ w' b, Keep w w' → w'.heap[b]? = some (.cells #[.string s, .slice x1 n1 c1, .slice x2 n2 c2, .slice x3 n3 c3, .slice x4 n4 c4, .slice x5 n5 c5, .int .i64 p] 28 (0, 0)) → Calls Try.prog 21 #[.agg #[.int .i64 0, .int .i64 0, .int .i64 0, .int .i64 0, .int .i64 0, .slice (some ⟨b, 0, none⟩) 1 1, .slice none 0 0, .int .i64 0, .int .i64 0]] w' (Ak3 P w'))) :
    Calls Try.prog 6 #[.agg #[.string s, .slice x1 n1 c1, .slice x2 n2 c2, .slice x3 n3 c3, .slice x4 n4 c4, .slice x5 n5 c5, .int .i64 p], .slice xf nf cf] w (Ak3 (nf ≤ 50 ∧ P) w) := by
  have hb := heap_alloc_new (w.alloc (.cells #[.string s, .slice x1 n1 c1, .slice x2 n2 c2, .slice x3 n3 c3, .slice x4 n4 c4, .slice x5 n5 c5, .int .i64 p] 28)) (.cells #[.string s, .slice x1 n1 c1, .slice x2 n2 c2, .slice x3 n3 c3, .slice x4 n4 c4, .slice x5 n5 c5, .int .i64 p] 28)
  rw [World.size_alloc] at hb
  have HT := hide ((uq TF) _ _ (((Keep.refl w).alloc (.cells #[.string s, .slice x1 n1 c1, .slice x2 n2 c2, .slice x3 n3 c3, .slice x4 n4 c4, .slice x5 n5 c5, .int .i64 p] 28)).alloc (.cells #[.string s, .slice x1 n1 c1, .slice x2 n2 c2, .slice x3 n3 c3, .slice x4 n4 c4, .slice x5 n5 c5, .int .i64 p] 28)) hb)
  clear hb TF
  by_cases h : nf ≤ 50
  · have hi : (nf : Int) ≤ 50 := by omega
    go_enter Try.func6, Try.ntmps6
    go_wp2_with fail
    (refine (uq HT).mono ?_; rintro e w2 ⟨b, rfl, hk9, hb9⟩; have K2 := hide hk9; have HB := hide hb9; clear hk9 hb9)
    go_wp2_with fail
    go_ret
    exact ⟨_, rfl, (((Keep.refl w).alloc _).alloc _).trans (uq K2), fun e => ⟨h, (uq HB) e⟩⟩
  · have hi : decide ((nf : Int) ≤ 50) = false := decide_eq_false (by omega)
    have hj : ¬ (nf : Int) ≤ 50 := by omega
    go_enter Try.func6, Try.ntmps6
    go_wp2_with fail
    go_ret
    exact ⟨false, rfl, (Keep.refl w).alloc _, fun e => by cases e⟩
theorem few_law {w : World} {ds : List D} (s : ByteArray) (x1 : Option Addr) (n1 c1 : Nat) (x2 : Option Addr) (n2 c2 : Nat) (x3 : Option Addr) (n3 c3 : Nat) (x4 : Option Addr) (n4 c4 : Nat) (x5 : Option Addr) (n5 c5 : Nat) (p : Int) (hs : ShL nodeT ds) (hr : Rvs w ds [.string s, .slice x1 n1 c1, .slice x2 n2 c2, .slice x3 n3 c3, .slice x4 n4 c4, .slice x5 n5 c5, .int .i64 p]) (xf : Option Addr) (nf cf : Nat) : Calls Try.prog 6 #[.agg #[.string s, .slice x1 n1 c1, .slice x2 n2 c2, .slice x3 n3 c3, .slice x4 n4 c4, .slice x5 n5 c5, .int .i64 p], .slice xf nf cf] w (Ak3 (nf ≤ 50 ∧ FewN ds) w) := by
  refine few_core s x1 n1 c1 x2 n2 c2 x3 n3 c3 x4 n4 c4 x5 n5 c5 p xf nf cf (FewN ds) w (hide fun w' b k hb => ?_)
  have hbl : b < w'.heap.size := (Array.getElem?_eq_some_iff.1 hb).1
  have m5 : Rvss w' (some ⟨b, 0, none⟩) 7 [ds] 0 := by
    refine ⟨⟨⟨b, 0, none⟩, _, rfl, hbl, Rvs.keep k _ _ hr, rfl, fun j u hu => ?_⟩, trivial⟩
    rw [Nat.zero_mul, show (⟨b, 0, none⟩ : Addr).add 0 = ⟨b, 0, none⟩ from rfl, ati_plain, Nat.zero_add]
    simp only [World.cell?, hb]
    simpa using hu
  refine (few3_any (w := w') 0 0 0 0 0 (some ⟨b, 0, none⟩) 1 none 0 0 0 [ds] [] (fun d hd => by rw [List.mem_singleton.1 hd]; exact hs) (fun d hd => by cases hd) m5 trivial).mono ?_
  rintro e w2 ⟨c, rfl, hk, hp⟩
  exact ⟨c, rfl, hk, fun h => hp h 0 (by simp)⟩
end Cr
end Go.Proofs.Ytdgmndjofbdgeaa

namespace Go.Proofs.Ytdgmndjofbdgeaa
open Go.ChangeShapes Go.WideShapes Go.ChangeAt Go.RowKit Go.Joins
open Go.WideMaps Go.WideElems
attribute [local go_sem ↓] Go.wp_at_zero Go.wp_at_succ
set_option linter.unusedVariables false
set_option linter.unusedSimpArgs false
set_option maxRecDepth 10000
namespace Cr
open S V
set_option maxHeartbeats 1000000 in
theorem nin_of2 {w : World} {ds : List D} {us : List Value} (hs : ShL nodeT ds) (hr : Rvs w ds us) : ∃ (s : ByteArray) (x1 : Option Addr) (n1 c1 : Nat) (x2 : Option Addr) (n2 c2 : Nat) (x3 : Option Addr) (n3 c3 : Nat) (x4 : Option Addr) (n4 c4 : Nat) (x5 : Option Addr) (n5 c5 : Nat) (p : Int), ∃ (XG : Nat → Option Addr) (NG CG : Nat → Nat) (FR : Nat → Nat → Bool) (XR : Nat → Nat → Option Addr) (T : Nat → Nat → List (List UInt8)) (CR : Nat → Nat → Nat) (A : List UInt8 → Int),
    us = [.string s, .slice x1 n1 c1, .slice x2 n2 c2, .slice x3 n3 c3, .slice x4 n4 c4, .slice x5 n5 c5, .int .i64 p] ∧ n4 ≤ maxLen ∧ n4 ≤ c4 ∧ (FewN ds → ∀ m, m ≤ n4 → Nin w s x1 n1 c1 x2 n2 c2 x3 n3 c3 x4 m c4 x5 n5 c5 p XG NG CG FR XR T CR A) := by
  simp only [ShL, Sh1, nodeT] at hs
  obtain ⟨_, _, rfl, ⟨s0, rfl, _⟩, ⟨_, _, rfl, ⟨L1, rfl, _, q1⟩, ⟨_, _, rfl, ⟨L2, rfl, _, q2⟩, ⟨_, _, rfl, ⟨L3, rfl, l3, q3⟩, ⟨_, _, rfl, ⟨L4, rfl, l4, q4⟩, ⟨_, _, rfl, ⟨L5, rfl, _, q5⟩, ⟨_, _, rfl, ⟨v6, rfl, _, _⟩, rfl⟩⟩⟩⟩⟩⟩⟩ := hs
  simp only [Rvs, Rv, dS, dI, dB] at hr
  obtain ⟨_, _, rfl, rfl, ⟨_, _, rfl, ⟨x1, z1, rfl, y1, m1⟩, ⟨_, _, rfl, ⟨x2, z2, rfl, y2, m2⟩, ⟨_, _, rfl, ⟨x3, z3, rfl, y3, m3⟩, ⟨_, _, rfl, ⟨x4, z4, rfl, y4, m4⟩, ⟨_, _, rfl, ⟨x5, z5, rfl, y5, m5⟩, ⟨_, _, rfl, rfl, rfl⟩⟩⟩⟩⟩⟩⟩ := hr
  have hF := Keep.refl w
  refine ⟨sv s0, x1, L1.length, z1, x2, L2.length, z2, x3, L3.length, z3, x4, L4.length, z4, x5, L5.length, z5, v6, sA w x4 1 0, fun k => (fL (S.gt (L4.getD k []) 0)).length, sC w x4 1 0, fun k j => fB (S.gt ((fL (S.gt (L4.getD k []) 0)).getD j []) 0), fun k j => sA w (sA w x4 1 0 k) 2 1 j, fun k j => nms (fL (S.gt ((fL (S.gt (L4.getD k []) 0)).getD j []) 1)), fun k j => sC w (sA w x4 1 0 k) 2 1 j, nI L3, rfl, l4, y4, fun hf m hm => ?_⟩
  obtain ⟨f3, f4, f5⟩ := hf
  refine ⟨fun k hk => ?_, fun k hk j hj => ?_, fun k hk j hj i hi => ?_, fun nm w' k' => phase_at nm q3 (Rvss.keep k' _ _ _ _ m3) l3, fun nm w' k' => rphase_at nm q3 (Rvss.keep k' _ _ _ _ m3) l3, nI_lt3 L3, by have : L4.length ≤ 50 := f4; omega, fun k hk => (f5 k (Nat.lt_of_lt_of_le hk hm)).1, fun k hk j hj => by rw [nms_len]; exact (f5 k (Nat.lt_of_lt_of_le hk hm)).2 j hj⟩
  · replace hk := Nat.lt_of_lt_of_le hk hm
    obtain ⟨ad, e, hb, h0⟩ := clGroup hF q4 m4 k hk
    obtain ⟨r1, r2, r3, r4⟩ := rsGroup q4 m4 k hk
    rw [r1] at h0
    exact ⟨ad, e, hb, h0⟩
  · replace hk := Nat.lt_of_lt_of_le hk hm
    obtain ⟨r1, r2, r3, r4⟩ := rsGroup q4 m4 k hk
    obtain ⟨ad, e, hb, h0, h1⟩ := clRow hF r4 r3 j hj
    obtain ⟨t1, t2, t3, t4⟩ := rsRow r4 r3 j hj
    rw [t1] at h1
    rw [nms_len]
    exact ⟨ad, e, hb, h0, h1⟩
  · replace hk := Nat.lt_of_lt_of_le hk hm
    obtain ⟨r1, r2, r3, r4⟩ := rsGroup q4 m4 k hk
    obtain ⟨t1, t2, t3, t4⟩ := rsRow r4 r3 j hj
    rw [nms_len] at hi
    obtain ⟨ad, e, hb, h0, _⟩ := clName t4 t3 i hi
    rw [nms_at _ hi]
    exact ⟨ad, e, hb, h0⟩
/-- is one below 0? -/
def blw (R : List (Int × Int)) : Bool := R.any (fun f => decide (f.1 < 0))
theorem blw_no {R : List (Int × Int)} (h : blw R = false) : ∀ i, 0 ≤ (R.getD i (0, 0)).1 := by
  intro i
  rcases Nat.lt_or_ge i R.length with hi | hi
  · have h1 := List.any_eq_false.1 h _ (getD_mem (d := (0, 0)) hi)
    simp only [decide_eq_true_eq] at h1
    omega
  · rw [List.getD_eq_getElem?_getD, List.getElem?_eq_none hi]
    simp
set_option maxHeartbeats 2000000 in
theorem below_core (xf : Option Addr) (cf : Nat) (R : List (Int × Int)) (bb : Bool) (w : World) (hb : Hid (bb = blw R)) (hn : R.length ≤ 1000)
    (HF : Hid (∀ k, k < R.length → ∃ ad, xf = some ad ∧ w.cell? (ad.add (k * 2)) = some (.int .i64 (R.getD k (0, 0)).1))) :
    Calls Try.prog 20 #[.slice xf R.length cf] w fun e w' => e = .returned (.bool bb) ∧ w' = w := by
  have HY : Hid (∀ k, k < R.length → (R.getD k (0, 0)).1 < 0 → bb = true) := hide (fun k hk h => by rw [uq hb]; exact List.any_eq_true.2 ⟨_, getD_mem hk, by simpa using h⟩)
  have HN : Hid ((∀ k, k < R.length → ¬ (R.getD k (0, 0)).1 < 0) → bb = false) := hide (fun h => by
    rw [uq hb]
    refine List.any_eq_false.2 fun x hx => ?_
    obtain ⟨j, hj, e⟩ := List.getElem_of_mem hx
    have := h j hj
    rw [List.getD_eq_getElem?_getD, List.getElem?_eq_getElem hj, e] at this
    simpa using this)
  clear hb
  generalize R.length = n at hn HF HY HN
  go_enter Try.func20, Try.ntmps20
  go_wp2_with fail
  go_loop [3] (fun vi => ∃ k : Nat, k ≤ n ∧ vi = .int .i64 (k : Int) ∧ Hid (∀ j, j < k → ¬ (R.getD j (0, 0)).1 < 0)) (fun vi => n - (intOf vi).toNat)
  case atStart => exact ⟨0, Nat.zero_le _, rfl, hide (fun j h => absurd h (Nat.not_lt_zero _))⟩
  case round =>
    obtain ⟨k, hk, rfl, HA⟩ := hrel
    by_cases hlt : k < n
    · have li : (k : Int) < (n : Int) := by omega
      obtain ⟨ad, rfl, e0⟩ := (uq HF) k hlt
      have HYk := hide ((uq HY) k hlt)
      have HAk : Hid (¬ (R.getD k (0, 0)).1 < 0 → ∀ j, j < k + 1 → ¬ (R.getD j (0, 0)).1 < 0) := hide (fun h j hj => by
        rcases Nat.lt_or_ge j k with h2 | h2
        · exact (uq HA) j h2
        · obtain rfl : j = k := by omega
          exact h)
      generalize (R.getD k (0, 0)).1 = x at e0 HYk HAk
      by_cases hx : x < 0
      · obtain rfl := (uq HYk) hx
        go_wp2_with fail
        go_ret
        exact ⟨rfl, rfl⟩
      · have HB := hide ((uq HAk) hx)
        clear HYk HAk
        go_wp2_with fail
        go_round
        case rel => exact ⟨k + 1, hlt, by go_num, HB⟩
        case measure => simp [intOf]; omega
    · have li : ¬ (k : Int) < (n : Int) := by omega
      obtain rfl := (uq HN) (fun j hj => by have := (uq HA) j (by omega); omega)
      go_wp2_with fail
      go_ret
      exact ⟨rfl, rfl⟩
end Cr
end Go.Proofs.Ytdgmndjofbdgeaa
