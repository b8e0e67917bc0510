/- A node's tree in memory; ratios; the law's few. -/
import Derived.Test.YtdgmndjofbdgeaaVRf
import Derived.Test.YtdgmndjofbdgeaaLIn
import Derived.Deep.DrawnRows
import Derived.Deep.RegionHeld3
import Derived.Laws.AppendOwn
import Derived.Laws.OwnMore
import Derived.Laws.MakeOwn
import Derived.OwnWalk
namespace Go.Proofs.Ytdgmndjofbdgeaa
open Go.ChangeShapes Go.WideShapes Go.ChangeAt Go.RowKit Go.Joins
open Go.WideMaps Go.WideElems
attribute [local go_sem ↓] Go.wp_at_zero Go.wp_at_succ
set_option linter.unusedVariables false
set_option linter.unusedSimpArgs false
set_option maxRecDepth 10000
namespace Cr
open S V
theorem node_desc : desc Try.prog 12 28 = some nodeT := by kernel_rfl
def fracsT : List Ty := [.row 32 2 [.i, .i]]
theorem fracs_desc : desc Try.prog 12 29 = some fracsT := by kernel_rfl
theorem open_row {H : Type} {enc : TypeId × Value → H} {P : Program} {w : World} {base : Nat} {spare : Nat → Bool} {held : Bool} {r : Reach} {b0 : Nat} {t e : TypeId} {v : Value} {d : DataW H} {p : List MemPlace} {n : Nat} {fs : List Ty} (ht : P.underlying t = some (.slice e)) (hd : desc P n t = some fs)
    (hv : Value.okWide P w r b0 t v) (h : DataW.Trod enc P w base spare held t v d p) : ∃ ds, ShL fs ds ∧ Rvs w ds [v] := by
  obtain ⟨a0, len, cap, rfl⟩ := okWide_slice ht hv
  obtain ⟨fuel, hf⟩ := h
  obtain ⟨ds, h1, h2⟩ := open_desc n t fs fuel _ _ hd hf
  exact ⟨ds, h1, by simpa [Value.cells] using h2⟩
/-- fractions that are handed in -/
theorem fracs {w : World} {ds : List D} {v : Value} (hs : ShL fracsT ds) (hr : Rvs w ds [v]) : ∃ (xf : Option Addr) (cf : Nat) (R : List (Int × Int)), v = .slice xf R.length cf ∧ R.length ≤ maxLen ∧ R.length ≤ cf ∧ (R.length ≤ 50 → Rin w xf R) := by
  simp only [fracsT, ShL, Sh1] at hs
  obtain ⟨_, _, rfl, ⟨L, rfl, hl, hL⟩, rfl⟩ := hs
  simp only [Rvs, Rv] at hr
  obtain ⟨_, _, he, ⟨a, c, rfl, hlc, hx⟩, rfl⟩ := hr
  obtain rfl : v = _ := by simpa using he
  have each : ∀ k, k < L.length → ∃ x : Int × Int, (In x.1 ∧ In x.2) ∧ ∃ ad, a = some ad ∧ ad.block < w.heap.size ∧ w.cell? (ad.add (k * 2)) = some (.int .i64 x.1) ∧ w.cell? ⟨(ad.add (k * 2)).block, (ad.add (k * 2)).off + 1, none⟩ = some (.int .i64 x.2) := by
    intro k hk
    obtain ⟨ad, us, h0, hb, h2, h3, h4⟩ := rvss_at L 0 hx k hk
    obtain ⟨_, _, e1, ⟨n, rfl, n1, n2⟩, _, _, rfl, ⟨d, rfl, d1, d2⟩, rfl⟩ := hL (L.getD k []) (by rw [List.getD_eq_getElem?_getD, List.getElem?_eq_getElem hk]; exact List.getElem_mem hk)
    rw [e1] at h2
    simp only [Rvs, Rv, dI] at h2
    obtain ⟨_, _, rfl, rfl, _, _, rfl, rfl, rfl⟩ := h2
    have f0 := h4 0 _ rfl
    have f1 := h4 1 _ rfl
    rw [Nat.zero_add] at f0 f1
    exact ⟨(n, d), ⟨⟨n1, n2⟩, ⟨d1, d2⟩⟩, ad, h0, hb, by simpa [ati] using f0, by simpa [ati] using f1⟩
  have hRl : (tb (fun k => if hk : k < L.length then (each k hk).choose else (0, 0)) L.length).length = L.length := tb_len _ _
  refine ⟨a, c, tb (fun k => if hk : k < L.length then (each k hk).choose else (0, 0)) L.length, by rw [hRl], by rw [hRl]; exact hl, by rw [hRl]; exact hlc, fun h50 => ⟨fun k hk => ?_, fun x hx => ?_, h50⟩⟩
  · rw [hRl] at hk
    have hs := (each k hk).choose_spec.2
    rw [tb_at _ _ _ _ hk]
    simp only [hk, dite_true]
    exact hs
  · obtain ⟨j, hj, rfl⟩ := tb_mem hx
    simp only [hj, dite_true]
    exact (each j hj).choose_spec.1
/-- the names of a row -/
def nms (L : List (List D)) : List (List UInt8) := tb (V.tn L) L.length
theorem nms_len (L : List (List D)) : (nms L).length = L.length := tb_len _ _
theorem nms_at (L : List (List D)) {k : Nat} (hk : k < L.length) : (nms L).getD k [] = V.tn L k := tb_at _ _ _ _ hk
theorem nI_lt3 (L : List (List D)) (nm : List UInt8) : nI L nm < (L.length : Int) := by
  unfold nI
  rcases ix_range (fun k => V.tn L k == nm) L.length 0 with h | h
  · rw [h]; omega
  · omega
set_option maxHeartbeats 1000000 in
theorem nin_of {w : World} {ds : List D} {us : List Value} (hs : ShL nodeT ds) (hr : Rvs w ds us) : ∃ (s : ByteArray) (x1 : Option Addr) (n1 c1 : Nat) (x2 : Option Addr) (n2 c2 : Nat) (x3 : Option Addr) (n3 c3 : Nat) (x4 : Option Addr) (n4 c4 : Nat) (x5 : Option Addr) (n5 c5 : Nat) (p : Int), ∃ (XG : Nat → Option Addr) (NG CG : Nat → Nat) (FR : Nat → Nat → Bool) (XR : Nat → Nat → Option Addr) (T : Nat → Nat → List (List UInt8)) (CR : Nat → Nat → Nat) (A : List UInt8 → Int),
    us = [.string s, .slice x1 n1 c1, .slice x2 n2 c2, .slice x3 n3 c3, .slice x4 n4 c4, .slice x5 n5 c5, .int .i64 p] ∧ n4 ≤ maxLen ∧ n4 ≤ c4 ∧ (FewN ds → Nin w s x1 n1 c1 x2 n2 c2 x3 n3 c3 x4 n4 c4 x5 n5 c5 p XG NG CG FR XR T CR A) := by
  simp only [ShL, Sh1, nodeT] at hs
  obtain ⟨_, _, rfl, ⟨s0, rfl, _⟩, ⟨_, _, rfl, ⟨L1, rfl, _, q1⟩, ⟨_, _, rfl, ⟨L2, rfl, _, q2⟩, ⟨_, _, rfl, ⟨L3, rfl, l3, q3⟩, ⟨_, _, rfl, ⟨L4, rfl, l4, q4⟩, ⟨_, _, rfl, ⟨L5, rfl, _, q5⟩, ⟨_, _, rfl, ⟨v6, rfl, _, _⟩, rfl⟩⟩⟩⟩⟩⟩⟩ := hs
  simp only [Rvs, Rv, dS, dI, dB] at hr
  obtain ⟨_, _, rfl, rfl, ⟨_, _, rfl, ⟨x1, z1, rfl, y1, m1⟩, ⟨_, _, rfl, ⟨x2, z2, rfl, y2, m2⟩, ⟨_, _, rfl, ⟨x3, z3, rfl, y3, m3⟩, ⟨_, _, rfl, ⟨x4, z4, rfl, y4, m4⟩, ⟨_, _, rfl, ⟨x5, z5, rfl, y5, m5⟩, ⟨_, _, rfl, rfl, rfl⟩⟩⟩⟩⟩⟩⟩ := hr
  have hF := Keep.refl w
  refine ⟨sv s0, x1, L1.length, z1, x2, L2.length, z2, x3, L3.length, z3, x4, L4.length, z4, x5, L5.length, z5, v6, sA w x4 1 0, fun k => (fL (S.gt (L4.getD k []) 0)).length, sC w x4 1 0, fun k j => fB (S.gt ((fL (S.gt (L4.getD k []) 0)).getD j []) 0), fun k j => sA w (sA w x4 1 0 k) 2 1 j, fun k j => nms (fL (S.gt ((fL (S.gt (L4.getD k []) 0)).getD j []) 1)), fun k j => sC w (sA w x4 1 0 k) 2 1 j, nI L3, rfl, l4, y4, fun hf => ?_⟩
  obtain ⟨f3, f4, f5⟩ := hf
  refine ⟨fun k hk => ?_, fun k hk j hj => ?_, fun k hk j hj i hi => ?_, fun nm w' k' => phase_at nm q3 (Rvss.keep k' _ _ _ _ m3) l3, fun nm w' k' => rphase_at nm q3 (Rvss.keep k' _ _ _ _ m3) l3, nI_lt3 L3, f4, fun k hk => (f5 k hk).1, fun k hk j hj => by rw [nms_len]; exact (f5 k hk).2 j hj⟩
  · obtain ⟨ad, e, hb, h0⟩ := clGroup hF q4 m4 k hk
    obtain ⟨r1, r2, r3, r4⟩ := rsGroup q4 m4 k hk
    rw [r1] at h0
    exact ⟨ad, e, hb, h0⟩
  · obtain ⟨r1, r2, r3, r4⟩ := rsGroup q4 m4 k hk
    obtain ⟨ad, e, hb, h0, h1⟩ := clRow hF r4 r3 j hj
    obtain ⟨t1, t2, t3, t4⟩ := rsRow r4 r3 j hj
    rw [t1] at h1
    rw [nms_len]
    exact ⟨ad, e, hb, h0, h1⟩
  · obtain ⟨r1, r2, r3, r4⟩ := rsGroup q4 m4 k hk
    obtain ⟨t1, t2, t3, t4⟩ := rsRow r4 r3 j hj
    rw [nms_len] at hi
    obtain ⟨ad, e, hb, h0, _⟩ := clName t4 t3 i hi
    rw [nms_at _ hi]
    exact ⟨ad, e, hb, h0⟩
set_option maxHeartbeats 2000000 in
theorem few_core (s : ByteArray) (x1 : Option Addr) (n1 c1 : Nat) (x2 : Option Addr) (n2 c2 : Nat) (x3 : Option Addr) (n3 c3 : Nat) (x4 : Option Addr) (n4 c4 : Nat) (x5 : Option Addr) (n5 c5 : Nat) (p : Int) (xf : Option Addr) (nf cf : Nat) (P : Prop) (w : World)
    (TF : Hid (∀ w' b, Keep w w' → w'.heap[b]? = some (.cells #[.string s, .slice x1 n1 c1, .slice x2 n2 c2, .slice x3 n3 c3, .slice x4 n4 c4, .slice x5 n5 c5, .int .i64 p] 28 (0, 0)) → Calls Try.prog 21 #[.agg #[.int .i64 0, .int .i64 0, .int .i64 0, .int .i64 0, .int .i64 0, .slice (some ⟨b, 0, none⟩) 1 1, .slice none 0 0, .int .i64 0, .int .i64 0]] w' (Ak3 P w'))) :
    Calls Try.prog 6 #[.agg #[.string s, .slice x1 n1 c1, .slice x2 n2 c2, .slice x3 n3 c3, .slice x4 n4 c4, .slice x5 n5 c5, .int .i64 p], .slice xf nf cf] w (Ak3 (nf ≤ 50 ∧ P) w) := by
  have hb := heap_alloc_new (w.alloc (.cells #[.string s, .slice x1 n1 c1, .slice x2 n2 c2, .slice x3 n3 c3, .slice x4 n4 c4, .slice x5 n5 c5, .int .i64 p] 28)) (.cells #[.string s, .slice x1 n1 c1, .slice x2 n2 c2, .slice x3 n3 c3, .slice x4 n4 c4, .slice x5 n5 c5, .int .i64 p] 28)
  rw [World.size_alloc] at hb
  have HT := hide ((uq TF) _ _ (((Keep.refl w).alloc (.cells #[.string s, .slice x1 n1 c1, .slice x2 n2 c2, .slice x3 n3 c3, .slice x4 n4 c4, .slice x5 n5 c5, .int .i64 p] 28)).alloc (.cells #[.string s, .slice x1 n1 c1, .slice x2 n2 c2, .slice x3 n3 c3, .slice x4 n4 c4, .slice x5 n5 c5, .int .i64 p] 28)) hb)
  clear hb TF
  by_cases h : nf ≤ 50
  · have hi : (nf : Int) ≤ 50 := by omega
    go_enter Try.func6, Try.ntmps6
    go_wp2_with fail
    (refine (uq HT).mono ?_; rintro e w2 ⟨b, rfl, hk9, hb9⟩; have K2 := hide hk9; have HB := hide hb9; clear hk9 hb9)
    go_wp2_with fail
    go_ret
    exact ⟨_, rfl, (((Keep.refl w).alloc _).alloc _).trans (uq K2), fun e => ⟨h, (uq HB) e⟩⟩
  · have hi : decide ((nf : Int) ≤ 50) = false := decide_eq_false (by omega)
    have hj : ¬ (nf : Int) ≤ 50 := by omega
    go_enter Try.func6, Try.ntmps6
    go_wp2_with fail
    go_ret
    exact ⟨false, rfl, (Keep.refl w).alloc _, fun e => by cases e⟩
theorem few_law {w : World} {ds : List D} (s : ByteArray) (x1 : Option Addr) (n1 c1 : Nat) (x2 : Option Addr) (n2 c2 : Nat) (x3 : Option Addr) (n3 c3 : Nat) (x4 : Option Addr) (n4 c4 : Nat) (x5 : Option Addr) (n5 c5 : Nat) (p : Int) (hs : ShL nodeT ds) (hr : Rvs w ds [.string s, .slice x1 n1 c1, .slice x2 n2 c2, .slice x3 n3 c3, .slice x4 n4 c4, .slice x5 n5 c5, .int .i64 p]) (xf : Option Addr) (nf cf : Nat) : Calls Try.prog 6 #[.agg #[.string s, .slice x1 n1 c1, .slice x2 n2 c2, .slice x3 n3 c3, .slice x4 n4 c4, .slice x5 n5 c5, .int .i64 p], .slice xf nf cf] w (Ak3 (nf ≤ 50 ∧ FewN ds) w) := by
  refine few_core s x1 n1 c1 x2 n2 c2 x3 n3 c3 x4 n4 c4 x5 n5 c5 p xf nf cf (FewN ds) w (hide fun w' b k hb => ?_)
  have hbl : b < w'.heap.size := (Array.getElem?_eq_some_iff.1 hb).1
  have m5 : Rvss w' (some ⟨b, 0, none⟩) 7 [ds] 0 := by
    refine ⟨⟨⟨b, 0, none⟩, _, rfl, hbl, Rvs.keep k _ _ hr, rfl, fun j u hu => ?_⟩, trivial⟩
    rw [Nat.zero_mul, show (⟨b, 0, none⟩ : Addr).add 0 = ⟨b, 0, none⟩ from rfl, ati_plain, Nat.zero_add]
    simp only [World.cell?, hb]
    simpa using hu
  refine (few3_any (w := w') 0 0 0 0 0 (some ⟨b, 0, none⟩) 1 none 0 0 0 [ds] [] (fun d hd => by rw [List.mem_singleton.1 hd]; exact hs) (fun d hd => by cases hd) m5 trivial).mono ?_
  rintro e w2 ⟨c, rfl, hk, hp⟩
  exact ⟨c, rfl, hk, fun h => hp h 0 (by simp)⟩
end Cr
end Go.Proofs.Ytdgmndjofbdgeaa
