/- Package valid: Check, over letters. -/
import Derived.Test.YtjincjlalopbfaaVCh2
import Derived.Test.YtjincjlalopbfaaLMath
import Derived.Deep.DrawnRows
import Derived.Deep.RegionHeld3
namespace Go.Proofs.Ytjincjlalopbfaa
open Go.RowKit
attribute [local go_sem ↓] Go.wp_at_zero Go.wp_at_succ
set_option linter.unusedVariables false
set_option linter.unusedSimpArgs false
set_option maxRecDepth 10000
namespace V
/-- what a world that has grown since the boxes were laid holds of them -/
def Bx3 (w W : World) (b g : Nat) : Prop := b < W.heap.size ∧ g < W.heap.size ∧ W.cell? ⟨b, 0, none⟩ = some (.int .i64 0) ∧ W.frozen? ⟨b, 0, none⟩ = false ∧ W.cell? ⟨g, 0, none⟩ = some (.int .i64 0) ∧ W.frozen? ⟨g, 0, none⟩ = false ∧ w.heap.size ≤ b ∧ w.heap.size ≤ g ∧ ¬ b = g ∧ ¬ g = b
theorem Bx3.keep {w W W' : World} {b g : Nat} (h : Bx3 w W b g) (k : Keep W W') : Bx3 w W' b g := by
  obtain ⟨h1, h2, h3, h4, h5, h6, h7⟩ := h
  have hs := k.size
  exact ⟨by omega, by omega, by rw [Below.cell (p := ⟨b, 0, none⟩) k h1]; exact h3, by rw [Below.frozen (p := ⟨b, 0, none⟩) k h1]; exact h4, by rw [Below.cell (p := ⟨g, 0, none⟩) k h2]; exact h5, by rw [Below.frozen (p := ⟨g, 0, none⟩) k h2]; exact h6, h7⟩
theorem leaves_congr {P : Program} {fn : Func} {t t' : Array Value} {R : Ending → World → Prop} (h : results fn t = results fn t') : ∀ (ds : List Deferred) (u : FrameMode) (w : World), Leaves P fn t R ds u w = Leaves P fn t' R ds u w
  | [], .returning, w => by simp only [Leaves, h]
  | [], .panicking c, w => by simp only [Leaves]
  | [], .run, w => by simp only [Leaves]
  | d :: ds, u, w => by
    have ih := leaves_congr (P := P) (R := R) h ds
    simp only [Leaves, ih]
theorem hq8 {K : Act → World → Prop} {R : Ending → World → Prop} {c : List PanicEntry} {a : Act} {w : World} (d : Nat) (v : Value) (hd : 4 ≤ d) (h : Exit.then K (bodyPostD Try.prog Try.f10 R) (.panic c) (a.put (some d) v) w) : Exit.then K (bodyPostD Try.prog Try.f10 R) (.panic c) a w := by
  have h1 : Leaves Try.prog Try.f10 (a.put (some d) v).tmps R a.defers (.panicking c) w := h
  have e : results Try.f10 (a.put (some d) v).tmps = results Try.f10 a.tmps := by
    have g2 : (a.tmps.setIfInBounds d v)[2]? = a.tmps[2]? := by rw [Array.getElem?_setIfInBounds, if_neg (show ¬ d = 2 by omega)]
    have g3 : (a.tmps.setIfInBounds d v)[3]? = a.tmps[3]? := by rw [Array.getElem?_setIfInBounds, if_neg (show ¬ d = 3 by omega)]
    simp [results, Try.results10, Act.put, g2, g3]
  rw [leaves_congr e] at h1
  exact h1
theorem Below.trans9' {w W W' : World} (h : Keep w W) (k : Below w.heap.size W W') : Keep w W' := Below.trans h k
set_option maxHeartbeats 4000000 in
theorem check_wh (a0 a1 a2 a3 a4 : Int) (aN : Option Addr) (nN cN : Nat) (aS : Option Addr) (nS cS : Nat) (a5 a6 : Int) (c : Int) (w : World)
    (TW : Hid (∀ w', Keep w w' → Calls Try.prog 19 #[.agg #[.int .i64 a0, .int .i64 a1, .int .i64 a2, .int .i64 a3, .int .i64 a4, .slice aN nN cN, .slice aS nS cS, .int .i64 a5, .int .i64 a6]] w' fun e w'' => e = .panicked [{ v := ern c, recovered := false }] ∧ Keep w' w'')) :
    Calls Try.prog 10 #[.agg #[.int .i64 a0, .int .i64 a1, .int .i64 a2, .int .i64 a3, .int .i64 a4, .slice aN nN cN, .slice aS nS cS, .int .i64 a5, .int .i64 a6]] w fun e w' => e = .returned (.tuple #[.int .i64 c, .int .i64 0]) ∧ Keep w w' := by
  have hmf : ∀ (fn : Fn) (first cap : Array Value) (w : World), (Instr.makeFunc fn first cap).run Try.prog w = .ok (.func fn first cap) w := fun _ _ _ _ => rfl
  have KB := hide ((((Keep.refl w).alloc (.cells #[.int .i64 a0, .int .i64 a1, .int .i64 a2, .int .i64 a3, .int .i64 a4, .slice aN nN cN, .slice aS nS cS, .int .i64 a5, .int .i64 a6] 27)).alloc (.cells #[.int .i64 0] 30)).alloc (.cells #[.int .i64 0] 3))
  have BB : Hid (Bx3 w (((w.alloc (.cells #[.int .i64 a0, .int .i64 a1, .int .i64 a2, .int .i64 a3, .int .i64 a4, .slice aN nN cN, .slice aS nS cS, .int .i64 a5, .int .i64 a6] 27)).alloc (.cells #[.int .i64 0] 30)).alloc (.cells #[.int .i64 0] 3)) (w.heap.size + 1) (w.heap.size + 1 + 1)) := hide (by refine ⟨?_, ?_, ?_, ?_, ?_, ?_, ?_, ?_, ?_, ?_⟩ <;> (try simp [go_sem]) <;> omega)
  have HX : Hid (∀ w' : World, Keep (((w.alloc (.cells #[.int .i64 a0, .int .i64 a1, .int .i64 a2, .int .i64 a3, .int .i64 a4, .slice aN nN cN, .slice aS nS cS, .int .i64 a5, .int .i64 a6] 27)).alloc (.cells #[.int .i64 0] 30)).alloc (.cells #[.int .i64 0] 3)) w' → w'.cell? ⟨w.heap.size, 0, none⟩ = some (.int .i64 a0) ∧ w'.cell? ⟨w.heap.size, 1, none⟩ = some (.int .i64 a1) ∧ w'.cell? ⟨w.heap.size, 2, none⟩ = some (.int .i64 a2) ∧ w'.cell? ⟨w.heap.size, 3, none⟩ = some (.int .i64 a3) ∧ w'.cell? ⟨w.heap.size, 4, none⟩ = some (.int .i64 a4) ∧ w'.cell? ⟨w.heap.size, 5, none⟩ = some (.slice aN nN cN) ∧ w'.cell? ⟨w.heap.size, 6, none⟩ = some (.slice aS nS cS) ∧ w'.cell? ⟨w.heap.size, 7, none⟩ = some (.int .i64 a5) ∧ w'.cell? ⟨w.heap.size, 8, none⟩ = some (.int .i64 a6)) := hide (fun w' k9 => by
    have h := k9.block w.heap.size (by simp; omega)
    have e : (((w.alloc (.cells #[.int .i64 a0, .int .i64 a1, .int .i64 a2, .int .i64 a3, .int .i64 a4, .slice aN nN cN, .slice aS nS cS, .int .i64 a5, .int .i64 a6] 27)).alloc (.cells #[.int .i64 0] 30)).alloc (.cells #[.int .i64 0] 3)).heap[w.heap.size]? = some (.cells #[.int .i64 a0, .int .i64 a1, .int .i64 a2, .int .i64 a3, .int .i64 a4, .slice aN nN cN, .slice aS nS cS, .int .i64 a5, .int .i64 a6] 27 (0, 0)) := by rw [Below.heap_alloc _ _ _ (by simp; omega), Below.heap_alloc _ _ _ (by simp)]; exact heap_alloc_new _ _
    rw [e] at h
    refine ⟨?_, ?_, ?_, ?_, ?_, ?_, ?_, ?_, ?_⟩ <;> simp [World.cell?, h])
  go_enter_defers Try.func10, Try.ntmps10
  go_upto_region 2 with fail
  generalize ((w.alloc (.cells #[.int .i64 a0, .int .i64 a1, .int .i64 a2, .int .i64 a3, .int .i64 a4, .slice aN nN cN, .slice aS nS cS, .int .i64 a5, .int .i64 a6] 27)).alloc (.cells #[.int .i64 0] 30)).alloc (.cells #[.int .i64 0] 3) = w3 at KB BB HX ⊢
  obtain ⟨x, HXX⟩ : ∃ x, Hid (w.heap.size = x) := ⟨_, hide rfl⟩
  obtain ⟨b, HBB⟩ : ∃ x, Hid (w.heap.size + 1 = x) := ⟨_, hide rfl⟩
  obtain ⟨g, HGG⟩ : ∃ x, Hid (w.heap.size + 1 + 1 = x) := ⟨_, hide rfl⟩
  rw [uq HGG, uq HBB] at BB ⊢
  rw [uq HXX] at HX ⊢
  obtain ⟨f0, f1, f2, f3, f4, f5, f6, f7, f8⟩ := (uq HX) w3 (Keep.refl _)
  go_wp2_with fail
  (refine ((uq TW) _ (uq KB)).mono ?_; rintro e w4 ⟨rfl, hk⟩; have KL := hide hk; clear hk)
  go_wp2_with fail
  obtain ⟨h1, h2, h3, h4, h5, h6, h7, h8, h9, h10⟩ := (uq BB).keep (uq KL)
  refine leaves_cons (f := 18) (args := #[.pointer (some ⟨b, 0, none⟩), .pointer (some ⟨g, 0, none⟩)]) (by simp) (by simp [go_sem]) ?_
  refine (catch_ern b g c _ _ h3 h4).mono ?_
  rintro e u' w9 ⟨rfl, rfl, rfl⟩
  have KE := Below.trans9' ((uq KB).trans (uq KL)) (Below.setCell (Below.refl w.heap.size w4) (p := ⟨b, 0, none⟩) h7 (.int .i64 c))
  simp [Leaves, settle, results, Try.results10, go_sem, h3, h4, h5, h6, h9, h10]
  exact KE
set_option maxHeartbeats 4000000 in
theorem check_nd (a0 a1 a2 a3 a4 : Int) (aN : Option Addr) (nN cN : Nat) (aS : Option Addr) (nS cS : Nat) (a5 a6 : Int) (z : Int × Int) (MN : List (List UInt8 × Int)) (w : World)
    (TW : Hid (∀ w', Keep w w' → Calls Try.prog 19 #[.agg #[.int .i64 a0, .int .i64 a1, .int .i64 a2, .int .i64 a3, .int .i64 a4, .slice aN nN cN, .slice aS nS cS, .int .i64 a5, .int .i64 a6]] w' fun e w'' => e = .returned (.tuple #[]) ∧ Keep w' w''))
    (TN : Hid (∀ w', Keep w w' → Calls Try.prog 21 #[.slice aN nN cN] w' (Hq (some z) MN w'))) :
    Calls Try.prog 10 #[.agg #[.int .i64 a0, .int .i64 a1, .int .i64 a2, .int .i64 a3, .int .i64 a4, .slice aN nN cN, .slice aS nS cS, .int .i64 a5, .int .i64 a6]] w fun e w' => e = .returned (.tuple #[.int .i64 z.1, .int .i64 z.2]) ∧ Keep w w' := by
  have hmf : ∀ (fn : Fn) (first cap : Array Value) (w : World), (Instr.makeFunc fn first cap).run Try.prog w = .ok (.func fn first cap) w := fun _ _ _ _ => rfl
  have KB := hide ((((Keep.refl w).alloc (.cells #[.int .i64 a0, .int .i64 a1, .int .i64 a2, .int .i64 a3, .int .i64 a4, .slice aN nN cN, .slice aS nS cS, .int .i64 a5, .int .i64 a6] 27)).alloc (.cells #[.int .i64 0] 30)).alloc (.cells #[.int .i64 0] 3))
  have BB : Hid (Bx3 w (((w.alloc (.cells #[.int .i64 a0, .int .i64 a1, .int .i64 a2, .int .i64 a3, .int .i64 a4, .slice aN nN cN, .slice aS nS cS, .int .i64 a5, .int .i64 a6] 27)).alloc (.cells #[.int .i64 0] 30)).alloc (.cells #[.int .i64 0] 3)) (w.heap.size + 1) (w.heap.size + 1 + 1)) := hide (by refine ⟨?_, ?_, ?_, ?_, ?_, ?_, ?_, ?_, ?_, ?_⟩ <;> (try simp [go_sem]) <;> omega)
  have HX : Hid (∀ w' : World, Keep (((w.alloc (.cells #[.int .i64 a0, .int .i64 a1, .int .i64 a2, .int .i64 a3, .int .i64 a4, .slice aN nN cN, .slice aS nS cS, .int .i64 a5, .int .i64 a6] 27)).alloc (.cells #[.int .i64 0] 30)).alloc (.cells #[.int .i64 0] 3)) w' → w'.cell? ⟨w.heap.size, 0, none⟩ = some (.int .i64 a0) ∧ w'.cell? ⟨w.heap.size, 1, none⟩ = some (.int .i64 a1) ∧ w'.cell? ⟨w.heap.size, 2, none⟩ = some (.int .i64 a2) ∧ w'.cell? ⟨w.heap.size, 3, none⟩ = some (.int .i64 a3) ∧ w'.cell? ⟨w.heap.size, 4, none⟩ = some (.int .i64 a4) ∧ w'.cell? ⟨w.heap.size, 5, none⟩ = some (.slice aN nN cN) ∧ w'.cell? ⟨w.heap.size, 6, none⟩ = some (.slice aS nS cS) ∧ w'.cell? ⟨w.heap.size, 7, none⟩ = some (.int .i64 a5) ∧ w'.cell? ⟨w.heap.size, 8, none⟩ = some (.int .i64 a6)) := hide (fun w' k9 => by
    have h := k9.block w.heap.size (by simp; omega)
    have e : (((w.alloc (.cells #[.int .i64 a0, .int .i64 a1, .int .i64 a2, .int .i64 a3, .int .i64 a4, .slice aN nN cN, .slice aS nS cS, .int .i64 a5, .int .i64 a6] 27)).alloc (.cells #[.int .i64 0] 30)).alloc (.cells #[.int .i64 0] 3)).heap[w.heap.size]? = some (.cells #[.int .i64 a0, .int .i64 a1, .int .i64 a2, .int .i64 a3, .int .i64 a4, .slice aN nN cN, .slice aS nS cS, .int .i64 a5, .int .i64 a6] 27 (0, 0)) := by rw [Below.heap_alloc _ _ _ (by simp; omega), Below.heap_alloc _ _ _ (by simp)]; exact heap_alloc_new _ _
    rw [e] at h
    refine ⟨?_, ?_, ?_, ?_, ?_, ?_, ?_, ?_, ?_⟩ <;> simp [World.cell?, h])
  go_enter_defers Try.func10, Try.ntmps10
  go_upto_region 2 with fail
  generalize ((w.alloc (.cells #[.int .i64 a0, .int .i64 a1, .int .i64 a2, .int .i64 a3, .int .i64 a4, .slice aN nN cN, .slice aS nS cS, .int .i64 a5, .int .i64 a6] 27)).alloc (.cells #[.int .i64 0] 30)).alloc (.cells #[.int .i64 0] 3) = w3 at KB BB HX ⊢
  obtain ⟨x, HXX⟩ : ∃ x, Hid (w.heap.size = x) := ⟨_, hide rfl⟩
  obtain ⟨b, HBB⟩ : ∃ x, Hid (w.heap.size + 1 = x) := ⟨_, hide rfl⟩
  obtain ⟨g, HGG⟩ : ∃ x, Hid (w.heap.size + 1 + 1 = x) := ⟨_, hide rfl⟩
  rw [uq HGG, uq HBB] at BB ⊢
  rw [uq HXX] at HX ⊢
  obtain ⟨f0, f1, f2, f3, f4, f5, f6, f7, f8⟩ := (uq HX) w3 (Keep.refl _)
  go_wp2_with fail
  (refine ((uq TW) _ (uq KB)).mono ?_; rintro e w4 ⟨rfl, hk⟩; have K4 := hide hk; clear hk)
  clear f0 f1 f2 f3 f4 f5 f6 f7 f8
  go_upto_region 3 with fail
  refine wp_region_held_drew (S := (fun w' => w'.cell? ⟨x, 0, none⟩ = some (.int .i64 a0) ∧ w'.cell? ⟨x, 1, none⟩ = some (.int .i64 a1) ∧ w'.cell? ⟨x, 2, none⟩ = some (.int .i64 a2) ∧ w'.cell? ⟨x, 3, none⟩ = some (.int .i64 a3) ∧ w'.cell? ⟨x, 4, none⟩ = some (.int .i64 a4) ∧ w'.cell? ⟨x, 5, none⟩ = some (.slice aN nN cN) ∧ w'.cell? ⟨x, 6, none⟩ = some (.slice aS nS cS) ∧ w'.cell? ⟨x, 7, none⟩ = some (.int .i64 a5) ∧ w'.cell? ⟨x, 8, none⟩ = some (.int .i64 a6))) (by kernel_rfl) (by exact (uq HX) _ (uq K4).drew) (fun hHeld => ?_)
  refine wpAnyH_take (i := 0) (v := ?_) rfl (by kernel_rfl) (by kernel_rfl) (by kernel_rfl) (fun c a w h => hq8 _ _ (by decide) h) (Or.inl ⟨by rfl, ?_⟩) hHeld ?_
  rotate_left
  · intro w hSw
    try dsimp only at hSw
    go_simp
    try with_reducible rfl
  show wpAnyH _ _ _ _ _ _ _ (Act.put _ (some 7) _) _
  try simp only [Act.put, Ya, Yb, Yc]
  refine wpAnyH_take (i := 1) (v := ?_) rfl (by kernel_rfl) (by kernel_rfl) (by kernel_rfl) (fun c a w h => hq8 _ _ (by decide) h) (Or.inl ⟨by rfl, ?_⟩) hHeld ?_
  rotate_left
  · intro w hSw
    try dsimp only at hSw
    go_simp
    try with_reducible rfl
  show wpAnyH _ _ _ _ _ _ _ (Act.put _ (some 8) _) _
  try simp only [Act.put, Ya, Yb, Yc]
  refine wpAnyH_take (i := 2) (v := ?_) rfl (by kernel_rfl) (by kernel_rfl) (by kernel_rfl) (fun c a w h => hq8 _ _ (by decide) h) (Or.inl ⟨by rfl, ?_⟩) hHeld ?_
  rotate_left
  · intro w hSw
    try dsimp only at hSw
    go_simp
    try with_reducible rfl
  show wpAnyH _ _ _ _ _ _ _ (Act.put _ (some 9) _) _
  try simp only [Act.put, Ya, Yb, Yc]
  refine wpAnyH_ready (rs := [3]) (by kernel_rfl) (by simp) ?_
  refine AllReadyH.cons rfl (fun K hK => ?_) AllReadyH.nil
  go_simp
  clear hHeld
  (refine ((uq TN) _ ((uq KB).trans (uq K4).drew)).mono ?_; rintro e w5 ⟨hk, rfl⟩; have KL := hide ((uq K4).drew.trans hk); clear hk)
  try go_wp2_with fail
  skip
  obtain ⟨h1, h2, h3, h4, h5, h6, h7, h8, h9, h10⟩ := (uq BB).keep (uq KL)
  refine leaves_cons (f := 18) (args := #[.pointer (some ⟨b, 0, none⟩), .pointer (some ⟨g, 0, none⟩)]) (by simp) (by simp [go_sem]) ?_
  refine (catch_flt b g z.1 z.2 _ _ _ h9 h10 h1 h2 h3 h4 h5 h6).mono ?_
  rintro e u' w9 ⟨rfl, rfl, r1, r2, r3⟩
  have KE := Below.trans9' ((uq KB).trans (uq KL)) (r3 w.heap.size h7 h8)
  simp [Leaves, settle, results, Try.results10, go_sem, r1, r2]
  exact KE
set_option maxHeartbeats 4000000 in
theorem check_st (a0 a1 a2 a3 a4 : Int) (aN : Option Addr) (nN cN : Nat) (aS : Option Addr) (nS cS : Nat) (a5 a6 : Int) (z : Int × Int) (MN : List (List UInt8 × Int)) (w : World)
    (TW : Hid (∀ w', Keep w w' → Calls Try.prog 19 #[.agg #[.int .i64 a0, .int .i64 a1, .int .i64 a2, .int .i64 a3, .int .i64 a4, .slice aN nN cN, .slice aS nS cS, .int .i64 a5, .int .i64 a6]] w' fun e w'' => e = .returned (.tuple #[]) ∧ Keep w' w''))
    (TN : Hid (∀ w', Keep w w' → Calls Try.prog 21 #[.slice aN nN cN] w' (Hq none MN w')))
    (TS : Hid (∀ w' b, Keep w w' → Mp w' b MN → Calls Try.prog 20 #[.agg #[.int .i64 a0, .int .i64 a1, .int .i64 a2, .int .i64 a3, .int .i64 a4, .slice aN nN cN, .slice aS nS cS, .int .i64 a5, .int .i64 a6], .map (some b)] w' (Nq (some z) w'))) :
    Calls Try.prog 10 #[.agg #[.int .i64 a0, .int .i64 a1, .int .i64 a2, .int .i64 a3, .int .i64 a4, .slice aN nN cN, .slice aS nS cS, .int .i64 a5, .int .i64 a6]] w fun e w' => e = .returned (.tuple #[.int .i64 z.1, .int .i64 z.2]) ∧ Keep w w' := by
  have hmf : ∀ (fn : Fn) (first cap : Array Value) (w : World), (Instr.makeFunc fn first cap).run Try.prog w = .ok (.func fn first cap) w := fun _ _ _ _ => rfl
  have KB := hide ((((Keep.refl w).alloc (.cells #[.int .i64 a0, .int .i64 a1, .int .i64 a2, .int .i64 a3, .int .i64 a4, .slice aN nN cN, .slice aS nS cS, .int .i64 a5, .int .i64 a6] 27)).alloc (.cells #[.int .i64 0] 30)).alloc (.cells #[.int .i64 0] 3))
  have BB : Hid (Bx3 w (((w.alloc (.cells #[.int .i64 a0, .int .i64 a1, .int .i64 a2, .int .i64 a3, .int .i64 a4, .slice aN nN cN, .slice aS nS cS, .int .i64 a5, .int .i64 a6] 27)).alloc (.cells #[.int .i64 0] 30)).alloc (.cells #[.int .i64 0] 3)) (w.heap.size + 1) (w.heap.size + 1 + 1)) := hide (by refine ⟨?_, ?_, ?_, ?_, ?_, ?_, ?_, ?_, ?_, ?_⟩ <;> (try simp [go_sem]) <;> omega)
  have HX : Hid (∀ w' : World, Keep (((w.alloc (.cells #[.int .i64 a0, .int .i64 a1, .int .i64 a2, .int .i64 a3, .int .i64 a4, .slice aN nN cN, .slice aS nS cS, .int .i64 a5, .int .i64 a6] 27)).alloc (.cells #[.int .i64 0] 30)).alloc (.cells #[.int .i64 0] 3)) w' → w'.cell? ⟨w.heap.size, 0, none⟩ = some (.int .i64 a0) ∧ w'.cell? ⟨w.heap.size, 1, none⟩ = some (.int .i64 a1) ∧ w'.cell? ⟨w.heap.size, 2, none⟩ = some (.int .i64 a2) ∧ w'.cell? ⟨w.heap.size, 3, none⟩ = some (.int .i64 a3) ∧ w'.cell? ⟨w.heap.size, 4, none⟩ = some (.int .i64 a4) ∧ w'.cell? ⟨w.heap.size, 5, none⟩ = some (.slice aN nN cN) ∧ w'.cell? ⟨w.heap.size, 6, none⟩ = some (.slice aS nS cS) ∧ w'.cell? ⟨w.heap.size, 7, none⟩ = some (.int .i64 a5) ∧ w'.cell? ⟨w.heap.size, 8, none⟩ = some (.int .i64 a6)) := hide (fun w' k9 => by
    have h := k9.block w.heap.size (by simp; omega)
    have e : (((w.alloc (.cells #[.int .i64 a0, .int .i64 a1, .int .i64 a2, .int .i64 a3, .int .i64 a4, .slice aN nN cN, .slice aS nS cS, .int .i64 a5, .int .i64 a6] 27)).alloc (.cells #[.int .i64 0] 30)).alloc (.cells #[.int .i64 0] 3)).heap[w.heap.size]? = some (.cells #[.int .i64 a0, .int .i64 a1, .int .i64 a2, .int .i64 a3, .int .i64 a4, .slice aN nN cN, .slice aS nS cS, .int .i64 a5, .int .i64 a6] 27 (0, 0)) := by rw [Below.heap_alloc _ _ _ (by simp; omega), Below.heap_alloc _ _ _ (by simp)]; exact heap_alloc_new _ _
    rw [e] at h
    refine ⟨?_, ?_, ?_, ?_, ?_, ?_, ?_, ?_, ?_⟩ <;> simp [World.cell?, h])
  go_enter_defers Try.func10, Try.ntmps10
  go_upto_region 2 with fail
  generalize ((w.alloc (.cells #[.int .i64 a0, .int .i64 a1, .int .i64 a2, .int .i64 a3, .int .i64 a4, .slice aN nN cN, .slice aS nS cS, .int .i64 a5, .int .i64 a6] 27)).alloc (.cells #[.int .i64 0] 30)).alloc (.cells #[.int .i64 0] 3) = w3 at KB BB HX ⊢
  obtain ⟨x, HXX⟩ : ∃ x, Hid (w.heap.size = x) := ⟨_, hide rfl⟩
  obtain ⟨b, HBB⟩ : ∃ x, Hid (w.heap.size + 1 = x) := ⟨_, hide rfl⟩
  obtain ⟨g, HGG⟩ : ∃ x, Hid (w.heap.size + 1 + 1 = x) := ⟨_, hide rfl⟩
  rw [uq HGG, uq HBB] at BB ⊢
  rw [uq HXX] at HX ⊢
  obtain ⟨f0, f1, f2, f3, f4, f5, f6, f7, f8⟩ := (uq HX) w3 (Keep.refl _)
  go_wp2_with fail
  (refine ((uq TW) _ (uq KB)).mono ?_; rintro e w4 ⟨rfl, hk⟩; have K4 := hide hk; clear hk)
  clear f0 f1 f2 f3 f4 f5 f6 f7 f8
  go_upto_region 3 with fail
  refine wp_region_held_drew (S := (fun w' => w'.cell? ⟨x, 0, none⟩ = some (.int .i64 a0) ∧ w'.cell? ⟨x, 1, none⟩ = some (.int .i64 a1) ∧ w'.cell? ⟨x, 2, none⟩ = some (.int .i64 a2) ∧ w'.cell? ⟨x, 3, none⟩ = some (.int .i64 a3) ∧ w'.cell? ⟨x, 4, none⟩ = some (.int .i64 a4) ∧ w'.cell? ⟨x, 5, none⟩ = some (.slice aN nN cN) ∧ w'.cell? ⟨x, 6, none⟩ = some (.slice aS nS cS) ∧ w'.cell? ⟨x, 7, none⟩ = some (.int .i64 a5) ∧ w'.cell? ⟨x, 8, none⟩ = some (.int .i64 a6))) (by kernel_rfl) (by exact (uq HX) _ (uq K4).drew) (fun hHeld => ?_)
  refine wpAnyH_take (i := 0) (v := ?_) rfl (by kernel_rfl) (by kernel_rfl) (by kernel_rfl) (fun c a w h => hq8 _ _ (by decide) h) (Or.inl ⟨by rfl, ?_⟩) hHeld ?_
  rotate_left
  · intro w hSw
    try dsimp only at hSw
    go_simp
    try with_reducible rfl
  show wpAnyH _ _ _ _ _ _ _ (Act.put _ (some 7) _) _
  try simp only [Act.put, Ya, Yb, Yc]
  refine wpAnyH_take (i := 1) (v := ?_) rfl (by kernel_rfl) (by kernel_rfl) (by kernel_rfl) (fun c a w h => hq8 _ _ (by decide) h) (Or.inl ⟨by rfl, ?_⟩) hHeld ?_
  rotate_left
  · intro w hSw
    try dsimp only at hSw
    go_simp
    try with_reducible rfl
  show wpAnyH _ _ _ _ _ _ _ (Act.put _ (some 8) _) _
  try simp only [Act.put, Ya, Yb, Yc]
  refine wpAnyH_take (i := 2) (v := ?_) rfl (by kernel_rfl) (by kernel_rfl) (by kernel_rfl) (fun c a w h => hq8 _ _ (by decide) h) (Or.inl ⟨by rfl, ?_⟩) hHeld ?_
  rotate_left
  · intro w hSw
    try dsimp only at hSw
    go_simp
    try with_reducible rfl
  show wpAnyH _ _ _ _ _ _ _ (Act.put _ (some 9) _) _
  try simp only [Act.put, Ya, Yb, Yc]
  refine rdyy 3 (fun K hK => ?_)
  go_simp
  clear hHeld
  (refine ((uq TN) _ ((uq KB).trans (uq K4).drew)).mono ?_; rintro e w5 ⟨hk, bn, rfl, hbn, hM⟩; have K5 := hide ((uq K4).drew.trans hk); have HM := hide hM; clear hk hM)
  try go_wp2_with fail
  refine hK.out _ _ ?_ (fun hHeld => ?_)
  · exact (uq HX) _ (uq K5)
  clear hK K
  try simp only [Act.put, Ya, Yb, Yc]
  refine wpAnyH_ready (rs := [4]) (by kernel_rfl) (by simp) ?_
  refine AllReadyH.cons rfl (fun K hK => ?_) AllReadyH.nil
  go_simp
  clear hHeld
  (refine ((uq TS) _ bn ((uq KB).trans (uq K5)) (uq HM)).mono ?_; rintro e w6 ⟨hk, rfl⟩; have KL := hide ((uq K5).trans hk); clear hk)
  try go_wp2_with fail
  skip
  obtain ⟨h1, h2, h3, h4, h5, h6, h7, h8, h9, h10⟩ := (uq BB).keep (uq KL)
  refine leaves_cons (f := 18) (args := #[.pointer (some ⟨b, 0, none⟩), .pointer (some ⟨g, 0, none⟩)]) (by simp) (by simp [go_sem]) ?_
  refine (catch_flt b g z.1 z.2 _ _ _ h9 h10 h1 h2 h3 h4 h5 h6).mono ?_
  rintro e u' w9 ⟨rfl, rfl, r1, r2, r3⟩
  have KE := Below.trans9' ((uq KB).trans (uq KL)) (r3 w.heap.size h7 h8)
  simp [Leaves, settle, results, Try.results10, go_sem, r1, r2]
  exact KE
set_option maxHeartbeats 4000000 in
theorem check_ok (a0 a1 a2 a3 a4 : Int) (aN : Option Addr) (nN cN : Nat) (aS : Option Addr) (nS cS : Nat) (a5 a6 : Int) (MN : List (List UInt8 × Int)) (w : World)
    (TW : Hid (∀ w', Keep w w' → Calls Try.prog 19 #[.agg #[.int .i64 a0, .int .i64 a1, .int .i64 a2, .int .i64 a3, .int .i64 a4, .slice aN nN cN, .slice aS nS cS, .int .i64 a5, .int .i64 a6]] w' fun e w'' => e = .returned (.tuple #[]) ∧ Keep w' w''))
    (TN : Hid (∀ w', Keep w w' → Calls Try.prog 21 #[.slice aN nN cN] w' (Hq none MN w')))
    (TS : Hid (∀ w' b, Keep w w' → Mp w' b MN → Calls Try.prog 20 #[.agg #[.int .i64 a0, .int .i64 a1, .int .i64 a2, .int .i64 a3, .int .i64 a4, .slice aN nN cN, .slice aS nS cS, .int .i64 a5, .int .i64 a6], .map (some b)] w' (Nq none w'))) :
    Calls Try.prog 10 #[.agg #[.int .i64 a0, .int .i64 a1, .int .i64 a2, .int .i64 a3, .int .i64 a4, .slice aN nN cN, .slice aS nS cS, .int .i64 a5, .int .i64 a6]] w fun e w' => e = .returned (.tuple #[.int .i64 0, .int .i64 0]) ∧ Keep w w' := by
  have hmf : ∀ (fn : Fn) (first cap : Array Value) (w : World), (Instr.makeFunc fn first cap).run Try.prog w = .ok (.func fn first cap) w := fun _ _ _ _ => rfl
  have KB := hide ((((Keep.refl w).alloc (.cells #[.int .i64 a0, .int .i64 a1, .int .i64 a2, .int .i64 a3, .int .i64 a4, .slice aN nN cN, .slice aS nS cS, .int .i64 a5, .int .i64 a6] 27)).alloc (.cells #[.int .i64 0] 30)).alloc (.cells #[.int .i64 0] 3))
  have BB : Hid (Bx3 w (((w.alloc (.cells #[.int .i64 a0, .int .i64 a1, .int .i64 a2, .int .i64 a3, .int .i64 a4, .slice aN nN cN, .slice aS nS cS, .int .i64 a5, .int .i64 a6] 27)).alloc (.cells #[.int .i64 0] 30)).alloc (.cells #[.int .i64 0] 3)) (w.heap.size + 1) (w.heap.size + 1 + 1)) := hide (by refine ⟨?_, ?_, ?_, ?_, ?_, ?_, ?_, ?_, ?_, ?_⟩ <;> (try simp [go_sem]) <;> omega)
  have HX : Hid (∀ w' : World, Keep (((w.alloc (.cells #[.int .i64 a0, .int .i64 a1, .int .i64 a2, .int .i64 a3, .int .i64 a4, .slice aN nN cN, .slice aS nS cS, .int .i64 a5, .int .i64 a6] 27)).alloc (.cells #[.int .i64 0] 30)).alloc (.cells #[.int .i64 0] 3)) w' → w'.cell? ⟨w.heap.size, 0, none⟩ = some (.int .i64 a0) ∧ w'.cell? ⟨w.heap.size, 1, none⟩ = some (.int .i64 a1) ∧ w'.cell? ⟨w.heap.size, 2, none⟩ = some (.int .i64 a2) ∧ w'.cell? ⟨w.heap.size, 3, none⟩ = some (.int .i64 a3) ∧ w'.cell? ⟨w.heap.size, 4, none⟩ = some (.int .i64 a4) ∧ w'.cell? ⟨w.heap.size, 5, none⟩ = some (.slice aN nN cN) ∧ w'.cell? ⟨w.heap.size, 6, none⟩ = some (.slice aS nS cS) ∧ w'.cell? ⟨w.heap.size, 7, none⟩ = some (.int .i64 a5) ∧ w'.cell? ⟨w.heap.size, 8, none⟩ = some (.int .i64 a6)) := hide (fun w' k9 => by
    have h := k9.block w.heap.size (by simp; omega)
    have e : (((w.alloc (.cells #[.int .i64 a0, .int .i64 a1, .int .i64 a2, .int .i64 a3, .int .i64 a4, .slice aN nN cN, .slice aS nS cS, .int .i64 a5, .int .i64 a6] 27)).alloc (.cells #[.int .i64 0] 30)).alloc (.cells #[.int .i64 0] 3)).heap[w.heap.size]? = some (.cells #[.int .i64 a0, .int .i64 a1, .int .i64 a2, .int .i64 a3, .int .i64 a4, .slice aN nN cN, .slice aS nS cS, .int .i64 a5, .int .i64 a6] 27 (0, 0)) := by rw [Below.heap_alloc _ _ _ (by simp; omega), Below.heap_alloc _ _ _ (by simp)]; exact heap_alloc_new _ _
    rw [e] at h
    refine ⟨?_, ?_, ?_, ?_, ?_, ?_, ?_, ?_, ?_⟩ <;> simp [World.cell?, h])
  go_enter_defers Try.func10, Try.ntmps10
  go_upto_region 2 with fail
  generalize ((w.alloc (.cells #[.int .i64 a0, .int .i64 a1, .int .i64 a2, .int .i64 a3, .int .i64 a4, .slice aN nN cN, .slice aS nS cS, .int .i64 a5, .int .i64 a6] 27)).alloc (.cells #[.int .i64 0] 30)).alloc (.cells #[.int .i64 0] 3) = w3 at KB BB HX ⊢
  obtain ⟨x, HXX⟩ : ∃ x, Hid (w.heap.size = x) := ⟨_, hide rfl⟩
  obtain ⟨b, HBB⟩ : ∃ x, Hid (w.heap.size + 1 = x) := ⟨_, hide rfl⟩
  obtain ⟨g, HGG⟩ : ∃ x, Hid (w.heap.size + 1 + 1 = x) := ⟨_, hide rfl⟩
  rw [uq HGG, uq HBB] at BB ⊢
  rw [uq HXX] at HX ⊢
  obtain ⟨f0, f1, f2, f3, f4, f5, f6, f7, f8⟩ := (uq HX) w3 (Keep.refl _)
  go_wp2_with fail
  (refine ((uq TW) _ (uq KB)).mono ?_; rintro e w4 ⟨rfl, hk⟩; have K4 := hide hk; clear hk)
  clear f0 f1 f2 f3 f4 f5 f6 f7 f8
  go_upto_region 3 with fail
  refine wp_region_held_drew (S := (fun w' => w'.cell? ⟨x, 0, none⟩ = some (.int .i64 a0) ∧ w'.cell? ⟨x, 1, none⟩ = some (.int .i64 a1) ∧ w'.cell? ⟨x, 2, none⟩ = some (.int .i64 a2) ∧ w'.cell? ⟨x, 3, none⟩ = some (.int .i64 a3) ∧ w'.cell? ⟨x, 4, none⟩ = some (.int .i64 a4) ∧ w'.cell? ⟨x, 5, none⟩ = some (.slice aN nN cN) ∧ w'.cell? ⟨x, 6, none⟩ = some (.slice aS nS cS) ∧ w'.cell? ⟨x, 7, none⟩ = some (.int .i64 a5) ∧ w'.cell? ⟨x, 8, none⟩ = some (.int .i64 a6))) (by kernel_rfl) (by exact (uq HX) _ (uq K4).drew) (fun hHeld => ?_)
  refine wpAnyH_take (i := 0) (v := ?_) rfl (by kernel_rfl) (by kernel_rfl) (by kernel_rfl) (fun c a w h => hq8 _ _ (by decide) h) (Or.inl ⟨by rfl, ?_⟩) hHeld ?_
  rotate_left
  · intro w hSw
    try dsimp only at hSw
    go_simp
    try with_reducible rfl
  show wpAnyH _ _ _ _ _ _ _ (Act.put _ (some 7) _) _
  try simp only [Act.put, Ya, Yb, Yc]
  refine wpAnyH_take (i := 1) (v := ?_) rfl (by kernel_rfl) (by kernel_rfl) (by kernel_rfl) (fun c a w h => hq8 _ _ (by decide) h) (Or.inl ⟨by rfl, ?_⟩) hHeld ?_
  rotate_left
  · intro w hSw
    try dsimp only at hSw
    go_simp
    try with_reducible rfl
  show wpAnyH _ _ _ _ _ _ _ (Act.put _ (some 8) _) _
  try simp only [Act.put, Ya, Yb, Yc]
  refine wpAnyH_take (i := 2) (v := ?_) rfl (by kernel_rfl) (by kernel_rfl) (by kernel_rfl) (fun c a w h => hq8 _ _ (by decide) h) (Or.inl ⟨by rfl, ?_⟩) hHeld ?_
  rotate_left
  · intro w hSw
    try dsimp only at hSw
    go_simp
    try with_reducible rfl
  show wpAnyH _ _ _ _ _ _ _ (Act.put _ (some 9) _) _
  try simp only [Act.put, Ya, Yb, Yc]
  refine rdyy 3 (fun K hK => ?_)
  go_simp
  clear hHeld
  (refine ((uq TN) _ ((uq KB).trans (uq K4).drew)).mono ?_; rintro e w5 ⟨hk, bn, rfl, hbn, hM⟩; have K5 := hide ((uq K4).drew.trans hk); have HM := hide hM; clear hk hM)
  try go_wp2_with fail
  refine hK.out _ _ ?_ (fun hHeld => ?_)
  · exact (uq HX) _ (uq K5)
  clear hK K
  try simp only [Act.put, Ya, Yb, Yc]
  refine rdyy 4 (fun K hK => ?_)
  go_simp
  clear hHeld
  (refine ((uq TS) _ bn ((uq KB).trans (uq K5)) (uq HM)).mono ?_; rintro e w6 ⟨hk, rfl⟩; have KL := hide ((uq K5).trans hk); clear hk)
  try go_wp2_with fail
  refine hK.out _ _ ?_ (fun hHeld => ?_)
  · exact (uq HX) _ (uq KL)
  clear hK K
  try simp only [Act.put, Ya, Yb, Yc]
  refine wpAnyH_done (by kernel_rfl) ?_ _
  clear hHeld
  obtain ⟨h1, h2, h3, h4, h5, h6, h7, h8, h9, h10⟩ := (uq BB).keep (uq KL)
  go_wp2_with fail
  refine leaves_cons (f := 18) (args := #[.pointer (some ⟨b, 0, none⟩), .pointer (some ⟨g, 0, none⟩)]) (by simp) (by simp [go_sem]) ?_
  refine (catch_idle _ _ _).mono ?_
  rintro e u' w9 ⟨rfl, rfl, rfl⟩
  have KE := Below.trans9' ((uq KB).trans (uq KL)) (Below.setCell (Below.setCell (Below.refl w.heap.size w6) (p := ⟨b, 0, none⟩) h7 (.int .i64 0)) (p := ⟨g, 0, none⟩) h8 (.int .i64 0))
  simp [Leaves, settle, results, Try.results10, go_sem, h3, h4, h5, h6, h9, h10]
  exact KE
end V
end Go.Proofs.Ytjincjlalopbfaa
