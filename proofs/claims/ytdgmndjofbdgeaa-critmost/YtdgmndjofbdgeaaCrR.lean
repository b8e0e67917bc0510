/- Chapter 11's example. -/
import Derived.Test.YtdgmndjofbdgeaaCrQ
import Derived.Test.YtdgmndjofbdgeaaLMath
import Derived.Deep.DrawnRows
import Derived.Deep.RegionHeld3
import Derived.Laws.AppendOwn
import Derived.Laws.OwnMore
import Derived.Laws.MakeOwn
import Derived.OwnWalk
namespace Go.Proofs.Ytdgmndjofbdgeaa
open Go.RowKit
attribute [local go_sem ↓] Go.wp_at_zero Go.wp_at_succ
set_option linter.unusedVariables false
set_option linter.unusedSimpArgs false
set_option maxRecDepth 10000
namespace Cr
open S
set_option maxHeartbeats 1000000 in
theorem f_any (n d X Y Z : Int) (w : World) (T : Hid (∀ w, Calls Try.prog 33 #[.int .i64 n, .int .i64 d] w fun e w' => e = .returned (.tuple #[.agg #[.int .i64 X, .int .i64 Y], .int .i64 Z]) ∧ Keep w w')) :
    Calls Try.prog 18 #[.int .i64 n, .int .i64 d] w fun e w' => e = .returned (.agg #[.int .i64 X, .int .i64 Y]) ∧ Keep w w' := by
  go_enter Try.func18, Try.ntmps18
  go_wp2_with fail
  (refine ((uq T) _).mono ?_; rintro e w2 ⟨rfl, hk⟩; obtain ⟨o1, k1, rfl⟩ := hk.ext; clear hk)
  go_wp2_with fail
  exact bodyPost_ret (v := .agg #[.int .i64 X, .int .i64 Y]) (by simp [results, Try.results18, go_sem]) rfl ⟨rfl, by repeat (first | apply keep_ext | apply Keep.alloc | apply Keep.drew | (refine keep_st ?_ (by simp <;> omega)) | exact Keep.refl _)⟩
def als (w : World) (os : List Obj) : World := os.foldl World.alloc w
theorem als_keep : ∀ (os : List Obj) (w : World), Keep w (als w os)
  | [], w => Keep.refl w
  | o :: os, w => ((Keep.refl w).alloc o).trans (als_keep os (w.alloc o))
theorem als_at : ∀ (os : List Obj) (w : World) (i : Nat) (o : Obj), os[i]? = some o → (als w os).heap[w.heap.size + i]? = some o
  | [], w, i, o, h => by simp at h
  | a :: os, w, 0, o, h => by
    obtain rfl : a = o := by simpa using h
    have h1 := heap_alloc_new w a
    have h2 := (als_keep os (w.alloc a)).block w.heap.size (by rw [World.size_alloc]; omega)
    show (als (w.alloc a) os).heap[w.heap.size + 0]? = some a
    rw [Nat.add_zero, h2]
    exact h1
  | a :: os, w, i + 1, o, h => by
    have := als_at os (w.alloc a) i o (by simpa using h)
    rw [World.size_alloc] at this
    show (als (w.alloc a) os).heap[w.heap.size + (i + 1)]? = some o
    rw [show w.heap.size + (i + 1) = w.heap.size + 1 + i by omega]
    exact this
/-- the example's phases -/
def l11 : List (List D) := [[dS [97], .row 9 1 [], dI 0], [dS [98], .row 9 1 [], dI 0], [dS [99], .row 9 1 [], dI 0], [dS [100], .row 9 1 [], dI 0]]
def ng11 (k : Nat) : Nat := if k = 0 then 2 else 1
def t11 (k j : Nat) : List (List UInt8) := if k = 0 then (if j = 0 then [[97], [98]] else [[99]]) else [[100]]
def r11 : List (Int × Int) := [(1, 4), (1, 5), (2, 5), (1, 10)]
theorem l11_sh : ∀ ds ∈ l11, ShL phaseT ds := by
  intro ds hd
  simp only [l11, List.mem_cons, List.not_mem_nil, or_false] at hd
  rcases hd with rfl | rfl | rfl | rfl <;> exact ⟨_, _, rfl, ⟨_, rfl, by decide⟩, _, _, rfl, ⟨[], rfl, by decide, fun _ h => by cases h⟩, _, _, rfl, ⟨_, rfl, by decide, by decide⟩, rfl⟩
/-- the example lies in memory -/
structure Ex (w : World) (b : Nat) : Prop where
  h0 : w.heap[b]? = some (.cells #[.string ⟨#[97]⟩, .slice none 0 0, .int .i64 0, .string ⟨#[98]⟩, .slice none 0 0, .int .i64 0, .string ⟨#[99]⟩, .slice none 0 0, .int .i64 0, .string ⟨#[100]⟩, .slice none 0 0, .int .i64 0] 73 (0, 0))
  h1 : w.heap[b + 1]? = some (.cells #[.string ⟨#[97]⟩, .string ⟨#[98]⟩] 9 (0, 0))
  h2 : w.heap[b + 2]? = some (.cells #[.string ⟨#[99]⟩] 9 (0, 0))
  h3 : w.heap[b + 3]? = some (.cells #[.bool false, .slice (some ⟨b + 1, 0, none⟩) 2 2, .bool false, .slice (some ⟨b + 2, 0, none⟩) 1 1] 70 (0, 0))
  h4 : w.heap[b + 4]? = some (.cells #[.string ⟨#[100]⟩] 9 (0, 0))
  h5 : w.heap[b + 5]? = some (.cells #[.bool false, .slice (some ⟨b + 4, 0, none⟩) 1 1] 70 (0, 0))
  h6 : w.heap[b + 6]? = some (.cells #[.slice (some ⟨b + 3, 0, none⟩) 2 2, .slice (some ⟨b + 5, 0, none⟩) 1 1] 44 (0, 0))
  h7 : w.heap[b + 7]? = some (.cells #[.string ⟨#[]⟩, .slice none 0 0, .slice none 0 0, .slice (some ⟨b, 0, none⟩) 4 4, .slice (some ⟨b + 6, 0, none⟩) 2 2, .slice none 0 0, .int .i64 0] 28 (0, 0))
theorem Ex.keep {w w' : World} {b : Nat} (h : Ex w b) (k : Keep w w') : Ex w' b := ⟨by have := k.block b (Array.getElem?_eq_some_iff.1 h.h0).1; rw [this]; exact h.h0, by have := k.block (b + 1) (Array.getElem?_eq_some_iff.1 h.h1).1; rw [this]; exact h.h1, by have := k.block (b + 2) (Array.getElem?_eq_some_iff.1 h.h2).1; rw [this]; exact h.h2, by have := k.block (b + 3) (Array.getElem?_eq_some_iff.1 h.h3).1; rw [this]; exact h.h3, by have := k.block (b + 4) (Array.getElem?_eq_some_iff.1 h.h4).1; rw [this]; exact h.h4, by have := k.block (b + 5) (Array.getElem?_eq_some_iff.1 h.h5).1; rw [this]; exact h.h5, by have := k.block (b + 6) (Array.getElem?_eq_some_iff.1 h.h6).1; rw [this]; exact h.h6, by have := k.block (b + 7) (Array.getElem?_eq_some_iff.1 h.h7).1; rw [this]; exact h.h7⟩
theorem ex_rvss {w : World} {b : Nat} (h : Ex w b) : Rvss w (some ⟨b, 0, none⟩) 3 l11 0 := by
  have hb : b < w.heap.size := (Array.getElem?_eq_some_iff.1 h.h0).1
  refine rvss_of l11 0 fun i hi => ⟨hb, ?_⟩
  have hi4 : i < 4 := hi
  have e : ∀ j, w.cell? (ati ((⟨b, 0, none⟩ : Addr).add ((0 + i) * 3)) j) = w.cell? ⟨b, i * 3 + j, none⟩ := fun j => by rw [add_pl, ati_plain]; simp
  have hc : i = 0 ∨ i = 1 ∨ i = 2 ∨ i = 3 := by omega
  rcases hc with rfl | rfl | rfl | rfl
  · refine ⟨[.string ⟨#[97]⟩, .slice none 0 0, .int .i64 0], ⟨_, _, rfl, rfl, _, _, rfl, ⟨none, 0, rfl, Nat.le_refl _, trivial⟩, _, _, rfl, rfl, rfl⟩, rfl, fun j u hu => ?_⟩
    rw [e]
    match j, hu with
    | 0, hu => simp only [World.cell?, h.h0]; simpa using hu
    | 1, hu => simp only [World.cell?, h.h0]; simpa using hu
    | 2, hu => simp only [World.cell?, h.h0]; simpa using hu
  · refine ⟨[.string ⟨#[98]⟩, .slice none 0 0, .int .i64 0], ⟨_, _, rfl, rfl, _, _, rfl, ⟨none, 0, rfl, Nat.le_refl _, trivial⟩, _, _, rfl, rfl, rfl⟩, rfl, fun j u hu => ?_⟩
    rw [e]
    match j, hu with
    | 0, hu => simp only [World.cell?, h.h0]; simpa using hu
    | 1, hu => simp only [World.cell?, h.h0]; simpa using hu
    | 2, hu => simp only [World.cell?, h.h0]; simpa using hu
  · refine ⟨[.string ⟨#[99]⟩, .slice none 0 0, .int .i64 0], ⟨_, _, rfl, rfl, _, _, rfl, ⟨none, 0, rfl, Nat.le_refl _, trivial⟩, _, _, rfl, rfl, rfl⟩, rfl, fun j u hu => ?_⟩
    rw [e]
    match j, hu with
    | 0, hu => simp only [World.cell?, h.h0]; simpa using hu
    | 1, hu => simp only [World.cell?, h.h0]; simpa using hu
    | 2, hu => simp only [World.cell?, h.h0]; simpa using hu
  · refine ⟨[.string ⟨#[100]⟩, .slice none 0 0, .int .i64 0], ⟨_, _, rfl, rfl, _, _, rfl, ⟨none, 0, rfl, Nat.le_refl _, trivial⟩, _, _, rfl, rfl, rfl⟩, rfl, fun j u hu => ?_⟩
    rw [e]
    match j, hu with
    | 0, hu => simp only [World.cell?, h.h0]; simpa using hu
    | 1, hu => simp only [World.cell?, h.h0]; simpa using hu
    | 2, hu => simp only [World.cell?, h.h0]; simpa using hu
def xg11 (b k : Nat) : Option Addr := if k = 0 then some ⟨b + 3, 0, none⟩ else some ⟨b + 5, 0, none⟩
def xr11 (b k j : Nat) : Option Addr := if k = 0 then (if j = 0 then some ⟨b + 1, 0, none⟩ else some ⟨b + 2, 0, none⟩) else some ⟨b + 4, 0, none⟩
theorem ex_nin {w : World} {b : Nat} (h : Ex w b) : Nin w ⟨#[]⟩ none 0 0 none 0 0 (some ⟨b, 0, none⟩) 4 4 (some ⟨b + 6, 0, none⟩) 2 2 none 0 0 0 (xg11 b) ng11 ng11 (fun _ _ => false) (xr11 b) t11 (fun k j => (t11 k j).length) (V.nI l11) := by
  have lt : ∀ {i : Nat} {o : Obj}, w.heap[i]? = some o → i < w.heap.size := fun h => (Array.getElem?_eq_some_iff.1 h).1
  refine ⟨fun k hk => ?_, fun k hk j hj => ?_, fun k hk j hj i hi => ?_, fun nm w' k' => V.phase_at nm l11_sh (Rvss.keep k' _ _ _ _ (ex_rvss h)) (by decide), fun nm w' k' => V.rphase_at nm l11_sh (Rvss.keep k' _ _ _ _ (ex_rvss h)) (by decide), nI_lt3 l11, by omega, fun k hk => ?_, fun k hk j hj => ?_⟩
  · have hc : k = 0 ∨ k = 1 := by omega
    rcases hc with rfl | rfl
    · exact ⟨_, rfl, lt h.h6, by rw [add_pl]; simp [World.cell?, h.h6, xg11, ng11]⟩
    · exact ⟨_, rfl, lt h.h6, by rw [add_pl]; simp [World.cell?, h.h6, xg11, ng11]⟩
  · have hc : (k = 0 ∧ j = 0) ∨ (k = 0 ∧ j = 1) ∨ (k = 1 ∧ j = 0) := by
      have h2 : k = 0 ∨ k = 1 := by omega
      rcases h2 with rfl | rfl <;> simp [ng11] at hj <;> omega
    rcases hc with ⟨rfl, rfl⟩ | ⟨rfl, rfl⟩ | ⟨rfl, rfl⟩
    · exact ⟨⟨b + 3, 0, none⟩, rfl, lt h.h3, by rw [add_pl]; simp [World.cell?, h.h3], by rw [add_pl]; simp [World.cell?, h.h3, xr11, t11]⟩
    · exact ⟨⟨b + 3, 0, none⟩, rfl, lt h.h3, by rw [add_pl]; simp [World.cell?, h.h3], by rw [add_pl]; simp [World.cell?, h.h3, xr11, t11]⟩
    · exact ⟨⟨b + 5, 0, none⟩, rfl, lt h.h5, by rw [add_pl]; simp [World.cell?, h.h5], by rw [add_pl]; simp [World.cell?, h.h5, xr11, t11]⟩
  · have hc : (k = 0 ∧ j = 0 ∧ i = 0) ∨ (k = 0 ∧ j = 0 ∧ i = 1) ∨ (k = 0 ∧ j = 1 ∧ i = 0) ∨ (k = 1 ∧ j = 0 ∧ i = 0) := by
      have h2 : k = 0 ∨ k = 1 := by omega
      rcases h2 with rfl | rfl
      · simp [ng11] at hj
        have h3 : j = 0 ∨ j = 1 := by omega
        rcases h3 with rfl | rfl <;> simp [t11] at hi <;> omega
      · simp [ng11] at hj
        subst hj
        simp [t11] at hi
        omega
    rcases hc with ⟨rfl, rfl, rfl⟩ | ⟨rfl, rfl, rfl⟩ | ⟨rfl, rfl, rfl⟩ | ⟨rfl, rfl, rfl⟩
    · exact ⟨⟨b + 1, 0, none⟩, rfl, lt h.h1, by rw [add_pl]; simp [World.cell?, h.h1, t11, sv]⟩
    · exact ⟨⟨b + 1, 0, none⟩, rfl, lt h.h1, by rw [add_pl]; simp [World.cell?, h.h1, t11, sv]⟩
    · exact ⟨⟨b + 2, 0, none⟩, rfl, lt h.h2, by rw [add_pl]; simp [World.cell?, h.h2, t11, sv]⟩
    · exact ⟨⟨b + 4, 0, none⟩, rfl, lt h.h4, by rw [add_pl]; simp [World.cell?, h.h4, t11, sv]⟩
  · show ng11 k ≤ 5
    unfold ng11; split <;> omega
  · unfold t11; split
    · split <;> simp
    · simp
theorem ex_rin {w : World} {q : Nat} (h : w.heap[q]? = some (.cells #[.int .i64 1, .int .i64 4, .int .i64 1, .int .i64 5, .int .i64 2, .int .i64 5, .int .i64 1, .int .i64 10] 32 (0, 0))) : Rin w (some ⟨q, 0, none⟩) r11 := by
  have hb : q < w.heap.size := (Array.getElem?_eq_some_iff.1 h).1
  refine ⟨fun k hk => ⟨_, rfl, hb, ?_⟩, fun x hx => ?_, by decide⟩
  · have hk4 : k < 4 := hk
    have hc : k = 0 ∨ k = 1 ∨ k = 2 ∨ k = 3 := by omega
    rw [add_pl]
    rcases hc with rfl | rfl | rfl | rfl <;> exact ⟨by simp [World.cell?, h, r11], by simp [World.cell?, h, r11]⟩
  · simp only [r11, List.mem_cons, List.not_mem_nil, or_false] at hx
    unfold In
    rcases hx with rfl | rfl | rfl | rfl <;> simp
theorem ex_ok : okS 4 2 4 ng11 := ⟨rfl, fun k _ => by unfold ng11; split <;> omega⟩
theorem ex_z : zS (Qr r11 (V.nI l11) t11) ng11 2 = 0 := by decide +kernel
theorem ex_s : sS (tb (sU (Qr r11 (V.nI l11) t11) ng11) 2) = (11, 20) := by decide +kernel
theorem ex_g : tb (fun k => ((gR (Qr r11 (V.nI l11) t11) ng11 k : Nat) : Int)) 2 = [0, 0] := by decide +kernel
theorem ex_w : wayL (V.nI l11) t11 (gR (Qr r11 (V.nI l11) t11) ng11) 2 = [0, 1, 3] := by decide +kernel
theorem ex_sum {w : World} {b q : Nat} (h : Ex w b) (hR : Rin w (some ⟨q, 0, none⟩) r11) : Calls Try.prog 7 #[.agg #[.string ⟨#[]⟩, .slice none 0 0, .slice none 0 0, .slice (some ⟨b, 0, none⟩) 4 4, .slice (some ⟨b + 6, 0, none⟩) 2 2, .slice none 0 0, .int .i64 0], .slice (some ⟨q, 0, none⟩) 4 4] w fun e w' => ∃ va vc, e = .returned (.tuple #[.agg #[.int .i64 11, .int .i64 20, .slice (some va) 2 vc], .int .i64 0]) ∧ Keep w w' ∧ Hid (w'.cell? va = some (.int .i64 0) ∧ va.block < w'.heap.size) := by
  refine (sum_any (ex_nin h) 4 hR).mono ?_
  rintro e w' ⟨X, Y, v, z, rfl, hk, e1, e2, e3⟩
  obtain rfl : z = 0 := by
    rcases e1 with ⟨e1, _⟩ | ⟨_, e1⟩
    · exact absurd ex_ok e1
    · rw [e1, ex_z]
  obtain ⟨_, e4, e5⟩ := e3 rfl
  rw [ex_s] at e4
  injection e4 with e6 e7
  subst e6 e7
  rw [ex_g] at e5
  obtain ⟨va, vc, rfl, hc⟩ := is_own (L := [0, 0]) e5
  obtain ⟨ad, rfl, f2, f3⟩ := hc 0 (by decide)
  exact ⟨ad, vc, rfl, hk, hide ⟨f3, f2⟩⟩
theorem ex_rank {w : World} {b q : Nat} (h : Ex w b) (hR : Rin w (some ⟨q, 0, none⟩) r11) : Calls Try.prog 9 #[.agg #[.string ⟨#[]⟩, .slice none 0 0, .slice none 0 0, .slice (some ⟨b, 0, none⟩) 4 4, .slice (some ⟨b + 6, 0, none⟩) 2 2, .slice none 0 0, .int .i64 0], .slice (some ⟨q, 0, none⟩) 4 4] w fun e w' => ∃ va vc, e = .returned (.slice (some va) 3 vc) ∧ Keep w w' ∧ Hid (w'.cell? ⟨va.block, va.off + 2, none⟩ = some (.int .i64 3) ∧ va.block < w'.heap.size) := by
  refine (rank_any (ex_nin h) 4 hR).mono ?_
  rintro e w' ⟨L, ⟨v, rfl, hk, ho⟩, hL⟩
  obtain rfl : L = [0, 1, 3] := by
    rcases hL with ⟨_, _, rfl⟩ | ⟨h, _⟩
    · exact ex_w
    · exact absurd ⟨ex_ok, ex_z⟩ h
  obtain ⟨va, vc, rfl, hc⟩ := is_own ho
  obtain ⟨ad, rfl, f2, f3⟩ := hc 2 (by decide)
  exact ⟨ad, vc, rfl, hk, hide ⟨f3, f2⟩⟩
set_option maxHeartbeats 8000000 in
theorem awake_core (w : World) (F4 : Hid (∀ w, Calls Try.prog 18 #[.int .i64 1, .int .i64 4] w fun e w' => e = .returned (.agg #[.int .i64 1, .int .i64 4]) ∧ Keep w w')) (F5 : Hid (∀ w, Calls Try.prog 18 #[.int .i64 1, .int .i64 5] w fun e w' => e = .returned (.agg #[.int .i64 1, .int .i64 5]) ∧ Keep w w')) (G5 : Hid (∀ w, Calls Try.prog 18 #[.int .i64 2, .int .i64 5] w fun e w' => e = .returned (.agg #[.int .i64 2, .int .i64 5]) ∧ Keep w w')) (F10 : Hid (∀ w, Calls Try.prog 18 #[.int .i64 1, .int .i64 10] w fun e w' => e = .returned (.agg #[.int .i64 1, .int .i64 10]) ∧ Keep w w')) (F20 : Hid (∀ w, Calls Try.prog 18 #[.int .i64 11, .int .i64 20] w fun e w' => e = .returned (.agg #[.int .i64 11, .int .i64 20]) ∧ Keep w w'))
    (TS : Hid (∀ w b q, Ex w b → Rin w (some ⟨q, 0, none⟩) r11 → Calls Try.prog 7 #[.agg #[.string ⟨#[]⟩, .slice none 0 0, .slice none 0 0, .slice (some ⟨b, 0, none⟩) 4 4, .slice (some ⟨b + 6, 0, none⟩) 2 2, .slice none 0 0, .int .i64 0], .slice (some ⟨q, 0, none⟩) 4 4] w fun e w' => ∃ va vc, e = .returned (.tuple #[.agg #[.int .i64 11, .int .i64 20, .slice (some va) 2 vc], .int .i64 0]) ∧ Keep w w' ∧ Hid (w'.cell? va = some (.int .i64 0) ∧ va.block < w'.heap.size)))
    (TR : Hid (∀ w b q, Ex w b → Rin w (some ⟨q, 0, none⟩) r11 → Calls Try.prog 9 #[.agg #[.string ⟨#[]⟩, .slice none 0 0, .slice none 0 0, .slice (some ⟨b, 0, none⟩) 4 4, .slice (some ⟨b + 6, 0, none⟩) 2 2, .slice none 0 0, .int .i64 0], .slice (some ⟨q, 0, none⟩) 4 4] w fun e w' => ∃ va vc, e = .returned (.slice (some va) 3 vc) ∧ Keep w w' ∧ Hid (w'.cell? ⟨va.block, va.off + 2, none⟩ = some (.int .i64 3) ∧ va.block < w'.heap.size))) :
    Calls Try.prog 12 #[] w fun e w' => e = .returned (.bool true) ∧ Keep w w' := by
  have EX : Ex (als w [.cells #[.string ⟨#[97]⟩, .slice none 0 0, .int .i64 0, .string ⟨#[98]⟩, .slice none 0 0, .int .i64 0, .string ⟨#[99]⟩, .slice none 0 0, .int .i64 0, .string ⟨#[100]⟩, .slice none 0 0, .int .i64 0] 73, .cells #[.string ⟨#[97]⟩, .string ⟨#[98]⟩] 9, .cells #[.string ⟨#[99]⟩] 9, .cells #[.bool false, .slice (some ⟨w.heap.size + 1, 0, none⟩) 2 2, .bool false, .slice (some ⟨w.heap.size + 2, 0, none⟩) 1 1] 70, .cells #[.string ⟨#[100]⟩] 9, .cells #[.bool false, .slice (some ⟨w.heap.size + 4, 0, none⟩) 1 1] 70, .cells #[.slice (some ⟨w.heap.size + 3, 0, none⟩) 2 2, .slice (some ⟨w.heap.size + 5, 0, none⟩) 1 1] 44, .cells #[.string ⟨#[]⟩, .slice none 0 0, .slice none 0 0, .slice (some ⟨w.heap.size, 0, none⟩) 4 4, .slice (some ⟨w.heap.size + 6, 0, none⟩) 2 2, .slice none 0 0, .int .i64 0] 28]) w.heap.size := ⟨als_at _ w 0 _ rfl, als_at _ w 1 _ rfl, als_at _ w 2 _ rfl, als_at _ w 3 _ rfl, als_at _ w 4 _ rfl, als_at _ w 5 _ rfl, als_at _ w 6 _ rfl, als_at _ w 7 _ rfl⟩
  have KE := hide (als_keep [.cells #[.string ⟨#[97]⟩, .slice none 0 0, .int .i64 0, .string ⟨#[98]⟩, .slice none 0 0, .int .i64 0, .string ⟨#[99]⟩, .slice none 0 0, .int .i64 0, .string ⟨#[100]⟩, .slice none 0 0, .int .i64 0] 73, .cells #[.string ⟨#[97]⟩, .string ⟨#[98]⟩] 9, .cells #[.string ⟨#[99]⟩] 9, .cells #[.bool false, .slice (some ⟨w.heap.size + 1, 0, none⟩) 2 2, .bool false, .slice (some ⟨w.heap.size + 2, 0, none⟩) 1 1] 70, .cells #[.string ⟨#[100]⟩] 9, .cells #[.bool false, .slice (some ⟨w.heap.size + 4, 0, none⟩) 1 1] 70, .cells #[.slice (some ⟨w.heap.size + 3, 0, none⟩) 2 2, .slice (some ⟨w.heap.size + 5, 0, none⟩) 1 1] 44, .cells #[.string ⟨#[]⟩, .slice none 0 0, .slice none 0 0, .slice (some ⟨w.heap.size, 0, none⟩) 4 4, .slice (some ⟨w.heap.size + 6, 0, none⟩) 2 2, .slice none 0 0, .int .i64 0] 28] w)
  simp only [als, List.foldl] at EX KE
  have EXH := hide EX
  clear EX
  go_enter Try.func12, Try.ntmps12
  go_upto_region 2 with fail
  generalize (((((((w.alloc (.cells #[.string ⟨#[97]⟩, .slice none 0 0, .int .i64 0, .string ⟨#[98]⟩, .slice none 0 0, .int .i64 0, .string ⟨#[99]⟩, .slice none 0 0, .int .i64 0, .string ⟨#[100]⟩, .slice none 0 0, .int .i64 0] 73)).alloc (.cells #[.string ⟨#[97]⟩, .string ⟨#[98]⟩] 9)).alloc (.cells #[.string ⟨#[99]⟩] 9)).alloc (.cells #[.bool false, .slice (some ⟨w.heap.size + 1, 0, none⟩) 2 2, .bool false, .slice (some ⟨w.heap.size + 2, 0, none⟩) 1 1] 70)).alloc (.cells #[.string ⟨#[100]⟩] 9)).alloc (.cells #[.bool false, .slice (some ⟨w.heap.size + 4, 0, none⟩) 1 1] 70)).alloc (.cells #[.slice (some ⟨w.heap.size + 3, 0, none⟩) 2 2, .slice (some ⟨w.heap.size + 5, 0, none⟩) 1 1] 44)).alloc (.cells #[.string ⟨#[]⟩, .slice none 0 0, .slice none 0 0, .slice (some ⟨w.heap.size, 0, none⟩) 4 4, .slice (some ⟨w.heap.size + 6, 0, none⟩) 2 2, .slice none 0 0, .int .i64 0] 28) = w1 at EXH KE ⊢
  obtain ⟨b, HB⟩ : ∃ q, Hid (w.heap.size = q) := ⟨_, hide rfl⟩
  rw [uq HB] at EXH ⊢
  go_wp2_with fail
  (refine ((uq F4) _).mono ?_; rintro e u1 ⟨rfl, k1⟩; replace k1 := hide k1)
  go_wp2_with fail
  (refine ((uq F5) _).mono ?_; rintro e u2 ⟨rfl, k2⟩; replace k2 := hide ((uq k1).trans k2))
  go_wp2_with fail
  (refine ((uq G5) _).mono ?_; rintro e u3 ⟨rfl, k3⟩; replace k3 := hide ((uq k2).trans k3))
  go_wp2_with fail
  (refine ((uq F10) _).mono ?_; rintro e u4 ⟨rfl, k4⟩; replace k4 := hide ((uq k3).trans k4))
  go_upto_region 3 with fail
  have hr := heap_alloc_new u4 (.cells #[.int .i64 1, .int .i64 4, .int .i64 1, .int .i64 5, .int .i64 2, .int .i64 5, .int .i64 1, .int .i64 10] 32)
  have k5 := hide ((uq k4).alloc (.cells #[.int .i64 1, .int .i64 4, .int .i64 1, .int .i64 5, .int .i64 2, .int .i64 5, .int .i64 1, .int .i64 10] 32))
  generalize u4.alloc (.cells #[.int .i64 1, .int .i64 4, .int .i64 1, .int .i64 5, .int .i64 2, .int .i64 5, .int .i64 1, .int .i64 10] 32) = u5 at hr k5 ⊢
  generalize u4.heap.size = q at hr ⊢
  have HR5 := hide (ex_rin hr)
  clear hr
  have E5 := hide ((uq EXH).keep (uq k5))
  have HX : Hid (∀ w' : World, Ex w' b → w'.cell? ⟨b + 7, 0, none⟩ = some (.string ⟨#[]⟩) ∧ w'.cell? ⟨b + 7, 1, none⟩ = some (.slice none 0 0) ∧ w'.cell? ⟨b + 7, 2, none⟩ = some (.slice none 0 0) ∧ w'.cell? ⟨b + 7, 3, none⟩ = some (.slice (some ⟨b, 0, none⟩) 4 4) ∧ w'.cell? ⟨b + 7, 4, none⟩ = some (.slice (some ⟨b + 6, 0, none⟩) 2 2) ∧ w'.cell? ⟨b + 7, 5, none⟩ = some (.slice none 0 0) ∧ w'.cell? ⟨b + 7, 6, none⟩ = some (.int .i64 0)) := hide (fun w' h => by refine ⟨?_, ?_, ?_, ?_, ?_, ?_, ?_⟩ <;> simp [World.cell?, h.h7])
  obtain ⟨z0, z1, z2, z3, z4, z5, z6⟩ := (uq HX) u5 (uq E5)
  go_wp2_with fail
  (refine ((uq TS) _ _ _ (uq E5) (uq HR5)).mono ?_; rintro e u6 ⟨va, vc, rfl, hk9, ha⟩; have k6 := hide ((uq k5).trans hk9); have HR6 := hide ((uq HR5).keep hk9); have E6 := hide ((uq E5).keep hk9); clear hk9)
  clear z0 z1 z2 z3 z4 z5 z6
  have hc := heap_alloc_new u6 (.cells #[.int .i64 11, .int .i64 20, .slice (some va) 2 vc] 35)
  have k7 := hide ((uq k6).alloc (.cells #[.int .i64 11, .int .i64 20, .slice (some va) 2 vc] 35))
  have m7 := hide ((Keep.refl u6).alloc (.cells #[.int .i64 11, .int .i64 20, .slice (some va) 2 vc] 35))
  go_upto_region 4 with fail
  generalize u6.alloc (.cells #[.int .i64 11, .int .i64 20, .slice (some va) 2 vc] 35) = u7 at hc k7 m7 ⊢
  generalize u6.heap.size = qc at hc ⊢
  have E7 := hide ((uq E6).keep (uq m7))
  have HR7 := hide ((uq HR6).keep (uq m7))
  have HC : Hid (∀ w' : World, Keep u7 w' → w'.cell? ⟨qc, 0, none⟩ = some (.int .i64 11) ∧ w'.cell? ⟨qc, 1, none⟩ = some (.int .i64 20) ∧ w'.cell? ⟨qc, 2, none⟩ = some (.slice (some va) 2 vc) ∧ w'.cell? va = some (.int .i64 0)) := hide (fun w' k9 => by
    have h1 := k9.block qc (Array.getElem?_eq_some_iff.1 hc).1
    rw [hc] at h1
    exact ⟨by simp [World.cell?, h1], by simp [World.cell?, h1], by simp [World.cell?, h1], kcl ((uq m7).trans k9) (uq ha).1⟩)
  clear hc
  obtain ⟨z0, z1, z2, z3, z4, z5, z6⟩ := (uq HX) u7 (uq E7)
  go_wp2_with fail
  (refine ((uq TR) _ _ _ (uq E7) (uq HR7)).mono ?_; rintro e u8 ⟨ra, rc, rfl, hk9, hr⟩; have k8 := hide ((uq k7).trans hk9); have m8 := hide hk9; clear hk9)
  clear z0 z1 z2 z3 z4 z5 z6
  go_upto_region 5 with fail
  have HS : Hid (∀ w' : World, Keep u8 w' → w'.cell? ⟨qc, 0, none⟩ = some (.int .i64 11) ∧ w'.cell? ⟨qc, 1, none⟩ = some (.int .i64 20) ∧ w'.cell? ⟨qc, 2, none⟩ = some (.slice (some va) 2 vc) ∧ w'.cell? va = some (.int .i64 0) ∧ w'.cell? ⟨ra.block, ra.off + 2, none⟩ = some (.int .i64 3)) := hide (fun w' k9 => by
    obtain ⟨a0, a1, a2, a3⟩ := (uq HC) w' ((uq m8).trans k9)
    exact ⟨a0, a1, a2, a3, kcl k9 (uq hr).1⟩)
  refine wp_region_held_drew (S := fun w' => w'.cell? ⟨qc, 0, none⟩ = some (.int .i64 11) ∧ w'.cell? ⟨qc, 1, none⟩ = some (.int .i64 20) ∧ w'.cell? ⟨qc, 2, none⟩ = some (.slice (some va) 2 vc) ∧ w'.cell? va = some (.int .i64 0) ∧ w'.cell? ⟨ra.block, ra.off + 2, none⟩ = some (.int .i64 3)) (by kernel_rfl) (by exact (uq HS) _ ((Keep.refl u8).drew)) (fun hHeld => ?_)
  refine tkk 0 37 hHeld ?_; try simp only [Act.put, Ya, Yb, Yc]
  refine tkk 1 38 hHeld ?_; try simp only [Act.put, Ya, Yb, Yc]
  refine tkk 2 39 hHeld ?_; try simp only [Act.put, Ya, Yb, Yc]
  refine tkk 3 40 hHeld ?_; try simp only [Act.put, Ya, Yb, Yc]
  refine tkk 4 41 hHeld ?_; try simp only [Act.put, Ya, Yb, Yc]
  refine rdyy 5 (fun K hK => ?_)
  go_simp
  clear hHeld
  (refine ((uq F20) _).mono ?_; rintro e u9 ⟨rfl, hk9⟩; have m9 := hide ((Keep.refl u8).drew.trans hk9); clear hk9)
  try go_wp2_with fail
  refine hK.out _ _ ?_ (fun hHeld => ?_)
  · exact (uq HS) _ (uq m9)
  clear hK K
  try simp only [Act.put, Ya, Yb, Yc]
  refine tkk 6 43 hHeld ?_; try simp only [Act.put, Ya, Yb, Yc]
  refine tkk 7 44 hHeld ?_; try simp only [Act.put, Ya, Yb, Yc]
  refine tkk 8 45 hHeld ?_; try simp only [Act.put, Ya, Yb, Yc]
  refine tkk 9 46 hHeld ?_; try simp only [Act.put, Ya, Yb, Yc]
  refine tkk 10 47 hHeld ?_; try simp only [Act.put, Ya, Yb, Yc]
  refine tkk 11 48 hHeld ?_; try simp only [Act.put, Ya, Yb, Yc]
  refine tkk 12 49 hHeld ?_; try simp only [Act.put, Ya, Yb, Yc]
  refine tkk 13 50 hHeld ?_; try simp only [Act.put, Ya, Yb, Yc]
  refine tkk 14 51 hHeld ?_; try simp only [Act.put, Ya, Yb, Yc]
  refine tkk 15 52 hHeld ?_; try simp only [Act.put, Ya, Yb, Yc]
  refine tkk 16 53 hHeld ?_; try simp only [Act.put, Ya, Yb, Yc]
  refine tkk 17 54 hHeld ?_; try simp only [Act.put, Ya, Yb, Yc]
  refine tkk 18 55 hHeld ?_; try simp only [Act.put, Ya, Yb, Yc]
  refine tkk 19 56 hHeld ?_; try simp only [Act.put, Ya, Yb, Yc]
  refine tkk 20 57 hHeld ?_; try simp only [Act.put, Ya, Yb, Yc]
  refine tkk 21 58 hHeld ?_; try simp only [Act.put, Ya, Yb, Yc]
  refine tkk 22 59 hHeld ?_; try simp only [Act.put, Ya, Yb, Yc]
  refine tkk 23 60 hHeld ?_; try simp only [Act.put, Ya, Yb, Yc]
  refine tkk 24 61 hHeld ?_; try simp only [Act.put, Ya, Yb, Yc]
  refine tkk 25 62 hHeld ?_; try simp only [Act.put, Ya, Yb, Yc]
  refine tkk 26 63 hHeld ?_; try simp only [Act.put, Ya, Yb, Yc]
  refine tkk 27 64 hHeld ?_; try simp only [Act.put, Ya, Yb, Yc]
  refine tkk 28 65 hHeld ?_; try simp only [Act.put, Ya, Yb, Yc]
  refine tkk 29 66 hHeld ?_; try simp only [Act.put, Ya, Yb, Yc]
  refine tkk 30 67 hHeld ?_; try simp only [Act.put, Ya, Yb, Yc]
  refine tkk 31 68 hHeld ?_; try simp only [Act.put, Ya, Yb, Yc]
  refine tkk 32 0 hHeld ?_; try simp only [Act.put, Ya, Yb, Yc]
  refine wpAnyH_done (by kernel_rfl) ?_ _
  clear hHeld
  go_wp2_with fail
  go_ret
  exact ⟨rfl, (uq KE).trans ((uq k8).trans (uq m9))⟩
theorem f_ex (n d : Int) (h : n * 0 = 0) (hn : 0 ≤ n ∧ n ≤ 100) (hd : 1 ≤ d ∧ d ≤ 100) (X Y : Int) (hX : pN (rn n d) (rd n d) = X) (hY : pD (rn n d) (rd n d) = Y) (w : World) : Calls Try.prog 18 #[.int .i64 n, .int .i64 d] w fun e w' => e = .returned (.agg #[.int .i64 X, .int .i64 Y]) ∧ Keep w w' := by
  refine f_any n d X Y (pE (rn n d) (rd n d)) w (hide fun w => ?_)
  have := r2of_any n d w (by omega) (by omega) (by omega) (by omega) (by omega)
  rw [decide_eq_false (by omega), show sgn false n = n from rfl, show ((d.natAbs : Nat) : Int) = d by omega] at this
  rw [← hX, ← hY]
  exact this
theorem awake_any (w : World) : Calls Try.prog 12 #[] w fun e w' => e = .returned (.bool true) ∧ Keep w w' :=
  awake_core w (hide (f_ex 1 4 rfl (by omega) (by omega) 1 4 (by decide +kernel) (by decide +kernel))) (hide (f_ex 1 5 rfl (by omega) (by omega) 1 5 (by decide +kernel) (by decide +kernel))) (hide (f_ex 2 5 rfl (by omega) (by omega) 2 5 (by decide +kernel) (by decide +kernel))) (hide (f_ex 1 10 rfl (by omega) (by omega) 1 10 (by decide +kernel) (by decide +kernel))) (hide (f_ex 11 20 rfl (by omega) (by omega) 11 20 (by decide +kernel) (by decide +kernel))) (hide fun _ _ _ h1 h2 => ex_sum h1 h2) (hide fun _ _ _ h1 h2 => ex_rank h1 h2)
end Cr
end Go.Proofs.Ytdgmndjofbdgeaa
