/- Package crit: Sum over letters. -/
import Derived.Test.YtdgmndjofbdgeaaCrC
import Derived.Test.YtdgmndjofbdgeaaWholeQ
import Derived.Deep.DrawnRows
import Derived.Deep.RegionHeld3
import Derived.Laws.AppendOwn
import Derived.Laws.OwnMore
import Derived.Laws.MakeOwn
import Derived.OwnWalk
namespace Go.Proofs.Ytdgmndjofbdgeaa
open Go.RowKit
attribute [local go_sem ↓] Go.wp_at_zero Go.wp_at_succ
set_option linter.unusedVariables false
set_option linter.unusedSimpArgs false
set_option maxRecDepth 10000
namespace Cr
open V
theorem keep_st {a w : World} {T i : Nat} {u : Value} (h : Keep a w) (hT : a.heap.size ≤ T) : Keep a (w.setCell ⟨T, i, none⟩ u) := Below.setCell h hT u
theorem own_st {w : World} {B : Nat} {e : TypeId} {z n : Nat} {v : Value} {xs : List Value} {T i : Nat} {u : Value} (h : w.ownsRow B e z v n xs) (hT : T < B) : (w.setCell ⟨T, i, none⟩ u).ownsRow B e z v n xs := by
  refine ⟨h.1, ?_⟩
  rcases h.2 with h2 | ⟨g, cap, cur, rfl, hb, hc, r⟩
  · exact .inl h2
  · refine .inr ⟨g, cap, cur, rfl, hb, ?_, r⟩
    rw [Below.heap_setCell _ _ _ _ (by simp only; omega)]
    exact hc
set_option maxHeartbeats 1000000 in
theorem withoutRing_any (a : Option Addr) (n c : Nat) (w : World) : Calls Try.prog 23 #[.agg #[.slice a n c]] w fun e w' => e = .returned (.bool (n == 0)) ∧ Keep w w' := by
  have K := hide ((Keep.refl w).alloc (.cells #[.slice a n c] 44))
  go_enter Try.func23, Try.ntmps23
  by_cases h : n = 0
  · subst h
    go_wp2_with fail
    go_ret
    exact ⟨rfl, uq K⟩
  · have h1 : ((n : Int) == 0) = false := by simpa using h
    have h2 : (n == 0) = false := by simpa using h
    have h3 : ¬ (n : Int) = 0 := by omega
    rw [h2]
    go_wp2_with fail
    go_ret
    exact ⟨rfl, uq K⟩
set_option maxHeartbeats 2000000 in
theorem ixfGroup (x4 : Option Addr) (n cap : Nat) (XG : Nat → Option Addr) (NG CG : Nat → Nat) (r : Int) (w : World) (hn : n ≤ 9223372036854775807)
    (HC : Hid (∀ k, k < n → ∃ ad, x4 = some ad ∧ ad.block < w.heap.size ∧ w.cell? (ad.add k) = some (.slice (XG k) (NG k) (CG k))))
    (HI : Hid (ix (fun k => NG k == 0) 0 n = r)) :
    Calls Try.prog 44 #[.slice x4 n cap, .func (.func 23) #[] #[]] w fun e w' => e = .returned (.int .i64 r) ∧ Keep w w' := by
  go_enter Try.func44, Try.ntmps44
  go_wp2_with fail
  go_loopw [8] (fun vi wr => ∃ k : Nat, vi = .int .i64 (k : Int) ∧ k ≤ n ∧ Hid (Keep w wr) ∧ Hid (ix (fun k => NG k == 0) k (n - k) = r)) (fun vi _ => n - (intOf vi).toNat)
  case atStart => exact ⟨0, rfl, Nat.zero_le _, hide (Keep.refl _), HI⟩
  case round =>
    obtain ⟨k, rfl, hk, KW, HF⟩ := hrel
    by_cases hlt : k < n
    · have li : (k : Int) < (n : Int) := by omega
      obtain ⟨ad, rfl, hb, e0⟩ := (uq HC) k hlt
      have x0 := far_cell (uq KW) (by rw [add_block9]; exact hb) e0
      clear e0
      have TK := hide (withoutRing_any (XG k) (NG k) (CG k))
      cases hB : (NG k == 0)
      · have HF2 := hide (ix_no (B := fun k => NG k == 0) (uq HF) hlt hB)
        rw [hB] at TK
        clear hB HF
        go_wp2_with fail
        (refine ((uq TK) _).mono ?_; rintro e w2 ⟨rfl, hk9⟩; have K2 := hide ((uq KW).trans hk9); clear hk9)
        go_wp2_with fail
        go_roundw
        case rel => exact ⟨k + 1, by go_num, by omega, K2, HF2⟩
        case measure => simp [intOf]; omega
      · have hr := ix_yes (B := fun k => NG k == 0) (uq HF) hlt hB
        rw [hB] at TK
        subst hr
        clear hB HF
        go_wp2_with fail
        (refine ((uq TK) _).mono ?_; rintro e w2 ⟨rfl, hk9⟩; have K2 := hide ((uq KW).trans hk9); clear hk9)
        go_wp2_with fail
        go_ret
        exact ⟨rfl, uq K2⟩
    · have li : ¬ (k : Int) < (n : Int) := by omega
      have hr := ix_end (uq HF) (by omega)
      subst hr
      go_wp2_with fail
      go_ret
      exact ⟨rfl, uq KW⟩
/-- is one of the groups without a ring? -/
def zr (NG : Nat → Nat) (n : Nat) : Bool := decide (0 ≤ ix (fun k => NG k == 0) 0 n)
set_option maxHeartbeats 1000000 in
theorem containsGroup (x4 : Option Addr) (n cap : Nat) (XG : Nat → Option Addr) (NG CG : Nat → Nat) (w : World) (hn : n ≤ 9223372036854775807)
    (HC : Hid (∀ k, k < n → ∃ ad, x4 = some ad ∧ ad.block < w.heap.size ∧ w.cell? (ad.add k) = some (.slice (XG k) (NG k) (CG k)))) :
    Calls Try.prog 22 #[.slice x4 n cap, .func (.func 23) #[] #[]] w fun e w' => e = .returned (.bool (zr NG n)) ∧ Keep w w' := by
  have T := hide (ixfGroup x4 n cap XG NG CG _ w hn HC (hide rfl))
  unfold zr
  generalize ix (fun k => NG k == 0) 0 n = r at T ⊢
  go_enter Try.func22, Try.ntmps22
  go_wp2_with fail
  (refine (uq T).mono ?_; rintro e w2 ⟨rfl, hk9⟩; have K2 := hide hk9; clear hk9)
  by_cases h : 0 ≤ r
  · go_wp2_with fail
    go_ret
    exact ⟨by simp [h], uq K2⟩
  · have h2 : r < 0 := by omega
    have h3 : ¬ 0 ≤ r := h
    clear h
    go_wp2_with fail
    go_ret
    exact ⟨by simp [h3], uq K2⟩
set_option maxHeartbeats 4000000 in
theorem sum_len (s : ByteArray) (x1 : Option Addr) (n1 c1 : Nat) (x2 : Option Addr) (n2 c2 : Nat) (x3 : Option Addr) (n3 c3 : Nat) (x4 : Option Addr) (n4 c4 : Nat) (x5 : Option Addr) (n5 c5 : Nat) (p : Int) (xf : Option Addr) (nf cf : Nat) (w : World) (h : ¬ nf = n3) :
    Calls Try.prog 7 #[.agg #[.string s, .slice x1 n1 c1, .slice x2 n2 c2, .slice x3 n3 c3, .slice x4 n4 c4, .slice x5 n5 c5, .int .i64 p], .slice xf nf cf] w fun e w' => e = .returned (.tuple #[.agg #[.int .i64 0, .int .i64 0, .slice none 0 0], .int .i64 1]) ∧ Keep w w' := by
  have h1 : ((nf : Int) != (n3 : Int)) = true := by simp; omega
  have h2 : ¬ (nf : Int) = (n3 : Int) := by omega
  have h3 : ((nf : Int) == (n3 : Int)) = false := by simp; omega
  have hnw0 := heap_alloc_new w (.cells #[.string s, .slice x1 n1 c1, .slice x2 n2 c2, .slice x3 n3 c3, .slice x4 n4 c4, .slice x5 n5 c5, .int .i64 p] 28)
  have hnw1 := heap_alloc_new (w.alloc (.cells #[.string s, .slice x1 n1 c1, .slice x2 n2 c2, .slice x3 n3 c3, .slice x4 n4 c4, .slice x5 n5 c5, .int .i64 p] 28)) (.cells #[.int .i64 0, .int .i64 0, .slice none 0 0] 35)
  have K0 := hide (((Keep.refl w).alloc (.cells #[.string s, .slice x1 n1 c1, .slice x2 n2 c2, .slice x3 n3 c3, .slice x4 n4 c4, .slice x5 n5 c5, .int .i64 p] 28)).alloc (.cells #[.int .i64 0, .int .i64 0, .slice none 0 0] 35))
  have hnwa : ((w.alloc (.cells #[.string s, .slice x1 n1 c1, .slice x2 n2 c2, .slice x3 n3 c3, .slice x4 n4 c4, .slice x5 n5 c5, .int .i64 p] 28)).alloc (.cells #[.int .i64 0, .int .i64 0, .slice none 0 0] 35)).heap[w.heap.size]? = some (.cells #[.string s, .slice x1 n1 c1, .slice x2 n2 c2, .slice x3 n3 c3, .slice x4 n4 c4, .slice x5 n5 c5, .int .i64 p] 28 (0, 0)) := by rw [heap_alloc_old _ _ (by simp)]; exact hnw0
  rw [World.size_alloc] at hnw1
  clear hnw0
  go_enter Try.func7, Try.ntmps7
  go_upto_region 1 with fail
  generalize (w.alloc (.cells #[.string s, .slice x1 n1 c1, .slice x2 n2 c2, .slice x3 n3 c3, .slice x4 n4 c4, .slice x5 n5 c5, .int .i64 p] 28)).alloc (.cells #[.int .i64 0, .int .i64 0, .slice none 0 0] 35) = w0 at hnwa hnw1 K0 ⊢
  obtain ⟨q0, HQ0⟩ : ∃ q, Hid (w.heap.size = q) := ⟨_, hide rfl⟩
  rw [uq HQ0] at hnwa hnw1 ⊢
  have HX0 : Hid (∀ w' : World, Keep w0 w' → (w'.cell? ⟨q0, 0, none⟩ = some (.string s) ∧ w'.cell? ⟨q0, 1, none⟩ = some (.slice x1 n1 c1) ∧ w'.cell? ⟨q0, 2, none⟩ = some (.slice x2 n2 c2) ∧ w'.cell? ⟨q0, 3, none⟩ = some (.slice x3 n3 c3) ∧ w'.cell? ⟨q0, 4, none⟩ = some (.slice x4 n4 c4) ∧ w'.cell? ⟨q0, 5, none⟩ = some (.slice x5 n5 c5) ∧ w'.cell? ⟨q0, 6, none⟩ = some (.int .i64 p)) ∧ w'.cell? ⟨q0 + 1, 0, none⟩ = some (.int .i64 0) ∧ w'.cell? ⟨q0 + 1, 1, none⟩ = some (.int .i64 0) ∧ w'.cell? ⟨q0 + 1, 2, none⟩ = some (.slice none 0 0)) := hide (fun w' k9 => by
    have h1 := k9.block q0 (Array.getElem?_eq_some_iff.1 hnwa).1
    rw [hnwa] at h1
    have h2 := k9.block (q0 + 1) (Array.getElem?_eq_some_iff.1 hnw1).1
    rw [hnw1] at h2
    refine ⟨⟨?_, ?_, ?_, ?_, ?_, ?_, ?_⟩, ?_, ?_, ?_⟩ <;> simp [World.cell?, h1, h2])
  have HXZ : Hid (∀ w' : World, Keep w0 w' → w'.frozen? ⟨q0 + 1, 0, none⟩ = false ∧ w'.frozen? ⟨q0 + 1, 1, none⟩ = false ∧ w'.frozen? ⟨q0 + 1, 2, none⟩ = false) := hide (fun w' k9 => by
    have h2 := k9.block (q0 + 1) (Array.getElem?_eq_some_iff.1 hnw1).1
    rw [hnw1] at h2
    refine ⟨?_, ?_, ?_⟩ <;> simp [World.frozen?, h2])
  clear hnwa hnw1
  obtain ⟨⟨z0, z1, z2, z3, z4, z5, z6⟩, g0, g1, g2⟩ := (uq HX0) w0 (Keep.refl _)
  obtain ⟨y0, y1, y2⟩ := (uq HXZ) w0 (Keep.refl _)
  have lq0 : q0 + 1 < w0.heap.size := World.block_lt_of_cell? w0 _ g0
  have lq1 : q0 < w0.heap.size := by omega
  go_wp2_with fail
  exact bodyPost_ret (v := .tuple #[.agg #[.int .i64 0, .int .i64 0, .slice none 0 0], .int .i64 1]) (by simp [results, Try.results7, go_sem, g0, g1, g2, lq0]) rfl ⟨rfl, by repeat (first | exact (uq K0) | apply Keep.alloc | apply Keep.drew | (refine keep_st ?_ (by have := uq HQ0; omega)))⟩
set_option maxHeartbeats 4000000 in
theorem sum_none (s : ByteArray) (x1 : Option Addr) (n1 c1 : Nat) (x2 : Option Addr) (n2 c2 : Nat) (x3 : Option Addr) (n3 c3 : Nat) (x4 : Option Addr) (n4 c4 : Nat) (x5 : Option Addr) (n5 c5 : Nat) (p : Int) (xf : Option Addr) (cf : Nat) (w : World)
    (TC : Hid (∀ w', Keep w w' → Calls Try.prog 22 #[.slice x4 n4 c4, .func (.func 23) #[] #[]] w' fun e w'' => e = .returned (.bool true) ∧ Keep w' w'')) :
    Calls Try.prog 7 #[.agg #[.string s, .slice x1 n1 c1, .slice x2 n2 c2, .slice x3 n3 c3, .slice x4 n4 c4, .slice x5 n5 c5, .int .i64 p], .slice xf n3 cf] w fun e w' => e = .returned (.tuple #[.agg #[.int .i64 0, .int .i64 0, .slice none 0 0], .int .i64 1]) ∧ Keep w w' := by
  have hnw0 := heap_alloc_new w (.cells #[.string s, .slice x1 n1 c1, .slice x2 n2 c2, .slice x3 n3 c3, .slice x4 n4 c4, .slice x5 n5 c5, .int .i64 p] 28)
  have hnw1 := heap_alloc_new (w.alloc (.cells #[.string s, .slice x1 n1 c1, .slice x2 n2 c2, .slice x3 n3 c3, .slice x4 n4 c4, .slice x5 n5 c5, .int .i64 p] 28)) (.cells #[.int .i64 0, .int .i64 0, .slice none 0 0] 35)
  have K0 := hide (((Keep.refl w).alloc (.cells #[.string s, .slice x1 n1 c1, .slice x2 n2 c2, .slice x3 n3 c3, .slice x4 n4 c4, .slice x5 n5 c5, .int .i64 p] 28)).alloc (.cells #[.int .i64 0, .int .i64 0, .slice none 0 0] 35))
  have hnwa : ((w.alloc (.cells #[.string s, .slice x1 n1 c1, .slice x2 n2 c2, .slice x3 n3 c3, .slice x4 n4 c4, .slice x5 n5 c5, .int .i64 p] 28)).alloc (.cells #[.int .i64 0, .int .i64 0, .slice none 0 0] 35)).heap[w.heap.size]? = some (.cells #[.string s, .slice x1 n1 c1, .slice x2 n2 c2, .slice x3 n3 c3, .slice x4 n4 c4, .slice x5 n5 c5, .int .i64 p] 28 (0, 0)) := by rw [heap_alloc_old _ _ (by simp)]; exact hnw0
  rw [World.size_alloc] at hnw1
  clear hnw0
  go_enter Try.func7, Try.ntmps7
  go_upto_region 1 with fail
  generalize (w.alloc (.cells #[.string s, .slice x1 n1 c1, .slice x2 n2 c2, .slice x3 n3 c3, .slice x4 n4 c4, .slice x5 n5 c5, .int .i64 p] 28)).alloc (.cells #[.int .i64 0, .int .i64 0, .slice none 0 0] 35) = w0 at hnwa hnw1 K0 ⊢
  obtain ⟨q0, HQ0⟩ : ∃ q, Hid (w.heap.size = q) := ⟨_, hide rfl⟩
  rw [uq HQ0] at hnwa hnw1 ⊢
  have HX0 : Hid (∀ w' : World, Keep w0 w' → (w'.cell? ⟨q0, 0, none⟩ = some (.string s) ∧ w'.cell? ⟨q0, 1, none⟩ = some (.slice x1 n1 c1) ∧ w'.cell? ⟨q0, 2, none⟩ = some (.slice x2 n2 c2) ∧ w'.cell? ⟨q0, 3, none⟩ = some (.slice x3 n3 c3) ∧ w'.cell? ⟨q0, 4, none⟩ = some (.slice x4 n4 c4) ∧ w'.cell? ⟨q0, 5, none⟩ = some (.slice x5 n5 c5) ∧ w'.cell? ⟨q0, 6, none⟩ = some (.int .i64 p)) ∧ w'.cell? ⟨q0 + 1, 0, none⟩ = some (.int .i64 0) ∧ w'.cell? ⟨q0 + 1, 1, none⟩ = some (.int .i64 0) ∧ w'.cell? ⟨q0 + 1, 2, none⟩ = some (.slice none 0 0)) := hide (fun w' k9 => by
    have h1 := k9.block q0 (Array.getElem?_eq_some_iff.1 hnwa).1
    rw [hnwa] at h1
    have h2 := k9.block (q0 + 1) (Array.getElem?_eq_some_iff.1 hnw1).1
    rw [hnw1] at h2
    refine ⟨⟨?_, ?_, ?_, ?_, ?_, ?_, ?_⟩, ?_, ?_, ?_⟩ <;> simp [World.cell?, h1, h2])
  have HXZ : Hid (∀ w' : World, Keep w0 w' → w'.frozen? ⟨q0 + 1, 0, none⟩ = false ∧ w'.frozen? ⟨q0 + 1, 1, none⟩ = false ∧ w'.frozen? ⟨q0 + 1, 2, none⟩ = false) := hide (fun w' k9 => by
    have h2 := k9.block (q0 + 1) (Array.getElem?_eq_some_iff.1 hnw1).1
    rw [hnw1] at h2
    refine ⟨?_, ?_, ?_⟩ <;> simp [World.frozen?, h2])
  clear hnwa hnw1
  obtain ⟨⟨z0, z1, z2, z3, z4, z5, z6⟩, g0, g1, g2⟩ := (uq HX0) w0 (Keep.refl _)
  obtain ⟨y0, y1, y2⟩ := (uq HXZ) w0 (Keep.refl _)
  have lq0 : q0 + 1 < w0.heap.size := World.block_lt_of_cell? w0 _ g0
  have lq1 : q0 < w0.heap.size := by omega
  go_wp2_with fail
  (refine ((uq TC) _ (uq K0)).mono ?_; rintro e w2 ⟨rfl, hk9⟩; have K2 := hide hk9; clear hk9)
  clear z0 z1 z2 z3 z4 z5 z6 g0 g1 g2 y0 y1 y2 lq0 lq1
  obtain ⟨⟨z0, z1, z2, z3, z4, z5, z6⟩, g0, g1, g2⟩ := (uq HX0) w2 (uq K2)
  obtain ⟨y0, y1, y2⟩ := (uq HXZ) w2 (uq K2)
  have lq0 : q0 + 1 < w2.heap.size := World.block_lt_of_cell? w2 _ g0
  have lq1 : q0 < w2.heap.size := by omega
  go_wp2_with fail
  exact bodyPost_ret (v := .tuple #[.agg #[.int .i64 0, .int .i64 0, .slice none 0 0], .int .i64 1]) (by simp [results, Try.results7, go_sem, g0, g1, g2, lq0]) rfl ⟨rfl, by repeat (first | exact ((uq K0).trans (uq K2)) | apply Keep.alloc | apply Keep.drew | (refine keep_st ?_ (by have := uq HQ0; omega)))⟩
def eL (Q : Nat → Nat → List (Int × Int)) (NG : Nat → Nat) (k : Nat) : List (Int × Int) := tb (fun j => sS (Q k j)) (NG k)
def gR (Q : Nat → Nat → List (Int × Int)) (NG : Nat → Nat) (k : Nat) : Nat := gst (eL Q NG k) (NG k)
def sU (Q : Nat → Nat → List (Int × Int)) (NG : Nat → Nat) (k : Nat) : Int × Int := (eL Q NG k).getD (gR Q NG k) (0, 0)
def zK (Q : Nat → Nat → List (Int × Int)) (NG : Nat → Nat) (k : Nat) : Int := fz (fun j => sZ (Q k j)) 0 (NG k)
theorem eL_len (Q : Nat → Nat → List (Int × Int)) (NG : Nat → Nat) (k : Nat) : (eL Q NG k).length = NG k := tb_len _ _
theorem eL_in (Q : Nat → Nat → List (Int × Int)) (NG : Nat → Nat) (k : Nat) : ∀ x ∈ eL Q NG k, In x.1 ∧ In x.2 := by
  intro x hx
  obtain ⟨j, _, rfl⟩ := tb_mem hx
  exact sS_in _
/-- a contract of greatest -/
def GstC (F : Nat) : Prop := ∀ (v : Value) (L : List (Int × Int)) (w : World), Frs w v L → L.length ≤ 1000 → (∀ x ∈ L, In x.1 ∧ In x.2) → Calls Try.prog F #[v] w fun e w' => e = .returned (.int .i64 ((gst L L.length : Nat) : Int)) ∧ Keep w w'
/-- how Sum ends where nothing is wrong with its arguments -/
def zS (Q : Nat → Nat → List (Int × Int)) (NG : Nat → Nat) (n : Nat) : Int := if fz (zK Q NG) 0 n = 0 then sZ (tb (sU Q NG) n) else fz (zK Q NG) 0 n
def Cq (Q : Nat → Nat → List (Int × Int)) (NG : Nat → Nat) (n : Nat) (w : World) (e : Ending) (w' : World) : Prop := ∃ X Y v z, e = .returned (.tuple #[.agg #[.int .i64 X, .int .i64 Y, v], .int .i64 z]) ∧ Keep w w' ∧ z = zS Q NG n ∧ (¬ z = 0 → X = 0 ∧ Y = 0 ∧ v = .slice none 0 0) ∧ (z = 0 → (X, Y) = sS (tb (sU Q NG) n) ∧ w'.ownsRow w.heap.size 3 1 v n (ics (tb (fun k => ((gR Q NG k : Nat) : Int)) n)))
theorem own_l {w : World} {B : Nat} {e : TypeId} {z n : Nat} {v : Value} {xs : List Value} (h : w.ownsRow B e z v n xs) : ∃ a cap, v = .slice a n cap := by
  obtain ⟨a, cap, e, _⟩ := own_cell h
  exact ⟨a, cap, e⟩
set_option maxHeartbeats 8000000 in
theorem sum_main (s : ByteArray) (x1 : Option Addr) (n1 c1 : Nat) (x2 : Option Addr) (n2 c2 : Nat) (x3 : Option Addr) (n3 c3 : Nat) (x4 : Option Addr) (n4 c4 : Nat) (x5 : Option Addr) (n5 c5 : Nat) (p : Int) (xf : Option Addr) (cf : Nat) (XG : Nat → Option Addr) (NG CG : Nat → Nat) (Q : Nat → Nat → List (Int × Int)) (w : World) (hn : n4 ≤ 50)
    (HNG : Hid (∀ k, k < n4 → 0 < NG k ∧ NG k ≤ 1000))
    (HC : Hid (∀ k, k < n4 → ∃ ad, x4 = some ad ∧ ad.block < w.heap.size ∧ w.cell? (ad.add k) = some (.slice (XG k) (NG k) (CG k))))
    (TC : Hid (∀ w', Keep w w' → Calls Try.prog 22 #[.slice x4 n4 c4, .func (.func 23) #[] #[]] w' fun e w'' => e = .returned (.bool false) ∧ Keep w' w''))
    (TR : Hid (∀ k, k < n4 → ∀ w', Keep w w' → Calls Try.prog 24 #[.agg #[.string s, .slice x1 n1 c1, .slice x2 n2 c2, .slice x3 n3 c3, .slice x4 n4 c4, .slice x5 n5 c5, .int .i64 p], .agg #[.slice (XG k) (NG k) (CG k)], .slice xf n3 cf] w' (Rsq (NG k) (Q k) w')))
    (TG : Hid (GstC 25)) (TS : Hid (SumC 26)) :
    Calls Try.prog 7 #[.agg #[.string s, .slice x1 n1 c1, .slice x2 n2 c2, .slice x3 n3 c3, .slice x4 n4 c4, .slice x5 n5 c5, .int .i64 p], .slice xf n3 cf] w (Cq Q NG n4 w) := by
  obtain ⟨i0, hi0, hz00, hz01, hz02⟩ := info_f infoF
  obtain ⟨i1, hi1, hz10, hz11, hz12⟩ := info_f infoI
  have HRR : Hid (fz (zK Q NG) 0 (n4 - 0) = fz (zK Q NG) 0 n4) := hide rfl
  obtain ⟨r, hr⟩ : ∃ r, fz (zK Q NG) 0 n4 = r := ⟨_, rfl⟩
  rw [hr] at HRR
  have HR := hide hr
  clear hr
  obtain ⟨ZZ, hZhmk, hmk⟩ : ∃ ZZ : Array Value, ZZ.size = n4 * 2 ∧ ∀ w, (Instr.makeSlice 29 (.int .i64 0) (.int .i64 (n4 : Int))).run Try.prog w = .ok (.slice (some ⟨w.heap.size, 0, none⟩) 0 n4) (w.alloc (.cells ZZ 32)) := by
    refine ⟨madeCells (Value.agg #[.int .i64 0, .int .i64 0]).cells (n4 * 2), by simp [size_madeCells], fun w => ?_⟩
    have h := run_make (P := Try.prog) w 29 32 i0 _ Try.underlying29 hi0 hz00 .i64 .i64 0 (n4 : Int) (by omega) (by omega) (by rw [hz02]; omega) (by omega)
    rw [hz01] at h
    simpa using h
  obtain ⟨ZI, hZhmi, hmi⟩ : ∃ ZZ : Array Value, ZZ.size = n4 * 1 ∧ ∀ w, (Instr.makeSlice 33 (.int .i64 0) (.int .i64 (n4 : Int))).run Try.prog w = .ok (.slice (some ⟨w.heap.size, 0, none⟩) 0 n4) (w.alloc (.cells ZZ 3)) := by
    refine ⟨madeCells (Value.int .i64 0).cells (n4 * 1), by simp [size_madeCells], fun w => ?_⟩
    have h := run_make (P := Try.prog) w 33 3 i1 _ Try.underlying33 hi1 hz10 .i64 .i64 0 (n4 : Int) (by omega) (by omega) (by rw [hz12]; omega) (by omega)
    rw [hz11] at h
    simpa using h
  have hnw0 := heap_alloc_new w (.cells #[.string s, .slice x1 n1 c1, .slice x2 n2 c2, .slice x3 n3 c3, .slice x4 n4 c4, .slice x5 n5 c5, .int .i64 p] 28)
  have hnw1 := heap_alloc_new (w.alloc (.cells #[.string s, .slice x1 n1 c1, .slice x2 n2 c2, .slice x3 n3 c3, .slice x4 n4 c4, .slice x5 n5 c5, .int .i64 p] 28)) (.cells #[.int .i64 0, .int .i64 0, .slice none 0 0] 35)
  have K0 := hide (((Keep.refl w).alloc (.cells #[.string s, .slice x1 n1 c1, .slice x2 n2 c2, .slice x3 n3 c3, .slice x4 n4 c4, .slice x5 n5 c5, .int .i64 p] 28)).alloc (.cells #[.int .i64 0, .int .i64 0, .slice none 0 0] 35))
  have hnwa : ((w.alloc (.cells #[.string s, .slice x1 n1 c1, .slice x2 n2 c2, .slice x3 n3 c3, .slice x4 n4 c4, .slice x5 n5 c5, .int .i64 p] 28)).alloc (.cells #[.int .i64 0, .int .i64 0, .slice none 0 0] 35)).heap[w.heap.size]? = some (.cells #[.string s, .slice x1 n1 c1, .slice x2 n2 c2, .slice x3 n3 c3, .slice x4 n4 c4, .slice x5 n5 c5, .int .i64 p] 28 (0, 0)) := by rw [heap_alloc_old _ _ (by simp)]; exact hnw0
  rw [World.size_alloc] at hnw1
  clear hnw0
  go_enter Try.func7, Try.ntmps7
  go_upto_region 1 with fail
  generalize (w.alloc (.cells #[.string s, .slice x1 n1 c1, .slice x2 n2 c2, .slice x3 n3 c3, .slice x4 n4 c4, .slice x5 n5 c5, .int .i64 p] 28)).alloc (.cells #[.int .i64 0, .int .i64 0, .slice none 0 0] 35) = w0 at hnwa hnw1 K0 ⊢
  obtain ⟨q0, HQ0⟩ : ∃ q, Hid (w.heap.size = q) := ⟨_, hide rfl⟩
  rw [uq HQ0] at hnwa hnw1 ⊢
  have HX0 : Hid (∀ w' : World, Keep w0 w' → (w'.cell? ⟨q0, 0, none⟩ = some (.string s) ∧ w'.cell? ⟨q0, 1, none⟩ = some (.slice x1 n1 c1) ∧ w'.cell? ⟨q0, 2, none⟩ = some (.slice x2 n2 c2) ∧ w'.cell? ⟨q0, 3, none⟩ = some (.slice x3 n3 c3) ∧ w'.cell? ⟨q0, 4, none⟩ = some (.slice x4 n4 c4) ∧ w'.cell? ⟨q0, 5, none⟩ = some (.slice x5 n5 c5) ∧ w'.cell? ⟨q0, 6, none⟩ = some (.int .i64 p)) ∧ w'.cell? ⟨q0 + 1, 0, none⟩ = some (.int .i64 0) ∧ w'.cell? ⟨q0 + 1, 1, none⟩ = some (.int .i64 0) ∧ w'.cell? ⟨q0 + 1, 2, none⟩ = some (.slice none 0 0)) := hide (fun w' k9 => by
    have h1 := k9.block q0 (Array.getElem?_eq_some_iff.1 hnwa).1
    rw [hnwa] at h1
    have h2 := k9.block (q0 + 1) (Array.getElem?_eq_some_iff.1 hnw1).1
    rw [hnw1] at h2
    refine ⟨⟨?_, ?_, ?_, ?_, ?_, ?_, ?_⟩, ?_, ?_, ?_⟩ <;> simp [World.cell?, h1, h2])
  have HXZ : Hid (∀ w' : World, Keep w0 w' → w'.frozen? ⟨q0 + 1, 0, none⟩ = false ∧ w'.frozen? ⟨q0 + 1, 1, none⟩ = false ∧ w'.frozen? ⟨q0 + 1, 2, none⟩ = false) := hide (fun w' k9 => by
    have h2 := k9.block (q0 + 1) (Array.getElem?_eq_some_iff.1 hnw1).1
    rw [hnw1] at h2
    refine ⟨?_, ?_, ?_⟩ <;> simp [World.frozen?, h2])
  clear hnwa hnw1
  obtain ⟨⟨z0, z1, z2, z3, z4, z5, z6⟩, g0, g1, g2⟩ := (uq HX0) w0 (Keep.refl _)
  obtain ⟨y0, y1, y2⟩ := (uq HXZ) w0 (Keep.refl _)
  have lq0 : q0 + 1 < w0.heap.size := World.block_lt_of_cell? w0 _ g0
  have lq1 : q0 < w0.heap.size := by omega
  go_wp2_with fail
  (refine ((uq TC) _ (uq K0)).mono ?_; rintro e w2 ⟨rfl, hk9⟩; have K2 := hide hk9; clear hk9)
  clear z0 z1 z2 z3 z4 z5 z6 g0 g1 g2 y0 y1 y2 lq0 lq1
  obtain ⟨⟨z0, z1, z2, z3, z4, z5, z6⟩, g0, g1, g2⟩ := (uq HX0) w2 (uq K2)
  obtain ⟨y0, y1, y2⟩ := (uq HXZ) w2 (uq K2)
  have lq0 : q0 + 1 < w2.heap.size := World.block_lt_of_cell? w2 _ g0
  have lq1 : q0 < w2.heap.size := by omega
  have HSI := hide (World.ownsRow_made (base := w0.heap.size) (e := 3) (size := 1) w2 ZI n4 (Below.size (uq K2)) (by unfold maxLen; omega) hZhmi)
  have HSF := hide (World.ownsRow_made (base := w0.heap.size) (e := 32) (size := 2) (w2.alloc (.cells ZI 3)) ZZ n4 (by have := Below.size (uq K2); simp; omega) (by unfold maxLen; omega) hZhmk)
  have HSI2 := hide ((uq HSI).alloc (.cells ZZ 32))
  rw [World.size_alloc] at HSF
  have KM := hide (((uq K2).alloc (.cells ZI 3)).alloc (.cells ZZ 32))
  go_wp2_with fail
  clear z0 z1 z2 z3 z4 z5 z6 g0 g1 g2 y0 y1 y2 lq0 lq1
  go_loopw [6, 7, 38] (fun vr vs vi wr => ∃ k : Nat, k ≤ n4 ∧ vi = .int .i64 (k : Int) ∧ Hid (wr.ownsRow w0.heap.size 3 1 vr k (ics (tb (fun k => ((gR Q NG k : Nat) : Int)) k))) ∧ Hid (wr.ownsRow w0.heap.size 32 2 vs k (fcs (tb (sU Q NG) k))) ∧ Hid (fz (zK Q NG) k (n4 - k) = r) ∧ Hid (Keep w0 wr)) (fun vr vs vi _ => n4 - (intOf vi).toNat)
  case atStart => exact ⟨0, Nat.zero_le _, rfl, HSI2, HSF, HRR, KM⟩
  case round =>
    obtain ⟨k, hk, rfl, HOI, HOF, HFZ, KW⟩ := hrel
    by_cases hlt : k < n4
    · have li : (k : Int) < (n4 : Int) := by omega
      have KWW := hide ((uq K0).trans (uq KW))
      obtain ⟨ad, rfl, hb, e0⟩ := (uq HC) k hlt
      have y0 := V.far_cell (uq KWW) (by rw [V.add_block9]; exact hb) e0
      clear e0
      obtain ⟨hg1, hg2⟩ := (uq HNG) k hlt
      have hbx := heap_alloc_new wr (.cells #[.slice (XG k) (NG k) (CG k)] 44)
      have KB := hide ((uq KW).alloc (.cells #[.slice (XG k) (NG k) (CG k)] 44))
      have KA := hide ((Keep.refl wr).alloc (.cells #[.slice (XG k) (NG k) (CG k)] 44))
      go_upto_region 8 with fail
      generalize wr.alloc (.cells #[.slice (XG k) (NG k) (CG k)] 44) = wa at hbx KB KA ⊢
      obtain ⟨q, HQ⟩ : ∃ q, Hid (wr.heap.size = q) := ⟨_, hide rfl⟩
      rw [uq HQ] at hbx ⊢
      have HXq : Hid (∀ w' : World, Keep wa w' → w'.cell? ⟨q, 0, none⟩ = some (.slice (XG k) (NG k) (CG k))) := hide (fun w' k9 => by
        have h1 := k9.block q (Array.getElem?_eq_some_iff.1 hbx).1
        rw [hbx] at h1
        simp [World.cell?, h1])
      clear hbx y0
      have f0 := (uq HXq) wa (Keep.refl wa)
      obtain ⟨⟨z0, z1, z2, z3, z4, z5, z6⟩, g0, g1, g2⟩ := (uq HX0) wa (uq KB)
      have TK := hide ((uq TR) k hlt wa ((uq K0).trans (uq KB)))
      have HZY : Hid (¬ zK Q NG k = 0 → r = zK Q NG k) := hide (fun h => fz_yes (uq HFZ) hlt h)
      have HZN : Hid (zK Q NG k = 0 → fz (zK Q NG) (k + 1) (n4 - (k + 1)) = r) := hide (fun h => fz_no (uq HFZ) hlt h)
      go_wp2_with fail
      (refine (uq TK).mono ?_; rintro e w3 ⟨ve, z, rfl, hk9, hz, hv⟩; have K3 := hide ((uq KB).trans hk9); have KA3 := hide ((uq KA).trans hk9); clear hk9)
      change z = zK Q NG k at hz
      rw [← hz] at HZY HZN
      clear z0 z1 z2 z3 z4 z5 z6 g0 g1 g2 f0 TK hz
      have HOI3 := hide (own_k (uq HOI) (uq KA3))
      have HOF3 := hide (own_k (uq HOF) (uq KA3))
      have hsz := Below.size (uq K3)
      clear HOI HOF
      rcases hv with ⟨hz, rfl⟩ | ⟨rfl, hv⟩
      · have hzb : (z != 0) = true := by simpa using hz
        have HZ := hide hz
        have HRZ := hide ((uq HZY) hz)
        clear hz HZY HZN
        obtain ⟨⟨z0, z1, z2, z3, z4, z5, z6⟩, g0, g1, g2⟩ := (uq HX0) w3 (uq K3)
        obtain ⟨y0, y1, y2⟩ := (uq HXZ) w3 (uq K3)
        have lq0 : q0 + 1 < w3.heap.size := World.block_lt_of_cell? w3 _ g0
        have lq1 : q0 < w3.heap.size := by omega
        go_wp2_with fail
        exact bodyPost_ret (v := .tuple #[.agg #[.int .i64 0, .int .i64 0, .slice none 0 0], .int .i64 z]) (by simp [results, Try.results7, go_sem, g0, g1, g2, lq0]) rfl ⟨_, _, _, _, rfl, by repeat (first | exact ((uq K0).trans (uq K3)) | apply Keep.alloc | apply Keep.drew | (refine keep_st ?_ (by have := uq HQ0; omega))), by unfold zS; rw [uq HR, if_neg (by rw [uq HRZ]; exact uq HZ)]; exact (uq HRZ).symm, fun _ => ⟨rfl, rfl, rfl⟩, fun h => absurd h (uq HZ)⟩
      · have HF2 := hide ((uq HZN) rfl)
        clear HZN HZY
        change w3.ownsRow wa.heap.size 32 2 ve (NG k) (fcs (eL Q NG k)) at hv
        obtain ⟨ae, ce, rfl⟩ := own_l hv
        have HOE := hide hv
        clear hv
        have hel := eL_len Q NG k
        have hrd := gst_lt (eL Q NG k) (NG k)
        change gR Q NG k ≤ NG k - 1 at hrd
        have TK2 : Hid (∀ w, Frs w (.slice ae (NG k) ce) (eL Q NG k) → Calls Try.prog 25 #[.slice ae (NG k) ce] w fun e w' => e = .returned (.int .i64 ((gR Q NG k : Nat) : Int)) ∧ Keep w w') := hide (fun w h => by
          have h2 := (uq TG) _ _ w h (by omega) (eL_in Q NG k)
          rw [hel] at h2
          exact h2)
        have HFE : Hid (∀ w', w'.ownsRow wa.heap.size 32 2 (.slice ae (NG k) ce) (NG k) (fcs (eL Q NG k)) → Frs w' (.slice ae (NG k) ce) (eL Q NG k)) := hide (fun w' h => frs_own (by rw [hel]; exact h) (eL_in Q NG k))
        have TK3 := hide ((uq TK2) w3 ((uq HFE) w3 (uq HOE)))
        have HSI : Hid (ics (tb (fun k => ((gR Q NG k : Nat) : Int)) (k + 1)) = ics (tb (fun k => ((gR Q NG k : Nat) : Int)) k) ++ [.int .i64 ((gR Q NG k : Nat) : Int)]) := hide (by rw [tb, ics_app]; rfl)
        have HSF : Hid (fcs (tb (sU Q NG) (k + 1)) = fcs (tb (sU Q NG) k) ++ [.int .i64 (sU Q NG k).1, .int .i64 (sU Q NG k).2]) := hide (by rw [tb, fcs_app]; rfl)
        have HCE : Hid (∀ w', Frs w' (.slice ae (NG k) ce) (eL Q NG k) → ∃ ad, ae = some ad ∧ w'.cell? (ad.add (gR Q NG k * 2)) = some (.int .i64 (sU Q NG k).1) ∧ w'.cell? ⟨(ad.add (gR Q NG k * 2)).block, (ad.add (gR Q NG k * 2)).off + 1, none⟩ = some (.int .i64 (sU Q NG k).2)) := hide (fun w' h => by
          obtain ⟨a, c, e1, h1⟩ := h
          injection e1 with e3 e4 e5
          subst e3
          obtain ⟨ad, e2, h2⟩ := h1 (by omega)
          obtain ⟨_, _, _, h3, h4⟩ := h2 (gR Q NG k) (by omega)
          exact ⟨ad, e2, h3, h4⟩)
        clear hel TK2
        generalize gR Q NG k = g at TK3 HSI HCE hrd
        generalize sU Q NG k = u at HSF HCE
        obtain ⟨ux, uy⟩ := u
        simp only at HSF HCE
        obtain ⟨ad6, rfl, _, _⟩ := (uq HCE) w3 ((uq HFE) w3 (uq HOE))
        go_wp2_with fail
        (refine (uq TK3).mono ?_; rintro e w5 ⟨rfl, hk9⟩; have K5 := hide ((uq K3).trans hk9); have HOI5 := hide (own_k (uq HOI3) hk9); have HOF5 := hide (own_k (uq HOF3) hk9); have HOE5 := hide (own_k (uq HOE) hk9); clear hk9)
        clear TK3 HOI3 HOF3 HOE
        have hs5 := Below.size (uq K5)
        have lg : (g : Int) < (NG k : Int) := by omega
        go_wp2_with (first | (at_builtin; refine wpList_append_own _ rfl _ _ 33 rfl w0.heap.size 3 i1 _ 1 8 Try.underlying33 hi1 hz10 hz11 hz12 rfl (by decide) _ _ _ rfl ((uq HOI5).alloc _) ⟨w5.heap.size, 0, none⟩ 1 1 [.int .i64 (g : Int)] rfl rfl (new_v w5 [.int .i64 (g : Int)] _) (by simp [Value.oneCell']) (by unfold maxLen; omega) (by omega) (by simp; omega) ?_; intro v' w6 hown' hgrow hnil; have HOI6 := hide hown'; have HG6 := hide hgrow; have K6 : Hid (Keep w0 w6) := hide (Below.grown ((uq K5).alloc _) hgrow (by simp; omega) (fun j ej => ((uq HOI5).lt j ej).1)); clear hown' hgrow hnil; have HOF6 := hide (own_g ((uq HOF5).alloc _) ((uq HOI5).alloc _) (by decide) (uq HG6)); have HOE6 := hide (own_g ((uq HOE5).alloc _) ((uq HOI5).alloc _) (by decide) (uq HG6)); obtain ⟨ad7, e7, c0, c1⟩ := (uq HCE) w6 ((uq HFE) w6 (uq HOE6)); cases e7; have hs6 := Below.size (uq K6)) | (at_builtin; refine wpList_append_own _ rfl _ _ 29 rfl w0.heap.size 32 i0 _ 2 16 Try.underlying29 hi0 hz00 hz01 hz02 rfl (by decide) _ _ _ rfl ((uq HOF6).alloc _) ⟨w6.heap.size, 0, none⟩ 1 1 [.int .i64 ux, .int .i64 uy] rfl rfl (new_v w6 [.int .i64 ux, .int .i64 uy] _) (by simp [Value.oneCell']) (by unfold maxLen; omega) (by omega) (by simp; omega) ?_; intro v' w7 hown' hgrow hnil; have HOF7 := hide hown'; have HG7 := hide hgrow; have K7 : Hid (Keep w0 w7) := hide (Below.grown ((uq K6).alloc _) hgrow (by simp; omega) (fun j ej => ((uq HOF6).lt j ej).1)); clear hown' hgrow hnil))
        have HOI7 := hide (own_g ((uq HOI6).alloc _) ((uq HOF6).alloc _) (by decide) (uq HG7))
        go_roundw
        case rel => exact ⟨k + 1, hlt, by go_num, hide (by rw [uq HSI]; exact uq HOI7), hide (by rw [uq HSF]; exact uq HOF7), HF2, K7⟩
        case measure => simp [intOf]; omega
    · have li : ¬ (k : Int) < (n4 : Int) := by omega
      obtain rfl : k = n4 := by omega
      have hr0 := fz_end (uq HFZ) (Nat.le_refl _)
      rw [hr0] at HR
      have HZS : Hid (zS Q NG k = sZ (tb (sU Q NG) k)) := hide (by unfold zS; rw [if_pos (uq HR)])
      clear hr0 HFZ
      have hln : (tb (sU Q NG) k).length = k := tb_len _ _
      have TK := hide ((uq TS) _ (tb (sU Q NG) k) wr (frs_own (by rw [hln]; exact uq HOF) (fun x hx => by obtain ⟨j, _, rfl⟩ := tb_mem hx; unfold sU; rw [List.getD_eq_getElem?_getD]; cases h9 : (eL Q NG j)[gR Q NG j]? with | none => exact ⟨by show In 0; unfold In; omega, by show In 0; unfold In; omega⟩ | some y => exact eL_in Q NG j y (List.mem_of_getElem? h9))) (by omega))
      clear hln
      obtain ⟨ar, car, rfl⟩ := own_l (uq HOI)
      go_wp2_with fail
      (refine (uq TK).mono ?_; rintro e w5 ⟨rfl, hk9⟩; have K5 := hide ((uq KW).trans hk9); have HOI5 := hide (own_k (uq HOI) hk9); clear hk9)
      clear TK
      generalize hzz : sZ (tb (sU Q NG) k) = z at HZS ⊢
      generalize hxy : sS (tb (sU Q NG) k) = xy
      obtain ⟨sx, sy⟩ := xy
      have HXY := hide hxy
      clear hxy hzz
      simp only
      obtain ⟨⟨z0, z1, z2, z3, z4, z5, z6⟩, g0, g1, g2⟩ := (uq HX0) w5 (uq K5)
      obtain ⟨y0, y1, y2⟩ := (uq HXZ) w5 (uq K5)
      have lq0 : q0 + 1 < w5.heap.size := World.block_lt_of_cell? w5 _ g0
      have lq1 : q0 < w5.heap.size := by omega
      have lb0 : q0 + 1 < w0.heap.size := World.block_lt_of_cell? w0 _ ((uq HX0) w0 (Keep.refl _)).2.1
      by_cases hz : z = 0
      · subst hz
        go_wp2_with fail
        exact bodyPost_ret (v := .tuple #[.agg #[.int .i64 sx, .int .i64 sy, .slice ar k car], .int .i64 0]) (by simp [results, Try.results7, go_sem, g0, g1, g2, lq0]) rfl ⟨_, _, _, _, rfl, by repeat (first | exact ((uq K0).trans (uq K5)) | apply Keep.alloc | apply Keep.drew | (refine keep_st ?_ (by have := uq HQ0; omega))), (uq HZS).symm, fun h => absurd rfl h, fun _ => ⟨(uq HXY).symm, (own_mono (World.ownsRow.alloc (own_st (own_st (own_st (uq HOI5) (by omega)) (by omega)) (by omega)) _) (Below.size (uq K0)))⟩⟩
      · have hzb : (z != 0) = true := by simpa using hz
        have HZ := hide hz
        clear hz
        go_wp2_with fail
        exact bodyPost_ret (v := .tuple #[.agg #[.int .i64 0, .int .i64 0, .slice none 0 0], .int .i64 z]) (by simp [results, Try.results7, go_sem, g0, g1, g2, lq0]) rfl ⟨_, _, _, _, rfl, by repeat (first | exact ((uq K0).trans (uq K5)) | apply Keep.alloc | apply Keep.drew | (refine keep_st ?_ (by have := uq HQ0; omega))), (uq HZS).symm, fun _ => ⟨rfl, rfl, rfl⟩, fun h => absurd h (uq HZ)⟩
end Cr
end Go.Proofs.Ytdgmndjofbdgeaa
