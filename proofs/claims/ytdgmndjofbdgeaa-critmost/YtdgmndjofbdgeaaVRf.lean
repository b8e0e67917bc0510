/- A node that lies in memory: its critical sum, the phases on its way. -/
import Derived.Test.YtdgmndjofbdgeaaCrM
import Derived.Test.YtdgmndjofbdgeaaCrF
import Derived.Test.YtdgmndjofbdgeaaLMath
import Derived.Deep.DrawnRows
import Derived.Deep.RegionHeld3
import Derived.Laws.AppendOwn
import Derived.Laws.OwnMore
import Derived.Laws.MakeOwn
import Derived.OwnWalk
import Derived.Test.YtdgmndjofbdgeaaWholeQ
namespace Go.Proofs.Ytdgmndjofbdgeaa
open Go.RowKit
attribute [local go_sem ↓] Go.wp_at_zero Go.wp_at_succ
set_option linter.unusedVariables false
set_option linter.unusedSimpArgs false
set_option maxRecDepth 10000
namespace Cr
/-- a node that lies in memory, few of each -/
structure Nin (w : World) (s : ByteArray) (x1 : Option Addr) (n1 c1 : Nat) (x2 : Option Addr) (n2 c2 : Nat) (x3 : Option Addr) (n3 c3 : Nat) (x4 : Option Addr) (n4 c4 : Nat) (x5 : Option Addr) (n5 c5 : Nat) (p : Int) (XG : Nat → Option Addr) (NG CG : Nat → Nat) (FR : Nat → Nat → Bool) (XR : Nat → Nat → Option Addr) (T : Nat → Nat → List (List UInt8)) (CR : Nat → Nat → Nat) (A : List UInt8 → Int) : Prop where
  HC : ∀ k, k < n4 → ∃ ad, x4 = some ad ∧ ad.block < w.heap.size ∧ w.cell? (ad.add k) = some (.slice (XG k) (NG k) (CG k))
  HR : ∀ k, k < n4 → ∀ j, j < NG k → ∃ ad, XG k = some ad ∧ ad.block < w.heap.size ∧ w.cell? (ad.add (j * 2)) = some (.bool (FR k j)) ∧ w.cell? ⟨(ad.add (j * 2)).block, (ad.add (j * 2)).off + 1, none⟩ = some (.slice (XR k j) (T k j).length (CR k j))
  HN : ∀ k, k < n4 → ∀ j, j < NG k → ∀ i, i < (T k j).length → ∃ ad, XR k j = some ad ∧ ad.block < w.heap.size ∧ w.cell? (ad.add i) = some (.string (sv ((T k j).getD i [])))
  TP : ∀ nm w', Keep w w' → Calls Try.prog 49 #[.agg #[.string s, .slice x1 n1 c1, .slice x2 n2 c2, .slice x3 n3 c3, .slice x4 n4 c4, .slice x5 n5 c5, .int .i64 p], .string (sv nm)] w' fun e w'' => e = .returned (.int .i64 (A nm)) ∧ Keep w' w''
  TQ : ∀ nm w', Keep w w' → Calls Try.prog 29 #[.agg #[.string s, .slice x1 n1 c1, .slice x2 n2 c2, .slice x3 n3 c3, .slice x4 n4 c4, .slice x5 n5 c5, .int .i64 p], .string (sv nm)] w' fun e w'' => e = .returned (.int .i64 (A nm)) ∧ Keep w' w''
  HA : ∀ nm, A nm < (n3 : Int)
  b4 : n4 ≤ 50
  bg : ∀ k, k < n4 → NG k ≤ 5
  bt : ∀ k, k < n4 → ∀ j, j < NG k → (T k j).length ≤ 50
/-- fractions that stand in a row -/
structure Rin (w : World) (xf : Option Addr) (R : List (Int × Int)) : Prop where
  HF : ∀ k, k < R.length → ∃ ad, xf = some ad ∧ ad.block < w.heap.size ∧ w.cell? (ad.add (k * 2)) = some (.int .i64 (R.getD k (0, 0)).1) ∧ w.cell? ⟨(ad.add (k * 2)).block, (ad.add (k * 2)).off + 1, none⟩ = some (.int .i64 (R.getD k (0, 0)).2)
  HI : ∀ x ∈ R, In x.1 ∧ In x.2
  b : R.length ≤ 50
theorem kcl {w w' : World} (h : Keep w w') {a : Addr} {v : Value} (hc : w.cell? a = some v) : w'.cell? a = some v := by rw [Below.cell h (World.block_lt_of_cell? w a hc)]; exact hc
theorem Nin.keep {w w' : World} {s : ByteArray} {x1 : Option Addr} {n1 c1 : Nat} {x2 : Option Addr} {n2 c2 : Nat} {x3 : Option Addr} {n3 c3 : Nat} {x4 : Option Addr} {n4 c4 : Nat} {x5 : Option Addr} {n5 c5 : Nat} {p : Int} {XG : Nat → Option Addr} {NG CG : Nat → Nat} {FR : Nat → Nat → Bool} {XR : Nat → Nat → Option Addr} {T : Nat → Nat → List (List UInt8)} {CR : Nat → Nat → Nat} {A : List UInt8 → Int} (h : Nin w s x1 n1 c1 x2 n2 c2 x3 n3 c3 x4 n4 c4 x5 n5 c5 p XG NG CG FR XR T CR A) (k : Keep w w') : Nin w' s x1 n1 c1 x2 n2 c2 x3 n3 c3 x4 n4 c4 x5 n5 c5 p XG NG CG FR XR T CR A where
  HC := fun i hi => by obtain ⟨ad, e, hb, c⟩ := h.HC i hi; exact ⟨ad, e, Nat.lt_of_lt_of_le hb k.size, kcl k c⟩
  HR := fun i hi j hj => by obtain ⟨ad, e, hb, c, d⟩ := h.HR i hi j hj; exact ⟨ad, e, Nat.lt_of_lt_of_le hb k.size, kcl k c, kcl k d⟩
  HN := fun i hi j hj q hq => by obtain ⟨ad, e, hb, c⟩ := h.HN i hi j hj q hq; exact ⟨ad, e, Nat.lt_of_lt_of_le hb k.size, kcl k c⟩
  TP := fun nm w2 h2 => h.TP nm w2 (k.trans h2)
  TQ := fun nm w2 h2 => h.TQ nm w2 (k.trans h2)
  HA := h.HA
  b4 := h.b4
  bg := h.bg
  bt := h.bt
theorem Rin.keep {w w' : World} {xf : Option Addr} {R : List (Int × Int)} (h : Rin w xf R) (k : Keep w w') : Rin w' xf R where
  HF := fun i hi => by obtain ⟨ad, e, hb, c, d⟩ := h.HF i hi; exact ⟨ad, e, Nat.lt_of_lt_of_le hb k.size, kcl k c, kcl k d⟩
  HI := h.HI
  b := h.b
/-- the ratios of ring j of group k -/
def Qr (R : List (Int × Int)) (A : List UInt8 → Int) (T : Nat → Nat → List (List UInt8)) (k j : Nat) : List (Int × Int) := rts R (plc A (T k j))
theorem plc_nn {A : List UInt8 → Int} {T : List (List UInt8)} {n : Nat} (h : ∀ nm, A nm < (n : Int)) {x : Int} (hx : x ∈ plc A T) : ∃ m : Nat, x = (m : Int) ∧ m < n := by
  unfold plc at hx
  rw [List.mem_filter] at hx
  obtain ⟨h1, h2⟩ := hx
  simp only [decide_eq_true_eq] at h2
  obtain ⟨nm, _, rfl⟩ := List.mem_map.1 h1
  exact ⟨(A nm).toNat, by omega, by have := h nm; omega⟩
theorem getD_mem {α : Type} {L : List α} {d : α} {k : Nat} (hk : k < L.length) : L.getD k d ∈ L := by rw [List.getD_eq_getElem?_getD, List.getElem?_eq_getElem hk]; exact List.getElem_mem hk
theorem Qr_in {R : List (Int × Int)} (hR : ∀ x ∈ R, In x.1 ∧ In x.2) (A : List UInt8 → Int) (T : Nat → Nat → List (List UInt8)) (k j : Nat) : ∀ x ∈ Qr R A T k j, In x.1 ∧ In x.2 := by
  intro x hx
  unfold Qr rts at hx
  obtain ⟨a, _, rfl⟩ := List.mem_map.1 hx
  rcases Nat.lt_or_ge a.toNat R.length with h | h
  · exact hR _ (getD_mem h)
  · rw [List.getD_eq_getElem?_getD, List.getElem?_eq_none h]
    simp only [Option.getD_none]
    unfold In
    omega
theorem Qr_len (R : List (Int × Int)) (A : List UInt8 → Int) (T : Nat → Nat → List (List UInt8)) (k j : Nat) : (Qr R A T k j).length ≤ (T k j).length := by
  unfold Qr
  rw [rts_len]
  exact plc_len A (T k j)
/-- how Sum ends -/
def okS (n3 n4 nr : Nat) (NG : Nat → Nat) : Prop := nr = n3 ∧ ∀ k, k < n4 → 0 < NG k
def Sq (Q : Nat → Nat → List (Int × Int)) (NG : Nat → Nat) (n3 n4 nr : Nat) (w : World) (e : Ending) (w' : World) : Prop := ∃ X Y v z, e = .returned (.tuple #[.agg #[.int .i64 X, .int .i64 Y, v], .int .i64 z]) ∧ Keep w w' ∧ ((¬ okS n3 n4 nr NG ∧ z = 1) ∨ (okS n3 n4 nr NG ∧ z = zS Q NG n4)) ∧ (¬ z = 0 → X = 0 ∧ Y = 0 ∧ v = .slice none 0 0) ∧ (z = 0 → okS n3 n4 nr NG ∧ (X, Y) = sS (tb (sU Q NG) n4) ∧ w'.ownsRow w.heap.size 3 1 v n4 (ics (tb (fun k => ((gR Q NG k : Nat) : Int)) n4)))
theorem places_any {w : World} {s : ByteArray} {x1 : Option Addr} {n1 c1 : Nat} {x2 : Option Addr} {n2 c2 : Nat} {x3 : Option Addr} {n3 c3 : Nat} {x4 : Option Addr} {n4 c4 : Nat} {x5 : Option Addr} {n5 c5 : Nat} {p : Int} {XG : Nat → Option Addr} {NG CG : Nat → Nat} {FR : Nat → Nat → Bool} {XR : Nat → Nat → Option Addr} {T : Nat → Nat → List (List UInt8)} {CR : Nat → Nat → Nat} {A : List UInt8 → Int} (h : Nin w s x1 n1 c1 x2 n2 c2 x3 n3 c3 x4 n4 c4 x5 n5 c5 p XG NG CG FR XR T CR A) (k j : Nat) (hk : k < n4) (hj : j < NG k) : Calls Try.prog 28 #[.agg #[.string s, .slice x1 n1 c1, .slice x2 n2 c2, .slice x3 n3 c3, .slice x4 n4 c4, .slice x5 n5 c5, .int .i64 p], .agg #[.bool (FR k j), .slice (XR k j) (T k j).length (CR k j)]] w (Iq (plc A (T k j)) w) :=
  placesOf_core s x1 n1 c1 x2 n2 c2 x3 n3 c3 x4 n4 c4 x5 n5 c5 p (FR k j) (XR k j) (T k j) (CR k j) A w (by have := h.bt k hk j hj; omega) (hide fun i hi => h.HN k hk j hj i hi) (hide h.TP)
theorem ratios_any {w : World} {s : ByteArray} {x1 : Option Addr} {n1 c1 : Nat} {x2 : Option Addr} {n2 c2 : Nat} {x3 : Option Addr} {n3 c3 : Nat} {x4 : Option Addr} {n4 c4 : Nat} {x5 : Option Addr} {n5 c5 : Nat} {p : Int} {XG : Nat → Option Addr} {NG CG : Nat → Nat} {FR : Nat → Nat → Bool} {XR : Nat → Nat → Option Addr} {T : Nat → Nat → List (List UInt8)} {CR : Nat → Nat → Nat} {A : List UInt8 → Int} (h : Nin w s x1 n1 c1 x2 n2 c2 x3 n3 c3 x4 n4 c4 x5 n5 c5 p XG NG CG FR XR T CR A) {xf : Option Addr} {R : List (Int × Int)} (cf : Nat) (hR : Rin w xf R) (hn : R.length = n3) (k j : Nat) (hk : k < n4) (hj : j < NG k) : Calls Try.prog 45 #[.agg #[.string s, .slice x1 n1 c1, .slice x2 n2 c2, .slice x3 n3 c3, .slice x4 n4 c4, .slice x5 n5 c5, .int .i64 p], .agg #[.bool (FR k j), .slice (XR k j) (T k j).length (CR k j)], .slice xf R.length cf] w (Fq (Qr R A T k j) w) :=
  ratiosOf_core s x1 n1 c1 x2 n2 c2 x3 n3 c3 x4 n4 c4 x5 n5 c5 p (FR k j) (XR k j) (T k j).length (CR k j) xf cf R (plc A (T k j)) w (by have := h.bt k hk j hj; omega) (by have := h.bt k hk j hj; have := plc_len A (T k j); omega) (by have := hR.b; omega) (hide hR.HF)
    (hide fun i hi => by rw [hn]; exact plc_nn h.HA (getD_mem hi)) (hide fun w' k' => places_any (h.keep k') k j hk hj)
theorem rings_any {w : World} {s : ByteArray} {x1 : Option Addr} {n1 c1 : Nat} {x2 : Option Addr} {n2 c2 : Nat} {x3 : Option Addr} {n3 c3 : Nat} {x4 : Option Addr} {n4 c4 : Nat} {x5 : Option Addr} {n5 c5 : Nat} {p : Int} {XG : Nat → Option Addr} {NG CG : Nat → Nat} {FR : Nat → Nat → Bool} {XR : Nat → Nat → Option Addr} {T : Nat → Nat → List (List UInt8)} {CR : Nat → Nat → Nat} {A : List UInt8 → Int} (h : Nin w s x1 n1 c1 x2 n2 c2 x3 n3 c3 x4 n4 c4 x5 n5 c5 p XG NG CG FR XR T CR A) {xf : Option Addr} {R : List (Int × Int)} (cf : Nat) (hR : Rin w xf R) (hn : R.length = n3) (k : Nat) (hk : k < n4) : Calls Try.prog 24 #[.agg #[.string s, .slice x1 n1 c1, .slice x2 n2 c2, .slice x3 n3 c3, .slice x4 n4 c4, .slice x5 n5 c5, .int .i64 p], .agg #[.slice (XG k) (NG k) (CG k)], .slice xf R.length cf] w (Rsq (NG k) (Qr R A T k) w) :=
  ringSums_core s x1 n1 c1 x2 n2 c2 x3 n3 c3 x4 n4 c4 x5 n5 c5 p (XG k) (NG k) (CG k) xf R.length cf (FR k) (XR k) (fun j => (T k j).length) (CR k) (Qr R A T k) w (by have := h.bg k hk; omega)
    (hide fun j hj => ⟨Nat.le_trans (Qr_len R A T k j) (h.bt k hk j hj), Qr_in hR.HI A T k j⟩) (hide fun j hj => h.HR k hk j hj) (hide fun j hj w' k' => ratios_any (h.keep k') cf (hR.keep k') hn k j hk hj) (hide fsumC)
theorem zr_yes {NG : Nat → Nat} : ∀ (m k : Nat), 0 ≤ V.ix (fun i => NG i == 0) k m ↔ ∃ i, k ≤ i ∧ i < k + m ∧ NG i = 0
  | 0, k => by
    constructor
    · intro h; simp [V.ix] at h
    · rintro ⟨i, h1, h2, _⟩; omega
  | m + 1, k => by
    rw [V.ix]
    by_cases hz : NG k = 0
    · rw [if_pos (by simpa using hz)]
      exact ⟨fun _ => ⟨k, Nat.le_refl _, by omega, hz⟩, fun _ => by omega⟩
    · rw [if_neg (by simpa using hz), zr_yes m (k + 1)]
      constructor
      · rintro ⟨i, h1, h2, h3⟩; exact ⟨i, by omega, by omega, h3⟩
      · rintro ⟨i, h1, h2, h3⟩
        refine ⟨i, ?_, by omega, h3⟩
        rcases Nat.eq_or_lt_of_le h1 with h4 | h4
        · subst h4; exact absurd h3 hz
        · omega
theorem zr_false {NG : Nat → Nat} {n : Nat} (h : ∀ k, k < n → 0 < NG k) : zr NG n = false := by
  unfold zr
  rw [decide_eq_false]
  intro h0
  obtain ⟨i, _, h2, h3⟩ := (zr_yes n 0).1 h0
  have := h i (by omega)
  omega
theorem zr_true {NG : Nat → Nat} {n : Nat} (h : ¬ ∀ k, k < n → 0 < NG k) : zr NG n = true := by
  unfold zr
  rw [decide_eq_true]
  refine (zr_yes n 0).2 ?_
  apply Classical.byContradiction
  intro h2
  refine h fun k hk => ?_
  rcases Nat.eq_zero_or_pos (NG k) with h3 | h3
  · exact absurd ⟨k, by omega, by omega, h3⟩ h2
  · exact h3
theorem sum_any {w : World} {s : ByteArray} {x1 : Option Addr} {n1 c1 : Nat} {x2 : Option Addr} {n2 c2 : Nat} {x3 : Option Addr} {n3 c3 : Nat} {x4 : Option Addr} {n4 c4 : Nat} {x5 : Option Addr} {n5 c5 : Nat} {p : Int} {XG : Nat → Option Addr} {NG CG : Nat → Nat} {FR : Nat → Nat → Bool} {XR : Nat → Nat → Option Addr} {T : Nat → Nat → List (List UInt8)} {CR : Nat → Nat → Nat} {A : List UInt8 → Int} (h : Nin w s x1 n1 c1 x2 n2 c2 x3 n3 c3 x4 n4 c4 x5 n5 c5 p XG NG CG FR XR T CR A) {xf : Option Addr} {R : List (Int × Int)} (cf : Nat) (hR : Rin w xf R) : Calls Try.prog 7 #[.agg #[.string s, .slice x1 n1 c1, .slice x2 n2 c2, .slice x3 n3 c3, .slice x4 n4 c4, .slice x5 n5 c5, .int .i64 p], .slice xf R.length cf] w (Sq (Qr R A T) NG n3 n4 R.length w) := by
  by_cases hn : R.length = n3
  · have TC := fun w' (k' : Keep w w') => containsGroup x4 n4 c4 XG NG CG w' (by have := h.b4; omega) (hide (h.keep k').HC)
    by_cases hz : ∀ k, k < n4 → 0 < NG k
    · rw [zr_false hz] at TC
      have M := sum_main s x1 n1 c1 x2 n2 c2 x3 n3 c3 x4 n4 c4 x5 n5 c5 p xf cf XG NG CG (Qr R A T) w h.b4 (hide fun k hk => ⟨hz k hk, by have := h.bg k hk; omega⟩) (hide h.HC) (hide TC) (hide fun k hk w' k' => by have := rings_any (h.keep k') cf (hR.keep k') hn k hk; rw [hn] at this; exact this) (hide gstC) (hide fsumC)
      rw [hn]
      refine M.mono ?_
      rintro e w' ⟨X, Y, v, z, rfl, hk, e1, e2, e3⟩
      exact ⟨X, Y, v, z, rfl, hk, .inr ⟨⟨rfl, hz⟩, e1⟩, e2, fun h0 => ⟨⟨rfl, hz⟩, e3 h0⟩⟩
    · rw [zr_true hz] at TC
      rw [hn]
      refine (sum_none s x1 n1 c1 x2 n2 c2 x3 n3 c3 x4 n4 c4 x5 n5 c5 p xf cf w (hide TC)).mono ?_
      rintro e w' ⟨rfl, hk⟩
      exact ⟨0, 0, _, 1, rfl, hk, .inl ⟨fun h => hz h.2, rfl⟩, fun _ => ⟨rfl, rfl, rfl⟩, fun h0 => by omega⟩
  · refine (sum_len s x1 n1 c1 x2 n2 c2 x3 n3 c3 x4 n4 c4 x5 n5 c5 p xf R.length cf w hn).mono ?_
    rintro e w' ⟨rfl, hk⟩
    exact ⟨0, 0, _, 1, rfl, hk, .inl ⟨fun h => hn h.1, rfl⟩, fun _ => ⟨rfl, rfl, rfl⟩, fun h0 => by omega⟩
theorem gR_lt {Q : Nat → Nat → List (Int × Int)} {NG : Nat → Nat} {k : Nat} (h : 0 < NG k) : gR Q NG k < NG k := by
  unfold gR
  have := gst_lt (eL Q NG k) (NG k)
  omega
/-- the critical way's places -/
def wayL (A : List UInt8 → Int) (T : Nat → Nat → List (List UInt8)) (G : Nat → Nat) (n : Nat) : List Int := wy (fun k => plc A (T k (G k))) n
theorem wy_congr {f g : Nat → List Int} : ∀ n, (∀ k, k < n → f k = g k) → wy f n = wy g n
  | 0, _ => rfl
  | n + 1, h => by rw [wy, wy, wy_congr n (fun k hk => h k (by omega)), h n (by omega)]
/-- what Rank answers -/
def Rq (Q : Nat → Nat → List (Int × Int)) (A : List UInt8 → Int) (T : Nat → Nat → List (List UInt8)) (NG : Nat → Nat) (n3 n4 nr : Nat) (w : World) (e : Ending) (w' : World) : Prop := ∃ L : List Int, Iq L w e w' ∧ ((okS n3 n4 nr NG ∧ zS Q NG n4 = 0 ∧ L = wayL A T (gR Q NG) n4) ∨ (¬ (okS n3 n4 nr NG ∧ zS Q NG n4 = 0) ∧ L = []))
theorem rank_any {w : World} {s : ByteArray} {x1 : Option Addr} {n1 c1 : Nat} {x2 : Option Addr} {n2 c2 : Nat} {x3 : Option Addr} {n3 c3 : Nat} {x4 : Option Addr} {n4 c4 : Nat} {x5 : Option Addr} {n5 c5 : Nat} {p : Int} {XG : Nat → Option Addr} {NG CG : Nat → Nat} {FR : Nat → Nat → Bool} {XR : Nat → Nat → Option Addr} {T : Nat → Nat → List (List UInt8)} {CR : Nat → Nat → Nat} {A : List UInt8 → Int} (h : Nin w s x1 n1 c1 x2 n2 c2 x3 n3 c3 x4 n4 c4 x5 n5 c5 p XG NG CG FR XR T CR A) {xf : Option Addr} {R : List (Int × Int)} (cf : Nat) (hR : Rin w xf R) : Calls Try.prog 9 #[.agg #[.string s, .slice x1 n1 c1, .slice x2 n2 c2, .slice x3 n3 c3, .slice x4 n4 c4, .slice x5 n5 c5, .int .i64 p], .slice xf R.length cf] w (Rq (Qr R A T) A T NG n3 n4 R.length w) := by
  by_cases hz : okS n3 n4 R.length NG ∧ zS (Qr R A T) NG n4 = 0
  · have TS : ∀ w', Keep w w' → Calls Try.prog 7 #[.agg #[.string s, .slice x1 n1 c1, .slice x2 n2 c2, .slice x3 n3 c3, .slice x4 n4 c4, .slice x5 n5 c5, .int .i64 p], .slice xf R.length cf] w' fun e w'' => ∃ va vc, e = .returned (.tuple #[.agg #[.int .i64 (sS (tb (sU (Qr R A T) NG) n4)).1, .int .i64 (sS (tb (sU (Qr R A T) NG) n4)).2, .slice va n4 vc], .int .i64 0]) ∧ Keep w' w'' ∧ (∀ k, k < n4 → ∃ ad, va = some ad ∧ ad.block < w''.heap.size ∧ w''.cell? (ad.add k) = some (.int .i64 ((gR (Qr R A T) NG k : Nat) : Int))) := by
      intro w' k'
      refine (sum_any (h.keep k') cf (hR.keep k')).mono ?_
      rintro e w'' ⟨X, Y, v, z, rfl, hk, e1, e2, e3⟩
      obtain rfl : z = 0 := by
        rcases e1 with ⟨e1, _⟩ | ⟨_, e1⟩
        · exact absurd hz.1 e1
        · rw [e1, hz.2]
      obtain ⟨_, e4, e5⟩ := e3 rfl
      have e6 := is_own (L := tb (fun k => ((gR (Qr R A T) NG k : Nat) : Int)) n4) (by rw [tb_len]; exact e5)
      obtain ⟨va, vc, rfl, hc⟩ := e6
      rw [tb_len] at hc ⊢
      rw [← e4]
      refine ⟨va, vc, rfl, hk, fun k hk => ?_⟩
      obtain ⟨ad, f1, f2, f3⟩ := hc k hk
      rw [tb_at _ _ _ _ hk] at f3
      exact ⟨ad, f1, f2, f3⟩
    have gl : ∀ k, k < n4 → gR (Qr R A T) NG k < NG k := fun k hk => gR_lt (hz.1.2 k hk)
    have M := rank_yes s x1 n1 c1 x2 n2 c2 x3 n3 c3 x4 n4 c4 x5 n5 c5 p xf R.length cf _ _ (gR (Qr R A T) NG) XG NG CG (fun k => FR k (gR (Qr R A T) NG k)) (fun k => XR k (gR (Qr R A T) NG k)) (fun k => if k < n4 then T k (gR (Qr R A T) NG k) else []) (fun k => CR k (gR (Qr R A T) NG k)) A w h.b4
      (hide fun k => by
        by_cases hk : k < n4
        · rw [if_pos hk]; have := h.bt k hk _ (gl k hk); omega
        · rw [if_neg hk]; simp) (hide gl) (hide h.HC) (hide fun k hk => by rw [if_pos hk]; exact h.HR k hk _ (gl k hk)) (hide TS) (hide fun k hk w' k' => by rw [if_pos hk]; exact places_any (h.keep k') k _ hk (gl k hk))
    refine M.mono ?_
    intro e w' hq
    refine ⟨_, hq, .inl ⟨hz.1, hz.2, ?_⟩⟩
    exact wy_congr n4 (fun k hk => by rw [if_pos hk])
  · obtain ⟨z, hz0, hzz⟩ : ∃ z : Int, ¬ z = 0 ∧ ((¬ okS n3 n4 R.length NG ∧ z = 1) ∨ (okS n3 n4 R.length NG ∧ z = zS (Qr R A T) NG n4)) := by
      by_cases ho : okS n3 n4 R.length NG
      · exact ⟨_, fun h0 => hz ⟨ho, h0⟩, .inr ⟨ho, rfl⟩⟩
      · exact ⟨1, by omega, .inl ⟨ho, rfl⟩⟩
    have TS : ∀ w', Keep w w' → Calls Try.prog 7 #[.agg #[.string s, .slice x1 n1 c1, .slice x2 n2 c2, .slice x3 n3 c3, .slice x4 n4 c4, .slice x5 n5 c5, .int .i64 p], .slice xf R.length cf] w' fun e w'' => e = .returned (.tuple #[.agg #[.int .i64 0, .int .i64 0, .slice none 0 0], .int .i64 z]) ∧ Keep w' w'' := by
      intro w' k'
      refine (sum_any (h.keep k') cf (hR.keep k')).mono ?_
      rintro e w'' ⟨X, Y, v, z2, rfl, hk, e1, e2, e3⟩
      obtain rfl : z2 = z := by
        rcases e1 with ⟨e1, rfl⟩ | ⟨e1, rfl⟩ <;> rcases hzz with ⟨f1, rfl⟩ | ⟨f1, rfl⟩
        · rfl
        · exact absurd f1 e1
        · exact absurd e1 f1
        · rfl
      obtain ⟨rfl, rfl, rfl⟩ := e2 hz0
      exact ⟨rfl, hk⟩
    refine (rank_no s x1 n1 c1 x2 n2 c2 x3 n3 c3 x4 n4 c4 x5 n5 c5 p xf R.length cf 0 0 z none 0 0 w hz0 (hide TS)).mono ?_
    rintro e w' ⟨rfl, hk⟩
    exact ⟨[], ⟨_, rfl, hk, World.ownsRow_nil _ _ _ _⟩, .inr ⟨hz, rfl⟩⟩
/-- the document's Way, for rings that are there -/
theorem way_any {w : World} {s : ByteArray} {x1 : Option Addr} {n1 c1 : Nat} {x2 : Option Addr} {n2 c2 : Nat} {x3 : Option Addr} {n3 c3 : Nat} {x4 : Option Addr} {n4 c4 : Nat} {x5 : Option Addr} {n5 c5 : Nat} {p : Int} {XG : Nat → Option Addr} {NG CG : Nat → Nat} {FR : Nat → Nat → Bool} {XR : Nat → Nat → Option Addr} {T : Nat → Nat → List (List UInt8)} {CR : Nat → Nat → Nat} {A : List UInt8 → Int} (h : Nin w s x1 n1 c1 x2 n2 c2 x3 n3 c3 x4 n4 c4 x5 n5 c5 p XG NG CG FR XR T CR A) {v : Value} {I : List Int} (G : Nat → Nat) (hI : Is w v I) (hl : I.length = n4) (hG : ∀ k, k < n4 → I.getD k 0 = (G k : Int) ∧ G k < NG k) : Calls Try.prog 14 #[.agg #[.string s, .slice x1 n1 c1, .slice x2 n2 c2, .slice x3 n3 c3, .slice x4 n4 c4, .slice x5 n5 c5, .int .i64 p], v] w (Iq (wayL A T G n4) w) := by
  obtain ⟨xi, ci, rfl, hc⟩ := hI
  rw [hl] at hc ⊢
  have M := way_core s x1 n1 c1 x2 n2 c2 x3 n3 c3 x4 n4 c4 x5 n5 c5 p xi ci G XG NG CG (fun k => FR k (G k)) (fun k => XR k (G k)) (fun k => if k < n4 then T k (G k) else []) (fun k => CR k (G k)) A w h.b4
    (hide fun k => by
      by_cases hk : k < n4
      · rw [if_pos hk]; have := h.bt k hk _ (hG k hk).2; omega
      · rw [if_neg hk]; simp) (hide fun k hk => (hG k hk).2) (hide fun k hk => by obtain ⟨ad, f1, f2, f3⟩ := hc k hk; rw [(hG k hk).1] at f3; exact ⟨ad, f1, f2, f3⟩) (hide h.HC) (hide fun k hk => by rw [if_pos hk]; exact h.HR k hk _ (hG k hk).2) (hide fun k j hk hj => by rw [if_pos hk] at hj ⊢; exact h.HN k hk _ (hG k hk).2 j hj) (hide h.TQ)
  refine M.mono ?_
  intro e w' hq
  rw [show wayL A T G n4 = wy (fun k => plc A (if k < n4 then T k (G k) else [])) n4 from wy_congr n4 (fun k hk => by rw [if_pos hk])]
  exact hq
end Cr
end Go.Proofs.Ytdgmndjofbdgeaa

namespace Go.Proofs.Ytdgmndjofbdgeaa
open Go.RowKit
set_option linter.unusedVariables false
set_option linter.unusedSimpArgs false
set_option maxRecDepth 10000
namespace V
open S
def s2 (L : List (List D)) (k : Nat) : List UInt8 := tS (S.gt (L.getD k []) 2)
end V
end Go.Proofs.Ytdgmndjofbdgeaa

namespace Go.Proofs.Ytdgmndjofbdgeaa
open Go.RowKit
attribute [local go_sem ↓] Go.wp_at_zero Go.wp_at_succ
set_option linter.unusedVariables false
set_option linter.unusedSimpArgs false
set_option maxRecDepth 10000
namespace V
set_option maxHeartbeats 2000000 in
theorem rfindPhase (s : ByteArray) (x1 : Option Addr) (n1 c1 : Nat) (x2 : Option Addr) (n2 c2 : Nat) (x3 : Option Addr) (n3 c3 : Nat) (x4 : Option Addr) (n4 c4 : Nat) (x5 : Option Addr) (n5 c5 : Nat) (p : Int) (nm : List UInt8) (T : Nat → List UInt8) (r : Int) (w : World) (hn : n3 ≤ 9223372036854775807)
    (HC : Hid (∀ k, k < n3 → ∃ ad, x3 = some ad ∧ ad.block < w.heap.size ∧ w.cell? (ad.add (k * 3)) = some (.string (sv (T k))))) (HI : Hid (ix (fun k => T k == nm) 0 n3 = r)) :
    Calls Try.prog 29 #[.agg #[.string s, .slice x1 n1 c1, .slice x2 n2 c2, .slice x3 n3 c3, .slice x4 n4 c4, .slice x5 n5 c5, .int .i64 p], .string (sv nm)] w fun e w' => e = .returned (.int .i64 r) ∧ Keep w w' := by
  have K := hide ((Keep.refl w).alloc (.cells #[.string s, .slice x1 n1 c1, .slice x2 n2 c2, .slice x3 n3 c3, .slice x4 n4 c4, .slice x5 n5 c5, .int .i64 p] 28))
  go_enter Try.func29, Try.ntmps29
  go_wp2_with fail
  go_loop [5] (fun vi => ∃ k : Nat, k ≤ n3 ∧ vi = .int .i64 (k : Int) ∧ Hid (ix (fun k => T k == nm) k (n3 - k) = r)) (fun vi => n3 - (intOf vi).toNat)
  case atStart => exact ⟨0, Nat.zero_le _, rfl, HI⟩
  case round =>
    obtain ⟨k, hk, rfl, HF⟩ := hrel
    by_cases hlt : k < n3
    · have li : (k : Int) < (n3 : Int) := by omega
      obtain ⟨ad, rfl, hb, ck⟩ := (uq HC) k hlt
      have hb' : (ad.add (k * 3)).block < w.heap.size := by rw [add_block9]; exact hb
      have ck' := far_cell (uq K) hb' ck
      have e := sv_beq (T k) nm
      clear ck
      cases hB : (T k == nm)
      · have HF2 := hide (ix_no (uq HF) hlt hB)
        rw [hB] at e
        clear hB HF
        go_wp2_with fail
        exact ⟨⟨k + 1, hlt, by go_num, HF2⟩, by simp [intOf]; omega⟩
      · have hr := ix_yes (uq HF) hlt hB
        rw [hB] at e
        subst hr
        clear hB HF
        go_wp2_with fail
        go_ret
        exact ⟨rfl, uq K⟩
    · have li : ¬ (k : Int) < (n3 : Int) := by omega
      have hr := ix_end (uq HF) (by omega)
      subst hr
      go_wp2_with fail
      go_ret
      exact ⟨rfl, uq K⟩
open S
theorem rphase_at {w : World} {s : ByteArray} {x1 : Option Addr} {n1 c1 : Nat} {x2 : Option Addr} {n2 c2 : Nat} {x3 : Option Addr} {c3 : Nat} {x4 : Option Addr} {n4 c4 : Nat} {x5 : Option Addr} {n5 c5 : Nat} {p : Int} {L : List (List D)} (nm : List UInt8)
    (hL : ∀ ds ∈ L, ShL phaseT ds) (HA : Rvss w x3 3 L 0) (hn : L.length ≤ maxLen) : Calls Try.prog 29 #[.agg #[.string s, .slice x1 n1 c1, .slice x2 n2 c2, .slice x3 L.length c3, .slice x4 n4 c4, .slice x5 n5 c5, .int .i64 p], .string (sv nm)] w fun e w' => e = .returned (.int .i64 (nI L nm)) ∧ Keep w w' :=
  rfindPhase s x1 n1 c1 x2 n2 c2 x3 L.length c3 x4 n4 c4 x5 n5 c5 p nm (tn L) _ w hn (hide fun k hk => by obtain ⟨ad, e, hb, h, _⟩ := S.clPhase (Keep.refl w) hL HA k hk; exact ⟨ad, e, hb, h⟩) (hide rfl)
end V
end Go.Proofs.Ytdgmndjofbdgeaa
