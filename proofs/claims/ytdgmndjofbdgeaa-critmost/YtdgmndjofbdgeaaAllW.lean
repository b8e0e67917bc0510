/- Package frac: Cmp, Floor, Ceil, and a text of small numbers. -/
import Derived.Test.YtdgmndjofbdgeaaFracP2
import Derived.Test.YtdgmndjofbdgeaaWholeQ
import Derived.Test.YtdgmndjofbdgeaaFracD
import Derived.LoopTactic
import Derived.Deep.DeepCutAuto
import Derived.Deep.DrawnRows
namespace Go.Proofs.Ytdgmndjofbdgeaa
open Go.RowKit
set_option linter.unusedVariables false
set_option maxRecDepth 10000
set_option maxHeartbeats 1000000 in
theorem cmp_core (n d n2 d2 x y x2 y2 v : Int) (w : World) (Cn : Int → Int → Int → Int → Prop) (K1 : Cn n d x y) (K2 : Cn n2 d2 x2 y2)
    (T1 : Hid (∀ (n d x y : Int), Cn n d x y → ∀ w, Calls Try.prog 55 #[.agg #[.int .i64 n, .int .i64 d]] w fun e w' => e = .returned (.agg #[.int .i64 x, .int .i64 y]) ∧ Keep w w'))
    (T2 : Hid (∀ w, Calls Try.prog 56 #[.int .i64 x, .int .i64 y2, .int .i64 x2, .int .i64 y] w fun e w' => e = .returned (.int .i64 v) ∧ Keep w w')) :
    Calls Try.prog 46 #[.agg #[.int .i64 n, .int .i64 d], .agg #[.int .i64 n2, .int .i64 d2]] w fun e w' => e = .returned (.int .i64 v) ∧ Keep w w' := by
  go_enter Try.func46, Try.ntmps46
  go_upto_region 1 with fail
  go_cut [] (fun wc => Keep ((w.alloc (.cells #[.int .i64 x, .int .i64 y] 32)).alloc (.cells #[.int .i64 x2, .int .i64 y2] 32)) wc)
  case first =>
    go_region_with (go_at_call 55; refine ((uq T1) _ _ _ _ (by assumption) _).mono ?_; rintro e w2 ⟨rfl, hk⟩; obtain ⟨o1, k1, rfl⟩ := hk.ext; clear hk)
    all_goals
      go_wp2_with fail
      go_meet
      exact by repeat (first | apply keep_ext | apply Keep.drew | exact Keep.refl _)
  case rest =>
    obtain ⟨o2, k2, rfl⟩ := hcut.ext
    clear hcut
    go_wp2_with fail
    (refine ((uq T2) _).mono ?_; rintro e w2 ⟨rfl, hk⟩; obtain ⟨o3, k3, rfl⟩ := hk.ext; clear hk)
    go_wp2_with fail
    go_ret
    exact ⟨rfl, by repeat (first | apply keep_ext | apply Keep.alloc | apply Keep.drew | (refine keep_set _ _ _ (by omega) ?_) | assumption | exact Keep.refl _)⟩
theorem fcmp_any (n d n2 d2 : Int) (w : World) (h1 : -9223372036854775808 ≤ n) (h2 : n ≤ 9223372036854775807) (h3 : -9223372036854775808 ≤ d) (h4 : d ≤ 9223372036854775807) (k1 : -9223372036854775808 ≤ n2) (k2 : n2 ≤ 9223372036854775807) (k3 : -9223372036854775808 ≤ d2) (k4 : d2 ≤ 9223372036854775807) :
    Calls Try.prog 46 #[.agg #[.int .i64 n, .int .i64 d], .agg #[.int .i64 n2, .int .i64 d2]] w fun e w' => e = .returned (.int .i64 (cm (cn n d * cd n2 d2) (cn n2 d2 * cd n d))) ∧ Keep w w' := by
  obtain ⟨r1, r2, r3, r4, r5⟩ := rt_counted n d h1 h2 h4
  obtain ⟨s1, s2, s3, s4, s5⟩ := rt_counted n2 d2 k1 k2 k4
  exact cmp_core n d n2 d2 _ _ _ _ _ w (fun n d x y => ∀ w, Calls Try.prog 55 #[.agg #[.int .i64 n, .int .i64 d]] w fun e w' => e = .returned (.agg #[.int .i64 x, .int .i64 y]) ∧ Keep w w')
    (fun w => counted_any n d w h1 h2 h3 h4) (fun w => counted_any n2 d2 w k1 k2 k3 k4) (hide fun n d x y h => h) (hide fun w => compare_any _ _ _ _ w r3 r4 (by omega) s5 s3 s4 (by omega) r5)

end Go.Proofs.Ytdgmndjofbdgeaa

namespace Go.Proofs.Ytdgmndjofbdgeaa
open Go.RowKit
attribute [local go_sem ↓] Go.wp_at_zero Go.wp_at_succ
set_option linter.unusedVariables false
set_option linter.unusedSimpArgs false
set_option maxRecDepth 10000
/-- the sum of two fractions that count as they count: its numbers and its error -/
def adN (t f : Int × Int) : Int := cn t.1 t.2 * cd f.1 f.2 + cn f.1 f.2 * cd t.1 t.2
def adD (t f : Int × Int) : Int := cd t.1 t.2 * cd f.1 f.2
def adX (t f : Int × Int) : Int := pN (rn (adN t f) (adD t f)) (rd (adN t f) (adD t f))
def adY (t f : Int × Int) : Int := pD (rn (adN t f) (adD t f)) (rd (adN t f) (adD t f))
def adE (t f : Int × Int) : Int := pE (rn (adN t f) (adD t f)) (rd (adN t f) (adD t f))
/-- the sum of all, from t on -/
def sm (t : Int × Int) : List (Int × Int) → Int × Int × Int
  | [] => (t.1, t.2, 0)
  | f :: r => if adE t f = 0 then sm (adX t f, adY t f) r else (0, 0, adE t f)
theorem drop_atF {L : List (Int × Int)} {k : Nat} (h : k < L.length) : L.drop k = L.getD k (0, 0) :: L.drop (k + 1) := by
  rw [List.drop_eq_getElem_cons h, List.getD_eq_getElem?_getD, List.getElem?_eq_getElem h]
  rfl
theorem sm_yes {t : Int × Int} {L : List (Int × Int)} {k : Nat} (h : k < L.length) (he : adE t (L.getD k (0, 0)) = 0) : sm t (L.drop k) = sm (adX t (L.getD k (0, 0)), adY t (L.getD k (0, 0))) (L.drop (k + 1)) := by
  rw [drop_atF h]
  show (if _ then _ else _) = _
  rw [if_pos he]
theorem sm_no {t : Int × Int} {L : List (Int × Int)} {k : Nat} (h : k < L.length) (he : ¬ adE t (L.getD k (0, 0)) = 0) : sm t (L.drop k) = (0, 0, adE t (L.getD k (0, 0))) := by
  rw [drop_atF h]
  show (if _ then _ else _) = _
  rw [if_neg he]
theorem sm_end {t : Int × Int} {L : List (Int × Int)} {k : Nat} (h : L.length ≤ k) : sm t (L.drop k) = (t.1, t.2, 0) := by
  rw [List.drop_of_length_le h]
  rfl
/-- numbers of 64 bits -/
def In (x : Int) : Prop := -9223372036854775808 ≤ x ∧ x ≤ 9223372036854775807
theorem pN_in (n d : Int) : In (pN n d) := by
  unfold In pN
  by_cases h : (fit n && fit d) = true
  · rw [if_pos h]
    simp [fit] at h
    omega
  · rw [if_neg h]; omega
theorem pD_in (n d : Int) : In (pD n d) := by
  unfold In pD
  by_cases h : (fit n && fit d) = true
  · rw [if_pos h]
    simp [fit] at h
    omega
  · rw [if_neg h]; omega
/-- fractions that lie one behind another from an address on -/
def Fs (w : World) (ad : Addr) (L : List (Int × Int)) : Prop := ∀ k, k < L.length → ad.block < w.heap.size ∧ In (L.getD k (0, 0)).1 ∧ In (L.getD k (0, 0)).2
  ∧ w.cell? (ad.add (k * 2)) = some (.int .i64 (L.getD k (0, 0)).1) ∧ w.cell? ⟨(ad.add (k * 2)).block, (ad.add (k * 2)).off + 1, none⟩ = some (.int .i64 (L.getD k (0, 0)).2)
theorem add_blockF (ad : Addr) (n : Nat) : (ad.add n).block = ad.block := by unfold Addr.add; split <;> rfl
theorem Fs.keep {w w' : World} {ad : Addr} {L : List (Int × Int)} (h : Fs w ad L) (hk : Keep w w') : Fs w' ad L := by
  intro k hlt
  obtain ⟨h1, h2, h3, h4, h5⟩ := h k hlt
  have hs := Below.size hk
  refine ⟨by omega, h2, h3, ?_, ?_⟩
  · rw [Below.cell hk (by rw [add_blockF]; exact h1)]; exact h4
  · rw [Below.cell (p := ⟨(ad.add (k * 2)).block, (ad.add (k * 2)).off + 1, none⟩) hk (by show (ad.add (k * 2)).block < _; rw [add_blockF]; exact h1)]; exact h5
/-- a fraction that lies in a block of the call's own, and the result's block -/
def Ft (w wr : World) (B : Nat) (x y : Int) : Prop :=
  Keep w wr ∧ w.heap.size < wr.heap.size ∧ w.heap.size < B ∧ B < wr.heap.size
  ∧ wr.cell? ⟨B, 0, none⟩ = some (.int .i64 x) ∧ wr.cell? ⟨B, 1, none⟩ = some (.int .i64 y) ∧ wr.frozen? ⟨B, 0, none⟩ = false ∧ wr.frozen? ⟨B, 1, none⟩ = false
  ∧ wr.cell? ⟨w.heap.size, 0, none⟩ = some (.int .i64 0) ∧ wr.cell? ⟨w.heap.size, 1, none⟩ = some (.int .i64 0) ∧ wr.frozen? ⟨w.heap.size, 0, none⟩ = false ∧ wr.frozen? ⟨w.heap.size, 1, none⟩ = false
theorem keep_setB {a w : World} (B i : Nat) (v : Value) (hB : a.heap.size < B) (h : Keep a w) : Keep a (w.setCell ⟨B, i, none⟩ v) := Below.setCell h (Nat.le_of_lt hB) v
theorem keep_set0 {a w : World} (i : Nat) (v : Value) (h : Keep a w) : Keep a (w.setCell ⟨a.heap.size, i, none⟩ v) := Below.setCell h (Nat.le_refl _) v
set_option maxHeartbeats 2000000 in
theorem fsum_core (ad : Addr) (L : List (Int × Int)) (cap : Nat) (w : World) (hn : L.length ≤ 50) (hF : Fs w ad L) (X Y Z : Int) (HS : Hid (sm (0, 1) L = (X, Y, Z)))
    (N : Hid (∀ w, Calls Try.prog 47 #[] w fun e w' => e = .returned (.agg #[.int .i64 0, .int .i64 1]) ∧ Keep w w'))
    (AD : Hid (∀ (t f : Int × Int), In t.1 → In t.2 → In f.1 → In f.2 → ∀ w, Calls Try.prog 48 #[.agg #[.int .i64 t.1, .int .i64 t.2], .agg #[.int .i64 f.1, .int .i64 f.2]] w fun e w' => e = .returned (.tuple #[.agg #[.int .i64 (adX t f), .int .i64 (adY t f)], .int .i64 (adE t f)]) ∧ Keep w w')) :
    Calls Try.prog 26 #[.slice (some ad) L.length cap] w fun e w' => e = .returned (.tuple #[.agg #[.int .i64 X, .int .i64 Y], .int .i64 Z]) ∧ Keep w w' := by
  go_enter Try.func26, Try.ntmps26
  go_wp2_with fail
  (refine ((uq N) _).mono ?_; rintro e w2 ⟨rfl, hk⟩; obtain ⟨o1, k1, rfl⟩ := hk.ext; clear hk)
  go_wp2_with fail
  obtain ⟨B, hB⟩ : ∃ B, B = w.heap.size + 1 + o1.size := ⟨_, rfl⟩
  rw [← hB]
  have HB := hide hB
  clear hB
  go_loopw [12] (fun iv wr => ∃ (k : Nat) (t : Int × Int), iv = .int .i64 (k : Int) ∧ k ≤ L.length ∧ In t.1 ∧ In t.2 ∧ Hid (sm t (L.drop k) = (X, Y, Z)) ∧ Ft w wr B t.1 t.2) (fun iv _ => L.length - (intOf iv).toNat)
  case atStart =>
    refine ⟨0, (0, 1), rfl, by omega, by unfold In; omega, by unfold In; omega, HS, ?_⟩
    have hB := uq HB
    subst hB
    refine ⟨by repeat (first | apply keep_ext | apply Keep.alloc | exact Keep.refl _), ?_, ?_, ?_, ?_, ?_, ?_, ?_, ?_, ?_, ?_, ?_⟩ <;> simp [go_sem] <;> omega
  case round =>
    obtain ⟨k, t, rfl, hk, ht1, ht2, HI, hft⟩ := hrel
    by_cases hlt : k < L.length
    · obtain ⟨q1, q2, q3, q4, q5⟩ := (hF.keep hft.1) k hlt
      obtain ⟨h1, h2, h3, h4, c0, c1, z0, z1, r0, r1, y0, y1⟩ := hft
      have ADk := hide (uq AD t (L.getD k (0, 0)) ht1 ht2 q2 q3)
      have sy := sm_yes (t := t) hlt
      have sn := sm_no (t := t) hlt
      have xi : In (adX t (L.getD k (0, 0))) := pN_in _ _
      have yi : In (adY t (L.getD k (0, 0))) := pD_in _ _
      generalize adX t (L.getD k (0, 0)) = ax at *
      generalize adY t (L.getD k (0, 0)) = ay at *
      generalize adE t (L.getD k (0, 0)) = ae at *
      generalize (L.getD k (0, 0)).1 = fx at *
      generalize (L.getD k (0, 0)).2 = fy at *
      obtain ⟨tx, ty⟩ := t
      simp only at *
      have hlc : ((k : Int) < (L.length : Int)) := by omega
      by_cases he : ae = 0
      · subst he
        have HN : Hid (sm (ax, ay) (L.drop (k + 1)) = (X, Y, Z)) := by rw [← sy rfl]; exact HI
        have h1' := hide h1
        clear sy sn HI q1 q2 q3 ht1 ht2 h1
        go_wp2_with fail
        (refine ((uq ADk) _).mono ?_; rintro e w2 ⟨rfl, hk2⟩; obtain ⟨o2, k2, rfl⟩ := hk2.ext; clear hk2)
        have b1 : B < wr.heap.size + 1 := by omega
        have b2 : B < wr.heap.size + 1 + o2.size := by omega
        have b3 : B < wr.heap.size + 1 + o2.size + 1 := by omega
        have d1 : w.heap.size < wr.heap.size + 1 := by omega
        have d2 : w.heap.size < wr.heap.size + 1 + o2.size := by omega
        have d3 : w.heap.size < wr.heap.size + 1 + o2.size + 1 := by omega
        have ne1 : ¬ B = w.heap.size := by omega
        have ne2 : ¬ w.heap.size = B := by omega
        go_wp2_with fail
        go_roundw
        case rel =>
          refine ⟨k + 1, (ax, ay), by go_num, by omega, xi, yi, HN, ?_⟩
          refine ⟨?_, ?_, h3, ?_, ?_, ?_, ?_, ?_, ?_, ?_, ?_, ?_⟩
          · repeat (first | exact uq h1' | apply keep_ext | apply Keep.alloc | apply Keep.drew | (refine keep_setB _ _ _ h3 ?_))
          all_goals simp [go_sem, b1, b2, b3, d1, d2, d3, ne1, ne2, h2, h4, c0, c1, r0, r1, y0, y1, z0, z1]
        case measure => simp [intOf]; omega
      · have hz := sn he
        rw [uq HI] at hz
        simp only [Prod.mk.injEq] at hz
        obtain ⟨rfl, rfl, rfl⟩ := hz
        have heb : (Z == 0) = false := by simpa using he
        have hec : (Z != 0) = true := by simpa using he
        have h1' := hide h1
        clear sy sn HI q1 q2 q3 ht1 ht2 h1
        go_wp2_with fail
        (refine ((uq ADk) _).mono ?_; rintro e w2 ⟨rfl, hk2⟩; obtain ⟨o2, k2, rfl⟩ := hk2.ext; clear hk2)
        have b1 : B < wr.heap.size + 1 := by omega
        have b2 : B < wr.heap.size + 1 + o2.size := by omega
        have b3 : B < wr.heap.size + 1 + o2.size + 1 := by omega
        have d1 : w.heap.size < wr.heap.size + 1 := by omega
        have d2 : w.heap.size < wr.heap.size + 1 + o2.size := by omega
        have d3 : w.heap.size < wr.heap.size + 1 + o2.size + 1 := by omega
        have ne1 : ¬ B = w.heap.size := by omega
        have ne2 : ¬ w.heap.size = B := by omega
        go_wp2_with fail
        exact bodyPost_ret (v := .tuple #[.agg #[.int .i64 0, .int .i64 0], .int .i64 Z]) (by simp [results, Try.results26, go_sem, r0, r1, h2, d1, d2, d3]) rfl ⟨rfl, by repeat (first | exact uq h1' | apply keep_ext | apply Keep.alloc | apply Keep.drew | (refine keep_set0 _ _ ?_))⟩
    · have hz := sm_end (t := t) (show L.length ≤ k by omega)
      rw [uq HI] at hz
      simp only [Prod.mk.injEq] at hz
      obtain ⟨rfl, rfl, rfl⟩ := hz
      obtain ⟨h1, h2, h3, h4, c0, c1, z0, z1, r0, r1, y0, y1⟩ := hft
      obtain ⟨tx, ty⟩ := t
      simp only at *
      have hlc : ¬ ((k : Int) < (L.length : Int)) := by omega
      have h1' := hide h1
      clear HI h1
      go_wp2_with fail
      exact bodyPost_ret (v := .tuple #[.agg #[.int .i64 tx, .int .i64 ty], .int .i64 0]) (by simp [results, Try.results26, go_sem, r0, r1, h2]) rfl ⟨rfl, by repeat (first | exact uq h1' | apply keep_ext | apply Keep.alloc | apply Keep.drew | (refine keep_set0 _ _ ?_))⟩
end Go.Proofs.Ytdgmndjofbdgeaa
