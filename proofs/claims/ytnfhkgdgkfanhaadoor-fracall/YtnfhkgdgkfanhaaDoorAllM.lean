/- The greatest of any fractions: package frac's and the document's Max; empty rows. -/
import Derived.Test.YtnfhkgdgkfanhaaDoorAllR
import Derived.Test.YtnfhkgdgkfanhaaDoorRefO
namespace Go.Proofs.YtnfhkgdgkfanhaaDoor
open Go.RowKit
attribute [local go_sem ↓] Go.wp_at_zero Go.wp_at_succ
set_option linter.unusedVariables false
set_option linter.unusedSimpArgs false
set_option maxRecDepth 10000
theorem add_two (ad : Addr) (k : Nat) : ad.add ((k + 1) * 2) = ⟨ad.block, ad.off + 2 + k * 2, none⟩ := by
  unfold Addr.add
  rw [if_neg (by omega)]
  have : ad.off + (k + 1) * 2 = ad.off + 2 + k * 2 := by omega
  rw [this]
/-- the greatest one of all -/
def mxA : List (Int × Int) → Int × Int
  | [] => (0, 1)
  | f :: r => mx (cn f.1 f.2, cd f.1 f.2) r
theorem mxA_some {L : List (Int × Int)} (h : 0 < L.length) : mxA L = mx (cn (L.getD 0 (0, 0)).1 (L.getD 0 (0, 0)).2, cd (L.getD 0 (0, 0)).1 (L.getD 0 (0, 0)).2) (L.drop 1) := by
  cases L with
  | nil => simp at h
  | cons f r => rfl
theorem cn_in {n d : Int} (h1 : In n) (h2 : In d) : In (cn n d) ∧ In (cd n d) := by
  obtain ⟨r1, r2, r3, r4, r5⟩ := rt_counted n d h1.1 h1.2 h2.2
  exact ⟨⟨r3, r4⟩, by omega, r5⟩
def gt (f t : Int × Int) : Int := cm (cn f.1 f.2 * cd t.1 t.2) (cn t.1 t.2 * cd f.1 f.2)
set_option maxHeartbeats 400000 in
theorem fsum_nil (a : Option Addr) (cap : Nat) (w : World) : Calls Tryd.prog 31 #[.slice a 0 cap] w fun e w' => e = .returned (.tuple #[.agg #[.int .i64 0, .int .i64 1], .int .i64 0]) ∧ Keep w w' := by
  go_enter Tryd.func31, Tryd.ntmps31
  go_wp2_with fail
  (refine (nought_any _).mono ?_; rintro e w2 ⟨rfl, hk⟩; obtain ⟨o1, k1, rfl⟩ := hk.ext; clear hk)
  go_wp2_with fail
  go_loop [12] (fun i => i = .int .i64 0) (fun _ => 0)
  case atStart => rfl
  case round =>
    subst hrel
    go_wp2_with fail
    exact bodyPost_ret (v := .tuple #[.agg #[.int .i64 0, .int .i64 1], .int .i64 0]) (by simp [results, Tryd.results31, go_sem]) rfl ⟨rfl, by repeat (first | apply keep_ext | apply Keep.alloc | apply Keep.drew | exact Keep.refl _)⟩
set_option maxHeartbeats 400000 in
theorem rsum_nil (a : Option Addr) (cap : Nat) (w : World) : Calls Tryd.prog 32 #[.slice a 0 cap] w fun e w' => e = .returned (.tuple #[.agg #[.int .i64 0, .int .i64 1], .int .i64 0]) ∧ Keep w w' := by
  go_enter Tryd.func32, Tryd.ntmps32
  go_wp2_with fail
  go_loop [5] (fun i => i = .int .i64 0) (fun _ => 0)
  case atStart => rfl
  case round =>
    subst hrel
    go_wp2_with fail
    exact bodyPost_ret (v := .tuple #[.agg #[.int .i64 0, .int .i64 1], .int .i64 0]) (by simp [results, Tryd.results32, go_sem]) rfl ⟨rfl, by repeat (first | apply keep_ext | apply Keep.alloc | apply Keep.drew | exact Keep.refl _)⟩
set_option maxHeartbeats 400000 in
theorem fmax_nil (a : Option Addr) (cap : Nat) (w : World) : Calls Tryd.prog 33 #[.slice a 0 cap] w fun e w' => e = .returned (.agg #[.int .i64 0, .int .i64 1]) ∧ Keep w w' := by
  go_enter Tryd.func33, Tryd.ntmps33
  go_wp2_with fail
  (refine (nought_any _).mono ?_; rintro e w2 ⟨rfl, hk⟩; obtain ⟨o1, k1, rfl⟩ := hk.ext; clear hk)
  go_wp2_with fail
  exact bodyPost_ret (v := .agg #[.int .i64 0, .int .i64 1]) (by simp [results, Tryd.results33, go_sem]) rfl ⟨rfl, by repeat (first | apply keep_ext | apply Keep.alloc | apply Keep.drew | exact Keep.refl _)⟩
set_option maxHeartbeats 400000 in
theorem rmax_nil (a : Option Addr) (cap : Nat) (w : World) : Calls Tryd.prog 34 #[.slice a 0 cap] w fun e w' => e = .returned (.agg #[.int .i64 0, .int .i64 1]) ∧ Keep w w' := by
  go_enter Tryd.func34, Tryd.ntmps34
  go_wp2_with fail
  go_loop [4] (fun i => i = .int .i64 0) (fun _ => 0)
  case atStart => rfl
  case round =>
    subst hrel
    go_wp2_with fail
    exact bodyPost_ret (v := .agg #[.int .i64 0, .int .i64 1]) (by simp [results, Tryd.results34, go_sem]) rfl ⟨rfl, by repeat (first | apply keep_ext | apply Keep.alloc | apply Keep.drew | exact Keep.refl _)⟩
set_option maxHeartbeats 1000000 in
theorem fmax_one (ad : Addr) (L : List (Int × Int)) (cap : Nat) (w : World) (hn : L.length ≤ 50) (hn0 : 0 < L.length) (hcap : L.length ≤ cap) (hcm : cap ≤ 9223372036854775807) (hF : Fs w ad L) (X Y : Int) (HS : Hid (mxA L = (X, Y))) (hone : Hid (L.length = 1))
    (CN : Hid (∀ (f : Int × Int), In f.1 → In f.2 → ∀ w, Calls Tryd.prog 56 #[.agg #[.int .i64 f.1, .int .i64 f.2]] w fun e w' => e = .returned (.agg #[.int .i64 (cn f.1 f.2), .int .i64 (cd f.1 f.2)]) ∧ Keep w w')) :
    Calls Tryd.prog 33 #[.slice (some ad) 1 cap] w fun e w' => e = .returned (.agg #[.int .i64 X, .int .i64 Y]) ∧ Keep w w' := by
  have hq0 := hF 0 hn0
  have CN0 := hide (unhide CN (L.getD 0 (0, 0)) hq0.2.1 hq0.2.2.1)
  have i0 := cn_in hq0.2.1 hq0.2.2.1
  have HS1 : Hid (mx (cn (L.getD 0 (0, 0)).1 (L.getD 0 (0, 0)).2, cd (L.getD 0 (0, 0)).1 (L.getD 0 (0, 0)).2) (L.drop (0 + 1)) = (X, Y)) := by
    have h := unhide HS
    rw [mxA_some hn0] at h
    exact hide h
  generalize cn (L.getD 0 (0, 0)).1 (L.getD 0 (0, 0)).2 = t0 at *
  generalize cd (L.getD 0 (0, 0)).1 (L.getD 0 (0, 0)).2 = s0 at *
  generalize (L.getD 0 (0, 0)).1 = f0 at *
  generalize (L.getD 0 (0, 0)).2 = g0 at *
  obtain ⟨_, _, _, q4, q5⟩ := hq0
  have ea : ad.add (0 * 2) = ad := by simp [Addr.add]
  rw [ea] at q4 q5
  have hz := mx_end (t := (t0, s0)) (L := L) (k := 0 + 1) (by rw [unhide hone]; omega)
  rw [unhide HS1] at hz
  simp only [Prod.mk.injEq] at hz
  obtain ⟨rfl, rfl⟩ := hz
  have hc1 : 1 ≤ cap := by have := unhide hone; omega
  clear ea HS HS1 hn hn0 hcap
  go_enter Tryd.func33, Tryd.ntmps33
  go_wp2_with fail
  (refine ((unhide CN0) _).mono ?_; rintro e w2 ⟨rfl, hk⟩; obtain ⟨o1, k1, rfl⟩ := hk.ext; clear hk)
  go_wp2_with fail
  all_goals
    go_loop [17] (fun i => i = .int .i64 0) (fun _ => 0)
    case atStart => rfl
    case round =>
      subst hrel
      go_wp2_with fail
      exact bodyPost_ret (v := .agg #[.int .i64 X, .int .i64 Y]) (by simp [results, Tryd.results33, go_sem]) rfl ⟨rfl, by repeat (first | apply keep_ext | apply Keep.alloc | apply Keep.drew | exact Keep.refl _)⟩
set_option maxHeartbeats 2000000 in
theorem fmax_many (ad : Addr) (L : List (Int × Int)) (cap : Nat) (w : World) (hn : L.length ≤ 50) (hn0 : 0 < L.length) (hcap : L.length ≤ cap) (hcm : cap ≤ 9223372036854775807) (hF : Fs w ad L) (X Y : Int) (HS : Hid (mxA L = (X, Y))) (h2 : 2 ≤ L.length)
    (CN : Hid (∀ (f : Int × Int), In f.1 → In f.2 → ∀ w, Calls Tryd.prog 56 #[.agg #[.int .i64 f.1, .int .i64 f.2]] w fun e w' => e = .returned (.agg #[.int .i64 (cn f.1 f.2), .int .i64 (cd f.1 f.2)]) ∧ Keep w w'))
    (CM : Hid (∀ (f t : Int × Int), In f.1 → In f.2 → In t.1 → In t.2 → ∀ w, Calls Tryd.prog 23 #[.agg #[.int .i64 f.1, .int .i64 f.2], .agg #[.int .i64 t.1, .int .i64 t.2]] w fun e w' => e = .returned (.int .i64 (gt f t)) ∧ Keep w w')) :
    Calls Tryd.prog 33 #[.slice (some ad) L.length cap] w fun e w' => e = .returned (.agg #[.int .i64 X, .int .i64 Y]) ∧ Keep w w' := by
  have hq0 := hF 0 hn0
  have CN0 := hide (unhide CN (L.getD 0 (0, 0)) hq0.2.1 hq0.2.2.1)
  have i0 := cn_in hq0.2.1 hq0.2.2.1
  have HS1 : Hid (mx (cn (L.getD 0 (0, 0)).1 (L.getD 0 (0, 0)).2, cd (L.getD 0 (0, 0)).1 (L.getD 0 (0, 0)).2) (L.drop (0 + 1)) = (X, Y)) := by
    have h := unhide HS
    rw [mxA_some hn0] at h
    exact hide h
  generalize cn (L.getD 0 (0, 0)).1 (L.getD 0 (0, 0)).2 = t0 at *
  generalize cd (L.getD 0 (0, 0)).1 (L.getD 0 (0, 0)).2 = s0 at *
  generalize (L.getD 0 (0, 0)).1 = f0 at *
  generalize (L.getD 0 (0, 0)).2 = g0 at *
  obtain ⟨_, _, _, q4, q5⟩ := hq0
  have ea : ad.add (0 * 2) = ad := by simp [Addr.add]
  rw [ea] at q4 q5
  have hlb : ((L.length : Int) == 0) = false := beq_eq_false_iff_ne.2 (by omega)
  have hl1 : (1 : Int) ≤ (L.length : Int) := by omega
  have hc1 : ¬ cap = 1 := by omega
  have hc2 : ¬ cap - 1 = 0 := by omega
  clear ea HS
  go_enter Tryd.func33, Tryd.ntmps33
  go_wp2_with fail
  (refine ((unhide CN0) _).mono ?_; rintro e w2 ⟨rfl, hk⟩; obtain ⟨o1, k1, rfl⟩ := hk.ext; clear hk)
  go_wp2_with fail
  obtain ⟨B, hB⟩ : ∃ B, B = w.heap.size + 1 + o1.size := ⟨_, rfl⟩
  rw [← hB]
  have HB := hide hB
  clear hB
  go_loopw [17] (fun iv wr => ∃ (k : Nat) (t : Int × Int), iv = .int .i64 (k : Int) ∧ k + 1 ≤ L.length ∧ In t.1 ∧ In t.2 ∧ Hid (mx t (L.drop (k + 1)) = (X, Y)) ∧ Ft w wr B t.1 t.2) (fun iv _ => L.length - (intOf iv).toNat)
  case atStart =>
    refine ⟨0, (t0, s0), rfl, by omega, i0.1, i0.2, HS1, ?_⟩
    have hB := unhide HB
    subst hB
    refine ⟨by repeat (first | apply keep_ext | apply Keep.alloc | exact Keep.refl _), ?_, ?_, ?_, ?_, ?_, ?_, ?_, ?_, ?_, ?_, ?_⟩ <;> simp [go_sem] <;> omega
  case round =>
    obtain ⟨k, t, rfl, hk, ht1, ht2, HI, hft⟩ := hrel
    clear q4 q5
    by_cases hlt : k + 1 < L.length
    · obtain ⟨q1, q2, q3, q4, q5⟩ := (hF.keep hft.1) (k + 1) hlt
      rw [add_two] at q4 q5
      have CMk := hide (unhide CM (L.getD (k + 1) (0, 0)) t q2 q3 ht1 ht2)
      have CNk := hide (unhide CN (L.getD (k + 1) (0, 0)) q2 q3)
      have ik := cn_in q2 q3
      have my : 0 < gt (L.getD (k + 1) (0, 0)) t → _ := mx_yes (t := t) hlt
      have mn : ¬ 0 < gt (L.getD (k + 1) (0, 0)) t → _ := mx_no (t := t) hlt
      rw [unhide HI] at my mn
      have MY := hide my
      have MN := hide mn
      clear my mn
      generalize gt (L.getD (k + 1) (0, 0)) t = gv at *
      generalize cn (L.getD (k + 1) (0, 0)).1 (L.getD (k + 1) (0, 0)).2 = nx at *
      generalize cd (L.getD (k + 1) (0, 0)).1 (L.getD (k + 1) (0, 0)).2 = ny at *
      generalize (L.getD (k + 1) (0, 0)).1 = fx at *
      generalize (L.getD (k + 1) (0, 0)).2 = fy at *
      obtain ⟨tx, ty⟩ := t
      simp only at *
      have hfc := hide hft
      obtain ⟨h1, h2', h3, h4, c0, c1, z0, z1, r0, r1, y0, y1⟩ := hft
      have h1' := hide h1
      have hlc : (k : Int) < ((L.length - 1 : Nat) : Int) := by omega
      have hlc2 : (k : Int) < (L.length : Int) - 1 := by omega
      clear q1 q2 q3 h1
      by_cases hg : 0 < gv
      · have HN : Hid (mx (nx, ny) (L.drop (k + 1 + 1)) = (X, Y)) := hide (unhide MY hg).symm
        clear MY MN HI
        go_wp2_with fail
        (refine ((unhide CMk) _).mono ?_; rintro e w2 ⟨rfl, hk2⟩; obtain ⟨o2, k2, rfl⟩ := hk2.ext; clear hk2)
        have b1 : B < wr.heap.size + 1 := by omega
        have b2 : B < wr.heap.size + 1 + o2.size := by omega
        have d1 : w.heap.size < wr.heap.size + 1 := by omega
        have d2 : w.heap.size < wr.heap.size + 1 + o2.size := by omega
        have ne1 : ¬ B = w.heap.size := by omega
        have ne2 : ¬ w.heap.size = B := by omega
        go_wp2_with fail
        (refine ((unhide CNk) _).mono ?_; rintro e w2 ⟨rfl, hk2⟩; obtain ⟨o3, k3, rfl⟩ := hk2.ext; clear hk2)
        have b3 : B < wr.heap.size + 1 + (o2.size + o3.size) := by omega
        have d3 : w.heap.size < wr.heap.size + 1 + (o2.size + o3.size) := by omega
        go_wp2_with fail
        go_roundw
        case rel =>
          refine ⟨k + 1, (nx, ny), by go_num, by omega, ik.1, ik.2, HN, ?_⟩
          refine ⟨?_, ?_, h3, ?_, ?_, ?_, ?_, ?_, ?_, ?_, ?_, ?_⟩
          · repeat (first | exact unhide h1' | apply keep_ext | apply Keep.alloc | apply Keep.drew | (refine keep_setB _ _ _ h3 ?_))
          all_goals simp [go_sem, b1, b2, b3, d1, d2, d3, ne1, ne2, h2', h4, c0, c1, r0, r1, y0, y1, z0, z1]
        case measure => simp [intOf]; omega
      · have HN : Hid (mx (tx, ty) (L.drop (k + 1 + 1)) = (X, Y)) := hide (unhide MN hg).symm
        have hgb : decide (0 < gv) = false := by simpa using hg
        clear MY MN HI CNk
        go_wp2_with fail
        (refine ((unhide CMk) _).mono ?_; rintro e w2 ⟨rfl, hk2⟩; obtain ⟨o2, k2, rfl⟩ := hk2.ext; clear hk2)
        go_wp2_with fail
        go_roundw
        case rel => exact ⟨k + 1, (tx, ty), by go_num, by omega, ht1, ht2, HN, (unhide hfc).keep (by repeat (first | apply keep_ext | apply Keep.alloc | apply Keep.drew | exact Keep.refl _))⟩
        case measure => simp [intOf]; omega
    · have hz := mx_end (t := t) (show L.length ≤ k + 1 by omega)
      rw [unhide HI] at hz
      obtain ⟨tx, ty⟩ := t
      simp only [Prod.mk.injEq] at hz
      obtain ⟨rfl, rfl⟩ := hz
      obtain ⟨h1, h2', h3, h4, c0, c1, z0, z1, r0, r1, y0, y1⟩ := hft
      simp only at *
      have hlc : ¬ (k : Int) < ((L.length - 1 : Nat) : Int) := by omega
      have hlc2 : ¬ (k : Int) < (L.length : Int) - 1 := by omega
      have h1' := hide h1
      clear HI h1
      go_wp2_with fail
      exact bodyPost_ret (v := .agg #[.int .i64 X, .int .i64 Y]) (by simp [results, Tryd.results33, go_sem, r0, r1, h2']) rfl ⟨rfl, by repeat (first | exact unhide h1' | apply keep_ext | apply Keep.alloc | apply Keep.drew | (refine keep_set0 _ _ ?_))⟩
end Go.Proofs.YtnfhkgdgkfanhaaDoor
