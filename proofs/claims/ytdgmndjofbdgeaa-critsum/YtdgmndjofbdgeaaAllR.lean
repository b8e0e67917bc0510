/- The document's answer for fractions: products, quotients, sums and differences as plain numbers. -/
import Derived.Test.YtdgmndjofbdgeaaRefL
import Derived.Test.YtdgmndjofbdgeaaRefN
import Derived.Test.YtdgmndjofbdgeaaFracP2
import Derived.Test.YtdgmndjofbdgeaaFracC
import Derived.Test.YtdgmndjofbdgeaaAllW
import Derived.Test.YtdgmndjofbdgeaaLMath
namespace Go.Proofs.Ytdgmndjofbdgeaa
open Go.RowKit
set_option linter.unusedVariables false
set_option maxRecDepth 10000
theorem mul_small {a b : Int} (h1 : a.natAbs < 1073741824) (h2 : b.natAbs < 1073741824) : -1152921504606846976 ≤ a * b ∧ a * b ≤ 1152921504606846976 := by
  have e := Int.natAbs_mul a b
  have m : a.natAbs * b.natAbs ≤ 1073741824 * 1073741824 := Nat.mul_le_mul (by omega) (by omega)
  generalize a.natAbs * b.natAbs = u at e m
  omega
theorem pos_mul {a b : Int} (h1 : 1 ≤ a) (h2 : 1 ≤ b) : 1 ≤ a * b := by
  have := Int.mul_pos (show 0 < a by omega) (show 0 < b by omega)
  omega
theorem few_yes {n d n2 d2 : Int} (h : fewB n d n2 d2 = true) : n.natAbs < 1073741824 ∧ n2.natAbs < 1073741824 ∧ d < 1073741824 ∧ d2 < 1073741824 := by simpa [fewB] using h
/-- the frame of a law's two fractions: what they count as, and the contracts that hang on it -/
theorem sgn_abs (x : Int) : sgn (decide (x < 0)) (x.natAbs : Int) = x := by
  unfold sgn
  by_cases h : x < 0
  · simp only [h, decide_true, if_true]; omega
  · simp only [h, decide_false, Bool.false_eq_true, if_false]; omega
theorem low_of {N D M : Int} {b : Bool} (h : sgn b N = M) : Low N D b (pN (rn M D) (rd M D)) (pD (rn M D) (rd M D)) (pE (rn M D) (rd M D)) := by
  unfold Low
  rw [h]
  exact ⟨rfl, rfl, rfl⟩
theorem add_same {x y x2 y2 : Int} {b : Bool} (h1 : decide (x < 0) = b) (h2 : decide (x2 < 0) = b) : sgn b ((x.natAbs : Int) * y2 + (x2.natAbs : Int) * y) = x * y2 + x2 * y := by
  have e1 := sgn_abs x
  have e2 := sgn_abs x2
  rw [h1] at e1
  rw [h2] at e2
  conv => rhs; rw [← e1, ← e2]
  unfold sgn
  cases b
  · rfl
  · simp only [if_true, Int.neg_mul]; omega
theorem add_diff {x y x2 y2 : Int} {b b2 : Bool} (h1 : decide (x < 0) = b) (h2 : decide (x2 < 0) = b2) (h : (b == b2) = false) : sgn b ((x.natAbs : Int) * y2 - (x2.natAbs : Int) * y) = x * y2 + x2 * y ∧ sgn b2 ((x2.natAbs : Int) * y - (x.natAbs : Int) * y2) = x * y2 + x2 * y := by
  have e1 := sgn_abs x
  have e2 := sgn_abs x2
  rw [h1] at e1
  rw [h2] at e2
  have e3 : x * y2 + x2 * y = sgn b (x.natAbs : Int) * y2 + sgn b2 (x2.natAbs : Int) * y := by rw [e1, e2]
  rw [e3]
  unfold sgn
  cases b <;> cases b2 <;> simp at h <;> simp only [if_true, Bool.false_eq_true, if_false, Int.neg_mul] <;> constructor <;> omega
theorem rfadd_any (n d n2 d2 : Int) (w : World) (h1 : -9223372036854775808 ≤ n) (h2 : n ≤ 9223372036854775807) (h3 : -9223372036854775808 ≤ d) (h4 : d ≤ 9223372036854775807) (k1 : -9223372036854775808 ≤ n2) (k2 : n2 ≤ 9223372036854775807) (k3 : -9223372036854775808 ≤ d2) (k4 : d2 ≤ 9223372036854775807) :
    Calls Try.prog 17 #[.agg #[.int .i64 n, .int .i64 d], .agg #[.int .i64 n2, .int .i64 d2]] w fun e w' => e = .returned (fv (rn (cn n d * cd n2 d2 + cn n2 d2 * cd n d) (cd n d * cd n2 d2)) (rd (cn n d * cd n2 d2 + cn n2 d2 * cd n d) (cd n d * cd n2 d2))) ∧ Keep w w' := by
  obtain ⟨r1, r2, r3, r4, r5⟩ := rt_counted n d h1 h2 h4
  obtain ⟨q1, q2, q3, q4, q5⟩ := rt_counted n2 d2 k1 k2 k4
  have A := fun w => norm_any n d w h1 h2 h3 h4
  have B := fun w => norm_any n2 d2 w k1 k2 k3 k4
  have FW := fun w => few_any (cn n d) (cd n d) (cn n2 d2) (cd n2 d2) w r3 r4 q3 q4
  generalize cn n d = x at *
  generalize cd n d = y at *
  generalize cn n2 d2 = x2 at *
  generalize cd n2 d2 = y2 at *
  have hyy := pos_mul r1 q1
  by_cases hf : fewB x y x2 y2 = true
  · rw [hf] at FW
    obtain ⟨f1, f2, f3, f4⟩ := few_yes hf
    have m1 := mul_small (a := x) (b := y2) f1 (by omega)
    have m2 := mul_small (a := x2) (b := y) f2 (by omega)
    have m3 := mul_small (a := y) (b := y2) (by omega) (by omega)
    have O := fun w => r2of_any (x * y2 + x2 * y) (y * y2) w (by omega) (by omega) (by omega) (by omega) (by omega)
    have e0 : decide (y * y2 < 0) = false := by simp; omega
    rw [e0, show sgn false (x * y2 + x2 * y) = x * y2 + x2 * y by simp [sgn], show (((y * y2).natAbs : Nat) : Int) = y * y2 by omega] at O
    exact radd2_few n d n2 d2 x y x2 y2 _ _ _ _ _ _ _ w (wrap_in (by omega)) (wrap_in (by omega)) (wrap_in (by omega)) (wrap_in (by omega)) (fun n d x y => ∀ w, Calls Try.prog 30 #[.agg #[.int .i64 n, .int .i64 d]] w fun e w' => e = .returned (.agg #[.int .i64 x, .int .i64 y]) ∧ Keep w w') A B (hide fun n d x y h => h) (hide FW) (hide O)
  · have hf' : fewB x y x2 y2 = false := by simpa using hf
    rw [hf'] at FW
    have s1 := fun w => rsize_any x w r3 r4
    have s2 := fun w => rsize_any x2 w q3 q4
    obtain ⟨b, hb⟩ : ∃ b, decide (x < 0) = b := ⟨_, rfl⟩
    obtain ⟨b2, hb2⟩ : ∃ b2, decide (x2 < 0) = b2 := ⟨_, rfl⟩
    by_cases hs : (b == b2) = true
    · have hbb : b = b2 := by simpa using hs
      exact radd2_same n d n2 d2 x y x2 y2 _ _ _ _ _ b b2 w hb hb2 hs (hide hyy) (by omega) (by omega) (by omega) (by omega) r1 (by omega) q1 (by omega) (by rw [IntKind.wrap_u64]; omega) (by rw [IntKind.wrap_u64]; omega) (fun n d x y => ∀ w, Calls Try.prog 30 #[.agg #[.int .i64 n, .int .i64 d]] w fun e w' => e = .returned (.agg #[.int .i64 x, .int .i64 y]) ∧ Keep w w') A B (hide fun n d x y h => h) (hide FW)
        (fun n x => ∀ w, Calls Try.prog 36 #[.int .i64 n] w fun e w' => e = .returned (.int .u64 x) ∧ w' = w) s1 s2 (hide fun n x h => h) (hide (low_of (add_same hb (by rw [hbb]; exact hb2))))
    · have hs' : (b == b2) = false := by simpa using hs
      obtain ⟨g1, g2⟩ := add_diff (y := y) (y2 := y2) hb hb2 hs'
      by_cases hge : (x2.natAbs : Int) * y ≤ (x.natAbs : Int) * y2
      · exact radd2_ge n d n2 d2 x y x2 y2 _ _ _ _ _ b b2 w hb hb2 hs' (hide hge) (hide hyy) (by omega) (by omega) (by omega) (by omega) r1 (by omega) q1 (by omega) (by rw [IntKind.wrap_u64]; omega) (by rw [IntKind.wrap_u64]; omega) (fun n d x y => ∀ w, Calls Try.prog 30 #[.agg #[.int .i64 n, .int .i64 d]] w fun e w' => e = .returned (.agg #[.int .i64 x, .int .i64 y]) ∧ Keep w w') A B (hide fun n d x y h => h) (hide FW)
          (fun n x => ∀ w, Calls Try.prog 36 #[.int .i64 n] w fun e w' => e = .returned (.int .u64 x) ∧ w' = w) s1 s2 (hide fun n x h => h) (hide (low_of g1))
      · exact radd2_lt n d n2 d2 x y x2 y2 _ _ _ _ _ b b2 w hb hb2 hs' (hide (Int.not_le.1 hge)) (hide hyy) (by omega) (by omega) (by omega) (by omega) r1 (by omega) q1 (by omega) (by rw [IntKind.wrap_u64]; omega) (by rw [IntKind.wrap_u64]; omega) (fun n d x y => ∀ w, Calls Try.prog 30 #[.agg #[.int .i64 n, .int .i64 d]] w fun e w' => e = .returned (.agg #[.int .i64 x, .int .i64 y]) ∧ Keep w w') A B (hide fun n d x y h => h) (hide FW)
          (fun n x => ∀ w, Calls Try.prog 36 #[.int .i64 n] w fun e w' => e = .returned (.int .u64 x) ∧ w' = w) s1 s2 (hide fun n x h => h) (hide (low_of g2))
end Go.Proofs.Ytdgmndjofbdgeaa

namespace Go.Proofs.Ytdgmndjofbdgeaa
open Go.RowKit
attribute [local go_sem ↓] Go.wp_at_zero Go.wp_at_succ
set_option linter.unusedVariables false
set_option linter.unusedSimpArgs false
set_option maxRecDepth 10000
theorem Ft.keep {w wr wc : World} {B : Nat} {x y : Int} (h : Ft w wr B x y) (hk : Keep wr wc) : Ft w wc B x y := by
  obtain ⟨h1, h2, h3, h4, h5, h6, h7, h8, h9, h10, h11, h12⟩ := h
  have hs := Below.size hk
  refine ⟨h1.trans hk, by omega, h3, by omega, ?_, ?_, ?_, ?_, ?_, ?_, ?_, ?_⟩
  · rw [Below.cell (p := ⟨B, 0, none⟩) hk h4]; exact h5
  · rw [Below.cell (p := ⟨B, 1, none⟩) hk h4]; exact h6
  · rw [Below.frozen (p := ⟨B, 0, none⟩) hk h4]; exact h7
  · rw [Below.frozen (p := ⟨B, 1, none⟩) hk h4]; exact h8
  · rw [Below.cell (p := ⟨w.heap.size, 0, none⟩) hk h2]; exact h9
  · rw [Below.cell (p := ⟨w.heap.size, 1, none⟩) hk h2]; exact h10
  · rw [Below.frozen (p := ⟨w.heap.size, 0, none⟩) hk h2]; exact h11
  · rw [Below.frozen (p := ⟨w.heap.size, 1, none⟩) hk h2]; exact h12
theorem Ft.set {w wc : World} {B : Nat} {x y : Int} (h : Ft w wc B x y) (ax ay : Int) : Ft w ((wc.setCell ⟨B, 0, none⟩ (.int .i64 ax)).setCell ⟨B, 1, none⟩ (.int .i64 ay)) B ax ay := by
  obtain ⟨h1, h2, h3, h4, h5, h6, h7, h8, h9, h10, h11, h12⟩ := h
  have ne1 : ¬ B = w.heap.size := by omega
  have ne2 : ¬ w.heap.size = B := by omega
  refine ⟨keep_setB _ _ _ h3 (keep_setB _ _ _ h3 h1), ?_, h3, ?_, ?_, ?_, ?_, ?_, ?_, ?_, ?_, ?_⟩
  all_goals simp [go_sem, h2, h4, h5, h6, h7, h8, h9, h10, h11, h12, ne1, ne2]
set_option maxHeartbeats 2000000 in
theorem rsum_core (ad : Addr) (L : List (Int × Int)) (cap : Nat) (w : World) (hn : L.length ≤ 50) (hF : Fs w ad L) (X Y Z : Int) (HS : Hid (sm (0, 1) L = (X, Y, Z)))
    (AD : Hid (∀ (t f : Int × Int), In t.1 → In t.2 → In f.1 → In f.2 → ∀ w, Calls Try.prog 17 #[.agg #[.int .i64 t.1, .int .i64 t.2], .agg #[.int .i64 f.1, .int .i64 f.2]] w fun e w' => e = .returned (.tuple #[.agg #[.int .i64 (adX t f), .int .i64 (adY t f)], .int .i64 (adE t f)]) ∧ Keep w w')) :
    Calls Try.prog 15 #[.slice (some ad) L.length cap] w fun e w' => e = .returned (.tuple #[.agg #[.int .i64 X, .int .i64 Y], .int .i64 Z]) ∧ Keep w w' := by
  go_enter Try.func15, Try.ntmps15
  go_wp2_with fail
  obtain ⟨B, hB⟩ : ∃ B, B = w.heap.size + 1 := ⟨_, rfl⟩
  rw [← hB]
  have HB := hide hB
  clear hB
  go_loopw [5] (fun iv wr => ∃ (k : Nat) (t : Int × Int), iv = .int .i64 (k : Int) ∧ k ≤ L.length ∧ In t.1 ∧ In t.2 ∧ Hid (sm t (L.drop k) = (X, Y, Z)) ∧ Ft w wr B t.1 t.2) (fun iv _ => L.length - (intOf iv).toNat)
  case atStart =>
    refine ⟨0, (0, 1), rfl, by omega, by unfold In; omega, by unfold In; omega, HS, ?_⟩
    have hB := uq HB
    subst hB
    refine ⟨by repeat (first | apply keep_ext | apply Keep.alloc | exact Keep.refl _), ?_, ?_, ?_, ?_, ?_, ?_, ?_, ?_, ?_, ?_, ?_⟩ <;> simp [go_sem]
  case round =>
    obtain ⟨k, t, rfl, hk, ht1, ht2, HI, hft⟩ := hrel
    by_cases hlt : k < L.length
    · have hq := (hF.keep hft.1) k hlt
      have CK : ∀ w', Keep wr w' → (w'.cell? ⟨B, 0, none⟩ = some (.int .i64 t.1) ∧ w'.cell? ⟨B, 1, none⟩ = some (.int .i64 t.2) ∧ w'.cell? (ad.add (k * 2)) = some (.int .i64 (L.getD k (0, 0)).1) ∧ w'.cell? ⟨(ad.add (k * 2)).block, (ad.add (k * 2)).off + 1, none⟩ = some (.int .i64 (L.getD k (0, 0)).2)) := by
        intro w' hk'
        have f := hft.keep hk'
        have g := (hF.keep (hft.1.trans hk')) k hlt
        exact ⟨f.2.2.2.2.1, f.2.2.2.2.2.1, g.2.2.2.1, g.2.2.2.2⟩
      have ADk := hide (uq AD t (L.getD k (0, 0)) ht1 ht2 hq.2.1 hq.2.2.1)
      have sy := sm_yes (t := t) hlt
      have sn := sm_no (t := t) hlt
      have xi : In (adX t (L.getD k (0, 0))) := pN_in _ _
      have yi : In (adY t (L.getD k (0, 0))) := pD_in _ _
      clear hq
      generalize adX t (L.getD k (0, 0)) = ax at *
      generalize adY t (L.getD k (0, 0)) = ay at *
      generalize adE t (L.getD k (0, 0)) = ae at *
      generalize (L.getD k (0, 0)).1 = fx at *
      generalize (L.getD k (0, 0)).2 = fy at *
      obtain ⟨tx, ty⟩ := t
      simp only at *
      have CKH := hide CK
      have SY := hide sy
      have SN := hide sn
      have HFT := hide hft
      have hlc : ((k : Int) < (L.length : Int)) := by omega
      have hlz : ((0 : Int) ≤ (k : Int)) := by omega
      clear CK sy sn hft ht1 ht2
      go_upto_region 5 with fail
      go_cut [6, 7] (fun s6 s7 wc => ∃ T, s6 = .pointer (some ⟨T, 0, none⟩) ∧ s7 = .int .i64 ae ∧ T < wc.heap.size ∧ wr.heap.size ≤ T ∧ wc.cell? ⟨T, 0, none⟩ = some (.int .i64 ax) ∧ wc.cell? ⟨T, 1, none⟩ = some (.int .i64 ay) ∧ Keep wr wc)
      case first =>
        refine wp_region_held_drew (S := (fun w' => w'.cell? ⟨B, 0, none⟩ = some (.int .i64 tx) ∧ w'.cell? ⟨B, 1, none⟩ = some (.int .i64 ty) ∧ w'.cell? (ad.add (k * 2)) = some (.int .i64 fx) ∧ w'.cell? ⟨(ad.add (k * 2)).block, (ad.add (k * 2)).off + 1, none⟩ = some (.int .i64 fy))) (by kernel_rfl) (by exact uq CKH _ ((Keep.refl _).drew)) (fun hHeld => ?_)
        refine tkk 0 16 hHeld ?_; try simp only [Act.put, Ya, Yb, Yc]
        refine tkk 1 17 hHeld ?_; try simp only [Act.put, Ya, Yb, Yc]
        refine tkk 2 18 hHeld ?_; try simp only [Act.put, Ya, Yb, Yc]
        refine tkk 3 19 hHeld ?_; try simp only [Act.put, Ya, Yb, Yc]
        refine tkk 4 20 hHeld ?_; try simp only [Act.put, Ya, Yb, Yc]
        refine wpAnyH_ready (rs := [5, 9]) (by kernel_rfl) (by simp) ?_
        refine AllReadyH.cons rfl (fun K hK => ?_) (AllReadyH.cons rfl (fun K hK => ?_) AllReadyH.nil)
        · skip
          go_simp
          clear hHeld
          (refine ((uq ADk) _).mono ?_; rintro e w2 ⟨rfl, hk2⟩; obtain ⟨o2, k2, rfl⟩ := hk2.ext; clear hk2)
          try go_wp2_with fail
          refine hK.out _ _ ?_ (fun hHeld => ?_)
          · exact uq CKH _ (by repeat (first | apply keep_ext | apply Keep.alloc | apply Keep.drew | exact Keep.refl _))
          clear hK K
          try simp only [Act.put, Ya, Yb, Yc]
          refine tkk 6 15 hHeld ?_; try simp only [Act.put, Ya, Yb, Yc]
          refine tkk 7 22 hHeld ?_; try simp only [Act.put, Ya, Yb, Yc]
          refine tkk 8 23 hHeld ?_; try simp only [Act.put, Ya, Yb, Yc]
          refine rdyy 9 (fun K hK => ?_)
          go_simp
          clear hHeld
          refine hK.out _ _ ?_ (fun hHeld => ?_)
          · exact uq CKH _ (by repeat (first | apply keep_ext | apply Keep.alloc | apply Keep.drew | exact Keep.refl _))
          clear hK K
          try simp only [Act.put, Ya, Yb, Yc]
          refine rdyy 10 (fun K hK => ?_)
          go_simp
          clear hHeld
          refine hK.out _ _ ?_ (fun hHeld => ?_)
          · exact uq CKH _ (by repeat (first | apply keep_ext | apply Keep.alloc | apply Keep.drew | exact Keep.refl _))
          clear hK K
          try simp only [Act.put, Ya, Yb, Yc]
          refine tkk 11 7 hHeld ?_; try simp only [Act.put, Ya, Yb, Yc]
          refine wpAnyH_done (by kernel_rfl) ?_ _
          clear hHeld
          go_wp2_with fail
          go_meet
          exact ⟨_, rfl, rfl, by simp <;> omega, by simp <;> omega, by simp [go_sem], by simp [go_sem], by repeat (first | apply keep_ext | apply Keep.alloc | apply Keep.drew | exact Keep.refl _)⟩
        · skip
          go_simp
          clear hHeld
          refine hK.out _ _ ?_ (fun hHeld => ?_)
          · exact uq CKH _ (by repeat (first | apply keep_ext | apply Keep.alloc | apply Keep.drew | exact Keep.refl _))
          clear hK K
          try simp only [Act.put, Ya, Yb, Yc]
          refine rdyy 5 (fun K hK => ?_)
          go_simp
          clear hHeld
          (refine ((uq ADk) _).mono ?_; rintro e w2 ⟨rfl, hk2⟩; obtain ⟨o2, k2, rfl⟩ := hk2.ext; clear hk2)
          try go_wp2_with fail
          refine hK.out _ _ ?_ (fun hHeld => ?_)
          · exact uq CKH _ (by repeat (first | apply keep_ext | apply Keep.alloc | apply Keep.drew | exact Keep.refl _))
          clear hK K
          try simp only [Act.put, Ya, Yb, Yc]
          refine tkk 6 15 hHeld ?_; try simp only [Act.put, Ya, Yb, Yc]
          refine tkk 7 22 hHeld ?_; try simp only [Act.put, Ya, Yb, Yc]
          refine tkk 8 23 hHeld ?_; try simp only [Act.put, Ya, Yb, Yc]
          refine rdyy 10 (fun K hK => ?_)
          go_simp
          clear hHeld
          refine hK.out _ _ ?_ (fun hHeld => ?_)
          · exact uq CKH _ (by repeat (first | apply keep_ext | apply Keep.alloc | apply Keep.drew | exact Keep.refl _))
          clear hK K
          try simp only [Act.put, Ya, Yb, Yc]
          refine tkk 11 7 hHeld ?_; try simp only [Act.put, Ya, Yb, Yc]
          refine wpAnyH_done (by kernel_rfl) ?_ _
          clear hHeld
          go_wp2_with fail
          go_meet
          exact ⟨_, rfl, rfl, by simp <;> omega, by simp <;> omega, by simp [go_sem], by simp [go_sem], by repeat (first | apply keep_ext | apply Keep.alloc | apply Keep.drew | exact Keep.refl _)⟩
      case rest =>
        obtain ⟨T, hs6, hs7, hT1, hT2, m0, m1, hkc⟩ := hcut
        subst hs6 hs7
        have hfc := (uq HFT).keep hkc
        have HFC := hide hfc
        obtain ⟨h1, h2, h3, h4, c0, c1, z0, z1, r0, r1, y0, y1⟩ := hfc
        have h1' := hide h1
        clear hkc h1
        by_cases he : ae = 0
        · subst he
          have HN : Hid (sm (ax, ay) (L.drop (k + 1)) = (X, Y, Z)) := by rw [← uq SY rfl]; exact HI
          have HFN := hide ((uq HFC).set ax ay)
          clear SY SN HI
          go_wp2_with fail
          go_roundw
          case rel => exact ⟨k + 1, (ax, ay), by go_num, by omega, xi, yi, HN, uq HFN⟩
          case measure => simp [intOf]; omega
        · have hz := uq SN he
          rw [uq HI] at hz
          simp only [Prod.mk.injEq] at hz
          obtain ⟨rfl, rfl, rfl⟩ := hz
          have heb : (Z == 0) = false := by simpa using he
          have hec : (Z != 0) = true := by simpa using he
          clear SY SN HI
          go_wp2_with fail
          exact bodyPost_ret (v := .tuple #[.agg #[.int .i64 0, .int .i64 0], .int .i64 Z]) (by simp [results, Try.results15, go_sem, r0, r1, h2]) rfl ⟨rfl, by repeat (first | exact uq h1' | apply keep_ext | apply Keep.alloc | apply Keep.drew | (refine keep_set0 _ _ ?_))⟩
    · have hz := sm_end (t := t) (show L.length ≤ k by omega)
      rw [uq HI] at hz
      simp only [Prod.mk.injEq] at hz
      obtain ⟨rfl, rfl, rfl⟩ := hz
      obtain ⟨h1, h2, h3, h4, c0, c1, z0, z1, r0, r1, y0, y1⟩ := hft
      obtain ⟨tx, ty⟩ := t
      simp only at *
      have hlc : ¬ ((k : Int) < (L.length : Int)) := by omega
      have h1' := hide h1
      clear HI h1
      go_wp2_with fail
      exact bodyPost_ret (v := .tuple #[.agg #[.int .i64 tx, .int .i64 ty], .int .i64 0]) (by simp [results, Try.results15, go_sem, r0, r1, h2]) rfl ⟨rfl, by repeat (first | exact uq h1' | apply keep_ext | apply Keep.alloc | apply Keep.drew | (refine keep_set0 _ _ ?_))⟩
end Go.Proofs.Ytdgmndjofbdgeaa
