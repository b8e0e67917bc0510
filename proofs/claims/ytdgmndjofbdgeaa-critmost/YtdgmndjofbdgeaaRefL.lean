/- The document's answer for fractions, numbers by parts: lowest terms. -/
import Derived.Test.YtdgmndjofbdgeaaRefE
import Derived.Test.YtdgmndjofbdgeaaRefG
namespace Go.Proofs.Ytdgmndjofbdgeaa
open Go.RowKit
attribute [local go_sem ↓] Go.wp_at_zero Go.wp_at_succ
set_option linter.unusedVariables false
set_option linter.unusedSimpArgs false
set_option maxRecDepth 10000
/-- the numbers that a slice reads as -/
def rdl (w : World) : Value → List Int
  | .slice (some a) n _ => (List.range n).map fun j => match w.cell? ⟨a.block, j, none⟩ with | some v => intOf v | none => 0
  | _ => []
theorem rdl_sl {w : World} {v : Value} {l : List Int} (h : Sl w v l) : rdl w v = l := by
  obtain ⟨g, cap, rfl, _, _, _, hc, _⟩ := h
  unfold rdl
  apply List.ext_getElem
  · simp
  · intro i h1 h2
    simp at h1
    simp only [List.getElem_map, List.getElem_range]
    rw [hc i h1]
    simp [intOf, List.getD_eq_getElem?_getD, List.getElem?_eq_getElem h1]
/-- how great the number is that a slice reads as -/
def sizeOfSl (w : World) (v : Value) : Nat := (val (rdl w v)).toNat
theorem sizeOfSl_sl {w : World} {v : Value} {l : List Int} (h : Sl w v l) : sizeOfSl w v = (val l).toNat := by unfold sizeOfSl; rw [rdl_sl h]
theorem gcd_step (x y : Int) (hx : 0 ≤ x) (hy : 0 ≤ y) : Int.gcd y (x % y) = Int.gcd x y := by
  rw [Int.gcd_comm x y]
  have h : x % y = x - y * (x / y) := by have := Int.emod_add_mul_ediv x y; omega
  rw [h, Int.mul_comm y (x / y), Int.gcd_sub_mul_right_right]
/-- what lowest terms answer: of a number N with a sign and of D -/
def Low (N D : Int) (b : Bool) (X Y Z : Int) : Prop := X = pN (rn (sgn b N) D) (rd (sgn b N) D) ∧ Y = pD (rn (sgn b N) D) (rd (sgn b N) D) ∧ Z = pE (rn (sgn b N) D) (rd (sgn b N) D)
theorem low_one {N D : Int} {b : Bool} {X Y Z X' Y' Z' : Int} (h : Low N D b X Y Z) (k : Low N D b X' Y' Z') : X = X' ∧ Y = Y' ∧ Z = Z' := by
  obtain ⟨a1, a2, a3⟩ := h
  obtain ⟨b1, b2, b3⟩ := k
  exact ⟨a1.trans b1.symm, a2.trans b2.symm, a3.trans b3.symm⟩
theorem low_terms {N D g : Int} {b : Bool} (hN : 0 ≤ N) (hD : 1 ≤ D) (hg : g = (Int.gcd N D : Int)) : rn (sgn b N) D = sgn b (N / g) ∧ rd (sgn b N) D = D / g := by
  have hg2 : (Int.gcd (sgn b N) D : Int) = g := by
    rw [hg]; unfold sgn
    split
    · rw [Int.neg_gcd]
    · rfl
  unfold rn rd
  rw [hg2]
  refine ⟨?_, rfl⟩
  have hdv : g ∣ N := by rw [hg]; exact Int.gcd_dvd_left ..
  unfold sgn
  split
  · exact Int.neg_ediv_of_dvd hdv
  · rfl
theorem low_big {N D g : Int} {b : Bool} (hN : 0 ≤ N) (hD : 1 ≤ D) (hg : g = (Int.gcd N D : Int)) (h : ¬ N / g < 18446744073709551616 ∨ ¬ D / g < 18446744073709551616) : Low N D b 0 0 2 := by
  obtain ⟨e1, e2⟩ := low_terms (b := b) hN hD hg
  unfold Low
  rw [e1, e2]
  have : fit (sgn b (N / g)) = false ∨ fit (D / g) = false := by
    rcases h with h | h
    · refine .inl (fit_no ?_)
      unfold sgn
      split <;> omega
    · exact .inr (fit_no (by omega))
  obtain ⟨p1, p2, p3⟩ := pair_no this
  exact ⟨p1.symm, p2.symm, p3.symm⟩
theorem low_small {N D g x y : Int} {b c : Bool} (hN : 0 ≤ N) (hD : 1 ≤ D) (hg : g = (Int.gcd N D : Int)) (hx : x = N / g) (hy : y = D / g) (hc : c = (b && (x != 0))) : Low N D b (pN (sg x c) y) (pD (sg x c) y) (pE (sg x c) y) := by
  obtain ⟨e1, e2⟩ := low_terms (b := b) hN hD hg
  unfold Low
  rw [e1, e2, ← hx, ← hy]
  have : sg x c = sgn b x := by
    subst hc
    unfold sg sgn
    by_cases h : x = 0
    · subst h; cases b <;> simp
    · have : (x != 0) = true := by simpa using h
      rw [this]; cases b <;> simp
  rw [this]
  exact ⟨rfl, rfl, rfl⟩
set_option maxHeartbeats 4000000 in
theorem lowest_core (vn vd : Value) (N D : List Int) (b : Bool) (X Y Z : Int) (w : World) (rn0 : Sl w vn N) (rd0 : Sl w vd D) (hN : Dig N) (hD : Dig D) (hn : N.length ≤ 20) (hd : D.length ≤ 20) (hd1 : 1 ≤ val D) (HL : Low (val N) (val D) b X Y Z) :
    Calls Try.prog 37 #[vn, vd, .bool b] w fun e w' => e = .returned (.tuple #[.agg #[.int .i64 X, .int .i64 Y], .int .i64 Z]) ∧ Keep w w' := by
  have hn0 := (val_bd hN).1
  obtain ⟨g, hg⟩ : ∃ g : Int, g = (Int.gcd (val N) (val D) : Int) := ⟨_, rfl⟩
  have hg1 : 1 ≤ g := by
    have : 0 < Int.gcd (val N) (val D) := Int.gcd_pos_of_ne_zero_right _ (by omega)
    omega
  have HG := hide hg
  clear hg
  go_enter Try.func37, Try.ntmps37
  go_wp2_with fail
  go_loopw [8, 9] (fun av bv wr => ∃ (C E : List Int), Sl wr av C ∧ Sl wr bv E ∧ Dig C ∧ Dig E ∧ C.length ≤ 20 ∧ E.length ≤ 20 ∧ Hid (g = (Int.gcd (val C) (val E) : Int)) ∧ Keep (w.alloc (.cells #[.int .i64 0, .int .i64 0] 32)) wr) (fun _ bv wr => sizeOfSl wr bv)
  case atStart => exact ⟨N, D, rn0.keep ((Keep.refl w).alloc _), rd0.keep ((Keep.refl w).alloc _), hN, hD, hn, hd, HG, Keep.refl _⟩
  case round =>
    obtain ⟨C, E, sc, se, dc, de, hc, he, Hg, hk⟩ := hrel
    have hc0 := (val_bd dc).1
    have he0 := (val_bd de).1
    have O := hide (order_nil _ E wr se de (by omega))
    by_cases hz : val E = 0
    · have hcm : cm (val E) 0 = 0 := by rw [hz]; simp [cm]
      rw [hcm] at O
      have hgc : val C = g := by
        have h := uq Hg
        rw [hz] at h
        simp at h
        omega
      have hkw : Keep w wr := Keep.trans ((Keep.refl w).alloc _) hk
      have D1 := hide (divided_any vn u8 N C wr (rn0.keep hkw) sc hN dc hn hc (by omega))
      have D2 : Hid (∀ w', Keep wr w' → Calls Try.prog 54 #[vd, u8] w' fun e w'' => e = .returned (.tuple #[.int .u64 (if val D / val C < 18446744073709551616 then val D / val C else 0), .bool (decide (val D / val C < 18446744073709551616))]) ∧ Keep w' w'') :=
        fun w' hw' => divided_any vd u8 D C w' ((rd0.keep hkw).keep hw') (sc.keep hw') hD dc hd hc (by omega)
      rw [hgc] at D1 D2
      have HK := hide hk
      clear sc se hkw hk rn0 rd0 hgc hcm hz he0 hc0 Hg
      by_cases f1 : val N / g < 18446744073709551616
      · by_cases f2 : val D / g < 18446744073709551616
        · obtain ⟨x, hx⟩ : ∃ x, x = val N / g := ⟨_, rfl⟩
          obtain ⟨y, hy⟩ : ∃ y, y = val D / g := ⟨_, rfl⟩
          rw [if_pos f1, decide_eq_true f1, ← hx] at D1
          rw [if_pos f2, decide_eq_true f2, ← hy] at D2
          have x0 : 0 ≤ x := by rw [hx]; exact Int.ediv_nonneg hn0 (by omega)
          have y0 : 0 ≤ y := by rw [hy]; exact Int.ediv_nonneg (by omega) (by omega)
          rw [← hx] at f1
          rw [← hy] at f2
          have hl := low_small (b := b) (c := b && (x != 0)) hn0 hd1 (uq HG) hx hy rfl
          have M := fun w => made_any x y (b && (x != 0)) w x0 f1 y0 f2
          unfold fv at M
          obtain ⟨q1, q2, q3⟩ := low_one HL hl
          rw [← q1, ← q2, ← q3] at M
          have HM := hide M
          clear M hl hx hy q1 q2 q3 HL
          cases b
          · rw [Bool.false_and] at HM
            have HK' := uq HK
            obtain ⟨o0, k0, rfl⟩ := HK'.ext
            clear HK'
            go_wp2_with fail
            refine (uq O).mono ?_
            rintro e wr' ⟨rfl, rfl⟩
            go_wp2_with fail
            refine (uq D1).mono ?_
            rintro e w1 ⟨rfl, hk⟩
            have D2'' := uq D2 _ hk
            obtain ⟨o1, k1, rfl⟩ := hk.ext
            rw [ext_ext] at D2''
            have D2' := hide D2''
            clear hk D2 D2''
            go_wp2_with fail
            refine (uq D2').mono ?_
            rintro e w1 ⟨rfl, hk⟩
            obtain ⟨o2, k2, rfl⟩ := hk.ext
            clear hk
            go_wp2_with fail
            refine (uq HM _).mono ?_
            rintro e w1 ⟨rfl, hk⟩
            obtain ⟨o3, k3, rfl⟩ := hk.ext
            clear hk
            go_wp2_with fail
            exact bodyPost_ret (v := .tuple #[.agg #[.int .i64 X, .int .i64 Y], .int .i64 Z]) (by simp [results, Try.results37, go_sem]) rfl ⟨rfl, by repeat (first | apply keep_ext | apply Keep.alloc | apply Keep.drew | (refine keep_set _ _ _ (by omega) ?_) | exact Keep.refl _)⟩
          · rw [Bool.true_and] at HM
            obtain ⟨bb, hbb⟩ : ∃ bb, bb = (x != 0) := ⟨_, rfl⟩
            rw [← hbb] at HM
            have hbx : (x != 0) = bb := hbb.symm
            clear hbb
            have HK' := uq HK
            obtain ⟨o0, k0, rfl⟩ := HK'.ext
            clear HK'
            go_wp2_with fail
            refine (uq O).mono ?_
            rintro e wr' ⟨rfl, rfl⟩
            go_wp2_with fail
            refine (uq D1).mono ?_
            rintro e w1 ⟨rfl, hk⟩
            have D2'' := uq D2 _ hk
            obtain ⟨o1, k1, rfl⟩ := hk.ext
            rw [ext_ext] at D2''
            have D2' := hide D2''
            clear hk D2 D2''
            go_wp2_with fail
            refine (uq D2').mono ?_
            rintro e w1 ⟨rfl, hk⟩
            obtain ⟨o2, k2, rfl⟩ := hk.ext
            clear hk
            go_wp2_with fail
            refine (uq HM _).mono ?_
            rintro e w1 ⟨rfl, hk⟩
            obtain ⟨o3, k3, rfl⟩ := hk.ext
            clear hk
            go_wp2_with fail
            exact bodyPost_ret (v := .tuple #[.agg #[.int .i64 X, .int .i64 Y], .int .i64 Z]) (by simp [results, Try.results37, go_sem]) rfl ⟨rfl, by repeat (first | apply keep_ext | apply Keep.alloc | apply Keep.drew | (refine keep_set _ _ _ (by omega) ?_) | exact Keep.refl _)⟩
        · obtain ⟨q1, q2, q3⟩ := low_one HL (low_big (b := b) hn0 hd1 (uq HG) (.inr f2))
          subst q1 q2 q3
          rw [if_pos f1, decide_eq_true f1] at D1
          rw [if_neg f2, decide_eq_false f2] at D2
          obtain ⟨x, hx⟩ : ∃ x, x = val N / g := ⟨_, rfl⟩
          rw [← hx] at D1
          clear hx HL f1 f2
          have HK' := uq HK
          obtain ⟨o0, k0, rfl⟩ := HK'.ext
          clear HK'
          go_wp2_with fail
          refine (uq O).mono ?_
          rintro e wr' ⟨rfl, rfl⟩
          go_wp2_with fail
          refine (uq D1).mono ?_
          rintro e w1 ⟨rfl, hk⟩
          have D2'' := uq D2 _ hk
          obtain ⟨o1, k1, rfl⟩ := hk.ext
          rw [ext_ext] at D2''
          have D2' := hide D2''
          clear hk D2 D2''
          go_wp2_with fail
          refine (uq D2').mono ?_
          rintro e w1 ⟨rfl, hk⟩
          obtain ⟨o2, k2, rfl⟩ := hk.ext
          clear hk
          go_wp2_with fail
          exact bodyPost_ret (v := .tuple #[.agg #[.int .i64 0, .int .i64 0], .int .i64 2]) (by simp [results, Try.results37, go_sem]) rfl ⟨rfl, by repeat (first | apply keep_ext | apply Keep.alloc | apply Keep.drew | (refine keep_set _ _ _ (by omega) ?_) | exact Keep.refl _)⟩
      · obtain ⟨q1, q2, q3⟩ := low_one HL (low_big (b := b) hn0 hd1 (uq HG) (.inl f1))
        subst q1 q2 q3
        rw [if_neg f1, decide_eq_false f1] at D1
        obtain ⟨y, hy⟩ : ∃ y, y = (if val D / g < 18446744073709551616 then val D / g else 0) := ⟨_, rfl⟩
        obtain ⟨yb, hyb⟩ : ∃ yb, yb = decide (val D / g < 18446744073709551616) := ⟨_, rfl⟩
        rw [← hy, ← hyb] at D2
        clear hy hyb HL f1
        have HK' := uq HK
        obtain ⟨o0, k0, rfl⟩ := HK'.ext
        clear HK'
        go_wp2_with fail
        refine (uq O).mono ?_
        rintro e wr' ⟨rfl, rfl⟩
        go_wp2_with fail
        refine (uq D1).mono ?_
        rintro e w1 ⟨rfl, hk⟩
        have D2'' := uq D2 _ hk
        obtain ⟨o1, k1, rfl⟩ := hk.ext
        rw [ext_ext] at D2''
        have D2' := hide D2''
        clear hk D2 D2''
        go_wp2_with fail
        refine (uq D2').mono ?_
        rintro e w1 ⟨rfl, hk⟩
        obtain ⟨o2, k2, rfl⟩ := hk.ext
        clear hk
        go_wp2_with fail
        exact bodyPost_ret (v := .tuple #[.agg #[.int .i64 0, .int .i64 0], .int .i64 2]) (by simp [results, Try.results37, go_sem]) rfl ⟨rfl, by repeat (first | apply keep_ext | apply Keep.alloc | apply Keep.drew | (refine keep_set _ _ _ (by omega) ?_) | exact Keep.refl _)⟩
    · have hcm : ¬ cm (val E) 0 = 0 := by
        have h1 : ¬ val E < 0 := by omega
        simp [cm, hz, h1]
      generalize cm (val E) 0 = cv at *
      have hcb : (cv == 0) = false := by simpa using hcm
      have hcb2 : (cv != 0) = true := by simpa using hcm
      have R := hide (rest_any u8 u9 C E wr sc se dc de hc he (by omega))
      have HSE := hide se
      have hms := sizeOfSl_sl se
      have HMS := hide hms
      clear sc hcm hms se
      go_wp2_with fail
      refine (uq O).mono ?_
      rintro e wr ⟨rfl, rfl⟩
      go_wp2_with fail
      refine (uq R).mono ?_
      rintro e w2 ⟨v2, l2, rfl, s2, d2, ⟨q0, q1⟩, k2⟩
      have Hg2 : Hid (g = (Int.gcd (val E) (val l2) : Int)) := by
        rw [q1, gcd_step _ _ hc0 he0]; exact Hg
      have hlt : val l2 < val E := by rw [q1]; exact Int.emod_lt_of_pos _ (by omega)
      have HLT := hide hlt
      have hms2 := hide (sizeOfSl_sl s2)
      have HK2 := hide (Keep.trans hk k2)
      have HSE2 := hide ((uq HSE).keep k2)
      have S2 := hide s2
      have hl20 := (val_bd d2).1
      clear q1 hlt s2 k2 hk HSE
      go_wp2
      go_roundw
      case rel => exact ⟨E, l2, uq HSE2, uq S2, de, d2, he, by omega, Hg2, uq HK2⟩
      case measure =>
        have h1 := uq HMS
        have h2 := uq hms2
        have h3 := uq HLT
        simp [h1, h2]; omega
end Go.Proofs.Ytdgmndjofbdgeaa

namespace Go.Proofs.Ytdgmndjofbdgeaa
open Go.RowKit
attribute [local go_sem ↓] Go.wp_at_zero Go.wp_at_succ
set_option linter.unusedVariables false
set_option linter.unusedSimpArgs false
set_option maxRecDepth 10000
/-- have two fractions small parts? -/
def fewB (n d n2 d2 : Int) : Bool := decide (n.natAbs < 1073741824 ∧ n2.natAbs < 1073741824 ∧ d < 1073741824 ∧ d2 < 1073741824)
set_option maxHeartbeats 400000 in
theorem few_0 (n d n2 d2 u u2 : Int) (w : World) (h : ¬ u < 1073741824) (Sz : Int → Int → Prop) (S1 : Sz n u) (S2 : Sz n2 u2)
    (T1 : Hid (∀ (n x : Int), Sz n x → ∀ w, Calls Try.prog 36 #[.int .i64 n] w fun e w' => e = .returned (.int .u64 x) ∧ w' = w)) :
    Calls Try.prog 32 #[.agg #[.int .i64 n, .int .i64 d], .agg #[.int .i64 n2, .int .i64 d2]] w fun e w' => e = .returned (.bool false) ∧ Keep w w' := by
  go_enter Try.func32, Try.ntmps32
  go_wp2_with fail
  refine ((uq T1) _ _ S1 _).mono ?_
  rintro e w2 ⟨rfl, rfl⟩
  go_wp2
  go_ret
  exact ⟨rfl, by repeat (first | apply keep_ext | apply Keep.alloc | apply Keep.drew | exact Keep.refl _)⟩
set_option maxHeartbeats 400000 in
theorem few_1 (n d n2 d2 u u2 : Int) (w : World) (h1 : u < 1073741824) (h : ¬ u2 < 1073741824) (Sz : Int → Int → Prop) (S1 : Sz n u) (S2 : Sz n2 u2)
    (T1 : Hid (∀ (n x : Int), Sz n x → ∀ w, Calls Try.prog 36 #[.int .i64 n] w fun e w' => e = .returned (.int .u64 x) ∧ w' = w)) :
    Calls Try.prog 32 #[.agg #[.int .i64 n, .int .i64 d], .agg #[.int .i64 n2, .int .i64 d2]] w fun e w' => e = .returned (.bool false) ∧ Keep w w' := by
  go_enter Try.func32, Try.ntmps32
  go_wp2_with fail
  refine ((uq T1) _ _ S1 _).mono ?_
  rintro e w2 ⟨rfl, rfl⟩
  go_wp2_with fail
  refine ((uq T1) _ _ S2 _).mono ?_
  rintro e w2 ⟨rfl, rfl⟩
  go_wp2
  go_ret
  exact ⟨rfl, by repeat (first | apply keep_ext | apply Keep.alloc | apply Keep.drew | exact Keep.refl _)⟩
set_option maxHeartbeats 400000 in
theorem few_2 (n d n2 d2 u u2 : Int) (w : World) (h1 : u < 1073741824) (h2 : u2 < 1073741824) (h : ¬ d < 1073741824) (Sz : Int → Int → Prop) (S1 : Sz n u) (S2 : Sz n2 u2)
    (T1 : Hid (∀ (n x : Int), Sz n x → ∀ w, Calls Try.prog 36 #[.int .i64 n] w fun e w' => e = .returned (.int .u64 x) ∧ w' = w)) :
    Calls Try.prog 32 #[.agg #[.int .i64 n, .int .i64 d], .agg #[.int .i64 n2, .int .i64 d2]] w fun e w' => e = .returned (.bool false) ∧ Keep w w' := by
  go_enter Try.func32, Try.ntmps32
  go_wp2_with fail
  refine ((uq T1) _ _ S1 _).mono ?_
  rintro e w2 ⟨rfl, rfl⟩
  go_wp2_with fail
  refine ((uq T1) _ _ S2 _).mono ?_
  rintro e w2 ⟨rfl, rfl⟩
  go_wp2
  go_ret
  exact ⟨rfl, by repeat (first | apply keep_ext | apply Keep.alloc | apply Keep.drew | exact Keep.refl _)⟩
set_option maxHeartbeats 400000 in
theorem few_3 (n d n2 d2 u u2 : Int) (w : World) (h1 : u < 1073741824) (h2 : u2 < 1073741824) (h3 : d < 1073741824) (h : ¬ d2 < 1073741824) (Sz : Int → Int → Prop) (S1 : Sz n u) (S2 : Sz n2 u2)
    (T1 : Hid (∀ (n x : Int), Sz n x → ∀ w, Calls Try.prog 36 #[.int .i64 n] w fun e w' => e = .returned (.int .u64 x) ∧ w' = w)) :
    Calls Try.prog 32 #[.agg #[.int .i64 n, .int .i64 d], .agg #[.int .i64 n2, .int .i64 d2]] w fun e w' => e = .returned (.bool false) ∧ Keep w w' := by
  have hb : decide (d2 < 1073741824) = false := by simpa using h
  go_enter Try.func32, Try.ntmps32
  go_wp2_with fail
  refine ((uq T1) _ _ S1 _).mono ?_
  rintro e w2 ⟨rfl, rfl⟩
  go_wp2_with fail
  refine ((uq T1) _ _ S2 _).mono ?_
  rintro e w2 ⟨rfl, rfl⟩
  go_wp2
  go_ret
  exact ⟨rfl, by repeat (first | apply keep_ext | apply Keep.alloc | apply Keep.drew | exact Keep.refl _)⟩
set_option maxHeartbeats 400000 in
theorem few_4 (n d n2 d2 u u2 : Int) (w : World) (h1 : u < 1073741824) (h2 : u2 < 1073741824) (h3 : d < 1073741824) (h : d2 < 1073741824) (Sz : Int → Int → Prop) (S1 : Sz n u) (S2 : Sz n2 u2)
    (T1 : Hid (∀ (n x : Int), Sz n x → ∀ w, Calls Try.prog 36 #[.int .i64 n] w fun e w' => e = .returned (.int .u64 x) ∧ w' = w)) :
    Calls Try.prog 32 #[.agg #[.int .i64 n, .int .i64 d], .agg #[.int .i64 n2, .int .i64 d2]] w fun e w' => e = .returned (.bool true) ∧ Keep w w' := by
  go_enter Try.func32, Try.ntmps32
  go_wp2_with fail
  refine ((uq T1) _ _ S1 _).mono ?_
  rintro e w2 ⟨rfl, rfl⟩
  go_wp2_with fail
  refine ((uq T1) _ _ S2 _).mono ?_
  rintro e w2 ⟨rfl, rfl⟩
  go_wp2
  go_ret
  exact ⟨rfl, by repeat (first | apply keep_ext | apply Keep.alloc | apply Keep.drew | exact Keep.refl _)⟩
theorem few_any (n d n2 d2 : Int) (w : World) (h1 : -9223372036854775808 ≤ n) (h2 : n ≤ 9223372036854775807) (k1 : -9223372036854775808 ≤ n2) (k2 : n2 ≤ 9223372036854775807) :
    Calls Try.prog 32 #[.agg #[.int .i64 n, .int .i64 d], .agg #[.int .i64 n2, .int .i64 d2]] w fun e w' => e = .returned (.bool (fewB n d n2 d2)) ∧ Keep w w' := by
  have A := fun w => rsize_any n w h1 h2
  have B := fun w => rsize_any n2 w k1 k2
  by_cases a1 : (n.natAbs : Int) < 1073741824
  · by_cases a2 : (n2.natAbs : Int) < 1073741824
    · by_cases a3 : d < 1073741824
      · by_cases a4 : d2 < 1073741824
        · rw [show fewB n d n2 d2 = true by simp only [fewB, decide_eq_true_eq]; omega]
          exact few_4 n d n2 d2 _ _ w a1 a2 a3 a4 (fun n x => ∀ w, Calls Try.prog 36 #[.int .i64 n] w fun e w' => e = .returned (.int .u64 x) ∧ w' = w) A B (hide fun n x h => h)
        · rw [show fewB n d n2 d2 = false by simp only [fewB, decide_eq_false_iff_not]; omega]
          exact few_3 n d n2 d2 _ _ w a1 a2 a3 a4 (fun n x => ∀ w, Calls Try.prog 36 #[.int .i64 n] w fun e w' => e = .returned (.int .u64 x) ∧ w' = w) A B (hide fun n x h => h)
      · rw [show fewB n d n2 d2 = false by simp only [fewB, decide_eq_false_iff_not]; omega]
        exact few_2 n d n2 d2 _ _ w a1 a2 a3 (fun n x => ∀ w, Calls Try.prog 36 #[.int .i64 n] w fun e w' => e = .returned (.int .u64 x) ∧ w' = w) A B (hide fun n x h => h)
    · rw [show fewB n d n2 d2 = false by simp only [fewB, decide_eq_false_iff_not]; omega]
      exact few_1 n d n2 d2 _ _ w a1 a2 (fun n x => ∀ w, Calls Try.prog 36 #[.int .i64 n] w fun e w' => e = .returned (.int .u64 x) ∧ w' = w) A B (hide fun n x h => h)
  · rw [show fewB n d n2 d2 = false by simp only [fewB, decide_eq_false_iff_not]; omega]
    exact few_0 n d n2 d2 _ _ w a1 (fun n x => ∀ w, Calls Try.prog 36 #[.int .i64 n] w fun e w' => e = .returned (.int .u64 x) ∧ w' = w) A B (hide fun n x h => h)
/-- the two parameters and the result as they lie in memory -/
def Fa (w wc : World) (x y x2 y2 : Int) : Prop :=
  Keep w wc ∧ w.heap.size + 1 + 1 < wc.heap.size
  ∧ wc.cell? ⟨w.heap.size, 0, none⟩ = some (.int .i64 x) ∧ wc.cell? ⟨w.heap.size, 1, none⟩ = some (.int .i64 y) ∧ wc.cell? ⟨w.heap.size + 1, 0, none⟩ = some (.int .i64 x2) ∧ wc.cell? ⟨w.heap.size + 1, 1, none⟩ = some (.int .i64 y2)
  ∧ wc.cell? ⟨w.heap.size + 1 + 1, 0, none⟩ = some (.int .i64 0) ∧ wc.cell? ⟨w.heap.size + 1 + 1, 1, none⟩ = some (.int .i64 0)
  ∧ wc.frozen? ⟨w.heap.size + 1 + 1, 0, none⟩ = false ∧ wc.frozen? ⟨w.heap.size + 1 + 1, 1, none⟩ = false
theorem Fa.keep {w wc w' : World} {x y x2 y2 : Int} (h : Fa w wc x y x2 y2) (hk : Keep wc w') : Fa w w' x y x2 y2 := by
  obtain ⟨h1, h2, h3, h4, h5, h6, h7, h8, h9, h10⟩ := h
  have hs := Below.size hk
  refine ⟨h1.trans hk, by omega, ?_, ?_, ?_, ?_, ?_, ?_, ?_, ?_⟩
  · rw [Below.cell (p := ⟨w.heap.size, 0, none⟩) hk (by simp; omega)]; exact h3
  · rw [Below.cell (p := ⟨w.heap.size, 1, none⟩) hk (by simp; omega)]; exact h4
  · rw [Below.cell (p := ⟨w.heap.size + 1, 0, none⟩) hk (by simp; omega)]; exact h5
  · rw [Below.cell (p := ⟨w.heap.size + 1, 1, none⟩) hk (by simp; omega)]; exact h6
  · rw [Below.cell (p := ⟨w.heap.size + 1 + 1, 0, none⟩) hk (by simp; omega)]; exact h7
  · rw [Below.cell (p := ⟨w.heap.size + 1 + 1, 1, none⟩) hk (by simp; omega)]; exact h8
  · rw [Below.frozen (p := ⟨w.heap.size + 1 + 1, 0, none⟩) hk (by simp; omega)]; exact h9
  · rw [Below.frozen (p := ⟨w.heap.size + 1 + 1, 1, none⟩) hk (by simp; omega)]; exact h10
theorem Fa.cells {w wc : World} {x y x2 y2 : Int} (h : Fa w wc x y x2 y2) : wc.cell? ⟨w.heap.size, 0, none⟩ = some (.int .i64 x) ∧ wc.cell? ⟨w.heap.size, 1, none⟩ = some (.int .i64 y) ∧ wc.cell? ⟨w.heap.size + 1, 0, none⟩ = some (.int .i64 x2) ∧ wc.cell? ⟨w.heap.size + 1, 1, none⟩ = some (.int .i64 y2) :=
  ⟨h.2.2.1, h.2.2.2.1, h.2.2.2.2.1, h.2.2.2.2.2.1⟩
theorem Fa.drew {w wc : World} {x y x2 y2 : Int} (h : Fa w wc x y x2 y2) : Fa w wc.drew x y x2 y2 := h.keep ((Keep.refl _).drew)
theorem fa_start (w : World) (os : Array Obj) (k : Nat) (T : TypeId) (x y x2 y2 : Int) :
    Fa w (ext (((w.alloc (.cells #[.int .i64 x, .int .i64 y] T)).alloc (.cells #[.int .i64 x2, .int .i64 y2] T)).alloc (.cells #[.int .i64 0, .int .i64 0] T)) os k) x y x2 y2 := by
  refine ⟨by repeat (first | apply keep_ext | apply Keep.alloc | exact Keep.refl _), by simp; omega, ?_, ?_, ?_, ?_, ?_, ?_, ?_, ?_⟩ <;> simp [go_sem]
end Go.Proofs.Ytdgmndjofbdgeaa
