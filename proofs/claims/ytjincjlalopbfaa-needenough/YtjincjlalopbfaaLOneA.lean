/- The document's one token. -/
import Derived.Test.YtjincjlalopbfaaLReadA
namespace Go.Proofs.Ytjincjlalopbfaa
open Go.RowKit
attribute [local go_sem ↓] Go.wp_at_zero Go.wp_at_succ
set_option linter.unusedVariables false
set_option linter.unusedSimpArgs false
set_option maxRecDepth 10000
/-- one of two endings, by a length -/
def Wd (E i m : Nat) (A B : Value) (e : Ending) : Prop := (E - i ≤ m → e = .returned A) ∧ (m < E - i → e = .returned B)
set_option maxHeartbeats 4000000 in
theorem one_word (ad : Addr) (n cap i E : Nat) (C : Nat → Int) (SM DG : Nat → Bool) (G : Nat → Nat) (s : ByteArray) (w : World) (hn : n ≤ 70000) (hi : i < n) (hE : i < E) (hEn : E ≤ n) (hnc : n ≤ cap) (hb : ad.block < w.heap.size)
    (HC : Hid (∀ k, k < n → ∀ W, Keep w W → W.cell? (ad.add k) = some (.int .u8 (C k))))
    (T1 : Hid (∀ k, k < n → ∀ w, Calls Try.prog 73 #[.int .u8 (C k)] w fun e w' => e = .returned (.bool (SM k)) ∧ w' = w))
    (T2 : Hid (∀ k, k < n → ∀ w, Calls Try.prog 74 #[.int .u8 (C k)] w fun e w' => e = .returned (.bool (DG k)) ∧ w' = w))
    (HS : Hid (SM i = true))
    (HG : Hid (∀ k, k < n → (SM k = true ∨ DG k = true ∨ C k = 95) → G k = 1 + G (k + 1)))
    (HG2 : Hid (∀ k, (k < n → ¬ (SM k = true ∨ DG k = true ∨ C k = 95)) → G k = 0))
    (HE : Hid (i + G i = E))
    (HV : Hid (∀ W, Keep w W → (convert 65 9 (.slice (some (ad.add i)) (E - i) (cap - i))).run Try.prog W = .ok (.string s) W)) :
    Calls Try.prog 56 #[.slice (some ad) n cap, .int .i64 (i : Int)] w fun e w' => Wd E i 24 (.tuple #[.agg #[.int .i64 1, .string s, .int .i64 0, .int .i64 (i : Int)], .int .i64 0]) (.tuple #[.agg #[.int .i64 0, .string ⟨#[]⟩, .int .i64 0, .int .i64 0], .int .i64 4]) e ∧ Keep w w' := by
  have hin : (i : Int) < (n : Int) := by omega
  have k0 := (show ∀ o1, (w.alloc o1).cell? (ad.add i) = some (.int .u8 (C i)) from fun o1 => (uq HC) i hi _ ((Keep.refl w).alloc _))
  have kv := (show ∀ o1, (convert 65 9 (.slice (some (ad.add i)) (E - i) (cap - i))).run Try.prog (w.alloc o1) = .ok (.string s) (w.alloc o1) from fun o1 => (uq HV) _ ((Keep.refl w).alloc _))
  go_enter Try.func56, Try.ntmps56
  go_wp2_with fail
  (refine ((uq T1) i hi _).mono ?_; rintro e w2 ⟨rfl, rfl⟩)
  rw [uq HS]
  clear k0
  go_wp2_with fail
  go_loop [6] (fun vi => ∃ k : Nat, k ≤ n ∧ vi = .int .i64 (k : Int) ∧ Hid (k + G k = E)) (fun vi => n - (intOf vi).toNat)
  case atStart => exact ⟨i, Nat.le_of_lt hi, rfl, HE⟩
  case round =>
    obtain ⟨k, hk, rfl, hE'⟩ := hrel
    by_cases hlt : k < n
    · have li : (k : Int) < (n : Int) := by omega
      have k0 := (show ∀ o1, (w.alloc o1).cell? (ad.add k) = some (.int .u8 (C k)) from fun o1 => (uq HC) k hlt _ ((Keep.refl w).alloc _))
      have T1k := hide ((uq T1) k hlt)
      have T2k := hide ((uq T2) k hlt)
      have HGk : Hid ((SM k = true ∨ DG k = true ∨ C k = 95) → k + 1 + G (k + 1) = E) := by
        intro h
        have := uq hE'
        rw [(uq HG) k hlt h] at this
        omega
      have HNk : Hid (¬ (SM k = true ∨ DG k = true ∨ C k = 95) → k = E) := by
        intro h
        have := uq hE'
        rw [(uq HG2) k (fun _ => h)] at this
        omega
      generalize SM k = b1 at *
      generalize DG k = b2 at *
      clear hE' HG HG2
      go_wp2_with fail
      (refine ((uq T1k) _).mono ?_; rintro e w2 ⟨rfl, rfl⟩)
      cases b1 with
      | true =>
        go_wp2_with fail
        exact ⟨⟨k + 1, hlt, by go_num, (uq HGk) (by simp)⟩, by simp [intOf]; omega⟩
      | false =>
        go_wp2_with fail
        (refine ((uq T2k) _).mono ?_; rintro e w2 ⟨rfl, rfl⟩)
        cases b2 with
        | true =>
          go_wp2_with fail
          exact ⟨⟨k + 1, hlt, by go_num, (uq HGk) (by simp)⟩, by simp [intOf]; omega⟩
        | false =>
          by_cases h95 : C k = 95
          · have hb95 : (C k == 95) = true := by simp [h95]
            have HX : Hid (k + 1 + G (k + 1) = E) := (uq HGk) (.inr (.inr h95))
            clear h95
            go_wp2_with fail
            exact ⟨⟨k + 1, hlt, by go_num, HX⟩, by simp [intOf]; omega⟩
          · have hb95 : (C k == 95) = false := by simp [h95]
            have e : k = E := (uq HNk) (by simp [h95])
            subst e
            clear h95 HGk HNk
            go_wp2_with fail
            · exact bodyPost_ret (v := .tuple #[.agg #[.int .i64 0, .string ⟨#[]⟩, .int .i64 0, .int .i64 0], .int .i64 4]) (by simp [results, Try.results56, go_sem]) rfl ⟨⟨fun h => absurd h (by omega), fun _ => rfl⟩, by repeat (first | apply keep_ext | apply Keep.alloc | apply Keep.drew | exact Keep.refl _)⟩
            · exact bodyPost_ret (v := .tuple #[.agg #[.int .i64 1, .string s, .int .i64 0, .int .i64 (i : Int)], .int .i64 0]) (by simp [results, Try.results56, go_sem]) rfl ⟨⟨fun _ => rfl, fun h => absurd h (by omega)⟩, by repeat (first | apply keep_ext | apply Keep.alloc | apply Keep.drew | exact Keep.refl _)⟩
    · have e : k = E := by have := uq hE'; rw [(uq HG2) k (fun h => absurd h hlt)] at this; omega
      subst e
      go_wp2_with fail
      · exact bodyPost_ret (v := .tuple #[.agg #[.int .i64 0, .string ⟨#[]⟩, .int .i64 0, .int .i64 0], .int .i64 4]) (by simp [results, Try.results56, go_sem]) rfl ⟨⟨fun h => absurd h (by omega), fun _ => rfl⟩, by repeat (first | apply keep_ext | apply Keep.alloc | apply Keep.drew | exact Keep.refl _)⟩
      · exact bodyPost_ret (v := .tuple #[.agg #[.int .i64 1, .string s, .int .i64 0, .int .i64 (i : Int)], .int .i64 0]) (by simp [results, Try.results56, go_sem]) rfl ⟨⟨fun _ => rfl, fun h => absurd h (by omega)⟩, by repeat (first | apply keep_ext | apply Keep.alloc | apply Keep.drew | exact Keep.refl _)⟩
set_option maxHeartbeats 4000000 in
theorem one_num (ad : Addr) (n cap i E : Nat) (C D : Nat → Int) (DG : Nat → Bool) (G : Nat → Nat) (V : Nat → Int) (s : ByteArray) (w : World) (hn : n ≤ 70000) (hi : i < n) (hE : i < E) (hEn : E ≤ n) (hnc : n ≤ cap) (hb : ad.block < w.heap.size)
    (HC : Hid (∀ k, k < n → ∀ W, Keep w W → W.cell? (ad.add k) = some (.int .u8 (C k))))
    (T1 : Hid (∀ w, Calls Try.prog 73 #[.int .u8 (C i)] w fun e w' => e = .returned (.bool false) ∧ w' = w))
    (T2 : Hid (∀ k, k < n → ∀ w, Calls Try.prog 74 #[.int .u8 (C k)] w fun e w' => e = .returned (.bool (DG k)) ∧ w' = w))
    (HS : Hid (DG i = true))
    (HD : Hid (∀ k, k < n → DG k = true → C k = D k + 48 ∧ 0 ≤ D k ∧ D k ≤ 9))
    (HG : Hid (∀ k, k < n → DG k = true → G k = 1 + G (k + 1)))
    (HG2 : Hid (∀ k, (k < n → DG k = false) → G k = 0))
    (HE : Hid (i + G i = E))
    (H0 : Hid (V 0 = 0))
    (HW : Hid (∀ j, j < 18 → i + j < E → V (j + 1) = 10 * V j + D (i + j) ∧ 0 ≤ V j ∧ V j ≤ 100000000000000000))
    (HV : Hid (∀ W, Keep w W → (convert 65 9 (.slice (some (ad.add i)) (E - i) (cap - i))).run Try.prog W = .ok (.string s) W)) :
    Calls Try.prog 56 #[.slice (some ad) n cap, .int .i64 (i : Int)] w fun e w' => Wd E i 18 (.tuple #[.agg #[.int .i64 2, .string s, .int .i64 (V (E - i)), .int .i64 (i : Int)], .int .i64 0]) (.tuple #[.agg #[.int .i64 0, .string ⟨#[]⟩, .int .i64 0, .int .i64 0], .int .i64 4]) e ∧ Keep w w' := by
  have hin : (i : Int) < (n : Int) := by omega
  have k0 := (show ∀ o1, (w.alloc o1).cell? (ad.add i) = some (.int .u8 (C i)) from fun o1 => (uq HC) i hi _ ((Keep.refl w).alloc _))
  have kv := (show ∀ o1, (convert 65 9 (.slice (some (ad.add i)) (E - i) (cap - i))).run Try.prog (w.alloc o1) = .ok (.string s) (w.alloc o1) from fun o1 => (uq HV) _ ((Keep.refl w).alloc _))
  go_enter Try.func56, Try.ntmps56
  go_wp2_with fail
  (refine ((uq T1) _).mono ?_; rintro e w2 ⟨rfl, rfl⟩)
  go_wp2_with fail
  (refine ((uq T2) i hi _).mono ?_; rintro e w2 ⟨rfl, rfl⟩)
  rw [uq HS]
  clear k0
  go_wp2_with fail
  go_loop [6, 7] (fun vi vv => ∃ k : Nat, i ≤ k ∧ k ≤ n ∧ vi = .int .i64 (k : Int) ∧ vv = .int .i64 (V (min (k - i) 18)) ∧ Hid (k + G k = E)) (fun vi vv => n - (intOf vi).toNat)
  case atStart => exact ⟨i, Nat.le_refl _, Nat.le_of_lt hi, rfl, by rw [Nat.sub_self]; exact congrArg _ (uq H0).symm, HE⟩
  case round =>
    obtain ⟨k, hik, hk, rfl, rfl, hE'⟩ := hrel
    by_cases hlt : k < n
    · have li : (k : Int) < (n : Int) := by omega
      have k0 := (show ∀ o1, (w.alloc o1).cell? (ad.add k) = some (.int .u8 (C k)) from fun o1 => (uq HC) k hlt _ ((Keep.refl w).alloc _))
      have T2k := hide ((uq T2) k hlt)
      obtain ⟨b, hb2⟩ : ∃ b, DG k = b := ⟨_, rfl⟩
      rw [hb2] at T2k
      have HBk := hide hb2
      clear hb2
      cases b with
      | true =>
        have HX : Hid (k + 1 + G (k + 1) = E) := by have := uq hE'; rw [(uq HG) k hlt (uq HBk)] at this; unfold Hid; omega
        obtain ⟨d1, d2, d3⟩ := (uq HD) k hlt (uq HBk)
        by_cases hj : k - i < 18
        · have hj' : (k : Int) - (i : Int) < 18 := by omega
          obtain ⟨v1, v2, v3⟩ := (uq HW) (k - i) hj (by have := uq HX; omega)
          rw [show i + (k - i) = k by omega] at v1
          rw [show min (k - i) 18 = k - i by omega]
          have HV1 := hide v1
          clear v1
          generalize D k = d at *
          generalize C k = c at *
          generalize V (k - i) = x at *
          have H3 := hide d1
          subst d1
          go_wp2_with fail
          (refine ((uq T2k) _).mono ?_; rintro e w2 ⟨rfl, rfl⟩)
          go_wp2_with fail
          exact ⟨⟨k + 1, by omega, hlt, by go_num, by rw [show min (k + 1 - i) 18 = k - i + 1 by omega, uq HV1], HX⟩, by simp [intOf]; omega⟩
        · have hj' : ¬ (k : Int) - (i : Int) < 18 := by omega
          clear d1 d2 d3
          rw [show min (k - i) 18 = 18 by omega]
          go_wp2_with fail
          (refine ((uq T2k) _).mono ?_; rintro e w2 ⟨rfl, rfl⟩)
          go_wp2_with fail
          exact ⟨⟨k + 1, by omega, hlt, by go_num, by rw [show min (k + 1 - i) 18 = 18 by omega], HX⟩, by simp [intOf]; omega⟩
      | false =>
        have e : k = E := by have := uq hE'; rw [(uq HG2) k (fun _ => uq HBk)] at this; omega
        subst e
        go_wp2_with fail
        (refine ((uq T2k) _).mono ?_; rintro e w2 ⟨rfl, rfl⟩)
        by_cases hm : 18 < k - i
        · have hv : ¬ ((k : Int) - (i : Int) ≤ 18) := by omega
          go_wp2_with fail
          exact bodyPost_ret (v := .tuple #[.agg #[.int .i64 0, .string ⟨#[]⟩, .int .i64 0, .int .i64 0], .int .i64 4]) (by simp [results, Try.results56, go_sem]) rfl ⟨⟨fun h => absurd h (by omega), fun _ => rfl⟩, by repeat (first | apply keep_ext | apply Keep.alloc | apply Keep.drew | exact Keep.refl _)⟩
        · have hv : ((k : Int) - (i : Int) ≤ 18) := by omega
          have hmin : min (k - i) 18 = k - i := by omega
          rw [hmin]
          go_wp2_with fail
          exact bodyPost_ret (v := .tuple #[.agg #[.int .i64 2, .string s, .int .i64 (V (k - i)), .int .i64 (i : Int)], .int .i64 0]) (by simp [results, Try.results56, go_sem]) rfl ⟨⟨fun _ => rfl, fun h => absurd h (by omega)⟩, by repeat (first | apply keep_ext | apply Keep.alloc | apply Keep.drew | exact Keep.refl _)⟩
    · have e : k = E := by have := uq hE'; rw [(uq HG2) k (fun h => absurd h hlt)] at this; omega
      subst e
      by_cases hm : 18 < k - i
      · have hv : ¬ ((k : Int) - (i : Int) ≤ 18) := by omega
        go_wp2_with fail
        exact bodyPost_ret (v := .tuple #[.agg #[.int .i64 0, .string ⟨#[]⟩, .int .i64 0, .int .i64 0], .int .i64 4]) (by simp [results, Try.results56, go_sem]) rfl ⟨⟨fun h => absurd h (by omega), fun _ => rfl⟩, by repeat (first | apply keep_ext | apply Keep.alloc | apply Keep.drew | exact Keep.refl _)⟩
      · have hv : ((k : Int) - (i : Int) ≤ 18) := by omega
        have hmin : min (k - i) 18 = k - i := by omega
        rw [hmin]
        go_wp2_with fail
        exact bodyPost_ret (v := .tuple #[.agg #[.int .i64 2, .string s, .int .i64 (V (k - i)), .int .i64 (i : Int)], .int .i64 0]) (by simp [results, Try.results56, go_sem]) rfl ⟨⟨fun _ => rfl, fun h => absurd h (by omega)⟩, by repeat (first | apply keep_ext | apply Keep.alloc | apply Keep.drew | exact Keep.refl _)⟩
set_option maxHeartbeats 4000000 in
theorem one_sign (ad : Addr) (n cap i : Nat) (c : Int) (s : ByteArray) (w : World) (hn : n ≤ 70000) (hi : i < n) (hnc : n ≤ cap) (hb : ad.block < w.heap.size)
    (HC : Hid (∀ W, Keep w W → W.cell? (ad.add i) = some (.int .u8 c)))
    (T1 : Hid (∀ w, Calls Try.prog 73 #[.int .u8 c] w fun e w' => e = .returned (.bool false) ∧ w' = w))
    (T2 : Hid (∀ w, Calls Try.prog 74 #[.int .u8 c] w fun e w' => e = .returned (.bool false) ∧ w' = w))
    (T3 : Hid (∀ w, Calls Try.prog 75 #[.int .u8 c] w fun e w' => e = .returned (.bool true) ∧ w' = w))
    (HV : Hid (∀ W, Keep w W → (convert 65 9 (.slice (some (ad.add i)) (i + 1 - i) (cap - i))).run Try.prog W = .ok (.string s) W)) :
    Calls Try.prog 56 #[.slice (some ad) n cap, .int .i64 (i : Int)] w fun e w' => e = .returned (.tuple #[.agg #[.int .i64 3, .string s, .int .i64 0, .int .i64 (i : Int)], .int .i64 0]) ∧ Keep w w' := by
  have hin : (i : Int) < (n : Int) := by omega
  have k0 := (show ∀ o1, (w.alloc o1).cell? (ad.add i) = some (.int .u8 c) from fun o1 => (uq HC) _ ((Keep.refl w).alloc _))
  have kv := (show ∀ o1, (convert 65 9 (.slice (some (ad.add i)) 1 (cap - i))).run Try.prog (w.alloc o1) = .ok (.string s) (w.alloc o1) from fun o1 => by
    have := (uq HV) _ ((Keep.refl w).alloc o1)
    rw [Nat.add_sub_cancel_left] at this
    exact this)
  go_enter Try.func56, Try.ntmps56
  go_wp2_with fail
  (refine ((uq T1) _).mono ?_; rintro e w2 ⟨rfl, rfl⟩)
  go_wp2_with fail
  (refine ((uq T2) _).mono ?_; rintro e w2 ⟨rfl, rfl⟩)
  go_wp2_with fail
  (refine ((uq T3) _).mono ?_; rintro e w2 ⟨rfl, rfl⟩)
  go_wp2_with fail
  exact bodyPost_ret (v := .tuple #[.agg #[.int .i64 3, .string s, .int .i64 0, .int .i64 (i : Int)], .int .i64 0]) (by simp [results, Try.results56, go_sem]) rfl ⟨rfl, by repeat (first | apply keep_ext | apply Keep.alloc | apply Keep.drew | exact Keep.refl _)⟩
set_option maxHeartbeats 4000000 in
theorem one_byte (ad : Addr) (n cap i : Nat) (c : Int) (s : ByteArray) (w : World) (hn : n ≤ 70000) (hi : i < n) (hnc : n ≤ cap) (hb : ad.block < w.heap.size)
    (HC : Hid (∀ W, Keep w W → W.cell? (ad.add i) = some (.int .u8 c)))
    (T1 : Hid (∀ w, Calls Try.prog 73 #[.int .u8 c] w fun e w' => e = .returned (.bool false) ∧ w' = w))
    (T2 : Hid (∀ w, Calls Try.prog 74 #[.int .u8 c] w fun e w' => e = .returned (.bool false) ∧ w' = w))
    (T3 : Hid (∀ w, Calls Try.prog 75 #[.int .u8 c] w fun e w' => e = .returned (.bool false) ∧ w' = w))
    (HV : Hid (∀ W, Keep w W → (convert 65 9 (.slice (some (ad.add i)) (i + 1 - i) (cap - i))).run Try.prog W = .ok (.string s) W)) :
    Calls Try.prog 56 #[.slice (some ad) n cap, .int .i64 (i : Int)] w fun e w' => e = .returned (.tuple #[.agg #[.int .i64 0, .string ⟨#[]⟩, .int .i64 0, .int .i64 0], .int .i64 40]) ∧ Keep w w' := by
  have hin : (i : Int) < (n : Int) := by omega
  have k0 := (show ∀ o1, (w.alloc o1).cell? (ad.add i) = some (.int .u8 c) from fun o1 => (uq HC) _ ((Keep.refl w).alloc _))
  have kv := (show ∀ o1, (convert 65 9 (.slice (some (ad.add i)) 1 (cap - i))).run Try.prog (w.alloc o1) = .ok (.string s) (w.alloc o1) from fun o1 => by
    have := (uq HV) _ ((Keep.refl w).alloc o1)
    rw [Nat.add_sub_cancel_left] at this
    exact this)
  go_enter Try.func56, Try.ntmps56
  go_wp2_with fail
  (refine ((uq T1) _).mono ?_; rintro e w2 ⟨rfl, rfl⟩)
  go_wp2_with fail
  (refine ((uq T2) _).mono ?_; rintro e w2 ⟨rfl, rfl⟩)
  go_wp2_with fail
  (refine ((uq T3) _).mono ?_; rintro e w2 ⟨rfl, rfl⟩)
  go_wp2_with fail
  exact bodyPost_ret (v := .tuple #[.agg #[.int .i64 0, .string ⟨#[]⟩, .int .i64 0, .int .i64 0], .int .i64 40]) (by simp [results, Try.results56, go_sem]) rfl ⟨rfl, by repeat (first | apply keep_ext | apply Keep.alloc | apply Keep.drew | exact Keep.refl _)⟩
end Go.Proofs.Ytjincjlalopbfaa

namespace Go.Proofs.Ytjincjlalopbfaa
open Go.RowKit
set_option linter.unusedVariables false
set_option linter.unusedSimpArgs false
set_option maxRecDepth 10000
theorem tw_congr {P Q : UInt8 → Bool} (h : ∀ x, P x = Q x) (l : List UInt8) : tw P l = tw Q l := by rw [show P = Q from funext h]
theorem one_any (v : Value) (l : List UInt8) (i : Nat) (w : World) (hl : l.length ≤ 70000) (hlt : i < l.length) (h : By w v l) :
    Calls Try.prog 56 #[v, .int .i64 (i : Int)] w fun e w' => e = .returned (.tuple #[tv (rtk (one (l.drop i) i)), .int .i64 (re (one (l.drop i) i))]) ∧ Keep w w' := by
  obtain ⟨a, cap, e, hcap, hc⟩ := id h
  subst e
  obtain ⟨ad, rfl, hb, ci⟩ := hc i hlt
  have hd := drop_at l i hlt
  have h2 := en_le (l.drop i)
  have h1 : 1 ≤ en (l.drop i) := by rw [hd]; exact en_pos _ _
  rw [List.length_drop] at h2
  have HC : Hid (∀ k, k < l.length → ∀ W, Keep w W → W.cell? (ad.add k) = some (.int .u8 ((l.getD k 0).toNat : Int))) := fun k hk W hK => by
    obtain ⟨ad', e, _, ck⟩ := hc k hk
    injection e with e
    subst e
    rw [Below.cell hK (by rw [add_block]; exact hb)]; exact ck
  have CV : ∀ N, i ≤ N → N ≤ l.length → ∀ W, Keep w W → (convert 65 9 (.slice (some (ad.add i)) (N - i) (cap - i))).run Try.prog W = .ok (.string (sv ((l.drop i).take (N - i)))) W := fun N h1 h2 W hk =>
    conv_piece (h.cy.keep hk) h1 h2 (t := 65) (u := 9) Try.underlying65 Try.underlying9 (cap - i)
  have HV : Hid (∀ W, Keep w W → (convert 65 9 (.slice (some (ad.add i)) (i + en (l.drop i) - i) (cap - i))).run Try.prog W = .ok (.string (sv ((l.drop i).take (en (l.drop i))))) W) := fun W hk => by
    have := CV (i + en (l.drop i)) (by omega) (by omega) W hk
    rw [Nat.add_sub_cancel_left] at this ⊢
    exact this
  have hlen : ((l.drop i).take (en (l.drop i))).length = en (l.drop i) := by rw [List.length_take, List.length_drop]; omega
  have e1 : one (l.drop i) i = (if kd (l.getD i 0).toNat = 4 then (if 24 < en (l.drop i) then .error 4 else .ok ⟨1, (l.drop i).take (en (l.drop i)), 0, i⟩)
    else if kd (l.getD i 0).toNat = 5 then (if 18 < en (l.drop i) then .error 4 else .ok ⟨2, (l.drop i).take (en (l.drop i)), num ((l.drop i).take (en (l.drop i))), i⟩)
    else if kd (l.getD i 0).toNat = 7 then .ok ⟨3, (l.drop i).take (en (l.drop i)), 0, i⟩
    else .error 40) := by
    conv => lhs; rw [hd]
    simp only [one]
    rw [← hd]
  have h7e : kd (l.getD i 0).toNat = 7 → en (l.drop i) = 1 := by
    rw [hd]
    intro h7
    have : tw (goes (l.getD i 0)) (l.drop (i + 1)) = 0 := tw_none fun x => by unfold goes; rw [h7]; unfold on; simp
    show 1 + tw (goes (l.getD i 0)) (l.drop (i + 1)) = 1
    rw [this]
  have hS := small_any ((l.getD i 0).toNat : Int)
  have hD := digit_any ((l.getD i 0).toNat : Int)
  have hG := sign_any ((l.getD i 0).toNat : Int)
  rw [e1]
  by_cases k4 : kd (l.getD i 0).toNat = 4
  · rw [if_pos k4]
    have hg : ∀ x : UInt8, goes (l.getD i 0) x = on 4 (kd x.toNat) := fun x => by unfold goes; rw [k4]
    have hE : en (l.drop i) = tw (fun x => on 4 (kd x.toNat)) (l.drop i) := by
      rw [en_at _ _ hlt, tw_step _ _ _ hlt, if_pos (by show on 4 (kd (l.getD i 0).toNat) = true; rw [k4]; decide), tw_congr hg]
    have hP : ∀ k, on 4 (kd (l.getD k 0).toNat) = true ↔ (decide (97 ≤ ((l.getD k 0).toNat : Int) ∧ ((l.getD k 0).toNat : Int) ≤ 122) = true ∨ decide (48 ≤ ((l.getD k 0).toNat : Int) ∧ ((l.getD k 0).toNat : Int) ≤ 57) = true ∨ ((l.getD k 0).toNat : Int) = 95) := fun k => by
      rw [on_iff, kd_4, kd_5, kd_6, decide_eq_true_iff, decide_eq_true_iff]
      omega
    refine (one_word ad l.length cap i (i + en (l.drop i)) (fun k => ((l.getD k 0).toNat : Int)) (fun k => decide (97 ≤ ((l.getD k 0).toNat : Int) ∧ ((l.getD k 0).toNat : Int) ≤ 122)) (fun k => decide (48 ≤ ((l.getD k 0).toNat : Int) ∧ ((l.getD k 0).toNat : Int) ≤ 57)) (fun k => tw (fun x => on 4 (kd x.toNat)) (l.drop k)) _ w hl hlt (by omega) (by omega) hcap hb HC (hide fun k hk w => small_any _ w) (hide fun k hk w => digit_any _ w)
      (hide (by rw [decide_eq_true_iff]; exact (kd_4 _).1 k4)) (hide fun k hk hp => ?_) (hide fun k hp => ?_) (hide (by rw [hE])) HV).mono ?_
    · show tw (fun x => on 4 (kd x.toNat)) (l.drop k) = 1 + tw (fun x => on 4 (kd x.toNat)) (l.drop (k + 1))
      rw [tw_step _ _ _ hk, if_pos ((hP k).2 hp)]
    · by_cases hk : k < l.length
      · show tw (fun x => on 4 (kd x.toNat)) (l.drop k) = 0
        rw [tw_step _ _ _ hk, if_neg (fun h => hp hk ((hP k).1 h))]
      · exact tw_end _ _ _ (by omega)
    · rintro e w' ⟨⟨hA, hB⟩, hk⟩
      refine ⟨?_, hk⟩
      by_cases hm : 24 < en (l.drop i)
      · rw [if_pos hm]; exact hB (by omega)
      · rw [if_neg hm]; exact hA (by omega)
  · rw [if_neg k4]
    have n4 : decide (97 ≤ ((l.getD i 0).toNat : Int) ∧ ((l.getD i 0).toNat : Int) ≤ 122) = false := by rw [decide_eq_false_iff_not, ← kd_4]; exact k4
    rw [n4] at hS
    by_cases k5 : kd (l.getD i 0).toNat = 5
    · rw [if_pos k5]
      have hg : ∀ x : UInt8, goes (l.getD i 0) x = on 5 (kd x.toNat) := fun x => by unfold goes; rw [k5]
      have hE : en (l.drop i) = tw (fun x => on 5 (kd x.toNat)) (l.drop i) := by
        rw [en_at _ _ hlt, tw_step _ _ _ hlt, if_pos (by show on 5 (kd (l.getD i 0).toNat) = true; rw [k5]; decide), tw_congr hg]
      have hP : ∀ k, on 5 (kd (l.getD k 0).toNat) = true ↔ (decide (48 ≤ ((l.getD k 0).toNat : Int) ∧ ((l.getD k 0).toNat : Int) ≤ 57) = true) := fun k => by
        rw [on_iff, kd_5, decide_eq_true_iff]
        omega
      have hdig : ∀ x, x ∈ (l.drop i).take (en (l.drop i)) → kd x.toNat = 5 := by rw [hd]; exact en_digits k5
      have hget : ∀ j, j < en (l.drop i) → ((l.drop i).take (en (l.drop i))).getD j 0 = l.getD (i + j) 0 := fun j hj => by
        rw [List.getD_eq_getElem?_getD, List.getElem?_take_of_lt hj, List.getElem?_drop, ← List.getD_eq_getElem?_getD]
      refine (one_num ad l.length cap i (i + en (l.drop i)) (fun k => ((l.getD k 0).toNat : Int)) (fun k => ((l.getD k 0).toNat : Int) - 48) (fun k => decide (48 ≤ ((l.getD k 0).toNat : Int) ∧ ((l.getD k 0).toNat : Int) ≤ 57)) (fun k => tw (fun x => on 5 (kd x.toNat)) (l.drop k)) (fun j => num (((l.drop i).take (en (l.drop i))).take j)) _ w hl hlt (by omega) (by omega) hcap hb HC (hide hS) (hide fun k hk w => digit_any _ w)
        (hide (by rw [decide_eq_true_iff]; exact (kd_5 _).1 k5)) (hide fun k hk hp => ?_) (hide fun k hk hp => ?_) (hide fun k hp => ?_) (hide (by rw [hE])) (hide (by simp [num])) (hide fun j hj hje => ?_) HV).mono ?_
      · rw [decide_eq_true_iff] at hp
        show ((l.getD k 0).toNat : Int) = ((l.getD k 0).toNat : Int) - 48 + 48 ∧ 0 ≤ ((l.getD k 0).toNat : Int) - 48 ∧ ((l.getD k 0).toNat : Int) - 48 ≤ 9
        omega
      · show tw (fun x => on 5 (kd x.toNat)) (l.drop k) = 1 + tw (fun x => on 5 (kd x.toNat)) (l.drop (k + 1))
        rw [tw_step _ _ _ hk, if_pos ((hP k).2 hp)]
      · by_cases hk : k < l.length
        · show tw (fun x => on 5 (kd x.toNat)) (l.drop k) = 0
          rw [tw_step _ _ _ hk, if_neg (fun h => by have h1 := (hP k).1 h; have h2 := hp hk; rw [h1] at h2; cases h2)]
        · exact tw_end _ _ _ (by omega)
      · have hj2 : j < en (l.drop i) := by omega
        have hb := num_bd _ hdig j (by omega)
        have hp : (10 : Int) ^ j ≤ 10 ^ 17 := by exact_mod_cast Nat.pow_le_pow_right (n := 10) (by decide) (show j ≤ 17 by omega)
        refine ⟨?_, hb.1, by omega⟩
        show num (((l.drop i).take (en (l.drop i))).take (j + 1)) = 10 * num (((l.drop i).take (en (l.drop i))).take j) + (((l.getD (i + j) 0).toNat : Int) - 48)
        rw [take_one _ j (by omega), num_snoc, hget j hj2]
        omega
      · rintro e w' ⟨⟨hA, hB⟩, hk⟩
        refine ⟨?_, hk⟩
        by_cases hm : 18 < en (l.drop i)
        · rw [if_pos hm]; exact hB (by omega)
        · rw [if_neg hm]
          have := hA (by omega)
          have ht : ((l.drop i).take (en (l.drop i))).take (i + en (l.drop i) - i) = (l.drop i).take (en (l.drop i)) := by rw [Nat.add_sub_cancel_left, List.take_take, Nat.min_self]
          simp only [ht] at this
          exact this
    · rw [if_neg k5]
      have n5 : decide (48 ≤ ((l.getD i 0).toNat : Int) ∧ ((l.getD i 0).toNat : Int) ≤ 57) = false := by rw [decide_eq_false_iff_not, ← kd_5]; exact k5
      rw [n5] at hD
      by_cases k7 : kd (l.getD i 0).toNat = 7
      · rw [if_pos k7]
        have y7 := (kd_7 _).1 k7
        rw [decide_eq_true y7] at hG
        have h71 := h7e k7
        rw [h71] at HV ⊢
        exact one_sign ad l.length cap i _ _ w hl hlt hcap hb (hide fun W hk => (uq HC) i hlt W hk) (hide hS) (hide hD) (hide hG) HV
      · rw [if_neg k7]
        have n7 : ¬ _ := fun h => k7 ((kd_7 _).2 h)
        rw [decide_eq_false n7] at hG
        exact one_byte ad l.length cap i _ _ w hl hlt hcap hb (hide fun W hk => (uq HC) i hlt W hk) (hide hS) (hide hD) (hide hG) (hide fun W hk => CV (i + 1) (by omega) (by omega) W hk)
end Go.Proofs.Ytjincjlalopbfaa
