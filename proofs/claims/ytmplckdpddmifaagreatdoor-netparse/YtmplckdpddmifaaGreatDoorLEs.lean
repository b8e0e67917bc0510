/- Package lex: where what begins at a place ends. -/
import Derived.Test.YtmplckdpddmifaaGreatDoorLKv
import Derived.LoopTactic
import Derived.Deep.DeepCutAuto
namespace Go.Proofs.YtmplckdpddmifaaGreatDoor
open Go.RowKit
attribute [local go_sem ↓] Go.wp_at_zero Go.wp_at_succ
set_option linter.unusedVariables false
set_option linter.unusedSimpArgs false
set_option maxRecDepth 10000
set_option maxHeartbeats 2000000 in
theorem end_core (ad : Addr) (n cap i E : Nat) (C Q : Nat → Int) (B : Nat → Bool) (G : Nat → Nat) (w : World) (hn : n ≤ 70000) (hi : i < n) (hb : ad.block < w.heap.size)
    (HC : Hid (∀ k, k < n → w.cell? (ad.add k) = some (.int .u8 (C k))))
    (T1 : Hid (∀ k, k < n → ∀ w, Calls Tryz.prog 59 #[.int .u8 (C k)] w fun e w' => e = .returned (.int .i64 (Q k)) ∧ w' = w))
    (T2 : Hid (∀ k, k < n → ∀ w g, w.cell? ⟨g, 0, none⟩ = some (.int .i64 (Q i)) → Calls Tryz.prog 105 #[.int .i64 (Q k), .pointer (some ⟨g, 0, none⟩)] w fun e w' => e = .returned (.bool (B k)) ∧ w' = w))
    (HG : Hid (∀ k, k < n → B k = true → G k = 1 + G (k + 1)))
    (HG2 : Hid (∀ k, (k < n → B k = false) → G k = 0))
    (HE : Hid (i + 1 + G (i + 1) = E)) :
    Calls Tryz.prog 60 #[.slice (some ad) n cap, .int .i64 (i : Int)] w fun e w' => e = .returned (.int .i64 (E : Int)) ∧ Keep w w' := by
  have ci := (uq HC) i hi
  have K := hide goes_on
  have hii : (i : Int) < (n : Int) := by omega
  have hbs : ∀ k, (ad.add k).block = ad.block := add_block ad
  have HB := hide hbs
  have HW : Hid (∀ k, k < n → ∀ o, (w.alloc o).cell? (ad.add k) = some (.int .u8 (C k))) := by
    intro k hk o
    rw [Below.cell ((Below.refl w.heap.size w).alloc (Nat.le_refl _) o) (by rw [add_block]; exact hb)]
    exact (uq HC) k hk
  clear hbs
  go_enter Tryz.func60, Tryz.ntmps60
  go_wp2_with fail
  (refine ((uq T1) i hi _).mono ?_; rintro e w ⟨rfl, rfl⟩)
  go_wp2_with fail
  (refine ((uq K) _ _).mono ?_; rintro e w1 ⟨rfl, rfl⟩)
  clear K ci
  go_wp2_with fail
  go_loop [1] (fun vi => ∃ k : Nat, k ≤ n ∧ vi = .int .i64 (k : Int) ∧ Hid (k + G k = E)) (fun vi => n - (intOf vi).toNat)
  case atStart => exact ⟨i + 1, hi, by go_num, HE⟩
  case round =>
    obtain ⟨k, hk, rfl, hE⟩ := hrel
    by_cases hlt : k < n
    · have li : (k : Int) < (n : Int) := by omega
      have ck := (uq HW) k hlt (.cells #[.int .i64 (Q i)] 144)
      have T1k := hide ((uq T1) k hlt)
      have T2k := hide ((uq T2) k hlt)
      go_wp2_with fail
      (refine ((uq T1k) _).mono ?_; rintro e w2 ⟨rfl, rfl⟩)
      go_wp2_with fail
      (refine ((uq T2k) _ _ (by simp [go_sem])).mono ?_; rintro e w2 ⟨rfl, rfl⟩)
      obtain ⟨b, hb2⟩ : ∃ b, B k = b := ⟨_, rfl⟩
      rw [hb2]
      have HBk := hide hb2
      clear hb2
      cases b with
      | true =>
        go_wp2_with fail
        go_round
        case rel => exact ⟨k + 1, hlt, by go_num, by have := uq hE; rw [(uq HG) k hlt (uq HBk)] at this; show k + 1 + G (k + 1) = E; omega⟩
        case measure => simp [intOf]; omega
      | false =>
        have hEk : (k : Int) = E := by have := uq hE; rw [(uq HG2) k (fun _ => uq HBk)] at this; omega
        rw [hEk]
        clear hEk
        go_wp2_with fail
        go_ret
        exact ⟨rfl, (Keep.refl w).alloc _⟩
    · have hEk : k = E := by have := uq hE; rw [(uq HG2) k (fun h => absurd h hlt)] at this; omega
      subst hEk
      go_wp2_with fail
      go_ret
      exact ⟨rfl, (Keep.refl w).alloc _⟩
theorem end_any (v : Value) (l : List UInt8) (i : Nat) (w : World) (hl : l.length ≤ 70000) (hi : i < l.length) (h : By w v l) :
    Calls Tryz.prog 60 #[v, .int .i64 (i : Int)] w fun e w' => e = .returned (.int .i64 ((i + en (l.drop i) : Nat) : Int)) ∧ Keep w w' := by
  obtain ⟨a, cap, rfl, _, hc⟩ := h
  obtain ⟨ad, rfl, hb, _⟩ := hc i hi
  refine end_core ad l.length cap i _ (fun k => ((l.getD k 0).toNat : Int)) (fun k => kd ((l.getD k 0).toNat : Int)) (fun k => goes (l.getD i 0) (l.getD k 0)) (fun k => tw (goes (l.getD i 0)) (l.drop k)) w hl hi hb (hide fun k hk => ?_)
    (hide fun k hk w => kind_any _ w) (hide fun k hk w g hg => goes_core _ _ g w hg) (hide fun k hk hb => ?_) (hide fun k hk => ?_) (hide ?_)
  · obtain ⟨ad', h0, _, h2⟩ := hc k hk
    injection h0 with h0
    subst h0
    exact h2
  · rw [tw_step _ _ _ hk, if_pos hb]
  · by_cases hlt : k < l.length
    · rw [tw_step _ _ _ hlt, if_neg (by rw [hk hlt]; decide)]
    · exact tw_end _ _ _ (by omega)
  · rw [en_at _ _ hi]; omega
end Go.Proofs.YtmplckdpddmifaaGreatDoor
namespace Go.Proofs.YtmplckdpddmifaaGreatDoor
open Go.RowKit
attribute [local go_sem ↓] Go.wp_at_zero Go.wp_at_succ
set_option linter.unusedVariables false
set_option linter.unusedSimpArgs false
set_option maxRecDepth 10000
/-- the cells of a slice are the numbers C -/
def Cy (w : World) (a : Option Addr) (n : Nat) (C : Nat → Int) : Prop := ∀ k, k < n → ∃ ad, a = some ad ∧ ad.block < w.heap.size ∧ w.cell? (ad.add k) = some (.int .u8 (C k))
theorem Cy.keep {w w' : World} {a : Option Addr} {n : Nat} {C : Nat → Int} (h : Cy w a n C) (hk : Keep w w') : Cy w' a n C := by
  intro k hlt
  obtain ⟨ad, h0, h1, h2⟩ := h k hlt
  exact ⟨ad, h0, Nat.lt_of_lt_of_le h1 (Below.size hk), by rw [Below.cell hk (by rw [add_block]; exact h1)]; exact h2⟩
set_option maxHeartbeats 2000000 in
theorem pass_core (a : Option Addr) (n cap i E : Nat) (C Q : Nat → Int) (N S : Nat → Nat) (w : World) (hn : n ≤ 70000) (hi : i ≤ n)
    (HC : Hid (Cy w a n C))
    (T1 : Hid (∀ k, k < n → ∀ w, Calls Tryz.prog 59 #[.int .u8 (C k)] w fun e w' => e = .returned (.int .i64 (Q k)) ∧ w' = w))
    (T2 : Hid (∀ k, k < n → ∀ w', Keep w w' → Calls Tryz.prog 60 #[.slice a n cap, .int .i64 (k : Int)] w' fun e w'' => e = .returned (.int .i64 (N k : Int)) ∧ Keep w' w''))
    (H1 : Hid (∀ k, k < n → (Q k = 1 ∨ Q k = 2 ∨ Q k = 3) → S (N k) = S k ∧ k < N k ∧ N k ≤ n))
    (H2 : Hid (∀ k, k < n → ¬ (Q k = 1 ∨ Q k = 2 ∨ Q k = 3) → S k = k))
    (H3 : Hid (∀ k, n ≤ k → S k = k))
    (HE : Hid (S i = E)) :
    Calls Tryz.prog 45 #[.slice a n cap, .int .i64 (i : Int)] w fun e w' => e = .returned (.int .i64 (E : Int)) ∧ Keep w w' := by
  go_enter Tryz.func45, Tryz.ntmps45
  go_wp2_with fail
  go_loopw [1] (fun vi wr => ∃ k : Nat, k ≤ n ∧ vi = .int .i64 (k : Int) ∧ Hid (S k = E) ∧ Hid (Keep w wr)) (fun vi _ => n - (intOf vi).toNat)
  case atStart => exact ⟨i, hi, rfl, HE, hide (Keep.refl w)⟩
  case round =>
    obtain ⟨k, hk, rfl, hE, HK⟩ := hrel
    by_cases hlt : k < n
    · have li : (k : Int) < (n : Int) := by omega
      obtain ⟨ad, rfl, hb, ck⟩ := (uq HC).keep (uq HK) k hlt
      have T1k := hide ((uq T1) k hlt)
      have T2k := hide ((uq T2) k hlt)
      go_wp2_with fail
      (refine ((uq T1k) _).mono ?_; rintro e w2 ⟨rfl, rfl⟩)
      go_wp2_with fail
      · have hq : Hid (Q k = 1 ∨ Q k = 2 ∨ Q k = 3) := by simp only [beq_iff_eq] at *; unfold Hid; omega
        (refine ((uq T2k) _ (uq HK)).mono ?_; rintro e w3 ⟨rfl, hkk⟩)
        have HK2 := hide ((uq HK).trans hkk)
        clear hkk
        obtain ⟨h1, h2, h3⟩ := (uq H1) k hlt (uq hq)
        have H11 := hide h1
        clear h1
        go_wp2_with fail
        go_roundw
        case rel => exact ⟨N k, h3, rfl, by have := uq hE; rw [← uq H11] at this; exact this, HK2⟩
        case measure => simp [intOf]; omega
      · have hq : Hid (Q k = 1 ∨ Q k = 2 ∨ Q k = 3) := by simp only [beq_iff_eq] at *; unfold Hid; omega
        (refine ((uq T2k) _ (uq HK)).mono ?_; rintro e w3 ⟨rfl, hkk⟩)
        have HK2 := hide ((uq HK).trans hkk)
        clear hkk
        obtain ⟨h1, h2, h3⟩ := (uq H1) k hlt (uq hq)
        have H11 := hide h1
        clear h1
        go_wp2_with fail
        go_roundw
        case rel => exact ⟨N k, h3, rfl, by have := uq hE; rw [← uq H11] at this; exact this, HK2⟩
        case measure => simp [intOf]; omega
      · have hq : Hid (Q k = 1 ∨ Q k = 2 ∨ Q k = 3) := by simp only [beq_iff_eq] at *; unfold Hid; omega
        (refine ((uq T2k) _ (uq HK)).mono ?_; rintro e w3 ⟨rfl, hkk⟩)
        have HK2 := hide ((uq HK).trans hkk)
        clear hkk
        obtain ⟨h1, h2, h3⟩ := (uq H1) k hlt (uq hq)
        have H11 := hide h1
        clear h1
        go_wp2_with fail
        go_roundw
        case rel => exact ⟨N k, h3, rfl, by have := uq hE; rw [← uq H11] at this; exact this, HK2⟩
        case measure => simp [intOf]; omega
      · have hq : ¬ (Q k = 1 ∨ Q k = 2 ∨ Q k = 3) := by simp only [beq_iff_eq, beq_eq_false_iff_ne] at *; omega
        have hEk : k = E := by have := uq hE; rw [(uq H2) k hlt hq] at this; omega
        subst hEk
        go_ret
        exact ⟨rfl, uq HK⟩
    · have hEk : k = E := by have := uq hE; rw [(uq H3) k (by omega)] at this; omega
      subst hEk
      go_wp2_with fail
      go_ret
      exact ⟨rfl, uq HK⟩
theorem By.cy {w : World} {a : Option Addr} {n cap : Nat} {l : List UInt8} (h : By w (.slice a n cap) l) : Cy w a l.length (fun k => ((l.getD k 0).toNat : Int)) := by
  obtain ⟨a', cap', e, _, h⟩ := h
  injection e with e1 e2 e3
  subst e1
  exact h
theorem pass_any (v : Value) (l : List UInt8) (i : Nat) (w : World) (hl : l.length ≤ 70000) (hi : i ≤ l.length) (h : By w v l) :
    Calls Tryz.prog 45 #[v, .int .i64 (i : Int)] w fun e w' => e = .returned (.int .i64 (sk false l i : Nat)) ∧ Keep w w' := by
  obtain ⟨a, cap, rfl⟩ := h.shape
  refine pass_core a l.length cap i _ (fun k => ((l.getD k 0).toNat : Int)) (fun k => kd ((l.getD k 0).toNat : Int)) (fun k => k + en (l.drop k)) (sk false l) w hl hi (hide h.cy)
    (hide fun k hk w => kind_any _ w) (hide fun k hk w' hk' => end_any _ l k w' hl hk (h.keep hk')) (hide fun k hk hq => ⟨sk_en l k hk hq, ?_, ?_⟩) (hide fun k hk hq => sk_stop l k hk hq) (hide fun k hk => sk_end _ _ _ hk) (hide rfl)
  · rw [en_at _ _ hk]; omega
  · have := en_le (l.drop k)
    rw [List.length_drop] at this
    omega
set_option maxHeartbeats 4000000 in
theorem skip_core (a : Option Addr) (n cap i E : Nat) (C : Nat → Int) (S R : Nat → Nat) (w : World) (hn : n ≤ 70000) (hi : i ≤ n)
    (HC : Hid (Cy w a n C))
    (H0 : Hid (∀ k, k < n → C k = 35 → R k = S k))
    (H1 : Hid (∀ k, k < n → C k ≠ 10 → R (k + 1) = R k))
    (H2 : Hid (∀ k, k < n → C k = 10 → R k = S k))
    (H3 : Hid (∀ k, n ≤ k → S k = k ∧ R k = k))
    (H4 : Hid (∀ k, k < n → (C k = 32 ∨ C k = 9 ∨ C k = 10 ∨ C k = 13) → S (k + 1) = S k))
    (H5 : Hid (∀ k, k < n → ¬ (C k = 35 ∨ C k = 32 ∨ C k = 9 ∨ C k = 10 ∨ C k = 13) → S k = k))
    (HE : Hid (S i = E)) :
    Calls Tryz.prog 28 #[.slice a n cap, .int .i64 (i : Int)] w fun e w' => e = .returned (.int .i64 (E : Int)) ∧ w' = w := by
  go_enter Tryz.func28, Tryz.ntmps28
  go_wp2_with fail
  go_loop [1] (fun vi => ∃ k : Nat, k ≤ n ∧ vi = .int .i64 (k : Int) ∧ Hid (S k = E)) (fun vi => n - (intOf vi).toNat)
  case atStart => exact ⟨i, hi, rfl, HE⟩
  case round =>
    obtain ⟨k, hk, rfl, hE⟩ := hrel
    by_cases hlt : k < n
    · have li : (k : Int) < (n : Int) := by omega
      obtain ⟨ad, rfl, hb, ck⟩ := (uq HC) k hlt
      by_cases hc : C k = 35
      · have h35 : (C k == 35) = true := by simp [hc]
        have HCk := hide hc
        clear hc
        go_wp2_with fail
        go_loop [1] (fun vi => ∃ j : Nat, k ≤ j ∧ j ≤ n ∧ vi = .int .i64 (j : Int) ∧ Hid (R j = E)) (fun vi => n - (intOf vi).toNat)
        case atStart => exact ⟨k, Nat.le_refl _, hk, rfl, ((uq H0) k hlt (uq HCk)).trans (uq hE)⟩
        case round =>
          obtain ⟨j, hkj, hj, rfl, hR⟩ := hrel
          by_cases hjn : j < n
          · have lj : (j : Int) < (n : Int) := by omega
            obtain ⟨ad', e, _, cj⟩ := (uq HC) j hjn
            injection e with e
            subst e
            by_cases h10 : C j = 10
            · have hb10 : (C j != 10) = false := by simp [h10]
              have hne : k ≠ j := by
                intro e
                have h0 := uq HCk
                rw [e, h10] at h0
                omega
              have HS : Hid (S j = E) := ((uq H2) j hjn h10).symm.trans (uq hR)
              clear h10
              go_wp2_with fail
              exact ⟨⟨j, hj, rfl, HS⟩, by simp [intOf]; omega⟩
            · have hb10 : (C j != 10) = true := by simp [h10]
              have HR' : Hid (R (j + 1) = E) := ((uq H1) j hjn h10).trans (uq hR)
              clear h10
              go_wp2_with fail
              exact ⟨⟨j + 1, by omega, hjn, by go_num, HR'⟩, by simp [intOf]; omega⟩
          · have HS : Hid (S j = E) := by
              have h3 := (uq H3) j (by omega)
              exact (h3.1.trans h3.2.symm).trans (uq hR)
            go_wp2_with fail
            exact ⟨⟨j, hj, rfl, HS⟩, by simp [intOf]; omega⟩
      · have h35 : (C k == 35) = false := by simp [hc]
        have HCk := hide hc
        clear hc
        go_wp2_with fail
        iterate 4
          · refine ⟨⟨k + 1, hlt, by go_num, ?_⟩, by simp [intOf]; omega⟩
            refine ((uq H4) k hlt ?_).trans (uq hE)
            simp only [beq_iff_eq] at *
            omega
        · have hEk : k = E := by
            have := uq hE
            rw [(uq H5) k hlt (by have := uq HCk; simp only [beq_eq_false_iff_ne] at *; omega)] at this
            omega
          subst hEk
          go_ret
          exact ⟨rfl, rfl⟩
    · have hEk : k = E := by have := uq hE; rw [((uq H3) k (by omega)).1] at this; omega
      subst hEk
      go_wp2_with fail
      go_ret
      exact ⟨rfl, rfl⟩
theorem skip_any (v : Value) (l : List UInt8) (i : Nat) (w : World) (hl : l.length ≤ 70000) (hi : i ≤ l.length) (h : By w v l) :
    Calls Tryz.prog 28 #[v, .int .i64 (i : Int)] w fun e w' => e = .returned (.int .i64 (sk false l i : Nat)) ∧ w' = w := by
  obtain ⟨a, cap, rfl⟩ := h.shape
  exact skip_core a l.length cap i _ (fun k => ((l.getD k 0).toNat : Int)) (sk false l) (sk true l) w hl hi (hide h.cy)
    (hide fun k hk hq => sk_hash l k hk ((kd_3 _).2 hq)) (hide fun k hk hq => sk_tgo l k hk (fun h => hq ((kd_2 _).1 h))) (hide fun k hk hq => sk_t10 l k hk ((kd_2 _).2 hq)) (hide fun k hk => ⟨sk_end _ _ _ hk, sk_end _ _ _ hk⟩)
    (hide fun k hk hq => sk_blank l k hk (by rw [kd_1, kd_2]; omega)) (hide fun k hk hq => sk_stop l k hk (by rw [kd_1, kd_2, kd_3]; omega)) (hide rfl)
end Go.Proofs.YtmplckdpddmifaaGreatDoor
