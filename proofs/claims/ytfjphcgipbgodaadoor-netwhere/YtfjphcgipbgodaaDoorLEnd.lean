/- Package lex: where what begins at a place ends. -/
import Derived.Test.YtfjphcgipbgodaaDoorLVal
import Derived.LoopTactic
import Derived.Deep.DeepCutAuto
namespace Go.Proofs.YtfjphcgipbgodaaDoor
open Go.RowKit
attribute [local go_sem ↓] Go.wp_at_zero Go.wp_at_succ
set_option linter.unusedVariables false
set_option linter.unusedSimpArgs false
set_option maxRecDepth 10000
set_option maxHeartbeats 2000000 in
theorem end_core (ad : Addr) (n cap i E : Nat) (C Q : Nat → Int) (B : Nat → Bool) (G : Nat → Nat) (w : World) (hn : n ≤ 70000) (hi : i < n) (hb : ad.block < w.heap.size)
    (HC : Hid (∀ k, k < n → w.cell? (ad.add k) = some (.int .u8 (C k))))
    (T1 : Hid (∀ k, k < n → ∀ w, Calls Tryd.prog 47 #[.int .u8 (C k)] w fun e w' => e = .returned (.int .i64 (Q k)) ∧ w' = w))
    (T2 : Hid (∀ k, k < n → ∀ w g, w.cell? ⟨g, 0, none⟩ = some (.int .i64 (Q i)) → Calls Tryd.prog 91 #[.int .i64 (Q k), .pointer (some ⟨g, 0, none⟩)] w fun e w' => e = .returned (.bool (B k)) ∧ w' = w))
    (HG : Hid (∀ k, k < n → B k = true → G k = 1 + G (k + 1)))
    (HG2 : Hid (∀ k, (k < n → B k = false) → G k = 0))
    (HE : Hid (i + 1 + G (i + 1) = E)) :
    Calls Tryd.prog 48 #[.slice (some ad) n cap, .int .i64 (i : Int)] w fun e w' => e = .returned (.int .i64 (E : Int)) ∧ Keep w w' := by
  have ci := (unhide HC) i hi
  have K := hide goes_on
  have hii : (i : Int) < (n : Int) := by omega
  have hbs : ∀ k, (ad.add k).block = ad.block := add_block ad
  have HB := hide hbs
  have HW : Hid (∀ k, k < n → ∀ o, (w.alloc o).cell? (ad.add k) = some (.int .u8 (C k))) := by
    intro k hk o
    rw [Below.cell ((Below.refl w.heap.size w).alloc (Nat.le_refl _) o) (by rw [add_block]; exact hb)]
    exact (unhide HC) k hk
  clear hbs
  go_enter Tryd.func48, Tryd.ntmps48
  go_wp2_with fail
  (refine ((unhide T1) i hi _).mono ?_; rintro e w ⟨rfl, rfl⟩)
  go_wp2_with fail
  (refine ((unhide K) _ _).mono ?_; rintro e w1 ⟨rfl, rfl⟩)
  clear K ci
  go_wp2_with fail
  go_loop [1] (fun vi => ∃ k : Nat, k ≤ n ∧ vi = .int .i64 (k : Int) ∧ Hid (k + G k = E)) (fun vi => n - (intOf vi).toNat)
  case atStart => exact ⟨i + 1, hi, by go_num, HE⟩
  case round =>
    obtain ⟨k, hk, rfl, hE⟩ := hrel
    by_cases hlt : k < n
    · have li : (k : Int) < (n : Int) := by omega
      have ck := (unhide HW) k hlt (.cells #[.int .i64 (Q i)] 129)
      have T1k := hide ((unhide T1) k hlt)
      have T2k := hide ((unhide T2) k hlt)
      go_wp2_with fail
      (refine ((unhide T1k) _).mono ?_; rintro e w2 ⟨rfl, rfl⟩)
      go_wp2_with fail
      (refine ((unhide T2k) _ _ (by simp [go_sem])).mono ?_; rintro e w2 ⟨rfl, rfl⟩)
      obtain ⟨b, hb2⟩ : ∃ b, B k = b := ⟨_, rfl⟩
      rw [hb2]
      have HBk := hide hb2
      clear hb2
      cases b with
      | true =>
        go_wp2_with fail
        go_round
        case rel => exact ⟨k + 1, hlt, by go_num, by have := unhide hE; rw [(unhide HG) k hlt (unhide HBk)] at this; show k + 1 + G (k + 1) = E; omega⟩
        case measure => simp [intOf]; omega
      | false =>
        have hEk : (k : Int) = E := by have := unhide hE; rw [(unhide HG2) k (fun _ => unhide HBk)] at this; omega
        rw [hEk]
        clear hEk
        go_wp2_with fail
        go_ret
        exact ⟨rfl, (Keep.refl w).alloc _⟩
    · have hEk : k = E := by have := unhide hE; rw [(unhide HG2) k (fun h => absurd h hlt)] at this; omega
      subst hEk
      go_wp2_with fail
      go_ret
      exact ⟨rfl, (Keep.refl w).alloc _⟩
theorem end_any (v : Value) (l : List UInt8) (i : Nat) (w : World) (hl : l.length ≤ 70000) (hi : i < l.length) (h : By w v l) :
    Calls Tryd.prog 48 #[v, .int .i64 (i : Int)] w fun e w' => e = .returned (.int .i64 ((i + en (l.drop i) : Nat) : Int)) ∧ Keep w w' := by
  obtain ⟨a, cap, rfl, _, hc⟩ := h
  obtain ⟨ad, rfl, hb, _⟩ := hc i hi
  refine end_core ad l.length cap i _ (fun k => ((l.getD k 0).toNat : Int)) (fun k => kd ((l.getD k 0).toNat : Int)) (fun k => goes (l.getD i 0) (l.getD k 0)) (fun k => tw (goes (l.getD i 0)) (l.drop k)) w hl hi hb (hide fun k hk => ?_)
    (hide fun k hk w => kind_any _ w) (hide fun k hk w g hg => goes_core _ _ g w hg) (hide fun k hk hb => ?_) (hide fun k hk => ?_) (hide ?_)
  · obtain ⟨ad', h0, _, h2⟩ := hc k hk
    injection h0 with h0
    subst h0
    exact h2
  · rw [tw_step _ _ _ hk, if_pos hb]
  · by_cases hlt : k < l.length
    · rw [tw_step _ _ _ hlt, if_neg (by rw [hk hlt]; decide)]
    · exact tw_end _ _ _ (by omega)
  · rw [en_at _ _ hi]; omega
end Go.Proofs.YtfjphcgipbgodaaDoor
