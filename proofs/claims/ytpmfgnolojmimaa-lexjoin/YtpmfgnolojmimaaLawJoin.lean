/- Proved: for any two texts of at most 2000 bytes that both have tokens, the two with a line between have the tokens of both (longer texts are let by). -/
import Derived.Test.YtpmfgnolojmimaaRows
import Derived.Test.YtpmfgnolojmimaaLAwk
import Derived.Test.YtpmfgnolojmimaaLSame
import Derived.Test.YtpmfgnolojmimaaLJoinF
import Derived.Test.YtpmfgnolojmimaaLApp
import Derived.Test.YtpmfgnolojmimaaLOpn
import Derived.Deep.DeepMust
namespace Go.Proofs.Ytpmfgnolojmimaa
theorem ts_take {w : World} {a : Option Addr} {n cap : Nat} {L : List Tok} (h : Ts w (.slice a n cap) L) {q : Nat} (hq : q ≤ L.length) : Ts w (.slice a q cap) (L.take q) := by
  obtain ⟨a', cap', e, hc, h⟩ := h
  injection e with e1 e2 e3
  subst e1 e3
  have hl : (L.take q).length = q := by rw [List.length_take]; omega
  refine ⟨_, _, by rw [hl], by omega, fun k hk => ?_⟩
  rw [hl] at hk
  obtain ⟨ad, e, hb, hc⟩ := h k (by omega)
  refine ⟨ad, e, hb, ?_⟩
  rw [show (L.take q).getD k t0 = L.getD k t0 by rw [List.getD_eq_getElem?_getD, List.getD_eq_getElem?_getD, List.getElem?_take_of_lt hk]]
  exact hc
theorem ts_drop {w : World} {ad : Addr} {n cap : Nat} {L : List Tok} (h : Ts w (.slice (some ad) n cap) L) {q m : Nat} (hq : q + m = L.length) : Ts w (.slice (some (ad.add (q * 4))) m (cap - q)) (L.drop q) := by
  obtain ⟨a', cap', e, hc, h⟩ := h
  injection e with e1 e2 e3
  subst e1 e3
  have hl : (L.drop q).length = m := by rw [List.length_drop]; omega
  refine ⟨_, _, by rw [hl], by omega, fun k hk => ?_⟩
  rw [hl] at hk
  obtain ⟨ad', e, hb, hc⟩ := h (q + k) (by omega)
  injection e with e
  subst e
  refine ⟨_, rfl, by rw [add_block]; exact hb, ?_⟩
  rw [Addr.add_add, show q * 4 + k * 4 = (q + k) * 4 by omega, show (L.drop q).getD k t0 = L.getD (q + k) t0 by rw [List.getD_eq_getElem?_getD, List.getD_eq_getElem?_getD, List.getElem?_drop]]
  exact hc
theorem one_new (w : World) (a : Value) (t : TypeId) : ∀ j u, [a][j]? = some u → (w.alloc (.cells #[a] t)).cell? ((⟨w.heap.size, 0, none⟩ : Addr).add j) = some u := by
  intro j u hj
  rw [add_plain, Nat.zero_add]
  match j, hj with
  | 0, hj =>
    simp at hj; subst hj
    exact World.cell?_alloc_mark w #[a] t (0, 0) 0
  | j + 1, hj => simp at hj
end Go.Proofs.Ytpmfgnolojmimaa
namespace Go.Proofs.Ytpmfgnolojmimaa.join
open Go.ChangeShapes Go.WideShapes Go.ChangeAt Go.RowKit Go.Joins
attribute [local go_sem ↓] Go.wp_at_zero Go.wp_at_succ
set_option linter.unusedVariables false
set_option linter.unusedSimpArgs false
set_option maxRecDepth 10000
set_option maxHeartbeats 2000000 in
theorem walk0 (a b : Option Addr) (n m c d : Nat) (w : World) (hn : 2000 < n ∨ 2000 < m) :
    Calls Try.prog 8 #[.slice a n c, .slice b m d] w fun e w' => e = .returned (.bool true) ∧ Keep w w' := by
  by_cases h : (2000 : Int) < (n : Int)
  · clear hn
    go_enter Try.func8, Try.ntmps8
    go_wp2_with fail
    go_ret
    exact ⟨rfl, Keep.refl _⟩
  · have h2 : (2000 : Int) < (m : Int) := by omega
    clear hn
    go_enter Try.func8, Try.ntmps8
    go_wp2_with fail
    go_ret
    exact ⟨rfl, Keep.refl _⟩
set_option maxHeartbeats 2000000 in
theorem walkE (a b : Option Addr) (n m c d : Nat) (E F : Int) (w : World) (hn : n ≤ 2000) (hm : m ≤ 2000) (hEF : (E != 0) = true ∨ ((E != 0) = false ∧ (F != 0) = true))
    (T1 : Hid (Calls Try.prog 9 #[.slice a n c] w fun e w' => ∃ v N, e = .returned (.tuple #[v, .int .i64 E, .int .i64 N]) ∧ Keep w w'))
    (T2 : Hid (∀ w', Keep w w' → Calls Try.prog 9 #[.slice b m d] w' fun e w'' => ∃ v N, e = .returned (.tuple #[v, .int .i64 F, .int .i64 N]) ∧ Keep w' w''))
    (T8 : Hid (∀ w', Calls Try.prog 12 #[] w' fun e w'' => e = .returned (.bool true) ∧ Keep w' w'')) :
    Calls Try.prog 8 #[.slice a n c, .slice b m d] w fun e w' => e = .returned (.bool true) ∧ Keep w w' := by
  have h1 : ¬ (2000 : Int) < (n : Int) := by omega
  have h2 : ¬ (2000 : Int) < (m : Int) := by omega
  rcases hEF with hE | ⟨hE, hF⟩
  all_goals
    go_enter Try.func8, Try.ntmps8
    go_wp2_with fail
    (refine (unhide T1).mono ?_; rintro e w1 ⟨v1, N1, rfl, hk⟩; have k1 := hide hk; clear hk)
    go_wp2_with fail
    (refine ((unhide T2) _ (unhide k1)).mono ?_; rintro e w2 ⟨v2, N2, rfl, hk⟩; have k2 := hide ((unhide k1).trans hk); clear hk)
    go_wp2_with fail
    (refine ((unhide T8) _).mono ?_; rintro e w5 ⟨rfl, hk⟩; have k5 := hide ((unhide k2).trans hk); clear hk)
    go_wp2_with fail
    go_ret
    exact ⟨rfl, unhide k5⟩
set_option maxHeartbeats 4000000 in
theorem walk1 (a b : Option Addr) (n m c d q n2 : Nat) (A B : List UInt8) (L M C : List Tok) (w : World) (hn : n ≤ 2000) (hm : m ≤ 2000) (hAl : A.length = n) (hBl : B.length = m) (hq : q ≤ 2001) (hn2 : n2 ≤ 2001) (hn21 : 1 ≤ n2)
    (hA : By w (.slice a n c) A) (hB : By w (.slice b m d) B)
    (T1 : Hid (Calls Try.prog 9 #[.slice a n c] w fun e w' => ∃ ad cp, e = .returned (.tuple #[.slice (some ad) (q + 1) cp, .int .i64 0, .int .i64 0]) ∧ q + 1 ≤ cp ∧ Ts w' (.slice (some ad) (q + 1) cp) L ∧ Keep w w'))
    (T2 : Hid (∀ w', Keep w w' → Calls Try.prog 9 #[.slice b m d] w' fun e w'' => ∃ ad cp, e = .returned (.tuple #[.slice ad n2 cp, .int .i64 0, .int .i64 0]) ∧ Ts w'' (.slice ad n2 cp) M ∧ Keep w' w''))
    (T3 : Hid (∀ w' v, By w' v (A ++ 10 :: B) → Calls Try.prog 9 #[v] w' fun e w'' => ∃ ad cp, e = .returned (.tuple #[.slice (some ad) (q + n2) cp, .int .i64 0, .int .i64 0]) ∧ q + n2 ≤ cp ∧ Ts w'' (.slice (some ad) (q + n2) cp) C ∧ Keep w' w''))
    (T4 : Hid (∀ w' ad cp ad' cp', Ts w' (.slice (some ad) (q + n2) cp) C → Ts w' (.slice (some ad') (q + 1) cp') L → Calls Try.prog 11 #[.slice (some ad) q cp, .slice (some ad') q cp', .bool true] w' fun e w'' => e = .returned (.bool true) ∧ Keep w' w''))
    (T5 : Hid (∀ w' ad cp ad' cp', Ts w' (.slice (some ad) (q + n2) cp) C → Ts w' (.slice ad' n2 cp') M → Calls Try.prog 11 #[.slice (some (ad.add (q * 4))) n2 (cp - q), .slice ad' n2 cp', .bool false] w' fun e w'' => e = .returned (.bool true) ∧ Keep w' w''))
    (T8 : Hid (∀ w', Calls Try.prog 12 #[] w' fun e w'' => e = .returned (.bool true) ∧ Keep w' w'')) :
    Calls Try.prog 8 #[.slice a n c, .slice b m d] w fun e w' => e = .returned (.bool true) ∧ Keep w w' := by
  obtain ⟨i0, hi, hz0, hz1, hz2⟩ := info_parts infoY
  have h1 : ¬ (2000 : Int) < (n : Int) := by omega
  have h2 : ¬ (2000 : Int) < (m : Int) := by omega
  have HA := hide hA
  have HB := hide hB
  clear hA hB
  go_enter Try.func8, Try.ntmps8
  go_wp2_with fail
  (refine (unhide T1).mono ?_; rintro e w1 ⟨ad1, cp1, rfl, hc1, hL, hk⟩; have k1 := hide hk; have HL := hide hL; clear hk hL)
  go_wp2_with fail
  (refine ((unhide T2) _ (unhide k1)).mono ?_; rintro e w2 ⟨ad2, cp2, rfl, hM, hk⟩; have k2 := hide ((unhide k1).trans hk); have HM := hide hM; replace HL := hide ((unhide HL).keep hk); clear hk hM)
  have hrow0 := hide (World.ownsRow_made (base := w2.heap.size) (e := 5) (size := 1) w2 #[] 0 (Nat.le_refl _) (Nat.zero_le _) rfl)
  have ka := hide ((Keep.refl w2).alloc (.cells #[] 5))
  have HB2 := hide (((unhide HA).keep (unhide k2)).keep (unhide ka))
  go_wp2_with (at_builtin; first
    | (refine wpList_append_by _ rfl _ _ 22 rfl w2.heap.size Try.underlying22 _ [] rfl (unhide hrow0) _ A rfl (unhide HB2) (by simp; omega) (by simp) ?_; intro v' w3 hown hgrow; have HR1 : Hid (w3.ownsRow w2.heap.size 5 1 v' A.length (bc A)) := hown; have kb : Hid (Keep w2 w3) := hide (Below.grown (unhide ka) hgrow (by simp) (fun j ej => ((unhide hrow0).lt j ej).1)); have hs3 := Below.size (unhide kb); clear hown hgrow hrow0)
    | (refine wpList_append_by _ rfl _ _ 22 rfl w2.heap.size Try.underlying22 _ (A ++ [10]) rfl (unhide HR2) _ B rfl ((((unhide HB).keep (unhide k2)).keep (unhide kc))) (by simp; omega) hs4 ?_; intro v' w5 hown hgrow; have HBC : Hid (By w5 v' (A ++ [10] ++ B)) := by_own hown; have kd : Hid (Keep w2 w5) := hide (Below.grown (unhide kc) hgrow hs4 (fun j ej => ((unhide HR2).lt j ej).1)); clear hown hgrow HR2)
    | (go_must (refine wpList_append_own _ rfl _ _ 22 rfl w2.heap.size 5 i0 (.int .u8 0) 1 1 Try.underlying22 hi hz0 hz1 hz2 rfl (by decide) _ _ _ rfl ((unhide HR1).alloc _) ⟨w3.heap.size, 0, none⟩ 1 1 [.int .u8 10] rfl rfl (one_new w3 _ _) (by simp [Value.oneCell']) (by unfold maxLen; omega) (by omega) (by rw [World.size_alloc]; omega) ?_; intro v' w4 hown hgrow hnil; have HR2 : Hid (w4.ownsRow w2.heap.size 5 1 v' (A ++ [10]).length (bc (A ++ [10]))) := (by unfold Hid; rw [bc_append, List.length_append]; exact hown); have kc : Hid (Keep w2 w4) := hide (Below.grown ((unhide kb).alloc _) hgrow (by rw [World.size_alloc]; omega) (fun j ej => ((unhide HR1).lt j ej).1)); have hs4 := Below.size (unhide kc); clear hown hgrow hnil HR1)))
  have HBC2 : Hid (By w5 v' (A ++ 10 :: B)) := by have := unhide HBC; rw [List.append_assoc] at this; exact this
  (refine ((unhide T3) _ _ (unhide HBC2)).mono ?_; rintro e w6 ⟨ad3, cp3, rfl, hc3, hC, hk⟩; have k6 := hide ((unhide kd).trans hk); have HC := hide hC; clear hk hC)
  have HL6 := hide ((unhide HL).keep (unhide k6))
  have HM6 := hide ((unhide HM).keep (unhide k6))
  have kw := hide ((unhide k2).trans (unhide k6))
  clear HBC HBC2 kd kc kb ka k1 HB2 HA HB HL HM hs3 hs4
  go_wp2_with fail
  have g0 : (0 : Int) < (q : Int) + 1 := by omega
  have g1 : IntKind.i64.wrap (q : Int) = (q : Int) := by rw [IntKind.wrap_i64]; omega
  have g2 : IntKind.i64.wrap ((q : Int) + (n2 : Int)) = (q : Int) + (n2 : Int) := by rw [IntKind.wrap_i64]; omega
  have g3 : (q : Int) ≤ (cp1 : Int) := by omega
  have g4 : (q : Int) ≤ (cp3 : Int) := by omega
  have g5 : ¬ cp3 = q := by omega
  have g6 : q ≤ cp3 := by omega
  have g7 : q ≤ cp1 := by omega
  have g8 : (q : Int) ≤ (q : Int) + (n2 : Int) := by omega
  have g9 : q + n2 - q = n2 := by omega
  refine wp_region_held_drew (S := fun w' => True) (by kernel_rfl) (by trivial) (fun hHeld => ?_)
  refine wpAnyH_take (i := 0) (v := ?_) rfl (by kernel_rfl) (by kernel_rfl) (by kernel_rfl) (fun _ _ _ h => h) (Or.inl ⟨by rfl, ?_⟩) hHeld ?_
  rotate_left
  · intro w hSw
    try dsimp only at hSw
    go_simp
    try with_reducible rfl
  show wpAnyH _ _ _ _ _ _ _ (Act.put _ (some 55) _) _
  try simp only [Act.put, List.setIfInBounds_toArray, List.set_cons_zero, List.set_cons_succ]
  refine wpAnyH_take (i := 1) (v := ?_) rfl (by kernel_rfl) (by kernel_rfl) (by kernel_rfl) (fun _ _ _ h => h) (Or.inl ⟨by rfl, ?_⟩) hHeld ?_
  rotate_left
  · intro w hSw
    try dsimp only at hSw
    go_simp
    try with_reducible rfl
  show wpAnyH _ _ _ _ _ _ _ (Act.put _ (some 56) _) _
  try simp only [Act.put, List.setIfInBounds_toArray, List.set_cons_zero, List.set_cons_succ]
  refine wpAnyH_take (i := 2) (v := ?_) rfl (by kernel_rfl) (by kernel_rfl) (by kernel_rfl) (fun _ _ _ h => h) (Or.inl ⟨by rfl, ?_⟩) hHeld ?_
  rotate_left
  · intro w hSw
    try dsimp only at hSw
    go_simp
    try with_reducible rfl
  show wpAnyH _ _ _ _ _ _ _ (Act.put _ (some 57) _) _
  try simp only [Act.put, List.setIfInBounds_toArray, List.set_cons_zero, List.set_cons_succ]
  refine wpAnyH_take (i := 3) (v := ?_) rfl (by kernel_rfl) (by kernel_rfl) (by kernel_rfl) (fun _ _ _ h => h) (Or.inl ⟨by rfl, ?_⟩) hHeld ?_
  rotate_left
  · intro w hSw
    try dsimp only at hSw
    go_simp
    try with_reducible rfl
  show wpAnyH _ _ _ _ _ _ _ (Act.put _ (some 58) _) _
  try simp only [Act.put, List.setIfInBounds_toArray, List.set_cons_zero, List.set_cons_succ]
  refine wpAnyH_take (i := 4) (v := ?_) rfl (by kernel_rfl) (by kernel_rfl) (by kernel_rfl) (fun _ _ _ h => h) (Or.inl ⟨by rfl, ?_⟩) hHeld ?_
  rotate_left
  · intro w hSw
    try dsimp only at hSw
    go_simp
    try with_reducible rfl
  show wpAnyH _ _ _ _ _ _ _ (Act.put _ (some 59) _) _
  try simp only [Act.put, List.setIfInBounds_toArray, List.set_cons_zero, List.set_cons_succ]
  refine wpAnyH_take (i := 5) (v := ?_) rfl (by kernel_rfl) (by kernel_rfl) (by kernel_rfl) (fun _ _ _ h => h) (Or.inl ⟨by rfl, ?_⟩) hHeld ?_
  rotate_left
  · intro w hSw
    try dsimp only at hSw
    go_simp
    try with_reducible rfl
  show wpAnyH _ _ _ _ _ _ _ (Act.put _ (some 60) _) _
  try simp only [Act.put, List.setIfInBounds_toArray, List.set_cons_zero, List.set_cons_succ]
  refine wpAnyH_take (i := 6) (v := ?_) rfl (by kernel_rfl) (by kernel_rfl) (by kernel_rfl) (fun _ _ _ h => h) (Or.inl ⟨by rfl, ?_⟩) hHeld ?_
  rotate_left
  · intro w hSw
    try dsimp only at hSw
    go_simp
    try with_reducible rfl
  show wpAnyH _ _ _ _ _ _ _ (Act.put _ (some 61) _) _
  try simp only [Act.put, List.setIfInBounds_toArray, List.set_cons_zero, List.set_cons_succ]
  refine wpAnyH_take (i := 7) (v := ?_) rfl (by kernel_rfl) (by kernel_rfl) (by kernel_rfl) (fun _ _ _ h => h) (Or.inl ⟨by rfl, ?_⟩) hHeld ?_
  rotate_left
  · intro w hSw
    try dsimp only at hSw
    go_simp
    try with_reducible rfl
  show wpAnyH _ _ _ _ _ _ _ (Act.put _ (some 62) _) _
  try simp only [Act.put, List.setIfInBounds_toArray, List.set_cons_zero, List.set_cons_succ]
  refine wpAnyH_take (i := 8) (v := ?_) rfl (by kernel_rfl) (by kernel_rfl) (by kernel_rfl) (fun _ _ _ h => h) (Or.inl ⟨by rfl, ?_⟩) hHeld ?_
  rotate_left
  · intro w hSw
    try dsimp only at hSw
    go_simp
    try with_reducible rfl
  show wpAnyH _ _ _ _ _ _ _ (Act.put _ (some 63) _) _
  try simp only [Act.put, List.setIfInBounds_toArray, List.set_cons_zero, List.set_cons_succ]
  refine wpAnyH_take (i := 9) (v := ?_) rfl (by kernel_rfl) (by kernel_rfl) (by kernel_rfl) (fun _ _ _ h => h) (Or.inl ⟨by rfl, ?_⟩) hHeld ?_
  rotate_left
  · intro w hSw
    try dsimp only at hSw
    go_simp
    try with_reducible rfl
  show wpAnyH _ _ _ _ _ _ _ (Act.put _ (some 64) _) _
  try simp only [Act.put, List.setIfInBounds_toArray, List.set_cons_zero, List.set_cons_succ]
  refine wpAnyH_take (i := 10) (v := ?_) rfl (by kernel_rfl) (by kernel_rfl) (by kernel_rfl) (fun _ _ _ h => h) (Or.inl ⟨by rfl, ?_⟩) hHeld ?_
  rotate_left
  · intro w hSw
    try dsimp only at hSw
    go_simp
    try with_reducible rfl
  show wpAnyH _ _ _ _ _ _ _ (Act.put _ (some 65) _) _
  try simp only [Act.put, List.setIfInBounds_toArray, List.set_cons_zero, List.set_cons_succ]
  refine wpAnyH_take (i := 11) (v := ?_) rfl (by kernel_rfl) (by kernel_rfl) (by kernel_rfl) (fun _ _ _ h => h) (Or.inl ⟨by rfl, ?_⟩) hHeld ?_
  rotate_left
  · intro w hSw
    try dsimp only at hSw
    go_simp
    try with_reducible rfl
  show wpAnyH _ _ _ _ _ _ _ (Act.put _ (some 66) _) _
  try simp only [Act.put, List.setIfInBounds_toArray, List.set_cons_zero, List.set_cons_succ]
  refine wpAnyH_take (i := 12) (v := ?_) rfl (by kernel_rfl) (by kernel_rfl) (by kernel_rfl) (fun _ _ _ h => h) (Or.inl ⟨by rfl, ?_⟩) hHeld ?_
  rotate_left
  · intro w hSw
    try dsimp only at hSw
    go_simp
    try with_reducible rfl
  show wpAnyH _ _ _ _ _ _ _ (Act.put _ (some 67) _) _
  try simp only [Act.put, List.setIfInBounds_toArray, List.set_cons_zero, List.set_cons_succ]
  refine wpAnyH_take (i := 13) (v := ?_) rfl (by kernel_rfl) (by kernel_rfl) (by kernel_rfl) (fun _ _ _ h => h) (Or.inl ⟨by rfl, ?_⟩) hHeld ?_
  rotate_left
  · intro w hSw
    try dsimp only at hSw
    go_simp
    try with_reducible rfl
  show wpAnyH _ _ _ _ _ _ _ (Act.put _ (some 68) _) _
  try simp only [Act.put, List.setIfInBounds_toArray, List.set_cons_zero, List.set_cons_succ]
  refine wpAnyH_take (i := 14) (v := ?_) rfl (by kernel_rfl) (by kernel_rfl) (by kernel_rfl) (fun _ _ _ h => h) (Or.inl ⟨by rfl, ?_⟩) hHeld ?_
  rotate_left
  · intro w hSw
    try dsimp only at hSw
    go_simp
    try with_reducible rfl
  show wpAnyH _ _ _ _ _ _ _ (Act.put _ (some 69) _) _
  try simp only [Act.put, List.setIfInBounds_toArray, List.set_cons_zero, List.set_cons_succ]
  refine wpAnyH_take (i := 15) (v := ?_) rfl (by kernel_rfl) (by kernel_rfl) (by kernel_rfl) (fun _ _ _ h => h) (Or.inl ⟨by rfl, ?_⟩) hHeld ?_
  rotate_left
  · intro w hSw
    try dsimp only at hSw
    go_simp
    try with_reducible rfl
  show wpAnyH _ _ _ _ _ _ _ (Act.put _ (some 70) _) _
  try simp only [Act.put, List.setIfInBounds_toArray, List.set_cons_zero, List.set_cons_succ]
  refine wpAnyH_take (i := 16) (v := ?_) rfl (by kernel_rfl) (by kernel_rfl) (by kernel_rfl) (fun _ _ _ h => h) (Or.inl ⟨by rfl, ?_⟩) hHeld ?_
  rotate_left
  · intro w hSw
    try dsimp only at hSw
    go_simp
    try with_reducible rfl
  show wpAnyH _ _ _ _ _ _ _ (Act.put _ (some 71) _) _
  try simp only [Act.put, List.setIfInBounds_toArray, List.set_cons_zero, List.set_cons_succ]
  refine wpAnyH_take (i := 17) (v := ?_) rfl (by kernel_rfl) (by kernel_rfl) (by kernel_rfl) (fun _ _ _ h => h) (Or.inl ⟨by rfl, ?_⟩) hHeld ?_
  rotate_left
  · intro w hSw
    try dsimp only at hSw
    go_simp
    try with_reducible rfl
  show wpAnyH _ _ _ _ _ _ _ (Act.put _ (some 72) _) _
  try simp only [Act.put, List.setIfInBounds_toArray, List.set_cons_zero, List.set_cons_succ]
  refine wpAnyH_take (i := 18) (v := ?_) rfl (by kernel_rfl) (by kernel_rfl) (by kernel_rfl) (fun _ _ _ h => h) (Or.inl ⟨by rfl, ?_⟩) hHeld ?_
  rotate_left
  · intro w hSw
    try dsimp only at hSw
    go_simp
    try with_reducible rfl
  show wpAnyH _ _ _ _ _ _ _ (Act.put _ (some 73) _) _
  try simp only [Act.put, List.setIfInBounds_toArray, List.set_cons_zero, List.set_cons_succ]
  refine wpAnyH_take (i := 19) (v := ?_) rfl (by kernel_rfl) (by kernel_rfl) (by kernel_rfl) (fun _ _ _ h => h) (Or.inl ⟨by rfl, ?_⟩) hHeld ?_
  rotate_left
  · intro w hSw
    try dsimp only at hSw
    go_simp
    try with_reducible rfl
  show wpAnyH _ _ _ _ _ _ _ (Act.put _ (some 74) _) _
  try simp only [Act.put, List.setIfInBounds_toArray, List.set_cons_zero, List.set_cons_succ]
  refine wpAnyH_take (i := 20) (v := ?_) rfl (by kernel_rfl) (by kernel_rfl) (by kernel_rfl) (fun _ _ _ h => h) (Or.inl ⟨by rfl, ?_⟩) hHeld ?_
  rotate_left
  · intro w hSw
    try dsimp only at hSw
    go_simp
    try with_reducible rfl
  show wpAnyH _ _ _ _ _ _ _ (Act.put _ (some 75) _) _
  try simp only [Act.put, List.setIfInBounds_toArray, List.set_cons_zero, List.set_cons_succ]
  refine wpAnyH_take (i := 21) (v := ?_) rfl (by kernel_rfl) (by kernel_rfl) (by kernel_rfl) (fun _ _ _ h => h) (Or.inl ⟨by rfl, ?_⟩) hHeld ?_
  rotate_left
  · intro w hSw
    try dsimp only at hSw
    go_simp
    try with_reducible rfl
  show wpAnyH _ _ _ _ _ _ _ (Act.put _ (some 76) _) _
  try simp only [Act.put, List.setIfInBounds_toArray, List.set_cons_zero, List.set_cons_succ]
  refine wpAnyH_take (i := 22) (v := ?_) rfl (by kernel_rfl) (by kernel_rfl) (by kernel_rfl) (fun _ _ _ h => h) (Or.inl ⟨by rfl, ?_⟩) hHeld ?_
  rotate_left
  · intro w hSw
    try dsimp only at hSw
    go_simp
    try with_reducible rfl
  show wpAnyH _ _ _ _ _ _ _ (Act.put _ (some 77) _) _
  try simp only [Act.put, List.setIfInBounds_toArray, List.set_cons_zero, List.set_cons_succ]
  refine wpAnyH_take (i := 23) (v := ?_) rfl (by kernel_rfl) (by kernel_rfl) (by kernel_rfl) (fun _ _ _ h => h) (Or.inl ⟨by rfl, ?_⟩) hHeld ?_
  rotate_left
  · intro w hSw
    try dsimp only at hSw
    go_simp
    try with_reducible rfl
  show wpAnyH _ _ _ _ _ _ _ (Act.put _ (some 78) _) _
  try simp only [Act.put, List.setIfInBounds_toArray, List.set_cons_zero, List.set_cons_succ]
  refine wpAnyH_take (i := 24) (v := ?_) rfl (by kernel_rfl) (by kernel_rfl) (by kernel_rfl) (fun _ _ _ h => h) (Or.inl ⟨by rfl, ?_⟩) hHeld ?_
  rotate_left
  · intro w hSw
    try dsimp only at hSw
    go_simp
    try with_reducible rfl
  show wpAnyH _ _ _ _ _ _ _ (Act.put _ (some 79) _) _
  try simp only [Act.put, List.setIfInBounds_toArray, List.set_cons_zero, List.set_cons_succ]
  refine wpAnyH_take (i := 25) (v := ?_) rfl (by kernel_rfl) (by kernel_rfl) (by kernel_rfl) (fun _ _ _ h => h) (Or.inl ⟨by rfl, ?_⟩) hHeld ?_
  rotate_left
  · intro w hSw
    try dsimp only at hSw
    go_simp
    try with_reducible rfl
  show wpAnyH _ _ _ _ _ _ _ (Act.put _ (some 80) _) _
  try simp only [Act.put, List.setIfInBounds_toArray, List.set_cons_zero, List.set_cons_succ]
  refine wpAnyH_take (i := 26) (v := ?_) rfl (by kernel_rfl) (by kernel_rfl) (by kernel_rfl) (fun _ _ _ h => h) (Or.inl ⟨by rfl, ?_⟩) hHeld ?_
  rotate_left
  · intro w hSw
    try dsimp only at hSw
    go_simp
    try with_reducible rfl
  show wpAnyH _ _ _ _ _ _ _ (Act.put _ (some 81) _) _
  try simp only [Act.put, List.setIfInBounds_toArray, List.set_cons_zero, List.set_cons_succ]
  refine wpAnyH_take (i := 27) (v := ?_) rfl (by kernel_rfl) (by kernel_rfl) (by kernel_rfl) (fun _ _ _ h => h) (Or.inl ⟨by rfl, ?_⟩) hHeld ?_
  rotate_left
  · intro w hSw
    try dsimp only at hSw
    go_simp
    try with_reducible rfl
  show wpAnyH _ _ _ _ _ _ _ (Act.put _ (some 82) _) _
  try simp only [Act.put, List.setIfInBounds_toArray, List.set_cons_zero, List.set_cons_succ]
  refine wpAnyH_take (i := 28) (v := ?_) rfl (by kernel_rfl) (by kernel_rfl) (by kernel_rfl) (fun _ _ _ h => h) (Or.inl ⟨by rfl, ?_⟩) hHeld ?_
  rotate_left
  · intro w hSw
    try dsimp only at hSw
    go_simp
    try with_reducible rfl
  show wpAnyH _ _ _ _ _ _ _ (Act.put _ (some 83) _) _
  try simp only [Act.put, List.setIfInBounds_toArray, List.set_cons_zero, List.set_cons_succ]
  refine wpAnyH_ready (rs := [29]) (by kernel_rfl) (by simp) ?_
  refine AllReadyH.cons rfl (fun K hK => ?_) AllReadyH.nil
  go_simp
  clear hHeld
  (refine ((unhide T4) _ _ _ _ _ ((unhide HC).keep (Keep.refl _).drew) ((unhide HL6).keep (Keep.refl _).drew)).mono ?_; rintro e w7 ⟨rfl, hk⟩; have k7 := hide ((Keep.refl w6).drew.trans hk); clear hk)
  try go_wp2_with fail
  refine hK.out _ _ ?_ (fun hHeld => ?_)
  · trivial
  clear hK K
  try simp only [Act.put, List.setIfInBounds_toArray, List.set_cons_zero, List.set_cons_succ]
  refine wpAnyH_take (i := 30) (v := ?_) rfl (by kernel_rfl) (by kernel_rfl) (by kernel_rfl) (fun _ _ _ h => h) (Or.inl ⟨by rfl, ?_⟩) hHeld ?_
  rotate_left
  · intro w hSw
    try dsimp only at hSw
    go_simp
    try with_reducible rfl
  show wpAnyH _ _ _ _ _ _ _ (Act.put _ (some 85) _) _
  try simp only [Act.put, List.setIfInBounds_toArray, List.set_cons_zero, List.set_cons_succ]
  refine wpAnyH_take (i := 31) (v := ?_) rfl (by kernel_rfl) (by kernel_rfl) (by kernel_rfl) (fun _ _ _ h => h) (Or.inl ⟨by rfl, ?_⟩) hHeld ?_
  rotate_left
  · intro w hSw
    try dsimp only at hSw
    go_simp
    try with_reducible rfl
  show wpAnyH _ _ _ _ _ _ _ (Act.put _ (some 86) _) _
  try simp only [Act.put, List.setIfInBounds_toArray, List.set_cons_zero, List.set_cons_succ]
  refine wpAnyH_take (i := 32) (v := ?_) rfl (by kernel_rfl) (by kernel_rfl) (by kernel_rfl) (fun _ _ _ h => h) (Or.inl ⟨by rfl, ?_⟩) hHeld ?_
  rotate_left
  · intro w hSw
    try dsimp only at hSw
    go_simp
    try with_reducible rfl
  show wpAnyH _ _ _ _ _ _ _ (Act.put _ (some 87) _) _
  try simp only [Act.put, List.setIfInBounds_toArray, List.set_cons_zero, List.set_cons_succ]
  refine wpAnyH_take (i := 33) (v := ?_) rfl (by kernel_rfl) (by kernel_rfl) (by kernel_rfl) (fun _ _ _ h => h) (Or.inl ⟨by rfl, ?_⟩) hHeld ?_
  rotate_left
  · intro w hSw
    try dsimp only at hSw
    go_simp
    try with_reducible rfl
  show wpAnyH _ _ _ _ _ _ _ (Act.put _ (some 88) _) _
  try simp only [Act.put, List.setIfInBounds_toArray, List.set_cons_zero, List.set_cons_succ]
  refine wpAnyH_take (i := 34) (v := ?_) rfl (by kernel_rfl) (by kernel_rfl) (by kernel_rfl) (fun _ _ _ h => h) (Or.inl ⟨by rfl, ?_⟩) hHeld ?_
  rotate_left
  · intro w hSw
    try dsimp only at hSw
    go_simp
    try with_reducible rfl
  show wpAnyH _ _ _ _ _ _ _ (Act.put _ (some 89) _) _
  try simp only [Act.put, List.setIfInBounds_toArray, List.set_cons_zero, List.set_cons_succ]
  refine wpAnyH_take (i := 35) (v := ?_) rfl (by kernel_rfl) (by kernel_rfl) (by kernel_rfl) (fun _ _ _ h => h) (Or.inl ⟨by rfl, ?_⟩) hHeld ?_
  rotate_left
  · intro w hSw
    try dsimp only at hSw
    go_simp
    try with_reducible rfl
  show wpAnyH _ _ _ _ _ _ _ (Act.put _ (some 90) _) _
  try simp only [Act.put, List.setIfInBounds_toArray, List.set_cons_zero, List.set_cons_succ]
  refine wpAnyH_take (i := 36) (v := ?_) rfl (by kernel_rfl) (by kernel_rfl) (by kernel_rfl) (fun _ _ _ h => h) (Or.inl ⟨by rfl, ?_⟩) hHeld ?_
  rotate_left
  · intro w hSw
    try dsimp only at hSw
    go_simp
    try with_reducible rfl
  show wpAnyH _ _ _ _ _ _ _ (Act.put _ (some 91) _) _
  try simp only [Act.put, List.setIfInBounds_toArray, List.set_cons_zero, List.set_cons_succ]
  refine wpAnyH_take (i := 37) (v := ?_) rfl (by kernel_rfl) (by kernel_rfl) (by kernel_rfl) (fun _ _ _ h => h) (Or.inl ⟨by rfl, ?_⟩) hHeld ?_
  rotate_left
  · intro w hSw
    try dsimp only at hSw
    go_simp
    try with_reducible rfl
  show wpAnyH _ _ _ _ _ _ _ (Act.put _ (some 92) _) _
  try simp only [Act.put, List.setIfInBounds_toArray, List.set_cons_zero, List.set_cons_succ]
  refine wpAnyH_ready (rs := [38]) (by kernel_rfl) (by simp) ?_
  refine AllReadyH.cons rfl (fun K hK => ?_) AllReadyH.nil
  go_simp
  clear hHeld
  (refine ((unhide T5) _ _ _ _ _ ((unhide HC).keep (unhide k7)) ((unhide HM6).keep (unhide k7))).mono ?_; rintro e w8 ⟨rfl, hk⟩; have k8 := hide ((unhide k7).trans hk); clear hk)
  try go_wp2_with fail
  refine hK.out _ _ ?_ (fun hHeld => ?_)
  · trivial
  clear hK K
  try simp only [Act.put, List.setIfInBounds_toArray, List.set_cons_zero, List.set_cons_succ]
  refine wpAnyH_take (i := 39) (v := ?_) rfl (by kernel_rfl) (by kernel_rfl) (by kernel_rfl) (fun _ _ _ h => h) (Or.inl ⟨by rfl, ?_⟩) hHeld ?_
  rotate_left
  · intro w hSw
    try dsimp only at hSw
    go_simp
    try with_reducible rfl
  show wpAnyH _ _ _ _ _ _ _ (Act.put _ (some 94) _) _
  try simp only [Act.put, List.setIfInBounds_toArray, List.set_cons_zero, List.set_cons_succ]
  refine wpAnyH_take (i := 40) (v := ?_) rfl (by kernel_rfl) (by kernel_rfl) (by kernel_rfl) (fun _ _ _ h => h) (Or.inl ⟨by rfl, ?_⟩) hHeld ?_
  rotate_left
  · intro w hSw
    try dsimp only at hSw
    go_simp
    try with_reducible rfl
  show wpAnyH _ _ _ _ _ _ _ (Act.put _ (some 95) _) _
  try simp only [Act.put, List.setIfInBounds_toArray, List.set_cons_zero, List.set_cons_succ]
  refine wpAnyH_ready (rs := [41]) (by kernel_rfl) (by simp) ?_
  refine AllReadyH.cons rfl (fun K hK => ?_) AllReadyH.nil
  go_simp
  clear hHeld
  (refine ((unhide T8) _).mono ?_; rintro e w9 ⟨rfl, hk⟩; have k9 := hide ((unhide k8).trans hk); clear hk)
  try go_wp2_with fail
  refine hK.out _ _ ?_ (fun hHeld => ?_)
  · trivial
  clear hK K
  try simp only [Act.put, List.setIfInBounds_toArray, List.set_cons_zero, List.set_cons_succ]
  refine wpAnyH_take (i := 42) (v := ?_) rfl (by kernel_rfl) (by kernel_rfl) (by kernel_rfl) (fun _ _ _ h => h) (Or.inl ⟨by rfl, ?_⟩) hHeld ?_
  rotate_left
  · intro w hSw
    try dsimp only at hSw
    go_simp
    try with_reducible rfl
  show wpAnyH _ _ _ _ _ _ _ (Act.put _ (some 97) _) _
  try simp only [Act.put, List.setIfInBounds_toArray, List.set_cons_zero, List.set_cons_succ]
  refine wpAnyH_take (i := 43) (v := ?_) rfl (by kernel_rfl) (by kernel_rfl) (by kernel_rfl) (fun _ _ _ h => h) (Or.inl ⟨by rfl, ?_⟩) hHeld ?_
  rotate_left
  · intro w hSw
    try dsimp only at hSw
    go_simp
    try with_reducible rfl
  show wpAnyH _ _ _ _ _ _ _ (Act.put _ (some 4) _) _
  try simp only [Act.put, List.setIfInBounds_toArray, List.set_cons_zero, List.set_cons_succ]
  refine wpAnyH_done (by kernel_rfl) ?_ _
  clear hHeld
  go_wp2_with fail
  go_ret
  exact ⟨rfl, (unhide kw).trans (unhide k9)⟩
theorem walk (v0 : Value) (A : List UInt8) (v1 : Value) (B : List UInt8) (w : World) (hA : By w v0 A) (hB : By w v1 B) : Calls Try.prog 8 #[v0, v1] w fun e w' => e = .returned (.bool true) ∧ Below w.heap.size w w' := by
  obtain ⟨a, c, rfl⟩ := hA.shape
  obtain ⟨b, d, rfl⟩ := hB.shape
  by_cases hn : 2000 < A.length ∨ 2000 < B.length
  · exact walk0 a b A.length B.length c d w hn
  · have hA2 : A.length ≤ 2000 := by omega
    have hB2 : B.length ≤ 2000 := by omega
    have X : ∀ w' v l, l.length ≤ 5000 → By w' v l → Calls Try.prog 9 #[v] w' (Tp (T l) w') := fun w' v l hl h => toks_any v l w' (by omega) h
    have X1 := X w _ A (by omega) hA
    have X2 := fun w' (hk : Keep w w') => X w' _ B (by omega) (hB.keep hk)
    have E1 : Calls Try.prog 9 #[.slice a A.length c] w fun e w' => ∃ v N, e = .returned (.tuple #[v, .int .i64 (te (T A)), .int .i64 N]) ∧ Keep w w' := X1.mono (by
      rintro _ w' ⟨u, rfl, _, _, h3⟩; exact ⟨u, _, rfl, h3⟩)
    have E2 : ∀ w', Keep w w' → Calls Try.prog 9 #[.slice b B.length d] w' fun e w'' => ∃ v N, e = .returned (.tuple #[v, .int .i64 (te (T B)), .int .i64 N]) ∧ Keep w' w'' := fun w' hk => (X2 w' hk).mono (by
      rintro _ w' ⟨u, rfl, _, _, h3⟩; exact ⟨u, _, rfl, h3⟩)
    cases hTA : T A with
    | error y =>
      obtain ⟨e, x⟩ := y
      have he := (T_err hTA).1
      refine walkE a b A.length B.length c d (te (T A)) (te (T B)) w hA2 hB2 (.inl ?_) (hide E1) (hide E2) (hide awake_any)
      rw [hTA]
      simp only [te]
      simp
      omega
    | ok L =>
      cases hTB : T B with
      | error y =>
        obtain ⟨e, x⟩ := y
        have he := (T_err hTB).1
        refine walkE a b A.length B.length c d (te (T A)) (te (T B)) w hA2 hB2 (.inr ⟨by rw [hTA]; rfl, ?_⟩) (hide E1) (hide E2) (hide awake_any)
        rw [hTB]
        simp only [te]
        simp
        omega
      | ok M =>
        have hC := T_join hTA hTB (by omega)
        have lL := T_len hTA
        have lM := T_len hTB
        obtain ⟨q, hq⟩ : ∃ q, L.length = q + 1 := ⟨L.length - 1, by omega⟩
        have hdl : L.dropLast.length = q := by rw [List.length_dropLast]; omega
        have hCl : (L.dropLast ++ M.map (sh (A.length + 1))).length = q + M.length := by rw [List.length_append, List.length_map, hdl]
        rw [hTA] at X1
        rw [hTB] at X2
        refine walk1 a b A.length B.length c d q M.length A B L M (L.dropLast ++ M.map (sh (A.length + 1))) w hA2 hB2 rfl rfl (by omega) (by omega) lM.1 hA hB (hide (X1.mono ?_)) (hide fun w' hk => (X2 w' hk).mono ?_) (hide fun w' v hv => ?_) (hide fun w' ad cp ad' cp' h1 h2 => ?_) (hide fun w' ad cp ad' cp' h1 h2 => ?_) (hide awake_any)
        · rintro _ w' ⟨u, rfl, h1, _, h3⟩
          obtain ⟨a', cp, rfl, hcp, hc⟩ := id h1
          obtain ⟨ad, rfl, _⟩ := hc 0 (by simp only [tl]; omega)
          simp only [tl] at h1 hcp ⊢
          rw [hq] at h1 hcp ⊢
          exact ⟨ad, cp, rfl, hcp, h1, h3⟩
        · rintro _ w'' ⟨u, rfl, h1, _, h3⟩
          obtain ⟨a', cp, rfl⟩ := h1.shape
          exact ⟨a', cp, rfl, h1, h3⟩
        · have X3 := X w' v _ (by simp; omega) hv
          rw [hC] at X3
          refine X3.mono ?_
          rintro _ w'' ⟨u, rfl, h1, _, h3⟩
          obtain ⟨a', cp, rfl, hcp, hc⟩ := id h1
          obtain ⟨ad, rfl, _⟩ := hc 0 (by simp only [tl]; omega)
          simp only [tl] at h1 hcp ⊢
          rw [hCl] at h1 hcp ⊢
          exact ⟨ad, cp, rfl, hcp, h1, h3⟩
        · have t1 := ts_take h1 (show q ≤ _ by omega)
          have t2 := ts_take h2 (show q ≤ _ by omega)
          rw [List.take_append_of_le_length (by omega), List.take_of_length_le (by omega)] at t1
          rw [show L.take q = L.dropLast by rw [List.dropLast_eq_take, hq]; rfl] at t2
          have := same_all _ _ _ w' (by omega) t1 t2
          exact this
        · have t1 := ts_drop h1 (show q + M.length = _ by omega)
          rw [List.drop_append_of_le_length (by omega), List.drop_of_length_le (by omega), List.nil_append] at t1
          refine same_some _ _ _ _ w' (by rw [List.length_map]; omega) t1 h2 ?_
          rw [List.map_map]
          rfl
theorem laidOut : laidOutB Try.prog = true := by kernel_rfl
theorem own : ownKnob Try.prog.godebug = none := by kernel_rfl
set_option maxHeartbeats 400000 in
set_option maxRecDepth 100000 in
theorem lifted (os : Os) (started : os.Started) (H : Type) (enc : TypeId × Value → H) :
    ReturnsInHanded {} Try.checked os 8 .any (Rows.lexJoinSpec.pre6 enc Try.prog Try.f8 Rows.lexJoinRow.domain false) (Rows.lexJoinSpec.post enc Try.prog Try.f8 false true false false) := by
  refine returnsInHanded_of_change (C := Try.checked) own started (by kernel_rfl) Try.func8
    (ChangeSpec.witness6 (enc := enc) (C := Try.checked) false ⟨#[], #[.slice none 0 0, .slice none 0 0], []⟩ 8 (by kernel_rfl) (by kernel_rfl) (by kernel_rfl) (by kernel_rfl)) ?_
  intro W base args ds gs before hval0 hW hcnd _
  have hval : ∀ (j : Nat) t v, Try.f8.params[j]? = some t → args[j]? = some v → Value.okWide Try.prog W .any base t v := hval0
  have hW' := hW
  obtain ⟨p, q, hA0, hV, rfl, hfz, hnd⟩ := hW
  have hA : DataW.TrodAll enc Try.prog W 0 (fun _ => true) true Try.f8.params.toList args.toList ds p := hA0
  rw [Try.params8] at hA hval
  obtain ⟨v0, vs0, d0, ds0, p0, q0, hargs, rfl, rfl, h0, r0⟩ := trodAll_cons hA
  obtain ⟨v1, vs1, d1, ds1, p1, q1, rfl, rfl, rfl, h1, r1⟩ := trodAll_cons r0
  obtain ⟨rfl, rfl, rfl⟩ := trodAll_nil r1
  obtain rfl : args = #[v0, v1] := by cases args; simp_all
  obtain ⟨rfl, rfl⟩ := trodVars_none hV
  have k0 := h0
  have lt0 : ∀ x ∈ p0, x.block < W.heap.size := by obtain ⟨m, hm⟩ := k0; exact DataW.trod_lt m _ _ _ hm
  obtain ⟨L0, w0⟩ := open_bytes Try.underlying22 Try.underlying5 (by kernel_rfl) (hval 0 22 v0 rfl rfl) h0
  clear h0
  have k1 := h1
  have lt1 : ∀ x ∈ p1, x.block < W.heap.size := by obtain ⟨m, hm⟩ := k1; exact DataW.trod_lt m _ _ _ hm
  obtain ⟨L1, w1⟩ := open_bytes Try.underlying22 Try.underlying5 (by kernel_rfl) (hval 1 22 v1 rfl rfl) h1
  clear h1
  clear hA0 hval0
  refine (walk v0 L0 v1 L1 W w0 w1).mono fun e W' ⟨he, bel⟩ => ?_
  subst he
  exact ⟨_, rfl, _, _, _, [], _, [], hW', trodAll_mk1 (shut_bool Try.underlying4 _), (trodAll_cons_mk (Below.trod laidOut (by kernel_rfl) (of_decide_eq_true (by kernel_rfl)) k0 bel lt0) (trodAll_cons_mk (Below.trod laidOut (by kernel_rfl) (of_decide_eq_true (by kernel_rfl)) k1 bel lt1) trodAll_mk0)), rfl, bel.frame _, fun h => by cases h⟩
theorem over : Rows.lexJoinRow.holds Try.pinned (OpenSpec.ofChange Rows.lexJoinSpec) :=
  OpenClaim.holds_of_wide 8 Try.f8 rfl rfl rfl rfl rfl rfl rfl ⟨rfl, rfl, rfl, rfl, rfl⟩ rfl rfl rfl rfl rfl (by kernel_rfl) Try.func8 (by kernel_rfl)
    (of_decide_eq_true (by kernel_rfl)) (by unfold Func.isWrapper; first | (rw [if_pos (by decide +kernel)]; kernel_rfl) | (rw [if_neg (by decide +kernel)]; exact ⟨rfl, rfl⟩))
    (fun os started H enc _ => lifted os started H enc)

end Go.Proofs.Ytpmfgnolojmimaa.join
namespace Go.Proofs.Ytpmfgnolojmimaa
theorem LexJoin_holds : Rows.LexJoinSaid := join.over
end Go.Proofs.Ytpmfgnolojmimaa
