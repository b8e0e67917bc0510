/- Package group: the orders that a row may have; how many steps there may be. -/
import Derived.Test.YtakandlehneciaaGpU
import Derived.Test.YtakandlehneciaaGpR
namespace Go.Proofs.Ytakandlehneciaa
open Go.RowKit
attribute [local go_sem ↓] Go.wp_at_zero Go.wp_at_succ
set_option linter.unusedVariables false
set_option linter.unusedSimpArgs false
set_option maxRecDepth 10000
namespace Gp
open Pa
/-- the orders that a row may have -/
def osN (RR : List (List Int)) (FR : List Bool) (r : Nat) : List (List Int) :=
  if r < RR.length then Od.rowsN ((RR.getD r []).length : Int) (if FR.getD r false then (Od.cnt ((RR.getD r []).length : Int)).toNat else min (Od.cnt ((RR.getD r []).length : Int)).toNat 1) else Od.rowsN 0 1
theorem cnt_le (n : Int) (h : n ≤ 4) : Od.cnt n ≤ 24 := by
  unfold Od.cnt
  split
  · have : Od.fc n.toNat ≤ Od.fc 4 := Od.fc_mono (by omega)
    have h4 : Od.fc 4 = 24 := by decide
    omega
  · omega
theorem osN_len {RR : List (List Int)} {FR : List Bool} {AP : List P2} (h : Rt RR FR AP) (r : Nat) : (osN RR FR r).length ≤ 24 := by
  unfold osN
  split
  · rename_i hr
    have h1 := (h.row _ (getD_mem (z := []) hr)).2.1
    have := cnt_le ((RR.getD r []).length : Int) (by omega)
    rw [Od.rowsN_len]
    split <;> omega
  · rw [Od.rowsN_len]; omega
set_option maxHeartbeats 2000000 in
theorem ordersOf_any (J : Value) (RR : List (List Int)) (FR : List Bool) (AP : List P2) (r : Nat) (w : World) (hJ : Jb w J RR FR AP) (h : Rt RR FR AP) (hr : r ≤ 1000) :
    Calls Try.prog 21 #[J, .int .i64 (r : Int)] w (Od.Wg (osN RR FR r) w) := by
  obtain ⟨vr, vf, va, rfl, hR, hF, hA⟩ := hJ
  have J0 : Jc w.heap.size vr vf va (w.alloc (.cells #[vr, vf, va] 26)) := ⟨box_c w [vr, vf, va] _ 0 _ rfl, box_c w [vr, vf, va] _ 1 _ rfl, box_c w [vr, vf, va] _ 2 _ rfl⟩
  have K0 := (Keep.refl w).alloc (.cells #[vr, vf, va] 26)
  have hS : ∀ w1, Keep w w1 → ∀ e w2, Od.Wg (osN RR FR r) w1 e w2 → Od.Wg (osN RR FR r) w e w2 := fun w1 hk e w2 ⟨v, e1, k1, o1⟩ => ⟨v, e1, hk.trans k1, Od.og_mono o1 (Below.size hk)⟩
  obtain ⟨ar, cr, rfl, -, hR⟩ := hR
  obtain ⟨af, cf, rfl, hF⟩ := hF
  obtain ⟨aa, ca, rfl, -, -⟩ := hA
  by_cases hlt : r < RR.length
  · obtain ⟨ad, u, rfl, c0, hu⟩ := hR r hlt
    obtain ⟨ua, uc, rfl, -⟩ := hu
    obtain ⟨af0, rfl, f0⟩ := hF r (by rw [h.free]; exact hlt)
    have l4 := (h.row _ (getD_mem (z := []) hlt)).2.1
    have hos : osN RR FR r = Od.rowsN ((RR.getD r []).length : Int) (if FR.getD r false then (Od.cnt ((RR.getD r []).length : Int)).toNat else min (Od.cnt ((RR.getD r []).length : Int)).toNat 1) := by unfold osN; rw [if_pos hlt]
    have T := hide (fun (w' : World) => Od.rowsG_any (FR.getD r false) ((RR.getD r []).length : Int) w' (by have := cnt_le ((RR.getD r []).length : Int) (by omega); omega))
    rw [← hos] at T
    clear hos
    have HS := hide hS
    obtain ⟨c00, c01, c02⟩ := J0
    have hfl := h.free
    clear hS hR hF h
    generalize osN RR FR r = OS at T HS ⊢
    generalize (RR.getD r []).length = n at T c0 l4 ⊢
    generalize FR.getD r false = fb at T f0 ⊢
    have CK := hide (fun (w' : World) (hk : Keep (w.alloc (.cells #[.slice (some ad) RR.length cr, .slice (some af0) FR.length cf, .slice aa AP.length ca] 26)) w') => (⟨kc hk c00, kc hk c01, kc (K0.trans hk) c0, kc (K0.trans hk) f0⟩ : w'.cell? ⟨w.heap.size, 0, none⟩ = some (.slice (some ad) RR.length cr) ∧ w'.cell? ⟨w.heap.size, 1, none⟩ = some (.slice (some af0) FR.length cf) ∧ w'.cell? (ad.add r) = some (.slice ua n uc) ∧ w'.cell? (af0.add r) = some (.bool fb)))
    have EK := hide (fun (w' : World) (hk : Keep (w.alloc (.cells #[.slice (some ad) RR.length cr, .slice (some af0) FR.length cf, .slice aa AP.length ca] 26)) w') => K0.trans hk)
    have l0 : (0 : Int) ≤ (r : Int) := by omega
    have l1 : (r : Int) < (RR.length : Int) := by omega
    have l2 : (r : Int) < (FR.length : Int) := by omega
    have l3 : ¬ (RR.length : Int) ≤ (r : Int) := by omega
    clear hlt c02 c0 f0 K0 hfl
    generalize RR.length = m at *
    generalize FR.length = fl at *
    generalize AP.length = al at *
    go_enter Try.func21, Try.ntmps21
    go_upto_region 3 with fail
    generalize w.alloc (.cells #[.slice (some ad) m cr, .slice (some af0) fl cf, .slice aa al ca] 26) = w1 at CK EK ⊢
    refine wp_region_held_drew (S := (fun w' => w'.cell? ⟨w.heap.size, 0, none⟩ = some (.slice (some ad) m cr) ∧ w'.cell? ⟨w.heap.size, 1, none⟩ = some (.slice (some af0) fl cf) ∧ w'.cell? (ad.add r) = some (.slice ua n uc) ∧ w'.cell? (af0.add r) = some (.bool fb))) (by kernel_rfl) (by exact unhide CK _ (by repeat (first | apply Keep.drew | exact Keep.refl _))) (fun hHeld => ?_)
    refine wpAnyH_take (i := 0) (v := ?_) rfl (by kernel_rfl) (by kernel_rfl) (by kernel_rfl) (fun _ _ _ h => h) (Or.inl ⟨by rfl, ?_⟩) hHeld ?_
    rotate_left
    · intro w hSw
      try dsimp only at hSw
      go_simp
      try with_reducible rfl
    show wpAnyH _ _ _ _ _ _ _ (Act.put _ (some 11) _) _
    try simp only [Act.put, List.setIfInBounds_toArray, List.set_cons_zero, List.set_cons_succ]
    refine wpAnyH_take (i := 1) (v := ?_) rfl (by kernel_rfl) (by kernel_rfl) (by kernel_rfl) (fun _ _ _ h => h) (Or.inl ⟨by rfl, ?_⟩) hHeld ?_
    rotate_left
    · intro w hSw
      try dsimp only at hSw
      go_simp
      try with_reducible rfl
    show wpAnyH _ _ _ _ _ _ _ (Act.put _ (some 12) _) _
    try simp only [Act.put, List.setIfInBounds_toArray, List.set_cons_zero, List.set_cons_succ]
    refine wpAnyH_take (i := 2) (v := ?_) rfl (by kernel_rfl) (by kernel_rfl) (by kernel_rfl) (fun _ _ _ h => h) (Or.inl ⟨by rfl, ?_⟩) hHeld ?_
    rotate_left
    · intro w hSw
      try dsimp only at hSw
      go_simp
      try with_reducible rfl
    show wpAnyH _ _ _ _ _ _ _ (Act.put _ (some 13) _) _
    try simp only [Act.put, List.setIfInBounds_toArray, List.set_cons_zero, List.set_cons_succ]
    refine wpAnyH_take (i := 3) (v := ?_) rfl (by kernel_rfl) (by kernel_rfl) (by kernel_rfl) (fun _ _ _ h => h) (Or.inl ⟨by rfl, ?_⟩) hHeld ?_
    rotate_left
    · intro w hSw
      try dsimp only at hSw
      go_simp
      try with_reducible rfl
    show wpAnyH _ _ _ _ _ _ _ (Act.put _ (some 14) _) _
    try simp only [Act.put, List.setIfInBounds_toArray, List.set_cons_zero, List.set_cons_succ]
    refine wpAnyH_take (i := 4) (v := ?_) rfl (by kernel_rfl) (by kernel_rfl) (by kernel_rfl) (fun _ _ _ h => h) (Or.inl ⟨by rfl, ?_⟩) hHeld ?_
    rotate_left
    · intro w hSw
      try dsimp only at hSw
      go_simp
      try with_reducible rfl
    show wpAnyH _ _ _ _ _ _ _ (Act.put _ (some 15) _) _
    try simp only [Act.put, List.setIfInBounds_toArray, List.set_cons_zero, List.set_cons_succ]
    refine wpAnyH_take (i := 5) (v := ?_) rfl (by kernel_rfl) (by kernel_rfl) (by kernel_rfl) (fun _ _ _ h => h) (Or.inl ⟨by rfl, ?_⟩) hHeld ?_
    rotate_left
    · intro w hSw
      try dsimp only at hSw
      go_simp
      try with_reducible rfl
    show wpAnyH _ _ _ _ _ _ _ (Act.put _ (some 16) _) _
    try simp only [Act.put, List.setIfInBounds_toArray, List.set_cons_zero, List.set_cons_succ]
    refine wpAnyH_take (i := 6) (v := ?_) rfl (by kernel_rfl) (by kernel_rfl) (by kernel_rfl) (fun _ _ _ h => h) (Or.inl ⟨by rfl, ?_⟩) hHeld ?_
    rotate_left
    · intro w hSw
      try dsimp only at hSw
      go_simp
      try with_reducible rfl
    show wpAnyH _ _ _ _ _ _ _ (Act.put _ (some 17) _) _
    try simp only [Act.put, List.setIfInBounds_toArray, List.set_cons_zero, List.set_cons_succ]
    refine wpAnyH_take (i := 7) (v := ?_) rfl (by kernel_rfl) (by kernel_rfl) (by kernel_rfl) (fun _ _ _ h => h) (Or.inl ⟨by rfl, ?_⟩) hHeld ?_
    rotate_left
    · intro w hSw
      try dsimp only at hSw
      go_simp
      try with_reducible rfl
    show wpAnyH _ _ _ _ _ _ _ (Act.put _ (some 18) _) _
    try simp only [Act.put, List.setIfInBounds_toArray, List.set_cons_zero, List.set_cons_succ]
    refine wpAnyH_take (i := 8) (v := ?_) rfl (by kernel_rfl) (by kernel_rfl) (by kernel_rfl) (fun _ _ _ h => h) (Or.inl ⟨by rfl, ?_⟩) hHeld ?_
    rotate_left
    · intro w hSw
      try dsimp only at hSw
      go_simp
      try with_reducible rfl
    show wpAnyH _ _ _ _ _ _ _ (Act.put _ (some 19) _) _
    try simp only [Act.put, List.setIfInBounds_toArray, List.set_cons_zero, List.set_cons_succ]
    refine wpAnyH_take (i := 9) (v := ?_) rfl (by kernel_rfl) (by kernel_rfl) (by kernel_rfl) (fun _ _ _ h => h) (Or.inl ⟨by rfl, ?_⟩) hHeld ?_
    rotate_left
    · intro w hSw
      try dsimp only at hSw
      go_simp
      try with_reducible rfl
    show wpAnyH _ _ _ _ _ _ _ (Act.put _ (some 20) _) _
    try simp only [Act.put, List.setIfInBounds_toArray, List.set_cons_zero, List.set_cons_succ]
    refine wpAnyH_take (i := 10) (v := ?_) rfl (by kernel_rfl) (by kernel_rfl) (by kernel_rfl) (fun _ _ _ h => h) (Or.inl ⟨by rfl, ?_⟩) hHeld ?_
    rotate_left
    · intro w hSw
      try dsimp only at hSw
      go_simp
      try with_reducible rfl
    show wpAnyH _ _ _ _ _ _ _ (Act.put _ (some 21) _) _
    try simp only [Act.put, List.setIfInBounds_toArray, List.set_cons_zero, List.set_cons_succ]
    refine wpAnyH_ready (rs := [11]) (by kernel_rfl) (by simp) ?_
    refine AllReadyH.cons rfl (fun K hK => ?_) AllReadyH.nil
    go_simp
    clear hHeld
    (refine ((unhide T) _).mono ?_; rintro e w5 ⟨v5, rfl, hk9, ho9⟩)
    try go_wp2_with fail
    refine hK.out _ _ ?_ (fun hHeld => ?_)
    · exact unhide CK _ (((Keep.refl _).drew).trans hk9)
    clear hK K
    try simp only [Act.put, List.setIfInBounds_toArray, List.set_cons_zero, List.set_cons_succ]
    refine wpAnyH_take (i := 12) (v := ?_) rfl (by kernel_rfl) (by kernel_rfl) (by kernel_rfl) (fun _ _ _ h => h) (Or.inl ⟨by rfl, ?_⟩) hHeld ?_
    rotate_left
    · intro w hSw
      try dsimp only at hSw
      go_simp
      try with_reducible rfl
    show wpAnyH _ _ _ _ _ _ _ (Act.put _ (some 4) _) _
    try simp only [Act.put, List.setIfInBounds_toArray, List.set_cons_zero, List.set_cons_succ]
    refine wpAnyH_done (by kernel_rfl) ?_ _
    clear hHeld
    go_wp2_with fail
    try go_ret
    exact (unhide HS) _ (unhide EK _ ((Keep.refl _).drew)) _ _ ⟨_, rfl, by repeat (first | exact hk9 | apply Keep.drew), by first | exact ho9 | exact ho9.keep (by repeat (first | apply Keep.drew | exact Keep.refl _))⟩
  · have hos : osN RR FR r = Od.rowsN 0 1 := by unfold osN; rw [if_neg hlt]
    have T := hide (fun (w' : World) => Od.rowsG_any false 0 w' (by decide))
    have e1 : (if false = true then (Od.cnt 0).toNat else min (Od.cnt 0).toNat 1) = 1 := by decide
    rw [e1, ← hos] at T
    have HS := hide hS
    have EK := hide (fun (w' : World) (hk : Keep (w.alloc (.cells #[.slice ar RR.length cr, .slice af FR.length cf, .slice aa AP.length ca] 26)) w') => K0.trans hk)
    obtain ⟨c00, c01, c02⟩ := J0
    have l3 : (RR.length : Int) ≤ (r : Int) := by omega
    clear hS hR hF h hlt hos e1 K0 c01 c02
    generalize osN RR FR r = OS at T HS ⊢
    generalize RR.length = m at *
    generalize FR.length = fl at *
    generalize AP.length = al at *
    go_enter Try.func21, Try.ntmps21
    go_wp2_with fail
    (refine ((unhide T) _).mono ?_; rintro e w5 ⟨v5, rfl, hk9, ho9⟩)
    go_wp2_with fail
    try go_ret
    exact (unhide HS) _ (unhide EK _ (Keep.refl _)) _ _ ⟨_, rfl, hk9, ho9⟩
theorem w64 {n : Int} (h1 : 0 ≤ n) (h2 : n ≤ 9223372036854775807) : wrap64 n = n := by unfold wrap64; omega
/-- how many steps there may be -/
def mostN (RR : List (List Int)) (FR : List Bool) (AP : List P2) : Int :=
  if jobR RR FR AP = true then (((2 ^ AP.length * ((osN RR FR 0).length * (osN RR FR 1).length)) * (AP.length + 1) + 1 : Nat) : Int) else 0
theorem og_sl {B : Nat} {w : World} {v : Value} {LL : List (List Int)} (h : Od.Og B w v LL) : ∃ a c, v = .slice a LL.length c := by
  obtain ⟨US, h1, h2, h3⟩ := h
  exact own_l h2
set_option maxHeartbeats 4000000 in
theorem most_any (J : Value) (RR : List (List Int)) (FR : List Bool) (AP : List P2) (w : World) (hJ : Jb w J RR FR AP) (h1 : RR.length ≤ 1000) (h2 : ∀ L ∈ RR, L.length ≤ 1000) (h3 : AP.length ≤ 1000) :
    Calls Try.prog 10 #[J] w fun e w' => e = .returned (.int .i64 (mostN RR FR AP)) ∧ Keep w w' := by
  have TR := hide (fun (w' : World) (hk : Keep w w') => jright_any J RR FR AP w' (hJ.keep hk) h1 h2 h3)
  have HJ := hide hJ
  obtain ⟨vr, vf, va, rfl, hR, hF, hA⟩ := hJ
  have J0 : Jc w.heap.size vr vf va (w.alloc (.cells #[vr, vf, va] 26)) := ⟨box_c w [vr, vf, va] _ 0 _ rfl, box_c w [vr, vf, va] _ 1 _ rfl, box_c w [vr, vf, va] _ 2 _ rfl⟩
  have K0 := (Keep.refl w).alloc (.cells #[vr, vf, va] 26)
  have HM : Hid (mostN RR FR AP = if jobR RR FR AP = true then (((2 ^ AP.length * ((osN RR FR 0).length * (osN RR FR 1).length)) * (AP.length + 1) + 1 : Nat) : Int) else 0) := hide rfl
  cases hB : jobR RR FR AP with
  | false =>
    rw [hB] at TR HM
    have HM2 : Hid (mostN RR FR AP = 0) := hide (by rw [unhide HM]; rfl)
    rw [unhide HM2]
    have CK := hide (fun (w' : World) (hk : Keep (w.alloc (.cells #[vr, vf, va] 26)) w') => J0.keep hk)
    have EK := hide (fun (w' : World) (hk : Keep (w.alloc (.cells #[vr, vf, va] 26)) w') => K0.trans hk)
    obtain ⟨ar, cr, rfl, -, -⟩ := hR
    obtain ⟨af, cf, rfl, -⟩ := hF
    obtain ⟨aa, ca, rfl, -, -⟩ := hA
    obtain ⟨c0, c1, c2⟩ := unhide CK _ (Keep.refl _)
    clear HM HM2 HJ J0 K0 hB h1 h2 h3
    generalize RR.length = m at *
    generalize FR.length = fl at *
    generalize AP.length = al at *
    go_enter Try.func10, Try.ntmps10
    go_wp2_with fail
    (refine ((unhide TR) _ (unhide EK _ (Keep.refl _))).mono ?_; rintro e w2 ⟨rfl, hk9⟩; have K2 := hide hk9; clear hk9)
    go_wp2_with fail
    go_ret
    exact ⟨rfl, unhide EK _ (unhide K2)⟩
  | true =>
    have hrt := rt_of hB
    rw [hB] at TR HM
    have TO := hide (fun (r : Nat) (hr : r ≤ 1000) (w' : World) (hk : Keep w w') => ordersOf_any _ RR FR AP r w' ((unhide HJ).keep hk) hrt hr)
    have l0 := osN_len hrt 0
    have l1 := osN_len hrt 1
    have l2 := hrt.few
    have HX : Hid (RR.length = 1 → (osN RR FR 1).length = 1) := hide (fun h => by unfold osN; rw [if_neg (by omega), Od.rowsN_len])
    have hrr := hrt.rows
    have HM2 : Hid (mostN RR FR AP = (((2 ^ AP.length * ((osN RR FR 0).length * (osN RR FR 1).length)) * (AP.length + 1) + 1 : Nat) : Int)) := hide (by rw [unhide HM]; rfl)
    rw [unhide HM2]
    have HL : Hid (∀ r : Nat, r < 2 → (osN RR FR r).length = if r = 0 then (osN RR FR 0).length else (osN RR FR 1).length) := hide (fun r hr => by
      rcases (by omega : r = 0 ∨ r = 1) with rfl | rfl <;> simp)
    have CK := hide (fun (w' : World) (hk : Keep (w.alloc (.cells #[vr, vf, va] 26)) w') => J0.keep hk)
    have EK := hide (fun (w' : World) (hk : Keep (w.alloc (.cells #[vr, vf, va] 26)) w') => K0.trans hk)
    obtain ⟨ar, cr, rfl, -, -⟩ := hR
    obtain ⟨af, cf, rfl, -⟩ := hF
    obtain ⟨aa, ca, rfl, -, -⟩ := hA
    obtain ⟨c0, c1, c2⟩ := unhide CK _ (Keep.refl _)
    clear HM HM2 HJ J0 K0 hB h1 h2 h3
    generalize AP.length = al at *
    have hP : (2 : Nat) ^ al ≤ 65536 := Nat.pow_le_pow_right (by decide) l2
    have hP1 : (2 : Int) ^ al = ((2 ^ al : Nat) : Int) := by push_cast; rfl
    obtain ⟨P, hPP⟩ : ∃ P : Nat, 2 ^ al = P := ⟨_, rfl⟩
    rw [hPP] at hP hP1 ⊢
    have e0 : wrap64 ((2 : Int) ^ al) = (P : Int) := by rw [hP1]; exact w64 (by omega) (by omega)
    clear hP1 hPP
    obtain ⟨m0, hm0⟩ : ∃ n, (osN RR FR 0).length = n := ⟨_, rfl⟩
    obtain ⟨m1, hm1⟩ : ∃ n, (osN RR FR 1).length = n := ⟨_, rfl⟩
    rw [hm0] at l0 HL ⊢
    rw [hm1] at l1 HX HL ⊢
    clear hm0 hm1
    go_enter Try.func10, Try.ntmps10
    go_wp2_with fail
    (refine ((unhide TR) _ (unhide EK _ (Keep.refl _))).mono ?_; rintro e w2 ⟨rfl, hk9⟩; have K2 := hide hk9; clear hk9)
    obtain ⟨c0, c1, c2⟩ := unhide CK _ (unhide K2)
    go_wp2_with fail
    simp only [e0]
    generalize RR.length = m at *
    generalize FR.length = fl at *
    have hlm : ∀ r, r ≤ m → (if r = 0 then P else if r = 1 then P * m0 else P * (m0 * m1)) ≤ 65536 * 576 := fun r _ => by
      have h1 : P * m0 ≤ 65536 * 24 := Nat.mul_le_mul hP l0
      have h2 : m0 * m1 ≤ 24 * 24 := Nat.mul_le_mul l0 l1
      have h3 : P * (m0 * m1) ≤ 65536 * 576 := Nat.mul_le_mul hP h2
      split
      · omega
      · split <;> omega
    have HLM := hide hlm
    clear hlm
    go_loopw [3, 15] (fun vp vi wr => ∃ k : Nat, k ≤ m ∧ vi = .int .i64 (k : Int) ∧ vp = .int .i64 ((if k = 0 then P else if k = 1 then P * m0 else P * (m0 * m1) : Nat) : Int) ∧ Hid (Keep w2 wr)) (fun vp vi _ => m - (intOf vi).toNat)
    case atStart => exact ⟨0, Nat.zero_le _, rfl, rfl, hide (Keep.refl _)⟩
    case round =>
      obtain ⟨k, hk, rfl, rfl, KW⟩ := hrel
      have bk := unhide HLM k hk
      by_cases hlt : k < m
      · have li : (k : Int) < (m : Int) := by omega
        have bk1 := unhide HLM (k + 1) hlt
        have hn : (if k + 1 = 0 then P else if k + 1 = 1 then P * m0 else P * (m0 * m1)) = (if k = 0 then P else if k = 1 then P * m0 else P * (m0 * m1)) * (if k = 0 then m0 else m1) := by
          rcases (by omega : k = 0 ∨ k = 1) with rfl | rfl
          · simp
          · simp [Nat.mul_assoc]
        have ho := unhide HL k (by omega)
        obtain ⟨c0, c1, c2⟩ := unhide CK _ ((unhide K2).trans (unhide KW))
        have KA := hide (unhide EK _ ((unhide K2).trans (unhide KW)))
        generalize (if k = 0 then P else if k = 1 then P * m0 else P * (m0 * m1)) = x at hn bk ⊢
        obtain ⟨y, hy⟩ : ∃ y, (if k + 1 = 0 then P else if k + 1 = 1 then P * m0 else P * (m0 * m1)) = y := ⟨_, rfl⟩
        rw [hy] at hn bk1
        have HY := hide hy
        clear hy
        generalize (if k = 0 then m0 else m1) = z at hn ho
        have e1 : wrap64 ((x : Int) * (z : Int)) = (y : Int) := by rw [← Int.natCast_mul, ← hn]; exact w64 (by omega) (by omega)
        have HO := hide ho
        clear hn ho bk bk1
        go_wp2_with fail
        (refine ((unhide TO) k (by omega) _ (unhide KA)).mono ?_; rintro e w5 ⟨v5, rfl, hk9, ho9⟩; have K5 := hide ((unhide KW).trans hk9); obtain ⟨a5, c5, rfl⟩ := og_sl ho9; clear hk9 ho9)
        rw [unhide HO]
        have E1 := hide e1
        clear e1
        go_wp2_with fail
        go_roundw
        case rel => exact ⟨k + 1, hlt, by go_num, by rw [unhide HY, unhide E1], K5⟩
        case measure => simp [intOf]; omega
      · have li : ¬ (k : Int) < (m : Int) := by omega
        obtain rfl : k = m := by omega
        have hx : (if k = 0 then P else if k = 1 then P * m0 else P * (m0 * m1)) = P * (m0 * m1) := by
          rcases hrr with rfl | rfl
          · rw [(unhide HX) rfl]; simp
          · simp
        rw [hx] at bk ⊢
        obtain ⟨c0, c1, c2⟩ := unhide CK _ ((unhide K2).trans (unhide KW))
        obtain ⟨x, hx9⟩ : ∃ x, P * (m0 * m1) = x := ⟨_, rfl⟩
        have HX9 := hide hx9
        rw [hx9] at bk ⊢
        clear hx9 hx
        have hb9 : x * (al + 1) ≤ 65536 * 576 * 17 := Nat.mul_le_mul bk (by omega)
        have e4 : (x : Int) * ((al : Int) + 1) = ((x * (al + 1) : Nat) : Int) := by rw [Int.natCast_mul, Int.natCast_add]; rfl
        have EE : Hid (wrap64 (wrap64 ((x : Int) * ((al : Int) + 1)) + 1) = ((x * (al + 1) + 1 : Nat) : Int)) := hide (by
          rw [e4]
          generalize x * (al + 1) = y at hb9
          have hb8 : (y : Int) ≤ 641728512 := by omega
          clear hb9 e4
          rw [w64 (n := (y : Int)) (by omega) (by omega), w64 (by omega) (by omega)]
          omega)
        clear e4 hb9
        go_wp2_with fail
        try go_ret
        refine ⟨?_, unhide EK _ ((unhide K2).trans (unhide KW))⟩
        show Ending.returned (Value.int IntKind.i64 (wrap64 (wrap64 ((x : Int) * ((al : Int) + 1)) + 1))) = _
        rw [unhide EE, ← unhide HX9]
        first | rfl | (push_cast; rfl) | simp
end Gp
end Go.Proofs.Ytakandlehneciaa
