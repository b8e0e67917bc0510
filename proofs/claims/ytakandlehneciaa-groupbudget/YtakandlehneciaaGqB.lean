/- Package group: the document's orders, and how many steps there may be. -/
import Derived.Test.YtakandlehneciaaGpX
import Derived.Test.YtakandlehneciaaOdH
import Derived.Test.YtakandlehneciaaGqA
namespace Go.Proofs.Ytakandlehneciaa
open Go.RowKit
attribute [local go_sem ↓] Go.wp_at_zero Go.wp_at_succ
set_option linter.unusedVariables false
set_option linter.unusedSimpArgs false
set_option maxRecDepth 10000
namespace Gp
open Pa
set_option maxHeartbeats 2000000 in
theorem rorders15_any (J : Value) (RR : List (List Int)) (FR : List Bool) (AP : List P2) (r : Nat) (w : World) (hJ : Jb w J RR FR AP) (h : Rt RR FR AP) (hr : r ≤ 1000) :
    Calls Try.prog 22 #[J, .int .i64 (r : Int)] w (Od.Wq (osN RR FR r) w) := by
  obtain ⟨vr, vf, va, rfl, hR, hF, hA⟩ := hJ
  have J0 : Jc w.heap.size vr vf va (w.alloc (.cells #[vr, vf, va] 26)) := ⟨box_c w [vr, vf, va] _ 0 _ rfl, box_c w [vr, vf, va] _ 1 _ rfl, box_c w [vr, vf, va] _ 2 _ rfl⟩
  have K0 := (Keep.refl w).alloc (.cells #[vr, vf, va] 26)
  have hS : ∀ w1, Keep w w1 → ∀ e w2, Od.Wq (osN RR FR r) w1 e w2 → Od.Wq (osN RR FR r) w e w2 := fun w1 hk e w2 ⟨va9, vc9, e1, k1, o1⟩ => ⟨va9, vc9, e1, hk.trans k1, o1⟩
  obtain ⟨ar, cr, rfl, -, hR⟩ := hR
  obtain ⟨af, cf, rfl, hF⟩ := hF
  obtain ⟨aa, ca, rfl, -, -⟩ := hA
  by_cases hlt : r < RR.length
  · obtain ⟨ad, u, rfl, c0, hu⟩ := hR r hlt
    obtain ⟨ua, uc, rfl, -⟩ := hu
    obtain ⟨af0, rfl, f0⟩ := hF r (by rw [h.free]; exact hlt)
    have l4 := (h.row _ (getD_mem (z := []) hlt)).2.1
    have hos : osN RR FR r = Od.rowsN ((RR.getD r []).length : Int) (if FR.getD r false then (Od.cnt ((RR.getD r []).length : Int)).toNat else min (Od.cnt ((RR.getD r []).length : Int)).toNat 1) := by unfold osN; rw [if_pos hlt]
    have T := hide (fun (w' : World) => Od.rrows_any (FR.getD r false) ((RR.getD r []).length : Int) (by omega) w')
    rw [← hos] at T
    clear hos
    have HS := hide hS
    obtain ⟨c00, c01, c02⟩ := J0
    have hfl := h.free
    clear hS hR hF h
    generalize osN RR FR r = OS at T HS ⊢
    generalize (RR.getD r []).length = n at T c0 l4 ⊢
    generalize FR.getD r false = fb at T f0 ⊢
    have CK := hide (fun (w' : World) (hk : Keep (w.alloc (.cells #[.slice (some ad) RR.length cr, .slice (some af0) FR.length cf, .slice aa AP.length ca] 26)) w') => (⟨kc hk c00, kc hk c01, kc (K0.trans hk) c0, kc (K0.trans hk) f0⟩ : w'.cell? ⟨w.heap.size, 0, none⟩ = some (.slice (some ad) RR.length cr) ∧ w'.cell? ⟨w.heap.size, 1, none⟩ = some (.slice (some af0) FR.length cf) ∧ w'.cell? (ad.add r) = some (.slice ua n uc) ∧ w'.cell? (af0.add r) = some (.bool fb)))
    have EK := hide (fun (w' : World) (hk : Keep (w.alloc (.cells #[.slice (some ad) RR.length cr, .slice (some af0) FR.length cf, .slice aa AP.length ca] 26)) w') => K0.trans hk)
    have l0 : (0 : Int) ≤ (r : Int) := by omega
    have l1 : (r : Int) < (RR.length : Int) := by omega
    have l2 : (r : Int) < (FR.length : Int) := by omega
    have l3 : ¬ (RR.length : Int) ≤ (r : Int) := by omega
    clear hlt c02 c0 f0 K0 hfl
    generalize RR.length = m at *
    generalize FR.length = fl at *
    generalize AP.length = al at *
    go_enter Try.func22, Try.ntmps22
    go_upto_region 3 with fail
    generalize w.alloc (.cells #[.slice (some ad) m cr, .slice (some af0) fl cf, .slice aa al ca] 26) = w1 at CK EK ⊢
    refine wp_region_held_drew (S := (fun w' => w'.cell? ⟨w.heap.size, 0, none⟩ = some (.slice (some ad) m cr) ∧ w'.cell? ⟨w.heap.size, 1, none⟩ = some (.slice (some af0) fl cf) ∧ w'.cell? (ad.add r) = some (.slice ua n uc) ∧ w'.cell? (af0.add r) = some (.bool fb))) (by kernel_rfl) (by exact unhide CK _ (by repeat (first | apply Keep.drew | exact Keep.refl _))) (fun hHeld => ?_)
    refine wpAnyH_take (i := 0) (v := ?_) rfl (by kernel_rfl) (by kernel_rfl) (by kernel_rfl) (fun _ _ _ h => h) (Or.inl ⟨by rfl, ?_⟩) hHeld ?_
    rotate_left
    · intro w hSw
      try dsimp only at hSw
      go_simp
      try with_reducible rfl
    show wpAnyH _ _ _ _ _ _ _ (Act.put _ (some 12) _) _
    try simp only [Act.put, List.setIfInBounds_toArray, List.set_cons_zero, List.set_cons_succ]
    refine wpAnyH_take (i := 1) (v := ?_) rfl (by kernel_rfl) (by kernel_rfl) (by kernel_rfl) (fun _ _ _ h => h) (Or.inl ⟨by rfl, ?_⟩) hHeld ?_
    rotate_left
    · intro w hSw
      try dsimp only at hSw
      go_simp
      try with_reducible rfl
    show wpAnyH _ _ _ _ _ _ _ (Act.put _ (some 13) _) _
    try simp only [Act.put, List.setIfInBounds_toArray, List.set_cons_zero, List.set_cons_succ]
    refine wpAnyH_take (i := 2) (v := ?_) rfl (by kernel_rfl) (by kernel_rfl) (by kernel_rfl) (fun _ _ _ h => h) (Or.inl ⟨by rfl, ?_⟩) hHeld ?_
    rotate_left
    · intro w hSw
      try dsimp only at hSw
      go_simp
      try with_reducible rfl
    show wpAnyH _ _ _ _ _ _ _ (Act.put _ (some 14) _) _
    try simp only [Act.put, List.setIfInBounds_toArray, List.set_cons_zero, List.set_cons_succ]
    refine wpAnyH_take (i := 3) (v := ?_) rfl (by kernel_rfl) (by kernel_rfl) (by kernel_rfl) (fun _ _ _ h => h) (Or.inl ⟨by rfl, ?_⟩) hHeld ?_
    rotate_left
    · intro w hSw
      try dsimp only at hSw
      go_simp
      try with_reducible rfl
    show wpAnyH _ _ _ _ _ _ _ (Act.put _ (some 15) _) _
    try simp only [Act.put, List.setIfInBounds_toArray, List.set_cons_zero, List.set_cons_succ]
    refine wpAnyH_take (i := 4) (v := ?_) rfl (by kernel_rfl) (by kernel_rfl) (by kernel_rfl) (fun _ _ _ h => h) (Or.inl ⟨by rfl, ?_⟩) hHeld ?_
    rotate_left
    · intro w hSw
      try dsimp only at hSw
      go_simp
      try with_reducible rfl
    show wpAnyH _ _ _ _ _ _ _ (Act.put _ (some 16) _) _
    try simp only [Act.put, List.setIfInBounds_toArray, List.set_cons_zero, List.set_cons_succ]
    refine wpAnyH_take (i := 5) (v := ?_) rfl (by kernel_rfl) (by kernel_rfl) (by kernel_rfl) (fun _ _ _ h => h) (Or.inl ⟨by rfl, ?_⟩) hHeld ?_
    rotate_left
    · intro w hSw
      try dsimp only at hSw
      go_simp
      try with_reducible rfl
    show wpAnyH _ _ _ _ _ _ _ (Act.put _ (some 17) _) _
    try simp only [Act.put, List.setIfInBounds_toArray, List.set_cons_zero, List.set_cons_succ]
    refine wpAnyH_take (i := 6) (v := ?_) rfl (by kernel_rfl) (by kernel_rfl) (by kernel_rfl) (fun _ _ _ h => h) (Or.inl ⟨by rfl, ?_⟩) hHeld ?_
    rotate_left
    · intro w hSw
      try dsimp only at hSw
      go_simp
      try with_reducible rfl
    show wpAnyH _ _ _ _ _ _ _ (Act.put _ (some 18) _) _
    try simp only [Act.put, List.setIfInBounds_toArray, List.set_cons_zero, List.set_cons_succ]
    refine wpAnyH_take (i := 7) (v := ?_) rfl (by kernel_rfl) (by kernel_rfl) (by kernel_rfl) (fun _ _ _ h => h) (Or.inl ⟨by rfl, ?_⟩) hHeld ?_
    rotate_left
    · intro w hSw
      try dsimp only at hSw
      go_simp
      try with_reducible rfl
    show wpAnyH _ _ _ _ _ _ _ (Act.put _ (some 19) _) _
    try simp only [Act.put, List.setIfInBounds_toArray, List.set_cons_zero, List.set_cons_succ]
    refine wpAnyH_take (i := 8) (v := ?_) rfl (by kernel_rfl) (by kernel_rfl) (by kernel_rfl) (fun _ _ _ h => h) (Or.inl ⟨by rfl, ?_⟩) hHeld ?_
    rotate_left
    · intro w hSw
      try dsimp only at hSw
      go_simp
      try with_reducible rfl
    show wpAnyH _ _ _ _ _ _ _ (Act.put _ (some 20) _) _
    try simp only [Act.put, List.setIfInBounds_toArray, List.set_cons_zero, List.set_cons_succ]
    refine wpAnyH_take (i := 9) (v := ?_) rfl (by kernel_rfl) (by kernel_rfl) (by kernel_rfl) (fun _ _ _ h => h) (Or.inl ⟨by rfl, ?_⟩) hHeld ?_
    rotate_left
    · intro w hSw
      try dsimp only at hSw
      go_simp
      try with_reducible rfl
    show wpAnyH _ _ _ _ _ _ _ (Act.put _ (some 21) _) _
    try simp only [Act.put, List.setIfInBounds_toArray, List.set_cons_zero, List.set_cons_succ]
    refine wpAnyH_take (i := 10) (v := ?_) rfl (by kernel_rfl) (by kernel_rfl) (by kernel_rfl) (fun _ _ _ h => h) (Or.inl ⟨by rfl, ?_⟩) hHeld ?_
    rotate_left
    · intro w hSw
      try dsimp only at hSw
      go_simp
      try with_reducible rfl
    show wpAnyH _ _ _ _ _ _ _ (Act.put _ (some 22) _) _
    try simp only [Act.put, List.setIfInBounds_toArray, List.set_cons_zero, List.set_cons_succ]
    refine wpAnyH_ready (rs := [11]) (by kernel_rfl) (by simp) ?_
    refine AllReadyH.cons rfl (fun K hK => ?_) AllReadyH.nil
    go_simp
    clear hHeld
    (refine ((unhide T) _).mono ?_; rintro e w5 ⟨va5, vc5, rfl, hk9, ho9⟩)
    try go_wp2_with fail
    refine hK.out _ _ ?_ (fun hHeld => ?_)
    · exact unhide CK _ (((Keep.refl _).drew).trans hk9)
    clear hK K
    try simp only [Act.put, List.setIfInBounds_toArray, List.set_cons_zero, List.set_cons_succ]
    refine wpAnyH_take (i := 12) (v := ?_) rfl (by kernel_rfl) (by kernel_rfl) (by kernel_rfl) (fun _ _ _ h => h) (Or.inl ⟨by rfl, ?_⟩) hHeld ?_
    rotate_left
    · intro w hSw
      try dsimp only at hSw
      go_simp
      try with_reducible rfl
    show wpAnyH _ _ _ _ _ _ _ (Act.put _ (some 4) _) _
    try simp only [Act.put, List.setIfInBounds_toArray, List.set_cons_zero, List.set_cons_succ]
    refine wpAnyH_done (by kernel_rfl) ?_ _
    clear hHeld
    go_wp2_with fail
    try go_ret
    exact (unhide HS) _ (unhide EK _ ((Keep.refl _).drew)) _ _ ⟨_, _, rfl, by repeat (first | exact hk9 | apply Keep.drew), ho9.1, by first | exact ho9.2 | exact ho9.2.keep (by repeat (first | apply Keep.drew | exact Keep.refl _))⟩
  · have hos : osN RR FR r = Od.rowsN 0 1 := by unfold osN; rw [if_neg hlt]
    have hos1 : osN RR FR r = [[]] := by rw [hos]; decide
    have HS := hide hS
    have EK := hide (fun (w' : World) (hk : Keep (w.alloc (.cells #[.slice ar RR.length cr, .slice af FR.length cf, .slice aa AP.length ca] 26)) w') => K0.trans hk)
    obtain ⟨c00, c01, c02⟩ := J0
    have l3 : (RR.length : Int) ≤ (r : Int) := by omega
    rw [hos1] at HS ⊢
    clear hS hR hF h hlt hos hos1 K0 c01 c02
    generalize RR.length = m at *
    generalize FR.length = fl at *
    generalize AP.length = al at *
    go_enter Try.func22, Try.ntmps22
    go_wp2_with fail
    try go_ret
    have A1 := als_at [.cells #[.slice ar m cr, .slice af fl cf, .slice aa al ca] 26, .cells #[] 3, .cells #[.slice (some ⟨w.heap.size + 1, 0, none⟩) 0 0] 49] w 1 _ rfl
    have A2 := als_at [.cells #[.slice ar m cr, .slice af fl cf, .slice aa al ca] 26, .cells #[] 3, .cells #[.slice (some ⟨w.heap.size + 1, 0, none⟩) 0 0] 49] w 2 _ rfl
    simp only [als, List.foldl] at A1 A2
    refine ⟨some ⟨w.heap.size + 1 + 1, 0, none⟩, 1, rfl, (((Keep.refl w).alloc _).alloc _).alloc _, Nat.le_refl _, fun k hk => ?_⟩
    obtain rfl : k = 0 := by simp at hk; omega
    refine ⟨_, .slice (some ⟨w.heap.size + 1, 0, none⟩) 0 0, rfl, ?_, .inr ⟨w.heap.size + 1, 0, #[], rfl, A1, fun j hj => by simp at hj⟩⟩
    simp only [Addr.add, World.cell?, if_true]
    rw [A2]
    rfl
set_option maxHeartbeats 4000000 in
theorem rmost15_any (J : Value) (RR : List (List Int)) (FR : List Bool) (AP : List P2) (w : World) (hJ : Jb w J RR FR AP) (h1 : RR.length ≤ 1000) (h2 : ∀ L ∈ RR, L.length ≤ 1000) (h3 : AP.length ≤ 1000) :
    Calls Try.prog 16 #[J] w fun e w' => e = .returned (.int .i64 (mostN RR FR AP)) ∧ Keep w w' := by
  have TR := hide (fun (w' : World) (hk : Keep w w') => rright15_any J RR FR AP w' (hJ.keep hk) h1 h2 h3)
  have HJ := hide hJ
  obtain ⟨vr, vf, va, rfl, hR, hF, hA⟩ := hJ
  have J0 : Jc w.heap.size vr vf va (w.alloc (.cells #[vr, vf, va] 26)) := ⟨box_c w [vr, vf, va] _ 0 _ rfl, box_c w [vr, vf, va] _ 1 _ rfl, box_c w [vr, vf, va] _ 2 _ rfl⟩
  have K0 := (Keep.refl w).alloc (.cells #[vr, vf, va] 26)
  have HM : Hid (mostN RR FR AP = if jobR RR FR AP = true then (((2 ^ AP.length * ((osN RR FR 0).length * (osN RR FR 1).length)) * (AP.length + 1) + 1 : Nat) : Int) else 0) := hide rfl
  cases hB : jobR RR FR AP with
  | false =>
    rw [hB] at TR HM
    have HM2 : Hid (mostN RR FR AP = 0) := hide (by rw [unhide HM]; rfl)
    rw [unhide HM2]
    have CK := hide (fun (w' : World) (hk : Keep (w.alloc (.cells #[vr, vf, va] 26)) w') => J0.keep hk)
    have EK := hide (fun (w' : World) (hk : Keep (w.alloc (.cells #[vr, vf, va] 26)) w') => K0.trans hk)
    obtain ⟨ar, cr, rfl, -, -⟩ := hR
    obtain ⟨af, cf, rfl, -⟩ := hF
    obtain ⟨aa, ca, rfl, -, -⟩ := hA
    obtain ⟨c0, c1, c2⟩ := unhide CK _ (Keep.refl _)
    clear HM HM2 HJ J0 K0 hB h1 h2 h3
    generalize RR.length = m at *
    generalize FR.length = fl at *
    generalize AP.length = al at *
    go_enter Try.func16, Try.ntmps16
    go_wp2_with fail
    (refine ((unhide TR) _ (unhide EK _ (Keep.refl _))).mono ?_; rintro e w2 ⟨rfl, hk9⟩; have K2 := hide hk9; clear hk9)
    go_wp2_with fail
    go_ret
    exact ⟨rfl, unhide EK _ (unhide K2)⟩
  | true =>
    have hrt := rt_of hB
    rw [hB] at TR HM
    have TO := hide (fun (r : Nat) (hr : r ≤ 1000) (w' : World) (hk : Keep w w') => rorders15_any _ RR FR AP r w' ((unhide HJ).keep hk) hrt hr)
    have l0 := osN_len hrt 0
    have l1 := osN_len hrt 1
    have l2 := hrt.few
    have hrr := hrt.rows
    have HM2 : Hid (mostN RR FR AP = (((2 ^ AP.length * ((osN RR FR 0).length * (osN RR FR 1).length)) * (AP.length + 1) + 1 : Nat) : Int)) := hide (by rw [unhide HM]; rfl)
    rw [unhide HM2]
    have CK := hide (fun (w' : World) (hk : Keep (w.alloc (.cells #[vr, vf, va] 26)) w') => J0.keep hk)
    have EK := hide (fun (w' : World) (hk : Keep (w.alloc (.cells #[vr, vf, va] 26)) w') => K0.trans hk)
    obtain ⟨ar, cr, rfl, -, -⟩ := hR
    obtain ⟨af, cf, rfl, -⟩ := hF
    obtain ⟨aa, ca, rfl, -, -⟩ := hA
    obtain ⟨c0, c1, c2⟩ := unhide CK _ (Keep.refl _)
    clear HM HM2 HJ J0 K0 hB h1 h2 h3
    generalize AP.length = al at *
    have hP : ∀ i, i ≤ al → (2 : Nat) ^ i ≤ 65536 := fun i hi => Nat.pow_le_pow_right (by decide) (by omega : i ≤ 16)
    have TO0 := hide (fun (w' : World) (hk : Keep w w') => unhide TO 0 (by omega) w' hk)
    have TO1 := hide (fun (w' : World) (hk : Keep w w') => unhide TO 1 (by omega) w' hk)
    clear TO
    unfold Od.Wq at TO0 TO1
    obtain ⟨m0, hm0⟩ : ∃ n, (osN RR FR 0).length = n := ⟨_, rfl⟩
    obtain ⟨m1, hm1⟩ : ∃ n, (osN RR FR 1).length = n := ⟨_, rfl⟩
    rw [hm0] at l0 TO0 ⊢
    rw [hm1] at l1 TO1 ⊢
    clear hm0 hm1
    go_enter Try.func16, Try.ntmps16
    go_wp2_with fail
    (refine ((unhide TR) _ (unhide EK _ (Keep.refl _))).mono ?_; rintro e w2 ⟨rfl, hk9⟩; have K2 := hide hk9; clear hk9)
    clear c0 c1 c2
    have S2 : Hid (∀ w', Keep w2 w' → w'.cell? ⟨w.heap.size, 0, none⟩ = some (.slice ar RR.length cr) ∧ w'.cell? ⟨w.heap.size, 1, none⟩ = some (.slice af FR.length cf) ∧ w'.cell? ⟨w.heap.size, 2, none⟩ = some (.slice aa al ca)) := hide (fun w' hk => unhide CK _ ((unhide K2).trans hk))
    have K3 := hide (fun w' (hk : Keep w2 w') => unhide EK _ ((unhide K2).trans hk))
    clear CK EK K2
    generalize RR.length = m at *
    generalize FR.length = fl at *
    generalize w.heap.size = b at *
    go_upto_region 3 with fail
    refine wp_region_held_drew (S := (fun w' => w'.cell? ⟨b, 0, none⟩ = some (.slice ar m cr) ∧ w'.cell? ⟨b, 1, none⟩ = some (.slice af fl cf) ∧ w'.cell? ⟨b, 2, none⟩ = some (.slice aa al ca))) (by kernel_rfl) (by exact unhide S2 _ ((Keep.refl _).drew)) (fun hHeld => ?_)
    refine wpAnyH_take (i := 0) (v := ?_) rfl (by kernel_rfl) (by kernel_rfl) (by kernel_rfl) (fun _ _ _ h => h) (Or.inl ⟨by rfl, ?_⟩) hHeld ?_
    rotate_left
    · intro w hSw
      try dsimp only at hSw
      go_simp
      try with_reducible rfl
    show wpAnyH _ _ _ _ _ _ _ (Act.put _ (some 8) _) _
    try simp only [Act.put, List.setIfInBounds_toArray, List.set_cons_zero, List.set_cons_succ]
    refine wpAnyH_take (i := 3) (v := ?_) rfl (by kernel_rfl) (by kernel_rfl) (by kernel_rfl) (fun _ _ _ h => h) (Or.inl ⟨by rfl, ?_⟩) hHeld ?_
    rotate_left
    · intro w hSw
      try dsimp only at hSw
      go_simp
      try with_reducible rfl
    show wpAnyH _ _ _ _ _ _ _ (Act.put _ (some 11) _) _
    try simp only [Act.put, List.setIfInBounds_toArray, List.set_cons_zero, List.set_cons_succ]
    refine wpAnyH_ready (rs := [1]) (by kernel_rfl) (by simp) ?_
    refine AllReadyH.cons rfl (fun K hK => ?_) AllReadyH.nil
    go_simp
    clear hHeld
    (refine ((unhide TO0) _ (unhide K3 _ ((Keep.refl _).drew))).mono ?_; rintro e w3 ⟨va3, vc3, rfl, hk3, -, -⟩)
    try go_wp2_with fail
    refine hK.out _ _ ?_ (fun hHeld => ?_)
    · exact unhide S2 _ (((Keep.refl _).drew).trans hk3)
    clear hK K
    try simp only [Act.put, List.setIfInBounds_toArray, List.set_cons_zero, List.set_cons_succ]
    refine wpAnyH_take (i := 2) (v := ?_) rfl (by kernel_rfl) (by kernel_rfl) (by kernel_rfl) (fun _ _ _ h => h) (Or.inl ⟨by rfl, ?_⟩) hHeld ?_
    rotate_left
    · intro w hSw
      try dsimp only at hSw
      go_simp
      try with_reducible rfl
    show wpAnyH _ _ _ _ _ _ _ (Act.put _ (some 10) _) _
    try simp only [Act.put, List.setIfInBounds_toArray, List.set_cons_zero, List.set_cons_succ]
    refine wpAnyH_ready (rs := [4]) (by kernel_rfl) (by simp) ?_
    refine AllReadyH.cons rfl (fun K hK => ?_) AllReadyH.nil
    go_simp
    clear hHeld
    (refine ((unhide TO1) _ (unhide K3 _ (((Keep.refl _).drew).trans hk3))).mono ?_; rintro e w4 ⟨va4, vc4, rfl, hk4, -, -⟩)
    try go_wp2_with fail
    refine hK.out _ _ ?_ (fun hHeld => ?_)
    · exact unhide S2 _ ((((Keep.refl _).drew).trans hk3).trans hk4)
    clear hK K
    try simp only [Act.put, List.setIfInBounds_toArray, List.set_cons_zero, List.set_cons_succ]
    have hP0 : m0 * m1 ≤ 24 * 24 := Nat.mul_le_mul l0 l1
    have hX : Hid (∀ i, i ≤ al → m0 * m1 * 2 ^ i ≤ 576 * 65536) := hide (fun i hi => Nat.mul_le_mul hP0 (hP i hi))
    have K4 := hide (((Keep.refl w2).drew.trans hk3).trans hk4)
    refine wpAnyH_take (i := 5) (v := ?_) rfl (by kernel_rfl) (by kernel_rfl) (by kernel_rfl) (fun _ _ _ h => h) (Or.inl ⟨by rfl, ?_⟩) hHeld ?_
    rotate_left
    · intro w hSw
      try dsimp only at hSw
      go_simp
      try with_reducible rfl
    show wpAnyH _ _ _ _ _ _ _ (Act.put _ (some 13) _) _
    try simp only [Act.put, List.setIfInBounds_toArray, List.set_cons_zero, List.set_cons_succ]
    refine wpAnyH_take (i := 6) (v := ?_) rfl (by kernel_rfl) (by kernel_rfl) (by kernel_rfl) (fun _ _ _ h => h) (Or.inl ⟨by rfl, ?_⟩) hHeld ?_
    rotate_left
    · intro w hSw
      try dsimp only at hSw
      go_simp
      try with_reducible rfl
    show wpAnyH _ _ _ _ _ _ _ (Act.put _ (some 14) _) _
    try simp only [Act.put, List.setIfInBounds_toArray, List.set_cons_zero, List.set_cons_succ]
    refine wpAnyH_take (i := 7) (v := ?_) rfl (by kernel_rfl) (by kernel_rfl) (by kernel_rfl) (fun _ _ _ h => h) (Or.inl ⟨by rfl, ?_⟩) hHeld ?_
    rotate_left
    · intro w hSw
      try dsimp only at hSw
      go_simp
      try with_reducible rfl
    show wpAnyH _ _ _ _ _ _ _ (Act.put _ (some 3) _) _
    try simp only [Act.put, List.setIfInBounds_toArray, List.set_cons_zero, List.set_cons_succ]
    refine wpAnyH_done (by kernel_rfl) ?_ _
    clear hHeld
    obtain ⟨X, hXX⟩ : ∃ X : Nat → Nat, ∀ i, X i = m0 * m1 * 2 ^ i := ⟨fun i => m0 * m1 * 2 ^ i, fun _ => rfl⟩
    have HX : Hid (∀ i, i ≤ al → X i ≤ 576 * 65536) := hide (fun i hi => by rw [hXX]; exact unhide hX i hi)
    have HX1 : Hid (∀ i, X (i + 1) = X i * 2) := hide (fun i => by rw [hXX, hXX, Nat.pow_succ]; simp only [Nat.mul_assoc])
    have HX2 : Hid (2 ^ al * (m0 * m1) * (al + 1) + 1 = X al * (al + 1) + 1) := hide (by rw [hXX, Nat.mul_comm (m0 * m1)])
    have h0 : m0 * m1 = X 0 := by rw [hXX]; simp
    have hc0 : (m0 : Int) * (m1 : Int) = ((X 0 : Nat) : Int) := by rw [← h0]; push_cast; rfl
    rw [show IntKind.i64.wrap ((m0 : Int) * (m1 : Int)) = ((X 0 : Nat) : Int) from by rw [hc0, IntKind.wrap_i64]; have := unhide HX 0 (by omega); omega]
    clear hP hP0 hX hXX h0 hc0 hk3 hk4 TR TO0 TO1 l0 l1
    go_wp2_with fail
    go_loopw [3, 4] (fun vp vi wr => ∃ k : Nat, k ≤ al ∧ vi = .int .i64 (k : Int) ∧ vp = .int .i64 ((X k : Nat) : Int) ∧ Hid (Keep w2 wr)) (fun vp vi _ => al - (intOf vi).toNat)
    case atStart => exact ⟨0, Nat.zero_le _, rfl, rfl, K4⟩
    case round =>
      clear K4
      obtain ⟨k, hk, rfl, rfl, KW⟩ := hrel
      obtain ⟨c0, c1, c2⟩ := unhide S2 _ (unhide KW)
      have bk := unhide HX k hk
      by_cases hlt : k < al
      · have li : (k : Int) < (al : Int) := by omega
        have bk1 := unhide HX (k + 1) hlt
        have hn := unhide HX1 k
        obtain ⟨y, hy⟩ : ∃ y, X (k + 1) = y := ⟨_, rfl⟩
        have HY := hide hy
        rw [hy] at hn bk1
        generalize X k = x at hn bk ⊢
        have e1 : wrap64 ((x : Int) * 2) = (y : Int) := by rw [w64 (by omega) (by omega)]; omega
        have HN := hide hn
        clear hn hy e1
        go_wp2_with fail
        go_roundw
        case rel => exact ⟨k + 1, hlt, by go_num, by rw [unhide HY, unhide HN]; rfl, KW⟩
        case measure => simp [intOf]; omega
      · have li : ¬ (k : Int) < (al : Int) := by omega
        obtain rfl : k = al := by omega
        obtain ⟨x, hxx⟩ : ∃ x, X k = x := ⟨_, rfl⟩
        rw [hxx] at bk ⊢
        have hb : x * (k + 1) ≤ 576 * 65536 * 17 := Nat.mul_le_mul bk (by omega)
        have hc : (x : Int) * ((k : Int) + 1) = ((x * (k + 1) : Nat) : Int) := by push_cast; rfl
        have e1 : wrap64 ((x : Int) * ((k : Int) + 1)) = ((x * (k + 1) : Nat) : Int) := by rw [hc]; exact w64 (by omega) (by omega)
        have e9 : wrap64 ((k : Int) + 1) = (k : Int) + 1 := w64 (by omega) (by omega)
        obtain ⟨z, hz⟩ : ∃ z, x * (k + 1) = z := ⟨_, rfl⟩
        rw [hz] at hb hc e1
        have hzz : X k * (k + 1) = z := by rw [hxx]; exact hz
        have HZZ := hide hzz
        clear hz hzz hxx
        have e2 : wrap64 ((z : Int) + 1) = (((z + 1 : Nat)) : Int) := by rw [w64 (by omega) (by omega)]; push_cast; rfl
        clear hc
        go_wp2_with fail
        try go_ret
        have h2 : (((2 ^ k * (m0 * m1) * (k + 1) + 1 : Nat)) : Int) = ((z + 1 : Nat) : Int) := by rw [unhide HX2, unhide HZZ]
        push_cast at h2
        exact ⟨by rw [h2]; rfl, unhide K3 _ (unhide KW)⟩
end Gp
end Go.Proofs.Ytakandlehneciaa
