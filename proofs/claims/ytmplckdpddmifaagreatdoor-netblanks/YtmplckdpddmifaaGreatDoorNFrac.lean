/- Package net: fractions. -/
import Derived.Test.YtmplckdpddmifaaGreatDoorNSeq
namespace Go.Proofs.YtmplckdpddmifaaGreatDoor
open Go.RowKit
attribute [local go_sem ↓] Go.wp_at_zero Go.wp_at_succ
set_option linter.unusedVariables false
set_option linter.unusedSimpArgs false
set_option maxRecDepth 10000
set_option maxHeartbeats 4000000 in
theorem frac_core (E : Env) (g1 g2 b o m : Nat) (c rest : List D) (w : World) (r : List Tok) (h1 : w.cell? ⟨g1, 0, none⟩ = some (.pointer (some ⟨E.rb, 0, none⟩))) (h2 : w.cell? ⟨g2, 0, none⟩ = some (.pointer (some ⟨b, o, none⟩)))
    (N1 : Hid (¬ E.S g1)) (N2 : Hid (¬ E.S g2)) (A0 : Hid (E.A m = (b, o))) (A1 : Hid (E.A (m + 1) = (b, o + 1))) (HS : Hid (∀ b, E.S b → b < w.heap.size)) (hcm : Hid (c.length = m)) (HR : Hid (Rdr E w r)) (HL : Hid (Cel E w (c ++ [dI 0, dI 0] ++ rest))) :
    Calls Tryz.prog 66 #[.pointer (some ⟨g1, 0, none⟩), .pointer (some ⟨g2, 0, none⟩)] w (Post E w rest (m + 2) (pFrac c r)) := by
  have HK0 := hide (Keep.refl w).drew
  have HS0 : Hid (∀ b, E.S b → b < w.drew.heap.size) := HS
  have HLo0 : Hid True := trivial
  have H1 := hide h1
  have H2 := hide h2
  clear h1 h2
  go_enter Tryz.func66, Tryz.ntmps66
  go_wp2_with fail
  refine wp_region_held_drew (S := fun w' => w'.cell? ⟨g1, 0, none⟩ = some (.pointer (some ⟨E.rb, 0, none⟩)) ∧ w'.cell? ⟨g2, 0, none⟩ = some (.pointer (some ⟨b, o, none⟩))) (by kernel_rfl) (by exact ⟨unhide H1, unhide H2⟩) (fun hHeld => ?_)
  refine wpAnyH_take (i := 0) (v := ?_) rfl (by kernel_rfl) (by kernel_rfl) (by kernel_rfl) (fun _ _ _ h => h) (Or.inl ⟨by rfl, ?_⟩) hHeld ?_; rotate_left; (focus (intro w hSw; (try dsimp only at hSw); go_simp; (try with_reducible rfl))); show wpAnyH _ _ _ _ _ _ _ (Act.put _ (some 3) _) _; try simp only [Act.put, Ya, Yb, Yc]
  refine wpAnyH_take (i := 1) (v := ?_) rfl (by kernel_rfl) (by kernel_rfl) (by kernel_rfl) (fun _ _ _ h => h) (Or.inl ⟨by rfl, ?_⟩) hHeld ?_; rotate_left; (focus (intro w hSw; (try dsimp only at hSw); go_simp; (try with_reducible rfl))); show wpAnyH _ _ _ _ _ _ _ (Act.put _ (some 4) _) _; try simp only [Act.put, Ya, Yb, Yc]
  refine wpAnyH_take (i := 2) (v := ?_) rfl (by kernel_rfl) (by kernel_rfl) (by kernel_rfl) (fun _ _ _ h => h) (Or.inl ⟨by rfl, ?_⟩) hHeld ?_; rotate_left; (focus (intro w hSw; (try dsimp only at hSw); go_simp; (try with_reducible rfl))); show wpAnyH _ _ _ _ _ _ _ (Act.put _ (some 5) _) _; try simp only [Act.put, Ya, Yb, Yc]
  refine wpAnyH_take (i := 3) (v := ?_) rfl (by kernel_rfl) (by kernel_rfl) (by kernel_rfl) (fun _ _ _ h => h) (Or.inl ⟨by rfl, ?_⟩) hHeld ?_; rotate_left; (focus (intro w hSw; (try dsimp only at hSw); go_simp; (try with_reducible rfl))); show wpAnyH _ _ _ _ _ _ _ (Act.put _ (some 6) _) _; try simp only [Act.put, Ya, Yb, Yc]
  refine wpAnyH_take (i := 5) (v := ?_) rfl (by kernel_rfl) (by kernel_rfl) (by kernel_rfl) (fun _ _ _ h => h) (Or.inl ⟨by rfl, ?_⟩) hHeld ?_; rotate_left; (focus (intro w hSw; (try dsimp only at hSw); go_simp; (try with_reducible rfl))); show wpAnyH _ _ _ _ _ _ _ (Act.put _ (some 8) _) _; try simp only [Act.put, Ya, Yb, Yc]
  refine wpAnyH_take (i := 7) (v := ?_) rfl (by kernel_rfl) (by kernel_rfl) (by kernel_rfl) (fun _ _ _ h => h) (Or.inl ⟨by rfl, ?_⟩) hHeld ?_; rotate_left; (focus (intro w hSw; (try dsimp only at hSw); go_simp; (try with_reducible rfl))); show wpAnyH _ _ _ _ _ _ _ (Act.put _ (some 10) _) _; try simp only [Act.put, Ya, Yb, Yc]
  refine wpAnyH_take (i := 8) (v := ?_) rfl (by kernel_rfl) (by kernel_rfl) (by kernel_rfl) (fun _ _ _ h => h) (Or.inl ⟨by rfl, ?_⟩) hHeld ?_; rotate_left; (focus (intro w hSw; (try dsimp only at hSw); go_simp; (try with_reducible rfl))); show wpAnyH _ _ _ _ _ _ _ (Act.put _ (some 11) _) _; try simp only [Act.put, Ya, Yb, Yc]
  refine wpAnyH_take (i := 9) (v := ?_) rfl (by kernel_rfl) (by kernel_rfl) (by kernel_rfl) (fun _ _ _ h => h) (Or.inl ⟨by rfl, ?_⟩) hHeld ?_; rotate_left; (focus (intro w hSw; (try dsimp only at hSw); go_simp; (try with_reducible rfl))); show wpAnyH _ _ _ _ _ _ _ (Act.put _ (some 12) _) _; try simp only [Act.put, Ya, Yb, Yc]
  refine wpAnyH_take (i := 10) (v := ?_) rfl (by kernel_rfl) (by kernel_rfl) (by kernel_rfl) (fun _ _ _ h => h) (Or.inl ⟨by rfl, ?_⟩) hHeld ?_; rotate_left; (focus (intro w hSw; (try dsimp only at hSw); go_simp; (try with_reducible rfl))); show wpAnyH _ _ _ _ _ _ _ (Act.put _ (some 13) _) _; try simp only [Act.put, Ya, Yb, Yc]
  refine wpAnyH_ready (rs := [4]) (by kernel_rfl) (by simp) ?_
  refine AllReadyH.cons rfl (fun K hK => ?_) AllReadyH.nil
  go_simp
  clear hHeld
  (refine (num_any (E := E) (dI 0) (m) _ _ (unhide A0) _ (unhide HS0)).mono ?_; rintro e w1 ⟨f1, x1, y1, rfl, hk, hd⟩; have HS1 := hide (hs_keep (unhide HS0) hk); have HK1 := hide ((unhide HK0).trans hk); have HC1 : Hid (Chain E w1 (m) [(.func (.func f1) x1 y1, [dI 0], pNum)]) := hide ⟨hd, trivial⟩; clear hk hd)
  try go_wp2_with fail
  refine hK.out _ _ ?_ (fun hHeld => ?_)
  · exact ⟨(fun k : Keep w _ => k.cell' (unhide H1)) (unhide HK1), (fun k : Keep w _ => k.cell' (unhide H2)) (unhide HK1)⟩
  clear hK K
  try simp only [Act.put, Ya, Yb, Yc]
  refine wpAnyH_ready (rs := [6]) (by kernel_rfl) (by simp) ?_
  refine AllReadyH.cons rfl (fun K hK => ?_) AllReadyH.nil
  go_simp
  clear hHeld
  (refine (the_any (E := E) [47] (by decide) (m + 1) _ (unhide HS1)).mono ?_; rintro e w2 ⟨f2, x2, y2, rfl, hk, hd⟩; have HS2 := hide (hs_keep (unhide HS1) hk); have HK2 := hide ((unhide HK1).trans hk); have HC2 : Hid (Chain E w2 (m) [(.func (.func f1) x1 y1, [dI 0], pNum), (.func (.func f2) x2 y2, [], pThe [47])]) := hide (chain_snoc (unhide HC1) hk hd); clear hk hd)
  try go_wp2_with fail
  refine hK.out _ _ ?_ (fun hHeld => ?_)
  · exact ⟨(fun k : Keep w _ => k.cell' (unhide H1)) (unhide HK2), (fun k : Keep w _ => k.cell' (unhide H2)) (unhide HK2)⟩
  clear hK K
  try simp only [Act.put, Ya, Yb, Yc]
  refine wpAnyH_ready (rs := [11]) (by kernel_rfl) (by simp) ?_
  refine AllReadyH.cons rfl (fun K hK => ?_) AllReadyH.nil
  go_simp
  clear hHeld
  (refine (num_any (E := E) (dI 0) (m + 1) _ _ (unhide A1) _ (unhide HS2)).mono ?_; rintro e w3 ⟨f3, x3, y3, rfl, hk, hd⟩; have HS3 := hide (hs_keep (unhide HS2) hk); have HK3 := hide ((unhide HK2).trans hk); have HC3 : Hid (Chain E w3 (m) [(.func (.func f1) x1 y1, [dI 0], pNum), (.func (.func f2) x2 y2, [], pThe [47]), (.func (.func f3) x3 y3, [dI 0], pNum)]) := hide (chain_snoc (unhide HC2) hk hd); clear hk hd)
  try go_wp2_with fail
  refine hK.out _ _ ?_ (fun hHeld => ?_)
  · exact ⟨(fun k : Keep w _ => k.cell' (unhide H1)) (unhide HK3), (fun k : Keep w _ => k.cell' (unhide H2)) (unhide HK3)⟩
  clear hK K
  try simp only [Act.put, Ya, Yb, Yc]
  refine wpAnyH_ready (rs := [12]) (by kernel_rfl) (by simp) ?_
  refine AllReadyH.cons rfl (fun K hK => ?_) AllReadyH.nil
  go_simp
  clear hHeld
  refine hK.out _ _ ?_ (fun hHeld => ?_)
  · exact ⟨(fun k : Keep w _ => k.cell' (unhide H1)) ((unhide HK3).alloc _), (fun k : Keep w _ => k.cell' (unhide H2)) ((unhide HK3).alloc _)⟩
  clear hK K
  try simp only [Act.put, Ya, Yb, Yc]
  refine wpAnyH_ready (rs := [13]) (by kernel_rfl) (by simp) ?_
  refine AllReadyH.cons rfl (fun K hK => ?_) AllReadyH.nil
  go_simp
  clear hHeld
  (refine (order_any (E := E) (m := m) (ss := [(.func (.func f1) x1 y1, [dI 0], pNum), (.func (.func f2) x2 y2, [], pThe [47]), (.func (.func f3) x3 y3, [dI 0], pNum)]) (c := c) (rest := rest) (r := r) (by simp) (chain_keep ((Keep.refl _).alloc _) (unhide HC3)) (new_steps _ _ _) (fun h => Nat.lt_irrefl _ ((unhide HS3) _ h)) (unhide hcm) ((unhide HR).keep ((unhide HK3).alloc _)) ((unhide HL).keep ((unhide HK3).alloc _))).mono ?_; rintro e wz hp; obtain ⟨vz, rfl⟩ := post_ret hp; have HP := hide hp; have HKz := hide ((unhide HK3).alloc (.cells #[.func (.func f1) x1 y1, .func (.func f2) x2 y2, .func (.func f3) x3 y3] 121)); clear hp)
  try go_wp2_with fail
  refine hK.out _ _ ?_ (fun hHeld => ?_)
  · exact ⟨(unhide HP).1.cell ((unhide HKz).cell' (unhide H1)) (unhide N1), (unhide HP).1.cell ((unhide HKz).cell' (unhide H2)) (unhide N2)⟩
  clear hK K
  try simp only [Act.put, Ya, Yb, Yc]
  refine wpAnyH_take (i := 14) (v := ?_) rfl (by kernel_rfl) (by kernel_rfl) (by kernel_rfl) (fun _ _ _ h => h) (Or.inl ⟨by rfl, ?_⟩) hHeld ?_; rotate_left; (focus (intro w hSw; (try dsimp only at hSw); go_simp; (try with_reducible rfl))); show wpAnyH _ _ _ _ _ _ _ (Act.put _ (some 2) _) _; try simp only [Act.put, Ya, Yb, Yc]
  refine wpAnyH_done (by kernel_rfl) ?_ _
  clear hHeld
  go_wp2_with fail
  go_ret
  exact post_pre (.keep (unhide HKz)) (unhide HP)
theorem Rdr.hs {E : Env} {w0 w : World} (hS : ∀ b, E.S b → b < w0.heap.size) (hf : Fr E.S w0 w) : ∀ b, E.S b → b < w.heap.size := fun b hb => Nat.lt_of_lt_of_le (hS b hb) hf.size
theorem frac_does {E : Env} {w0 : World} {g1 g2 m b o : Nat} (hA : E.A m = (b, o)) (hA1 : E.A (m + 1) = (b, o + 1)) (hS : ∀ b, E.S b → b < w0.heap.size) (b1 : Bx E w0 g1 (.pointer (some ⟨E.rb, 0, none⟩))) (b2 : Bx E w0 g2 (.pointer (some ⟨b, o, none⟩))) :
    Does E w0 (.func (.func 66) #[] #[.pointer (some ⟨g1, 0, none⟩), .pointer (some ⟨g2, 0, none⟩)]) m [dI 0, dI 0] pFrac :=
  ⟨_, _, _, rfl, fun xs w => by kernel_rfl, fun w c rest r hf hc hr hl => frac_core E g1 g2 b o m c rest w r (b1.fr hf).1 (b2.fr hf).1 (hide b1.2) (hide b2.2) (hide hA) (hide hA1) (hide (Rdr.hs hS hf)) (hide hc) (hide hr) (hide hl)⟩
set_option maxHeartbeats 1000000 in
theorem frac_make (a b : Option Addr) (w : World) : Calls Tryz.prog 50 #[.pointer a, .pointer b] w fun e w' => e = .returned (.func (.func 66) #[] #[.pointer (some ⟨w.heap.size, 0, none⟩), .pointer (some ⟨w.heap.size + 1, 0, none⟩)]) ∧ w' = (w.alloc (.cells #[.pointer a] 81)).alloc (.cells #[.pointer b] 126) := by
  go_enter Tryz.func50, Tryz.ntmps50
  go_wp2
  go_ret
  exact ⟨rfl, rfl⟩
theorem frac_any {E : Env} (m b o : Nat) (hA : E.A m = (b, o)) (hA1 : E.A (m + 1) = (b, o + 1)) (w : World) (hS : ∀ b, E.S b → b < w.heap.size) : Calls Tryz.prog 50 #[.pointer (some ⟨E.rb, 0, none⟩), .pointer (some ⟨b, o, none⟩)] w (Mk E m [dI 0, dI 0] pFrac w) := by
  refine (frac_make _ _ w).mono ?_
  rintro e w' ⟨rfl, rfl⟩
  obtain ⟨b1, b2⟩ := two_boxes E w _ _ _ _ hS
  exact ⟨_, _, _, rfl, two_keep _ _ _, frac_does hA hA1 (hs_keep hS (two_keep _ _ _)) b1 b2⟩
end Go.Proofs.YtmplckdpddmifaaGreatDoor
