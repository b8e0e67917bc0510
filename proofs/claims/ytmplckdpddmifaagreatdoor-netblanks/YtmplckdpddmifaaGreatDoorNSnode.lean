/- Package net: node. -/
import Derived.Test.YtmplckdpddmifaaGreatDoorNRb
import Derived.Test.YtmplckdpddmifaaGreatDoorNRa
namespace Go.Proofs.YtmplckdpddmifaaGreatDoor
open Go.RowKit
attribute [local go_sem ↓] Go.wp_at_zero Go.wp_at_succ
set_option linter.unusedVariables false
set_option linter.unusedSimpArgs false
set_option maxRecDepth 10000
set_option maxHeartbeats 4000000 in
theorem node_core (E : Env) (tb : Nat) (w : World) (r : List Tok) (A0 : Hid (E.A 0 = (tb, 6))) (A1 : Hid (E.A 1 = (tb, 0))) (A2 : Hid (E.A 2 = (tb, 1))) (A3 : Hid (E.A 3 = (tb, 2))) (A4 : Hid (E.A 4 = (tb, 3))) (A5 : Hid (E.A 5 = (tb, 4))) (A6 : Hid (E.A 6 = (tb, 5)))
    (HS : Hid (∀ b, E.S b → b < w.heap.size)) (HLo : Hid (E.lo ≤ w.heap.size)) (HR : Hid (Rdr E w r)) (HL : Hid (Cel E w [dI 0, dS [], dN, dN, dN, dN, dN])) (THHead : Hid (ThingM E.rb E.l E.ta E.cap 73 77 [.string ⟨#[]⟩, .int .i64 0, .int .i64 0, .int .i64 0, .int .i64 0, .int .i64 0, .int .i64 0, .int .i64 0, .int .i64 0, .int .i64 0, .int .i64 0] pHead)) (THPed : Hid (ThingM E.rb E.l E.ta E.cap 75 101 [.string ⟨#[]⟩, .string ⟨#[]⟩, .int .i64 0, .int .i64 0, .int .i64 0, .int .i64 0] pWalk)) (THPhase : Hid (ThingM E.rb E.l E.ta E.cap 77 105 [.string ⟨#[]⟩, .slice none 0 0, .int .i64 0] pPhase)) (THGroup : Hid (ThingM E.rb E.l E.ta E.cap 79 109 [.slice none 0 0] pGroup)) (THFoe : Hid (ThingM E.rb E.l E.ta E.cap 81 112 [.string ⟨#[]⟩, .string ⟨#[]⟩, .int .i64 0] pFoe)) :
    Calls Tryz.prog 52 #[.pointer (some ⟨E.rb, 0, none⟩), .pointer (some ⟨tb, 0, none⟩)] w (Post E w [] 7 (sq [pPos, pName, pThe [123], pRow [104, 101, 97, 100] 16 77 11 pHead, pRow [119, 97, 108, 107] 8 101 6 pWalk, pRow [112, 104, 97, 115, 101] 16 105 3 pPhase, pRow [103, 114, 111, 117, 112] 4 109 1 pGroup, pRow [102, 111, 101] 64 112 3 pFoe, pThe [125]] [] r)) := by
  have HK0 := hide (Keep.refl w).drew
  have HS0 : Hid (∀ b, E.S b → b < w.drew.heap.size) := HS
  have HLo0 : Hid (E.lo ≤ w.drew.heap.size) := HLo
  go_enter Tryz.func52, Tryz.ntmps52
  go_wp2_with fail
  refine wp_region_held_drew (S := fun _ => True) (by kernel_rfl) (by trivial) (fun hHeld => ?_)
  refine wpAnyH_take (i := 0) (v := ?_) rfl (by kernel_rfl) (by kernel_rfl) (by kernel_rfl) (fun _ _ _ h => h) (Or.inl ⟨by rfl, ?_⟩) hHeld ?_; rotate_left; (focus (intro w hSw; (try dsimp only at hSw); go_simp; (try with_reducible rfl))); show wpAnyH _ _ _ _ _ _ _ (Act.put _ (some 5) _) _; try simp only [Act.put, Ya, Yb, Yc]
  refine wpAnyH_take (i := 1) (v := ?_) rfl (by kernel_rfl) (by kernel_rfl) (by kernel_rfl) (fun _ _ _ h => h) (Or.inl ⟨by rfl, ?_⟩) hHeld ?_; rotate_left; (focus (intro w hSw; (try dsimp only at hSw); go_simp; (try with_reducible rfl))); show wpAnyH _ _ _ _ _ _ _ (Act.put _ (some 6) _) _; try simp only [Act.put, Ya, Yb, Yc]
  refine wpAnyH_take (i := 2) (v := ?_) rfl (by kernel_rfl) (by kernel_rfl) (by kernel_rfl) (fun _ _ _ h => h) (Or.inl ⟨by rfl, ?_⟩) hHeld ?_; rotate_left; (focus (intro w hSw; (try dsimp only at hSw); go_simp; (try with_reducible rfl))); show wpAnyH _ _ _ _ _ _ _ (Act.put _ (some 7) _) _; try simp only [Act.put, Ya, Yb, Yc]
  refine wpAnyH_take (i := 3) (v := ?_) rfl (by kernel_rfl) (by kernel_rfl) (by kernel_rfl) (fun _ _ _ h => h) (Or.inl ⟨by rfl, ?_⟩) hHeld ?_; rotate_left; (focus (intro w hSw; (try dsimp only at hSw); go_simp; (try with_reducible rfl))); show wpAnyH _ _ _ _ _ _ _ (Act.put _ (some 8) _) _; try simp only [Act.put, Ya, Yb, Yc]
  refine wpAnyH_take (i := 5) (v := ?_) rfl (by kernel_rfl) (by kernel_rfl) (by kernel_rfl) (fun _ _ _ h => h) (Or.inl ⟨by rfl, ?_⟩) hHeld ?_; rotate_left; (focus (intro w hSw; (try dsimp only at hSw); go_simp; (try with_reducible rfl))); show wpAnyH _ _ _ _ _ _ _ (Act.put _ (some 10) _) _; try simp only [Act.put, Ya, Yb, Yc]
  refine wpAnyH_take (i := 6) (v := ?_) rfl (by kernel_rfl) (by kernel_rfl) (by kernel_rfl) (fun _ _ _ h => h) (Or.inl ⟨by rfl, ?_⟩) hHeld ?_; rotate_left; (focus (intro w hSw; (try dsimp only at hSw); go_simp; (try with_reducible rfl))); show wpAnyH _ _ _ _ _ _ _ (Act.put _ (some 11) _) _; try simp only [Act.put, Ya, Yb, Yc]
  refine wpAnyH_take (i := 7) (v := ?_) rfl (by kernel_rfl) (by kernel_rfl) (by kernel_rfl) (fun _ _ _ h => h) (Or.inl ⟨by rfl, ?_⟩) hHeld ?_; rotate_left; (focus (intro w hSw; (try dsimp only at hSw); go_simp; (try with_reducible rfl))); show wpAnyH _ _ _ _ _ _ _ (Act.put _ (some 12) _) _; try simp only [Act.put, Ya, Yb, Yc]
  refine wpAnyH_take (i := 8) (v := ?_) rfl (by kernel_rfl) (by kernel_rfl) (by kernel_rfl) (fun _ _ _ h => h) (Or.inl ⟨by rfl, ?_⟩) hHeld ?_; rotate_left; (focus (intro w hSw; (try dsimp only at hSw); go_simp; (try with_reducible rfl))); show wpAnyH _ _ _ _ _ _ _ (Act.put _ (some 13) _) _; try simp only [Act.put, Ya, Yb, Yc]
  refine wpAnyH_take (i := 10) (v := ?_) rfl (by kernel_rfl) (by kernel_rfl) (by kernel_rfl) (fun _ _ _ h => h) (Or.inl ⟨by rfl, ?_⟩) hHeld ?_; rotate_left; (focus (intro w hSw; (try dsimp only at hSw); go_simp; (try with_reducible rfl))); show wpAnyH _ _ _ _ _ _ _ (Act.put _ (some 15) _) _; try simp only [Act.put, Ya, Yb, Yc]
  refine wpAnyH_take (i := 12) (v := ?_) rfl (by kernel_rfl) (by kernel_rfl) (by kernel_rfl) (fun _ _ _ h => h) (Or.inl ⟨by rfl, ?_⟩) hHeld ?_; rotate_left; (focus (intro w hSw; (try dsimp only at hSw); go_simp; (try with_reducible rfl))); show wpAnyH _ _ _ _ _ _ _ (Act.put _ (some 17) _) _; try simp only [Act.put, Ya, Yb, Yc]
  refine wpAnyH_take (i := 13) (v := ?_) rfl (by kernel_rfl) (by kernel_rfl) (by kernel_rfl) (fun _ _ _ h => h) (Or.inl ⟨by rfl, ?_⟩) hHeld ?_; rotate_left; (focus (intro w hSw; (try dsimp only at hSw); go_simp; (try with_reducible rfl))); show wpAnyH _ _ _ _ _ _ _ (Act.put _ (some 18) _) _; try simp only [Act.put, Ya, Yb, Yc]
  refine wpAnyH_take (i := 14) (v := ?_) rfl (by kernel_rfl) (by kernel_rfl) (by kernel_rfl) (fun _ _ _ h => h) (Or.inl ⟨by rfl, ?_⟩) hHeld ?_; rotate_left; (focus (intro w hSw; (try dsimp only at hSw); go_simp; (try with_reducible rfl))); show wpAnyH _ _ _ _ _ _ _ (Act.put _ (some 19) _) _; try simp only [Act.put, Ya, Yb, Yc]
  refine wpAnyH_take (i := 15) (v := ?_) rfl (by kernel_rfl) (by kernel_rfl) (by kernel_rfl) (fun _ _ _ h => h) (Or.inl ⟨by rfl, ?_⟩) hHeld ?_; rotate_left; (focus (intro w hSw; (try dsimp only at hSw); go_simp; (try with_reducible rfl))); show wpAnyH _ _ _ _ _ _ _ (Act.put _ (some 20) _) _; try simp only [Act.put, Ya, Yb, Yc]
  refine wpAnyH_take (i := 16) (v := ?_) rfl (by kernel_rfl) (by kernel_rfl) (by kernel_rfl) (fun _ _ _ h => h) (Or.inl ⟨by rfl, ?_⟩) hHeld ?_; rotate_left; (focus (intro w hSw; (try dsimp only at hSw); go_simp; (try with_reducible rfl))); show wpAnyH _ _ _ _ _ _ _ (Act.put _ (some 21) _) _; try simp only [Act.put, Ya, Yb, Yc]
  refine wpAnyH_take (i := 17) (v := ?_) rfl (by kernel_rfl) (by kernel_rfl) (by kernel_rfl) (fun _ _ _ h => h) (Or.inl ⟨by rfl, ?_⟩) hHeld ?_; rotate_left; (focus (intro w hSw; (try dsimp only at hSw); go_simp; (try with_reducible rfl))); show wpAnyH _ _ _ _ _ _ _ (Act.put _ (some 22) _) _; try simp only [Act.put, Ya, Yb, Yc]
  refine wpAnyH_take (i := 19) (v := ?_) rfl (by kernel_rfl) (by kernel_rfl) (by kernel_rfl) (fun _ _ _ h => h) (Or.inl ⟨by rfl, ?_⟩) hHeld ?_; rotate_left; (focus (intro w hSw; (try dsimp only at hSw); go_simp; (try with_reducible rfl))); show wpAnyH _ _ _ _ _ _ _ (Act.put _ (some 24) _) _; try simp only [Act.put, Ya, Yb, Yc]
  refine wpAnyH_take (i := 20) (v := ?_) rfl (by kernel_rfl) (by kernel_rfl) (by kernel_rfl) (fun _ _ _ h => h) (Or.inl ⟨by rfl, ?_⟩) hHeld ?_; rotate_left; (focus (intro w hSw; (try dsimp only at hSw); go_simp; (try with_reducible rfl))); show wpAnyH _ _ _ _ _ _ _ (Act.put _ (some 25) _) _; try simp only [Act.put, Ya, Yb, Yc]
  refine wpAnyH_take (i := 21) (v := ?_) rfl (by kernel_rfl) (by kernel_rfl) (by kernel_rfl) (fun _ _ _ h => h) (Or.inl ⟨by rfl, ?_⟩) hHeld ?_; rotate_left; (focus (intro w hSw; (try dsimp only at hSw); go_simp; (try with_reducible rfl))); show wpAnyH _ _ _ _ _ _ _ (Act.put _ (some 26) _) _; try simp only [Act.put, Ya, Yb, Yc]
  refine wpAnyH_take (i := 22) (v := ?_) rfl (by kernel_rfl) (by kernel_rfl) (by kernel_rfl) (fun _ _ _ h => h) (Or.inl ⟨by rfl, ?_⟩) hHeld ?_; rotate_left; (focus (intro w hSw; (try dsimp only at hSw); go_simp; (try with_reducible rfl))); show wpAnyH _ _ _ _ _ _ _ (Act.put _ (some 27) _) _; try simp only [Act.put, Ya, Yb, Yc]
  refine wpAnyH_take (i := 23) (v := ?_) rfl (by kernel_rfl) (by kernel_rfl) (by kernel_rfl) (fun _ _ _ h => h) (Or.inl ⟨by rfl, ?_⟩) hHeld ?_; rotate_left; (focus (intro w hSw; (try dsimp only at hSw); go_simp; (try with_reducible rfl))); show wpAnyH _ _ _ _ _ _ _ (Act.put _ (some 28) _) _; try simp only [Act.put, Ya, Yb, Yc]
  refine wpAnyH_take (i := 24) (v := ?_) rfl (by kernel_rfl) (by kernel_rfl) (by kernel_rfl) (fun _ _ _ h => h) (Or.inl ⟨by rfl, ?_⟩) hHeld ?_; rotate_left; (focus (intro w hSw; (try dsimp only at hSw); go_simp; (try with_reducible rfl))); show wpAnyH _ _ _ _ _ _ _ (Act.put _ (some 29) _) _; try simp only [Act.put, Ya, Yb, Yc]
  refine wpAnyH_take (i := 26) (v := ?_) rfl (by kernel_rfl) (by kernel_rfl) (by kernel_rfl) (fun _ _ _ h => h) (Or.inl ⟨by rfl, ?_⟩) hHeld ?_; rotate_left; (focus (intro w hSw; (try dsimp only at hSw); go_simp; (try with_reducible rfl))); show wpAnyH _ _ _ _ _ _ _ (Act.put _ (some 31) _) _; try simp only [Act.put, Ya, Yb, Yc]
  refine wpAnyH_take (i := 27) (v := ?_) rfl (by kernel_rfl) (by kernel_rfl) (by kernel_rfl) (fun _ _ _ h => h) (Or.inl ⟨by rfl, ?_⟩) hHeld ?_; rotate_left; (focus (intro w hSw; (try dsimp only at hSw); go_simp; (try with_reducible rfl))); show wpAnyH _ _ _ _ _ _ _ (Act.put _ (some 32) _) _; try simp only [Act.put, Ya, Yb, Yc]
  refine wpAnyH_take (i := 28) (v := ?_) rfl (by kernel_rfl) (by kernel_rfl) (by kernel_rfl) (fun _ _ _ h => h) (Or.inl ⟨by rfl, ?_⟩) hHeld ?_; rotate_left; (focus (intro w hSw; (try dsimp only at hSw); go_simp; (try with_reducible rfl))); show wpAnyH _ _ _ _ _ _ _ (Act.put _ (some 33) _) _; try simp only [Act.put, Ya, Yb, Yc]
  refine wpAnyH_take (i := 29) (v := ?_) rfl (by kernel_rfl) (by kernel_rfl) (by kernel_rfl) (fun _ _ _ h => h) (Or.inl ⟨by rfl, ?_⟩) hHeld ?_; rotate_left; (focus (intro w hSw; (try dsimp only at hSw); go_simp; (try with_reducible rfl))); show wpAnyH _ _ _ _ _ _ _ (Act.put _ (some 34) _) _; try simp only [Act.put, Ya, Yb, Yc]
  refine wpAnyH_take (i := 30) (v := ?_) rfl (by kernel_rfl) (by kernel_rfl) (by kernel_rfl) (fun _ _ _ h => h) (Or.inl ⟨by rfl, ?_⟩) hHeld ?_; rotate_left; (focus (intro w hSw; (try dsimp only at hSw); go_simp; (try with_reducible rfl))); show wpAnyH _ _ _ _ _ _ _ (Act.put _ (some 35) _) _; try simp only [Act.put, Ya, Yb, Yc]
  refine wpAnyH_take (i := 31) (v := ?_) rfl (by kernel_rfl) (by kernel_rfl) (by kernel_rfl) (fun _ _ _ h => h) (Or.inl ⟨by rfl, ?_⟩) hHeld ?_; rotate_left; (focus (intro w hSw; (try dsimp only at hSw); go_simp; (try with_reducible rfl))); show wpAnyH _ _ _ _ _ _ _ (Act.put _ (some 36) _) _; try simp only [Act.put, Ya, Yb, Yc]
  refine wpAnyH_take (i := 33) (v := ?_) rfl (by kernel_rfl) (by kernel_rfl) (by kernel_rfl) (fun _ _ _ h => h) (Or.inl ⟨by rfl, ?_⟩) hHeld ?_; rotate_left; (focus (intro w hSw; (try dsimp only at hSw); go_simp; (try with_reducible rfl))); show wpAnyH _ _ _ _ _ _ _ (Act.put _ (some 38) _) _; try simp only [Act.put, Ya, Yb, Yc]
  refine wpAnyH_take (i := 34) (v := ?_) rfl (by kernel_rfl) (by kernel_rfl) (by kernel_rfl) (fun _ _ _ h => h) (Or.inl ⟨by rfl, ?_⟩) hHeld ?_; rotate_left; (focus (intro w hSw; (try dsimp only at hSw); go_simp; (try with_reducible rfl))); show wpAnyH _ _ _ _ _ _ _ (Act.put _ (some 39) _) _; try simp only [Act.put, Ya, Yb, Yc]
  refine wpAnyH_take (i := 35) (v := ?_) rfl (by kernel_rfl) (by kernel_rfl) (by kernel_rfl) (fun _ _ _ h => h) (Or.inl ⟨by rfl, ?_⟩) hHeld ?_; rotate_left; (focus (intro w hSw; (try dsimp only at hSw); go_simp; (try with_reducible rfl))); show wpAnyH _ _ _ _ _ _ _ (Act.put _ (some 40) _) _; try simp only [Act.put, Ya, Yb, Yc]
  refine wpAnyH_take (i := 36) (v := ?_) rfl (by kernel_rfl) (by kernel_rfl) (by kernel_rfl) (fun _ _ _ h => h) (Or.inl ⟨by rfl, ?_⟩) hHeld ?_; rotate_left; (focus (intro w hSw; (try dsimp only at hSw); go_simp; (try with_reducible rfl))); show wpAnyH _ _ _ _ _ _ _ (Act.put _ (some 41) _) _; try simp only [Act.put, Ya, Yb, Yc]
  refine wpAnyH_take (i := 37) (v := ?_) rfl (by kernel_rfl) (by kernel_rfl) (by kernel_rfl) (fun _ _ _ h => h) (Or.inl ⟨by rfl, ?_⟩) hHeld ?_; rotate_left; (focus (intro w hSw; (try dsimp only at hSw); go_simp; (try with_reducible rfl))); show wpAnyH _ _ _ _ _ _ _ (Act.put _ (some 42) _) _; try simp only [Act.put, Ya, Yb, Yc]
  refine wpAnyH_take (i := 38) (v := ?_) rfl (by kernel_rfl) (by kernel_rfl) (by kernel_rfl) (fun _ _ _ h => h) (Or.inl ⟨by rfl, ?_⟩) hHeld ?_; rotate_left; (focus (intro w hSw; (try dsimp only at hSw); go_simp; (try with_reducible rfl))); show wpAnyH _ _ _ _ _ _ _ (Act.put _ (some 43) _) _; try simp only [Act.put, Ya, Yb, Yc]
  refine wpAnyH_take (i := 40) (v := ?_) rfl (by kernel_rfl) (by kernel_rfl) (by kernel_rfl) (fun _ _ _ h => h) (Or.inl ⟨by rfl, ?_⟩) hHeld ?_; rotate_left; (focus (intro w hSw; (try dsimp only at hSw); go_simp; (try with_reducible rfl))); show wpAnyH _ _ _ _ _ _ _ (Act.put _ (some 45) _) _; try simp only [Act.put, Ya, Yb, Yc]
  refine wpAnyH_take (i := 41) (v := ?_) rfl (by kernel_rfl) (by kernel_rfl) (by kernel_rfl) (fun _ _ _ h => h) (Or.inl ⟨by rfl, ?_⟩) hHeld ?_; rotate_left; (focus (intro w hSw; (try dsimp only at hSw); go_simp; (try with_reducible rfl))); show wpAnyH _ _ _ _ _ _ _ (Act.put _ (some 46) _) _; try simp only [Act.put, Ya, Yb, Yc]
  refine wpAnyH_take (i := 42) (v := ?_) rfl (by kernel_rfl) (by kernel_rfl) (by kernel_rfl) (fun _ _ _ h => h) (Or.inl ⟨by rfl, ?_⟩) hHeld ?_; rotate_left; (focus (intro w hSw; (try dsimp only at hSw); go_simp; (try with_reducible rfl))); show wpAnyH _ _ _ _ _ _ _ (Act.put _ (some 47) _) _; try simp only [Act.put, Ya, Yb, Yc]
  refine wpAnyH_take (i := 43) (v := ?_) rfl (by kernel_rfl) (by kernel_rfl) (by kernel_rfl) (fun _ _ _ h => h) (Or.inl ⟨by rfl, ?_⟩) hHeld ?_; rotate_left; (focus (intro w hSw; (try dsimp only at hSw); go_simp; (try with_reducible rfl))); show wpAnyH _ _ _ _ _ _ _ (Act.put _ (some 48) _) _; try simp only [Act.put, Ya, Yb, Yc]
  refine wpAnyH_take (i := 44) (v := ?_) rfl (by kernel_rfl) (by kernel_rfl) (by kernel_rfl) (fun _ _ _ h => h) (Or.inl ⟨by rfl, ?_⟩) hHeld ?_; rotate_left; (focus (intro w hSw; (try dsimp only at hSw); go_simp; (try with_reducible rfl))); show wpAnyH _ _ _ _ _ _ _ (Act.put _ (some 49) _) _; try simp only [Act.put, Ya, Yb, Yc]
  refine wpAnyH_take (i := 45) (v := ?_) rfl (by kernel_rfl) (by kernel_rfl) (by kernel_rfl) (fun _ _ _ h => h) (Or.inl ⟨by rfl, ?_⟩) hHeld ?_; rotate_left; (focus (intro w hSw; (try dsimp only at hSw); go_simp; (try with_reducible rfl))); show wpAnyH _ _ _ _ _ _ _ (Act.put _ (some 50) _) _; try simp only [Act.put, Ya, Yb, Yc]
  refine wpAnyH_take (i := 47) (v := ?_) rfl (by kernel_rfl) (by kernel_rfl) (by kernel_rfl) (fun _ _ _ h => h) (Or.inl ⟨by rfl, ?_⟩) hHeld ?_; rotate_left; (focus (intro w hSw; (try dsimp only at hSw); go_simp; (try with_reducible rfl))); show wpAnyH _ _ _ _ _ _ _ (Act.put _ (some 52) _) _; try simp only [Act.put, Ya, Yb, Yc]
  refine wpAnyH_ready (rs := [4]) (by kernel_rfl) (by simp) ?_
  refine AllReadyH.cons rfl (fun K hK => ?_) AllReadyH.nil
  go_simp
  clear hHeld
  (refine (pos_any (E := E) (dI 0) (0) _ _ (unhide A0) _ (unhide HS0)).mono ?_; rintro e w1 ⟨f1, x1, y1, rfl, hk, hd⟩; have HS1 := hide (hs_keep (unhide HS0) hk); have HLo1 := hide (lo_keep (unhide HLo0) hk); have HK1 := hide ((unhide HK0).trans hk); have HC1 : Hid (Chain E w1 (0) [(.func (.func f1) x1 y1, [dI 0], pPos)]) := hide ⟨hd, trivial⟩; clear hk hd)
  try go_wp2_with fail
  refine hK.out _ _ ?_ (fun hHeld => ?_)
  · trivial
  clear hK K
  try simp only [Act.put, Ya, Yb, Yc]
  refine wpAnyH_ready (rs := [9]) (by kernel_rfl) (by simp) ?_
  refine AllReadyH.cons rfl (fun K hK => ?_) AllReadyH.nil
  go_simp
  clear hHeld
  (refine (name_any (E := E) (dS []) (1) _ _ (unhide A1) _ (unhide HS1)).mono ?_; rintro e w2 ⟨f2, x2, y2, rfl, hk, hd⟩; have HS2 := hide (hs_keep (unhide HS1) hk); have HLo2 := hide (lo_keep (unhide HLo1) hk); have HK2 := hide ((unhide HK1).trans hk); have HC2 : Hid (Chain E w2 (0) [(.func (.func f1) x1 y1, [dI 0], pPos), (.func (.func f2) x2 y2, [dS []], pName)]) := hide (chain_snoc (unhide HC1) hk hd); clear hk hd)
  try go_wp2_with fail
  refine hK.out _ _ ?_ (fun hHeld => ?_)
  · trivial
  clear hK K
  try simp only [Act.put, Ya, Yb, Yc]
  refine wpAnyH_ready (rs := [11]) (by kernel_rfl) (by simp) ?_
  refine AllReadyH.cons rfl (fun K hK => ?_) AllReadyH.nil
  go_simp
  clear hHeld
  (refine (the_any (E := E) [123] (by decide) (2) _ (unhide HS2)).mono ?_; rintro e w3 ⟨f3, x3, y3, rfl, hk, hd⟩; have HS3 := hide (hs_keep (unhide HS2) hk); have HLo3 := hide (lo_keep (unhide HLo2) hk); have HK3 := hide ((unhide HK2).trans hk); have HC3 : Hid (Chain E w3 (0) [(.func (.func f1) x1 y1, [dI 0], pPos), (.func (.func f2) x2 y2, [dS []], pName), (.func (.func f3) x3 y3, [], pThe [123])]) := hide (chain_snoc (unhide HC2) hk hd); clear hk hd)
  try go_wp2_with fail
  refine hK.out _ _ ?_ (fun hHeld => ?_)
  · trivial
  clear hK K
  try simp only [Act.put, Ya, Yb, Yc]
  refine wpAnyH_ready (rs := [18]) (by kernel_rfl) (by simp) ?_
  refine AllReadyH.cons rfl (fun K hK => ?_) AllReadyH.nil
  go_simp
  clear hHeld
  (refine (rowHead_any (E := E) [104, 101, 97, 100] (by decide) 16 (by decide) pHead (unhide THHead) (2) _ _ (unhide A2) _ (unhide HS3) (unhide HLo3)).mono ?_; rintro e w4 ⟨f4, x4, y4, rfl, hk, hd⟩; have HS4 := hide (hs_keep (unhide HS3) hk); have HLo4 := hide (lo_keep (unhide HLo3) hk); have HK4 := hide ((unhide HK3).trans hk); have HC4 : Hid (Chain E w4 (0) [(.func (.func f1) x1 y1, [dI 0], pPos), (.func (.func f2) x2 y2, [dS []], pName), (.func (.func f3) x3 y3, [], pThe [123]), (.func (.func f4) x4 y4, [dN], pRow [104, 101, 97, 100] 16 77 11 pHead)]) := hide (chain_snoc (unhide HC3) hk hd); clear hk hd)
  try go_wp2_with fail
  refine hK.out _ _ ?_ (fun hHeld => ?_)
  · trivial
  clear hK K
  try simp only [Act.put, Ya, Yb, Yc]
  refine wpAnyH_ready (rs := [25]) (by kernel_rfl) (by simp) ?_
  refine AllReadyH.cons rfl (fun K hK => ?_) AllReadyH.nil
  go_simp
  clear hHeld
  (refine (rowPed_any (E := E) [119, 97, 108, 107] (by decide) 8 (by decide) pWalk (unhide THPed) (3) _ _ (unhide A3) _ (unhide HS4) (unhide HLo4)).mono ?_; rintro e w5 ⟨f5, x5, y5, rfl, hk, hd⟩; have HS5 := hide (hs_keep (unhide HS4) hk); have HLo5 := hide (lo_keep (unhide HLo4) hk); have HK5 := hide ((unhide HK4).trans hk); have HC5 : Hid (Chain E w5 (0) [(.func (.func f1) x1 y1, [dI 0], pPos), (.func (.func f2) x2 y2, [dS []], pName), (.func (.func f3) x3 y3, [], pThe [123]), (.func (.func f4) x4 y4, [dN], pRow [104, 101, 97, 100] 16 77 11 pHead), (.func (.func f5) x5 y5, [dN], pRow [119, 97, 108, 107] 8 101 6 pWalk)]) := hide (chain_snoc (unhide HC4) hk hd); clear hk hd)
  try go_wp2_with fail
  refine hK.out _ _ ?_ (fun hHeld => ?_)
  · trivial
  clear hK K
  try simp only [Act.put, Ya, Yb, Yc]
  refine wpAnyH_ready (rs := [32]) (by kernel_rfl) (by simp) ?_
  refine AllReadyH.cons rfl (fun K hK => ?_) AllReadyH.nil
  go_simp
  clear hHeld
  (refine (rowPhase_any (E := E) [112, 104, 97, 115, 101] (by decide) 16 (by decide) pPhase (unhide THPhase) (4) _ _ (unhide A4) _ (unhide HS5) (unhide HLo5)).mono ?_; rintro e w6 ⟨f6, x6, y6, rfl, hk, hd⟩; have HS6 := hide (hs_keep (unhide HS5) hk); have HLo6 := hide (lo_keep (unhide HLo5) hk); have HK6 := hide ((unhide HK5).trans hk); have HC6 : Hid (Chain E w6 (0) [(.func (.func f1) x1 y1, [dI 0], pPos), (.func (.func f2) x2 y2, [dS []], pName), (.func (.func f3) x3 y3, [], pThe [123]), (.func (.func f4) x4 y4, [dN], pRow [104, 101, 97, 100] 16 77 11 pHead), (.func (.func f5) x5 y5, [dN], pRow [119, 97, 108, 107] 8 101 6 pWalk), (.func (.func f6) x6 y6, [dN], pRow [112, 104, 97, 115, 101] 16 105 3 pPhase)]) := hide (chain_snoc (unhide HC5) hk hd); clear hk hd)
  try go_wp2_with fail
  refine hK.out _ _ ?_ (fun hHeld => ?_)
  · trivial
  clear hK K
  try simp only [Act.put, Ya, Yb, Yc]
  refine wpAnyH_ready (rs := [39]) (by kernel_rfl) (by simp) ?_
  refine AllReadyH.cons rfl (fun K hK => ?_) AllReadyH.nil
  go_simp
  clear hHeld
  (refine (rowGroup_any (E := E) [103, 114, 111, 117, 112] (by decide) 4 (by decide) pGroup (unhide THGroup) (5) _ _ (unhide A5) _ (unhide HS6) (unhide HLo6)).mono ?_; rintro e w7 ⟨f7, x7, y7, rfl, hk, hd⟩; have HS7 := hide (hs_keep (unhide HS6) hk); have HLo7 := hide (lo_keep (unhide HLo6) hk); have HK7 := hide ((unhide HK6).trans hk); have HC7 : Hid (Chain E w7 (0) [(.func (.func f1) x1 y1, [dI 0], pPos), (.func (.func f2) x2 y2, [dS []], pName), (.func (.func f3) x3 y3, [], pThe [123]), (.func (.func f4) x4 y4, [dN], pRow [104, 101, 97, 100] 16 77 11 pHead), (.func (.func f5) x5 y5, [dN], pRow [119, 97, 108, 107] 8 101 6 pWalk), (.func (.func f6) x6 y6, [dN], pRow [112, 104, 97, 115, 101] 16 105 3 pPhase), (.func (.func f7) x7 y7, [dN], pRow [103, 114, 111, 117, 112] 4 109 1 pGroup)]) := hide (chain_snoc (unhide HC6) hk hd); clear hk hd)
  try go_wp2_with fail
  refine hK.out _ _ ?_ (fun hHeld => ?_)
  · trivial
  clear hK K
  try simp only [Act.put, Ya, Yb, Yc]
  refine wpAnyH_ready (rs := [46]) (by kernel_rfl) (by simp) ?_
  refine AllReadyH.cons rfl (fun K hK => ?_) AllReadyH.nil
  go_simp
  clear hHeld
  (refine (rowFoe_any (E := E) [102, 111, 101] (by decide) 64 (by decide) pFoe (unhide THFoe) (6) _ _ (unhide A6) _ (unhide HS7) (unhide HLo7)).mono ?_; rintro e w8 ⟨f8, x8, y8, rfl, hk, hd⟩; have HS8 := hide (hs_keep (unhide HS7) hk); have HLo8 := hide (lo_keep (unhide HLo7) hk); have HK8 := hide ((unhide HK7).trans hk); have HC8 : Hid (Chain E w8 (0) [(.func (.func f1) x1 y1, [dI 0], pPos), (.func (.func f2) x2 y2, [dS []], pName), (.func (.func f3) x3 y3, [], pThe [123]), (.func (.func f4) x4 y4, [dN], pRow [104, 101, 97, 100] 16 77 11 pHead), (.func (.func f5) x5 y5, [dN], pRow [119, 97, 108, 107] 8 101 6 pWalk), (.func (.func f6) x6 y6, [dN], pRow [112, 104, 97, 115, 101] 16 105 3 pPhase), (.func (.func f7) x7 y7, [dN], pRow [103, 114, 111, 117, 112] 4 109 1 pGroup), (.func (.func f8) x8 y8, [dN], pRow [102, 111, 101] 64 112 3 pFoe)]) := hide (chain_snoc (unhide HC7) hk hd); clear hk hd)
  try go_wp2_with fail
  refine hK.out _ _ ?_ (fun hHeld => ?_)
  · trivial
  clear hK K
  try simp only [Act.put, Ya, Yb, Yc]
  refine wpAnyH_ready (rs := [48]) (by kernel_rfl) (by simp) ?_
  refine AllReadyH.cons rfl (fun K hK => ?_) AllReadyH.nil
  go_simp
  clear hHeld
  (refine (the_any (E := E) [125] (by decide) (7) _ (unhide HS8)).mono ?_; rintro e w9 ⟨f9, x9, y9, rfl, hk, hd⟩; have HS9 := hide (hs_keep (unhide HS8) hk); have HLo9 := hide (lo_keep (unhide HLo8) hk); have HK9 := hide ((unhide HK8).trans hk); have HC9 : Hid (Chain E w9 (0) [(.func (.func f1) x1 y1, [dI 0], pPos), (.func (.func f2) x2 y2, [dS []], pName), (.func (.func f3) x3 y3, [], pThe [123]), (.func (.func f4) x4 y4, [dN], pRow [104, 101, 97, 100] 16 77 11 pHead), (.func (.func f5) x5 y5, [dN], pRow [119, 97, 108, 107] 8 101 6 pWalk), (.func (.func f6) x6 y6, [dN], pRow [112, 104, 97, 115, 101] 16 105 3 pPhase), (.func (.func f7) x7 y7, [dN], pRow [103, 114, 111, 117, 112] 4 109 1 pGroup), (.func (.func f8) x8 y8, [dN], pRow [102, 111, 101] 64 112 3 pFoe), (.func (.func f9) x9 y9, [], pThe [125])]) := hide (chain_snoc (unhide HC8) hk hd); clear hk hd)
  try go_wp2_with fail
  refine hK.out _ _ ?_ (fun hHeld => ?_)
  · trivial
  clear hK K
  try simp only [Act.put, Ya, Yb, Yc]
  refine wpAnyH_ready (rs := [49]) (by kernel_rfl) (by simp) ?_
  refine AllReadyH.cons rfl (fun K hK => ?_) AllReadyH.nil
  go_simp
  clear hHeld
  refine hK.out _ _ ?_ (fun hHeld => ?_)
  · trivial
  clear hK K
  try simp only [Act.put, Ya, Yb, Yc]
  refine wpAnyH_ready (rs := [50]) (by kernel_rfl) (by simp) ?_
  refine AllReadyH.cons rfl (fun K hK => ?_) AllReadyH.nil
  go_simp
  clear hHeld
  (refine (order_any (E := E) (m := 0) (ss := [(.func (.func f1) x1 y1, [dI 0], pPos), (.func (.func f2) x2 y2, [dS []], pName), (.func (.func f3) x3 y3, [], pThe [123]), (.func (.func f4) x4 y4, [dN], pRow [104, 101, 97, 100] 16 77 11 pHead), (.func (.func f5) x5 y5, [dN], pRow [119, 97, 108, 107] 8 101 6 pWalk), (.func (.func f6) x6 y6, [dN], pRow [112, 104, 97, 115, 101] 16 105 3 pPhase), (.func (.func f7) x7 y7, [dN], pRow [103, 114, 111, 117, 112] 4 109 1 pGroup), (.func (.func f8) x8 y8, [dN], pRow [102, 111, 101] 64 112 3 pFoe), (.func (.func f9) x9 y9, [], pThe [125])]) (c := []) (rest := []) (r := r) (by simp) (chain_keep ((Keep.refl _).alloc _) (unhide HC9)) (new_steps _ _ _) (fun h => Nat.lt_irrefl _ ((unhide HS9) _ h)) rfl ((unhide HR).keep ((unhide HK9).alloc _)) ((unhide HL).keep ((unhide HK9).alloc _))).mono ?_; rintro e wz hp; obtain ⟨vz, rfl⟩ := post_ret hp; have HP := hide hp; have HKz := hide ((unhide HK9).alloc (.cells #[.func (.func f1) x1 y1, .func (.func f2) x2 y2, .func (.func f3) x3 y3, .func (.func f4) x4 y4, .func (.func f5) x5 y5, .func (.func f6) x6 y6, .func (.func f7) x7 y7, .func (.func f8) x8 y8, .func (.func f9) x9 y9] 121)); clear hp)
  try go_wp2_with fail
  refine hK.out _ _ ?_ (fun hHeld => ?_)
  · trivial
  clear hK K
  try simp only [Act.put, Ya, Yb, Yc]
  refine wpAnyH_take (i := 51) (v := ?_) rfl (by kernel_rfl) (by kernel_rfl) (by kernel_rfl) (fun _ _ _ h => h) (Or.inl ⟨by rfl, ?_⟩) hHeld ?_; rotate_left; (focus (intro w hSw; (try dsimp only at hSw); go_simp; (try with_reducible rfl))); show wpAnyH _ _ _ _ _ _ _ (Act.put _ (some 4) _) _; try simp only [Act.put, Ya, Yb, Yc]
  refine wpAnyH_done (by kernel_rfl) ?_ _
  clear hHeld
  go_wp2_with fail
  go_ret
  exact post_pre (.keep (unhide HKz)) (unhide HP)
end Go.Proofs.YtmplckdpddmifaaGreatDoor
