/- Package net: head. -/
import Derived.Test.YtmplckdpddmifaaGreatDoorNGrade
namespace Go.Proofs.YtmplckdpddmifaaGreatDoor
open Go.RowKit
attribute [local go_sem ↓] Go.wp_at_zero Go.wp_at_succ
set_option linter.unusedVariables false
set_option linter.unusedSimpArgs false
set_option maxRecDepth 10000
set_option maxHeartbeats 4000000 in
theorem head_core (E : Env) (tb : Nat) (w : World) (r : List Tok) (A0 : Hid (E.A 0 = (tb, 10))) (A1 : Hid (E.A 1 = (tb, 0))) (A2 : Hid (E.A 2 = (tb, 1))) (A3 : Hid (E.A 3 = (tb, 2))) (A4 : Hid (E.A 4 = (tb, 3))) (A5 : Hid (E.A 5 = (tb, 4))) (A6 : Hid (E.A 6 = (tb, 5))) (A7 : Hid (E.A 7 = (tb, 6))) (A8 : Hid (E.A 8 = (tb, 7))) (A9 : Hid (E.A 9 = (tb, 8))) (A10 : Hid (E.A 10 = (tb, 9)))
    (HS : Hid (∀ b, E.S b → b < w.heap.size)) (HLo : Hid (E.lo ≤ w.heap.size)) (HR : Hid (Rdr E w r)) (HL : Hid (Cel E w [dI 0, dS [], dI 0, dI 0, dI 0, dI 0, dI 0, dI 0, dI 0, dI 0, dI 0])) :
    Calls Tryz.prog 73 #[.pointer (some ⟨E.rb, 0, none⟩), .pointer (some ⟨tb, 0, none⟩)] w (Post E w [] 11 (sq [pPos, pName, pThe [118, 111, 108, 117, 109, 101], pNum, pThe [102, 108, 111, 119], pNum, pThe [117, 115, 101], pFrac, pThe [115, 112, 101, 101, 100], pNum, pThe [103, 114, 97, 100, 101], pGrade, pThe [119, 105, 100, 116, 104], pNum, pThe [108, 101, 110, 103, 116, 104], pNum, pThe [103, 114, 101, 101, 110], pNum, pThe [59]] [] r)) := by
  have HK0 := hide (Keep.refl w).drew
  have HS0 : Hid (∀ b, E.S b → b < w.drew.heap.size) := HS
  have HLo0 : Hid (E.lo ≤ w.drew.heap.size) := HLo
  go_enter Tryz.func73, Tryz.ntmps73
  go_wp2_with fail
  refine wp_region_held_drew (S := fun _ => True) (by kernel_rfl) (by trivial) (fun hHeld => ?_)
  refine wpAnyH_take (i := 0) (v := ?_) rfl (by kernel_rfl) (by kernel_rfl) (by kernel_rfl) (fun _ _ _ h => h) (Or.inl ⟨by rfl, ?_⟩) hHeld ?_; rotate_left; (focus (intro w hSw; (try dsimp only at hSw); go_simp; (try with_reducible rfl))); show wpAnyH _ _ _ _ _ _ _ (Act.put _ (some 5) _) _; try simp only [Act.put, Ya, Yb, Yc]
  refine wpAnyH_take (i := 1) (v := ?_) rfl (by kernel_rfl) (by kernel_rfl) (by kernel_rfl) (fun _ _ _ h => h) (Or.inl ⟨by rfl, ?_⟩) hHeld ?_; rotate_left; (focus (intro w hSw; (try dsimp only at hSw); go_simp; (try with_reducible rfl))); show wpAnyH _ _ _ _ _ _ _ (Act.put _ (some 6) _) _; try simp only [Act.put, Ya, Yb, Yc]
  refine wpAnyH_take (i := 2) (v := ?_) rfl (by kernel_rfl) (by kernel_rfl) (by kernel_rfl) (fun _ _ _ h => h) (Or.inl ⟨by rfl, ?_⟩) hHeld ?_; rotate_left; (focus (intro w hSw; (try dsimp only at hSw); go_simp; (try with_reducible rfl))); show wpAnyH _ _ _ _ _ _ _ (Act.put _ (some 7) _) _; try simp only [Act.put, Ya, Yb, Yc]
  refine wpAnyH_take (i := 3) (v := ?_) rfl (by kernel_rfl) (by kernel_rfl) (by kernel_rfl) (fun _ _ _ h => h) (Or.inl ⟨by rfl, ?_⟩) hHeld ?_; rotate_left; (focus (intro w hSw; (try dsimp only at hSw); go_simp; (try with_reducible rfl))); show wpAnyH _ _ _ _ _ _ _ (Act.put _ (some 8) _) _; try simp only [Act.put, Ya, Yb, Yc]
  refine wpAnyH_take (i := 5) (v := ?_) rfl (by kernel_rfl) (by kernel_rfl) (by kernel_rfl) (fun _ _ _ h => h) (Or.inl ⟨by rfl, ?_⟩) hHeld ?_; rotate_left; (focus (intro w hSw; (try dsimp only at hSw); go_simp; (try with_reducible rfl))); show wpAnyH _ _ _ _ _ _ _ (Act.put _ (some 10) _) _; try simp only [Act.put, Ya, Yb, Yc]
  refine wpAnyH_take (i := 6) (v := ?_) rfl (by kernel_rfl) (by kernel_rfl) (by kernel_rfl) (fun _ _ _ h => h) (Or.inl ⟨by rfl, ?_⟩) hHeld ?_; rotate_left; (focus (intro w hSw; (try dsimp only at hSw); go_simp; (try with_reducible rfl))); show wpAnyH _ _ _ _ _ _ _ (Act.put _ (some 11) _) _; try simp only [Act.put, Ya, Yb, Yc]
  refine wpAnyH_take (i := 7) (v := ?_) rfl (by kernel_rfl) (by kernel_rfl) (by kernel_rfl) (fun _ _ _ h => h) (Or.inl ⟨by rfl, ?_⟩) hHeld ?_; rotate_left; (focus (intro w hSw; (try dsimp only at hSw); go_simp; (try with_reducible rfl))); show wpAnyH _ _ _ _ _ _ _ (Act.put _ (some 12) _) _; try simp only [Act.put, Ya, Yb, Yc]
  refine wpAnyH_take (i := 8) (v := ?_) rfl (by kernel_rfl) (by kernel_rfl) (by kernel_rfl) (fun _ _ _ h => h) (Or.inl ⟨by rfl, ?_⟩) hHeld ?_; rotate_left; (focus (intro w hSw; (try dsimp only at hSw); go_simp; (try with_reducible rfl))); show wpAnyH _ _ _ _ _ _ _ (Act.put _ (some 13) _) _; try simp only [Act.put, Ya, Yb, Yc]
  refine wpAnyH_take (i := 10) (v := ?_) rfl (by kernel_rfl) (by kernel_rfl) (by kernel_rfl) (fun _ _ _ h => h) (Or.inl ⟨by rfl, ?_⟩) hHeld ?_; rotate_left; (focus (intro w hSw; (try dsimp only at hSw); go_simp; (try with_reducible rfl))); show wpAnyH _ _ _ _ _ _ _ (Act.put _ (some 15) _) _; try simp only [Act.put, Ya, Yb, Yc]
  refine wpAnyH_take (i := 12) (v := ?_) rfl (by kernel_rfl) (by kernel_rfl) (by kernel_rfl) (fun _ _ _ h => h) (Or.inl ⟨by rfl, ?_⟩) hHeld ?_; rotate_left; (focus (intro w hSw; (try dsimp only at hSw); go_simp; (try with_reducible rfl))); show wpAnyH _ _ _ _ _ _ _ (Act.put _ (some 17) _) _; try simp only [Act.put, Ya, Yb, Yc]
  refine wpAnyH_take (i := 13) (v := ?_) rfl (by kernel_rfl) (by kernel_rfl) (by kernel_rfl) (fun _ _ _ h => h) (Or.inl ⟨by rfl, ?_⟩) hHeld ?_; rotate_left; (focus (intro w hSw; (try dsimp only at hSw); go_simp; (try with_reducible rfl))); show wpAnyH _ _ _ _ _ _ _ (Act.put _ (some 18) _) _; try simp only [Act.put, Ya, Yb, Yc]
  refine wpAnyH_take (i := 14) (v := ?_) rfl (by kernel_rfl) (by kernel_rfl) (by kernel_rfl) (fun _ _ _ h => h) (Or.inl ⟨by rfl, ?_⟩) hHeld ?_; rotate_left; (focus (intro w hSw; (try dsimp only at hSw); go_simp; (try with_reducible rfl))); show wpAnyH _ _ _ _ _ _ _ (Act.put _ (some 19) _) _; try simp only [Act.put, Ya, Yb, Yc]
  refine wpAnyH_take (i := 15) (v := ?_) rfl (by kernel_rfl) (by kernel_rfl) (by kernel_rfl) (fun _ _ _ h => h) (Or.inl ⟨by rfl, ?_⟩) hHeld ?_; rotate_left; (focus (intro w hSw; (try dsimp only at hSw); go_simp; (try with_reducible rfl))); show wpAnyH _ _ _ _ _ _ _ (Act.put _ (some 20) _) _; try simp only [Act.put, Ya, Yb, Yc]
  refine wpAnyH_take (i := 17) (v := ?_) rfl (by kernel_rfl) (by kernel_rfl) (by kernel_rfl) (fun _ _ _ h => h) (Or.inl ⟨by rfl, ?_⟩) hHeld ?_; rotate_left; (focus (intro w hSw; (try dsimp only at hSw); go_simp; (try with_reducible rfl))); show wpAnyH _ _ _ _ _ _ _ (Act.put _ (some 22) _) _; try simp only [Act.put, Ya, Yb, Yc]
  refine wpAnyH_take (i := 19) (v := ?_) rfl (by kernel_rfl) (by kernel_rfl) (by kernel_rfl) (fun _ _ _ h => h) (Or.inl ⟨by rfl, ?_⟩) hHeld ?_; rotate_left; (focus (intro w hSw; (try dsimp only at hSw); go_simp; (try with_reducible rfl))); show wpAnyH _ _ _ _ _ _ _ (Act.put _ (some 24) _) _; try simp only [Act.put, Ya, Yb, Yc]
  refine wpAnyH_take (i := 20) (v := ?_) rfl (by kernel_rfl) (by kernel_rfl) (by kernel_rfl) (fun _ _ _ h => h) (Or.inl ⟨by rfl, ?_⟩) hHeld ?_; rotate_left; (focus (intro w hSw; (try dsimp only at hSw); go_simp; (try with_reducible rfl))); show wpAnyH _ _ _ _ _ _ _ (Act.put _ (some 25) _) _; try simp only [Act.put, Ya, Yb, Yc]
  refine wpAnyH_take (i := 21) (v := ?_) rfl (by kernel_rfl) (by kernel_rfl) (by kernel_rfl) (fun _ _ _ h => h) (Or.inl ⟨by rfl, ?_⟩) hHeld ?_; rotate_left; (focus (intro w hSw; (try dsimp only at hSw); go_simp; (try with_reducible rfl))); show wpAnyH _ _ _ _ _ _ _ (Act.put _ (some 26) _) _; try simp only [Act.put, Ya, Yb, Yc]
  refine wpAnyH_take (i := 22) (v := ?_) rfl (by kernel_rfl) (by kernel_rfl) (by kernel_rfl) (fun _ _ _ h => h) (Or.inl ⟨by rfl, ?_⟩) hHeld ?_; rotate_left; (focus (intro w hSw; (try dsimp only at hSw); go_simp; (try with_reducible rfl))); show wpAnyH _ _ _ _ _ _ _ (Act.put _ (some 27) _) _; try simp only [Act.put, Ya, Yb, Yc]
  refine wpAnyH_take (i := 24) (v := ?_) rfl (by kernel_rfl) (by kernel_rfl) (by kernel_rfl) (fun _ _ _ h => h) (Or.inl ⟨by rfl, ?_⟩) hHeld ?_; rotate_left; (focus (intro w hSw; (try dsimp only at hSw); go_simp; (try with_reducible rfl))); show wpAnyH _ _ _ _ _ _ _ (Act.put _ (some 29) _) _; try simp only [Act.put, Ya, Yb, Yc]
  refine wpAnyH_take (i := 26) (v := ?_) rfl (by kernel_rfl) (by kernel_rfl) (by kernel_rfl) (fun _ _ _ h => h) (Or.inl ⟨by rfl, ?_⟩) hHeld ?_; rotate_left; (focus (intro w hSw; (try dsimp only at hSw); go_simp; (try with_reducible rfl))); show wpAnyH _ _ _ _ _ _ _ (Act.put _ (some 31) _) _; try simp only [Act.put, Ya, Yb, Yc]
  refine wpAnyH_take (i := 27) (v := ?_) rfl (by kernel_rfl) (by kernel_rfl) (by kernel_rfl) (fun _ _ _ h => h) (Or.inl ⟨by rfl, ?_⟩) hHeld ?_; rotate_left; (focus (intro w hSw; (try dsimp only at hSw); go_simp; (try with_reducible rfl))); show wpAnyH _ _ _ _ _ _ _ (Act.put _ (some 32) _) _; try simp only [Act.put, Ya, Yb, Yc]
  refine wpAnyH_take (i := 28) (v := ?_) rfl (by kernel_rfl) (by kernel_rfl) (by kernel_rfl) (fun _ _ _ h => h) (Or.inl ⟨by rfl, ?_⟩) hHeld ?_; rotate_left; (focus (intro w hSw; (try dsimp only at hSw); go_simp; (try with_reducible rfl))); show wpAnyH _ _ _ _ _ _ _ (Act.put _ (some 33) _) _; try simp only [Act.put, Ya, Yb, Yc]
  refine wpAnyH_take (i := 29) (v := ?_) rfl (by kernel_rfl) (by kernel_rfl) (by kernel_rfl) (fun _ _ _ h => h) (Or.inl ⟨by rfl, ?_⟩) hHeld ?_; rotate_left; (focus (intro w hSw; (try dsimp only at hSw); go_simp; (try with_reducible rfl))); show wpAnyH _ _ _ _ _ _ _ (Act.put _ (some 34) _) _; try simp only [Act.put, Ya, Yb, Yc]
  refine wpAnyH_take (i := 31) (v := ?_) rfl (by kernel_rfl) (by kernel_rfl) (by kernel_rfl) (fun _ _ _ h => h) (Or.inl ⟨by rfl, ?_⟩) hHeld ?_; rotate_left; (focus (intro w hSw; (try dsimp only at hSw); go_simp; (try with_reducible rfl))); show wpAnyH _ _ _ _ _ _ _ (Act.put _ (some 36) _) _; try simp only [Act.put, Ya, Yb, Yc]
  refine wpAnyH_take (i := 33) (v := ?_) rfl (by kernel_rfl) (by kernel_rfl) (by kernel_rfl) (fun _ _ _ h => h) (Or.inl ⟨by rfl, ?_⟩) hHeld ?_; rotate_left; (focus (intro w hSw; (try dsimp only at hSw); go_simp; (try with_reducible rfl))); show wpAnyH _ _ _ _ _ _ _ (Act.put _ (some 38) _) _; try simp only [Act.put, Ya, Yb, Yc]
  refine wpAnyH_take (i := 34) (v := ?_) rfl (by kernel_rfl) (by kernel_rfl) (by kernel_rfl) (fun _ _ _ h => h) (Or.inl ⟨by rfl, ?_⟩) hHeld ?_; rotate_left; (focus (intro w hSw; (try dsimp only at hSw); go_simp; (try with_reducible rfl))); show wpAnyH _ _ _ _ _ _ _ (Act.put _ (some 39) _) _; try simp only [Act.put, Ya, Yb, Yc]
  refine wpAnyH_take (i := 35) (v := ?_) rfl (by kernel_rfl) (by kernel_rfl) (by kernel_rfl) (fun _ _ _ h => h) (Or.inl ⟨by rfl, ?_⟩) hHeld ?_; rotate_left; (focus (intro w hSw; (try dsimp only at hSw); go_simp; (try with_reducible rfl))); show wpAnyH _ _ _ _ _ _ _ (Act.put _ (some 40) _) _; try simp only [Act.put, Ya, Yb, Yc]
  refine wpAnyH_take (i := 36) (v := ?_) rfl (by kernel_rfl) (by kernel_rfl) (by kernel_rfl) (fun _ _ _ h => h) (Or.inl ⟨by rfl, ?_⟩) hHeld ?_; rotate_left; (focus (intro w hSw; (try dsimp only at hSw); go_simp; (try with_reducible rfl))); show wpAnyH _ _ _ _ _ _ _ (Act.put _ (some 41) _) _; try simp only [Act.put, Ya, Yb, Yc]
  refine wpAnyH_take (i := 38) (v := ?_) rfl (by kernel_rfl) (by kernel_rfl) (by kernel_rfl) (fun _ _ _ h => h) (Or.inl ⟨by rfl, ?_⟩) hHeld ?_; rotate_left; (focus (intro w hSw; (try dsimp only at hSw); go_simp; (try with_reducible rfl))); show wpAnyH _ _ _ _ _ _ _ (Act.put _ (some 43) _) _; try simp only [Act.put, Ya, Yb, Yc]
  refine wpAnyH_take (i := 40) (v := ?_) rfl (by kernel_rfl) (by kernel_rfl) (by kernel_rfl) (fun _ _ _ h => h) (Or.inl ⟨by rfl, ?_⟩) hHeld ?_; rotate_left; (focus (intro w hSw; (try dsimp only at hSw); go_simp; (try with_reducible rfl))); show wpAnyH _ _ _ _ _ _ _ (Act.put _ (some 45) _) _; try simp only [Act.put, Ya, Yb, Yc]
  refine wpAnyH_take (i := 41) (v := ?_) rfl (by kernel_rfl) (by kernel_rfl) (by kernel_rfl) (fun _ _ _ h => h) (Or.inl ⟨by rfl, ?_⟩) hHeld ?_; rotate_left; (focus (intro w hSw; (try dsimp only at hSw); go_simp; (try with_reducible rfl))); show wpAnyH _ _ _ _ _ _ _ (Act.put _ (some 46) _) _; try simp only [Act.put, Ya, Yb, Yc]
  refine wpAnyH_take (i := 42) (v := ?_) rfl (by kernel_rfl) (by kernel_rfl) (by kernel_rfl) (fun _ _ _ h => h) (Or.inl ⟨by rfl, ?_⟩) hHeld ?_; rotate_left; (focus (intro w hSw; (try dsimp only at hSw); go_simp; (try with_reducible rfl))); show wpAnyH _ _ _ _ _ _ _ (Act.put _ (some 47) _) _; try simp only [Act.put, Ya, Yb, Yc]
  refine wpAnyH_take (i := 43) (v := ?_) rfl (by kernel_rfl) (by kernel_rfl) (by kernel_rfl) (fun _ _ _ h => h) (Or.inl ⟨by rfl, ?_⟩) hHeld ?_; rotate_left; (focus (intro w hSw; (try dsimp only at hSw); go_simp; (try with_reducible rfl))); show wpAnyH _ _ _ _ _ _ _ (Act.put _ (some 48) _) _; try simp only [Act.put, Ya, Yb, Yc]
  refine wpAnyH_take (i := 45) (v := ?_) rfl (by kernel_rfl) (by kernel_rfl) (by kernel_rfl) (fun _ _ _ h => h) (Or.inl ⟨by rfl, ?_⟩) hHeld ?_; rotate_left; (focus (intro w hSw; (try dsimp only at hSw); go_simp; (try with_reducible rfl))); show wpAnyH _ _ _ _ _ _ _ (Act.put _ (some 50) _) _; try simp only [Act.put, Ya, Yb, Yc]
  refine wpAnyH_take (i := 47) (v := ?_) rfl (by kernel_rfl) (by kernel_rfl) (by kernel_rfl) (fun _ _ _ h => h) (Or.inl ⟨by rfl, ?_⟩) hHeld ?_; rotate_left; (focus (intro w hSw; (try dsimp only at hSw); go_simp; (try with_reducible rfl))); show wpAnyH _ _ _ _ _ _ _ (Act.put _ (some 52) _) _; try simp only [Act.put, Ya, Yb, Yc]
  refine wpAnyH_take (i := 48) (v := ?_) rfl (by kernel_rfl) (by kernel_rfl) (by kernel_rfl) (fun _ _ _ h => h) (Or.inl ⟨by rfl, ?_⟩) hHeld ?_; rotate_left; (focus (intro w hSw; (try dsimp only at hSw); go_simp; (try with_reducible rfl))); show wpAnyH _ _ _ _ _ _ _ (Act.put _ (some 53) _) _; try simp only [Act.put, Ya, Yb, Yc]
  refine wpAnyH_take (i := 49) (v := ?_) rfl (by kernel_rfl) (by kernel_rfl) (by kernel_rfl) (fun _ _ _ h => h) (Or.inl ⟨by rfl, ?_⟩) hHeld ?_; rotate_left; (focus (intro w hSw; (try dsimp only at hSw); go_simp; (try with_reducible rfl))); show wpAnyH _ _ _ _ _ _ _ (Act.put _ (some 54) _) _; try simp only [Act.put, Ya, Yb, Yc]
  refine wpAnyH_take (i := 50) (v := ?_) rfl (by kernel_rfl) (by kernel_rfl) (by kernel_rfl) (fun _ _ _ h => h) (Or.inl ⟨by rfl, ?_⟩) hHeld ?_; rotate_left; (focus (intro w hSw; (try dsimp only at hSw); go_simp; (try with_reducible rfl))); show wpAnyH _ _ _ _ _ _ _ (Act.put _ (some 55) _) _; try simp only [Act.put, Ya, Yb, Yc]
  refine wpAnyH_take (i := 52) (v := ?_) rfl (by kernel_rfl) (by kernel_rfl) (by kernel_rfl) (fun _ _ _ h => h) (Or.inl ⟨by rfl, ?_⟩) hHeld ?_; rotate_left; (focus (intro w hSw; (try dsimp only at hSw); go_simp; (try with_reducible rfl))); show wpAnyH _ _ _ _ _ _ _ (Act.put _ (some 57) _) _; try simp only [Act.put, Ya, Yb, Yc]
  refine wpAnyH_take (i := 54) (v := ?_) rfl (by kernel_rfl) (by kernel_rfl) (by kernel_rfl) (fun _ _ _ h => h) (Or.inl ⟨by rfl, ?_⟩) hHeld ?_; rotate_left; (focus (intro w hSw; (try dsimp only at hSw); go_simp; (try with_reducible rfl))); show wpAnyH _ _ _ _ _ _ _ (Act.put _ (some 59) _) _; try simp only [Act.put, Ya, Yb, Yc]
  refine wpAnyH_take (i := 55) (v := ?_) rfl (by kernel_rfl) (by kernel_rfl) (by kernel_rfl) (fun _ _ _ h => h) (Or.inl ⟨by rfl, ?_⟩) hHeld ?_; rotate_left; (focus (intro w hSw; (try dsimp only at hSw); go_simp; (try with_reducible rfl))); show wpAnyH _ _ _ _ _ _ _ (Act.put _ (some 60) _) _; try simp only [Act.put, Ya, Yb, Yc]
  refine wpAnyH_take (i := 56) (v := ?_) rfl (by kernel_rfl) (by kernel_rfl) (by kernel_rfl) (fun _ _ _ h => h) (Or.inl ⟨by rfl, ?_⟩) hHeld ?_; rotate_left; (focus (intro w hSw; (try dsimp only at hSw); go_simp; (try with_reducible rfl))); show wpAnyH _ _ _ _ _ _ _ (Act.put _ (some 61) _) _; try simp only [Act.put, Ya, Yb, Yc]
  refine wpAnyH_take (i := 57) (v := ?_) rfl (by kernel_rfl) (by kernel_rfl) (by kernel_rfl) (fun _ _ _ h => h) (Or.inl ⟨by rfl, ?_⟩) hHeld ?_; rotate_left; (focus (intro w hSw; (try dsimp only at hSw); go_simp; (try with_reducible rfl))); show wpAnyH _ _ _ _ _ _ _ (Act.put _ (some 62) _) _; try simp only [Act.put, Ya, Yb, Yc]
  refine wpAnyH_take (i := 59) (v := ?_) rfl (by kernel_rfl) (by kernel_rfl) (by kernel_rfl) (fun _ _ _ h => h) (Or.inl ⟨by rfl, ?_⟩) hHeld ?_; rotate_left; (focus (intro w hSw; (try dsimp only at hSw); go_simp; (try with_reducible rfl))); show wpAnyH _ _ _ _ _ _ _ (Act.put _ (some 64) _) _; try simp only [Act.put, Ya, Yb, Yc]
  refine wpAnyH_take (i := 61) (v := ?_) rfl (by kernel_rfl) (by kernel_rfl) (by kernel_rfl) (fun _ _ _ h => h) (Or.inl ⟨by rfl, ?_⟩) hHeld ?_; rotate_left; (focus (intro w hSw; (try dsimp only at hSw); go_simp; (try with_reducible rfl))); show wpAnyH _ _ _ _ _ _ _ (Act.put _ (some 66) _) _; try simp only [Act.put, Ya, Yb, Yc]
  refine wpAnyH_take (i := 62) (v := ?_) rfl (by kernel_rfl) (by kernel_rfl) (by kernel_rfl) (fun _ _ _ h => h) (Or.inl ⟨by rfl, ?_⟩) hHeld ?_; rotate_left; (focus (intro w hSw; (try dsimp only at hSw); go_simp; (try with_reducible rfl))); show wpAnyH _ _ _ _ _ _ _ (Act.put _ (some 67) _) _; try simp only [Act.put, Ya, Yb, Yc]
  refine wpAnyH_take (i := 63) (v := ?_) rfl (by kernel_rfl) (by kernel_rfl) (by kernel_rfl) (fun _ _ _ h => h) (Or.inl ⟨by rfl, ?_⟩) hHeld ?_; rotate_left; (focus (intro w hSw; (try dsimp only at hSw); go_simp; (try with_reducible rfl))); show wpAnyH _ _ _ _ _ _ _ (Act.put _ (some 68) _) _; try simp only [Act.put, Ya, Yb, Yc]
  refine wpAnyH_take (i := 64) (v := ?_) rfl (by kernel_rfl) (by kernel_rfl) (by kernel_rfl) (fun _ _ _ h => h) (Or.inl ⟨by rfl, ?_⟩) hHeld ?_; rotate_left; (focus (intro w hSw; (try dsimp only at hSw); go_simp; (try with_reducible rfl))); show wpAnyH _ _ _ _ _ _ _ (Act.put _ (some 69) _) _; try simp only [Act.put, Ya, Yb, Yc]
  refine wpAnyH_take (i := 66) (v := ?_) rfl (by kernel_rfl) (by kernel_rfl) (by kernel_rfl) (fun _ _ _ h => h) (Or.inl ⟨by rfl, ?_⟩) hHeld ?_; rotate_left; (focus (intro w hSw; (try dsimp only at hSw); go_simp; (try with_reducible rfl))); show wpAnyH _ _ _ _ _ _ _ (Act.put _ (some 71) _) _; try simp only [Act.put, Ya, Yb, Yc]
  refine wpAnyH_ready (rs := [4]) (by kernel_rfl) (by simp) ?_
  refine AllReadyH.cons rfl (fun K hK => ?_) AllReadyH.nil
  go_simp
  clear hHeld
  (refine (pos_any (E := E) (dI 0) (0) _ _ (unhide A0) _ (unhide HS0)).mono ?_; rintro e w1 ⟨f1, x1, y1, rfl, hk, hd⟩; have HS1 := hide (hs_keep (unhide HS0) hk); have HLo1 := hide (lo_keep (unhide HLo0) hk); have HK1 := hide ((unhide HK0).trans hk); have HC1 : Hid (Chain E w1 (0) [(.func (.func f1) x1 y1, [dI 0], pPos)]) := hide ⟨hd, trivial⟩; clear hk hd)
  try go_wp2_with fail
  refine hK.out _ _ ?_ (fun hHeld => ?_)
  · trivial
  clear hK K
  try simp only [Act.put, Ya, Yb, Yc]
  refine wpAnyH_ready (rs := [9]) (by kernel_rfl) (by simp) ?_
  refine AllReadyH.cons rfl (fun K hK => ?_) AllReadyH.nil
  go_simp
  clear hHeld
  (refine (name_any (E := E) (dS []) (1) _ _ (unhide A1) _ (unhide HS1)).mono ?_; rintro e w2 ⟨f2, x2, y2, rfl, hk, hd⟩; have HS2 := hide (hs_keep (unhide HS1) hk); have HLo2 := hide (lo_keep (unhide HLo1) hk); have HK2 := hide ((unhide HK1).trans hk); have HC2 : Hid (Chain E w2 (0) [(.func (.func f1) x1 y1, [dI 0], pPos), (.func (.func f2) x2 y2, [dS []], pName)]) := hide (chain_snoc (unhide HC1) hk hd); clear hk hd)
  try go_wp2_with fail
  refine hK.out _ _ ?_ (fun hHeld => ?_)
  · trivial
  clear hK K
  try simp only [Act.put, Ya, Yb, Yc]
  refine wpAnyH_ready (rs := [11]) (by kernel_rfl) (by simp) ?_
  refine AllReadyH.cons rfl (fun K hK => ?_) AllReadyH.nil
  go_simp
  clear hHeld
  (refine (the_any (E := E) [118, 111, 108, 117, 109, 101] (by decide) (2) _ (unhide HS2)).mono ?_; rintro e w3 ⟨f3, x3, y3, rfl, hk, hd⟩; have HS3 := hide (hs_keep (unhide HS2) hk); have HLo3 := hide (lo_keep (unhide HLo2) hk); have HK3 := hide ((unhide HK2).trans hk); have HC3 : Hid (Chain E w3 (0) [(.func (.func f1) x1 y1, [dI 0], pPos), (.func (.func f2) x2 y2, [dS []], pName), (.func (.func f3) x3 y3, [], pThe [118, 111, 108, 117, 109, 101])]) := hide (chain_snoc (unhide HC2) hk hd); clear hk hd)
  try go_wp2_with fail
  refine hK.out _ _ ?_ (fun hHeld => ?_)
  · trivial
  clear hK K
  try simp only [Act.put, Ya, Yb, Yc]
  refine wpAnyH_ready (rs := [16]) (by kernel_rfl) (by simp) ?_
  refine AllReadyH.cons rfl (fun K hK => ?_) AllReadyH.nil
  go_simp
  clear hHeld
  (refine (num_any (E := E) (dI 0) (2) _ _ (unhide A2) _ (unhide HS3)).mono ?_; rintro e w4 ⟨f4, x4, y4, rfl, hk, hd⟩; have HS4 := hide (hs_keep (unhide HS3) hk); have HLo4 := hide (lo_keep (unhide HLo3) hk); have HK4 := hide ((unhide HK3).trans hk); have HC4 : Hid (Chain E w4 (0) [(.func (.func f1) x1 y1, [dI 0], pPos), (.func (.func f2) x2 y2, [dS []], pName), (.func (.func f3) x3 y3, [], pThe [118, 111, 108, 117, 109, 101]), (.func (.func f4) x4 y4, [dI 0], pNum)]) := hide (chain_snoc (unhide HC3) hk hd); clear hk hd)
  try go_wp2_with fail
  refine hK.out _ _ ?_ (fun hHeld => ?_)
  · trivial
  clear hK K
  try simp only [Act.put, Ya, Yb, Yc]
  refine wpAnyH_ready (rs := [18]) (by kernel_rfl) (by simp) ?_
  refine AllReadyH.cons rfl (fun K hK => ?_) AllReadyH.nil
  go_simp
  clear hHeld
  (refine (the_any (E := E) [102, 108, 111, 119] (by decide) (3) _ (unhide HS4)).mono ?_; rintro e w5 ⟨f5, x5, y5, rfl, hk, hd⟩; have HS5 := hide (hs_keep (unhide HS4) hk); have HLo5 := hide (lo_keep (unhide HLo4) hk); have HK5 := hide ((unhide HK4).trans hk); have HC5 : Hid (Chain E w5 (0) [(.func (.func f1) x1 y1, [dI 0], pPos), (.func (.func f2) x2 y2, [dS []], pName), (.func (.func f3) x3 y3, [], pThe [118, 111, 108, 117, 109, 101]), (.func (.func f4) x4 y4, [dI 0], pNum), (.func (.func f5) x5 y5, [], pThe [102, 108, 111, 119])]) := hide (chain_snoc (unhide HC4) hk hd); clear hk hd)
  try go_wp2_with fail
  refine hK.out _ _ ?_ (fun hHeld => ?_)
  · trivial
  clear hK K
  try simp only [Act.put, Ya, Yb, Yc]
  refine wpAnyH_ready (rs := [23]) (by kernel_rfl) (by simp) ?_
  refine AllReadyH.cons rfl (fun K hK => ?_) AllReadyH.nil
  go_simp
  clear hHeld
  (refine (num_any (E := E) (dI 0) (3) _ _ (unhide A3) _ (unhide HS5)).mono ?_; rintro e w6 ⟨f6, x6, y6, rfl, hk, hd⟩; have HS6 := hide (hs_keep (unhide HS5) hk); have HLo6 := hide (lo_keep (unhide HLo5) hk); have HK6 := hide ((unhide HK5).trans hk); have HC6 : Hid (Chain E w6 (0) [(.func (.func f1) x1 y1, [dI 0], pPos), (.func (.func f2) x2 y2, [dS []], pName), (.func (.func f3) x3 y3, [], pThe [118, 111, 108, 117, 109, 101]), (.func (.func f4) x4 y4, [dI 0], pNum), (.func (.func f5) x5 y5, [], pThe [102, 108, 111, 119]), (.func (.func f6) x6 y6, [dI 0], pNum)]) := hide (chain_snoc (unhide HC5) hk hd); clear hk hd)
  try go_wp2_with fail
  refine hK.out _ _ ?_ (fun hHeld => ?_)
  · trivial
  clear hK K
  try simp only [Act.put, Ya, Yb, Yc]
  refine wpAnyH_ready (rs := [25]) (by kernel_rfl) (by simp) ?_
  refine AllReadyH.cons rfl (fun K hK => ?_) AllReadyH.nil
  go_simp
  clear hHeld
  (refine (the_any (E := E) [117, 115, 101] (by decide) (4) _ (unhide HS6)).mono ?_; rintro e w7 ⟨f7, x7, y7, rfl, hk, hd⟩; have HS7 := hide (hs_keep (unhide HS6) hk); have HLo7 := hide (lo_keep (unhide HLo6) hk); have HK7 := hide ((unhide HK6).trans hk); have HC7 : Hid (Chain E w7 (0) [(.func (.func f1) x1 y1, [dI 0], pPos), (.func (.func f2) x2 y2, [dS []], pName), (.func (.func f3) x3 y3, [], pThe [118, 111, 108, 117, 109, 101]), (.func (.func f4) x4 y4, [dI 0], pNum), (.func (.func f5) x5 y5, [], pThe [102, 108, 111, 119]), (.func (.func f6) x6 y6, [dI 0], pNum), (.func (.func f7) x7 y7, [], pThe [117, 115, 101])]) := hide (chain_snoc (unhide HC6) hk hd); clear hk hd)
  try go_wp2_with fail
  refine hK.out _ _ ?_ (fun hHeld => ?_)
  · trivial
  clear hK K
  try simp only [Act.put, Ya, Yb, Yc]
  refine wpAnyH_ready (rs := [30]) (by kernel_rfl) (by simp) ?_
  refine AllReadyH.cons rfl (fun K hK => ?_) AllReadyH.nil
  go_simp
  clear hHeld
  (refine (frac_any (E := E) (4) _ _ (unhide A4) (unhide A5) _ (unhide HS7)).mono ?_; rintro e w8 ⟨f8, x8, y8, rfl, hk, hd⟩; have HS8 := hide (hs_keep (unhide HS7) hk); have HLo8 := hide (lo_keep (unhide HLo7) hk); have HK8 := hide ((unhide HK7).trans hk); have HC8 : Hid (Chain E w8 (0) [(.func (.func f1) x1 y1, [dI 0], pPos), (.func (.func f2) x2 y2, [dS []], pName), (.func (.func f3) x3 y3, [], pThe [118, 111, 108, 117, 109, 101]), (.func (.func f4) x4 y4, [dI 0], pNum), (.func (.func f5) x5 y5, [], pThe [102, 108, 111, 119]), (.func (.func f6) x6 y6, [dI 0], pNum), (.func (.func f7) x7 y7, [], pThe [117, 115, 101]), (.func (.func f8) x8 y8, [dI 0, dI 0], pFrac)]) := hide (chain_snoc (unhide HC7) hk hd); clear hk hd)
  try go_wp2_with fail
  refine hK.out _ _ ?_ (fun hHeld => ?_)
  · trivial
  clear hK K
  try simp only [Act.put, Ya, Yb, Yc]
  refine wpAnyH_ready (rs := [32]) (by kernel_rfl) (by simp) ?_
  refine AllReadyH.cons rfl (fun K hK => ?_) AllReadyH.nil
  go_simp
  clear hHeld
  (refine (the_any (E := E) [115, 112, 101, 101, 100] (by decide) (6) _ (unhide HS8)).mono ?_; rintro e w9 ⟨f9, x9, y9, rfl, hk, hd⟩; have HS9 := hide (hs_keep (unhide HS8) hk); have HLo9 := hide (lo_keep (unhide HLo8) hk); have HK9 := hide ((unhide HK8).trans hk); have HC9 : Hid (Chain E w9 (0) [(.func (.func f1) x1 y1, [dI 0], pPos), (.func (.func f2) x2 y2, [dS []], pName), (.func (.func f3) x3 y3, [], pThe [118, 111, 108, 117, 109, 101]), (.func (.func f4) x4 y4, [dI 0], pNum), (.func (.func f5) x5 y5, [], pThe [102, 108, 111, 119]), (.func (.func f6) x6 y6, [dI 0], pNum), (.func (.func f7) x7 y7, [], pThe [117, 115, 101]), (.func (.func f8) x8 y8, [dI 0, dI 0], pFrac), (.func (.func f9) x9 y9, [], pThe [115, 112, 101, 101, 100])]) := hide (chain_snoc (unhide HC8) hk hd); clear hk hd)
  try go_wp2_with fail
  refine hK.out _ _ ?_ (fun hHeld => ?_)
  · trivial
  clear hK K
  try simp only [Act.put, Ya, Yb, Yc]
  refine wpAnyH_ready (rs := [37]) (by kernel_rfl) (by simp) ?_
  refine AllReadyH.cons rfl (fun K hK => ?_) AllReadyH.nil
  go_simp
  clear hHeld
  (refine (num_any (E := E) (dI 0) (6) _ _ (unhide A6) _ (unhide HS9)).mono ?_; rintro e w10 ⟨f10, x10, y10, rfl, hk, hd⟩; have HS10 := hide (hs_keep (unhide HS9) hk); have HLo10 := hide (lo_keep (unhide HLo9) hk); have HK10 := hide ((unhide HK9).trans hk); have HC10 : Hid (Chain E w10 (0) [(.func (.func f1) x1 y1, [dI 0], pPos), (.func (.func f2) x2 y2, [dS []], pName), (.func (.func f3) x3 y3, [], pThe [118, 111, 108, 117, 109, 101]), (.func (.func f4) x4 y4, [dI 0], pNum), (.func (.func f5) x5 y5, [], pThe [102, 108, 111, 119]), (.func (.func f6) x6 y6, [dI 0], pNum), (.func (.func f7) x7 y7, [], pThe [117, 115, 101]), (.func (.func f8) x8 y8, [dI 0, dI 0], pFrac), (.func (.func f9) x9 y9, [], pThe [115, 112, 101, 101, 100]), (.func (.func f10) x10 y10, [dI 0], pNum)]) := hide (chain_snoc (unhide HC9) hk hd); clear hk hd)
  try go_wp2_with fail
  refine hK.out _ _ ?_ (fun hHeld => ?_)
  · trivial
  clear hK K
  try simp only [Act.put, Ya, Yb, Yc]
  refine wpAnyH_ready (rs := [39]) (by kernel_rfl) (by simp) ?_
  refine AllReadyH.cons rfl (fun K hK => ?_) AllReadyH.nil
  go_simp
  clear hHeld
  (refine (the_any (E := E) [103, 114, 97, 100, 101] (by decide) (7) _ (unhide HS10)).mono ?_; rintro e w11 ⟨f11, x11, y11, rfl, hk, hd⟩; have HS11 := hide (hs_keep (unhide HS10) hk); have HLo11 := hide (lo_keep (unhide HLo10) hk); have HK11 := hide ((unhide HK10).trans hk); have HC11 : Hid (Chain E w11 (0) [(.func (.func f1) x1 y1, [dI 0], pPos), (.func (.func f2) x2 y2, [dS []], pName), (.func (.func f3) x3 y3, [], pThe [118, 111, 108, 117, 109, 101]), (.func (.func f4) x4 y4, [dI 0], pNum), (.func (.func f5) x5 y5, [], pThe [102, 108, 111, 119]), (.func (.func f6) x6 y6, [dI 0], pNum), (.func (.func f7) x7 y7, [], pThe [117, 115, 101]), (.func (.func f8) x8 y8, [dI 0, dI 0], pFrac), (.func (.func f9) x9 y9, [], pThe [115, 112, 101, 101, 100]), (.func (.func f10) x10 y10, [dI 0], pNum), (.func (.func f11) x11 y11, [], pThe [103, 114, 97, 100, 101])]) := hide (chain_snoc (unhide HC10) hk hd); clear hk hd)
  try go_wp2_with fail
  refine hK.out _ _ ?_ (fun hHeld => ?_)
  · trivial
  clear hK K
  try simp only [Act.put, Ya, Yb, Yc]
  refine wpAnyH_ready (rs := [44]) (by kernel_rfl) (by simp) ?_
  refine AllReadyH.cons rfl (fun K hK => ?_) AllReadyH.nil
  go_simp
  clear hHeld
  (refine (grade_any (E := E) (7) _ _ (unhide A7) _ (unhide HS11)).mono ?_; rintro e w12 ⟨f12, x12, y12, rfl, hk, hd⟩; have HS12 := hide (hs_keep (unhide HS11) hk); have HLo12 := hide (lo_keep (unhide HLo11) hk); have HK12 := hide ((unhide HK11).trans hk); have HC12 : Hid (Chain E w12 (0) [(.func (.func f1) x1 y1, [dI 0], pPos), (.func (.func f2) x2 y2, [dS []], pName), (.func (.func f3) x3 y3, [], pThe [118, 111, 108, 117, 109, 101]), (.func (.func f4) x4 y4, [dI 0], pNum), (.func (.func f5) x5 y5, [], pThe [102, 108, 111, 119]), (.func (.func f6) x6 y6, [dI 0], pNum), (.func (.func f7) x7 y7, [], pThe [117, 115, 101]), (.func (.func f8) x8 y8, [dI 0, dI 0], pFrac), (.func (.func f9) x9 y9, [], pThe [115, 112, 101, 101, 100]), (.func (.func f10) x10 y10, [dI 0], pNum), (.func (.func f11) x11 y11, [], pThe [103, 114, 97, 100, 101]), (.func (.func f12) x12 y12, [dI 0], pGrade)]) := hide (chain_snoc (unhide HC11) hk hd); clear hk hd)
  try go_wp2_with fail
  refine hK.out _ _ ?_ (fun hHeld => ?_)
  · trivial
  clear hK K
  try simp only [Act.put, Ya, Yb, Yc]
  refine wpAnyH_ready (rs := [46]) (by kernel_rfl) (by simp) ?_
  refine AllReadyH.cons rfl (fun K hK => ?_) AllReadyH.nil
  go_simp
  clear hHeld
  (refine (the_any (E := E) [119, 105, 100, 116, 104] (by decide) (8) _ (unhide HS12)).mono ?_; rintro e w13 ⟨f13, x13, y13, rfl, hk, hd⟩; have HS13 := hide (hs_keep (unhide HS12) hk); have HLo13 := hide (lo_keep (unhide HLo12) hk); have HK13 := hide ((unhide HK12).trans hk); have HC13 : Hid (Chain E w13 (0) [(.func (.func f1) x1 y1, [dI 0], pPos), (.func (.func f2) x2 y2, [dS []], pName), (.func (.func f3) x3 y3, [], pThe [118, 111, 108, 117, 109, 101]), (.func (.func f4) x4 y4, [dI 0], pNum), (.func (.func f5) x5 y5, [], pThe [102, 108, 111, 119]), (.func (.func f6) x6 y6, [dI 0], pNum), (.func (.func f7) x7 y7, [], pThe [117, 115, 101]), (.func (.func f8) x8 y8, [dI 0, dI 0], pFrac), (.func (.func f9) x9 y9, [], pThe [115, 112, 101, 101, 100]), (.func (.func f10) x10 y10, [dI 0], pNum), (.func (.func f11) x11 y11, [], pThe [103, 114, 97, 100, 101]), (.func (.func f12) x12 y12, [dI 0], pGrade), (.func (.func f13) x13 y13, [], pThe [119, 105, 100, 116, 104])]) := hide (chain_snoc (unhide HC12) hk hd); clear hk hd)
  try go_wp2_with fail
  refine hK.out _ _ ?_ (fun hHeld => ?_)
  · trivial
  clear hK K
  try simp only [Act.put, Ya, Yb, Yc]
  refine wpAnyH_ready (rs := [51]) (by kernel_rfl) (by simp) ?_
  refine AllReadyH.cons rfl (fun K hK => ?_) AllReadyH.nil
  go_simp
  clear hHeld
  (refine (num_any (E := E) (dI 0) (8) _ _ (unhide A8) _ (unhide HS13)).mono ?_; rintro e w14 ⟨f14, x14, y14, rfl, hk, hd⟩; have HS14 := hide (hs_keep (unhide HS13) hk); have HLo14 := hide (lo_keep (unhide HLo13) hk); have HK14 := hide ((unhide HK13).trans hk); have HC14 : Hid (Chain E w14 (0) [(.func (.func f1) x1 y1, [dI 0], pPos), (.func (.func f2) x2 y2, [dS []], pName), (.func (.func f3) x3 y3, [], pThe [118, 111, 108, 117, 109, 101]), (.func (.func f4) x4 y4, [dI 0], pNum), (.func (.func f5) x5 y5, [], pThe [102, 108, 111, 119]), (.func (.func f6) x6 y6, [dI 0], pNum), (.func (.func f7) x7 y7, [], pThe [117, 115, 101]), (.func (.func f8) x8 y8, [dI 0, dI 0], pFrac), (.func (.func f9) x9 y9, [], pThe [115, 112, 101, 101, 100]), (.func (.func f10) x10 y10, [dI 0], pNum), (.func (.func f11) x11 y11, [], pThe [103, 114, 97, 100, 101]), (.func (.func f12) x12 y12, [dI 0], pGrade), (.func (.func f13) x13 y13, [], pThe [119, 105, 100, 116, 104]), (.func (.func f14) x14 y14, [dI 0], pNum)]) := hide (chain_snoc (unhide HC13) hk hd); clear hk hd)
  try go_wp2_with fail
  refine hK.out _ _ ?_ (fun hHeld => ?_)
  · trivial
  clear hK K
  try simp only [Act.put, Ya, Yb, Yc]
  refine wpAnyH_ready (rs := [53]) (by kernel_rfl) (by simp) ?_
  refine AllReadyH.cons rfl (fun K hK => ?_) AllReadyH.nil
  go_simp
  clear hHeld
  (refine (the_any (E := E) [108, 101, 110, 103, 116, 104] (by decide) (9) _ (unhide HS14)).mono ?_; rintro e w15 ⟨f15, x15, y15, rfl, hk, hd⟩; have HS15 := hide (hs_keep (unhide HS14) hk); have HLo15 := hide (lo_keep (unhide HLo14) hk); have HK15 := hide ((unhide HK14).trans hk); have HC15 : Hid (Chain E w15 (0) [(.func (.func f1) x1 y1, [dI 0], pPos), (.func (.func f2) x2 y2, [dS []], pName), (.func (.func f3) x3 y3, [], pThe [118, 111, 108, 117, 109, 101]), (.func (.func f4) x4 y4, [dI 0], pNum), (.func (.func f5) x5 y5, [], pThe [102, 108, 111, 119]), (.func (.func f6) x6 y6, [dI 0], pNum), (.func (.func f7) x7 y7, [], pThe [117, 115, 101]), (.func (.func f8) x8 y8, [dI 0, dI 0], pFrac), (.func (.func f9) x9 y9, [], pThe [115, 112, 101, 101, 100]), (.func (.func f10) x10 y10, [dI 0], pNum), (.func (.func f11) x11 y11, [], pThe [103, 114, 97, 100, 101]), (.func (.func f12) x12 y12, [dI 0], pGrade), (.func (.func f13) x13 y13, [], pThe [119, 105, 100, 116, 104]), (.func (.func f14) x14 y14, [dI 0], pNum), (.func (.func f15) x15 y15, [], pThe [108, 101, 110, 103, 116, 104])]) := hide (chain_snoc (unhide HC14) hk hd); clear hk hd)
  try go_wp2_with fail
  refine hK.out _ _ ?_ (fun hHeld => ?_)
  · trivial
  clear hK K
  try simp only [Act.put, Ya, Yb, Yc]
  refine wpAnyH_ready (rs := [58]) (by kernel_rfl) (by simp) ?_
  refine AllReadyH.cons rfl (fun K hK => ?_) AllReadyH.nil
  go_simp
  clear hHeld
  (refine (num_any (E := E) (dI 0) (9) _ _ (unhide A9) _ (unhide HS15)).mono ?_; rintro e w16 ⟨f16, x16, y16, rfl, hk, hd⟩; have HS16 := hide (hs_keep (unhide HS15) hk); have HLo16 := hide (lo_keep (unhide HLo15) hk); have HK16 := hide ((unhide HK15).trans hk); have HC16 : Hid (Chain E w16 (0) [(.func (.func f1) x1 y1, [dI 0], pPos), (.func (.func f2) x2 y2, [dS []], pName), (.func (.func f3) x3 y3, [], pThe [118, 111, 108, 117, 109, 101]), (.func (.func f4) x4 y4, [dI 0], pNum), (.func (.func f5) x5 y5, [], pThe [102, 108, 111, 119]), (.func (.func f6) x6 y6, [dI 0], pNum), (.func (.func f7) x7 y7, [], pThe [117, 115, 101]), (.func (.func f8) x8 y8, [dI 0, dI 0], pFrac), (.func (.func f9) x9 y9, [], pThe [115, 112, 101, 101, 100]), (.func (.func f10) x10 y10, [dI 0], pNum), (.func (.func f11) x11 y11, [], pThe [103, 114, 97, 100, 101]), (.func (.func f12) x12 y12, [dI 0], pGrade), (.func (.func f13) x13 y13, [], pThe [119, 105, 100, 116, 104]), (.func (.func f14) x14 y14, [dI 0], pNum), (.func (.func f15) x15 y15, [], pThe [108, 101, 110, 103, 116, 104]), (.func (.func f16) x16 y16, [dI 0], pNum)]) := hide (chain_snoc (unhide HC15) hk hd); clear hk hd)
  try go_wp2_with fail
  refine hK.out _ _ ?_ (fun hHeld => ?_)
  · trivial
  clear hK K
  try simp only [Act.put, Ya, Yb, Yc]
  refine wpAnyH_ready (rs := [60]) (by kernel_rfl) (by simp) ?_
  refine AllReadyH.cons rfl (fun K hK => ?_) AllReadyH.nil
  go_simp
  clear hHeld
  (refine (the_any (E := E) [103, 114, 101, 101, 110] (by decide) (10) _ (unhide HS16)).mono ?_; rintro e w17 ⟨f17, x17, y17, rfl, hk, hd⟩; have HS17 := hide (hs_keep (unhide HS16) hk); have HLo17 := hide (lo_keep (unhide HLo16) hk); have HK17 := hide ((unhide HK16).trans hk); have HC17 : Hid (Chain E w17 (0) [(.func (.func f1) x1 y1, [dI 0], pPos), (.func (.func f2) x2 y2, [dS []], pName), (.func (.func f3) x3 y3, [], pThe [118, 111, 108, 117, 109, 101]), (.func (.func f4) x4 y4, [dI 0], pNum), (.func (.func f5) x5 y5, [], pThe [102, 108, 111, 119]), (.func (.func f6) x6 y6, [dI 0], pNum), (.func (.func f7) x7 y7, [], pThe [117, 115, 101]), (.func (.func f8) x8 y8, [dI 0, dI 0], pFrac), (.func (.func f9) x9 y9, [], pThe [115, 112, 101, 101, 100]), (.func (.func f10) x10 y10, [dI 0], pNum), (.func (.func f11) x11 y11, [], pThe [103, 114, 97, 100, 101]), (.func (.func f12) x12 y12, [dI 0], pGrade), (.func (.func f13) x13 y13, [], pThe [119, 105, 100, 116, 104]), (.func (.func f14) x14 y14, [dI 0], pNum), (.func (.func f15) x15 y15, [], pThe [108, 101, 110, 103, 116, 104]), (.func (.func f16) x16 y16, [dI 0], pNum), (.func (.func f17) x17 y17, [], pThe [103, 114, 101, 101, 110])]) := hide (chain_snoc (unhide HC16) hk hd); clear hk hd)
  try go_wp2_with fail
  refine hK.out _ _ ?_ (fun hHeld => ?_)
  · trivial
  clear hK K
  try simp only [Act.put, Ya, Yb, Yc]
  refine wpAnyH_ready (rs := [65]) (by kernel_rfl) (by simp) ?_
  refine AllReadyH.cons rfl (fun K hK => ?_) AllReadyH.nil
  go_simp
  clear hHeld
  (refine (num_any (E := E) (dI 0) (10) _ _ (unhide A10) _ (unhide HS17)).mono ?_; rintro e w18 ⟨f18, x18, y18, rfl, hk, hd⟩; have HS18 := hide (hs_keep (unhide HS17) hk); have HLo18 := hide (lo_keep (unhide HLo17) hk); have HK18 := hide ((unhide HK17).trans hk); have HC18 : Hid (Chain E w18 (0) [(.func (.func f1) x1 y1, [dI 0], pPos), (.func (.func f2) x2 y2, [dS []], pName), (.func (.func f3) x3 y3, [], pThe [118, 111, 108, 117, 109, 101]), (.func (.func f4) x4 y4, [dI 0], pNum), (.func (.func f5) x5 y5, [], pThe [102, 108, 111, 119]), (.func (.func f6) x6 y6, [dI 0], pNum), (.func (.func f7) x7 y7, [], pThe [117, 115, 101]), (.func (.func f8) x8 y8, [dI 0, dI 0], pFrac), (.func (.func f9) x9 y9, [], pThe [115, 112, 101, 101, 100]), (.func (.func f10) x10 y10, [dI 0], pNum), (.func (.func f11) x11 y11, [], pThe [103, 114, 97, 100, 101]), (.func (.func f12) x12 y12, [dI 0], pGrade), (.func (.func f13) x13 y13, [], pThe [119, 105, 100, 116, 104]), (.func (.func f14) x14 y14, [dI 0], pNum), (.func (.func f15) x15 y15, [], pThe [108, 101, 110, 103, 116, 104]), (.func (.func f16) x16 y16, [dI 0], pNum), (.func (.func f17) x17 y17, [], pThe [103, 114, 101, 101, 110]), (.func (.func f18) x18 y18, [dI 0], pNum)]) := hide (chain_snoc (unhide HC17) hk hd); clear hk hd)
  try go_wp2_with fail
  refine hK.out _ _ ?_ (fun hHeld => ?_)
  · trivial
  clear hK K
  try simp only [Act.put, Ya, Yb, Yc]
  refine wpAnyH_ready (rs := [67]) (by kernel_rfl) (by simp) ?_
  refine AllReadyH.cons rfl (fun K hK => ?_) AllReadyH.nil
  go_simp
  clear hHeld
  (refine (the_any (E := E) [59] (by decide) (11) _ (unhide HS18)).mono ?_; rintro e w19 ⟨f19, x19, y19, rfl, hk, hd⟩; have HS19 := hide (hs_keep (unhide HS18) hk); have HLo19 := hide (lo_keep (unhide HLo18) hk); have HK19 := hide ((unhide HK18).trans hk); have HC19 : Hid (Chain E w19 (0) [(.func (.func f1) x1 y1, [dI 0], pPos), (.func (.func f2) x2 y2, [dS []], pName), (.func (.func f3) x3 y3, [], pThe [118, 111, 108, 117, 109, 101]), (.func (.func f4) x4 y4, [dI 0], pNum), (.func (.func f5) x5 y5, [], pThe [102, 108, 111, 119]), (.func (.func f6) x6 y6, [dI 0], pNum), (.func (.func f7) x7 y7, [], pThe [117, 115, 101]), (.func (.func f8) x8 y8, [dI 0, dI 0], pFrac), (.func (.func f9) x9 y9, [], pThe [115, 112, 101, 101, 100]), (.func (.func f10) x10 y10, [dI 0], pNum), (.func (.func f11) x11 y11, [], pThe [103, 114, 97, 100, 101]), (.func (.func f12) x12 y12, [dI 0], pGrade), (.func (.func f13) x13 y13, [], pThe [119, 105, 100, 116, 104]), (.func (.func f14) x14 y14, [dI 0], pNum), (.func (.func f15) x15 y15, [], pThe [108, 101, 110, 103, 116, 104]), (.func (.func f16) x16 y16, [dI 0], pNum), (.func (.func f17) x17 y17, [], pThe [103, 114, 101, 101, 110]), (.func (.func f18) x18 y18, [dI 0], pNum), (.func (.func f19) x19 y19, [], pThe [59])]) := hide (chain_snoc (unhide HC18) hk hd); clear hk hd)
  try go_wp2_with fail
  refine hK.out _ _ ?_ (fun hHeld => ?_)
  · trivial
  clear hK K
  try simp only [Act.put, Ya, Yb, Yc]
  refine wpAnyH_ready (rs := [68]) (by kernel_rfl) (by simp) ?_
  refine AllReadyH.cons rfl (fun K hK => ?_) AllReadyH.nil
  go_simp
  clear hHeld
  refine hK.out _ _ ?_ (fun hHeld => ?_)
  · trivial
  clear hK K
  try simp only [Act.put, Ya, Yb, Yc]
  refine wpAnyH_ready (rs := [69]) (by kernel_rfl) (by simp) ?_
  refine AllReadyH.cons rfl (fun K hK => ?_) AllReadyH.nil
  go_simp
  clear hHeld
  (refine (order_any (E := E) (m := 0) (ss := [(.func (.func f1) x1 y1, [dI 0], pPos), (.func (.func f2) x2 y2, [dS []], pName), (.func (.func f3) x3 y3, [], pThe [118, 111, 108, 117, 109, 101]), (.func (.func f4) x4 y4, [dI 0], pNum), (.func (.func f5) x5 y5, [], pThe [102, 108, 111, 119]), (.func (.func f6) x6 y6, [dI 0], pNum), (.func (.func f7) x7 y7, [], pThe [117, 115, 101]), (.func (.func f8) x8 y8, [dI 0, dI 0], pFrac), (.func (.func f9) x9 y9, [], pThe [115, 112, 101, 101, 100]), (.func (.func f10) x10 y10, [dI 0], pNum), (.func (.func f11) x11 y11, [], pThe [103, 114, 97, 100, 101]), (.func (.func f12) x12 y12, [dI 0], pGrade), (.func (.func f13) x13 y13, [], pThe [119, 105, 100, 116, 104]), (.func (.func f14) x14 y14, [dI 0], pNum), (.func (.func f15) x15 y15, [], pThe [108, 101, 110, 103, 116, 104]), (.func (.func f16) x16 y16, [dI 0], pNum), (.func (.func f17) x17 y17, [], pThe [103, 114, 101, 101, 110]), (.func (.func f18) x18 y18, [dI 0], pNum), (.func (.func f19) x19 y19, [], pThe [59])]) (c := []) (rest := []) (r := r) (by simp) (chain_keep ((Keep.refl _).alloc _) (unhide HC19)) (new_steps _ _ _) (fun h => Nat.lt_irrefl _ ((unhide HS19) _ h)) rfl ((unhide HR).keep ((unhide HK19).alloc _)) ((unhide HL).keep ((unhide HK19).alloc _))).mono ?_; rintro e wz hp; obtain ⟨vz, rfl⟩ := post_ret hp; have HP := hide hp; have HKz := hide ((unhide HK19).alloc (.cells #[.func (.func f1) x1 y1, .func (.func f2) x2 y2, .func (.func f3) x3 y3, .func (.func f4) x4 y4, .func (.func f5) x5 y5, .func (.func f6) x6 y6, .func (.func f7) x7 y7, .func (.func f8) x8 y8, .func (.func f9) x9 y9, .func (.func f10) x10 y10, .func (.func f11) x11 y11, .func (.func f12) x12 y12, .func (.func f13) x13 y13, .func (.func f14) x14 y14, .func (.func f15) x15 y15, .func (.func f16) x16 y16, .func (.func f17) x17 y17, .func (.func f18) x18 y18, .func (.func f19) x19 y19] 121)); clear hp)
  try go_wp2_with fail
  refine hK.out _ _ ?_ (fun hHeld => ?_)
  · trivial
  clear hK K
  try simp only [Act.put, Ya, Yb, Yc]
  refine wpAnyH_take (i := 70) (v := ?_) rfl (by kernel_rfl) (by kernel_rfl) (by kernel_rfl) (fun _ _ _ h => h) (Or.inl ⟨by rfl, ?_⟩) hHeld ?_; rotate_left; (focus (intro w hSw; (try dsimp only at hSw); go_simp; (try with_reducible rfl))); show wpAnyH _ _ _ _ _ _ _ (Act.put _ (some 4) _) _; try simp only [Act.put, Ya, Yb, Yc]
  refine wpAnyH_done (by kernel_rfl) ?_ _
  clear hHeld
  go_wp2_with fail
  go_ret
  exact post_pre (.keep (unhide HKz)) (unhide HP)
end Go.Proofs.YtmplckdpddmifaaGreatDoor
