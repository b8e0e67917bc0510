/- Package net: the token that is next, and an error at it. -/
import Derived.Test.YtmplckdpddmifaaGreatDoorNInv
import Derived.Deep.DrawnRows
import Derived.Deep.RegionHeld
namespace Go.Proofs.YtmplckdpddmifaaGreatDoor
open Go.RowKit
attribute [local go_sem ↓] Go.wp_at_zero Go.wp_at_succ
set_option linter.unusedVariables false
set_option linter.unusedSimpArgs false
set_option maxRecDepth 10000
set_option maxHeartbeats 2000000 in
theorem now_core (rb k n cap : Nat) (ad : Addr) (kk nn pp : Int) (S : ByteArray) (w : World) (hk : (k : Int) < (n : Int))
    (h0 : w.cell? ⟨rb, 0, none⟩ = some (.slice (some ad) n cap)) (h1 : w.cell? ⟨rb, 1, none⟩ = some (.int .i64 (k : Int)))
    (c0 : w.cell? (ad.add (k * 4)) = some (.int .i64 kk)) (c1 : w.cell? ⟨(ad.add (k * 4)).block, (ad.add (k * 4)).off + 1, none⟩ = some (.string S)) (c2 : w.cell? ⟨(ad.add (k * 4)).block, (ad.add (k * 4)).off + 2, none⟩ = some (.int .i64 nn)) (c3 : w.cell? ⟨(ad.add (k * 4)).block, (ad.add (k * 4)).off + 3, none⟩ = some (.int .i64 pp)) :
    Calls Tryz.prog 63 #[.pointer (some ⟨rb, 0, none⟩)] w fun e w' => e = .returned (.agg #[.int .i64 kk, .string S, .int .i64 nn, .int .i64 pp]) ∧ Keep w w' := by
  have K := fun o => (Keep.refl w).alloc o
  have HK := hide K
  have H0 := hide h0
  have H1 := hide h1
  have H2 := hide c0
  have H3 := hide c1
  have H4 := hide c2
  have H5 := hide c3
  clear K h0 h1 c0 c1 c2 c3
  go_enter Tryz.func63, Tryz.ntmps63
  go_wp2_with fail
  refine wp_region_held_drew (S := fun w' => w'.cell? ⟨rb, 0, none⟩ = some (.slice (some ad) n cap) ∧ w'.cell? ⟨rb, 1, none⟩ = some (.int .i64 (k : Int)) ∧ w'.cell? (ad.add (k * 4)) = some (.int .i64 kk) ∧ w'.cell? ⟨(ad.add (k * 4)).block, (ad.add (k * 4)).off + 1, none⟩ = some (.string S) ∧ w'.cell? ⟨(ad.add (k * 4)).block, (ad.add (k * 4)).off + 2, none⟩ = some (.int .i64 nn) ∧ w'.cell? ⟨(ad.add (k * 4)).block, (ad.add (k * 4)).off + 3, none⟩ = some (.int .i64 pp)) (by kernel_rfl) (by exact ⟨((unhide HK) _).cell' (unhide H0), ((unhide HK) _).cell' (unhide H1), ((unhide HK) _).cell' (unhide H2), ((unhide HK) _).cell' (unhide H3), ((unhide HK) _).cell' (unhide H4), ((unhide HK) _).cell' (unhide H5)⟩) (fun hHeld => ?_)
  refine wpAnyH_take (i := 0) (v := ?_) rfl (by kernel_rfl) (by kernel_rfl) (by kernel_rfl) (fun _ _ _ h => h) (Or.inl ⟨by rfl, ?_⟩) hHeld ?_; rotate_left; (focus (intro w hSw; (try dsimp only at hSw); go_simp; (try with_reducible rfl))); show wpAnyH _ _ _ _ _ _ _ (Act.put _ (some 3) _) _; try simp only [Act.put, Ya, Yb, Yc]
  refine wpAnyH_take (i := 1) (v := ?_) rfl (by kernel_rfl) (by kernel_rfl) (by kernel_rfl) (fun _ _ _ h => h) (Or.inl ⟨by rfl, ?_⟩) hHeld ?_; rotate_left; (focus (intro w hSw; (try dsimp only at hSw); go_simp; (try with_reducible rfl))); show wpAnyH _ _ _ _ _ _ _ (Act.put _ (some 4) _) _; try simp only [Act.put, Ya, Yb, Yc]
  refine wpAnyH_take (i := 2) (v := ?_) rfl (by kernel_rfl) (by kernel_rfl) (by kernel_rfl) (fun _ _ _ h => h) (Or.inl ⟨by rfl, ?_⟩) hHeld ?_; rotate_left; (focus (intro w hSw; (try dsimp only at hSw); go_simp; (try with_reducible rfl))); show wpAnyH _ _ _ _ _ _ _ (Act.put _ (some 5) _) _; try simp only [Act.put, Ya, Yb, Yc]
  refine wpAnyH_take (i := 3) (v := ?_) rfl (by kernel_rfl) (by kernel_rfl) (by kernel_rfl) (fun _ _ _ h => h) (Or.inl ⟨by rfl, ?_⟩) hHeld ?_; rotate_left; (focus (intro w hSw; (try dsimp only at hSw); go_simp; (try with_reducible rfl))); show wpAnyH _ _ _ _ _ _ _ (Act.put _ (some 6) _) _; try simp only [Act.put, Ya, Yb, Yc]
  refine wpAnyH_take (i := 4) (v := ?_) rfl (by kernel_rfl) (by kernel_rfl) (by kernel_rfl) (fun _ _ _ h => h) (Or.inl ⟨by rfl, ?_⟩) hHeld ?_; rotate_left; (focus (intro w hSw; (try dsimp only at hSw); go_simp; (try with_reducible rfl))); show wpAnyH _ _ _ _ _ _ _ (Act.put _ (some 7) _) _; try simp only [Act.put, Ya, Yb, Yc]
  refine wpAnyH_take (i := 5) (v := ?_) rfl (by kernel_rfl) (by kernel_rfl) (by kernel_rfl) (fun _ _ _ h => h) (Or.inl ⟨by rfl, ?_⟩) hHeld ?_; rotate_left; (focus (intro w hSw; (try dsimp only at hSw); go_simp; (try with_reducible rfl))); show wpAnyH _ _ _ _ _ _ _ (Act.put _ (some 8) _) _; try simp only [Act.put, Ya, Yb, Yc]
  refine wpAnyH_take (i := 6) (v := ?_) rfl (by kernel_rfl) (by kernel_rfl) (by kernel_rfl) (fun _ _ _ h => h) (Or.inl ⟨by rfl, ?_⟩) hHeld ?_; rotate_left; (focus (intro w hSw; (try dsimp only at hSw); go_simp; (try with_reducible rfl))); show wpAnyH _ _ _ _ _ _ _ (Act.put _ (some 9) _) _; try simp only [Act.put, Ya, Yb, Yc]
  refine wpAnyH_take (i := 7) (v := ?_) rfl (by kernel_rfl) (by kernel_rfl) (by kernel_rfl) (fun _ _ _ h => h) (Or.inl ⟨by rfl, ?_⟩) hHeld ?_; rotate_left; (focus (intro w hSw; (try dsimp only at hSw); go_simp; (try with_reducible rfl))); show wpAnyH _ _ _ _ _ _ _ (Act.put _ (some 10) _) _; try simp only [Act.put, Ya, Yb, Yc]
  refine wpAnyH_take (i := 8) (v := ?_) rfl (by kernel_rfl) (by kernel_rfl) (by kernel_rfl) (fun _ _ _ h => h) (Or.inl ⟨by rfl, ?_⟩) hHeld ?_; rotate_left; (focus (intro w hSw; (try dsimp only at hSw); go_simp; (try with_reducible rfl))); show wpAnyH _ _ _ _ _ _ _ (Act.put _ (some 11) _) _; try simp only [Act.put, Ya, Yb, Yc]
  refine wpAnyH_take (i := 9) (v := ?_) rfl (by kernel_rfl) (by kernel_rfl) (by kernel_rfl) (fun _ _ _ h => h) (Or.inl ⟨by rfl, ?_⟩) hHeld ?_; rotate_left; (focus (intro w hSw; (try dsimp only at hSw); go_simp; (try with_reducible rfl))); show wpAnyH _ _ _ _ _ _ _ (Act.put _ (some 12) _) _; try simp only [Act.put, Ya, Yb, Yc]
  refine wpAnyH_ready (rs := [10]) (by kernel_rfl) (by simp) ?_
  refine AllReadyH.cons rfl (fun K hK => ?_) AllReadyH.nil
  go_simp
  clear hHeld
  refine hK.out _ _ ?_ (fun hHeld => ?_)
  · exact ⟨((unhide HK) _).cell' (unhide H0), ((unhide HK) _).cell' (unhide H1), ((unhide HK) _).cell' (unhide H2), ((unhide HK) _).cell' (unhide H3), ((unhide HK) _).cell' (unhide H4), ((unhide HK) _).cell' (unhide H5)⟩
  clear hK K
  try simp only [Act.put, Ya, Yb, Yc]
  refine wpAnyH_done (by kernel_rfl) ?_ _
  clear hHeld
  go_wp2_with fail
  refine bodyPost_ret (v := .agg #[.int .i64 kk, .string S, .int .i64 nn, .int .i64 pp]) ?_ rfl ?_
  · simp [results, Tryz.results63, go_sem]
  · exact ⟨rfl, by repeat (first | apply keep_ext | apply Keep.alloc | apply Keep.drew | exact Keep.refl _)⟩
theorem now_any {rb : Nat} {l : List Tok} {ta : Addr} {cap : Nat} {w : World} {t : Tok} {r : List Tok} (h : R0 rb l ta cap w (t :: r)) :
    Calls Tryz.prog 63 #[.pointer (some ⟨rb, 0, none⟩)] w fun e w' => e = .returned (tv t) ∧ Keep w w' := by
  obtain ⟨k, h1, h2, h3, h4, h5, h7, h8, h9⟩ := h
  obtain ⟨c0, c1, c2, c3⟩ := h8 k h1
  rw [(drop_cons h2).2.1] at c0 c1 c2 c3
  exact now_core rb k l.length cap ta t.k t.n t.p (sv t.s) w (by omega) h3 h4 c0 c1 c2 c3
theorem field_k (k n p : Int) (s : ByteArray) (w : World) : (Instr.field 65 (.agg #[.int .i64 k, .string s, .int .i64 n, .int .i64 p]) 0).run Tryz.prog w = .ok (.int .i64 k) w := by kernel_rfl
theorem field_s (k n p : Int) (s : ByteArray) (w : World) : (Instr.field 65 (.agg #[.int .i64 k, .string s, .int .i64 n, .int .i64 p]) 1).run Tryz.prog w = .ok (.string s) w := by kernel_rfl
theorem field_p (k n p : Int) (s : ByteArray) (w : World) : (Instr.field 65 (.agg #[.int .i64 k, .string s, .int .i64 n, .int .i64 p]) 3).run Tryz.prog w = .ok (.int .i64 p) w := by kernel_rfl
set_option maxHeartbeats 2000000 in
theorem wrong_core (rb : Nat) (x kk nn pp : Int) (S : ByteArray) (w : World) (T : Hid (∀ w', Keep w w' → Calls Tryz.prog 63 #[.pointer (some ⟨rb, 0, none⟩)] w' fun e w'' => e = .returned (.agg #[.int .i64 kk, .string S, .int .i64 nn, .int .i64 pp]) ∧ Keep w' w'')) :
    Calls Tryz.prog 64 #[.pointer (some ⟨rb, 0, none⟩), .int .i64 x] w fun e w' => e = .returned (flt (x, pp)) ∧ Keep w w' := by
  have HK := hide (Keep.refl w)
  have fp := field_p
  go_enter Tryz.func64, Tryz.ntmps64
  go_wp2_with fail
  (refine ((unhide T) _ (unhide HK)).mono ?_; rintro e w2 ⟨rfl, hk⟩)
  have HK2 := hide hk
  clear hk
  go_wp2_with fail
  go_ret
  exact ⟨rfl, unhide HK2⟩
theorem wrong_any {rb : Nat} {l : List Tok} {ta : Addr} {cap : Nat} {w : World} {t : Tok} {r : List Tok} (x : Int) (h : R0 rb l ta cap w (t :: r)) :
    Calls Tryz.prog 64 #[.pointer (some ⟨rb, 0, none⟩), .int .i64 x] w fun e w' => e = .returned (flt (x, t.p)) ∧ Keep w w' :=
  wrong_core rb x t.k t.n t.p (sv t.s) w (hide fun w' hk => now_any (h.keep hk))
end Go.Proofs.YtmplckdpddmifaaGreatDoor
