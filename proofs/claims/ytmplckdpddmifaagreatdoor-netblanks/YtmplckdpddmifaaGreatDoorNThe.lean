/- Package net: the steps that read one token. -/
import Derived.Test.YtmplckdpddmifaaGreatDoorNNow
namespace Go.Proofs.YtmplckdpddmifaaGreatDoor
open Go.RowKit
attribute [local go_sem ↓] Go.wp_at_zero Go.wp_at_succ
set_option linter.unusedVariables false
set_option linter.unusedSimpArgs false
set_option maxRecDepth 10000
/-- what 'now' answers, and what 'wrong' does -/
def NowT (rb : Nat) (kk nn pp : Int) (S : ByteArray) (w : World) : Prop := ∀ w', Keep w w' → Calls Tryz.prog 63 #[.pointer (some ⟨rb, 0, none⟩)] w' fun e w'' => e = .returned (.agg #[.int .i64 kk, .string S, .int .i64 nn, .int .i64 pp]) ∧ Keep w' w''
def WrongT (rb : Nat) (pp : Int) (w : World) : Prop := ∀ x w', Keep w w' → Calls Tryz.prog 64 #[.pointer (some ⟨rb, 0, none⟩), .int .i64 x] w' fun e w'' => e = .returned (flt (x, pp)) ∧ Keep w' w''
theorem nowT {rb : Nat} {l : List Tok} {ta : Addr} {cap : Nat} {w : World} {t : Tok} {r : List Tok} (h : R0 rb l ta cap w (t :: r)) : NowT rb t.k t.n t.p (sv t.s) w := fun w' hk => now_any (h.keep hk)
theorem wrongT {rb : Nat} {l : List Tok} {ta : Addr} {cap : Nat} {w : World} {t : Tok} {r : List Tok} (h : R0 rb l ta cap w (t :: r)) : WrongT rb t.p w := fun x w' hk => wrong_any x (h.keep hk)
set_option maxHeartbeats 2000000 in
theorem the_no (rb g1 g2 : Nat) (kk nn pp : Int) (S X : ByteArray) (w : World) (hne : (S.toList == X.toList) = false)
    (h1 : w.cell? ⟨g1, 0, none⟩ = some (.pointer (some ⟨rb, 0, none⟩))) (h2 : w.cell? ⟨g2, 0, none⟩ = some (.string X))
    (T1 : Hid (NowT rb kk nn pp S w)) (T2 : Hid (WrongT rb pp w)) :
    Calls Tryz.prog 62 #[.pointer (some ⟨g1, 0, none⟩), .pointer (some ⟨g2, 0, none⟩)] w fun e w' => e = .returned (flt (50, pp)) ∧ Keep w w' := by
  have HK := hide (Keep.refl w)
  have H1 := hide h1
  have H2 := hide h2
  have fs := field_s
  clear h1 h2
  go_enter Tryz.func62, Tryz.ntmps62
  go_wp2_with fail
  refine wp_region_held_drew (S := fun w' => w'.cell? ⟨g1, 0, none⟩ = some (.pointer (some ⟨rb, 0, none⟩)) ∧ w'.cell? ⟨g2, 0, none⟩ = some (.string X)) (by kernel_rfl) (by exact ⟨unhide H1, unhide H2⟩) (fun hHeld => ?_)
  refine wpAnyH_take (i := 0) (v := ?_) rfl (by kernel_rfl) (by kernel_rfl) (by kernel_rfl) (fun _ _ _ h => h) (Or.inl ⟨by rfl, ?_⟩) hHeld ?_; rotate_left; (focus (intro w hSw; (try dsimp only at hSw); go_simp; (try with_reducible rfl))); show wpAnyH _ _ _ _ _ _ _ (Act.put _ (some 3) _) _; try simp only [Act.put, Ya, Yb, Yc]
  refine wpAnyH_take (i := 3) (v := ?_) rfl (by kernel_rfl) (by kernel_rfl) (by kernel_rfl) (fun _ _ _ h => h) (Or.inl ⟨by rfl, ?_⟩) hHeld ?_; rotate_left; (focus (intro w hSw; (try dsimp only at hSw); go_simp; (try with_reducible rfl))); show wpAnyH _ _ _ _ _ _ _ (Act.put _ (some 6) _) _; try simp only [Act.put, Ya, Yb, Yc]
  refine wpAnyH_ready (rs := [1]) (by kernel_rfl) (by simp) ?_
  refine AllReadyH.cons rfl (fun K hK => ?_) AllReadyH.nil
  go_simp
  clear hHeld
  (refine ((unhide T1) _ (unhide HK).drew).mono ?_; rintro e w2 ⟨rfl, hk⟩; have HK2 := hide ((unhide HK).drew.trans hk); clear hk)
  try go_wp2_with fail
  refine hK.out _ _ ?_ (fun hHeld => ?_)
  · exact ⟨(unhide HK2).cell' (unhide H1), (unhide HK2).cell' (unhide H2)⟩
  clear hK K
  try simp only [Act.put, Ya, Yb, Yc]
  refine wpAnyH_take (i := 2) (v := ?_) rfl (by kernel_rfl) (by kernel_rfl) (by kernel_rfl) (fun _ _ _ h => h) (Or.inl ⟨by rfl, ?_⟩) hHeld ?_; rotate_left; (focus (intro w hSw; (try dsimp only at hSw); go_simp; (try with_reducible rfl))); show wpAnyH _ _ _ _ _ _ _ (Act.put _ (some 5) _) _; try simp only [Act.put, Ya, Yb, Yc]
  refine wpAnyH_take (i := 4) (v := ?_) rfl (by kernel_rfl) (by kernel_rfl) (by kernel_rfl) (fun _ _ _ h => h) (Or.inl ⟨by rfl, ?_⟩) hHeld ?_; rotate_left; (focus (intro w hSw; (try dsimp only at hSw); go_simp; (try with_reducible rfl))); show wpAnyH _ _ _ _ _ _ _ (Act.put _ (some 7) _) _; try simp only [Act.put, Ya, Yb, Yc]
  refine wpAnyH_done (by kernel_rfl) ?_ _
  clear hHeld
  have c1 := (unhide HK2).cell' (unhide H1)
  go_wp2_with fail
  (refine ((unhide T2) _ _ (unhide HK2)).mono ?_; rintro e w3 ⟨rfl, hk⟩; have HK3 := hide ((unhide HK2).trans hk); clear hk)
  go_wp2_with fail
  go_ret
  exact ⟨rfl, unhide HK3⟩
set_option maxHeartbeats 2000000 in
theorem the_yes (rb g1 g2 k : Nat) (kk nn pp : Int) (S X : ByteArray) (w : World) (hne : (S.toList == X.toList) = true) (hk : k < 70001)
    (h1 : w.cell? ⟨g1, 0, none⟩ = some (.pointer (some ⟨rb, 0, none⟩))) (h2 : w.cell? ⟨g2, 0, none⟩ = some (.string X))
    (h3 : w.cell? ⟨rb, 1, none⟩ = some (.int .i64 (k : Int))) (h4 : w.frozen? ⟨rb, 1, none⟩ = false)
    (T1 : Hid (NowT rb kk nn pp S w)) :
    Calls Tryz.prog 62 #[.pointer (some ⟨g1, 0, none⟩), .pointer (some ⟨g2, 0, none⟩)] w fun e w' => e = .returned .nilIface ∧ ∃ w2, Keep w w2 ∧ w' = w2.setCell ⟨rb, 1, none⟩ (.int .i64 ((k + 1 : Nat) : Int)) := by
  have HK := hide (Keep.refl w)
  have H1 := hide h1
  have H2 := hide h2
  have H3 := hide h3
  have H4 := hide h4
  have fs := field_s
  clear h1 h2 h3 h4
  go_enter Tryz.func62, Tryz.ntmps62
  go_wp2_with fail
  refine wp_region_held_drew (S := fun w' => w'.cell? ⟨g1, 0, none⟩ = some (.pointer (some ⟨rb, 0, none⟩)) ∧ w'.cell? ⟨g2, 0, none⟩ = some (.string X)) (by kernel_rfl) (by exact ⟨unhide H1, unhide H2⟩) (fun hHeld => ?_)
  refine wpAnyH_take (i := 0) (v := ?_) rfl (by kernel_rfl) (by kernel_rfl) (by kernel_rfl) (fun _ _ _ h => h) (Or.inl ⟨by rfl, ?_⟩) hHeld ?_; rotate_left; (focus (intro w hSw; (try dsimp only at hSw); go_simp; (try with_reducible rfl))); show wpAnyH _ _ _ _ _ _ _ (Act.put _ (some 3) _) _; try simp only [Act.put, Ya, Yb, Yc]
  refine wpAnyH_take (i := 3) (v := ?_) rfl (by kernel_rfl) (by kernel_rfl) (by kernel_rfl) (fun _ _ _ h => h) (Or.inl ⟨by rfl, ?_⟩) hHeld ?_; rotate_left; (focus (intro w hSw; (try dsimp only at hSw); go_simp; (try with_reducible rfl))); show wpAnyH _ _ _ _ _ _ _ (Act.put _ (some 6) _) _; try simp only [Act.put, Ya, Yb, Yc]
  refine wpAnyH_ready (rs := [1]) (by kernel_rfl) (by simp) ?_
  refine AllReadyH.cons rfl (fun K hK => ?_) AllReadyH.nil
  go_simp
  clear hHeld
  (refine ((unhide T1) _ (unhide HK).drew).mono ?_; rintro e w2 ⟨rfl, hk⟩; have HK2 := hide ((unhide HK).drew.trans hk); clear hk)
  try go_wp2_with fail
  refine hK.out _ _ ?_ (fun hHeld => ?_)
  · exact ⟨(unhide HK2).cell' (unhide H1), (unhide HK2).cell' (unhide H2)⟩
  clear hK K
  try simp only [Act.put, Ya, Yb, Yc]
  refine wpAnyH_take (i := 2) (v := ?_) rfl (by kernel_rfl) (by kernel_rfl) (by kernel_rfl) (fun _ _ _ h => h) (Or.inl ⟨by rfl, ?_⟩) hHeld ?_; rotate_left; (focus (intro w hSw; (try dsimp only at hSw); go_simp; (try with_reducible rfl))); show wpAnyH _ _ _ _ _ _ _ (Act.put _ (some 5) _) _; try simp only [Act.put, Ya, Yb, Yc]
  refine wpAnyH_take (i := 4) (v := ?_) rfl (by kernel_rfl) (by kernel_rfl) (by kernel_rfl) (fun _ _ _ h => h) (Or.inl ⟨by rfl, ?_⟩) hHeld ?_; rotate_left; (focus (intro w hSw; (try dsimp only at hSw); go_simp; (try with_reducible rfl))); show wpAnyH _ _ _ _ _ _ _ (Act.put _ (some 7) _) _; try simp only [Act.put, Ya, Yb, Yc]
  refine wpAnyH_done (by kernel_rfl) ?_ _
  clear hHeld
  have c1 := (unhide HK2).cell' (unhide H1)
  have c3 := (unhide HK2).cell' (unhide H3)
  have c4 := (unhide HK2).frozen' (unhide H3) (unhide H4)
  go_wp2_with fail
  go_ret
  exact ⟨rfl, w2, unhide HK2, by rfl⟩
set_option maxHeartbeats 2000000 in
theorem num_no (rb g1 g2 : Nat) (kk nn pp : Int) (S : ByteArray) (w : World) (hne : (kk == 2) = false)
    (h1 : w.cell? ⟨g1, 0, none⟩ = some (.pointer (some ⟨rb, 0, none⟩)))
    (T1 : Hid (NowT rb kk nn pp S w)) (T2 : Hid (WrongT rb pp w)) :
    Calls Tryz.prog 65 #[.pointer (some ⟨g1, 0, none⟩), .pointer (some ⟨g2, 0, none⟩)] w fun e w' => e = .returned (flt (50, pp)) ∧ Keep w w' := by
  have HK := hide (Keep.refl w)
  have H1 := hide h1
  have hne2 : (kk != 2) = true := by simp [bne, hne]
  go_enter Tryz.func65, Tryz.ntmps65
  go_wp2_with fail
  (refine ((unhide T1) _ (unhide HK)).mono ?_; rintro e w2 ⟨rfl, hk⟩; have HK2 := hide hk; clear hk)
  have c1 := (unhide HK2).cell' (unhide H1)
  have c1a : ∀ o, (w2.alloc o).cell? ⟨g1, 0, none⟩ = some (.pointer (some ⟨rb, 0, none⟩)) := fun o => ((Keep.refl w2).alloc o).cell' c1
  have C1 := hide c1
  clear c1 h1
  go_wp2_with fail
  (refine ((unhide T2) _ _ ((unhide HK2).alloc _)).mono ?_; rintro e w3 ⟨rfl, hk⟩; have HK3 := hide (((unhide HK2).alloc _).trans hk); clear hk)
  go_wp2_with fail
  go_ret
  exact ⟨rfl, unhide HK3⟩
set_option maxHeartbeats 2000000 in
theorem num_yes (rb g1 g2 tb o k : Nat) (u : Value) (kk nn pp : Int) (S : ByteArray) (w : World) (hne : (kk == 2) = true) (hk : k < 70001)
    (h1 : w.cell? ⟨g1, 0, none⟩ = some (.pointer (some ⟨rb, 0, none⟩))) (h2 : w.cell? ⟨g2, 0, none⟩ = some (.pointer (some ⟨tb, o, none⟩)))
    (h3 : w.cell? ⟨rb, 1, none⟩ = some (.int .i64 (k : Int))) (h4 : w.frozen? ⟨rb, 1, none⟩ = false)
    (h5 : w.cell? ⟨tb, o, none⟩ = some u) (h6 : w.frozen? ⟨tb, o, none⟩ = false) (n1 : g1 ≠ tb) (n2 : tb ≠ rb)
    (T1 : Hid (NowT rb kk nn pp S w)) :
    Calls Tryz.prog 65 #[.pointer (some ⟨g1, 0, none⟩), .pointer (some ⟨g2, 0, none⟩)] w fun e w' => e = .returned .nilIface ∧ ∃ w2, Keep w w2 ∧ w' = (w2.setCell ⟨tb, o, none⟩ (.int .i64 nn)).setCell ⟨rb, 1, none⟩ (.int .i64 ((k + 1 : Nat) : Int)) := by
  have HK := hide (Keep.refl w)
  have H1 := hide h1
  have H2 := hide h2
  have H3 := hide h3
  have H4 := hide h4
  have H5 := hide h5
  have H6 := hide h6
  have hne2 : (kk != 2) = false := by simp [bne, hne]
  clear h2 h3 h4 h5 h6
  go_enter Tryz.func65, Tryz.ntmps65
  go_wp2_with fail
  (refine ((unhide T1) _ (unhide HK)).mono ?_; rintro e w2 ⟨rfl, hk⟩; have HK2 := hide hk; clear hk)
  go_upto_region 2 with fail
  have q0 : (w2.alloc (.cells #[.int .i64 kk, .string S, .int .i64 nn, .int .i64 pp] 65)).cell? ⟨w2.heap.size, 0, none⟩ = some (.int .i64 kk) := by simp [go_sem]
  have q1 : (w2.alloc (.cells #[.int .i64 kk, .string S, .int .i64 nn, .int .i64 pp] 65)).cell? ⟨w2.heap.size, 1, none⟩ = some (.string S) := by simp [go_sem]
  have q2 : (w2.alloc (.cells #[.int .i64 kk, .string S, .int .i64 nn, .int .i64 pp] 65)).cell? ⟨w2.heap.size, 2, none⟩ = some (.int .i64 nn) := by simp [go_sem]
  have HK3 := hide ((unhide HK2).alloc (.cells #[.int .i64 kk, .string S, .int .i64 nn, .int .i64 pp] 65))
  have nq : w2.heap.size ≠ tb := by have := cell_lt ((unhide HK2).cell' (unhide H5)); simp at this; omega
  generalize w2.alloc (.cells #[.int .i64 kk, .string S, .int .i64 nn, .int .i64 pp] 65) = w3 at q0 q1 q2 HK3 ⊢
  generalize w2.heap.size = q at nq q0 q1 q2 ⊢
  clear HK2 w2
  have c1 := (unhide HK3).cell' (unhide H1)
  have c2 := (unhide HK3).cell' (unhide H2)
  have c3 := (unhide HK3).cell' (unhide H3)
  have c4 := (unhide HK3).frozen' (unhide H3) (unhide H4)
  have c5 := (unhide HK3).cell' (unhide H5)
  have c6 := (unhide HK3).frozen' (unhide H5) (unhide H6)
  go_upto_region 5 with fail
  have d1 : (w3.setCell ⟨tb, o, none⟩ (.int .i64 nn)).cell? ⟨g1, 0, none⟩ = some (.pointer (some ⟨rb, 0, none⟩)) := by rw [set_far _ _ _ _ (fun e => n1 e.symm)]; exact c1
  have d3 : (w3.setCell ⟨tb, o, none⟩ (.int .i64 nn)).cell? ⟨rb, 1, none⟩ = some (.int .i64 (k : Int)) := by rw [set_far _ _ _ _ n2]; exact c3
  have d4 : (w3.setCell ⟨tb, o, none⟩ (.int .i64 nn)).frozen? ⟨rb, 1, none⟩ = false := by rw [World.frozen?_setCell]; exact c4
  have HE : Hid (∃ w2, Keep w w2 ∧ w3.setCell ⟨tb, o, none⟩ (.int .i64 nn) = w2.setCell ⟨tb, o, none⟩ (.int .i64 nn)) := hide ⟨w3, unhide HK3, rfl⟩
  generalize w3.setCell ⟨tb, o, none⟩ (.int .i64 nn) = w4 at d1 d3 d4 HE ⊢
  clear c1 c2 c3 c4 c5 c6 q0 q1 q2 HK3
  go_wp2_with fail
  go_ret
  obtain ⟨w2, hk2, rfl⟩ := unhide HE
  exact ⟨rfl, w2, hk2, by rfl⟩
set_option maxHeartbeats 2000000 in
theorem name_no1 (rb g1 g2 : Nat) (kk nn pp : Int) (S : ByteArray) (w : World) (hne : (kk == 1) = false)
    (h1 : w.cell? ⟨g1, 0, none⟩ = some (.pointer (some ⟨rb, 0, none⟩)))
    (T1 : Hid (NowT rb kk nn pp S w)) (T2 : Hid (WrongT rb pp w)) :
    Calls Tryz.prog 91 #[.pointer (some ⟨g1, 0, none⟩), .pointer (some ⟨g2, 0, none⟩)] w fun e w' => e = .returned (flt (50, pp)) ∧ Keep w w' := by
  have HK := hide (Keep.refl w)
  have H1 := hide h1
  have hne2 : (kk != 1) = true := by simp [bne, hne]
  go_enter Tryz.func91, Tryz.ntmps91
  go_wp2_with fail
  (refine ((unhide T1) _ (unhide HK)).mono ?_; rintro e w2 ⟨rfl, hk⟩; have HK2 := hide hk; clear hk)
  have c1 := (unhide HK2).cell' (unhide H1)
  have c1a : ∀ o, (w2.alloc o).cell? ⟨g1, 0, none⟩ = some (.pointer (some ⟨rb, 0, none⟩)) := fun o => ((Keep.refl w2).alloc o).cell' c1
  have C1 := hide c1
  clear c1 h1
  go_wp2_with fail
  (refine ((unhide T2) _ _ ((unhide HK2).alloc _)).mono ?_; rintro e w3 ⟨rfl, hk⟩; have HK3 := hide (((unhide HK2).alloc _).trans hk); clear hk)
  go_wp2_with fail
  go_ret
  exact ⟨rfl, unhide HK3⟩
set_option maxHeartbeats 2000000 in
theorem name_no2 (rb g1 g2 : Nat) (kk nn pp : Int) (S : ByteArray) (w : World) (hne : (kk == 1) = true)
    (h1 : w.cell? ⟨g1, 0, none⟩ = some (.pointer (some ⟨rb, 0, none⟩)))
    (T1 : Hid (NowT rb kk nn pp S w)) (T2 : Hid (WrongT rb pp w)) (T3 : Hid (∀ w, Calls Tryz.prog 92 #[.string S] w fun e w' => e = .returned (.bool true) ∧ w' = w)) :
    Calls Tryz.prog 91 #[.pointer (some ⟨g1, 0, none⟩), .pointer (some ⟨g2, 0, none⟩)] w fun e w' => e = .returned (flt (50, pp)) ∧ Keep w w' := by
  have HK := hide (Keep.refl w)
  have H1 := hide h1
  have hne2 : (kk != 1) = false := by simp [bne, hne]
  go_enter Tryz.func91, Tryz.ntmps91
  go_wp2_with fail
  (refine ((unhide T1) _ (unhide HK)).mono ?_; rintro e w2 ⟨rfl, hk⟩; have HK2 := hide hk; clear hk)
  have c1 := (unhide HK2).cell' (unhide H1)
  have c1a : ∀ o, (w2.alloc o).cell? ⟨g1, 0, none⟩ = some (.pointer (some ⟨rb, 0, none⟩)) := fun o => ((Keep.refl w2).alloc o).cell' c1
  have C1 := hide c1
  clear c1 h1
  go_wp2_with fail
  (refine ((unhide T3) _).mono ?_; rintro e w ⟨rfl, rfl⟩)
  go_wp2_with fail
  (refine ((unhide T2) _ _ ((unhide HK2).alloc _)).mono ?_; rintro e w3 ⟨rfl, hk⟩; have HK3 := hide (((unhide HK2).alloc _).trans hk); clear hk)
  go_wp2_with fail
  go_ret
  exact ⟨rfl, unhide HK3⟩
set_option maxHeartbeats 2000000 in
theorem name_yes (rb g1 g2 tb o k : Nat) (u : Value) (kk nn pp : Int) (S : ByteArray) (w : World) (hne : (kk == 1) = true) (hk : k < 70001)
    (h1 : w.cell? ⟨g1, 0, none⟩ = some (.pointer (some ⟨rb, 0, none⟩))) (h2 : w.cell? ⟨g2, 0, none⟩ = some (.pointer (some ⟨tb, o, none⟩)))
    (h3 : w.cell? ⟨rb, 1, none⟩ = some (.int .i64 (k : Int))) (h4 : w.frozen? ⟨rb, 1, none⟩ = false)
    (h5 : w.cell? ⟨tb, o, none⟩ = some u) (h6 : w.frozen? ⟨tb, o, none⟩ = false) (n1 : g1 ≠ tb) (n2 : tb ≠ rb)
    (T1 : Hid (NowT rb kk nn pp S w)) (T3 : Hid (∀ w, Calls Tryz.prog 92 #[.string S] w fun e w' => e = .returned (.bool false) ∧ w' = w)) :
    Calls Tryz.prog 91 #[.pointer (some ⟨g1, 0, none⟩), .pointer (some ⟨g2, 0, none⟩)] w fun e w' => e = .returned .nilIface ∧ ∃ w2, Keep w w2 ∧ w' = (w2.setCell ⟨tb, o, none⟩ (.string S)).setCell ⟨rb, 1, none⟩ (.int .i64 ((k + 1 : Nat) : Int)) := by
  have HK := hide (Keep.refl w)
  have H1 := hide h1
  have H2 := hide h2
  have H3 := hide h3
  have H4 := hide h4
  have H5 := hide h5
  have H6 := hide h6
  have hne2 : (kk != 1) = false := by simp [bne, hne]
  clear h2 h3 h4 h5 h6
  go_enter Tryz.func91, Tryz.ntmps91
  go_wp2_with fail
  (refine ((unhide T1) _ (unhide HK)).mono ?_; rintro e w2 ⟨rfl, hk⟩; have HK2 := hide hk; clear hk)
  go_upto_region 2 with fail
  have q0 : (w2.alloc (.cells #[.int .i64 kk, .string S, .int .i64 nn, .int .i64 pp] 65)).cell? ⟨w2.heap.size, 0, none⟩ = some (.int .i64 kk) := by simp [go_sem]
  have q1 : (w2.alloc (.cells #[.int .i64 kk, .string S, .int .i64 nn, .int .i64 pp] 65)).cell? ⟨w2.heap.size, 1, none⟩ = some (.string S) := by simp [go_sem]
  have q2 : (w2.alloc (.cells #[.int .i64 kk, .string S, .int .i64 nn, .int .i64 pp] 65)).cell? ⟨w2.heap.size, 2, none⟩ = some (.int .i64 nn) := by simp [go_sem]
  have HK3 := hide ((unhide HK2).alloc (.cells #[.int .i64 kk, .string S, .int .i64 nn, .int .i64 pp] 65))
  have nq : w2.heap.size ≠ tb := by have := cell_lt ((unhide HK2).cell' (unhide H5)); simp at this; omega
  generalize w2.alloc (.cells #[.int .i64 kk, .string S, .int .i64 nn, .int .i64 pp] 65) = w3 at q0 q1 q2 HK3 ⊢
  generalize w2.heap.size = q at nq q0 q1 q2 ⊢
  clear HK2 w2
  have c1 := (unhide HK3).cell' (unhide H1)
  have c2 := (unhide HK3).cell' (unhide H2)
  have c3 := (unhide HK3).cell' (unhide H3)
  have c4 := (unhide HK3).frozen' (unhide H3) (unhide H4)
  have c5 := (unhide HK3).cell' (unhide H5)
  have c6 := (unhide HK3).frozen' (unhide H5) (unhide H6)
  go_wp2_with fail
  (refine ((unhide T3) _).mono ?_; rintro e w3 ⟨rfl, rfl⟩)
  go_upto_region 5 with fail
  have d1 : (w3.setCell ⟨tb, o, none⟩ (.string S)).cell? ⟨g1, 0, none⟩ = some (.pointer (some ⟨rb, 0, none⟩)) := by rw [set_far _ _ _ _ (fun e => n1 e.symm)]; exact c1
  have d3 : (w3.setCell ⟨tb, o, none⟩ (.string S)).cell? ⟨rb, 1, none⟩ = some (.int .i64 (k : Int)) := by rw [set_far _ _ _ _ n2]; exact c3
  have d4 : (w3.setCell ⟨tb, o, none⟩ (.string S)).frozen? ⟨rb, 1, none⟩ = false := by rw [World.frozen?_setCell]; exact c4
  have HE : Hid (∃ w2, Keep w w2 ∧ w3.setCell ⟨tb, o, none⟩ (.string S) = w2.setCell ⟨tb, o, none⟩ (.string S)) := hide ⟨w3, unhide HK3, rfl⟩
  generalize w3.setCell ⟨tb, o, none⟩ (.string S) = w4 at d1 d3 d4 HE ⊢
  clear c1 c2 c3 c4 c5 c6 q0 q1 q2 HK3
  go_wp2_with fail
  go_ret
  obtain ⟨w2, hk2, rfl⟩ := unhide HE
  exact ⟨rfl, w2, hk2, by rfl⟩
set_option maxHeartbeats 2000000 in
theorem pos_core (rb g1 g2 tb o : Nat) (u : Value) (kk nn pp : Int) (S : ByteArray) (w : World)
    (h1 : w.cell? ⟨g1, 0, none⟩ = some (.pointer (some ⟨rb, 0, none⟩))) (h2 : w.cell? ⟨g2, 0, none⟩ = some (.pointer (some ⟨tb, o, none⟩)))
    (h5 : w.cell? ⟨tb, o, none⟩ = some u) (h6 : w.frozen? ⟨tb, o, none⟩ = false) (n1 : g1 ≠ tb) (n2 : g2 ≠ tb)
    (T1 : Hid (NowT rb kk nn pp S w)) :
    Calls Tryz.prog 90 #[.pointer (some ⟨g1, 0, none⟩), .pointer (some ⟨g2, 0, none⟩)] w fun e w' => e = .returned .nilIface ∧ ∃ w2, Keep w w2 ∧ w' = w2.setCell ⟨tb, o, none⟩ (.int .i64 pp) := by
  have HK := hide (Keep.refl w)
  have H1 := hide h1
  have H2 := hide h2
  have H5 := hide h5
  have H6 := hide h6
  have fp := field_p
  clear h1 h2 h5 h6
  go_enter Tryz.func90, Tryz.ntmps90
  go_wp2_with fail
  refine wp_region_held_drew (S := fun w' => w'.cell? ⟨g1, 0, none⟩ = some (.pointer (some ⟨rb, 0, none⟩)) ∧ w'.cell? ⟨g2, 0, none⟩ = some (.pointer (some ⟨tb, o, none⟩))) (by kernel_rfl) (by exact ⟨unhide H1, unhide H2⟩) (fun hHeld => ?_)
  refine wpAnyH_take (i := 0) (v := ?_) rfl (by kernel_rfl) (by kernel_rfl) (by kernel_rfl) (fun _ _ _ h => h) (Or.inl ⟨by rfl, ?_⟩) hHeld ?_; rotate_left; (focus (intro w hSw; (try dsimp only at hSw); go_simp; (try with_reducible rfl))); show wpAnyH _ _ _ _ _ _ _ (Act.put _ (some 3) _) _; try simp only [Act.put, Ya, Yb, Yc]
  refine wpAnyH_take (i := 1) (v := ?_) rfl (by kernel_rfl) (by kernel_rfl) (by kernel_rfl) (fun _ _ _ h => h) (Or.inl ⟨by rfl, ?_⟩) hHeld ?_; rotate_left; (focus (intro w hSw; (try dsimp only at hSw); go_simp; (try with_reducible rfl))); show wpAnyH _ _ _ _ _ _ _ (Act.put _ (some 4) _) _; try simp only [Act.put, Ya, Yb, Yc]
  refine wpAnyH_ready (rs := [2]) (by kernel_rfl) (by simp) ?_
  refine AllReadyH.cons rfl (fun K hK => ?_) AllReadyH.nil
  go_simp
  clear hHeld
  (refine ((unhide T1) _ (unhide HK).drew).mono ?_; rintro e w2 ⟨rfl, hk⟩; have HK2 := hide ((unhide HK).drew.trans hk); clear hk; have c5 := (unhide HK2).cell' (unhide H5); have c6 := (unhide HK2).frozen' (unhide H5) (unhide H6))
  try go_wp2_with fail
  refine hK.out _ _ ?_ (fun hHeld => ?_)
  · exact ⟨(unhide HK2).cell' (unhide H1), (unhide HK2).cell' (unhide H2)⟩
  clear hK K
  try simp only [Act.put, Ya, Yb, Yc]
  refine wpAnyH_take (i := 3) (v := ?_) rfl (by kernel_rfl) (by kernel_rfl) (by kernel_rfl) (fun _ _ _ h => h) (Or.inl ⟨by rfl, ?_⟩) hHeld ?_; rotate_left; (focus (intro w hSw; (try dsimp only at hSw); go_simp; (try with_reducible rfl))); show wpAnyH _ _ _ _ _ _ _ (Act.put _ (some 6) _) _; try simp only [Act.put, Ya, Yb, Yc]
  refine wpAnyH_take (i := 4) (v := ?_) rfl (by kernel_rfl) (by kernel_rfl) (by kernel_rfl) (fun _ _ _ h => h) (Or.inl ⟨by rfl, ?_⟩) hHeld ?_; rotate_left; (focus (intro w hSw; (try dsimp only at hSw); go_simp; (try with_reducible rfl))); show wpAnyH _ _ _ _ _ _ _ (Act.put _ (some 7) _) _; try simp only [Act.put, Ya, Yb, Yc]
  refine wpAnyH_ready (rs := [5]) (by kernel_rfl) (by simp) ?_
  refine AllReadyH.cons rfl (fun K hK => ?_) AllReadyH.nil
  go_simp
  clear hHeld
  refine hK.out _ _ ?_ (fun hHeld => ?_)
  · exact ⟨by rw [set_far _ _ _ _ (fun e => n1 e.symm)]; exact (unhide HK2).cell' (unhide H1), by rw [set_far _ _ _ _ (fun e => n2 e.symm)]; exact (unhide HK2).cell' (unhide H2)⟩
  clear hK K
  try simp only [Act.put, Ya, Yb, Yc]
  refine wpAnyH_done (by kernel_rfl) ?_ _
  clear hHeld
  go_wp2_with fail
  go_ret
  exact ⟨rfl, w2, unhide HK2, by rfl⟩
set_option maxHeartbeats 2000000 in
theorem end_yes (rb : Nat) (kk nn pp : Int) (S : ByteArray) (w : World) (hne : (kk == 0) = true) (T1 : Hid (NowT rb kk nn pp S w)) :
    Calls Tryz.prog 54 #[.pointer (some ⟨rb, 0, none⟩)] w fun e w' => e = .returned .nilIface ∧ Keep w w' := by
  have HK := hide (Keep.refl w)
  have hne2 : (kk != 0) = false := by simp [bne, hne]
  have fk := field_k
  go_enter Tryz.func54, Tryz.ntmps54
  go_wp2_with fail
  (refine ((unhide T1) _ (unhide HK)).mono ?_; rintro e w2 ⟨rfl, hk⟩; have HK2 := hide hk; clear hk)
  go_wp2_with fail
  go_ret
  exact ⟨rfl, unhide HK2⟩
set_option maxHeartbeats 2000000 in
theorem end_no (rb : Nat) (kk nn pp : Int) (S : ByteArray) (w : World) (hne : (kk == 0) = false) (T1 : Hid (NowT rb kk nn pp S w)) (T2 : Hid (WrongT rb pp w)) :
    Calls Tryz.prog 54 #[.pointer (some ⟨rb, 0, none⟩)] w fun e w' => e = .returned (flt (50, pp)) ∧ Keep w w' := by
  have HK := hide (Keep.refl w)
  have hne2 : (kk != 0) = true := by simp [bne, hne]
  have fk := field_k
  go_enter Tryz.func54, Tryz.ntmps54
  go_wp2_with fail
  (refine ((unhide T1) _ (unhide HK)).mono ?_; rintro e w2 ⟨rfl, hk⟩; have HK2 := hide hk; clear hk)
  go_wp2_with fail
  (refine ((unhide T2) _ _ (unhide HK2)).mono ?_; rintro e w3 ⟨rfl, hk⟩; have HK3 := hide ((unhide HK2).trans hk); clear hk)
  go_wp2_with fail
  go_ret
  exact ⟨rfl, unhide HK3⟩
end Go.Proofs.YtmplckdpddmifaaGreatDoor
