/- Package net: the token that is next, and an error at it. -/
import Derived.Test.YtmplckdpddmifaaGreatDoorNInv
import Derived.Test.YtmplckdpddmifaaGreatDoorTk
import Derived.Deep.DrawnRows
import Derived.Deep.RegionHeld
namespace Go.Proofs.YtmplckdpddmifaaGreatDoor
open Go.RowKit
attribute [local go_sem ↓] Go.wp_at_zero Go.wp_at_succ
set_option linter.unusedVariables false
set_option linter.unusedSimpArgs false
set_option maxRecDepth 10000
set_option maxHeartbeats 2000000 in
theorem now_core (rb k n cap : Nat) (ad : Addr) (kk nn pp : Int) (S : ByteArray) (w : World) (hk : (k : Int) < (n : Int))
    (h0 : w.cell? ⟨rb, 0, none⟩ = some (.slice (some ad) n cap)) (h1 : w.cell? ⟨rb, 1, none⟩ = some (.int .i64 (k : Int)))
    (c0 : w.cell? (ad.add (k * 4)) = some (.int .i64 kk)) (c1 : w.cell? ⟨(ad.add (k * 4)).block, (ad.add (k * 4)).off + 1, none⟩ = some (.string S)) (c2 : w.cell? ⟨(ad.add (k * 4)).block, (ad.add (k * 4)).off + 2, none⟩ = some (.int .i64 nn)) (c3 : w.cell? ⟨(ad.add (k * 4)).block, (ad.add (k * 4)).off + 3, none⟩ = some (.int .i64 pp)) :
    Calls Tryz.prog 63 #[.pointer (some ⟨rb, 0, none⟩)] w fun e w' => e = .returned (.agg #[.int .i64 kk, .string S, .int .i64 nn, .int .i64 pp]) ∧ Keep w w' := by
  have K := fun o => (Keep.refl w).alloc o
  have HK := hide K
  have H0 := hide h0
  have H1 := hide h1
  have H2 := hide c0
  have H3 := hide c1
  have H4 := hide c2
  have H5 := hide c3
  clear K h0 h1 c0 c1 c2 c3
  go_enter Tryz.func63, Tryz.ntmps63
  go_wp2_with fail
  refine wp_region_held_drew (S := fun w' => w'.cell? ⟨rb, 0, none⟩ = some (.slice (some ad) n cap) ∧ w'.cell? ⟨rb, 1, none⟩ = some (.int .i64 (k : Int)) ∧ w'.cell? (ad.add (k * 4)) = some (.int .i64 kk) ∧ w'.cell? ⟨(ad.add (k * 4)).block, (ad.add (k * 4)).off + 1, none⟩ = some (.string S) ∧ w'.cell? ⟨(ad.add (k * 4)).block, (ad.add (k * 4)).off + 2, none⟩ = some (.int .i64 nn) ∧ w'.cell? ⟨(ad.add (k * 4)).block, (ad.add (k * 4)).off + 3, none⟩ = some (.int .i64 pp)) (by kernel_rfl) (by exact ⟨((uq HK) _).cell' (uq H0), ((uq HK) _).cell' (uq H1), ((uq HK) _).cell' (uq H2), ((uq HK) _).cell' (uq H3), ((uq HK) _).cell' (uq H4), ((uq HK) _).cell' (uq H5)⟩) (fun hHeld => ?_)
  refine tkk 0 3 hHeld ?_; try simp only [Act.put, Ya, Yb, Yc]
  refine tkk 1 4 hHeld ?_; try simp only [Act.put, Ya, Yb, Yc]
  refine tkk 2 5 hHeld ?_; try simp only [Act.put, Ya, Yb, Yc]
  refine tkk 3 6 hHeld ?_; try simp only [Act.put, Ya, Yb, Yc]
  refine tkk 4 7 hHeld ?_; try simp only [Act.put, Ya, Yb, Yc]
  refine tkk 5 8 hHeld ?_; try simp only [Act.put, Ya, Yb, Yc]
  refine tkk 6 9 hHeld ?_; try simp only [Act.put, Ya, Yb, Yc]
  refine tkk 7 10 hHeld ?_; try simp only [Act.put, Ya, Yb, Yc]
  refine tkk 8 11 hHeld ?_; try simp only [Act.put, Ya, Yb, Yc]
  refine tkk 9 12 hHeld ?_; try simp only [Act.put, Ya, Yb, Yc]
  refine rdyy 10 (fun K hK => ?_)
  go_simp
  clear hHeld
  refine hK.out _ _ ?_ (fun hHeld => ?_)
  · exact ⟨((uq HK) _).cell' (uq H0), ((uq HK) _).cell' (uq H1), ((uq HK) _).cell' (uq H2), ((uq HK) _).cell' (uq H3), ((uq HK) _).cell' (uq H4), ((uq HK) _).cell' (uq H5)⟩
  clear hK K
  try simp only [Act.put, Ya, Yb, Yc]
  refine wpAnyH_done (by kernel_rfl) ?_ _
  clear hHeld
  go_wp2_with fail
  refine bodyPost_ret (v := .agg #[.int .i64 kk, .string S, .int .i64 nn, .int .i64 pp]) ?_ rfl ?_
  · simp [results, Tryz.results63, go_sem]
  · exact ⟨rfl, by repeat (first | apply keep_ext | apply Keep.alloc | apply Keep.drew | exact Keep.refl _)⟩
theorem now_any {rb : Nat} {l : List Tok} {ta : Addr} {cap : Nat} {w : World} {t : Tok} {r : List Tok} (h : R0 rb l ta cap w (t :: r)) :
    Calls Tryz.prog 63 #[.pointer (some ⟨rb, 0, none⟩)] w fun e w' => e = .returned (tv t) ∧ Keep w w' := by
  obtain ⟨k, h1, h2, h3, h4, h5, h7, h8, h9⟩ := h
  obtain ⟨c0, c1, c2, c3⟩ := h8 k h1
  rw [(drop_cons h2).2.1] at c0 c1 c2 c3
  exact now_core rb k l.length cap ta t.k t.n t.p (sv t.s) w (by omega) h3 h4 c0 c1 c2 c3
theorem field_k (k n p : Int) (s : ByteArray) (w : World) : (Instr.field 65 (.agg #[.int .i64 k, .string s, .int .i64 n, .int .i64 p]) 0).run Tryz.prog w = .ok (.int .i64 k) w := by kernel_rfl
theorem field_s (k n p : Int) (s : ByteArray) (w : World) : (Instr.field 65 (.agg #[.int .i64 k, .string s, .int .i64 n, .int .i64 p]) 1).run Tryz.prog w = .ok (.string s) w := by kernel_rfl
theorem field_p (k n p : Int) (s : ByteArray) (w : World) : (Instr.field 65 (.agg #[.int .i64 k, .string s, .int .i64 n, .int .i64 p]) 3).run Tryz.prog w = .ok (.int .i64 p) w := by kernel_rfl
set_option maxHeartbeats 2000000 in
theorem wrong_core (rb : Nat) (x kk nn pp : Int) (S : ByteArray) (w : World) (T : Hid (∀ w', Keep w w' → Calls Tryz.prog 63 #[.pointer (some ⟨rb, 0, none⟩)] w' fun e w'' => e = .returned (.agg #[.int .i64 kk, .string S, .int .i64 nn, .int .i64 pp]) ∧ Keep w' w'')) :
    Calls Tryz.prog 64 #[.pointer (some ⟨rb, 0, none⟩), .int .i64 x] w fun e w' => e = .returned (flt (x, pp)) ∧ Keep w w' := by
  have HK := hide (Keep.refl w)
  have fp := field_p
  go_enter Tryz.func64, Tryz.ntmps64
  go_wp2_with fail
  (refine ((uq T) _ (uq HK)).mono ?_; rintro e w2 ⟨rfl, hk⟩)
  have HK2 := hide hk
  clear hk
  go_wp2_with fail
  go_ret
  exact ⟨rfl, uq HK2⟩
theorem wrong_any {rb : Nat} {l : List Tok} {ta : Addr} {cap : Nat} {w : World} {t : Tok} {r : List Tok} (x : Int) (h : R0 rb l ta cap w (t :: r)) :
    Calls Tryz.prog 64 #[.pointer (some ⟨rb, 0, none⟩), .int .i64 x] w fun e w' => e = .returned (flt (x, t.p)) ∧ Keep w w' :=
  wrong_core rb x t.k t.n t.p (sv t.s) w (hide fun w' hk => now_any (h.keep hk))
end Go.Proofs.YtmplckdpddmifaaGreatDoor
namespace Go.Proofs.YtmplckdpddmifaaGreatDoor
open Go.RowKit
attribute [local go_sem ↓] Go.wp_at_zero Go.wp_at_succ
set_option linter.unusedVariables false
set_option linter.unusedSimpArgs false
set_option maxRecDepth 10000
/-- what 'now' answers, and what 'wrong' does -/
def NowT (rb : Nat) (kk nn pp : Int) (S : ByteArray) (w : World) : Prop := ∀ w', Keep w w' → Calls Tryz.prog 63 #[.pointer (some ⟨rb, 0, none⟩)] w' fun e w'' => e = .returned (.agg #[.int .i64 kk, .string S, .int .i64 nn, .int .i64 pp]) ∧ Keep w' w''
def WrongT (rb : Nat) (pp : Int) (w : World) : Prop := ∀ x w', Keep w w' → Calls Tryz.prog 64 #[.pointer (some ⟨rb, 0, none⟩), .int .i64 x] w' fun e w'' => e = .returned (flt (x, pp)) ∧ Keep w' w''
theorem nowT {rb : Nat} {l : List Tok} {ta : Addr} {cap : Nat} {w : World} {t : Tok} {r : List Tok} (h : R0 rb l ta cap w (t :: r)) : NowT rb t.k t.n t.p (sv t.s) w := fun w' hk => now_any (h.keep hk)
theorem wrongT {rb : Nat} {l : List Tok} {ta : Addr} {cap : Nat} {w : World} {t : Tok} {r : List Tok} (h : R0 rb l ta cap w (t :: r)) : WrongT rb t.p w := fun x w' hk => wrong_any x (h.keep hk)
set_option maxHeartbeats 2000000 in
theorem the_no (rb g1 g2 : Nat) (kk nn pp : Int) (S X : ByteArray) (w : World) (hne : (S.toList == X.toList) = false)
    (h1 : w.cell? ⟨g1, 0, none⟩ = some (.pointer (some ⟨rb, 0, none⟩))) (h2 : w.cell? ⟨g2, 0, none⟩ = some (.string X))
    (T1 : Hid (NowT rb kk nn pp S w)) (T2 : Hid (WrongT rb pp w)) :
    Calls Tryz.prog 62 #[.pointer (some ⟨g1, 0, none⟩), .pointer (some ⟨g2, 0, none⟩)] w fun e w' => e = .returned (flt (50, pp)) ∧ Keep w w' := by
  have HK := hide (Keep.refl w)
  have H1 := hide h1
  have H2 := hide h2
  have fs := field_s
  clear h1 h2
  go_enter Tryz.func62, Tryz.ntmps62
  go_wp2_with fail
  refine wp_region_held_drew (S := fun w' => w'.cell? ⟨g1, 0, none⟩ = some (.pointer (some ⟨rb, 0, none⟩)) ∧ w'.cell? ⟨g2, 0, none⟩ = some (.string X)) (by kernel_rfl) (by exact ⟨uq H1, uq H2⟩) (fun hHeld => ?_)
  refine tkk 0 3 hHeld ?_; try simp only [Act.put, Ya, Yb, Yc]
  refine tkk 3 6 hHeld ?_; try simp only [Act.put, Ya, Yb, Yc]
  refine rdyy 1 (fun K hK => ?_)
  go_simp
  clear hHeld
  (refine ((uq T1) _ (uq HK).drew).mono ?_; rintro e w2 ⟨rfl, hk⟩; have HK2 := hide ((uq HK).drew.trans hk); clear hk)
  try go_wp2_with fail
  refine hK.out _ _ ?_ (fun hHeld => ?_)
  · exact ⟨(uq HK2).cell' (uq H1), (uq HK2).cell' (uq H2)⟩
  clear hK K
  try simp only [Act.put, Ya, Yb, Yc]
  refine tkk 2 5 hHeld ?_; try simp only [Act.put, Ya, Yb, Yc]
  refine tkk 4 7 hHeld ?_; try simp only [Act.put, Ya, Yb, Yc]
  refine wpAnyH_done (by kernel_rfl) ?_ _
  clear hHeld
  have c1 := (uq HK2).cell' (uq H1)
  go_wp2_with fail
  (refine ((uq T2) _ _ (uq HK2)).mono ?_; rintro e w3 ⟨rfl, hk⟩; have HK3 := hide ((uq HK2).trans hk); clear hk)
  go_wp2_with fail
  go_ret
  exact ⟨rfl, uq HK3⟩
set_option maxHeartbeats 2000000 in
theorem the_yes (rb g1 g2 k : Nat) (kk nn pp : Int) (S X : ByteArray) (w : World) (hne : (S.toList == X.toList) = true) (hk : k < 70001)
    (h1 : w.cell? ⟨g1, 0, none⟩ = some (.pointer (some ⟨rb, 0, none⟩))) (h2 : w.cell? ⟨g2, 0, none⟩ = some (.string X))
    (h3 : w.cell? ⟨rb, 1, none⟩ = some (.int .i64 (k : Int))) (h4 : w.frozen? ⟨rb, 1, none⟩ = false)
    (T1 : Hid (NowT rb kk nn pp S w)) :
    Calls Tryz.prog 62 #[.pointer (some ⟨g1, 0, none⟩), .pointer (some ⟨g2, 0, none⟩)] w fun e w' => e = .returned .nilIface ∧ ∃ w2, Keep w w2 ∧ w' = w2.setCell ⟨rb, 1, none⟩ (.int .i64 ((k + 1 : Nat) : Int)) := by
  have HK := hide (Keep.refl w)
  have H1 := hide h1
  have H2 := hide h2
  have H3 := hide h3
  have H4 := hide h4
  have fs := field_s
  clear h1 h2 h3 h4
  go_enter Tryz.func62, Tryz.ntmps62
  go_wp2_with fail
  refine wp_region_held_drew (S := fun w' => w'.cell? ⟨g1, 0, none⟩ = some (.pointer (some ⟨rb, 0, none⟩)) ∧ w'.cell? ⟨g2, 0, none⟩ = some (.string X)) (by kernel_rfl) (by exact ⟨uq H1, uq H2⟩) (fun hHeld => ?_)
  refine tkk 0 3 hHeld ?_; try simp only [Act.put, Ya, Yb, Yc]
  refine tkk 3 6 hHeld ?_; try simp only [Act.put, Ya, Yb, Yc]
  refine rdyy 1 (fun K hK => ?_)
  go_simp
  clear hHeld
  (refine ((uq T1) _ (uq HK).drew).mono ?_; rintro e w2 ⟨rfl, hk⟩; have HK2 := hide ((uq HK).drew.trans hk); clear hk)
  try go_wp2_with fail
  refine hK.out _ _ ?_ (fun hHeld => ?_)
  · exact ⟨(uq HK2).cell' (uq H1), (uq HK2).cell' (uq H2)⟩
  clear hK K
  try simp only [Act.put, Ya, Yb, Yc]
  refine tkk 2 5 hHeld ?_; try simp only [Act.put, Ya, Yb, Yc]
  refine tkk 4 7 hHeld ?_; try simp only [Act.put, Ya, Yb, Yc]
  refine wpAnyH_done (by kernel_rfl) ?_ _
  clear hHeld
  have c1 := (uq HK2).cell' (uq H1)
  have c3 := (uq HK2).cell' (uq H3)
  have c4 := (uq HK2).frozen' (uq H3) (uq H4)
  go_wp2_with fail
  go_ret
  exact ⟨rfl, w2, uq HK2, by rfl⟩
set_option maxHeartbeats 2000000 in
theorem num_no (rb g1 g2 : Nat) (kk nn pp : Int) (S : ByteArray) (w : World) (hne : (kk == 2) = false)
    (h1 : w.cell? ⟨g1, 0, none⟩ = some (.pointer (some ⟨rb, 0, none⟩)))
    (T1 : Hid (NowT rb kk nn pp S w)) (T2 : Hid (WrongT rb pp w)) :
    Calls Tryz.prog 65 #[.pointer (some ⟨g1, 0, none⟩), .pointer (some ⟨g2, 0, none⟩)] w fun e w' => e = .returned (flt (50, pp)) ∧ Keep w w' := by
  have HK := hide (Keep.refl w)
  have H1 := hide h1
  have hne2 : (kk != 2) = true := by simp [bne, hne]
  go_enter Tryz.func65, Tryz.ntmps65
  go_wp2_with fail
  (refine ((uq T1) _ (uq HK)).mono ?_; rintro e w2 ⟨rfl, hk⟩; have HK2 := hide hk; clear hk)
  have c1 := (uq HK2).cell' (uq H1)
  have c1a : ∀ o, (w2.alloc o).cell? ⟨g1, 0, none⟩ = some (.pointer (some ⟨rb, 0, none⟩)) := fun o => ((Keep.refl w2).alloc o).cell' c1
  have C1 := hide c1
  clear c1 h1
  go_wp2_with fail
  (refine ((uq T2) _ _ ((uq HK2).alloc _)).mono ?_; rintro e w3 ⟨rfl, hk⟩; have HK3 := hide (((uq HK2).alloc _).trans hk); clear hk)
  go_wp2_with fail
  go_ret
  exact ⟨rfl, uq HK3⟩
set_option maxHeartbeats 2000000 in
theorem num_yes (rb g1 g2 tb o k : Nat) (u : Value) (kk nn pp : Int) (S : ByteArray) (w : World) (hne : (kk == 2) = true) (hk : k < 70001)
    (h1 : w.cell? ⟨g1, 0, none⟩ = some (.pointer (some ⟨rb, 0, none⟩))) (h2 : w.cell? ⟨g2, 0, none⟩ = some (.pointer (some ⟨tb, o, none⟩)))
    (h3 : w.cell? ⟨rb, 1, none⟩ = some (.int .i64 (k : Int))) (h4 : w.frozen? ⟨rb, 1, none⟩ = false)
    (h5 : w.cell? ⟨tb, o, none⟩ = some u) (h6 : w.frozen? ⟨tb, o, none⟩ = false) (n1 : g1 ≠ tb) (n2 : tb ≠ rb)
    (T1 : Hid (NowT rb kk nn pp S w)) :
    Calls Tryz.prog 65 #[.pointer (some ⟨g1, 0, none⟩), .pointer (some ⟨g2, 0, none⟩)] w fun e w' => e = .returned .nilIface ∧ ∃ w2, Keep w w2 ∧ w' = (w2.setCell ⟨tb, o, none⟩ (.int .i64 nn)).setCell ⟨rb, 1, none⟩ (.int .i64 ((k + 1 : Nat) : Int)) := by
  have HK := hide (Keep.refl w)
  have H1 := hide h1
  have H2 := hide h2
  have H3 := hide h3
  have H4 := hide h4
  have H5 := hide h5
  have H6 := hide h6
  have hne2 : (kk != 2) = false := by simp [bne, hne]
  clear h2 h3 h4 h5 h6
  go_enter Tryz.func65, Tryz.ntmps65
  go_wp2_with fail
  (refine ((uq T1) _ (uq HK)).mono ?_; rintro e w2 ⟨rfl, hk⟩; have HK2 := hide hk; clear hk)
  go_upto_region 2 with fail
  have q0 : (w2.alloc (.cells #[.int .i64 kk, .string S, .int .i64 nn, .int .i64 pp] 65)).cell? ⟨w2.heap.size, 0, none⟩ = some (.int .i64 kk) := by simp [go_sem]
  have q1 : (w2.alloc (.cells #[.int .i64 kk, .string S, .int .i64 nn, .int .i64 pp] 65)).cell? ⟨w2.heap.size, 1, none⟩ = some (.string S) := by simp [go_sem]
  have q2 : (w2.alloc (.cells #[.int .i64 kk, .string S, .int .i64 nn, .int .i64 pp] 65)).cell? ⟨w2.heap.size, 2, none⟩ = some (.int .i64 nn) := by simp [go_sem]
  have HK3 := hide ((uq HK2).alloc (.cells #[.int .i64 kk, .string S, .int .i64 nn, .int .i64 pp] 65))
  have nq : w2.heap.size ≠ tb := by have := cell_lt ((uq HK2).cell' (uq H5)); simp at this; omega
  generalize w2.alloc (.cells #[.int .i64 kk, .string S, .int .i64 nn, .int .i64 pp] 65) = w3 at q0 q1 q2 HK3 ⊢
  generalize w2.heap.size = q at nq q0 q1 q2 ⊢
  clear HK2 w2
  have c1 := (uq HK3).cell' (uq H1)
  have c2 := (uq HK3).cell' (uq H2)
  have c3 := (uq HK3).cell' (uq H3)
  have c4 := (uq HK3).frozen' (uq H3) (uq H4)
  have c5 := (uq HK3).cell' (uq H5)
  have c6 := (uq HK3).frozen' (uq H5) (uq H6)
  go_upto_region 5 with fail
  have d1 : (w3.setCell ⟨tb, o, none⟩ (.int .i64 nn)).cell? ⟨g1, 0, none⟩ = some (.pointer (some ⟨rb, 0, none⟩)) := by rw [set_far _ _ _ _ (fun e => n1 e.symm)]; exact c1
  have d3 : (w3.setCell ⟨tb, o, none⟩ (.int .i64 nn)).cell? ⟨rb, 1, none⟩ = some (.int .i64 (k : Int)) := by rw [set_far _ _ _ _ n2]; exact c3
  have d4 : (w3.setCell ⟨tb, o, none⟩ (.int .i64 nn)).frozen? ⟨rb, 1, none⟩ = false := by rw [World.frozen?_setCell]; exact c4
  have HE : Hid (∃ w2, Keep w w2 ∧ w3.setCell ⟨tb, o, none⟩ (.int .i64 nn) = w2.setCell ⟨tb, o, none⟩ (.int .i64 nn)) := hide ⟨w3, uq HK3, rfl⟩
  generalize w3.setCell ⟨tb, o, none⟩ (.int .i64 nn) = w4 at d1 d3 d4 HE ⊢
  clear c1 c2 c3 c4 c5 c6 q0 q1 q2 HK3
  go_wp2_with fail
  go_ret
  obtain ⟨w2, hk2, rfl⟩ := uq HE
  exact ⟨rfl, w2, hk2, by rfl⟩
set_option maxHeartbeats 2000000 in
theorem name_no1 (rb g1 g2 : Nat) (kk nn pp : Int) (S : ByteArray) (w : World) (hne : (kk == 1) = false)
    (h1 : w.cell? ⟨g1, 0, none⟩ = some (.pointer (some ⟨rb, 0, none⟩)))
    (T1 : Hid (NowT rb kk nn pp S w)) (T2 : Hid (WrongT rb pp w)) :
    Calls Tryz.prog 91 #[.pointer (some ⟨g1, 0, none⟩), .pointer (some ⟨g2, 0, none⟩)] w fun e w' => e = .returned (flt (50, pp)) ∧ Keep w w' := by
  have HK := hide (Keep.refl w)
  have H1 := hide h1
  have hne2 : (kk != 1) = true := by simp [bne, hne]
  go_enter Tryz.func91, Tryz.ntmps91
  go_wp2_with fail
  (refine ((uq T1) _ (uq HK)).mono ?_; rintro e w2 ⟨rfl, hk⟩; have HK2 := hide hk; clear hk)
  have c1 := (uq HK2).cell' (uq H1)
  have c1a : ∀ o, (w2.alloc o).cell? ⟨g1, 0, none⟩ = some (.pointer (some ⟨rb, 0, none⟩)) := fun o => ((Keep.refl w2).alloc o).cell' c1
  have C1 := hide c1
  clear c1 h1
  go_wp2_with fail
  (refine ((uq T2) _ _ ((uq HK2).alloc _)).mono ?_; rintro e w3 ⟨rfl, hk⟩; have HK3 := hide (((uq HK2).alloc _).trans hk); clear hk)
  go_wp2_with fail
  go_ret
  exact ⟨rfl, uq HK3⟩
set_option maxHeartbeats 2000000 in
theorem name_no2 (rb g1 g2 : Nat) (kk nn pp : Int) (S : ByteArray) (w : World) (hne : (kk == 1) = true)
    (h1 : w.cell? ⟨g1, 0, none⟩ = some (.pointer (some ⟨rb, 0, none⟩)))
    (T1 : Hid (NowT rb kk nn pp S w)) (T2 : Hid (WrongT rb pp w)) (T3 : Hid (∀ w, Calls Tryz.prog 92 #[.string S] w fun e w' => e = .returned (.bool true) ∧ w' = w)) :
    Calls Tryz.prog 91 #[.pointer (some ⟨g1, 0, none⟩), .pointer (some ⟨g2, 0, none⟩)] w fun e w' => e = .returned (flt (50, pp)) ∧ Keep w w' := by
  have HK := hide (Keep.refl w)
  have H1 := hide h1
  have hne2 : (kk != 1) = false := by simp [bne, hne]
  go_enter Tryz.func91, Tryz.ntmps91
  go_wp2_with fail
  (refine ((uq T1) _ (uq HK)).mono ?_; rintro e w2 ⟨rfl, hk⟩; have HK2 := hide hk; clear hk)
  have c1 := (uq HK2).cell' (uq H1)
  have c1a : ∀ o, (w2.alloc o).cell? ⟨g1, 0, none⟩ = some (.pointer (some ⟨rb, 0, none⟩)) := fun o => ((Keep.refl w2).alloc o).cell' c1
  have C1 := hide c1
  clear c1 h1
  go_wp2_with fail
  (refine ((uq T3) _).mono ?_; rintro e w ⟨rfl, rfl⟩)
  go_wp2_with fail
  (refine ((uq T2) _ _ ((uq HK2).alloc _)).mono ?_; rintro e w3 ⟨rfl, hk⟩; have HK3 := hide (((uq HK2).alloc _).trans hk); clear hk)
  go_wp2_with fail
  go_ret
  exact ⟨rfl, uq HK3⟩
set_option maxHeartbeats 2000000 in
theorem name_yes (rb g1 g2 tb o k : Nat) (u : Value) (kk nn pp : Int) (S : ByteArray) (w : World) (hne : (kk == 1) = true) (hk : k < 70001)
    (h1 : w.cell? ⟨g1, 0, none⟩ = some (.pointer (some ⟨rb, 0, none⟩))) (h2 : w.cell? ⟨g2, 0, none⟩ = some (.pointer (some ⟨tb, o, none⟩)))
    (h3 : w.cell? ⟨rb, 1, none⟩ = some (.int .i64 (k : Int))) (h4 : w.frozen? ⟨rb, 1, none⟩ = false)
    (h5 : w.cell? ⟨tb, o, none⟩ = some u) (h6 : w.frozen? ⟨tb, o, none⟩ = false) (n1 : g1 ≠ tb) (n2 : tb ≠ rb)
    (T1 : Hid (NowT rb kk nn pp S w)) (T3 : Hid (∀ w, Calls Tryz.prog 92 #[.string S] w fun e w' => e = .returned (.bool false) ∧ w' = w)) :
    Calls Tryz.prog 91 #[.pointer (some ⟨g1, 0, none⟩), .pointer (some ⟨g2, 0, none⟩)] w fun e w' => e = .returned .nilIface ∧ ∃ w2, Keep w w2 ∧ w' = (w2.setCell ⟨tb, o, none⟩ (.string S)).setCell ⟨rb, 1, none⟩ (.int .i64 ((k + 1 : Nat) : Int)) := by
  have HK := hide (Keep.refl w)
  have H1 := hide h1
  have H2 := hide h2
  have H3 := hide h3
  have H4 := hide h4
  have H5 := hide h5
  have H6 := hide h6
  have hne2 : (kk != 1) = false := by simp [bne, hne]
  clear h2 h3 h4 h5 h6
  go_enter Tryz.func91, Tryz.ntmps91
  go_wp2_with fail
  (refine ((uq T1) _ (uq HK)).mono ?_; rintro e w2 ⟨rfl, hk⟩; have HK2 := hide hk; clear hk)
  go_upto_region 2 with fail
  have q0 : (w2.alloc (.cells #[.int .i64 kk, .string S, .int .i64 nn, .int .i64 pp] 65)).cell? ⟨w2.heap.size, 0, none⟩ = some (.int .i64 kk) := by simp [go_sem]
  have q1 : (w2.alloc (.cells #[.int .i64 kk, .string S, .int .i64 nn, .int .i64 pp] 65)).cell? ⟨w2.heap.size, 1, none⟩ = some (.string S) := by simp [go_sem]
  have q2 : (w2.alloc (.cells #[.int .i64 kk, .string S, .int .i64 nn, .int .i64 pp] 65)).cell? ⟨w2.heap.size, 2, none⟩ = some (.int .i64 nn) := by simp [go_sem]
  have HK3 := hide ((uq HK2).alloc (.cells #[.int .i64 kk, .string S, .int .i64 nn, .int .i64 pp] 65))
  have nq : w2.heap.size ≠ tb := by have := cell_lt ((uq HK2).cell' (uq H5)); simp at this; omega
  generalize w2.alloc (.cells #[.int .i64 kk, .string S, .int .i64 nn, .int .i64 pp] 65) = w3 at q0 q1 q2 HK3 ⊢
  generalize w2.heap.size = q at nq q0 q1 q2 ⊢
  clear HK2 w2
  have c1 := (uq HK3).cell' (uq H1)
  have c2 := (uq HK3).cell' (uq H2)
  have c3 := (uq HK3).cell' (uq H3)
  have c4 := (uq HK3).frozen' (uq H3) (uq H4)
  have c5 := (uq HK3).cell' (uq H5)
  have c6 := (uq HK3).frozen' (uq H5) (uq H6)
  go_wp2_with fail
  (refine ((uq T3) _).mono ?_; rintro e w3 ⟨rfl, rfl⟩)
  go_upto_region 5 with fail
  have d1 : (w3.setCell ⟨tb, o, none⟩ (.string S)).cell? ⟨g1, 0, none⟩ = some (.pointer (some ⟨rb, 0, none⟩)) := by rw [set_far _ _ _ _ (fun e => n1 e.symm)]; exact c1
  have d3 : (w3.setCell ⟨tb, o, none⟩ (.string S)).cell? ⟨rb, 1, none⟩ = some (.int .i64 (k : Int)) := by rw [set_far _ _ _ _ n2]; exact c3
  have d4 : (w3.setCell ⟨tb, o, none⟩ (.string S)).frozen? ⟨rb, 1, none⟩ = false := by rw [World.frozen?_setCell]; exact c4
  have HE : Hid (∃ w2, Keep w w2 ∧ w3.setCell ⟨tb, o, none⟩ (.string S) = w2.setCell ⟨tb, o, none⟩ (.string S)) := hide ⟨w3, uq HK3, rfl⟩
  generalize w3.setCell ⟨tb, o, none⟩ (.string S) = w4 at d1 d3 d4 HE ⊢
  clear c1 c2 c3 c4 c5 c6 q0 q1 q2 HK3
  go_wp2_with fail
  go_ret
  obtain ⟨w2, hk2, rfl⟩ := uq HE
  exact ⟨rfl, w2, hk2, by rfl⟩
set_option maxHeartbeats 2000000 in
theorem pos_core (rb g1 g2 tb o : Nat) (u : Value) (kk nn pp : Int) (S : ByteArray) (w : World)
    (h1 : w.cell? ⟨g1, 0, none⟩ = some (.pointer (some ⟨rb, 0, none⟩))) (h2 : w.cell? ⟨g2, 0, none⟩ = some (.pointer (some ⟨tb, o, none⟩)))
    (h5 : w.cell? ⟨tb, o, none⟩ = some u) (h6 : w.frozen? ⟨tb, o, none⟩ = false) (n1 : g1 ≠ tb) (n2 : g2 ≠ tb)
    (T1 : Hid (NowT rb kk nn pp S w)) :
    Calls Tryz.prog 90 #[.pointer (some ⟨g1, 0, none⟩), .pointer (some ⟨g2, 0, none⟩)] w fun e w' => e = .returned .nilIface ∧ ∃ w2, Keep w w2 ∧ w' = w2.setCell ⟨tb, o, none⟩ (.int .i64 pp) := by
  have HK := hide (Keep.refl w)
  have H1 := hide h1
  have H2 := hide h2
  have H5 := hide h5
  have H6 := hide h6
  have fp := field_p
  clear h1 h2 h5 h6
  go_enter Tryz.func90, Tryz.ntmps90
  go_wp2_with fail
  refine wp_region_held_drew (S := fun w' => w'.cell? ⟨g1, 0, none⟩ = some (.pointer (some ⟨rb, 0, none⟩)) ∧ w'.cell? ⟨g2, 0, none⟩ = some (.pointer (some ⟨tb, o, none⟩))) (by kernel_rfl) (by exact ⟨uq H1, uq H2⟩) (fun hHeld => ?_)
  refine tkk 0 3 hHeld ?_; try simp only [Act.put, Ya, Yb, Yc]
  refine tkk 1 4 hHeld ?_; try simp only [Act.put, Ya, Yb, Yc]
  refine rdyy 2 (fun K hK => ?_)
  go_simp
  clear hHeld
  (refine ((uq T1) _ (uq HK).drew).mono ?_; rintro e w2 ⟨rfl, hk⟩; have HK2 := hide ((uq HK).drew.trans hk); clear hk; have c5 := (uq HK2).cell' (uq H5); have c6 := (uq HK2).frozen' (uq H5) (uq H6))
  try go_wp2_with fail
  refine hK.out _ _ ?_ (fun hHeld => ?_)
  · exact ⟨(uq HK2).cell' (uq H1), (uq HK2).cell' (uq H2)⟩
  clear hK K
  try simp only [Act.put, Ya, Yb, Yc]
  refine tkk 3 6 hHeld ?_; try simp only [Act.put, Ya, Yb, Yc]
  refine tkk 4 7 hHeld ?_; try simp only [Act.put, Ya, Yb, Yc]
  refine rdyy 5 (fun K hK => ?_)
  go_simp
  clear hHeld
  refine hK.out _ _ ?_ (fun hHeld => ?_)
  · exact ⟨by rw [set_far _ _ _ _ (fun e => n1 e.symm)]; exact (uq HK2).cell' (uq H1), by rw [set_far _ _ _ _ (fun e => n2 e.symm)]; exact (uq HK2).cell' (uq H2)⟩
  clear hK K
  try simp only [Act.put, Ya, Yb, Yc]
  refine wpAnyH_done (by kernel_rfl) ?_ _
  clear hHeld
  go_wp2_with fail
  go_ret
  exact ⟨rfl, w2, uq HK2, by rfl⟩
set_option maxHeartbeats 2000000 in
theorem end_yes (rb : Nat) (kk nn pp : Int) (S : ByteArray) (w : World) (hne : (kk == 0) = true) (T1 : Hid (NowT rb kk nn pp S w)) :
    Calls Tryz.prog 54 #[.pointer (some ⟨rb, 0, none⟩)] w fun e w' => e = .returned .nilIface ∧ Keep w w' := by
  have HK := hide (Keep.refl w)
  have hne2 : (kk != 0) = false := by simp [bne, hne]
  have fk := field_k
  go_enter Tryz.func54, Tryz.ntmps54
  go_wp2_with fail
  (refine ((uq T1) _ (uq HK)).mono ?_; rintro e w2 ⟨rfl, hk⟩; have HK2 := hide hk; clear hk)
  go_wp2_with fail
  go_ret
  exact ⟨rfl, uq HK2⟩
set_option maxHeartbeats 2000000 in
theorem end_no (rb : Nat) (kk nn pp : Int) (S : ByteArray) (w : World) (hne : (kk == 0) = false) (T1 : Hid (NowT rb kk nn pp S w)) (T2 : Hid (WrongT rb pp w)) :
    Calls Tryz.prog 54 #[.pointer (some ⟨rb, 0, none⟩)] w fun e w' => e = .returned (flt (50, pp)) ∧ Keep w w' := by
  have HK := hide (Keep.refl w)
  have hne2 : (kk != 0) = true := by simp [bne, hne]
  have fk := field_k
  go_enter Tryz.func54, Tryz.ntmps54
  go_wp2_with fail
  (refine ((uq T1) _ (uq HK)).mono ?_; rintro e w2 ⟨rfl, hk⟩; have HK2 := hide hk; clear hk)
  go_wp2_with fail
  (refine ((uq T2) _ _ (uq HK2)).mono ?_; rintro e w3 ⟨rfl, hk⟩; have HK3 := hide ((uq HK2).trans hk); clear hk)
  go_wp2_with fail
  go_ret
  exact ⟨rfl, uq HK3⟩
end Go.Proofs.YtmplckdpddmifaaGreatDoor
namespace Go.Proofs.YtmplckdpddmifaaGreatDoor
open Go.RowKit
attribute [local go_sem ↓] Go.wp_at_zero Go.wp_at_succ
set_option linter.unusedVariables false
set_option linter.unusedSimpArgs false
set_option maxRecDepth 10000
theorem svl (l : List UInt8) : (sv l).toList = l := ByteArray.toList_mk l
theorem R0.far {rb : Nat} {l : List Tok} {ta : Addr} {cap : Nat} {w : World} {r : List Tok} (h : R0 rb l ta cap w r) (p : Addr) (v : Value) (h1 : p.block ≠ rb) (h2 : p.block ≠ ta.block) : R0 rb l ta cap (w.setCell p v) r := by
  obtain ⟨k, a1, a2, a3, a4, a5, a7, a8, a9⟩ := h
  refine ⟨k, a1, a2, ?_, ?_, ?_, ?_, ?_, a9⟩
  · rw [set_far _ _ _ _ h1]; exact a3
  · rw [set_far _ _ _ _ h1]; exact a4
  · rw [World.frozen?_setCell]; exact a5
  · simpa [World.setCell] using a7
  · intro j hj
    obtain ⟨c0, c1, c2, c3⟩ := a8 j hj
    refine ⟨?_, ?_, ?_, ?_⟩
    · rw [set_far _ _ _ _ (by rw [add_block]; exact h2)]; exact c0
    · rw [set_far _ _ _ _ (by show p.block ≠ (ta.add (j * 4)).block; rw [add_block]; exact h2)]; exact c1
    · rw [set_far _ _ _ _ (by show p.block ≠ (ta.add (j * 4)).block; rw [add_block]; exact h2)]; exact c2
    · rw [set_far _ _ _ _ (by show p.block ≠ (ta.add (j * 4)).block; rw [add_block]; exact h2)]; exact c3
theorem R0.next {rb : Nat} {l : List Tok} {ta : Addr} {cap : Nat} {w : World} {t : Tok} {r : List Tok} (h : R0 rb l ta cap w (t :: r)) (hn : t.k ≠ 0 ∨ t.s ≠ []) (hb : ta.block ≠ rb) {k : Nat} (hc : w.cell? ⟨rb, 1, none⟩ = some (.int .i64 (k : Int))) :
    R0 rb l ta cap (w.setCell ⟨rb, 1, none⟩ (.int .i64 ((k + 1 : Nat) : Int))) r := by
  obtain ⟨k', _, h2, _, h4⟩ := h.step hn hb
  rw [hc] at h2
  injection h2 with h2
  injection h2 with _ h2
  have : k = k' := by omega
  subst this
  exact h4
theorem R0.at {rb : Nat} {l : List Tok} {ta : Addr} {cap : Nat} {w : World} {t : Tok} {r : List Tok} (h : R0 rb l ta cap w (t :: r)) (hn : t.k ≠ 0 ∨ t.s ≠ []) : ∃ k : Nat, k < 70001 ∧ w.cell? ⟨rb, 1, none⟩ = some (.int .i64 (k : Int)) ∧ w.frozen? ⟨rb, 1, none⟩ = false := by
  obtain ⟨k, h1, h2, h3, h4, h5, h7, h8, h9⟩ := h
  have := h9.1
  exact ⟨k, by omega, h4, h5⟩
theorem Rdr.apart {E : Env} {w : World} {r : List Tok} (h : Rdr E w r) : E.ta.block ≠ E.rb := fun e => h.2.1 (e ▸ h.2.2)
theorem Cel.reader {E : Env} {w : World} {cs : List D} (h : Cel E w cs) (hs : E.S E.rb) (v : Value) : Cel E (w.setCell ⟨E.rb, 1, none⟩ v) cs := by
  refine ⟨h.1, fun j d hd => ?_⟩
  obtain ⟨u, h1, h2, h3, h4, h5⟩ := h.2 j d hd
  exact ⟨u, by rw [set_far _ _ _ _ (fun e => h5 e.symm)]; exact h1, h2.set _ _ (fun hp => hp.1 hs), by rw [World.frozen?_setCell]; exact h3, h4, h5⟩
theorem mid_get {c zs rest : List D} {d : D} : (c ++ [d] ++ rest)[c.length]? = some d := by simp
theorem mid_ne {c rest : List D} {d d' : D} {j : Nat} (h : j ≠ c.length) : (c ++ [d'] ++ rest)[j]? = (c ++ [d] ++ rest)[j]? := by
  rcases Nat.lt_or_ge j c.length with h1 | h1
  · simp [List.getElem?_append, h1, show j < c.length + 1 by omega]
  · obtain ⟨i, rfl⟩ : ∃ i, j = c.length + (i + 1) := ⟨j - c.length - 1, by omega⟩
    simp [List.getElem?_append]
/-- one part is set -/
theorem Cel.put {E : Env} {w : World} {c rest : List D} {d : D} (h : Cel E w (c ++ [d] ++ rest)) (x v : Value) (d' : D) (hx : x = v) (hd' : ∀ w P, Rd w d' P v) : Cel E (w.setCell ⟨(E.A c.length).1, (E.A c.length).2, none⟩ x) (c ++ [d'] ++ rest) := by
  subst hx
  obtain ⟨u0, a1, a2, a3, a4, a5⟩ := h.2 c.length d (by simp)
  have hlen : (c ++ [d'] ++ rest).length = (c ++ [d] ++ rest).length := by simp
  refine ⟨by rw [hlen]; exact h.1, fun j e he => ?_⟩
  by_cases hj : j = c.length
  · subst hj
    rw [show (c ++ [d'] ++ rest)[c.length]? = some d' by simp] at he
    injection he with he
    subst he
    exact ⟨x, set_eq _ a1, hd' _ _, by rw [World.frozen?_setCell]; exact a3, a4, a5⟩
  · rw [mid_ne (d := d) hj] at he
    obtain ⟨u, h1, h2, h3, h4, h5⟩ := h.2 j e he
    have hjl : j < (c ++ [d] ++ rest).length := by
      rcases Nat.lt_or_ge j (c ++ [d] ++ rest).length with h | h
      · exact h
      · rw [List.getElem?_eq_none h] at he; cases he
    refine ⟨u, ?_, h2.set _ _ (fun hp => hp.1 a4), by rw [World.frozen?_setCell]; exact h3, h4, h5⟩
    rw [set_ne _ _ _ _ ?_]
    · exact h1
    · intro e2
      apply hj
      have hh : E.A c.length = E.A j := by
        have e3 := congrArg Addr.block e2
        have e4 := congrArg Addr.off e2
        exact Prod.ext e3 e4
      exact (h.1 c.length j (by simp) hjl hh).symm
theorem dI_rd (n : Int) : ∀ w P, Rd w (dI n) P (.int .i64 n) := fun w P => ⟨rfl, rfl⟩
theorem dS_rd (s : List UInt8) : ∀ w P, Rd w (dS s) P (.string (sv s)) := fun w P => ⟨rfl, rfl⟩
theorem dB_rd (b : Bool) : ∀ w P, Rd w (dB b) P (.bool b) := fun w P => ⟨rfl, rfl⟩
theorem post_err {E : Env} {w : World} {rest : List D} {n : Nat} {x : Er} {e : Ending} {w' : World} (he : e = .returned (flt x)) (hk : Keep w w') : Post E w rest n (.error x) e w' := ⟨.keep hk, he⟩
theorem post_ok {E : Env} {w : World} {rest : List D} {n : Nat} {c : List D} {r : List Tok} {e : Ending} {w' : World} (he : e = .returned .nilIface) (hf : Fr E.S w w') (hc : c.length = n) (hr : Rdr E w' r) (hl : Cel E w' (c ++ rest)) : Post E w rest n (.ok (c, r)) e w' := ⟨hf, he, hc, hr, hl⟩
/-- the boxes of a function that was made -/
def Bx (E : Env) (w : World) (g : Nat) (v : Value) : Prop := w.cell? ⟨g, 0, none⟩ = some v ∧ ¬ E.S g
theorem Bx.fr {E : Env} {w w' : World} {g : Nat} {v : Value} (h : Bx E w g v) (k : Fr E.S w w') : Bx E w' g v := ⟨k.cell h.1 h.2, h.2⟩
theorem the_does {E : Env} {w0 : World} {g1 g2 m : Nat} {s : List UInt8} (hs : s ≠ []) (b1 : Bx E w0 g1 (.pointer (some ⟨E.rb, 0, none⟩))) (b2 : Bx E w0 g2 (.string (sv s))) :
    Does E w0 (.func (.func 62) #[] #[.pointer (some ⟨g1, 0, none⟩), .pointer (some ⟨g2, 0, none⟩)]) m [] (pThe s) := by
  refine ⟨_, _, _, rfl, fun xs w => by kernel_rfl, fun w c rest r hf hc hr hl => ?_⟩
  obtain ⟨t, r', rfl⟩ := r0_cons hr.1
  have c1 := (b1.fr hf).1
  have c2 := (b2.fr hf).1
  simp only [pThe, bad]
  by_cases h : t.s = s
  · rw [if_pos h]
    obtain ⟨k, k1, k2, k3⟩ := hr.1.at (.inr (by rw [h]; exact hs))
    refine (the_yes E.rb g1 g2 k t.k t.n t.p (sv t.s) (sv s) w (by rw [svl, svl, h]; simp) k1 c1 c2 k2 k3 (hide (nowT hr.1))).mono ?_
    rintro e w' ⟨he, w2, hk, rfl⟩
    refine post_ok he ((Fr.keep hk).set _ _ hr.2.2) (by simpa using hc) ⟨(hr.1.keep hk).next (.inr (by rw [h]; exact hs)) hr.apart (hk.cell' k2), hr.2⟩ ((Cel.keep (by simpa using hl) hk).reader hr.2.2 _)
  · rw [if_neg h]
    refine (the_no E.rb g1 g2 t.k t.n t.p (sv t.s) (sv s) w (by rw [svl, svl]; simpa using h) c1 c2 (hide (nowT hr.1)) (hide (wrongT hr.1))).mono ?_
    rintro e w' ⟨he, hk⟩
    exact post_err he hk
theorem num_does {E : Env} {w0 : World} {g1 g2 m : Nat} {z : D} (b1 : Bx E w0 g1 (.pointer (some ⟨E.rb, 0, none⟩))) (b2 : Bx E w0 g2 (.pointer (some ⟨(E.A m).1, (E.A m).2, none⟩))) :
    Does E w0 (.func (.func 65) #[] #[.pointer (some ⟨g1, 0, none⟩), .pointer (some ⟨g2, 0, none⟩)]) m [z] pNum := by
  refine ⟨_, _, _, rfl, fun xs w => by kernel_rfl, fun w c rest r hf hc hr hl => ?_⟩
  obtain ⟨t, r', rfl⟩ := r0_cons hr.1
  have c1 := (b1.fr hf).1
  have c2 := (b2.fr hf).1
  subst hc
  simp only [pNum, bad]
  by_cases h : t.k = 2
  · rw [if_pos h]
    obtain ⟨k, k1, k2, k3⟩ := hr.1.at (.inl (by rw [h]; decide))
    obtain ⟨u, a1, _, a3, a4, a5⟩ := hl.2 c.length z (by simp)
    have n1 : g1 ≠ (E.A c.length).1 := fun e => b1.2 (e ▸ a4)
    refine (num_yes E.rb g1 g2 (E.A c.length).1 (E.A c.length).2 k u t.k t.n t.p (sv t.s) w (by simpa using h) k1 c1 c2 k2 k3 a1 a3 n1 a5 (hide (nowT hr.1))).mono ?_
    rintro e w' ⟨he, w2, hk, rfl⟩
    have q1 : E.ta.block ≠ (E.A c.length).1 := fun e => hr.2.1 (e ▸ a4)
    refine post_ok he (((Fr.keep hk).set _ _ a4).set _ _ hr.2.2) (by simp) ⟨((hr.1.keep hk).far _ _ a5 (fun e => q1 e.symm)).next (.inl (by rw [h]; decide)) hr.apart (by rw [set_far _ _ _ _ a5]; exact hk.cell' k2), hr.2⟩ (((hl.keep hk).put _ _ (dI t.n) rfl (dI_rd _)).reader hr.2.2 _)
  · rw [if_neg h]
    refine (num_no E.rb g1 g2 t.k t.n t.p (sv t.s) w (by simpa using h) c1 (hide (nowT hr.1)) (hide (wrongT hr.1))).mono ?_
    rintro e w' ⟨he, hk⟩
    exact post_err he hk
theorem name_does {E : Env} {w0 : World} {g1 g2 m : Nat} {z : D} (b1 : Bx E w0 g1 (.pointer (some ⟨E.rb, 0, none⟩))) (b2 : Bx E w0 g2 (.pointer (some ⟨(E.A m).1, (E.A m).2, none⟩))) :
    Does E w0 (.func (.func 91) #[] #[.pointer (some ⟨g1, 0, none⟩), .pointer (some ⟨g2, 0, none⟩)]) m [z] pName := by
  refine ⟨_, _, _, rfl, fun xs w => by kernel_rfl, fun w c rest r hf hc hr hl => ?_⟩
  obtain ⟨t, r', rfl⟩ := r0_cons hr.1
  have c1 := (b1.fr hf).1
  have c2 := (b2.fr hf).1
  subst hc
  have T3 : ∀ w, Calls Tryz.prog 92 #[.string (sv t.s)] w fun e w' => e = .returned (.bool (decide (t.s ∈ words))) ∧ w' = w := fun w => by have := res_any (sv t.s) w; rw [svl] at this; exact this
  simp only [pName, bad]
  by_cases h : t.k = 1
  · by_cases h2 : t.s ∈ words
    · rw [if_neg (by simp [h2])]
      rw [decide_eq_true h2] at T3
      refine (name_no2 E.rb g1 g2 t.k t.n t.p (sv t.s) w (by simpa using h) c1 (hide (nowT hr.1)) (hide (wrongT hr.1)) (hide T3)).mono ?_
      rintro e w' ⟨he, hk⟩
      exact post_err he hk
    · rw [if_pos ⟨h, h2⟩]
      rw [decide_eq_false h2] at T3
      obtain ⟨k, k1, k2, k3⟩ := hr.1.at (.inl (by rw [h]; decide))
      obtain ⟨u, a1, _, a3, a4, a5⟩ := hl.2 c.length z (by simp)
      have n1 : g1 ≠ (E.A c.length).1 := fun e => b1.2 (e ▸ a4)
      refine (name_yes E.rb g1 g2 (E.A c.length).1 (E.A c.length).2 k u t.k t.n t.p (sv t.s) w (by simpa using h) k1 c1 c2 k2 k3 a1 a3 n1 a5 (hide (nowT hr.1)) (hide T3)).mono ?_
      rintro e w' ⟨he, w2, hk, rfl⟩
      have q1 : E.ta.block ≠ (E.A c.length).1 := fun e => hr.2.1 (e ▸ a4)
      refine post_ok he (((Fr.keep hk).set _ _ a4).set _ _ hr.2.2) (by simp) ⟨((hr.1.keep hk).far _ _ a5 (fun e => q1 e.symm)).next (.inl (by rw [h]; decide)) hr.apart (by rw [set_far _ _ _ _ a5]; exact hk.cell' k2), hr.2⟩ (((hl.keep hk).put _ _ (dS t.s) rfl (dS_rd _)).reader hr.2.2 _)
  · rw [if_neg (by simp [h])]
    refine (name_no1 E.rb g1 g2 t.k t.n t.p (sv t.s) w (by simpa using h) c1 (hide (nowT hr.1)) (hide (wrongT hr.1))).mono ?_
    rintro e w' ⟨he, hk⟩
    exact post_err he hk
theorem pos_does {E : Env} {w0 : World} {g1 g2 m : Nat} {z : D} (b1 : Bx E w0 g1 (.pointer (some ⟨E.rb, 0, none⟩))) (b2 : Bx E w0 g2 (.pointer (some ⟨(E.A m).1, (E.A m).2, none⟩))) :
    Does E w0 (.func (.func 90) #[] #[.pointer (some ⟨g1, 0, none⟩), .pointer (some ⟨g2, 0, none⟩)]) m [z] pPos := by
  refine ⟨_, _, _, rfl, fun xs w => by kernel_rfl, fun w c rest r hf hc hr hl => ?_⟩
  obtain ⟨t, r', rfl⟩ := r0_cons hr.1
  have c1 := (b1.fr hf).1
  have c2 := (b2.fr hf).1
  subst hc
  simp only [pPos]
  obtain ⟨u, a1, _, a3, a4, a5⟩ := hl.2 c.length z (by simp)
  refine (pos_core E.rb g1 g2 (E.A c.length).1 (E.A c.length).2 u t.k t.n t.p (sv t.s) w c1 c2 a1 a3 (fun e => b1.2 (e ▸ a4)) (fun e => b2.2 (e ▸ a4)) (hide (nowT hr.1))).mono ?_
  rintro e w' ⟨he, w2, hk, rfl⟩
  have q1 : E.ta.block ≠ (E.A c.length).1 := fun e => hr.2.1 (e ▸ a4)
  exact post_ok he ((Fr.keep hk).set _ _ a4) (by simp) ⟨(hr.1.keep hk).far _ _ a5 (fun e => q1 e.symm), hr.2⟩ ((hl.keep hk).put _ _ (dI t.p) rfl (dI_rd _))
theorem end_does {E : Env} {w0 : World} {m : Nat} : Does E w0 (.func (.func 54) #[.pointer (some ⟨E.rb, 0, none⟩)] #[]) m [] pEnd := by
  refine ⟨_, _, _, rfl, fun xs w => by kernel_rfl, fun w c rest r hf hc hr hl => ?_⟩
  obtain ⟨t, r', rfl⟩ := r0_cons hr.1
  simp only [pEnd, bad]
  by_cases h : t.k = 0
  · rw [if_pos h]
    refine (end_yes E.rb t.k t.n t.p (sv t.s) w (by simpa using h) (hide (nowT hr.1))).mono ?_
    rintro e w' ⟨he, hk⟩
    exact post_ok he (.keep hk) (by simpa using hc) (hr.keep hk) (Cel.keep (by simpa using hl) hk)
  · rw [if_neg h]
    refine (end_no E.rb t.k t.n t.p (sv t.s) w (by simpa using h) (hide (nowT hr.1)) (hide (wrongT hr.1))).mono ?_
    rintro e w' ⟨he, hk⟩
    exact post_err he hk
/-- two boxes are made -/
theorem two_boxes (E : Env) (w : World) (u v : Value) (s t : TypeId) (hS : ∀ b, E.S b → b < w.heap.size) : Bx E ((w.alloc (.cells #[u] s)).alloc (.cells #[v] t)) w.heap.size u ∧ Bx E ((w.alloc (.cells #[u] s)).alloc (.cells #[v] t)) (w.heap.size + 1) v := by
  refine ⟨⟨by simp [go_sem], fun h => ?_⟩, ⟨by simp [go_sem], fun h => ?_⟩⟩
  · have := hS _ h; omega
  · have := hS _ h; omega
set_option maxHeartbeats 1000000 in
theorem the_make (a : Option Addr) (X : ByteArray) (w : World) : Calls Tryz.prog 48 #[.pointer a, .string X] w fun e w' => e = .returned (.func (.func 62) #[] #[.pointer (some ⟨w.heap.size, 0, none⟩), .pointer (some ⟨w.heap.size + 1, 0, none⟩)]) ∧ w' = (w.alloc (.cells #[.pointer a] 81)).alloc (.cells #[.string X] 9) := by
  go_enter Tryz.func48, Tryz.ntmps48
  go_wp2
  go_ret
  exact ⟨rfl, rfl⟩
set_option maxHeartbeats 1000000 in
theorem num_make (a b : Option Addr) (w : World) : Calls Tryz.prog 49 #[.pointer a, .pointer b] w fun e w' => e = .returned (.func (.func 65) #[] #[.pointer (some ⟨w.heap.size, 0, none⟩), .pointer (some ⟨w.heap.size + 1, 0, none⟩)]) ∧ w' = (w.alloc (.cells #[.pointer a] 81)).alloc (.cells #[.pointer b] 124) := by
  go_enter Tryz.func49, Tryz.ntmps49
  go_wp2
  go_ret
  exact ⟨rfl, rfl⟩
set_option maxHeartbeats 1000000 in
theorem name_make (a b : Option Addr) (w : World) : Calls Tryz.prog 71 #[.pointer a, .pointer b] w fun e w' => e = .returned (.func (.func 91) #[] #[.pointer (some ⟨w.heap.size, 0, none⟩), .pointer (some ⟨w.heap.size + 1, 0, none⟩)]) ∧ w' = (w.alloc (.cells #[.pointer a] 81)).alloc (.cells #[.pointer b] 154) := by
  go_enter Tryz.func71, Tryz.ntmps71
  go_wp2
  go_ret
  exact ⟨rfl, rfl⟩
set_option maxHeartbeats 1000000 in
theorem pos_make (a b : Option Addr) (w : World) : Calls Tryz.prog 70 #[.pointer a, .pointer b] w fun e w' => e = .returned (.func (.func 90) #[] #[.pointer (some ⟨w.heap.size, 0, none⟩), .pointer (some ⟨w.heap.size + 1, 0, none⟩)]) ∧ w' = (w.alloc (.cells #[.pointer a] 81)).alloc (.cells #[.pointer b] 152) := by
  go_enter Tryz.func70, Tryz.ntmps70
  go_wp2
  go_ret
  exact ⟨rfl, rfl⟩
/-- a call that makes a step -/
def Mk (E : Env) (m : Nat) (zs : List D) (p : Sp) (w : World) (e : Ending) (w' : World) : Prop := ∃ f xs ys, e = .returned (.func (.func f) xs ys) ∧ Keep w w' ∧ Does E w' (.func (.func f) xs ys) m zs p
theorem two_keep (w : World) (o o' : Obj) : Keep w ((w.alloc o).alloc o') := ((Keep.refl w).alloc o).alloc o'
theorem the_any {E : Env} (s : List UInt8) (hs : s ≠ []) (m : Nat) (w : World) (hS : ∀ b, E.S b → b < w.heap.size) : Calls Tryz.prog 48 #[.pointer (some ⟨E.rb, 0, none⟩), .string (sv s)] w (Mk E m [] (pThe s) w) := by
  refine (the_make _ _ w).mono ?_
  rintro e w' ⟨rfl, rfl⟩
  obtain ⟨b1, b2⟩ := two_boxes E w _ _ _ _ hS
  exact ⟨_, _, _, rfl, two_keep _ _ _, the_does hs b1 b2⟩
theorem num_any {E : Env} (z : D) (m b o : Nat) (hA : E.A m = (b, o)) (w : World) (hS : ∀ b, E.S b → b < w.heap.size) : Calls Tryz.prog 49 #[.pointer (some ⟨E.rb, 0, none⟩), .pointer (some ⟨b, o, none⟩)] w (Mk E m [z] pNum w) := by
  refine (num_make _ _ w).mono ?_
  rintro e w' ⟨rfl, rfl⟩
  obtain ⟨b1, b2⟩ := two_boxes E w _ _ _ _ hS
  exact ⟨_, _, _, rfl, two_keep _ _ _, num_does b1 (by rw [hA]; exact b2)⟩
theorem name_any {E : Env} (z : D) (m b o : Nat) (hA : E.A m = (b, o)) (w : World) (hS : ∀ b, E.S b → b < w.heap.size) : Calls Tryz.prog 71 #[.pointer (some ⟨E.rb, 0, none⟩), .pointer (some ⟨b, o, none⟩)] w (Mk E m [z] pName w) := by
  refine (name_make _ _ w).mono ?_
  rintro e w' ⟨rfl, rfl⟩
  obtain ⟨b1, b2⟩ := two_boxes E w _ _ _ _ hS
  exact ⟨_, _, _, rfl, two_keep _ _ _, name_does b1 (by rw [hA]; exact b2)⟩
theorem pos_any {E : Env} (z : D) (m b o : Nat) (hA : E.A m = (b, o)) (w : World) (hS : ∀ b, E.S b → b < w.heap.size) : Calls Tryz.prog 70 #[.pointer (some ⟨E.rb, 0, none⟩), .pointer (some ⟨b, o, none⟩)] w (Mk E m [z] pPos w) := by
  refine (pos_make _ _ w).mono ?_
  rintro e w' ⟨rfl, rfl⟩
  obtain ⟨b1, b2⟩ := two_boxes E w _ _ _ _ hS
  exact ⟨_, _, _, rfl, two_keep _ _ _, pos_does b1 (by rw [hA]; exact b2)⟩
end Go.Proofs.YtmplckdpddmifaaGreatDoor
