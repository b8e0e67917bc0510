/- Package net: a word that need not be there. -/
import Derived.Test.YtmplckdpddmifaaGreatDoorNIs
import Derived.Test.YtmplckdpddmifaaGreatDoorTk
import Derived.Test.YtmplckdpddmifaaGreatDoorNOrd
namespace Go.Proofs.YtmplckdpddmifaaGreatDoor
open Go.RowKit
attribute [local go_sem ↓] Go.wp_at_zero Go.wp_at_succ
set_option linter.unusedVariables false
set_option linter.unusedSimpArgs false
set_option maxRecDepth 10000
set_option maxHeartbeats 2000000 in
theorem may_no (rb g1 g2 g3 tb o : Nat) (u : Value) (pp : Int) (X : ByteArray) (w : World)
    (h1 : w.cell? ⟨g1, 0, none⟩ = some (.pointer (some ⟨rb, 0, none⟩))) (h2 : w.cell? ⟨g2, 0, none⟩ = some (.string X)) (h3 : w.cell? ⟨g3, 0, none⟩ = some (.pointer (some ⟨tb, o, none⟩)))
    (h5 : w.cell? ⟨tb, o, none⟩ = some u) (h6 : w.frozen? ⟨tb, o, none⟩ = false) (n3 : g3 ≠ tb)
    (T1 : Hid (∀ w' a b, Keep w w' → w'.cell? ⟨a, 0, none⟩ = some (.pointer (some ⟨rb, 0, none⟩)) → w'.cell? ⟨b, 0, none⟩ = some (.string X) → Calls Tryz.prog 62 #[.pointer (some ⟨a, 0, none⟩), .pointer (some ⟨b, 0, none⟩)] w' fun e w'' => e = .returned (flt (50, pp)) ∧ Keep w' w'')) :
    Calls Tryz.prog 103 #[.pointer (some ⟨g1, 0, none⟩), .pointer (some ⟨g2, 0, none⟩), .pointer (some ⟨g3, 0, none⟩)] w fun e w' => e = .returned .nilIface ∧ ∃ w2, Keep w w2 ∧ Keep (w2.setCell ⟨tb, o, none⟩ (.bool false)) w' := by
  have HK := hide (Keep.refl w)
  have H1 := hide h1
  have H2 := hide h2
  have H3 := hide h3
  have H5 := hide h5
  have H6 := hide h6
  have M := hide the_make
  have I := hide is_want
  clear h3 h5 h6
  go_enter Tryz.func103, Tryz.ntmps103
  go_wp2_with fail
  (refine ((uq M) _ _ _).mono ?_; rintro e w1 ⟨rfl, rfl⟩)
  go_wp2_with fail
  (refine ((uq T1) _ _ _ (two_keep _ _ _) (by simp [go_sem]) (by simp [go_sem])).mono ?_; rintro e w2 ⟨rfl, hk⟩; have HK2 := hide ((two_keep _ _ _).trans hk); clear hk)
  unfold flt
  go_wp2_with fail
  have c3 := hide ((uq HK2).cell' (uq H3))
  have c5 := (uq HK2).cell' (uq H5)
  have c6 := (uq HK2).frozen' (uq H5) (uq H6)
  refine wp_region_held_drew (S := fun w' => w'.cell? ⟨g3, 0, none⟩ = some (.pointer (some ⟨tb, o, none⟩))) (by kernel_rfl) (by exact uq c3) (fun hHeld => ?_)
  refine tkk 0 9 hHeld ?_; try simp only [Act.put, Ya, Yb, Yc]
  refine tkk 1 10 hHeld ?_; try simp only [Act.put, Ya, Yb, Yc]
  refine tkk 2 11 hHeld ?_; try simp only [Act.put, Ya, Yb, Yc]
  refine tkk 3 12 hHeld ?_; try simp only [Act.put, Ya, Yb, Yc]
  refine rdyy 4 (fun K hK => ?_)
  go_simp
  clear hHeld
  refine hK.out _ _ ?_ (fun hHeld => ?_)
  · show (w2.setCell ⟨tb, o, none⟩ (.bool false)).cell? _ = _; rw [set_far _ _ _ _ (fun e => n3 e.symm)]; exact uq c3
  clear hK K
  try simp only [Act.put, Ya, Yb, Yc]
  refine wpAnyH_done (by kernel_rfl) ?_ _
  clear hHeld
  go_wp2_with fail
  (refine ((uq I) _ _).mono ?_; rintro e w3 ⟨rfl, hk⟩; have HK3 := hide hk; clear hk)
  go_wp2_with fail
  go_ret
  exact ⟨rfl, w2, uq HK2, (Keep.refl _).drew.trans (uq HK3)⟩
set_option maxHeartbeats 2000000 in
theorem may_yes (rb g1 g2 g3 tb o : Nat) (u : Value) (k : Nat) (X : ByteArray) (w : World)
    (h1 : w.cell? ⟨g1, 0, none⟩ = some (.pointer (some ⟨rb, 0, none⟩))) (h2 : w.cell? ⟨g2, 0, none⟩ = some (.string X)) (h3 : w.cell? ⟨g3, 0, none⟩ = some (.pointer (some ⟨tb, o, none⟩)))
    (h5 : w.cell? ⟨tb, o, none⟩ = some u) (h6 : w.frozen? ⟨tb, o, none⟩ = false) (n3 : g3 ≠ tb) (n4 : g3 ≠ rb) (n5 : tb ≠ rb)
    (T1 : Hid (∀ w' a b, Keep w w' → w'.cell? ⟨a, 0, none⟩ = some (.pointer (some ⟨rb, 0, none⟩)) → w'.cell? ⟨b, 0, none⟩ = some (.string X) → Calls Tryz.prog 62 #[.pointer (some ⟨a, 0, none⟩), .pointer (some ⟨b, 0, none⟩)] w' fun e w'' => e = .returned .nilIface ∧ ∃ w2, Keep w' w2 ∧ w'' = w2.setCell ⟨rb, 1, none⟩ (.int .i64 ((k + 1 : Nat) : Int)))) :
    Calls Tryz.prog 103 #[.pointer (some ⟨g1, 0, none⟩), .pointer (some ⟨g2, 0, none⟩), .pointer (some ⟨g3, 0, none⟩)] w fun e w' => e = .returned .nilIface ∧ ∃ w2, Keep w w2 ∧ Keep ((w2.setCell ⟨rb, 1, none⟩ (.int .i64 ((k + 1 : Nat) : Int))).setCell ⟨tb, o, none⟩ (.bool true)) w' := by
  have HK := hide (Keep.refl w)
  have H1 := hide h1
  have H2 := hide h2
  have H3 := hide h3
  have H5 := hide h5
  have H6 := hide h6
  have M := hide the_make
  have I := hide is_nil
  clear h3 h5 h6
  go_enter Tryz.func103, Tryz.ntmps103
  go_wp2_with fail
  (refine ((uq M) _ _ _).mono ?_; rintro e w1 ⟨rfl, rfl⟩)
  go_wp2_with fail
  (refine ((uq T1) _ _ _ (two_keep _ _ _) (by simp [go_sem]) (by simp [go_sem])).mono ?_; rintro e w9 ⟨rfl, w2, hk, rfl⟩; have HK2 := hide ((two_keep _ _ _).trans hk); clear hk)
  have c3 : Hid ((w2.setCell ⟨rb, 1, none⟩ (.int .i64 ((k + 1 : Nat) : Int))).cell? ⟨g3, 0, none⟩ = some (.pointer (some ⟨tb, o, none⟩))) := by unfold Hid; rw [set_far _ _ _ _ (fun e => n4 e.symm)]; exact (uq HK2).cell' (uq H3)
  have c5 : (w2.setCell ⟨rb, 1, none⟩ (.int .i64 ((k + 1 : Nat) : Int))).cell? ⟨tb, o, none⟩ = some u := by rw [set_far _ _ _ _ (fun e => n5 e.symm)]; exact (uq HK2).cell' (uq H5)
  have c6 : (w2.setCell ⟨rb, 1, none⟩ (.int .i64 ((k + 1 : Nat) : Int))).frozen? ⟨tb, o, none⟩ = false := by rw [World.frozen?_setCell]; exact (uq HK2).frozen' (uq H5) (uq H6)
  have HW : Hid (∃ w1, Keep w w1 ∧ w2.setCell ⟨rb, 1, none⟩ (.int .i64 ((k + 1 : Nat) : Int)) = w1.setCell ⟨rb, 1, none⟩ (.int .i64 ((k + 1 : Nat) : Int))) := hide ⟨w2, uq HK2, rfl⟩
  generalize w2.setCell ⟨rb, 1, none⟩ (.int .i64 ((k + 1 : Nat) : Int)) = w2 at *
  go_wp2_with fail
  refine wp_region_held_drew (S := fun w' => w'.cell? ⟨g3, 0, none⟩ = some (.pointer (some ⟨tb, o, none⟩))) (by kernel_rfl) (by exact uq c3) (fun hHeld => ?_)
  refine tkk 0 9 hHeld ?_; try simp only [Act.put, Ya, Yb, Yc]
  refine tkk 1 10 hHeld ?_; try simp only [Act.put, Ya, Yb, Yc]
  refine tkk 2 11 hHeld ?_; try simp only [Act.put, Ya, Yb, Yc]
  refine tkk 3 12 hHeld ?_; try simp only [Act.put, Ya, Yb, Yc]
  refine rdyy 4 (fun K hK => ?_)
  go_simp
  clear hHeld
  refine hK.out _ _ ?_ (fun hHeld => ?_)
  · show (w2.setCell ⟨tb, o, none⟩ (.bool true)).cell? _ = _; rw [set_far _ _ _ _ (fun e => n3 e.symm)]; exact uq c3
  clear hK K
  try simp only [Act.put, Ya, Yb, Yc]
  refine wpAnyH_done (by kernel_rfl) ?_ _
  clear hHeld
  go_wp2_with fail
  (refine ((uq I) _ _).mono ?_; rintro e w3 ⟨rfl, rfl⟩)
  go_wp2_with fail
  go_ret
  obtain ⟨w1, k1, rfl⟩ := uq HW
  exact ⟨rfl, w1, k1, Keep.drew (Keep.refl _)⟩
theorem may_does {E : Env} {w0 : World} {g1 g2 g3 m : Nat} {z : D} {s : List UInt8} (hs : s ≠ []) (b1 : Bx E w0 g1 (.pointer (some ⟨E.rb, 0, none⟩))) (b2 : Bx E w0 g2 (.string (sv s))) (b3 : Bx E w0 g3 (.pointer (some ⟨(E.A m).1, (E.A m).2, none⟩))) :
    Does E w0 (.func (.func 103) #[] #[.pointer (some ⟨g1, 0, none⟩), .pointer (some ⟨g2, 0, none⟩), .pointer (some ⟨g3, 0, none⟩)]) m [z] (pMay s) := by
  refine ⟨_, _, _, rfl, fun xs w => by kernel_rfl, fun w c rest r hf hc hr hl => ?_⟩
  obtain ⟨t, r', rfl⟩ := r0_cons hr.1
  have c1 := (b1.fr hf).1
  have c2 := (b2.fr hf).1
  have c3 := (b3.fr hf).1
  subst hc
  obtain ⟨u, a1, _, a3, a4, a5⟩ := hl.2 c.length z (by simp)
  have n3 : g3 ≠ (E.A c.length).1 := fun e => b3.2 (e ▸ a4)
  have q1 : E.ta.block ≠ (E.A c.length).1 := fun e => hr.2.1 (e ▸ a4)
  simp only [pMay]
  by_cases h : t.s = s
  · rw [if_pos h]
    have hn : t.k ≠ 0 ∨ t.s ≠ [] := .inr (by rw [h]; exact hs)
    obtain ⟨k, k1, k2, k3⟩ := hr.1.at hn
    refine (may_yes E.rb g1 g2 g3 (E.A c.length).1 (E.A c.length).2 u k (sv s) w c1 c2 c3 a1 a3 n3 (fun e => b3.2 (e ▸ hr.2.2)) a5 (hide fun w' a b hk x1 x2 => the_yes E.rb a b k t.k t.n t.p (sv t.s) (sv s) w' (by rw [svl, svl, h]; simp) k1 x1 x2 (hk.cell' k2) (hk.frozen' k2 k3) (hide (nowT (hr.1.keep hk))))).mono ?_
    rintro e w' ⟨he, w2, hk, hk2⟩
    have hr2 : Rdr E (w2.setCell ⟨E.rb, 1, none⟩ (.int .i64 ((k + 1 : Nat) : Int))) r' := ⟨(hr.1.keep hk).next hn hr.apart (hk.cell' k2), hr.2⟩
    have hl2 : Cel E (w2.setCell ⟨E.rb, 1, none⟩ (.int .i64 ((k + 1 : Nat) : Int))) (c ++ [z] ++ rest) := (hl.keep hk).reader hr.2.2 _
    refine post_ok he ((((Fr.keep hk).set _ _ hr.2.2).set _ _ a4).trans (.keep hk2)) (by simp) (Rdr.keep ⟨hr2.1.far _ _ a5 (fun e => q1 e.symm), hr.2⟩ hk2) ((hl2.put _ _ (dB true) rfl (dB_rd _)).keep hk2)
  · rw [if_neg h]
    refine (may_no E.rb g1 g2 g3 (E.A c.length).1 (E.A c.length).2 u t.p (sv s) w c1 c2 c3 a1 a3 n3 (hide fun w' a b hk x1 x2 => the_no E.rb a b t.k t.n t.p (sv t.s) (sv s) w' (by rw [svl, svl]; simpa using h) x1 x2 (hide (nowT (hr.1.keep hk))) (hide (wrongT (hr.1.keep hk))))).mono ?_
    rintro e w' ⟨he, w2, hk, hk2⟩
    refine post_ok he (((Fr.keep hk).set _ _ a4).trans (.keep hk2)) (by simp) (Rdr.keep ⟨(hr.1.keep hk).far _ _ a5 (fun e => q1 e.symm), hr.2⟩ hk2) (((hl.keep hk).put _ _ (dB false) rfl (dB_rd _)).keep hk2)
set_option maxHeartbeats 1000000 in
theorem may_make (a b : Option Addr) (X : ByteArray) (w : World) : Calls Tryz.prog 83 #[.pointer a, .string X, .pointer b] w fun e w' => e = .returned (.func (.func 103) #[] #[.pointer (some ⟨w.heap.size, 0, none⟩), .pointer (some ⟨w.heap.size + 1, 0, none⟩), .pointer (some ⟨w.heap.size + 1 + 1, 0, none⟩)]) ∧ w' = ((w.alloc (.cells #[.pointer a] 81)).alloc (.cells #[.string X] 9)).alloc (.cells #[.pointer b] 171) := by
  go_enter Tryz.func83, Tryz.ntmps83
  go_wp2
  go_ret
  exact ⟨rfl, rfl⟩
theorem three_boxes (E : Env) (w : World) (u v x : Value) (s t q : TypeId) (hS : ∀ b, E.S b → b < w.heap.size) : Bx E (((w.alloc (.cells #[u] s)).alloc (.cells #[v] t)).alloc (.cells #[x] q)) w.heap.size u ∧ Bx E (((w.alloc (.cells #[u] s)).alloc (.cells #[v] t)).alloc (.cells #[x] q)) (w.heap.size + 1) v ∧ Bx E (((w.alloc (.cells #[u] s)).alloc (.cells #[v] t)).alloc (.cells #[x] q)) (w.heap.size + 1 + 1) x := by
  refine ⟨⟨by simp [go_sem], fun h => ?_⟩, ⟨by simp [go_sem], fun h => ?_⟩, ⟨by simp [go_sem], fun h => ?_⟩⟩ <;> (have := hS _ h; omega)
theorem three_keep (w : World) (o o' p : Obj) : Keep w (((w.alloc o).alloc o').alloc p) := (((Keep.refl w).alloc o).alloc o').alloc p
theorem may_any {E : Env} (s : List UInt8) (hs : s ≠ []) (z : D) (m b o : Nat) (hA : E.A m = (b, o)) (w : World) (hS : ∀ b, E.S b → b < w.heap.size) : Calls Tryz.prog 83 #[.pointer (some ⟨E.rb, 0, none⟩), .string (sv s), .pointer (some ⟨b, o, none⟩)] w (Mk E m [z] (pMay s) w) := by
  refine (may_make _ _ _ w).mono ?_
  rintro e w' ⟨rfl, rfl⟩
  obtain ⟨b1, b2, b3⟩ := three_boxes E w _ _ _ _ _ _ hS
  exact ⟨_, _, _, rfl, three_keep _ _ _ _, may_does hs b1 b2 (by rw [hA]; exact b3)⟩
end Go.Proofs.YtmplckdpddmifaaGreatDoor
namespace Go.Proofs.YtmplckdpddmifaaGreatDoor
open Go.RowKit
attribute [local go_sem ↓] Go.wp_at_zero Go.wp_at_succ
set_option linter.unusedVariables false
set_option linter.unusedSimpArgs false
set_option maxRecDepth 10000
theorem hs_keep {E : Env} {w w' : World} (h : ∀ b, E.S b → b < w.heap.size) (k : Keep w w') : ∀ b, E.S b → b < w'.heap.size := fun b hb => Nat.lt_of_lt_of_le (h b hb) k.size
theorem lo_keep {E : Env} {w w' : World} (h : E.lo ≤ w.heap.size) (k : Keep w w') : E.lo ≤ w'.heap.size := Nat.le_trans h k.size
theorem chain_keep {E : Env} {w w' : World} (k : Keep w w') : ∀ {m : Nat} {ss : List (Value × List D × Sp)}, Chain E w m ss → Chain E w' m ss
  | _, [], _ => trivial
  | _, _ :: _, h => ⟨h.1.keep k, chain_keep k h.2⟩
theorem chain_snoc {E : Env} {w w' : World} {m : Nat} {ss : List (Value × List D × Sp)} {v : Value} {zs : List D} {p : Sp} (h : Chain E w m ss) (k : Keep w w') (hd : Does E w' v (m + (zer ss).length) zs p) : Chain E w' m (ss ++ [(v, zs, p)]) := by
  induction ss generalizing m with
  | nil => exact ⟨hd, trivial⟩
  | cons s ss ih => exact ⟨h.1.keep k, ih h.2 (by rw [Nat.add_assoc, ← List.length_append]; exact hd)⟩
theorem new_steps (w : World) (t : TypeId) (ss : List (Value × List D × Sp)) : ∀ i s, ss[i]? = some s → (w.alloc (.cells (ss.map (fun s => s.1)).toArray t)).cell? ⟨w.heap.size, i, none⟩ = some s.1 := by
  intro i s h
  rw [World.cell?_alloc_mark]
  simp [h]
theorem post_ret {E : Env} {w : World} {rest : List D} {n : Nat} {X : Rs} {e : Ending} {w' : World} (h : Post E w rest n X e w') : ∃ v, e = .returned v := by
  obtain ⟨_, h⟩ := h
  cases X with
  | error x => exact ⟨_, h⟩
  | ok q => exact ⟨_, h.1⟩
theorem post_pre {E : Env} {w w1 : World} {rest : List D} {n : Nat} {X : Rs} {e : Ending} {w' : World} (k : Fr E.S w w1) (h : Post E w1 rest n X e w') : Post E w rest n X e w' := ⟨k.trans h.1, h.2⟩
end Go.Proofs.YtmplckdpddmifaaGreatDoor
