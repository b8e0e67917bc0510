/- Package net: what the steps that read one token do. -/
import Derived.Test.YtmplckdpddmifaaGreatDoorNThe
namespace Go.Proofs.YtmplckdpddmifaaGreatDoor
open Go.RowKit
attribute [local go_sem ↓] Go.wp_at_zero Go.wp_at_succ
set_option linter.unusedVariables false
set_option linter.unusedSimpArgs false
set_option maxRecDepth 10000
theorem svl (l : List UInt8) : (sv l).toList = l := ByteArray.toList_mk l
theorem R0.far {rb : Nat} {l : List Tok} {ta : Addr} {cap : Nat} {w : World} {r : List Tok} (h : R0 rb l ta cap w r) (p : Addr) (v : Value) (h1 : p.block ≠ rb) (h2 : p.block ≠ ta.block) : R0 rb l ta cap (w.setCell p v) r := by
  obtain ⟨k, a1, a2, a3, a4, a5, a7, a8, a9⟩ := h
  refine ⟨k, a1, a2, ?_, ?_, ?_, ?_, ?_, a9⟩
  · rw [set_far _ _ _ _ h1]; exact a3
  · rw [set_far _ _ _ _ h1]; exact a4
  · rw [World.frozen?_setCell]; exact a5
  · simpa [World.setCell] using a7
  · intro j hj
    obtain ⟨c0, c1, c2, c3⟩ := a8 j hj
    refine ⟨?_, ?_, ?_, ?_⟩
    · rw [set_far _ _ _ _ (by rw [add_block]; exact h2)]; exact c0
    · rw [set_far _ _ _ _ (by show p.block ≠ (ta.add (j * 4)).block; rw [add_block]; exact h2)]; exact c1
    · rw [set_far _ _ _ _ (by show p.block ≠ (ta.add (j * 4)).block; rw [add_block]; exact h2)]; exact c2
    · rw [set_far _ _ _ _ (by show p.block ≠ (ta.add (j * 4)).block; rw [add_block]; exact h2)]; exact c3
theorem R0.next {rb : Nat} {l : List Tok} {ta : Addr} {cap : Nat} {w : World} {t : Tok} {r : List Tok} (h : R0 rb l ta cap w (t :: r)) (hn : t.k ≠ 0 ∨ t.s ≠ []) (hb : ta.block ≠ rb) {k : Nat} (hc : w.cell? ⟨rb, 1, none⟩ = some (.int .i64 (k : Int))) :
    R0 rb l ta cap (w.setCell ⟨rb, 1, none⟩ (.int .i64 ((k + 1 : Nat) : Int))) r := by
  obtain ⟨k', _, h2, _, h4⟩ := h.step hn hb
  rw [hc] at h2
  injection h2 with h2
  injection h2 with _ h2
  have : k = k' := by omega
  subst this
  exact h4
theorem R0.at {rb : Nat} {l : List Tok} {ta : Addr} {cap : Nat} {w : World} {t : Tok} {r : List Tok} (h : R0 rb l ta cap w (t :: r)) (hn : t.k ≠ 0 ∨ t.s ≠ []) : ∃ k : Nat, k < 70001 ∧ w.cell? ⟨rb, 1, none⟩ = some (.int .i64 (k : Int)) ∧ w.frozen? ⟨rb, 1, none⟩ = false := by
  obtain ⟨k, h1, h2, h3, h4, h5, h7, h8, h9⟩ := h
  have := h9.1
  exact ⟨k, by omega, h4, h5⟩
theorem Rdr.apart {E : Env} {w : World} {r : List Tok} (h : Rdr E w r) : E.ta.block ≠ E.rb := fun e => h.2.1 (e ▸ h.2.2)
theorem Cel.reader {E : Env} {w : World} {cs : List D} (h : Cel E w cs) (hs : E.S E.rb) (v : Value) : Cel E (w.setCell ⟨E.rb, 1, none⟩ v) cs := by
  refine ⟨h.1, fun j d hd => ?_⟩
  obtain ⟨u, h1, h2, h3, h4, h5⟩ := h.2 j d hd
  exact ⟨u, by rw [set_far _ _ _ _ (fun e => h5 e.symm)]; exact h1, h2.set _ _ (fun hp => hp.1 hs), by rw [World.frozen?_setCell]; exact h3, h4, h5⟩
theorem mid_get {c zs rest : List D} {d : D} : (c ++ [d] ++ rest)[c.length]? = some d := by simp
theorem mid_ne {c rest : List D} {d d' : D} {j : Nat} (h : j ≠ c.length) : (c ++ [d'] ++ rest)[j]? = (c ++ [d] ++ rest)[j]? := by
  rcases Nat.lt_or_ge j c.length with h1 | h1
  · simp [List.getElem?_append, h1, show j < c.length + 1 by omega]
  · obtain ⟨i, rfl⟩ : ∃ i, j = c.length + (i + 1) := ⟨j - c.length - 1, by omega⟩
    simp [List.getElem?_append]
/-- one part is set -/
theorem Cel.put {E : Env} {w : World} {c rest : List D} {d : D} (h : Cel E w (c ++ [d] ++ rest)) (x v : Value) (d' : D) (hx : x = v) (hd' : ∀ w P, Rd w d' P v) : Cel E (w.setCell ⟨(E.A c.length).1, (E.A c.length).2, none⟩ x) (c ++ [d'] ++ rest) := by
  subst hx
  obtain ⟨u0, a1, a2, a3, a4, a5⟩ := h.2 c.length d (by simp)
  have hlen : (c ++ [d'] ++ rest).length = (c ++ [d] ++ rest).length := by simp
  refine ⟨by rw [hlen]; exact h.1, fun j e he => ?_⟩
  by_cases hj : j = c.length
  · subst hj
    rw [show (c ++ [d'] ++ rest)[c.length]? = some d' by simp] at he
    injection he with he
    subst he
    exact ⟨x, set_eq _ a1, hd' _ _, by rw [World.frozen?_setCell]; exact a3, a4, a5⟩
  · rw [mid_ne (d := d) hj] at he
    obtain ⟨u, h1, h2, h3, h4, h5⟩ := h.2 j e he
    have hjl : j < (c ++ [d] ++ rest).length := by
      rcases Nat.lt_or_ge j (c ++ [d] ++ rest).length with h | h
      · exact h
      · rw [List.getElem?_eq_none h] at he; cases he
    refine ⟨u, ?_, h2.set _ _ (fun hp => hp.1 a4), by rw [World.frozen?_setCell]; exact h3, h4, h5⟩
    rw [set_ne _ _ _ _ ?_]
    · exact h1
    · intro e2
      apply hj
      have hh : E.A c.length = E.A j := by
        have e3 := congrArg Addr.block e2
        have e4 := congrArg Addr.off e2
        exact Prod.ext e3 e4
      exact (h.1 c.length j (by simp) hjl hh).symm
theorem dI_rd (n : Int) : ∀ w P, Rd w (dI n) P (.int .i64 n) := fun w P => ⟨rfl, rfl⟩
theorem dS_rd (s : List UInt8) : ∀ w P, Rd w (dS s) P (.string (sv s)) := fun w P => ⟨rfl, rfl⟩
theorem dB_rd (b : Bool) : ∀ w P, Rd w (dB b) P (.bool b) := fun w P => ⟨rfl, rfl⟩
theorem post_err {E : Env} {w : World} {rest : List D} {n : Nat} {x : Er} {e : Ending} {w' : World} (he : e = .returned (flt x)) (hk : Keep w w') : Post E w rest n (.error x) e w' := ⟨.keep hk, he⟩
theorem post_ok {E : Env} {w : World} {rest : List D} {n : Nat} {c : List D} {r : List Tok} {e : Ending} {w' : World} (he : e = .returned .nilIface) (hf : Fr E.S w w') (hc : c.length = n) (hr : Rdr E w' r) (hl : Cel E w' (c ++ rest)) : Post E w rest n (.ok (c, r)) e w' := ⟨hf, he, hc, hr, hl⟩
/-- the boxes of a function that was made -/
def Bx (E : Env) (w : World) (g : Nat) (v : Value) : Prop := w.cell? ⟨g, 0, none⟩ = some v ∧ ¬ E.S g
theorem Bx.fr {E : Env} {w w' : World} {g : Nat} {v : Value} (h : Bx E w g v) (k : Fr E.S w w') : Bx E w' g v := ⟨k.cell h.1 h.2, h.2⟩
theorem the_does {E : Env} {w0 : World} {g1 g2 m : Nat} {s : List UInt8} (hs : s ≠ []) (b1 : Bx E w0 g1 (.pointer (some ⟨E.rb, 0, none⟩))) (b2 : Bx E w0 g2 (.string (sv s))) :
    Does E w0 (.func (.func 62) #[] #[.pointer (some ⟨g1, 0, none⟩), .pointer (some ⟨g2, 0, none⟩)]) m [] (pThe s) := by
  refine ⟨_, _, _, rfl, fun xs w => by kernel_rfl, fun w c rest r hf hc hr hl => ?_⟩
  obtain ⟨t, r', rfl⟩ := r0_cons hr.1
  have c1 := (b1.fr hf).1
  have c2 := (b2.fr hf).1
  simp only [pThe, bad]
  by_cases h : t.s = s
  · rw [if_pos h]
    obtain ⟨k, k1, k2, k3⟩ := hr.1.at (.inr (by rw [h]; exact hs))
    refine (the_yes E.rb g1 g2 k t.k t.n t.p (sv t.s) (sv s) w (by rw [svl, svl, h]; simp) k1 c1 c2 k2 k3 (hide (nowT hr.1))).mono ?_
    rintro e w' ⟨he, w2, hk, rfl⟩
    refine post_ok he ((Fr.keep hk).set _ _ hr.2.2) (by simpa using hc) ⟨(hr.1.keep hk).next (.inr (by rw [h]; exact hs)) hr.apart (hk.cell' k2), hr.2⟩ ((Cel.keep (by simpa using hl) hk).reader hr.2.2 _)
  · rw [if_neg h]
    refine (the_no E.rb g1 g2 t.k t.n t.p (sv t.s) (sv s) w (by rw [svl, svl]; simpa using h) c1 c2 (hide (nowT hr.1)) (hide (wrongT hr.1))).mono ?_
    rintro e w' ⟨he, hk⟩
    exact post_err he hk
theorem num_does {E : Env} {w0 : World} {g1 g2 m : Nat} {z : D} (b1 : Bx E w0 g1 (.pointer (some ⟨E.rb, 0, none⟩))) (b2 : Bx E w0 g2 (.pointer (some ⟨(E.A m).1, (E.A m).2, none⟩))) :
    Does E w0 (.func (.func 65) #[] #[.pointer (some ⟨g1, 0, none⟩), .pointer (some ⟨g2, 0, none⟩)]) m [z] pNum := by
  refine ⟨_, _, _, rfl, fun xs w => by kernel_rfl, fun w c rest r hf hc hr hl => ?_⟩
  obtain ⟨t, r', rfl⟩ := r0_cons hr.1
  have c1 := (b1.fr hf).1
  have c2 := (b2.fr hf).1
  subst hc
  simp only [pNum, bad]
  by_cases h : t.k = 2
  · rw [if_pos h]
    obtain ⟨k, k1, k2, k3⟩ := hr.1.at (.inl (by rw [h]; decide))
    obtain ⟨u, a1, _, a3, a4, a5⟩ := hl.2 c.length z (by simp)
    have n1 : g1 ≠ (E.A c.length).1 := fun e => b1.2 (e ▸ a4)
    refine (num_yes E.rb g1 g2 (E.A c.length).1 (E.A c.length).2 k u t.k t.n t.p (sv t.s) w (by simpa using h) k1 c1 c2 k2 k3 a1 a3 n1 a5 (hide (nowT hr.1))).mono ?_
    rintro e w' ⟨he, w2, hk, rfl⟩
    have q1 : E.ta.block ≠ (E.A c.length).1 := fun e => hr.2.1 (e ▸ a4)
    refine post_ok he (((Fr.keep hk).set _ _ a4).set _ _ hr.2.2) (by simp) ⟨((hr.1.keep hk).far _ _ a5 (fun e => q1 e.symm)).next (.inl (by rw [h]; decide)) hr.apart (by rw [set_far _ _ _ _ a5]; exact hk.cell' k2), hr.2⟩ (((hl.keep hk).put _ _ (dI t.n) rfl (dI_rd _)).reader hr.2.2 _)
  · rw [if_neg h]
    refine (num_no E.rb g1 g2 t.k t.n t.p (sv t.s) w (by simpa using h) c1 (hide (nowT hr.1)) (hide (wrongT hr.1))).mono ?_
    rintro e w' ⟨he, hk⟩
    exact post_err he hk
theorem name_does {E : Env} {w0 : World} {g1 g2 m : Nat} {z : D} (b1 : Bx E w0 g1 (.pointer (some ⟨E.rb, 0, none⟩))) (b2 : Bx E w0 g2 (.pointer (some ⟨(E.A m).1, (E.A m).2, none⟩))) :
    Does E w0 (.func (.func 91) #[] #[.pointer (some ⟨g1, 0, none⟩), .pointer (some ⟨g2, 0, none⟩)]) m [z] pName := by
  refine ⟨_, _, _, rfl, fun xs w => by kernel_rfl, fun w c rest r hf hc hr hl => ?_⟩
  obtain ⟨t, r', rfl⟩ := r0_cons hr.1
  have c1 := (b1.fr hf).1
  have c2 := (b2.fr hf).1
  subst hc
  have T3 : ∀ w, Calls Tryz.prog 92 #[.string (sv t.s)] w fun e w' => e = .returned (.bool (decide (t.s ∈ words))) ∧ w' = w := fun w => by have := res_any (sv t.s) w; rw [svl] at this; exact this
  simp only [pName, bad]
  by_cases h : t.k = 1
  · by_cases h2 : t.s ∈ words
    · rw [if_neg (by simp [h2])]
      rw [decide_eq_true h2] at T3
      refine (name_no2 E.rb g1 g2 t.k t.n t.p (sv t.s) w (by simpa using h) c1 (hide (nowT hr.1)) (hide (wrongT hr.1)) (hide T3)).mono ?_
      rintro e w' ⟨he, hk⟩
      exact post_err he hk
    · rw [if_pos ⟨h, h2⟩]
      rw [decide_eq_false h2] at T3
      obtain ⟨k, k1, k2, k3⟩ := hr.1.at (.inl (by rw [h]; decide))
      obtain ⟨u, a1, _, a3, a4, a5⟩ := hl.2 c.length z (by simp)
      have n1 : g1 ≠ (E.A c.length).1 := fun e => b1.2 (e ▸ a4)
      refine (name_yes E.rb g1 g2 (E.A c.length).1 (E.A c.length).2 k u t.k t.n t.p (sv t.s) w (by simpa using h) k1 c1 c2 k2 k3 a1 a3 n1 a5 (hide (nowT hr.1)) (hide T3)).mono ?_
      rintro e w' ⟨he, w2, hk, rfl⟩
      have q1 : E.ta.block ≠ (E.A c.length).1 := fun e => hr.2.1 (e ▸ a4)
      refine post_ok he (((Fr.keep hk).set _ _ a4).set _ _ hr.2.2) (by simp) ⟨((hr.1.keep hk).far _ _ a5 (fun e => q1 e.symm)).next (.inl (by rw [h]; decide)) hr.apart (by rw [set_far _ _ _ _ a5]; exact hk.cell' k2), hr.2⟩ (((hl.keep hk).put _ _ (dS t.s) rfl (dS_rd _)).reader hr.2.2 _)
  · rw [if_neg (by simp [h])]
    refine (name_no1 E.rb g1 g2 t.k t.n t.p (sv t.s) w (by simpa using h) c1 (hide (nowT hr.1)) (hide (wrongT hr.1))).mono ?_
    rintro e w' ⟨he, hk⟩
    exact post_err he hk
theorem pos_does {E : Env} {w0 : World} {g1 g2 m : Nat} {z : D} (b1 : Bx E w0 g1 (.pointer (some ⟨E.rb, 0, none⟩))) (b2 : Bx E w0 g2 (.pointer (some ⟨(E.A m).1, (E.A m).2, none⟩))) :
    Does E w0 (.func (.func 90) #[] #[.pointer (some ⟨g1, 0, none⟩), .pointer (some ⟨g2, 0, none⟩)]) m [z] pPos := by
  refine ⟨_, _, _, rfl, fun xs w => by kernel_rfl, fun w c rest r hf hc hr hl => ?_⟩
  obtain ⟨t, r', rfl⟩ := r0_cons hr.1
  have c1 := (b1.fr hf).1
  have c2 := (b2.fr hf).1
  subst hc
  simp only [pPos]
  obtain ⟨u, a1, _, a3, a4, a5⟩ := hl.2 c.length z (by simp)
  refine (pos_core E.rb g1 g2 (E.A c.length).1 (E.A c.length).2 u t.k t.n t.p (sv t.s) w c1 c2 a1 a3 (fun e => b1.2 (e ▸ a4)) (fun e => b2.2 (e ▸ a4)) (hide (nowT hr.1))).mono ?_
  rintro e w' ⟨he, w2, hk, rfl⟩
  have q1 : E.ta.block ≠ (E.A c.length).1 := fun e => hr.2.1 (e ▸ a4)
  exact post_ok he ((Fr.keep hk).set _ _ a4) (by simp) ⟨(hr.1.keep hk).far _ _ a5 (fun e => q1 e.symm), hr.2⟩ ((hl.keep hk).put _ _ (dI t.p) rfl (dI_rd _))
theorem end_does {E : Env} {w0 : World} {m : Nat} : Does E w0 (.func (.func 54) #[.pointer (some ⟨E.rb, 0, none⟩)] #[]) m [] pEnd := by
  refine ⟨_, _, _, rfl, fun xs w => by kernel_rfl, fun w c rest r hf hc hr hl => ?_⟩
  obtain ⟨t, r', rfl⟩ := r0_cons hr.1
  simp only [pEnd, bad]
  by_cases h : t.k = 0
  · rw [if_pos h]
    refine (end_yes E.rb t.k t.n t.p (sv t.s) w (by simpa using h) (hide (nowT hr.1))).mono ?_
    rintro e w' ⟨he, hk⟩
    exact post_ok he (.keep hk) (by simpa using hc) (hr.keep hk) (Cel.keep (by simpa using hl) hk)
  · rw [if_neg h]
    refine (end_no E.rb t.k t.n t.p (sv t.s) w (by simpa using h) (hide (nowT hr.1)) (hide (wrongT hr.1))).mono ?_
    rintro e w' ⟨he, hk⟩
    exact post_err he hk
/-- two boxes are made -/
theorem two_boxes (E : Env) (w : World) (u v : Value) (s t : TypeId) (hS : ∀ b, E.S b → b < w.heap.size) : Bx E ((w.alloc (.cells #[u] s)).alloc (.cells #[v] t)) w.heap.size u ∧ Bx E ((w.alloc (.cells #[u] s)).alloc (.cells #[v] t)) (w.heap.size + 1) v := by
  refine ⟨⟨by simp [go_sem], fun h => ?_⟩, ⟨by simp [go_sem], fun h => ?_⟩⟩
  · have := hS _ h; omega
  · have := hS _ h; omega
set_option maxHeartbeats 1000000 in
theorem the_make (a : Option Addr) (X : ByteArray) (w : World) : Calls Tryz.prog 48 #[.pointer a, .string X] w fun e w' => e = .returned (.func (.func 62) #[] #[.pointer (some ⟨w.heap.size, 0, none⟩), .pointer (some ⟨w.heap.size + 1, 0, none⟩)]) ∧ w' = (w.alloc (.cells #[.pointer a] 81)).alloc (.cells #[.string X] 9) := by
  go_enter Tryz.func48, Tryz.ntmps48
  go_wp2
  go_ret
  exact ⟨rfl, rfl⟩
set_option maxHeartbeats 1000000 in
theorem num_make (a b : Option Addr) (w : World) : Calls Tryz.prog 49 #[.pointer a, .pointer b] w fun e w' => e = .returned (.func (.func 65) #[] #[.pointer (some ⟨w.heap.size, 0, none⟩), .pointer (some ⟨w.heap.size + 1, 0, none⟩)]) ∧ w' = (w.alloc (.cells #[.pointer a] 81)).alloc (.cells #[.pointer b] 124) := by
  go_enter Tryz.func49, Tryz.ntmps49
  go_wp2
  go_ret
  exact ⟨rfl, rfl⟩
set_option maxHeartbeats 1000000 in
theorem name_make (a b : Option Addr) (w : World) : Calls Tryz.prog 71 #[.pointer a, .pointer b] w fun e w' => e = .returned (.func (.func 91) #[] #[.pointer (some ⟨w.heap.size, 0, none⟩), .pointer (some ⟨w.heap.size + 1, 0, none⟩)]) ∧ w' = (w.alloc (.cells #[.pointer a] 81)).alloc (.cells #[.pointer b] 154) := by
  go_enter Tryz.func71, Tryz.ntmps71
  go_wp2
  go_ret
  exact ⟨rfl, rfl⟩
set_option maxHeartbeats 1000000 in
theorem pos_make (a b : Option Addr) (w : World) : Calls Tryz.prog 70 #[.pointer a, .pointer b] w fun e w' => e = .returned (.func (.func 90) #[] #[.pointer (some ⟨w.heap.size, 0, none⟩), .pointer (some ⟨w.heap.size + 1, 0, none⟩)]) ∧ w' = (w.alloc (.cells #[.pointer a] 81)).alloc (.cells #[.pointer b] 152) := by
  go_enter Tryz.func70, Tryz.ntmps70
  go_wp2
  go_ret
  exact ⟨rfl, rfl⟩
/-- a call that makes a step -/
def Mk (E : Env) (m : Nat) (zs : List D) (p : Sp) (w : World) (e : Ending) (w' : World) : Prop := ∃ f xs ys, e = .returned (.func (.func f) xs ys) ∧ Keep w w' ∧ Does E w' (.func (.func f) xs ys) m zs p
theorem two_keep (w : World) (o o' : Obj) : Keep w ((w.alloc o).alloc o') := ((Keep.refl w).alloc o).alloc o'
theorem the_any {E : Env} (s : List UInt8) (hs : s ≠ []) (m : Nat) (w : World) (hS : ∀ b, E.S b → b < w.heap.size) : Calls Tryz.prog 48 #[.pointer (some ⟨E.rb, 0, none⟩), .string (sv s)] w (Mk E m [] (pThe s) w) := by
  refine (the_make _ _ w).mono ?_
  rintro e w' ⟨rfl, rfl⟩
  obtain ⟨b1, b2⟩ := two_boxes E w _ _ _ _ hS
  exact ⟨_, _, _, rfl, two_keep _ _ _, the_does hs b1 b2⟩
theorem num_any {E : Env} (z : D) (m b o : Nat) (hA : E.A m = (b, o)) (w : World) (hS : ∀ b, E.S b → b < w.heap.size) : Calls Tryz.prog 49 #[.pointer (some ⟨E.rb, 0, none⟩), .pointer (some ⟨b, o, none⟩)] w (Mk E m [z] pNum w) := by
  refine (num_make _ _ w).mono ?_
  rintro e w' ⟨rfl, rfl⟩
  obtain ⟨b1, b2⟩ := two_boxes E w _ _ _ _ hS
  exact ⟨_, _, _, rfl, two_keep _ _ _, num_does b1 (by rw [hA]; exact b2)⟩
theorem name_any {E : Env} (z : D) (m b o : Nat) (hA : E.A m = (b, o)) (w : World) (hS : ∀ b, E.S b → b < w.heap.size) : Calls Tryz.prog 71 #[.pointer (some ⟨E.rb, 0, none⟩), .pointer (some ⟨b, o, none⟩)] w (Mk E m [z] pName w) := by
  refine (name_make _ _ w).mono ?_
  rintro e w' ⟨rfl, rfl⟩
  obtain ⟨b1, b2⟩ := two_boxes E w _ _ _ _ hS
  exact ⟨_, _, _, rfl, two_keep _ _ _, name_does b1 (by rw [hA]; exact b2)⟩
theorem pos_any {E : Env} (z : D) (m b o : Nat) (hA : E.A m = (b, o)) (w : World) (hS : ∀ b, E.S b → b < w.heap.size) : Calls Tryz.prog 70 #[.pointer (some ⟨E.rb, 0, none⟩), .pointer (some ⟨b, o, none⟩)] w (Mk E m [z] pPos w) := by
  refine (pos_make _ _ w).mono ?_
  rintro e w' ⟨rfl, rfl⟩
  obtain ⟨b1, b2⟩ := two_boxes E w _ _ _ _ hS
  exact ⟨_, _, _, rfl, two_keep _ _ _, pos_does b1 (by rw [hA]; exact b2)⟩
end Go.Proofs.YtmplckdpddmifaaGreatDoor
