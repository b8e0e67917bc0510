/- The document's reader: fail, next, is, want, name, num, frac, begins. -/
import Derived.Test.YtjincjlalopbfaaLOpn
import Derived.Test.YtjincjlalopbfaaLIn
namespace Go.Proofs.Ytjincjlalopbfaa
open Go.RowKit
attribute [local go_sem ↓] Go.wp_at_zero Go.wp_at_succ
set_option linter.unusedVariables false
set_option linter.unusedSimpArgs false
set_option maxRecDepth 10000
namespace Q
theorem frb (w : World) (b j : Nat) (v : Value) (hv : v.oneCell' = true) : Fr (fun i => i = b) w (w.setCell ⟨b, j, none⟩ v) := (Fr.refl (fun i => i = b) w).set ⟨b, j, none⟩ v rfl hv
set_option maxHeartbeats 1000000 in
theorem fail_dead (b : Nat) (e x : Int) (w : World) (he : (e == 0) = false) (c1 : w.cell? ⟨b, 1, none⟩ = some (.int .i64 e)) : Calls Try.prog 37 #[.pointer (some ⟨b, 0, none⟩), .int .i64 x] w fun r w' => r = .returned (.tuple #[]) ∧ w' = w := by
  go_enter Try.func37, Try.ntmps37
  go_wp2_with fail
  go_end0
  exact ⟨rfl, rfl⟩
set_option maxHeartbeats 2000000 in
theorem fail_alive (b m cap : Nat) (ad : Addr) (x p pp : Int) (w : World) (hb : ad.block ≠ b) (c0 : w.cell? ⟨b, 0, none⟩ = some (.slice (some ad) (m + 1) cap)) (c1 : w.cell? ⟨b, 1, none⟩ = some (.int .i64 0)) (c2 : w.cell? ⟨b, 2, none⟩ = some (.int .i64 p)) (f1 : w.frozen? ⟨b, 1, none⟩ = false) (f2 : w.frozen? ⟨b, 2, none⟩ = false) (t3 : w.cell? ⟨ad.block, ad.off + 3, none⟩ = some (.int .i64 pp)) :
    Calls Try.prog 37 #[.pointer (some ⟨b, 0, none⟩), .int .i64 x] w fun r w' => r = .returned (.tuple #[]) ∧ w' = (w.setCell ⟨b, 1, none⟩ (.int .i64 x)).setCell ⟨b, 2, none⟩ (.int .i64 pp) := by
  have d0 : (w.setCell ⟨b, 1, none⟩ (.int .i64 x)).cell? ⟨b, 0, none⟩ = some (.slice (some ad) (m + 1) cap) := by rw [set_ne _ _ _ _ (by simp)]; exact c0
  have d2 : (w.setCell ⟨b, 1, none⟩ (.int .i64 x)).cell? ⟨b, 2, none⟩ = some (.int .i64 p) := by rw [set_ne _ _ _ _ (by simp)]; exact c2
  have d3 : (w.setCell ⟨b, 1, none⟩ (.int .i64 x)).cell? ⟨ad.block, ad.off + 3, none⟩ = some (.int .i64 pp) := by rw [set_far _ _ _ _ (fun e => hb e.symm)]; exact t3
  have d4 : (w.setCell ⟨b, 1, none⟩ (.int .i64 x)).frozen? ⟨b, 2, none⟩ = false := by rw [World.frozen?_setCell]; exact f2
  go_enter Try.func37, Try.ntmps37
  go_upto_region 2 with fail
  obtain ⟨w1, HW⟩ : ∃ w1, Hid (w.setCell ⟨b, 1, none⟩ (.int .i64 x) = w1) := ⟨_, rfl⟩
  rw [uq HW] at d0 d2 d3 d4 ⊢
  go_wp2_with fail
  go_end0
  exact ⟨rfl, by rw [uq HW]⟩
set_option maxHeartbeats 2000000 in
theorem next_stay (b m cap : Nat) (ad : Addr) (e kk nn pp : Int) (S : ByteArray) (w : World) (h : (e == 0) = false ∨ ((e == 0) = true ∧ (kk != 0) = false)) (c0 : w.cell? ⟨b, 0, none⟩ = some (.slice (some ad) (m + 1) cap)) (c1 : w.cell? ⟨b, 1, none⟩ = some (.int .i64 e)) (t0 : w.cell? ad = some (.int .i64 kk)) (t1 : w.cell? ⟨ad.block, ad.off + 1, none⟩ = some (.string S)) (t2 : w.cell? ⟨ad.block, ad.off + 2, none⟩ = some (.int .i64 nn)) (t3 : w.cell? ⟨ad.block, ad.off + 3, none⟩ = some (.int .i64 pp)) :
    Calls Try.prog 35 #[.pointer (some ⟨b, 0, none⟩)] w fun r w' => r = .returned (.agg #[.int .i64 kk, .string S, .int .i64 nn, .int .i64 pp]) ∧ Keep w w' := by
  have k : ∀ o, Keep w (w.alloc o) := fun o => (Keep.refl w).alloc o
  have g0 : ∀ o, (w.alloc o).cell? ⟨b, 0, none⟩ = some (.slice (some ad) (m + 1) cap) := fun o => kcell (k o) c0
  have q0 : ∀ o, (w.alloc o).cell? ad = some (.int .i64 kk) := fun o => kcell (k o) t0
  have q1 : ∀ o, (w.alloc o).cell? ⟨ad.block, ad.off + 1, none⟩ = some (.string S) := fun o => kcell (k o) t1
  have q2 : ∀ o, (w.alloc o).cell? ⟨ad.block, ad.off + 2, none⟩ = some (.int .i64 nn) := fun o => kcell (k o) t2
  have q3 : ∀ o, (w.alloc o).cell? ⟨ad.block, ad.off + 3, none⟩ = some (.int .i64 pp) := fun o => kcell (k o) t3
  have g1 : ∀ o o2, ((w.alloc o).alloc o2).cell? ⟨b, 1, none⟩ = some (.int .i64 e) := fun o o2 => kcell ((k o).alloc o2) c1
  have HK := hide k
  clear k
  rcases h with h | ⟨h, h2⟩
  · go_enter Try.func35, Try.ntmps35
    go_wp2_with fail
    refine bodyPost_ret (v := .agg #[.int .i64 kk, .string S, .int .i64 nn, .int .i64 pp]) ?_ rfl ?_
    · simp [results, Try.results35, go_sem]
    · exact ⟨rfl, by repeat (first | apply keep_ext | apply Keep.alloc | apply Keep.drew | exact Keep.refl _)⟩
  · go_enter Try.func35, Try.ntmps35
    go_wp2_with fail
    refine bodyPost_ret (v := .agg #[.int .i64 kk, .string S, .int .i64 nn, .int .i64 pp]) ?_ rfl ?_
    · simp [results, Try.results35, go_sem]
    · exact ⟨rfl, by repeat (first | apply keep_ext | apply Keep.alloc | apply Keep.drew | exact Keep.refl _)⟩
set_option maxHeartbeats 2000000 in
theorem next_go (b m cap : Nat) (ad : Addr) (kk nn pp : Int) (S : ByteArray) (w : World) (hc : ¬ cap = 1) (hk : (kk != 0) = true) (c0 : w.cell? ⟨b, 0, none⟩ = some (.slice (some ad) (m + 1) cap)) (c1 : w.cell? ⟨b, 1, none⟩ = some (.int .i64 0)) (f0 : w.frozen? ⟨b, 0, none⟩ = false) (t0 : w.cell? ad = some (.int .i64 kk)) (t1 : w.cell? ⟨ad.block, ad.off + 1, none⟩ = some (.string S)) (t2 : w.cell? ⟨ad.block, ad.off + 2, none⟩ = some (.int .i64 nn)) (t3 : w.cell? ⟨ad.block, ad.off + 3, none⟩ = some (.int .i64 pp)) :
    Calls Try.prog 35 #[.pointer (some ⟨b, 0, none⟩)] w fun r w' => r = .returned (.agg #[.int .i64 kk, .string S, .int .i64 nn, .int .i64 pp]) ∧ Keep (w.setCell ⟨b, 0, none⟩ (.slice (some ⟨ad.block, ad.off + 4, none⟩) m (cap - 1))) w' := by
  have hb : b < w.heap.size := cell_lt c0
  have k : ∀ o, Keep w (w.alloc o) := fun o => (Keep.refl w).alloc o
  have g0 : ∀ o, (w.alloc o).cell? ⟨b, 0, none⟩ = some (.slice (some ad) (m + 1) cap) := fun o => kcell (k o) c0
  have q0 : ∀ o, (w.alloc o).cell? ad = some (.int .i64 kk) := fun o => kcell (k o) t0
  have q1 : ∀ o, (w.alloc o).cell? ⟨ad.block, ad.off + 1, none⟩ = some (.string S) := fun o => kcell (k o) t1
  have q2 : ∀ o, (w.alloc o).cell? ⟨ad.block, ad.off + 2, none⟩ = some (.int .i64 nn) := fun o => kcell (k o) t2
  have q3 : ∀ o, (w.alloc o).cell? ⟨ad.block, ad.off + 3, none⟩ = some (.int .i64 pp) := fun o => kcell (k o) t3
  have HK := hide k
  clear k
  go_enter Try.func35, Try.ntmps35
  have g1 : ∀ o o2, ((w.alloc o).alloc o2).cell? ⟨b, 1, none⟩ = some (.int .i64 0) := fun o o2 => kcell (((uq HK) o).alloc o2) c1
  have g3 : ∀ o o2, ((w.alloc o).alloc o2).cell? ⟨b, 0, none⟩ = some (.slice (some ad) (m + 1) cap) := fun o o2 => kcell (((uq HK) o).alloc o2) c0
  have g4 : ∀ o o2, ((w.alloc o).alloc o2).frozen? ⟨b, 0, none⟩ = false := fun o o2 => kfrozen (((uq HK) o).alloc o2) c0 f0
  go_upto_region 4 with fail
  clear g0 g1 g3 g4 q0 q1 q2 q3 t0 t1 t2 t3 HK c0 c1 f0
  go_wp2_with fail
  refine bodyPost_ret (v := .agg #[.int .i64 kk, .string S, .int .i64 nn, .int .i64 pp]) ?_ rfl ?_
  · simp [results, Try.results35, go_sem]
  · exact ⟨rfl, by repeat (first | apply keep_ext | apply Keep.alloc | apply Keep.drew | exact Keep.refl _)⟩
set_option maxHeartbeats 2000000 in
theorem is_dead (b : Nat) (e : Int) (X : ByteArray) (w : World) (he : (e == 0) = false) (c1 : w.cell? ⟨b, 1, none⟩ = some (.int .i64 e)) : Calls Try.prog 34 #[.pointer (some ⟨b, 0, none⟩), .string X] w fun r w' => r = .returned (.bool false) ∧ w' = w := by
  go_enter Try.func34, Try.ntmps34
  go_wp2_with fail
  go_ret
  exact ⟨rfl, rfl⟩
set_option maxHeartbeats 2000000 in
theorem is_alive (b m cap : Nat) (ad : Addr) (kk : Int) (S X : ByteArray) (w : World) (x y z r0 : Bool) (hx : (kk != 2) = x) (hy : (kk != 0) = y) (hz : (S.toList == X.toList) = z) (hr : (x && (y && z)) = r0) (c0 : w.cell? ⟨b, 0, none⟩ = some (.slice (some ad) (m + 1) cap)) (c1 : w.cell? ⟨b, 1, none⟩ = some (.int .i64 0)) (t0 : w.cell? ad = some (.int .i64 kk)) (t1 : w.cell? ⟨ad.block, ad.off + 1, none⟩ = some (.string S)) : Calls Try.prog 34 #[.pointer (some ⟨b, 0, none⟩), .string X] w fun r w' => r = .returned (.bool r0) ∧ w' = w := by
  subst hr
  cases x with
  | false =>
    go_enter Try.func34, Try.ntmps34
    go_wp2_with fail
    go_ret
    exact ⟨rfl, rfl⟩
  | true => cases y with
    | false =>
      go_enter Try.func34, Try.ntmps34
      go_wp2_with fail
      go_ret
      exact ⟨rfl, rfl⟩
    | true => cases z with
      | false =>
        go_enter Try.func34, Try.ntmps34
        go_wp2_with fail
        go_ret
        exact ⟨rfl, rfl⟩
      | true =>
        go_enter Try.func34, Try.ntmps34
        go_wp2_with fail
        go_ret
        exact ⟨rfl, rfl⟩
/-- what the tokens' first is, in cells -/
theorem Rm.tok {w : World} {b : Nat} {ad : Addr} {cap : Nat} {e p : Int} {t : Tok} {r : List Tok} (h : Rm w b ad cap e p (t :: r)) : Tc w ad t := by
  have := h.tc 0 (by simp)
  rw [Nat.zero_mul] at this
  have e0 : ad.add 0 = ad := by unfold Addr.add; rw [if_pos rfl]
  rw [e0] at this
  exact this
theorem Rm.num {w : World} {b : Nat} {ad : Addr} {cap : Nat} {e p : Int} {t : Tok} {r : List Tok} (h : Rm w b ad cap e p (t :: r)) : 0 ≤ t.n ∧ t.n ≤ 999999999999999999 := h.wq.1.2.2 t List.mem_cons_self
/-- is it next? -/
def isq (s : List UInt8) : Except Er (List Tok) → Bool
  | .ok (t :: _) => decide (t.s = s)
  | _ => false
/-- something is wrong, unless something was -/
def failq (x : Int) : Except Er (List Tok) → Except Er (List Tok)
  | .ok (t :: _) => .error (x, t.p)
  | Y => Y
/-- the next token is read, if all is well -/
def nextq : Except Er (List Tok) → Except Er (List Tok)
  | .ok (t :: r) => if t.k = 0 then .ok (t :: r) else .ok r
  | Y => Y
theorem is_any {w : World} {b : Nat} {Y : Except Er (List Tok)} (s : List UInt8) (hs : wrd s = true) (h : Sr w b Y) : Calls Try.prog 34 #[.pointer (some ⟨b, 0, none⟩), .string (sv s)] w fun r w' => r = .returned (.bool (isq s Y)) ∧ w' = w := by
  cases Y with
  | error x =>
    obtain ⟨ad, cap, t, r', h1, h2⟩ := h.dead
    exact is_dead b x.1 _ w (by simpa using h2) h1.c1
  | ok r =>
    obtain ⟨ad, cap, p, t, r', rfl, h1⟩ := h.alive
    obtain ⟨t0, t1, t2, t3⟩ := h1.tok
    refine is_alive b r'.length cap ad t.k (sv t.s) (sv s) w _ _ _ _ rfl rfl rfl ?_ h1.c0 h1.c1 t0 t1
    show (t.k != 2 && (t.k != 0 && ((sv t.s).toList == (sv s).toList))) = decide (t.s = s)
    rw [show (sv t.s).toList = t.s from ByteArray.toList_mk _, show (sv s).toList = s from ByteArray.toList_mk _]
    by_cases e : t.s = s
    · have := (h1.wq.2 t List.mem_cons_self).word hs e
      simp [this, e]
    · have e2 : (t.s == s) = false := by simpa using e
      simp [e, e2]
theorem fail_any {w : World} {b : Nat} {Y : Except Er (List Tok)} (x : Int) (hx : x ≠ 0) (h : Sr w b Y) : Calls Try.prog 37 #[.pointer (some ⟨b, 0, none⟩), .int .i64 x] w fun r w' => r = .returned (.tuple #[]) ∧ Fr (fun i => i = b) w w' ∧ Sr w' b (failq x Y) := by
  cases Y with
  | error y =>
    obtain ⟨ad, cap, t, r', h1, h2⟩ := h.dead
    refine (fail_dead b y.1 x w (by simpa using h2) h1.c1).mono ?_
    rintro r w' ⟨rfl, rfl⟩
    exact ⟨rfl, .refl _ _, h⟩
  | ok r =>
    obtain ⟨ad, cap, p, t, r', rfl, h1⟩ := h.alive
    obtain ⟨t0, t1, t2, t3⟩ := h1.tok
    refine (fail_alive b r'.length cap ad x p t.p w (by have := h1.lt; omega) h1.c0 h1.c1 h1.c2 h1.f1 h1.f2 t3).mono ?_
    rintro r w' ⟨rfl, rfl⟩
    exact ⟨rfl, (frb w b 1 _ rfl).trans (frb _ b 2 _ rfl), sr_err (x := (x, t.p)) h1.fail hx⟩
theorem next_any {w : World} {b : Nat} {Y : Except Er (List Tok)} (h : Sr w b Y) : Calls Try.prog 35 #[.pointer (some ⟨b, 0, none⟩)] w fun r w' => ∃ t, r = .returned (tv t) ∧ (0 ≤ t.n ∧ t.n ≤ 999999999999999999) ∧ Fr (fun i => i = b) w w' ∧ Sr w' b (nextq Y) ∧ ∀ r, Y = .ok r → ∃ r', r = t :: r' := by
  cases Y with
  | error y =>
    obtain ⟨ad, cap, t, r', h1, h2⟩ := h.dead
    obtain ⟨t0, t1, t2, t3⟩ := h1.tok
    refine (next_stay b r'.length cap ad y.1 t.k t.n t.p (sv t.s) w (.inl (by simpa using h2)) h1.c0 h1.c1 t0 t1 t2 t3).mono ?_
    rintro r w' ⟨rfl, hk⟩
    exact ⟨t, rfl, h1.num, .keep hk, h.keep hk, fun r e => by cases e⟩
  | ok r =>
    obtain ⟨ad, cap, p, t, r', rfl, h1⟩ := h.alive
    obtain ⟨t0, t1, t2, t3⟩ := h1.tok
    by_cases hk : t.k = 0
    · refine (next_stay b r'.length cap ad 0 t.k t.n t.p (sv t.s) w (.inr ⟨rfl, by simp [hk]⟩) h1.c0 h1.c1 t0 t1 t2 t3).mono ?_
      rintro r w' ⟨rfl, hk2⟩
      refine ⟨t, rfl, h1.num, .keep hk2, ?_, fun r e => by cases e; exact ⟨_, rfl⟩⟩
      show Sr w' b (if t.k = 0 then .ok (t :: r') else .ok r')
      rw [if_pos hk]
      exact h.keep hk2
    · obtain ⟨h2, h3, h4⟩ := h1.next (.inl hk)
      refine (next_go b r'.length cap ad t.k t.n t.p (sv t.s) w (by omega) (by simpa using hk) h1.c0 h1.c1 h1.f0 t0 t1 t2 t3).mono ?_
      rintro r w' ⟨rfl, hk2⟩
      refine ⟨t, rfl, h1.num, (frb w b 0 _ rfl).trans (.keep hk2), ?_, fun r e => by cases e; exact ⟨_, rfl⟩⟩
      show Sr w' b (if t.k = 0 then .ok (t :: r') else .ok r')
      rw [if_neg hk]
      exact (sr_ok h2).keep hk2
set_option maxHeartbeats 2000000 in
theorem want_core (b : Nat) (X : ByteArray) (q : Bool) (w : World) (Q : World → Prop)
    (T1 : Hid (Calls Try.prog 34 #[.pointer (some ⟨b, 0, none⟩), .string X] w fun r w' => r = .returned (.bool q) ∧ w' = w))
    (T2 : Hid (q = false → Calls Try.prog 37 #[.pointer (some ⟨b, 0, none⟩), .int .i64 50] w fun r w' => r = .returned (.tuple #[]) ∧ Calls Try.prog 35 #[.pointer (some ⟨b, 0, none⟩)] w' fun r w'' => ∃ t, r = .returned (tv t) ∧ Q w''))
    (T3 : Hid (q = true → Calls Try.prog 35 #[.pointer (some ⟨b, 0, none⟩)] w fun r w'' => ∃ t, r = .returned (tv t) ∧ Q w'')) :
    Calls Try.prog 30 #[.pointer (some ⟨b, 0, none⟩), .string X] w fun r w' => r = .returned (.tuple #[]) ∧ Q w' := by
  cases q with
  | false =>
    replace T2 := hide ((uq T2) rfl)
    clear T3
    go_enter Try.func30, Try.ntmps30
    go_wp2_with fail
    (refine (uq T1).mono ?_; rintro e w1 ⟨rfl, rfl⟩)
    go_wp2_with fail
    (refine (uq T2).mono ?_; rintro e w2 ⟨rfl, hn⟩; have HN := hide hn; clear hn)
    go_wp2_with fail
    (refine (uq HN).mono ?_; rintro e w3 ⟨t, rfl, hq⟩; have HQ := hide hq; clear hq)
    go_wp2_with fail
    go_end0
    exact ⟨rfl, uq HQ⟩
  | true =>
    replace T3 := hide ((uq T3) rfl)
    clear T2
    go_enter Try.func30, Try.ntmps30
    go_wp2_with fail
    (refine (uq T1).mono ?_; rintro e w1 ⟨rfl, rfl⟩)
    go_wp2_with fail
    (refine (uq T3).mono ?_; rintro e w3 ⟨t, rfl, hq⟩; have HQ := hide hq; clear hq)
    go_wp2_with fail
    go_end0
    exact ⟨rfl, uq HQ⟩
theorem want_any {w : World} {b : Nat} {X : Rs} (s : List UInt8) (hs : wrd s = true) (h : Sr w b (toks X)) : Calls Try.prog 30 #[.pointer (some ⟨b, 0, none⟩), .string (sv s)] w fun r w' => r = .returned (.tuple #[]) ∧ Did (pThe s) [] b X w w' := by
  refine want_core b (sv s) (isq s (toks X)) w _ (hide (is_any s hs h)) (hide fun hq => ?_) (hide fun hq => ?_)
  · refine (fail_any 50 (by decide) h).mono ?_
    rintro r w' ⟨rfl, hf, hs'⟩
    refine ⟨rfl, (next_any hs').mono ?_⟩
    rintro r w'' ⟨t, rfl, _, hf2, hs2, _⟩
    refine ⟨t, rfl, hf.trans hf2, ?_⟩
    rcases X with x | ⟨c, r⟩
    · exact ⟨hs2, fun c r e => by cases e⟩
    · obtain ⟨ad, cap, p, u, r', e, h1⟩ := Sr.alive (r := r) h
      subst e
      have hne : u.s ≠ s := by simpa [isq, toks] using hq
      have e1 : bnd (.ok (c, u :: r')) (pThe s) = .error (50, u.p) := by show (if u.s = s then _ else _) = _; rw [if_neg hne]; rfl
      rw [e1]
      exact ⟨hs2, fun c r e => by cases e⟩
  · refine (next_any h).mono ?_
    rintro r w'' ⟨t, rfl, _, hf2, hs2, _⟩
    refine ⟨t, rfl, hf2, ?_⟩
    rcases X with x | ⟨c, r⟩
    · cases hq
    · obtain ⟨ad, cap, p, u, r', e, h1⟩ := Sr.alive (r := r) h
      subst e
      have he : u.s = s := by simpa [isq, toks] using hq
      have e1 : bnd (.ok (c, u :: r')) (pThe s) = .ok (c, r') := by show (if u.s = s then _ else _) = _; rw [if_pos he]
      have hk := ((h1.wq.2 u List.mem_cons_self).word hs he).1
      rw [e1]
      have : nextq (toks (.ok (c, u :: r'))) = .ok r' := by show (if u.k = 0 then _ else _) = _; rw [if_neg hk]
      rw [this] at hs2
      exact ⟨hs2, fun c2 r2 e2 => by cases e2; exact ⟨c, _, rfl, by simp⟩⟩
end Q
end Go.Proofs.Ytjincjlalopbfaa

namespace Go.Proofs.Ytjincjlalopbfaa
open Go.RowKit
set_option linter.unusedVariables false
set_option linter.unusedSimpArgs false
set_option maxRecDepth 10000
namespace Q
/-- the world with one block turned and later blocks -/
def chg (w : World) (b : Nat) (o : Obj) (os : Array Obj) (k : Nat) : World := { w with heap := w.heap.setIfInBounds b o ++ os, drawn := k }
theorem chg_heap (w : World) (b : Nat) (o : Obj) (os : Array Obj) (k i : Nat) (hi : i < w.heap.size) (hb : i ≠ b) : (chg w b o os k).heap[i]? = w.heap[i]? := by
  simp only [chg]
  rw [Array.getElem?_append_left (by simpa using hi), Array.getElem?_setIfInBounds_ne (fun e => hb e.symm)]
theorem chg_at (w : World) (b : Nat) (o : Obj) (os : Array Obj) (k : Nat) (hb : b < w.heap.size) : (chg w b o os k).heap[b]? = some o := by
  simp only [chg]
  rw [Array.getElem?_append_left (by simpa using hb), Array.getElem?_setIfInBounds_self]
  simp [hb]
theorem fr_chg {w w' : World} {b : Nat} (h : Fr (fun i => i = b) w w') (hb : b < w.heap.size) : ∃ o os k, w' = chg w b o os k := by
  have hb' : b < w'.heap.size := Nat.lt_of_lt_of_le hb h.size
  refine ⟨w'.heap[b], w'.heap.extract w.heap.size w'.heap.size, w'.drawn, ?_⟩
  have e : w'.heap = w.heap.setIfInBounds b w'.heap[b] ++ w'.heap.extract w.heap.size w'.heap.size := by
    apply Array.ext_getElem?
    intro i
    by_cases hi : i < w.heap.size
    · rw [Array.getElem?_append_left (by simpa using hi)]
      by_cases e : i = b
      · subst e
        rw [Array.getElem?_setIfInBounds_self]
        simp [hi, hb']
      · rw [Array.getElem?_setIfInBounds_ne (fun x => e x.symm), h.block i hi e]
    · rw [Array.getElem?_append_right (by simp; omega), Array.getElem?_extract]
      simp only [Array.size_setIfInBounds]
      by_cases h6 : i < w'.heap.size
      · rw [if_pos (by omega)]
        congr 1; omega
      · rw [if_neg (by omega), Array.getElem?_eq_none (by omega)]
  obtain ⟨h1, h2, h3, h4, h5, _, _⟩ := h
  obtain ⟨a, b2, c, d, f⟩ := w'
  obtain ⟨a', b', c', d', f'⟩ := w
  simp only at h1 h2 h3 e
  subst h1 h2 h3
  simp only [chg]
  rw [← e]
@[go_sem, simp] theorem chg_size (w : World) (b : Nat) (o : Obj) (os : Array Obj) (k : Nat) : (chg w b o os k).heap.size = w.heap.size + os.size := by simp [chg]
@[go_sem] theorem chg_cell (w : World) (b : Nat) (o : Obj) (os : Array Obj) (k n i : Nat) (hn : n < w.heap.size) (hb : ¬ n = b) : (chg w b o os k).cell? ⟨n, i, none⟩ = w.cell? ⟨n, i, none⟩ :=
  World.cell?_of_block (a := ⟨n, i, none⟩) (chg_heap w b o os k n hn hb)
@[go_sem] theorem chg_frozen (w : World) (b : Nat) (o : Obj) (os : Array Obj) (k n i : Nat) (hn : n < w.heap.size) (hb : ¬ n = b) : (chg w b o os k).frozen? ⟨n, i, none⟩ = w.frozen? ⟨n, i, none⟩ :=
  World.frozen?_of_block (a := ⟨n, i, none⟩) (chg_heap w b o os k n hn hb)
@[go_sem] theorem chg_setCell (w : World) (b : Nat) (o : Obj) (os : Array Obj) (k n i : Nat) (v : Value) (hn : n < w.heap.size) (hb : ¬ n = b) : (chg w b o os k).setCell ⟨n, i, none⟩ v = chg (w.setCell ⟨n, i, none⟩ v) b o os k := by
  unfold World.setCell chg
  congr 1
  apply Array.ext_getElem?
  intro j
  simp only [Array.getElem?_modify, Array.getElem?_append, Array.size_modify, Array.size_setIfInBounds, Array.getElem?_setIfInBounds]
  by_cases hj : j < w.heap.size
  · by_cases e1 : b = j
    · subst e1
      simp [hj, hb]
    · simp [hj, e1]
  · have : ¬ n = j := by omega
    simp [hj, this]
theorem chg_chg' (w : World) (b : Nat) (o o2 : Obj) (s1 s2 : Array Obj) (k1 k2 : Nat) (hb : b < w.heap.size) : chg (chg w b o s1 k1) b o2 s2 k2 = chg w b o2 (s1 ++ s2) k2 := by
  unfold chg
  congr 1
  simp only
  rw [← Array.append_assoc]
  congr 1
  apply Array.ext_getElem?
  intro j
  simp only [Array.getElem?_append, Array.size_setIfInBounds, Array.getElem?_setIfInBounds, Array.size_append]
  by_cases e : b = j
  · subst e
    simp [hb]
    omega
  · simp [e]
/-- all that is said of the world when the call began -/
def SF (w : World) (b : Nat) (Y : Except Er (List Tok)) (A : World) : Prop := Fr (fun i => i = b) w A ∧ Sr A b Y
theorem SF.eqv {w : World} {b : Nat} {Y : Except Er (List Tok)} {A B : World} (h : SF w b Y A) (hb : b < w.heap.size) (e : ∀ i, i < w.heap.size → B.heap[i]? = A.heap[i]?) (hs : w.heap.size ≤ B.heap.size) (h1 : B.os = A.os) (h2 : B.tape = A.tape) (h3 : B.output = A.output) : SF w b Y B :=
  ⟨⟨h1.trans h.1.os, h2.trans h.1.tape, h3.trans h.1.output, hs, fun i hi hn => (e i hi).trans (h.1.block i hi hn), fun i hi => (shp_of (e i hi)).trans (h.1.shape i hi), fun i hi k => one1_of (e i hi) (h.1.ones i hi k)⟩, h.2.far (fun i hi => e i (by omega))⟩
theorem SF.keep {w : World} {b : Nat} {Y : Except Er (List Tok)} {A B : World} (h : SF w b Y A) (k : Keep A B) : SF w b Y B := ⟨h.1.trans (.keep k), h.2.keep k⟩
theorem SF.step {w : World} {b : Nat} {X : Rs} {A B : World} {p : Sp} {ds : List D} (h : SF w b (toks X) A) (k : Did p ds b X A B) : SF w b (toks (bnd X p)) B := ⟨h.1.trans k.1, k.2.1⟩
/-- the boxes that were laid since may hold anything -/
theorem SF.box1 {w : World} {b : Nat} {Y : Except Er (List Tok)} {o1 o1' o : Obj} {os : Array Obj} {k : Nat} (hb : b < w.heap.size) (h : SF w b Y (chg (w.alloc o1) b o os k)) : SF w b Y (chg (w.alloc o1') b o os k) := by
  refine h.eqv hb (fun i hi => ?_) (by simp only [chg_size, World.size_alloc]; omega) rfl rfl rfl
  by_cases e : i = b
  · subst e; rw [chg_at _ _ _ _ _ (by rw [World.size_alloc]; omega), chg_at _ _ _ _ _ (by rw [World.size_alloc]; omega)]
  · rw [chg_heap _ _ _ _ _ _ (by rw [World.size_alloc]; omega) e, chg_heap _ _ _ _ _ _ (by rw [World.size_alloc]; omega) e, heap_alloc_old _ _ hi, heap_alloc_old _ _ hi]
theorem SF.box2 {w : World} {b : Nat} {Y : Except Er (List Tok)} {o1 o1' o2 o2' o : Obj} {os : Array Obj} {k : Nat} (hb : b < w.heap.size) (h : SF w b Y (chg ((w.alloc o1).alloc o2) b o os k)) : SF w b Y (chg ((w.alloc o1').alloc o2') b o os k) := by
  refine h.eqv hb (fun i hi => ?_) (by simp only [chg_size, World.size_alloc]; omega) rfl rfl rfl
  by_cases e : i = b
  · subst e; rw [chg_at _ _ _ _ _ (by rw [World.size_alloc, World.size_alloc]; omega), chg_at _ _ _ _ _ (by rw [World.size_alloc, World.size_alloc]; omega)]
  · rw [chg_heap _ _ _ _ _ _ (by rw [World.size_alloc, World.size_alloc]; omega) e, chg_heap _ _ _ _ _ _ (by rw [World.size_alloc, World.size_alloc]; omega) e, heap_alloc_old _ _ (by rw [World.size_alloc]; omega), heap_alloc_old _ _ hi, heap_alloc_old _ _ (by rw [World.size_alloc]; omega), heap_alloc_old _ _ hi]
theorem chg_box1 {w : World} {b : Nat} (hb : b < w.heap.size) {o1 o o2 : Obj} {s1 s2 : Array Obj} {k1 k2 : Nat} : chg (chg (w.alloc o1) b o s1 k1) b o2 s2 k2 = chg (w.alloc o1) b o2 (s1 ++ s2) k2 := chg_chg' _ _ _ _ _ _ _ _ (by rw [World.size_alloc]; omega)
theorem chg_box2 {w : World} {b : Nat} (hb : b < w.heap.size) {o1 o3 o o2 : Obj} {s1 s2 : Array Obj} {k1 k2 : Nat} : chg (chg ((w.alloc o1).alloc o3) b o s1 k1) b o2 s2 k2 = chg ((w.alloc o1).alloc o3) b o2 (s1 ++ s2) k2 := chg_chg' _ _ _ _ _ _ _ _ (by rw [World.size_alloc, World.size_alloc]; omega)
@[go_sem] theorem alt1 (a : Nat) : a < a + 1 := by omega
@[go_sem] theorem alt2 (a : Nat) : a < a + 1 + 1 := by omega
end Q
end Go.Proofs.Ytjincjlalopbfaa
