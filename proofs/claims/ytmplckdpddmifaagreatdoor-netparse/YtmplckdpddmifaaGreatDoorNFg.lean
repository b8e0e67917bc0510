/- Package net: fractions. -/
import Derived.Test.YtmplckdpddmifaaGreatDoorNMs
import Derived.Test.YtmplckdpddmifaaGreatDoorTk
namespace Go.Proofs.YtmplckdpddmifaaGreatDoor
open Go.RowKit
attribute [local go_sem ↓] Go.wp_at_zero Go.wp_at_succ
set_option linter.unusedVariables false
set_option linter.unusedSimpArgs false
set_option maxRecDepth 10000
set_option maxHeartbeats 4000000 in
theorem frac_core (E : Env) (g1 g2 b o m : Nat) (c rest : List D) (w : World) (r : List Tok) (h1 : w.cell? ⟨g1, 0, none⟩ = some (.pointer (some ⟨E.rb, 0, none⟩))) (h2 : w.cell? ⟨g2, 0, none⟩ = some (.pointer (some ⟨b, o, none⟩)))
    (N1 : Hid (¬ E.S g1)) (N2 : Hid (¬ E.S g2)) (A0 : Hid (E.A m = (b, o))) (A1 : Hid (E.A (m + 1) = (b, o + 1))) (HS : Hid (∀ b, E.S b → b < w.heap.size)) (hcm : Hid (c.length = m)) (HR : Hid (Rdr E w r)) (HL : Hid (Cel E w (c ++ [dI 0, dI 0] ++ rest))) :
    Calls Tryz.prog 66 #[.pointer (some ⟨g1, 0, none⟩), .pointer (some ⟨g2, 0, none⟩)] w (Post E w rest (m + 2) (pFrac c r)) := by
  have HK0 := hide (Keep.refl w).drew
  have HS0 : Hid (∀ b, E.S b → b < w.drew.heap.size) := HS
  have HLo0 : Hid True := trivial
  have H1 := hide h1
  have H2 := hide h2
  clear h1 h2
  go_enter Tryz.func66, Tryz.ntmps66
  go_wp2_with fail
  refine wp_region_held_drew (S := fun w' => w'.cell? ⟨g1, 0, none⟩ = some (.pointer (some ⟨E.rb, 0, none⟩)) ∧ w'.cell? ⟨g2, 0, none⟩ = some (.pointer (some ⟨b, o, none⟩))) (by kernel_rfl) (by exact ⟨uq H1, uq H2⟩) (fun hHeld => ?_)
  refine tkk 0 3 hHeld ?_; try simp only [Act.put, Ya, Yb, Yc]
  refine tkk 1 4 hHeld ?_; try simp only [Act.put, Ya, Yb, Yc]
  refine tkk 2 5 hHeld ?_; try simp only [Act.put, Ya, Yb, Yc]
  refine tkk 3 6 hHeld ?_; try simp only [Act.put, Ya, Yb, Yc]
  refine tkk 5 8 hHeld ?_; try simp only [Act.put, Ya, Yb, Yc]
  refine tkk 7 10 hHeld ?_; try simp only [Act.put, Ya, Yb, Yc]
  refine tkk 8 11 hHeld ?_; try simp only [Act.put, Ya, Yb, Yc]
  refine tkk 9 12 hHeld ?_; try simp only [Act.put, Ya, Yb, Yc]
  refine tkk 10 13 hHeld ?_; try simp only [Act.put, Ya, Yb, Yc]
  refine rdyy 4 (fun K hK => ?_)
  go_simp
  clear hHeld
  (refine (num_any (E := E) (dI 0) (m) _ _ (uq A0) _ (uq HS0)).mono ?_; rintro e w1 ⟨f1, x1, y1, rfl, hk, hd⟩; have HS1 := hide (hs_keep (uq HS0) hk); have HK1 := hide ((uq HK0).trans hk); have HC1 : Hid (Chain E w1 (m) [(.func (.func f1) x1 y1, [dI 0], pNum)]) := hide ⟨hd, trivial⟩; clear hk hd)
  try go_wp2_with fail
  refine hK.out _ _ ?_ (fun hHeld => ?_)
  · exact ⟨(fun k : Keep w _ => k.cell' (uq H1)) (uq HK1), (fun k : Keep w _ => k.cell' (uq H2)) (uq HK1)⟩
  clear hK K
  try simp only [Act.put, Ya, Yb, Yc]
  refine rdyy 6 (fun K hK => ?_)
  go_simp
  clear hHeld
  (refine (the_any (E := E) [47] (by decide) (m + 1) _ (uq HS1)).mono ?_; rintro e w2 ⟨f2, x2, y2, rfl, hk, hd⟩; have HS2 := hide (hs_keep (uq HS1) hk); have HK2 := hide ((uq HK1).trans hk); have HC2 : Hid (Chain E w2 (m) [(.func (.func f1) x1 y1, [dI 0], pNum), (.func (.func f2) x2 y2, [], pThe [47])]) := hide (chain_snoc (uq HC1) hk hd); clear hk hd)
  try go_wp2_with fail
  refine hK.out _ _ ?_ (fun hHeld => ?_)
  · exact ⟨(fun k : Keep w _ => k.cell' (uq H1)) (uq HK2), (fun k : Keep w _ => k.cell' (uq H2)) (uq HK2)⟩
  clear hK K
  try simp only [Act.put, Ya, Yb, Yc]
  refine rdyy 11 (fun K hK => ?_)
  go_simp
  clear hHeld
  (refine (num_any (E := E) (dI 0) (m + 1) _ _ (uq A1) _ (uq HS2)).mono ?_; rintro e w3 ⟨f3, x3, y3, rfl, hk, hd⟩; have HS3 := hide (hs_keep (uq HS2) hk); have HK3 := hide ((uq HK2).trans hk); have HC3 : Hid (Chain E w3 (m) [(.func (.func f1) x1 y1, [dI 0], pNum), (.func (.func f2) x2 y2, [], pThe [47]), (.func (.func f3) x3 y3, [dI 0], pNum)]) := hide (chain_snoc (uq HC2) hk hd); clear hk hd)
  try go_wp2_with fail
  refine hK.out _ _ ?_ (fun hHeld => ?_)
  · exact ⟨(fun k : Keep w _ => k.cell' (uq H1)) (uq HK3), (fun k : Keep w _ => k.cell' (uq H2)) (uq HK3)⟩
  clear hK K
  try simp only [Act.put, Ya, Yb, Yc]
  refine rdyy 12 (fun K hK => ?_)
  go_simp
  clear hHeld
  refine hK.out _ _ ?_ (fun hHeld => ?_)
  · exact ⟨(fun k : Keep w _ => k.cell' (uq H1)) ((uq HK3).alloc _), (fun k : Keep w _ => k.cell' (uq H2)) ((uq HK3).alloc _)⟩
  clear hK K
  try simp only [Act.put, Ya, Yb, Yc]
  refine rdyy 13 (fun K hK => ?_)
  go_simp
  clear hHeld
  (refine (order_any (E := E) (m := m) (ss := [(.func (.func f1) x1 y1, [dI 0], pNum), (.func (.func f2) x2 y2, [], pThe [47]), (.func (.func f3) x3 y3, [dI 0], pNum)]) (c := c) (rest := rest) (r := r) (by simp) (chain_keep ((Keep.refl _).alloc _) (uq HC3)) (new_steps _ _ _) (fun h => Nat.lt_irrefl _ ((uq HS3) _ h)) (uq hcm) ((uq HR).keep ((uq HK3).alloc _)) ((uq HL).keep ((uq HK3).alloc _))).mono ?_; rintro e wz hp; obtain ⟨vz, rfl⟩ := post_ret hp; have HP := hide hp; have HKz := hide ((uq HK3).alloc (.cells #[.func (.func f1) x1 y1, .func (.func f2) x2 y2, .func (.func f3) x3 y3] 121)); clear hp)
  try go_wp2_with fail
  refine hK.out _ _ ?_ (fun hHeld => ?_)
  · exact ⟨(uq HP).1.cell ((uq HKz).cell' (uq H1)) (uq N1), (uq HP).1.cell ((uq HKz).cell' (uq H2)) (uq N2)⟩
  clear hK K
  try simp only [Act.put, Ya, Yb, Yc]
  refine tkk 14 2 hHeld ?_; try simp only [Act.put, Ya, Yb, Yc]
  refine wpAnyH_done (by kernel_rfl) ?_ _
  clear hHeld
  go_wp2_with fail
  go_ret
  exact post_pre (.keep (uq HKz)) (uq HP)
theorem Rdr.hs {E : Env} {w0 w : World} (hS : ∀ b, E.S b → b < w0.heap.size) (hf : Fr E.S w0 w) : ∀ b, E.S b → b < w.heap.size := fun b hb => Nat.lt_of_lt_of_le (hS b hb) hf.size
theorem frac_does {E : Env} {w0 : World} {g1 g2 m b o : Nat} (hA : E.A m = (b, o)) (hA1 : E.A (m + 1) = (b, o + 1)) (hS : ∀ b, E.S b → b < w0.heap.size) (b1 : Bx E w0 g1 (.pointer (some ⟨E.rb, 0, none⟩))) (b2 : Bx E w0 g2 (.pointer (some ⟨b, o, none⟩))) :
    Does E w0 (.func (.func 66) #[] #[.pointer (some ⟨g1, 0, none⟩), .pointer (some ⟨g2, 0, none⟩)]) m [dI 0, dI 0] pFrac :=
  ⟨_, _, _, rfl, fun xs w => by kernel_rfl, fun w c rest r hf hc hr hl => frac_core E g1 g2 b o m c rest w r (b1.fr hf).1 (b2.fr hf).1 (hide b1.2) (hide b2.2) (hide hA) (hide hA1) (hide (Rdr.hs hS hf)) (hide hc) (hide hr) (hide hl)⟩
set_option maxHeartbeats 1000000 in
theorem frac_make (a b : Option Addr) (w : World) : Calls Tryz.prog 50 #[.pointer a, .pointer b] w fun e w' => e = .returned (.func (.func 66) #[] #[.pointer (some ⟨w.heap.size, 0, none⟩), .pointer (some ⟨w.heap.size + 1, 0, none⟩)]) ∧ w' = (w.alloc (.cells #[.pointer a] 81)).alloc (.cells #[.pointer b] 126) := by
  go_enter Tryz.func50, Tryz.ntmps50
  go_wp2
  go_ret
  exact ⟨rfl, rfl⟩
theorem frac_any {E : Env} (m b o : Nat) (hA : E.A m = (b, o)) (hA1 : E.A (m + 1) = (b, o + 1)) (w : World) (hS : ∀ b, E.S b → b < w.heap.size) : Calls Tryz.prog 50 #[.pointer (some ⟨E.rb, 0, none⟩), .pointer (some ⟨b, o, none⟩)] w (Mk E m [dI 0, dI 0] pFrac w) := by
  refine (frac_make _ _ w).mono ?_
  rintro e w' ⟨rfl, rfl⟩
  obtain ⟨b1, b2⟩ := two_boxes E w _ _ _ _ hS
  exact ⟨_, _, _, rfl, two_keep _ _ _, frac_does hA hA1 (hs_keep hS (two_keep _ _ _)) b1 b2⟩
end Go.Proofs.YtmplckdpddmifaaGreatDoor
namespace Go.Proofs.YtmplckdpddmifaaGreatDoor
open Go.RowKit
attribute [local go_sem ↓] Go.wp_at_zero Go.wp_at_succ
set_option linter.unusedVariables false
set_option linter.unusedSimpArgs false
set_option maxRecDepth 10000
/-- a box more: its block turns too, and it stands ahead of part m -/
def Env.more (E : Env) (q m : Nat) : Env := { E with S := fun b => E.S b ∨ b = q, A := fun j => if j < m then E.A j else if j = m then (q, 0) else E.A (j - 1) }
theorem more_lt (E : Env) (q m j : Nat) (h : j < m) : (E.more q m).A j = E.A j := by simp [Env.more, h]
theorem more_eq (E : Env) (q m : Nat) : (E.more q m).A m = (q, 0) := by simp [Env.more]
theorem more_gt (E : Env) (q m j : Nat) (h : m ≤ j) : (E.more q m).A (j + 1) = E.A j := by simp only [Env.more]; rw [if_neg (by omega), if_neg (by omega)]; rfl
theorem Rdr.more {E : Env} {w : World} {r : List Tok} (h : Rdr E w r) (m q : Nat) (hq : E.ta.block < q) : Rdr (E.more q m) w r := ⟨h.1, fun x => x.elim h.2.1 (fun e => absurd e (Nat.ne_of_lt hq)), .inl h.2.2⟩
theorem Rdr.less {E : Env} {w w0 : World} {r r0 : List Tok} {m q : Nat} (h0 : Rdr E w0 r0) (h : Rdr (E.more q m) w r) : Rdr E w r := ⟨h.1, h0.2⟩
theorem app_at (c cs : List D) (i : Nat) : (c ++ cs)[c.length + i]? = cs[i]? := by rw [List.getElem?_append_right (by omega)]; congr 1; omega
theorem app_at1 (c cs : List D) (d : D) (i : Nat) : (c ++ [d] ++ cs)[c.length + (i + 1)]? = cs[i]? := by rw [List.getElem?_append_right (by simp)]; congr 1; simp only [List.length_append, List.length_cons, List.length_nil]; omega
theorem Cel.more {E : Env} {w : World} {c cs : List D} (h : Cel E w (c ++ cs)) (hS : ∀ b, E.S b → b < w.heap.size) (hrb : E.rb < w.heap.size) (d : D) (v : Value) (t : TypeId) (hd : ∀ w P, Rd w d P v) :
    Cel (E.more w.heap.size c.length) (w.alloc (.cells #[v] t)) (c ++ [d] ++ cs) := by
  have hk := (Keep.refl w).alloc (.cells #[v] t)
  have old : ∀ j e, (c ++ cs)[j]? = some e → ∃ u, (w.alloc (.cells #[v] t)).cell? ⟨(E.A j).1, (E.A j).2, none⟩ = some u ∧ Rd (w.alloc (.cells #[v] t)) e (E.more w.heap.size c.length).P u ∧ (w.alloc (.cells #[v] t)).frozen? ⟨(E.A j).1, (E.A j).2, none⟩ = false ∧ (E.more w.heap.size c.length).S (E.A j).1 ∧ (E.A j).1 ≠ E.rb ∧ (E.A j).1 < w.heap.size := by
    intro j e he
    obtain ⟨u, h1, h2, h3, h4, h5⟩ := h.2 j e he
    refine ⟨u, hk.cell' h1, Rd.move e _ _ u h2 (fun i hi hl => ⟨hk.block i hl, ⟨fun x => ?_, hi.2⟩⟩), hk.frozen' h1 h3, .inl h4, h5, hS _ h4⟩
    rcases x with x | x
    · exact hi.1 x
    · omega
  refine ⟨fun i j hi hj e => ?_, fun j e he => ?_⟩
  · have lt : ∀ k, k < (c ++ cs).length → (E.A k).1 < w.heap.size := fun k hk => by
      obtain ⟨u, _, _, _, _, _, x⟩ := old k (c ++ cs)[k] (by simp [hk])
      exact x
    simp only [List.length_append, List.length_cons, List.length_nil] at hi hj lt
    have inj : ∀ i j, i < c.length + cs.length → j < c.length + cs.length → E.A i = E.A j → i = j := fun i j hi hj => h.1 i j (by simpa using hi) (by simpa using hj)
    rcases Nat.lt_trichotomy i c.length with hi1 | hi1 | hi1
    · rcases Nat.lt_trichotomy j c.length with hj1 | hj1 | hj1
      · rw [more_lt _ _ _ _ hi1, more_lt _ _ _ _ hj1] at e; exact inj i j (by omega) (by omega) e
      · subst hj1; rw [more_lt _ _ _ _ hi1, more_eq] at e; have := lt i (by omega); rw [e] at this; simp at this
      · obtain ⟨j', rfl⟩ : ∃ j', j = j' + 1 := ⟨j - 1, by omega⟩
        rw [more_lt _ _ _ _ hi1, more_gt _ _ _ _ (by omega)] at e; have := inj i j' (by omega) (by omega) e; omega
    · subst hi1
      rcases Nat.lt_trichotomy j c.length with hj1 | hj1 | hj1
      · rw [more_lt _ _ _ _ hj1, more_eq] at e; have := lt j (by omega); rw [← e] at this; simp at this
      · exact hj1.symm
      · obtain ⟨j', rfl⟩ : ∃ j', j = j' + 1 := ⟨j - 1, by omega⟩
        rw [more_eq, more_gt _ _ _ _ (by omega)] at e; have := lt j' (by omega); rw [← e] at this; simp at this
    · obtain ⟨i', rfl⟩ : ∃ i', i = i' + 1 := ⟨i - 1, by omega⟩
      rcases Nat.lt_trichotomy j c.length with hj1 | hj1 | hj1
      · rw [more_lt _ _ _ _ hj1, more_gt _ _ _ _ (by omega)] at e; have := inj i' j (by omega) (by omega) e; omega
      · subst hj1; rw [more_eq, more_gt _ _ _ _ (by omega)] at e; have := lt i' (by omega); rw [e] at this; simp at this
      · obtain ⟨j', rfl⟩ : ∃ j', j = j' + 1 := ⟨j - 1, by omega⟩
        rw [more_gt _ _ _ _ (by omega), more_gt _ _ _ _ (by omega)] at e; have := inj i' j' (by omega) (by omega) e; omega
  · rcases Nat.lt_trichotomy j c.length with hj1 | hj1 | hj1
    · rw [more_lt _ _ _ _ hj1]
      obtain ⟨u, h1, h2, h3, h4, h5, _⟩ := old j e (by rw [← he]; simp [List.getElem?_append, hj1, show j < c.length + 1 by omega])
      exact ⟨u, h1, h2, h3, h4, h5⟩
    · subst hj1
      rw [more_eq]
      rw [show (c ++ [d] ++ cs)[c.length]? = some d by simp] at he
      injection he with he
      subst he
      exact ⟨v, by simp [go_sem], hd _ _, by simp [go_sem], .inr rfl, fun e => by have : w.heap.size = E.rb := e; omega⟩
    · obtain ⟨j', rfl⟩ : ∃ j', j = c.length + (j' + 1) := ⟨j - c.length - 1, by omega⟩
      rw [show c.length + (j' + 1) = c.length + j' + 1 by omega, more_gt _ _ _ _ (by omega)]
      obtain ⟨u, h1, h2, h3, h4, h5, _⟩ := old (c.length + j') e (by rw [← he, app_at, app_at1])
      exact ⟨u, h1, h2, h3, h4, h5⟩
/-- the box goes -/
theorem Cel.less {E : Env} {w w0 : World} {q : Nat} {c cs cs0 : List D} {d : D} (h : Cel (E.more q c.length) w (c ++ [d] ++ cs)) (h0 : Cel E w0 cs0) (hl : cs0.length = c.length + cs.length) : Cel E w (c ++ cs) := by
  refine ⟨by have := h0.1; rw [hl] at this; simpa using this, fun j e he => ?_⟩
  have s0 : ∃ e0, cs0[j]? = some e0 := by
    have : j < (c ++ cs).length := by
      rcases Nat.lt_or_ge j (c ++ cs).length with h | h
      · exact h
      · rw [List.getElem?_eq_none h] at he; cases he
    exact ⟨cs0[j]'(by rw [hl]; simpa using this), List.getElem?_eq_getElem _⟩
  obtain ⟨e0, he0⟩ := s0
  obtain ⟨_, _, _, _, k4, k5⟩ := h0.2 j e0 he0
  have fin : ∀ u, Rd w e (E.more q c.length).P u → Rd w e E.P u := fun u hu => Rd.move e _ _ u hu (fun i hi _ => ⟨rfl, fun x => hi.1 (.inl x), hi.2⟩)
  rcases Nat.lt_or_ge j c.length with hj | hj
  · obtain ⟨u, h1, h2, h3, h4, h5⟩ := h.2 j e (by rw [← he]; simp [List.getElem?_append, hj, show j < c.length + 1 by omega])
    rw [more_lt _ _ _ _ hj] at h1 h3
    exact ⟨u, h1, fin u h2, h3, k4, k5⟩
  · obtain ⟨i, rfl⟩ : ∃ i, j = c.length + i := ⟨j - c.length, by omega⟩
    obtain ⟨u, h1, h2, h3, h4, h5⟩ := h.2 (c.length + i + 1) e (by rw [← he, show c.length + i + 1 = c.length + (i + 1) by omega, app_at, app_at1])
    rw [more_gt _ _ _ _ (by omega)] at h1 h3
    exact ⟨u, h1, fin u h2, h3, k4, k5⟩
theorem post_eq {E : Env} {w : World} {rest : List D} {n : Nat} {X Y : Rs} {e : Ending} {w' : World} (hx : X = Y) (h : Post E w rest n X e w') : Post E w rest n Y e w' := hx ▸ h
theorem post_keep {E : Env} {w : World} {rest : List D} {n : Nat} {X : Rs} {e : Ending} {w' w2 : World} (h : Post E w rest n X e w') (k : Keep w' w2) : Post E w rest n X e w2 := by
  refine ⟨h.1.trans (.keep k), ?_⟩
  obtain ⟨_, h⟩ := h
  cases X with
  | error x => exact h
  | ok q => exact ⟨h.1, h.2.1, h.2.2.1.keep k, h.2.2.2.keep k⟩
/-- what the steps of a grade come to -/
theorem grade_sq (c : List D) (l : List Tok) (k : Nat) (hw : Wf l) : (∃ x, sq [pMay [45], pNum] c (l.drop k) = .error x ∧ pGrade c (l.drop k) = .error x) ∨ ∃ b n r', sq [pMay [45], pNum] c (l.drop k) = .ok (c ++ [dB b] ++ [dI n], r') ∧ pGrade c (l.drop k) = .ok (c ++ [dI (if b then -n else n)], r') ∧ 0 ≤ n ∧ n ≤ 999999999999999999 := by
  have hm : ∀ t ∈ l.drop k, 0 ≤ t.n ∧ t.n ≤ 999999999999999999 := fun t ht => hw.2.2 t (List.mem_of_mem_drop ht)
  cases hr : l.drop k with
  | nil => left; exact ⟨(50, 0), by simp [sq, pMay, bad], by simp [pGrade, sq, pMay, bad]⟩
  | cons t r =>
    rw [hr] at hm
    by_cases h : t.s = [45]
    · cases r with
      | nil => left; exact ⟨(50, 0), by simp [sq, pMay, bad, h, pNum], by simp [pGrade, sq, pMay, bad, h, pNum]⟩
      | cons t2 r2 =>
        by_cases h2 : t2.k = 2
        · right; exact ⟨true, t2.n, r2, by simp [sq, pMay, bad, h, pNum, h2], by simp [pGrade, sq, pMay, bad, h, pNum, h2, dB, dI], hm t2 (by simp)⟩
        · left; exact ⟨(50, t2.p), by simp [sq, pMay, bad, h, pNum, h2], by simp [pGrade, sq, pMay, bad, h, pNum, h2]⟩
    · by_cases h2 : t.k = 2
      · right; exact ⟨false, t.n, r, by simp [sq, pMay, bad, h, pNum, h2], by simp [pGrade, sq, pMay, bad, h, pNum, h2, dB, dI], hm t (by simp)⟩
      · left; exact ⟨(50, t.p), by simp [sq, pMay, bad, h, pNum, h2], by simp [pGrade, sq, pMay, bad, h, pNum, h2]⟩
set_option maxHeartbeats 4000000 in
theorem grade_err (E : Env) (g1 g2 b o m : Nat) (c rest : List D) (w : World) (r : List Tok) (h1 : w.cell? ⟨g1, 0, none⟩ = some (.pointer (some ⟨E.rb, 0, none⟩))) (h2 : w.cell? ⟨g2, 0, none⟩ = some (.pointer (some ⟨b, o, none⟩)))
    (N1 : Hid (¬ E.S g1)) (N2 : Hid (¬ E.S g2)) (A0 : Hid (E.A m = (b, o))) (HS : Hid (∀ b, E.S b → b < w.heap.size)) (hcm : Hid (c.length = m)) (HR : Hid (Rdr E w r)) (HL : Hid (Cel E w (c ++ [dI 0] ++ rest))) (x : Er) (HX : Hid (sq [pMay [45], pNum] c r = .error x)) :
    Calls Tryz.prog 106 #[.pointer (some ⟨g1, 0, none⟩), .pointer (some ⟨g2, 0, none⟩)] w (Post E w rest (m + 1) (.error x)) := by
  have H1 := hide h1
  have H2 := hide h2
  have HK0 : Hid (Keep w (w.alloc (.cells #[.bool false] 4)).drew) := hide ((Keep.refl w).alloc _).drew
  have HQ1 : Hid (¬ (E.more w.heap.size m).S g1) := hide (fun x => x.elim (uq N1) (fun e => by have := cell_lt (uq H1); simp at this; omega))
  have HQ2 : Hid (¬ (E.more w.heap.size m).S g2) := hide (fun x => x.elim (uq N2) (fun e => by have := cell_lt (uq H2); simp at this; omega))
  have HS0 : Hid (∀ b, (E.more w.heap.size m).S b → b < (w.alloc (.cells #[.bool false] 4)).drew.heap.size) := hide (fun b hb => by
    show b < (w.alloc (.cells #[.bool false] 4)).heap.size
    rw [World.size_alloc]
    rcases hb with hb | hb
    · have := (uq HS) b hb; omega
    · omega)
  have HRa : Hid (Rdr (E.more w.heap.size m) (w.alloc (.cells #[.bool false] 4)) r) := by
    obtain ⟨k, _, _, _, _, _, h7, _⟩ := (uq HR).1
    exact ((uq HR).keep ((Keep.refl w).alloc _)).more m w.heap.size h7
  have HLa : Hid (Cel (E.more w.heap.size m) (w.alloc (.cells #[.bool false] 4)) (c ++ [dB false, dI 0] ++ rest)) := by
    have hx : Cel E w (c ++ ([dI 0] ++ rest)) := by have := uq HL; rwa [List.append_assoc] at this
    have := hx.more (uq HS) ((uq HS) _ (uq HR).2.2) (dB false) (.bool false) 4 (dB_rd _)
    rw [uq hcm] at this
    show Cel _ _ _
    simpa [List.append_assoc] using this
  have B0 : Hid ((E.more w.heap.size m).A m = (w.heap.size, 0)) := more_eq _ _ _
  have B1 : Hid ((E.more w.heap.size m).A (m + 1) = (b, o)) := by unfold Hid; rw [more_gt _ _ _ _ (Nat.le_refl _)]; exact uq A0
  have HBx : Hid ((w.alloc (.cells #[.bool false] 4)).cell? ⟨g1, 0, none⟩ = some (.pointer (some ⟨E.rb, 0, none⟩)) ∧ (w.alloc (.cells #[.bool false] 4)).cell? ⟨g2, 0, none⟩ = some (.pointer (some ⟨b, o, none⟩))) := ⟨((Keep.refl w).alloc _).cell' (uq H1), ((Keep.refl w).alloc _).cell' (uq H2)⟩
  clear h1 h2
  go_enter Tryz.func106, Tryz.ntmps106
  go_wp2_with fail
  refine wp_region_held_drew (S := fun w' => w'.cell? ⟨g1, 0, none⟩ = some (.pointer (some ⟨E.rb, 0, none⟩)) ∧ w'.cell? ⟨g2, 0, none⟩ = some (.pointer (some ⟨b, o, none⟩))) (by kernel_rfl) (by exact uq HBx) (fun hHeld => ?_)
  refine tkk 0 5 hHeld ?_; try simp only [Act.put, Ya, Yb, Yc]
  refine tkk 2 7 hHeld ?_; try simp only [Act.put, Ya, Yb, Yc]
  refine tkk 3 8 hHeld ?_; try simp only [Act.put, Ya, Yb, Yc]
  refine rdyy 1 (fun K hK => ?_)
  go_simp
  clear hHeld
  (refine (may_any (E := E.more w.heap.size m) [45] (by decide) (dB false) m _ _ (uq B0) _ (uq HS0)).mono ?_; rintro e w1 ⟨f1, x1, y1, rfl, hk, hd⟩; have HS1 := hide (hs_keep (uq HS0) hk); have HK1 := hide ((uq HK0).trans hk); have HJ1 : Hid (Keep (w.alloc (.cells #[.bool false] 4)) w1) := hide (Keep.trans (Keep.refl _).drew hk); have HC1 : Hid (Chain (E.more w.heap.size m) w1 m [(.func (.func f1) x1 y1, [dB false], pMay [45])]) := hide ⟨hd, trivial⟩; clear hk hd)
  try go_wp2_with fail
  refine hK.out _ _ ?_ (fun hHeld => ?_)
  · exact ⟨(uq HK1).cell' (uq H1), (uq HK1).cell' (uq H2)⟩
  clear hK K
  try simp only [Act.put, Ya, Yb, Yc]
  refine rdyy 4 (fun K hK => ?_)
  go_simp
  clear hHeld
  (refine (num_any (E := E.more w.heap.size m) (dI 0) (m + 1) _ _ (uq B1) _ (uq HS1)).mono ?_; rintro e w2 ⟨f2, x2, y2, rfl, hk, hd⟩; have HS2 := hide (hs_keep (uq HS1) hk); have HK2 := hide ((uq HK1).trans hk); have HJ2 := hide ((uq HJ1).trans hk); have HC2 : Hid (Chain (E.more w.heap.size m) w2 m [(.func (.func f1) x1 y1, [dB false], pMay [45]), (.func (.func f2) x2 y2, [dI 0], pNum)]) := hide (chain_snoc (uq HC1) hk hd); clear hk hd)
  try go_wp2_with fail
  refine hK.out _ _ ?_ (fun hHeld => ?_)
  · exact ⟨(uq HK2).cell' (uq H1), (uq HK2).cell' (uq H2)⟩
  clear hK K
  try simp only [Act.put, Ya, Yb, Yc]
  refine rdyy 5 (fun K hK => ?_)
  go_simp
  clear hHeld
  refine hK.out _ _ ?_ (fun hHeld => ?_)
  · exact ⟨((uq HK2).alloc _).cell' (uq H1), ((uq HK2).alloc _).cell' (uq H2)⟩
  clear hK K
  try simp only [Act.put, Ya, Yb, Yc]
  refine rdyy 6 (fun K hK => ?_)
  go_simp
  clear hHeld
  (refine (order_any (E := E.more w.heap.size m) (m := m) (ss := [(.func (.func f1) x1 y1, [dB false], pMay [45]), (.func (.func f2) x2 y2, [dI 0], pNum)]) (c := c) (rest := rest) (r := r) (by simp) (chain_keep ((Keep.refl _).alloc _) (uq HC2)) (new_steps _ _ _) (fun h => Nat.lt_irrefl _ ((uq HS2) _ h)) (uq hcm) ((uq HRa).keep ((uq HJ2).alloc _)) ((uq HLa).keep ((uq HJ2).alloc _))).mono ?_; rintro e wz hp; have hp2 := post_eq (n := m + 2) (uq HX) hp; obtain rfl : e = .returned (flt x) := hp2.2; have HP := hide hp; have HP2 := hide hp2; have HKz := hide ((uq HK2).alloc (.cells #[.func (.func f1) x1 y1, .func (.func f2) x2 y2] 121)); clear hp hp2)
  try go_wp2_with fail
  refine hK.out _ _ ?_ (fun hHeld => ?_)
  · exact ⟨(uq HP).1.cell ((uq HKz).cell' (uq H1)) (uq HQ1), (uq HP).1.cell ((uq HKz).cell' (uq H2)) (uq HQ2)⟩
  clear hK K
  try simp only [Act.put, Ya, Yb, Yc]
  refine tkk 7 4 hHeld ?_; try simp only [Act.put, Ya, Yb, Yc]
  refine wpAnyH_done (by kernel_rfl) ?_ _
  clear hHeld
  have HFz : Hid (Fr E.S w wz) := hide (Fr.inner (.keep (uq HKz)) (uq HP2).1 (fun i hi hs => hs.elim id (fun e => absurd hi (by omega))))
  unfold flt
  go_wp2_with fail
  go_ret
  exact ⟨uq HFz, rfl⟩
set_option maxHeartbeats 4000000 in
theorem grade_pos (E : Env) (g1 g2 b o m : Nat) (c rest : List D) (w : World) (r : List Tok) (h1 : w.cell? ⟨g1, 0, none⟩ = some (.pointer (some ⟨E.rb, 0, none⟩))) (h2 : w.cell? ⟨g2, 0, none⟩ = some (.pointer (some ⟨b, o, none⟩)))
    (N1 : Hid (¬ E.S g1)) (N2 : Hid (¬ E.S g2)) (A0 : Hid (E.A m = (b, o))) (HS : Hid (∀ b, E.S b → b < w.heap.size)) (hcm : Hid (c.length = m)) (HR : Hid (Rdr E w r)) (HL : Hid (Cel E w (c ++ [dI 0] ++ rest))) (n : Int) (r' : List Tok) (HX : Hid (sq [pMay [45], pNum] c r = .ok (c ++ [dB false] ++ [dI n], r'))) :
    Calls Tryz.prog 106 #[.pointer (some ⟨g1, 0, none⟩), .pointer (some ⟨g2, 0, none⟩)] w (Post E w rest (m + 1) (.ok (c ++ [dI n], r'))) := by
  have H1 := hide h1
  have H2 := hide h2
  have HK0 : Hid (Keep w (w.alloc (.cells #[.bool false] 4)).drew) := hide ((Keep.refl w).alloc _).drew
  have HQ1 : Hid (¬ (E.more w.heap.size m).S g1) := hide (fun x => x.elim (uq N1) (fun e => by have := cell_lt (uq H1); simp at this; omega))
  have HQ2 : Hid (¬ (E.more w.heap.size m).S g2) := hide (fun x => x.elim (uq N2) (fun e => by have := cell_lt (uq H2); simp at this; omega))
  have HS0 : Hid (∀ b, (E.more w.heap.size m).S b → b < (w.alloc (.cells #[.bool false] 4)).drew.heap.size) := hide (fun b hb => by
    show b < (w.alloc (.cells #[.bool false] 4)).heap.size
    rw [World.size_alloc]
    rcases hb with hb | hb
    · have := (uq HS) b hb; omega
    · omega)
  have HRa : Hid (Rdr (E.more w.heap.size m) (w.alloc (.cells #[.bool false] 4)) r) := by
    obtain ⟨k, _, _, _, _, _, h7, _⟩ := (uq HR).1
    exact ((uq HR).keep ((Keep.refl w).alloc _)).more m w.heap.size h7
  have HLa : Hid (Cel (E.more w.heap.size m) (w.alloc (.cells #[.bool false] 4)) (c ++ [dB false, dI 0] ++ rest)) := by
    have hx : Cel E w (c ++ ([dI 0] ++ rest)) := by have := uq HL; rwa [List.append_assoc] at this
    have := hx.more (uq HS) ((uq HS) _ (uq HR).2.2) (dB false) (.bool false) 4 (dB_rd _)
    rw [uq hcm] at this
    show Cel _ _ _
    simpa [List.append_assoc] using this
  have B0 : Hid ((E.more w.heap.size m).A m = (w.heap.size, 0)) := more_eq _ _ _
  have B1 : Hid ((E.more w.heap.size m).A (m + 1) = (b, o)) := by unfold Hid; rw [more_gt _ _ _ _ (Nat.le_refl _)]; exact uq A0
  have HBx : Hid ((w.alloc (.cells #[.bool false] 4)).cell? ⟨g1, 0, none⟩ = some (.pointer (some ⟨E.rb, 0, none⟩)) ∧ (w.alloc (.cells #[.bool false] 4)).cell? ⟨g2, 0, none⟩ = some (.pointer (some ⟨b, o, none⟩))) := ⟨((Keep.refl w).alloc _).cell' (uq H1), ((Keep.refl w).alloc _).cell' (uq H2)⟩
  clear h1 h2
  go_enter Tryz.func106, Tryz.ntmps106
  go_wp2_with fail
  refine wp_region_held_drew (S := fun w' => w'.cell? ⟨g1, 0, none⟩ = some (.pointer (some ⟨E.rb, 0, none⟩)) ∧ w'.cell? ⟨g2, 0, none⟩ = some (.pointer (some ⟨b, o, none⟩))) (by kernel_rfl) (by exact uq HBx) (fun hHeld => ?_)
  refine tkk 0 5 hHeld ?_; try simp only [Act.put, Ya, Yb, Yc]
  refine tkk 2 7 hHeld ?_; try simp only [Act.put, Ya, Yb, Yc]
  refine tkk 3 8 hHeld ?_; try simp only [Act.put, Ya, Yb, Yc]
  refine rdyy 1 (fun K hK => ?_)
  go_simp
  clear hHeld
  (refine (may_any (E := E.more w.heap.size m) [45] (by decide) (dB false) m _ _ (uq B0) _ (uq HS0)).mono ?_; rintro e w1 ⟨f1, x1, y1, rfl, hk, hd⟩; have HS1 := hide (hs_keep (uq HS0) hk); have HK1 := hide ((uq HK0).trans hk); have HJ1 : Hid (Keep (w.alloc (.cells #[.bool false] 4)) w1) := hide (Keep.trans (Keep.refl _).drew hk); have HC1 : Hid (Chain (E.more w.heap.size m) w1 m [(.func (.func f1) x1 y1, [dB false], pMay [45])]) := hide ⟨hd, trivial⟩; clear hk hd)
  try go_wp2_with fail
  refine hK.out _ _ ?_ (fun hHeld => ?_)
  · exact ⟨(uq HK1).cell' (uq H1), (uq HK1).cell' (uq H2)⟩
  clear hK K
  try simp only [Act.put, Ya, Yb, Yc]
  refine rdyy 4 (fun K hK => ?_)
  go_simp
  clear hHeld
  (refine (num_any (E := E.more w.heap.size m) (dI 0) (m + 1) _ _ (uq B1) _ (uq HS1)).mono ?_; rintro e w2 ⟨f2, x2, y2, rfl, hk, hd⟩; have HS2 := hide (hs_keep (uq HS1) hk); have HK2 := hide ((uq HK1).trans hk); have HJ2 := hide ((uq HJ1).trans hk); have HC2 : Hid (Chain (E.more w.heap.size m) w2 m [(.func (.func f1) x1 y1, [dB false], pMay [45]), (.func (.func f2) x2 y2, [dI 0], pNum)]) := hide (chain_snoc (uq HC1) hk hd); clear hk hd)
  try go_wp2_with fail
  refine hK.out _ _ ?_ (fun hHeld => ?_)
  · exact ⟨(uq HK2).cell' (uq H1), (uq HK2).cell' (uq H2)⟩
  clear hK K
  try simp only [Act.put, Ya, Yb, Yc]
  refine rdyy 5 (fun K hK => ?_)
  go_simp
  clear hHeld
  refine hK.out _ _ ?_ (fun hHeld => ?_)
  · exact ⟨((uq HK2).alloc _).cell' (uq H1), ((uq HK2).alloc _).cell' (uq H2)⟩
  clear hK K
  try simp only [Act.put, Ya, Yb, Yc]
  refine rdyy 6 (fun K hK => ?_)
  go_simp
  clear hHeld
  (refine (order_any (E := E.more w.heap.size m) (m := m) (ss := [(.func (.func f1) x1 y1, [dB false], pMay [45]), (.func (.func f2) x2 y2, [dI 0], pNum)]) (c := c) (rest := rest) (r := r) (by simp) (chain_keep ((Keep.refl _).alloc _) (uq HC2)) (new_steps _ _ _) (fun h => Nat.lt_irrefl _ ((uq HS2) _ h)) (uq hcm) ((uq HRa).keep ((uq HJ2).alloc _)) ((uq HLa).keep ((uq HJ2).alloc _))).mono ?_; rintro e wz hp; have hp2 := post_eq (n := m + 2) (uq HX) hp; obtain rfl : e = .returned .nilIface := hp2.2.1; have HP := hide hp; have HP2 := hide hp2; have HKz := hide ((uq HK2).alloc (.cells #[.func (.func f1) x1 y1, .func (.func f2) x2 y2] 121)); clear hp hp2)
  try go_wp2_with fail
  refine hK.out _ _ ?_ (fun hHeld => ?_)
  · exact ⟨(uq HP).1.cell ((uq HKz).cell' (uq H1)) (uq HQ1), (uq HP).1.cell ((uq HKz).cell' (uq H2)) (uq HQ2)⟩
  clear hK K
  try simp only [Act.put, Ya, Yb, Yc]
  refine tkk 7 4 hHeld ?_; try simp only [Act.put, Ya, Yb, Yc]
  refine wpAnyH_done (by kernel_rfl) ?_ _
  clear hHeld
  have HFz : Hid (Fr E.S w wz) := hide (Fr.inner (.keep (uq HKz)) (uq HP2).1 (fun i hi hs => hs.elim id (fun e => absurd hi (by omega))))
  obtain ⟨_, _, _, hr2, hl2⟩ := uq HP2
  have d1 : wz.cell? ⟨w.heap.size, 0, none⟩ = some (.bool false) := by
    obtain ⟨u, k1, k2, _⟩ := hl2.2 m (dB false) (by rw [← uq hcm]; simp)
    rw [more_eq] at k1
    rw [k1, (show u = .bool false from k2.1)]
  have hl3 : Cel (E.more w.heap.size c.length) wz (c ++ [dB false] ++ ([dI n] ++ rest)) := by have := hl2; rw [← uq hcm] at this; simpa [List.append_assoc] using this
  have HLz : Hid (Cel E wz (c ++ [dI n] ++ rest)) := hide (by have := hl3.less (uq HL) (by simp); simpa [List.append_assoc] using this)
  have HRz : Hid (Rdr E wz r') := hide ((uq HR).less hr2)
  clear hr2 hl2 hl3
  go_wp2_with fail
  go_ret
  exact post_ok rfl (uq HFz) (by have := uq hcm; simp; omega) (uq HRz) (uq HLz)
set_option maxHeartbeats 4000000 in
theorem grade_neg (E : Env) (g1 g2 b o m : Nat) (c rest : List D) (w : World) (r : List Tok) (h1 : w.cell? ⟨g1, 0, none⟩ = some (.pointer (some ⟨E.rb, 0, none⟩))) (h2 : w.cell? ⟨g2, 0, none⟩ = some (.pointer (some ⟨b, o, none⟩)))
    (N1 : Hid (¬ E.S g1)) (N2 : Hid (¬ E.S g2)) (A0 : Hid (E.A m = (b, o))) (HS : Hid (∀ b, E.S b → b < w.heap.size)) (hcm : Hid (c.length = m)) (HR : Hid (Rdr E w r)) (HL : Hid (Cel E w (c ++ [dI 0] ++ rest))) (n : Int) (r' : List Tok) (hn : 0 ≤ n ∧ n ≤ 999999999999999999) (HX : Hid (sq [pMay [45], pNum] c r = .ok (c ++ [dB true] ++ [dI n], r'))) :
    Calls Tryz.prog 106 #[.pointer (some ⟨g1, 0, none⟩), .pointer (some ⟨g2, 0, none⟩)] w (Post E w rest (m + 1) (.ok (c ++ [dI (-n)], r'))) := by
  have H1 := hide h1
  have H2 := hide h2
  have HK0 : Hid (Keep w (w.alloc (.cells #[.bool false] 4)).drew) := hide ((Keep.refl w).alloc _).drew
  have HQ1 : Hid (¬ (E.more w.heap.size m).S g1) := hide (fun x => x.elim (uq N1) (fun e => by have := cell_lt (uq H1); simp at this; omega))
  have HQ2 : Hid (¬ (E.more w.heap.size m).S g2) := hide (fun x => x.elim (uq N2) (fun e => by have := cell_lt (uq H2); simp at this; omega))
  have HS0 : Hid (∀ b, (E.more w.heap.size m).S b → b < (w.alloc (.cells #[.bool false] 4)).drew.heap.size) := hide (fun b hb => by
    show b < (w.alloc (.cells #[.bool false] 4)).heap.size
    rw [World.size_alloc]
    rcases hb with hb | hb
    · have := (uq HS) b hb; omega
    · omega)
  have HRa : Hid (Rdr (E.more w.heap.size m) (w.alloc (.cells #[.bool false] 4)) r) := by
    obtain ⟨k, _, _, _, _, _, h7, _⟩ := (uq HR).1
    exact ((uq HR).keep ((Keep.refl w).alloc _)).more m w.heap.size h7
  have HLa : Hid (Cel (E.more w.heap.size m) (w.alloc (.cells #[.bool false] 4)) (c ++ [dB false, dI 0] ++ rest)) := by
    have hx : Cel E w (c ++ ([dI 0] ++ rest)) := by have := uq HL; rwa [List.append_assoc] at this
    have := hx.more (uq HS) ((uq HS) _ (uq HR).2.2) (dB false) (.bool false) 4 (dB_rd _)
    rw [uq hcm] at this
    show Cel _ _ _
    simpa [List.append_assoc] using this
  have B0 : Hid ((E.more w.heap.size m).A m = (w.heap.size, 0)) := more_eq _ _ _
  have B1 : Hid ((E.more w.heap.size m).A (m + 1) = (b, o)) := by unfold Hid; rw [more_gt _ _ _ _ (Nat.le_refl _)]; exact uq A0
  have HBx : Hid ((w.alloc (.cells #[.bool false] 4)).cell? ⟨g1, 0, none⟩ = some (.pointer (some ⟨E.rb, 0, none⟩)) ∧ (w.alloc (.cells #[.bool false] 4)).cell? ⟨g2, 0, none⟩ = some (.pointer (some ⟨b, o, none⟩))) := ⟨((Keep.refl w).alloc _).cell' (uq H1), ((Keep.refl w).alloc _).cell' (uq H2)⟩
  clear h1 h2
  go_enter Tryz.func106, Tryz.ntmps106
  go_wp2_with fail
  refine wp_region_held_drew (S := fun w' => w'.cell? ⟨g1, 0, none⟩ = some (.pointer (some ⟨E.rb, 0, none⟩)) ∧ w'.cell? ⟨g2, 0, none⟩ = some (.pointer (some ⟨b, o, none⟩))) (by kernel_rfl) (by exact uq HBx) (fun hHeld => ?_)
  refine tkk 0 5 hHeld ?_; try simp only [Act.put, Ya, Yb, Yc]
  refine tkk 2 7 hHeld ?_; try simp only [Act.put, Ya, Yb, Yc]
  refine tkk 3 8 hHeld ?_; try simp only [Act.put, Ya, Yb, Yc]
  refine rdyy 1 (fun K hK => ?_)
  go_simp
  clear hHeld
  (refine (may_any (E := E.more w.heap.size m) [45] (by decide) (dB false) m _ _ (uq B0) _ (uq HS0)).mono ?_; rintro e w1 ⟨f1, x1, y1, rfl, hk, hd⟩; have HS1 := hide (hs_keep (uq HS0) hk); have HK1 := hide ((uq HK0).trans hk); have HJ1 : Hid (Keep (w.alloc (.cells #[.bool false] 4)) w1) := hide (Keep.trans (Keep.refl _).drew hk); have HC1 : Hid (Chain (E.more w.heap.size m) w1 m [(.func (.func f1) x1 y1, [dB false], pMay [45])]) := hide ⟨hd, trivial⟩; clear hk hd)
  try go_wp2_with fail
  refine hK.out _ _ ?_ (fun hHeld => ?_)
  · exact ⟨(uq HK1).cell' (uq H1), (uq HK1).cell' (uq H2)⟩
  clear hK K
  try simp only [Act.put, Ya, Yb, Yc]
  refine rdyy 4 (fun K hK => ?_)
  go_simp
  clear hHeld
  (refine (num_any (E := E.more w.heap.size m) (dI 0) (m + 1) _ _ (uq B1) _ (uq HS1)).mono ?_; rintro e w2 ⟨f2, x2, y2, rfl, hk, hd⟩; have HS2 := hide (hs_keep (uq HS1) hk); have HK2 := hide ((uq HK1).trans hk); have HJ2 := hide ((uq HJ1).trans hk); have HC2 : Hid (Chain (E.more w.heap.size m) w2 m [(.func (.func f1) x1 y1, [dB false], pMay [45]), (.func (.func f2) x2 y2, [dI 0], pNum)]) := hide (chain_snoc (uq HC1) hk hd); clear hk hd)
  try go_wp2_with fail
  refine hK.out _ _ ?_ (fun hHeld => ?_)
  · exact ⟨(uq HK2).cell' (uq H1), (uq HK2).cell' (uq H2)⟩
  clear hK K
  try simp only [Act.put, Ya, Yb, Yc]
  refine rdyy 5 (fun K hK => ?_)
  go_simp
  clear hHeld
  refine hK.out _ _ ?_ (fun hHeld => ?_)
  · exact ⟨((uq HK2).alloc _).cell' (uq H1), ((uq HK2).alloc _).cell' (uq H2)⟩
  clear hK K
  try simp only [Act.put, Ya, Yb, Yc]
  refine rdyy 6 (fun K hK => ?_)
  go_simp
  clear hHeld
  (refine (order_any (E := E.more w.heap.size m) (m := m) (ss := [(.func (.func f1) x1 y1, [dB false], pMay [45]), (.func (.func f2) x2 y2, [dI 0], pNum)]) (c := c) (rest := rest) (r := r) (by simp) (chain_keep ((Keep.refl _).alloc _) (uq HC2)) (new_steps _ _ _) (fun h => Nat.lt_irrefl _ ((uq HS2) _ h)) (uq hcm) ((uq HRa).keep ((uq HJ2).alloc _)) ((uq HLa).keep ((uq HJ2).alloc _))).mono ?_; rintro e wz hp; have hp2 := post_eq (n := m + 2) (uq HX) hp; obtain rfl : e = .returned .nilIface := hp2.2.1; have HP := hide hp; have HP2 := hide hp2; have HKz := hide ((uq HK2).alloc (.cells #[.func (.func f1) x1 y1, .func (.func f2) x2 y2] 121)); clear hp hp2)
  try go_wp2_with fail
  refine hK.out _ _ ?_ (fun hHeld => ?_)
  · exact ⟨(uq HP).1.cell ((uq HKz).cell' (uq H1)) (uq HQ1), (uq HP).1.cell ((uq HKz).cell' (uq H2)) (uq HQ2)⟩
  clear hK K
  try simp only [Act.put, Ya, Yb, Yc]
  refine tkk 7 4 hHeld ?_; try simp only [Act.put, Ya, Yb, Yc]
  refine wpAnyH_done (by kernel_rfl) ?_ _
  clear hHeld
  have HFz : Hid (Fr E.S w wz) := hide (Fr.inner (.keep (uq HKz)) (uq HP2).1 (fun i hi hs => hs.elim id (fun e => absurd hi (by omega))))
  obtain ⟨_, _, _, hr2, hl2⟩ := uq HP2
  have d1 : wz.cell? ⟨w.heap.size, 0, none⟩ = some (.bool true) := by
    obtain ⟨u, k1, k2, _⟩ := hl2.2 m (dB true) (by rw [← uq hcm]; simp)
    rw [more_eq] at k1
    rw [k1, (show u = .bool true from k2.1)]
  have hl3 : Cel (E.more w.heap.size c.length) wz (c ++ [dB true] ++ ([dI n] ++ rest)) := by have := hl2; rw [← uq hcm] at this; simpa [List.append_assoc] using this
  have HLz : Hid (Cel E wz (c ++ [dI n] ++ rest)) := hide (by have := hl3.less (uq HL) (by simp); simpa [List.append_assoc] using this)
  have HRz : Hid (Rdr E wz r') := hide ((uq HR).less hr2)
  clear hr2 hl2 hl3
  have d2 : Hid (wz.cell? ⟨g2, 0, none⟩ = some (.pointer (some ⟨b, o, none⟩))) := hide ((uq HFz).cell (uq H2) (uq N2))
  have hx : wz.cell? ⟨b, o, none⟩ = some (.int .i64 n) ∧ wz.frozen? ⟨b, o, none⟩ = false ∧ E.S b ∧ b ≠ E.rb := by
    obtain ⟨u, k1, k2, k3, k4, k5⟩ := (uq HLz).2 m (dI n) (by rw [← uq hcm]; simp)
    rw [uq A0] at k1 k3 k4 k5
    exact ⟨by rw [k1, (show u = .int .i64 n from k2.1)], k3, k4, k5⟩
  obtain ⟨d3, d4, d5, d6⟩ := hx
  have D3 := hide d3
  have D5 := hide d5
  clear d3 d5
  have hn1 : wrap64 (-n) = -n := by unfold wrap64; omega
  have hn2 : IntKind.i64.wrap (-n) = -n := by rw [IntKind.wrap_i64]; omega
  go_wp2_with fail
  have n2 : g2 ≠ b := fun e => (uq N2) (e ▸ (uq D5))
  refine wp_region_held_drew (S := fun w' => w'.cell? ⟨g2, 0, none⟩ = some (.pointer (some ⟨b, o, none⟩))) (by kernel_rfl) (by exact uq d2) (fun hHeld => ?_)
  refine tkk 0 16 hHeld ?_; try simp only [Act.put, Ya, Yb, Yc]
  refine tkk 1 17 hHeld ?_; try simp only [Act.put, Ya, Yb, Yc]
  refine tkk 2 18 hHeld ?_; try simp only [Act.put, Ya, Yb, Yc]
  have d3 := uq D3
  refine rdyy 3 (fun K hK => ?_)
  go_simp
  clear hHeld
  refine hK.out _ _ ?_ (fun hHeld => ?_)
  · exact uq d2
  clear hK K
  try simp only [Act.put, Ya, Yb, Yc]
  refine tkk 4 20 hHeld ?_; try simp only [Act.put, Ya, Yb, Yc]
  refine tkk 5 21 hHeld ?_; try simp only [Act.put, Ya, Yb, Yc]
  refine rdyy 6 (fun K hK => ?_)
  go_simp
  clear hHeld
  refine hK.out _ _ ?_ (fun hHeld => ?_)
  · show (wz.setCell ⟨b, o, none⟩ _).cell? _ = _; rw [set_far _ _ _ _ (fun e => n2 e.symm)]; exact uq d2
  clear hK K
  try simp only [Act.put, Ya, Yb, Yc]
  refine wpAnyH_done (by kernel_rfl) ?_ _
  clear hHeld
  go_wp2_with fail
  go_ret
  have hq : E.ta.block ≠ b := fun e => (uq HR).2.1 (e ▸ uq D5)
  have hput := (uq HLz).put (.int .i64 (-n)) _ (dI (-n)) rfl (dI_rd _)
  rw [uq hcm, uq A0] at hput
  have hpost : Post E w rest (m + 1) (.ok (c ++ [dI (-n)], r')) (.returned .nilIface) (wz.setCell ⟨b, o, none⟩ (.int .i64 (-n))) := post_ok rfl ((uq HFz).set ⟨b, o, none⟩ _ (uq D5)) (by have := uq hcm; simp; omega) ⟨(uq HRz).1.far _ _ d6 (fun e => hq e.symm), (uq HR).2⟩ hput
  exact post_keep hpost (Keep.refl _).drew
theorem grade_does {E : Env} {w0 : World} {g1 g2 m b o : Nat} (hA : E.A m = (b, o)) (hS : ∀ b, E.S b → b < w0.heap.size) (b1 : Bx E w0 g1 (.pointer (some ⟨E.rb, 0, none⟩))) (b2 : Bx E w0 g2 (.pointer (some ⟨b, o, none⟩))) :
    Does E w0 (.func (.func 106) #[] #[.pointer (some ⟨g1, 0, none⟩), .pointer (some ⟨g2, 0, none⟩)]) m [dI 0] pGrade := by
  refine ⟨_, _, _, rfl, fun xs w => by kernel_rfl, fun w c rest r hf hc hr hl => ?_⟩
  obtain ⟨k, _, hk, _, _, _, _, _, hw⟩ := hr.1
  rcases grade_sq c E.l k hw with ⟨x, h1, h2⟩ | ⟨b', n, r', h1, h2, h3⟩
  · rw [← hk] at h1 h2
    rw [h2]
    exact grade_err E g1 g2 b o m c rest w r (b1.fr hf).1 (b2.fr hf).1 (hide b1.2) (hide b2.2) (hide hA) (hide (Rdr.hs hS hf)) (hide hc) (hide hr) (hide hl) x (hide h1)
  · rw [← hk] at h1 h2
    rw [h2]
    cases b' with
    | false => exact grade_pos E g1 g2 b o m c rest w r (b1.fr hf).1 (b2.fr hf).1 (hide b1.2) (hide b2.2) (hide hA) (hide (Rdr.hs hS hf)) (hide hc) (hide hr) (hide hl) n r' (hide h1)
    | true => exact grade_neg E g1 g2 b o m c rest w r (b1.fr hf).1 (b2.fr hf).1 (hide b1.2) (hide b2.2) (hide hA) (hide (Rdr.hs hS hf)) (hide hc) (hide hr) (hide hl) n r' h3 (hide h1)
set_option maxHeartbeats 1000000 in
theorem grade_make (a b : Option Addr) (w : World) : Calls Tryz.prog 94 #[.pointer a, .pointer b] w fun e w' => e = .returned (.func (.func 106) #[] #[.pointer (some ⟨w.heap.size, 0, none⟩), .pointer (some ⟨w.heap.size + 1, 0, none⟩)]) ∧ w' = (w.alloc (.cells #[.pointer a] 81)).alloc (.cells #[.pointer b] 124) := by
  go_enter Tryz.func94, Tryz.ntmps94
  go_wp2
  go_ret
  exact ⟨rfl, rfl⟩
theorem grade_any {E : Env} (m b o : Nat) (hA : E.A m = (b, o)) (w : World) (hS : ∀ b, E.S b → b < w.heap.size) : Calls Tryz.prog 94 #[.pointer (some ⟨E.rb, 0, none⟩), .pointer (some ⟨b, o, none⟩)] w (Mk E m [dI 0] pGrade w) := by
  refine (grade_make _ _ w).mono ?_
  rintro e w' ⟨rfl, rfl⟩
  obtain ⟨b1, b2⟩ := two_boxes E w _ _ _ _ hS
  exact ⟨_, _, _, rfl, two_keep _ _ _, grade_does hA (hs_keep hS (two_keep _ _ _)) b1 b2⟩
end Go.Proofs.YtmplckdpddmifaaGreatDoor
