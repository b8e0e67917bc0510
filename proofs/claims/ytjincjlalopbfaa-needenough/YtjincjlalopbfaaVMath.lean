/- Package valid: numbers within bounds; the network as a whole, a node's counts. -/
import Derived.Test.YtjincjlalopbfaaVMap
namespace Go.Proofs.Ytjincjlalopbfaa
open Go.RowKit
set_option linter.unusedVariables false
set_option linter.unusedSimpArgs false
set_option maxRecDepth 10000
namespace V
def btw (a n b : Int) : Bool := decide (a ≤ n ∧ n ≤ b)
theorem btw_any (a n b : Int) (w : World) : Calls Try.prog 41 #[.int .i64 a, .int .i64 n, .int .i64 b] w fun e w' => e = .returned (.bool (btw a n b)) ∧ w' = w := between_any a n b w
def facB (a b : Int) : Bool := btw 1 a 1000000000 && btw 1 b 1000000000
def fbx (a b : Int) : Obj := .cells #[.int .i64 a, .int .i64 b] 23
set_option maxHeartbeats 1000000 in
theorem fac_any (a b : Int) (w : World) : Calls Try.prog 40 #[.agg #[.int .i64 a, .int .i64 b]] w fun e w' => e = .returned (.bool (facB a b)) ∧ w' = w.alloc (fbx a b) := by
  have B1 := hide (btw_any 1 a 1000000000)
  have B2 := hide (btw_any 1 b 1000000000)
  unfold facB fbx
  generalize btw 1 a 1000000000 = b1 at B1 ⊢
  generalize btw 1 b 1000000000 = b2 at B2 ⊢
  go_enter Try.func40, Try.ntmps40
  go_wp2_with fail
  (refine ((uq B1) _).mono ?_; rintro e w1 ⟨rfl, rfl⟩)
  cases b1
  · go_wp2_with fail
    go_ret
    exact ⟨rfl, rfl⟩
  · go_wp2_with fail
    (refine ((uq B2) _).mono ?_; rintro e w2 ⟨rfl, rfl⟩)
    cases b2
    · go_wp2_with fail
      go_ret
      exact ⟨rfl, rfl⟩
    · go_wp2_with fail
      go_ret
      exact ⟨rfl, rfl⟩
def rngB (v1 v2 v3 v4 v5 v6 v7 v8 v9 : Int) : Bool := btw 0 v1 1000000000 && (btw 1 v2 1000000000 && (facB v3 v4 && (btw 1 v5 10000 && (btw (-200) v6 200 && (btw 0 v7 100000 && (btw 0 v8 100000 && (btw 1 v9 6000)))))))
set_option maxHeartbeats 4000000 in
theorem rng_any (s : ByteArray) (v1 v2 v3 v4 v5 v6 v7 v8 v9 v10 : Int) (w : World) : Calls Try.prog 77 #[.agg #[.string s, .int .i64 v1, .int .i64 v2, .int .i64 v3, .int .i64 v4, .int .i64 v5, .int .i64 v6, .int .i64 v7, .int .i64 v8, .int .i64 v9, .int .i64 v10]] w fun e w' => e = .returned (.bool (rngB v1 v2 v3 v4 v5 v6 v7 v8 v9)) ∧ Keep w w' := by
  have B0 := hide (btw_any 0 v1 1000000000)
  have B1 := hide (btw_any 1 v2 1000000000)
  have B2 := hide (fac_any v3 v4)
  have B3 := hide (btw_any 1 v5 10000)
  have B4 := hide (btw_any (-200) v6 200)
  have B5 := hide (btw_any 0 v7 100000)
  have B6 := hide (btw_any 0 v8 100000)
  have B7 := hide (btw_any 1 v9 6000)
  unfold rngB
  generalize btw 0 v1 1000000000 = b0 at B0 ⊢
  generalize btw 1 v2 1000000000 = b1 at B1 ⊢
  generalize facB v3 v4 = b2 at B2 ⊢
  generalize btw 1 v5 10000 = b3 at B3 ⊢
  generalize btw (-200) v6 200 = b4 at B4 ⊢
  generalize btw 0 v7 100000 = b5 at B5 ⊢
  generalize btw 0 v8 100000 = b6 at B6 ⊢
  generalize btw 1 v9 6000 = b7 at B7 ⊢
  go_enter Try.func77, Try.ntmps77
  go_wp2_with fail
  (refine ((uq B0) _).mono ?_; rintro e w1 ⟨rfl, rfl⟩)
  cases b0
  · go_wp2_with fail
    go_ret
    exact ⟨by simp, by repeat (first | exact Keep.refl _ | apply Keep.alloc)⟩
  go_wp2_with fail
  (refine ((uq B1) _).mono ?_; rintro e w2 ⟨rfl, rfl⟩)
  cases b1
  · go_wp2_with fail
    go_ret
    exact ⟨by simp, by repeat (first | exact Keep.refl _ | apply Keep.alloc)⟩
  go_wp2_with fail
  (refine ((uq B2) _).mono ?_; rintro e w3 ⟨rfl, rfl⟩; unfold fbx)
  cases b2
  · go_wp2_with fail
    go_ret
    exact ⟨by simp, by repeat (first | exact Keep.refl _ | apply Keep.alloc)⟩
  go_wp2_with fail
  (refine ((uq B3) _).mono ?_; rintro e w4 ⟨rfl, rfl⟩)
  cases b3
  · go_wp2_with fail
    go_ret
    exact ⟨by simp, by repeat (first | exact Keep.refl _ | apply Keep.alloc)⟩
  go_wp2_with fail
  (refine ((uq B4) _).mono ?_; rintro e w5 ⟨rfl, rfl⟩)
  cases b4
  · go_wp2_with fail
    go_ret
    exact ⟨by simp, by repeat (first | exact Keep.refl _ | apply Keep.alloc)⟩
  go_wp2_with fail
  (refine ((uq B5) _).mono ?_; rintro e w6 ⟨rfl, rfl⟩)
  cases b5
  · go_wp2_with fail
    go_ret
    exact ⟨by simp, by repeat (first | exact Keep.refl _ | apply Keep.alloc)⟩
  go_wp2_with fail
  (refine ((uq B6) _).mono ?_; rintro e w7 ⟨rfl, rfl⟩)
  cases b6
  · go_wp2_with fail
    go_ret
    exact ⟨by simp, by repeat (first | exact Keep.refl _ | apply Keep.alloc)⟩
  go_wp2_with fail
  (refine ((uq B7) _).mono ?_; rintro e w8 ⟨rfl, rfl⟩)
  cases b7
  · go_wp2_with fail
    go_ret
    exact ⟨by simp, by repeat (first | exact Keep.refl _ | apply Keep.alloc)⟩
  go_wp2_with fail
  go_ret
  exact ⟨rfl, by repeat (first | exact Keep.refl _ | apply Keep.alloc)⟩
theorem refuse_x (c : Int) (b : Bool) (w : World) : Calls Try.prog 39 #[.int .i64 c, .bool b] w fun e w' => ((b = true ∧ e = .panicked [{ v := ern c, recovered := false }]) ∨ (b = false ∧ e = .returned (.tuple #[]))) ∧ w' = w := by
  cases b
  · refine (refuse_no c w).mono ?_
    rintro e w' ⟨rfl, rfl⟩
    exact ⟨.inr ⟨rfl, rfl⟩, rfl⟩
  · refine (refuse_yes c w).mono ?_
    rintro e w' ⟨rfl, rfl⟩
    exact ⟨.inl ⟨rfl, rfl⟩, rfl⟩
theorem refuseAt_x (p c : Int) (b : Bool) (w : World) : Calls Try.prog 44 #[.int .i64 p, .int .i64 c, .bool b] w fun e w' => ((b = true ∧ e = .panicked [{ v := flt c p, recovered := false }]) ∨ (b = false ∧ e = .returned (.tuple #[]))) ∧ w' = w := by
  cases b
  · refine (refuseAt_no p c w).mono ?_
    rintro e w' ⟨rfl, rfl⟩
    exact ⟨.inr ⟨rfl, rfl⟩, rfl⟩
  · refine (refuseAt_yes p c w).mono ?_
    rintro e w' ⟨rfl, rfl⟩
    exact ⟨.inl ⟨rfl, rfl⟩, rfl⟩
/-- the first that is refused -/
def fst : List (Bool × Int) → Option Int
  | [] => none
  | (b, c) :: r => if b then some c else fst r
theorem fst_yes {b : Bool} {c : Int} {r : List (Bool × Int)} {o : Option Int} (h : fst ((b, c) :: r) = o) (hb : b = true) : o = some c := by rw [← h, fst, if_pos hb]
theorem fst_no {b : Bool} {c : Int} {r : List (Bool × Int)} {o : Option Int} (h : fst ((b, c) :: r) = o) (hb : b = false) : fst r = o := by rw [fst, if_neg (by rw [hb]; decide)] at h; exact h
/-- what is wrong with the network as a whole: an error's number -/
def whE (a0 a1 a2 a3 a4 : Int) (nN nS : Nat) (a5 a6 : Int) : Option Int :=
  fst [(decide ((12 : Int) < (nN : Int)) || decide ((12 : Int) < (nS : Int)), 4), (decide (a0 < 1) || decide (a1 < a0) || decide (6000 < a1) || decide (a2 < 1), 70), (!facB a3 a4, 70), (!btw 0 a5 1000000000 || !btw 0 a6 1000000000, 70), ((nN : Int) == 0, 73)]
set_option maxHeartbeats 4000000 in
theorem whole_core (a0 a1 a2 a3 a4 : Int) (aN : Option Addr) (nN cN : Nat) (aS : Option Addr) (nS cS : Nat) (a5 a6 : Int) (w : World) (r : Option Int) (HR : Hid (whE a0 a1 a2 a3 a4 nN nS a5 a6 = r)) :
    Calls Try.prog 19 #[.agg #[.int .i64 a0, .int .i64 a1, .int .i64 a2, .int .i64 a3, .int .i64 a4, .slice aN nN cN, .slice aS nS cS, .int .i64 a5, .int .i64 a6]] w fun e w' => e = En (r.map ern) (.tuple #[]) ∧ Keep w w' := by
  have RX := hide refuse_x
  have B1 := hide (fac_any a3 a4)
  have B2 := hide (btw_any 0 a5 1000000000)
  have B3 := hide (btw_any 0 a6 1000000000)
  unfold whE at HR
  generalize facB a3 a4 = f1 at B1 HR
  generalize btw 0 a5 1000000000 = f2 at B2 HR
  generalize btw 0 a6 1000000000 = f3 at B3 HR
  go_enter Try.func19, Try.ntmps19
  by_cases g0 : (12 : Int) < (nN : Int)
  · have HS := hide (fst_yes (uq HR) (by simp [g0]))
    clear HR
    go_wp2_with fail
    (refine ((uq RX) _ _ _).mono ?_; rintro e w1 ⟨⟨hb, rfl⟩ | ⟨hb, rfl⟩, rfl⟩)
    · have hr := uq HS
      subst hr
      clear hb HS
      go_wp2_with fail
      exact ⟨rfl, rfl, by repeat (first | exact Keep.refl _ | apply Keep.alloc)⟩
    · cases hb
  go_wp2_with fail
  (refine ((uq RX) _ _ _).mono ?_; rintro e w1 ⟨⟨hb, rfl⟩ | ⟨hb, rfl⟩, rfl⟩)
  · have hr := fst_yes (uq HR) (by simp at hb ⊢; omega)
    subst hr
    clear HR hb
    go_wp2_with fail
    exact ⟨rfl, rfl, by repeat (first | exact Keep.refl _ | apply Keep.alloc)⟩
  replace HR := hide (fst_no (uq HR) (by simp at hb ⊢; omega))
  clear hb g0
  by_cases g0 : a0 < 1
  · have HS := hide (fst_yes (uq HR) (by simp [g0]))
    clear HR
    go_wp2_with fail
    (refine ((uq RX) _ _ _).mono ?_; rintro e w2 ⟨⟨hb, rfl⟩ | ⟨hb, rfl⟩, rfl⟩)
    · have hr := uq HS
      subst hr
      clear hb HS
      go_wp2_with fail
      exact ⟨rfl, rfl, by repeat (first | exact Keep.refl _ | apply Keep.alloc)⟩
    · cases hb
  by_cases g1 : a1 < a0
  · have HS := hide (fst_yes (uq HR) (by simp [g1]))
    clear HR
    go_wp2_with fail
    (refine ((uq RX) _ _ _).mono ?_; rintro e w2 ⟨⟨hb, rfl⟩ | ⟨hb, rfl⟩, rfl⟩)
    · have hr := uq HS
      subst hr
      clear hb HS
      go_wp2_with fail
      exact ⟨rfl, rfl, by repeat (first | exact Keep.refl _ | apply Keep.alloc)⟩
    · cases hb
  by_cases g2 : 6000 < a1
  · have HS := hide (fst_yes (uq HR) (by simp [g2]))
    clear HR
    go_wp2_with fail
    (refine ((uq RX) _ _ _).mono ?_; rintro e w2 ⟨⟨hb, rfl⟩ | ⟨hb, rfl⟩, rfl⟩)
    · have hr := uq HS
      subst hr
      clear hb HS
      go_wp2_with fail
      exact ⟨rfl, rfl, by repeat (first | exact Keep.refl _ | apply Keep.alloc)⟩
    · cases hb
  go_wp2_with fail
  (refine ((uq RX) _ _ _).mono ?_; rintro e w2 ⟨⟨hb, rfl⟩ | ⟨hb, rfl⟩, rfl⟩)
  · have hr := fst_yes (uq HR) (by simp at hb ⊢; omega)
    subst hr
    clear HR hb
    go_wp2_with fail
    exact ⟨rfl, rfl, by repeat (first | exact Keep.refl _ | apply Keep.alloc)⟩
  replace HR := hide (fst_no (uq HR) (by simp at hb ⊢; omega))
  clear hb g0 g1 g2
  go_wp2_with fail
  (refine ((uq B1) _).mono ?_; rintro e w3 ⟨rfl, rfl⟩; unfold fbx)
  go_wp2_with fail
  (refine ((uq RX) _ _ _).mono ?_; rintro e w4 ⟨⟨hb, rfl⟩ | ⟨hb, rfl⟩, rfl⟩)
  · have hr := fst_yes (uq HR) hb
    subst hr
    clear HR hb
    go_wp2_with fail
    exact ⟨rfl, rfl, by repeat (first | exact Keep.refl _ | apply Keep.alloc)⟩
  replace HR := hide (fst_no (uq HR) hb)
  clear hb
  go_wp2_with fail
  (refine ((uq B2) _).mono ?_; rintro e w5 ⟨rfl, rfl⟩)
  cases f2
  · go_wp2_with fail
    (refine ((uq RX) _ _ _).mono ?_; rintro e w6 ⟨⟨hb, rfl⟩ | ⟨hb, rfl⟩, rfl⟩)
    · have hr := fst_yes (uq HR) (by simp)
      subst hr
      clear HR hb
      go_wp2_with fail
      exact ⟨rfl, rfl, by repeat (first | exact Keep.refl _ | apply Keep.alloc)⟩
    · cases hb
  go_wp2_with fail
  (refine ((uq B3) _).mono ?_; rintro e w6 ⟨rfl, rfl⟩)
  go_wp2_with fail
  (refine ((uq RX) _ _ _).mono ?_; rintro e w7 ⟨⟨hb, rfl⟩ | ⟨hb, rfl⟩, rfl⟩)
  · have hr := fst_yes (uq HR) (by simpa using hb)
    subst hr
    clear HR hb
    go_wp2_with fail
    exact ⟨rfl, rfl, by repeat (first | exact Keep.refl _ | apply Keep.alloc)⟩
  replace HR := hide (fst_no (uq HR) (by simpa using hb))
  clear hb
  go_wp2_with fail
  (refine ((uq RX) _ _ _).mono ?_; rintro e w8 ⟨⟨hb, rfl⟩ | ⟨hb, rfl⟩, rfl⟩)
  · have hr := fst_yes (uq HR) hb
    subst hr
    clear HR hb
    go_wp2_with fail
    exact ⟨rfl, rfl, by repeat (first | exact Keep.refl _ | apply Keep.alloc)⟩
  replace HR := hide (fst_no (uq HR) hb)
  clear hb
  go_wp2_with fail
  have hr : r = none := (uq HR).symm
  subst hr
  go_end0
  exact ⟨rfl, by repeat (first | exact Keep.refl _ | apply Keep.alloc)⟩
/-- what is wrong with a node's counts -/
def cnE (n1 n2 n3 n4 n5 : Nat) : Option Int :=
  fst [(decide ((16 : Int) < (n1 : Int)) || decide ((16 : Int) < (n3 : Int)), 4), (decide ((8 : Int) < (n2 : Int)) || decide ((4 : Int) < (n4 : Int)) || decide ((64 : Int) < (n5 : Int)), 4), ((n1 : Int) == 0 || (n3 : Int) == 0 || (n4 : Int) == 0, 73)]
set_option maxHeartbeats 4000000 in
theorem counts_core (s : ByteArray) (x1 : Option Addr) (n1 c1 : Nat) (x2 : Option Addr) (n2 c2 : Nat) (x3 : Option Addr) (n3 c3 : Nat) (x4 : Option Addr) (n4 c4 : Nat) (x5 : Option Addr) (n5 c5 : Nat) (p : Int) (w : World) (r : Option Int) (HR : Hid (cnE n1 n2 n3 n4 n5 = r)) :
    Calls Try.prog 63 #[.agg #[.string s, .slice x1 n1 c1, .slice x2 n2 c2, .slice x3 n3 c3, .slice x4 n4 c4, .slice x5 n5 c5, .int .i64 p]] w fun e w' => e = En (r.map (fun c => flt c p)) (.tuple #[]) ∧ Keep w w' := by
  have RX := hide refuseAt_x
  unfold cnE at HR
  go_enter Try.func63, Try.ntmps63
  by_cases g0 : (16 : Int) < (n1 : Int)
  · have HS := hide (fst_yes (uq HR) (by simp [g0]))
    clear HR
    go_wp2_with fail
    (refine ((uq RX) _ _ _ _).mono ?_; rintro e w1 ⟨⟨hb, rfl⟩ | ⟨hb, rfl⟩, rfl⟩)
    · have hr := uq HS
      subst hr
      clear hb HS
      go_wp2_with fail
      exact ⟨rfl, rfl, by repeat (first | exact Keep.refl _ | apply Keep.alloc)⟩
    · cases hb
  go_wp2_with fail
  (refine ((uq RX) _ _ _ _).mono ?_; rintro e w1 ⟨⟨hb, rfl⟩ | ⟨hb, rfl⟩, rfl⟩)
  · have hr := fst_yes (uq HR) (by simp at hb ⊢; omega)
    subst hr
    clear HR hb
    go_wp2_with fail
    exact ⟨rfl, rfl, by repeat (first | exact Keep.refl _ | apply Keep.alloc)⟩
  replace HR := hide (fst_no (uq HR) (by simp at hb ⊢; omega))
  clear hb g0
  by_cases g0 : (8 : Int) < (n2 : Int)
  · have HS := hide (fst_yes (uq HR) (by simp [g0]))
    clear HR
    go_wp2_with fail
    (refine ((uq RX) _ _ _ _).mono ?_; rintro e w2 ⟨⟨hb, rfl⟩ | ⟨hb, rfl⟩, rfl⟩)
    · have hr := uq HS
      subst hr
      clear hb HS
      go_wp2_with fail
      exact ⟨rfl, rfl, by repeat (first | exact Keep.refl _ | apply Keep.alloc)⟩
    · cases hb
  by_cases g1 : (4 : Int) < (n4 : Int)
  · have HS := hide (fst_yes (uq HR) (by simp [g1]))
    clear HR
    go_wp2_with fail
    (refine ((uq RX) _ _ _ _).mono ?_; rintro e w2 ⟨⟨hb, rfl⟩ | ⟨hb, rfl⟩, rfl⟩)
    · have hr := uq HS
      subst hr
      clear hb HS
      go_wp2_with fail
      exact ⟨rfl, rfl, by repeat (first | exact Keep.refl _ | apply Keep.alloc)⟩
    · cases hb
  go_wp2_with fail
  (refine ((uq RX) _ _ _ _).mono ?_; rintro e w2 ⟨⟨hb, rfl⟩ | ⟨hb, rfl⟩, rfl⟩)
  · have hr := fst_yes (uq HR) (by simp at hb ⊢; omega)
    subst hr
    clear HR hb
    go_wp2_with fail
    exact ⟨rfl, rfl, by repeat (first | exact Keep.refl _ | apply Keep.alloc)⟩
  replace HR := hide (fst_no (uq HR) (by simp at hb ⊢; omega))
  clear hb g0 g1
  by_cases g0 : ((n1 : Int) == 0) = true
  · have HS := hide (fst_yes (uq HR) (by simp [g0]))
    clear HR
    go_wp2_with fail
    (refine ((uq RX) _ _ _ _).mono ?_; rintro e w3 ⟨⟨hb, rfl⟩ | ⟨hb, rfl⟩, rfl⟩)
    · have hr := uq HS
      subst hr
      clear hb HS
      go_wp2_with fail
      exact ⟨rfl, rfl, by repeat (first | exact Keep.refl _ | apply Keep.alloc)⟩
    · cases hb
  have h0 : (((n1 : Int) == 0)) = false := by simpa using g0
  by_cases g1 : ((n3 : Int) == 0) = true
  · have HS := hide (fst_yes (uq HR) (by simp [g1]))
    clear HR
    go_wp2_with fail
    (refine ((uq RX) _ _ _ _).mono ?_; rintro e w3 ⟨⟨hb, rfl⟩ | ⟨hb, rfl⟩, rfl⟩)
    · have hr := uq HS
      subst hr
      clear hb HS
      go_wp2_with fail
      exact ⟨rfl, rfl, by repeat (first | exact Keep.refl _ | apply Keep.alloc)⟩
    · cases hb
  have h1 : (((n3 : Int) == 0)) = false := by simpa using g1
  go_wp2_with fail
  (refine ((uq RX) _ _ _ _).mono ?_; rintro e w3 ⟨⟨hb, rfl⟩ | ⟨hb, rfl⟩, rfl⟩)
  · have hr := fst_yes (uq HR) (by simp [h0, h1, hb])
    subst hr
    clear HR hb
    go_wp2_with fail
    exact ⟨rfl, rfl, by repeat (first | exact Keep.refl _ | apply Keep.alloc)⟩
  replace HR := hide (fst_no (uq HR) (by simp [h0, h1, hb]))
  clear hb g0 g1 h0 h1
  go_wp2_with fail
  have hr : r = none := (uq HR).symm
  subst hr
  go_end0
  exact ⟨rfl, by repeat (first | exact Keep.refl _ | apply Keep.alloc)⟩
end V
end Go.Proofs.Ytjincjlalopbfaa

namespace Go.Proofs.Ytjincjlalopbfaa
open Go.RowKit
set_option linter.unusedVariables false
set_option linter.unusedSimpArgs false
namespace V
/-- an error's number, and its place -/
abbrev Eq2 := Option (Int × Int)
/-- the first error from k on, of m things -/
def fE (f : Nat → Eq2) : Nat → Nat → Eq2
  | _, 0 => none
  | k, m + 1 => match f k with | some e => some e | none => fE f (k + 1) m
theorem fE_at {f : Nat → Eq2} {k n : Nat} (h : k < n) : fE f k (n - k) = match f k with | some e => some e | none => fE f (k + 1) (n - (k + 1)) := by
  rw [show n - k = (n - (k + 1)) + 1 by omega]
  rfl
theorem fE_yes {f : Nat → Eq2} {k n : Nat} {r : Eq2} {e : Int × Int} (h : fE f k (n - k) = r) (hk : k < n) (he : f k = some e) : r = some e := by
  rw [fE_at hk, he] at h; exact h.symm
theorem fE_no {f : Nat → Eq2} {k n : Nat} {r : Eq2} (h : fE f k (n - k) = r) (hk : k < n) (he : f k = none) : fE f (k + 1) (n - (k + 1)) = r := by
  rw [fE_at hk, he] at h; exact h
theorem fE_end {f : Nat → Eq2} {k n : Nat} {r : Eq2} (h : fE f k (n - k) = r) (hk : n ≤ k) : r = none := by
  rw [show n - k = 0 by omega] at h; exact h.symm
/-- the names of the first k things, each with its number -/
def mk (T : Nat → List UInt8) (k : Nat) : List (List UInt8 × Int) := (List.range k).map (fun j => (T j, (j : Int)))
theorem mk_succ (T : Nat → List UInt8) (k : Nat) : mk T (k + 1) = mk T k ++ [(T k, (k : Int))] := by simp [mk, List.range_succ]
theorem mk_len (T : Nat → List UInt8) (k : Nat) : (mk T k).length = k := by simp [mk]
/-- how a call that hands back a map of names ends -/
def Hq (r : Eq2) (M : List (List UInt8 × Int)) (w : World) (e : Ending) (w' : World) : Prop := Keep w w' ∧ match r with
  | none => ∃ b, e = .returned (.map (some b)) ∧ w.heap.size ≤ b ∧ Mp w' b M
  | some x => e = .panicked [{ v := flt x.1 x.2, recovered := false }]
/-- how a call that hands back nothing ends -/
def Nq (r : Eq2) (w : World) (e : Ending) (w' : World) : Prop := Keep w w' ∧ match r with
  | none => e = .returned (.tuple #[])
  | some x => e = .panicked [{ v := flt x.1 x.2, recovered := false }]
/-- the block behind a map that has grown -/
theorem grown_keep {w W W' : World} {b : Nat} (h : Keep w W) (hg : W.grownBy W' (some b)) (hb : w.heap.size ≤ b) : Keep w W' := Below.grown h hg h.size (fun k hk => by cases hk; exact hb)
theorem wf_nat {k : Nat} (h : k ≤ 9223372036854775807) : (Lit.int .i64 (k : Int)).wf = true := WalkArith.wf_i64 (by omega)
/-- names that are all of MH's, none twice -/
def Gd (MH M : List (List UInt8 × Int)) : Prop := (∀ s, hs M s = true → hs MH s = true) ∧ (M.map Prod.fst).Nodup
theorem hs_mem {M : List (List UInt8 × Int)} {s : List UInt8} : hs M s = true ↔ s ∈ M.map Prod.fst := by
  unfold hs
  rw [List.any_eq_true]
  constructor
  · rintro ⟨p, hp, h⟩
    have : p.1 = s := by simpa using h
    exact List.mem_map.2 ⟨p, hp, this⟩
  · intro h
    obtain ⟨p, hp, rfl⟩ := List.mem_map.1 h
    exact ⟨p, hp, by simp⟩
theorem sub_len {α : Type} [DecidableEq α] : ∀ (a b : List α), a.Nodup → (∀ x ∈ a, x ∈ b) → a.length ≤ b.length
  | [], b, _, _ => Nat.zero_le _
  | x :: a, b, hn, hs => by
    have hx : x ∈ b := hs x (by simp)
    have h1 := sub_len a (b.erase x) (List.nodup_cons.1 hn).2 (fun y hy => by
      have hne : y ≠ x := fun e => (List.nodup_cons.1 hn).1 (e ▸ hy)
      exact (List.mem_erase_of_ne hne).2 (hs y (by simp [hy])))
    have h2 := List.length_erase_of_mem hx
    have h3 : 0 < b.length := List.length_pos_of_mem hx
    simp only [List.length_cons]
    omega
theorem Gd.len {MH M : List (List UInt8 × Int)} (h : Gd MH M) : M.length ≤ MH.length := by
  have := sub_len (M.map Prod.fst) (MH.map Prod.fst) h.2 (fun x hx => hs_mem.1 (h.1 x (hs_mem.2 hx)))
  simpa using this
theorem Gd.nil (MH : List (List UInt8 × Int)) : Gd MH [] := ⟨fun s h => by simp [hs] at h, by simp⟩
theorem Gd.add {MH M : List (List UInt8 × Int)} {s : List UInt8} (n : Int) (h : Gd MH M) (h1 : hs MH s = true) (h2 : hs M s = false) : Gd MH (M ++ [(s, n)]) := by
  refine ⟨fun t ht => ?_, ?_⟩
  · rw [hs_add] at ht
    rcases Bool.or_eq_true_iff.1 ht with h' | h'
    · exact h.1 t h'
    · have : s = t := by simpa using h'
      exact this ▸ h1
  · rw [List.map_append, List.map_cons, List.map_nil]
    refine List.nodup_append.2 ⟨h.2, by simp, fun a ha b hb => ?_⟩
    have : b = s := by simpa using hb
    subst this
    rintro rfl
    rw [hs_mem.2 ha] at h2
    cases h2
def hdF (T : Nat → List UInt8) (R : Nat → Bool) (P : Nat → Int) (k : Nat) : Eq2 := if hs (mk T k) (T k) then some (71, P k) else if R k then none else some (70, P k)
end V
end Go.Proofs.Ytjincjlalopbfaa
