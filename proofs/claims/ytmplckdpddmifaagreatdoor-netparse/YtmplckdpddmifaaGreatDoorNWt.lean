/- What a text's tokens are like; Parse by its plain answer. -/
import Derived.Test.YtmplckdpddmifaaGreatDoorNParse
import Derived.Test.YtmplckdpddmifaaGreatDoorLRd
import Derived.Test.YtmplckdpddmifaaGreatDoorLFact
import Derived.Test.YtmplckdpddmifaaGreatDoorMTx
namespace Go.Proofs.YtmplckdpddmifaaGreatDoor
open Go.RowKit
set_option linter.unusedVariables false
set_option linter.unusedSimpArgs false
set_option maxRecDepth 10000
theorem one_fits {r : List UInt8} {p : Nat} {t : Tok} (h : one r p = .ok t) : 0 ≤ t.n ∧ t.n ≤ 999999999999999999 := by
  cases r with
  | nil => simp only [one, Except.ok.injEq] at h; subst h; simp
  | cons c r =>
    simp only [one] at h
    split at h
    · split at h
      · cases h
      · simp only [Except.ok.injEq] at h; subst h; simp
    · split at h
      · rename_i h5
        split at h
        · cases h
        · rename_i h18
          simp only [Except.ok.injEq] at h
          subst h
          have hb := num_bd ((c :: r).take (en (c :: r))) (en_digits h5) ((c :: r).take (en (c :: r))).length (Nat.le_refl _)
          rw [List.take_length] at hb
          have hle : ((c :: r).take (en (c :: r))).length ≤ 18 := by rw [List.length_take]; omega
          have hp : (10 : Int) ^ ((c :: r).take (en (c :: r))).length ≤ 10 ^ 18 := by
            have : (10 : Nat) ^ ((c :: r).take (en (c :: r))).length ≤ 10 ^ 18 := Nat.pow_le_pow_right (by decide) hle
            exact_mod_cast this
          refine ⟨hb.1, ?_⟩
          have := hb.2
          have e : (10 : Int) ^ 18 = 1000000000000000000 := by decide
          show num _ ≤ _
          omega
      · split at h
        · simp only [Except.ok.injEq] at h; subst h; simp
        · cases h
theorem tk_wf : ∀ (n : Nat) (r : List UInt8) (p : Nat) (L : List Tok), r.length ≤ n → tk r p = .ok L → (∃ m t, L = m ++ [t] ∧ t.k = 0 ∧ t.s = []) ∧ ∀ t ∈ L, 0 ≤ t.n ∧ t.n ≤ 999999999999999999
  | n, r, p, L, hn, h => by
    rcases tk_cons h with ⟨rfl, _⟩ | ⟨t, M, rfl, h1, h2, _, _, h5, h6, h7⟩
    · exact ⟨⟨[], _, rfl, rfl, rfl⟩, fun t ht => by simp at ht; subst ht; simp⟩
    · cases n with
      | zero => omega
      | succ n =>
        obtain ⟨⟨m, u, rfl, u1, u2⟩, hM⟩ := tk_wf n _ _ M (by rw [List.length_drop]; omega) h7
        refine ⟨⟨t :: m, u, rfl, u1, u2⟩, fun x hx => ?_⟩
        rcases List.mem_cons.1 hx with rfl | hx
        · exact one_fits h1
        · exact hM x hx
theorem T_wf {l : List UInt8} {L : List Tok} (hl : l.length ≤ 65536) (h : T l = .ok L) : Wf L := by
  have h1 := tk_wf l.length l 0 L (Nat.le_refl _) (T_ok h).2
  have h2 := T_len h
  exact ⟨by omega, h1.1, h1.2⟩
theorem parse_any (v : Value) (l : List UInt8) (w : World) (hl : l.length ≤ 65536) (h : By w v l) (hg : Gl w) : Calls Tryz.prog 5 #[v] w (ParseP (N l) w) := by
  have R : ∀ w', Keep w w' → Calls Tryz.prog 11 #[v] w' (ReadP (N l) w') := fun w' hk => few_read v l w' hl (h.keep hk) (fun L hL => T_wf hl hL) (fun x hx => by have := (T_err (e := x.1) (a := x.2) hx).1; omega)
  cases hN : N l with
  | error x => rw [hN] at R; exact parse_bad v x w (hide hg) (hide R)
  | ok cs => rw [hN] at R; exact parse_good v cs w (hide R)
end Go.Proofs.YtmplckdpddmifaaGreatDoor
namespace Go.Proofs.YtmplckdpddmifaaGreatDoor
open Go.RowKit
set_option linter.unusedVariables false
set_option linter.unusedSimpArgs false
set_option maxRecDepth 10000
/-- a network of nothing -/
def z0 : List D := [dI 0, dI 0, dI 0, dI 0, dI 0, .row 61 7 [], .row 114 6 [], dI 0, dI 0]
def tr : Except Er (List D) → List D
  | .error _ => z0
  | .ok cs => cs
def nE : Except Er (List D) → Int
  | .error x => x.1
  | .ok _ => 0
def nP : Except Er (List D) → Int
  | .error x => x.2
  | .ok _ => 0
theorem z0_sh : NetSh z0 := ⟨0, 0, 0, 0, 0, [], [], 0, 0, rfl, ⟨by simp, fun y hy => by cases hy⟩, ⟨by simp, fun y hy => by cases hy⟩⟩
theorem tr_sh (l : List UInt8) : NetSh (tr (N l)) := by
  cases h : N l with
  | error x => exact z0_sh
  | ok cs => exact net_sh h
theorem z0_rv (w : World) : Rvs w z0 [.int .i64 0, .int .i64 0, .int .i64 0, .int .i64 0, .int .i64 0, .slice none 0 0, .slice none 0 0, .int .i64 0, .int .i64 0] := by
  simp only [z0, dI, Rvs, Rv]
  exact ⟨_, _, rfl, rfl, _, _, rfl, rfl, _, _, rfl, rfl, _, _, rfl, rfl, _, _, rfl, rfl, _, _, rfl, ⟨none, 0, rfl, Nat.le_refl _, trivial⟩, _, _, rfl, ⟨none, 0, rfl, Nat.le_refl _, trivial⟩, _, _, rfl, rfl, _, _, rfl, rfl, rfl⟩
/-- nine values of a network -/
def nv (a0 a1 a2 a3 a4 : Int) (aN : Option Addr) (nN cN : Nat) (aS : Option Addr) (nS cS : Nat) (a5 a6 : Int) : List Value := [.int .i64 a0, .int .i64 a1, .int .i64 a2, .int .i64 a3, .int .i64 a4, .slice aN nN cN, .slice aS nS cS, .int .i64 a5, .int .i64 a6]
theorem rvs_nine {w : World} {cs : List D} {us : List Value} (h : NetSh cs) (hr : Rvs w cs us) : ∃ a0 a1 a2 a3 a4 aN nN cN aS nS cS a5 a6, us = nv a0 a1 a2 a3 a4 aN nN cN aS nS cS a5 a6 := by
  obtain ⟨a0, a1, a2, a3, a4, L, Sa, a5, a6, rfl, hL, hSa⟩ := h
  simp only [Rvs, Rv, dI] at hr
  obtain ⟨_, _, rfl, rfl, _, _, rfl, rfl, _, _, rfl, rfl, _, _, rfl, rfl, _, _, rfl, rfl, _, _, rfl, ⟨a, ca, rfl, _, HA⟩, _, _, rfl, ⟨aS, da, rfl, _, HSa⟩, _, _, rfl, rfl, _, _, rfl, rfl, rfl⟩ := hr
  exact ⟨_, _, _, _, _, _, _, _, _, _, _, _, _, rfl⟩
/-- what a call of Parse leaves -/
def PQ (cs : List D) (E P : Int) (w : World) (e : Ending) (w' : World) : Prop := Keep w w' ∧ ∃ a0 a1 a2 a3 a4 aN nN cN aS nS cS a5 a6, e = .returned (.tuple #[.agg #[.int .i64 a0, .int .i64 a1, .int .i64 a2, .int .i64 a3, .int .i64 a4, .slice aN nN cN, .slice aS nS cS, .int .i64 a5, .int .i64 a6], .int .i64 E, .int .i64 P]) ∧ Rvs w' cs (nv a0 a1 a2 a3 a4 aN nN cN aS nS cS a5 a6)
theorem pq_of {v : Value} {l : List UInt8} {w : World} (h : Calls Tryz.prog 5 #[v] w (ParseP (N l) w)) : Calls Tryz.prog 5 #[v] w (PQ (tr (N l)) (nE (N l)) (nP (N l)) w) := by
  refine h.mono ?_
  cases hN : N l with
  | error x =>
    rintro e w' ⟨hk, rfl⟩
    exact ⟨hk, 0, 0, 0, 0, 0, none, 0, 0, none, 0, 0, 0, 0, rfl, z0_rv w'⟩
  | ok cs =>
    rintro e w' ⟨hk, u0, u1, u2, u3, u4, u5, u6, u7, u8, rfl, _, hrd⟩
    have hr := Rds.rv _ _ _ hrd
    obtain ⟨a0, a1, a2, a3, a4, aN, nN, cN, aS, nS, cS, a5, a6, e⟩ := rvs_nine (net_sh hN) hr
    rw [e] at hr
    simp only [nv, List.cons.injEq] at e
    obtain ⟨rfl, rfl, rfl, rfl, rfl, rfl, rfl, rfl, rfl, _⟩ := e
    exact ⟨hk, a0, a1, a2, a3, a4, aN, nN, cN, aS, nS, cS, a5, a6, rfl, hr⟩
end Go.Proofs.YtmplckdpddmifaaGreatDoor
