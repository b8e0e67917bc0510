/- What a text's tokens are like; Parse by its plain answer. -/
import Derived.Test.YtmplckdpddmifaaGreatDoorNParse
import Derived.Test.YtmplckdpddmifaaGreatDoorLRd
import Derived.Test.YtmplckdpddmifaaGreatDoorLFj
namespace Go.Proofs.YtmplckdpddmifaaGreatDoor
open Go.RowKit
set_option linter.unusedVariables false
set_option linter.unusedSimpArgs false
set_option maxRecDepth 10000
theorem one_fits {r : List UInt8} {p : Nat} {t : Tok} (h : one r p = .ok t) : 0 ≤ t.n ∧ t.n ≤ 999999999999999999 := by
  cases r with
  | nil => simp only [one, Except.ok.injEq] at h; subst h; simp
  | cons c r =>
    simp only [one] at h
    split at h
    · split at h
      · cases h
      · simp only [Except.ok.injEq] at h; subst h; simp
    · split at h
      · rename_i h5
        split at h
        · cases h
        · rename_i h18
          simp only [Except.ok.injEq] at h
          subst h
          have hb := num_bd ((c :: r).take (en (c :: r))) (en_digits h5) ((c :: r).take (en (c :: r))).length (Nat.le_refl _)
          rw [List.take_length] at hb
          have hle : ((c :: r).take (en (c :: r))).length ≤ 18 := by rw [List.length_take]; omega
          have hp : (10 : Int) ^ ((c :: r).take (en (c :: r))).length ≤ 10 ^ 18 := by
            have : (10 : Nat) ^ ((c :: r).take (en (c :: r))).length ≤ 10 ^ 18 := Nat.pow_le_pow_right (by decide) hle
            exact_mod_cast this
          refine ⟨hb.1, ?_⟩
          have := hb.2
          have e : (10 : Int) ^ 18 = 1000000000000000000 := by decide
          show num _ ≤ _
          omega
      · split at h
        · simp only [Except.ok.injEq] at h; subst h; simp
        · cases h
theorem tk_wf : ∀ (n : Nat) (r : List UInt8) (p : Nat) (L : List Tok), r.length ≤ n → tk r p = .ok L → (∃ m t, L = m ++ [t] ∧ t.k = 0 ∧ t.s = []) ∧ ∀ t ∈ L, 0 ≤ t.n ∧ t.n ≤ 999999999999999999
  | n, r, p, L, hn, h => by
    rcases tk_cons h with ⟨rfl, _⟩ | ⟨t, M, rfl, h1, h2, _, _, h5, h6, h7⟩
    · exact ⟨⟨[], _, rfl, rfl, rfl⟩, fun t ht => by simp at ht; subst ht; simp⟩
    · cases n with
      | zero => omega
      | succ n =>
        obtain ⟨⟨m, u, rfl, u1, u2⟩, hM⟩ := tk_wf n _ _ M (by rw [List.length_drop]; omega) h7
        refine ⟨⟨t :: m, u, rfl, u1, u2⟩, fun x hx => ?_⟩
        rcases List.mem_cons.1 hx with rfl | hx
        · exact one_fits h1
        · exact hM x hx
theorem T_wf {l : List UInt8} {L : List Tok} (hl : l.length ≤ 65536) (h : T l = .ok L) : Wf L := by
  have h1 := tk_wf l.length l 0 L (Nat.le_refl _) (T_ok h).2
  have h2 := T_len h
  exact ⟨by omega, h1.1, h1.2⟩
theorem parse_any (v : Value) (l : List UInt8) (w : World) (hl : l.length ≤ 65536) (h : By w v l) (hg : Gl w) : Calls Tryz.prog 5 #[v] w (ParseP (N l) w) := by
  have R : ∀ w', Keep w w' → Calls Tryz.prog 11 #[v] w' (ReadP (N l) w') := fun w' hk => few_read v l w' hl (h.keep hk) (fun L hL => T_wf hl hL) (fun x hx => by have := (T_err (e := x.1) (a := x.2) hx).1; omega)
  cases hN : N l with
  | error x => rw [hN] at R; exact parse_bad v x w (hide hg) (hide R)
  | ok cs => rw [hN] at R; exact parse_good v cs w (hide R)
end Go.Proofs.YtmplckdpddmifaaGreatDoor
