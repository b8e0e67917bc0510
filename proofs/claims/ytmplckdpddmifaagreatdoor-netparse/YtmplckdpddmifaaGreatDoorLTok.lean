/- Tokens in plain words: one token, all tokens of bytes; tokens in memory. -/
import Derived.Test.YtmplckdpddmifaaGreatDoorLEs
namespace Go.Proofs.YtmplckdpddmifaaGreatDoor
open Go.RowKit
set_option linter.unusedVariables false
set_option linter.unusedSimpArgs false
/-- a token: its kind, its bytes, its number, its place -/
structure Tok where
  k : Int
  s : List UInt8
  n : Int
  p : Int
deriving DecidableEq
/-- the number that digits tell -/
def num (l : List UInt8) : Int := l.foldl (fun v c => v * 10 + ((c.toNat : Int) - 48)) 0
/-- the token at the front of bytes, or which error -/
def one (r : List UInt8) (p : Nat) : Except Int Tok :=
  match r with
  | [] => .ok ⟨0, [], 0, p⟩
  | c :: _ =>
    if kd c.toNat = 4 then (if 24 < en r then .error 4 else .ok ⟨1, r.take (en r), 0, p⟩)
    else if kd c.toNat = 5 then (if 18 < en r then .error 4 else .ok ⟨2, r.take (en r), num (r.take (en r)), p⟩)
    else if kd c.toNat = 7 then .ok ⟨3, r.take (en r), 0, p⟩
    else .error 40
/-- an answer behind tokens -/
def pre (acc : List Tok) : Except (Int × Nat) (List Tok) → Except (Int × Nat) (List Tok)
  | .error x => .error x
  | .ok r => .ok (acc ++ r)
theorem pre_nil (x : Except (Int × Nat) (List Tok)) : pre [] x = x := by cases x <;> rfl
theorem pre_pre (a b : List Tok) (x : Except (Int × Nat) (List Tok)) : pre a (pre b x) = pre (a ++ b) x := by cases x <;> simp [pre]
/-- all tokens, with fuel -/
def tkz : Nat → List UInt8 → Nat → Except (Int × Nat) (List Tok)
  | 0, _, _ => .ok []
  | f + 1, r, p =>
    match one (r.drop (skp false r)) (p + skp false r) with
    | .error e => .error (e, p + skp false r)
    | .ok t => if t.k = 0 then .ok [t] else pre [t] (tkz f ((r.drop (skp false r)).drop t.s.length) (p + skp false r + t.s.length))
theorem en_pos (c : UInt8) (r : List UInt8) : 1 ≤ en (c :: r) := by simp [en]
theorem one_ok {r : List UInt8} {p : Nat} {t : Tok} (h : one r p = .ok t) : t.p = p ∧ ((r = [] ∧ t = ⟨0, [], 0, p⟩) ∨ (t.k ≠ 0 ∧ r ≠ [] ∧ t.s = r.take (en r) ∧ t.s.length = en r ∧ 1 ≤ en r ∧ en r ≤ 24)) := by
  cases r with
  | nil => simp only [one, Except.ok.injEq] at h; subst h; exact ⟨rfl, .inl ⟨rfl, rfl⟩⟩
  | cons c r =>
    have h1 := en_pos c r
    have h2 := en_le (c :: r)
    have h3 : ((c :: r).take (en (c :: r))).length = en (c :: r) := by rw [List.length_take]; omega
    simp only [one] at h
    split at h
    · split at h
      · cases h
      · simp only [Except.ok.injEq] at h; subst h; exact ⟨rfl, .inr ⟨by simp, by simp, rfl, h3, h1, by omega⟩⟩
    · split at h
      · split at h
        · cases h
        · simp only [Except.ok.injEq] at h; subst h; exact ⟨rfl, .inr ⟨by simp, by simp, rfl, h3, h1, by omega⟩⟩
      · split at h
        · rename_i h7
          have e : en (c :: r) = 1 := by
            have : tw (goes c) r = 0 := tw_none fun x => by unfold goes; rw [h7]; unfold on; simp
            simp [en, this]
          simp only [Except.ok.injEq] at h; subst h; exact ⟨rfl, .inr ⟨by simp, by simp, rfl, h3, h1, by omega⟩⟩
        · cases h
theorem tkz_fuel : ∀ (f g : Nat) (r : List UInt8) (p : Nat), r.length < f → r.length < g → tkz f r p = tkz g r p
  | 0, _, _, _, h, _ => by omega
  | _, 0, _, _, _, h => by omega
  | f + 1, g + 1, r, p, hf, hg => by
    simp only [tkz]
    split
    · rfl
    · rename_i t ht
      split
      · rfl
      · rename_i hk
        rcases (one_ok ht).2 with ⟨_, h⟩ | ⟨_, _, _, h1, h2, _⟩
        · rw [h] at hk; exact absurd rfl hk
        · have := en_le (r.drop (skp false r))
          rw [tkz_fuel f g _ _ (by simp only [List.length_drop] at *; omega) (by simp only [List.length_drop] at *; omega)]
/-- all tokens of bytes, the first one of which stands at a place -/
def tk (r : List UInt8) (p : Nat) : Except (Int × Nat) (List Tok) := tkz (r.length + 1) r p
theorem tk_eq (r : List UInt8) (p : Nat) : tk r p = match one (r.drop (skp false r)) (p + skp false r) with
    | .error e => .error (e, p + skp false r)
    | .ok t => if t.k = 0 then .ok [t] else pre [t] (tk ((r.drop (skp false r)).drop t.s.length) (p + skp false r + t.s.length)) := by
  unfold tk
  rw [tkz]
  split
  · rfl
  · rename_i t ht
    split
    · rfl
    · rename_i hk
      rcases (one_ok ht).2 with ⟨_, h⟩ | ⟨_, _, _, h1, h2, _⟩
      · rw [h] at hk; exact absurd rfl hk
      · have := en_le (r.drop (skp false r))
        rw [tkz_fuel _ _ _ _ (by simp only [List.length_drop] at *; omega) (Nat.lt_succ_self _)]
/-- all tokens of a text, or the error and its place -/
def T (l : List UInt8) : Except (Int × Nat) (List Tok) := if 65536 < l.length then .error (4, 65536) else tk l 0
def tl : Except (Int × Nat) (List Tok) → List Tok
  | .ok l => l
  | .error _ => []
def te : Except (Int × Nat) (List Tok) → Int
  | .ok _ => 0
  | .error x => x.1
def tn : Except (Int × Nat) (List Tok) → Nat
  | .ok _ => 0
  | .error x => x.2
/-- the text of a token as a value -/
def sv (l : List UInt8) : ByteArray := ⟨l.toArray⟩
theorem sv_size (l : List UInt8) : (sv l).size = l.length := by simp [sv, ByteArray.size]
/-- a token as a value -/
def tv (t : Tok) : Value := .agg #[.int .i64 t.k, .string (sv t.s), .int .i64 t.n, .int .i64 t.p]
/-- tokens as cells -/
def tc : List Tok → List Value
  | [] => []
  | t :: l => .int .i64 t.k :: .string (sv t.s) :: .int .i64 t.n :: .int .i64 t.p :: tc l
theorem tc_append : ∀ l m : List Tok, tc (l ++ m) = tc l ++ tc m
  | [], m => rfl
  | p :: l, m => by simp only [List.cons_append, tc, tc_append l m]
theorem tc_length : ∀ l : List Tok, (tc l).length = l.length * 4
  | [] => rfl
  | p :: l => by simp only [tc, List.length_cons, tc_length l]; omega
def t0 : Tok := ⟨0, [], 0, 0⟩
theorem tc_at : ∀ (l : List Tok) (k : Nat), k < l.length → (tc l)[k * 4]? = some (.int .i64 (l.getD k t0).k) ∧ (tc l)[k * 4 + 1]? = some (.string (sv (l.getD k t0).s)) ∧ (tc l)[k * 4 + 2]? = some (.int .i64 (l.getD k t0).n) ∧ (tc l)[k * 4 + 3]? = some (.int .i64 (l.getD k t0).p)
  | [], k, h => by simp at h
  | p :: l, 0, h => by simp [tc]
  | p :: l, k + 1, h => by
    have := tc_at l k (by simpa using h)
    rw [show (k + 1) * 4 = k * 4 + 1 + 1 + 1 + 1 by omega]
    simpa [tc] using this
theorem tc_one (l : List Tok) : ∀ u, u ∈ tc l → u.oneCell' = true := by
  induction l with
  | nil => intro u h; simp [tc] at h
  | cons p l ih =>
    intro u h
    simp only [tc, List.mem_cons] at h
    rcases h with rfl | rfl | rfl | rfl | h
    · rfl
    · rfl
    · rfl
    · rfl
    · exact ih u h
/-- the four cells of a token -/
def Tc (w : World) (ad : Addr) (t : Tok) : Prop := w.cell? ad = some (.int .i64 t.k) ∧ w.cell? ⟨ad.block, ad.off + 1, none⟩ = some (.string (sv t.s)) ∧ w.cell? ⟨ad.block, ad.off + 2, none⟩ = some (.int .i64 t.n) ∧ w.cell? ⟨ad.block, ad.off + 3, none⟩ = some (.int .i64 t.p)
theorem Tc.keep {w w' : World} {ad : Addr} {t : Tok} (h : Tc w ad t) (hb : ad.block < w.heap.size) (hk : Keep w w') : Tc w' ad t := by
  obtain ⟨h0, h1, h2, h3⟩ := h
  refine ⟨?_, ?_, ?_, ?_⟩
  · rw [Below.cell hk hb]; exact h0
  · rw [Below.cell (p := ⟨ad.block, ad.off + 1, none⟩) hk hb]; exact h1
  · rw [Below.cell (p := ⟨ad.block, ad.off + 2, none⟩) hk hb]; exact h2
  · rw [Below.cell (p := ⟨ad.block, ad.off + 3, none⟩) hk hb]; exact h3
/-- v is a slice that reads as the tokens L -/
def Ts (w : World) (v : Value) (L : List Tok) : Prop := ∃ a cap, v = .slice a L.length cap ∧ L.length ≤ cap ∧ ∀ k, k < L.length → ∃ ad, a = some ad ∧ ad.block < w.heap.size ∧ Tc w (ad.add (k * 4)) (L.getD k t0)
theorem Ts.keep {w w' : World} {v : Value} {L : List Tok} (h : Ts w v L) (hk : Keep w w') : Ts w' v L := by
  obtain ⟨a, cap, rfl, hc, h⟩ := h
  refine ⟨a, cap, rfl, hc, fun k hlt => ?_⟩
  obtain ⟨ad, h0, h1, h2⟩ := h k hlt
  exact ⟨ad, h0, Nat.lt_of_lt_of_le h1 (Below.size hk), h2.keep (by rw [add_block]; exact h1) hk⟩
theorem Ts.shape {w : World} {v : Value} {L : List Tok} (h : Ts w v L) : ∃ a cap, v = .slice a L.length cap := by obtain ⟨a, cap, rfl, _⟩ := h; exact ⟨a, cap, rfl⟩
theorem ts_nil (w : World) : Ts w (.slice none 0 0) [] := ⟨none, 0, rfl, Nat.le_refl _, fun k h => by simp at h⟩
/-- what the call owns reads so -/
theorem ts_own {w : World} {base : Nat} {e : TypeId} {v : Value} {L : List Tok} (h : w.ownsRow base e 4 v L.length (tc L)) : Ts w v L := by
  obtain ⟨_, h⟩ := h
  rcases h with ⟨rfl, h0⟩ | ⟨g, cap, cur, rfl, hb, hg, hc, hm, hs, ht⟩
  · have : L = [] := List.eq_nil_of_length_eq_zero h0
    subst this
    exact ts_nil w
  · refine ⟨_, cap, rfl, hc, fun k hk => ⟨_, rfl, (Array.getElem?_eq_some_iff.1 hg).1, ?_⟩⟩
    have hh := tc_at L k hk
    rw [← ht, List.getElem?_take_of_lt (by omega), List.getElem?_take_of_lt (by omega), List.getElem?_take_of_lt (by omega), List.getElem?_take_of_lt (by omega)] at hh
    rw [add_plain, Nat.zero_add]
    unfold Tc
    simp only [World.cell?, hg]
    simpa using hh
end Go.Proofs.YtmplckdpddmifaaGreatDoor
