/- Tokens in plain words: one token, all tokens of bytes; tokens in memory. -/
import Derived.Test.YtjincjlalopbfaaLSkip
namespace Go.Proofs.Ytjincjlalopbfaa
open Go.RowKit
set_option linter.unusedVariables false
set_option linter.unusedSimpArgs false
/-- a token: its kind, its bytes, its number, its place -/
structure Tok where
  k : Int
  s : List UInt8
  n : Int
  p : Int
deriving DecidableEq
/-- the number that digits tell -/
def num (l : List UInt8) : Int := l.foldl (fun v c => v * 10 + ((c.toNat : Int) - 48)) 0
/-- the token at the front of bytes, or which error -/
def one (r : List UInt8) (p : Nat) : Except Int Tok :=
  match r with
  | [] => .ok ⟨0, [], 0, p⟩
  | c :: _ =>
    if kd c.toNat = 4 then (if 24 < en r then .error 4 else .ok ⟨1, r.take (en r), 0, p⟩)
    else if kd c.toNat = 5 then (if 18 < en r then .error 4 else .ok ⟨2, r.take (en r), num (r.take (en r)), p⟩)
    else if kd c.toNat = 7 then .ok ⟨3, r.take (en r), 0, p⟩
    else .error 40
/-- an answer behind tokens -/
def pre (acc : List Tok) : Except (Int × Nat) (List Tok) → Except (Int × Nat) (List Tok)
  | .error x => .error x
  | .ok r => .ok (acc ++ r)
theorem pre_nil (x : Except (Int × Nat) (List Tok)) : pre [] x = x := by cases x <;> rfl
theorem pre_pre (a b : List Tok) (x : Except (Int × Nat) (List Tok)) : pre a (pre b x) = pre (a ++ b) x := by cases x <;> simp [pre]
/-- all tokens, with fuel -/
def tkz : Nat → List UInt8 → Nat → Except (Int × Nat) (List Tok)
  | 0, _, _ => .ok []
  | f + 1, r, p =>
    match one (r.drop (skp false r)) (p + skp false r) with
    | .error e => .error (e, p + skp false r)
    | .ok t => if t.k = 0 then .ok [t] else pre [t] (tkz f ((r.drop (skp false r)).drop t.s.length) (p + skp false r + t.s.length))
theorem en_pos (c : UInt8) (r : List UInt8) : 1 ≤ en (c :: r) := by simp [en]
theorem one_ok {r : List UInt8} {p : Nat} {t : Tok} (h : one r p = .ok t) : t.p = p ∧ ((r = [] ∧ t = ⟨0, [], 0, p⟩) ∨ (t.k ≠ 0 ∧ r ≠ [] ∧ t.s = r.take (en r) ∧ t.s.length = en r ∧ 1 ≤ en r ∧ en r ≤ 24)) := by
  cases r with
  | nil => simp only [one, Except.ok.injEq] at h; subst h; exact ⟨rfl, .inl ⟨rfl, rfl⟩⟩
  | cons c r =>
    have h1 := en_pos c r
    have h2 := en_le (c :: r)
    have h3 : ((c :: r).take (en (c :: r))).length = en (c :: r) := by rw [List.length_take]; omega
    simp only [one] at h
    split at h
    · split at h
      · cases h
      · simp only [Except.ok.injEq] at h; subst h; exact ⟨rfl, .inr ⟨by simp, by simp, rfl, h3, h1, by omega⟩⟩
    · split at h
      · split at h
        · cases h
        · simp only [Except.ok.injEq] at h; subst h; exact ⟨rfl, .inr ⟨by simp, by simp, rfl, h3, h1, by omega⟩⟩
      · split at h
        · rename_i h7
          have e : en (c :: r) = 1 := by
            have : tw (goes c) r = 0 := tw_none fun x => by unfold goes; rw [h7]; unfold on; simp
            simp [en, this]
          simp only [Except.ok.injEq] at h; subst h; exact ⟨rfl, .inr ⟨by simp, by simp, rfl, h3, h1, by omega⟩⟩
        · cases h
theorem tkz_fuel : ∀ (f g : Nat) (r : List UInt8) (p : Nat), r.length < f → r.length < g → tkz f r p = tkz g r p
  | 0, _, _, _, h, _ => by omega
  | _, 0, _, _, _, h => by omega
  | f + 1, g + 1, r, p, hf, hg => by
    simp only [tkz]
    split
    · rfl
    · rename_i t ht
      split
      · rfl
      · rename_i hk
        rcases (one_ok ht).2 with ⟨_, h⟩ | ⟨_, _, _, h1, h2, _⟩
        · rw [h] at hk; exact absurd rfl hk
        · have := en_le (r.drop (skp false r))
          rw [tkz_fuel f g _ _ (by simp only [List.length_drop] at *; omega) (by simp only [List.length_drop] at *; omega)]
/-- all tokens of bytes, the first one of which stands at a place -/
def tk (r : List UInt8) (p : Nat) : Except (Int × Nat) (List Tok) := tkz (r.length + 1) r p
theorem tk_eq (r : List UInt8) (p : Nat) : tk r p = match one (r.drop (skp false r)) (p + skp false r) with
    | .error e => .error (e, p + skp false r)
    | .ok t => if t.k = 0 then .ok [t] else pre [t] (tk ((r.drop (skp false r)).drop t.s.length) (p + skp false r + t.s.length)) := by
  unfold tk
  rw [tkz]
  split
  · rfl
  · rename_i t ht
    split
    · rfl
    · rename_i hk
      rcases (one_ok ht).2 with ⟨_, h⟩ | ⟨_, _, _, h1, h2, _⟩
      · rw [h] at hk; exact absurd rfl hk
      · have := en_le (r.drop (skp false r))
        rw [tkz_fuel _ _ _ _ (by simp only [List.length_drop] at *; omega) (Nat.lt_succ_self _)]
/-- all tokens of a text, or the error and its place -/
def T (l : List UInt8) : Except (Int × Nat) (List Tok) := if 65536 < l.length then .error (4, 65536) else tk l 0
def tl : Except (Int × Nat) (List Tok) → List Tok
  | .ok l => l
  | .error _ => []
def te : Except (Int × Nat) (List Tok) → Int
  | .ok _ => 0
  | .error x => x.1
def tn : Except (Int × Nat) (List Tok) → Nat
  | .ok _ => 0
  | .error x => x.2
/-- the text of a token as a value -/
def sv (l : List UInt8) : ByteArray := ⟨l.toArray⟩
theorem sv_size (l : List UInt8) : (sv l).size = l.length := by simp [sv, ByteArray.size]
/-- a token as a value -/
def tv (t : Tok) : Value := .agg #[.int .i64 t.k, .string (sv t.s), .int .i64 t.n, .int .i64 t.p]
/-- tokens as cells -/
def tc : List Tok → List Value
  | [] => []
  | t :: l => .int .i64 t.k :: .string (sv t.s) :: .int .i64 t.n :: .int .i64 t.p :: tc l
theorem tc_append : ∀ l m : List Tok, tc (l ++ m) = tc l ++ tc m
  | [], m => rfl
  | p :: l, m => by simp only [List.cons_append, tc, tc_append l m]
def t0 : Tok := ⟨0, [], 0, 0⟩
theorem tc_at : ∀ (l : List Tok) (k : Nat), k < l.length → (tc l)[k * 4]? = some (.int .i64 (l.getD k t0).k) ∧ (tc l)[k * 4 + 1]? = some (.string (sv (l.getD k t0).s)) ∧ (tc l)[k * 4 + 2]? = some (.int .i64 (l.getD k t0).n) ∧ (tc l)[k * 4 + 3]? = some (.int .i64 (l.getD k t0).p)
  | [], k, h => by simp at h
  | p :: l, 0, h => by simp [tc]
  | p :: l, k + 1, h => by
    have := tc_at l k (by simpa using h)
    rw [show (k + 1) * 4 = k * 4 + 1 + 1 + 1 + 1 by omega]
    simpa [tc] using this
/-- the four cells of a token -/
def Tc (w : World) (ad : Addr) (t : Tok) : Prop := w.cell? ad = some (.int .i64 t.k) ∧ w.cell? ⟨ad.block, ad.off + 1, none⟩ = some (.string (sv t.s)) ∧ w.cell? ⟨ad.block, ad.off + 2, none⟩ = some (.int .i64 t.n) ∧ w.cell? ⟨ad.block, ad.off + 3, none⟩ = some (.int .i64 t.p)
theorem Tc.keep {w w' : World} {ad : Addr} {t : Tok} (h : Tc w ad t) (hb : ad.block < w.heap.size) (hk : Keep w w') : Tc w' ad t := by
  obtain ⟨h0, h1, h2, h3⟩ := h
  refine ⟨?_, ?_, ?_, ?_⟩
  · rw [Below.cell hk hb]; exact h0
  · rw [Below.cell (p := ⟨ad.block, ad.off + 1, none⟩) hk hb]; exact h1
  · rw [Below.cell (p := ⟨ad.block, ad.off + 2, none⟩) hk hb]; exact h2
  · rw [Below.cell (p := ⟨ad.block, ad.off + 3, none⟩) hk hb]; exact h3
/-- v is a slice that reads as the tokens L -/
def Ts (w : World) (v : Value) (L : List Tok) : Prop := ∃ a cap, v = .slice a L.length cap ∧ L.length ≤ cap ∧ ∀ k, k < L.length → ∃ ad, a = some ad ∧ ad.block < w.heap.size ∧ Tc w (ad.add (k * 4)) (L.getD k t0)
theorem Ts.keep {w w' : World} {v : Value} {L : List Tok} (h : Ts w v L) (hk : Keep w w') : Ts w' v L := by
  obtain ⟨a, cap, rfl, hc, h⟩ := h
  refine ⟨a, cap, rfl, hc, fun k hlt => ?_⟩
  obtain ⟨ad, h0, h1, h2⟩ := h k hlt
  exact ⟨ad, h0, Nat.lt_of_lt_of_le h1 (Below.size hk), h2.keep (by rw [add_block]; exact h1) hk⟩
theorem Ts.shape {w : World} {v : Value} {L : List Tok} (h : Ts w v L) : ∃ a cap, v = .slice a L.length cap := by obtain ⟨a, cap, rfl, _⟩ := h; exact ⟨a, cap, rfl⟩
theorem ts_nil (w : World) : Ts w (.slice none 0 0) [] := ⟨none, 0, rfl, Nat.le_refl _, fun k h => by simp at h⟩
/-- what the call owns reads so -/
theorem ts_own {w : World} {base : Nat} {e : TypeId} {v : Value} {L : List Tok} (h : w.ownsRow base e 4 v L.length (tc L)) : Ts w v L := by
  obtain ⟨_, h⟩ := h
  rcases h with ⟨rfl, h0⟩ | ⟨g, cap, cur, rfl, hb, hg, hc, hm, hs, ht⟩
  · have : L = [] := List.eq_nil_of_length_eq_zero h0
    subst this
    exact ts_nil w
  · refine ⟨_, cap, rfl, hc, fun k hk => ⟨_, rfl, (Array.getElem?_eq_some_iff.1 hg).1, ?_⟩⟩
    have hh := tc_at L k hk
    rw [← ht, List.getElem?_take_of_lt (by omega), List.getElem?_take_of_lt (by omega), List.getElem?_take_of_lt (by omega), List.getElem?_take_of_lt (by omega)] at hh
    rw [add_plain, Nat.zero_add]
    unfold Tc
    simp only [World.cell?, hg]
    simpa using hh
end Go.Proofs.Ytjincjlalopbfaa

namespace Go.Proofs.Ytjincjlalopbfaa
open Go.RowKit
attribute [local go_sem ↓] Go.wp_at_zero Go.wp_at_succ
set_option linter.unusedVariables false
set_option linter.unusedSimpArgs false
set_option maxRecDepth 10000
/-- the words -/
def words : List (List UInt8) := [[99, 121, 99, 108, 101], [116, 111], [98, 121], [112, 101, 97, 107], [110, 111, 100, 101], [104, 101, 97, 100], [118, 111, 108, 117, 109, 101], [102, 108, 111, 119], [117, 115, 101], [115, 112, 101, 101, 100], [103, 114, 97, 100, 101], [119, 105, 100, 116, 104], [108, 101, 110, 103, 116, 104], [103, 114, 101, 101, 110], [119, 97, 108, 107], [119, 105, 116, 104], [108, 111, 110, 103], [112, 97, 99, 101], [108, 101, 97, 115, 116], [112, 104, 97, 115, 101], [103, 114, 111, 117, 112], [114, 105, 110, 103], [102, 114, 101, 101], [102, 111, 101], [97, 114, 116, 101, 114, 121], [115, 116, 111, 112], [111, 117, 116], [105, 110], [97, 104, 101, 97, 100], [98, 97, 99, 107], [119, 101, 105, 103, 104, 116, 115], [112, 108, 97, 110], [111, 102, 102, 115, 101, 116], [115, 117, 109], [115, 112, 108, 105, 116], [121, 101, 108, 108, 111, 119], [114, 101, 100], [102, 108, 97, 115, 104], [98, 101, 115, 116], [121, 101, 115], [110, 111], [115, 112, 101, 110, 116]]
end Go.Proofs.Ytjincjlalopbfaa

namespace Go.Proofs.Ytjincjlalopbfaa
open Go.RowKit
set_option linter.unusedVariables false
set_option linter.unusedSimpArgs false
/-- what is read: a plain value, or a slice of structs -/
inductive D where
  | val (v : Value)
  | row (e z : Nat) (L : List (List D))
abbrev Er := Int × Int
abbrev Rs := Except Er (List D × List Tok)
/-- a step: what was read so far, and the tokens that are left -/
abbrev Sp := List D → List Tok → Rs
def dS (s : List UInt8) : D := .val (.string (sv s))
def dI (n : Int) : D := .val (.int .i64 n)
def dB (b : Bool) : D := .val (.bool b)
/-- the error at the token that is next -/
def bad (e : Int) : List Tok → Rs
  | [] => .error (e, 0)
  | t :: _ => .error (e, t.p)
def pThe (s : List UInt8) : Sp
  | c, [] => bad 50 []
  | c, t :: r => if t.s = s then .ok (c, r) else bad 50 (t :: r)
def pName : Sp
  | c, [] => bad 50 []
  | c, t :: r => if t.k = 1 ∧ ¬ t.s ∈ words then .ok (c ++ [dS t.s], r) else bad 50 (t :: r)
def pPos : Sp
  | c, [] => bad 50 []
  | c, t :: r => .ok (c ++ [dI t.p], t :: r)
def pNum : Sp
  | c, [] => bad 50 []
  | c, t :: r => if t.k = 2 then .ok (c ++ [dI t.n], r) else bad 50 (t :: r)
def pEnd : Sp
  | c, [] => bad 50 []
  | c, t :: r => if t.k = 0 then .ok (c, t :: r) else bad 50 (t :: r)
def pMay (s : List UInt8) : Sp
  | c, [] => bad 50 []
  | c, t :: r => if t.s = s then .ok (c ++ [dB true], r) else .ok (c ++ [dB false], t :: r)
/-- one step behind the other -/
def sq : List Sp → Sp
  | [], c, r => .ok (c, r)
  | p :: ps, c, r => match p c r with
    | .error x => .error x
    | .ok (c', r') => sq ps c' r'
def pFrac : Sp := sq [pNum, pThe [47], pNum]
/-- a number behind a sign that may be there -/
def pGrade : Sp := fun c r => match sq [pMay [45], pNum] [] r with
  | .error x => .error x
  | .ok ([.val (.bool b), .val (.int .i64 n)], r') => .ok (c ++ [dI (if b then -n else n)], r')
  | .ok _ => .error (0, 0)
/-- names with commas between: so many at most, with fuel -/
def nmz (most : Nat) : Nat → List (List D) → List Tok → Except Er (List (List D) × List Tok)
  | 0, _, _ => .error (0, 0)
  | f + 1, L, r => match pName [] r with
    | .error x => .error x
    | .ok (d, r') =>
      if L.length = most then (match bad 4 r with | .error x => .error x | .ok _ => .error (0, 0))
      else match pMay [44] [] r' with
        | .ok ([.val (.bool true)], r2) => nmz most f (L ++ [d]) r2
        | .ok (_, r2) => .ok (L ++ [d], r2)
        | .error x => .error x
def pNames (e most : Nat) : Sp := fun c r => match nmz most (r.length + 1) [] r with
  | .error x => .error x
  | .ok (L, r') => .ok (c ++ [.row e 1 L], r')
/-- things that each begin with a word: so many at most, with fuel -/
def rwz (word : List UInt8) (most : Nat) (body : List Tok → Rs) : Nat → List (List D) → List Tok → Except Er (List (List D) × List Tok)
  | 0, _, _ => .error (0, 0)
  | _ + 1, _, [] => .error (50, 0)
  | f + 1, L, t :: r =>
    if t.s = word then
      (if L.length = most then .error (4, t.p)
       else match body r with
        | .error x => .error x
        | .ok (d, r') => rwz word most body f (L ++ [d]) r')
    else .ok (L, t :: r)
def pRow (word : List UInt8) (most e z : Nat) (body : List Tok → Rs) : Sp := fun c r => match rwz word most body (r.length + 1) [] r with
  | .error x => .error x
  | .ok (L, r') => .ok (c ++ [.row e z L], r')
/-- the place, which is read first, stands last -/
def rot : List D → List D
  | [] => []
  | d :: ds => ds ++ [d]
def rotd (p : List Tok → Rs) : List Tok → Rs := fun r => match p r with
  | .error x => .error x
  | .ok (c, r') => .ok (rot c, r')
/-- there must be a ring -/
def pSome : Sp := fun c r => match c with
  | [.row _ _ []] => bad 50 r
  | _ => .ok (c, r)
def pHead : List Tok → Rs := rotd (sq [pPos, pName, pThe [118, 111, 108, 117, 109, 101], pNum, pThe [102, 108, 111, 119], pNum, pThe [117, 115, 101], pFrac, pThe [115, 112, 101, 101, 100], pNum, pThe [103, 114, 97, 100, 101], pGrade, pThe [119, 105, 100, 116, 104], pNum, pThe [108, 101, 110, 103, 116, 104], pNum, pThe [103, 114, 101, 101, 110], pNum, pThe [59]] [])
def pWalk : List Tok → Rs := rotd (sq [pPos, pName, pThe [119, 105, 116, 104], pName, pThe [108, 111, 110, 103], pNum, pThe [112, 97, 99, 101], pNum, pThe [108, 101, 97, 115, 116], pNum, pThe [59]] [])
def pPhase : List Tok → Rs := rotd (sq [pPos, pName, pThe [58], pNames 9 16, pThe [59]] [])
def pRing : List Tok → Rs := sq [pMay [102, 114, 101, 101], pNames 9 4, pThe [59]] []
def pGroup : List Tok → Rs := sq [pThe [123], pRow [114, 105, 110, 103] 2 77 2 pRing, pSome, pThe [125]] []
def pFoe : List Tok → Rs := rotd (sq [pPos, pName, pName, pThe [59]] [])
def pStop : List Tok → Rs := rotd (sq [pPos, pName, pThe [111, 117, 116], pName, pThe [105, 110], pName, pThe [97, 104, 101, 97, 100], pNum, pThe [98, 97, 99, 107], pNum, pThe [59]] [])
def pNode : List Tok → Rs := rotd (sq [pPos, pName, pThe [123], pRow [104, 101, 97, 100] 16 42 11 pHead, pRow [119, 97, 108, 107] 8 72 6 pWalk, pRow [112, 104, 97, 115, 101] 16 61 3 pPhase, pRow [103, 114, 111, 117, 112] 4 75 1 pGroup, pRow [102, 111, 101] 64 79 3 pFoe, pThe [125]] [])
def pArt : Sp := fun c r => match pMay [97, 114, 116, 101, 114, 121] [] r with
  | .error x => .error x
  | .ok ([.val (.bool true)], r') => sq [pThe [123], pRow [115, 116, 111, 112] 12 53 6 pStop, pThe [119, 101, 105, 103, 104, 116, 115], pNum, pNum, pThe [59], pThe [125]] c r'
  | .ok (_, r') => .ok (c ++ [.row 53 6 [], dI 0, dI 0], r')
def pNet : List Tok → Rs := sq [pThe [99, 121, 99, 108, 101], pNum, pThe [116, 111], pNum, pThe [98, 121], pNum, pThe [59], pThe [112, 101, 97, 107], pFrac, pThe [59], pRow [110, 111, 100, 101] 12 40 7 pNode, pArt, pEnd] []
/-- the network of a text, or the error and its place -/
def N (l : List UInt8) : Except Er (List D) := match T l with
  | .error x => .error (x.1, (x.2 : Int))
  | .ok L => match pNet L with
    | .error x => .error x
    | .ok (c, _) => .ok c
end Go.Proofs.Ytjincjlalopbfaa

namespace Go.Proofs.Ytjincjlalopbfaa
set_option linter.unusedVariables false
set_option linter.unusedSimpArgs false
/-- no tokens are given back -/
def Mon (p : List Tok → Rs) : Prop := ∀ r c r', p r = .ok (c, r') → r'.length ≤ r.length
def MonS (p : Sp) : Prop := ∀ c r c' r', p c r = .ok (c', r') → r'.length ≤ r.length
theorem bad_ne {e : Int} {r : List Tok} {x : List D × List Tok} : bad e r ≠ .ok x := by cases r <;> simp [bad]
theorem mon_the (s : List UInt8) : MonS (pThe s) := by
  intro c r c' r' h
  cases r with
  | nil => simp [pThe, bad] at h
  | cons t r => simp only [pThe] at h; split at h; (simp at h; simp [← h.2]); exact absurd h bad_ne
theorem mon_name : MonS pName := by
  intro c r c' r' h
  cases r with
  | nil => simp [pName, bad] at h
  | cons t r => simp only [pName] at h; split at h; (simp at h; simp [← h.2]); exact absurd h bad_ne
theorem mon_num : MonS pNum := by
  intro c r c' r' h
  cases r with
  | nil => simp [pNum, bad] at h
  | cons t r => simp only [pNum] at h; split at h; (simp at h; simp [← h.2]); exact absurd h bad_ne
theorem mon_pos : MonS pPos := by
  intro c r c' r' h
  cases r with
  | nil => simp [pPos, bad] at h
  | cons t r => simp [pPos] at h; simp [← h.2]
theorem mon_end : MonS pEnd := by
  intro c r c' r' h
  cases r with
  | nil => simp [pEnd, bad] at h
  | cons t r => simp only [pEnd] at h; split at h; (simp at h; simp [← h.2]); exact absurd h bad_ne
theorem mon_may (s : List UInt8) : MonS (pMay s) := by
  intro c r c' r' h
  cases r with
  | nil => simp [pMay, bad] at h
  | cons t r => simp only [pMay] at h; split at h <;> (simp at h; simp [← h.2])
theorem mon_some : MonS pSome := by
  intro c r c' r' h
  simp only [pSome] at h
  split at h
  · exact absurd h bad_ne
  · simp at h; simp [h.2]
theorem mon_sq : ∀ (ps : List Sp), (∀ p ∈ ps, MonS p) → MonS (sq ps)
  | [], _, c, r, c', r', h => by simp [sq] at h; simp [h.2]
  | p :: ps, hp, c, r, c', r', h => by
    simp only [sq] at h
    split at h
    · cases h
    · rename_i c1 r1 h1
      exact Nat.le_trans (mon_sq ps (fun q hq => hp q (List.mem_cons_of_mem _ hq)) _ _ _ _ h) (hp p List.mem_cons_self _ _ _ _ h1)
theorem mon_frac : MonS pFrac := mon_sq _ (by intro p hp; simp at hp; rcases hp with rfl | rfl | rfl; exact mon_num; exact mon_the _; exact mon_num)
theorem mon_grade : MonS pGrade := by
  intro c r c' r' h
  have hs := mon_sq [pMay [45], pNum] (by intro p hp; simp at hp; rcases hp with rfl | rfl; exact mon_may _; exact mon_num)
  simp only [pGrade] at h
  split at h
  · cases h
  · rename_i h1; simp at h; rw [← h.2]; exact hs _ _ _ _ h1
  · cases h
theorem name_shrinks {c c' : List D} {r r' : List Tok} (h : pName c r = .ok (c', r')) : r'.length < r.length := by
  cases r with
  | nil => simp [pName, bad] at h
  | cons t r => simp only [pName] at h; split at h; (simp at h; simp [← h.2]); exact absurd h bad_ne
theorem nmz_fuel (most : Nat) : ∀ (f g : Nat) (L : List (List D)) (r : List Tok), r.length < f → r.length < g → nmz most f L r = nmz most g L r
  | 0, _, _, _, h, _ => by omega
  | _, 0, _, _, _, h => by omega
  | f + 1, g + 1, L, r, hf, hg => by
    simp only [nmz]
    split
    · rfl
    · rename_i d r' h1
      have := name_shrinks h1
      split
      · rfl
      · split
        · rename_i r2 h2
          have := mon_may _ _ _ _ _ h2
          exact nmz_fuel most f g _ r2 (by omega) (by omega)
        · rfl
        · rfl
/-- names, by what is there already -/
def nm (most : Nat) (L : List (List D)) (r : List Tok) : Except Er (List (List D) × List Tok) := nmz most (r.length + 1) L r
theorem nm_cons (most : Nat) (L : List (List D)) (t : Tok) (r : List Tok) : nm most L (t :: r) =
    if t.k = 1 ∧ ¬ t.s ∈ words then
      (if L.length = most then .error (4, t.p)
       else match r with
        | [] => .error (50, 0)
        | u :: r2 => if u.s = [44] then nm most (L ++ [[dS t.s]]) r2 else .ok (L ++ [[dS t.s]], u :: r2))
    else .error (50, t.p) := by
  unfold nm
  rw [nmz]
  by_cases h : t.k = 1 ∧ ¬ t.s ∈ words
  · have e : pName [] (t :: r) = .ok ([dS t.s], r) := by simp [pName, h]
    rw [e, if_pos h]
    by_cases h2 : L.length = most
    · simp [h2, bad]
    · simp only [if_neg h2]
      cases r with
      | nil => simp [pMay, bad]
      | cons u r2 =>
        by_cases h3 : u.s = [44]
        · simp only [pMay, if_pos h3, dB, List.nil_append]
          exact nmz_fuel most _ _ _ r2 (by simp; omega) (by simp)
        · simp [pMay, if_neg h3, dB]
  · have e : pName [] (t :: r) = .error (50, t.p) := by simp only [pName, if_neg h, bad]
    rw [e, if_neg h]
theorem nm_mon (most : Nat) : ∀ (f : Nat) (L : List (List D)) (r : List Tok) (L' : List (List D)) (r' : List Tok), nmz most f L r = .ok (L', r') → r'.length ≤ r.length
  | 0, _, _, _, _, h => by simp [nmz] at h
  | f + 1, L, r, L', r', h => by
    simp only [nmz] at h
    split at h
    · cases h
    · rename_i d r1 h1
      have := name_shrinks h1
      split at h
      · split at h <;> cases h
      · split at h
        · rename_i r2 h2
          have := mon_may _ _ _ _ _ h2
          have := nm_mon most f _ r2 _ _ h
          omega
        · rename_i r2 _ h2
          have := mon_may _ _ _ _ _ h2
          simp at h; rw [← h.2]; omega
        · cases h
theorem mon_names (e most : Nat) : MonS (pNames e most) := by
  intro c r c' r' h
  simp only [pNames] at h
  split at h
  · cases h
  · rename_i L r1 h1; simp at h; rw [← h.2]; exact nm_mon _ _ _ _ _ _ h1
theorem rwz_fuel (word : List UInt8) (most : Nat) (body : List Tok → Rs) (hm : Mon body) : ∀ (f g : Nat) (L : List (List D)) (r : List Tok), r.length < f → r.length < g → rwz word most body f L r = rwz word most body g L r
  | 0, _, _, _, h, _ => by omega
  | _, 0, _, _, _, h => by omega
  | f + 1, g + 1, L, [], hf, hg => by simp [rwz]
  | f + 1, g + 1, L, t :: r, hf, hg => by
    simp only [rwz]
    split
    · split
      · rfl
      · split
        · rfl
        · rename_i d r' h1
          have := hm _ _ _ h1
          simp at hf hg
          exact rwz_fuel word most body hm f g _ r' (by omega) (by omega)
    · rfl
/-- things, by what is there already -/
def rw_ (word : List UInt8) (most : Nat) (body : List Tok → Rs) (L : List (List D)) (r : List Tok) : Except Er (List (List D) × List Tok) := rwz word most body (r.length + 1) L r
theorem rw_cons (word : List UInt8) (most : Nat) (body : List Tok → Rs) (hm : Mon body) (L : List (List D)) (t : Tok) (r : List Tok) : rw_ word most body L (t :: r) =
    if t.s = word then
      (if L.length = most then .error (4, t.p)
       else match body r with
        | .error x => .error x
        | .ok (d, r') => rw_ word most body (L ++ [d]) r')
    else .ok (L, t :: r) := by
  unfold rw_
  rw [rwz]
  by_cases h : t.s = word
  · simp only [if_pos h]
    by_cases h2 : L.length = most
    · simp only [if_pos h2]
    · simp only [if_neg h2]
      cases h1 : body r with
      | error x => rfl
      | ok q =>
        obtain ⟨d, r'⟩ := q
        have := hm _ _ _ h1
        simp only [List.length_cons]
        exact rwz_fuel word most body hm _ _ _ r' (by omega) (by omega)
  · simp only [if_neg h]
theorem rwz_mon (word : List UInt8) (most : Nat) (body : List Tok → Rs) (hm : Mon body) : ∀ (f : Nat) (L : List (List D)) (r : List Tok) (L' : List (List D)) (r' : List Tok), rwz word most body f L r = .ok (L', r') → r'.length ≤ r.length
  | 0, _, _, _, _, h => by simp [rwz] at h
  | f + 1, L, [], L', r', h => by simp [rwz] at h
  | f + 1, L, t :: r, L', r', h => by
    simp only [rwz] at h
    split at h
    · split at h
      · cases h
      · split at h
        · cases h
        · rename_i d r1 h1
          have := hm _ _ _ h1
          have := rwz_mon word most body hm f _ r1 _ _ h
          simp; omega
    · simp at h; simp [← h.2]
theorem mon_row (word : List UInt8) (most e z : Nat) (body : List Tok → Rs) (hm : Mon body) : MonS (pRow word most e z body) := by
  intro c r c' r' h
  simp only [pRow] at h
  split at h
  · cases h
  · rename_i L r1 h1; simp at h; rw [← h.2]; exact rwz_mon _ _ _ hm _ _ _ _ _ h1
theorem mon_rotd {p : List Tok → Rs} (h : Mon p) : Mon (rotd p) := by
  intro r c r' e
  simp only [rotd] at e
  split at e
  · cases e
  · rename_i c1 r1 h1; simp at e; rw [← e.2]; exact h _ _ _ h1
theorem mon_of {ps : List Sp} (h : ∀ p ∈ ps, MonS p) : Mon (sq ps []) := fun r c r' e => mon_sq ps h _ _ _ _ e
theorem all_nil {α : Type} {Q : α → Prop} : ∀ p ∈ ([] : List α), Q p := fun p h => by cases h
theorem all_cons {α : Type} {Q : α → Prop} {a : α} {l : List α} (h : Q a) (t : ∀ p ∈ l, Q p) : ∀ p ∈ a :: l, Q p := fun p hp => by
  rcases List.mem_cons.1 hp with rfl | hp
  · exact h
  · exact t p hp
theorem mon_foe : Mon pFoe := mon_rotd (mon_of (by repeat (first | exact all_nil | (refine all_cons ?_ ?_; first | exact mon_pos | exact mon_name | exact mon_num | exact mon_the _ | exact mon_frac | exact mon_grade | exact mon_may _ | exact mon_names _ _ | exact mon_some | exact mon_end))))
theorem mon_walk : Mon pWalk := mon_rotd (mon_of (by repeat (first | exact all_nil | (refine all_cons ?_ ?_; first | exact mon_pos | exact mon_name | exact mon_num | exact mon_the _ | exact mon_frac | exact mon_grade | exact mon_may _ | exact mon_names _ _ | exact mon_some | exact mon_end))))
theorem mon_stop : Mon pStop := mon_rotd (mon_of (by repeat (first | exact all_nil | (refine all_cons ?_ ?_; first | exact mon_pos | exact mon_name | exact mon_num | exact mon_the _ | exact mon_frac | exact mon_grade | exact mon_may _ | exact mon_names _ _ | exact mon_some | exact mon_end))))
theorem mon_head : Mon pHead := mon_rotd (mon_of (by repeat (first | exact all_nil | (refine all_cons ?_ ?_; first | exact mon_pos | exact mon_name | exact mon_num | exact mon_the _ | exact mon_frac | exact mon_grade | exact mon_may _ | exact mon_names _ _ | exact mon_some | exact mon_end))))
theorem mon_phase : Mon pPhase := mon_rotd (mon_of (by repeat (first | exact all_nil | (refine all_cons ?_ ?_; first | exact mon_pos | exact mon_name | exact mon_num | exact mon_the _ | exact mon_frac | exact mon_grade | exact mon_may _ | exact mon_names _ _ | exact mon_some | exact mon_end))))
theorem mon_ring : Mon pRing := mon_of (by repeat (first | exact all_nil | (refine all_cons ?_ ?_; first | exact mon_pos | exact mon_name | exact mon_num | exact mon_the _ | exact mon_frac | exact mon_grade | exact mon_may _ | exact mon_names _ _ | exact mon_some | exact mon_end)))
theorem mon_group : Mon pGroup := mon_of (by repeat (first | exact all_nil | (refine all_cons ?_ ?_; first | exact mon_the _ | exact mon_row _ _ _ _ _ mon_ring | exact mon_some)))
theorem mon_node : Mon pNode := mon_rotd (mon_of (by repeat (first | exact all_nil | (refine all_cons ?_ ?_; first | exact mon_pos | exact mon_name | exact mon_the _ | exact mon_row _ _ _ _ _ mon_head | exact mon_row _ _ _ _ _ mon_walk | exact mon_row _ _ _ _ _ mon_phase | exact mon_row _ _ _ _ _ mon_group | exact mon_row _ _ _ _ _ mon_foe))))
end Go.Proofs.Ytjincjlalopbfaa

namespace Go.Proofs.Ytjincjlalopbfaa
set_option linter.unusedVariables false
set_option linter.unusedSimpArgs false
/-- tokens that end as they should -/
def W (r : List Tok) : Prop := ∃ m e, r = m ++ [e] ∧ e.k = 0 ∧ e.s = []
theorem W.ne {r : List Tok} (h : W r) : r ≠ [] := by obtain ⟨m, e, rfl, _⟩ := h; simp
end Go.Proofs.Ytjincjlalopbfaa

namespace Go.Proofs.Ytjincjlalopbfaa
set_option linter.unusedVariables false
set_option linter.unusedSimpArgs false
/-- the artery behind its word -/
def artIn : List Sp := [pThe [123], pRow [115, 116, 111, 112] 12 53 6 pStop, pThe [119, 101, 105, 103, 104, 116, 115], pNum, pNum, pThe [59], pThe [125]]
theorem art_yes {c : List D} {t : Tok} {r : List Tok} (h : t.s = [97, 114, 116, 101, 114, 121]) : pArt c (t :: r) = sq artIn c r := by simp [pArt, pMay, h, dB, artIn]
theorem art_no {c : List D} {t : Tok} {r : List Tok} (h : ¬ t.s = [97, 114, 116, 101, 114, 121]) : pArt c (t :: r) = .ok (c ++ [.row 53 6 [], dI 0, dI 0], t :: r) := by simp [pArt, pMay, h, dB]
end Go.Proofs.Ytjincjlalopbfaa

namespace Go.Proofs.Ytjincjlalopbfaa
set_option linter.unusedVariables false
set_option linter.unusedSimpArgs false
/-- a token without its place -/
def q0 (t : Tok) : Tok := ⟨t.k, t.s, t.n, 0⟩
/-- does a thing of so many parts have a place (it stands last)? -/
def plc (z : Nat) : Bool := z == 3 || z == 6 || z == 7 || z == 11
mutual
/-- what is read without its places -/
def Z : D → D
  | .val v => .val v
  | .row e z L => .row e z (Zss (plc z) L)
def Zl : Bool → List D → List D
  | _, [] => []
  | b, d :: ds => (if b && ds.isEmpty then dI 0 else Z d) :: Zl b ds
def Zss : Bool → List (List D) → List (List D)
  | _, [] => []
  | b, ds :: L => Zl b ds :: Zss b L
end
end Go.Proofs.Ytjincjlalopbfaa
