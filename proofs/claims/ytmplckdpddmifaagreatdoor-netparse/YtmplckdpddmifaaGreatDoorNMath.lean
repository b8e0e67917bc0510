/- Networks in plain words: what is read, as a tree; the grammar over tokens. No program is met here. -/
import Derived.Test.YtmplckdpddmifaaGreatDoorLRes
import Derived.Test.YtmplckdpddmifaaGreatDoorLTok
namespace Go.Proofs.YtmplckdpddmifaaGreatDoor
open Go.RowKit
set_option linter.unusedVariables false
set_option linter.unusedSimpArgs false
/-- what is read: a plain value, or a slice of structs -/
inductive D where
  | val (v : Value)
  | row (e z : Nat) (L : List (List D))
abbrev Er := Int × Int
abbrev Rs := Except Er (List D × List Tok)
/-- a step: what was read so far, and the tokens that are left -/
abbrev Sp := List D → List Tok → Rs
def dS (s : List UInt8) : D := .val (.string (sv s))
def dI (n : Int) : D := .val (.int .i64 n)
def dB (b : Bool) : D := .val (.bool b)
/-- the error at the token that is next -/
def bad (e : Int) : List Tok → Rs
  | [] => .error (e, 0)
  | t :: _ => .error (e, t.p)
def pThe (s : List UInt8) : Sp
  | c, [] => bad 50 []
  | c, t :: r => if t.s = s then .ok (c, r) else bad 50 (t :: r)
def pName : Sp
  | c, [] => bad 50 []
  | c, t :: r => if t.k = 1 ∧ ¬ t.s ∈ words then .ok (c ++ [dS t.s], r) else bad 50 (t :: r)
def pPos : Sp
  | c, [] => bad 50 []
  | c, t :: r => .ok (c ++ [dI t.p], t :: r)
def pNum : Sp
  | c, [] => bad 50 []
  | c, t :: r => if t.k = 2 then .ok (c ++ [dI t.n], r) else bad 50 (t :: r)
def pEnd : Sp
  | c, [] => bad 50 []
  | c, t :: r => if t.k = 0 then .ok (c, t :: r) else bad 50 (t :: r)
def pMay (s : List UInt8) : Sp
  | c, [] => bad 50 []
  | c, t :: r => if t.s = s then .ok (c ++ [dB true], r) else .ok (c ++ [dB false], t :: r)
/-- one step behind the other -/
def sq : List Sp → Sp
  | [], c, r => .ok (c, r)
  | p :: ps, c, r => match p c r with
    | .error x => .error x
    | .ok (c', r') => sq ps c' r'
def pFrac : Sp := sq [pNum, pThe [47], pNum]
/-- a number behind a sign that may be there -/
def pGrade : Sp := fun c r => match sq [pMay [45], pNum] [] r with
  | .error x => .error x
  | .ok ([.val (.bool b), .val (.int .i64 n)], r') => .ok (c ++ [dI (if b then -n else n)], r')
  | .ok _ => .error (0, 0)
/-- names with commas between: so many at most, with fuel -/
def nmz (most : Nat) : Nat → List (List D) → List Tok → Except Er (List (List D) × List Tok)
  | 0, _, _ => .error (0, 0)
  | f + 1, L, r => match pName [] r with
    | .error x => .error x
    | .ok (d, r') =>
      if L.length = most then (match bad 4 r with | .error x => .error x | .ok _ => .error (0, 0))
      else match pMay [44] [] r' with
        | .ok ([.val (.bool true)], r2) => nmz most f (L ++ [d]) r2
        | .ok (_, r2) => .ok (L ++ [d], r2)
        | .error x => .error x
def pNames (e most : Nat) : Sp := fun c r => match nmz most (r.length + 1) [] r with
  | .error x => .error x
  | .ok (L, r') => .ok (c ++ [.row e 1 L], r')
/-- things that each begin with a word: so many at most, with fuel -/
def rwz (word : List UInt8) (most : Nat) (body : List Tok → Rs) : Nat → List (List D) → List Tok → Except Er (List (List D) × List Tok)
  | 0, _, _ => .error (0, 0)
  | _ + 1, _, [] => .error (50, 0)
  | f + 1, L, t :: r =>
    if t.s = word then
      (if L.length = most then .error (4, t.p)
       else match body r with
        | .error x => .error x
        | .ok (d, r') => rwz word most body f (L ++ [d]) r')
    else .ok (L, t :: r)
def pRow (word : List UInt8) (most e z : Nat) (body : List Tok → Rs) : Sp := fun c r => match rwz word most body (r.length + 1) [] r with
  | .error x => .error x
  | .ok (L, r') => .ok (c ++ [.row e z L], r')
/-- the place, which is read first, stands last -/
def rot : List D → List D
  | [] => []
  | d :: ds => ds ++ [d]
def rotd (p : List Tok → Rs) : List Tok → Rs := fun r => match p r with
  | .error x => .error x
  | .ok (c, r') => .ok (rot c, r')
/-- there must be a ring -/
def pSome : Sp := fun c r => match c with
  | [.row _ _ []] => bad 50 r
  | _ => .ok (c, r)
def pHead : List Tok → Rs := rotd (sq [pPos, pName, pThe [118, 111, 108, 117, 109, 101], pNum, pThe [102, 108, 111, 119], pNum, pThe [117, 115, 101], pFrac, pThe [115, 112, 101, 101, 100], pNum, pThe [103, 114, 97, 100, 101], pGrade, pThe [119, 105, 100, 116, 104], pNum, pThe [108, 101, 110, 103, 116, 104], pNum, pThe [103, 114, 101, 101, 110], pNum, pThe [59]] [])
def pWalk : List Tok → Rs := rotd (sq [pPos, pName, pThe [119, 105, 116, 104], pName, pThe [108, 111, 110, 103], pNum, pThe [112, 97, 99, 101], pNum, pThe [108, 101, 97, 115, 116], pNum, pThe [59]] [])
def pPhase : List Tok → Rs := rotd (sq [pPos, pName, pThe [58], pNames 9 16, pThe [59]] [])
def pRing : List Tok → Rs := sq [pMay [102, 114, 101, 101], pNames 9 4, pThe [59]] []
def pGroup : List Tok → Rs := sq [pThe [123], pRow [114, 105, 110, 103] 2 117 2 pRing, pSome, pThe [125]] []
def pFoe : List Tok → Rs := rotd (sq [pPos, pName, pName, pThe [59]] [])
def pStop : List Tok → Rs := rotd (sq [pPos, pName, pThe [111, 117, 116], pName, pThe [105, 110], pName, pThe [97, 104, 101, 97, 100], pNum, pThe [98, 97, 99, 107], pNum, pThe [59]] [])
def pNode : List Tok → Rs := rotd (sq [pPos, pName, pThe [123], pRow [104, 101, 97, 100] 16 77 11 pHead, pRow [119, 97, 108, 107] 8 101 6 pWalk, pRow [112, 104, 97, 115, 101] 16 105 3 pPhase, pRow [103, 114, 111, 117, 112] 4 109 1 pGroup, pRow [102, 111, 101] 64 112 3 pFoe, pThe [125]] [])
def pArt : Sp := fun c r => match pMay [97, 114, 116, 101, 114, 121] [] r with
  | .error x => .error x
  | .ok ([.val (.bool true)], r') => sq [pThe [123], pRow [115, 116, 111, 112] 12 114 6 pStop, pThe [119, 101, 105, 103, 104, 116, 115], pNum, pNum, pThe [59], pThe [125]] c r'
  | .ok (_, r') => .ok (c ++ [.row 114 6 [], dI 0, dI 0], r')
def pNet : List Tok → Rs := sq [pThe [99, 121, 99, 108, 101], pNum, pThe [116, 111], pNum, pThe [98, 121], pNum, pThe [59], pThe [112, 101, 97, 107], pFrac, pThe [59], pRow [110, 111, 100, 101] 12 61 7 pNode, pArt, pEnd] []
/-- the network of a text, or the error and its place -/
def N (l : List UInt8) : Except Er (List D) := match T l with
  | .error x => .error (x.1, (x.2 : Int))
  | .ok L => match pNet L with
    | .error x => .error x
    | .ok (c, _) => .ok c
end Go.Proofs.YtmplckdpddmifaaGreatDoor
