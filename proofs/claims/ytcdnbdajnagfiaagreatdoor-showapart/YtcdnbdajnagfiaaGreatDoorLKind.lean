/- Plain numbers: what fits 64 bits; what sums, quotients and rests are. No program is met here. -/
import Derived.WalkKit
import Derived.Deep.DrawnRows
import Derived.Deep.RegionHeld
import Derived.Deep.RegionHeld3
import Derived.ProofKit
import Derived.Test.YtcdnbdajnagfiaaGreatDoorProg
namespace Go.Proofs.YtcdnbdajnagfiaaGreatDoor
open Go.RowKit
set_option linter.unusedVariables false

theorem hide {p : Prop} (h : p) : Hid p := h
theorem unhide {p : Prop} (h : Hid p) : p := h
/-- nothing that was there has turned; there may be new blocks -/
def Keep (w w' : World) : Prop := Below w.heap.size w w'
theorem Keep.refl (w : World) : Keep w w := Below.refl _ _
theorem Keep.trans {a b c : World} (h : Keep a b) (k : Keep b c) : Keep a c := Below.trans h (Below.mono k h.size)
theorem Keep.drew {a b : World} (h : Keep a b) : Keep a b.drew := Below.drew h
theorem Keep.alloc {a b : World} (h : Keep a b) (o : Obj) : Keep a (b.alloc o) := Below.alloc h h.size o
/-- does a number fit 64 bits with a sign? -/
def fit (n : Int) : Bool := decide (-9223372036854775808 ≤ n ∧ n ≤ 9223372036854775807)
theorem one_ret {k : IntKind} {a b : Int} (h : a = b) : Ending.returned (.int k a) = .returned (.int k b) := by rw [h]
/-! ### products -/
/-- how a frame is laid out, under short names -/
theorem Ya {α : Type} (l : List α) (i : Nat) (a : α) : l.toArray.setIfInBounds i a = (l.set i a).toArray := List.setIfInBounds_toArray ..
theorem Yb {α : Type} {x y : α} {xs : List α} : (x :: xs).set 0 y = y :: xs := List.set_cons_zero
theorem Yc {α : Type} {x y : α} {n : Nat} {xs : List α} : (x :: xs).set (n + 1) y = x :: xs.set n y := List.set_cons_succ
theorem uq {p : Prop} (h : Hid p) : p := h
end Go.Proofs.YtcdnbdajnagfiaaGreatDoor

namespace Go.Proofs.YtcdnbdajnagfiaaGreatDoor
section
variable {P : Program} {ops : Array Oper} {Q : Exit → Act → World → Prop} {md : Region.Mode} {S : World → Prop}
theorem tkk (i d : Nat) {oi : Oper} {v : Value} {fuel : Nat} {listed : Array Bool} {a : Act} {w : World} (hS : S w) (h : wpAnyH P md ops Q S fuel (listed.setIfInBounds i true) (a.put (some d) v) w)
    (hi : ops[i]? = some oi := by rfl) (hd : oi.dst = some d := by rfl) (hs : Region.noSelect ops = true := by kernel_rfl) (hf : Region.free md ops listed i = true := by kernel_rfl) (hr : (Region.ready md ops listed).contains i = true := by kernel_rfl)
    (hQ : ∀ c a w, Q (.panic c) (a.put oi.dst v) w → Q (.panic c) a w := by exact fun _ _ _ h => h) (hy : YieldsIf P ops S oi v a := by exact Or.inl ⟨by rfl, by intro w hSw; (try dsimp only at hSw); go_simp; (try with_reducible rfl)⟩) : wpAnyH P md ops Q S (fuel + 1) listed a w :=
  wpAnyH_take hi hs hf hr hQ hy hS (hd ▸ h)
theorem rdyy (i : Nat) {fuel : Nat} {listed : Array Bool} {a : Act} {w : World} {o : Oper}
    (h : ∀ K' : Act → World → Prop, Shut (∀ a w, S w → (S w → wpAnyH P md ops Q S fuel (listed.setIfInBounds i true) a w) → K' a w) → if Region.wanted o (yielded ops a.tmps) = true then Oper.wp P o a w K' Q else K' (a.put o.dst undef) w)
    (ho : ops[i]? = some o := by rfl) (hr : Region.ready md ops listed = [i] := by kernel_rfl) : wpAnyH P md ops Q S (fuel + 1) listed a w :=
  wpAnyH_ready hr (by simp) (AllReadyH.cons ho h AllReadyH.nil)
end
end Go.Proofs.YtcdnbdajnagfiaaGreatDoor

namespace Go.Proofs.YtcdnbdajnagfiaaGreatDoor
set_option linter.unusedVariables false
/-- what a byte does -/
def kd (c : Int) : Int :=
  if c = 32 ∨ c = 9 ∨ c = 13 then 1 else if c = 10 then 2 else if c = 35 then 3 else if c = 95 then 6
  else if c = 123 ∨ c = 125 ∨ c = 44 ∨ c = 59 ∨ c = 58 ∨ c = 47 ∨ c = 45 then 7
  else if 97 ≤ c ∧ c ≤ 122 then 4 else if 48 ≤ c ∧ c ≤ 57 then 5 else 0
/-- does a byte of the second kind go on with what one of the first begins? -/
def on (f n : Int) : Bool :=
  if f = 3 then decide (n ≠ 2) else if f = 4 then decide (n = 4 ∨ n = 6 ∨ n = 5) else if f = 5 then decide (n = 5) else false
theorem on_iff (f n : Int) : on f n = true ↔ (f = 3 ∧ n ≠ 2) ∨ (f = 4 ∧ (n = 4 ∨ n = 6 ∨ n = 5)) ∨ (f = 5 ∧ n = 5) := by
  unfold on
  (repeat' split) <;> simp <;> omega
/-- how many bytes at the front have it -/
def tw (P : UInt8 → Bool) (l : List UInt8) : Nat := (l.takeWhile P).length
theorem tw_step (P : UInt8 → Bool) (l : List UInt8) (k : Nat) (h : k < l.length) : tw P (l.drop k) = if P (l.getD k 0) then 1 + tw P (l.drop (k + 1)) else 0 := by
  unfold tw
  rw [List.drop_eq_getElem_cons h, List.takeWhile_cons, List.getD_eq_getElem?_getD, List.getElem?_eq_getElem h, Option.getD_some]
  split <;> simp <;> omega
theorem tw_end (P : UInt8 → Bool) (l : List UInt8) (k : Nat) (h : l.length ≤ k) : tw P (l.drop k) = 0 := by
  unfold tw
  rw [List.drop_eq_nil_of_le h]; rfl
theorem tw_le (P : UInt8 → Bool) (l : List UInt8) : tw P l ≤ l.length := List.Sublist.length_le (List.takeWhile_sublist P)
/-- what goes on with a byte -/
def goes (c : UInt8) (x : UInt8) : Bool := on (kd c.toNat) (kd x.toNat)
/-- how long what begins here is -/
def en : List UInt8 → Nat
  | [] => 0
  | c :: r => 1 + tw (goes c) r
theorem en_at (l : List UInt8) (k : Nat) (h : k < l.length) : en (l.drop k) = 1 + tw (goes (l.getD k 0)) (l.drop (k + 1)) := by
  rw [List.drop_eq_getElem_cons h, List.getD_eq_getElem?_getD, List.getElem?_eq_getElem h, Option.getD_some]; rfl
theorem en_le (l : List UInt8) : en l ≤ l.length := by
  cases l with
  | nil => exact Nat.le_refl _
  | cons c r => have := tw_le (goes c) r; simp [en]; omega
theorem kd_1 (c : Int) : kd c = 1 ↔ (c = 32 ∨ c = 9 ∨ c = 13) := by unfold kd; (repeat' split) <;> omega
theorem kd_2 (c : Int) : kd c = 2 ↔ c = 10 := by unfold kd; (repeat' split) <;> omega
theorem kd_3 (c : Int) : kd c = 3 ↔ c = 35 := by unfold kd; (repeat' split) <;> omega
theorem kd_6 (c : Int) : kd c = 6 ↔ c = 95 := by unfold kd; (repeat' split) <;> omega
theorem kd_7 (c : Int) : kd c = 7 ↔ (c = 123 ∨ c = 125 ∨ c = 44 ∨ c = 59 ∨ c = 58 ∨ c = 47 ∨ c = 45) := by unfold kd; (repeat' split) <;> omega
theorem kd_4 (c : Int) : kd c = 4 ↔ (97 ≤ c ∧ c ≤ 122) := by unfold kd; (repeat' split) <;> omega
theorem kd_5 (c : Int) : kd c = 5 ↔ (48 ≤ c ∧ c ≤ 57) := by unfold kd; (repeat' split) <;> omega
/-- how many bytes are passed over (b: within a remark) -/
def skp : Bool → List UInt8 → Nat
  | _, [] => 0
  | true, c :: r => 1 + skp (decide (kd c.toNat ≠ 2)) r
  | false, c :: r => if kd c.toNat = 3 then 1 + skp true r else if kd c.toNat = 1 ∨ kd c.toNat = 2 then 1 + skp false r else 0
theorem skp_le : ∀ (b : Bool) (l : List UInt8), skp b l ≤ l.length
  | b, [] => by cases b <;> exact Nat.le_refl _
  | true, c :: r => by have := skp_le (decide (kd c.toNat ≠ 2)) r; simp only [skp, List.length_cons]; omega
  | false, c :: r => by
    have h1 := skp_le true r
    have h2 := skp_le false r
    simp only [skp, List.length_cons]
    (repeat' split) <;> omega
theorem skp_true : ∀ r : List UInt8, skp true r = tw (fun x => on 3 (kd x.toNat)) r + skp false (r.drop (tw (fun x => on 3 (kd x.toNat)) r))
  | [] => rfl
  | c :: r => by
    have ih := skp_true r
    by_cases h : kd c.toNat = 2
    · have h0 : on 3 (kd c.toNat) = false := by rw [h]; decide
      have e : tw (fun x => on 3 (kd x.toNat)) (c :: r) = 0 := by unfold tw; rw [List.takeWhile_cons]; simp [h0]
      rw [e, List.drop_zero]
      simp [skp, h]
    · have h0 : on 3 (kd c.toNat) = true := by rw [on_iff]; exact .inl ⟨rfl, h⟩
      have e : tw (fun x => on 3 (kd x.toNat)) (c :: r) = 1 + tw (fun x => on 3 (kd x.toNat)) r := by unfold tw; rw [List.takeWhile_cons]; simp [h0]; omega
      rw [e, Nat.add_comm 1 (tw _ r), List.drop_succ_cons]
      simp only [skp, ne_eq, h, not_false_eq_true, decide_true]
      omega
theorem tw_none {P : UInt8 → Bool} {l : List UInt8} (h : ∀ x, P x = false) : tw P l = 0 := by
  unfold tw
  cases l with
  | nil => rfl
  | cons c r => rw [List.takeWhile_cons]; simp [h]
theorem skp_en {c : UInt8} {r : List UInt8} (h : kd c.toNat = 1 ∨ kd c.toNat = 2 ∨ kd c.toNat = 3) : skp false (c :: r) = en (c :: r) + skp false ((c :: r).drop (en (c :: r))) := by
  rcases h with h | h | h
  · have e : tw (goes c) r = 0 := tw_none fun x => by unfold goes; rw [h]; unfold on; simp
    simp [en, e, skp, h]
  · have e : tw (goes c) r = 0 := tw_none fun x => by unfold goes; rw [h]; unfold on; simp
    simp [en, e, skp, h]
  · have e : goes c = fun x => on 3 (kd x.toNat) := by funext x; unfold goes; rw [h]
    have := skp_true r
    simp only [en, e, skp, h, if_true, Nat.add_comm 1 (tw _ r), List.drop_succ_cons]
    omega
theorem drop_at (l : List UInt8) (k : Nat) (h : k < l.length) : l.drop k = l.getD k 0 :: l.drop (k + 1) := by
  rw [List.drop_eq_getElem_cons h, List.getD_eq_getElem?_getD, List.getElem?_eq_getElem h, Option.getD_some]
/-- the place behind what is passed over, from a place on -/
def sk (b : Bool) (l : List UInt8) (k : Nat) : Nat := k + skp b (l.drop k)
theorem sk_end (b : Bool) (l : List UInt8) (k : Nat) (h : l.length ≤ k) : sk b l k = k := by
  unfold sk; rw [List.drop_eq_nil_of_le h]; cases b <;> rfl
theorem sk_en (l : List UInt8) (k : Nat) (h : k < l.length) (hk : kd (l.getD k 0).toNat = 1 ∨ kd (l.getD k 0).toNat = 2 ∨ kd (l.getD k 0).toNat = 3) : sk false l (k + en (l.drop k)) = sk false l k := by
  unfold sk
  have e := drop_at l k h
  rw [← List.drop_drop, e, skp_en hk]
  omega
theorem sk_stop (l : List UInt8) (k : Nat) (h : k < l.length) (hk : ¬ (kd (l.getD k 0).toNat = 1 ∨ kd (l.getD k 0).toNat = 2 ∨ kd (l.getD k 0).toNat = 3)) : sk false l k = k := by
  unfold sk
  rw [drop_at l k h]
  simp only [skp]
  rw [if_neg (fun h => hk (.inr (.inr h))), if_neg (fun h => hk (h.elim .inl fun h => .inr (.inl h)))]
  rfl
theorem sk_t10 (l : List UInt8) (k : Nat) (h : k < l.length) (hk : kd (l.getD k 0).toNat = 2) : sk true l k = sk false l k := by
  unfold sk
  rw [drop_at l k h]
  generalize l.getD k 0 = c at hk ⊢
  simp [skp, hk]
theorem sk_tgo (l : List UInt8) (k : Nat) (h : k < l.length) (hk : kd (l.getD k 0).toNat ≠ 2) : sk true l (k + 1) = sk true l k := by
  unfold sk
  rw [drop_at l k h]
  simp only [skp, hk, ne_eq, not_false_eq_true, decide_true]
  omega
theorem sk_hash (l : List UInt8) (k : Nat) (h : k < l.length) (hk : kd (l.getD k 0).toNat = 3) : sk true l k = sk false l k := by
  unfold sk
  rw [drop_at l k h]
  generalize l.getD k 0 = c at hk ⊢
  simp [skp, hk]
theorem sk_blank (l : List UInt8) (k : Nat) (h : k < l.length) (hk : kd (l.getD k 0).toNat = 1 ∨ kd (l.getD k 0).toNat = 2) : sk false l (k + 1) = sk false l k := by
  unfold sk
  rw [drop_at l k h]
  simp only [skp]
  rw [if_neg (by omega), if_pos hk]
  omega
theorem sk_le (b : Bool) (l : List UInt8) (k : Nat) (h : k ≤ l.length) : sk b l k ≤ l.length := by
  have := skp_le b (l.drop k)
  rw [List.length_drop] at this
  unfold sk; omega
theorem sk_ge (b : Bool) (l : List UInt8) (k : Nat) : k ≤ sk b l k := by unfold sk; omega
end Go.Proofs.YtcdnbdajnagfiaaGreatDoor

namespace Go.Proofs.YtcdnbdajnagfiaaGreatDoor
open Go.RowKit
set_option linter.unusedVariables false
/-- the world with later blocks, so many numbers drawn -/
def ext (w : World) (os : Array Obj) (k : Nat) : World := { w with heap := w.heap ++ os, drawn := k }
theorem Keep.ext {w w' : World} (h : Keep w w') : ∃ os k, w' = ext w os k := by
  obtain ⟨h1, h2, h3, h4, h5⟩ := h
  refine ⟨w'.heap.extract w.heap.size w'.heap.size, w'.drawn, ?_⟩
  have e : w'.heap = w.heap ++ w'.heap.extract w.heap.size w'.heap.size := by
    apply Array.ext_getElem?
    intro i
    by_cases hi : i < w.heap.size
    · rw [h5 i hi, Array.getElem?_append_left hi]
    · rw [Array.getElem?_append_right (by omega), Array.getElem?_extract]
      by_cases h6 : i < w'.heap.size
      · rw [if_pos (by omega)]
        congr 1; omega
      · rw [if_neg (by omega), Array.getElem?_eq_none (by omega)]
  obtain ⟨a, b, c, d, f⟩ := w'
  obtain ⟨a', b', c', d', f'⟩ := w
  simp only at h1 h2 h3 e
  subst h1 h2 h3
  simp only [Proofs.YtcdnbdajnagfiaaGreatDoor.ext]
  rw [← e]
theorem keep_ext {a w : World} (h : Keep a w) (os : Array Obj) (k : Nat) : Keep a (ext w os k) := by
  refine h.trans ⟨rfl, rfl, rfl, by simp [ext], fun i hi => ?_⟩
  simp only [ext]
  rw [Array.getElem?_append_left hi]
@[go_sem, simp] theorem ext_size (w : World) (os : Array Obj) (k : Nat) : (ext w os k).heap.size = w.heap.size + os.size := by simp [ext]
@[go_sem] theorem ext_cell (w : World) (os : Array Obj) (k n i : Nat) (hn : n < w.heap.size) : (ext w os k).cell? ⟨n, i, none⟩ = w.cell? ⟨n, i, none⟩ :=
  (keep_ext (Keep.refl w) os k).cell hn
@[go_sem] theorem ext_frozen (w : World) (os : Array Obj) (k n i : Nat) (hn : n < w.heap.size) : (ext w os k).frozen? ⟨n, i, none⟩ = w.frozen? ⟨n, i, none⟩ :=
  (keep_ext (Keep.refl w) os k).frozen hn
@[go_sem] theorem ext_setCell (w : World) (os : Array Obj) (k n i : Nat) (v : Value) (hn : n < w.heap.size) : (ext w os k).setCell ⟨n, i, none⟩ v = ext (w.setCell ⟨n, i, none⟩ v) os k := by
  unfold World.setCell ext
  congr 1
  apply Array.ext_getElem?
  intro j
  simp only [Array.getElem?_modify, Array.getElem?_append, Array.size_modify]
  by_cases hj : j < w.heap.size
  · simp [hj]
  · have : ¬ n = j := by omega
    simp [hj, this]
@[go_sem] theorem ext_ext (w : World) (o1 o2 : Array Obj) (k1 k2 : Nat) : ext (ext w o1 k1) o2 k2 = ext w (o1 ++ o2) k2 := by simp [ext, Array.append_assoc]
@[go_sem] theorem ext_drew (w : World) (os : Array Obj) (k : Nat) : ext w.drew os k = ext w os k := rfl
@[go_sem] theorem lt_o1x0 (a x : Nat) : a < a + 1 + x := by omega
@[go_sem] theorem lt_o1x1 (a x : Nat) : a < a + 1 + x + 1 := by omega
@[go_sem] theorem lt_o1x1y0 (a x y : Nat) : a < a + 1 + x + 1 + y := by omega
@[go_sem] theorem lt_o1x1y1 (a x y : Nat) : a < a + 1 + x + 1 + y + 1 := by omega
@[go_sem] theorem lt_o1x1y2 (a x y : Nat) : a < a + 1 + x + 1 + y + 1 + 1 := by omega
@[go_sem] theorem lt_o1x1y3 (a x y : Nat) : a < a + 1 + x + 1 + y + 1 + 1 + 1 := by omega
@[go_sem] theorem lt_o1x2 (a x : Nat) : a < a + 1 + x + 1 + 1 := by omega
@[go_sem] theorem lt_o1x2y0 (a x y : Nat) : a < a + 1 + x + 1 + 1 + y := by omega
@[go_sem] theorem lt_o1x2y1 (a x y : Nat) : a < a + 1 + x + 1 + 1 + y + 1 := by omega
@[go_sem] theorem lt_o1x2y2 (a x y : Nat) : a < a + 1 + x + 1 + 1 + y + 1 + 1 := by omega
@[go_sem] theorem lt_o1x2y3 (a x y : Nat) : a < a + 1 + x + 1 + 1 + y + 1 + 1 + 1 := by omega
@[go_sem] theorem lt_o1x3 (a x : Nat) : a < a + 1 + x + 1 + 1 + 1 := by omega
@[go_sem] theorem lt_o1x3y0 (a x y : Nat) : a < a + 1 + x + 1 + 1 + 1 + y := by omega
@[go_sem] theorem lt_o1x3y1 (a x y : Nat) : a < a + 1 + x + 1 + 1 + 1 + y + 1 := by omega
@[go_sem] theorem lt_o1x3y2 (a x y : Nat) : a < a + 1 + x + 1 + 1 + 1 + y + 1 + 1 := by omega
@[go_sem] theorem lt_o1x3y3 (a x y : Nat) : a < a + 1 + x + 1 + 1 + 1 + y + 1 + 1 + 1 := by omega
@[go_sem] theorem lt_o2 (a : Nat) : a < a + 1 + 1 := by omega
@[go_sem] theorem lt_o2x0 (a x : Nat) : a < a + 1 + 1 + x := by omega
@[go_sem] theorem lt_o2x1 (a x : Nat) : a < a + 1 + 1 + x + 1 := by omega
@[go_sem] theorem lt_o2x1y0 (a x y : Nat) : a < a + 1 + 1 + x + 1 + y := by omega
@[go_sem] theorem lt_o2x1y1 (a x y : Nat) : a < a + 1 + 1 + x + 1 + y + 1 := by omega
@[go_sem] theorem lt_o2x1y2 (a x y : Nat) : a < a + 1 + 1 + x + 1 + y + 1 + 1 := by omega
@[go_sem] theorem lt_o2x1y3 (a x y : Nat) : a < a + 1 + 1 + x + 1 + y + 1 + 1 + 1 := by omega
@[go_sem] theorem lt_o2x2 (a x : Nat) : a < a + 1 + 1 + x + 1 + 1 := by omega
@[go_sem] theorem lt_o2x2y0 (a x y : Nat) : a < a + 1 + 1 + x + 1 + 1 + y := by omega
@[go_sem] theorem lt_o2x2y1 (a x y : Nat) : a < a + 1 + 1 + x + 1 + 1 + y + 1 := by omega
@[go_sem] theorem lt_o2x2y2 (a x y : Nat) : a < a + 1 + 1 + x + 1 + 1 + y + 1 + 1 := by omega
@[go_sem] theorem lt_o2x2y3 (a x y : Nat) : a < a + 1 + 1 + x + 1 + 1 + y + 1 + 1 + 1 := by omega
@[go_sem] theorem lt_o2x3 (a x : Nat) : a < a + 1 + 1 + x + 1 + 1 + 1 := by omega
@[go_sem] theorem lt_o2x3y0 (a x y : Nat) : a < a + 1 + 1 + x + 1 + 1 + 1 + y := by omega
@[go_sem] theorem lt_o2x3y1 (a x y : Nat) : a < a + 1 + 1 + x + 1 + 1 + 1 + y + 1 := by omega
@[go_sem] theorem lt_o2x3y2 (a x y : Nat) : a < a + 1 + 1 + x + 1 + 1 + 1 + y + 1 + 1 := by omega
@[go_sem] theorem lt_o2x3y3 (a x y : Nat) : a < a + 1 + 1 + x + 1 + 1 + 1 + y + 1 + 1 + 1 := by omega
@[go_sem] theorem lt_o3 (a : Nat) : a < a + 1 + 1 + 1 := by omega
@[go_sem] theorem lt_o3x0 (a x : Nat) : a < a + 1 + 1 + 1 + x := by omega
@[go_sem] theorem lt_o3x1 (a x : Nat) : a < a + 1 + 1 + 1 + x + 1 := by omega
@[go_sem] theorem lt_o3x1y0 (a x y : Nat) : a < a + 1 + 1 + 1 + x + 1 + y := by omega
@[go_sem] theorem lt_o3x1y1 (a x y : Nat) : a < a + 1 + 1 + 1 + x + 1 + y + 1 := by omega
@[go_sem] theorem lt_o3x1y2 (a x y : Nat) : a < a + 1 + 1 + 1 + x + 1 + y + 1 + 1 := by omega
@[go_sem] theorem lt_o3x1y3 (a x y : Nat) : a < a + 1 + 1 + 1 + x + 1 + y + 1 + 1 + 1 := by omega
@[go_sem] theorem lt_o3x2 (a x : Nat) : a < a + 1 + 1 + 1 + x + 1 + 1 := by omega
@[go_sem] theorem lt_o3x2y0 (a x y : Nat) : a < a + 1 + 1 + 1 + x + 1 + 1 + y := by omega
@[go_sem] theorem lt_o3x2y1 (a x y : Nat) : a < a + 1 + 1 + 1 + x + 1 + 1 + y + 1 := by omega
@[go_sem] theorem lt_o3x2y2 (a x y : Nat) : a < a + 1 + 1 + 1 + x + 1 + 1 + y + 1 + 1 := by omega
@[go_sem] theorem lt_o3x2y3 (a x y : Nat) : a < a + 1 + 1 + 1 + x + 1 + 1 + y + 1 + 1 + 1 := by omega
@[go_sem] theorem lt_o3x3 (a x : Nat) : a < a + 1 + 1 + 1 + x + 1 + 1 + 1 := by omega
@[go_sem] theorem lt_o3x3y0 (a x y : Nat) : a < a + 1 + 1 + 1 + x + 1 + 1 + 1 + y := by omega
@[go_sem] theorem lt_o3x3y1 (a x y : Nat) : a < a + 1 + 1 + 1 + x + 1 + 1 + 1 + y + 1 := by omega
@[go_sem] theorem lt_o3x3y2 (a x y : Nat) : a < a + 1 + 1 + 1 + x + 1 + 1 + 1 + y + 1 + 1 := by omega
@[go_sem] theorem lt_o3x3y3 (a x y : Nat) : a < a + 1 + 1 + 1 + x + 1 + 1 + 1 + y + 1 + 1 + 1 := by omega
@[go_sem] theorem lt_o4 (a : Nat) : a < a + 1 + 1 + 1 + 1 := by omega
@[go_sem] theorem lt_o4x0 (a x : Nat) : a < a + 1 + 1 + 1 + 1 + x := by omega
@[go_sem] theorem lt_o4x1 (a x : Nat) : a < a + 1 + 1 + 1 + 1 + x + 1 := by omega
@[go_sem] theorem lt_o4x1y0 (a x y : Nat) : a < a + 1 + 1 + 1 + 1 + x + 1 + y := by omega
@[go_sem] theorem lt_o4x1y1 (a x y : Nat) : a < a + 1 + 1 + 1 + 1 + x + 1 + y + 1 := by omega
@[go_sem] theorem lt_o4x1y2 (a x y : Nat) : a < a + 1 + 1 + 1 + 1 + x + 1 + y + 1 + 1 := by omega
@[go_sem] theorem lt_o4x1y3 (a x y : Nat) : a < a + 1 + 1 + 1 + 1 + x + 1 + y + 1 + 1 + 1 := by omega
@[go_sem] theorem lt_o4x2 (a x : Nat) : a < a + 1 + 1 + 1 + 1 + x + 1 + 1 := by omega
@[go_sem] theorem lt_o4x2y0 (a x y : Nat) : a < a + 1 + 1 + 1 + 1 + x + 1 + 1 + y := by omega
@[go_sem] theorem lt_o4x2y1 (a x y : Nat) : a < a + 1 + 1 + 1 + 1 + x + 1 + 1 + y + 1 := by omega
@[go_sem] theorem lt_o4x2y2 (a x y : Nat) : a < a + 1 + 1 + 1 + 1 + x + 1 + 1 + y + 1 + 1 := by omega
@[go_sem] theorem lt_o4x2y3 (a x y : Nat) : a < a + 1 + 1 + 1 + 1 + x + 1 + 1 + y + 1 + 1 + 1 := by omega
@[go_sem] theorem lt_o4x3 (a x : Nat) : a < a + 1 + 1 + 1 + 1 + x + 1 + 1 + 1 := by omega
@[go_sem] theorem lt_o4x3y0 (a x y : Nat) : a < a + 1 + 1 + 1 + 1 + x + 1 + 1 + 1 + y := by omega
@[go_sem] theorem lt_o4x3y1 (a x y : Nat) : a < a + 1 + 1 + 1 + 1 + x + 1 + 1 + 1 + y + 1 := by omega
@[go_sem] theorem lt_o4x3y2 (a x y : Nat) : a < a + 1 + 1 + 1 + 1 + x + 1 + 1 + 1 + y + 1 + 1 := by omega
@[go_sem] theorem lt_o4x3y3 (a x y : Nat) : a < a + 1 + 1 + 1 + 1 + x + 1 + 1 + 1 + y + 1 + 1 + 1 := by omega
@[go_sem] theorem lt_o5 (a : Nat) : a < a + 1 + 1 + 1 + 1 + 1 := by omega
@[go_sem] theorem lt_o5x0 (a x : Nat) : a < a + 1 + 1 + 1 + 1 + 1 + x := by omega
@[go_sem] theorem lt_o5x1 (a x : Nat) : a < a + 1 + 1 + 1 + 1 + 1 + x + 1 := by omega
@[go_sem] theorem lt_o5x1y0 (a x y : Nat) : a < a + 1 + 1 + 1 + 1 + 1 + x + 1 + y := by omega
@[go_sem] theorem lt_o5x1y1 (a x y : Nat) : a < a + 1 + 1 + 1 + 1 + 1 + x + 1 + y + 1 := by omega
@[go_sem] theorem lt_o5x1y2 (a x y : Nat) : a < a + 1 + 1 + 1 + 1 + 1 + x + 1 + y + 1 + 1 := by omega
@[go_sem] theorem lt_o5x1y3 (a x y : Nat) : a < a + 1 + 1 + 1 + 1 + 1 + x + 1 + y + 1 + 1 + 1 := by omega
@[go_sem] theorem lt_o5x2 (a x : Nat) : a < a + 1 + 1 + 1 + 1 + 1 + x + 1 + 1 := by omega
@[go_sem] theorem lt_o5x2y0 (a x y : Nat) : a < a + 1 + 1 + 1 + 1 + 1 + x + 1 + 1 + y := by omega
@[go_sem] theorem lt_o5x2y1 (a x y : Nat) : a < a + 1 + 1 + 1 + 1 + 1 + x + 1 + 1 + y + 1 := by omega
@[go_sem] theorem lt_o5x2y2 (a x y : Nat) : a < a + 1 + 1 + 1 + 1 + 1 + x + 1 + 1 + y + 1 + 1 := by omega
@[go_sem] theorem lt_o5x2y3 (a x y : Nat) : a < a + 1 + 1 + 1 + 1 + 1 + x + 1 + 1 + y + 1 + 1 + 1 := by omega
@[go_sem] theorem lt_o5x3 (a x : Nat) : a < a + 1 + 1 + 1 + 1 + 1 + x + 1 + 1 + 1 := by omega
@[go_sem] theorem lt_o5x3y0 (a x y : Nat) : a < a + 1 + 1 + 1 + 1 + 1 + x + 1 + 1 + 1 + y := by omega
@[go_sem] theorem lt_o5x3y1 (a x y : Nat) : a < a + 1 + 1 + 1 + 1 + 1 + x + 1 + 1 + 1 + y + 1 := by omega
@[go_sem] theorem lt_o5x3y2 (a x y : Nat) : a < a + 1 + 1 + 1 + 1 + 1 + x + 1 + 1 + 1 + y + 1 + 1 := by omega
@[go_sem] theorem lt_o5x3y3 (a x y : Nat) : a < a + 1 + 1 + 1 + 1 + 1 + x + 1 + 1 + 1 + y + 1 + 1 + 1 := by omega
@[go_sem] theorem lt_o1x1y1z0 (a x y z : Nat) : a < a + 1 + x + 1 + y + 1 + z := by omega
@[go_sem] theorem lt_o1x1y1z1 (a x y z : Nat) : a < a + 1 + x + 1 + y + 1 + z + 1 := by omega
@[go_sem] theorem lt_o1x1y2z0 (a x y z : Nat) : a < a + 1 + x + 1 + y + 1 + 1 + z := by omega
@[go_sem] theorem lt_o1x1y2z1 (a x y z : Nat) : a < a + 1 + x + 1 + y + 1 + 1 + z + 1 := by omega
@[go_sem] theorem lt_o1x1y3z0 (a x y z : Nat) : a < a + 1 + x + 1 + y + 1 + 1 + 1 + z := by omega
@[go_sem] theorem lt_o1x1y3z1 (a x y z : Nat) : a < a + 1 + x + 1 + y + 1 + 1 + 1 + z + 1 := by omega
@[go_sem] theorem lt_o1x2y1z0 (a x y z : Nat) : a < a + 1 + x + 1 + 1 + y + 1 + z := by omega
@[go_sem] theorem lt_o1x2y1z1 (a x y z : Nat) : a < a + 1 + x + 1 + 1 + y + 1 + z + 1 := by omega
@[go_sem] theorem lt_o1x2y2z0 (a x y z : Nat) : a < a + 1 + x + 1 + 1 + y + 1 + 1 + z := by omega
@[go_sem] theorem lt_o1x2y2z1 (a x y z : Nat) : a < a + 1 + x + 1 + 1 + y + 1 + 1 + z + 1 := by omega
@[go_sem] theorem lt_o1x2y3z0 (a x y z : Nat) : a < a + 1 + x + 1 + 1 + y + 1 + 1 + 1 + z := by omega
@[go_sem] theorem lt_o1x2y3z1 (a x y z : Nat) : a < a + 1 + x + 1 + 1 + y + 1 + 1 + 1 + z + 1 := by omega
@[go_sem] theorem lt_o1x3y1z0 (a x y z : Nat) : a < a + 1 + x + 1 + 1 + 1 + y + 1 + z := by omega
@[go_sem] theorem lt_o1x3y1z1 (a x y z : Nat) : a < a + 1 + x + 1 + 1 + 1 + y + 1 + z + 1 := by omega
@[go_sem] theorem lt_o1x3y2z0 (a x y z : Nat) : a < a + 1 + x + 1 + 1 + 1 + y + 1 + 1 + z := by omega
@[go_sem] theorem lt_o1x3y2z1 (a x y z : Nat) : a < a + 1 + x + 1 + 1 + 1 + y + 1 + 1 + z + 1 := by omega
@[go_sem] theorem lt_o1x3y3z0 (a x y z : Nat) : a < a + 1 + x + 1 + 1 + 1 + y + 1 + 1 + 1 + z := by omega
@[go_sem] theorem lt_o1x3y3z1 (a x y z : Nat) : a < a + 1 + x + 1 + 1 + 1 + y + 1 + 1 + 1 + z + 1 := by omega
@[go_sem] theorem lt_o2x1y1z0 (a x y z : Nat) : a < a + 1 + 1 + x + 1 + y + 1 + z := by omega
@[go_sem] theorem lt_o2x1y1z1 (a x y z : Nat) : a < a + 1 + 1 + x + 1 + y + 1 + z + 1 := by omega
@[go_sem] theorem lt_o2x1y2z0 (a x y z : Nat) : a < a + 1 + 1 + x + 1 + y + 1 + 1 + z := by omega
@[go_sem] theorem lt_o2x1y2z1 (a x y z : Nat) : a < a + 1 + 1 + x + 1 + y + 1 + 1 + z + 1 := by omega
@[go_sem] theorem lt_o2x1y3z0 (a x y z : Nat) : a < a + 1 + 1 + x + 1 + y + 1 + 1 + 1 + z := by omega
@[go_sem] theorem lt_o2x1y3z1 (a x y z : Nat) : a < a + 1 + 1 + x + 1 + y + 1 + 1 + 1 + z + 1 := by omega
@[go_sem] theorem lt_o2x2y1z0 (a x y z : Nat) : a < a + 1 + 1 + x + 1 + 1 + y + 1 + z := by omega
@[go_sem] theorem lt_o2x2y1z1 (a x y z : Nat) : a < a + 1 + 1 + x + 1 + 1 + y + 1 + z + 1 := by omega
@[go_sem] theorem lt_o2x2y2z0 (a x y z : Nat) : a < a + 1 + 1 + x + 1 + 1 + y + 1 + 1 + z := by omega
@[go_sem] theorem lt_o2x2y2z1 (a x y z : Nat) : a < a + 1 + 1 + x + 1 + 1 + y + 1 + 1 + z + 1 := by omega
@[go_sem] theorem lt_o2x2y3z0 (a x y z : Nat) : a < a + 1 + 1 + x + 1 + 1 + y + 1 + 1 + 1 + z := by omega
@[go_sem] theorem lt_o2x2y3z1 (a x y z : Nat) : a < a + 1 + 1 + x + 1 + 1 + y + 1 + 1 + 1 + z + 1 := by omega
@[go_sem] theorem lt_o2x3y1z0 (a x y z : Nat) : a < a + 1 + 1 + x + 1 + 1 + 1 + y + 1 + z := by omega
@[go_sem] theorem lt_o2x3y1z1 (a x y z : Nat) : a < a + 1 + 1 + x + 1 + 1 + 1 + y + 1 + z + 1 := by omega
@[go_sem] theorem lt_o2x3y2z0 (a x y z : Nat) : a < a + 1 + 1 + x + 1 + 1 + 1 + y + 1 + 1 + z := by omega
@[go_sem] theorem lt_o2x3y2z1 (a x y z : Nat) : a < a + 1 + 1 + x + 1 + 1 + 1 + y + 1 + 1 + z + 1 := by omega
@[go_sem] theorem lt_o2x3y3z0 (a x y z : Nat) : a < a + 1 + 1 + x + 1 + 1 + 1 + y + 1 + 1 + 1 + z := by omega
@[go_sem] theorem lt_o2x3y3z1 (a x y z : Nat) : a < a + 1 + 1 + x + 1 + 1 + 1 + y + 1 + 1 + 1 + z + 1 := by omega
@[go_sem] theorem lt_o3x1y1z0 (a x y z : Nat) : a < a + 1 + 1 + 1 + x + 1 + y + 1 + z := by omega
@[go_sem] theorem lt_o3x1y1z1 (a x y z : Nat) : a < a + 1 + 1 + 1 + x + 1 + y + 1 + z + 1 := by omega
@[go_sem] theorem lt_o3x1y2z0 (a x y z : Nat) : a < a + 1 + 1 + 1 + x + 1 + y + 1 + 1 + z := by omega
@[go_sem] theorem lt_o3x1y2z1 (a x y z : Nat) : a < a + 1 + 1 + 1 + x + 1 + y + 1 + 1 + z + 1 := by omega
@[go_sem] theorem lt_o3x1y3z0 (a x y z : Nat) : a < a + 1 + 1 + 1 + x + 1 + y + 1 + 1 + 1 + z := by omega
@[go_sem] theorem lt_o3x1y3z1 (a x y z : Nat) : a < a + 1 + 1 + 1 + x + 1 + y + 1 + 1 + 1 + z + 1 := by omega
@[go_sem] theorem lt_o3x2y1z0 (a x y z : Nat) : a < a + 1 + 1 + 1 + x + 1 + 1 + y + 1 + z := by omega
@[go_sem] theorem lt_o3x2y1z1 (a x y z : Nat) : a < a + 1 + 1 + 1 + x + 1 + 1 + y + 1 + z + 1 := by omega
@[go_sem] theorem lt_o3x2y2z0 (a x y z : Nat) : a < a + 1 + 1 + 1 + x + 1 + 1 + y + 1 + 1 + z := by omega
@[go_sem] theorem lt_o3x2y2z1 (a x y z : Nat) : a < a + 1 + 1 + 1 + x + 1 + 1 + y + 1 + 1 + z + 1 := by omega
@[go_sem] theorem lt_o3x2y3z0 (a x y z : Nat) : a < a + 1 + 1 + 1 + x + 1 + 1 + y + 1 + 1 + 1 + z := by omega
@[go_sem] theorem lt_o3x2y3z1 (a x y z : Nat) : a < a + 1 + 1 + 1 + x + 1 + 1 + y + 1 + 1 + 1 + z + 1 := by omega
@[go_sem] theorem lt_o3x3y1z0 (a x y z : Nat) : a < a + 1 + 1 + 1 + x + 1 + 1 + 1 + y + 1 + z := by omega
@[go_sem] theorem lt_o3x3y1z1 (a x y z : Nat) : a < a + 1 + 1 + 1 + x + 1 + 1 + 1 + y + 1 + z + 1 := by omega
@[go_sem] theorem lt_o3x3y2z0 (a x y z : Nat) : a < a + 1 + 1 + 1 + x + 1 + 1 + 1 + y + 1 + 1 + z := by omega
@[go_sem] theorem lt_o3x3y2z1 (a x y z : Nat) : a < a + 1 + 1 + 1 + x + 1 + 1 + 1 + y + 1 + 1 + z + 1 := by omega
@[go_sem] theorem lt_o3x3y3z0 (a x y z : Nat) : a < a + 1 + 1 + 1 + x + 1 + 1 + 1 + y + 1 + 1 + 1 + z := by omega
@[go_sem] theorem lt_o3x3y3z1 (a x y z : Nat) : a < a + 1 + 1 + 1 + x + 1 + 1 + 1 + y + 1 + 1 + 1 + z + 1 := by omega
@[go_sem] theorem lt_o4x1y1z0 (a x y z : Nat) : a < a + 1 + 1 + 1 + 1 + x + 1 + y + 1 + z := by omega
@[go_sem] theorem lt_o4x1y1z1 (a x y z : Nat) : a < a + 1 + 1 + 1 + 1 + x + 1 + y + 1 + z + 1 := by omega
@[go_sem] theorem lt_o4x1y2z0 (a x y z : Nat) : a < a + 1 + 1 + 1 + 1 + x + 1 + y + 1 + 1 + z := by omega
@[go_sem] theorem lt_o4x1y2z1 (a x y z : Nat) : a < a + 1 + 1 + 1 + 1 + x + 1 + y + 1 + 1 + z + 1 := by omega
@[go_sem] theorem lt_o4x1y3z0 (a x y z : Nat) : a < a + 1 + 1 + 1 + 1 + x + 1 + y + 1 + 1 + 1 + z := by omega
@[go_sem] theorem lt_o4x1y3z1 (a x y z : Nat) : a < a + 1 + 1 + 1 + 1 + x + 1 + y + 1 + 1 + 1 + z + 1 := by omega
@[go_sem] theorem lt_o4x2y1z0 (a x y z : Nat) : a < a + 1 + 1 + 1 + 1 + x + 1 + 1 + y + 1 + z := by omega
@[go_sem] theorem lt_o4x2y1z1 (a x y z : Nat) : a < a + 1 + 1 + 1 + 1 + x + 1 + 1 + y + 1 + z + 1 := by omega
@[go_sem] theorem lt_o4x2y2z0 (a x y z : Nat) : a < a + 1 + 1 + 1 + 1 + x + 1 + 1 + y + 1 + 1 + z := by omega
@[go_sem] theorem lt_o4x2y2z1 (a x y z : Nat) : a < a + 1 + 1 + 1 + 1 + x + 1 + 1 + y + 1 + 1 + z + 1 := by omega
@[go_sem] theorem lt_o4x2y3z0 (a x y z : Nat) : a < a + 1 + 1 + 1 + 1 + x + 1 + 1 + y + 1 + 1 + 1 + z := by omega
@[go_sem] theorem lt_o4x2y3z1 (a x y z : Nat) : a < a + 1 + 1 + 1 + 1 + x + 1 + 1 + y + 1 + 1 + 1 + z + 1 := by omega
@[go_sem] theorem lt_o4x3y1z0 (a x y z : Nat) : a < a + 1 + 1 + 1 + 1 + x + 1 + 1 + 1 + y + 1 + z := by omega
@[go_sem] theorem lt_o4x3y1z1 (a x y z : Nat) : a < a + 1 + 1 + 1 + 1 + x + 1 + 1 + 1 + y + 1 + z + 1 := by omega
@[go_sem] theorem lt_o4x3y2z0 (a x y z : Nat) : a < a + 1 + 1 + 1 + 1 + x + 1 + 1 + 1 + y + 1 + 1 + z := by omega
@[go_sem] theorem lt_o4x3y2z1 (a x y z : Nat) : a < a + 1 + 1 + 1 + 1 + x + 1 + 1 + 1 + y + 1 + 1 + z + 1 := by omega
@[go_sem] theorem lt_o4x3y3z0 (a x y z : Nat) : a < a + 1 + 1 + 1 + 1 + x + 1 + 1 + 1 + y + 1 + 1 + 1 + z := by omega
@[go_sem] theorem lt_o4x3y3z1 (a x y z : Nat) : a < a + 1 + 1 + 1 + 1 + x + 1 + 1 + 1 + y + 1 + 1 + 1 + z + 1 := by omega
@[go_sem] theorem lt_o5x1y1z0 (a x y z : Nat) : a < a + 1 + 1 + 1 + 1 + 1 + x + 1 + y + 1 + z := by omega
@[go_sem] theorem lt_o5x1y1z1 (a x y z : Nat) : a < a + 1 + 1 + 1 + 1 + 1 + x + 1 + y + 1 + z + 1 := by omega
@[go_sem] theorem lt_o5x1y2z0 (a x y z : Nat) : a < a + 1 + 1 + 1 + 1 + 1 + x + 1 + y + 1 + 1 + z := by omega
@[go_sem] theorem lt_o5x1y2z1 (a x y z : Nat) : a < a + 1 + 1 + 1 + 1 + 1 + x + 1 + y + 1 + 1 + z + 1 := by omega
@[go_sem] theorem lt_o5x1y3z0 (a x y z : Nat) : a < a + 1 + 1 + 1 + 1 + 1 + x + 1 + y + 1 + 1 + 1 + z := by omega
@[go_sem] theorem lt_o5x1y3z1 (a x y z : Nat) : a < a + 1 + 1 + 1 + 1 + 1 + x + 1 + y + 1 + 1 + 1 + z + 1 := by omega
@[go_sem] theorem lt_o5x2y1z0 (a x y z : Nat) : a < a + 1 + 1 + 1 + 1 + 1 + x + 1 + 1 + y + 1 + z := by omega
@[go_sem] theorem lt_o5x2y1z1 (a x y z : Nat) : a < a + 1 + 1 + 1 + 1 + 1 + x + 1 + 1 + y + 1 + z + 1 := by omega
@[go_sem] theorem lt_o5x2y2z0 (a x y z : Nat) : a < a + 1 + 1 + 1 + 1 + 1 + x + 1 + 1 + y + 1 + 1 + z := by omega
@[go_sem] theorem lt_o5x2y2z1 (a x y z : Nat) : a < a + 1 + 1 + 1 + 1 + 1 + x + 1 + 1 + y + 1 + 1 + z + 1 := by omega
@[go_sem] theorem lt_o5x2y3z0 (a x y z : Nat) : a < a + 1 + 1 + 1 + 1 + 1 + x + 1 + 1 + y + 1 + 1 + 1 + z := by omega
@[go_sem] theorem lt_o5x2y3z1 (a x y z : Nat) : a < a + 1 + 1 + 1 + 1 + 1 + x + 1 + 1 + y + 1 + 1 + 1 + z + 1 := by omega
@[go_sem] theorem lt_o5x3y1z0 (a x y z : Nat) : a < a + 1 + 1 + 1 + 1 + 1 + x + 1 + 1 + 1 + y + 1 + z := by omega
@[go_sem] theorem lt_o5x3y1z1 (a x y z : Nat) : a < a + 1 + 1 + 1 + 1 + 1 + x + 1 + 1 + 1 + y + 1 + z + 1 := by omega
@[go_sem] theorem lt_o5x3y2z0 (a x y z : Nat) : a < a + 1 + 1 + 1 + 1 + 1 + x + 1 + 1 + 1 + y + 1 + 1 + z := by omega
@[go_sem] theorem lt_o5x3y2z1 (a x y z : Nat) : a < a + 1 + 1 + 1 + 1 + 1 + x + 1 + 1 + 1 + y + 1 + 1 + z + 1 := by omega
@[go_sem] theorem lt_o5x3y3z0 (a x y z : Nat) : a < a + 1 + 1 + 1 + 1 + 1 + x + 1 + 1 + 1 + y + 1 + 1 + 1 + z := by omega
@[go_sem] theorem lt_o5x3y3z1 (a x y z : Nat) : a < a + 1 + 1 + 1 + 1 + 1 + x + 1 + 1 + 1 + y + 1 + 1 + 1 + z + 1 := by omega
@[go_sem] theorem lt_ext_deep (a b c : Nat) (h : a < b) : a < b + c := by omega
end Go.Proofs.YtcdnbdajnagfiaaGreatDoor

namespace Go.Proofs.YtcdnbdajnagfiaaGreatDoor
open Go.RowKit
attribute [local go_sem ↓] Go.wp_at_zero Go.wp_at_succ
set_option linter.unusedVariables false
set_option linter.unusedSimpArgs false
set_option maxRecDepth 10000
set_option maxHeartbeats 2000000 in
theorem kind_any (c : Int) (w : World) : Calls Tryz.prog 121 #[.int .u8 c] w fun e w' => e = .returned (.int .i64 (kd c)) ∧ w' = w := by
  go_enter Tryz.func121, Tryz.ntmps121
  go_wp2
  all_goals (go_ret; exact ⟨one_ret (by simp only [beq_iff_eq, beq_eq_false_iff_ne, ne_eq] at *; unfold kd; (repeat' split) <;> omega), rfl⟩)
theorem bool_ret {a b : Bool} (h : a = b) : Ending.returned (.bool a) = .returned (.bool b) := by rw [h]
set_option maxHeartbeats 2000000 in
theorem goes_core (f n : Int) (g : Nat) (w : World) (h : w.cell? ⟨g, 0, none⟩ = some (.int .i64 f)) :
    Calls Tryz.prog 182 #[.int .i64 n, .pointer (some ⟨g, 0, none⟩)] w fun e w' => e = .returned (.bool (on f n)) ∧ w' = w := by
  go_enter Tryz.func182, Tryz.ntmps182
  go_wp2
  all_goals (go_ret; refine ⟨bool_ret ?_, rfl⟩; rw [Bool.eq_iff_iff]; (first | simp only [on_iff] | skip); simp only [beq_iff_eq, bne_iff_ne, beq_eq_false_iff_ne, ne_eq, decide_eq_true_eq, Bool.or_eq_true, Bool.and_eq_true, Bool.false_eq_true, false_iff, true_iff] at *; omega)
set_option maxHeartbeats 2000000 in
theorem goes_on (f : Int) (w : World) :
    Calls Tryz.prog 157 #[.int .i64 f] w fun e w' => e = .returned (.func (.func 182) #[] #[.pointer (some ⟨w.heap.size, 0, none⟩)]) ∧ w' = w.alloc (.cells #[.int .i64 f] 198) := by
  go_enter Tryz.func157, Tryz.ntmps157
  go_wp2
  go_ret
  exact ⟨rfl, rfl⟩
set_option maxHeartbeats 2000000 in
theorem small_any (c : Int) (w : World) : Calls Tryz.prog 118 #[.int .u8 c] w fun e w' => e = .returned (.bool (decide (97 ≤ c ∧ c ≤ 122))) ∧ w' = w := by
  go_enter Tryz.func118, Tryz.ntmps118
  go_wp2
  all_goals (go_ret; refine ⟨bool_ret ?_, rfl⟩; rw [Bool.eq_iff_iff]; (first | simp only [on_iff] | skip); simp only [beq_iff_eq, bne_iff_ne, beq_eq_false_iff_ne, ne_eq, decide_eq_true_eq, Bool.or_eq_true, Bool.and_eq_true, Bool.false_eq_true, false_iff, true_iff] at *; omega)
set_option maxHeartbeats 2000000 in
theorem digit_any (c : Int) (w : World) : Calls Tryz.prog 119 #[.int .u8 c] w fun e w' => e = .returned (.bool (decide (48 ≤ c ∧ c ≤ 57))) ∧ w' = w := by
  go_enter Tryz.func119, Tryz.ntmps119
  go_wp2
  all_goals (go_ret; refine ⟨bool_ret ?_, rfl⟩; rw [Bool.eq_iff_iff]; (first | simp only [on_iff] | skip); simp only [beq_iff_eq, bne_iff_ne, beq_eq_false_iff_ne, ne_eq, decide_eq_true_eq, Bool.or_eq_true, Bool.and_eq_true, Bool.false_eq_true, false_iff, true_iff] at *; omega)
set_option maxHeartbeats 2000000 in
theorem sign_any (c : Int) (w : World) : Calls Tryz.prog 120 #[.int .u8 c] w fun e w' => e = .returned (.bool (decide (c = 123 ∨ c = 125 ∨ c = 44 ∨ c = 59 ∨ c = 58 ∨ c = 47 ∨ c = 45))) ∧ w' = w := by
  go_enter Tryz.func120, Tryz.ntmps120
  go_wp2
  all_goals (go_ret; refine ⟨bool_ret ?_, rfl⟩; rw [Bool.eq_iff_iff]; (first | simp only [on_iff] | skip); simp only [beq_iff_eq, bne_iff_ne, beq_eq_false_iff_ne, ne_eq, decide_eq_true_eq, Bool.or_eq_true, Bool.and_eq_true, Bool.false_eq_true, false_iff, true_iff] at *; omega)
end Go.Proofs.YtcdnbdajnagfiaaGreatDoor
