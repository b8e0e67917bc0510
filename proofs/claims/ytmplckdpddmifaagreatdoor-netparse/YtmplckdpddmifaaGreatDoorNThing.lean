/- Package net: what reads one thing of a row. -/
import Derived.Test.YtmplckdpddmifaaGreatDoorNMore
import Derived.Test.YtmplckdpddmifaaGreatDoorNPar
namespace Go.Proofs.YtmplckdpddmifaaGreatDoor
open Go.RowKit
set_option linter.unusedVariables false
set_option linter.unusedSimpArgs false
set_option maxRecDepth 10000
/-- a function that fills what is new -/
def Thing (rb : Nat) (l : List Tok) (ta : Addr) (cap : Nat) (fn : FuncId) (t : TypeId) (zs : List Value) (body : List Tok → Rs) : Prop :=
  ∀ w xb r, R0 rb l ta cap w r → rb < w.heap.size → w.heap[xb]? = some (.cells zs.toArray t (0, 0)) → xb ≠ rb → xb ≠ ta.block → Calls Tryz.prog fn #[.pointer (some ⟨rb, 0, none⟩), .pointer (some ⟨xb, 0, none⟩)] w fun e w' => Fr (fun b => b = rb ∨ b = xb) w w' ∧
    match body r with
    | .error x => e = .returned (flt x)
    | .ok (ds, r') => e = .returned .nilIface ∧ R0 rb l ta cap w' r' ∧ ds.length = zs.length ∧ ∃ vs, (∀ i v, vs[i]? = some v → w'.cell? ⟨xb, i, none⟩ = some v) ∧ Rds w' ds (fun b => w.heap.size ≤ b) vs
def ThingM (rb : Nat) (l : List Tok) (ta : Addr) (cap : Nat) (fn : FuncId) (t : TypeId) (zs : List Value) (body : List Tok → Rs) : Prop := Ent fn ∧ Mon body ∧ Thing rb l ta cap fn t zs body
theorem five_boxes (E : Env) (w : World) (u v x y z : Value) (s t q r p : TypeId) (hS : ∀ b, E.S b → b < w.heap.size) : Bx E (((((w.alloc (.cells #[u] s)).alloc (.cells #[v] t)).alloc (.cells #[x] q)).alloc (.cells #[y] r)).alloc (.cells #[z] p)) w.heap.size u ∧ Bx E (((((w.alloc (.cells #[u] s)).alloc (.cells #[v] t)).alloc (.cells #[x] q)).alloc (.cells #[y] r)).alloc (.cells #[z] p)) (w.heap.size + 1) v ∧ Bx E (((((w.alloc (.cells #[u] s)).alloc (.cells #[v] t)).alloc (.cells #[x] q)).alloc (.cells #[y] r)).alloc (.cells #[z] p)) (w.heap.size + 1 + 1) x ∧ Bx E (((((w.alloc (.cells #[u] s)).alloc (.cells #[v] t)).alloc (.cells #[x] q)).alloc (.cells #[y] r)).alloc (.cells #[z] p)) (w.heap.size + 1 + 1 + 1) y ∧ Bx E (((((w.alloc (.cells #[u] s)).alloc (.cells #[v] t)).alloc (.cells #[x] q)).alloc (.cells #[y] r)).alloc (.cells #[z] p)) (w.heap.size + 1 + 1 + 1 + 1) z := by
  refine ⟨⟨by simp [go_sem], fun h => ?_⟩, ⟨by simp [go_sem], fun h => ?_⟩, ⟨by simp [go_sem], fun h => ?_⟩, ⟨by simp [go_sem], fun h => ?_⟩, ⟨by simp [go_sem], fun h => ?_⟩⟩ <;> (have := hS _ h; omega)
theorem five_keep (w : World) (a b c d e : Obj) : Keep w (((((w.alloc a).alloc b).alloc c).alloc d).alloc e) := (((((Keep.refl w).alloc a).alloc b).alloc c).alloc d).alloc e
theorem Bx.hs {E : Env} {w0 w : World} (hS : ∀ b, E.S b → b < w0.heap.size) (hf : Fr E.S w0 w) : ∀ b, E.S b → b < w.heap.size := fun b hb => Nat.lt_of_lt_of_le (hS b hb) hf.size
theorem gather {w : World} {xb : Nat} {P : Nat → Prop} : ∀ (cs : List D) (o : Nat), (∀ j d, cs[j]? = some d → ∃ v, w.cell? ⟨xb, o + j, none⟩ = some v ∧ Rd w d P v) → ∃ vs, (∀ i v, vs[i]? = some v → w.cell? ⟨xb, o + i, none⟩ = some v) ∧ Rds w cs P vs
  | [], o, _ => ⟨[], fun i v h => by simp at h, rfl⟩
  | d :: cs, o, h => by
    obtain ⟨v, h1, h2⟩ := h 0 d (by simp)
    obtain ⟨vs, h3, h4⟩ := gather cs (o + 1) (fun j d hd => by
      obtain ⟨v, k1, k2⟩ := h (j + 1) d (by simpa using hd)
      exact ⟨v, by rw [show o + 1 + j = o + (j + 1) by omega]; exact k1, k2⟩)
    refine ⟨v :: vs, fun i u hu => ?_, ?_⟩
    · cases i with
      | zero => simp at hu; subst hu; exact h1
      | succ i => have := h3 i u (by simpa using hu); rw [show o + 1 + i = o + (i + 1) by omega] at this; exact this
    · simp only [Rds]; exact ⟨v, vs, rfl, h2, h4⟩
/-- the frame for one thing -/
def Env.one (rb : Nat) (l : List Tok) (ta : Addr) (cap : Nat) (xb : Nat) (A : Nat → Nat) (lo : Nat) : Env := { S := fun b => b = rb ∨ b = xb, rb := rb, l := l, ta := ta, cap := cap, A := fun j => (xb, A j), lo := lo }
theorem one_rdr {rb : Nat} {l : List Tok} {ta : Addr} {cap : Nat} {xb : Nat} {A : Nat → Nat} {lo : Nat} {w : World} {r : List Tok} (h : R0 rb l ta cap w r) (h1 : xb ≠ ta.block) (h2 : rb ≠ ta.block) : Rdr (Env.one rb l ta cap xb A lo) w r := ⟨h, fun x => by rcases x with x | x; exact h2 x.symm; exact h1 x.symm, .inl rfl⟩
theorem one_cel {rb : Nat} {l : List Tok} {ta : Addr} {cap : Nat} {xb : Nat} {A : Nat → Nat} {lo : Nat} {w : World} {t : TypeId} {zs : List Value} {cs : List D} (h : w.heap[xb]? = some (.cells zs.toArray t (0, 0))) (hx : xb ≠ rb) (hlen : cs.length = zs.length) (hinj : ∀ i j, i < cs.length → j < cs.length → A i = A j → i = j)
    (hz : ∀ j d, cs[j]? = some d → ∃ v, zs[A j]? = some v ∧ ∀ w P, Rd w d P v) : Cel (Env.one rb l ta cap xb A lo) w cs := by
  refine ⟨fun i j hi hj e => hinj i j hi hj (by have := congrArg Prod.snd e; exact this), fun j d hd => ?_⟩
  obtain ⟨v, h1, h2⟩ := hz j d hd
  refine ⟨v, ?_, h2 _ _, ?_, .inr rfl, hx⟩
  · show w.cell? ⟨xb, A j, none⟩ = some v
    simp only [World.cell?, h]
    simpa using h1
  · show w.frozen? ⟨xb, A j, none⟩ = false
    simp [World.frozen?, h]
theorem rot_get {c : List D} {n : Nat} (hn : c.length = n + 1) {j : Nat} {d : D} (h : (rot c)[j]? = some d) : c[if j = n then 0 else j + 1]? = some d ∧ j < n + 1 := by
  cases c with
  | nil => simp at hn
  | cons a c =>
    simp only [List.length_cons, Nat.add_right_cancel_iff] at hn
    simp only [rot] at h
    rcases Nat.lt_trichotomy j n with hj | hj | hj
    · rw [if_neg (by omega)]
      rw [List.getElem?_append_left (by omega)] at h
      exact ⟨by simpa using h, by omega⟩
    · subst hj
      rw [if_pos rfl]
      rw [List.getElem?_append_right (by omega), hn, Nat.sub_self] at h
      exact ⟨by simpa using h, by omega⟩
    · rw [List.getElem?_eq_none (by simp; omega)] at h; cases h
theorem rot_len (c : List D) : (rot c).length = c.length := by cases c <;> simp [rot]
/-- the place stands last, what is read next first -/
theorem thing_rot {rb : Nat} {l : List Tok} {ta : Addr} {cap : Nat} {fn : FuncId} {t : TypeId} {zs : List Value} {cs : List D} {n : Nat} {p : List Tok → Rs} (hta : ta.block ≠ rb) (hzs : zs.length = n + 1) (hcs : cs.length = n + 1)
    (hz : ∀ j d, cs[j]? = some d → ∃ v, zs[if j = 0 then n else j - 1]? = some v ∧ ∀ w P, Rd w d P v)
    (h : ∀ E w xb r, E = Env.one rb l ta cap xb (fun j => if j = 0 then n else j - 1) w.heap.size → (∀ b, E.S b → b < w.heap.size) → Rdr E w r → Cel E w cs → Calls Tryz.prog fn #[.pointer (some ⟨rb, 0, none⟩), .pointer (some ⟨xb, 0, none⟩)] w (Post E w [] (n + 1) (p r))) :
    Thing rb l ta cap fn t zs (rotd p) := by
  intro w xb r hr hrb hx h1 h2
  have hxl : xb < w.heap.size := (Array.getElem?_eq_some_iff.1 hx).1
  refine (h _ w xb r rfl (fun b hb => by rcases hb with rfl | rfl <;> assumption) (one_rdr hr h2 (fun e => hta e.symm)) (one_cel hx h1 (by omega) (fun i j hi hj e => by
    by_cases hi0 : i = 0
    · by_cases hj0 : j = 0
      · omega
      · rw [if_pos hi0, if_neg hj0] at e; omega
    · by_cases hj0 : j = 0
      · rw [if_neg hi0, if_pos hj0] at e; omega
      · rw [if_neg hi0, if_neg hj0] at e; omega) hz)).mono ?_
  rintro e w' ⟨hf, hp⟩
  refine ⟨hf, ?_⟩
  simp only [rotd]
  cases hb : p r with
  | error x => rw [hb] at hp; exact hp
  | ok q =>
    obtain ⟨c, r'⟩ := q
    rw [hb] at hp
    obtain ⟨p1, p2, p3, p4⟩ := hp
    simp only
    refine ⟨p1, p3.1, by rw [rot_len]; omega, ?_⟩
    obtain ⟨vs, k1, k2⟩ := gather (w := w') (xb := xb) (P := fun b => w.heap.size ≤ b) (rot c) 0 (fun j d hd => by
      obtain ⟨g1, g2⟩ := rot_get p2 hd
      obtain ⟨v, q1, q2, _⟩ := p4.2 (if j = n then 0 else j + 1) d (by simpa using g1)
      refine ⟨v, ?_, Rd.move d _ _ v q2 (fun b hb _ => ⟨rfl, hb.2⟩)⟩
      have ea : (fun j => if j = 0 then n else j - 1) (if j = n then 0 else j + 1) = 0 + j := by
        by_cases hj : j = n
        · simp [hj]
        · simp [hj]
      rw [← ea]
      exact q1)
    exact ⟨vs, fun i v hv => by have := k1 i v hv; rwa [Nat.zero_add] at this, k2⟩
theorem thing_plain {rb : Nat} {l : List Tok} {ta : Addr} {cap : Nat} {fn : FuncId} {t : TypeId} {zs : List Value} {cs : List D} {p : List Tok → Rs} (hta : ta.block ≠ rb) (hcs : cs.length = zs.length)
    (hz : ∀ (j : Nat) d, cs[j]? = some d → ∃ v, zs[j]? = some v ∧ ∀ w P, Rd w d P v)
    (h : ∀ E w xb r, E = Env.one rb l ta cap xb (fun j => j) w.heap.size → (∀ b, E.S b → b < w.heap.size) → Rdr E w r → Cel E w cs → Calls Tryz.prog fn #[.pointer (some ⟨rb, 0, none⟩), .pointer (some ⟨xb, 0, none⟩)] w (Post E w [] zs.length (p r))) :
    Thing rb l ta cap fn t zs p := by
  intro w xb r hr hrb hx h1 h2
  have hxl : xb < w.heap.size := (Array.getElem?_eq_some_iff.1 hx).1
  refine (h _ w xb r rfl (fun b hb => by rcases hb with rfl | rfl <;> assumption) (one_rdr hr h2 (fun e => hta e.symm)) (one_cel hx h1 (by omega) (fun i j hi hj e => e) hz)).mono ?_
  rintro e w' ⟨hf, hp⟩
  refine ⟨hf, ?_⟩
  cases hb : p r with
  | error x => rw [hb] at hp; exact hp
  | ok q =>
    obtain ⟨c, r'⟩ := q
    rw [hb] at hp
    obtain ⟨p1, p2, p3, p4⟩ := hp
    simp only
    refine ⟨p1, p3.1, by omega, ?_⟩
    obtain ⟨vs, k1, k2⟩ := gather (w := w') (xb := xb) (P := fun b => w.heap.size ≤ b) c 0 (fun j d hd => by
      obtain ⟨v, q1, q2, _⟩ := p4.2 j d (by simpa using hd)
      exact ⟨v, by rw [Nat.zero_add]; exact q1, Rd.move d _ _ v q2 (fun b hb _ => ⟨rfl, hb.2⟩)⟩)
    exact ⟨vs, fun i v hv => by have := k1 i v hv; rwa [Nat.zero_add] at this, k2⟩
/-- where the reader stands, as a number -/
def rk (rb : Nat) (w : World) : Nat := match w.cell? ⟨rb, 1, none⟩ with
  | some (.int _ k) => k.toNat
  | _ => 0
theorem rk_of {rb : Nat} {l : List Tok} {ta : Addr} {cap : Nat} {w : World} {r : List Tok} (h : R0 rb l ta cap w r) : rk rb w + r.length = l.length ∧ rk rb w < l.length ∧ l.length ≤ 70000 := by
  obtain ⟨k, a1, a2, a3, a4, a5, a7, a8, a9⟩ := h
  have : rk rb w = k := by simp [rk, a4]
  rw [this, a2, List.length_drop]
  exact ⟨by omega, a1, a9.1⟩
theorem row_shape {w : World} {e z : Nat} {L : List (List D)} {P : Nat → Prop} {v : Value} (h : Rd w (.row e z L) P v) : ∃ av cap xs, v = .slice av L.length cap ∧ w.ownsRow 0 e z v L.length xs := by
  simp only [Rd] at h
  obtain ⟨xs, h1, _⟩ := h
  rcases h1.2 with ⟨rfl, h0⟩ | ⟨g, cap, cur, rfl, _⟩
  · exact ⟨none, 0, xs, by rw [h0], h1⟩
  · exact ⟨_, cap, xs, rfl, h1⟩
theorem new_cells (w : World) (vs : List Value) (t : TypeId) : ∀ j u, vs[j]? = some u → (w.alloc (.cells vs.toArray t)).cell? ((⟨w.heap.size, 0, none⟩ : Addr).add j) = some u := by
  intro j u h
  rw [add_plain, Nat.zero_add, World.cell?_alloc_mark]
  simp [h]
end Go.Proofs.YtmplckdpddmifaaGreatDoor
