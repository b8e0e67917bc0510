/- Package net: a text is read. -/
import Derived.Test.YtmplckdpddmifaaGreatDoorNThings

namespace Go.Proofs.YtmplckdpddmifaaGreatDoor
open Go.RowKit
attribute [local go_sem ↓] Go.wp_at_zero Go.wp_at_succ
set_option linter.unusedVariables false
set_option linter.unusedSimpArgs false
set_option maxRecDepth 10000
/-- nine values -/
def nine (us : List Value) : Prop := us.length = 9
theorem nine_parts {us : List Value} (h : us.length = 9) : ∃ a b c d e f g i j, us = [a, b, c, d, e, f, g, i, j] := by
  match us, h with
  | [a, b, c, d, e, f, g, i, j], _ => exact ⟨a, b, c, d, e, f, g, i, j, rfl⟩
def zN : List Value := [.int .i64 0, .int .i64 0, .int .i64 0, .int .i64 0, .int .i64 0, .slice none 0 0, .slice none 0 0, .int .i64 0, .int .i64 0]
def cN : List D := [dI 0, dI 0, dI 0, dI 0, dI 0, dN, dN, dI 0, dI 0]
/-- what a reading leaves -/
def ReadP (X : Except Er (List D)) (w : World) (e : Ending) (w' : World) : Prop := Keep w w' ∧ ∃ a b c d f g h i j, (∀ u ∈ [a, b, c, d, f, g, h, i, j], u.oneCell' = true) ∧
  match X with
  | .error x => e = .returned (.tuple #[.agg #[a, b, c, d, f, g, h, i, j], flt x])
  | .ok cs => e = .returned (.tuple #[.agg #[a, b, c, d, f, g, h, i, j], .nilIface]) ∧ Rds w' cs (fun q => w.heap.size ≤ q) [a, b, c, d, f, g, h, i, j]
set_option maxHeartbeats 4000000 in
theorem read_bad (v0 : Value) (x : Int × Nat) (w : World) (hx : x.1 ≠ 0) (T1 : Hid (∀ w', Keep w w' → Calls Tryz.prog 30 #[v0] w' (Tp (.error x) w'))) :
    Calls Tryz.prog 11 #[v0] w (ReadP (.error (x.1, (x.2 : Int))) w) := by
  have hb : (x.1 != 0) = true := by simp [hx]
  have hb2 : (x.1 == 0) = false := by simp [hx]
  have HK := hide ((Keep.refl w).alloc (.cells zN.toArray 28))
  clear hx
  unfold zN at HK
  go_enter Tryz.func11, Tryz.ntmps11
  go_wp2_with fail
  (refine ((uq T1) _ (uq HK)).mono ?_; rintro e w2 ⟨v, rfl, hts, _, hk⟩; obtain ⟨a0, c0, rfl⟩ := hts.shape; clear hts; obtain ⟨o1, k1, rfl⟩ := hk.ext; clear hk)
  simp only [te, tn]
  go_wp2_with fail
  exact bodyPost_ret (v := .tuple #[.agg #[.int .i64 0, .int .i64 0, .int .i64 0, .int .i64 0, .int .i64 0, .slice none 0 0, .slice none 0 0, .int .i64 0, .int .i64 0], flt (x.1, (x.2 : Int))]) (by simp [results, Tryz.results11, go_sem, flt]) rfl ⟨by repeat (first | apply keep_ext | apply Keep.alloc | apply Keep.drew | exact Keep.refl _), _, _, _, _, _, _, _, _, _, by simp [Value.oneCell'], rfl⟩
theorem Keep.set {a b : World} (h : Keep a b) (ad : Addr) (v : Value) (hb : a.heap.size ≤ ad.block) : Keep a (b.setCell ad v) := ⟨h.os, h.tape, h.output, by have := h.size; simpa [World.setCell] using this, fun i hi => by rw [Below.heap_setCell _ _ _ _ (by omega)]; exact h.block i hi⟩
theorem gather9 {w : World} {b : Nat} {t : TypeId} (h : shp w b = some (9, t, (0, 0))) (h1 : one1 w b) : ∃ u0 u1 u2 u3 u4 u5 u6 u7 u8, w.heap[b]? = some (.cells #[u0, u1, u2, u3, u4, u5, u6, u7, u8] t (0, 0)) ∧ ∀ u ∈ [u0, u1, u2, u3, u4, u5, u6, u7, u8], u.oneCell' = true := by
  unfold shp at h
  split at h
  · rename_i arr t' f' hb
    injection h with h
    injection h with ha hb2
    injection hb2 with hb2 hb3
    subst hb2 hb3
    obtain ⟨l⟩ := arr
    simp at ha
    obtain ⟨u0, u1, u2, u3, u4, u5, u6, u7, u8, rfl⟩ := nine_parts ha
    refine ⟨u0, u1, u2, u3, u4, u5, u6, u7, u8, hb, fun u hu => ?_⟩
    obtain ⟨i, hi⟩ := List.mem_iff_getElem?.1 hu
    refine h1 i u ?_
    simp only [World.cell?, hb]
    simpa using hi
  · cases h
theorem cN_ok : ∀ (j : Nat) d, cN[j]? = some d → ∃ v, zN[j]? = some v ∧ ∀ w P, Rd w d P v := by
  intro j d hd
  match j, hd with
  | 0, hd => simp [cN] at hd; subst hd; exact ⟨_, rfl, dI_rd 0⟩
  | 1, hd => simp [cN] at hd; subst hd; exact ⟨_, rfl, dI_rd 0⟩
  | 2, hd => simp [cN] at hd; subst hd; exact ⟨_, rfl, dI_rd 0⟩
  | 3, hd => simp [cN] at hd; subst hd; exact ⟨_, rfl, dI_rd 0⟩
  | 4, hd => simp [cN] at hd; subst hd; exact ⟨_, rfl, dI_rd 0⟩
  | 5, hd => simp [cN] at hd; subst hd; exact ⟨_, rfl, dN_rd⟩
  | 6, hd => simp [cN] at hd; subst hd; exact ⟨_, rfl, dN_rd⟩
  | 7, hd => simp [cN] at hd; subst hd; exact ⟨_, rfl, dI_rd 0⟩
  | 8, hd => simp [cN] at hd; subst hd; exact ⟨_, rfl, dI_rd 0⟩
  | j + 9, hd => simp [cN] at hd
/-- the network's own call, by what it leaves -/
theorem net_any (rb nb lo : Nat) (l : List Tok) (ta : Addr) (cap : Nat) (w : World) (hr : R0 rb l ta cap w l) (hnb : w.heap[nb]? = some (.cells zN.toArray 28 (0, 0))) (hrb : rb < w.heap.size) (h1 : nb ≠ rb) (h2 : nb ≠ ta.block) (h3 : ta.block ≠ rb) (hlo : lo ≤ w.heap.size) :
    Calls Tryz.prog 31 #[.pointer (some ⟨rb, 0, none⟩), .pointer (some ⟨nb, 0, none⟩)] w fun e w' => ∃ v u0 u1 u2 u3 u4 u5 u6 u7 u8, e = .returned v ∧ Fr (fun b => b = rb ∨ b = nb) w w' ∧ w'.heap[nb]? = some (.cells #[u0, u1, u2, u3, u4, u5, u6, u7, u8] 28 (0, 0)) ∧ (∀ u ∈ [u0, u1, u2, u3, u4, u5, u6, u7, u8], u.oneCell' = true) ∧
      match pNet l with
      | .error x => v = flt x
      | .ok (c, _) => v = .nilIface ∧ Rds w' c (fun b => lo ≤ b ∧ b ≠ rb ∧ b ≠ nb) [u0, u1, u2, u3, u4, u5, u6, u7, u8] := by
  have hnl : nb < w.heap.size := (Array.getElem?_eq_some_iff.1 hnb).1
  have hS : ∀ b, (Env.one rb l ta cap nb (fun j => j) lo).S b → b < w.heap.size := fun b hb => by rcases hb with rfl | rfl <;> assumption
  have hR : Rdr (Env.one rb l ta cap nb (fun j => j) lo) w l := one_rdr hr h2 (fun e => h3 e.symm)
  have hL : Cel (Env.one rb l ta cap nb (fun j => j) lo) w cN := one_cel hnb h1 rfl (fun i j hi hj e => e) cN_ok
  refine (net_core (Env.one rb l ta cap nb (fun j => j) lo) nb w l (hide rfl) (hide rfl) (hide rfl) (hide rfl) (hide rfl) (hide rfl) (hide rfl) (hide rfl) (hide rfl) (hide hS) (hide hlo) (hide hR) (hide hL) (hide (node_thing h3)) (hide (stop_thing h3))).mono ?_
  rintro e w' hp
  obtain ⟨v, rfl⟩ := post_ret hp
  have hf : Fr (fun b => b = rb ∨ b = nb) w w' := hp.1
  have hsh : shp w' nb = some (9, 28, (0, 0)) := by rw [hf.shape nb hnl]; unfold shp; rw [hnb]; rfl
  have hon : one1 w' nb := hf.ones nb hnl (fun i v hv => by
    have : zN[i]? = some v := by
      have h9 := hv
      simp only [World.cell?, hnb] at h9
      simpa using h9
    have hm : v ∈ zN := List.mem_iff_getElem?.2 ⟨i, this⟩
    simp only [zN, List.mem_cons, List.not_mem_nil, or_false] at hm
    rcases hm with rfl | rfl | rfl | rfl | rfl | rfl | rfl | rfl | rfl <;> rfl)
  obtain ⟨u0, u1, u2, u3, u4, u5, u6, u7, u8, hb, h1c⟩ := gather9 hsh hon
  refine ⟨v, u0, u1, u2, u3, u4, u5, u6, u7, u8, rfl, hf, hb, h1c, ?_⟩
  obtain ⟨_, hp⟩ := hp
  cases hx : pNet l with
  | error x =>
    have hx' : sq _ [] l = .error x := hx
    rw [hx'] at hp
    injection hp
  | ok q =>
    obtain ⟨c, r'⟩ := q
    have hx' : sq _ [] l = .ok (c, r') := hx
    rw [hx'] at hp
    obtain ⟨p1, p2, p3, p4⟩ := hp
    injection p1 with p1
    refine ⟨p1, ?_⟩
    obtain ⟨vs, k1, k2⟩ := gather (w := w') (xb := nb) (P := fun b => lo ≤ b ∧ b ≠ rb ∧ b ≠ nb) c 0 (fun j d hd => by
      obtain ⟨v, q1, q2, _⟩ := p4.2 j d (by simpa using hd)
      exact ⟨v, by rw [Nat.zero_add]; exact q1, Rd.move d _ _ v q2 (fun b hb _ => ⟨rfl, hb.2, fun e => hb.1 (.inl e), fun e => hb.1 (.inr e)⟩)⟩)
    have hlen : vs.length = 9 := (rds_length _ _ _ k2).trans p2
    have : vs = [u0, u1, u2, u3, u4, u5, u6, u7, u8] := by
      apply List.ext_getElem?
      intro i
      cases hv : vs[i]? with
      | none => rw [List.getElem?_eq_none_iff] at hv; rw [eq_comm, List.getElem?_eq_none_iff]; simp; omega
      | some v =>
        have h9 := k1 i v hv
        rw [Nat.zero_add] at h9
        simp only [World.cell?, hb] at h9
        simpa using h9.symm
    rw [← this]
    exact k2
theorem store_at (W : World) (b i : Nat) (u old : Value) (ho : u.oneCell' = true) (hc : W.cell? ⟨b, i, none⟩ = some old) (hf : W.frozen? ⟨b, i, none⟩ = false) : (store ⟨b, i, none⟩ u).run Tryz.prog W = .ok () (W.setCell ⟨b, i, none⟩ u) := by
  rw [run_store Tryz.prog W ⟨b, i, none⟩ u _ ho]
  simp [hc, hf]
theorem set_cells {W : World} {b i : Nat} {arr : Array Value} {t : TypeId} {fr : Nat × Nat} (h : W.heap[b]? = some (.cells arr t fr)) (v : Value) : (W.setCell ⟨b, i, none⟩ v).heap[b]? = some (.cells (arr.setIfInBounds i v) t fr) := by
  simp [World.setCell, Array.getElem?_modify, h]
theorem store1 {W : World} {b : Nat} {t : TypeId} {arr : Array Value} (h : W.heap[b]? = some (.cells arr t (0, 0))) (i : Nat) {z u : Value} (hi : arr[i]? = some z) (ho : u.oneCell' = true) :
    ∃ W', (store ⟨b, i, none⟩ u).run Tryz.prog W = .ok () W' ∧ W'.heap[b]? = some (.cells (arr.setIfInBounds i u) t (0, 0)) ∧ (∀ q, q ≠ b → W'.heap[q]? = W.heap[q]?) ∧ W'.heap.size = W.heap.size ∧ W'.os = W.os ∧ W'.tape = W.tape ∧ W'.output = W.output :=
  ⟨_, store_at W b i u z ho (by simp [World.cell?, h, hi]) (by simp [World.frozen?, h]), set_cells h u, fun q hq => Below.heap_setCell _ _ _ _ hq, by simp [World.setCell], rfl, rfl, rfl⟩
set_option maxHeartbeats 2000000 in
/-- nine values are stored, one behind the other -/
theorem store9 {W : World} {b : Nat} {t : TypeId} {z0 z1 z2 z3 z4 z5 z6 z7 z8 : Value} (h : W.heap[b]? = some (.cells #[z0, z1, z2, z3, z4, z5, z6, z7, z8] t (0, 0))) {u0 u1 u2 u3 u4 u5 u6 u7 u8 : Value} (ho : ∀ u ∈ [u0, u1, u2, u3, u4, u5, u6, u7, u8], u.oneCell' = true) :
    ∃ W1 W2 W3 W4 W5 W6 W7 W8 W9, (store ⟨b, 0, none⟩ u0).run Tryz.prog W = .ok () W1 ∧ (store ⟨b, 1, none⟩ u1).run Tryz.prog W1 = .ok () W2 ∧ (store ⟨b, 2, none⟩ u2).run Tryz.prog W2 = .ok () W3 ∧ (store ⟨b, 3, none⟩ u3).run Tryz.prog W3 = .ok () W4 ∧ (store ⟨b, 4, none⟩ u4).run Tryz.prog W4 = .ok () W5 ∧ (store ⟨b, 5, none⟩ u5).run Tryz.prog W5 = .ok () W6 ∧ (store ⟨b, 6, none⟩ u6).run Tryz.prog W6 = .ok () W7 ∧ (store ⟨b, 7, none⟩ u7).run Tryz.prog W7 = .ok () W8 ∧ (store ⟨b, 8, none⟩ u8).run Tryz.prog W8 = .ok () W9 ∧ W9.heap[b]? = some (.cells #[u0, u1, u2, u3, u4, u5, u6, u7, u8] t (0, 0)) ∧ (∀ q, q ≠ b → W9.heap[q]? = W.heap[q]?) ∧ W9.heap.size = W.heap.size ∧ W9.os = W.os ∧ W9.tape = W.tape ∧ W9.output = W.output := by
  obtain ⟨W1, s0, g0, q0, z0', a0, b0, c0⟩ := store1 h 0 (z := z0) (u := u0) rfl (ho _ (by simp))
  have h0 : W1.heap[b]? = some (.cells #[u0, z1, z2, z3, z4, z5, z6, z7, z8] t (0, 0)) := g0
  obtain ⟨W2, s1, g1, q1, z1', a1, b1, c1⟩ := store1 h0 1 (z := z1) (u := u1) rfl (ho _ (by simp))
  have h1 : W2.heap[b]? = some (.cells #[u0, u1, z2, z3, z4, z5, z6, z7, z8] t (0, 0)) := g1
  obtain ⟨W3, s2, g2, q2, z2', a2, b2, c2⟩ := store1 h1 2 (z := z2) (u := u2) rfl (ho _ (by simp))
  have h2 : W3.heap[b]? = some (.cells #[u0, u1, u2, z3, z4, z5, z6, z7, z8] t (0, 0)) := g2
  obtain ⟨W4, s3, g3, q3, z3', a3, b3, c3⟩ := store1 h2 3 (z := z3) (u := u3) rfl (ho _ (by simp))
  have h3 : W4.heap[b]? = some (.cells #[u0, u1, u2, u3, z4, z5, z6, z7, z8] t (0, 0)) := g3
  obtain ⟨W5, s4, g4, q4, z4', a4, b4, c4⟩ := store1 h3 4 (z := z4) (u := u4) rfl (ho _ (by simp))
  have h4 : W5.heap[b]? = some (.cells #[u0, u1, u2, u3, u4, z5, z6, z7, z8] t (0, 0)) := g4
  obtain ⟨W6, s5, g5, q5, z5', a5, b5, c5⟩ := store1 h4 5 (z := z5) (u := u5) rfl (ho _ (by simp))
  have h5 : W6.heap[b]? = some (.cells #[u0, u1, u2, u3, u4, u5, z6, z7, z8] t (0, 0)) := g5
  obtain ⟨W7, s6, g6, q6, z6', a6, b6, c6⟩ := store1 h5 6 (z := z6) (u := u6) rfl (ho _ (by simp))
  have h6 : W7.heap[b]? = some (.cells #[u0, u1, u2, u3, u4, u5, u6, z7, z8] t (0, 0)) := g6
  obtain ⟨W8, s7, g7, q7, z7', a7, b7, c7⟩ := store1 h6 7 (z := z7) (u := u7) rfl (ho _ (by simp))
  have h7 : W8.heap[b]? = some (.cells #[u0, u1, u2, u3, u4, u5, u6, u7, z8] t (0, 0)) := g7
  obtain ⟨W9, s8, g8, q8, z8', a8, b8, c8⟩ := store1 h7 8 (z := z8) (u := u8) rfl (ho _ (by simp))
  have h8 : W9.heap[b]? = some (.cells #[u0, u1, u2, u3, u4, u5, u6, u7, u8] t (0, 0)) := g8
  refine ⟨W1, W2, W3, W4, W5, W6, W7, W8, W9, s0, s1, s2, s3, s4, s5, s6, s7, s8, h8, fun q hq => ?_, ?_, ?_, ?_, ?_⟩
  · rw [q8 q hq, q7 q hq, q6 q hq, q5 q hq, q4 q hq, q3 q hq, q2 q hq, q1 q hq, q0 q hq]
  · rw [z8', z7', z6', z5', z4', z3', z2', z1', z0']
  · rw [a8, a7, a6, a5, a4, a3, a2, a1, a0]
  · rw [b8, b7, b6, b5, b4, b3, b2, b1, b0]
  · rw [c8, c7, c6, c5, c4, c3, c2, c1, c0]
/-- what a network's reading comes to -/
def XN (l : List Tok) : Except Er (List D) := match pNet l with
  | .error x => .error x
  | .ok (c, _) => .ok c
set_option maxHeartbeats 8000000 in
theorem read_ok (v0 : Value) (L : List Tok) (w : World) (hwf : Hid (Wf L)) (T1 : Hid (∀ w', Keep w w' → Calls Tryz.prog 30 #[v0] w' (Tp (.ok L) w'))) :
    Calls Tryz.prog 11 #[v0] w (ReadP (XN L) w) := by
  have HK := hide ((Keep.refl w).alloc (.cells #[.int .i64 0, .int .i64 0, .int .i64 0, .int .i64 0, .int .i64 0, .slice none 0 0, .slice none 0 0, .int .i64 0, .int .i64 0] 28))
  have htb0 := hide (heap_alloc_new w (.cells #[.int .i64 0, .int .i64 0, .int .i64 0, .int .i64 0, .int .i64 0, .slice none 0 0, .slice none 0 0, .int .i64 0, .int .i64 0] 28))
  have hsz0 := hide (World.size_alloc w (.cells #[.int .i64 0, .int .i64 0, .int .i64 0, .int .i64 0, .int .i64 0, .slice none 0 0, .slice none 0 0, .int .i64 0, .int .i64 0] 28))
  go_enter Tryz.func11, Tryz.ntmps11
  go_wp2_with fail
  generalize w.alloc (.cells #[.int .i64 0, .int .i64 0, .int .i64 0, .int .i64 0, .int .i64 0, .slice none 0 0, .slice none 0 0, .int .i64 0, .int .i64 0] 28) = w1 at HK htb0 hsz0 ⊢
  (refine ((uq T1) _ (uq HK)).mono ?_; rintro e w2 ⟨v, rfl, hts, hlo, hk⟩)
  simp only [te, tn, tl] at hts ⊢
  obtain ⟨a0, c0, rfl, hcap, hts⟩ := hts
  have hpos : 0 < L.length := by obtain ⟨_, ⟨m, t, hm, _⟩, _⟩ := uq hwf; rw [hm]; simp
  obtain ⟨ta, rfl, hta, _⟩ := hts 0 hpos
  have htc : ∀ k, k < L.length → Tc w2 (ta.add (k * 4)) (L.getD k t0) := fun k hk => by
    obtain ⟨ad, e, _, h⟩ := hts k hk
    injection e with e
    subst e
    exact h
  have hlo' : w1.heap.size ≤ ta.block := hlo ta _ _ rfl
  have HTC := hide htc
  have HTA := hide hta
  have HLO := hide hlo'
  have HK2 := hide hk
  have HPOS := hide hpos
  clear hts hcap htc hta hlo hlo' hk hpos
  obtain ⟨n, HN⟩ : ∃ n, Hid (L.length = n) := ⟨_, rfl⟩
  rw [uq HN]
  obtain ⟨tb, HTB⟩ : ∃ tb, Hid (w.heap.size = tb) := ⟨_, rfl⟩
  rw [uq HTB] at htb0 hsz0 ⊢
  go_wp2_with fail
  have HKa := hide (two_keep w2 (.cells #[.int .i64 0, .int .i64 0, .int .i64 0, .int .i64 0, .int .i64 0, .slice none 0 0, .slice none 0 0, .int .i64 0, .int .i64 0] 28) (.cells #[.slice (some ta) n c0, .int .i64 0] 83))
  have hnb : Hid (((w2.alloc (.cells #[.int .i64 0, .int .i64 0, .int .i64 0, .int .i64 0, .int .i64 0, .slice none 0 0, .slice none 0 0, .int .i64 0, .int .i64 0] 28)).alloc (.cells #[.slice (some ta) n c0, .int .i64 0] 83)).heap[w2.heap.size]? = some (.cells #[.int .i64 0, .int .i64 0, .int .i64 0, .int .i64 0, .int .i64 0, .slice none 0 0, .slice none 0 0, .int .i64 0, .int .i64 0] 28 (0, 0))) := hide (by rw [heap_alloc_old _ _ (by rw [World.size_alloc]; omega)]; exact heap_alloc_new w2 _)
  have hrb : Hid (((w2.alloc (.cells #[.int .i64 0, .int .i64 0, .int .i64 0, .int .i64 0, .int .i64 0, .slice none 0 0, .slice none 0 0, .int .i64 0, .int .i64 0] 28)).alloc (.cells #[.slice (some ta) n c0, .int .i64 0] 83)).heap[w2.heap.size + 1]? = some (.cells #[.slice (some ta) n c0, .int .i64 0] 83 (0, 0))) := hide (by have := heap_alloc_new (w2.alloc (.cells #[.int .i64 0, .int .i64 0, .int .i64 0, .int .i64 0, .int .i64 0, .slice none 0 0, .slice none 0 0, .int .i64 0, .int .i64 0] 28)) (.cells #[.slice (some ta) n c0, .int .i64 0] 83); rw [World.size_alloc] at this; exact this)
  have hsz : Hid (((w2.alloc (.cells #[.int .i64 0, .int .i64 0, .int .i64 0, .int .i64 0, .int .i64 0, .slice none 0 0, .slice none 0 0, .int .i64 0, .int .i64 0] 28)).alloc (.cells #[.slice (some ta) n c0, .int .i64 0] 83)).heap.size = w2.heap.size + 2) := hide (by rw [World.size_alloc, World.size_alloc])
  generalize (w2.alloc (.cells #[.int .i64 0, .int .i64 0, .int .i64 0, .int .i64 0, .int .i64 0, .slice none 0 0, .slice none 0 0, .int .i64 0, .int .i64 0] 28)).alloc (.cells #[.slice (some ta) n c0, .int .i64 0] 83) = wb at HKa hnb hrb hsz ⊢
  obtain ⟨nb, HNB⟩ : ∃ nb, Hid (w2.heap.size = nb) := ⟨_, rfl⟩
  rw [uq HNB] at hnb hrb hsz ⊢
  have hr : R0 (nb + 1) L ta c0 wb L := by
    refine ⟨0, uq HPOS, rfl, by simp [World.cell?, uq hrb, uq HN], by simp [World.cell?, uq hrb], by simp [World.frozen?, uq hrb], Nat.lt_of_lt_of_le (uq HTA) (uq HKa).size, fun k hk => ((uq HTC) k hk).keep (by rw [add_block]; exact uq HTA) (uq HKa), uq hwf⟩
  have hx1 := uq HTA
  have hx2 := uq HNB
  have hx3 := (uq HK2).size
  have hx4 := uq hsz0
  refine (net_any (nb + 1) nb (tb + 1) L ta c0 wb hr (uq hnb) (by rw [uq hsz]; omega) (by omega) (by omega) (by omega) (by rw [uq hsz]; omega)).mono ?_
  rintro e w3 ⟨vz, u0, u1, u2, u3, u4, u5, u6, u7, u8, rfl, hf, hnb3, hon, hres⟩
  have htb3 : w3.heap[tb]? = some (.cells #[.int .i64 0, .int .i64 0, .int .i64 0, .int .i64 0, .int .i64 0, .slice none 0 0, .slice none 0 0, .int .i64 0, .int .i64 0] 28 (0, 0)) := by
    rw [hf.block tb (by rw [uq hsz]; omega) (fun e => by rcases e with e | e <;> omega), (uq HKa).block tb (by omega), (uq HK2).block tb (by omega)]
    exact uq htb0
  have n0 : w3.cell? ⟨nb, 0, none⟩ = some u0 := by simp [World.cell?, hnb3]
  have n1 : w3.cell? ⟨nb, 1, none⟩ = some u1 := by simp [World.cell?, hnb3]
  have n2 : w3.cell? ⟨nb, 2, none⟩ = some u2 := by simp [World.cell?, hnb3]
  have n3 : w3.cell? ⟨nb, 3, none⟩ = some u3 := by simp [World.cell?, hnb3]
  have n4 : w3.cell? ⟨nb, 4, none⟩ = some u4 := by simp [World.cell?, hnb3]
  have n5 : w3.cell? ⟨nb, 5, none⟩ = some u5 := by simp [World.cell?, hnb3]
  have n6 : w3.cell? ⟨nb, 6, none⟩ = some u6 := by simp [World.cell?, hnb3]
  have n7 : w3.cell? ⟨nb, 7, none⟩ = some u7 := by simp [World.cell?, hnb3]
  have n8 : w3.cell? ⟨nb, 8, none⟩ = some u8 := by simp [World.cell?, hnb3]
  have r0 : w3.cell? ⟨tb, 0, none⟩ = some (.int .i64 0) := by simp [World.cell?, htb3]
  have r1 : w3.cell? ⟨tb, 1, none⟩ = some (.int .i64 0) := by simp [World.cell?, htb3]
  have r2 : w3.cell? ⟨tb, 2, none⟩ = some (.int .i64 0) := by simp [World.cell?, htb3]
  have r3 : w3.cell? ⟨tb, 3, none⟩ = some (.int .i64 0) := by simp [World.cell?, htb3]
  have r4 : w3.cell? ⟨tb, 4, none⟩ = some (.int .i64 0) := by simp [World.cell?, htb3]
  have r5 : w3.cell? ⟨tb, 5, none⟩ = some (.slice none 0 0) := by simp [World.cell?, htb3]
  have r6 : w3.cell? ⟨tb, 6, none⟩ = some (.slice none 0 0) := by simp [World.cell?, htb3]
  have r7 : w3.cell? ⟨tb, 7, none⟩ = some (.int .i64 0) := by simp [World.cell?, htb3]
  have r8 : w3.cell? ⟨tb, 8, none⟩ = some (.int .i64 0) := by simp [World.cell?, htb3]
  have f0 : w3.frozen? ⟨tb, 0, none⟩ = false := by simp [World.frozen?, htb3]
  have f1 : w3.frozen? ⟨tb, 1, none⟩ = false := by simp [World.frozen?, htb3]
  have f2 : w3.frozen? ⟨tb, 2, none⟩ = false := by simp [World.frozen?, htb3]
  have f3 : w3.frozen? ⟨tb, 3, none⟩ = false := by simp [World.frozen?, htb3]
  have f4 : w3.frozen? ⟨tb, 4, none⟩ = false := by simp [World.frozen?, htb3]
  have f5 : w3.frozen? ⟨tb, 5, none⟩ = false := by simp [World.frozen?, htb3]
  have f6 : w3.frozen? ⟨tb, 6, none⟩ = false := by simp [World.frozen?, htb3]
  have f7 : w3.frozen? ⟨tb, 7, none⟩ = false := by simp [World.frozen?, htb3]
  have f8 : w3.frozen? ⟨tb, 8, none⟩ = false := by simp [World.frozen?, htb3]
  have o0 : u0.oneCell' = true := hon u0 (by simp)
  have o1 : u1.oneCell' = true := hon u1 (by simp)
  have o2 : u2.oneCell' = true := hon u2 (by simp)
  have o3 : u3.oneCell' = true := hon u3 (by simp)
  have o4 : u4.oneCell' = true := hon u4 (by simp)
  have o5 : u5.oneCell' = true := hon u5 (by simp)
  have o6 : u6.oneCell' = true := hon u6 (by simp)
  have o7 : u7.oneCell' = true := hon u7 (by simp)
  have o8 : u8.oneCell' = true := hon u8 (by simp)
  have HRES := hide hres
  have HON := hide hon
  have HT3 := hide htb3
  have HKw : Hid (Keep w w3) := hide ⟨hf.os.trans (((uq HKa).os.trans (uq HK2).os).trans (uq HK).os), hf.tape.trans (((uq HKa).tape.trans (uq HK2).tape).trans (uq HK).tape), hf.output.trans (((uq HKa).output.trans (uq HK2).output).trans (uq HK).output), by have := hf.size; have := (uq HKa).size; have := (uq HK).size; omega, fun i hi => by
    have := (uq HTB)
    rw [hf.block i (by rw [uq hsz]; omega) (fun e => by rcases e with e | e <;> omega), (uq HKa).block i (by omega), (uq HK2).block i (by omega)]
    exact (uq HK).block i hi⟩
  clear hres hon hf hnb3 htb3 hr hx1 hx2 hx3 hx4
  obtain ⟨W1, W2, W3, W4, W5, W6, W7, W8, W9, s0, s1, s2, s3, s4, s5, s6, s7, s8, hb9, hq9, hz9, ho9, ht9, hp9⟩ := store9 (uq HT3) (uq HON)
  have HB9 := hide hb9
  have HQ9 := hide hq9
  have HK9 : Hid (Keep w W9) := hide ⟨ho9.trans (uq HKw).os, ht9.trans (uq HKw).tape, hp9.trans (uq HKw).output, by have := (uq HKw).size; omega, fun i hi => by rw [hq9 i (by have := uq HTB; omega)]; exact (uq HKw).block i hi⟩
  have t0 : W9.cell? ⟨tb, 0, none⟩ = some u0 := by simp [World.cell?, hb9]
  have t1 : W9.cell? ⟨tb, 1, none⟩ = some u1 := by simp [World.cell?, hb9]
  have t2 : W9.cell? ⟨tb, 2, none⟩ = some u2 := by simp [World.cell?, hb9]
  have t3 : W9.cell? ⟨tb, 3, none⟩ = some u3 := by simp [World.cell?, hb9]
  have t4 : W9.cell? ⟨tb, 4, none⟩ = some u4 := by simp [World.cell?, hb9]
  have t5 : W9.cell? ⟨tb, 5, none⟩ = some u5 := by simp [World.cell?, hb9]
  have t6 : W9.cell? ⟨tb, 6, none⟩ = some u6 := by simp [World.cell?, hb9]
  have t7 : W9.cell? ⟨tb, 7, none⟩ = some u7 := by simp [World.cell?, hb9]
  have t8 : W9.cell? ⟨tb, 8, none⟩ = some u8 := by simp [World.cell?, hb9]
  clear hb9 hq9 hz9 ho9 ht9 hp9
  clear r0 r1 r2 r3 r4 r5 r6 r7 r8 f0 f1 f2 f3 f4 f5 f6 f7 f8
  go_wp2_with fail
  refine bodyPost_ret (v := .tuple #[.agg #[u0, u1, u2, u3, u4, u5, u6, u7, u8], vz]) ?_ rfl ?_
  · simp [results, Tryz.results11, go_sem, t0, t1, t2, t3, t4, t5, t6, t7, t8]
  · refine ⟨?_, u0, u1, u2, u3, u4, u5, u6, u7, u8, uq HON, ?_⟩
    · exact uq HK9
    · have hr := uq HRES
      unfold XN
      cases hx : pNet L with
      | error x => rw [hx] at hr; simp only at hr ⊢; rw [hr]
      | ok q =>
        obtain ⟨c, r'⟩ := q
        rw [hx] at hr
        simp only at hr ⊢
        refine ⟨by rw [hr.1], Rds.move c _ _ _ hr.2 (fun b hb _ => ⟨?_, ?_⟩)⟩
        · exact (uq HQ9) b (by have := hb.1; omega)
        · have := hb.1; have := uq HTB; omega
end Go.Proofs.YtmplckdpddmifaaGreatDoor
