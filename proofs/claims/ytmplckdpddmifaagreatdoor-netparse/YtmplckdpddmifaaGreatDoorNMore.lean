/- Package net: the word that begins one more thing; rows that grow. -/
import Derived.Test.YtmplckdpddmifaaGreatDoorNMs
import Derived.Maps.AppendAt
namespace Go.Proofs.YtmplckdpddmifaaGreatDoor
open Go.RowKit
attribute [local go_sem ↓] Go.wp_at_zero Go.wp_at_succ
set_option linter.unusedVariables false
set_option linter.unusedSimpArgs false
set_option maxRecDepth 10000
set_option maxHeartbeats 2000000 in
theorem more_no (rb n most : Nat) (kk nn pp : Int) (S X : ByteArray) (w : World) (hne : (S.toList == X.toList) = false)
    (T1 : Hid (NowT rb kk nn pp S w))
    (T2 : Hid (∀ w' a b, Keep w w' → w'.cell? ⟨a, 0, none⟩ = some (.pointer (some ⟨rb, 0, none⟩)) → w'.cell? ⟨b, 0, none⟩ = some (.string X) → Calls Tryz.prog 62 #[.pointer (some ⟨a, 0, none⟩), .pointer (some ⟨b, 0, none⟩)] w' fun e w'' => e = .returned (flt (50, pp)) ∧ Keep w' w'')) :
    Calls Tryz.prog 68 #[.pointer (some ⟨rb, 0, none⟩), .string X, .int .i64 (n : Int), .int .i64 (most : Int)] w fun e w' => e = .returned (flt (50, pp)) ∧ Keep w w' := by
  have HK := hide (Keep.refl w)
  have M := hide the_make
  have fs := field_s
  go_enter Tryz.func68, Tryz.ntmps68
  go_wp2_with fail
  (refine ((uq T1) _ (uq HK)).mono ?_; rintro e w2 ⟨rfl, hk⟩; have HK2 := hide hk; clear hk)
  go_wp2_with fail
  (refine ((uq M) _ _ _).mono ?_; rintro e w1 ⟨rfl, rfl⟩)
  go_wp2_with fail
  (refine ((uq T2) _ _ _ ((uq HK2).trans (two_keep _ _ _)) (by simp [go_sem]) (by simp [go_sem])).mono ?_; rintro e w3 ⟨rfl, hk⟩; have HK3 := hide (((uq HK2).trans (two_keep _ _ _)).trans hk); clear hk)
  go_wp2_with fail
  go_ret
  exact ⟨rfl, uq HK3⟩
set_option maxHeartbeats 2000000 in
theorem more_long (rb n most : Nat) (kk nn pp : Int) (S X : ByteArray) (w : World) (hne : (S.toList == X.toList) = true) (hn : n = most)
    (T1 : Hid (NowT rb kk nn pp S w)) (T2 : Hid (WrongT rb pp w)) :
    Calls Tryz.prog 68 #[.pointer (some ⟨rb, 0, none⟩), .string X, .int .i64 (n : Int), .int .i64 (most : Int)] w fun e w' => e = .returned (flt (4, pp)) ∧ Keep w w' := by
  have HK := hide (Keep.refl w)
  have fs := field_s
  subst hn
  go_enter Tryz.func68, Tryz.ntmps68
  go_wp2_with fail
  (refine ((uq T1) _ (uq HK)).mono ?_; rintro e w2 ⟨rfl, hk⟩; have HK2 := hide hk; clear hk)
  go_wp2_with fail
  (refine ((uq T2) _ _ (uq HK2)).mono ?_; rintro e w3 ⟨rfl, hk⟩; have HK3 := hide ((uq HK2).trans hk); clear hk)
  go_wp2_with fail
  go_ret
  exact ⟨rfl, uq HK3⟩
set_option maxHeartbeats 2000000 in
theorem more_yes (rb n most k : Nat) (kk nn pp : Int) (S X : ByteArray) (w : World) (hne : (S.toList == X.toList) = true) (hn : ((n : Int) == (most : Int)) = false)
    (T1 : Hid (NowT rb kk nn pp S w))
    (T2 : Hid (∀ w' a b, Keep w w' → w'.cell? ⟨a, 0, none⟩ = some (.pointer (some ⟨rb, 0, none⟩)) → w'.cell? ⟨b, 0, none⟩ = some (.string X) → Calls Tryz.prog 62 #[.pointer (some ⟨a, 0, none⟩), .pointer (some ⟨b, 0, none⟩)] w' fun e w'' => e = .returned .nilIface ∧ ∃ w2, Keep w' w2 ∧ w'' = w2.setCell ⟨rb, 1, none⟩ (.int .i64 ((k + 1 : Nat) : Int)))) :
    Calls Tryz.prog 68 #[.pointer (some ⟨rb, 0, none⟩), .string X, .int .i64 (n : Int), .int .i64 (most : Int)] w fun e w' => e = .returned .nilIface ∧ ∃ w2, Keep w w2 ∧ w' = w2.setCell ⟨rb, 1, none⟩ (.int .i64 ((k + 1 : Nat) : Int)) := by
  have HK := hide (Keep.refl w)
  have M := hide the_make
  have fs := field_s
  go_enter Tryz.func68, Tryz.ntmps68
  go_wp2_with fail
  (refine ((uq T1) _ (uq HK)).mono ?_; rintro e w2 ⟨rfl, hk⟩; have HK2 := hide hk; clear hk)
  go_wp2_with fail
  (refine ((uq M) _ _ _).mono ?_; rintro e w1 ⟨rfl, rfl⟩)
  go_wp2_with fail
  (refine ((uq T2) _ _ _ ((uq HK2).trans (two_keep _ _ _)) (by simp [go_sem]) (by simp [go_sem])).mono ?_; rintro e w3 ⟨rfl, hw⟩; have HW := hide hw; clear hw)
  go_wp2_with fail
  go_ret
  obtain ⟨w4, h1, h2⟩ := uq HW
  exact ⟨rfl, w4, ((uq HK2).trans (two_keep _ _ _)).trans h1, h2⟩
section
variable {P : Program} {w : World}
theorem wp_append_at {o : Oper} {a : Act} {K : Act → World → Prop} {Q : Exit → Act → World → Prop} (s x : Operand) (t : TypeId)
    (ho : o.op = .call { callee := .builtin .append, args := #[s, x], argTypes := #[t, t] })
    (base : Nat) (e : TypeId) (i : TypeInfo) (z : Value) (size bytes : Nat) (ht : P.underlying t = some (.slice e)) (hi : P.info? e = some i) (hz : i.zero = some z)
    (hsize : i.size = size) (hby : i.bytes = bytes) (hzs : z.cells.size = size) (hsz : 0 < size)
    (v : Value) (n : Nat) (xs : List Value) (hs : a.eval s = v) (hown : w.ownsRow base e size v n xs)
    (ad : Addr) (m c : Nat) (news : List Value) (hx : a.eval x = .slice (some ad) m c) (hl : news.length = m * size) (hnews : ∀ j u, news[j]? = some u → w.cell? (ad.add j) = some u) (h1 : ∀ u ∈ news, u.oneCell' = true)
    (h63 : n + m ≤ maxLen) (hbytes : (n + m) * bytes ≤ 140737488355328) (hbase : base ≤ w.heap.size)
    (h : ∀ v' w', w'.ownsRow base e size v' (n + m) (xs ++ news) → w.grownBy w' v.ownBlock → (v'.ownBlock = v.ownBlock ∨ v'.ownBlock = some w.heap.size) → K (a.put o.dst v') w') : o.wp P a w K Q := by
  obtain ⟨v', w', hr, h2, h3, h4, h5⟩ := run_append_own_at (P := P) w base t o.type e i z size bytes ht hi hz hsize hby hzs hsz v n xs hown ad m c news hl hnews h1 h63 hbytes hbase
  unfold Oper.wp execOp
  simp only [ho, resolve, invoke, builtin, Sem.run_bind, Sem.run_pure, Result.andThen_ok, List.map_toArray, List.map_cons, List.map_nil, hs, hx, hr]
  exact h v' w' h2 h3 h5
end
/-- a row that grows: the world when the step began, and now -/
structure RowI (E : Env) (w : World) (m : Nat) (cs : List D) (e z : Nat) (wr : World) (L : List (List D)) (r : List Tok) (v : Value) : Prop where
  fr : Fr E.S w wr
  rd : Rdr E wr r
  ta : E.ta.block < w.heap.size
  cl : Cel E w cs
  lt : m < cs.length
  oth : ∀ i, i < cs.length → i ≠ m → wr.cell? ⟨(E.A i).1, (E.A i).2, none⟩ = w.cell? ⟨(E.A i).1, (E.A i).2, none⟩
  frz : ∀ i, i < cs.length → wr.frozen? ⟨(E.A i).1, (E.A i).2, none⟩ = false
  cel : wr.cell? ⟨(E.A m).1, (E.A m).2, none⟩ = some v
  row : Rd wr (.row e z L) (fun b => ¬ E.S b ∧ w.heap.size ≤ b) v
theorem RowI.part {E : Env} {w : World} {m : Nat} {cs : List D} {e z : Nat} {wr : World} {L : List (List D)} {r : List Tok} {v : Value} (h : RowI E w m cs e z wr L r v) {i : Nat} (hi : i < cs.length) : (∃ u, w.cell? ⟨(E.A i).1, (E.A i).2, none⟩ = some u) ∧ E.S (E.A i).1 ∧ (E.A i).1 ≠ E.rb ∧ (E.A i).1 < w.heap.size := by
  obtain ⟨u, h1, h2, h3, h4, h5⟩ := h.cl.2 i cs[i] (by simp [hi])
  exact ⟨⟨u, h1⟩, h4, h5, cell_lt h1⟩
/-- an empty slice -/
def dN : D := .val (.slice none 0 0)
theorem RowI.start {E : Env} {w : World} {c rest : List D} {e z : Nat} {r : List Tok} (hr : Rdr E w r) (hl : Cel E w (c ++ [dN] ++ rest)) : RowI E w c.length (c ++ [dN] ++ rest) e z w [] r (.slice none 0 0) := by
  obtain ⟨k, _, _, _, _, _, h7, _⟩ := hr.1
  obtain ⟨u, h1, h2, h3, h4, h5⟩ := hl.2 c.length dN (by simp)
  obtain rfl : u = .slice none 0 0 := h2.1
  refine ⟨.refl _ _, hr, h7, hl, by simp, fun _ _ _ => rfl, fun i hi => ?_, h1, rd_nil _ _ _ _⟩
  obtain ⟨u, _, _, k3, _⟩ := hl.2 i _ (List.getElem?_eq_getElem hi)
  exact k3
theorem cell_of {w w' : World} {a : Addr} (h : w'.heap[a.block]? = w.heap[a.block]?) : w'.cell? a = w.cell? a := World.cell?_of_block h
theorem R0.blk {rb : Nat} {l : List Tok} {ta : Addr} {cap : Nat} {w w' : World} {r : List Tok} (h : R0 rb l ta cap w r) (hs : w.heap.size ≤ w'.heap.size) (h1 : w'.heap[rb]? = w.heap[rb]?) (h2 : w'.heap[ta.block]? = w.heap[ta.block]?) : R0 rb l ta cap w' r := by
  obtain ⟨k, a1, a2, a3, a4, a5, a7, a8, a9⟩ := h
  refine ⟨k, a1, a2, by rw [cell_of (a := ⟨rb, 0, none⟩) h1]; exact a3, by rw [cell_of (a := ⟨rb, 1, none⟩) h1]; exact a4, by rw [World.frozen?_of_block (a := ⟨rb, 1, none⟩) h1]; exact a5, Nat.lt_of_lt_of_le a7 hs, fun j hj => ?_, a9⟩
  obtain ⟨c0, c1, c2, c3⟩ := a8 j hj
  have hb : ∀ o, w'.cell? ⟨(ta.add (j * 4)).block, o, none⟩ = w.cell? ⟨(ta.add (j * 4)).block, o, none⟩ := fun o => cell_of (a := ⟨(ta.add (j * 4)).block, o, none⟩) (by show w'.heap[(ta.add (j * 4)).block]? = w.heap[(ta.add (j * 4)).block]?; rw [add_block]; exact h2)
  refine ⟨(cell_of (w := w) (w' := w') (a := ta.add (j * 4)) (by rw [add_block]; exact h2)).trans c0, by rw [hb]; exact c1, by rw [hb]; exact c2, by rw [hb]; exact c3⟩
/-- nothing turns but the reader -/
theorem RowI.move {E : Env} {w : World} {m : Nat} {cs : List D} {e z : Nat} {wr w' : World} {L : List (List D)} {r r' : List Tok} {v : Value} (h : RowI E w m cs e z wr L r v) (k : Fr (fun b => b = E.rb) wr w') (hr : R0 E.rb E.l E.ta E.cap w' r') : RowI E w m cs e z w' L r' v := by
  have lt : ∀ i, i < cs.length → (E.A i).1 < wr.heap.size := fun i hi => Nat.lt_of_lt_of_le (h.part hi).2.2.2 h.fr.size
  have same : ∀ i, i < cs.length → w'.heap[(E.A i).1]? = wr.heap[(E.A i).1]? := fun i hi => k.block _ (lt i hi) (h.part hi).2.2.1
  refine ⟨h.fr.inner k (fun i _ e => e ▸ h.rd.2.2), ⟨hr, h.rd.2⟩, h.ta, h.cl, h.lt, fun i hi hm => ?_, fun i hi => ?_, ?_, ?_⟩
  · rw [cell_of (same i hi)]; exact h.oth i hi hm
  · rw [World.frozen?_of_block (same i hi)]; exact h.frz i hi
  · rw [cell_of (same m h.lt)]; exact h.cel
  · exact Rd.move _ _ _ v h.row (fun b hb hl => ⟨k.block b hl (fun e => hb.1 (e ▸ h.rd.2.2)), hb⟩)
theorem RowI.keep {E : Env} {w : World} {m : Nat} {cs : List D} {e z : Nat} {wr w' : World} {L : List (List D)} {r : List Tok} {v : Value} (h : RowI E w m cs e z wr L r v) (k : Keep wr w') : RowI E w m cs e z w' L r v := h.move (.keep k) (h.rd.1.keep k)
theorem own_one {w : World} {base e z n : Nat} {v : Value} {xs : List Value} (h : w.ownsRow base e z v n xs) : v.oneCell' = true := by
  rcases h.2 with ⟨rfl, _⟩ | ⟨g, cap, cur, rfl, _⟩ <;> rfl
/-- one is added, and the part is set -/
theorem RowI.app {E : Env} {w : World} {m : Nat} {cs : List D} {e z : Nat} {wr w3 : World} {o : Obj} {L : List (List D)} {ds : List D} {r : List Tok} {v v' : Value} {B : Nat} {xs vs : List Value} (h : RowI E w m cs e z wr L r v) (hS : ∀ b, E.S b → b < w.heap.size)
    (hv : ∀ g, v.ownBlock = some g → g < B) (hB : w.heap.size ≤ B) (hd : Rds wr ds (fun b => B ≤ b) vs) (hz : ds.length = z)
    (hxs : wr.ownsRow 0 e z v L.length xs) (hown : w3.ownsRow 0 e z v' (L.length + 1) (xs ++ vs)) (hg : (wr.alloc o).grownBy w3 v.ownBlock) (hat : v'.ownBlock = v.ownBlock ∨ v'.ownBlock = some (wr.alloc o).heap.size) :
    RowI E w m cs e z (w3.setCell ⟨(E.A m).1, (E.A m).2, none⟩ v') (L ++ [ds]) r v' := by
  have P0 : ∀ g, v.ownBlock = some g → ¬ E.S g ∧ w.heap.size ≤ g := by
    have := h.row; simp only [Rd] at this; obtain ⟨_, _, k, _⟩ := this; exact k
  have R1 : Rdss wr L (fun b => (¬ E.S b ∧ w.heap.size ≤ b) ∧ v.ownBlock ≠ some b) z xs := by
    have := h.row; simp only [Rd] at this; obtain ⟨ys, k1, _, k3⟩ := this
    have : ys = xs := by
      rcases k1.2 with ⟨rfl, h0⟩ | ⟨g, cap, cur, rfl, _, hg1, _, _, _, h5⟩
      · have a := k1.1; have b := hxs.1; rw [h0] at a b; simp at a b; rw [a, b]
      · rcases hxs.2 with ⟨h1, _⟩ | ⟨g', cap', cur', h1, _, hg2, _, _, _, h6⟩
        · cases h1
        · injection h1 with h1 _ _
          injection h1 with h1
          injection h1 with h1
          subst h1
          rw [hg1] at hg2
          injection hg2 with hg2
          injection hg2 with hg2
          subst hg2
          rw [← h5, ← h6]
    subst this
    exact k3
  have hsz := h.fr.size
  have gsz := hg.size
  rw [World.size_alloc] at gsz
  -- blocks that stay
  have same : ∀ b, b < wr.heap.size → v.ownBlock ≠ some b → w3.heap[b]? = wr.heap[b]? := fun b hb hne => by
    rw [hg.block b (by rw [World.size_alloc]; omega) (fun e => hne e.symm)]
    exact heap_alloc_old wr o hb
  have sameS : ∀ b, E.S b → w3.heap[b]? = wr.heap[b]? := fun b hb => same b (Nat.lt_of_lt_of_le (hS b hb) hsz) (fun e => (P0 b e).1 hb)
  have far : ∀ b, b ≠ (E.A m).1 → (w3.setCell ⟨(E.A m).1, (E.A m).2, none⟩ v').heap[b]? = w3.heap[b]? := fun b hb => Below.heap_setCell _ _ _ _ hb
  have hm := h.part h.lt
  have pv : ∀ g, v'.ownBlock = some g → ¬ E.S g ∧ w.heap.size ≤ g := fun g hg' => by
    rcases hat with e1 | e1
    · exact P0 g (e1 ▸ hg')
    · rw [e1, World.size_alloc] at hg'
      injection hg' with hg'
      exact ⟨fun x => by have := hS g x; omega, by omega⟩
  have nv : ∀ b, b < wr.heap.size → v.ownBlock ≠ some b → v'.ownBlock ≠ some b := fun b hb hne e1 => by
    rcases hat with e2 | e2
    · exact hne (e2 ▸ e1)
    · rw [e2, World.size_alloc] at e1
      injection e1 with e1
      omega
  refine ⟨?_, ⟨?_, h.rd.2⟩, h.ta, h.cl, h.lt, fun i hi hne => ?_, fun i hi => ?_, ?_, ?_⟩
  · refine ⟨hg.os.trans h.fr.os, hg.tape.trans h.fr.tape, hg.output.trans h.fr.output, by simp [World.setCell]; omega, fun b hb hn => ?_, fun b hb => ?_, fun b hb h1 => ?_⟩
    · rw [far b (fun e => hn (e ▸ hm.2.1)), same b (by omega) (fun e => by have := (P0 b e).2; omega)]
      exact h.fr.block b hb hn
    · exact ((shp_set _ _ _ _).trans (shp_of (same b (by omega) (fun e => by have := (P0 b e).2; omega)))).trans (h.fr.shape b hb)
    · exact one1_set (own_one hown) (one1_of (same b (by omega) (fun e => by have := (P0 b e).2; omega)) (h.fr.ones b hb h1))
  · refine R0.far (h.rd.1.blk (by omega) (sameS _ h.rd.2.2) (same _ (by have := h.ta; omega) (fun e => by have := (P0 _ e).2; have := h.ta; omega))) _ _ hm.2.2.1 (fun e => h.rd.2.1 (e ▸ hm.2.1))
  · rw [set_ne _ _ _ _ (fun e2 => hne ?_), cell_of (sameS _ (h.part hi).2.1)]
    · exact h.oth i hi hne
    · have e3 := congrArg Addr.block e2
      have e4 := congrArg Addr.off e2
      exact (h.cl.1 m i h.lt hi (Prod.ext e3 e4)).symm
  · rw [World.frozen?_setCell, World.frozen?_of_block (sameS _ (h.part hi).2.1)]; exact h.frz i hi
  · exact set_eq _ ((cell_of (sameS _ hm.2.1)).trans h.cel)
  · simp only [Rd]
    have own4 : (w3.setCell ⟨(E.A m).1, (E.A m).2, none⟩ v').ownsRow 0 e z v' (L ++ [ds]).length (xs ++ vs) := by
      rw [List.length_append]
      exact own_at hown (fun g hg' => far g (fun e => (pv g hg').1 (e ▸ hm.2.1)))
    refine ⟨xs ++ vs, own4, pv, rdss_snoc L ds _ z xs vs (Rdss.move L _ _ z xs R1 (fun b hb hl => ⟨?_, hb.1, nv b hl hb.2⟩)) (Rds.move ds _ _ vs hd (fun b hb hl => ?_)) ((rds_length _ _ _ hd).trans hz)⟩
    · rw [far b (fun e => hb.1.1 (e ▸ hm.2.1))]; exact same b hl hb.2
    · have q1 : v.ownBlock ≠ some b := fun e => by have := hv b e; omega
      have q2 : ¬ E.S b := fun x => by have := hS b x; omega
      exact ⟨by rw [far b (fun e => q2 (e ▸ hm.2.1))]; exact same b hl q1, ⟨q2, by omega⟩, nv b hl q1⟩
/-- at the end the parts read so -/
theorem RowI.fin {E : Env} {w : World} {c rest : List D} {d0 : D} {e z : Nat} {wr : World} {L : List (List D)} {r : List Tok} {v : Value} (h : RowI E w c.length (c ++ [d0] ++ rest) e z wr L r v) (hlo : E.lo ≤ w.heap.size) : Cel E wr (c ++ [D.row e z L] ++ rest) := by
  have hlen : (c ++ [D.row e z L] ++ rest).length = (c ++ [d0] ++ rest).length := by simp
  refine ⟨by rw [hlen]; exact h.cl.1, fun j d hd => ?_⟩
  have hj : j < (c ++ [d0] ++ rest).length := by
    rw [← hlen]
    rcases Nat.lt_or_ge j (c ++ [D.row e z L] ++ rest).length with h | h
    · exact h
    · rw [List.getElem?_eq_none h] at hd; cases hd
  have hp := h.part hj
  by_cases he : j = c.length
  · subst he
    rw [show (c ++ [D.row e z L] ++ rest)[c.length]? = some (.row e z L) by simp] at hd
    injection hd with hd
    subst hd
    exact ⟨v, h.cel, Rd.move _ _ _ v h.row (fun b hb _ => ⟨rfl, hb.1, by have := hb.2; omega⟩), h.frz _ hj, hp.2.1, hp.2.2.1⟩
  · rw [mid_ne (d := d0) he] at hd
    obtain ⟨u, h1, h2, h3, h4, h5⟩ := h.cl.2 j d hd
    exact ⟨u, by rw [h.oth j hj he]; exact h1, h2.fr h.fr (fun i hi => hi.1), h.frz j hj, h4, h5⟩
end Go.Proofs.YtmplckdpddmifaaGreatDoor
