/- Package paths: rows that the call itself has made; appending a whole row. -/
import Derived.Test.YtakandlehneciaaPaV
namespace Go.Proofs.Ytakandlehneciaa
open Go.RowKit
attribute [local go_sem ↓] Go.wp_at_zero Go.wp_at_succ
set_option linter.unusedVariables false
set_option linter.unusedSimpArgs false
set_option maxRecDepth 10000
namespace Pa
/-- a row that is told -/
def Iw (e : TypeId) (w : World) (u : Value) (L : List Int) : Prop := (u = .slice none 0 0 ∧ L = []) ∨ ∃ g c arr, u = .slice (some ⟨g, 0, none⟩) L.length c ∧ w.heap[g]? = some (.cells arr e (0, 0)) ∧ ∀ k, k < L.length → arr[k]? = some (Value.int .i64 (L.getD k 0))
variable {e : TypeId}
theorem Iw.is {w : World} {u : Value} {L : List Int} (h : Iw e w u L) : Is w u L := by
  rcases h with ⟨rfl, rfl⟩ | ⟨g, c, arr, rfl, hg, ha⟩
  · exact is_nil w
  · refine ⟨_, c, rfl, fun k hk => ⟨_, rfl, ?_⟩⟩
    rw [add_pl, Nat.zero_add]
    simp only [World.cell?, hg]
    simpa using ha k hk
theorem Iw.keep {w w' : World} {u : Value} {L : List Int} (h : Iw e w u L) (hk : Keep w w') : Iw e w' u L := by
  rcases h with h | ⟨g, c, arr, rfl, hg, ha⟩
  · exact .inl h
  · exact .inr ⟨g, c, arr, rfl, (hk.block g (Array.getElem?_eq_some_iff.1 hg).1).trans hg, ha⟩
theorem Rw.iw {w : World} {g c : Nat} {M : List Int} (h : Rw e w g M) : Iw e w (.slice (some ⟨g, 0, none⟩) M.length c) M := by
  refine .inr ⟨g, c, _, rfl, h, fun k hk => ?_⟩
  rw [List.getD_eq_getElem?_getD, List.getElem?_eq_getElem hk]
  simp [hk]
theorem iw_nil (w : World) : Iw e w (.slice none 0 0) [] := .inl ⟨rfl, rfl⟩
theorem Iw.sl {w : World} {u : Value} {L : List Int} (h : Iw e w u L) : ∃ a c, u = .slice a L.length c := by
  rcases h with ⟨rfl, rfl⟩ | ⟨g, c, arr, rfl, _⟩
  · exact ⟨none, 0, rfl⟩
  · exact ⟨_, c, rfl⟩
theorem own_k {w w' : World} {base : Nat} {z n : Nat} {v : Value} {xs : List Value} (h : w.ownsRow base e z v n xs) (hk : Keep w w') : w'.ownsRow base e z v n xs :=
  h.kept (row := none) ⟨hk.os, hk.tape, hk.output, hk.size, fun i hi _ => hk.block i hi⟩ (by cases v.ownBlock <;> simp)
theorem own_mono {w : World} {B B' : Nat} {z n : Nat} {v : Value} {xs : List Value} (h : w.ownsRow B e z v n xs) (hb : B' ≤ B) : w.ownsRow B' e z v n xs := by
  obtain ⟨h1, h2⟩ := h
  refine ⟨h1, ?_⟩
  rcases h2 with h2 | ⟨g, cap, cur, e, hg, r⟩
  · exact .inl h2
  · exact .inr ⟨g, cap, cur, e, by omega, r⟩
theorem own_l {w : World} {B : Nat} {z n : Nat} {v : Value} {xs : List Value} (h : w.ownsRow B e z v n xs) : ∃ a cap, v = .slice a n cap := by
  rcases h.2 with ⟨rfl, h0⟩ | ⟨g, cap, cur, rfl, _⟩
  · exact ⟨none, 0, by rw [h0]⟩
  · exact ⟨_, cap, rfl⟩
/-- an own row that is not empty has a block -/
theorem own_g {w : World} {B : Nat} {z n : Nat} {v : Value} {xs : List Value} (h : w.ownsRow B e z v n xs) (hn : 0 < n) : ∃ g cap, v = .slice (some ⟨g, 0, none⟩) n cap ∧ B ≤ g ∧ g < w.heap.size := by
  rcases h.2 with ⟨rfl, h0⟩ | ⟨g, cap, cur, rfl, hb, hg, _⟩
  · omega
  · exact ⟨g, cap, rfl, hb, (Array.getElem?_eq_some_iff.1 hg).1⟩
def ics (L : List Int) : List Value := L.map (.int .i64)
theorem ics_app (L M : List Int) : ics (L ++ M) = ics L ++ ics M := by simp [ics]
theorem ics_len (L : List Int) : (ics L).length = L.length := by simp [ics]
theorem ics_set (L : List Int) (i : Nat) (x : Int) : (ics L).set i (.int .i64 x) = ics (L.set i x) := by simp [ics, List.map_set]
theorem ics_at {L : List Int} {k : Nat} (hk : k < L.length) : (ics L)[k]? = some (.int .i64 (L.getD k 0)) := by
  rw [ics, List.getElem?_map, List.getElem?_eq_getElem hk, List.getD_eq_getElem?_getD, List.getElem?_eq_getElem hk]; rfl
/-- an own row reads as numbers -/
theorem iw_own {w : World} {B : Nat} {v : Value} {L : List Int} {n : Nat} (h : w.ownsRow B e 1 v n (ics L)) (hn : n = L.length) : Iw e w v L := by
  subst hn
  rcases h.2 with ⟨rfl, h0⟩ | ⟨g, cap, cur, rfl, hb, hg, hc, hm, hs, ht⟩
  · exact .inl ⟨rfl, List.eq_nil_of_length_eq_zero h0⟩
  · refine .inr ⟨g, cap, cur, rfl, hg, fun k hk => ?_⟩
    have h1 : (cur.toList.take (L.length * 1))[k]? = some (.int .i64 (L.getD k 0)) := by rw [ht]; exact ics_at hk
    rw [List.getElem?_take, if_pos (by omega)] at h1
    simpa using h1
theorem e_row (w : World) (t : TypeId) (z : Nat) : (w.alloc (.cells #[] t)).ownsRow w.heap.size t z (.slice (some ⟨w.heap.size, 0, none⟩) 0 0) 0 [] := ⟨by simp, .inr ⟨w.heap.size, 0, #[], rfl, Nat.le_refl _, heap_alloc_new w _, Nat.le_refl _, by unfold maxLen; omega, by simp, by simp⟩⟩
theorem new_v (w : World) (vs : List Value) (t : TypeId) : ∀ j u, vs[j]? = some u → (w.alloc (.cells vs.toArray t)).cell? ((⟨w.heap.size, 0, none⟩ : Addr).add j) = some u := by
  intro j u hj
  rw [add_pl, Nat.zero_add]
  have h := heap_alloc_new w (.cells vs.toArray t)
  simp only [World.cell?, h]
  simpa using hj
/-- a slice whose cells read so -/
def Vs (w : World) (x : Value) (m : Nat) (ys : List Value) : Prop := ∃ a cap, x = .slice a m cap ∧ ∀ j u, ys[j]? = some u → ∃ ad, a = some ad ∧ w.cell? (ad.add j) = some u
theorem Vs.keep {w w' : World} {x : Value} {m : Nat} {ys : List Value} (h : Vs w x m ys) (hk : Keep w w') : Vs w' x m ys := by
  obtain ⟨a, cap, rfl, h⟩ := h
  refine ⟨a, cap, rfl, fun j u hj => ?_⟩
  obtain ⟨ad, e, h2⟩ := h j u hj
  exact ⟨ad, e, kc hk h2⟩
theorem Is.vs {w : World} {x : Value} {L : List Int} (h : Is w x L) : Vs w x L.length (ics L) := by
  obtain ⟨a, cap, rfl, h⟩ := h
  refine ⟨a, cap, rfl, fun j u hj => ?_⟩
  have hl : j < L.length := by
    rcases Nat.lt_or_ge j L.length with h | h
    · exact h
    · rw [ics, List.getElem?_map, List.getElem?_eq_none h] at hj; cases hj
  obtain ⟨ad, e, h2⟩ := h j hl
  rw [ics_at hl, Option.some.injEq] at hj
  subst hj
  exact ⟨ad, e, h2⟩
theorem run_append_vs (w : World) (base : Nat) (t ty e : TypeId) (i : TypeInfo) (z : Value) (size bytes : Nat) (ht : Try.prog.underlying t = some (.slice e)) (hi : Try.prog.info? e = some i) (hz : i.zero = some z)
    (hsize : i.size = size) (hby : i.bytes = bytes) (hzs : z.cells.size = size) (hs0 : 0 < size) (hb1 : bytes ≤ 24)
    (v : Value) (n : Nat) (xs : List Value) (hown : w.ownsRow base e size v n xs) (x : Value) (m : Nat) (ys : List Value) (hx : Vs w x m ys) (hys : ys.length = m * size) (hone : ∀ u ∈ ys, u.oneCell' = true) (hl : n + m ≤ 1000000) (hbase : base ≤ w.heap.size) :
    ∃ v' w', (Builtin.append_ #[t, t] ty #[v, x]).run Try.prog w = .ok v' w' ∧ w'.ownsRow base e size v' (n + m) (xs ++ ys) ∧ w.grownBy w' v.ownBlock := by
  obtain ⟨a, cap, rfl, hx⟩ := hx
  cases a with
  | none =>
    have hB : ys = [] := by
      cases ys with
      | nil => rfl
      | cons p B => obtain ⟨ad, h0, _⟩ := hx 0 p rfl; cases h0
    subst hB
    have hm : m = 0 := by
      simp only [List.length_nil] at hys
      rcases Nat.eq_zero_or_pos m with h | h
      · exact h
      · have := Nat.mul_pos h hs0; omega
    subst hm
    refine ⟨v, w, ?_, by rw [List.append_nil]; exact hown, ⟨rfl, rfl, rfl, Nat.le_refl _, fun _ _ _ => rfl⟩⟩
    rcases hown.2 with ⟨rfl, h0⟩ | ⟨g, cp, cur, rfl, _, _, hc, _⟩
    · simp [Builtin.append_, run_underlying ht, sizeOf, typeInfo, hi, Builtin.lenOf, Builtin.firstCells, Result.andThen]
    · simp [Builtin.append_, run_underlying ht, sizeOf, typeInfo, hi, Builtin.lenOf, hc, Builtin.firstCells, storeCells, Result.andThen]
  | some ad =>
    have hnews : ∀ j u, ys[j]? = some u → w.cell? (ad.add j) = some u := by
      intro j u hu
      obtain ⟨ad2, h0, hc⟩ := hx j u hu
      injection h0 with h0
      subst h0
      exact hc
    obtain ⟨v', w', h1, h2, h3, _⟩ := run_append_own (P := Try.prog) w base t ty e i z size bytes ht hi hz hsize hby hzs hs0 v n xs hown ad m cap ys hys hnews hone (by unfold maxLen; omega) (by
      have : bytes * (2 * (n + m)) ≤ 24 * (2 * 1000000) := Nat.mul_le_mul hb1 (by omega)
      first | omega | (have h2 : (n + m) * bytes ≤ 1000000 * 24 := Nat.mul_le_mul hl hb1; omega)) hbase
    exact ⟨v', w', h1, h2, h3⟩
theorem wp_append_vs {o : Oper} {a : Act} {K : Act → World → Prop} {Q : Exit → Act → World → Prop} (w : World) (s x : Operand) (t : TypeId)
    (ho : o.op = .call { callee := .builtin .append, args := #[s, x], argTypes := #[t, t] })
    (base : Nat) (e : TypeId) (i : TypeInfo) (z : Value) (size bytes : Nat) (ht : Try.prog.underlying t = some (.slice e)) (hi : Try.prog.info? e = some i) (hz : i.zero = some z)
    (hsize : i.size = size) (hby : i.bytes = bytes) (hzs : z.cells.size = size) (hs0 : 0 < size) (hb1 : bytes ≤ 24)
    (v : Value) (n : Nat) (xs : List Value) (hs : a.eval s = v) (hown : w.ownsRow base e size v n xs) (xv : Value) (m : Nat) (ys : List Value) (hx : a.eval x = xv) (hr : Vs w xv m ys) (hys : ys.length = m * size) (hone : ∀ u ∈ ys, u.oneCell' = true) (hl : n + m ≤ 1000000) (hbase : base ≤ w.heap.size)
    (h : ∀ v' w', w'.ownsRow base e size v' (n + m) (xs ++ ys) → w.grownBy w' v.ownBlock → K (a.put o.dst v') w') : o.wp Try.prog a w K Q := by
  obtain ⟨v', w', hr, h2, h3⟩ := run_append_vs w base t o.type e i z size bytes ht hi hz hsize hby hzs hs0 hb1 v n xs hown xv m ys hr hys hone hl hbase
  unfold Oper.wp execOp
  simp only [ho, resolve, invoke, builtin, Sem.run_bind, Sem.run_pure, Result.andThen_ok, List.map_toArray, List.map_cons, List.map_nil, hs, hx, hr]
  exact h v' w' h2 h3
theorem wpList_append_vs {ops : Array Oper} {rest : List Oper} {o : Oper} {a : Act} {Q : Exit → Act → World → Prop} (w : World) (hgd : o.guard = none) (s x : Operand) (t : TypeId)
    (ho : o.op = .call { callee := .builtin .append, args := #[s, x], argTypes := #[t, t] })
    (base : Nat) (e : TypeId) (i : TypeInfo) (z : Value) (size bytes : Nat) (ht : Try.prog.underlying t = some (.slice e)) (hi : Try.prog.info? e = some i) (hz : i.zero = some z)
    (hsize : i.size = size) (hby : i.bytes = bytes) (hzs : z.cells.size = size) (hs0 : 0 < size) (hb1 : bytes ≤ 24)
    (v : Value) (n : Nat) (xs : List Value) (hs : a.eval s = v) (hown : w.ownsRow base e size v n xs) (xv : Value) (m : Nat) (ys : List Value) (hx : a.eval x = xv) (hr : Vs w xv m ys) (hys : ys.length = m * size) (hone : ∀ u ∈ ys, u.oneCell' = true) (hl : n + m ≤ 1000000) (hbase : base ≤ w.heap.size)
    (h : ∀ v' w', w'.ownsRow base e size v' (n + m) (xs ++ ys) → w.grownBy w' v.ownBlock → wpList Try.prog ops Q rest (a.put o.dst v') w') : wpList Try.prog ops Q (o :: rest) a w :=
  wpList_plain hgd fun K hK => wp_append_vs w s x t ho base e i z size bytes ht hi hz hsize hby hzs hs0 hb1 v n xs hs hown xv m ys hx hr hys hone hl hbase fun v' w' h2 h3 => hK _ _ (h v' w' h2 h3)
theorem ics_one (L : List Int) : ∀ u ∈ ics L, u.oneCell' = true := by
  intro u hu
  obtain ⟨x, _, rfl⟩ := List.mem_map.1 hu
  rfl
/-- how long the longest ways are, or the error, of whatever comes in -/
noncomputable def lg (n : Int) (R : List E3) : List Int × Int := if isG n R then lgd n.toNat (nE R) else ([], 1)
theorem lg_no {n : Int} {R : List E3} (h : isG n R = false) : lg n R = ([], 1) := by unfold lg; rw [h]; rfl
theorem lg_yes {n : Nat} {R : List E3} (h : isG (n : Int) R = true) : lg (n : Int) R = lgd n (nE R) := by unfold lg; rw [h]; rfl
def Lq (n : Int) (R : List E3) (w : World) (e : Ending) (w' : World) : Prop := ∃ u, e = .returned (.tuple #[u, .int .i64 (lg n R).2]) ∧ Keep w w' ∧ Iw 2 w' u (lg n R).1
theorem d0_is {n : Nat} (h : 0 < n) : (List.replicate n (-1 : Int)).set 0 0 = d0 n := by
  apply List.ext_getElem?
  intro i
  rw [d0, List.getElem?_map, List.getElem?_set]
  by_cases hi : i < n
  · rw [List.getElem?_range hi]
    by_cases h0 : 0 = i
    · subst h0; simp [h]
    · have : ¬ i = 0 := fun e => h0 e.symm
      simp [h0, this, hi]
  · have : ¬ 0 = i := by omega
    rw [if_neg this]
    simp [hi]
theorem st_bd {n : Nat} {E : List Ed} (hn : n ≤ 64) (hg : Gr n E) (hE : E.length ≤ 1000) (h6 : ∀ e ∈ E, e.2.2 ≤ 6000) : ∀ k p, g (st9 n E k).1 p ≤ 6000000 * (k : Int)
  | 0, p => by
    simp only [st9, d0_g hg.1]
    split <;> omega
  | k + 1, p => by
    have h1 := rp_bd (now := (st9 n E k).2) E ((st9 n E k).1, 0) (6000000 * (k : Int)) (iv_all hn hg k).nn.1 (fun e he => ⟨h6 e he, (hg.2 e he).2.1⟩) (st_bd hn hg hE h6 k) p
    simp only [st9, rd9]
    omega
set_option maxHeartbeats 4000000 in
theorem longest_any (v : Value) (R : List E3) (n : Int) (w : World) (hR : Es w v R) (hl : R.length ≤ 1000) : Calls Try.prog 36 #[.int .i64 n, v] w (Lq n R w) := by
  have T1 := hide (isG_any v R n w hR hl)
  cases hG : isG n R with
  | false =>
    have HP : Hid (∀ e w', Keep w w' → e = .returned (.tuple #[.slice none 0 0, .int .i64 1]) → Lq n R w e w') := hide (fun e w' hk he => ⟨_, by rw [lg_no hG]; exact he, hk, by rw [lg_no hG]; exact iw_nil _⟩)
    rw [hG] at T1
    generalize Lq n R w = QQ at HP ⊢
    obtain ⟨a, cap, rfl, -⟩ := hR
    generalize R.length = m at *
    clear hG
    go_enter Try.func36, Try.ntmps36
    go_wp2_with fail
    (refine (unhide T1).mono ?_; rintro e w1 ⟨rfl, hk9⟩; have K1 := hide hk9; clear hk9 T1)
    go_wp2_with fail
    try go_ret2
    exact (unhide HP) _ _ (unhide K1) rfl
  | true =>
    obtain ⟨m, rfl, hm1, hm2, hg, h6, -⟩ := isG_gr hG
    have HPo : Hid (∀ k e w' u, (st9 m (nE R) k).2 = 0 → Keep w w' → Iw 2 w' u (st9 m (nE R) k).1 → e = .returned (.tuple #[u, .int .i64 0]) → Lq (m : Int) R w e w') := hide (fun k e w' u h0 hk hi he => ⟨u, by rw [lg_yes hG, lgd_good hg (st_good hm2 hg h0)]; exact he, hk, by rw [lg_yes hG, lgd_good hg (st_good hm2 hg h0)]; exact hi⟩)
    have HPn : Hid (∀ e w', (st9 m (nE R) m).2 ≠ 0 → Keep w w' → e = .returned (.tuple #[.slice none 0 0, .int .i64 140]) → Lq (m : Int) R w e w') := hide (fun e w' h0 hk he => ⟨_, by rw [lg_yes hG, lgd_none (st_none hm2 hg h0)]; exact he, hk, by rw [lg_yes hG, lgd_none (st_none hm2 hg h0)]; exact iw_nil _⟩)
    have TR := hide (fun (k b q : Nat) (hk : k ≤ m) (w' : World) (hK : Keep w w') (hb : w.heap.size ≤ b) (hq : w.heap.size ≤ q) (hbq : b ≠ q) (hS : Sb w' b q m (st9 m (nE R) k).2) (hD : Rw 2 w' q (st9 m (nE R) k).1) => round_any v R m b q (st9 m (nE R) k).2 (st9 m (nE R) k).1 (6000000 * (k : Int)) w w' hR hl hG hK hb hq hbq hS hD (iv_all hm2 hg k) (st_bd hm2 hg (by rw [nE_len]; exact hl) h6 k) (by omega))
    have HX0 : Hid (st9 m (nE R) 0 = (d0 m, 1)) := hide rfl
    have HXs : Hid (∀ k, rd9 (nE R) ((st9 m (nE R) k).1, (st9 m (nE R) k).2) = st9 m (nE R) (k + 1)) := hide (fun k => rfl)
    have HXn : Hid (∀ k, (st9 m (nE R) k).1.length = m) := hide (fun k => (iv_all hm2 hg k).nn.1)
    rw [hG] at T1
    generalize Lq (m : Int) R w = QQ at HPo HPn ⊢
    generalize st9 m (nE R) = X at *
    clear hG hg h6
    obtain ⟨a, cap, rfl, -⟩ := hR
    generalize R.length = rl at *
    have TP := hide (fun (ax : Addr) (cx : Nat) (w' : World) (hx : w'.cell? ax = some (.int .i64 (-1))) => repeat_any ax cx m hm1 hm2 w' hx)
    have TE := hide (fun x w => empty_any x w)
    have h0m : (0 : Int) < (m : Int) := by omega
    go_enter Try.func36, Try.ntmps36
    go_wp2_with fail
    (refine (unhide T1).mono ?_; rintro e w1 ⟨rfl, hk9⟩; have K1 := hide hk9; clear hk9 T1)
    go_wp2_with fail
    have KA := hide ((unhide K1).alloc (.cells #[.int .i64 (-1)] 2))
    (refine ((unhide TP) _ _ _ (by simp [go_sem])).mono ?_; rintro e w3 ⟨rfl, hk9, hr9⟩; have K3 := hide ((unhide KA).trans hk9); have D3 := hide hr9; clear hk9 hr9 TP)
    have q0 : Hid (w.heap.size ≤ (w1.alloc (.cells #[.int .i64 (-1)] 2)).heap.size) := hide (unhide KA).size
    generalize (w1.alloc (.cells #[.int .i64 (-1)] 2)).heap.size = q at D3 q0 ⊢
    have hqb := hide (unhide D3).lt
    have D4 := hide ((unhide D3).keep ((Keep.refl w3).alloc (.cells #[.int .u64 0, .slice (some ⟨q, 0, none⟩) m m] 95)))
    have K4 := hide ((unhide K3).alloc (.cells #[.int .u64 0, .slice (some ⟨q, 0, none⟩) m m] 95))
    have S4 : Hid (Sb (w3.alloc (.cells #[.int .u64 0, .slice (some ⟨q, 0, none⟩) m m] 95)) w3.heap.size q m 0) := hide (heap_alloc_new w3 _)
    have hb0 : Hid (w.heap.size ≤ w3.heap.size) := hide (unhide K3).size
    clear KA K1 K3 D3
    go_upto_region 4 with fail
    generalize w3.alloc (.cells #[.int .u64 0, .slice (some ⟨q, 0, none⟩) m m] 95) = w4 at D4 K4 S4 ⊢
    generalize w3.heap.size = b at S4 hqb hb0 ⊢
    have hbq : Hid (b ≠ q) := hide (by have := unhide hqb; omega)
    clear hqb
    have hc1 := (unhide S4).c1
    have hcq : w4.cell? ⟨q, 0, none⟩ = some (.int .i64 (-1)) := by
      have := (unhide D4).cell (i := 0) (by simp; omega)
      rw [this, List.getD_eq_getElem?_getD, List.getElem?_replicate, if_pos (by omega)]; rfl
    have hfq := (unhide D4).fz 0
    have D5 : Hid (Rw 2 (w4.setCell ⟨q, 0, none⟩ (.int .i64 0)) q (X 0).1) := hide (by rw [unhide HX0, ← d0_is (by omega)]; exact (unhide D4).set 0)
    have K5 : Hid (Keep w (w4.setCell ⟨q, 0, none⟩ (.int .i64 0))) := hide (keep_st (unhide K4) (unhide q0) _)
    have S5 : Hid (Sb (w4.setCell ⟨q, 0, none⟩ (.int .i64 0)) b q m 0) := hide ((unhide S4).other (unhide hbq))
    go_upto_region 5 with fail
    generalize w4.setCell ⟨q, 0, none⟩ (.int .i64 0) = w5 at D5 K5 S5 ⊢
    clear hc1 hcq hfq D4 K4 S4
    go_wp2_with fail
    (refine (put_any b 0 0 0 _ (by exact (unhide S5).c0) (by exact (unhide S5).fz 0) (by decide) (by decide)).mono ?_; rintro e w6 ⟨⟨u6, rfl⟩, rfl⟩)
    have S6 : Hid (Sb (w5.setCell ⟨b, 0, none⟩ (.int .u64 ((0 ||| 2 ^ 0 : Nat) : Int))).drew b q m (X 0).2) := hide (by rw [unhide HX0]; exact (unhide S5).set 1)
    have K6 : Hid (Keep w (w5.setCell ⟨b, 0, none⟩ (.int .u64 ((0 ||| 2 ^ 0 : Nat) : Int))).drew) := hide ((keep_st (unhide K5) (unhide hb0) _).drew)
    have D6 : Hid (Rw 2 (w5.setCell ⟨b, 0, none⟩ (.int .u64 ((0 ||| 2 ^ 0 : Nat) : Int))).drew q (X 0).1) := hide ((unhide D5).other (fun e => (unhide hbq) e.symm))
    generalize (w5.setCell ⟨b, 0, none⟩ (.int .u64 ((0 ||| 2 ^ 0 : Nat) : Int))).drew = w6 at S6 K6 D6 ⊢
    clear K5 D5 S5
    go_wp2_with fail
    go_loopw [7] (fun vi wr => ∃ k : Nat, vi = .int .i64 (k : Int) ∧ k ≤ m ∧ Hid (Keep w wr) ∧ Hid (Sb wr b q m (X k).2) ∧ Hid (Rw 2 wr q (X k).1)) (fun vi _ => m - (intOf vi).toNat)
    case atStart => exact ⟨0, rfl, Nat.zero_le _, K6, S6, D6⟩
    case round =>
      clear K6 S6 D6
      obtain ⟨k, rfl, hk, KW, SW, DW⟩ := hrel
      have hc0 := (unhide SW).c0
      have hc1 := (unhide SW).c1
      have HI : Hid (Iw 2 wr (.slice (some ⟨q, 0, none⟩) m m) (X k).1) := hide (by have := (unhide DW).iw (c := m); rw [unhide HXn] at this; exact this)
      by_cases hlt : k < m
      · have li : (k : Int) < (m : Int) := by omega
        by_cases hz : (X k).2 = 0
        · have HZ := hide hz
          have TE0 := hide ((unhide TE) (X k).2)
          rw [decide_eq_true hz] at TE0
          clear hz
          go_wp2_with fail
          (refine ((unhide TE0) _).mono ?_; rintro e w7 ⟨rfl, rfl⟩)
          go_wp2_with fail
          (refine ((unhide TE0) _).mono ?_; rintro e w8 ⟨rfl, rfl⟩)
          go_wp2_with fail
          try go_ret2
          exact (unhide HPo) k _ _ _ (unhide HZ) (unhide KW) (unhide HI) rfl
        · have TE0 := hide ((unhide TE) (X k).2)
          rw [decide_eq_false hz] at TE0
          clear hz
          have TRk := hide ((unhide TR) k b q (by omega) wr (unhide KW) (unhide hb0) (unhide q0) (unhide hbq) (unhide SW) (unhide DW))
          rw [unhide HXs] at TRk
          clear HI
          go_wp2_with fail
          (refine ((unhide TE0) _).mono ?_; rintro e w7 ⟨rfl, rfl⟩)
          clear TE0
          go_wp2_with fail
          (refine (unhide TRk).mono ?_; rintro e w8 ⟨⟨u8, rfl⟩, hk8, hs8, hd8⟩; have K8 := hide hk8; have S8 := hide hs8; have D8 := hide hd8; clear hk8 hs8 hd8 TRk)
          go_wp2_with fail
          go_roundw
          case rel => exact ⟨k + 1, by go_num, by omega, K8, S8, D8⟩
          case measure => simp [intOf]; omega
      · have li : ¬ (k : Int) < (m : Int) := by omega
        obtain rfl : k = m := by omega
        by_cases hz : (X k).2 = 0
        · have HZ := hide hz
          have TE0 := hide ((unhide TE) (X k).2)
          rw [decide_eq_true hz] at TE0
          clear hz
          go_wp2_with fail
          (refine ((unhide TE0) _).mono ?_; rintro e w8 ⟨rfl, rfl⟩)
          go_wp2_with fail
          try go_ret2
          exact (unhide HPo) k _ _ _ (unhide HZ) (unhide KW) (unhide HI) rfl
        · have HZ := hide hz
          have TE0 := hide ((unhide TE) (X k).2)
          rw [decide_eq_false hz] at TE0
          clear hz
          go_wp2_with fail
          (refine ((unhide TE0) _).mono ?_; rintro e w8 ⟨rfl, rfl⟩)
          go_wp2_with fail
          try go_ret2
          exact (unhide HPn) _ _ (unhide HZ) (unhide KW) rfl
end Pa
end Go.Proofs.Ytakandlehneciaa
