/- Package paths: a longest way. -/
import Derived.Test.YtfofkkjldngkaaaDoorPcA
namespace Go.Proofs.YtfofkkjldngkaaaDoor
open Go.RowKit
attribute [local go_sem ↓] Go.wp_at_zero Go.wp_at_succ
set_option linter.unusedVariables false
set_option linter.unusedSimpArgs false
set_option maxRecDepth 10000
namespace Pa
/-- a way so far: L the way that is wanted, W what is told of it, a where it stands, G what is gone by -/
def Wi (T : Nat → Nat → Bool) (n td : Nat) (L W : List Nat) (a G : Nat) : Prop := ∃ (W0 r : List Nat) (u : List Bool), W = W0 ++ [a] ∧ L = W0 ++ r ∧ Fw T n td u a r ∧ u.length = n ∧ a < n ∧ ub u a = false ∧ (∀ x, x < n → ub (u.set a true) x = bt G x) ∧ G < 18446744073709551616
theorem wi_zero {T : Nat → Nat → Bool} {n td : Nat} {L : List Nat} (hn : 0 < n) (h : Fw T n td (List.replicate n false) 0 L) : Wi T n td L [0] 0 1 := by
  refine ⟨[], L, _, rfl, rfl, h, by simp, hn, ub_rep n 0, fun x hx => ?_, by decide⟩
  have h1 := bt_put 0 0 x
  rw [show 0 ||| 2 ^ 0 = 1 by decide] at h1
  rw [h1]
  have h2 := ub_set (u := List.replicate n false) (a := 0) (by simpa using hn) x
  rw [ub_rep] at h2
  by_cases hx0 : x = 0
  · subst hx0
    rw [h2.2 (.inl rfl)]; simp
  · have h3 : ub ((List.replicate n false).set 0 true) x = false := by
      cases hb : ub ((List.replicate n false).set 0 true) x with
      | false => rfl
      | true => rcases h2.1 hb with h | h
                · exact absurd h hx0
                · exact absurd h (by simp)
    rw [h3]
    have : ¬ 0 = x := fun e => hx0 e.symm
    simp [bt, this]
theorem isW_mem {T : Nat → Nat → Bool} {td : Nat} : ∀ w, isW T td w → td ∈ w
  | [], h => absurd h (by simp [isW])
  | [a], h => by have : a = td := h
                 simp [this]
  | a :: b :: w, h => List.mem_cons_of_mem _ (isW_mem (b :: w) h.2)
theorem wi_goal {T : Nat → Nat → Bool} {n td : Nat} {L W : List Nat} {a G : Nat} (h : Wi T n td L W a G) (hat : a ≠ td) (ht : td < n) : bt G td = false := by
  obtain ⟨W0, r, u, _, _, hF, hu, ha, h0, hG, _⟩ := h
  have h1 := hF.1.2.2.2 td (isW_mem _ hF.1.2.1)
  rw [← hG td ht]
  cases hb : ub (u.set a true) td with
  | false => rfl
  | true =>
    rcases (ub_set (by omega) td).1 hb with h2 | h2
    · exact absurd h2.symm hat
    · rw [h1.2] at h2; exact absurd h2 (by simp)
theorem wi_next {T : Nat → Nat → Bool} {n td : Nat} {L W M : List Nat} {a G F : Nat} (hn : n ≤ 64) (h : Wi T n td L W a G) (hat : a ≠ td) (hM : Gi T M) (hF : ∀ p, bt F p = true ↔ Rch T n G td p) (hF64 : F < 18446744073709551616) : (M.getD a 0 &&& F) ≠ 0 ∧ (M.getD a 0 &&& F) < 18446744073709551616 ∧ Lib.ctz 64 (M.getD a 0 &&& F) < n ∧ Wi T n td L (W ++ [Lib.ctz 64 (M.getD a 0 &&& F)]) (Lib.ctz 64 (M.getD a 0 &&& F)) (G ||| 2 ^ Lib.ctz 64 (M.getD a 0 &&& F)) ∧ W.length < L.length := by
  obtain ⟨W0, r, u, rfl, rfl, hw, hu, ha, h0, hG, hG64⟩ := h
  have hN64 : (M.getD a 0 &&& F) < 18446744073709551616 := Nat.lt_of_le_of_lt Nat.and_le_left (hM.lt a)
  obtain ⟨h1, h2, h3, r', rfl, h4⟩ := fw_step hu ha h0 hat hw hG hF (N := M.getD a 0 &&& F) (fun p => by rw [← hM.on a p (by omega)]; simp [bt]) hN64
  generalize Lib.ctz 64 (M.getD a 0 &&& F) = p at h2 h3 h4 ⊢
  have hup : ub (u.set a true) p = false := by rw [hG p h2]; exact h3
  refine ⟨h1, hN64, h2, ⟨W0 ++ [a], r', u.set a true, rfl, by simp, h4, by simpa using hu, h2, hup, fun x hx => ?_, put_lt hG64 (by omega)⟩, ?_⟩
  · have h5 := ub_set (u := u.set a true) (a := p) (by simpa [hu] using h2) x
    rw [bt_put, ← hG x hx]
    cases hb : ub ((u.set a true).set p true) x with
    | true =>
      rcases h5.1 hb with h6 | h6
      · subst h6; simp
      · rw [h6]; rfl
    | false =>
      have h6 : ¬ (x = p ∨ ub (u.set a true) x = true) := fun h7 => by rw [h5.2 h7] at hb; exact absurd hb (by simp)
      have h7 : ub (u.set a true) x = false := by
        cases h8 : ub (u.set a true) x with
        | false => rfl
        | true => exact absurd (.inr h8) h6
      have h8 : ¬ p = x := fun e => h6 (.inl e.symm)
      rw [h7]; simp [h8]
  · obtain ⟨⟨s, rfl⟩, _⟩ := h4.1
    simp
theorem wi_end {T : Nat → Nat → Bool} {n td : Nat} {L W : List Nat} {G : Nat} (h : Wi T n td L W td G) : W = L := by
  obtain ⟨W0, r, u, rfl, rfl, hw, hu, ha, h0, _⟩ := h
  rw [fw_end ha h0 hw]
def nI (L : List Nat) : List Int := L.map fun p : Nat => (p : Int)
theorem nI_app (A B : List Nat) : nI (A ++ B) = nI A ++ nI B := by simp [nI]
theorem nI_len (L : List Nat) : (nI L).length = L.length := by simp [nI]
theorem lg_ok {n : Int} {R : List E3} (h : (lg n R).2 = 0) : ∃ (m : Nat) (d : List Int), n = (m : Int) ∧ isG n R = true ∧ 1 ≤ m ∧ m ≤ 64 ∧ Gr m (nE R) ∧ Good m (nE R) d ∧ lg n R = (d, 0) ∧ ∀ p, g d p ≤ 1000000000000 := by
  cases hG : isG n R with
  | false => rw [lg_no hG] at h; exact absurd h (by decide)
  | true =>
    obtain ⟨m, rfl, h1, h2, hg, h6, _⟩ := isG_gr hG
    rw [lg_yes hG] at h ⊢
    rcases lgd_or (n := m) (nE R) with h3 | ⟨d, h3, h4⟩
    · rw [h3] at h; exact absurd h (by decide)
    · exact ⟨m, d, rfl, rfl, h1, h2, hg, h3, h4, fun p => by have := good_bd hg h6 h3 p; omega⟩
/-- the way that is told -/
noncomputable def wy (n : Int) (R : List E3) (td : Int) : List Int := if (lg n R).2 = 0 ∧ 0 ≤ td ∧ td < n ∧ 0 ≤ g (lg n R).1 td.toNat then nI (wyN n.toNat (nE R) (lg n R).1 td.toNat) else []
theorem wy_no {n : Int} {R : List E3} {td : Int} (h : ¬ ((lg n R).2 = 0 ∧ 0 ≤ td ∧ td < n ∧ 0 ≤ g (lg n R).1 td.toNat)) : wy n R td = [] := by unfold wy; rw [if_neg h]
def WQ (n : Int) (R : List E3) (td : Int) (w : World) (e : Ending) (w' : World) : Prop := ∃ u, e = .returned u ∧ Keep w w' ∧ Iw 3 w' u (wy n R td)
def lenV : Value → Nat
  | .slice _ n _ => n
  | _ => 0
theorem infoN : (Tryd.prog.info? 3).map (fun i => (i.zero, i.size, i.bytes)) = some (some (.int .i64 0), 1, 8) := by kernel_rfl
theorem blk_grown {w w' : World} {b B z n : Nat} {e T : TypeId} {v : Value} {xs : List Value} {arr : Array Value} (h : w.heap[b]? = some (.cells arr T (0, 0))) (ho : w.ownsRow B e z v n xs) (he : e ≠ T) (hg : w.grownBy w' v.ownBlock) : w'.heap[b]? = some (.cells arr T (0, 0)) := by
  rw [hg.block b (Array.getElem?_eq_some_iff.1 h).1 (fun e2 => ?_)]
  · exact h
  · rcases ho.2 with ⟨rfl, _⟩ | ⟨g', c', cur, rfl, _, h2, _⟩
    · simp [Value.ownBlock] at e2
    · simp only [Value.ownBlock, Option.some.injEq] at e2
      subst e2
      rw [h] at h2
      injection h2 with h2
      injection h2 with h3 h4
      exact he h4.symm
theorem own_other {w : World} {b i B z n : Nat} {e T : TypeId} {v x : Value} {xs : List Value} {arr : Array Value} (ho : w.ownsRow B e z v n xs) (h : w.heap[b]? = some (.cells arr T (0, 0))) (he : e ≠ T) : (w.setCell ⟨b, i, none⟩ x).ownsRow B e z v n xs := by
  refine ho.kept (row := some b) ⟨rfl, rfl, rfl, by simp, fun k _ hk => heap_setCell_other w ⟨b, i, none⟩ k x (fun e => hk (by simp [e]))⟩ ?_
  rcases ho.2 with ⟨rfl, _⟩ | ⟨g', c', cur, rfl, _, h2, _⟩
  · exact .inl rfl
  · refine .inr fun e2 => ?_
    simp only [Value.ownBlock, Option.some.injEq] at e2
    subst e2
    rw [h] at h2
    injection h2 with h2
    injection h2 with h3 h4
    exact he h4.symm
theorem one_vs (w : World) (x : Int) (t : TypeId) : Vs (w.alloc (.cells #[.int .i64 x] t)) (.slice (some ⟨w.heap.size, 0, none⟩) 1 1) 1 (ics [x]) := ⟨_, 1, rfl, fun j u hj => ⟨_, rfl, new_v w [.int .i64 x] t j u hj⟩⟩
set_option maxHeartbeats 4000000 in
theorem way_any (v : Value) (R : List E3) (n td : Int) (w : World) (hR : Es w v R) (hl : R.length ≤ 1000) (hT : Tab w) : Calls Tryd.prog 12 #[.int .i64 n, v, .int .i64 td] w (WQ n R td w) := by
  have T1 := hide (longest_any v R n w hR hl)
  have HP0 : Hid (¬ ((lg n R).2 = 0 ∧ 0 ≤ td ∧ td < n ∧ 0 ≤ g (lg n R).1 td.toNat) → ∀ e w', Keep w w' → e = .returned (.slice none 0 0) → WQ n R td w e w') := hide (fun h e w' hk he => ⟨_, he, hk, by rw [wy_no h]; exact iw_nil _⟩)
  unfold Lq at T1
  by_cases hE : (lg n R).2 = 0
  · obtain ⟨m, d, rfl, hG, hm1, hm2, hg, hd, hlg, hbd⟩ := lg_ok hE
    rw [hlg] at T1 HP0
    simp only at HP0 T1
    by_cases h1 : td < 0
    · have HP := hide ((unhide HP0) (by omega))
      clear HP0
      generalize WQ (m : Int) R td w = QQ at HP ⊢
      obtain ⟨a, cap, rfl, -⟩ := hR
      generalize R.length = rl at *
      clear hlg hE hd hbd hG hg hT
      go_enter Tryd.func12, Tryd.ntmps12
      go_wp2_with fail
      (refine (unhide T1).mono ?_; rintro e w1 ⟨u1, rfl, hk9, hi9⟩; have K1 := hide hk9; clear hk9 hi9 T1)
      go_wp2_with fail
      try go_ret
      exact (unhide HP) _ _ (unhide K1) rfl
    by_cases h2 : (m : Int) ≤ td
    · have HP := hide ((unhide HP0) (by omega))
      clear HP0
      generalize WQ (m : Int) R td w = QQ at HP ⊢
      obtain ⟨a, cap, rfl, -⟩ := hR
      generalize R.length = rl at *
      clear hlg hE hd hbd hG hg hT
      go_enter Tryd.func12, Tryd.ntmps12
      go_wp2_with fail
      (refine (unhide T1).mono ?_; rintro e w1 ⟨u1, rfl, hk9, hi9⟩; have K1 := hide hk9; clear hk9 hi9 T1)
      go_wp2_with fail
      try go_ret
      exact (unhide HP) _ _ (unhide K1) rfl
    obtain ⟨t, rfl⟩ : ∃ t : Nat, td = (t : Int) := ⟨td.toNat, by omega⟩
    have ht : t < m := by omega
    have hdl := hd.1.1
    rw [Int.toNat_natCast] at HP0
    by_cases h3 : g d t = -1
    · have HP := hide ((unhide HP0) (by omega))
      clear HP0
      generalize WQ (m : Int) R (t : Int) w = QQ at HP ⊢
      obtain ⟨a, cap, rfl, -⟩ := hR
      generalize R.length = rl at *
      have HD := hide (And.intro hdl h3)
      clear hlg hE hd hbd hG hg hT hdl h3
      have l1 : ¬ ((t : Int) < 0) := by omega
      have l2 : ¬ ((m : Int) ≤ (t : Int)) := by omega
      have l3 : (t : Int) < (m : Int) := by omega
      go_enter Tryd.func12, Tryd.ntmps12
      go_wp2_with fail
      (refine (unhide T1).mono ?_; rintro e w1 ⟨u1, rfl, hk9, hi9⟩; have K1 := hide hk9; have I1 := hide hi9; clear hk9 hi9 T1)
      obtain ⟨xa, xc, rfl⟩ := (unhide I1).sl
      have hat := (unhide I1).is.at.2 t (by rw [(unhide HD).1]; exact ht)
      rw [(unhide HD).2] at hat
      rw [(unhide HD).1] at I1 ⊢
      obtain ⟨ad, rfl, hc⟩ := hat
      go_wp2_with fail
      try go_ret
      exact (unhide HP) _ _ (unhide K1) rfl
    · have h0 : 0 ≤ g d t := by have := hd.1.2 t; omega
      have hWi := wi_zero (by omega) (wy_fw hg hd h0)
      have hwl : (wyN m (nE R) d t).length ≤ 64 := by
        have hF := wy_fw hg hd h0
        exact Nat.le_trans (nodup_le m _ hF.1.2.2.1 (fun x hx => (hF.1.2.2.2 x hx).1)) hm2
      have HP : Hid (∀ e w' u, Keep w w' → Iw 3 w' u (nI (wyN m (nE R) d t)) → e = .returned u → WQ (m : Int) R (t : Int) w e w') := hide (fun e w' u hk hi he => ⟨u, he, hk, by unfold wy; rw [if_pos (by rw [hlg, Int.toNat_natCast]; exact ⟨rfl, by omega, by omega, h0⟩), hlg, Int.toNat_natCast, Int.toNat_natCast]; exact hi⟩)
      have hM := sg_all (d := d) (E := nE R) (fun e he => by have := hg.2 e he; omega)
      have TS := hide (fun (w' : World) (u : Value) (hk : Keep w w') (hi : Is w' u d) => steps_any v u R m d w' (hR.keep hk) hl hG hi hd.1 hbd)
      have TL := hide (fun (w' : World) (q G : Nat) (hk : Keep w w') (hq : Gb w' q (sg d (nE R) (List.replicate 128 0))) (hbt : bt G t = false) (hG6 : G < 18446744073709551616) => leading_any q t G m _ (tg (nE R) (g d)) w' (hT.keep hk) hq hM (tg_lt hg (g d)) hm2 ht hbt hG6)
      have HT := hide hT
      have HWG := hide (fun (W : List Nat) (a G : Nat) (h : Wi (tg (nE R) (g d)) m t (wyN m (nE R) d t) W a G) (hat : a ≠ t) => wi_goal h hat ht)
      have HWN := hide (fun (W : List Nat) (a G F : Nat) (h : Wi (tg (nE R) (g d)) m t (wyN m (nE R) d t) W a G) (hat : a ≠ t) (hF : ∀ p, bt F p = true ↔ Rch (tg (nE R) (g d)) m G t p) (hF64 : F < 18446744073709551616) => wi_next hm2 h hat hM hF hF64)
      have HWB : Hid (∀ (W : List Nat) (a G : Nat), Wi (tg (nE R) (g d)) m t (wyN m (nE R) d t) W a G → a < 64 ∧ G < 18446744073709551616) := hide (fun W a G h => by
        obtain ⟨W0, r, u, _, _, _, _, ha, _, _, h64⟩ := h
        exact ⟨by omega, h64⟩)
      have HWE := hide (fun (W : List Nat) (G : Nat) (h : Wi (tg (nE R) (g d)) m t (wyN m (nE R) d t) W t G) => wi_end h)
      have HML := hide (And.intro hM.len hM.lt)
      generalize sg d (nE R) (List.replicate 128 0) = M at hM TS TL HWN HML
      have HW0 := hide hWi
      generalize tg (nE R) (g d) = T at *
      generalize wyN m (nE R) d t = L at *
      generalize WQ (m : Int) R (t : Int) w = QQ at HP ⊢
      obtain ⟨a, cap, rfl, -⟩ := hR
      generalize R.length = rl at *
      have HD := hide (And.intro hdl h0)
      clear hlg hE hd hbd hG hg hT hdl h3 HP0 h0 hWi hM h1 h2
      have l1 : ¬ ((t : Int) < 0) := by omega
      have l2 : ¬ ((m : Int) ≤ (t : Int)) := by omega
      have l3 : (t : Int) < (m : Int) := by omega
      obtain ⟨i0, hi0, hz0, hz1, hz2⟩ := info_f infoN
      go_enter Tryd.func12, Tryd.ntmps12
      go_wp2_with fail
      (refine (unhide T1).mono ?_; rintro e w1 ⟨u1, rfl, hk9, hi9⟩; have K1 := hide hk9; have I1 := hide hi9; clear hk9 hi9 T1)
      obtain ⟨xa, xc, rfl⟩ := (unhide I1).sl
      have hat := (unhide I1).is.at.2 t (by rw [(unhide HD).1]; exact ht)
      have IS1 := hide (unhide I1).is
      rw [(unhide HD).1] at I1 IS1 ⊢
      obtain ⟨ad, rfl, hc⟩ := hat
      have hdt := (unhide HD).2
      obtain ⟨y, hy⟩ : ∃ y, g d t = y := ⟨_, rfl⟩
      rw [hy] at hc hdt
      have hyb : (y == -1) = false := by simp; omega
      clear hy
      go_wp2_with fail
      (refine ((unhide TS) _ _ (unhide K1) (unhide IS1)).mono ?_; rintro e w2 ⟨rfl, hk9, hg9⟩; have K2 := hide ((unhide K1).trans hk9); have G2 := hide hg9; clear hk9 hg9 TS)
      generalize w1.heap.size = q at G2 ⊢
      have KA := hide (((unhide K2).alloc (.cells #[.int .i64 0] 3)).alloc (.cells #[.int .u64 0] 39))
      have GA := hide ((unhide G2).keep (((Keep.refl w2).alloc (.cells #[.int .i64 0] 3)).alloc (.cells #[.int .u64 0] 39)))
      have OA : Hid (((w2.alloc (.cells #[.int .i64 0] 3)).alloc (.cells #[.int .u64 0] 39)).ownsRow w.heap.size 3 1 (.slice (some ⟨w2.heap.size, 0, none⟩) 1 1) 1 (ics (nI [0]))) := hide ((World.ownsRow_lit w2 #[.int .i64 0] 1 (unhide K2).size (by unfold maxLen; omega) rfl).alloc _)
      have UA : Hid (Ub ((w2.alloc (.cells #[.int .i64 0] 3)).alloc (.cells #[.int .u64 0] 39)) (w2.heap.size + 1) 0) := hide (by have := heap_alloc_new (w2.alloc (.cells #[.int .i64 0] 3)) (.cells #[.int .u64 0] 39); rw [World.size_alloc] at this; exact this)
      go_upto_region 7 with fail
      try simp only [World.size_alloc]
      generalize (w2.alloc (.cells #[.int .i64 0] 3)).alloc (.cells #[.int .u64 0] 39) = w3 at KA GA OA UA ⊢
      obtain ⟨b, hb⟩ : ∃ b, w2.heap.size + 1 = b := ⟨_, rfl⟩
      have Hb : Hid (w.heap.size ≤ b ∧ q ≠ b) := hide (by have h1 := (unhide K2).size; have h2 := (unhide G2).lt; omega)
      rw [hb] at UA ⊢
      clear hb
      generalize w2.heap.size = g0 at OA ⊢
      go_wp2_with fail
      (refine (put_any b 0 0 0 _ (by exact (unhide UA).c0) (by exact (unhide UA).fz) (by decide) (by decide)).mono ?_; rintro e w9 ⟨⟨u9, rfl⟩, rfl⟩)
      have UB : Hid (Ub (w3.setCell ⟨b, 0, none⟩ (.int .u64 ((0 ||| 2 ^ 0 : Nat) : Int))).drew b 1) := hide ((unhide UA).set 1)
      have GB : Hid (Gb (w3.setCell ⟨b, 0, none⟩ (.int .u64 ((0 ||| 2 ^ 0 : Nat) : Int))).drew q M) := hide ((unhide GA).other (unhide Hb).2)
      have KB : Hid (Keep w (w3.setCell ⟨b, 0, none⟩ (.int .u64 ((0 ||| 2 ^ 0 : Nat) : Int))).drew) := hide (keep_st (unhide KA) (unhide Hb).1 _).drew
      have OB : Hid ((w3.setCell ⟨b, 0, none⟩ (.int .u64 ((0 ||| 2 ^ 0 : Nat) : Int))).drew.ownsRow w.heap.size 3 1 (.slice (some ⟨g0, 0, none⟩) 1 1) 1 (ics (nI [0]))) := hide (own_k (own_other (unhide OA) (unhide UA) (by decide)) ((Keep.refl _).drew))
      generalize (w3.setCell ⟨b, 0, none⟩ (.int .u64 ((0 ||| 2 ^ 0 : Nat) : Int))).drew = w4 at UB GB KB OB ⊢
      clear UA GA KA OA
      go_wp2_with fail
      go_loopw [10, 12] (fun vr va wr => ∃ (W : List Nat) (a G : Nat), va = .int .i64 (a : Int) ∧ Hid (wr.ownsRow w.heap.size 3 1 vr W.length (ics (nI W))) ∧ Hid (Ub wr b G) ∧ Hid (Gb wr q M) ∧ Hid (Keep w wr) ∧ Hid (Wi T m t L W a G)) (fun vr va _ => L.length - lenV vr)
      case atStart => exact ⟨[0], 0, 1, rfl, OB, UB, GB, KB, HW0⟩
      case round =>
        clear OB UB GB KB HW0
        obtain ⟨W, a, G, rfl, OW, UW, GW, KW, WW⟩ := hrel
        obtain ⟨ra, rc, rfl⟩ := own_l (unhide OW)
        by_cases hat2 : a = t
        · subst hat2
          have HI : Hid (Iw 3 wr (.slice ra W.length rc) (nI L)) := hide (by rw [← (unhide HWE) _ _ (unhide WW)]; exact iw_own (unhide OW) (by rw [nI_len]))
          have hbn : ((a : Int) != (a : Int)) = false := by simp
          generalize W.length = wl at *
          go_wp2_with fail
          try go_ret
          exact (unhide HP) _ _ _ (unhide KW) (unhide HI) rfl
        · have hbn : ((a : Int) != (t : Int)) = true := by simp; omega
          obtain ⟨a64, hG64⟩ := (unhide HWB) _ _ _ (unhide WW)
          have hbt := hide ((unhide HWG) _ _ _ (unhide WW) hat2)
          have TLk := hide ((unhide TL) wr.drew q G (unhide KW).drew (unhide GW) (unhide hbt) hG64)
          obtain ⟨x0, hx0⟩ : ∃ x0, M.getD a 0 = x0 := ⟨_, rfl⟩
          have hx64 : x0 < 18446744073709551616 := by rw [← hx0]; exact (unhide HML).2 a
          have hca : Hid (wr.cell? ⟨q, a, none⟩ = some (.int .u64 (x0 : Int))) := hide (by rw [← hx0]; exact (unhide GW).cell (by rw [(unhide HML).1]; omega))
          have HN := hide (fun F => (unhide HWN) W a G F (unhide WW) hat2)
          rw [hx0] at HN
          have az : (0 : Int) ≤ (a : Int) := by omega
          have ai : (a : Int) < 64 := by omega
          clear hat2 hx0
          go_upto_region 10 with fail
          refine wp_region_held_drew (S := (fun w' => w'.cell? ⟨q, a, none⟩ = some (.int .u64 (x0 : Int)) ∧ w'.cell? ⟨b, 0, none⟩ = some (.int .u64 (G : Int)))) (by kernel_rfl) (by exact ⟨unhide hca, (unhide UW).c0⟩) (fun hHeld => ?_)
          refine wpAnyH_take (i := 0) (v := ?_) rfl (by kernel_rfl) (by kernel_rfl) (by kernel_rfl) (fun _ _ _ h => h) (Or.inl ⟨by rfl, ?_⟩) hHeld ?_
          rotate_left
          · intro w hSw
            try dsimp only at hSw
            go_simp
            try with_reducible rfl
          show wpAnyH _ _ _ _ _ _ _ (Act.put _ (some 46) _) _
          try simp only [Act.put, List.setIfInBounds_toArray, List.set_cons_zero, List.set_cons_succ]
          refine wpAnyH_take (i := 1) (v := ?_) rfl (by kernel_rfl) (by kernel_rfl) (by kernel_rfl) (fun _ _ _ h => h) (Or.inl ⟨by rfl, ?_⟩) hHeld ?_
          rotate_left
          · intro w hSw
            try dsimp only at hSw
            go_simp
            try with_reducible rfl
          show wpAnyH _ _ _ _ _ _ _ (Act.put _ (some 47) _) _
          try simp only [Act.put, List.setIfInBounds_toArray, List.set_cons_zero, List.set_cons_succ]
          refine wpAnyH_take (i := 2) (v := ?_) rfl (by kernel_rfl) (by kernel_rfl) (by kernel_rfl) (fun _ _ _ h => h) (Or.inl ⟨by rfl, ?_⟩) hHeld ?_
          rotate_left
          · intro w hSw
            try dsimp only at hSw
            go_simp
            try with_reducible rfl
          show wpAnyH _ _ _ _ _ _ _ (Act.put _ (some 48) _) _
          try simp only [Act.put, List.setIfInBounds_toArray, List.set_cons_zero, List.set_cons_succ]
          refine wpAnyH_take (i := 3) (v := ?_) rfl (by kernel_rfl) (by kernel_rfl) (by kernel_rfl) (fun _ _ _ h => h) (Or.inl ⟨by rfl, ?_⟩) hHeld ?_
          rotate_left
          · intro w hSw
            try dsimp only at hSw
            go_simp
            try with_reducible rfl
          show wpAnyH _ _ _ _ _ _ _ (Act.put _ (some 49) _) _
          try simp only [Act.put, List.setIfInBounds_toArray, List.set_cons_zero, List.set_cons_succ]
          refine wpAnyH_take (i := 4) (v := ?_) rfl (by kernel_rfl) (by kernel_rfl) (by kernel_rfl) (fun _ _ _ h => h) (Or.inl ⟨by rfl, ?_⟩) hHeld ?_
          rotate_left
          · intro w hSw
            try dsimp only at hSw
            go_simp
            try with_reducible rfl
          show wpAnyH _ _ _ _ _ _ _ (Act.put _ (some 50) _) _
          try simp only [Act.put, List.setIfInBounds_toArray, List.set_cons_zero, List.set_cons_succ]
          refine wpAnyH_take (i := 5) (v := ?_) rfl (by kernel_rfl) (by kernel_rfl) (by kernel_rfl) (fun _ _ _ h => h) (Or.inl ⟨by rfl, ?_⟩) hHeld ?_
          rotate_left
          · intro w hSw
            try dsimp only at hSw
            go_simp
            try with_reducible rfl
          show wpAnyH _ _ _ _ _ _ _ (Act.put _ (some 51) _) _
          try simp only [Act.put, List.setIfInBounds_toArray, List.set_cons_zero, List.set_cons_succ]
          refine wpAnyH_take (i := 6) (v := ?_) rfl (by kernel_rfl) (by kernel_rfl) (by kernel_rfl) (fun _ _ _ h => h) (Or.inl ⟨by rfl, ?_⟩) hHeld ?_
          rotate_left
          · intro w hSw
            try dsimp only at hSw
            go_simp
            try with_reducible rfl
          show wpAnyH _ _ _ _ _ _ _ (Act.put _ (some 52) _) _
          try simp only [Act.put, List.setIfInBounds_toArray, List.set_cons_zero, List.set_cons_succ]
          refine wpAnyH_take (i := 7) (v := ?_) rfl (by kernel_rfl) (by kernel_rfl) (by kernel_rfl) (fun _ _ _ h => h) (Or.inl ⟨by rfl, ?_⟩) hHeld ?_
          rotate_left
          · intro w hSw
            try dsimp only at hSw
            go_simp
            try with_reducible rfl
          show wpAnyH _ _ _ _ _ _ _ (Act.put _ (some 53) _) _
          try simp only [Act.put, List.setIfInBounds_toArray, List.set_cons_zero, List.set_cons_succ]
          refine wpAnyH_take (i := 8) (v := ?_) rfl (by kernel_rfl) (by kernel_rfl) (by kernel_rfl) (fun _ _ _ h => h) (Or.inl ⟨by rfl, ?_⟩) hHeld ?_
          rotate_left
          · intro w hSw
            try dsimp only at hSw
            go_simp
            try with_reducible rfl
          show wpAnyH _ _ _ _ _ _ _ (Act.put _ (some 54) _) _
          try simp only [Act.put, List.setIfInBounds_toArray, List.set_cons_zero, List.set_cons_succ]
          refine wpAnyH_ready (rs := [9]) (by kernel_rfl) (by simp) ?_
          refine AllReadyH.cons rfl (fun K hK => ?_) AllReadyH.nil
          go_simp
          clear hHeld
          (refine (unhide TLk).mono ?_; rintro e w5 ⟨F, rfl, hF64, hF, hk5⟩; have K5 : Hid (Keep wr w5) := hide (Keep.trans (Keep.refl wr).drew hk5); have HF := hide (And.intro hF64 hF); have e1 := bits_and_u64_nat x0 F hx64 hF64; clear hk5 hF64 hF TLk)
          try go_wp2_with fail
          refine hK.out _ _ ?_ (fun hHeld => ?_)
          · exact ⟨kc (unhide K5) (unhide hca), kc (unhide K5) (unhide UW).c0⟩
          clear hK K
          try simp only [Act.put, List.setIfInBounds_toArray, List.set_cons_zero, List.set_cons_succ]
          refine wpAnyH_take (i := 10) (v := ?_) rfl (by kernel_rfl) (by kernel_rfl) (by kernel_rfl) (fun _ _ _ h => h) (Or.inl ⟨by rfl, ?_⟩) hHeld ?_
          rotate_left
          · intro w hSw
            try dsimp only at hSw
            go_simp
            try with_reducible rfl
          show wpAnyH _ _ _ _ _ _ _ (Act.put _ (some 56) _) _
          try simp only [Act.put, List.setIfInBounds_toArray, List.set_cons_zero, List.set_cons_succ]
          refine wpAnyH_take (i := 11) (v := ?_) rfl (by kernel_rfl) (by kernel_rfl) (by kernel_rfl) (fun _ _ _ h => h) (Or.inl ⟨by rfl, ?_⟩) hHeld ?_
          rotate_left
          · intro w hSw
            try dsimp only at hSw
            go_simp
            try with_reducible rfl
          show wpAnyH _ _ _ _ _ _ _ (Act.put _ (some 13) _) _
          try simp only [Act.put, List.setIfInBounds_toArray, List.set_cons_zero, List.set_cons_succ]
          refine wpAnyH_done (by kernel_rfl) ?_ _
          clear hHeld
          obtain ⟨n1, n2, n3, n4, n5⟩ := (unhide HN) F (unhide HF).2 (unhide HF).1
          have HW4 := hide n4
          have HW5 := hide n5
          have K6 := hide ((unhide KW).trans (unhide K5))
          have TF := hide (first_any (x0 &&& F) n1 n2 w5 ((unhide HT).keep (unhide K6)))
          clear n1 n4 n5 HN HF e1
          generalize x0 &&& F = N at *
          generalize Lib.ctz 64 N = p at *
          have O5 := hide (own_k (unhide OW) (unhide K5))
          have U5 := hide ((unhide UW).keep (unhide K5))
          have G5 := hide ((unhide GW).keep (unhide K5))
          have O6 := hide ((unhide O5).alloc (.cells #[.int .i64 (p : Int)] 3))
          have U6 := hide ((unhide U5).keep ((Keep.refl w5).alloc (.cells #[.int .i64 (p : Int)] 3)))
          have G6 := hide ((unhide G5).keep ((Keep.refl w5).alloc (.cells #[.int .i64 (p : Int)] 3)))
          have KC := hide ((unhide K6).alloc (.cells #[.int .i64 (p : Int)] 3))
          have V6 := hide (one_vs w5 (p : Int) 3)
          have HL1 : Hid ((ics [(p : Int)]).length = 1 * 1) := hide rfl
          have HL2 := hide (ics_one [(p : Int)])
          have HI9 : Hid (ics (nI W) ++ ics [(p : Int)] = ics (nI (W ++ [p]))) := hide (by rw [nI_app, ics_app]; rfl)
          have HWl : Hid (W.length + 1 = (W ++ [p]).length) := hide (by simp)
          have hWl : W.length ≤ 64 := by have := unhide HW5; omega
          have HSz := hide (unhide KC).size
          go_upto_region 12 with ((refine (unhide TF).mono ?_; rintro e w9 ⟨rfl, rfl⟩))
          go_upto_region 13 with (at_builtin; refine wpList_append_vs _ rfl _ _ 30 rfl w.heap.size 3 i0 _ 1 8 Tryd.underlying30 hi0 hz0 hz1 hz2 rfl (by decide) (by decide) _ W.length (ics (nI W)) rfl (unhide O6) _ 1 (ics [(p : Int)]) rfl (unhide V6) (unhide HL1) (unhide HL2) (by omega) (unhide HSz) ?_; intro v7 w7 hown' hgrow; obtain ⟨a7, c7, rfl⟩ := own_l hown'; rw [unhide HI9] at hown'; have O7 := hide hown'; have U7 : Hid (Ub w7 b G) := hide (blk_grown (unhide U6) (unhide O6) (by decide) hgrow); have G7 : Hid (Gb w7 q M) := hide (blk_grown (unhide G6) (unhide O6) (by decide) hgrow); have K7 : Hid (Keep w w7) := hide (Below.grown (unhide KC) hgrow (unhide KC).size (fun j ej => ((unhide O6).lt j ej).1)); clear hown' hgrow)
          go_wp2_with fail
          (refine (put_any b 0 G p _ (by exact (unhide U7).c0) (by exact (unhide U7).fz) hG64 (by omega)).mono ?_; rintro e w8 ⟨⟨u8, rfl⟩, rfl⟩)
          have U8 : Hid (Ub (w7.setCell ⟨b, 0, none⟩ (.int .u64 ((G ||| 2 ^ p : Nat) : Int))).drew b (G ||| 2 ^ p)) := hide ((unhide U7).set _)
          have G8 : Hid (Gb (w7.setCell ⟨b, 0, none⟩ (.int .u64 ((G ||| 2 ^ p : Nat) : Int))).drew q M) := hide ((unhide G7).other (unhide Hb).2)
          have K8 : Hid (Keep w (w7.setCell ⟨b, 0, none⟩ (.int .u64 ((G ||| 2 ^ p : Nat) : Int))).drew) := hide (keep_st (unhide K7) (unhide Hb).1 _).drew
          have O8 : Hid ((w7.setCell ⟨b, 0, none⟩ (.int .u64 ((G ||| 2 ^ p : Nat) : Int))).drew.ownsRow w.heap.size 3 1 (.slice a7 (W.length + 1) c7) (W.length + 1) (ics (nI (W ++ [p])))) := hide (own_k (own_other (unhide O7) (unhide U7) (by decide)) ((Keep.refl _).drew))
          generalize (w7.setCell ⟨b, 0, none⟩ (.int .u64 ((G ||| 2 ^ p : Nat) : Int))).drew = w8 at U8 G8 K8 O8 ⊢
          go_wp2_with fail
          go_roundw
          case rel => exact ⟨W ++ [p], p, G ||| 2 ^ p, rfl, hide (by rw [← unhide HWl]; exact unhide O8), U8, G8, K8, HW4⟩
          case measure =>
            have := unhide HW5
            simp [lenV]; omega
  · have HP := hide ((unhide HP0) (fun h => hE h.1))
    clear HP0
    generalize WQ n R td w = QQ at HP ⊢
    generalize (lg n R).2 = E2 at hE T1
    generalize (lg n R).1 = L2 at T1
    obtain ⟨a, cap, rfl, -⟩ := hR
    generalize R.length = rl at *
    have hb : (E2 != 0) = true := by simpa using hE
    clear hE
    go_enter Tryd.func12, Tryd.ntmps12
    go_wp2_with fail
    (refine (unhide T1).mono ?_; rintro e w1 ⟨u1, rfl, hk9, hi9⟩; have K1 := hide hk9; clear hk9 hi9 T1)
    go_wp2_with fail
    try go_ret
    exact (unhide HP) _ _ (unhide K1) rfl
end Pa
end Go.Proofs.YtfofkkjldngkaaaDoor
