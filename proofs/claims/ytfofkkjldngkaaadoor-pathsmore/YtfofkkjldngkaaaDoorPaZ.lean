/- Package paths: the steps of longest ways. -/
import Derived.Test.YtfofkkjldngkaaaDoorPaY
namespace Go.Proofs.YtfofkkjldngkaaaDoor
open Go.RowKit
attribute [local go_sem ↓] Go.wp_at_zero Go.wp_at_succ
set_option linter.unusedVariables false
set_option linter.unusedSimpArgs false
set_option maxRecDepth 10000
namespace Pa
/-- an edge that a longest way may go by -/
def tE (d : List Int) (e : Ed) : Bool := decide (g d e.1 + e.2.2 = g d e.2.1)
/-- one edge more: where it goes on to, and from where it comes -/
def sM (d : List Int) (M : List Nat) (e : Ed) : List Nat := bif tE d e then (M.set e.1 (M.getD e.1 0 ||| 2 ^ e.2.1)).set (64 + e.2.1) ((M.set e.1 (M.getD e.1 0 ||| 2 ^ e.2.1)).getD (64 + e.2.1) 0 ||| 2 ^ e.1) else M
/-- the sets tell the steps -/
structure Gi (T : Nat → Nat → Bool) (M : List Nat) : Prop where
  len : M.length = 128
  lt : ∀ i, M.getD i 0 < 18446744073709551616
  on : ∀ a b, a < 64 → bt (M.getD a 0) b = T a b
  fr : ∀ a b, b < 64 → bt (M.getD (64 + b) 0) a = T a b
theorem getD_set {M : List Nat} {i : Nat} (h : i < M.length) (v j : Nat) : (M.set i v).getD j 0 = if i = j then v else M.getD j 0 := by
  rw [List.getD_eq_getElem?_getD, List.getElem?_set]
  by_cases e : i = j
  · subst e; simp [h]
  · simp [e, List.getD_eq_getElem?_getD]
theorem gi_zero : Gi (fun _ _ => false) (List.replicate 128 0) := by
  have h : ∀ i, (List.replicate 128 0).getD i 0 = 0 := fun i => by
    rw [List.getD_eq_getElem?_getD, List.getElem?_replicate]; split <;> rfl
  exact ⟨by simp, fun i => by rw [h]; decide, fun a b _ => by rw [h]; simp [bt], fun a b _ => by rw [h]; simp [bt]⟩
theorem gi_step {T : Nat → Nat → Bool} {M : List Nat} {d : List Int} {e : Ed} (h : Gi T M) (h1 : e.1 < 64) (h2 : e.2.1 < 64) : Gi (fun a b => T a b || (e.1 == a && e.2.1 == b && g d b == g d a + e.2.2)) (sM d M e) := by
  obtain ⟨f, t, l⟩ := e
  simp only at h1 h2
  have hl := h.len
  have he : ∀ a b, (f == a && t == b && g d b == g d a + l) = (decide (f = a ∧ t = b) && tE d (f, t, l)) := fun a b => by
    by_cases ha : f = a
    · by_cases hb : t = b
      · subst ha; subst hb
        simp only [tE, beq_self_eq_true, Bool.true_and, and_self, decide_true]
        by_cases hx : g d t = g d f + l
        · rw [hx]; simp
        · have : ¬ g d f + l = g d t := fun e => hx e.symm
          simp [hx, this]
      · simp [ha, hb]
    · simp [ha]
  unfold sM
  cases ht : tE d (f, t, l) with
  | false =>
    simp only [cond_false]
    refine ⟨h.len, h.lt, fun a b ha => ?_, fun a b hb => ?_⟩
    · simp only [he, ht, Bool.and_false, Bool.or_false]; exact h.on a b ha
    · simp only [he, ht, Bool.and_false, Bool.or_false]; exact h.fr a b hb
  | true =>
    simp only [cond_true]
    have g1 : ∀ j, (M.set f (M.getD f 0 ||| 2 ^ t)).getD j 0 = if f = j then M.getD f 0 ||| 2 ^ t else M.getD j 0 := fun j => getD_set (by omega) _ _
    have g2 : ∀ v j, ((M.set f (M.getD f 0 ||| 2 ^ t)).set (64 + t) v).getD j 0 = if 64 + t = j then v else (M.set f (M.getD f 0 ||| 2 ^ t)).getD j 0 := fun v j => getD_set (by simp; omega) _ _
    refine ⟨by simp [hl], fun i => ?_, fun a b ha => ?_, fun a b hb => ?_⟩
    · rw [g2, g1, g1]
      split
      · split
        · omega
        · exact put_lt (h.lt _) h1
      · split
        · exact put_lt (h.lt _) h2
        · exact h.lt i
    · rw [g2, if_neg (by omega), g1]
      simp only [he, ht, Bool.and_true]
      by_cases e1 : f = a
      · subst e1
        rw [if_pos rfl, bt_put, h.on _ _ ha]
        simp
      · rw [if_neg e1, h.on _ _ ha]; simp [e1]
    · simp only [he, ht, Bool.and_true]
      by_cases e1 : t = b
      · subst e1
        rw [g2, if_pos rfl, g1, if_neg (by omega), bt_put, h.fr _ _ hb]
        simp
      · rw [g2, if_neg (by omega), g1, if_neg (by omega), h.fr _ _ hb]; simp [e1]
def sg (d : List Int) : List Ed → List Nat → List Nat
  | [], M => M
  | e :: E, M => sg d E (sM d M e)
theorem sg_app (d : List Int) : ∀ (A B : List Ed) (M : List Nat), sg d (A ++ B) M = sg d B (sg d A M)
  | [], B, M => rfl
  | e :: A, B, M => by rw [List.cons_append, sg, sg, sg_app d A B]
theorem sg_gi {d : List Int} : ∀ (E : List Ed) (T : Nat → Nat → Bool) (M : List Nat), (∀ e ∈ E, e.1 < 64 ∧ e.2.1 < 64) → Gi T M → Gi (fun a b => T a b || tg E (g d) a b) (sg d E M)
  | [], T, M, _, h => by
    have : (fun a b => T a b || tg [] (g d) a b) = T := by funext a b; simp [tg]
    rw [this]; exact h
  | e :: E, T, M, hE, h => by
    have h1 := hE e (by simp)
    have := sg_gi (d := d) E _ _ (fun y hy => hE y (by simp [hy])) (gi_step (d := d) h h1.1 h1.2)
    have he : (fun a b => T a b || tg (e :: E) (g d) a b) = (fun a b => (T a b || (e.1 == a && e.2.1 == b && g d b == g d a + e.2.2)) || tg E (g d) a b) := by funext a b; simp [tg, Bool.or_assoc]
    rw [he]; exact this
theorem sg_all {d : List Int} {E : List Ed} (hE : ∀ e ∈ E, e.1 < 64 ∧ e.2.1 < 64) : Gi (tg E (g d)) (sg d E (List.replicate 128 0)) := by
  have := sg_gi (d := d) E _ _ hE gi_zero
  have he : (fun a b => (fun _ _ => false : Nat → Nat → Bool) a b || tg E (g d) a b) = tg E (g d) := by funext a b; simp
  rw [he] at this; exact this
theorem wk_bd {E : List Ed} (h6 : ∀ e ∈ E, e.2.2 ≤ 6000) {k : Nat} {s : Int} {p : Nat} (h : Wk E k s p) : s ≤ 6000 * (k : Int) := by
  induction h with
  | nil => simp
  | snoc h he ih => have := h6 _ he; simp only at this; omega
/-- how great what is told may be -/
theorem good_bd {n : Nat} {E : List Ed} (hg : Gr n E) (h6 : ∀ e ∈ E, e.2.2 ≤ 6000) {d : List Int} (h : Good n E d) (p : Nat) : g d p ≤ 6000 * (n : Int) := by
  by_cases h0 : 0 ≤ g d p
  · obtain ⟨k, hw⟩ := h.2.2 p h0
    obtain ⟨k', s', h1, h2, h3⟩ := short hg h.2.1 hw
    have := wk_bd h6 h1
    omega
  · omega
/-- the block that holds the steps -/
def Gb (w : World) (q : Nat) (M : List Nat) : Prop := w.heap[q]? = some (.cells (M.map fun x : Nat => Value.int .u64 (x : Int)).toArray 50 (0, 0))
theorem Gb.lt {w : World} {q : Nat} {M : List Nat} (h : Gb w q M) : q < w.heap.size := (Array.getElem?_eq_some_iff.1 h).1
theorem Gb.keep {w w' : World} {q : Nat} {M : List Nat} (h : Gb w q M) (k : Keep w w') : Gb w' q M := (k.block q h.lt).trans h
theorem Gb.cell {w : World} {q i : Nat} {M : List Nat} (h : Gb w q M) (hi : i < M.length) : w.cell? ⟨q, i, none⟩ = some (.int .u64 ((M.getD i 0 : Nat) : Int)) := by
  unfold Gb at h
  simp [World.cell?, h, hi]
theorem Gb.fz {w : World} {q : Nat} {M : List Nat} (h : Gb w q M) (i : Nat) : w.frozen? ⟨q, i, none⟩ = false := by
  unfold Gb at h
  simp [World.frozen?, h]
theorem Gb.set {w : World} {q i : Nat} {M : List Nat} (h : Gb w q M) (y : Nat) : Gb (w.setCell ⟨q, i, none⟩ (.int .u64 (y : Int))) q (M.set i y) := by
  unfold Gb
  rw [heap_setCell_same w q i _ _ _ h, List.setIfInBounds_toArray, List.map_set]
theorem Gb.other {w : World} {q b i : Nat} {v : Value} {M : List Nat} (h : Gb w q M) (hb : q ≠ b) : Gb (w.setCell ⟨b, i, none⟩ v) q M := by
  unfold Gb
  rw [heap_setCell_other w _ q v hb]
  exact h
theorem zero_steps (w : World) : (zeroValue 50).run Tryd.prog w = .ok (.agg ((List.replicate 128 0).map fun x : Nat => Value.int .u64 (x : Int)).toArray) w := by kernel_rfl
set_option maxHeartbeats 4000000 in
theorem steps_any (v vd : Value) (R : List E3) (n : Nat) (D : List Int) (w : World) (hR : Es w v R) (hl : R.length ≤ 1000) (hG : isG (n : Int) R = true) (hD : Is w vd D) (hn : Nn n D) (hB : ∀ p, g D p ≤ 1000000000000) :
    Calls Tryd.prog 22 #[v, vd] w fun e w' => e = .returned (.pointer (some ⟨w.heap.size, 0, none⟩)) ∧ Keep w w' ∧ Gb w' w.heap.size (sg D (nE R) (List.replicate 128 0)) := by
  obtain ⟨n', hn', hn1, hn2, hg, h6, hat⟩ := isG_gr hG
  obtain rfl : n = n' := by omega
  obtain ⟨a, cap, rfl, hR⟩ := hR
  have HC := hide hR
  clear hR
  obtain ⟨m, hm⟩ : ∃ m, R.length = m := ⟨_, rfl⟩
  have HM := hide hm
  rw [hm] at hl HC hat ⊢
  clear hm
  obtain ⟨xa, xc, rfl⟩ := is_sl hD
  rw [hn.1] at hD ⊢
  obtain ⟨X, hX⟩ : ∃ X : Nat → List Nat, ∀ k, X k = sg D ((nE R).take k) (List.replicate 128 0) := ⟨_, fun k => rfl⟩
  have HX0 : Hid (X 0 = List.replicate 128 0) := hide (hX 0)
  have HXm : Hid (X m = sg D (nE R) (List.replicate 128 0)) := hide (by rw [hX, List.take_of_length_le (by rw [nE_len, unhide HM]; exact Nat.le_refl _)])
  have HXi : Hid (∀ k, (X k).length = 128 ∧ ∀ i, (X k).getD i 0 < 18446744073709551616) := hide (fun k => by
    rw [hX]
    have := sg_all (d := D) (E := (nE R).take k) (fun e he => by have := hg.2 e (List.mem_of_mem_take he); omega)
    exact ⟨this.len, this.lt⟩)
  have HA : Hid (∀ k, k < m → ∃ f t : Nat, ∃ l : Int, R.getD k z3 = ((f : Int), (t : Int), l) ∧ f < n ∧ t < n ∧ 0 ≤ l ∧ l ≤ 6000 ∧ X (k + 1) = sM D (X k) (f, t, l)) := hide (fun k hk => by
    obtain ⟨f, t, l, h1, h2, h3, h4, h5, h6⟩ := hat k hk
    exact ⟨f, t, l, h1, h3, h4, h5, h6, by rw [hX, hX, take_more h2, sg_app]; rfl⟩)
  have HDc : Hid (∀ k, k < n → ∃ ad, xa = some ad ∧ w.cell? (ad.add k) = some (.int .i64 (g D k)) ∧ -1 ≤ g D k ∧ g D k ≤ 1000000000000) := hide (fun k hk => by
    obtain ⟨ad, e1, e2⟩ := hD.at.2 k (by rw [hn.1]; exact hk)
    exact ⟨ad, e1, e2, hn.2 k, hB k⟩)
  clear hX hat h6 hg hG hD hn hB
  rw [← unhide HXm]
  have HZ := hide zero_steps
  have G0 : Hid (Gb (w.alloc (.cells ((List.replicate 128 0).map fun x : Nat => Value.int .u64 (x : Int)).toArray 50)) w.heap.size (X 0)) := hide (by rw [unhide HX0]; exact heap_alloc_new w _)
  have K0 := hide ((Keep.refl w).alloc (.cells ((List.replicate 128 0).map fun x : Nat => Value.int .u64 (x : Int)).toArray 50))
  have hz := unhide HZ w
  generalize ((List.replicate 128 0).map fun x : Nat => Value.int .u64 (x : Int)).toArray = ZZ at G0 K0 hz
  clear HZ HX0 HXm
  go_enter Tryd.func22, Tryd.ntmps22
  go_upto_region 2 with fail
  generalize w.alloc (.cells ZZ 50) = w2 at G0 K0 ⊢
  obtain ⟨q, HQ⟩ : ∃ q, Hid (w.heap.size = q) := ⟨_, hide rfl⟩
  rw [unhide HQ] at G0 ⊢
  clear hz
  go_wp2_with fail
  go_loopw [10] (fun vi wr => ∃ k : Nat, vi = .int .i64 (k : Int) ∧ k ≤ m ∧ Hid (Keep w wr) ∧ Hid (Gb wr q (X k))) (fun vi _ => m - (intOf vi).toNat)
  case atStart => exact ⟨0, rfl, Nat.zero_le _, K0, G0⟩
  case round =>
    clear K0 G0
    obtain ⟨k, rfl, hk, KW, GW⟩ := hrel
    by_cases hlt : k < m
    · have li : (k : Int) < (m : Int) := by omega
      obtain ⟨ad, rfl, hc3⟩ := (unhide HC) k hlt
      obtain ⟨f, t, l, hr, hf, ht, hl0, hl6, hxk⟩ := (unhide HA) k hlt
      rw [hr] at hc3
      obtain ⟨x0, x1, x2⟩ := hc3.keep (unhide KW)
      simp only at x0 x1 x2
      obtain ⟨xa, rfl, y0, hyl, hyu⟩ := (unhide HDc) f hf
      obtain ⟨xb, hxb, z0, hzl, hzu⟩ := (unhide HDc) t ht
      obtain rfl : xa = xb := by injection hxb
      have cf := hide (kc (unhide KW) y0)
      have ct := hide (kc (unhide KW) z0)
      have HXk := hide hxk
      have HN := hide (fun h : tE D (f, t, l) = false => (show sM D (X k) (f, t, l) = X k by unfold sM; rw [h]; rfl))
      have HY := hide (fun h : tE D (f, t, l) = true => (show sM D (X k) (f, t, l) = ((X k).set f ((X k).getD f 0 ||| 2 ^ t)).set (64 + t) (((X k).set f ((X k).getD f 0 ||| 2 ^ t)).getD (64 + t) 0 ||| 2 ^ f) by unfold sM; rw [h]; rfl))
      have HT : Hid (tE D (f, t, l) = decide (g D f + l = g D t)) := hide rfl
      clear hxk hc3 hr y0 z0 hxb
      obtain ⟨y, hy⟩ : ∃ y, g D f = y := ⟨_, rfl⟩
      obtain ⟨z, hz⟩ : ∃ z, g D t = z := ⟨_, rfl⟩
      rw [hy] at cf hyl hyu HT
      rw [hz] at ct hzl hzu HT
      clear hy hz
      generalize tE D (f, t, l) = Tb at HN HY HT
      have hw : IntKind.i64.wrap (y + l) = y + l := by rw [IntKind.wrap_i64]; omega
      have fi : (f : Int) < (n : Int) := by omega
      have ti : (t : Int) < (n : Int) := by omega
      have fz : (0 : Int) ≤ (f : Int) := by omega
      have tz : (0 : Int) ≤ (t : Int) := by omega
      have f4 : (f : Int) < 64 := by omega
      have t4 : (t : Int) < 64 := by omega
      have E1 : Hid (Eb (wr.alloc (.cells #[.int .i64 (f : Int), .int .i64 (t : Int), .int .i64 l] 34)) wr.heap.size f t l) := hide ⟨by simp [go_sem], by simp [go_sem], by simp [go_sem]⟩
      have KB := hide ((Keep.refl wr).alloc (.cells #[.int .i64 (f : Int), .int .i64 (t : Int), .int .i64 l] 34))
      have lq := hide (unhide GW).lt
      go_upto_region 5 with fail
      generalize wr.alloc (.cells #[.int .i64 (f : Int), .int .i64 (t : Int), .int .i64 l] 34) = w1 at E1 KB ⊢
      obtain ⟨c, hc⟩ : ∃ c, wr.heap.size = c := ⟨_, rfl⟩
      rw [hc] at E1 lq ⊢
      clear hc
      have K1 := hide ((unhide KW).trans (unhide KB))
      have G1 := hide ((unhide GW).keep (unhide KB))
      have CK : Hid (∀ w', Keep w1 w' → w'.cell? ⟨c, 0, none⟩ = some (.int .i64 (f : Int)) ∧ w'.cell? ⟨c, 1, none⟩ = some (.int .i64 (t : Int)) ∧ w'.cell? ⟨c, 2, none⟩ = some (.int .i64 l) ∧ w'.cell? (xa.add f) = some (.int .i64 y) ∧ w'.cell? (xa.add t) = some (.int .i64 z)) := hide (fun w' hk => ⟨kc hk (unhide E1).1, kc hk (unhide E1).2.1, kc hk (unhide E1).2.2, kc hk (kc (unhide KB) (unhide cf)), kc hk (kc (unhide KB) (unhide ct))⟩)
      clear cf ct
      by_cases hcmp : y + l = z
      · have hdec : decide (y + l = z) = true := decide_eq_true hcmp
        have hb : (y + l == z) = true := by simpa using hcmp
        have HXn := hide ((unhide HXk).trans ((unhide HY) (by rw [unhide HT]; exact hdec)))
        clear HN HY HT hcmp
        refine wp_region_held_drew (S := (fun w' => w'.cell? ⟨c, 0, none⟩ = some (.int .i64 (f : Int)) ∧ w'.cell? ⟨c, 1, none⟩ = some (.int .i64 (t : Int)) ∧ w'.cell? ⟨c, 2, none⟩ = some (.int .i64 l) ∧ w'.cell? (xa.add f) = some (.int .i64 y) ∧ w'.cell? (xa.add t) = some (.int .i64 z))) (by kernel_rfl) (by exact unhide CK _ (by repeat (first | apply Keep.drew | exact Keep.refl _))) (fun hHeld => ?_)
        refine wpAnyH_take (i := 0) (v := ?_) rfl (by kernel_rfl) (by kernel_rfl) (by kernel_rfl) (fun _ _ _ h => h) (Or.inl ⟨by rfl, ?_⟩) hHeld ?_
        rotate_left
        · intro w hSw
          try dsimp only at hSw
          go_simp
          try with_reducible rfl
        show wpAnyH _ _ _ _ _ _ _ (Act.put _ (some 14) _) _
        try simp only [Act.put, List.setIfInBounds_toArray, List.set_cons_zero, List.set_cons_succ]
        refine wpAnyH_take (i := 1) (v := ?_) rfl (by kernel_rfl) (by kernel_rfl) (by kernel_rfl) (fun _ _ _ h => h) (Or.inl ⟨by rfl, ?_⟩) hHeld ?_
        rotate_left
        · intro w hSw
          try dsimp only at hSw
          go_simp
          try with_reducible rfl
        show wpAnyH _ _ _ _ _ _ _ (Act.put _ (some 15) _) _
        try simp only [Act.put, List.setIfInBounds_toArray, List.set_cons_zero, List.set_cons_succ]
        refine wpAnyH_take (i := 2) (v := ?_) rfl (by kernel_rfl) (by kernel_rfl) (by kernel_rfl) (fun _ _ _ h => h) (Or.inl ⟨by rfl, ?_⟩) hHeld ?_
        rotate_left
        · intro w hSw
          try dsimp only at hSw
          go_simp
          try with_reducible rfl
        show wpAnyH _ _ _ _ _ _ _ (Act.put _ (some 16) _) _
        try simp only [Act.put, List.setIfInBounds_toArray, List.set_cons_zero, List.set_cons_succ]
        refine wpAnyH_take (i := 3) (v := ?_) rfl (by kernel_rfl) (by kernel_rfl) (by kernel_rfl) (fun _ _ _ h => h) (Or.inl ⟨by rfl, ?_⟩) hHeld ?_
        rotate_left
        · intro w hSw
          try dsimp only at hSw
          go_simp
          try with_reducible rfl
        show wpAnyH _ _ _ _ _ _ _ (Act.put _ (some 17) _) _
        try simp only [Act.put, List.setIfInBounds_toArray, List.set_cons_zero, List.set_cons_succ]
        refine wpAnyH_take (i := 4) (v := ?_) rfl (by kernel_rfl) (by kernel_rfl) (by kernel_rfl) (fun _ _ _ h => h) (Or.inl ⟨by rfl, ?_⟩) hHeld ?_
        rotate_left
        · intro w hSw
          try dsimp only at hSw
          go_simp
          try with_reducible rfl
        show wpAnyH _ _ _ _ _ _ _ (Act.put _ (some 18) _) _
        try simp only [Act.put, List.setIfInBounds_toArray, List.set_cons_zero, List.set_cons_succ]
        refine wpAnyH_take (i := 5) (v := ?_) rfl (by kernel_rfl) (by kernel_rfl) (by kernel_rfl) (fun _ _ _ h => h) (Or.inl ⟨by rfl, ?_⟩) hHeld ?_
        rotate_left
        · intro w hSw
          try dsimp only at hSw
          go_simp
          try with_reducible rfl
        show wpAnyH _ _ _ _ _ _ _ (Act.put _ (some 19) _) _
        try simp only [Act.put, List.setIfInBounds_toArray, List.set_cons_zero, List.set_cons_succ]
        refine wpAnyH_take (i := 6) (v := ?_) rfl (by kernel_rfl) (by kernel_rfl) (by kernel_rfl) (fun _ _ _ h => h) (Or.inl ⟨by rfl, ?_⟩) hHeld ?_
        rotate_left
        · intro w hSw
          try dsimp only at hSw
          go_simp
          try with_reducible rfl
        show wpAnyH _ _ _ _ _ _ _ (Act.put _ (some 20) _) _
        try simp only [Act.put, List.setIfInBounds_toArray, List.set_cons_zero, List.set_cons_succ]
        refine wpAnyH_take (i := 7) (v := ?_) rfl (by kernel_rfl) (by kernel_rfl) (by kernel_rfl) (fun _ _ _ h => h) (Or.inl ⟨by rfl, ?_⟩) hHeld ?_
        rotate_left
        · intro w hSw
          try dsimp only at hSw
          go_simp
          try with_reducible rfl
        show wpAnyH _ _ _ _ _ _ _ (Act.put _ (some 21) _) _
        try simp only [Act.put, List.setIfInBounds_toArray, List.set_cons_zero, List.set_cons_succ]
        refine wpAnyH_take (i := 8) (v := ?_) rfl (by kernel_rfl) (by kernel_rfl) (by kernel_rfl) (fun _ _ _ h => h) (Or.inl ⟨by rfl, ?_⟩) hHeld ?_
        rotate_left
        · intro w hSw
          try dsimp only at hSw
          go_simp
          try with_reducible rfl
        show wpAnyH _ _ _ _ _ _ _ (Act.put _ (some 22) _) _
        try simp only [Act.put, List.setIfInBounds_toArray, List.set_cons_zero, List.set_cons_succ]
        refine wpAnyH_take (i := 9) (v := ?_) rfl (by kernel_rfl) (by kernel_rfl) (by kernel_rfl) (fun _ _ _ h => h) (Or.inl ⟨by rfl, ?_⟩) hHeld ?_
        rotate_left
        · intro w hSw
          try dsimp only at hSw
          go_simp
          try with_reducible rfl
        show wpAnyH _ _ _ _ _ _ _ (Act.put _ (some 23) _) _
        try simp only [Act.put, List.setIfInBounds_toArray, List.set_cons_zero, List.set_cons_succ]
        refine wpAnyH_take (i := 10) (v := ?_) rfl (by kernel_rfl) (by kernel_rfl) (by kernel_rfl) (fun _ _ _ h => h) (Or.inl ⟨by rfl, ?_⟩) hHeld ?_
        rotate_left
        · intro w hSw
          try dsimp only at hSw
          go_simp
          try with_reducible rfl
        show wpAnyH _ _ _ _ _ _ _ (Act.put _ (some 24) _) _
        try simp only [Act.put, List.setIfInBounds_toArray, List.set_cons_zero, List.set_cons_succ]
        refine wpAnyH_take (i := 11) (v := ?_) rfl (by kernel_rfl) (by kernel_rfl) (by kernel_rfl) (fun _ _ _ h => h) (Or.inl ⟨by rfl, ?_⟩) hHeld ?_
        rotate_left
        · intro w hSw
          try dsimp only at hSw
          go_simp
          try with_reducible rfl
        show wpAnyH _ _ _ _ _ _ _ (Act.put _ (some 25) _) _
        try simp only [Act.put, List.setIfInBounds_toArray, List.set_cons_zero, List.set_cons_succ]
        refine wpAnyH_take (i := 12) (v := ?_) rfl (by kernel_rfl) (by kernel_rfl) (by kernel_rfl) (fun _ _ _ h => h) (Or.inl ⟨by rfl, ?_⟩) hHeld ?_
        rotate_left
        · intro w hSw
          try dsimp only at hSw
          go_simp
          try with_reducible rfl
        show wpAnyH _ _ _ _ _ _ _ (Act.put _ (some 26) _) _
        try simp only [Act.put, List.setIfInBounds_toArray, List.set_cons_zero, List.set_cons_succ]
        refine wpAnyH_take (i := 13) (v := ?_) rfl (by kernel_rfl) (by kernel_rfl) (by kernel_rfl) (fun _ _ _ h => h) (Or.inl ⟨by rfl, ?_⟩) hHeld ?_
        rotate_left
        · intro w hSw
          try dsimp only at hSw
          go_simp
          try with_reducible rfl
        show wpAnyH _ _ _ _ _ _ _ (Act.put _ (some 27) _) _
        try simp only [Act.put, List.setIfInBounds_toArray, List.set_cons_zero, List.set_cons_succ]
        refine wpAnyH_done (by kernel_rfl) ?_ _
        clear hHeld
        have hcq : Hid (c ≠ q) := hide (by have := unhide lq; omega)
        have hXl := hide ((unhide HXi) k)
        obtain ⟨v0, hv0⟩ : ∃ v0, (X k).getD f 0 = v0 := ⟨_, rfl⟩
        have hv64 : v0 < 18446744073709551616 := by rw [← hv0]; exact (unhide hXl).2 f
        have hvc : Hid (w1.cell? ⟨q, f, none⟩ = some (.int .u64 (v0 : Int))) := hide (by rw [← hv0]; exact (unhide G1).cell (by have := (unhide hXl).1; omega))
        rw [hv0] at HXn
        have HV := hide hv0
        clear hv0
        go_upto_region 6 with fail
        refine wp_region_held_drew (S := (fun w' => w'.cell? ⟨c, 0, none⟩ = some (.int .i64 (f : Int)) ∧ w'.cell? ⟨c, 1, none⟩ = some (.int .i64 (t : Int)))) (by kernel_rfl) (by exact ⟨(unhide CK _ (by repeat (first | apply Keep.drew | exact Keep.refl _))).1, (unhide CK _ (by repeat (first | apply Keep.drew | exact Keep.refl _))).2.1⟩) (fun hHeld => ?_)
        refine wpAnyH_take (i := 0) (v := ?_) rfl (by kernel_rfl) (by kernel_rfl) (by kernel_rfl) (fun _ _ _ h => h) (Or.inl ⟨by rfl, ?_⟩) hHeld ?_
        rotate_left
        · intro w hSw
          try dsimp only at hSw
          go_simp
          try with_reducible rfl
        show wpAnyH _ _ _ _ _ _ _ (Act.put _ (some 28) _) _
        try simp only [Act.put, List.setIfInBounds_toArray, List.set_cons_zero, List.set_cons_succ]
        refine wpAnyH_take (i := 1) (v := ?_) rfl (by kernel_rfl) (by kernel_rfl) (by kernel_rfl) (fun _ _ _ h => h) (Or.inl ⟨by rfl, ?_⟩) hHeld ?_
        rotate_left
        · intro w hSw
          try dsimp only at hSw
          go_simp
          try with_reducible rfl
        show wpAnyH _ _ _ _ _ _ _ (Act.put _ (some 29) _) _
        try simp only [Act.put, List.setIfInBounds_toArray, List.set_cons_zero, List.set_cons_succ]
        refine wpAnyH_take (i := 2) (v := ?_) rfl (by kernel_rfl) (by kernel_rfl) (by kernel_rfl) (fun _ _ _ h => h) (Or.inl ⟨by rfl, ?_⟩) hHeld ?_
        rotate_left
        · intro w hSw
          try dsimp only at hSw
          go_simp
          try with_reducible rfl
        show wpAnyH _ _ _ _ _ _ _ (Act.put _ (some 30) _) _
        try simp only [Act.put, List.setIfInBounds_toArray, List.set_cons_zero, List.set_cons_succ]
        refine wpAnyH_take (i := 3) (v := ?_) rfl (by kernel_rfl) (by kernel_rfl) (by kernel_rfl) (fun _ _ _ h => h) (Or.inl ⟨by rfl, ?_⟩) hHeld ?_
        rotate_left
        · intro w hSw
          try dsimp only at hSw
          go_simp
          try with_reducible rfl
        show wpAnyH _ _ _ _ _ _ _ (Act.put _ (some 31) _) _
        try simp only [Act.put, List.setIfInBounds_toArray, List.set_cons_zero, List.set_cons_succ]
        refine wpAnyH_take (i := 4) (v := ?_) rfl (by kernel_rfl) (by kernel_rfl) (by kernel_rfl) (fun _ _ _ h => h) (Or.inl ⟨by rfl, ?_⟩) hHeld ?_
        rotate_left
        · intro w hSw
          try dsimp only at hSw
          go_simp
          try with_reducible rfl
        show wpAnyH _ _ _ _ _ _ _ (Act.put _ (some 32) _) _
        try simp only [Act.put, List.setIfInBounds_toArray, List.set_cons_zero, List.set_cons_succ]
        refine wpAnyH_take (i := 5) (v := ?_) rfl (by kernel_rfl) (by kernel_rfl) (by kernel_rfl) (fun _ _ _ h => h) (Or.inl ⟨by rfl, ?_⟩) hHeld ?_
        rotate_left
        · intro w hSw
          try dsimp only at hSw
          go_simp
          try with_reducible rfl
        show wpAnyH _ _ _ _ _ _ _ (Act.put _ (some 33) _) _
        try simp only [Act.put, List.setIfInBounds_toArray, List.set_cons_zero, List.set_cons_succ]
        refine wpAnyH_ready (rs := [6]) (by kernel_rfl) (by simp) ?_
        refine AllReadyH.cons rfl (fun K hK => ?_) AllReadyH.nil
        go_simp
        clear hHeld
        (refine (put_any q f v0 t _ (by exact unhide hvc) (by exact (unhide G1).fz f) hv64 (by omega)).mono ?_; rintro e w9 ⟨⟨u9, rfl⟩, rfl⟩)
        try go_wp2_with fail
        refine hK.out _ _ ?_ (fun hHeld => ?_)
        · exact ⟨cell_other (unhide E1).1 (unhide hcq), cell_other (unhide E1).2.1 (unhide hcq)⟩
        clear hK K
        try simp only [Act.put, List.setIfInBounds_toArray, List.set_cons_zero, List.set_cons_succ]
        refine wpAnyH_done (by kernel_rfl) ?_ _
        clear hHeld
        have E2 : Hid (Eb (w1.setCell ⟨q, f, none⟩ (.int .u64 ((v0 ||| 2 ^ t : Nat) : Int))) c f t l) := hide ((unhide E1).other (unhide hcq))
        have G2 : Hid (Gb (w1.setCell ⟨q, f, none⟩ (.int .u64 ((v0 ||| 2 ^ t : Nat) : Int))) q ((X k).set f (v0 ||| 2 ^ t))) := hide ((unhide G1).set _)
        have K2 : Hid (Keep w (w1.setCell ⟨q, f, none⟩ (.int .u64 ((v0 ||| 2 ^ t : Nat) : Int)))) := hide (keep_st (unhide K1) (by rw [unhide HQ]; exact Nat.le_refl _) _)
        have hYl : Hid (((X k).set f (v0 ||| 2 ^ t)).length = 128 ∧ ((X k).set f (v0 ||| 2 ^ t)).getD (64 + t) 0 < 18446744073709551616) := hide ⟨by rw [List.length_set]; exact (unhide hXl).1, by rw [getD_set (by have := (unhide hXl).1; omega), if_neg (by omega)]; exact (unhide hXl).2 _⟩
        go_upto_region 7 with fail
        generalize w1.setCell ⟨q, f, none⟩ (.int .u64 ((v0 ||| 2 ^ t : Nat) : Int)) = w3 at E2 G2 K2 ⊢
        generalize (X k).set f (v0 ||| 2 ^ t) = Y at G2 hYl HXn
        obtain ⟨u0, hu0⟩ : ∃ u0, Y.getD (64 + t) 0 = u0 := ⟨_, rfl⟩
        have hu64 : u0 < 18446744073709551616 := by rw [← hu0]; exact (unhide hYl).2
        have huc : Hid (w3.cell? ⟨q, 64 + t, none⟩ = some (.int .u64 (u0 : Int))) := hide (by rw [← hu0]; exact (unhide G2).cell (by rw [(unhide hYl).1]; omega))
        rw [hu0] at HXn
        clear hXl hu0 hYl
        refine wp_region_held_drew (S := (fun w' => w'.cell? ⟨c, 0, none⟩ = some (.int .i64 (f : Int)) ∧ w'.cell? ⟨c, 1, none⟩ = some (.int .i64 (t : Int)))) (by kernel_rfl) (by exact ⟨(unhide E2).1, (unhide E2).2.1⟩) (fun hHeld => ?_)
        refine wpAnyH_take (i := 0) (v := ?_) rfl (by kernel_rfl) (by kernel_rfl) (by kernel_rfl) (fun _ _ _ h => h) (Or.inl ⟨by rfl, ?_⟩) hHeld ?_
        rotate_left
        · intro w hSw
          try dsimp only at hSw
          go_simp
          try with_reducible rfl
        show wpAnyH _ _ _ _ _ _ _ (Act.put _ (some 35) _) _
        try simp only [Act.put, List.setIfInBounds_toArray, List.set_cons_zero, List.set_cons_succ]
        refine wpAnyH_take (i := 1) (v := ?_) rfl (by kernel_rfl) (by kernel_rfl) (by kernel_rfl) (fun _ _ _ h => h) (Or.inl ⟨by rfl, ?_⟩) hHeld ?_
        rotate_left
        · intro w hSw
          try dsimp only at hSw
          go_simp
          try with_reducible rfl
        show wpAnyH _ _ _ _ _ _ _ (Act.put _ (some 36) _) _
        try simp only [Act.put, List.setIfInBounds_toArray, List.set_cons_zero, List.set_cons_succ]
        refine wpAnyH_take (i := 2) (v := ?_) rfl (by kernel_rfl) (by kernel_rfl) (by kernel_rfl) (fun _ _ _ h => h) (Or.inl ⟨by rfl, ?_⟩) hHeld ?_
        rotate_left
        · intro w hSw
          try dsimp only at hSw
          go_simp
          try with_reducible rfl
        show wpAnyH _ _ _ _ _ _ _ (Act.put _ (some 37) _) _
        try simp only [Act.put, List.setIfInBounds_toArray, List.set_cons_zero, List.set_cons_succ]
        refine wpAnyH_take (i := 3) (v := ?_) rfl (by kernel_rfl) (by kernel_rfl) (by kernel_rfl) (fun _ _ _ h => h) (Or.inl ⟨by rfl, ?_⟩) hHeld ?_
        rotate_left
        · intro w hSw
          try dsimp only at hSw
          go_simp
          try with_reducible rfl
        show wpAnyH _ _ _ _ _ _ _ (Act.put _ (some 38) _) _
        try simp only [Act.put, List.setIfInBounds_toArray, List.set_cons_zero, List.set_cons_succ]
        refine wpAnyH_take (i := 4) (v := ?_) rfl (by kernel_rfl) (by kernel_rfl) (by kernel_rfl) (fun _ _ _ h => h) (Or.inl ⟨by rfl, ?_⟩) hHeld ?_
        rotate_left
        · intro w hSw
          try dsimp only at hSw
          go_simp
          try with_reducible rfl
        show wpAnyH _ _ _ _ _ _ _ (Act.put _ (some 39) _) _
        try simp only [Act.put, List.setIfInBounds_toArray, List.set_cons_zero, List.set_cons_succ]
        refine wpAnyH_take (i := 5) (v := ?_) rfl (by kernel_rfl) (by kernel_rfl) (by kernel_rfl) (fun _ _ _ h => h) (Or.inl ⟨by rfl, ?_⟩) hHeld ?_
        rotate_left
        · intro w hSw
          try dsimp only at hSw
          go_simp
          try with_reducible rfl
        show wpAnyH _ _ _ _ _ _ _ (Act.put _ (some 40) _) _
        try simp only [Act.put, List.setIfInBounds_toArray, List.set_cons_zero, List.set_cons_succ]
        refine wpAnyH_ready (rs := [6]) (by kernel_rfl) (by simp) ?_
        refine AllReadyH.cons rfl (fun K hK => ?_) AllReadyH.nil
        go_simp
        clear hHeld
        (refine (put_any q (64 + t) u0 f _ (by exact unhide huc) (by exact (unhide G2).fz (64 + t)) hu64 (by omega)).mono ?_; rintro e w9 ⟨⟨u9, rfl⟩, rfl⟩)
        try go_wp2_with fail
        refine hK.out _ _ ?_ (fun hHeld => ?_)
        · exact ⟨cell_other (unhide E2).1 (unhide hcq), cell_other (unhide E2).2.1 (unhide hcq)⟩
        clear hK K
        try simp only [Act.put, List.setIfInBounds_toArray, List.set_cons_zero, List.set_cons_succ]
        refine wpAnyH_done (by kernel_rfl) ?_ _
        clear hHeld
        go_wp2_with fail
        go_roundw
        case rel => exact ⟨k + 1, by go_num, by omega, hide (by repeat (first | apply Keep.drew | exact keep_st (unhide K2) (by rw [unhide HQ]; exact Nat.le_refl _) _)), hide (by rw [unhide HXn]; exact (unhide G2).set _)⟩
        case measure => simp [intOf]; omega
      · have hdec : decide (y + l = z) = false := decide_eq_false hcmp
        have hb : (y + l == z) = false := by simpa using hcmp
        have HXn := hide ((unhide HXk).trans ((unhide HN) (by rw [unhide HT]; exact hdec)))
        clear HN HY HT hcmp
        refine wp_region_held_drew (S := (fun w' => w'.cell? ⟨c, 0, none⟩ = some (.int .i64 (f : Int)) ∧ w'.cell? ⟨c, 1, none⟩ = some (.int .i64 (t : Int)) ∧ w'.cell? ⟨c, 2, none⟩ = some (.int .i64 l) ∧ w'.cell? (xa.add f) = some (.int .i64 y) ∧ w'.cell? (xa.add t) = some (.int .i64 z))) (by kernel_rfl) (by exact unhide CK _ (by repeat (first | apply Keep.drew | exact Keep.refl _))) (fun hHeld => ?_)
        refine wpAnyH_take (i := 0) (v := ?_) rfl (by kernel_rfl) (by kernel_rfl) (by kernel_rfl) (fun _ _ _ h => h) (Or.inl ⟨by rfl, ?_⟩) hHeld ?_
        rotate_left
        · intro w hSw
          try dsimp only at hSw
          go_simp
          try with_reducible rfl
        show wpAnyH _ _ _ _ _ _ _ (Act.put _ (some 14) _) _
        try simp only [Act.put, List.setIfInBounds_toArray, List.set_cons_zero, List.set_cons_succ]
        refine wpAnyH_take (i := 1) (v := ?_) rfl (by kernel_rfl) (by kernel_rfl) (by kernel_rfl) (fun _ _ _ h => h) (Or.inl ⟨by rfl, ?_⟩) hHeld ?_
        rotate_left
        · intro w hSw
          try dsimp only at hSw
          go_simp
          try with_reducible rfl
        show wpAnyH _ _ _ _ _ _ _ (Act.put _ (some 15) _) _
        try simp only [Act.put, List.setIfInBounds_toArray, List.set_cons_zero, List.set_cons_succ]
        refine wpAnyH_take (i := 2) (v := ?_) rfl (by kernel_rfl) (by kernel_rfl) (by kernel_rfl) (fun _ _ _ h => h) (Or.inl ⟨by rfl, ?_⟩) hHeld ?_
        rotate_left
        · intro w hSw
          try dsimp only at hSw
          go_simp
          try with_reducible rfl
        show wpAnyH _ _ _ _ _ _ _ (Act.put _ (some 16) _) _
        try simp only [Act.put, List.setIfInBounds_toArray, List.set_cons_zero, List.set_cons_succ]
        refine wpAnyH_take (i := 3) (v := ?_) rfl (by kernel_rfl) (by kernel_rfl) (by kernel_rfl) (fun _ _ _ h => h) (Or.inl ⟨by rfl, ?_⟩) hHeld ?_
        rotate_left
        · intro w hSw
          try dsimp only at hSw
          go_simp
          try with_reducible rfl
        show wpAnyH _ _ _ _ _ _ _ (Act.put _ (some 17) _) _
        try simp only [Act.put, List.setIfInBounds_toArray, List.set_cons_zero, List.set_cons_succ]
        refine wpAnyH_take (i := 4) (v := ?_) rfl (by kernel_rfl) (by kernel_rfl) (by kernel_rfl) (fun _ _ _ h => h) (Or.inl ⟨by rfl, ?_⟩) hHeld ?_
        rotate_left
        · intro w hSw
          try dsimp only at hSw
          go_simp
          try with_reducible rfl
        show wpAnyH _ _ _ _ _ _ _ (Act.put _ (some 18) _) _
        try simp only [Act.put, List.setIfInBounds_toArray, List.set_cons_zero, List.set_cons_succ]
        refine wpAnyH_take (i := 5) (v := ?_) rfl (by kernel_rfl) (by kernel_rfl) (by kernel_rfl) (fun _ _ _ h => h) (Or.inl ⟨by rfl, ?_⟩) hHeld ?_
        rotate_left
        · intro w hSw
          try dsimp only at hSw
          go_simp
          try with_reducible rfl
        show wpAnyH _ _ _ _ _ _ _ (Act.put _ (some 19) _) _
        try simp only [Act.put, List.setIfInBounds_toArray, List.set_cons_zero, List.set_cons_succ]
        refine wpAnyH_take (i := 6) (v := ?_) rfl (by kernel_rfl) (by kernel_rfl) (by kernel_rfl) (fun _ _ _ h => h) (Or.inl ⟨by rfl, ?_⟩) hHeld ?_
        rotate_left
        · intro w hSw
          try dsimp only at hSw
          go_simp
          try with_reducible rfl
        show wpAnyH _ _ _ _ _ _ _ (Act.put _ (some 20) _) _
        try simp only [Act.put, List.setIfInBounds_toArray, List.set_cons_zero, List.set_cons_succ]
        refine wpAnyH_take (i := 7) (v := ?_) rfl (by kernel_rfl) (by kernel_rfl) (by kernel_rfl) (fun _ _ _ h => h) (Or.inl ⟨by rfl, ?_⟩) hHeld ?_
        rotate_left
        · intro w hSw
          try dsimp only at hSw
          go_simp
          try with_reducible rfl
        show wpAnyH _ _ _ _ _ _ _ (Act.put _ (some 21) _) _
        try simp only [Act.put, List.setIfInBounds_toArray, List.set_cons_zero, List.set_cons_succ]
        refine wpAnyH_take (i := 8) (v := ?_) rfl (by kernel_rfl) (by kernel_rfl) (by kernel_rfl) (fun _ _ _ h => h) (Or.inl ⟨by rfl, ?_⟩) hHeld ?_
        rotate_left
        · intro w hSw
          try dsimp only at hSw
          go_simp
          try with_reducible rfl
        show wpAnyH _ _ _ _ _ _ _ (Act.put _ (some 22) _) _
        try simp only [Act.put, List.setIfInBounds_toArray, List.set_cons_zero, List.set_cons_succ]
        refine wpAnyH_take (i := 9) (v := ?_) rfl (by kernel_rfl) (by kernel_rfl) (by kernel_rfl) (fun _ _ _ h => h) (Or.inl ⟨by rfl, ?_⟩) hHeld ?_
        rotate_left
        · intro w hSw
          try dsimp only at hSw
          go_simp
          try with_reducible rfl
        show wpAnyH _ _ _ _ _ _ _ (Act.put _ (some 23) _) _
        try simp only [Act.put, List.setIfInBounds_toArray, List.set_cons_zero, List.set_cons_succ]
        refine wpAnyH_take (i := 10) (v := ?_) rfl (by kernel_rfl) (by kernel_rfl) (by kernel_rfl) (fun _ _ _ h => h) (Or.inl ⟨by rfl, ?_⟩) hHeld ?_
        rotate_left
        · intro w hSw
          try dsimp only at hSw
          go_simp
          try with_reducible rfl
        show wpAnyH _ _ _ _ _ _ _ (Act.put _ (some 24) _) _
        try simp only [Act.put, List.setIfInBounds_toArray, List.set_cons_zero, List.set_cons_succ]
        refine wpAnyH_take (i := 11) (v := ?_) rfl (by kernel_rfl) (by kernel_rfl) (by kernel_rfl) (fun _ _ _ h => h) (Or.inl ⟨by rfl, ?_⟩) hHeld ?_
        rotate_left
        · intro w hSw
          try dsimp only at hSw
          go_simp
          try with_reducible rfl
        show wpAnyH _ _ _ _ _ _ _ (Act.put _ (some 25) _) _
        try simp only [Act.put, List.setIfInBounds_toArray, List.set_cons_zero, List.set_cons_succ]
        refine wpAnyH_take (i := 12) (v := ?_) rfl (by kernel_rfl) (by kernel_rfl) (by kernel_rfl) (fun _ _ _ h => h) (Or.inl ⟨by rfl, ?_⟩) hHeld ?_
        rotate_left
        · intro w hSw
          try dsimp only at hSw
          go_simp
          try with_reducible rfl
        show wpAnyH _ _ _ _ _ _ _ (Act.put _ (some 26) _) _
        try simp only [Act.put, List.setIfInBounds_toArray, List.set_cons_zero, List.set_cons_succ]
        refine wpAnyH_take (i := 13) (v := ?_) rfl (by kernel_rfl) (by kernel_rfl) (by kernel_rfl) (fun _ _ _ h => h) (Or.inl ⟨by rfl, ?_⟩) hHeld ?_
        rotate_left
        · intro w hSw
          try dsimp only at hSw
          go_simp
          try with_reducible rfl
        show wpAnyH _ _ _ _ _ _ _ (Act.put _ (some 27) _) _
        try simp only [Act.put, List.setIfInBounds_toArray, List.set_cons_zero, List.set_cons_succ]
        refine wpAnyH_done (by kernel_rfl) ?_ _
        clear hHeld
        go_wp2_with fail
        go_roundw
        case rel => exact ⟨k + 1, by go_num, by omega, hide (by have := unhide K1; repeat (first | exact this | apply Keep.drew)), hide (by rw [unhide HXn]; exact (unhide G1).keep (by repeat (first | apply Keep.drew | exact Keep.refl _)))⟩
        case measure => simp [intOf]; omega
    · have li : ¬ (k : Int) < (m : Int) := by omega
      obtain rfl : k = m := by omega
      go_wp2_with fail
      go_ret
      exact ⟨by rw [unhide HQ]; rfl, unhide KW, by rw [unhide HQ]; exact unhide GW⟩
end Pa
end Go.Proofs.YtfofkkjldngkaaaDoor
