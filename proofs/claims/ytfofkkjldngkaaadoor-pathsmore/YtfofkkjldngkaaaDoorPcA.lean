/- Package paths: from where a point can be come to. -/
import Derived.Test.YtfofkkjldngkaaaDoorPaZ
namespace Go.Proofs.YtfofkkjldngkaaaDoor
open Go.RowKit
attribute [local go_sem ↓] Go.wp_at_zero Go.wp_at_succ
set_option linter.unusedVariables false
set_option linter.unusedSimpArgs false
set_option maxRecDepth 10000
namespace Pa
/-- a box with a set -/
def Ub (w : World) (b x : Nat) : Prop := w.heap[b]? = some (.cells #[.int .u64 (x : Int)] 39 (0, 0))
theorem Ub.lt {w : World} {b x : Nat} (h : Ub w b x) : b < w.heap.size := (Array.getElem?_eq_some_iff.1 h).1
theorem Ub.keep {w w' : World} {b x : Nat} (h : Ub w b x) (k : Keep w w') : Ub w' b x := (k.block b h.lt).trans h
theorem Ub.c0 {w : World} {b x : Nat} (h : Ub w b x) : w.cell? ⟨b, 0, none⟩ = some (.int .u64 (x : Int)) := by
  unfold Ub at h; simp [World.cell?, h]
theorem Ub.fz {w : World} {b x : Nat} (h : Ub w b x) : w.frozen? ⟨b, 0, none⟩ = false := by
  unfold Ub at h; simp [World.frozen?, h]
theorem Ub.set {w : World} {b x : Nat} (h : Ub w b x) (y : Nat) : Ub (w.setCell ⟨b, 0, none⟩ (.int .u64 (y : Int))) b y := by
  unfold Ub
  rw [heap_setCell_same w b 0 _ _ _ h]; rfl
theorem Ub.other {w : World} {b x g i : Nat} {v : Value} (h : Ub w b x) (hb : b ≠ g) : Ub (w.setCell ⟨g, i, none⟩ v) b x := by
  unfold Ub
  rw [heap_setCell_other w _ b v hb]
  exact h
def rdn (w : World) (b : Nat) : Nat := match w.cell? ⟨b, 0, none⟩ with
  | some (.int _ x) => x.toNat
  | _ => 0
theorem Ub.rd {w : World} {b x : Nat} (h : Ub w b x) : rdn w b = x := by unfold rdn; rw [h.c0]; simp
theorem lw_congr {a b c d : Nat} (h1 : a = c) (h2 : b = d) : lw a b = lw c d := by rw [h1, h2]
/-- a set less another one -/
def dif (x y : Nat) : Nat := x &&& (18446744073709551615 - y)
theorem bt_dif {x y : Nat} (hx : x < 18446744073709551616) (hy : y < 18446744073709551616) (q : Nat) : bt (dif x y) q = (bt x q && !bt y q) := by
  unfold dif bt
  rw [Nat.testBit_and, show 18446744073709551615 - y = 2 ^ 64 - (y + 1) by omega, Nat.testBit_two_pow_sub_succ hy]
  by_cases hq : q < 64
  · simp [hq]
  · have : x.testBit q = false := Nat.testBit_lt_two_pow (Nat.lt_of_lt_of_le hx (Nat.pow_le_pow_right (n := 2) (by decide) (show 64 ≤ q by omega)))
    simp [this]
theorem dif_lt {x y : Nat} (hx : x < 18446744073709551616) : dif x y < 18446744073709551616 := Nat.lt_of_le_of_lt Nat.and_le_left hx
theorem or_lt {x y : Nat} (hx : x < 18446744073709551616) (hy : y < 18446744073709551616) : x ||| y < 18446744073709551616 := Nat.or_lt_two_pow (n := 64) hx hy
theorem bt_or (x y q : Nat) : bt (x ||| y) q = (bt x q || bt y q) := by simp [bt]
theorem zero_set (w : World) : (zeroValue 39).run Tryd.prog w = .ok (.int .u64 0) w := by kernel_rfl
def LQ (T : Nat → Nat → Bool) (n G td : Nat) (w : World) (e : Ending) (w' : World) : Prop := ∃ F : Nat, e = .returned (.int .u64 (F : Int)) ∧ F < 18446744073709551616 ∧ (∀ p, bt F p = true ↔ Rch T n G td p) ∧ Keep w w'
set_option maxHeartbeats 4000000 in
theorem leading_any (q td G n : Nat) (M : List Nat) (T : Nat → Nat → Bool) (w : World) (hT : Tab w) (hG : Gb w q M) (hM : Gi T M) (hTl : ∀ u v, T u v = true → u < n ∧ v < n) (hn : n ≤ 64) (hto : td < n) (hg0 : bt G td = false) (hG64 : G < 18446744073709551616) :
    Calls Tryd.prog 23 #[.pointer (some ⟨q, 0, none⟩), .int .i64 (td : Int), .int .u64 (G : Int)] w (LQ T n G td w) := by
  have HP : Hid (∀ F e w', F < 18446744073709551616 → Ld T n G td F 0 → Keep w w' → e = .returned (.int .u64 (F : Int)) → LQ T n G td w e w') := hide (fun F e w' hF hL hk he => ⟨F, he, hF, ld_end hL, hk⟩)
  generalize LQ T n G td w = QQ at HP ⊢
  have HT := hide hT
  have HG := hide hG
  have L0 : Hid (Ld T n G td (0 ||| 2 ^ td) (0 ||| 2 ^ td)) := hide (ld_zero hto hg0)
  have S0 : Hid (0 ||| 2 ^ td < 18446744073709551616) := hide (put_lt (by decide) (by omega))
  have HS : Hid (∀ f l, f < 18446744073709551616 → l < 18446744073709551616 → l ≠ 0 → Ld T n G td f l → Lib.ctz 64 l < 64 ∧ ∃ m0 m : Nat, M.getD (64 + Lib.ctz 64 l) 0 = m0 ∧ m0 < 18446744073709551616 ∧ m < 18446744073709551616 ∧ bits .or .u64 (f : Int) (G : Int) = ((f ||| G : Nat) : Int) ∧ bits .andNot .u64 (m0 : Int) ((f ||| G : Nat) : Int) = (m : Int) ∧ bits .or .u64 (f : Int) (m : Int) = ((f ||| m : Nat) : Int) ∧ bits .or .u64 ((del l (Lib.ctz 64 l) : Nat) : Int) (m : Int) = ((del l (Lib.ctz 64 l) ||| m : Nat) : Int) ∧ f ||| m < 18446744073709551616 ∧ del l (Lib.ctz 64 l) ||| m < 18446744073709551616 ∧ Ld T n G td (f ||| m) (del l (Lib.ctz 64 l) ||| m) ∧ lw (f ||| m) (del l (Lib.ctz 64 l) ||| m) < lw f l) := hide (fun f l hf hl hne hL => by
    obtain ⟨c1, c2, c3⟩ := ctz_least hne hl
    generalize Lib.ctz 64 l = p at c1 c2 c3 ⊢
    have hm0 := hM.lt (64 + p)
    have hfG := or_lt hf hG64
    have hd := del_lt (p := p) hl
    have hm := dif_lt (y := f ||| G) hm0
    have e1 : ∀ u, bt (dif (M.getD (64 + p) 0) (f ||| G)) u = (T u p && !(bt f u || bt G u)) := fun u => by rw [bt_dif hm0 hfG, hM.fr u p c1, bt_or]
    have e2 : ∀ u, bt (f ||| dif (M.getD (64 + p) 0) (f ||| G)) u = (bt f u || bt (dif (M.getD (64 + p) 0) (f ||| G)) u) := fun u => bt_or _ _ u
    have e3 : ∀ u, bt (del l p ||| dif (M.getD (64 + p) 0) (f ||| G)) u = ((bt l u && !decide (p = u)) || bt (dif (M.getD (64 + p) 0) (f ||| G)) u) := fun u => by rw [bt_or, bt_del hl c1]
    exact ⟨c1, _, _, rfl, hm0, hm, bits_or_u64_nat f G hf hG64, u64_andNot_nat _ _ hm0 hfG, bits_or_u64_nat f _ hf hm, bits_or_u64_nat _ _ hd hm, or_lt hf hm, or_lt hd hm, ld_step hL c2 (fun u v h => (hTl u v h).1) e1 e2 e3, lw_lt hL c2 c1 e1 e2 e3⟩)
  have HML := hide hM.len
  have to64 : td < 64 := by omega
  clear hT hG hM hTl hg0
  have KA := hide (((Keep.refl w).alloc (.cells #[.int .u64 0] 39)).alloc (.cells #[.int .u64 0] 39))
  have U7 : Hid (Ub ((w.alloc (.cells #[.int .u64 0] 39)).alloc (.cells #[.int .u64 0] 39)) w.heap.size 0) := hide (Ub.keep (w := w.alloc (.cells #[.int .u64 0] 39)) (heap_alloc_new w _) ((Keep.refl _).alloc _))
  have U8 : Hid (Ub ((w.alloc (.cells #[.int .u64 0] 39)).alloc (.cells #[.int .u64 0] 39)) (w.heap.size + 1) 0) := hide (by have := heap_alloc_new (w.alloc (.cells #[.int .u64 0] 39)) (.cells #[.int .u64 0] 39); rw [World.size_alloc] at this; exact this)
  go_enter Tryd.func23, Tryd.ntmps23
  go_upto_region 2 with fail
  try simp only [World.size_alloc]
  generalize (w.alloc (.cells #[.int .u64 0] 39)).alloc (.cells #[.int .u64 0] 39) = w2 at KA U7 U8 ⊢
  obtain ⟨b7, hb7⟩ : ∃ b7, w.heap.size = b7 := ⟨_, rfl⟩
  obtain ⟨b8, hb8⟩ : ∃ b8, w.heap.size + 1 = b8 := ⟨_, rfl⟩
  have Hb : Hid (w.heap.size ≤ b7 ∧ w.heap.size ≤ b8 ∧ b7 ≠ b8 ∧ q ≠ b7 ∧ q ≠ b8) := hide (by have := (unhide HG).lt; omega)
  rw [hb8] at U8 ⊢
  rw [hb7] at U7 ⊢
  clear hb7 hb8
  have G2 := hide ((unhide HG).keep (unhide KA))
  have T2 := hide ((unhide HT).keep (unhide KA))
  go_wp2_with fail
  (refine (put_any b7 0 0 td _ (by exact (unhide U7).c0) (by exact (unhide U7).fz) (by decide) to64).mono ?_; rintro e w9 ⟨⟨u9, rfl⟩, rfl⟩)
  have V7 : Hid (Ub (w2.setCell ⟨b7, 0, none⟩ (.int .u64 ((0 ||| 2 ^ td : Nat) : Int))).drew b7 (0 ||| 2 ^ td)) := hide ((unhide U7).set _)
  have V8 : Hid (Ub (w2.setCell ⟨b7, 0, none⟩ (.int .u64 ((0 ||| 2 ^ td : Nat) : Int))).drew b8 0) := hide ((unhide U8).other (fun e => (unhide Hb).2.2.1 e.symm))
  have VG : Hid (Gb (w2.setCell ⟨b7, 0, none⟩ (.int .u64 ((0 ||| 2 ^ td : Nat) : Int))).drew q M) := hide ((unhide G2).other (unhide Hb).2.2.2.1)
  have VK : Hid (Keep w (w2.setCell ⟨b7, 0, none⟩ (.int .u64 ((0 ||| 2 ^ td : Nat) : Int))).drew) := hide (keep_st (unhide KA) (unhide Hb).1 _).drew
  generalize (w2.setCell ⟨b7, 0, none⟩ (.int .u64 ((0 ||| 2 ^ td : Nat) : Int))).drew = w3 at V7 V8 VG VK ⊢
  clear U7 U8 G2 T2 KA
  go_wp2_with fail
  (refine (put_any b8 0 0 td _ (by exact (unhide V8).c0) (by exact (unhide V8).fz) (by decide) to64).mono ?_; rintro e w9 ⟨⟨u9, rfl⟩, rfl⟩)
  have W8 : Hid (Ub (w3.setCell ⟨b8, 0, none⟩ (.int .u64 ((0 ||| 2 ^ td : Nat) : Int))).drew b8 (0 ||| 2 ^ td)) := hide ((unhide V8).set _)
  have W7 : Hid (Ub (w3.setCell ⟨b8, 0, none⟩ (.int .u64 ((0 ||| 2 ^ td : Nat) : Int))).drew b7 (0 ||| 2 ^ td)) := hide ((unhide V7).other (unhide Hb).2.2.1)
  have WG : Hid (Gb (w3.setCell ⟨b8, 0, none⟩ (.int .u64 ((0 ||| 2 ^ td : Nat) : Int))).drew q M) := hide ((unhide VG).other (unhide Hb).2.2.2.2)
  have WK : Hid (Keep w (w3.setCell ⟨b8, 0, none⟩ (.int .u64 ((0 ||| 2 ^ td : Nat) : Int))).drew) := hide (keep_st (unhide VK) (unhide Hb).2.1 _).drew
  generalize (w3.setCell ⟨b8, 0, none⟩ (.int .u64 ((0 ||| 2 ^ td : Nat) : Int))).drew = w4 at W7 W8 WG WK ⊢
  generalize 0 ||| 2 ^ td = x0 at L0 S0 W7 W8
  clear V7 V8 VG VK
  have TE := hide (fun x w => empty_any x w)
  go_wp2_with fail
  go_loopw [9] (fun v9 wr => ∃ f l : Nat, Hid (Ub wr b7 f) ∧ Hid (Ub wr b8 l) ∧ Hid (Gb wr q M) ∧ Hid (Keep w wr) ∧ Hid (Ld T n G td f l) ∧ Hid (f < 18446744073709551616) ∧ Hid (l < 18446744073709551616)) (fun _ wr => lw (rdn wr b7) (rdn wr b8))
  case atStart => exact ⟨x0, x0, W7, W8, WG, WK, L0, S0, S0⟩
  case round =>
    clear W7 W8 WG WK L0 S0
    obtain ⟨f, l, UF, UL, GW, KW, LD, HF, HL⟩ := hrel
    have hc8 := (unhide UL).c0
    by_cases hz : l = 0
    · have LD0 := LD
      rw [hz] at LD0
      have TE0 := hide ((unhide TE) l)
      rw [decide_eq_true hz] at TE0
      have hc7 := (unhide UF).c0
      clear hz
      go_wp2_with fail
      (refine ((unhide TE0) _).mono ?_; rintro e w8 ⟨rfl, rfl⟩)
      go_wp2_with fail
      try go_ret
      exact (unhide HP) f _ _ (unhide HF) (unhide LD0) (unhide KW) rfl
    · have TE0 := hide ((unhide TE) l)
      rw [decide_eq_false hz] at TE0
      obtain ⟨p64, m0, m, hm0, hm064, hm64, e1, e2, e3, e4, hf2, hl2, LD2, hlt⟩ := (unhide HS) f l (unhide HF) (unhide HL) hz (unhide LD)
      have TK := hide (take_any b8 0 l wr.drew (unhide UL).c0 (unhide UL).fz hz (unhide HL) ((unhide HT).keep (unhide KW).drew))
      have hms : Hid (lw (rdn wr b7) (rdn wr b8) = lw f l) := hide (by rw [(unhide UF).rd, (unhide UL).rd])
      generalize Lib.ctz 64 l = p at *
      have HLT := hide hlt
      have HF2 := hide hf2
      have HL2 := hide hl2
      have HLD2 := hide LD2
      have hcm : Hid (wr.cell? ⟨q, 64 + p, none⟩ = some (.int .u64 (m0 : Int))) := hide (by rw [← hm0]; exact (unhide GW).cell (by rw [unhide HML]; omega))
      have pi : (p : Int) < 64 := by omega
      have pz : (0 : Int) ≤ (p : Int) := by omega
      generalize del l p = l' at *
      clear hz hm0 hlt hf2 hl2 LD2
      go_wp2_with fail
      (refine ((unhide TE0) _).mono ?_; rintro e w8 ⟨rfl, rfl⟩)
      clear TE0
      go_upto_region 5 with fail
      refine wp_region_held_drew (S := (fun w' => w'.cell? ⟨b7, 0, none⟩ = some (.int .u64 (f : Int)) ∧ w'.cell? ⟨q, 64 + p, none⟩ = some (.int .u64 (m0 : Int)))) (by kernel_rfl) (by exact ⟨(unhide UF).c0, unhide hcm⟩) (fun hHeld => ?_)
      refine wpAnyH_take (i := 0) (v := ?_) rfl (by kernel_rfl) (by kernel_rfl) (by kernel_rfl) (fun _ _ _ h => h) (Or.inl ⟨by rfl, ?_⟩) hHeld ?_
      rotate_left
      · intro w hSw
        try dsimp only at hSw
        go_simp
        try with_reducible rfl
      show wpAnyH _ _ _ _ _ _ _ (Act.put _ (some 17) _) _
      try simp only [Act.put, List.setIfInBounds_toArray, List.set_cons_zero, List.set_cons_succ]
      refine wpAnyH_take (i := 2) (v := ?_) rfl (by kernel_rfl) (by kernel_rfl) (by kernel_rfl) (fun _ _ _ h => h) (Or.inl ⟨by rfl, ?_⟩) hHeld ?_
      rotate_left
      · intro w hSw
        try dsimp only at hSw
        go_simp
        try with_reducible rfl
      show wpAnyH _ _ _ _ _ _ _ (Act.put _ (some 19) _) _
      try simp only [Act.put, List.setIfInBounds_toArray, List.set_cons_zero, List.set_cons_succ]
      refine wpAnyH_take (i := 3) (v := ?_) rfl (by kernel_rfl) (by kernel_rfl) (by kernel_rfl) (fun _ _ _ h => h) (Or.inl ⟨by rfl, ?_⟩) hHeld ?_
      rotate_left
      · intro w hSw
        try dsimp only at hSw
        go_simp
        try with_reducible rfl
      show wpAnyH _ _ _ _ _ _ _ (Act.put _ (some 20) _) _
      try simp only [Act.put, List.setIfInBounds_toArray, List.set_cons_zero, List.set_cons_succ]
      refine wpAnyH_take (i := 6) (v := ?_) rfl (by kernel_rfl) (by kernel_rfl) (by kernel_rfl) (fun _ _ _ h => h) (Or.inl ⟨by rfl, ?_⟩) hHeld ?_
      rotate_left
      · intro w hSw
        try dsimp only at hSw
        go_simp
        try with_reducible rfl
      show wpAnyH _ _ _ _ _ _ _ (Act.put _ (some 23) _) _
      try simp only [Act.put, List.setIfInBounds_toArray, List.set_cons_zero, List.set_cons_succ]
      refine wpAnyH_take (i := 7) (v := ?_) rfl (by kernel_rfl) (by kernel_rfl) (by kernel_rfl) (fun _ _ _ h => h) (Or.inl ⟨by rfl, ?_⟩) hHeld ?_
      rotate_left
      · intro w hSw
        try dsimp only at hSw
        go_simp
        try with_reducible rfl
      show wpAnyH _ _ _ _ _ _ _ (Act.put _ (some 24) _) _
      try simp only [Act.put, List.setIfInBounds_toArray, List.set_cons_zero, List.set_cons_succ]
      refine wpAnyH_take (i := 8) (v := ?_) rfl (by kernel_rfl) (by kernel_rfl) (by kernel_rfl) (fun _ _ _ h => h) (Or.inl ⟨by rfl, ?_⟩) hHeld ?_
      rotate_left
      · intro w hSw
        try dsimp only at hSw
        go_simp
        try with_reducible rfl
      show wpAnyH _ _ _ _ _ _ _ (Act.put _ (some 25) _) _
      try simp only [Act.put, List.setIfInBounds_toArray, List.set_cons_zero, List.set_cons_succ]
      refine wpAnyH_ready (rs := [1]) (by kernel_rfl) (by simp) ?_
      refine AllReadyH.cons rfl (fun K hK => ?_) AllReadyH.nil
      go_simp
      clear hHeld
      (refine (unhide TK).mono ?_; rintro e w9 ⟨rfl, rfl⟩)
      try go_wp2_with fail
      refine hK.out _ _ ?_ (fun hHeld => ?_)
      · exact ⟨cell_other (unhide UF).c0 (unhide Hb).2.2.1, cell_other (unhide hcm) (unhide Hb).2.2.2.2⟩
      clear hK K
      try simp only [Act.put, List.setIfInBounds_toArray, List.set_cons_zero, List.set_cons_succ]
      refine wpAnyH_take (i := 4) (v := ?_) rfl (by kernel_rfl) (by kernel_rfl) (by kernel_rfl) (fun _ _ _ h => h) (Or.inl ⟨by rfl, ?_⟩) hHeld ?_
      rotate_left
      · intro w hSw
        try dsimp only at hSw
        go_simp
        try with_reducible rfl
      show wpAnyH _ _ _ _ _ _ _ (Act.put _ (some 21) _) _
      try simp only [Act.put, List.setIfInBounds_toArray, List.set_cons_zero, List.set_cons_succ]
      refine wpAnyH_take (i := 5) (v := ?_) rfl (by kernel_rfl) (by kernel_rfl) (by kernel_rfl) (fun _ _ _ h => h) (Or.inl ⟨by rfl, ?_⟩) hHeld ?_
      rotate_left
      · intro w hSw
        try dsimp only at hSw
        go_simp
        try with_reducible rfl
      show wpAnyH _ _ _ _ _ _ _ (Act.put _ (some 22) _) _
      try simp only [Act.put, List.setIfInBounds_toArray, List.set_cons_zero, List.set_cons_succ]
      refine wpAnyH_take (i := 9) (v := ?_) rfl (by kernel_rfl) (by kernel_rfl) (by kernel_rfl) (fun _ _ _ h => h) (Or.inl ⟨by rfl, ?_⟩) hHeld ?_
      rotate_left
      · intro w hSw
        try dsimp only at hSw
        go_simp
        try with_reducible rfl
      show wpAnyH _ _ _ _ _ _ _ (Act.put _ (some 26) _) _
      try simp only [Act.put, List.setIfInBounds_toArray, List.set_cons_zero, List.set_cons_succ]
      refine wpAnyH_take (i := 10) (v := ?_) rfl (by kernel_rfl) (by kernel_rfl) (by kernel_rfl) (fun _ _ _ h => h) (Or.inl ⟨by rfl, ?_⟩) hHeld ?_
      rotate_left
      · intro w hSw
        try dsimp only at hSw
        go_simp
        try with_reducible rfl
      show wpAnyH _ _ _ _ _ _ _ (Act.put _ (some 9) _) _
      try simp only [Act.put, List.setIfInBounds_toArray, List.set_cons_zero, List.set_cons_succ]
      refine wpAnyH_done (by kernel_rfl) ?_ _
      clear hHeld
      have X8 : Hid (Ub (w8.setCell ⟨b8, 0, none⟩ (.int .u64 (l' : Int))) b8 l') := hide ((unhide UL).set _)
      have X7 : Hid (Ub (w8.setCell ⟨b8, 0, none⟩ (.int .u64 (l' : Int))) b7 f) := hide ((unhide UF).other (unhide Hb).2.2.1)
      have XG : Hid (Gb (w8.setCell ⟨b8, 0, none⟩ (.int .u64 (l' : Int))) q M) := hide ((unhide GW).other (unhide Hb).2.2.2.2)
      have XK : Hid (Keep w (w8.setCell ⟨b8, 0, none⟩ (.int .u64 (l' : Int)))) := hide (keep_st (unhide KW) (unhide Hb).2.1 _)
      go_upto_region 6 with fail
      clear hc8
      generalize w8.setCell ⟨b8, 0, none⟩ (.int .u64 (l' : Int)) = w5 at X8 X7 XG XK ⊢
      have hx7 := (unhide X7).c0
      have hf7 := (unhide X7).fz
      have Y7 : Hid (Ub (w5.setCell ⟨b7, 0, none⟩ (.int .u64 ((f ||| m : Nat) : Int))) b7 (f ||| m)) := hide ((unhide X7).set _)
      have Y8 : Hid (Ub (w5.setCell ⟨b7, 0, none⟩ (.int .u64 ((f ||| m : Nat) : Int))) b8 l') := hide ((unhide X8).other (fun e => (unhide Hb).2.2.1 e.symm))
      have YG : Hid (Gb (w5.setCell ⟨b7, 0, none⟩ (.int .u64 ((f ||| m : Nat) : Int))) q M) := hide ((unhide XG).other (unhide Hb).2.2.2.1)
      have YK : Hid (Keep w (w5.setCell ⟨b7, 0, none⟩ (.int .u64 ((f ||| m : Nat) : Int)))) := hide (keep_st (unhide XK) (unhide Hb).1 _)
      go_upto_region 7 with fail
      clear hx7 hf7 X7 X8 XG XK
      generalize w5.setCell ⟨b7, 0, none⟩ (.int .u64 ((f ||| m : Nat) : Int)) = w6 at Y7 Y8 YG YK ⊢
      have hx8 := (unhide Y8).c0
      have hf8 := (unhide Y8).fz
      have Z8 : Hid (Ub (w6.setCell ⟨b8, 0, none⟩ (.int .u64 ((l' ||| m : Nat) : Int))) b8 (l' ||| m)) := hide ((unhide Y8).set _)
      have Z7 : Hid (Ub (w6.setCell ⟨b8, 0, none⟩ (.int .u64 ((l' ||| m : Nat) : Int))) b7 (f ||| m)) := hide ((unhide Y7).other (unhide Hb).2.2.1)
      have ZG : Hid (Gb (w6.setCell ⟨b8, 0, none⟩ (.int .u64 ((l' ||| m : Nat) : Int))) q M) := hide ((unhide YG).other (unhide Hb).2.2.2.2)
      have ZK : Hid (Keep w (w6.setCell ⟨b8, 0, none⟩ (.int .u64 ((l' ||| m : Nat) : Int)))) := hide (keep_st (unhide YK) (unhide Hb).2.1 _)
      go_wp2_with fail
      go_roundw
      case rel => exact ⟨f ||| m, l' ||| m, hide (by exact unhide Z7), hide (by exact unhide Z8), hide (by exact unhide ZG), hide (by have := unhide ZK; repeat (first | exact this | apply Keep.drew)), HLD2, HF2, HL2⟩
      case measure =>
        refine Nat.lt_of_lt_of_eq (Nat.lt_of_le_of_lt (Nat.le_of_eq ?_) (unhide HLT)) (unhide hms).symm
        exact lw_congr (Ub.rd (by exact unhide Z7)) (Ub.rd (by exact unhide Z8))
end Pa
end Go.Proofs.YtfofkkjldngkaaaDoor
