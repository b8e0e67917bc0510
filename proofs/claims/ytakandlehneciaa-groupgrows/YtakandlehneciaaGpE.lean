/- Package group: a part with one pair more; edges of a part. -/
import Derived.Test.YtakandlehneciaaGpI
namespace Go.Proofs.Ytakandlehneciaa
open Go.RowKit
attribute [local go_sem ↓] Go.wp_at_zero Go.wp_at_succ
set_option linter.unusedVariables false
set_option linter.unusedSimpArgs false
set_option maxRecDepth 10000
namespace Gp
open Pa
/-- the bits of a part as a number: the first the lowest -/
def xv : List Bool → Nat
  | [] => 0
  | b :: L => (if b then 1 else 0) + 2 * xv L
theorem xv_lt : ∀ L : List Bool, xv L < 2 ^ L.length
  | [] => by simp [xv]
  | b :: L => by
    have := xv_lt L
    simp only [xv, List.length_cons, Nat.pow_succ]
    split <;> omega
theorem xv_snoc : ∀ (L : List Bool) (b : Bool), xv (L ++ [b]) = xv L + (if b then 2 ^ L.length else 0)
  | [], b => by cases b <;> simp [xv]
  | c :: L, b => by
    have := xv_snoc L b
    simp only [List.cons_append, xv, List.length_cons, this, Nat.pow_succ]
    split <;> split <;> omega
theorem xv_or (L : List Bool) (b : Bool) : xv L ||| (if b then 2 ^ L.length else 0) = xv (L ++ [b]) := by
  rw [xv_snoc]
  cases b
  · simp
  · have := xv_lt L
    simp only [if_true]
    have h := Nat.two_pow_add_eq_or_of_lt this 1
    rw [Nat.mul_one] at h
    rw [Nat.or_comm, Nat.add_comm, h]
theorem xv_bit : ∀ (L : List Bool) (i : Nat), (xv L).testBit i = L.getD i false
  | [], i => by simp [xv]
  | b :: L, 0 => by cases b <;> simp [xv, Nat.testBit_zero] <;> omega
  | b :: L, i + 1 => by
    have h := xv_bit L i
    rw [List.getD_cons_succ, ← h, Nat.testBit_succ]
    congr 1
    simp only [xv]
    split <;> omega
/-- an edge of a pair: e0 e1 the places and marks that it asks for -/
def prE (p0 p1 : List Int) (M0 M1 : List Int) (x : P2 × Bool) : E3 :=
  let a := (p0.getD x.1.1.toNat 0).toNat
  let b := (p1.getD x.1.2.toNat 0).toNat
  if x.2 then (M1.getD (b + 1) 0, M0.getD a 0, 0) else (M0.getD (a + 1) 0, M1.getD b 0, 0)
set_option maxHeartbeats 4000000 in
theorem and_any (L : List Bool) (b : Bool) (w : World) (hl : L.length ≤ 15) :
    Calls Try.prog 38 #[.agg #[.int .i64 (L.length : Int), .int .u64 (xv L : Int)], .int .u64 (if b then 1 else 0)] w fun e w' => e = .returned (.agg #[.int .i64 ((L ++ [b]).length : Int), .int .u64 (xv (L ++ [b]) : Int)]) ∧ Keep w w' := by
  obtain ⟨n, hn⟩ : ∃ n, L.length = n := ⟨_, rfl⟩
  have h2 := xv_or L b
  have h3 := xv_lt L
  have h4 := xv_lt (L ++ [b])
  rw [List.length_append, List.length_cons, List.length_nil] at *
  rw [hn] at h2 h3 h4 hl ⊢
  obtain ⟨x, hx⟩ : ∃ x, xv L = x := ⟨_, rfl⟩
  obtain ⟨y, hy⟩ : ∃ y, xv (L ++ [b]) = y := ⟨_, rfl⟩
  rw [hx] at h2 h3 ⊢
  rw [hy] at h2 h4 ⊢
  clear hx hy hn
  have hp : 2 ^ n ≤ 2 ^ 15 := Nat.pow_le_pow_right (by decide) hl
  have hp2 : 2 ^ (n + (0 + 1)) ≤ 2 ^ 16 := Nat.pow_le_pow_right (by decide) (by omega)
  obtain ⟨s, hs⟩ : ∃ s : Nat, (if b then 2 ^ n else 0) = s := ⟨_, rfl⟩
  rw [hs] at h2
  have hsb : s ≤ 2 ^ 15 := by rw [← hs]; split <;> omega
  have e1 : IntKind.i64.wrap ((n : Int) + 1) = ((n + (0 + 1) : Nat) : Int) := by rw [IntKind.wrap_i64]; omega
  have e2 : IntKind.u64.wrap ((if b = true then 1 else 0) * 2 ^ n) = (s : Int) := by
    rw [← hs]
    cases b
    · simp; rfl
    · rw [if_pos rfl, if_pos rfl]; exact shl_is (by omega)
  have e3 : bits BinOp.or IntKind.u64 (x : Int) (s : Int) = (y : Int) := by rw [bits_or_u64_nat x s (by omega) (by omega), h2]
  rw [← e2] at e3
  have hmin : min n 64 = n := by omega
  have CK := hide (fun (w' : World) (hk : Keep (w.alloc (.cells #[.int .i64 (n : Int), .int .u64 (x : Int)] 69)) w') => (⟨kc hk (box_c w [.int .i64 (n : Int), .int .u64 (x : Int)] _ 0 _ rfl), kc hk (box_c w [.int .i64 (n : Int), .int .u64 (x : Int)] _ 1 _ rfl)⟩ : w'.cell? ⟨w.heap.size, 0, none⟩ = some (.int .i64 (n : Int)) ∧ w'.cell? ⟨w.heap.size, 1, none⟩ = some (.int .u64 (x : Int))))
  have EK := hide (fun (a b : Obj) => (((Keep.refl w).alloc a).alloc b).drew)
  generalize n + (0 + 1) = m at *
  clear h2 h3 h4 hp hp2 hs hsb hl e2
  cases b
  all_goals (
    simp only [if_true, if_false, Bool.false_eq_true, Int.one_mul, Int.zero_mul] at e3
    go_enter Try.func38, Try.ntmps38
    go_upto_region 1 with fail
    refine wp_region_held_drew (S := (fun w' => w'.cell? ⟨w.heap.size, 0, none⟩ = some (.int .i64 (n : Int)) ∧ w'.cell? ⟨w.heap.size, 1, none⟩ = some (.int .u64 (x : Int)))) (by kernel_rfl) (by exact unhide CK _ (by repeat (first | apply Keep.drew | exact Keep.refl _ | apply Keep.alloc))) (fun hHeld => ?_)
    refine wpAnyH_take (i := 0) (v := ?_) rfl (by kernel_rfl) (by kernel_rfl) (by kernel_rfl) (fun _ _ _ h => h) (Or.inl ⟨by rfl, ?_⟩) hHeld ?_
    rotate_left
    · intro w hSw
      try dsimp only at hSw
      go_simp
      try with_reducible rfl
    show wpAnyH _ _ _ _ _ _ _ (Act.put _ (some 5) _) _
    try simp only [Act.put, List.setIfInBounds_toArray, List.set_cons_zero, List.set_cons_succ]
    refine wpAnyH_take (i := 1) (v := ?_) rfl (by kernel_rfl) (by kernel_rfl) (by kernel_rfl) (fun _ _ _ h => h) (Or.inl ⟨by rfl, ?_⟩) hHeld ?_
    rotate_left
    · intro w hSw
      try dsimp only at hSw
      go_simp
      try with_reducible rfl
    show wpAnyH _ _ _ _ _ _ _ (Act.put _ (some 6) _) _
    try simp only [Act.put, List.setIfInBounds_toArray, List.set_cons_zero, List.set_cons_succ]
    refine wpAnyH_take (i := 2) (v := ?_) rfl (by kernel_rfl) (by kernel_rfl) (by kernel_rfl) (fun _ _ _ h => h) (Or.inl ⟨by rfl, ?_⟩) hHeld ?_
    rotate_left
    · intro w hSw
      try dsimp only at hSw
      go_simp
      try with_reducible rfl
    show wpAnyH _ _ _ _ _ _ _ (Act.put _ (some 7) _) _
    try simp only [Act.put, List.setIfInBounds_toArray, List.set_cons_zero, List.set_cons_succ]
    refine wpAnyH_take (i := 3) (v := ?_) rfl (by kernel_rfl) (by kernel_rfl) (by kernel_rfl) (fun _ _ _ h => h) (Or.inl ⟨by rfl, ?_⟩) hHeld ?_
    rotate_left
    · intro w hSw
      try dsimp only at hSw
      go_simp
      try with_reducible rfl
    show wpAnyH _ _ _ _ _ _ _ (Act.put _ (some 8) _) _
    try simp only [Act.put, List.setIfInBounds_toArray, List.set_cons_zero, List.set_cons_succ]
    refine wpAnyH_take (i := 4) (v := ?_) rfl (by kernel_rfl) (by kernel_rfl) (by kernel_rfl) (fun _ _ _ h => h) (Or.inl ⟨by rfl, ?_⟩) hHeld ?_
    rotate_left
    · intro w hSw
      try dsimp only at hSw
      go_simp
      try with_reducible rfl
    show wpAnyH _ _ _ _ _ _ _ (Act.put _ (some 9) _) _
    try simp only [Act.put, List.setIfInBounds_toArray, List.set_cons_zero, List.set_cons_succ]
    refine wpAnyH_take (i := 5) (v := ?_) rfl (by kernel_rfl) (by kernel_rfl) (by kernel_rfl) (fun _ _ _ h => h) (Or.inl ⟨by rfl, ?_⟩) hHeld ?_
    rotate_left
    · intro w hSw
      try dsimp only at hSw
      go_simp
      try with_reducible rfl
    show wpAnyH _ _ _ _ _ _ _ (Act.put _ (some 10) _) _
    try simp only [Act.put, List.setIfInBounds_toArray, List.set_cons_zero, List.set_cons_succ]
    refine wpAnyH_take (i := 6) (v := ?_) rfl (by kernel_rfl) (by kernel_rfl) (by kernel_rfl) (fun _ _ _ h => h) (Or.inl ⟨by rfl, ?_⟩) hHeld ?_
    rotate_left
    · intro w hSw
      try dsimp only at hSw
      go_simp
      try with_reducible rfl
    show wpAnyH _ _ _ _ _ _ _ (Act.put _ (some 11) _) _
    try simp only [Act.put, List.setIfInBounds_toArray, List.set_cons_zero, List.set_cons_succ]
    refine wpAnyH_take (i := 7) (v := ?_) rfl (by kernel_rfl) (by kernel_rfl) (by kernel_rfl) (fun _ _ _ h => h) (Or.inl ⟨by rfl, ?_⟩) hHeld ?_
    rotate_left
    · intro w hSw
      try dsimp only at hSw
      go_simp
      try with_reducible rfl
    show wpAnyH _ _ _ _ _ _ _ (Act.put _ (some 12) _) _
    try simp only [Act.put, List.setIfInBounds_toArray, List.set_cons_zero, List.set_cons_succ]
    refine wpAnyH_take (i := 8) (v := ?_) rfl (by kernel_rfl) (by kernel_rfl) (by kernel_rfl) (fun _ _ _ h => h) (Or.inl ⟨by rfl, ?_⟩) hHeld ?_
    rotate_left
    · intro w hSw
      try dsimp only at hSw
      go_simp
      try with_reducible rfl
    show wpAnyH _ _ _ _ _ _ _ (Act.put _ (some 13) _) _
    try simp only [Act.put, List.setIfInBounds_toArray, List.set_cons_zero, List.set_cons_succ]
    refine wpAnyH_take (i := 9) (v := ?_) rfl (by kernel_rfl) (by kernel_rfl) (by kernel_rfl) (fun _ _ _ h => h) (Or.inl ⟨by rfl, ?_⟩) hHeld ?_
    rotate_left
    · intro w hSw
      try dsimp only at hSw
      go_simp
      try with_reducible rfl
    show wpAnyH _ _ _ _ _ _ _ (Act.put _ (some 14) _) _
    try simp only [Act.put, List.setIfInBounds_toArray, List.set_cons_zero, List.set_cons_succ]
    refine wpAnyH_take (i := 10) (v := ?_) rfl (by kernel_rfl) (by kernel_rfl) (by kernel_rfl) (fun _ _ _ h => h) (Or.inl ⟨by rfl, ?_⟩) hHeld ?_
    rotate_left
    · intro w hSw
      try dsimp only at hSw
      go_simp
      try with_reducible rfl
    show wpAnyH _ _ _ _ _ _ _ (Act.put _ (some 15) _) _
    try simp only [Act.put, List.setIfInBounds_toArray, List.set_cons_zero, List.set_cons_succ]
    refine wpAnyH_ready (rs := [11]) (by kernel_rfl) (by simp) ?_
    refine AllReadyH.cons rfl (fun K hK => ?_) AllReadyH.nil
    go_simp
    clear hHeld
    refine hK.out _ _ ?_ (fun hHeld => ?_)
    · exact unhide CK _ (by repeat (first | apply Keep.drew | exact Keep.refl _ | apply Keep.alloc))
    clear hK K
    try simp only [Act.put, List.setIfInBounds_toArray, List.set_cons_zero, List.set_cons_succ]
    refine wpAnyH_done (by kernel_rfl) ?_ _
    clear hHeld
    try rw [hmin]
    go_wp2_with fail
    exact bodyPost_ret (v := .agg #[.int .i64 (m : Int), .int .u64 (y : Int)]) (by simp [results, Try.results38, go_sem]) rfl ⟨rfl, by repeat (first | apply Keep.drew | apply Keep.alloc | exact Keep.refl _)⟩)
/-- the edges of a part -/
def edN (PL MK : List (List Int)) (PH : List E3) (X : List (P2 × Bool)) : List E3 := PH ++ X.map (prE (PL.getD 0 []) (PL.getD 1 []) (MK.getD 0 []) (MK.getD 1 []))
theorem ed_more (PL MK : List (List Int)) (PH : List E3) (D : List P2) (L : List Bool) (k : Nat) (h1 : k < D.length) (h2 : k < L.length) : edN PL MK PH ((D.zip L).take (k + 1)) = edN PL MK PH ((D.zip L).take k) ++ [prE (PL.getD 0 []) (PL.getD 1 []) (MK.getD 0 []) (MK.getD 1 []) (D.getD k z2, L.getD k false)] := by
  have hz : (D.zip L)[k]? = some (D.getD k z2, L.getD k false) := by
    rw [List.getElem?_zip_eq_some]
    simp [h1, h2]
  unfold edN
  rw [List.take_add_one, List.map_append, ← List.append_assoc, hz]
  rfl
theorem te_vs {e : TypeId} {w : World} {v : Value} {R : List E3} (h : Te e w v R) : Vs w v R.length (ecs R) := by
  obtain ⟨B, h⟩ := h
  rcases h.2 with ⟨rfl, h0⟩ | ⟨g, cap, cur, rfl, hb, hg, hc, hm, hs, ht⟩
  · have : R = [] := List.eq_nil_of_length_eq_zero h0
    subst this
    exact ⟨none, 0, rfl, fun j u hj => by simp [ecs] at hj⟩
  · refine ⟨_, cap, rfl, fun j u hj => ⟨_, rfl, ?_⟩⟩
    rw [add_pl, Nat.zero_add]
    rw [← ht, List.getElem?_take] at hj
    simp only [World.cell?, hg]
    split at hj
    · simpa using hj
    · cases hj
theorem made_ed (w : World) (c : Nat) (hc : c ≤ 1000) : (Instr.makeSlice 73 (.int .i64 0) (.int .i64 (c : Int))).run Try.prog w = .ok (.slice (some ⟨w.heap.size, 0, none⟩) 0 c) (w.alloc (.cells (madeCells (Value.agg #[.int .i64 0, .int .i64 0, .int .i64 0]).cells (c * 3)) 82)) := by
  obtain ⟨i0, hi0, hz0, hz1, hz2⟩ := info_f infoE
  have h := run_make (P := Try.prog) w 73 82 i0 _ Try.underlying73 hi0 hz0 .i64 .i64 0 (c : Int) (by omega) (by omega) (by rw [hz2]; omega) (by omega)
  rw [hz1] at h
  simp only [Int.toNat_natCast] at h
  exact h
theorem made_own (w : World) (c : Nat) (hc : c ≤ 1000) : (w.alloc (.cells (madeCells (Value.agg #[.int .i64 0, .int .i64 0, .int .i64 0]).cells (c * 3)) 82)).ownsRow w.heap.size 82 3 (.slice (some ⟨w.heap.size, 0, none⟩) 0 c) 0 (ecs []) :=
  World.ownsRow_made w _ c (Nat.le_refl _) (by unfold maxLen; omega) (by simp [madeCells])
theorem part_at {w : World} {pb : Nat} {a b : Value} {t : TypeId} (h : w.heap[pb]? = some (.cells #[a, b] t (0, 0))) : w.cell? ⟨pb, 1, none⟩ = some b := by simp [World.cell?, h]
def Eq9 (R : List E3) (w : World) (e : Ending) (w' : World) : Prop := ∃ v, e = .returned v ∧ Keep w w' ∧ Es w' v R
set_option maxHeartbeats 8000000 in
theorem edges_core (gb : Nat) (n : Int) (vo va : Value) (PL MK : List (List Int)) (PH : List E3) (D : List P2) (L : List Bool) (w : World) (hG : Gm w gb n vo PL MK PH) (hD : Ps w va D) (hd : D.length ≤ 16) (hl : L.length ≤ D.length) (hph : PH.length ≤ 8)
    (hp : Hid (∀ k, k < L.length → ∃ A B a b : Nat, D.getD k z2 = ((A : Int), (B : Int)) ∧ A < (PL.getD 0 []).length ∧ B < (PL.getD 1 []).length ∧ (PL.getD 0 []).getD A 0 = (a : Int) ∧ (PL.getD 1 []).getD B 0 = (b : Int) ∧ a + 1 < (MK.getD 0 []).length ∧ b + 1 < (MK.getD 1 []).length ∧ (MK.getD 0 []).length ≤ 10 ∧ (MK.getD 1 []).length ≤ 10 ∧ PL.length = 2 ∧ MK.length = 2)) :
    Calls Try.prog 37 #[.pointer (some ⟨gb, 0, none⟩), va, .agg #[.int .i64 (L.length : Int), .int .u64 (xv L : Int)]] w (Eq9 (edN PL MK PH (D.zip L)) w) := by
  obtain ⟨i0, hi0, hz0, hz1, hz2⟩ := info_f infoE
  have HQ : Hid (∀ w' v, Keep w w' → w'.ownsRow w.heap.size 82 3 v (PH.length + L.length) (ecs (edN PL MK PH ((D.zip L).take L.length))) → Eq9 (edN PL MK PH (D.zip L)) w (.returned v) w') := hide (fun w' v hk h => ⟨v, rfl, hk, by
    have e1 : (D.zip L).take L.length = D.zip L := List.take_of_length_le (by simp; omega)
    rw [e1] at h
    refine es_own h ?_
    simp [edN]; omega⟩)
  generalize Eq9 (edN PL MK PH (D.zip L)) w = QQ at HQ ⊢
  have HM := hide (fun k h1 h2 => ed_more PL MK PH D L k h1 h2)
  have HG := hide hG
  obtain ⟨pl, mk, ph, hbx, hpl, hmk, hte⟩ := hG
  have HVS := hide (te_vs hte)
  have HPL := hide hpl
  have HMK := hide hmk
  obtain ⟨apl, cpl, rfl, -⟩ := hpl.sl
  obtain ⟨amk, cmk, rfl, -⟩ := hmk.sl
  obtain ⟨aph, cph, rfl, -⟩ := te_vs hte
  obtain ⟨ava, cva, rfl, hca, hD⟩ := hD
  have HD := hide hD
  have HXB := hide (fun k => xv_bit L k)
  have hx := xv_lt L
  have hx2 : 2 ^ L.length ≤ 2 ^ 16 := Nat.pow_le_pow_right (by decide) (by omega)
  obtain ⟨m, hm⟩ : ∃ m, L.length = m := ⟨_, rfl⟩
  have HLM := hide hm
  rw [hm] at hl hp HQ hx hx2 ⊢
  obtain ⟨d, hdd⟩ : ∃ d, D.length = d := ⟨_, rfl⟩
  have HDD := hide hdd
  rw [hdd] at hd hl hca HD ⊢
  obtain ⟨h, hh⟩ : ∃ h, PH.length = h := ⟨_, rfl⟩
  have HPH := hide hh
  rw [hh] at hph HQ HVS hbx
  obtain ⟨x, hxx⟩ : ∃ x, xv L = x := ⟨_, rfl⟩
  rw [hxx] at hx HXB ⊢
  clear hte hpl hmk hD hdd hh hxx hm
  have hmk9 := fun w => made_ed w (h + m) (by omega)
  have K1 := (Keep.refl w).alloc (.cells #[.int .i64 (m : Int), .int .u64 (x : Int)] 69)
  have P1 := box_c w [.int .i64 (m : Int), .int .u64 (x : Int)] 69 0 _ rfl
  have P2' := box_c w [.int .i64 (m : Int), .int .u64 (x : Int)] 69 1 _ rfl
  have BX := hide (box_at hbx)
  have PB1 := heap_alloc_new w (.cells #[.int .i64 (m : Int), .int .u64 (x : Int)] 69)
  go_enter Try.func37, Try.ntmps37
  go_upto_region 1 with fail
  generalize w.alloc (.cells #[.int .i64 (m : Int), .int .u64 (x : Int)] 69) = w1 at K1 P1 P2' PB1 ⊢
  obtain ⟨pb, hpb⟩ : ∃ b, w.heap.size = b := ⟨_, rfl⟩
  have HPB := hide hpb
  rw [hpb] at P1 P2' HQ PB1 ⊢
  clear hpb
  obtain ⟨g0, g1, g2, g3, g4⟩ := unhide BX
  have SS : Hid (∀ w', Keep w1 w' → w'.cell? ⟨gb, 2, none⟩ = some (.slice apl PL.length cpl) ∧ w'.cell? ⟨gb, 3, none⟩ = some (.slice amk MK.length cmk) ∧ w'.cell? ⟨gb, 4, none⟩ = some (.slice aph h cph) ∧ w'.cell? ⟨pb, 0, none⟩ = some (.int .i64 (m : Int)) ∧ w'.cell? ⟨pb, 1, none⟩ = some (.int .u64 (x : Int))) := hide (fun w' hk => ⟨kc (K1.trans hk) g2, kc (K1.trans hk) g3, kc (K1.trans hk) g4, kc hk P1, kc hk P2'⟩)
  have HK1 := hide K1
  have HPB1 := hide PB1
  clear PB1
  clear g0 g1 g2 g3 g4 P1 P2' K1
  have M2 := hmk9 w1.drew
  rw [Int.natCast_add] at M2
  have O2 := hide (made_own w1.drew (h + m) (by omega))
  have K2 := hide (((Keep.refl w1).drew).alloc (.cells (madeCells (Value.agg #[.int .i64 0, .int .i64 0, .int .i64 0]).cells ((h + m) * 3)) 82))
  clear hmk9
  generalize w1.drew.alloc (.cells (madeCells (Value.agg #[.int .i64 0, .int .i64 0, .int .i64 0]).cells ((h + m) * 3)) 82) = w2 at M2 O2 K2
  have e9 : IntKind.i64.wrap ((h : Int) + (m : Int)) = (h : Int) + (m : Int) := by rw [IntKind.wrap_i64]; omega
  refine wp_region_held_drew (S := (fun w' => w'.cell? ⟨gb, 2, none⟩ = some (.slice apl PL.length cpl) ∧ w'.cell? ⟨gb, 3, none⟩ = some (.slice amk MK.length cmk) ∧ w'.cell? ⟨gb, 4, none⟩ = some (.slice aph h cph) ∧ w'.cell? ⟨pb, 0, none⟩ = some (.int .i64 (m : Int)) ∧ w'.cell? ⟨pb, 1, none⟩ = some (.int .u64 (x : Int)))) (by kernel_rfl) (by exact unhide SS _ ((Keep.refl _).drew)) (fun hHeld => ?_)
  refine wpAnyH_take (i := 0) (v := ?_) rfl (by kernel_rfl) (by kernel_rfl) (by kernel_rfl) (fun _ _ _ h => h) (Or.inl ⟨by rfl, ?_⟩) hHeld ?_
  rotate_left
  · intro w hSw
    try dsimp only at hSw
    go_simp
    try with_reducible rfl
  show wpAnyH _ _ _ _ _ _ _ (Act.put _ (some 12) _) _
  try simp only [Act.put, List.setIfInBounds_toArray, List.set_cons_zero, List.set_cons_succ]
  refine wpAnyH_take (i := 1) (v := ?_) rfl (by kernel_rfl) (by kernel_rfl) (by kernel_rfl) (fun _ _ _ h => h) (Or.inl ⟨by rfl, ?_⟩) hHeld ?_
  rotate_left
  · intro w hSw
    try dsimp only at hSw
    go_simp
    try with_reducible rfl
  show wpAnyH _ _ _ _ _ _ _ (Act.put _ (some 13) _) _
  try simp only [Act.put, List.setIfInBounds_toArray, List.set_cons_zero, List.set_cons_succ]
  refine wpAnyH_take (i := 2) (v := ?_) rfl (by kernel_rfl) (by kernel_rfl) (by kernel_rfl) (fun _ _ _ h => h) (Or.inl ⟨by rfl, ?_⟩) hHeld ?_
  rotate_left
  · intro w hSw
    try dsimp only at hSw
    go_simp
    try with_reducible rfl
  show wpAnyH _ _ _ _ _ _ _ (Act.put _ (some 14) _) _
  try simp only [Act.put, List.setIfInBounds_toArray, List.set_cons_zero, List.set_cons_succ]
  refine wpAnyH_take (i := 3) (v := ?_) rfl (by kernel_rfl) (by kernel_rfl) (by kernel_rfl) (fun _ _ _ h => h) (Or.inl ⟨by rfl, ?_⟩) hHeld ?_
  rotate_left
  · intro w hSw
    try dsimp only at hSw
    go_simp
    try with_reducible rfl
  show wpAnyH _ _ _ _ _ _ _ (Act.put _ (some 15) _) _
  try simp only [Act.put, List.setIfInBounds_toArray, List.set_cons_zero, List.set_cons_succ]
  refine wpAnyH_take (i := 4) (v := ?_) rfl (by kernel_rfl) (by kernel_rfl) (by kernel_rfl) (fun _ _ _ h => h) (Or.inl ⟨by rfl, ?_⟩) hHeld ?_
  rotate_left
  · intro w hSw
    try dsimp only at hSw
    go_simp
    try with_reducible rfl
  show wpAnyH _ _ _ _ _ _ _ (Act.put _ (some 16) _) _
  try simp only [Act.put, List.setIfInBounds_toArray, List.set_cons_zero, List.set_cons_succ]
  refine wpAnyH_take (i := 5) (v := ?_) rfl (by kernel_rfl) (by kernel_rfl) (by kernel_rfl) (fun _ _ _ h => h) (Or.inl ⟨by rfl, ?_⟩) hHeld ?_
  rotate_left
  · intro w hSw
    try dsimp only at hSw
    go_simp
    try with_reducible rfl
  show wpAnyH _ _ _ _ _ _ _ (Act.put _ (some 17) _) _
  try simp only [Act.put, List.setIfInBounds_toArray, List.set_cons_zero, List.set_cons_succ]
  refine wpAnyH_take (i := 6) (v := ?_) rfl (by kernel_rfl) (by kernel_rfl) (by kernel_rfl) (fun _ _ _ h => h) (Or.inl ⟨by rfl, ?_⟩) hHeld ?_
  rotate_left
  · intro w hSw
    try dsimp only at hSw
    go_simp
    try with_reducible rfl
  show wpAnyH _ _ _ _ _ _ _ (Act.put _ (some 18) _) _
  try simp only [Act.put, List.setIfInBounds_toArray, List.set_cons_zero, List.set_cons_succ]
  refine wpAnyH_take (i := 7) (v := ?_) rfl (by kernel_rfl) (by kernel_rfl) (by kernel_rfl) (fun _ _ _ h => h) (Or.inl ⟨by rfl, ?_⟩) hHeld ?_
  rotate_left
  · intro w hSw
    try dsimp only at hSw
    go_simp
    try with_reducible rfl
  show wpAnyH _ _ _ _ _ _ _ (Act.put _ (some 19) _) _
  try simp only [Act.put, List.setIfInBounds_toArray, List.set_cons_zero, List.set_cons_succ]
  refine wpAnyH_take (i := 9) (v := ?_) rfl (by kernel_rfl) (by kernel_rfl) (by kernel_rfl) (fun _ _ _ h => h) (Or.inl ⟨by rfl, ?_⟩) hHeld ?_
  rotate_left
  · intro w hSw
    try dsimp only at hSw
    go_simp
    try with_reducible rfl
  show wpAnyH _ _ _ _ _ _ _ (Act.put _ (some 21) _) _
  try simp only [Act.put, List.setIfInBounds_toArray, List.set_cons_zero, List.set_cons_succ]
  refine wpAnyH_take (i := 10) (v := ?_) rfl (by kernel_rfl) (by kernel_rfl) (by kernel_rfl) (fun _ _ _ h => h) (Or.inl ⟨by rfl, ?_⟩) hHeld ?_
  rotate_left
  · intro w hSw
    try dsimp only at hSw
    go_simp
    try with_reducible rfl
  show wpAnyH _ _ _ _ _ _ _ (Act.put _ (some 22) _) _
  try simp only [Act.put, List.setIfInBounds_toArray, List.set_cons_zero, List.set_cons_succ]
  refine wpAnyH_take (i := 11) (v := ?_) rfl (by kernel_rfl) (by kernel_rfl) (by kernel_rfl) (fun _ _ _ h => h) (Or.inl ⟨by rfl, ?_⟩) hHeld ?_
  rotate_left
  · intro w hSw
    try dsimp only at hSw
    go_simp
    try with_reducible rfl
  show wpAnyH _ _ _ _ _ _ _ (Act.put _ (some 23) _) _
  try simp only [Act.put, List.setIfInBounds_toArray, List.set_cons_zero, List.set_cons_succ]
  refine wpAnyH_take (i := 12) (v := ?_) rfl (by kernel_rfl) (by kernel_rfl) (by kernel_rfl) (fun _ _ _ h => h) (Or.inl ⟨by rfl, ?_⟩) hHeld ?_
  rotate_left
  · intro w hSw
    try dsimp only at hSw
    go_simp
    try with_reducible rfl
  show wpAnyH _ _ _ _ _ _ _ (Act.put _ (some 24) _) _
  try simp only [Act.put, List.setIfInBounds_toArray, List.set_cons_zero, List.set_cons_succ]
  refine wpAnyH_ready (rs := [8]) (by kernel_rfl) (by simp) ?_
  refine AllReadyH.cons rfl (fun K hK => ?_) AllReadyH.nil
  go_simp
  clear hHeld
  refine hK.out _ _ ?_ (fun hHeld => ?_)
  · exact unhide SS _ (unhide K2)
  clear hK K
  try simp only [Act.put, List.setIfInBounds_toArray, List.set_cons_zero, List.set_cons_succ]
  clear M2
  refine wpAnyH_ready (rs := [13]) (by kernel_rfl) (by simp) ?_
  refine AllReadyH.cons rfl (fun K hK => ?_) AllReadyH.nil
  clear hHeld
  rw [if_pos (by rfl)]
  refine wp_append_vs w2 _ _ 73 rfl w1.heap.size 82 i0 _ 3 24 Try.underlying73 hi0 hz0 hz1 hz2 rfl (by decide) (by decide) _ 0 (ecs []) rfl (unhide O2) _ h (ecs PH) rfl ((unhide HVS).keep ((unhide HK1).trans (unhide K2))) (by rw [ecs_len, unhide HPH]) (ecs_one PH) (by omega) (show w1.heap.size ≤ w2.heap.size from Below.size (unhide K2)) ?_
  intro v3 w3 hown hgrow
  have K3 : Hid (Keep w1 w3) := hide (Below.grown (unhide K2) hgrow (Below.size (unhide K2)) (fun j ej => ((unhide O2).lt j ej).1))
  have O3 : Hid (w3.ownsRow pb 82 3 v3 (h + 0) (ecs (edN PL MK PH ((D.zip L).take 0)))) := hide (by
    have h1 := own_mono (B' := pb) hown (by rw [← unhide HPB]; exact Below.size (unhide HK1))
    simpa [edN, ecs] using h1)
  clear hown hgrow
  refine hK.out _ _ (unhide SS _ (unhide K3)) (fun hHeld => ?_)
  clear hK K
  try simp only [Act.put, List.setIfInBounds_toArray, List.set_cons_zero, List.set_cons_succ]
  refine wpAnyH_take (i := 14) (v := ?_) rfl (by kernel_rfl) (by kernel_rfl) (by kernel_rfl) (fun _ _ _ h => h) (Or.inl ⟨by rfl, ?_⟩) hHeld ?_
  rotate_left
  · intro w hSw
    try dsimp only at hSw
    go_simp
    try with_reducible rfl
  show wpAnyH _ _ _ _ _ _ _ (Act.put _ (some 7) _) _
  try simp only [Act.put, List.setIfInBounds_toArray, List.set_cons_zero, List.set_cons_succ]
  refine wpAnyH_done (by kernel_rfl) ?_ _
  clear hHeld
  obtain ⟨s2, s3, -, s5, s6⟩ := unhide SS _ (unhide K3)
  have SB : Hid (∀ w', Keep w w' → w'.cell? ⟨gb, 2, none⟩ = some (.slice apl PL.length cpl) ∧ w'.cell? ⟨gb, 3, none⟩ = some (.slice amk MK.length cmk)) := hide (fun w' hk => ⟨kc hk (unhide BX).2.2.1, kc hk (unhide BX).2.2.2.1⟩)
  have PB3 : Hid (w3.heap[pb]? = some (.cells #[.int .i64 (m : Int), .int .u64 (x : Int)] 69 (0, 0))) := hide (((unhide K3).block pb (Array.getElem?_eq_some_iff.1 (unhide HPB1)).1).trans (unhide HPB1))
  have KB : Hid (Keep w w3) := hide ((unhide HK1).trans (unhide K3))
  clear s2 s3 s6 O2 K2 K3 SS HPB1
  have lm0 : (0 : Int) ≤ (m : Int) := by omega
  have lm1 : (m : Int) ≤ (cva : Int) := by omega
  have lm2 : m ≤ cva := by omega
  go_wp2_with fail
  go_loopw [7, 31] (fun vl vi ws => ∃ k : Nat, k ≤ m ∧ vi = .int .i64 (k : Int) ∧ Hid (ws.ownsRow pb 82 3 vl (h + k) (ecs (edN PL MK PH ((D.zip L).take k)))) ∧ Hid (Keep w ws) ∧ Hid (ws.heap[pb]? = some (.cells #[.int .i64 (m : Int), .int .u64 (x : Int)] 69 (0, 0)))) (fun vl vi _ => m - (intOf vi).toNat)
  case atStart => exact ⟨0, Nat.zero_le _, rfl, O3, KB, PB3⟩
  case round =>
    clear O3 s5 KB PB3
    obtain ⟨k, hk, rfl, OW, KW, PB⟩ := hrel
    obtain ⟨al, cl, rfl⟩ := own_l (unhide OW)
    by_cases hlt : k < m
    · have li : (k : Int) < (m : Int) := by omega
      obtain ⟨A, B, a, b, e0, e1, e2, e3, e4, e5, e6, e7, e8, e9, e10⟩ := (unhide hp) k hlt
      have hm2 := (unhide HM) k (by rw [unhide HDD]; omega) (by rw [unhide HLM]; exact hlt)
      rw [prE, e0] at hm2
      simp only [Int.toNat_natCast, e3, e4] at hm2
      have hbit := (unhide HXB) k
      obtain ⟨ad, rfl, hc2⟩ := (unhide HD) k (by omega)
      rw [e0] at hc2
      have KA := unhide KW
      obtain ⟨x0, x1⟩ := hc2.keep KA
      simp only at x0 x1
      obtain ⟨gp, u0, ep, q0, i0'⟩ := (unhide HPL).row (k := 0) (by omega)
      subst ep
      obtain ⟨gp2, u1, ep, q1, i1'⟩ := (unhide HPL).row (k := 1) (by omega)
      injection ep with ep
      injection ep with ep
      subst ep
      obtain ⟨au0, cu0, rfl⟩ := i0'.sl
      obtain ⟨au1, cu1, rfl⟩ := i1'.sl
      obtain ⟨g0, rfl, r0⟩ := iw_at i0' e1
      obtain ⟨g1, rfl, r1⟩ := iw_at i1' e2
      rw [e3] at r0
      rw [e4] at r1
      obtain ⟨gm, m0, em, t0, j0'⟩ := (unhide HMK).row (k := 0) (by omega)
      subst em
      obtain ⟨gm2, m1, em, t1, j1'⟩ := (unhide HMK).row (k := 1) (by omega)
      injection em with em
      injection em with em
      subst em
      obtain ⟨am0, cm0, rfl⟩ := j0'.sl
      obtain ⟨am1, cm1, rfl⟩ := j1'.sl
      obtain ⟨h0, rfl, y0⟩ := iw_at j0' (k := a) (by omega)
      obtain ⟨h0', eh, y1⟩ := iw_at j0' e5
      injection eh with eh
      injection eh with eh
      subst eh
      obtain ⟨h1, rfl, z0⟩ := iw_at j1' (k := b) (by omega)
      obtain ⟨h1', eh, z1⟩ := iw_at j1' e6
      injection eh with eh
      injection eh with eh
      subst eh
      generalize (MK.getD 0 []).getD a 0 = va0 at hm2 y0
      generalize (MK.getD 0 []).getD (a + 1) 0 = va1 at hm2 y1
      generalize (MK.getD 1 []).getD b 0 = vb0 at hm2 z0
      generalize (MK.getD 1 []).getD (b + 1) 0 = vb1 at hm2 z1
      have HM2 := hide hm2
      clear hm2 i0' i1' j0' j1' hc2 e0 e3 e4
      generalize (PL.getD 0 []).length = n0 at *
      generalize (PL.getD 1 []).length = n1 at *
      generalize (MK.getD 0 []).length = k0 at *
      generalize (MK.getD 1 []).length = k1 at *
      obtain ⟨c0, c1⟩ := c2_new wr (A : Int) (B : Int) 55
      simp only at c0 c1
      have K5 := (Keep.refl wr).alloc (.cells #[.int .i64 (A : Int), .int .i64 (B : Int)] 55)
      obtain ⟨s2, s3⟩ := unhide SB _ ((unhide KW).trans K5)
      have PB5 := box_alloc (unhide PB) (.cells #[.int .i64 (A : Int), .int .i64 (B : Int)] 55)
      have s6 := part_at PB5
      have O5 := hide (own_k (unhide OW) K5)
      have KE := hide ((unhide KW).trans K5)
      have ff : ∀ {ad : Addr} {u : Value} {w' : World}, w.cell? ad = some u → Keep (wr.alloc (.cells #[.int .i64 (A : Int), .int .i64 (B : Int)] 55)) w' → w'.cell? ad = some u := fun h hk => kc (KA.trans (K5.trans hk)) h
      have S5 := hide (fun (w' : World) (hk : Keep (wr.alloc (.cells #[.int .i64 (A : Int), .int .i64 (B : Int)] 55)) w') => (⟨kc hk c0, kc hk c1, kc hk s2, ff q0 hk, ff q1 hk, ff r0 hk, ff r1 hk⟩ : w'.cell? ⟨wr.heap.size, 0, none⟩ = some (.int .i64 (A : Int)) ∧ w'.cell? ⟨wr.heap.size, 1, none⟩ = some (.int .i64 (B : Int)) ∧ w'.cell? ⟨gb, 2, none⟩ = some (.slice (some ⟨gp, 0, none⟩) PL.length cpl) ∧ w'.cell? ⟨gp, 0, none⟩ = some (.slice (some ⟨g0, 0, none⟩) n0 cu0) ∧ w'.cell? ⟨gp, 1, none⟩ = some (.slice (some ⟨g1, 0, none⟩) n1 cu1) ∧ w'.cell? ⟨g0, A, none⟩ = some (.int .i64 (a : Int)) ∧ w'.cell? ⟨g1, B, none⟩ = some (.int .i64 (b : Int))))
      have S7 := hide (fun (w' : World) (hk : Keep w w') => (⟨((unhide SB) w' hk).2, kc hk t0, kc hk t1, kc hk y0, kc hk z1⟩ : w'.cell? ⟨gb, 3, none⟩ = some (.slice (some ⟨gm, 0, none⟩) MK.length cmk) ∧ w'.cell? ⟨gm, 0, none⟩ = some (.slice (some ⟨h0, 0, none⟩) k0 cm0) ∧ w'.cell? ⟨gm, 1, none⟩ = some (.slice (some ⟨h1, 0, none⟩) k1 cm1) ∧ w'.cell? ⟨h0, a, none⟩ = some (.int .i64 va0) ∧ w'.cell? ⟨h1, b + 1, none⟩ = some (.int .i64 vb1)))
      have S8 := hide (fun (w' : World) (hk : Keep w w') => (⟨((unhide SB) w' hk).2, kc hk t0, kc hk t1, kc hk y1, kc hk z0⟩ : w'.cell? ⟨gb, 3, none⟩ = some (.slice (some ⟨gm, 0, none⟩) MK.length cmk) ∧ w'.cell? ⟨gm, 0, none⟩ = some (.slice (some ⟨h0, 0, none⟩) k0 cm0) ∧ w'.cell? ⟨gm, 1, none⟩ = some (.slice (some ⟨h1, 0, none⟩) k1 cm1) ∧ w'.cell? ⟨h0, a + 1, none⟩ = some (.int .i64 va1) ∧ w'.cell? ⟨h1, b, none⟩ = some (.int .i64 vb0)))
      have hP2 : PL.length = 2 := e9
      have hM2 : MK.length = 2 := e10
      clear ff c0 c1 s2 s3 q0 q1 r0 r1 t0 t1 y0 y1 z0 z1 KA K5 OW
      generalize PL.length = lpl at *
      generalize MK.length = lmk at *
      subst hP2 hM2
      have lA0 : (0 : Int) ≤ (A : Int) := by omega
      have lB0 : (0 : Int) ≤ (B : Int) := by omega
      have lA1 : (A : Int) < (n0 : Int) := by omega
      have lB1 : (B : Int) < (n1 : Int) := by omega
      go_upto_region 5 with fail
      generalize wr.alloc (.cells #[.int .i64 (A : Int), .int .i64 (B : Int)] 55) = w5 at S5 O5 KE s6 PB5 ⊢
      obtain ⟨b5, hb5⟩ : ∃ b, wr.heap.size = b := ⟨_, rfl⟩
      rw [hb5] at S5
      clear x0 x1
      refine wp_region_held_drew (S := (fun w' => w'.cell? ⟨b5, 0, none⟩ = some (.int .i64 (A : Int)) ∧ w'.cell? ⟨b5, 1, none⟩ = some (.int .i64 (B : Int)) ∧ w'.cell? ⟨gb, 2, none⟩ = some (.slice (some ⟨gp, 0, none⟩) 2 cpl) ∧ w'.cell? ⟨gp, 0, none⟩ = some (.slice (some ⟨g0, 0, none⟩) n0 cu0) ∧ w'.cell? ⟨gp, 1, none⟩ = some (.slice (some ⟨g1, 0, none⟩) n1 cu1) ∧ w'.cell? ⟨g0, A, none⟩ = some (.int .i64 (a : Int)) ∧ w'.cell? ⟨g1, B, none⟩ = some (.int .i64 (b : Int)))) (by kernel_rfl) (by exact unhide S5 _ ((Keep.refl _).drew)) (fun hHeld => ?_)
      refine wpAnyH_take (i := 0) (v := ?_) rfl (by kernel_rfl) (by kernel_rfl) (by kernel_rfl) (fun _ _ _ h => h) (Or.inl ⟨by rfl, ?_⟩) hHeld ?_
      rotate_left
      · intro w hSw
        try dsimp only at hSw
        go_simp
        try with_reducible rfl
      show wpAnyH _ _ _ _ _ _ _ (Act.put _ (some 36) _) _
      try simp only [Act.put, List.setIfInBounds_toArray, List.set_cons_zero, List.set_cons_succ]
      refine wpAnyH_take (i := 1) (v := ?_) rfl (by kernel_rfl) (by kernel_rfl) (by kernel_rfl) (fun _ _ _ h => h) (Or.inl ⟨by rfl, ?_⟩) hHeld ?_
      rotate_left
      · intro w hSw
        try dsimp only at hSw
        go_simp
        try with_reducible rfl
      show wpAnyH _ _ _ _ _ _ _ (Act.put _ (some 37) _) _
      try simp only [Act.put, List.setIfInBounds_toArray, List.set_cons_zero, List.set_cons_succ]
      refine wpAnyH_take (i := 2) (v := ?_) rfl (by kernel_rfl) (by kernel_rfl) (by kernel_rfl) (fun _ _ _ h => h) (Or.inl ⟨by rfl, ?_⟩) hHeld ?_
      rotate_left
      · intro w hSw
        try dsimp only at hSw
        go_simp
        try with_reducible rfl
      show wpAnyH _ _ _ _ _ _ _ (Act.put _ (some 38) _) _
      try simp only [Act.put, List.setIfInBounds_toArray, List.set_cons_zero, List.set_cons_succ]
      refine wpAnyH_take (i := 3) (v := ?_) rfl (by kernel_rfl) (by kernel_rfl) (by kernel_rfl) (fun _ _ _ h => h) (Or.inl ⟨by rfl, ?_⟩) hHeld ?_
      rotate_left
      · intro w hSw
        try dsimp only at hSw
        go_simp
        try with_reducible rfl
      show wpAnyH _ _ _ _ _ _ _ (Act.put _ (some 39) _) _
      try simp only [Act.put, List.setIfInBounds_toArray, List.set_cons_zero, List.set_cons_succ]
      refine wpAnyH_take (i := 4) (v := ?_) rfl (by kernel_rfl) (by kernel_rfl) (by kernel_rfl) (fun _ _ _ h => h) (Or.inl ⟨by rfl, ?_⟩) hHeld ?_
      rotate_left
      · intro w hSw
        try dsimp only at hSw
        go_simp
        try with_reducible rfl
      show wpAnyH _ _ _ _ _ _ _ (Act.put _ (some 40) _) _
      try simp only [Act.put, List.setIfInBounds_toArray, List.set_cons_zero, List.set_cons_succ]
      refine wpAnyH_take (i := 5) (v := ?_) rfl (by kernel_rfl) (by kernel_rfl) (by kernel_rfl) (fun _ _ _ h => h) (Or.inl ⟨by rfl, ?_⟩) hHeld ?_
      rotate_left
      · intro w hSw
        try dsimp only at hSw
        go_simp
        try with_reducible rfl
      show wpAnyH _ _ _ _ _ _ _ (Act.put _ (some 41) _) _
      try simp only [Act.put, List.setIfInBounds_toArray, List.set_cons_zero, List.set_cons_succ]
      refine wpAnyH_take (i := 6) (v := ?_) rfl (by kernel_rfl) (by kernel_rfl) (by kernel_rfl) (fun _ _ _ h => h) (Or.inl ⟨by rfl, ?_⟩) hHeld ?_
      rotate_left
      · intro w hSw
        try dsimp only at hSw
        go_simp
        try with_reducible rfl
      show wpAnyH _ _ _ _ _ _ _ (Act.put _ (some 42) _) _
      try simp only [Act.put, List.setIfInBounds_toArray, List.set_cons_zero, List.set_cons_succ]
      refine wpAnyH_take (i := 7) (v := ?_) rfl (by kernel_rfl) (by kernel_rfl) (by kernel_rfl) (fun _ _ _ h => h) (Or.inl ⟨by rfl, ?_⟩) hHeld ?_
      rotate_left
      · intro w hSw
        try dsimp only at hSw
        go_simp
        try with_reducible rfl
      show wpAnyH _ _ _ _ _ _ _ (Act.put _ (some 43) _) _
      try simp only [Act.put, List.setIfInBounds_toArray, List.set_cons_zero, List.set_cons_succ]
      refine wpAnyH_take (i := 8) (v := ?_) rfl (by kernel_rfl) (by kernel_rfl) (by kernel_rfl) (fun _ _ _ h => h) (Or.inl ⟨by rfl, ?_⟩) hHeld ?_
      rotate_left
      · intro w hSw
        try dsimp only at hSw
        go_simp
        try with_reducible rfl
      show wpAnyH _ _ _ _ _ _ _ (Act.put _ (some 44) _) _
      try simp only [Act.put, List.setIfInBounds_toArray, List.set_cons_zero, List.set_cons_succ]
      refine wpAnyH_take (i := 9) (v := ?_) rfl (by kernel_rfl) (by kernel_rfl) (by kernel_rfl) (fun _ _ _ h => h) (Or.inl ⟨by rfl, ?_⟩) hHeld ?_
      rotate_left
      · intro w hSw
        try dsimp only at hSw
        go_simp
        try with_reducible rfl
      show wpAnyH _ _ _ _ _ _ _ (Act.put _ (some 45) _) _
      try simp only [Act.put, List.setIfInBounds_toArray, List.set_cons_zero, List.set_cons_succ]
      refine wpAnyH_take (i := 10) (v := ?_) rfl (by kernel_rfl) (by kernel_rfl) (by kernel_rfl) (fun _ _ _ h => h) (Or.inl ⟨by rfl, ?_⟩) hHeld ?_
      rotate_left
      · intro w hSw
        try dsimp only at hSw
        go_simp
        try with_reducible rfl
      show wpAnyH _ _ _ _ _ _ _ (Act.put _ (some 46) _) _
      try simp only [Act.put, List.setIfInBounds_toArray, List.set_cons_zero, List.set_cons_succ]
      refine wpAnyH_take (i := 11) (v := ?_) rfl (by kernel_rfl) (by kernel_rfl) (by kernel_rfl) (fun _ _ _ h => h) (Or.inl ⟨by rfl, ?_⟩) hHeld ?_
      rotate_left
      · intro w hSw
        try dsimp only at hSw
        go_simp
        try with_reducible rfl
      show wpAnyH _ _ _ _ _ _ _ (Act.put _ (some 47) _) _
      try simp only [Act.put, List.setIfInBounds_toArray, List.set_cons_zero, List.set_cons_succ]
      refine wpAnyH_take (i := 12) (v := ?_) rfl (by kernel_rfl) (by kernel_rfl) (by kernel_rfl) (fun _ _ _ h => h) (Or.inl ⟨by rfl, ?_⟩) hHeld ?_
      rotate_left
      · intro w hSw
        try dsimp only at hSw
        go_simp
        try with_reducible rfl
      show wpAnyH _ _ _ _ _ _ _ (Act.put _ (some 48) _) _
      try simp only [Act.put, List.setIfInBounds_toArray, List.set_cons_zero, List.set_cons_succ]
      refine wpAnyH_take (i := 13) (v := ?_) rfl (by kernel_rfl) (by kernel_rfl) (by kernel_rfl) (fun _ _ _ h => h) (Or.inl ⟨by rfl, ?_⟩) hHeld ?_
      rotate_left
      · intro w hSw
        try dsimp only at hSw
        go_simp
        try with_reducible rfl
      show wpAnyH _ _ _ _ _ _ _ (Act.put _ (some 49) _) _
      try simp only [Act.put, List.setIfInBounds_toArray, List.set_cons_zero, List.set_cons_succ]
      refine wpAnyH_take (i := 14) (v := ?_) rfl (by kernel_rfl) (by kernel_rfl) (by kernel_rfl) (fun _ _ _ h => h) (Or.inl ⟨by rfl, ?_⟩) hHeld ?_
      rotate_left
      · intro w hSw
        try dsimp only at hSw
        go_simp
        try with_reducible rfl
      show wpAnyH _ _ _ _ _ _ _ (Act.put _ (some 50) _) _
      try simp only [Act.put, List.setIfInBounds_toArray, List.set_cons_zero, List.set_cons_succ]
      refine wpAnyH_take (i := 15) (v := ?_) rfl (by kernel_rfl) (by kernel_rfl) (by kernel_rfl) (fun _ _ _ h => h) (Or.inl ⟨by rfl, ?_⟩) hHeld ?_
      rotate_left
      · intro w hSw
        try dsimp only at hSw
        go_simp
        try with_reducible rfl
      show wpAnyH _ _ _ _ _ _ _ (Act.put _ (some 51) _) _
      try simp only [Act.put, List.setIfInBounds_toArray, List.set_cons_zero, List.set_cons_succ]
      refine wpAnyH_take (i := 16) (v := ?_) rfl (by kernel_rfl) (by kernel_rfl) (by kernel_rfl) (fun _ _ _ h => h) (Or.inl ⟨by rfl, ?_⟩) hHeld ?_
      rotate_left
      · intro w hSw
        try dsimp only at hSw
        go_simp
        try with_reducible rfl
      show wpAnyH _ _ _ _ _ _ _ (Act.put _ (some 52) _) _
      try simp only [Act.put, List.setIfInBounds_toArray, List.set_cons_zero, List.set_cons_succ]
      refine wpAnyH_take (i := 17) (v := ?_) rfl (by kernel_rfl) (by kernel_rfl) (by kernel_rfl) (fun _ _ _ h => h) (Or.inl ⟨by rfl, ?_⟩) hHeld ?_
      rotate_left
      · intro w hSw
        try dsimp only at hSw
        go_simp
        try with_reducible rfl
      show wpAnyH _ _ _ _ _ _ _ (Act.put _ (some 53) _) _
      try simp only [Act.put, List.setIfInBounds_toArray, List.set_cons_zero, List.set_cons_succ]
      refine wpAnyH_take (i := 18) (v := ?_) rfl (by kernel_rfl) (by kernel_rfl) (by kernel_rfl) (fun _ _ _ h => h) (Or.inl ⟨by rfl, ?_⟩) hHeld ?_
      rotate_left
      · intro w hSw
        try dsimp only at hSw
        go_simp
        try with_reducible rfl
      show wpAnyH _ _ _ _ _ _ _ (Act.put _ (some 54) _) _
      try simp only [Act.put, List.setIfInBounds_toArray, List.set_cons_zero, List.set_cons_succ]
      refine wpAnyH_take (i := 19) (v := ?_) rfl (by kernel_rfl) (by kernel_rfl) (by kernel_rfl) (fun _ _ _ h => h) (Or.inl ⟨by rfl, ?_⟩) hHeld ?_
      rotate_left
      · intro w hSw
        try dsimp only at hSw
        go_simp
        try with_reducible rfl
      show wpAnyH _ _ _ _ _ _ _ (Act.put _ (some 55) _) _
      try simp only [Act.put, List.setIfInBounds_toArray, List.set_cons_zero, List.set_cons_succ]
      refine wpAnyH_take (i := 20) (v := ?_) rfl (by kernel_rfl) (by kernel_rfl) (by kernel_rfl) (fun _ _ _ h => h) (Or.inl ⟨by rfl, ?_⟩) hHeld ?_
      rotate_left
      · intro w hSw
        try dsimp only at hSw
        go_simp
        try with_reducible rfl
      show wpAnyH _ _ _ _ _ _ _ (Act.put _ (some 10) _) _
      try simp only [Act.put, List.setIfInBounds_toArray, List.set_cons_zero, List.set_cons_succ]
      refine wpAnyH_take (i := 21) (v := ?_) rfl (by kernel_rfl) (by kernel_rfl) (by kernel_rfl) (fun _ _ _ h => h) (Or.inl ⟨by rfl, ?_⟩) hHeld ?_
      rotate_left
      · intro w hSw
        try dsimp only at hSw
        go_simp
        try with_reducible rfl
      show wpAnyH _ _ _ _ _ _ _ (Act.put _ (some 11) _) _
      try simp only [Act.put, List.setIfInBounds_toArray, List.set_cons_zero, List.set_cons_succ]
      refine wpAnyH_done (by kernel_rfl) ?_ _
      clear hHeld
      clear S5
      have HPB5 := hide PB5
      clear PB5
      have s6' : w5.drew.cell? ⟨pb, 1, none⟩ = some (.int .u64 (x : Int)) := kc ((Keep.refl w5).drew) s6
      have hv : bits BinOp.and IntKind.u64 ((x : Int) / 2 ^ k) 1 = (if L.getD k false then 1 else 0) := by
        have h1 : ((x : Int) / 2 ^ k) = ((x / 2 ^ k : Nat) : Int) := by push_cast; rfl
        have h2 : x / 2 ^ k ≤ x := Nat.div_le_self _ _
        have h3 := bits_and_u64_nat (x / 2 ^ k) 1 (by omega) (by decide)
        rw [h1]
        rw [Nat.testBit_eq_decide_div_mod_eq] at hbit
        rw [← hbit]
        have h4 : (x / 2 ^ k) &&& 1 = x / 2 ^ k % 2 := Nat.and_one_is_mod _
        rw [h4] at h3
        rw [show ((1 : Int)) = ((1 : Nat) : Int) from rfl, h3]
        rcases Nat.mod_two_eq_zero_or_one (x / 2 ^ k) with h | h <;> simp [h]
      have la0 : (0 : Int) ≤ (a : Int) := by omega
      have lb0 : (0 : Int) ≤ (b : Int) := by omega
      have la1 : (a : Int) < (k0 : Int) := by omega
      have lb1 : (b : Int) < (k1 : Int) := by omega
      have la2 : IntKind.i64.wrap ((a : Int) + 1) = (a : Int) + 1 := by rw [IntKind.wrap_i64]; omega
      have lb2 : IntKind.i64.wrap ((b : Int) + 1) = (b : Int) + 1 := by rw [IntKind.wrap_i64]; omega
      have la3 : (0 : Int) ≤ (a : Int) + 1 := by omega
      have lb3 : (0 : Int) ≤ (b : Int) + 1 := by omega
      have la4 : (a : Int) + 1 < (k0 : Int) := by omega
      have lb4 : (b : Int) + 1 < (k1 : Int) := by omega
      have la5 : ((a : Int) + 1).toNat = a + 1 := by omega
      have lb5 : ((b : Int) + 1).toNat = b + 1 := by omega
      have hhk : h + k ≤ 100 := by omega
      clear hbit
      cases hL : L.getD k false with
      | true =>
        rw [hL] at hv HM2
        simp only [if_true] at HM2
        have hb1 : (bits BinOp.and IntKind.u64 ((x : Int) / 2 ^ k) 1 == 1) = true := by rw [hv]; rfl
        clear hv
        have O7 : Hid ((w5.drew.drew.alloc (.cells #[.int .i64 vb1, .int .i64 va0, .int .i64 0] 82)).ownsRow pb 82 3 (.slice al (h + k) cl) (h + k) (ecs (edN PL MK PH ((D.zip L).take k)))) := hide (own_k (unhide O5) (Keep.alloc (by repeat (first | apply Keep.drew | exact Keep.refl _)) _))
        have K7 : Hid (Keep w (w5.drew.drew.alloc (.cells #[.int .i64 vb1, .int .i64 va0, .int .i64 0] 82))) := hide ((unhide KE).trans (Keep.alloc (by repeat (first | apply Keep.drew | exact Keep.refl _)) _))
        have Z7 := unhide S7 _ (show Keep w (w5.drew.drew.alloc (.cells #[.int .i64 vb1, .int .i64 va0, .int .i64 0] 82)) from (unhide KE).trans (Keep.alloc (by repeat (first | apply Keep.drew | exact Keep.refl _)) _))
        have N7 := new_v w5.drew.drew (ecs [(vb1, va0, 0)]) 82
        go_upto_region 7 with fail
        refine wp_region_held_drew (S := (fun w' => w'.cell? ⟨gb, 3, none⟩ = some (.slice (some ⟨gm, 0, none⟩) 2 cmk) ∧ w'.cell? ⟨gm, 0, none⟩ = some (.slice (some ⟨h0, 0, none⟩) k0 cm0) ∧ w'.cell? ⟨gm, 1, none⟩ = some (.slice (some ⟨h1, 0, none⟩) k1 cm1) ∧ w'.cell? ⟨h0, a, none⟩ = some (.int .i64 va0) ∧ w'.cell? ⟨h1, b + 1, none⟩ = some (.int .i64 vb1))) (by kernel_rfl) (by exact unhide S7 _ ((unhide KE).trans (by repeat (first | apply Keep.drew | exact Keep.refl _)))) (fun hHeld => ?_)
        refine wpAnyH_take (i := 0) (v := ?_) rfl (by kernel_rfl) (by kernel_rfl) (by kernel_rfl) (fun _ _ _ h => h) (Or.inl ⟨by rfl, ?_⟩) hHeld ?_
        rotate_left
        · intro w hSw
          try dsimp only at hSw
          go_simp
          try with_reducible rfl
        show wpAnyH _ _ _ _ _ _ _ (Act.put _ (some 62) _) _
        try simp only [Act.put, List.setIfInBounds_toArray, List.set_cons_zero, List.set_cons_succ]
        refine wpAnyH_take (i := 1) (v := ?_) rfl (by kernel_rfl) (by kernel_rfl) (by kernel_rfl) (fun _ _ _ h => h) (Or.inl ⟨by rfl, ?_⟩) hHeld ?_
        rotate_left
        · intro w hSw
          try dsimp only at hSw
          go_simp
          try with_reducible rfl
        show wpAnyH _ _ _ _ _ _ _ (Act.put _ (some 63) _) _
        try simp only [Act.put, List.setIfInBounds_toArray, List.set_cons_zero, List.set_cons_succ]
        refine wpAnyH_take (i := 2) (v := ?_) rfl (by kernel_rfl) (by kernel_rfl) (by kernel_rfl) (fun _ _ _ h => h) (Or.inl ⟨by rfl, ?_⟩) hHeld ?_
        rotate_left
        · intro w hSw
          try dsimp only at hSw
          go_simp
          try with_reducible rfl
        show wpAnyH _ _ _ _ _ _ _ (Act.put _ (some 64) _) _
        try simp only [Act.put, List.setIfInBounds_toArray, List.set_cons_zero, List.set_cons_succ]
        refine wpAnyH_take (i := 3) (v := ?_) rfl (by kernel_rfl) (by kernel_rfl) (by kernel_rfl) (fun _ _ _ h => h) (Or.inl ⟨by rfl, ?_⟩) hHeld ?_
        rotate_left
        · intro w hSw
          try dsimp only at hSw
          go_simp
          try with_reducible rfl
        show wpAnyH _ _ _ _ _ _ _ (Act.put _ (some 65) _) _
        try simp only [Act.put, List.setIfInBounds_toArray, List.set_cons_zero, List.set_cons_succ]
        refine wpAnyH_take (i := 4) (v := ?_) rfl (by kernel_rfl) (by kernel_rfl) (by kernel_rfl) (fun _ _ _ h => h) (Or.inl ⟨by rfl, ?_⟩) hHeld ?_
        rotate_left
        · intro w hSw
          try dsimp only at hSw
          go_simp
          try with_reducible rfl
        show wpAnyH _ _ _ _ _ _ _ (Act.put _ (some 66) _) _
        try simp only [Act.put, List.setIfInBounds_toArray, List.set_cons_zero, List.set_cons_succ]
        refine wpAnyH_take (i := 5) (v := ?_) rfl (by kernel_rfl) (by kernel_rfl) (by kernel_rfl) (fun _ _ _ h => h) (Or.inl ⟨by rfl, ?_⟩) hHeld ?_
        rotate_left
        · intro w hSw
          try dsimp only at hSw
          go_simp
          try with_reducible rfl
        show wpAnyH _ _ _ _ _ _ _ (Act.put _ (some 67) _) _
        try simp only [Act.put, List.setIfInBounds_toArray, List.set_cons_zero, List.set_cons_succ]
        refine wpAnyH_take (i := 6) (v := ?_) rfl (by kernel_rfl) (by kernel_rfl) (by kernel_rfl) (fun _ _ _ h => h) (Or.inl ⟨by rfl, ?_⟩) hHeld ?_
        rotate_left
        · intro w hSw
          try dsimp only at hSw
          go_simp
          try with_reducible rfl
        show wpAnyH _ _ _ _ _ _ _ (Act.put _ (some 68) _) _
        try simp only [Act.put, List.setIfInBounds_toArray, List.set_cons_zero, List.set_cons_succ]
        refine wpAnyH_take (i := 7) (v := ?_) rfl (by kernel_rfl) (by kernel_rfl) (by kernel_rfl) (fun _ _ _ h => h) (Or.inl ⟨by rfl, ?_⟩) hHeld ?_
        rotate_left
        · intro w hSw
          try dsimp only at hSw
          go_simp
          try with_reducible rfl
        show wpAnyH _ _ _ _ _ _ _ (Act.put _ (some 69) _) _
        try simp only [Act.put, List.setIfInBounds_toArray, List.set_cons_zero, List.set_cons_succ]
        refine wpAnyH_take (i := 8) (v := ?_) rfl (by kernel_rfl) (by kernel_rfl) (by kernel_rfl) (fun _ _ _ h => h) (Or.inl ⟨by rfl, ?_⟩) hHeld ?_
        rotate_left
        · intro w hSw
          try dsimp only at hSw
          go_simp
          try with_reducible rfl
        show wpAnyH _ _ _ _ _ _ _ (Act.put _ (some 70) _) _
        try simp only [Act.put, List.setIfInBounds_toArray, List.set_cons_zero, List.set_cons_succ]
        refine wpAnyH_take (i := 9) (v := ?_) rfl (by kernel_rfl) (by kernel_rfl) (by kernel_rfl) (fun _ _ _ h => h) (Or.inl ⟨by rfl, ?_⟩) hHeld ?_
        rotate_left
        · intro w hSw
          try dsimp only at hSw
          go_simp
          try with_reducible rfl
        show wpAnyH _ _ _ _ _ _ _ (Act.put _ (some 71) _) _
        try simp only [Act.put, List.setIfInBounds_toArray, List.set_cons_zero, List.set_cons_succ]
        refine wpAnyH_take (i := 10) (v := ?_) rfl (by kernel_rfl) (by kernel_rfl) (by kernel_rfl) (fun _ _ _ h => h) (Or.inl ⟨by rfl, ?_⟩) hHeld ?_
        rotate_left
        · intro w hSw
          try dsimp only at hSw
          go_simp
          try with_reducible rfl
        show wpAnyH _ _ _ _ _ _ _ (Act.put _ (some 72) _) _
        try simp only [Act.put, List.setIfInBounds_toArray, List.set_cons_zero, List.set_cons_succ]
        refine wpAnyH_take (i := 11) (v := ?_) rfl (by kernel_rfl) (by kernel_rfl) (by kernel_rfl) (fun _ _ _ h => h) (Or.inl ⟨by rfl, ?_⟩) hHeld ?_
        rotate_left
        · intro w hSw
          try dsimp only at hSw
          go_simp
          try with_reducible rfl
        show wpAnyH _ _ _ _ _ _ _ (Act.put _ (some 73) _) _
        try simp only [Act.put, List.setIfInBounds_toArray, List.set_cons_zero, List.set_cons_succ]
        refine wpAnyH_take (i := 12) (v := ?_) rfl (by kernel_rfl) (by kernel_rfl) (by kernel_rfl) (fun _ _ _ h => h) (Or.inl ⟨by rfl, ?_⟩) hHeld ?_
        rotate_left
        · intro w hSw
          try dsimp only at hSw
          go_simp
          try with_reducible rfl
        show wpAnyH _ _ _ _ _ _ _ (Act.put _ (some 74) _) _
        try simp only [Act.put, List.setIfInBounds_toArray, List.set_cons_zero, List.set_cons_succ]
        refine wpAnyH_take (i := 13) (v := ?_) rfl (by kernel_rfl) (by kernel_rfl) (by kernel_rfl) (fun _ _ _ h => h) (Or.inl ⟨by rfl, ?_⟩) hHeld ?_
        rotate_left
        · intro w hSw
          try dsimp only at hSw
          go_simp
          try with_reducible rfl
        show wpAnyH _ _ _ _ _ _ _ (Act.put _ (some 75) _) _
        try simp only [Act.put, List.setIfInBounds_toArray, List.set_cons_zero, List.set_cons_succ]
        refine wpAnyH_take (i := 14) (v := ?_) rfl (by kernel_rfl) (by kernel_rfl) (by kernel_rfl) (fun _ _ _ h => h) (Or.inl ⟨by rfl, ?_⟩) hHeld ?_
        rotate_left
        · intro w hSw
          try dsimp only at hSw
          go_simp
          try with_reducible rfl
        show wpAnyH _ _ _ _ _ _ _ (Act.put _ (some 76) _) _
        try simp only [Act.put, List.setIfInBounds_toArray, List.set_cons_zero, List.set_cons_succ]
        refine wpAnyH_take (i := 15) (v := ?_) rfl (by kernel_rfl) (by kernel_rfl) (by kernel_rfl) (fun _ _ _ h => h) (Or.inl ⟨by rfl, ?_⟩) hHeld ?_
        rotate_left
        · intro w hSw
          try dsimp only at hSw
          go_simp
          try with_reducible rfl
        show wpAnyH _ _ _ _ _ _ _ (Act.put _ (some 77) _) _
        try simp only [Act.put, List.setIfInBounds_toArray, List.set_cons_zero, List.set_cons_succ]
        refine wpAnyH_take (i := 16) (v := ?_) rfl (by kernel_rfl) (by kernel_rfl) (by kernel_rfl) (fun _ _ _ h => h) (Or.inl ⟨by rfl, ?_⟩) hHeld ?_
        rotate_left
        · intro w hSw
          try dsimp only at hSw
          go_simp
          try with_reducible rfl
        show wpAnyH _ _ _ _ _ _ _ (Act.put _ (some 78) _) _
        try simp only [Act.put, List.setIfInBounds_toArray, List.set_cons_zero, List.set_cons_succ]
        refine wpAnyH_take (i := 17) (v := ?_) rfl (by kernel_rfl) (by kernel_rfl) (by kernel_rfl) (fun _ _ _ h => h) (Or.inl ⟨by rfl, ?_⟩) hHeld ?_
        rotate_left
        · intro w hSw
          try dsimp only at hSw
          go_simp
          try with_reducible rfl
        show wpAnyH _ _ _ _ _ _ _ (Act.put _ (some 79) _) _
        try simp only [Act.put, List.setIfInBounds_toArray, List.set_cons_zero, List.set_cons_succ]
        refine wpAnyH_take (i := 18) (v := ?_) rfl (by kernel_rfl) (by kernel_rfl) (by kernel_rfl) (fun _ _ _ h => h) (Or.inl ⟨by rfl, ?_⟩) hHeld ?_
        rotate_left
        · intro w hSw
          try dsimp only at hSw
          go_simp
          try with_reducible rfl
        show wpAnyH _ _ _ _ _ _ _ (Act.put _ (some 80) _) _
        try simp only [Act.put, List.setIfInBounds_toArray, List.set_cons_zero, List.set_cons_succ]
        refine wpAnyH_take (i := 19) (v := ?_) rfl (by kernel_rfl) (by kernel_rfl) (by kernel_rfl) (fun _ _ _ h => h) (Or.inl ⟨by rfl, ?_⟩) hHeld ?_
        rotate_left
        · intro w hSw
          try dsimp only at hSw
          go_simp
          try with_reducible rfl
        show wpAnyH _ _ _ _ _ _ _ (Act.put _ (some 81) _) _
        try simp only [Act.put, List.setIfInBounds_toArray, List.set_cons_zero, List.set_cons_succ]
        refine wpAnyH_take (i := 20) (v := ?_) rfl (by kernel_rfl) (by kernel_rfl) (by kernel_rfl) (fun _ _ _ h => h) (Or.inl ⟨by rfl, ?_⟩) hHeld ?_
        rotate_left
        · intro w hSw
          try dsimp only at hSw
          go_simp
          try with_reducible rfl
        show wpAnyH _ _ _ _ _ _ _ (Act.put _ (some 82) _) _
        try simp only [Act.put, List.setIfInBounds_toArray, List.set_cons_zero, List.set_cons_succ]
        refine wpAnyH_ready (rs := [21]) (by kernel_rfl) (by simp) ?_
        refine AllReadyH.cons rfl (fun K hK => ?_) AllReadyH.nil
        go_simp
        clear hHeld
        refine hK.out _ _ ?_ (fun hHeld => ?_)
        · exact Z7
        clear hK K
        try simp only [Act.put, List.setIfInBounds_toArray, List.set_cons_zero, List.set_cons_succ]
        refine wpAnyH_ready (rs := [22]) (by kernel_rfl) (by simp) ?_
        refine AllReadyH.cons rfl (fun K hK => ?_) AllReadyH.nil
        clear hHeld
        try rw [if_pos (by rfl)]
        refine wp_append_own _ _ _ 73 rfl pb 82 i0 _ 3 24 Try.underlying73 hi0 hz0 hz1 hz2 rfl (by decide) _ _ _ rfl (unhide O7) ⟨w5.drew.drew.heap.size, 0, none⟩ 1 1 (ecs [(vb1, va0, 0)]) rfl rfl N7 (ecs_one _) (by unfold maxLen; omega) (by omega) (by rw [← unhide HPB]; exact Below.size (unhide K7)) ?_
        intro v9 w9 hown hgrow hnil
        have K9 : Hid (Keep w w9) := hide (Below.grown (unhide K7) hgrow (Below.size (unhide K7)) (fun j ej => by rw [unhide HPB]; exact ((unhide O7).lt j ej).1))
        have PB9 : Hid (w9.heap[pb]? = some (.cells #[.int .i64 (m : Int), .int .u64 (x : Int)] 69 (0, 0))) := hide ((Kt.grown (A := fun e => e = 82) (unhide O7) rfl hgrow).block _ _ _ (box_alloc (o := .cells #[.int .i64 (m : Int), .int .u64 (x : Int)] 69 (0, 0)) (w := w5.drew.drew) (unhide HPB5) _) (by decide))
        have O9 := hide hown
        clear hown hgrow hnil
        refine hK.out _ _ (unhide S7 _ (unhide K9)) (fun hHeld => ?_)
        clear hK K
        try simp only [Act.put, List.setIfInBounds_toArray, List.set_cons_zero, List.set_cons_succ]
        refine wpAnyH_take (i := 23) (v := ?_) rfl (by kernel_rfl) (by kernel_rfl) (by kernel_rfl) (fun _ _ _ h => h) (Or.inl ⟨by rfl, ?_⟩) hHeld ?_
        rotate_left
        · intro w hSw
          try dsimp only at hSw
          go_simp
          try with_reducible rfl
        show wpAnyH _ _ _ _ _ _ _ (Act.put _ (some 7) _) _
        try simp only [Act.put, List.setIfInBounds_toArray, List.set_cons_zero, List.set_cons_succ]
        refine wpAnyH_done (by kernel_rfl) ?_ _
        clear hHeld
        go_wp2_with fail
        go_roundw
        case rel => exact ⟨k + 1, hlt, by go_num, hide (by rw [unhide HM2, ecs_app]; exact unhide O9), K9, PB9⟩
        case measure => simp [intOf]; omega
      | false =>
        rw [hL] at hv HM2
        simp only [if_false, Bool.false_eq_true] at HM2
        have hb1 : (bits BinOp.and IntKind.u64 ((x : Int) / 2 ^ k) 1 == 1) = false := by rw [hv]; rfl
        clear hv
        have O7 : Hid ((w5.drew.drew.alloc (.cells #[.int .i64 va1, .int .i64 vb0, .int .i64 0] 82)).ownsRow pb 82 3 (.slice al (h + k) cl) (h + k) (ecs (edN PL MK PH ((D.zip L).take k)))) := hide (own_k (unhide O5) (Keep.alloc (by repeat (first | apply Keep.drew | exact Keep.refl _)) _))
        have K7 : Hid (Keep w (w5.drew.drew.alloc (.cells #[.int .i64 va1, .int .i64 vb0, .int .i64 0] 82))) := hide ((unhide KE).trans (Keep.alloc (by repeat (first | apply Keep.drew | exact Keep.refl _)) _))
        have Z7 := unhide S8 _ (show Keep w (w5.drew.drew.alloc (.cells #[.int .i64 va1, .int .i64 vb0, .int .i64 0] 82)) from (unhide KE).trans (Keep.alloc (by repeat (first | apply Keep.drew | exact Keep.refl _)) _))
        have N7 := new_v w5.drew.drew (ecs [(va1, vb0, 0)]) 82
        go_upto_region 8 with fail
        refine wp_region_held_drew (S := (fun w' => w'.cell? ⟨gb, 3, none⟩ = some (.slice (some ⟨gm, 0, none⟩) 2 cmk) ∧ w'.cell? ⟨gm, 0, none⟩ = some (.slice (some ⟨h0, 0, none⟩) k0 cm0) ∧ w'.cell? ⟨gm, 1, none⟩ = some (.slice (some ⟨h1, 0, none⟩) k1 cm1) ∧ w'.cell? ⟨h0, a + 1, none⟩ = some (.int .i64 va1) ∧ w'.cell? ⟨h1, b, none⟩ = some (.int .i64 vb0))) (by kernel_rfl) (by exact unhide S8 _ ((unhide KE).trans (by repeat (first | apply Keep.drew | exact Keep.refl _)))) (fun hHeld => ?_)
        refine wpAnyH_take (i := 0) (v := ?_) rfl (by kernel_rfl) (by kernel_rfl) (by kernel_rfl) (fun _ _ _ h => h) (Or.inl ⟨by rfl, ?_⟩) hHeld ?_
        rotate_left
        · intro w hSw
          try dsimp only at hSw
          go_simp
          try with_reducible rfl
        show wpAnyH _ _ _ _ _ _ _ (Act.put _ (some 85) _) _
        try simp only [Act.put, List.setIfInBounds_toArray, List.set_cons_zero, List.set_cons_succ]
        refine wpAnyH_take (i := 1) (v := ?_) rfl (by kernel_rfl) (by kernel_rfl) (by kernel_rfl) (fun _ _ _ h => h) (Or.inl ⟨by rfl, ?_⟩) hHeld ?_
        rotate_left
        · intro w hSw
          try dsimp only at hSw
          go_simp
          try with_reducible rfl
        show wpAnyH _ _ _ _ _ _ _ (Act.put _ (some 86) _) _
        try simp only [Act.put, List.setIfInBounds_toArray, List.set_cons_zero, List.set_cons_succ]
        refine wpAnyH_take (i := 2) (v := ?_) rfl (by kernel_rfl) (by kernel_rfl) (by kernel_rfl) (fun _ _ _ h => h) (Or.inl ⟨by rfl, ?_⟩) hHeld ?_
        rotate_left
        · intro w hSw
          try dsimp only at hSw
          go_simp
          try with_reducible rfl
        show wpAnyH _ _ _ _ _ _ _ (Act.put _ (some 87) _) _
        try simp only [Act.put, List.setIfInBounds_toArray, List.set_cons_zero, List.set_cons_succ]
        refine wpAnyH_take (i := 3) (v := ?_) rfl (by kernel_rfl) (by kernel_rfl) (by kernel_rfl) (fun _ _ _ h => h) (Or.inl ⟨by rfl, ?_⟩) hHeld ?_
        rotate_left
        · intro w hSw
          try dsimp only at hSw
          go_simp
          try with_reducible rfl
        show wpAnyH _ _ _ _ _ _ _ (Act.put _ (some 88) _) _
        try simp only [Act.put, List.setIfInBounds_toArray, List.set_cons_zero, List.set_cons_succ]
        refine wpAnyH_take (i := 4) (v := ?_) rfl (by kernel_rfl) (by kernel_rfl) (by kernel_rfl) (fun _ _ _ h => h) (Or.inl ⟨by rfl, ?_⟩) hHeld ?_
        rotate_left
        · intro w hSw
          try dsimp only at hSw
          go_simp
          try with_reducible rfl
        show wpAnyH _ _ _ _ _ _ _ (Act.put _ (some 89) _) _
        try simp only [Act.put, List.setIfInBounds_toArray, List.set_cons_zero, List.set_cons_succ]
        refine wpAnyH_take (i := 5) (v := ?_) rfl (by kernel_rfl) (by kernel_rfl) (by kernel_rfl) (fun _ _ _ h => h) (Or.inl ⟨by rfl, ?_⟩) hHeld ?_
        rotate_left
        · intro w hSw
          try dsimp only at hSw
          go_simp
          try with_reducible rfl
        show wpAnyH _ _ _ _ _ _ _ (Act.put _ (some 90) _) _
        try simp only [Act.put, List.setIfInBounds_toArray, List.set_cons_zero, List.set_cons_succ]
        refine wpAnyH_take (i := 6) (v := ?_) rfl (by kernel_rfl) (by kernel_rfl) (by kernel_rfl) (fun _ _ _ h => h) (Or.inl ⟨by rfl, ?_⟩) hHeld ?_
        rotate_left
        · intro w hSw
          try dsimp only at hSw
          go_simp
          try with_reducible rfl
        show wpAnyH _ _ _ _ _ _ _ (Act.put _ (some 91) _) _
        try simp only [Act.put, List.setIfInBounds_toArray, List.set_cons_zero, List.set_cons_succ]
        refine wpAnyH_take (i := 7) (v := ?_) rfl (by kernel_rfl) (by kernel_rfl) (by kernel_rfl) (fun _ _ _ h => h) (Or.inl ⟨by rfl, ?_⟩) hHeld ?_
        rotate_left
        · intro w hSw
          try dsimp only at hSw
          go_simp
          try with_reducible rfl
        show wpAnyH _ _ _ _ _ _ _ (Act.put _ (some 92) _) _
        try simp only [Act.put, List.setIfInBounds_toArray, List.set_cons_zero, List.set_cons_succ]
        refine wpAnyH_take (i := 8) (v := ?_) rfl (by kernel_rfl) (by kernel_rfl) (by kernel_rfl) (fun _ _ _ h => h) (Or.inl ⟨by rfl, ?_⟩) hHeld ?_
        rotate_left
        · intro w hSw
          try dsimp only at hSw
          go_simp
          try with_reducible rfl
        show wpAnyH _ _ _ _ _ _ _ (Act.put _ (some 93) _) _
        try simp only [Act.put, List.setIfInBounds_toArray, List.set_cons_zero, List.set_cons_succ]
        refine wpAnyH_take (i := 9) (v := ?_) rfl (by kernel_rfl) (by kernel_rfl) (by kernel_rfl) (fun _ _ _ h => h) (Or.inl ⟨by rfl, ?_⟩) hHeld ?_
        rotate_left
        · intro w hSw
          try dsimp only at hSw
          go_simp
          try with_reducible rfl
        show wpAnyH _ _ _ _ _ _ _ (Act.put _ (some 94) _) _
        try simp only [Act.put, List.setIfInBounds_toArray, List.set_cons_zero, List.set_cons_succ]
        refine wpAnyH_take (i := 10) (v := ?_) rfl (by kernel_rfl) (by kernel_rfl) (by kernel_rfl) (fun _ _ _ h => h) (Or.inl ⟨by rfl, ?_⟩) hHeld ?_
        rotate_left
        · intro w hSw
          try dsimp only at hSw
          go_simp
          try with_reducible rfl
        show wpAnyH _ _ _ _ _ _ _ (Act.put _ (some 95) _) _
        try simp only [Act.put, List.setIfInBounds_toArray, List.set_cons_zero, List.set_cons_succ]
        refine wpAnyH_take (i := 11) (v := ?_) rfl (by kernel_rfl) (by kernel_rfl) (by kernel_rfl) (fun _ _ _ h => h) (Or.inl ⟨by rfl, ?_⟩) hHeld ?_
        rotate_left
        · intro w hSw
          try dsimp only at hSw
          go_simp
          try with_reducible rfl
        show wpAnyH _ _ _ _ _ _ _ (Act.put _ (some 96) _) _
        try simp only [Act.put, List.setIfInBounds_toArray, List.set_cons_zero, List.set_cons_succ]
        refine wpAnyH_take (i := 12) (v := ?_) rfl (by kernel_rfl) (by kernel_rfl) (by kernel_rfl) (fun _ _ _ h => h) (Or.inl ⟨by rfl, ?_⟩) hHeld ?_
        rotate_left
        · intro w hSw
          try dsimp only at hSw
          go_simp
          try with_reducible rfl
        show wpAnyH _ _ _ _ _ _ _ (Act.put _ (some 97) _) _
        try simp only [Act.put, List.setIfInBounds_toArray, List.set_cons_zero, List.set_cons_succ]
        refine wpAnyH_take (i := 13) (v := ?_) rfl (by kernel_rfl) (by kernel_rfl) (by kernel_rfl) (fun _ _ _ h => h) (Or.inl ⟨by rfl, ?_⟩) hHeld ?_
        rotate_left
        · intro w hSw
          try dsimp only at hSw
          go_simp
          try with_reducible rfl
        show wpAnyH _ _ _ _ _ _ _ (Act.put _ (some 98) _) _
        try simp only [Act.put, List.setIfInBounds_toArray, List.set_cons_zero, List.set_cons_succ]
        refine wpAnyH_take (i := 14) (v := ?_) rfl (by kernel_rfl) (by kernel_rfl) (by kernel_rfl) (fun _ _ _ h => h) (Or.inl ⟨by rfl, ?_⟩) hHeld ?_
        rotate_left
        · intro w hSw
          try dsimp only at hSw
          go_simp
          try with_reducible rfl
        show wpAnyH _ _ _ _ _ _ _ (Act.put _ (some 99) _) _
        try simp only [Act.put, List.setIfInBounds_toArray, List.set_cons_zero, List.set_cons_succ]
        refine wpAnyH_take (i := 15) (v := ?_) rfl (by kernel_rfl) (by kernel_rfl) (by kernel_rfl) (fun _ _ _ h => h) (Or.inl ⟨by rfl, ?_⟩) hHeld ?_
        rotate_left
        · intro w hSw
          try dsimp only at hSw
          go_simp
          try with_reducible rfl
        show wpAnyH _ _ _ _ _ _ _ (Act.put _ (some 100) _) _
        try simp only [Act.put, List.setIfInBounds_toArray, List.set_cons_zero, List.set_cons_succ]
        refine wpAnyH_take (i := 16) (v := ?_) rfl (by kernel_rfl) (by kernel_rfl) (by kernel_rfl) (fun _ _ _ h => h) (Or.inl ⟨by rfl, ?_⟩) hHeld ?_
        rotate_left
        · intro w hSw
          try dsimp only at hSw
          go_simp
          try with_reducible rfl
        show wpAnyH _ _ _ _ _ _ _ (Act.put _ (some 101) _) _
        try simp only [Act.put, List.setIfInBounds_toArray, List.set_cons_zero, List.set_cons_succ]
        refine wpAnyH_take (i := 17) (v := ?_) rfl (by kernel_rfl) (by kernel_rfl) (by kernel_rfl) (fun _ _ _ h => h) (Or.inl ⟨by rfl, ?_⟩) hHeld ?_
        rotate_left
        · intro w hSw
          try dsimp only at hSw
          go_simp
          try with_reducible rfl
        show wpAnyH _ _ _ _ _ _ _ (Act.put _ (some 102) _) _
        try simp only [Act.put, List.setIfInBounds_toArray, List.set_cons_zero, List.set_cons_succ]
        refine wpAnyH_take (i := 18) (v := ?_) rfl (by kernel_rfl) (by kernel_rfl) (by kernel_rfl) (fun _ _ _ h => h) (Or.inl ⟨by rfl, ?_⟩) hHeld ?_
        rotate_left
        · intro w hSw
          try dsimp only at hSw
          go_simp
          try with_reducible rfl
        show wpAnyH _ _ _ _ _ _ _ (Act.put _ (some 103) _) _
        try simp only [Act.put, List.setIfInBounds_toArray, List.set_cons_zero, List.set_cons_succ]
        refine wpAnyH_take (i := 19) (v := ?_) rfl (by kernel_rfl) (by kernel_rfl) (by kernel_rfl) (fun _ _ _ h => h) (Or.inl ⟨by rfl, ?_⟩) hHeld ?_
        rotate_left
        · intro w hSw
          try dsimp only at hSw
          go_simp
          try with_reducible rfl
        show wpAnyH _ _ _ _ _ _ _ (Act.put _ (some 104) _) _
        try simp only [Act.put, List.setIfInBounds_toArray, List.set_cons_zero, List.set_cons_succ]
        refine wpAnyH_take (i := 20) (v := ?_) rfl (by kernel_rfl) (by kernel_rfl) (by kernel_rfl) (fun _ _ _ h => h) (Or.inl ⟨by rfl, ?_⟩) hHeld ?_
        rotate_left
        · intro w hSw
          try dsimp only at hSw
          go_simp
          try with_reducible rfl
        show wpAnyH _ _ _ _ _ _ _ (Act.put _ (some 105) _) _
        try simp only [Act.put, List.setIfInBounds_toArray, List.set_cons_zero, List.set_cons_succ]
        refine wpAnyH_ready (rs := [21]) (by kernel_rfl) (by simp) ?_
        refine AllReadyH.cons rfl (fun K hK => ?_) AllReadyH.nil
        go_simp
        clear hHeld
        refine hK.out _ _ ?_ (fun hHeld => ?_)
        · exact Z7
        clear hK K
        try simp only [Act.put, List.setIfInBounds_toArray, List.set_cons_zero, List.set_cons_succ]
        refine wpAnyH_ready (rs := [22]) (by kernel_rfl) (by simp) ?_
        refine AllReadyH.cons rfl (fun K hK => ?_) AllReadyH.nil
        clear hHeld
        try rw [if_pos (by rfl)]
        refine wp_append_own _ _ _ 73 rfl pb 82 i0 _ 3 24 Try.underlying73 hi0 hz0 hz1 hz2 rfl (by decide) _ _ _ rfl (unhide O7) ⟨w5.drew.drew.heap.size, 0, none⟩ 1 1 (ecs [(va1, vb0, 0)]) rfl rfl N7 (ecs_one _) (by unfold maxLen; omega) (by omega) (by rw [← unhide HPB]; exact Below.size (unhide K7)) ?_
        intro v9 w9 hown hgrow hnil
        have K9 : Hid (Keep w w9) := hide (Below.grown (unhide K7) hgrow (Below.size (unhide K7)) (fun j ej => by rw [unhide HPB]; exact ((unhide O7).lt j ej).1))
        have PB9 : Hid (w9.heap[pb]? = some (.cells #[.int .i64 (m : Int), .int .u64 (x : Int)] 69 (0, 0))) := hide ((Kt.grown (A := fun e => e = 82) (unhide O7) rfl hgrow).block _ _ _ (box_alloc (o := .cells #[.int .i64 (m : Int), .int .u64 (x : Int)] 69 (0, 0)) (w := w5.drew.drew) (unhide HPB5) _) (by decide))
        have O9 := hide hown
        clear hown hgrow hnil
        refine hK.out _ _ (unhide S8 _ (unhide K9)) (fun hHeld => ?_)
        clear hK K
        try simp only [Act.put, List.setIfInBounds_toArray, List.set_cons_zero, List.set_cons_succ]
        refine wpAnyH_take (i := 23) (v := ?_) rfl (by kernel_rfl) (by kernel_rfl) (by kernel_rfl) (fun _ _ _ h => h) (Or.inl ⟨by rfl, ?_⟩) hHeld ?_
        rotate_left
        · intro w hSw
          try dsimp only at hSw
          go_simp
          try with_reducible rfl
        show wpAnyH _ _ _ _ _ _ _ (Act.put _ (some 7) _) _
        try simp only [Act.put, List.setIfInBounds_toArray, List.set_cons_zero, List.set_cons_succ]
        refine wpAnyH_done (by kernel_rfl) ?_ _
        clear hHeld
        go_wp2_with fail
        go_roundw
        case rel => exact ⟨k + 1, hlt, by go_num, hide (by rw [unhide HM2, ecs_app]; exact unhide O9), K9, PB9⟩
        case measure => simp [intOf]; omega
    · have li : ¬ (k : Int) < (m : Int) := by omega
      obtain rfl : k = m := by omega
      go_wp2_with fail
      try go_ret
      exact (unhide HQ) _ _ (unhide KW) (unhide OW)
end Gp
end Go.Proofs.Ytakandlehneciaa
