/- The statements' own functions: small graphs, edges above 0, a way's length; edges appended. -/
import Derived.Test.YtfofkkjldngkaaaDoorPcC
import Derived.ArgAppend
namespace Go.Proofs.YtfofkkjldngkaaaDoor
open Go.RowKit
attribute [local go_sem ↓] Go.wp_at_zero Go.wp_at_succ
set_option linter.unusedVariables false
set_option linter.unusedSimpArgs false
set_option maxRecDepth 10000
namespace Pa
/-- edges, cell by cell -/
def ecs : List E3 → List Value
  | [] => []
  | e :: R => .int .i64 e.1 :: .int .i64 e.2.1 :: .int .i64 e.2.2 :: ecs R
theorem ecs_len : ∀ R : List E3, (ecs R).length = R.length * 3
  | [] => rfl
  | e :: R => by simp only [ecs, List.length_cons, ecs_len R]; omega
theorem ecs_app : ∀ A B : List E3, ecs (A ++ B) = ecs A ++ ecs B
  | [], B => rfl
  | e :: A, B => by simp only [List.cons_append, ecs, ecs_app A B]
theorem ecs_one : ∀ R : List E3, ∀ u ∈ ecs R, u.oneCell' = true
  | [], u, hu => by simp [ecs] at hu
  | e :: R, u, hu => by
    simp only [ecs, List.mem_cons] at hu
    rcases hu with rfl | rfl | rfl | hu
    · rfl
    · rfl
    · rfl
    · exact ecs_one R u hu
theorem ecs_at : ∀ (R : List E3) (k : Nat), k < R.length → (ecs R)[k * 3]? = some (.int .i64 (R.getD k z3).1) ∧ (ecs R)[k * 3 + 1]? = some (.int .i64 (R.getD k z3).2.1) ∧ (ecs R)[k * 3 + 2]? = some (.int .i64 (R.getD k z3).2.2)
  | [], k, h => by simp at h
  | e :: R, 0, _ => ⟨rfl, rfl, rfl⟩
  | e :: R, k + 1, h => by
    have h1 := ecs_at R k (by simpa using h)
    rw [show (k + 1) * 3 = k * 3 + 1 + 1 + 1 by omega]
    simp only [ecs, List.getD_cons_succ]
    rw [show k * 3 + 1 + 1 + 1 + 1 = (k * 3 + 1) + 1 + 1 + 1 by omega, show k * 3 + 1 + 1 + 1 + 2 = (k * 3 + 2) + 1 + 1 + 1 by omega]
    simp only [List.getElem?_cons_succ]
    exact h1
theorem Es.vs {w : World} {v : Value} {R : List E3} (h : Es w v R) : Vs w v R.length (ecs R) := by
  obtain ⟨a, cap, rfl, h⟩ := h
  refine ⟨a, cap, rfl, fun j u hj => ?_⟩
  have hl : j < R.length * 3 := by
    rcases Nat.lt_or_ge j (R.length * 3) with h | h
    · exact h
    · rw [List.getElem?_eq_none (by rw [ecs_len]; omega)] at hj; cases hj
  have hk : j / 3 < R.length := by omega
  obtain ⟨ad, e, c0, c1, c2⟩ := h (j / 3) hk
  have e3 := ecs_at R (j / 3) hk
  refine ⟨ad, e, ?_⟩
  have ha : ∀ i : Nat, (⟨(ad.add (j / 3 * 3)).block, (ad.add (j / 3 * 3)).off + i, none⟩ : Addr) = ad.add (j / 3 * 3 + i) ∨ i = 0 := fun i => by
    by_cases h0 : i = 0
    · exact .inr h0
    · left
      unfold Addr.add
      by_cases hz : j / 3 * 3 = 0
      · simp [hz, h0]
      · have : ¬ (j / 3 * 3 + i = 0) := by omega
        simp [hz, this, Nat.add_assoc]
  rcases (by omega : j = j / 3 * 3 ∨ j = j / 3 * 3 + 1 ∨ j = j / 3 * 3 + 2) with h0 | h0 | h0
  · have h1 := e3.1
    rw [← h0] at h1 c0
    rw [c0, ← hj, h1]
  · rcases ha 1 with h2 | h2
    · have h1 := e3.2.1
      rw [h2, ← h0] at c1
      rw [← h0] at h1
      rw [c1, ← hj, h1]
    · exact absurd h2 (by decide)
  · rcases ha 2 with h2 | h2
    · have h1 := e3.2.2
      rw [h2, ← h0] at c2
      rw [← h0] at h1
      rw [c2, ← hj, h1]
    · exact absurd h2 (by decide)
theorem es_own {w : World} {B n : Nat} {e : TypeId} {v : Value} {R : List E3} (h : w.ownsRow B e 3 v n (ecs R)) (hn : n = R.length) : Es w v R := by
  subst hn
  rcases Nat.eq_zero_or_pos R.length with h0 | h0
  · have hR : R = [] := List.eq_nil_of_length_eq_zero h0
    subst hR
    obtain ⟨a, cap, rfl⟩ := own_l h
    exact ⟨a, cap, rfl, fun k hk => by simp at hk⟩
  · obtain ⟨g, cap, rfl, _, _⟩ := own_g h h0
    refine ⟨some ⟨g, 0, none⟩, cap, rfl, fun k hk => ⟨_, rfl, ?_⟩⟩
    have e3 := ecs_at R k hk
    rw [add_pl, Nat.zero_add]
    refine ⟨?_, ?_, ?_⟩
    · rw [h.cellAt _ (by omega)]; exact e3.1
    · show w.cell? ⟨g, k * 3 + 1, none⟩ = _
      rw [h.cellAt _ (by omega)]; exact e3.2.1
    · show w.cell? ⟨g, k * 3 + 2, none⟩ = _
      rw [h.cellAt _ (by omega)]; exact e3.2.2
theorem infoE : (Tryd.prog.info? 34).map (fun i => (i.zero, i.size, i.bytes)) = some (some (.agg #[.int .i64 0, .int .i64 0, .int .i64 0]), 3, 24) := by kernel_rfl
/-- is a graph small? -/
def fwB (n : Int) (m : Nat) : Bool := (decide (n ≤ 12) || decide (64 < n)) && decide (m ≤ 60)
set_option maxHeartbeats 2000000 in
theorem few_any (a : Option Addr) (m cap : Nat) (n : Int) (w : World) : Calls Tryd.prog 7 #[.int .i64 n, .slice a m cap] w fun e w' => e = .returned (.bool (fwB n m)) ∧ w' = w := by
  have HM : Hid (decide ((m : Int) ≤ 60) = decide (m ≤ 60)) := hide (by
    by_cases h : m ≤ 60
    · rw [decide_eq_true h]; simp; omega
    · rw [decide_eq_false h]; simp; omega)
  unfold fwB
  by_cases h1 : n ≤ 12
  · rw [decide_eq_true h1]
    go_enter Tryd.func7, Tryd.ntmps7
    go_wp2_with fail
    go_ret
    exact ⟨by rw [← unhide HM]; rfl, rfl⟩
  · by_cases h2 : 64 < n
    · rw [decide_eq_true h2, decide_eq_false h1]
      go_enter Tryd.func7, Tryd.ntmps7
      go_wp2_with fail
      go_ret
      exact ⟨by rw [← unhide HM]; rfl, rfl⟩
    · rw [decide_eq_false h2, decide_eq_false h1]
      go_enter Tryd.func7, Tryd.ntmps7
      go_wp2_with fail
      go_ret
      exact ⟨rfl, rfl⟩
theorem fwB_le {n : Int} {m : Nat} (h : fwB n m = true) : m ≤ 60 := by
  unfold fwB at h
  simp at h
  exact h.2
def Bq (e : Ending) : Prop := ∃ b, e = .returned (.bool b)
set_option maxHeartbeats 2000000 in
theorem simple_any (v : Value) (R : List E3) (w : World) (hR : Es w v R) (hl : R.length ≤ 1000) : Calls Tryd.prog 11 #[v] w fun e w' => Bq e ∧ w' = w := by
  obtain ⟨a, cap, rfl, hR⟩ := hR
  have HC := hide hR
  clear hR
  obtain ⟨m, hm⟩ : ∃ m, R.length = m := ⟨_, rfl⟩
  rw [hm] at hl HC ⊢
  clear hm
  go_enter Tryd.func11, Tryd.ntmps11
  go_wp2_with fail
  go_loop [3] (fun vi => ∃ k : Nat, vi = .int .i64 (k : Int) ∧ k ≤ m) (fun vi => m - (intOf vi).toNat)
  case atStart => exact ⟨0, rfl, Nat.zero_le _⟩
  case round =>
    obtain ⟨k, rfl, hk⟩ := hrel
    by_cases hlt : k < m
    · have li : (k : Int) < (m : Int) := by omega
      obtain ⟨ad, rfl, x0, x1, x2⟩ := (unhide HC) k hlt
      obtain ⟨l, hy⟩ : ∃ l, (R.getD k z3).2.2 = l := ⟨_, rfl⟩
      rw [hy] at x2
      clear hy x0 x1
      by_cases hz : l = 0
      · have hb : (l == 0) = true := by simp [hz]
        clear hz
        go_wp2_with fail
        go_ret
        exact ⟨⟨_, rfl⟩, rfl⟩
      · have hb : (l == 0) = false := by simp [hz]
        clear hz
        go_wp2_with fail
        exact ⟨⟨k + 1, by go_num, by omega⟩, by simp [intOf]; omega⟩
    · have li : ¬ (k : Int) < (m : Int) := by omega
      go_wp2_with fail
      go_ret
      exact ⟨⟨_, rfl⟩, rfl⟩
/-! ### a way's length -/
theorem bst_app : ∀ (A B : List Ed) (a p : Nat) (b : Int), bst (A ++ B) a p b = bst B a p (bst A a p b)
  | [], B, a, p, b => rfl
  | e :: A, B, a, p, b => by rw [List.cons_append, bst, bst, bst_app A B]
theorem bst_le {M : Int} : ∀ (E : List Ed) (a p : Nat) (b : Int), b ≤ M → (∀ e ∈ E, e.2.2 ≤ M) → bst E a p b ≤ M
  | [], a, p, b, h, _ => h
  | e :: E, a, p, b, h, hE => by
    rw [bst]
    have h1 := hE e (by simp)
    refine bst_le E a p _ ?_ (fun y hy => hE y (by simp [hy]))
    split <;> omega
theorem add_ne (ad : Addr) (n : Nat) : ad.add (n + 1) = ⟨ad.block, ad.off + (n + 1), none⟩ := by unfold Addr.add; simp
def Nq (x : Int) (e : Ending) : Prop := e = .returned (.int .i64 x)
set_option maxHeartbeats 4000000 in
theorem length_any (v vw : Value) (R : List E3) (n : Nat) (W : List Nat) (V : Nat → Int) (w : World) (hR : Es w v R) (hl : R.length ≤ 1000) (hG : isG (n : Int) R = true) (hW : Is w vw (nI W)) (hWl : W.length ≤ 64) (hW0 : 0 < W.length) (hnd : W.Nodup) (hVb : ∀ i, i < W.length → 0 ≤ V i ∧ V i ≤ 1000000000000) (hV0 : V 0 = 0)
    (hst : ∀ i, i + 1 < W.length → bst (nE R) (W.getD i 0) (W.getD (i + 1) 0) (-1) = V (i + 1) - V i ∧ 0 ≤ V (i + 1) - V i) :
    Calls Tryd.prog 14 #[v, vw] w fun e w' => Nq (V (W.length - 1)) e ∧ Keep w w' := by
  obtain ⟨n', hn', hn1, hn2, hg, h6, hat9⟩ := isG_gr hG
  obtain rfl : n = n' := by omega
  obtain ⟨aa, cap, rfl, hR2⟩ := hR
  obtain ⟨m, hm⟩ : ∃ m, R.length = m := ⟨_, rfl⟩
  have HM := hide hm
  rw [hm] at hl hR2 hat9 ⊢
  clear hm
  have HC := hide hR2
  obtain ⟨wa, wc, rfl, hw2⟩ := hW
  have HW := hide hw2
  rw [nI_len] at HW ⊢
  obtain ⟨wl, hwl⟩ : ∃ wl, W.length = wl := ⟨_, rfl⟩
  have HWL := hide hwl
  rw [hwl] at HW hWl hW0 hVb hst ⊢
  clear hwl hw2 hR2
  have HW2 : Hid (∀ i, i < wl → ∃ ad, wa = some ad ∧ w.cell? (ad.add i) = some (.int .i64 ((W.getD i 0 : Nat) : Int))) := hide (fun i hi => by
    obtain ⟨ad, e1, e2⟩ := (unhide HW) i hi
    refine ⟨ad, e1, ?_⟩
    rw [e2, nI, List.getD_eq_getElem?_getD, List.getD_eq_getElem?_getD, List.getElem?_map, List.getElem?_eq_getElem (by rw [unhide HWL]; exact hi)]
    rfl)
  have HND : Hid (∀ i j, i < wl → j < i → W.getD j 0 ≠ W.getD i 0) := hide (fun i j hi hj => by
    rw [List.getD_eq_getElem?_getD, List.getD_eq_getElem?_getD, List.getElem?_eq_getElem (by rw [unhide HWL]; omega), List.getElem?_eq_getElem (by rw [unhide HWL]; omega)]
    simp only [Option.getD_some]
    intro e
    have := (List.getElem_inj hnd).1 e
    omega)
  have HVb := hide hVb
  have HST := hide hst
  have HA : Hid (∀ k, k < m → ∃ f1 t1 : Nat, ∃ l1 : Int, R.getD k z3 = ((f1 : Int), (t1 : Int), l1) ∧ 0 ≤ l1 ∧ l1 ≤ 6000 ∧ ∀ a p, bst ((nE R).take (k + 1)) a p (-1) = if f1 = a ∧ t1 = p then max (bst ((nE R).take k) a p (-1)) l1 else bst ((nE R).take k) a p (-1)) := hide (fun k hk => by
    obtain ⟨f1, t1, l1, h1, h2, h3, h4, h5, h6⟩ := hat9 k hk
    exact ⟨f1, t1, l1, h1, h5, h6, fun a p => by rw [take_more h2, bst_app]; rfl⟩)
  have HB : Hid (∀ k a p, -1 ≤ bst ((nE R).take k) a p (-1) ∧ bst ((nE R).take k) a p (-1) ≤ 6000) := hide (fun k a p => ⟨(bst_ge _ a p (-1)).1, bst_le _ a p (-1) (by omega) (fun e he => h6 e (List.mem_of_mem_take he))⟩)
  have HTm : Hid ((nE R).take m = nE R) := hide (List.take_of_length_le (by rw [nE_len, unhide HM]; exact Nat.le_refl _))
  have HV0 := hide hV0
  have HP : Hid (∀ e, e = .returned (.int .i64 (V (wl - 1))) → Nq (V (wl - 1)) e) := hide (fun e h => h)
  generalize Nq (V (wl - 1)) = QN at HP ⊢
  have K0 := hide (Keep.refl w)
  clear hat9 h6 hg hG hnd hVb hst hV0
  go_enter Tryd.func14, Tryd.ntmps14
  go_wp2_with fail
  go_loopw [5, 6] (fun vs vi wr => ∃ i : Nat, vi = .int .i64 (i : Int) ∧ 1 ≤ i ∧ i ≤ wl ∧ vs = .int .i64 (V (i - 1)) ∧ Hid (Keep w wr)) (fun _ vi _ => wl - (intOf vi).toNat)
  case atStart => exact ⟨1, rfl, Nat.le_refl _, hW0, by rw [show 1 - 1 = 0 from rfl, unhide HV0], K0⟩
  case round =>
    clear K0
    obtain ⟨i, rfl, hi1, hi, rfl, KW⟩ := hrel
    by_cases hlt : i < wl
    · have li : (i : Int) < (wl : Int) := by omega
      obtain ⟨wo, hwo⟩ : ∃ wo, wo = wr := ⟨_, rfl⟩
      subst hwo
      obtain ⟨h, rfl⟩ : ∃ h, i = h + 1 := ⟨i - 1, by omega⟩
      rw [Nat.add_sub_cancel] at *
      obtain ⟨wa1, rfl, cw0⟩ := (unhide HW2) h (by omega)
      obtain ⟨wb1, hwb, cw1⟩ := (unhide HW2) (h + 1) hlt
      obtain rfl : wa1 = wb1 := by injection hwb
      obtain ⟨hs1, hs2⟩ := (unhide HST) h hlt
      have hv1 := (unhide HVb) h (by omega)
      have hv2 := (unhide HVb) (h + 1) hlt
      have HN := hide (fun j hj => (unhide HND) (h + 1) j hlt hj)
      obtain ⟨a, ha⟩ : ∃ a, W.getD h 0 = a := ⟨_, rfl⟩
      obtain ⟨p, hp⟩ : ∃ p, W.getD (h + 1) 0 = p := ⟨_, rfl⟩
      rw [ha] at cw0 hs1
      rw [hp] at cw1 hs1 HN
      have HS1 := hide hs1
      obtain ⟨V1, hV1⟩ : ∃ V1, V h = V1 := ⟨_, rfl⟩
      obtain ⟨V2, hV2⟩ : ∃ V2, V (h + 1) = V2 := ⟨_, rfl⟩
      have HV2 := hide hV2
      rw [hV1] at hv1 hs2 HS1 ⊢
      rw [hV2] at hv2 hs2 HS1
      rw [add_ne] at cw1
      have C0 := hide cw0
      have C1 := hide cw1
      have hi63 : ((h : Int) + 1) - 1 = (h : Int) := by omega
      have hi66 : IntKind.i64.wrap (h : Int) = (h : Int) := by rw [IntKind.wrap_i64]; omega
      have hlw : (h : Int) + 1 < (wl : Int) := by omega
      have hnt : ((h : Int) + 1).toNat = h + 1 := by omega
      have hi64 : wrap64 ((h : Int) + 1 - 1) = (h : Int) := by rw [hi63]; exact wrap_in ⟨by omega, by omega⟩
      have hi65 : IntKind.i64.wrap ((h : Int) + 1 - 1) = (h : Int) := by rw [hi63, IntKind.wrap_i64]; omega
      clear hwb hs1 ha hp hV1 hV2 cw0 cw1
      go_wp2_with fail
      go_loopw [7, 8] (fun vb vk wr => ∃ k : Nat, vk = .int .i64 (k : Int) ∧ k ≤ m ∧ vb = .int .i64 (bst ((nE R).take k) a p (-1)) ∧ Hid (Keep wo wr)) (fun _ vk _ => m - (intOf vk).toNat)
      case atStart => exact ⟨0, rfl, Nat.zero_le _, rfl, hide (Keep.refl _)⟩
      case round =>
        obtain ⟨k, rfl, hk, rfl, KV⟩ := hrel
        by_cases hkm : k < m
        · have ki : (k : Int) < (m : Int) := by omega
          obtain ⟨ad, rfl, hc3⟩ := (unhide HC) k hkm
          obtain ⟨f1, t1, l1, hr, hl0, hl6, hbk⟩ := (unhide HA) k hkm
          rw [hr] at hc3
          have KX := hide ((unhide KW).trans (unhide KV))
          obtain ⟨x0, x1, x2⟩ := hc3.keep (unhide KX)
          simp only at x0 x1 x2
          have y0 := kc (unhide KX) (unhide C0)
          have y1 := kc (unhide KX) (unhide C1)
          have HBk := hide (hbk a p)
          obtain ⟨B, hB⟩ : ∃ B, bst ((nE R).take k) a p (-1) = B := ⟨_, rfl⟩
          obtain ⟨B2, hB2⟩ : ∃ B2, bst ((nE R).take (k + 1)) a p (-1) = B2 := ⟨_, rfl⟩
          rw [hB, hB2] at HBk
          rw [hB]
          have HB2 := hide hB2
          clear hbk hc3 hr hB hB2
          have CK : Hid (∀ w', Keep wr w' → w'.cell? (ad.add (k * 3)) = some (.int .i64 (f1 : Int)) ∧ w'.cell? ⟨(ad.add (k * 3)).block, (ad.add (k * 3)).off + 1, none⟩ = some (.int .i64 (t1 : Int)) ∧ w'.cell? (wa1.add h) = some (.int .i64 (a : Int)) ∧ w'.cell? ⟨wa1.block, wa1.off + (h + 1), none⟩ = some (.int .i64 (p : Int))) := hide (fun w' hk => ⟨kc hk x0, kc hk x1, kc hk y0, kc hk y1⟩)
          have X2 := hide x2
          have hz0 : (0 : Int) ≤ (h : Int) := by omega
          have hz1 : (h : Int) < (wl : Int) := by omega
          have hz2 : (0 : Int) ≤ (h : Int) + 1 := by omega
          clear x0 x1 x2 y0 y1
          by_cases hf1 : f1 = a
          · have hb1 : ((f1 : Int) == (a : Int)) = true := by simp; omega
            by_cases ht1 : t1 = p
            · have hb2 : ((t1 : Int) == (p : Int)) = true := by simp; omega
              have HBn : Hid (B2 = max B l1) := hide (by rw [unhide HBk, if_pos ⟨hf1, ht1⟩])
              have x2 := unhide X2
              clear hf1 ht1
              go_upto_region 9 with fail
              refine wp_region_held_drew (S := (fun w' => w'.cell? (ad.add (k * 3)) = some (.int .i64 (f1 : Int)) ∧ w'.cell? ⟨(ad.add (k * 3)).block, (ad.add (k * 3)).off + 1, none⟩ = some (.int .i64 (t1 : Int)) ∧ w'.cell? (wa1.add h) = some (.int .i64 (a : Int)) ∧ w'.cell? ⟨wa1.block, wa1.off + (h + 1), none⟩ = some (.int .i64 (p : Int)))) (by kernel_rfl) (by exact unhide CK _ (by repeat (first | apply Keep.drew | exact Keep.refl _))) (fun hHeld => ?_)
              refine wpAnyH_take (i := 0) (v := ?_) rfl (by kernel_rfl) (by kernel_rfl) (by kernel_rfl) (fun _ _ _ h => h) (Or.inl ⟨by rfl, ?_⟩) hHeld ?_
              rotate_left
              · intro w hSw
                try dsimp only at hSw
                go_simp
                try with_reducible rfl
              show wpAnyH _ _ _ _ _ _ _ (Act.put _ (some 22) _) _
              try simp only [Act.put, List.setIfInBounds_toArray, List.set_cons_zero, List.set_cons_succ]
              refine wpAnyH_take (i := 1) (v := ?_) rfl (by kernel_rfl) (by kernel_rfl) (by kernel_rfl) (fun _ _ _ h => h) (Or.inl ⟨by rfl, ?_⟩) hHeld ?_
              rotate_left
              · intro w hSw
                try dsimp only at hSw
                go_simp
                try with_reducible rfl
              show wpAnyH _ _ _ _ _ _ _ (Act.put _ (some 23) _) _
              try simp only [Act.put, List.setIfInBounds_toArray, List.set_cons_zero, List.set_cons_succ]
              refine wpAnyH_take (i := 2) (v := ?_) rfl (by kernel_rfl) (by kernel_rfl) (by kernel_rfl) (fun _ _ _ h => h) (Or.inl ⟨by rfl, ?_⟩) hHeld ?_
              rotate_left
              · intro w hSw
                try dsimp only at hSw
                go_simp
                try with_reducible rfl
              show wpAnyH _ _ _ _ _ _ _ (Act.put _ (some 24) _) _
              try simp only [Act.put, List.setIfInBounds_toArray, List.set_cons_zero, List.set_cons_succ]
              refine wpAnyH_take (i := 3) (v := ?_) rfl (by kernel_rfl) (by kernel_rfl) (by kernel_rfl) (fun _ _ _ h => h) (Or.inl ⟨by rfl, ?_⟩) hHeld ?_
              rotate_left
              · intro w hSw
                try dsimp only at hSw
                go_simp
                try with_reducible rfl
              show wpAnyH _ _ _ _ _ _ _ (Act.put _ (some 25) _) _
              try simp only [Act.put, List.setIfInBounds_toArray, List.set_cons_zero, List.set_cons_succ]
              refine wpAnyH_take (i := 4) (v := ?_) rfl (by kernel_rfl) (by kernel_rfl) (by kernel_rfl) (fun _ _ _ h => h) (Or.inl ⟨by rfl, ?_⟩) hHeld ?_
              rotate_left
              · intro w hSw
                try dsimp only at hSw
                go_simp
                try with_reducible rfl
              show wpAnyH _ _ _ _ _ _ _ (Act.put _ (some 26) _) _
              try simp only [Act.put, List.setIfInBounds_toArray, List.set_cons_zero, List.set_cons_succ]
              refine wpAnyH_take (i := 5) (v := ?_) rfl (by kernel_rfl) (by kernel_rfl) (by kernel_rfl) (fun _ _ _ h => h) (Or.inl ⟨by rfl, ?_⟩) hHeld ?_
              rotate_left
              · intro w hSw
                try dsimp only at hSw
                go_simp
                try with_reducible rfl
              show wpAnyH _ _ _ _ _ _ _ (Act.put _ (some 27) _) _
              try simp only [Act.put, List.setIfInBounds_toArray, List.set_cons_zero, List.set_cons_succ]
              refine wpAnyH_take (i := 6) (v := ?_) rfl (by kernel_rfl) (by kernel_rfl) (by kernel_rfl) (fun _ _ _ h => h) (Or.inl ⟨by rfl, ?_⟩) hHeld ?_
              rotate_left
              · intro w hSw
                try dsimp only at hSw
                go_simp
                try with_reducible rfl
              show wpAnyH _ _ _ _ _ _ _ (Act.put _ (some 28) _) _
              try simp only [Act.put, List.setIfInBounds_toArray, List.set_cons_zero, List.set_cons_succ]
              refine wpAnyH_take (i := 7) (v := ?_) rfl (by kernel_rfl) (by kernel_rfl) (by kernel_rfl) (fun _ _ _ h => h) (Or.inl ⟨by rfl, ?_⟩) hHeld ?_
              rotate_left
              · intro w hSw
                try dsimp only at hSw
                go_simp
                try with_reducible rfl
              show wpAnyH _ _ _ _ _ _ _ (Act.put _ (some 29) _) _
              try simp only [Act.put, List.setIfInBounds_toArray, List.set_cons_zero, List.set_cons_succ]
              refine wpAnyH_take (i := 8) (v := ?_) rfl (by kernel_rfl) (by kernel_rfl) (by kernel_rfl) (fun _ _ _ h => h) (Or.inl ⟨by rfl, ?_⟩) hHeld ?_
              rotate_left
              · intro w hSw
                try dsimp only at hSw
                go_simp
                try with_reducible rfl
              show wpAnyH _ _ _ _ _ _ _ (Act.put _ (some 30) _) _
              try simp only [Act.put, List.setIfInBounds_toArray, List.set_cons_zero, List.set_cons_succ]
              refine wpAnyH_take (i := 9) (v := ?_) rfl (by kernel_rfl) (by kernel_rfl) (by kernel_rfl) (fun _ _ _ h => h) (Or.inl ⟨by rfl, ?_⟩) hHeld ?_
              rotate_left
              · intro w hSw
                try dsimp only at hSw
                go_simp
                try with_reducible rfl
              show wpAnyH _ _ _ _ _ _ _ (Act.put _ (some 31) _) _
              try simp only [Act.put, List.setIfInBounds_toArray, List.set_cons_zero, List.set_cons_succ]
              refine wpAnyH_take (i := 10) (v := ?_) rfl (by kernel_rfl) (by kernel_rfl) (by kernel_rfl) (fun _ _ _ h => h) (Or.inl ⟨by rfl, ?_⟩) hHeld ?_
              rotate_left
              · intro w hSw
                try dsimp only at hSw
                go_simp
                try with_reducible rfl
              show wpAnyH _ _ _ _ _ _ _ (Act.put _ (some 32) _) _
              try simp only [Act.put, List.setIfInBounds_toArray, List.set_cons_zero, List.set_cons_succ]
              refine wpAnyH_take (i := 11) (v := ?_) rfl (by kernel_rfl) (by kernel_rfl) (by kernel_rfl) (fun _ _ _ h => h) (Or.inl ⟨by rfl, ?_⟩) hHeld ?_
              rotate_left
              · intro w hSw
                try dsimp only at hSw
                go_simp
                try with_reducible rfl
              show wpAnyH _ _ _ _ _ _ _ (Act.put _ (some 33) _) _
              try simp only [Act.put, List.setIfInBounds_toArray, List.set_cons_zero, List.set_cons_succ]
              refine wpAnyH_take (i := 12) (v := ?_) rfl (by kernel_rfl) (by kernel_rfl) (by kernel_rfl) (fun _ _ _ h => h) (Or.inl ⟨by rfl, ?_⟩) hHeld ?_
              rotate_left
              · intro w hSw
                try dsimp only at hSw
                go_simp
                try with_reducible rfl
              show wpAnyH _ _ _ _ _ _ _ (Act.put _ (some 34) _) _
              try simp only [Act.put, List.setIfInBounds_toArray, List.set_cons_zero, List.set_cons_succ]
              refine wpAnyH_take (i := 13) (v := ?_) rfl (by kernel_rfl) (by kernel_rfl) (by kernel_rfl) (fun _ _ _ h => h) (Or.inl ⟨by rfl, ?_⟩) hHeld ?_
              rotate_left
              · intro w hSw
                try dsimp only at hSw
                go_simp
                try with_reducible rfl
              show wpAnyH _ _ _ _ _ _ _ (Act.put _ (some 35) _) _
              try simp only [Act.put, List.setIfInBounds_toArray, List.set_cons_zero, List.set_cons_succ]
              refine wpAnyH_take (i := 14) (v := ?_) rfl (by kernel_rfl) (by kernel_rfl) (by kernel_rfl) (fun _ _ _ h => h) (Or.inl ⟨by rfl, ?_⟩) hHeld ?_
              rotate_left
              · intro w hSw
                try dsimp only at hSw
                go_simp
                try with_reducible rfl
              show wpAnyH _ _ _ _ _ _ _ (Act.put _ (some 36) _) _
              try simp only [Act.put, List.setIfInBounds_toArray, List.set_cons_zero, List.set_cons_succ]
              refine wpAnyH_take (i := 15) (v := ?_) rfl (by kernel_rfl) (by kernel_rfl) (by kernel_rfl) (fun _ _ _ h => h) (Or.inl ⟨by rfl, ?_⟩) hHeld ?_
              rotate_left
              · intro w hSw
                try dsimp only at hSw
                go_simp
                try with_reducible rfl
              show wpAnyH _ _ _ _ _ _ _ (Act.put _ (some 37) _) _
              try simp only [Act.put, List.setIfInBounds_toArray, List.set_cons_zero, List.set_cons_succ]
              refine wpAnyH_take (i := 16) (v := ?_) rfl (by kernel_rfl) (by kernel_rfl) (by kernel_rfl) (fun _ _ _ h => h) (Or.inl ⟨by rfl, ?_⟩) hHeld ?_
              rotate_left
              · intro w hSw
                try dsimp only at hSw
                go_simp
                try with_reducible rfl
              show wpAnyH _ _ _ _ _ _ _ (Act.put _ (some 38) _) _
              try simp only [Act.put, List.setIfInBounds_toArray, List.set_cons_zero, List.set_cons_succ]
              refine wpAnyH_take (i := 17) (v := ?_) rfl (by kernel_rfl) (by kernel_rfl) (by kernel_rfl) (fun _ _ _ h => h) (Or.inl ⟨by rfl, ?_⟩) hHeld ?_
              rotate_left
              · intro w hSw
                try dsimp only at hSw
                go_simp
                try with_reducible rfl
              show wpAnyH _ _ _ _ _ _ _ (Act.put _ (some 39) _) _
              try simp only [Act.put, List.setIfInBounds_toArray, List.set_cons_zero, List.set_cons_succ]
              refine wpAnyH_take (i := 18) (v := ?_) rfl (by kernel_rfl) (by kernel_rfl) (by kernel_rfl) (fun _ _ _ h => h) (Or.inl ⟨by rfl, ?_⟩) hHeld ?_
              rotate_left
              · intro w hSw
                try dsimp only at hSw
                go_simp
                try with_reducible rfl
              show wpAnyH _ _ _ _ _ _ _ (Act.put _ (some 40) _) _
              try simp only [Act.put, List.setIfInBounds_toArray, List.set_cons_zero, List.set_cons_succ]
              refine wpAnyH_take (i := 19) (v := ?_) rfl (by kernel_rfl) (by kernel_rfl) (by kernel_rfl) (fun _ _ _ h => h) (Or.inl ⟨by rfl, ?_⟩) hHeld ?_
              rotate_left
              · intro w hSw
                try dsimp only at hSw
                go_simp
                try with_reducible rfl
              show wpAnyH _ _ _ _ _ _ _ (Act.put _ (some 41) _) _
              try simp only [Act.put, List.setIfInBounds_toArray, List.set_cons_zero, List.set_cons_succ]
              refine wpAnyH_take (i := 20) (v := ?_) rfl (by kernel_rfl) (by kernel_rfl) (by kernel_rfl) (fun _ _ _ h => h) (Or.inl ⟨by rfl, ?_⟩) hHeld ?_
              rotate_left
              · intro w hSw
                try dsimp only at hSw
                go_simp
                try with_reducible rfl
              show wpAnyH _ _ _ _ _ _ _ (Act.put _ (some 42) _) _
              try simp only [Act.put, List.setIfInBounds_toArray, List.set_cons_zero, List.set_cons_succ]
              refine wpAnyH_take (i := 21) (v := ?_) rfl (by kernel_rfl) (by kernel_rfl) (by kernel_rfl) (fun _ _ _ h => h) (Or.inl ⟨by rfl, ?_⟩) hHeld ?_
              rotate_left
              · intro w hSw
                try dsimp only at hSw
                go_simp
                try with_reducible rfl
              show wpAnyH _ _ _ _ _ _ _ (Act.put _ (some 43) _) _
              try simp only [Act.put, List.setIfInBounds_toArray, List.set_cons_zero, List.set_cons_succ]
              refine wpAnyH_take (i := 22) (v := ?_) rfl (by kernel_rfl) (by kernel_rfl) (by kernel_rfl) (fun _ _ _ h => h) (Or.inl ⟨by rfl, ?_⟩) hHeld ?_
              rotate_left
              · intro w hSw
                try dsimp only at hSw
                go_simp
                try with_reducible rfl
              show wpAnyH _ _ _ _ _ _ _ (Act.put _ (some 44) _) _
              try simp only [Act.put, List.setIfInBounds_toArray, List.set_cons_zero, List.set_cons_succ]
              refine wpAnyH_done (by kernel_rfl) ?_ _
              clear hHeld
              go_wp2_with fail
              go_roundw
              case rel => exact ⟨k + 1, by go_num, by omega, by rw [unhide HB2, unhide HBn]; congr 1; split <;> omega, hide (by have := unhide KV; repeat (first | exact this | apply Keep.drew))⟩
              case measure => simp [intOf]; omega
            · have hb2 : ((t1 : Int) == (p : Int)) = false := by simp; omega
              have HBn : Hid (B2 = B) := hide (by rw [unhide HBk, if_neg (fun e => ht1 e.2)])
              clear hf1 ht1
              go_upto_region 9 with fail
              refine wp_region_held_drew (S := (fun w' => w'.cell? (ad.add (k * 3)) = some (.int .i64 (f1 : Int)) ∧ w'.cell? ⟨(ad.add (k * 3)).block, (ad.add (k * 3)).off + 1, none⟩ = some (.int .i64 (t1 : Int)) ∧ w'.cell? (wa1.add h) = some (.int .i64 (a : Int)) ∧ w'.cell? ⟨wa1.block, wa1.off + (h + 1), none⟩ = some (.int .i64 (p : Int)))) (by kernel_rfl) (by exact unhide CK _ (by repeat (first | apply Keep.drew | exact Keep.refl _))) (fun hHeld => ?_)
              refine wpAnyH_take (i := 0) (v := ?_) rfl (by kernel_rfl) (by kernel_rfl) (by kernel_rfl) (fun _ _ _ h => h) (Or.inl ⟨by rfl, ?_⟩) hHeld ?_
              rotate_left
              · intro w hSw
                try dsimp only at hSw
                go_simp
                try with_reducible rfl
              show wpAnyH _ _ _ _ _ _ _ (Act.put _ (some 22) _) _
              try simp only [Act.put, List.setIfInBounds_toArray, List.set_cons_zero, List.set_cons_succ]
              refine wpAnyH_take (i := 1) (v := ?_) rfl (by kernel_rfl) (by kernel_rfl) (by kernel_rfl) (fun _ _ _ h => h) (Or.inl ⟨by rfl, ?_⟩) hHeld ?_
              rotate_left
              · intro w hSw
                try dsimp only at hSw
                go_simp
                try with_reducible rfl
              show wpAnyH _ _ _ _ _ _ _ (Act.put _ (some 23) _) _
              try simp only [Act.put, List.setIfInBounds_toArray, List.set_cons_zero, List.set_cons_succ]
              refine wpAnyH_take (i := 2) (v := ?_) rfl (by kernel_rfl) (by kernel_rfl) (by kernel_rfl) (fun _ _ _ h => h) (Or.inl ⟨by rfl, ?_⟩) hHeld ?_
              rotate_left
              · intro w hSw
                try dsimp only at hSw
                go_simp
                try with_reducible rfl
              show wpAnyH _ _ _ _ _ _ _ (Act.put _ (some 24) _) _
              try simp only [Act.put, List.setIfInBounds_toArray, List.set_cons_zero, List.set_cons_succ]
              refine wpAnyH_take (i := 3) (v := ?_) rfl (by kernel_rfl) (by kernel_rfl) (by kernel_rfl) (fun _ _ _ h => h) (Or.inl ⟨by rfl, ?_⟩) hHeld ?_
              rotate_left
              · intro w hSw
                try dsimp only at hSw
                go_simp
                try with_reducible rfl
              show wpAnyH _ _ _ _ _ _ _ (Act.put _ (some 25) _) _
              try simp only [Act.put, List.setIfInBounds_toArray, List.set_cons_zero, List.set_cons_succ]
              refine wpAnyH_take (i := 4) (v := ?_) rfl (by kernel_rfl) (by kernel_rfl) (by kernel_rfl) (fun _ _ _ h => h) (Or.inl ⟨by rfl, ?_⟩) hHeld ?_
              rotate_left
              · intro w hSw
                try dsimp only at hSw
                go_simp
                try with_reducible rfl
              show wpAnyH _ _ _ _ _ _ _ (Act.put _ (some 26) _) _
              try simp only [Act.put, List.setIfInBounds_toArray, List.set_cons_zero, List.set_cons_succ]
              refine wpAnyH_take (i := 5) (v := ?_) rfl (by kernel_rfl) (by kernel_rfl) (by kernel_rfl) (fun _ _ _ h => h) (Or.inl ⟨by rfl, ?_⟩) hHeld ?_
              rotate_left
              · intro w hSw
                try dsimp only at hSw
                go_simp
                try with_reducible rfl
              show wpAnyH _ _ _ _ _ _ _ (Act.put _ (some 27) _) _
              try simp only [Act.put, List.setIfInBounds_toArray, List.set_cons_zero, List.set_cons_succ]
              refine wpAnyH_take (i := 6) (v := ?_) rfl (by kernel_rfl) (by kernel_rfl) (by kernel_rfl) (fun _ _ _ h => h) (Or.inl ⟨by rfl, ?_⟩) hHeld ?_
              rotate_left
              · intro w hSw
                try dsimp only at hSw
                go_simp
                try with_reducible rfl
              show wpAnyH _ _ _ _ _ _ _ (Act.put _ (some 28) _) _
              try simp only [Act.put, List.setIfInBounds_toArray, List.set_cons_zero, List.set_cons_succ]
              refine wpAnyH_take (i := 7) (v := ?_) rfl (by kernel_rfl) (by kernel_rfl) (by kernel_rfl) (fun _ _ _ h => h) (Or.inl ⟨by rfl, ?_⟩) hHeld ?_
              rotate_left
              · intro w hSw
                try dsimp only at hSw
                go_simp
                try with_reducible rfl
              show wpAnyH _ _ _ _ _ _ _ (Act.put _ (some 29) _) _
              try simp only [Act.put, List.setIfInBounds_toArray, List.set_cons_zero, List.set_cons_succ]
              refine wpAnyH_take (i := 8) (v := ?_) rfl (by kernel_rfl) (by kernel_rfl) (by kernel_rfl) (fun _ _ _ h => h) (Or.inl ⟨by rfl, ?_⟩) hHeld ?_
              rotate_left
              · intro w hSw
                try dsimp only at hSw
                go_simp
                try with_reducible rfl
              show wpAnyH _ _ _ _ _ _ _ (Act.put _ (some 30) _) _
              try simp only [Act.put, List.setIfInBounds_toArray, List.set_cons_zero, List.set_cons_succ]
              refine wpAnyH_take (i := 9) (v := ?_) rfl (by kernel_rfl) (by kernel_rfl) (by kernel_rfl) (fun _ _ _ h => h) (Or.inl ⟨by rfl, ?_⟩) hHeld ?_
              rotate_left
              · intro w hSw
                try dsimp only at hSw
                go_simp
                try with_reducible rfl
              show wpAnyH _ _ _ _ _ _ _ (Act.put _ (some 31) _) _
              try simp only [Act.put, List.setIfInBounds_toArray, List.set_cons_zero, List.set_cons_succ]
              refine wpAnyH_take (i := 10) (v := ?_) rfl (by kernel_rfl) (by kernel_rfl) (by kernel_rfl) (fun _ _ _ h => h) (Or.inl ⟨by rfl, ?_⟩) hHeld ?_
              rotate_left
              · intro w hSw
                try dsimp only at hSw
                go_simp
                try with_reducible rfl
              show wpAnyH _ _ _ _ _ _ _ (Act.put _ (some 32) _) _
              try simp only [Act.put, List.setIfInBounds_toArray, List.set_cons_zero, List.set_cons_succ]
              refine wpAnyH_take (i := 11) (v := ?_) rfl (by kernel_rfl) (by kernel_rfl) (by kernel_rfl) (fun _ _ _ h => h) (Or.inl ⟨by rfl, ?_⟩) hHeld ?_
              rotate_left
              · intro w hSw
                try dsimp only at hSw
                go_simp
                try with_reducible rfl
              show wpAnyH _ _ _ _ _ _ _ (Act.put _ (some 33) _) _
              try simp only [Act.put, List.setIfInBounds_toArray, List.set_cons_zero, List.set_cons_succ]
              refine wpAnyH_take (i := 12) (v := ?_) rfl (by kernel_rfl) (by kernel_rfl) (by kernel_rfl) (fun _ _ _ h => h) (Or.inl ⟨by rfl, ?_⟩) hHeld ?_
              rotate_left
              · intro w hSw
                try dsimp only at hSw
                go_simp
                try with_reducible rfl
              show wpAnyH _ _ _ _ _ _ _ (Act.put _ (some 34) _) _
              try simp only [Act.put, List.setIfInBounds_toArray, List.set_cons_zero, List.set_cons_succ]
              refine wpAnyH_take (i := 13) (v := ?_) rfl (by kernel_rfl) (by kernel_rfl) (by kernel_rfl) (fun _ _ _ h => h) (Or.inl ⟨by rfl, ?_⟩) hHeld ?_
              rotate_left
              · intro w hSw
                try dsimp only at hSw
                go_simp
                try with_reducible rfl
              show wpAnyH _ _ _ _ _ _ _ (Act.put _ (some 35) _) _
              try simp only [Act.put, List.setIfInBounds_toArray, List.set_cons_zero, List.set_cons_succ]
              refine wpAnyH_take (i := 14) (v := ?_) rfl (by kernel_rfl) (by kernel_rfl) (by kernel_rfl) (fun _ _ _ h => h) (Or.inl ⟨by rfl, ?_⟩) hHeld ?_
              rotate_left
              · intro w hSw
                try dsimp only at hSw
                go_simp
                try with_reducible rfl
              show wpAnyH _ _ _ _ _ _ _ (Act.put _ (some 36) _) _
              try simp only [Act.put, List.setIfInBounds_toArray, List.set_cons_zero, List.set_cons_succ]
              refine wpAnyH_take (i := 15) (v := ?_) rfl (by kernel_rfl) (by kernel_rfl) (by kernel_rfl) (fun _ _ _ h => h) (Or.inl ⟨by rfl, ?_⟩) hHeld ?_
              rotate_left
              · intro w hSw
                try dsimp only at hSw
                go_simp
                try with_reducible rfl
              show wpAnyH _ _ _ _ _ _ _ (Act.put _ (some 37) _) _
              try simp only [Act.put, List.setIfInBounds_toArray, List.set_cons_zero, List.set_cons_succ]
              refine wpAnyH_take (i := 16) (v := ?_) rfl (by kernel_rfl) (by kernel_rfl) (by kernel_rfl) (fun _ _ _ h => h) (Or.inl ⟨by rfl, ?_⟩) hHeld ?_
              rotate_left
              · intro w hSw
                try dsimp only at hSw
                go_simp
                try with_reducible rfl
              show wpAnyH _ _ _ _ _ _ _ (Act.put _ (some 38) _) _
              try simp only [Act.put, List.setIfInBounds_toArray, List.set_cons_zero, List.set_cons_succ]
              refine wpAnyH_take (i := 17) (v := ?_) rfl (by kernel_rfl) (by kernel_rfl) (by kernel_rfl) (fun _ _ _ h => h) (Or.inl ⟨by rfl, ?_⟩) hHeld ?_
              rotate_left
              · intro w hSw
                try dsimp only at hSw
                go_simp
                try with_reducible rfl
              show wpAnyH _ _ _ _ _ _ _ (Act.put _ (some 39) _) _
              try simp only [Act.put, List.setIfInBounds_toArray, List.set_cons_zero, List.set_cons_succ]
              refine wpAnyH_take (i := 18) (v := ?_) rfl (by kernel_rfl) (by kernel_rfl) (by kernel_rfl) (fun _ _ _ h => h) (Or.inl ⟨by rfl, ?_⟩) hHeld ?_
              rotate_left
              · intro w hSw
                try dsimp only at hSw
                go_simp
                try with_reducible rfl
              show wpAnyH _ _ _ _ _ _ _ (Act.put _ (some 40) _) _
              try simp only [Act.put, List.setIfInBounds_toArray, List.set_cons_zero, List.set_cons_succ]
              refine wpAnyH_take (i := 19) (v := ?_) rfl (by kernel_rfl) (by kernel_rfl) (by kernel_rfl) (fun _ _ _ h => h) (Or.inl ⟨by rfl, ?_⟩) hHeld ?_
              rotate_left
              · intro w hSw
                try dsimp only at hSw
                go_simp
                try with_reducible rfl
              show wpAnyH _ _ _ _ _ _ _ (Act.put _ (some 41) _) _
              try simp only [Act.put, List.setIfInBounds_toArray, List.set_cons_zero, List.set_cons_succ]
              refine wpAnyH_take (i := 20) (v := ?_) rfl (by kernel_rfl) (by kernel_rfl) (by kernel_rfl) (fun _ _ _ h => h) (Or.inl ⟨by rfl, ?_⟩) hHeld ?_
              rotate_left
              · intro w hSw
                try dsimp only at hSw
                go_simp
                try with_reducible rfl
              show wpAnyH _ _ _ _ _ _ _ (Act.put _ (some 42) _) _
              try simp only [Act.put, List.setIfInBounds_toArray, List.set_cons_zero, List.set_cons_succ]
              refine wpAnyH_take (i := 21) (v := ?_) rfl (by kernel_rfl) (by kernel_rfl) (by kernel_rfl) (fun _ _ _ h => h) (Or.inl ⟨by rfl, ?_⟩) hHeld ?_
              rotate_left
              · intro w hSw
                try dsimp only at hSw
                go_simp
                try with_reducible rfl
              show wpAnyH _ _ _ _ _ _ _ (Act.put _ (some 43) _) _
              try simp only [Act.put, List.setIfInBounds_toArray, List.set_cons_zero, List.set_cons_succ]
              refine wpAnyH_take (i := 22) (v := ?_) rfl (by kernel_rfl) (by kernel_rfl) (by kernel_rfl) (fun _ _ _ h => h) (Or.inl ⟨by rfl, ?_⟩) hHeld ?_
              rotate_left
              · intro w hSw
                try dsimp only at hSw
                go_simp
                try with_reducible rfl
              show wpAnyH _ _ _ _ _ _ _ (Act.put _ (some 44) _) _
              try simp only [Act.put, List.setIfInBounds_toArray, List.set_cons_zero, List.set_cons_succ]
              refine wpAnyH_done (by kernel_rfl) ?_ _
              clear hHeld
              go_wp2_with fail
              go_roundw
              case rel => exact ⟨k + 1, by go_num, by omega, by rw [unhide HB2, unhide HBn], hide (by have := unhide KV; repeat (first | exact this | apply Keep.drew))⟩
              case measure => simp [intOf]; omega
          · have hb1 : ((f1 : Int) == (a : Int)) = false := by simp; omega
            have HBn : Hid (B2 = B) := hide (by rw [unhide HBk, if_neg (fun e => hf1 e.1)])
            clear hf1
            go_upto_region 9 with fail
            refine wp_region_held_drew (S := (fun w' => w'.cell? (ad.add (k * 3)) = some (.int .i64 (f1 : Int)) ∧ w'.cell? ⟨(ad.add (k * 3)).block, (ad.add (k * 3)).off + 1, none⟩ = some (.int .i64 (t1 : Int)) ∧ w'.cell? (wa1.add h) = some (.int .i64 (a : Int)) ∧ w'.cell? ⟨wa1.block, wa1.off + (h + 1), none⟩ = some (.int .i64 (p : Int)))) (by kernel_rfl) (by exact unhide CK _ (by repeat (first | apply Keep.drew | exact Keep.refl _))) (fun hHeld => ?_)
            refine wpAnyH_take (i := 0) (v := ?_) rfl (by kernel_rfl) (by kernel_rfl) (by kernel_rfl) (fun _ _ _ h => h) (Or.inl ⟨by rfl, ?_⟩) hHeld ?_
            rotate_left
            · intro w hSw
              try dsimp only at hSw
              go_simp
              try with_reducible rfl
            show wpAnyH _ _ _ _ _ _ _ (Act.put _ (some 22) _) _
            try simp only [Act.put, List.setIfInBounds_toArray, List.set_cons_zero, List.set_cons_succ]
            refine wpAnyH_take (i := 1) (v := ?_) rfl (by kernel_rfl) (by kernel_rfl) (by kernel_rfl) (fun _ _ _ h => h) (Or.inl ⟨by rfl, ?_⟩) hHeld ?_
            rotate_left
            · intro w hSw
              try dsimp only at hSw
              go_simp
              try with_reducible rfl
            show wpAnyH _ _ _ _ _ _ _ (Act.put _ (some 23) _) _
            try simp only [Act.put, List.setIfInBounds_toArray, List.set_cons_zero, List.set_cons_succ]
            refine wpAnyH_take (i := 2) (v := ?_) rfl (by kernel_rfl) (by kernel_rfl) (by kernel_rfl) (fun _ _ _ h => h) (Or.inl ⟨by rfl, ?_⟩) hHeld ?_
            rotate_left
            · intro w hSw
              try dsimp only at hSw
              go_simp
              try with_reducible rfl
            show wpAnyH _ _ _ _ _ _ _ (Act.put _ (some 24) _) _
            try simp only [Act.put, List.setIfInBounds_toArray, List.set_cons_zero, List.set_cons_succ]
            refine wpAnyH_take (i := 3) (v := ?_) rfl (by kernel_rfl) (by kernel_rfl) (by kernel_rfl) (fun _ _ _ h => h) (Or.inl ⟨by rfl, ?_⟩) hHeld ?_
            rotate_left
            · intro w hSw
              try dsimp only at hSw
              go_simp
              try with_reducible rfl
            show wpAnyH _ _ _ _ _ _ _ (Act.put _ (some 25) _) _
            try simp only [Act.put, List.setIfInBounds_toArray, List.set_cons_zero, List.set_cons_succ]
            refine wpAnyH_take (i := 4) (v := ?_) rfl (by kernel_rfl) (by kernel_rfl) (by kernel_rfl) (fun _ _ _ h => h) (Or.inl ⟨by rfl, ?_⟩) hHeld ?_
            rotate_left
            · intro w hSw
              try dsimp only at hSw
              go_simp
              try with_reducible rfl
            show wpAnyH _ _ _ _ _ _ _ (Act.put _ (some 26) _) _
            try simp only [Act.put, List.setIfInBounds_toArray, List.set_cons_zero, List.set_cons_succ]
            refine wpAnyH_take (i := 5) (v := ?_) rfl (by kernel_rfl) (by kernel_rfl) (by kernel_rfl) (fun _ _ _ h => h) (Or.inl ⟨by rfl, ?_⟩) hHeld ?_
            rotate_left
            · intro w hSw
              try dsimp only at hSw
              go_simp
              try with_reducible rfl
            show wpAnyH _ _ _ _ _ _ _ (Act.put _ (some 27) _) _
            try simp only [Act.put, List.setIfInBounds_toArray, List.set_cons_zero, List.set_cons_succ]
            refine wpAnyH_take (i := 6) (v := ?_) rfl (by kernel_rfl) (by kernel_rfl) (by kernel_rfl) (fun _ _ _ h => h) (Or.inl ⟨by rfl, ?_⟩) hHeld ?_
            rotate_left
            · intro w hSw
              try dsimp only at hSw
              go_simp
              try with_reducible rfl
            show wpAnyH _ _ _ _ _ _ _ (Act.put _ (some 28) _) _
            try simp only [Act.put, List.setIfInBounds_toArray, List.set_cons_zero, List.set_cons_succ]
            refine wpAnyH_take (i := 7) (v := ?_) rfl (by kernel_rfl) (by kernel_rfl) (by kernel_rfl) (fun _ _ _ h => h) (Or.inl ⟨by rfl, ?_⟩) hHeld ?_
            rotate_left
            · intro w hSw
              try dsimp only at hSw
              go_simp
              try with_reducible rfl
            show wpAnyH _ _ _ _ _ _ _ (Act.put _ (some 29) _) _
            try simp only [Act.put, List.setIfInBounds_toArray, List.set_cons_zero, List.set_cons_succ]
            refine wpAnyH_take (i := 8) (v := ?_) rfl (by kernel_rfl) (by kernel_rfl) (by kernel_rfl) (fun _ _ _ h => h) (Or.inl ⟨by rfl, ?_⟩) hHeld ?_
            rotate_left
            · intro w hSw
              try dsimp only at hSw
              go_simp
              try with_reducible rfl
            show wpAnyH _ _ _ _ _ _ _ (Act.put _ (some 30) _) _
            try simp only [Act.put, List.setIfInBounds_toArray, List.set_cons_zero, List.set_cons_succ]
            refine wpAnyH_take (i := 9) (v := ?_) rfl (by kernel_rfl) (by kernel_rfl) (by kernel_rfl) (fun _ _ _ h => h) (Or.inl ⟨by rfl, ?_⟩) hHeld ?_
            rotate_left
            · intro w hSw
              try dsimp only at hSw
              go_simp
              try with_reducible rfl
            show wpAnyH _ _ _ _ _ _ _ (Act.put _ (some 31) _) _
            try simp only [Act.put, List.setIfInBounds_toArray, List.set_cons_zero, List.set_cons_succ]
            refine wpAnyH_take (i := 10) (v := ?_) rfl (by kernel_rfl) (by kernel_rfl) (by kernel_rfl) (fun _ _ _ h => h) (Or.inl ⟨by rfl, ?_⟩) hHeld ?_
            rotate_left
            · intro w hSw
              try dsimp only at hSw
              go_simp
              try with_reducible rfl
            show wpAnyH _ _ _ _ _ _ _ (Act.put _ (some 32) _) _
            try simp only [Act.put, List.setIfInBounds_toArray, List.set_cons_zero, List.set_cons_succ]
            refine wpAnyH_take (i := 11) (v := ?_) rfl (by kernel_rfl) (by kernel_rfl) (by kernel_rfl) (fun _ _ _ h => h) (Or.inl ⟨by rfl, ?_⟩) hHeld ?_
            rotate_left
            · intro w hSw
              try dsimp only at hSw
              go_simp
              try with_reducible rfl
            show wpAnyH _ _ _ _ _ _ _ (Act.put _ (some 33) _) _
            try simp only [Act.put, List.setIfInBounds_toArray, List.set_cons_zero, List.set_cons_succ]
            refine wpAnyH_take (i := 12) (v := undef) rfl (by kernel_rfl) (by kernel_rfl) (by kernel_rfl) (fun _ _ _ h => h) (Or.inr ⟨by rfl, rfl⟩) hHeld ?_
            show wpAnyH _ _ _ _ _ _ _ (Act.put _ (some 34) _) _
            try simp only [Act.put, List.setIfInBounds_toArray, List.set_cons_zero, List.set_cons_succ]
            refine wpAnyH_take (i := 13) (v := undef) rfl (by kernel_rfl) (by kernel_rfl) (by kernel_rfl) (fun _ _ _ h => h) (Or.inr ⟨by rfl, rfl⟩) hHeld ?_
            show wpAnyH _ _ _ _ _ _ _ (Act.put _ (some 35) _) _
            try simp only [Act.put, List.setIfInBounds_toArray, List.set_cons_zero, List.set_cons_succ]
            refine wpAnyH_take (i := 14) (v := undef) rfl (by kernel_rfl) (by kernel_rfl) (by kernel_rfl) (fun _ _ _ h => h) (Or.inr ⟨by rfl, rfl⟩) hHeld ?_
            show wpAnyH _ _ _ _ _ _ _ (Act.put _ (some 36) _) _
            try simp only [Act.put, List.setIfInBounds_toArray, List.set_cons_zero, List.set_cons_succ]
            refine wpAnyH_take (i := 15) (v := undef) rfl (by kernel_rfl) (by kernel_rfl) (by kernel_rfl) (fun _ _ _ h => h) (Or.inr ⟨by rfl, rfl⟩) hHeld ?_
            show wpAnyH _ _ _ _ _ _ _ (Act.put _ (some 37) _) _
            try simp only [Act.put, List.setIfInBounds_toArray, List.set_cons_zero, List.set_cons_succ]
            refine wpAnyH_take (i := 16) (v := undef) rfl (by kernel_rfl) (by kernel_rfl) (by kernel_rfl) (fun _ _ _ h => h) (Or.inr ⟨by rfl, rfl⟩) hHeld ?_
            show wpAnyH _ _ _ _ _ _ _ (Act.put _ (some 38) _) _
            try simp only [Act.put, List.setIfInBounds_toArray, List.set_cons_zero, List.set_cons_succ]
            refine wpAnyH_take (i := 17) (v := undef) rfl (by kernel_rfl) (by kernel_rfl) (by kernel_rfl) (fun _ _ _ h => h) (Or.inr ⟨by rfl, rfl⟩) hHeld ?_
            show wpAnyH _ _ _ _ _ _ _ (Act.put _ (some 39) _) _
            try simp only [Act.put, List.setIfInBounds_toArray, List.set_cons_zero, List.set_cons_succ]
            refine wpAnyH_take (i := 18) (v := undef) rfl (by kernel_rfl) (by kernel_rfl) (by kernel_rfl) (fun _ _ _ h => h) (Or.inr ⟨by rfl, rfl⟩) hHeld ?_
            show wpAnyH _ _ _ _ _ _ _ (Act.put _ (some 40) _) _
            try simp only [Act.put, List.setIfInBounds_toArray, List.set_cons_zero, List.set_cons_succ]
            refine wpAnyH_take (i := 19) (v := undef) rfl (by kernel_rfl) (by kernel_rfl) (by kernel_rfl) (fun _ _ _ h => h) (Or.inr ⟨by rfl, rfl⟩) hHeld ?_
            show wpAnyH _ _ _ _ _ _ _ (Act.put _ (some 41) _) _
            try simp only [Act.put, List.setIfInBounds_toArray, List.set_cons_zero, List.set_cons_succ]
            refine wpAnyH_take (i := 20) (v := undef) rfl (by kernel_rfl) (by kernel_rfl) (by kernel_rfl) (fun _ _ _ h => h) (Or.inr ⟨by rfl, rfl⟩) hHeld ?_
            show wpAnyH _ _ _ _ _ _ _ (Act.put _ (some 42) _) _
            try simp only [Act.put, List.setIfInBounds_toArray, List.set_cons_zero, List.set_cons_succ]
            refine wpAnyH_take (i := 21) (v := undef) rfl (by kernel_rfl) (by kernel_rfl) (by kernel_rfl) (fun _ _ _ h => h) (Or.inr ⟨by rfl, rfl⟩) hHeld ?_
            show wpAnyH _ _ _ _ _ _ _ (Act.put _ (some 43) _) _
            try simp only [Act.put, List.setIfInBounds_toArray, List.set_cons_zero, List.set_cons_succ]
            refine wpAnyH_take (i := 22) (v := ?_) rfl (by kernel_rfl) (by kernel_rfl) (by kernel_rfl) (fun _ _ _ h => h) (Or.inl ⟨by rfl, ?_⟩) hHeld ?_
            rotate_left
            · intro w hSw
              try dsimp only at hSw
              go_simp
              try with_reducible rfl
            show wpAnyH _ _ _ _ _ _ _ (Act.put _ (some 44) _) _
            try simp only [Act.put, List.setIfInBounds_toArray, List.set_cons_zero, List.set_cons_succ]
            refine wpAnyH_done (by kernel_rfl) ?_ _
            clear hHeld
            go_wp2_with fail
            go_roundw
            case rel => exact ⟨k + 1, by go_num, by omega, by rw [unhide HB2, unhide HBn], hide (by have := unhide KV; repeat (first | exact this | apply Keep.drew))⟩
            case measure => simp [intOf]; omega
        · have ki : ¬ (k : Int) < (m : Int) := by omega
          obtain rfl : k = m := by omega
          rw [unhide HTm, unhide HS1]
          have KR := hide ((unhide KW).trans (unhide KV))
          clear KV
          go_wp2_with fail
          obtain ⟨wp, hwp⟩ : ∃ wp, wp = wr := ⟨_, rfl⟩
          subst hwp
          go_loopw [9] (fun vj wr => ∃ j : Nat, vj = .int .i64 (j : Int) ∧ j ≤ h + 1 ∧ Hid (Keep wp wr)) (fun vj _ => h + 1 - (intOf vj).toNat)
          case atStart => exact ⟨0, rfl, Nat.zero_le _, hide (Keep.refl _)⟩
          case round =>
            obtain ⟨j, rfl, hj, KU⟩ := hrel
            have KX := hide ((unhide KR).trans (unhide KU))
            by_cases hjh : j < h + 1
            · have ji : (j : Int) < (h : Int) + 1 := by omega
              have jz : (0 : Int) ≤ (j : Int) := by omega
              have jw : (j : Int) < (wl : Int) := by omega
              obtain ⟨wc1, hwc, y2⟩ := (unhide HW2) j (by omega)
              obtain rfl : wa1 = wc1 := by injection hwc
              have hne := (unhide HN) j hjh
              obtain ⟨z, hz⟩ : ∃ z, W.getD j 0 = z := ⟨_, rfl⟩
              rw [hz] at y2 hne
              have hb3 : ((z : Int) == (p : Int)) = false := by simp; omega
              have CK : Hid (∀ w', Keep wr w' → w'.cell? (wa1.add j) = some (.int .i64 (z : Int)) ∧ w'.cell? ⟨wa1.block, wa1.off + (h + 1), none⟩ = some (.int .i64 (p : Int))) := hide (fun w' hk => ⟨kc hk (kc (unhide KX) y2), kc hk (kc (unhide KX) (unhide C1))⟩)
              have hz2 : (0 : Int) ≤ (h : Int) + 1 := by omega
              clear hwc y2 hz hne
              go_upto_region 14 with fail
              refine wp_region_held_drew (S := (fun w' => w'.cell? (wa1.add j) = some (.int .i64 (z : Int)) ∧ w'.cell? ⟨wa1.block, wa1.off + (h + 1), none⟩ = some (.int .i64 (p : Int)))) (by kernel_rfl) (by exact unhide CK _ (by repeat (first | apply Keep.drew | exact Keep.refl _))) (fun hHeld => ?_)
              refine wpAnyH_take (i := 0) (v := ?_) rfl (by kernel_rfl) (by kernel_rfl) (by kernel_rfl) (fun _ _ _ h => h) (Or.inl ⟨by rfl, ?_⟩) hHeld ?_
              rotate_left
              · intro w hSw
                try dsimp only at hSw
                go_simp
                try with_reducible rfl
              show wpAnyH _ _ _ _ _ _ _ (Act.put _ (some 57) _) _
              try simp only [Act.put, List.setIfInBounds_toArray, List.set_cons_zero, List.set_cons_succ]
              refine wpAnyH_take (i := 1) (v := ?_) rfl (by kernel_rfl) (by kernel_rfl) (by kernel_rfl) (fun _ _ _ h => h) (Or.inl ⟨by rfl, ?_⟩) hHeld ?_
              rotate_left
              · intro w hSw
                try dsimp only at hSw
                go_simp
                try with_reducible rfl
              show wpAnyH _ _ _ _ _ _ _ (Act.put _ (some 58) _) _
              try simp only [Act.put, List.setIfInBounds_toArray, List.set_cons_zero, List.set_cons_succ]
              refine wpAnyH_take (i := 2) (v := ?_) rfl (by kernel_rfl) (by kernel_rfl) (by kernel_rfl) (fun _ _ _ h => h) (Or.inl ⟨by rfl, ?_⟩) hHeld ?_
              rotate_left
              · intro w hSw
                try dsimp only at hSw
                go_simp
                try with_reducible rfl
              show wpAnyH _ _ _ _ _ _ _ (Act.put _ (some 59) _) _
              try simp only [Act.put, List.setIfInBounds_toArray, List.set_cons_zero, List.set_cons_succ]
              refine wpAnyH_take (i := 3) (v := ?_) rfl (by kernel_rfl) (by kernel_rfl) (by kernel_rfl) (fun _ _ _ h => h) (Or.inl ⟨by rfl, ?_⟩) hHeld ?_
              rotate_left
              · intro w hSw
                try dsimp only at hSw
                go_simp
                try with_reducible rfl
              show wpAnyH _ _ _ _ _ _ _ (Act.put _ (some 60) _) _
              try simp only [Act.put, List.setIfInBounds_toArray, List.set_cons_zero, List.set_cons_succ]
              refine wpAnyH_take (i := 4) (v := ?_) rfl (by kernel_rfl) (by kernel_rfl) (by kernel_rfl) (fun _ _ _ h => h) (Or.inl ⟨by rfl, ?_⟩) hHeld ?_
              rotate_left
              · intro w hSw
                try dsimp only at hSw
                go_simp
                try with_reducible rfl
              show wpAnyH _ _ _ _ _ _ _ (Act.put _ (some 61) _) _
              try simp only [Act.put, List.setIfInBounds_toArray, List.set_cons_zero, List.set_cons_succ]
              refine wpAnyH_take (i := 5) (v := ?_) rfl (by kernel_rfl) (by kernel_rfl) (by kernel_rfl) (fun _ _ _ h => h) (Or.inl ⟨by rfl, ?_⟩) hHeld ?_
              rotate_left
              · intro w hSw
                try dsimp only at hSw
                go_simp
                try with_reducible rfl
              show wpAnyH _ _ _ _ _ _ _ (Act.put _ (some 62) _) _
              try simp only [Act.put, List.setIfInBounds_toArray, List.set_cons_zero, List.set_cons_succ]
              refine wpAnyH_take (i := 6) (v := ?_) rfl (by kernel_rfl) (by kernel_rfl) (by kernel_rfl) (fun _ _ _ h => h) (Or.inl ⟨by rfl, ?_⟩) hHeld ?_
              rotate_left
              · intro w hSw
                try dsimp only at hSw
                go_simp
                try with_reducible rfl
              show wpAnyH _ _ _ _ _ _ _ (Act.put _ (some 63) _) _
              try simp only [Act.put, List.setIfInBounds_toArray, List.set_cons_zero, List.set_cons_succ]
              refine wpAnyH_take (i := 7) (v := ?_) rfl (by kernel_rfl) (by kernel_rfl) (by kernel_rfl) (fun _ _ _ h => h) (Or.inl ⟨by rfl, ?_⟩) hHeld ?_
              rotate_left
              · intro w hSw
                try dsimp only at hSw
                go_simp
                try with_reducible rfl
              show wpAnyH _ _ _ _ _ _ _ (Act.put _ (some 64) _) _
              try simp only [Act.put, List.setIfInBounds_toArray, List.set_cons_zero, List.set_cons_succ]
              refine wpAnyH_take (i := 8) (v := ?_) rfl (by kernel_rfl) (by kernel_rfl) (by kernel_rfl) (fun _ _ _ h => h) (Or.inl ⟨by rfl, ?_⟩) hHeld ?_
              rotate_left
              · intro w hSw
                try dsimp only at hSw
                go_simp
                try with_reducible rfl
              show wpAnyH _ _ _ _ _ _ _ (Act.put _ (some 65) _) _
              try simp only [Act.put, List.setIfInBounds_toArray, List.set_cons_zero, List.set_cons_succ]
              refine wpAnyH_done (by kernel_rfl) ?_ _
              clear hHeld
              go_wp2_with fail
              go_roundw
              case rel => exact ⟨j + 1, by go_num, by omega, hide (by have := unhide KU; repeat (first | exact this | apply Keep.drew))⟩
              case measure => simp [intOf]; omega
            · have ji : ¬ (j : Int) < (h : Int) + 1 := by omega
              have hl2 : ¬ (V2 - V1 < 0) := by omega
              have hdl : decide (V2 - V1 < 0) = false := decide_eq_false hl2
              have hwv : wrap64 (V1 + (V2 - V1)) = V2 := by rw [show V1 + (V2 - V1) = V2 by omega]; exact wrap_in ⟨by omega, by omega⟩
              go_wp2_with fail
              go_roundw
              case rel => exact ⟨h + 1 + 1, by go_num, by omega, by omega, by rw [Nat.add_sub_cancel, unhide HV2]; first | rfl | rw [hwv] | (congr 1; omega), KX⟩
              case measure => simp [intOf]; omega
    · have li : ¬ (i : Int) < (wl : Int) := by omega
      obtain rfl : i = wl := by omega
      go_wp2_with fail
      go_ret
      exact ⟨(unhide HP) _ rfl, unhide KW⟩
/-- the result of an append for which there is no room -/
theorem run_append_full (w : World) (t ty e : TypeId) (i : TypeInfo) (z : Value) (size bytes : Nat) (ht : Tryd.prog.underlying t = some (.slice e)) (hi : Tryd.prog.info? e = some i) (hz : i.zero = some z)
    (hsize : i.size = size) (hby : i.bytes = bytes) (hzs : z.cells.size = size) (hs0 : 0 < size) (hb1 : bytes ≤ 24)
    (b : Addr) (n cap : Nat) (xs : List Value) (hxs : xs.length = n * size) (hv : ∀ j u, xs[j]? = some u → w.cell? (b.add j) = some u) (a : Addr) (m c : Nat) (ys : List Value) (hys : ys.length = m * size) (hy : ∀ j u, ys[j]? = some u → w.cell? (a.add j) = some u) (hg : cap < n + m) (hl : n + m ≤ 1000000) :
    ∃ v' w', (Builtin.append_ #[t, t] ty #[.slice (some b) n cap, .slice (some a) m c]).run Tryd.prog w = .ok v' w' ∧ w'.ownsRow w.heap.size e size v' (n + m) (xs ++ ys) ∧ Keep w w' := by
  obtain ⟨v', w', h1, h2, h3⟩ := run_append_arg_grows (P := Tryd.prog) w t ty e i z size bytes ht hi hz hsize hby hzs hs0 b n cap xs hxs hv a m c ys hys hy hg (by unfold maxLen; omega) (by
    have h2 : (n + m) * bytes ≤ 1000000 * 24 := Nat.mul_le_mul hl hb1
    omega)
  exact ⟨v', w', h1, h2, ⟨h3.os, h3.tape, h3.output, h3.size, fun i hi => h3.block i hi (by simp)⟩⟩
theorem wpList_append_full {ops : Array Oper} {rest : List Oper} {o : Oper} {act : Act} {Q : Exit → Act → World → Prop} (w : World) (hgd : o.guard = none) (s x : Operand) (t : TypeId)
    (ho : o.op = .call { callee := .builtin .append, args := #[s, x], argTypes := #[t, t] })
    (e : TypeId) (i : TypeInfo) (z : Value) (size bytes : Nat) (ht : Tryd.prog.underlying t = some (.slice e)) (hi : Tryd.prog.info? e = some i) (hz : i.zero = some z)
    (hsize : i.size = size) (hby : i.bytes = bytes) (hzs : z.cells.size = size) (hs0 : 0 < size) (hb1 : bytes ≤ 24)
    (b : Addr) (n cap : Nat) (xs : List Value) (hs : act.eval s = .slice (some b) n cap) (hxs : xs.length = n * size) (hv : ∀ j u, xs[j]? = some u → w.cell? (b.add j) = some u) (a : Addr) (m c : Nat) (ys : List Value) (hx : act.eval x = .slice (some a) m c) (hys : ys.length = m * size) (hy : ∀ j u, ys[j]? = some u → w.cell? (a.add j) = some u) (hg : cap < n + m) (hl : n + m ≤ 1000000)
    (h : ∀ v' w', w'.ownsRow w.heap.size e size v' (n + m) (xs ++ ys) → Keep w w' → wpList Tryd.prog ops Q rest (act.put o.dst v') w') : wpList Tryd.prog ops Q (o :: rest) act w :=
  wpList_plain hgd fun K hK => by
    obtain ⟨v', w', hr, h2, h3⟩ := run_append_full w t o.type e i z size bytes ht hi hz hsize hby hzs hs0 hb1 b n cap xs hxs hv a m c ys hys hy hg hl
    unfold Oper.wp execOp
    simp only [ho, resolve, invoke, builtin, Sem.run_bind, Sem.run_pure, Result.andThen_ok, List.map_toArray, List.map_cons, List.map_nil, hs, hx, hr]
    exact hK _ _ (h v' w' h2 h3)
theorem iw_cell {e : TypeId} {w : World} {u : Value} {L : List Int} (h : Iw e w u L) (h0 : 0 < L.length) : ∃ g c, u = .slice (some ⟨g, 0, none⟩) L.length c ∧ ∀ k, k < L.length → w.cell? ⟨g, k, none⟩ = some (.int .i64 (L.getD k 0)) := by
  rcases h with ⟨_, rfl⟩ | ⟨g, c, arr, rfl, hg, ha⟩
  · simp at h0
  · refine ⟨g, c, rfl, fun k hk => ?_⟩
    simp only [World.cell?, hg]
    simpa using ha k hk
/-! ### the chapter's examples -/
def R3 : List E3 := [(0, 1, 3), (1, 2, 4), (0, 2, 5)]
def x4 : E3 := (2, 1, 0)
theorem nE3 : nE R3 = [(0, 1, 3), (1, 2, 4), (0, 2, 5)] := rfl
theorem isG3 : isG 3 R3 = true ∧ isG 3 (R3 ++ [x4]) = true := by decide
theorem gr3 : Gr 3 (nE R3) := by rw [nE3]; exact ⟨by decide, by decide⟩
theorem good3 : Good 3 (nE R3) [0, 3, 7] := by
  rw [nE3]
  have hg : ∀ p, g [0, 3, 7] p = if p = 0 then 0 else if p = 1 then 3 else if p = 2 then 7 else -1 := fun p => by
    match p with
    | 0 => rfl
    | 1 => rfl
    | 2 => rfl
    | p + 3 => simp [g]
  refine ⟨⟨rfl, fun p => ?_⟩, ⟨by decide, by decide⟩, fun p h => ?_⟩
  · rw [hg]; split
    · omega
    · split
      · omega
      · split <;> omega
  · rw [hg] at h ⊢
    by_cases h0 : p = 0
    · subst h0; exact ⟨0, .nil⟩
    · by_cases h1 : p = 1
      · subst h1; exact ⟨1, by simpa using Wk.snoc (E := [(0, 1, 3), (1, 2, 4), (0, 2, 5)]) .nil (by simp : (0, 1, (3 : Int)) ∈ _)⟩
      · by_cases h2 : p = 2
        · subst h2
          exact ⟨2, by simpa using Wk.snoc (E := [(0, 1, 3), (1, 2, 4), (0, 2, 5)]) (Wk.snoc .nil (by simp : (0, 1, (3 : Int)) ∈ _)) (by simp : (1, 2, (4 : Int)) ∈ _)⟩
        · simp [h0, h1, h2] at h
theorem lg3 : lg 3 R3 = ([0, 3, 7], 0) := by
  have := lg_yes (n := 3) (R := R3) isG3.1
  rw [lgd_good gr3 good3] at this
  exact this
theorem lg4 : lg 3 (R3 ++ [x4]) = ([], 140) := by
  have := lg_yes (n := 3) (R := R3 ++ [x4]) isG3.2
  rw [lgd_none (fun d hf => ?_)] at this
  · exact this
  · rw [nE_app, nE3] at hf
    have h0 := hf.1
    have h1 := hf.2 (0, 1, 3) (by simp) (by simpa using h0)
    simp only at h1
    have h2 := hf.2 (1, 2, 4) (by simp) (by simp only; omega)
    simp only at h2
    have h3 := hf.2 (2, 1, 0) (by simp [nE, x4]) (by simp only; omega)
    simp only at h3
    omega
theorem wy3 : wy 3 R3 2 = [0, 1, 2] := by
  unfold wy
  rw [if_pos (by rw [lg3]; decide), lg3]
  decide
theorem es3 (w : World) (t : TypeId) : Es (w.alloc (.cells #[.int .i64 0, .int .i64 1, .int .i64 3, .int .i64 1, .int .i64 2, .int .i64 4, .int .i64 0, .int .i64 2, .int .i64 5] t)) (.slice (some ⟨w.heap.size, 0, none⟩) 3 3) R3 :=
  es_own (World.ownsRow_lit (base := 0) w (ecs R3).toArray 3 (Nat.zero_le _) (by unfold maxLen; omega) rfl) rfl
set_option maxHeartbeats 4000000 in
theorem awake_any (w : World) (hT : Tab w) : Calls Tryd.prog 10 #[] w fun e w' => e = .returned (.bool true) ∧ Keep w w' := by
  obtain ⟨i0, hi0, hz0, hz1, hz2⟩ := info_f infoE
  have HT := hide hT
  have E3' := hide es3
  have TL := hide (fun (v : Value) (w : World) (h : Es w v R3) => longest_any v R3 3 w h (by decide))
  have TM := hide (fun (v : Value) (w : World) (h : Es w v (R3 ++ [x4])) => longest_any v (R3 ++ [x4]) 3 w h (by decide))
  have TW := hide (fun (v : Value) (w : World) (h : Es w v R3) (ht : Tab w) => way_any v R3 3 2 w h (by decide) ht)
  unfold Lq at TL TM
  unfold WQ at TW
  rw [lg3] at TL
  rw [lg4] at TM
  rw [wy3] at TW
  clear hT
  go_enter Tryd.func10, Tryd.ntmps10
  go_wp2_with fail
  have KA := hide ((Keep.refl w).alloc (.cells #[.int .i64 0, .int .i64 1, .int .i64 3, .int .i64 1, .int .i64 2, .int .i64 4, .int .i64 0, .int .i64 2, .int .i64 5] 34))
  have EA := hide ((unhide E3') w 34)
  (refine ((unhide TL) _ _ (unhide EA)).mono ?_; rintro e w1 ⟨u1, rfl, hk9, hi9⟩; have K1 := hide ((unhide KA).trans hk9); have I1 := hide hi9; have A1 := hide ((unhide EA).keep hk9); clear hk9 hi9 TL EA KA)
  obtain ⟨b0, hb0⟩ : ∃ b0, w.heap.size = b0 := ⟨_, rfl⟩
  rw [hb0] at A1 ⊢
  clear hb0
  have KB := hide ((unhide K1).alloc (.cells #[.int .i64 2, .int .i64 1, .int .i64 0] 34))
  have AB := hide ((unhide A1).keep ((Keep.refl w1).alloc (.cells #[.int .i64 2, .int .i64 1, .int .i64 0] 34)))
  have hx1 : Hid (∀ j u, (ecs R3)[j]? = some u → (w1.alloc (.cells #[.int .i64 2, .int .i64 1, .int .i64 0] 34)).cell? ((⟨b0, 0, none⟩ : Addr).add j) = some u) := hide (by
    obtain ⟨a, c, e, h⟩ := (unhide AB).vs
    intro j u hj
    obtain ⟨ad, e1, e2⟩ := h j u hj
    injection e with e3
    rw [← e3] at e1
    injection e1 with e1
    rw [e1]; exact e2)
  have hy1 : Hid (∀ j u, (ecs [x4])[j]? = some u → (w1.alloc (.cells #[.int .i64 2, .int .i64 1, .int .i64 0] 34)).cell? ((⟨w1.heap.size, 0, none⟩ : Addr).add j) = some u) := hide (new_v w1 (ecs [x4]) 34)
  have hl1 : Hid ((ecs R3).length = 3 * 3) := hide rfl
  have hl2 : Hid ((ecs [x4]).length = 1 * 3) := hide rfl
  go_wp2_with (at_builtin; refine wpList_append_full _ rfl _ _ 22 rfl 34 i0 _ 3 24 Tryd.underlying22 hi0 hz0 hz1 hz2 rfl (by decide) (by decide) ⟨b0, 0, none⟩ 3 3 (ecs R3) rfl (unhide hl1) (unhide hx1) ⟨w1.heap.size, 0, none⟩ 1 1 (ecs [x4]) rfl (unhide hl2) (unhide hy1) (by decide) (by decide) ?_; intro v5 w5 hown hk5; rw [← ecs_app] at hown; have E5 := hide (es_own hown rfl); have K5 := hide ((unhide KB).trans hk5); have A5 := hide ((unhide AB).keep hk5); have I5 := hide ((unhide I1).keep (((Keep.refl w1).alloc _).trans hk5)); clear hown hk5)
  (refine ((unhide TM) _ _ (unhide E5)).mono ?_; rintro e w6 ⟨u6, rfl, hk9, hi9⟩; have K6 := hide ((unhide K5).trans hk9); have I6 := hide ((unhide I5).keep hk9); have A6 := hide ((unhide A5).keep hk9); clear hk9 hi9 TM E5)
  go_wp2_with fail
  (refine ((unhide TW) _ _ (unhide A6) ((unhide HT).keep (unhide K6))).mono ?_; rintro e w7 ⟨u7, rfl, hk9, hi9⟩; have K7 := hide ((unhide K6).trans hk9); have I7 := hide ((unhide I6).keep hk9); have J7 := hide hi9; clear hk9 hi9 TW)
  obtain ⟨g1, c1, rfl, hd⟩ := iw_cell (unhide I7) (by decide)
  obtain ⟨g3, c3, rfl, hw⟩ := iw_cell (unhide J7) (by decide)
  have d1 : w7.cell? ⟨g1, 1, none⟩ = some (.int .i64 3) := hd 1 (by decide)
  have d2 : w7.cell? ⟨g1, 2, none⟩ = some (.int .i64 7) := hd 2 (by decide)
  have w1' : w7.cell? ⟨g3, 1, none⟩ = some (.int .i64 1) := hw 1 (by decide)
  clear hd hw
  rw [show ([0, 3, 7] : List Int).length = 3 from rfl, show ([0, 1, 2] : List Int).length = 3 from rfl]
  go_wp2_with fail
  go_ret
  exact ⟨rfl, unhide K7⟩
end Pa
end Go.Proofs.YtfofkkjldngkaaaDoor
