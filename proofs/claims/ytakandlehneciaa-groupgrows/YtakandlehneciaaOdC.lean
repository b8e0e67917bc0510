/- Package order: Nth, Rank. -/
import Derived.Test.YtakandlehneciaaOdB
namespace Go.Proofs.Ytakandlehneciaa
open Go.RowKit
attribute [local go_sem ↓] Go.wp_at_zero Go.wp_at_succ
set_option linter.unusedVariables false
set_option linter.unusedSimpArgs false
set_option maxRecDepth 10000
namespace Od
/-- a row that is told -/
def Iw (w : World) (u : Value) (L : List Int) : Prop := (u = .slice none 0 0 ∧ L = []) ∨ ∃ g c arr, u = .slice (some ⟨g, 0, none⟩) L.length c ∧ w.heap[g]? = some (.cells arr 3 (0, 0)) ∧ ∀ k, k < L.length → arr[k]? = some (Value.int .i64 (L.getD k 0))
def Iq (L : List Int) (w : World) (e : Ending) (w' : World) : Prop := ∃ v, e = .returned v ∧ Keep w w' ∧ Iw w' v L
theorem Iw.is {w : World} {u : Value} {L : List Int} (h : Iw w u L) : Is w u L := by
  rcases h with ⟨rfl, rfl⟩ | ⟨g, c, arr, rfl, hg, ha⟩
  · exact is_nil w
  · refine ⟨_, c, rfl, fun k hk => ⟨_, rfl, ?_⟩⟩
    rw [add_pl, Nat.zero_add]
    simp only [World.cell?, hg]
    simpa using ha k hk
theorem Iw.keep {w w' : World} {u : Value} {L : List Int} (h : Iw w u L) (hk : Keep w w') : Iw w' u L := by
  rcases h with h | ⟨g, c, arr, rfl, hg, ha⟩
  · exact .inl h
  · exact .inr ⟨g, c, arr, rfl, (hk.block g (Array.getElem?_eq_some_iff.1 hg).1).trans hg, ha⟩
theorem Rw.iw {w : World} {g c : Nat} {M : List Int} (h : Rw w g M) : Iw w (.slice (some ⟨g, 0, none⟩) M.length c) M := by
  refine .inr ⟨g, c, _, rfl, h, fun k hk => ?_⟩
  rw [List.getD_eq_getElem?_getD, List.getElem?_eq_getElem hk]
  simp [hk]
theorem iw_nil (w : World) : Iw w (.slice none 0 0) [] := .inl ⟨rfl, rfl⟩
theorem rep_len (D : List Int) (j s : Nat) (hD : D.length = j) : (D ++ List.replicate s (0 : Int)).length = j + s := by simp [hD]
theorem rep_set {D : List Int} {j t : Nat} (hD : D.length = j) (x : Int) : (D ++ List.replicate (t + 1) 0).set j x = (D ++ [x]) ++ List.replicate t 0 := by
  rw [List.replicate_succ, List.set_append_right _ _ (by omega)]
  simp [hD]
theorem quo_is (a F : Nat) : (a : Int).tdiv (F : Int) = ((a / F : Nat) : Int) := by
  rw [Int.tdiv_eq_ediv_of_nonneg (by omega)]; simp
theorem rem_is (a F : Nat) : (a : Int).tmod (F : Int) = ((a % F : Nat) : Int) := by
  rw [Int.tmod_eq_emod_of_nonneg (by omega)]; simp
set_option maxHeartbeats 4000000 in
theorem nth_yes9 (n k : Nat) (hn : n ≤ 8) (hk : k < fc n) (w : World) : Calls Try.prog 58 #[.int .i64 (n : Int), .int .i64 (k : Int)] w (Iq (nthL n (rg n) k) w) := by
  have h0 : ¬ (k : Int) < 0 := by omega
  have TC := hide (fun w => count_any (n : Int) w)
  rw [cnt_nat hn] at TC
  have hkc : (k : Int) < (fc n : Int) := by omega
  have hkd : ¬ (fc n : Int) ≤ (k : Int) := by omega
  have HF := hide (fc_le hn)
  have HK := hide hk
  have hmk := make_any n (by omega)
  obtain ⟨ZZ, hZZ⟩ : ∃ ZZ, ((List.replicate n (0 : Int)).map (Value.int .i64)).toArray = ZZ := ⟨_, rfl⟩
  rw [hZZ] at hmk
  go_enter Try.func58, Try.ntmps58
  go_wp2_with fail
  (refine ((unhide TC) _).mono ?_; rintro e w1 ⟨rfl, hk9⟩; have K1 := hide hk9; clear hk9 TC)
  clear hk
  have R0 : Hid (Rw (w1.alloc (.cells ZZ 3)) w1.heap.size ([] ++ List.replicate n 0)) := hide (by
    have := heap_alloc_new w1 (.cells ((List.replicate n (0 : Int)).map (Value.int .i64)).toArray 3)
    rw [← hZZ]
    simpa [Rw] using this)
  have K2 := hide ((Keep.refl w1).alloc (.cells ZZ 3))
  have HG : Hid ((w1.alloc (.cells ZZ 3)).heap.size = w1.heap.size + 1) := hide (World.size_alloc _ _)
  clear hZZ
  go_wp2_with fail
  generalize w1.alloc (.cells ZZ 3) = w2 at R0 K2 HG ⊢
  clear hmk
  (refine (rising_any n hn w2).mono ?_; rintro e w3 ⟨rfl, hk9, hr9⟩; have K3 := hide ((unhide K2).trans hk9); have RP := hide ((unhide R0).keep hk9); have RG := hide hr9; clear hk9 hr9 K2 R0)
  rw [unhide HG] at RG ⊢
  obtain ⟨P, HP⟩ : ∃ P, Hid (w1.heap.size = P) := ⟨_, hide rfl⟩
  rw [unhide HP] at RG RP ⊢
  clear HG
  clear h0 hkc hkd
  go_wp2_with fail
  go_loopw [1, 6, 23] (fun vk vl vi wr => ∃ (j s kk : Nat) (l D M : List Int), j + s = n ∧ vi = .int .i64 (j : Int) ∧ vk = .int .i64 (kk : Int) ∧ vl = .slice (some ⟨P + 1, 0, none⟩) s n ∧ Hid (D.length = j ∧ l.length = s ∧ kk < fc s ∧ nthL n (rg n) k = D ++ nthL s l kk ∧ M.length = n ∧ M.take s = l) ∧ Hid (Rw wr P (D ++ List.replicate s 0)) ∧ Hid (Rw wr (P + 1) M) ∧ Hid (Keep w1 wr)) (fun vk vl vi _ => n - (intOf vi).toNat)
  case atStart => exact ⟨0, n, k, rg n, [], rg n, by omega, rfl, rfl, rfl, hide ⟨rfl, rg_len n, unhide HK, rfl, rg_len n, by rw [List.take_of_length_le (by rw [rg_len]; exact Nat.le_refl _)]⟩, RP, RG, K3⟩
  case round =>
    clear RP RG K3
    obtain ⟨j, s, kk, l, D, M, hjs, rfl, rfl, rfl, HH, RP, RG, KW⟩ := hrel
    by_cases hlt : j < n
    · obtain ⟨t, rfl⟩ : ∃ t, s = t + 1 := ⟨s - 1, by omega⟩
      have li : (j : Int) < (n : Int) := by omega
      have TC := hide (fun w => count_any ((n : Int) - 1 - (j : Int)) w)
      rw [show (n : Int) - 1 - (j : Int) = ((t : Nat) : Int) by omega, cnt_nat (show t ≤ 8 by omega)] at TC
      have ht : (n : Int) - 1 - (j : Int) = ((t : Nat) : Int) := by omega
      have ⟨hD, hl, hkk, hEq, hM, hMl⟩ := unhide HH
      have hq := div_lt hkk
      have hkb : kk < 40320 := Nat.lt_of_lt_of_le hkk (fc_le (by omega))
      obtain ⟨F, hF⟩ : ∃ F, fc t = F := ⟨_, rfl⟩
      have hF0 : 0 < F := by rw [← hF]; exact fc_pos t
      have hF8 : F ≤ 40320 := by rw [← hF]; exact fc_le (by omega)
      rw [hF] at TC hq
      have hEq2 : nthL n (rg n) k = (D ++ [l.getD (kk / F) 0]) ++ nthL t (l.eraseIdx (kk / F)) (kk % F) := by rw [hEq, nthL, hF, List.append_assoc]; rfl
      have hr : kk % F < fc t := by rw [hF]; exact Nat.mod_lt _ hF0
      have e1 := quo_is kk F
      have e2 := rem_is kk F
      obtain ⟨Q, hQ⟩ : ∃ Q, kk / F = Q := ⟨_, rfl⟩
      obtain ⟨R, hR⟩ : ∃ R, kk % F = R := ⟨_, rfl⟩
      have hQb : Q ≤ kk := by rw [← hQ]; exact Nat.div_le_self _ _
      have hRb : R ≤ kk := by rw [← hR]; exact Nat.mod_le _ _
      rw [hQ] at e1 hEq2 hq
      rw [hR] at e2 hEq2 hr
      have hx0 : M.getD Q 0 = l.getD Q 0 := by
        rw [← hMl, List.getD_eq_getElem?_getD, List.getD_eq_getElem?_getD, List.getElem?_take, if_pos hq]
      have y0 := (unhide RG).cell (i := Q) (by omega)
      rw [hx0] at y0
      obtain ⟨x, hx⟩ : ∃ x, l.getD Q 0 = x := ⟨_, rfl⟩
      rw [hx] at y0 hEq2
      have HN := hide (And.intro hD (And.intro hl (And.intro hr (And.intro hEq2 (And.intro hM hMl)))))
      have hqi : (Q : Int) < ((t : Int) + 1) := by omega
      have hFz : ¬ (F : Int) = 0 := by omega
      clear hD hl hkk hEq hM hMl hEq2 hr hx0 hx hQ hR hF HH
      have hlm : M.length = n := (unhide HN).2.2.2.2.1
      go_wp2_with fail
      (refine ((unhide TC) _).mono ?_; rintro e w4 ⟨rfl, hk9⟩; have K4 := hide ((unhide KW).trans hk9); have RP4 := hide ((unhide RP).keep hk9); have RG4 := hide ((unhide RG).keep hk9); have y4 := kc hk9 y0; clear hk9 TC y0 RP RG KW)
      have hu := (unhide RP4).cell (i := j) (by rw [rep_len D j _ (unhide HN).1]; omega)
      have hf := (unhide RP4).fz j
      have RP5 : Hid (Rw (w4.setCell ⟨P, j, none⟩ (.int .i64 x)) P ((D ++ [x]) ++ List.replicate t 0)) := hide (by
        rw [← rep_set (unhide HN).1]
        exact (unhide RP4).set _)
      have RG5 : Hid (Rw (w4.setCell ⟨P, j, none⟩ (.int .i64 x)) (P + 1) M) := hide ((unhide RG4).other (by omega))
      have K5 : Hid (Keep w1 (w4.setCell ⟨P, j, none⟩ (.int .i64 x))) := hide (Below.setCell (unhide K4) (by rw [unhide HP]; exact Nat.le_refl _) _)
      go_wp2_with fail
      clear hu hf y4
      generalize w4.setCell ⟨P, j, none⟩ (.int .i64 x) = w5 at RP5 RG5 K5 ⊢
      (refine (take_any (P + 1) (t + 1) n Q M w5 (by omega) (by omega) hlm hq RG5).mono ?_; rintro e w6 ⟨M2, rfl, hb9, hr9, hl9, ht9⟩)
      have K6 : Hid (Keep w1 w6) := hide (Below.trans (unhide K5) (Below.mono hb9 (by rw [unhide HP]; omega)))
      have RP6 := hide ((unhide RP5).low hb9 (by omega))
      have RG6 := hide hr9
      have HT := hide (And.intro hl9 ht9)
      clear hb9 hr9 hl9 ht9 RP5 RG5 K5
      go_wp2_with fail
      go_roundw
      case rel =>
        refine ⟨j + 1, t, R, l.eraseIdx Q, D ++ [x], M2, by omega, by go_num, rfl, rfl, hide ?_, RP6, RG6, K6⟩
        obtain ⟨hD, hl, hr, hEq2, hM, hMl⟩ := unhide HN
        obtain ⟨h1, h2⟩ := unhide HT
        refine ⟨by simp [hD], len_erase hl hq, hr, hEq2, h1, ?_⟩
        rw [hMl] at h2
        exact h2
      case measure => simp [intOf]; omega
    · have li : ¬ (j : Int) < (n : Int) := by omega
      obtain rfl : s = 0 := by omega
      obtain rfl : j = n := by omega
      go_wp2_with fail
      go_ret
      refine ⟨_, rfl, (unhide K1).trans (unhide KW), ?_⟩
      have ⟨hD, hl, hkk, hEq, hM, hMl⟩ := unhide HH
      rw [hEq]
      rw [nthL, List.append_nil]
      have h := unhide RP
      rw [List.replicate_zero, List.append_nil] at h
      have h2 := h.iw (c := j)
      rw [hD] at h2
      exact h2
set_option maxHeartbeats 2000000 in
theorem nth_any (n k : Int) (w : World) : Calls Try.prog 58 #[.int .i64 n, .int .i64 k] w (Iq (nth n k) w) := by
  by_cases h0 : k < 0
  · rw [nth_no (by omega)]
    have K0 := hide (Keep.refl w)
    go_enter Try.func58, Try.ntmps58
    go_wp2_with fail
    go_ret
    exact ⟨_, rfl, unhide K0, iw_nil _⟩
  by_cases h1 : k < cnt n
  · have hn : 0 ≤ n ∧ n ≤ 8 := by
      rcases Classical.em (0 ≤ n ∧ n ≤ 8) with h | h
      · exact h
      · unfold cnt at h1; rw [if_neg h] at h1; omega
    obtain ⟨m, rfl⟩ : ∃ m : Nat, n = (m : Int) := ⟨n.toNat, by omega⟩
    obtain ⟨i, rfl⟩ : ∃ i : Nat, k = (i : Int) := ⟨k.toNat, by omega⟩
    rw [cnt_nat (by omega)] at h1
    rw [nth_yes (by omega) (by omega)]
    exact nth_yes9 m i (by omega) (by omega) w
  · rw [nth_no (by omega)]
    have TC := hide (fun w => count_any n w)
    generalize cnt n = c at h1 TC
    have h2 : c ≤ k := by omega
    go_enter Try.func58, Try.ntmps58
    go_wp2_with fail
    (refine ((unhide TC) _).mono ?_; rintro e w1 ⟨rfl, hk9⟩; have K1 := hide hk9; clear hk9 TC)
    go_wp2_with fail
    go_ret
    exact ⟨_, rfl, unhide K1, iw_nil _⟩
theorem drop_cons {L : List Int} {j : Nat} (h : j < L.length) : L.drop j = L.getD j 0 :: L.drop (j + 1) := by
  rw [List.drop_eq_getElem_cons h, List.getD_eq_getElem?_getD, List.getElem?_eq_getElem h]; rfl
theorem rank_of {L : List Int} {r : Nat} (h8 : L.length ≤ 8) (h : rk (rg L.length) L = some r) : rank L = (r : Int) := by
  unfold rank
  rw [if_pos (rk_isO h8 h), h]; rfl
set_option maxHeartbeats 4000000 in
theorem rank_any (v : Value) (L : List Int) (w : World) (h : Is w v L) (hn : L.length ≤ 1000000) : Calls Try.prog 64 #[v] w fun e w' => e = .returned (.int .i64 (rank L)) ∧ Keep w w' := by
  obtain ⟨a, cap, rfl, h⟩ := h
  have HC := hide h
  clear h
  have K0 := hide (Keep.refl w)
  by_cases h8 : L.length ≤ 8
  · have HL : Hid (∀ r : Nat, rk (rg L.length) L = some r → rank L = (r : Int)) := hide (fun r h => rank_of h8 h)
    have HE : Hid (rk (rg L.length) L = none → rank L = -1) := hide (fun h => rank_no (isO_no h8 h))
    obtain ⟨X, hX⟩ : ∃ X, rank L = X := ⟨_, rfl⟩
    rw [hX] at HL HE ⊢
    clear hX
    obtain ⟨n, hL⟩ : ∃ n, L.length = n := ⟨_, rfl⟩
    rw [hL] at hn HC h8 HL HE ⊢
    have HLN := hide hL
    clear hL
    have li8 : ¬ (8 < (n : Int)) := by omega
    have TR := hide (fun w => rising_any n h8 w)
    go_enter Try.func64, Try.ntmps64
    go_wp2_with fail
    (refine ((unhide TR) _).mono ?_; rintro e w1 ⟨rfl, hk9, hr9⟩; have K1 := hide hk9; have RG := hide hr9; clear hk9 hr9 TR)
    obtain ⟨G, HG⟩ : ∃ G, Hid (w.heap.size = G) := ⟨_, hide rfl⟩
    rw [unhide HG] at RG ⊢
    go_wp2_with fail
    go_loopw [3, 4, 16] (fun vr vl vi wr => ∃ (j s r : Nat) (l M : List Int), j + s = n ∧ r ≤ j * 400000 ∧ vi = .int .i64 (j : Int) ∧ vr = .int .i64 (r : Int) ∧ vl = .slice (some ⟨G, 0, none⟩) s n ∧ Hid (l.length = s ∧ rk (rg n) L = (rk l (L.drop j)).map (fun z => r + z) ∧ M.length = n ∧ M.take s = l) ∧ Hid (Rw wr G M) ∧ Hid (Keep w wr)) (fun vr vl vi _ => n - (intOf vi).toNat)
    case atStart => exact ⟨0, n, 0, rg n, rg n, by omega, by omega, rfl, rfl, rfl, hide ⟨rg_len n, by simp, rg_len n, by rw [List.take_of_length_le (by rw [rg_len]; exact Nat.le_refl _)]⟩, RG, K1⟩
    case round =>
      clear RG K1
      obtain ⟨j, s, r, l, M, hjs, hrb, rfl, rfl, rfl, HH, RG, KW⟩ := hrel
      by_cases hlt : j < n
      · obtain ⟨t, rfl⟩ : ∃ t, s = t + 1 := ⟨s - 1, by omega⟩
        have li : (j : Int) < (n : Int) := by omega
        obtain ⟨ad, rfl, e0⟩ := (unhide HC) j hlt
        have y0 := kc (unhide KW) e0
        clear e0
        have ⟨hl, hEq, hM, hMl⟩ := unhide HH
        have hdc := drop_cons (L := L) (j := j) (by rw [unhide HLN]; exact hlt)
        rw [hdc] at hEq
        obtain ⟨x, hx⟩ : ∃ x, L.getD j 0 = x := ⟨_, rfl⟩
        rw [hx] at hEq y0
        have hIs := (unhide RG).is (n := t + 1) (c := n) (by omega)
        rw [hMl] at hIs
        have TI := hide (index_any _ l x wr hIs (by omega))
        have HQ := hide (And.intro hl (And.intro hEq (And.intro hM hMl)))
        clear hl hEq hM hMl hdc hx hIs HH
        go_wp2_with fail
        (refine (unhide TI).mono ?_; rintro e w2 ⟨rfl, hk9⟩; have K2 := hide ((unhide KW).trans hk9); have RG2 := hide ((unhide RG).keep hk9); clear hk9 TI RG KW y0)
        by_cases hq : l.idxOf x < l.length
        · have hix : ixo l x = (l.idxOf x : Int) := by unfold ixo; rw [if_pos hq]
          rw [hix]
          clear hix
          have ⟨hl, hEq, hM, hMl⟩ := unhide HQ
          rw [rk, if_pos hq, hl, Nat.add_sub_cancel] at hEq
          rw [hl] at hq
          obtain ⟨q, hqe⟩ : ∃ q, l.idxOf x = q := ⟨_, rfl⟩
          rw [hqe] at hq hEq ⊢
          have TC := hide (fun w => count_any ((t : Nat) : Int) w)
          rw [cnt_nat (show t ≤ 8 by omega)] at TC
          obtain ⟨F, hF⟩ : ∃ F, fc t = F := ⟨_, rfl⟩
          have hF8 : F ≤ 40320 := by rw [← hF]; exact fc_le (by omega)
          rw [hF] at TC hEq
          obtain ⟨p, hp⟩ : ∃ p, q * F = p := ⟨_, rfl⟩
          have hpb : p ≤ 400000 := by
            rw [← hp]
            exact Nat.le_trans (Nat.mul_le_mul (show q ≤ 8 by omega) hF8) (by omega)
          rw [hp] at hEq
          have hpi : (q : Int) * (F : Int) = (p : Int) := by rw [← hp]; simp
          have hq0 : ¬ ((q : Int) < 0) := by omega
          have HQ2 := hide (And.intro hl (And.intro hEq (And.intro hM hMl)))
          clear HQ hl hEq hMl hp hqe hF
          go_wp2_with fail
          (refine (take_any G (t + 1) n q M w2 (by omega) (by omega) hM hq RG2).mono ?_; rintro e w3 ⟨M2, rfl, hb9, hr9, hl9, ht9⟩)
          have K3 : Hid (Keep w w3) := hide (Below.trans (unhide K2) (Below.mono hb9 (by rw [unhide HG]; exact Nat.le_refl _)))
          have RG3 := hide hr9
          have HT := hide (And.intro hl9 ht9)
          clear hb9 hr9 hl9 ht9 RG2 K2
          go_wp2_with fail
          (refine ((unhide TC) _).mono ?_; rintro e w4 ⟨rfl, hk9⟩; have K4 := hide ((unhide K3).trans hk9); have RG4 := hide ((unhide RG3).keep hk9); clear hk9 TC RG3 K3)
          go_wp2_with fail
          go_roundw
          case rel =>
            refine ⟨j + 1, t, r + p, l.eraseIdx q, M2, by omega, by omega, by go_num, by first | go_num | (rw [hpi]; go_num), rfl, hide ?_, RG4, K4⟩
            obtain ⟨hl, hEq, hM, hMl⟩ := unhide HQ2
            obtain ⟨h1, h2⟩ := unhide HT
            refine ⟨len_erase hl hq, ?_, h1, by rw [hMl] at h2; exact h2⟩
            rw [hEq, Option.map_map]
            congr 1
            funext z
            simp only [Function.comp]
            omega
          case measure => simp [intOf]; omega
        · have hix : ixo l x = -1 := by unfold ixo; rw [if_neg hq]
          rw [hix]
          have HX : Hid (X = -1) := hide ((unhide HE) (by rw [(unhide HQ).2.1, rk, if_neg hq]; rfl))
          clear hix hq
          go_wp2_with fail
          go_ret
          exact ⟨by rw [unhide HX]; rfl, unhide K2⟩
      · have li : ¬ (j : Int) < (n : Int) := by omega
        obtain rfl : s = 0 := by omega
        obtain rfl : j = n := by omega
        have HX : Hid (X = (r : Int)) := hide ((unhide HL) r (by
          rw [(unhide HH).2.1, List.drop_eq_nil_of_le (by rw [unhide HLN]; exact Nat.le_refl _), rk]
          simp))
        go_wp2_with fail
        go_ret
        exact ⟨by rw [unhide HX]; rfl, unhide KW⟩
  · have li8 : (8 < (L.length : Int)) := by omega
    have hX : rank L = -1 := rank_no (by unfold isO; rw [decide_eq_false h8]; rfl)
    rw [hX]
    generalize L.length = n at li8 hn ⊢
    go_enter Try.func64, Try.ntmps64
    go_wp2_with fail
    go_ret
    exact ⟨rfl, unhide K0⟩
end Od
end Go.Proofs.Ytakandlehneciaa
