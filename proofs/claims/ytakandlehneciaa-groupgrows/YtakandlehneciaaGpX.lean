/- Package group: the document's Right. -/
import Derived.Test.YtakandlehneciaaGpV
namespace Go.Proofs.Ytakandlehneciaa
open Go.RowKit
attribute [local go_sem ↓] Go.wp_at_zero Go.wp_at_succ
set_option linter.unusedVariables false
set_option linter.unusedSimpArgs false
set_option maxRecDepth 10000
namespace Gp
open Pa
theorem jobR_5 {RR : List (List Int)} {FR : List Bool} {AP : List P2} (h : 16 < AP.length) : jobR RR FR AP = false := by
  unfold jobR
  split
  · rw [decide_eq_false (show ¬ AP.length = 0 by omega)]; simp
  · rw [decide_eq_false (show ¬ AP.length ≤ 16 by omega)]; simp
theorem jobR_6 {RR : List (List Int)} {FR : List Bool} {AP : List P2} (h1 : RR.length = 1) (h : 0 < AP.length) : jobR RR FR AP = false := by
  unfold jobR
  rw [if_pos h1, decide_eq_false (show ¬ AP.length = 0 by omega)]; simp
set_option maxHeartbeats 8000000 in
theorem rright15_any (J : Value) (RR : List (List Int)) (FR : List Bool) (AP : List P2) (w : World) (hJ : Jb w J RR FR AP) (h1 : RR.length ≤ 1000) (h2 : ∀ L ∈ RR, L.length ≤ 1000) (h3 : AP.length ≤ 1000) :
    Calls Try.prog 15 #[J] w fun e w' => e = .returned (.bool (jobR RR FR AP)) ∧ Keep w w' := by
  obtain ⟨vr, vf, va, rfl, hr, hf, ha⟩ := hJ
  have HR := hide hr
  have HP := hide ha
  have J0 : Jc w.heap.size vr vf va (w.alloc (.cells #[vr, vf, va] 26)) := ⟨box_c w [vr, vf, va] _ 0 _ rfl, box_c w [vr, vf, va] _ 1 _ rfl, box_c w [vr, vf, va] _ 2 _ rfl⟩
  have K0 := (Keep.refl w).alloc (.cells #[vr, vf, va] 26)
  obtain ⟨ar, cr, rfl, -, hr⟩ := hr
  obtain ⟨af, cf, rfl, -⟩ := hf
  obtain ⟨aa, ca, rfl, -, ha⟩ := ha
  have HRc := hide hr
  have HPc := hide ha
  have HA : Hid (¬ (1 ≤ RR.length ∧ RR.length ≤ 2 ∧ FR.length = RR.length) → jobR RR FR AP = false) := hide jobR_1
  have HB : Hid (∀ k, k < RR.length → noRow (RR.getD k []) = true → jobR RR FR AP = false) := hide (fun k hk h => jobR_2 (any_yes hk h))
  have HC : Hid (FR.length = RR.length → RR.length = 1 → (∀ j, j < RR.length → noRow (RR.getD j []) = false) → AP.length = 0 → jobR RR FR AP = true) := hide (fun a b c d => by rw [jobR_3 a b (any_no c), d]; rfl)
  have HD : Hid (FR.length = RR.length → RR.length = 2 → (∀ j, j < RR.length → noRow (RR.getD j []) = false) → AP.length ≤ 16 → (∀ j, j < AP.length → noP (RR.getD 0 []).length (RR.getD 1 []).length (AP.getD j z2) = false) → jobR RR FR AP = true) := hide (fun a b c d e => by rw [jobR_4 a b (any_no c), any_no e, decide_eq_true d]; rfl)
  have HE : Hid (FR.length = RR.length → RR.length = 2 → (∀ j, j < RR.length → noRow (RR.getD j []) = false) → ∀ k, k < AP.length → noP (RR.getD 0 []).length (RR.getD 1 []).length (AP.getD k z2) = true → jobR RR FR AP = false) := hide (fun a b c k hk e => by rw [jobR_4 a b (any_no c), any_yes hk e]; simp)
  have HF : Hid (16 < AP.length → jobR RR FR AP = false) := hide jobR_5
  have HG : Hid (RR.length = 1 → 0 < AP.length → jobR RR FR AP = false) := hide jobR_6
  have H2 := hide (fun k (hk : k < RR.length) => h2 _ (getD_mem (z := []) hk))
  generalize jobR RR FR AP = ZZ at HA HB HC HD HE HF HG ⊢
  clear h2 hr ha
  have CK := hide (fun (w' : World) (hk : Keep (w.alloc (.cells #[.slice ar RR.length cr, .slice af FR.length cf, .slice aa AP.length ca] 26)) w') => J0.keep hk)
  have EK := hide (fun (w' : World) (hk : Keep (w.alloc (.cells #[.slice ar RR.length cr, .slice af FR.length cf, .slice aa AP.length ca] 26)) w') => K0.trans hk)
  clear J0 K0
  generalize hm : RR.length = m at *
  generalize FR.length = n at *
  generalize hl : AP.length = l at *
  clear hm hl
  by_cases c1 : m < 1
  · have HZ := (unhide HA) (by omega)
    clear HA HB HC HD HE HF HG HRc HPc HR HP H2
    rw [HZ]
    have l1 : (m : Int) < 1 := by omega
    go_enter Try.func15, Try.ntmps15
    go_wp2_with fail
    go_ret
    exact ⟨rfl, unhide EK _ (Keep.refl _)⟩
  have l1 : ¬ (m : Int) < 1 := by omega
  by_cases c2 : 2 < m
  · have HZ := (unhide HA) (by omega)
    clear HA HB HC HD HE HF HG HRc HPc HR HP H2
    rw [HZ]
    have l2 : (2 : Int) < (m : Int) := by omega
    go_enter Try.func15, Try.ntmps15
    go_wp2_with fail
    go_ret
    exact ⟨rfl, unhide EK _ (Keep.refl _)⟩
  have l2 : ¬ (2 : Int) < (m : Int) := by omega
  by_cases c3 : ¬ n = m
  · have HZ := (unhide HA) (by omega)
    clear HA HB HC HD HE HF HG HRc HPc HR HP H2
    rw [HZ]
    have l3 : ((n : Int) != (m : Int)) = true := by simp; omega
    go_enter Try.func15, Try.ntmps15
    go_wp2_with fail
    go_ret
    exact ⟨rfl, unhide EK _ (Keep.refl _)⟩
  have c3 : n = m := by omega
  subst c3
  have l3 : ((n : Int) != (n : Int)) = false := by simp
  by_cases c4 : 16 < l
  · have HZ := (unhide HF) (by omega)
    clear HA HB HC HD HE HF HG HRc HPc HR HP H2
    rw [HZ]
    have l4 : (16 : Int) < (l : Int) := by omega
    go_enter Try.func15, Try.ntmps15
    go_wp2_with fail
    go_ret
    exact ⟨rfl, unhide EK _ (Keep.refl _)⟩
  have l4 : ¬ (16 : Int) < (l : Int) := by omega
  by_cases c5 : n = 1 ∧ 0 < l
  · have HZ := (unhide HG) c5.1 c5.2
    obtain ⟨rfl, c5⟩ := c5
    clear HA HB HC HD HE HF HG HRc HPc HR HP H2
    rw [HZ]
    have l5 : (0 : Int) < (l : Int) := by omega
    go_enter Try.func15, Try.ntmps15
    go_wp2_with fail
    go_ret
    exact ⟨rfl, unhide EK _ (Keep.refl _)⟩
  clear HA HF HG
  have c6 : n = 1 ∨ n = 2 := by omega
  have c7 : n = 1 → l = 0 := by omega
  have C6 := hide c6
  have C7 := hide c7
  clear c1 c2 c4 c5 c7
  obtain ⟨c0, cf0, ca0⟩ := unhide CK _ (Keep.refl _)
  have KW1 : Hid (Keep (w.alloc (.cells #[.slice ar n cr, .slice af n cf, .slice aa l ca] 26)) (w.alloc (.cells #[.slice ar n cr, .slice af n cf, .slice aa l ca] 26))) := hide (Keep.refl _)
  have hg : (((n : Int) == 1) = true ∧ (decide ((0 : Int) < (l : Int))) = false ∧ ¬ (0 : Int) < (l : Int) ∧ ¬ 0 < l) ∨ ((n : Int) == 1) = false := by
    rcases c6 with rfl | rfl
    · exact .inl ⟨by simp, decide_eq_false (by have := unhide C7 rfl; omega), by have := unhide C7 rfl; omega, by have := unhide C7 rfl; omega⟩
    · exact .inr (by simp)
  clear c6 c3
  have d1 : decide ((n : Int) < 1) = false := decide_eq_false l1
  have d2 : decide ((2 : Int) < (n : Int)) = false := decide_eq_false l2
  have d4 : decide ((16 : Int) < (l : Int)) = false := decide_eq_false l4
  have L16 : l ≤ 16 := by omega
  clear l1 l2 l4
  go_enter Try.func15, Try.ntmps15
  go_upto_region 1 with fail
  generalize w.alloc (.cells #[.slice ar n cr, .slice af n cf, .slice aa l ca] 26) = w1 at CK EK KW1 c0 cf0 ca0 ⊢
  generalize w.heap.size = wb at CK c0 cf0 ca0 ⊢
  rcases hg with ⟨g1, g2, g3, g4⟩ | g1
  all_goals (
    go_wp2_with fail
    try clear d1 d2 d4 l3
    try clear g2 g3
    go_loopw [3] (fun vi wr => ∃ i : Nat, i ≤ n ∧ vi = .int .i64 (i : Int) ∧ Hid (Keep w1 wr) ∧ Hid (∀ j, j < i → noRow (RR.getD j []) = false)) (fun vi _ => n - (intOf vi).toNat)
    case atStart => exact ⟨0, Nat.zero_le _, rfl, KW1, hide (fun j h => absurd h (Nat.not_lt_zero _))⟩
    case round =>
      clear KW1 c0 cf0 ca0
      obtain ⟨i, hi, rfl, KW, NR⟩ := hrel
      obtain ⟨c0, cf0, ca0⟩ := unhide CK _ (unhide KW)
      by_cases hlt : i < n
      · have li : (i : Int) < (n : Int) := by omega
        obtain ⟨ad, u, rfl, y00, hu⟩ := (unhide HRc) i hlt
        obtain ⟨ua, uc, rfl, hu⟩ := hu
        have HU := hide hu
        have Y00 := hide y00
        have y0 := kc ((unhide EK) _ (unhide KW)) y00
        clear hu y00
        have h9 := unhide H2 i hlt
        have HBi := hide (unhide HB i hlt)
        have HNR : Hid (noRow (RR.getD i []) = false → ∀ j, j < i + 1 → noRow (RR.getD j []) = false) := hide (fun h => any_more (unhide NR) h)
        have HO := noRow_or (RR.getD i [])
        generalize noRow (RR.getD i []) = NX at HBi HNR HO
        generalize hL : RR.getD i [] = L at *
        clear hL
        rcases HO with ⟨g5, rfl⟩ | ⟨g5, g6, rfl⟩ | ⟨g5, g6, e7⟩
        · have hz := unhide HBi rfl
          subst hz
          have e1 : decide ((L.length : Int) < 1) = true := decide_eq_true (by omega)
          have g5' : (L.length : Int) < 1 := by omega
          go_wp2_with fail
          go_ret
          exact ⟨rfl, unhide EK _ (unhide KW)⟩
        · have hz := unhide HBi rfl
          subst hz
          have e1 : decide ((L.length : Int) < 1) = false := decide_eq_false (by omega)
          have e2 : decide ((4 : Int) < (L.length : Int)) = true := decide_eq_true (by omega)
          have g5' : ¬ (L.length : Int) < 1 := by omega
          have g6' : (4 : Int) < (L.length : Int) := by omega
          go_wp2_with fail
          go_ret
          exact ⟨rfl, unhide EK _ (unhide KW)⟩
        · have e1 : decide ((L.length : Int) < 1) = false := decide_eq_false (by omega)
          have e2 : decide ((4 : Int) < (L.length : Int)) = false := decide_eq_false (by omega)
          have g5' : ¬ (L.length : Int) < 1 := by omega
          have g6' : ¬ (4 : Int) < (L.length : Int) := by omega
          have HY : Hid (∀ k, k < L.length → noT (L.getD k 0) = true → NX = true) := hide (fun k hk h => by rw [e7]; exact any_yes hk h)
          have HX : Hid ((∀ k, k < L.length → noT (L.getD k 0) = false) → NX = false) := hide (fun h => by rw [e7]; exact any_no h)
          clear e7
          generalize L.length = m at *
          go_wp2_with fail
          clear e1 e2 g5' g6' ca0 cf0 g5 g6
          go_loopw [4] (fun vk wr => ∃ k : Nat, k ≤ m ∧ vk = .int .i64 (k : Int) ∧ Hid (Keep w1 wr) ∧ Hid (∀ j, j < k → noT (L.getD j 0) = false)) (fun vk _ => m - (intOf vk).toNat)
          case atStart => exact ⟨0, Nat.zero_le _, rfl, KW, hide (fun j h => absurd h (Nat.not_lt_zero _))⟩
          case round =>
            clear c0 y0 KW
            obtain ⟨k, hk, rfl, KW, NT⟩ := hrel
            obtain ⟨c0, -, -⟩ := unhide CK _ (unhide KW)
            have y0 := kc ((unhide EK) _ (unhide KW)) (unhide Y00)
            by_cases hlk : k < m
            · have lk : (k : Int) < (m : Int) := by omega
              obtain ⟨ad3, rfl, x0⟩ := (unhide HU) k hlk
              have x0 := kc ((unhide EK) _ (unhide KW)) x0
              have HYk := hide (unhide HY k hlk)
              have HNT : Hid (noT (L.getD k 0) = false → ∀ j, j < k + 1 → noT (L.getD j 0) = false) := hide (fun h => any_more (unhide NT) h)
              have HO := noT_or (L.getD k 0)
              generalize noT (L.getD k 0) = NY at HYk HNT HO
              generalize L.getD k 0 = t at HO x0
              rcases HO with ⟨g5, rfl⟩ | ⟨g5, g6, rfl⟩ | ⟨g5, g6, rfl⟩
              · have hz := unhide HBi (unhide HYk rfl)
                subst hz
                have e1 : decide (t < 0) = true := decide_eq_true g5
                go_wp2_with fail
                go_ret
                exact ⟨rfl, unhide EK _ (unhide KW)⟩
              · have hz := unhide HBi (unhide HYk rfl)
                subst hz
                have e1 : decide (t < 0) = false := decide_eq_false g5
                have e2 : decide ((6000 : Int) < t) = true := decide_eq_true g6
                go_wp2_with fail
                go_ret
                exact ⟨rfl, unhide EK _ (unhide KW)⟩
              · have e1 : decide (t < 0) = false := decide_eq_false g5
                have e2 : decide ((6000 : Int) < t) = false := decide_eq_false g6
                go_wp2_with fail
                go_roundw
                case rel => exact ⟨k + 1, hlk, by go_num, KW, hide (unhide HNT rfl)⟩
                case measure => simp [intOf]; omega
            · have lk : ¬ (k : Int) < (m : Int) := by omega
              obtain rfl : k = m := by omega
              have hn := unhide HNR (unhide HX (unhide NT))
              have HN := hide hn
              clear hn
              go_wp2_with fail
              go_roundw
              case rel => exact ⟨i + 1, hlt, by go_num, KW, HN⟩
              case measure => simp [intOf]; omega
      · have li : ¬ (i : Int) < (n : Int) := by omega
        obtain rfl : i = n := by omega
        have K1 := KW
        have NR9 := NR
        clear NR KW hi hlt
        go_wp2_with fail
        clear c0 ca0 cf0 li
        go_loopw [5] (fun vi wr => ∃ i : Nat, i ≤ l ∧ vi = .int .i64 (i : Int) ∧ Hid (Keep w1 wr) ∧ Hid (∀ j, j < i → noP ((RR.getD 0 []).length : Int) ((RR.getD 1 []).length : Int) (AP.getD j z2) = false)) (fun vi _ => l - (intOf vi).toNat)
        case atStart => exact ⟨0, Nat.zero_le _, rfl, K1, hide (fun j h => absurd h (Nat.not_lt_zero _))⟩
        case round =>
          clear K1
          obtain ⟨k, hk, rfl, KW, NT⟩ := hrel
          obtain ⟨c0, -, ca0⟩ := unhide CK _ (unhide KW)
          by_cases hlk : k < l
          · first
            | (exact absurd hlk (by omega))
            | (
              have lk : (k : Int) < (l : Int) := by omega
              have hn2 : i = 2 := by
                rcases unhide C6 with h | h
                · have := unhide C7 h; omega
                · exact h
              have HYk := hide (fun h => unhide HE trivial hn2 (unhide NR9) k hlk h)
              have HNT : Hid (noP ((RR.getD 0 []).length : Int) ((RR.getD 1 []).length : Int) (AP.getD k z2) = false → ∀ j, j < k + 1 → noP ((RR.getD 0 []).length : Int) ((RR.getD 1 []).length : Int) (AP.getD j z2) = false) := hide (fun h => any_more (unhide NT) h)
              obtain ⟨ad, rfl, x0, x1⟩ := (unhide HPc) k hlk
              obtain ⟨ar0, u0, rfl, y0, hu0⟩ := (unhide HRc) 0 (by omega)
              obtain ⟨ar2, u1, ea, y1, hu1⟩ := (unhide HRc) 1 (by omega)
              injection ea with ea
              subst ea
              obtain ⟨q, hq⟩ : ∃ q, AP.getD k z2 = q := ⟨_, rfl⟩
              obtain ⟨p, q⟩ := q
              rw [hq] at x0 x1 HYk HNT
              simp only at x0 x1
              obtain ⟨a0, cap0, rfl, -⟩ := hu0
              obtain ⟨a1, cap1, rfl, -⟩ := hu1
              have y0 := add_0 y0
              have y1 := add_1 y1
              have l0 := unhide H2 0 (by omega)
              have l1 := unhide H2 1 (by omega)
              clear hq
              have HO := noP_or (RR.getD 0 []).length (RR.getD 1 []).length p q
              generalize noP ((RR.getD 0 []).length : Int) ((RR.getD 1 []).length : Int) (p, q) = NY at HYk HNT HO
              generalize (RR.getD 0 []).length = la at *
              generalize (RR.getD 1 []).length = lb at *
              have S1 : Hid (∀ w', Keep w1 w' → w'.cell? ⟨wb, 0, none⟩ = some (.slice (some ar0) i cr) ∧ w'.cell? ar0 = some (.slice a0 la cap0) ∧ w'.cell? ⟨ar0.block, ar0.off + 1, none⟩ = some (.slice a1 lb cap1)) := hide (fun w' hk => ⟨(unhide CK _ hk).1, kc ((unhide EK) _ hk) y0, kc ((unhide EK) _ hk) y1⟩)
              have x0 := kc ((unhide EK) _ (unhide KW)) x0
              have x1 := kc ((unhide EK) _ (unhide KW)) x1
              subst hn2
              clear y0 y1
              have K5 := (Keep.refl wr).alloc (.cells #[.int .i64 p, .int .i64 q] 55)
              have B0 := c2_new wr p q 55
              obtain ⟨b0, b1⟩ := B0
              simp only at b0 b1
              have K6 := hide ((unhide KW).trans K5)
              go_upto_region 17 with fail
              generalize wr.alloc (.cells #[.int .i64 p, .int .i64 q] 55) = w5 at b0 b1 K5 K6 ⊢
              generalize wr.heap.size = nb at b0 b1 ⊢
              have S5 : Hid (∀ w', Keep w5 w' → w'.cell? ⟨nb, 0, none⟩ = some (.int .i64 p) ∧ w'.cell? ⟨nb, 1, none⟩ = some (.int .i64 q) ∧ w'.cell? ⟨wb, 0, none⟩ = some (.slice (some ar0) 2 cr) ∧ w'.cell? ar0 = some (.slice a0 la cap0) ∧ w'.cell? ⟨ar0.block, ar0.off + 1, none⟩ = some (.slice a1 lb cap1)) := hide (fun w' hk => ⟨kc hk b0, kc hk b1, unhide S1 _ ((unhide K6).trans hk)⟩)
              have K7 := hide ((unhide K6).trans (Keep.refl w5).drew)
              clear b0 b1 K5 x0 x1 c0 ca0 S1
              rcases HO with ⟨g1, rfl⟩ | ⟨g1, g2, rfl⟩ | ⟨g1, g2, g3, rfl⟩ | ⟨g1, g2, g3, g4, rfl⟩ | ⟨g1, g2, g3, g4, rfl⟩
              · have hz := unhide HYk rfl
                subst hz
                have b1 : decide (p < 0) = true := decide_eq_true g1
                clear g1
                refine wp_region_held_drew (S := (fun w' => w'.cell? ⟨nb, 0, none⟩ = some (.int .i64 p) ∧ w'.cell? ⟨nb, 1, none⟩ = some (.int .i64 q) ∧ w'.cell? ⟨wb, 0, none⟩ = some (.slice (some ar0) 2 cr) ∧ w'.cell? ar0 = some (.slice a0 la cap0) ∧ w'.cell? ⟨ar0.block, ar0.off + 1, none⟩ = some (.slice a1 lb cap1))) (by kernel_rfl) (by exact unhide S5 _ ((Keep.refl _).drew)) (fun hHeld => ?_)
                refine wpAnyH_take (i := 0) (v := ?_) rfl (by kernel_rfl) (by kernel_rfl) (by kernel_rfl) (fun _ _ _ h => h) (Or.inl ⟨by rfl, ?_⟩) hHeld ?_
                rotate_left
                · intro w hSw
                  try dsimp only at hSw
                  go_simp
                  try with_reducible rfl
                show wpAnyH _ _ _ _ _ _ _ (Act.put _ (some 109) _) _
                try simp only [Act.put, List.setIfInBounds_toArray, List.set_cons_zero, List.set_cons_succ]
                refine wpAnyH_take (i := 1) (v := ?_) rfl (by kernel_rfl) (by kernel_rfl) (by kernel_rfl) (fun _ _ _ h => h) (Or.inl ⟨by rfl, ?_⟩) hHeld ?_
                rotate_left
                · intro w hSw
                  try dsimp only at hSw
                  go_simp
                  try with_reducible rfl
                show wpAnyH _ _ _ _ _ _ _ (Act.put _ (some 110) _) _
                try simp only [Act.put, List.setIfInBounds_toArray, List.set_cons_zero, List.set_cons_succ]
                refine wpAnyH_take (i := 2) (v := ?_) rfl (by kernel_rfl) (by kernel_rfl) (by kernel_rfl) (fun _ _ _ h => h) (Or.inl ⟨by rfl, ?_⟩) hHeld ?_
                rotate_left
                · intro w hSw
                  try dsimp only at hSw
                  go_simp
                  try with_reducible rfl
                show wpAnyH _ _ _ _ _ _ _ (Act.put _ (some 111) _) _
                try simp only [Act.put, List.setIfInBounds_toArray, List.set_cons_zero, List.set_cons_succ]
                refine wpAnyH_take (i := 3) (v := ?_) rfl (by kernel_rfl) (by kernel_rfl) (by kernel_rfl) (fun _ _ _ h => h) (Or.inl ⟨by rfl, ?_⟩) hHeld ?_
                rotate_left
                · intro w hSw
                  try dsimp only at hSw
                  go_simp
                  try with_reducible rfl
                show wpAnyH _ _ _ _ _ _ _ (Act.put _ (some 112) _) _
                try simp only [Act.put, List.setIfInBounds_toArray, List.set_cons_zero, List.set_cons_succ]
                refine wpAnyH_take (i := 4) (v := undef) rfl (by kernel_rfl) (by kernel_rfl) (by kernel_rfl) (fun _ _ _ h => h) (Or.inr ⟨by rfl, rfl⟩) hHeld ?_
                show wpAnyH _ _ _ _ _ _ _ (Act.put _ (some 113) _) _
                try simp only [Act.put, List.setIfInBounds_toArray, List.set_cons_zero, List.set_cons_succ]
                refine wpAnyH_take (i := 5) (v := undef) rfl (by kernel_rfl) (by kernel_rfl) (by kernel_rfl) (fun _ _ _ h => h) (Or.inr ⟨by rfl, rfl⟩) hHeld ?_
                show wpAnyH _ _ _ _ _ _ _ (Act.put _ (some 114) _) _
                try simp only [Act.put, List.setIfInBounds_toArray, List.set_cons_zero, List.set_cons_succ]
                refine wpAnyH_take (i := 6) (v := undef) rfl (by kernel_rfl) (by kernel_rfl) (by kernel_rfl) (fun _ _ _ h => h) (Or.inr ⟨by rfl, rfl⟩) hHeld ?_
                show wpAnyH _ _ _ _ _ _ _ (Act.put _ (some 115) _) _
                try simp only [Act.put, List.setIfInBounds_toArray, List.set_cons_zero, List.set_cons_succ]
                refine wpAnyH_take (i := 7) (v := undef) rfl (by kernel_rfl) (by kernel_rfl) (by kernel_rfl) (fun _ _ _ h => h) (Or.inr ⟨by rfl, rfl⟩) hHeld ?_
                show wpAnyH _ _ _ _ _ _ _ (Act.put _ (some 116) _) _
                try simp only [Act.put, List.setIfInBounds_toArray, List.set_cons_zero, List.set_cons_succ]
                refine wpAnyH_take (i := 8) (v := undef) rfl (by kernel_rfl) (by kernel_rfl) (by kernel_rfl) (fun _ _ _ h => h) (Or.inr ⟨by rfl, rfl⟩) hHeld ?_
                show wpAnyH _ _ _ _ _ _ _ (Act.put _ (some 117) _) _
                try simp only [Act.put, List.setIfInBounds_toArray, List.set_cons_zero, List.set_cons_succ]
                refine wpAnyH_take (i := 9) (v := undef) rfl (by kernel_rfl) (by kernel_rfl) (by kernel_rfl) (fun _ _ _ h => h) (Or.inr ⟨by rfl, rfl⟩) hHeld ?_
                show wpAnyH _ _ _ _ _ _ _ (Act.put _ (some 118) _) _
                try simp only [Act.put, List.setIfInBounds_toArray, List.set_cons_zero, List.set_cons_succ]
                refine wpAnyH_take (i := 10) (v := undef) rfl (by kernel_rfl) (by kernel_rfl) (by kernel_rfl) (fun _ _ _ h => h) (Or.inr ⟨by rfl, rfl⟩) hHeld ?_
                show wpAnyH _ _ _ _ _ _ _ (Act.put _ (some 119) _) _
                try simp only [Act.put, List.setIfInBounds_toArray, List.set_cons_zero, List.set_cons_succ]
                refine wpAnyH_take (i := 11) (v := undef) rfl (by kernel_rfl) (by kernel_rfl) (by kernel_rfl) (fun _ _ _ h => h) (Or.inr ⟨by rfl, rfl⟩) hHeld ?_
                show wpAnyH _ _ _ _ _ _ _ (Act.put _ (some 120) _) _
                try simp only [Act.put, List.setIfInBounds_toArray, List.set_cons_zero, List.set_cons_succ]
                refine wpAnyH_take (i := 12) (v := ?_) rfl (by kernel_rfl) (by kernel_rfl) (by kernel_rfl) (fun _ _ _ h => h) (Or.inl ⟨by rfl, ?_⟩) hHeld ?_
                rotate_left
                · intro w hSw
                  try dsimp only at hSw
                  go_simp
                  try with_reducible rfl
                show wpAnyH _ _ _ _ _ _ _ (Act.put _ (some 121) _) _
                try simp only [Act.put, List.setIfInBounds_toArray, List.set_cons_zero, List.set_cons_succ]
                refine wpAnyH_take (i := 13) (v := ?_) rfl (by kernel_rfl) (by kernel_rfl) (by kernel_rfl) (fun _ _ _ h => h) (Or.inl ⟨by rfl, ?_⟩) hHeld ?_
                rotate_left
                · intro w hSw
                  try dsimp only at hSw
                  go_simp
                  try with_reducible rfl
                show wpAnyH _ _ _ _ _ _ _ (Act.put _ (some 122) _) _
                try simp only [Act.put, List.setIfInBounds_toArray, List.set_cons_zero, List.set_cons_succ]
                refine wpAnyH_take (i := 14) (v := undef) rfl (by kernel_rfl) (by kernel_rfl) (by kernel_rfl) (fun _ _ _ h => h) (Or.inr ⟨by rfl, rfl⟩) hHeld ?_
                show wpAnyH _ _ _ _ _ _ _ (Act.put _ (some 123) _) _
                try simp only [Act.put, List.setIfInBounds_toArray, List.set_cons_zero, List.set_cons_succ]
                refine wpAnyH_take (i := 15) (v := undef) rfl (by kernel_rfl) (by kernel_rfl) (by kernel_rfl) (fun _ _ _ h => h) (Or.inr ⟨by rfl, rfl⟩) hHeld ?_
                show wpAnyH _ _ _ _ _ _ _ (Act.put _ (some 124) _) _
                try simp only [Act.put, List.setIfInBounds_toArray, List.set_cons_zero, List.set_cons_succ]
                refine wpAnyH_take (i := 16) (v := undef) rfl (by kernel_rfl) (by kernel_rfl) (by kernel_rfl) (fun _ _ _ h => h) (Or.inr ⟨by rfl, rfl⟩) hHeld ?_
                show wpAnyH _ _ _ _ _ _ _ (Act.put _ (some 125) _) _
                try simp only [Act.put, List.setIfInBounds_toArray, List.set_cons_zero, List.set_cons_succ]
                refine wpAnyH_take (i := 17) (v := ?_) rfl (by kernel_rfl) (by kernel_rfl) (by kernel_rfl) (fun _ _ _ h => h) (Or.inl ⟨by rfl, ?_⟩) hHeld ?_
                rotate_left
                · intro w hSw
                  try dsimp only at hSw
                  go_simp
                  try with_reducible rfl
                show wpAnyH _ _ _ _ _ _ _ (Act.put _ (some 126) _) _
                try simp only [Act.put, List.setIfInBounds_toArray, List.set_cons_zero, List.set_cons_succ]
                refine wpAnyH_take (i := 18) (v := ?_) rfl (by kernel_rfl) (by kernel_rfl) (by kernel_rfl) (fun _ _ _ h => h) (Or.inl ⟨by rfl, ?_⟩) hHeld ?_
                rotate_left
                · intro w hSw
                  try dsimp only at hSw
                  go_simp
                  try with_reducible rfl
                show wpAnyH _ _ _ _ _ _ _ (Act.put _ (some 127) _) _
                try simp only [Act.put, List.setIfInBounds_toArray, List.set_cons_zero, List.set_cons_succ]
                refine wpAnyH_take (i := 19) (v := undef) rfl (by kernel_rfl) (by kernel_rfl) (by kernel_rfl) (fun _ _ _ h => h) (Or.inr ⟨by rfl, rfl⟩) hHeld ?_
                show wpAnyH _ _ _ _ _ _ _ (Act.put _ (some 128) _) _
                try simp only [Act.put, List.setIfInBounds_toArray, List.set_cons_zero, List.set_cons_succ]
                refine wpAnyH_take (i := 20) (v := undef) rfl (by kernel_rfl) (by kernel_rfl) (by kernel_rfl) (fun _ _ _ h => h) (Or.inr ⟨by rfl, rfl⟩) hHeld ?_
                show wpAnyH _ _ _ _ _ _ _ (Act.put _ (some 129) _) _
                try simp only [Act.put, List.setIfInBounds_toArray, List.set_cons_zero, List.set_cons_succ]
                refine wpAnyH_take (i := 21) (v := undef) rfl (by kernel_rfl) (by kernel_rfl) (by kernel_rfl) (fun _ _ _ h => h) (Or.inr ⟨by rfl, rfl⟩) hHeld ?_
                show wpAnyH _ _ _ _ _ _ _ (Act.put _ (some 130) _) _
                try simp only [Act.put, List.setIfInBounds_toArray, List.set_cons_zero, List.set_cons_succ]
                refine wpAnyH_take (i := 22) (v := undef) rfl (by kernel_rfl) (by kernel_rfl) (by kernel_rfl) (fun _ _ _ h => h) (Or.inr ⟨by rfl, rfl⟩) hHeld ?_
                show wpAnyH _ _ _ _ _ _ _ (Act.put _ (some 131) _) _
                try simp only [Act.put, List.setIfInBounds_toArray, List.set_cons_zero, List.set_cons_succ]
                refine wpAnyH_take (i := 23) (v := undef) rfl (by kernel_rfl) (by kernel_rfl) (by kernel_rfl) (fun _ _ _ h => h) (Or.inr ⟨by rfl, rfl⟩) hHeld ?_
                show wpAnyH _ _ _ _ _ _ _ (Act.put _ (some 132) _) _
                try simp only [Act.put, List.setIfInBounds_toArray, List.set_cons_zero, List.set_cons_succ]
                refine wpAnyH_take (i := 24) (v := undef) rfl (by kernel_rfl) (by kernel_rfl) (by kernel_rfl) (fun _ _ _ h => h) (Or.inr ⟨by rfl, rfl⟩) hHeld ?_
                show wpAnyH _ _ _ _ _ _ _ (Act.put _ (some 133) _) _
                try simp only [Act.put, List.setIfInBounds_toArray, List.set_cons_zero, List.set_cons_succ]
                refine wpAnyH_take (i := 25) (v := undef) rfl (by kernel_rfl) (by kernel_rfl) (by kernel_rfl) (fun _ _ _ h => h) (Or.inr ⟨by rfl, rfl⟩) hHeld ?_
                show wpAnyH _ _ _ _ _ _ _ (Act.put _ (some 134) _) _
                try simp only [Act.put, List.setIfInBounds_toArray, List.set_cons_zero, List.set_cons_succ]
                refine wpAnyH_take (i := 26) (v := undef) rfl (by kernel_rfl) (by kernel_rfl) (by kernel_rfl) (fun _ _ _ h => h) (Or.inr ⟨by rfl, rfl⟩) hHeld ?_
                show wpAnyH _ _ _ _ _ _ _ (Act.put _ (some 135) _) _
                try simp only [Act.put, List.setIfInBounds_toArray, List.set_cons_zero, List.set_cons_succ]
                refine wpAnyH_take (i := 27) (v := ?_) rfl (by kernel_rfl) (by kernel_rfl) (by kernel_rfl) (fun _ _ _ h => h) (Or.inl ⟨by rfl, ?_⟩) hHeld ?_
                rotate_left
                · intro w hSw
                  try dsimp only at hSw
                  go_simp
                  try with_reducible rfl
                show wpAnyH _ _ _ _ _ _ _ (Act.put _ (some 136) _) _
                try simp only [Act.put, List.setIfInBounds_toArray, List.set_cons_zero, List.set_cons_succ]
                refine wpAnyH_done (by kernel_rfl) ?_ _
                clear hHeld
                go_wp2_with fail
                go_ret
                exact ⟨rfl, unhide EK _ (unhide K7)⟩
              · have hz := unhide HYk rfl
                subst hz
                have b1 : decide (p < 0) = false := decide_eq_false g1
                have b2 : decide ((la : Int) ≤ p) = true := decide_eq_true g2
                clear g1 g2
                refine wp_region_held_drew (S := (fun w' => w'.cell? ⟨nb, 0, none⟩ = some (.int .i64 p) ∧ w'.cell? ⟨nb, 1, none⟩ = some (.int .i64 q) ∧ w'.cell? ⟨wb, 0, none⟩ = some (.slice (some ar0) 2 cr) ∧ w'.cell? ar0 = some (.slice a0 la cap0) ∧ w'.cell? ⟨ar0.block, ar0.off + 1, none⟩ = some (.slice a1 lb cap1))) (by kernel_rfl) (by exact unhide S5 _ ((Keep.refl _).drew)) (fun hHeld => ?_)
                refine wpAnyH_take (i := 0) (v := ?_) rfl (by kernel_rfl) (by kernel_rfl) (by kernel_rfl) (fun _ _ _ h => h) (Or.inl ⟨by rfl, ?_⟩) hHeld ?_
                rotate_left
                · intro w hSw
                  try dsimp only at hSw
                  go_simp
                  try with_reducible rfl
                show wpAnyH _ _ _ _ _ _ _ (Act.put _ (some 109) _) _
                try simp only [Act.put, List.setIfInBounds_toArray, List.set_cons_zero, List.set_cons_succ]
                refine wpAnyH_take (i := 1) (v := ?_) rfl (by kernel_rfl) (by kernel_rfl) (by kernel_rfl) (fun _ _ _ h => h) (Or.inl ⟨by rfl, ?_⟩) hHeld ?_
                rotate_left
                · intro w hSw
                  try dsimp only at hSw
                  go_simp
                  try with_reducible rfl
                show wpAnyH _ _ _ _ _ _ _ (Act.put _ (some 110) _) _
                try simp only [Act.put, List.setIfInBounds_toArray, List.set_cons_zero, List.set_cons_succ]
                refine wpAnyH_take (i := 2) (v := ?_) rfl (by kernel_rfl) (by kernel_rfl) (by kernel_rfl) (fun _ _ _ h => h) (Or.inl ⟨by rfl, ?_⟩) hHeld ?_
                rotate_left
                · intro w hSw
                  try dsimp only at hSw
                  go_simp
                  try with_reducible rfl
                show wpAnyH _ _ _ _ _ _ _ (Act.put _ (some 111) _) _
                try simp only [Act.put, List.setIfInBounds_toArray, List.set_cons_zero, List.set_cons_succ]
                refine wpAnyH_take (i := 3) (v := ?_) rfl (by kernel_rfl) (by kernel_rfl) (by kernel_rfl) (fun _ _ _ h => h) (Or.inl ⟨by rfl, ?_⟩) hHeld ?_
                rotate_left
                · intro w hSw
                  try dsimp only at hSw
                  go_simp
                  try with_reducible rfl
                show wpAnyH _ _ _ _ _ _ _ (Act.put _ (some 112) _) _
                try simp only [Act.put, List.setIfInBounds_toArray, List.set_cons_zero, List.set_cons_succ]
                refine wpAnyH_take (i := 4) (v := ?_) rfl (by kernel_rfl) (by kernel_rfl) (by kernel_rfl) (fun _ _ _ h => h) (Or.inl ⟨by rfl, ?_⟩) hHeld ?_
                rotate_left
                · intro w hSw
                  try dsimp only at hSw
                  go_simp
                  try with_reducible rfl
                show wpAnyH _ _ _ _ _ _ _ (Act.put _ (some 113) _) _
                try simp only [Act.put, List.setIfInBounds_toArray, List.set_cons_zero, List.set_cons_succ]
                refine wpAnyH_take (i := 5) (v := ?_) rfl (by kernel_rfl) (by kernel_rfl) (by kernel_rfl) (fun _ _ _ h => h) (Or.inl ⟨by rfl, ?_⟩) hHeld ?_
                rotate_left
                · intro w hSw
                  try dsimp only at hSw
                  go_simp
                  try with_reducible rfl
                show wpAnyH _ _ _ _ _ _ _ (Act.put _ (some 114) _) _
                try simp only [Act.put, List.setIfInBounds_toArray, List.set_cons_zero, List.set_cons_succ]
                refine wpAnyH_take (i := 6) (v := ?_) rfl (by kernel_rfl) (by kernel_rfl) (by kernel_rfl) (fun _ _ _ h => h) (Or.inl ⟨by rfl, ?_⟩) hHeld ?_
                rotate_left
                · intro w hSw
                  try dsimp only at hSw
                  go_simp
                  try with_reducible rfl
                show wpAnyH _ _ _ _ _ _ _ (Act.put _ (some 115) _) _
                try simp only [Act.put, List.setIfInBounds_toArray, List.set_cons_zero, List.set_cons_succ]
                refine wpAnyH_take (i := 7) (v := ?_) rfl (by kernel_rfl) (by kernel_rfl) (by kernel_rfl) (fun _ _ _ h => h) (Or.inl ⟨by rfl, ?_⟩) hHeld ?_
                rotate_left
                · intro w hSw
                  try dsimp only at hSw
                  go_simp
                  try with_reducible rfl
                show wpAnyH _ _ _ _ _ _ _ (Act.put _ (some 116) _) _
                try simp only [Act.put, List.setIfInBounds_toArray, List.set_cons_zero, List.set_cons_succ]
                refine wpAnyH_take (i := 8) (v := ?_) rfl (by kernel_rfl) (by kernel_rfl) (by kernel_rfl) (fun _ _ _ h => h) (Or.inl ⟨by rfl, ?_⟩) hHeld ?_
                rotate_left
                · intro w hSw
                  try dsimp only at hSw
                  go_simp
                  try with_reducible rfl
                show wpAnyH _ _ _ _ _ _ _ (Act.put _ (some 117) _) _
                try simp only [Act.put, List.setIfInBounds_toArray, List.set_cons_zero, List.set_cons_succ]
                refine wpAnyH_take (i := 9) (v := ?_) rfl (by kernel_rfl) (by kernel_rfl) (by kernel_rfl) (fun _ _ _ h => h) (Or.inl ⟨by rfl, ?_⟩) hHeld ?_
                rotate_left
                · intro w hSw
                  try dsimp only at hSw
                  go_simp
                  try with_reducible rfl
                show wpAnyH _ _ _ _ _ _ _ (Act.put _ (some 118) _) _
                try simp only [Act.put, List.setIfInBounds_toArray, List.set_cons_zero, List.set_cons_succ]
                refine wpAnyH_take (i := 10) (v := ?_) rfl (by kernel_rfl) (by kernel_rfl) (by kernel_rfl) (fun _ _ _ h => h) (Or.inl ⟨by rfl, ?_⟩) hHeld ?_
                rotate_left
                · intro w hSw
                  try dsimp only at hSw
                  go_simp
                  try with_reducible rfl
                show wpAnyH _ _ _ _ _ _ _ (Act.put _ (some 119) _) _
                try simp only [Act.put, List.setIfInBounds_toArray, List.set_cons_zero, List.set_cons_succ]
                refine wpAnyH_take (i := 11) (v := ?_) rfl (by kernel_rfl) (by kernel_rfl) (by kernel_rfl) (fun _ _ _ h => h) (Or.inl ⟨by rfl, ?_⟩) hHeld ?_
                rotate_left
                · intro w hSw
                  try dsimp only at hSw
                  go_simp
                  try with_reducible rfl
                show wpAnyH _ _ _ _ _ _ _ (Act.put _ (some 120) _) _
                try simp only [Act.put, List.setIfInBounds_toArray, List.set_cons_zero, List.set_cons_succ]
                refine wpAnyH_take (i := 12) (v := ?_) rfl (by kernel_rfl) (by kernel_rfl) (by kernel_rfl) (fun _ _ _ h => h) (Or.inl ⟨by rfl, ?_⟩) hHeld ?_
                rotate_left
                · intro w hSw
                  try dsimp only at hSw
                  go_simp
                  try with_reducible rfl
                show wpAnyH _ _ _ _ _ _ _ (Act.put _ (some 121) _) _
                try simp only [Act.put, List.setIfInBounds_toArray, List.set_cons_zero, List.set_cons_succ]
                refine wpAnyH_take (i := 13) (v := ?_) rfl (by kernel_rfl) (by kernel_rfl) (by kernel_rfl) (fun _ _ _ h => h) (Or.inl ⟨by rfl, ?_⟩) hHeld ?_
                rotate_left
                · intro w hSw
                  try dsimp only at hSw
                  go_simp
                  try with_reducible rfl
                show wpAnyH _ _ _ _ _ _ _ (Act.put _ (some 122) _) _
                try simp only [Act.put, List.setIfInBounds_toArray, List.set_cons_zero, List.set_cons_succ]
                refine wpAnyH_take (i := 14) (v := undef) rfl (by kernel_rfl) (by kernel_rfl) (by kernel_rfl) (fun _ _ _ h => h) (Or.inr ⟨by rfl, rfl⟩) hHeld ?_
                show wpAnyH _ _ _ _ _ _ _ (Act.put _ (some 123) _) _
                try simp only [Act.put, List.setIfInBounds_toArray, List.set_cons_zero, List.set_cons_succ]
                refine wpAnyH_take (i := 15) (v := undef) rfl (by kernel_rfl) (by kernel_rfl) (by kernel_rfl) (fun _ _ _ h => h) (Or.inr ⟨by rfl, rfl⟩) hHeld ?_
                show wpAnyH _ _ _ _ _ _ _ (Act.put _ (some 124) _) _
                try simp only [Act.put, List.setIfInBounds_toArray, List.set_cons_zero, List.set_cons_succ]
                refine wpAnyH_take (i := 16) (v := undef) rfl (by kernel_rfl) (by kernel_rfl) (by kernel_rfl) (fun _ _ _ h => h) (Or.inr ⟨by rfl, rfl⟩) hHeld ?_
                show wpAnyH _ _ _ _ _ _ _ (Act.put _ (some 125) _) _
                try simp only [Act.put, List.setIfInBounds_toArray, List.set_cons_zero, List.set_cons_succ]
                refine wpAnyH_take (i := 17) (v := ?_) rfl (by kernel_rfl) (by kernel_rfl) (by kernel_rfl) (fun _ _ _ h => h) (Or.inl ⟨by rfl, ?_⟩) hHeld ?_
                rotate_left
                · intro w hSw
                  try dsimp only at hSw
                  go_simp
                  try with_reducible rfl
                show wpAnyH _ _ _ _ _ _ _ (Act.put _ (some 126) _) _
                try simp only [Act.put, List.setIfInBounds_toArray, List.set_cons_zero, List.set_cons_succ]
                refine wpAnyH_take (i := 18) (v := ?_) rfl (by kernel_rfl) (by kernel_rfl) (by kernel_rfl) (fun _ _ _ h => h) (Or.inl ⟨by rfl, ?_⟩) hHeld ?_
                rotate_left
                · intro w hSw
                  try dsimp only at hSw
                  go_simp
                  try with_reducible rfl
                show wpAnyH _ _ _ _ _ _ _ (Act.put _ (some 127) _) _
                try simp only [Act.put, List.setIfInBounds_toArray, List.set_cons_zero, List.set_cons_succ]
                refine wpAnyH_take (i := 19) (v := undef) rfl (by kernel_rfl) (by kernel_rfl) (by kernel_rfl) (fun _ _ _ h => h) (Or.inr ⟨by rfl, rfl⟩) hHeld ?_
                show wpAnyH _ _ _ _ _ _ _ (Act.put _ (some 128) _) _
                try simp only [Act.put, List.setIfInBounds_toArray, List.set_cons_zero, List.set_cons_succ]
                refine wpAnyH_take (i := 20) (v := undef) rfl (by kernel_rfl) (by kernel_rfl) (by kernel_rfl) (fun _ _ _ h => h) (Or.inr ⟨by rfl, rfl⟩) hHeld ?_
                show wpAnyH _ _ _ _ _ _ _ (Act.put _ (some 129) _) _
                try simp only [Act.put, List.setIfInBounds_toArray, List.set_cons_zero, List.set_cons_succ]
                refine wpAnyH_take (i := 21) (v := undef) rfl (by kernel_rfl) (by kernel_rfl) (by kernel_rfl) (fun _ _ _ h => h) (Or.inr ⟨by rfl, rfl⟩) hHeld ?_
                show wpAnyH _ _ _ _ _ _ _ (Act.put _ (some 130) _) _
                try simp only [Act.put, List.setIfInBounds_toArray, List.set_cons_zero, List.set_cons_succ]
                refine wpAnyH_take (i := 22) (v := undef) rfl (by kernel_rfl) (by kernel_rfl) (by kernel_rfl) (fun _ _ _ h => h) (Or.inr ⟨by rfl, rfl⟩) hHeld ?_
                show wpAnyH _ _ _ _ _ _ _ (Act.put _ (some 131) _) _
                try simp only [Act.put, List.setIfInBounds_toArray, List.set_cons_zero, List.set_cons_succ]
                refine wpAnyH_take (i := 23) (v := undef) rfl (by kernel_rfl) (by kernel_rfl) (by kernel_rfl) (fun _ _ _ h => h) (Or.inr ⟨by rfl, rfl⟩) hHeld ?_
                show wpAnyH _ _ _ _ _ _ _ (Act.put _ (some 132) _) _
                try simp only [Act.put, List.setIfInBounds_toArray, List.set_cons_zero, List.set_cons_succ]
                refine wpAnyH_take (i := 24) (v := undef) rfl (by kernel_rfl) (by kernel_rfl) (by kernel_rfl) (fun _ _ _ h => h) (Or.inr ⟨by rfl, rfl⟩) hHeld ?_
                show wpAnyH _ _ _ _ _ _ _ (Act.put _ (some 133) _) _
                try simp only [Act.put, List.setIfInBounds_toArray, List.set_cons_zero, List.set_cons_succ]
                refine wpAnyH_take (i := 25) (v := undef) rfl (by kernel_rfl) (by kernel_rfl) (by kernel_rfl) (fun _ _ _ h => h) (Or.inr ⟨by rfl, rfl⟩) hHeld ?_
                show wpAnyH _ _ _ _ _ _ _ (Act.put _ (some 134) _) _
                try simp only [Act.put, List.setIfInBounds_toArray, List.set_cons_zero, List.set_cons_succ]
                refine wpAnyH_take (i := 26) (v := undef) rfl (by kernel_rfl) (by kernel_rfl) (by kernel_rfl) (fun _ _ _ h => h) (Or.inr ⟨by rfl, rfl⟩) hHeld ?_
                show wpAnyH _ _ _ _ _ _ _ (Act.put _ (some 135) _) _
                try simp only [Act.put, List.setIfInBounds_toArray, List.set_cons_zero, List.set_cons_succ]
                refine wpAnyH_take (i := 27) (v := ?_) rfl (by kernel_rfl) (by kernel_rfl) (by kernel_rfl) (fun _ _ _ h => h) (Or.inl ⟨by rfl, ?_⟩) hHeld ?_
                rotate_left
                · intro w hSw
                  try dsimp only at hSw
                  go_simp
                  try with_reducible rfl
                show wpAnyH _ _ _ _ _ _ _ (Act.put _ (some 136) _) _
                try simp only [Act.put, List.setIfInBounds_toArray, List.set_cons_zero, List.set_cons_succ]
                refine wpAnyH_done (by kernel_rfl) ?_ _
                clear hHeld
                go_wp2_with fail
                go_ret
                exact ⟨rfl, unhide EK _ (unhide K7)⟩
              · have hz := unhide HYk rfl
                subst hz
                have b1 : decide (p < 0) = false := decide_eq_false g1
                have b2 : decide ((la : Int) ≤ p) = false := decide_eq_false g2
                have b3 : decide (q < 0) = true := decide_eq_true g3
                clear g1 g2 g3
                refine wp_region_held_drew (S := (fun w' => w'.cell? ⟨nb, 0, none⟩ = some (.int .i64 p) ∧ w'.cell? ⟨nb, 1, none⟩ = some (.int .i64 q) ∧ w'.cell? ⟨wb, 0, none⟩ = some (.slice (some ar0) 2 cr) ∧ w'.cell? ar0 = some (.slice a0 la cap0) ∧ w'.cell? ⟨ar0.block, ar0.off + 1, none⟩ = some (.slice a1 lb cap1))) (by kernel_rfl) (by exact unhide S5 _ ((Keep.refl _).drew)) (fun hHeld => ?_)
                refine wpAnyH_take (i := 0) (v := ?_) rfl (by kernel_rfl) (by kernel_rfl) (by kernel_rfl) (fun _ _ _ h => h) (Or.inl ⟨by rfl, ?_⟩) hHeld ?_
                rotate_left
                · intro w hSw
                  try dsimp only at hSw
                  go_simp
                  try with_reducible rfl
                show wpAnyH _ _ _ _ _ _ _ (Act.put _ (some 109) _) _
                try simp only [Act.put, List.setIfInBounds_toArray, List.set_cons_zero, List.set_cons_succ]
                refine wpAnyH_take (i := 1) (v := ?_) rfl (by kernel_rfl) (by kernel_rfl) (by kernel_rfl) (fun _ _ _ h => h) (Or.inl ⟨by rfl, ?_⟩) hHeld ?_
                rotate_left
                · intro w hSw
                  try dsimp only at hSw
                  go_simp
                  try with_reducible rfl
                show wpAnyH _ _ _ _ _ _ _ (Act.put _ (some 110) _) _
                try simp only [Act.put, List.setIfInBounds_toArray, List.set_cons_zero, List.set_cons_succ]
                refine wpAnyH_take (i := 2) (v := ?_) rfl (by kernel_rfl) (by kernel_rfl) (by kernel_rfl) (fun _ _ _ h => h) (Or.inl ⟨by rfl, ?_⟩) hHeld ?_
                rotate_left
                · intro w hSw
                  try dsimp only at hSw
                  go_simp
                  try with_reducible rfl
                show wpAnyH _ _ _ _ _ _ _ (Act.put _ (some 111) _) _
                try simp only [Act.put, List.setIfInBounds_toArray, List.set_cons_zero, List.set_cons_succ]
                refine wpAnyH_take (i := 3) (v := ?_) rfl (by kernel_rfl) (by kernel_rfl) (by kernel_rfl) (fun _ _ _ h => h) (Or.inl ⟨by rfl, ?_⟩) hHeld ?_
                rotate_left
                · intro w hSw
                  try dsimp only at hSw
                  go_simp
                  try with_reducible rfl
                show wpAnyH _ _ _ _ _ _ _ (Act.put _ (some 112) _) _
                try simp only [Act.put, List.setIfInBounds_toArray, List.set_cons_zero, List.set_cons_succ]
                refine wpAnyH_take (i := 4) (v := ?_) rfl (by kernel_rfl) (by kernel_rfl) (by kernel_rfl) (fun _ _ _ h => h) (Or.inl ⟨by rfl, ?_⟩) hHeld ?_
                rotate_left
                · intro w hSw
                  try dsimp only at hSw
                  go_simp
                  try with_reducible rfl
                show wpAnyH _ _ _ _ _ _ _ (Act.put _ (some 113) _) _
                try simp only [Act.put, List.setIfInBounds_toArray, List.set_cons_zero, List.set_cons_succ]
                refine wpAnyH_take (i := 5) (v := ?_) rfl (by kernel_rfl) (by kernel_rfl) (by kernel_rfl) (fun _ _ _ h => h) (Or.inl ⟨by rfl, ?_⟩) hHeld ?_
                rotate_left
                · intro w hSw
                  try dsimp only at hSw
                  go_simp
                  try with_reducible rfl
                show wpAnyH _ _ _ _ _ _ _ (Act.put _ (some 114) _) _
                try simp only [Act.put, List.setIfInBounds_toArray, List.set_cons_zero, List.set_cons_succ]
                refine wpAnyH_take (i := 6) (v := ?_) rfl (by kernel_rfl) (by kernel_rfl) (by kernel_rfl) (fun _ _ _ h => h) (Or.inl ⟨by rfl, ?_⟩) hHeld ?_
                rotate_left
                · intro w hSw
                  try dsimp only at hSw
                  go_simp
                  try with_reducible rfl
                show wpAnyH _ _ _ _ _ _ _ (Act.put _ (some 115) _) _
                try simp only [Act.put, List.setIfInBounds_toArray, List.set_cons_zero, List.set_cons_succ]
                refine wpAnyH_take (i := 7) (v := ?_) rfl (by kernel_rfl) (by kernel_rfl) (by kernel_rfl) (fun _ _ _ h => h) (Or.inl ⟨by rfl, ?_⟩) hHeld ?_
                rotate_left
                · intro w hSw
                  try dsimp only at hSw
                  go_simp
                  try with_reducible rfl
                show wpAnyH _ _ _ _ _ _ _ (Act.put _ (some 116) _) _
                try simp only [Act.put, List.setIfInBounds_toArray, List.set_cons_zero, List.set_cons_succ]
                refine wpAnyH_take (i := 8) (v := ?_) rfl (by kernel_rfl) (by kernel_rfl) (by kernel_rfl) (fun _ _ _ h => h) (Or.inl ⟨by rfl, ?_⟩) hHeld ?_
                rotate_left
                · intro w hSw
                  try dsimp only at hSw
                  go_simp
                  try with_reducible rfl
                show wpAnyH _ _ _ _ _ _ _ (Act.put _ (some 117) _) _
                try simp only [Act.put, List.setIfInBounds_toArray, List.set_cons_zero, List.set_cons_succ]
                refine wpAnyH_take (i := 9) (v := ?_) rfl (by kernel_rfl) (by kernel_rfl) (by kernel_rfl) (fun _ _ _ h => h) (Or.inl ⟨by rfl, ?_⟩) hHeld ?_
                rotate_left
                · intro w hSw
                  try dsimp only at hSw
                  go_simp
                  try with_reducible rfl
                show wpAnyH _ _ _ _ _ _ _ (Act.put _ (some 118) _) _
                try simp only [Act.put, List.setIfInBounds_toArray, List.set_cons_zero, List.set_cons_succ]
                refine wpAnyH_take (i := 10) (v := ?_) rfl (by kernel_rfl) (by kernel_rfl) (by kernel_rfl) (fun _ _ _ h => h) (Or.inl ⟨by rfl, ?_⟩) hHeld ?_
                rotate_left
                · intro w hSw
                  try dsimp only at hSw
                  go_simp
                  try with_reducible rfl
                show wpAnyH _ _ _ _ _ _ _ (Act.put _ (some 119) _) _
                try simp only [Act.put, List.setIfInBounds_toArray, List.set_cons_zero, List.set_cons_succ]
                refine wpAnyH_take (i := 11) (v := ?_) rfl (by kernel_rfl) (by kernel_rfl) (by kernel_rfl) (fun _ _ _ h => h) (Or.inl ⟨by rfl, ?_⟩) hHeld ?_
                rotate_left
                · intro w hSw
                  try dsimp only at hSw
                  go_simp
                  try with_reducible rfl
                show wpAnyH _ _ _ _ _ _ _ (Act.put _ (some 120) _) _
                try simp only [Act.put, List.setIfInBounds_toArray, List.set_cons_zero, List.set_cons_succ]
                refine wpAnyH_take (i := 12) (v := ?_) rfl (by kernel_rfl) (by kernel_rfl) (by kernel_rfl) (fun _ _ _ h => h) (Or.inl ⟨by rfl, ?_⟩) hHeld ?_
                rotate_left
                · intro w hSw
                  try dsimp only at hSw
                  go_simp
                  try with_reducible rfl
                show wpAnyH _ _ _ _ _ _ _ (Act.put _ (some 121) _) _
                try simp only [Act.put, List.setIfInBounds_toArray, List.set_cons_zero, List.set_cons_succ]
                refine wpAnyH_take (i := 13) (v := ?_) rfl (by kernel_rfl) (by kernel_rfl) (by kernel_rfl) (fun _ _ _ h => h) (Or.inl ⟨by rfl, ?_⟩) hHeld ?_
                rotate_left
                · intro w hSw
                  try dsimp only at hSw
                  go_simp
                  try with_reducible rfl
                show wpAnyH _ _ _ _ _ _ _ (Act.put _ (some 122) _) _
                try simp only [Act.put, List.setIfInBounds_toArray, List.set_cons_zero, List.set_cons_succ]
                refine wpAnyH_take (i := 14) (v := ?_) rfl (by kernel_rfl) (by kernel_rfl) (by kernel_rfl) (fun _ _ _ h => h) (Or.inl ⟨by rfl, ?_⟩) hHeld ?_
                rotate_left
                · intro w hSw
                  try dsimp only at hSw
                  go_simp
                  try with_reducible rfl
                show wpAnyH _ _ _ _ _ _ _ (Act.put _ (some 123) _) _
                try simp only [Act.put, List.setIfInBounds_toArray, List.set_cons_zero, List.set_cons_succ]
                refine wpAnyH_take (i := 15) (v := ?_) rfl (by kernel_rfl) (by kernel_rfl) (by kernel_rfl) (fun _ _ _ h => h) (Or.inl ⟨by rfl, ?_⟩) hHeld ?_
                rotate_left
                · intro w hSw
                  try dsimp only at hSw
                  go_simp
                  try with_reducible rfl
                show wpAnyH _ _ _ _ _ _ _ (Act.put _ (some 124) _) _
                try simp only [Act.put, List.setIfInBounds_toArray, List.set_cons_zero, List.set_cons_succ]
                refine wpAnyH_take (i := 16) (v := ?_) rfl (by kernel_rfl) (by kernel_rfl) (by kernel_rfl) (fun _ _ _ h => h) (Or.inl ⟨by rfl, ?_⟩) hHeld ?_
                rotate_left
                · intro w hSw
                  try dsimp only at hSw
                  go_simp
                  try with_reducible rfl
                show wpAnyH _ _ _ _ _ _ _ (Act.put _ (some 125) _) _
                try simp only [Act.put, List.setIfInBounds_toArray, List.set_cons_zero, List.set_cons_succ]
                refine wpAnyH_take (i := 17) (v := ?_) rfl (by kernel_rfl) (by kernel_rfl) (by kernel_rfl) (fun _ _ _ h => h) (Or.inl ⟨by rfl, ?_⟩) hHeld ?_
                rotate_left
                · intro w hSw
                  try dsimp only at hSw
                  go_simp
                  try with_reducible rfl
                show wpAnyH _ _ _ _ _ _ _ (Act.put _ (some 126) _) _
                try simp only [Act.put, List.setIfInBounds_toArray, List.set_cons_zero, List.set_cons_succ]
                refine wpAnyH_take (i := 18) (v := ?_) rfl (by kernel_rfl) (by kernel_rfl) (by kernel_rfl) (fun _ _ _ h => h) (Or.inl ⟨by rfl, ?_⟩) hHeld ?_
                rotate_left
                · intro w hSw
                  try dsimp only at hSw
                  go_simp
                  try with_reducible rfl
                show wpAnyH _ _ _ _ _ _ _ (Act.put _ (some 127) _) _
                try simp only [Act.put, List.setIfInBounds_toArray, List.set_cons_zero, List.set_cons_succ]
                refine wpAnyH_take (i := 19) (v := undef) rfl (by kernel_rfl) (by kernel_rfl) (by kernel_rfl) (fun _ _ _ h => h) (Or.inr ⟨by rfl, rfl⟩) hHeld ?_
                show wpAnyH _ _ _ _ _ _ _ (Act.put _ (some 128) _) _
                try simp only [Act.put, List.setIfInBounds_toArray, List.set_cons_zero, List.set_cons_succ]
                refine wpAnyH_take (i := 20) (v := undef) rfl (by kernel_rfl) (by kernel_rfl) (by kernel_rfl) (fun _ _ _ h => h) (Or.inr ⟨by rfl, rfl⟩) hHeld ?_
                show wpAnyH _ _ _ _ _ _ _ (Act.put _ (some 129) _) _
                try simp only [Act.put, List.setIfInBounds_toArray, List.set_cons_zero, List.set_cons_succ]
                refine wpAnyH_take (i := 21) (v := undef) rfl (by kernel_rfl) (by kernel_rfl) (by kernel_rfl) (fun _ _ _ h => h) (Or.inr ⟨by rfl, rfl⟩) hHeld ?_
                show wpAnyH _ _ _ _ _ _ _ (Act.put _ (some 130) _) _
                try simp only [Act.put, List.setIfInBounds_toArray, List.set_cons_zero, List.set_cons_succ]
                refine wpAnyH_take (i := 22) (v := undef) rfl (by kernel_rfl) (by kernel_rfl) (by kernel_rfl) (fun _ _ _ h => h) (Or.inr ⟨by rfl, rfl⟩) hHeld ?_
                show wpAnyH _ _ _ _ _ _ _ (Act.put _ (some 131) _) _
                try simp only [Act.put, List.setIfInBounds_toArray, List.set_cons_zero, List.set_cons_succ]
                refine wpAnyH_take (i := 23) (v := undef) rfl (by kernel_rfl) (by kernel_rfl) (by kernel_rfl) (fun _ _ _ h => h) (Or.inr ⟨by rfl, rfl⟩) hHeld ?_
                show wpAnyH _ _ _ _ _ _ _ (Act.put _ (some 132) _) _
                try simp only [Act.put, List.setIfInBounds_toArray, List.set_cons_zero, List.set_cons_succ]
                refine wpAnyH_take (i := 24) (v := undef) rfl (by kernel_rfl) (by kernel_rfl) (by kernel_rfl) (fun _ _ _ h => h) (Or.inr ⟨by rfl, rfl⟩) hHeld ?_
                show wpAnyH _ _ _ _ _ _ _ (Act.put _ (some 133) _) _
                try simp only [Act.put, List.setIfInBounds_toArray, List.set_cons_zero, List.set_cons_succ]
                refine wpAnyH_take (i := 25) (v := undef) rfl (by kernel_rfl) (by kernel_rfl) (by kernel_rfl) (fun _ _ _ h => h) (Or.inr ⟨by rfl, rfl⟩) hHeld ?_
                show wpAnyH _ _ _ _ _ _ _ (Act.put _ (some 134) _) _
                try simp only [Act.put, List.setIfInBounds_toArray, List.set_cons_zero, List.set_cons_succ]
                refine wpAnyH_take (i := 26) (v := undef) rfl (by kernel_rfl) (by kernel_rfl) (by kernel_rfl) (fun _ _ _ h => h) (Or.inr ⟨by rfl, rfl⟩) hHeld ?_
                show wpAnyH _ _ _ _ _ _ _ (Act.put _ (some 135) _) _
                try simp only [Act.put, List.setIfInBounds_toArray, List.set_cons_zero, List.set_cons_succ]
                refine wpAnyH_take (i := 27) (v := ?_) rfl (by kernel_rfl) (by kernel_rfl) (by kernel_rfl) (fun _ _ _ h => h) (Or.inl ⟨by rfl, ?_⟩) hHeld ?_
                rotate_left
                · intro w hSw
                  try dsimp only at hSw
                  go_simp
                  try with_reducible rfl
                show wpAnyH _ _ _ _ _ _ _ (Act.put _ (some 136) _) _
                try simp only [Act.put, List.setIfInBounds_toArray, List.set_cons_zero, List.set_cons_succ]
                refine wpAnyH_done (by kernel_rfl) ?_ _
                clear hHeld
                go_wp2_with fail
                go_ret
                exact ⟨rfl, unhide EK _ (unhide K7)⟩
              · have hz := unhide HYk rfl
                subst hz
                have b1 : decide (p < 0) = false := decide_eq_false g1
                have b2 : decide ((la : Int) ≤ p) = false := decide_eq_false g2
                have b3 : decide (q < 0) = false := decide_eq_false g3
                have b4 : decide ((lb : Int) ≤ q) = true := decide_eq_true g4
                clear g1 g2 g3 g4
                refine wp_region_held_drew (S := (fun w' => w'.cell? ⟨nb, 0, none⟩ = some (.int .i64 p) ∧ w'.cell? ⟨nb, 1, none⟩ = some (.int .i64 q) ∧ w'.cell? ⟨wb, 0, none⟩ = some (.slice (some ar0) 2 cr) ∧ w'.cell? ar0 = some (.slice a0 la cap0) ∧ w'.cell? ⟨ar0.block, ar0.off + 1, none⟩ = some (.slice a1 lb cap1))) (by kernel_rfl) (by exact unhide S5 _ ((Keep.refl _).drew)) (fun hHeld => ?_)
                refine wpAnyH_take (i := 0) (v := ?_) rfl (by kernel_rfl) (by kernel_rfl) (by kernel_rfl) (fun _ _ _ h => h) (Or.inl ⟨by rfl, ?_⟩) hHeld ?_
                rotate_left
                · intro w hSw
                  try dsimp only at hSw
                  go_simp
                  try with_reducible rfl
                show wpAnyH _ _ _ _ _ _ _ (Act.put _ (some 109) _) _
                try simp only [Act.put, List.setIfInBounds_toArray, List.set_cons_zero, List.set_cons_succ]
                refine wpAnyH_take (i := 1) (v := ?_) rfl (by kernel_rfl) (by kernel_rfl) (by kernel_rfl) (fun _ _ _ h => h) (Or.inl ⟨by rfl, ?_⟩) hHeld ?_
                rotate_left
                · intro w hSw
                  try dsimp only at hSw
                  go_simp
                  try with_reducible rfl
                show wpAnyH _ _ _ _ _ _ _ (Act.put _ (some 110) _) _
                try simp only [Act.put, List.setIfInBounds_toArray, List.set_cons_zero, List.set_cons_succ]
                refine wpAnyH_take (i := 2) (v := ?_) rfl (by kernel_rfl) (by kernel_rfl) (by kernel_rfl) (fun _ _ _ h => h) (Or.inl ⟨by rfl, ?_⟩) hHeld ?_
                rotate_left
                · intro w hSw
                  try dsimp only at hSw
                  go_simp
                  try with_reducible rfl
                show wpAnyH _ _ _ _ _ _ _ (Act.put _ (some 111) _) _
                try simp only [Act.put, List.setIfInBounds_toArray, List.set_cons_zero, List.set_cons_succ]
                refine wpAnyH_take (i := 3) (v := ?_) rfl (by kernel_rfl) (by kernel_rfl) (by kernel_rfl) (fun _ _ _ h => h) (Or.inl ⟨by rfl, ?_⟩) hHeld ?_
                rotate_left
                · intro w hSw
                  try dsimp only at hSw
                  go_simp
                  try with_reducible rfl
                show wpAnyH _ _ _ _ _ _ _ (Act.put _ (some 112) _) _
                try simp only [Act.put, List.setIfInBounds_toArray, List.set_cons_zero, List.set_cons_succ]
                refine wpAnyH_take (i := 4) (v := ?_) rfl (by kernel_rfl) (by kernel_rfl) (by kernel_rfl) (fun _ _ _ h => h) (Or.inl ⟨by rfl, ?_⟩) hHeld ?_
                rotate_left
                · intro w hSw
                  try dsimp only at hSw
                  go_simp
                  try with_reducible rfl
                show wpAnyH _ _ _ _ _ _ _ (Act.put _ (some 113) _) _
                try simp only [Act.put, List.setIfInBounds_toArray, List.set_cons_zero, List.set_cons_succ]
                refine wpAnyH_take (i := 5) (v := ?_) rfl (by kernel_rfl) (by kernel_rfl) (by kernel_rfl) (fun _ _ _ h => h) (Or.inl ⟨by rfl, ?_⟩) hHeld ?_
                rotate_left
                · intro w hSw
                  try dsimp only at hSw
                  go_simp
                  try with_reducible rfl
                show wpAnyH _ _ _ _ _ _ _ (Act.put _ (some 114) _) _
                try simp only [Act.put, List.setIfInBounds_toArray, List.set_cons_zero, List.set_cons_succ]
                refine wpAnyH_take (i := 6) (v := ?_) rfl (by kernel_rfl) (by kernel_rfl) (by kernel_rfl) (fun _ _ _ h => h) (Or.inl ⟨by rfl, ?_⟩) hHeld ?_
                rotate_left
                · intro w hSw
                  try dsimp only at hSw
                  go_simp
                  try with_reducible rfl
                show wpAnyH _ _ _ _ _ _ _ (Act.put _ (some 115) _) _
                try simp only [Act.put, List.setIfInBounds_toArray, List.set_cons_zero, List.set_cons_succ]
                refine wpAnyH_take (i := 7) (v := ?_) rfl (by kernel_rfl) (by kernel_rfl) (by kernel_rfl) (fun _ _ _ h => h) (Or.inl ⟨by rfl, ?_⟩) hHeld ?_
                rotate_left
                · intro w hSw
                  try dsimp only at hSw
                  go_simp
                  try with_reducible rfl
                show wpAnyH _ _ _ _ _ _ _ (Act.put _ (some 116) _) _
                try simp only [Act.put, List.setIfInBounds_toArray, List.set_cons_zero, List.set_cons_succ]
                refine wpAnyH_take (i := 8) (v := ?_) rfl (by kernel_rfl) (by kernel_rfl) (by kernel_rfl) (fun _ _ _ h => h) (Or.inl ⟨by rfl, ?_⟩) hHeld ?_
                rotate_left
                · intro w hSw
                  try dsimp only at hSw
                  go_simp
                  try with_reducible rfl
                show wpAnyH _ _ _ _ _ _ _ (Act.put _ (some 117) _) _
                try simp only [Act.put, List.setIfInBounds_toArray, List.set_cons_zero, List.set_cons_succ]
                refine wpAnyH_take (i := 9) (v := ?_) rfl (by kernel_rfl) (by kernel_rfl) (by kernel_rfl) (fun _ _ _ h => h) (Or.inl ⟨by rfl, ?_⟩) hHeld ?_
                rotate_left
                · intro w hSw
                  try dsimp only at hSw
                  go_simp
                  try with_reducible rfl
                show wpAnyH _ _ _ _ _ _ _ (Act.put _ (some 118) _) _
                try simp only [Act.put, List.setIfInBounds_toArray, List.set_cons_zero, List.set_cons_succ]
                refine wpAnyH_take (i := 10) (v := ?_) rfl (by kernel_rfl) (by kernel_rfl) (by kernel_rfl) (fun _ _ _ h => h) (Or.inl ⟨by rfl, ?_⟩) hHeld ?_
                rotate_left
                · intro w hSw
                  try dsimp only at hSw
                  go_simp
                  try with_reducible rfl
                show wpAnyH _ _ _ _ _ _ _ (Act.put _ (some 119) _) _
                try simp only [Act.put, List.setIfInBounds_toArray, List.set_cons_zero, List.set_cons_succ]
                refine wpAnyH_take (i := 11) (v := ?_) rfl (by kernel_rfl) (by kernel_rfl) (by kernel_rfl) (fun _ _ _ h => h) (Or.inl ⟨by rfl, ?_⟩) hHeld ?_
                rotate_left
                · intro w hSw
                  try dsimp only at hSw
                  go_simp
                  try with_reducible rfl
                show wpAnyH _ _ _ _ _ _ _ (Act.put _ (some 120) _) _
                try simp only [Act.put, List.setIfInBounds_toArray, List.set_cons_zero, List.set_cons_succ]
                refine wpAnyH_take (i := 12) (v := ?_) rfl (by kernel_rfl) (by kernel_rfl) (by kernel_rfl) (fun _ _ _ h => h) (Or.inl ⟨by rfl, ?_⟩) hHeld ?_
                rotate_left
                · intro w hSw
                  try dsimp only at hSw
                  go_simp
                  try with_reducible rfl
                show wpAnyH _ _ _ _ _ _ _ (Act.put _ (some 121) _) _
                try simp only [Act.put, List.setIfInBounds_toArray, List.set_cons_zero, List.set_cons_succ]
                refine wpAnyH_take (i := 13) (v := ?_) rfl (by kernel_rfl) (by kernel_rfl) (by kernel_rfl) (fun _ _ _ h => h) (Or.inl ⟨by rfl, ?_⟩) hHeld ?_
                rotate_left
                · intro w hSw
                  try dsimp only at hSw
                  go_simp
                  try with_reducible rfl
                show wpAnyH _ _ _ _ _ _ _ (Act.put _ (some 122) _) _
                try simp only [Act.put, List.setIfInBounds_toArray, List.set_cons_zero, List.set_cons_succ]
                refine wpAnyH_take (i := 14) (v := ?_) rfl (by kernel_rfl) (by kernel_rfl) (by kernel_rfl) (fun _ _ _ h => h) (Or.inl ⟨by rfl, ?_⟩) hHeld ?_
                rotate_left
                · intro w hSw
                  try dsimp only at hSw
                  go_simp
                  try with_reducible rfl
                show wpAnyH _ _ _ _ _ _ _ (Act.put _ (some 123) _) _
                try simp only [Act.put, List.setIfInBounds_toArray, List.set_cons_zero, List.set_cons_succ]
                refine wpAnyH_take (i := 15) (v := ?_) rfl (by kernel_rfl) (by kernel_rfl) (by kernel_rfl) (fun _ _ _ h => h) (Or.inl ⟨by rfl, ?_⟩) hHeld ?_
                rotate_left
                · intro w hSw
                  try dsimp only at hSw
                  go_simp
                  try with_reducible rfl
                show wpAnyH _ _ _ _ _ _ _ (Act.put _ (some 124) _) _
                try simp only [Act.put, List.setIfInBounds_toArray, List.set_cons_zero, List.set_cons_succ]
                refine wpAnyH_take (i := 16) (v := ?_) rfl (by kernel_rfl) (by kernel_rfl) (by kernel_rfl) (fun _ _ _ h => h) (Or.inl ⟨by rfl, ?_⟩) hHeld ?_
                rotate_left
                · intro w hSw
                  try dsimp only at hSw
                  go_simp
                  try with_reducible rfl
                show wpAnyH _ _ _ _ _ _ _ (Act.put _ (some 125) _) _
                try simp only [Act.put, List.setIfInBounds_toArray, List.set_cons_zero, List.set_cons_succ]
                refine wpAnyH_take (i := 17) (v := ?_) rfl (by kernel_rfl) (by kernel_rfl) (by kernel_rfl) (fun _ _ _ h => h) (Or.inl ⟨by rfl, ?_⟩) hHeld ?_
                rotate_left
                · intro w hSw
                  try dsimp only at hSw
                  go_simp
                  try with_reducible rfl
                show wpAnyH _ _ _ _ _ _ _ (Act.put _ (some 126) _) _
                try simp only [Act.put, List.setIfInBounds_toArray, List.set_cons_zero, List.set_cons_succ]
                refine wpAnyH_take (i := 18) (v := ?_) rfl (by kernel_rfl) (by kernel_rfl) (by kernel_rfl) (fun _ _ _ h => h) (Or.inl ⟨by rfl, ?_⟩) hHeld ?_
                rotate_left
                · intro w hSw
                  try dsimp only at hSw
                  go_simp
                  try with_reducible rfl
                show wpAnyH _ _ _ _ _ _ _ (Act.put _ (some 127) _) _
                try simp only [Act.put, List.setIfInBounds_toArray, List.set_cons_zero, List.set_cons_succ]
                refine wpAnyH_take (i := 19) (v := ?_) rfl (by kernel_rfl) (by kernel_rfl) (by kernel_rfl) (fun _ _ _ h => h) (Or.inl ⟨by rfl, ?_⟩) hHeld ?_
                rotate_left
                · intro w hSw
                  try dsimp only at hSw
                  go_simp
                  try with_reducible rfl
                show wpAnyH _ _ _ _ _ _ _ (Act.put _ (some 128) _) _
                try simp only [Act.put, List.setIfInBounds_toArray, List.set_cons_zero, List.set_cons_succ]
                refine wpAnyH_take (i := 20) (v := ?_) rfl (by kernel_rfl) (by kernel_rfl) (by kernel_rfl) (fun _ _ _ h => h) (Or.inl ⟨by rfl, ?_⟩) hHeld ?_
                rotate_left
                · intro w hSw
                  try dsimp only at hSw
                  go_simp
                  try with_reducible rfl
                show wpAnyH _ _ _ _ _ _ _ (Act.put _ (some 129) _) _
                try simp only [Act.put, List.setIfInBounds_toArray, List.set_cons_zero, List.set_cons_succ]
                refine wpAnyH_take (i := 21) (v := ?_) rfl (by kernel_rfl) (by kernel_rfl) (by kernel_rfl) (fun _ _ _ h => h) (Or.inl ⟨by rfl, ?_⟩) hHeld ?_
                rotate_left
                · intro w hSw
                  try dsimp only at hSw
                  go_simp
                  try with_reducible rfl
                show wpAnyH _ _ _ _ _ _ _ (Act.put _ (some 130) _) _
                try simp only [Act.put, List.setIfInBounds_toArray, List.set_cons_zero, List.set_cons_succ]
                refine wpAnyH_take (i := 22) (v := ?_) rfl (by kernel_rfl) (by kernel_rfl) (by kernel_rfl) (fun _ _ _ h => h) (Or.inl ⟨by rfl, ?_⟩) hHeld ?_
                rotate_left
                · intro w hSw
                  try dsimp only at hSw
                  go_simp
                  try with_reducible rfl
                show wpAnyH _ _ _ _ _ _ _ (Act.put _ (some 131) _) _
                try simp only [Act.put, List.setIfInBounds_toArray, List.set_cons_zero, List.set_cons_succ]
                refine wpAnyH_take (i := 23) (v := ?_) rfl (by kernel_rfl) (by kernel_rfl) (by kernel_rfl) (fun _ _ _ h => h) (Or.inl ⟨by rfl, ?_⟩) hHeld ?_
                rotate_left
                · intro w hSw
                  try dsimp only at hSw
                  go_simp
                  try with_reducible rfl
                show wpAnyH _ _ _ _ _ _ _ (Act.put _ (some 132) _) _
                try simp only [Act.put, List.setIfInBounds_toArray, List.set_cons_zero, List.set_cons_succ]
                refine wpAnyH_take (i := 24) (v := ?_) rfl (by kernel_rfl) (by kernel_rfl) (by kernel_rfl) (fun _ _ _ h => h) (Or.inl ⟨by rfl, ?_⟩) hHeld ?_
                rotate_left
                · intro w hSw
                  try dsimp only at hSw
                  go_simp
                  try with_reducible rfl
                show wpAnyH _ _ _ _ _ _ _ (Act.put _ (some 133) _) _
                try simp only [Act.put, List.setIfInBounds_toArray, List.set_cons_zero, List.set_cons_succ]
                refine wpAnyH_take (i := 25) (v := ?_) rfl (by kernel_rfl) (by kernel_rfl) (by kernel_rfl) (fun _ _ _ h => h) (Or.inl ⟨by rfl, ?_⟩) hHeld ?_
                rotate_left
                · intro w hSw
                  try dsimp only at hSw
                  go_simp
                  try with_reducible rfl
                show wpAnyH _ _ _ _ _ _ _ (Act.put _ (some 134) _) _
                try simp only [Act.put, List.setIfInBounds_toArray, List.set_cons_zero, List.set_cons_succ]
                refine wpAnyH_take (i := 26) (v := ?_) rfl (by kernel_rfl) (by kernel_rfl) (by kernel_rfl) (fun _ _ _ h => h) (Or.inl ⟨by rfl, ?_⟩) hHeld ?_
                rotate_left
                · intro w hSw
                  try dsimp only at hSw
                  go_simp
                  try with_reducible rfl
                show wpAnyH _ _ _ _ _ _ _ (Act.put _ (some 135) _) _
                try simp only [Act.put, List.setIfInBounds_toArray, List.set_cons_zero, List.set_cons_succ]
                refine wpAnyH_take (i := 27) (v := ?_) rfl (by kernel_rfl) (by kernel_rfl) (by kernel_rfl) (fun _ _ _ h => h) (Or.inl ⟨by rfl, ?_⟩) hHeld ?_
                rotate_left
                · intro w hSw
                  try dsimp only at hSw
                  go_simp
                  try with_reducible rfl
                show wpAnyH _ _ _ _ _ _ _ (Act.put _ (some 136) _) _
                try simp only [Act.put, List.setIfInBounds_toArray, List.set_cons_zero, List.set_cons_succ]
                refine wpAnyH_done (by kernel_rfl) ?_ _
                clear hHeld
                go_wp2_with fail
                go_ret
                exact ⟨rfl, unhide EK _ (unhide K7)⟩
              · have b1 : decide (p < 0) = false := decide_eq_false g1
                have b2 : decide ((la : Int) ≤ p) = false := decide_eq_false g2
                have b3 : decide (q < 0) = false := decide_eq_false g3
                have b4 : decide ((lb : Int) ≤ q) = false := decide_eq_false g4
                clear g1 g2 g3 g4
                refine wp_region_held_drew (S := (fun w' => w'.cell? ⟨nb, 0, none⟩ = some (.int .i64 p) ∧ w'.cell? ⟨nb, 1, none⟩ = some (.int .i64 q) ∧ w'.cell? ⟨wb, 0, none⟩ = some (.slice (some ar0) 2 cr) ∧ w'.cell? ar0 = some (.slice a0 la cap0) ∧ w'.cell? ⟨ar0.block, ar0.off + 1, none⟩ = some (.slice a1 lb cap1))) (by kernel_rfl) (by exact unhide S5 _ ((Keep.refl _).drew)) (fun hHeld => ?_)
                refine wpAnyH_take (i := 0) (v := ?_) rfl (by kernel_rfl) (by kernel_rfl) (by kernel_rfl) (fun _ _ _ h => h) (Or.inl ⟨by rfl, ?_⟩) hHeld ?_
                rotate_left
                · intro w hSw
                  try dsimp only at hSw
                  go_simp
                  try with_reducible rfl
                show wpAnyH _ _ _ _ _ _ _ (Act.put _ (some 109) _) _
                try simp only [Act.put, List.setIfInBounds_toArray, List.set_cons_zero, List.set_cons_succ]
                refine wpAnyH_take (i := 1) (v := ?_) rfl (by kernel_rfl) (by kernel_rfl) (by kernel_rfl) (fun _ _ _ h => h) (Or.inl ⟨by rfl, ?_⟩) hHeld ?_
                rotate_left
                · intro w hSw
                  try dsimp only at hSw
                  go_simp
                  try with_reducible rfl
                show wpAnyH _ _ _ _ _ _ _ (Act.put _ (some 110) _) _
                try simp only [Act.put, List.setIfInBounds_toArray, List.set_cons_zero, List.set_cons_succ]
                refine wpAnyH_take (i := 2) (v := ?_) rfl (by kernel_rfl) (by kernel_rfl) (by kernel_rfl) (fun _ _ _ h => h) (Or.inl ⟨by rfl, ?_⟩) hHeld ?_
                rotate_left
                · intro w hSw
                  try dsimp only at hSw
                  go_simp
                  try with_reducible rfl
                show wpAnyH _ _ _ _ _ _ _ (Act.put _ (some 111) _) _
                try simp only [Act.put, List.setIfInBounds_toArray, List.set_cons_zero, List.set_cons_succ]
                refine wpAnyH_take (i := 3) (v := ?_) rfl (by kernel_rfl) (by kernel_rfl) (by kernel_rfl) (fun _ _ _ h => h) (Or.inl ⟨by rfl, ?_⟩) hHeld ?_
                rotate_left
                · intro w hSw
                  try dsimp only at hSw
                  go_simp
                  try with_reducible rfl
                show wpAnyH _ _ _ _ _ _ _ (Act.put _ (some 112) _) _
                try simp only [Act.put, List.setIfInBounds_toArray, List.set_cons_zero, List.set_cons_succ]
                refine wpAnyH_take (i := 4) (v := ?_) rfl (by kernel_rfl) (by kernel_rfl) (by kernel_rfl) (fun _ _ _ h => h) (Or.inl ⟨by rfl, ?_⟩) hHeld ?_
                rotate_left
                · intro w hSw
                  try dsimp only at hSw
                  go_simp
                  try with_reducible rfl
                show wpAnyH _ _ _ _ _ _ _ (Act.put _ (some 113) _) _
                try simp only [Act.put, List.setIfInBounds_toArray, List.set_cons_zero, List.set_cons_succ]
                refine wpAnyH_take (i := 5) (v := ?_) rfl (by kernel_rfl) (by kernel_rfl) (by kernel_rfl) (fun _ _ _ h => h) (Or.inl ⟨by rfl, ?_⟩) hHeld ?_
                rotate_left
                · intro w hSw
                  try dsimp only at hSw
                  go_simp
                  try with_reducible rfl
                show wpAnyH _ _ _ _ _ _ _ (Act.put _ (some 114) _) _
                try simp only [Act.put, List.setIfInBounds_toArray, List.set_cons_zero, List.set_cons_succ]
                refine wpAnyH_take (i := 6) (v := ?_) rfl (by kernel_rfl) (by kernel_rfl) (by kernel_rfl) (fun _ _ _ h => h) (Or.inl ⟨by rfl, ?_⟩) hHeld ?_
                rotate_left
                · intro w hSw
                  try dsimp only at hSw
                  go_simp
                  try with_reducible rfl
                show wpAnyH _ _ _ _ _ _ _ (Act.put _ (some 115) _) _
                try simp only [Act.put, List.setIfInBounds_toArray, List.set_cons_zero, List.set_cons_succ]
                refine wpAnyH_take (i := 7) (v := ?_) rfl (by kernel_rfl) (by kernel_rfl) (by kernel_rfl) (fun _ _ _ h => h) (Or.inl ⟨by rfl, ?_⟩) hHeld ?_
                rotate_left
                · intro w hSw
                  try dsimp only at hSw
                  go_simp
                  try with_reducible rfl
                show wpAnyH _ _ _ _ _ _ _ (Act.put _ (some 116) _) _
                try simp only [Act.put, List.setIfInBounds_toArray, List.set_cons_zero, List.set_cons_succ]
                refine wpAnyH_take (i := 8) (v := ?_) rfl (by kernel_rfl) (by kernel_rfl) (by kernel_rfl) (fun _ _ _ h => h) (Or.inl ⟨by rfl, ?_⟩) hHeld ?_
                rotate_left
                · intro w hSw
                  try dsimp only at hSw
                  go_simp
                  try with_reducible rfl
                show wpAnyH _ _ _ _ _ _ _ (Act.put _ (some 117) _) _
                try simp only [Act.put, List.setIfInBounds_toArray, List.set_cons_zero, List.set_cons_succ]
                refine wpAnyH_take (i := 9) (v := ?_) rfl (by kernel_rfl) (by kernel_rfl) (by kernel_rfl) (fun _ _ _ h => h) (Or.inl ⟨by rfl, ?_⟩) hHeld ?_
                rotate_left
                · intro w hSw
                  try dsimp only at hSw
                  go_simp
                  try with_reducible rfl
                show wpAnyH _ _ _ _ _ _ _ (Act.put _ (some 118) _) _
                try simp only [Act.put, List.setIfInBounds_toArray, List.set_cons_zero, List.set_cons_succ]
                refine wpAnyH_take (i := 10) (v := ?_) rfl (by kernel_rfl) (by kernel_rfl) (by kernel_rfl) (fun _ _ _ h => h) (Or.inl ⟨by rfl, ?_⟩) hHeld ?_
                rotate_left
                · intro w hSw
                  try dsimp only at hSw
                  go_simp
                  try with_reducible rfl
                show wpAnyH _ _ _ _ _ _ _ (Act.put _ (some 119) _) _
                try simp only [Act.put, List.setIfInBounds_toArray, List.set_cons_zero, List.set_cons_succ]
                refine wpAnyH_take (i := 11) (v := ?_) rfl (by kernel_rfl) (by kernel_rfl) (by kernel_rfl) (fun _ _ _ h => h) (Or.inl ⟨by rfl, ?_⟩) hHeld ?_
                rotate_left
                · intro w hSw
                  try dsimp only at hSw
                  go_simp
                  try with_reducible rfl
                show wpAnyH _ _ _ _ _ _ _ (Act.put _ (some 120) _) _
                try simp only [Act.put, List.setIfInBounds_toArray, List.set_cons_zero, List.set_cons_succ]
                refine wpAnyH_take (i := 12) (v := ?_) rfl (by kernel_rfl) (by kernel_rfl) (by kernel_rfl) (fun _ _ _ h => h) (Or.inl ⟨by rfl, ?_⟩) hHeld ?_
                rotate_left
                · intro w hSw
                  try dsimp only at hSw
                  go_simp
                  try with_reducible rfl
                show wpAnyH _ _ _ _ _ _ _ (Act.put _ (some 121) _) _
                try simp only [Act.put, List.setIfInBounds_toArray, List.set_cons_zero, List.set_cons_succ]
                refine wpAnyH_take (i := 13) (v := ?_) rfl (by kernel_rfl) (by kernel_rfl) (by kernel_rfl) (fun _ _ _ h => h) (Or.inl ⟨by rfl, ?_⟩) hHeld ?_
                rotate_left
                · intro w hSw
                  try dsimp only at hSw
                  go_simp
                  try with_reducible rfl
                show wpAnyH _ _ _ _ _ _ _ (Act.put _ (some 122) _) _
                try simp only [Act.put, List.setIfInBounds_toArray, List.set_cons_zero, List.set_cons_succ]
                refine wpAnyH_take (i := 14) (v := ?_) rfl (by kernel_rfl) (by kernel_rfl) (by kernel_rfl) (fun _ _ _ h => h) (Or.inl ⟨by rfl, ?_⟩) hHeld ?_
                rotate_left
                · intro w hSw
                  try dsimp only at hSw
                  go_simp
                  try with_reducible rfl
                show wpAnyH _ _ _ _ _ _ _ (Act.put _ (some 123) _) _
                try simp only [Act.put, List.setIfInBounds_toArray, List.set_cons_zero, List.set_cons_succ]
                refine wpAnyH_take (i := 15) (v := ?_) rfl (by kernel_rfl) (by kernel_rfl) (by kernel_rfl) (fun _ _ _ h => h) (Or.inl ⟨by rfl, ?_⟩) hHeld ?_
                rotate_left
                · intro w hSw
                  try dsimp only at hSw
                  go_simp
                  try with_reducible rfl
                show wpAnyH _ _ _ _ _ _ _ (Act.put _ (some 124) _) _
                try simp only [Act.put, List.setIfInBounds_toArray, List.set_cons_zero, List.set_cons_succ]
                refine wpAnyH_take (i := 16) (v := ?_) rfl (by kernel_rfl) (by kernel_rfl) (by kernel_rfl) (fun _ _ _ h => h) (Or.inl ⟨by rfl, ?_⟩) hHeld ?_
                rotate_left
                · intro w hSw
                  try dsimp only at hSw
                  go_simp
                  try with_reducible rfl
                show wpAnyH _ _ _ _ _ _ _ (Act.put _ (some 125) _) _
                try simp only [Act.put, List.setIfInBounds_toArray, List.set_cons_zero, List.set_cons_succ]
                refine wpAnyH_take (i := 17) (v := ?_) rfl (by kernel_rfl) (by kernel_rfl) (by kernel_rfl) (fun _ _ _ h => h) (Or.inl ⟨by rfl, ?_⟩) hHeld ?_
                rotate_left
                · intro w hSw
                  try dsimp only at hSw
                  go_simp
                  try with_reducible rfl
                show wpAnyH _ _ _ _ _ _ _ (Act.put _ (some 126) _) _
                try simp only [Act.put, List.setIfInBounds_toArray, List.set_cons_zero, List.set_cons_succ]
                refine wpAnyH_take (i := 18) (v := ?_) rfl (by kernel_rfl) (by kernel_rfl) (by kernel_rfl) (fun _ _ _ h => h) (Or.inl ⟨by rfl, ?_⟩) hHeld ?_
                rotate_left
                · intro w hSw
                  try dsimp only at hSw
                  go_simp
                  try with_reducible rfl
                show wpAnyH _ _ _ _ _ _ _ (Act.put _ (some 127) _) _
                try simp only [Act.put, List.setIfInBounds_toArray, List.set_cons_zero, List.set_cons_succ]
                refine wpAnyH_take (i := 19) (v := ?_) rfl (by kernel_rfl) (by kernel_rfl) (by kernel_rfl) (fun _ _ _ h => h) (Or.inl ⟨by rfl, ?_⟩) hHeld ?_
                rotate_left
                · intro w hSw
                  try dsimp only at hSw
                  go_simp
                  try with_reducible rfl
                show wpAnyH _ _ _ _ _ _ _ (Act.put _ (some 128) _) _
                try simp only [Act.put, List.setIfInBounds_toArray, List.set_cons_zero, List.set_cons_succ]
                refine wpAnyH_take (i := 20) (v := ?_) rfl (by kernel_rfl) (by kernel_rfl) (by kernel_rfl) (fun _ _ _ h => h) (Or.inl ⟨by rfl, ?_⟩) hHeld ?_
                rotate_left
                · intro w hSw
                  try dsimp only at hSw
                  go_simp
                  try with_reducible rfl
                show wpAnyH _ _ _ _ _ _ _ (Act.put _ (some 129) _) _
                try simp only [Act.put, List.setIfInBounds_toArray, List.set_cons_zero, List.set_cons_succ]
                refine wpAnyH_take (i := 21) (v := ?_) rfl (by kernel_rfl) (by kernel_rfl) (by kernel_rfl) (fun _ _ _ h => h) (Or.inl ⟨by rfl, ?_⟩) hHeld ?_
                rotate_left
                · intro w hSw
                  try dsimp only at hSw
                  go_simp
                  try with_reducible rfl
                show wpAnyH _ _ _ _ _ _ _ (Act.put _ (some 130) _) _
                try simp only [Act.put, List.setIfInBounds_toArray, List.set_cons_zero, List.set_cons_succ]
                refine wpAnyH_take (i := 22) (v := ?_) rfl (by kernel_rfl) (by kernel_rfl) (by kernel_rfl) (fun _ _ _ h => h) (Or.inl ⟨by rfl, ?_⟩) hHeld ?_
                rotate_left
                · intro w hSw
                  try dsimp only at hSw
                  go_simp
                  try with_reducible rfl
                show wpAnyH _ _ _ _ _ _ _ (Act.put _ (some 131) _) _
                try simp only [Act.put, List.setIfInBounds_toArray, List.set_cons_zero, List.set_cons_succ]
                refine wpAnyH_take (i := 23) (v := ?_) rfl (by kernel_rfl) (by kernel_rfl) (by kernel_rfl) (fun _ _ _ h => h) (Or.inl ⟨by rfl, ?_⟩) hHeld ?_
                rotate_left
                · intro w hSw
                  try dsimp only at hSw
                  go_simp
                  try with_reducible rfl
                show wpAnyH _ _ _ _ _ _ _ (Act.put _ (some 132) _) _
                try simp only [Act.put, List.setIfInBounds_toArray, List.set_cons_zero, List.set_cons_succ]
                refine wpAnyH_take (i := 24) (v := ?_) rfl (by kernel_rfl) (by kernel_rfl) (by kernel_rfl) (fun _ _ _ h => h) (Or.inl ⟨by rfl, ?_⟩) hHeld ?_
                rotate_left
                · intro w hSw
                  try dsimp only at hSw
                  go_simp
                  try with_reducible rfl
                show wpAnyH _ _ _ _ _ _ _ (Act.put _ (some 133) _) _
                try simp only [Act.put, List.setIfInBounds_toArray, List.set_cons_zero, List.set_cons_succ]
                refine wpAnyH_take (i := 25) (v := ?_) rfl (by kernel_rfl) (by kernel_rfl) (by kernel_rfl) (fun _ _ _ h => h) (Or.inl ⟨by rfl, ?_⟩) hHeld ?_
                rotate_left
                · intro w hSw
                  try dsimp only at hSw
                  go_simp
                  try with_reducible rfl
                show wpAnyH _ _ _ _ _ _ _ (Act.put _ (some 134) _) _
                try simp only [Act.put, List.setIfInBounds_toArray, List.set_cons_zero, List.set_cons_succ]
                refine wpAnyH_take (i := 26) (v := ?_) rfl (by kernel_rfl) (by kernel_rfl) (by kernel_rfl) (fun _ _ _ h => h) (Or.inl ⟨by rfl, ?_⟩) hHeld ?_
                rotate_left
                · intro w hSw
                  try dsimp only at hSw
                  go_simp
                  try with_reducible rfl
                show wpAnyH _ _ _ _ _ _ _ (Act.put _ (some 135) _) _
                try simp only [Act.put, List.setIfInBounds_toArray, List.set_cons_zero, List.set_cons_succ]
                refine wpAnyH_take (i := 27) (v := ?_) rfl (by kernel_rfl) (by kernel_rfl) (by kernel_rfl) (fun _ _ _ h => h) (Or.inl ⟨by rfl, ?_⟩) hHeld ?_
                rotate_left
                · intro w hSw
                  try dsimp only at hSw
                  go_simp
                  try with_reducible rfl
                show wpAnyH _ _ _ _ _ _ _ (Act.put _ (some 136) _) _
                try simp only [Act.put, List.setIfInBounds_toArray, List.set_cons_zero, List.set_cons_succ]
                refine wpAnyH_done (by kernel_rfl) ?_ _
                clear hHeld
                go_wp2_with fail
                go_roundw
                case rel => exact ⟨k + 1, hlk, by go_num, K7, hide (unhide HNT rfl)⟩
                case measure => simp [intOf]; omega)
          · have lk : ¬ (k : Int) < (l : Int) := by omega
            obtain rfl : k = l := by omega
            have hz : ZZ = true := by
              rcases unhide C6 with h | h
              · exact unhide HC trivial h (unhide NR9) (unhide C7 h)
              · exact unhide HD trivial h (unhide NR9) (by omega) (unhide NT)
            subst hz
            go_wp2_with fail
            go_ret
            exact ⟨rfl, unhide EK _ (unhide KW)⟩)
end Gp
end Go.Proofs.Ytakandlehneciaa
