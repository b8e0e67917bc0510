/- Package group: the document's Same of two layouts that are told alike. -/
import Derived.Test.YtakandlehneciaaGqF
namespace Go.Proofs.Ytakandlehneciaa
open Go.RowKit
attribute [local go_sem ↓] Go.wp_at_zero Go.wp_at_succ
set_option linter.unusedVariables false
set_option linter.unusedSimpArgs false
set_option maxRecDepth 10000
namespace Gp
open Pa
theorem Ir.row9 {w : World} {a : Option Addr} {n c : Nat} {LL : List (List Int)} (h : Ir w (.slice a n c) LL) {k : Nat} (hk : k < LL.length) : ∃ ad ua uc, a = some ad ∧ w.cell? (ad.add k) = some (.slice ua (LL.getD k []).length uc) ∧ ∀ j, j < (LL.getD k []).length → ∃ ad2, ua = some ad2 ∧ w.cell? (ad2.add j) = some (.int .i64 ((LL.getD k []).getD j 0)) := by
  obtain ⟨a9, c9, e, _, h⟩ := h
  injection e with e1 e2 e3
  subst e1
  obtain ⟨ad, u, e, h1, ua, uc, rfl, h2⟩ := h k hk
  exact ⟨ad, ua, uc, e, h1, h2⟩
set_option maxHeartbeats 8000000 in
theorem rsame15_any (x : Int) (vo st vp sp : Value) (OO ST : List (List Int)) (w : World) (hO : Ir w vo OO) (hS : Ir w st ST) (hP : Ir w vp OO) (hQ : Ir w sp ST) (hl : OO.length ≤ 1000) (hl2 : ST.length ≤ 1000) (hm : ∀ k, (OO.getD k []).length ≤ 1000) (hm2 : ∀ k, (ST.getD k []).length ≤ 1000) :
    Calls Try.prog 12 #[.agg #[.int .i64 x, vo, st], .agg #[.int .i64 x, vp, sp]] w fun e w' => e = .returned (.bool true) ∧ Keep w w' := by
  have HO := hide hO
  have HS := hide hS
  have HP := hide hP
  have HQ := hide hQ
  obtain ⟨ao, co, rfl, -, -⟩ := hO
  obtain ⟨as9, cs, rfl, -, -⟩ := hS
  obtain ⟨ap, cp, rfl, -, -⟩ := hP
  obtain ⟨aq, cq, rfl, -, -⟩ := hQ
  have TS := hide (fun (k : Nat) (v u : Value) (w' : World) (h : Is w' v (OO.getD k [])) (g : Is w' u (OO.getD k [])) => (show Calls Try.prog 25 #[v, u] w' fun e w2 => e = .returned (.bool true) ∧ Keep w' w2 from by
    have h9 := Od.same_any v u _ _ w' h g (Nat.le_trans (hm k) (by omega)) (Nat.le_trans (hm k) (by omega))
    rw [decide_eq_true rfl] at h9
    exact h9))
  have A0 := als_at [.cells #[.int .i64 x, .slice ao OO.length co, .slice as9 ST.length cs] 30, .cells #[.int .i64 x, .slice ap OO.length cp, .slice aq ST.length cq] 30] w 0 _ rfl
  have A1 := als_at [.cells #[.int .i64 x, .slice ao OO.length co, .slice as9 ST.length cs] 30, .cells #[.int .i64 x, .slice ap OO.length cp, .slice aq ST.length cq] 30] w 1 _ rfl
  have K2 := als_keep [.cells #[.int .i64 x, .slice ao OO.length co, .slice as9 ST.length cs] 30, .cells #[.int .i64 x, .slice ap OO.length cp, .slice aq ST.length cq] 30] w
  simp only [als, List.foldl, Nat.add_zero] at A0 A1 K2
  have CK := hide (fun (w' : World) (hk : Keep ((w.alloc (.cells #[.int .i64 x, .slice ao OO.length co, .slice as9 ST.length cs] 30)).alloc (.cells #[.int .i64 x, .slice ap OO.length cp, .slice aq ST.length cq] 30)) w') => And.intro (fit_sz (kblk A0 hk)) (fit_sz (kblk A1 hk)))
  have EK := hide (fun (w' : World) (hk : Keep ((w.alloc (.cells #[.int .i64 x, .slice ao OO.length co, .slice as9 ST.length cs] 30)).alloc (.cells #[.int .i64 x, .slice ap OO.length cp, .slice aq ST.length cq] 30)) w') => K2.trans hk)
  have K0 := hide (Keep.refl ((w.alloc (.cells #[.int .i64 x, .slice ao OO.length co, .slice as9 ST.length cs] 30)).alloc (.cells #[.int .i64 x, .slice ap OO.length cp, .slice aq ST.length cq] 30)))
  clear A0 A1 K2
  obtain ⟨⟨c0, c1, c2⟩, f0, f1, f2⟩ := unhide CK _ (Keep.refl _)
  generalize hlo : OO.length = lo at *
  have LO := hide hlo
  clear hlo
  generalize hls : ST.length = ls at *
  have LS := hide hls
  clear hls
  have n1 : ((lo : Int) != (lo : Int)) = false := by simp
  have n2 : ((ls : Int) != (ls : Int)) = false := by simp
  have n3 : (x != x) = false := by simp
  go_enter Try.func12, Try.ntmps12
  go_wp2_with fail
  generalize (w.alloc (.cells #[.int .i64 x, .slice ao lo co, .slice as9 ls cs] 30)).alloc (.cells #[.int .i64 x, .slice ap lo cp, .slice aq ls cq] 30) = w2 at CK EK K0 c0 c1 c2 f0 f1 f2 ⊢
  generalize w.heap.size + 1 = b1 at CK f0 f1 f2 ⊢
  generalize w.heap.size = b0 at CK c0 c1 c2 ⊢
  clear n1 n2 n3 c0 c1 c2 f0 f1 f2
  go_loopw [5] (fun vi wr => ∃ i : Nat, i ≤ lo ∧ vi = .int .i64 (i : Int) ∧ Hid (Keep w2 wr)) (fun vi _ => lo - (intOf vi).toNat)
  case atStart => exact ⟨0, Nat.zero_le _, rfl, K0⟩
  case round =>
    clear K0
    obtain ⟨i, hi, rfl, KW⟩ := hrel
    obtain ⟨⟨c0, c1, c2⟩, f0, f1, f2⟩ := unhide CK _ (unhide KW)
    by_cases hlt : i < lo
    · have li : (i : Int) < (lo : Int) := by omega
      obtain ⟨ad, u, uc, rfl, y0, hu⟩ := (unhide HO).row9 (k := i) (by rw [unhide LO]; exact hlt)
      obtain ⟨ae, v, vc, rfl, z0, hv⟩ := (unhide HP).row9 (k := i) (by rw [unhide LO]; exact hlt)
      have HUV : Hid (∀ w', Keep w w' → Is w' (.slice u (OO.getD i []).length uc) (OO.getD i []) ∧ Is w' (.slice v (OO.getD i []).length vc) (OO.getD i [])) := hide (fun w' hk => ⟨⟨u, uc, rfl, fun j hj => by
        obtain ⟨a2, e, h⟩ := hu j hj
        exact ⟨a2, e, kc hk h⟩⟩, ⟨v, vc, rfl, fun j hj => by
        obtain ⟨a2, e, h⟩ := hv j hj
        exact ⟨a2, e, kc hk h⟩⟩⟩)
      have TSi := hide (fun w' (hk : Keep w w') => unhide TS i _ _ w' (unhide HUV w' hk).1 (unhide HUV w' hk).2)
      clear HUV hu hv
      generalize (OO.getD i []).length = n at *
      have SP : Hid (∀ w', Keep wr w' → w'.cell? ⟨b0, 1, none⟩ = some (.slice (some ad) lo co) ∧ w'.cell? ⟨b1, 1, none⟩ = some (.slice (some ae) lo cp) ∧ w'.cell? (ad.add i) = some (.slice u n uc) ∧ w'.cell? (ae.add i) = some (.slice v n vc)) := hide (fun w' hk => ⟨(unhide CK _ ((unhide KW).trans hk)).1.2.1, (unhide CK _ ((unhide KW).trans hk)).2.2.1, kc (unhide EK _ ((unhide KW).trans hk)) y0, kc (unhide EK _ ((unhide KW).trans hk)) z0⟩)
      have KX := hide (fun w' (hk : Keep wr w') => unhide EK _ ((unhide KW).trans hk))
      clear y0 z0
      go_upto_region 6 with fail
      clear c0 c1 c2 f0 f1 f2
      refine wp_region_held_drew (S := (fun w' => w'.cell? ⟨b0, 1, none⟩ = some (.slice (some ad) lo co) ∧ w'.cell? ⟨b1, 1, none⟩ = some (.slice (some ae) lo cp) ∧ w'.cell? (ad.add i) = some (.slice u n uc) ∧ w'.cell? (ae.add i) = some (.slice v n vc))) (by kernel_rfl) (by exact unhide SP _ ((Keep.refl _).drew)) (fun hHeld => ?_)
      refine wpAnyH_take (i := 0) (v := ?_) rfl (by kernel_rfl) (by kernel_rfl) (by kernel_rfl) (fun _ _ _ h => h) (Or.inl ⟨by rfl, ?_⟩) hHeld ?_
      rotate_left
      · intro w hSw
        try dsimp only at hSw
        go_simp
        try with_reducible rfl
      show wpAnyH _ _ _ _ _ _ _ (Act.put _ (some 38) _) _
      try simp only [Act.put, List.setIfInBounds_toArray, List.set_cons_zero, List.set_cons_succ]
      refine wpAnyH_take (i := 1) (v := ?_) rfl (by kernel_rfl) (by kernel_rfl) (by kernel_rfl) (fun _ _ _ h => h) (Or.inl ⟨by rfl, ?_⟩) hHeld ?_
      rotate_left
      · intro w hSw
        try dsimp only at hSw
        go_simp
        try with_reducible rfl
      show wpAnyH _ _ _ _ _ _ _ (Act.put _ (some 39) _) _
      try simp only [Act.put, List.setIfInBounds_toArray, List.set_cons_zero, List.set_cons_succ]
      refine wpAnyH_take (i := 2) (v := ?_) rfl (by kernel_rfl) (by kernel_rfl) (by kernel_rfl) (fun _ _ _ h => h) (Or.inl ⟨by rfl, ?_⟩) hHeld ?_
      rotate_left
      · intro w hSw
        try dsimp only at hSw
        go_simp
        try with_reducible rfl
      show wpAnyH _ _ _ _ _ _ _ (Act.put _ (some 40) _) _
      try simp only [Act.put, List.setIfInBounds_toArray, List.set_cons_zero, List.set_cons_succ]
      refine wpAnyH_take (i := 3) (v := ?_) rfl (by kernel_rfl) (by kernel_rfl) (by kernel_rfl) (fun _ _ _ h => h) (Or.inl ⟨by rfl, ?_⟩) hHeld ?_
      rotate_left
      · intro w hSw
        try dsimp only at hSw
        go_simp
        try with_reducible rfl
      show wpAnyH _ _ _ _ _ _ _ (Act.put _ (some 41) _) _
      try simp only [Act.put, List.setIfInBounds_toArray, List.set_cons_zero, List.set_cons_succ]
      refine wpAnyH_take (i := 4) (v := ?_) rfl (by kernel_rfl) (by kernel_rfl) (by kernel_rfl) (fun _ _ _ h => h) (Or.inl ⟨by rfl, ?_⟩) hHeld ?_
      rotate_left
      · intro w hSw
        try dsimp only at hSw
        go_simp
        try with_reducible rfl
      show wpAnyH _ _ _ _ _ _ _ (Act.put _ (some 42) _) _
      try simp only [Act.put, List.setIfInBounds_toArray, List.set_cons_zero, List.set_cons_succ]
      refine wpAnyH_take (i := 5) (v := ?_) rfl (by kernel_rfl) (by kernel_rfl) (by kernel_rfl) (fun _ _ _ h => h) (Or.inl ⟨by rfl, ?_⟩) hHeld ?_
      rotate_left
      · intro w hSw
        try dsimp only at hSw
        go_simp
        try with_reducible rfl
      show wpAnyH _ _ _ _ _ _ _ (Act.put _ (some 43) _) _
      try simp only [Act.put, List.setIfInBounds_toArray, List.set_cons_zero, List.set_cons_succ]
      refine wpAnyH_take (i := 6) (v := ?_) rfl (by kernel_rfl) (by kernel_rfl) (by kernel_rfl) (fun _ _ _ h => h) (Or.inl ⟨by rfl, ?_⟩) hHeld ?_
      rotate_left
      · intro w hSw
        try dsimp only at hSw
        go_simp
        try with_reducible rfl
      show wpAnyH _ _ _ _ _ _ _ (Act.put _ (some 44) _) _
      try simp only [Act.put, List.setIfInBounds_toArray, List.set_cons_zero, List.set_cons_succ]
      refine wpAnyH_take (i := 7) (v := ?_) rfl (by kernel_rfl) (by kernel_rfl) (by kernel_rfl) (fun _ _ _ h => h) (Or.inl ⟨by rfl, ?_⟩) hHeld ?_
      rotate_left
      · intro w hSw
        try dsimp only at hSw
        go_simp
        try with_reducible rfl
      show wpAnyH _ _ _ _ _ _ _ (Act.put _ (some 45) _) _
      try simp only [Act.put, List.setIfInBounds_toArray, List.set_cons_zero, List.set_cons_succ]
      refine wpAnyH_take (i := 8) (v := ?_) rfl (by kernel_rfl) (by kernel_rfl) (by kernel_rfl) (fun _ _ _ h => h) (Or.inl ⟨by rfl, ?_⟩) hHeld ?_
      rotate_left
      · intro w hSw
        try dsimp only at hSw
        go_simp
        try with_reducible rfl
      show wpAnyH _ _ _ _ _ _ _ (Act.put _ (some 46) _) _
      try simp only [Act.put, List.setIfInBounds_toArray, List.set_cons_zero, List.set_cons_succ]
      refine wpAnyH_take (i := 9) (v := ?_) rfl (by kernel_rfl) (by kernel_rfl) (by kernel_rfl) (fun _ _ _ h => h) (Or.inl ⟨by rfl, ?_⟩) hHeld ?_
      rotate_left
      · intro w hSw
        try dsimp only at hSw
        go_simp
        try with_reducible rfl
      show wpAnyH _ _ _ _ _ _ _ (Act.put _ (some 47) _) _
      try simp only [Act.put, List.setIfInBounds_toArray, List.set_cons_zero, List.set_cons_succ]
      refine wpAnyH_ready (rs := [10]) (by kernel_rfl) (by simp) ?_
      refine AllReadyH.cons rfl (fun K hK => ?_) AllReadyH.nil
      go_simp
      clear hHeld
      (refine ((unhide TSi) _ (unhide KX _ ((Keep.refl _).drew))).mono ?_; rintro e w3 ⟨rfl, hk3⟩; have k3 := hide (((Keep.refl wr).drew).trans hk3); clear hk3)
      try go_wp2_with fail
      refine hK.out _ _ ?_ (fun hHeld => ?_)
      · exact unhide SP _ (unhide k3)
      clear hK K
      try simp only [Act.put, List.setIfInBounds_toArray, List.set_cons_zero, List.set_cons_succ]
      refine wpAnyH_take (i := 11) (v := ?_) rfl (by kernel_rfl) (by kernel_rfl) (by kernel_rfl) (fun _ _ _ h => h) (Or.inl ⟨by rfl, ?_⟩) hHeld ?_
      rotate_left
      · intro w hSw
        try dsimp only at hSw
        go_simp
        try with_reducible rfl
      show wpAnyH _ _ _ _ _ _ _ (Act.put _ (some 49) _) _
      try simp only [Act.put, List.setIfInBounds_toArray, List.set_cons_zero, List.set_cons_succ]
      refine wpAnyH_done (by kernel_rfl) ?_ _
      clear hHeld
      have KN := hide ((unhide KW).trans (unhide k3))
      go_wp2_with fail
      go_roundw
      case rel => exact ⟨i + 1, hlt, by go_num, KN⟩
      case measure => simp [intOf]; omega
    · have li : ¬ (i : Int) < (lo : Int) := by omega
      obtain rfl : i = lo := by omega
      clear hlt hi
      have K9 := KW
      go_wp2_with fail
      clear c0 c1 c2 f0 f1 f2 li
      go_loopw [6] (fun vi wr => ∃ k : Nat, k ≤ ls ∧ vi = .int .i64 (k : Int) ∧ Hid (Keep w2 wr)) (fun vi _ => ls - (intOf vi).toNat)
      case atStart => exact ⟨0, Nat.zero_le _, rfl, K9⟩
      case round =>
        clear K9 KW
        obtain ⟨k, hk, rfl, KW⟩ := hrel
        obtain ⟨⟨c0, c1, c2⟩, f0, f1, f2⟩ := unhide CK _ (unhide KW)
        by_cases hlk : k < ls
        · have lk : (k : Int) < (ls : Int) := by omega
          obtain ⟨ad, u, uc, rfl, y0, hu⟩ := (unhide HS).row9 (k := k) (by rw [unhide LS]; exact hlk)
          obtain ⟨ae, v, vc, rfl, z0, hv⟩ := (unhide HQ).row9 (k := k) (by rw [unhide LS]; exact hlk)
          have HU := hide hu
          have HV := hide hv
          have hn := hm2 k
          generalize (ST.getD k []) = L at *
          generalize L.length = n at *
          have SP : Hid (∀ w', Keep w2 w' → w'.cell? ⟨b0, 2, none⟩ = some (.slice (some ad) ls cs) ∧ w'.cell? ⟨b1, 2, none⟩ = some (.slice (some ae) ls cq) ∧ w'.cell? (ad.add k) = some (.slice u n uc) ∧ w'.cell? (ae.add k) = some (.slice v n vc)) := hide (fun w' hk => ⟨(unhide CK _ hk).1.2.2, (unhide CK _ hk).2.2.2, kc (unhide EK _ hk) y0, kc (unhide EK _ hk) z0⟩)
          have nn : ((n : Int) != (n : Int)) = false := by simp
          clear hu hv y0 z0
          go_upto_region 11 with fail
          clear c0 c1 c2 f0 f1 f2
          refine wp_region_held_drew (S := (fun w' => w'.cell? ⟨b0, 2, none⟩ = some (.slice (some ad) ls cs) ∧ w'.cell? ⟨b1, 2, none⟩ = some (.slice (some ae) ls cq) ∧ w'.cell? (ad.add k) = some (.slice u n uc) ∧ w'.cell? (ae.add k) = some (.slice v n vc))) (by kernel_rfl) (by exact unhide SP _ ((unhide KW).trans (Keep.refl _).drew)) (fun hHeld => ?_)
          refine wpAnyH_take (i := 0) (v := ?_) rfl (by kernel_rfl) (by kernel_rfl) (by kernel_rfl) (fun _ _ _ h => h) (Or.inl ⟨by rfl, ?_⟩) hHeld ?_
          rotate_left
          · intro w hSw
            try dsimp only at hSw
            go_simp
            try with_reducible rfl
          show wpAnyH _ _ _ _ _ _ _ (Act.put _ (some 57) _) _
          try simp only [Act.put, List.setIfInBounds_toArray, List.set_cons_zero, List.set_cons_succ]
          refine wpAnyH_take (i := 1) (v := ?_) rfl (by kernel_rfl) (by kernel_rfl) (by kernel_rfl) (fun _ _ _ h => h) (Or.inl ⟨by rfl, ?_⟩) hHeld ?_
          rotate_left
          · intro w hSw
            try dsimp only at hSw
            go_simp
            try with_reducible rfl
          show wpAnyH _ _ _ _ _ _ _ (Act.put _ (some 58) _) _
          try simp only [Act.put, List.setIfInBounds_toArray, List.set_cons_zero, List.set_cons_succ]
          refine wpAnyH_take (i := 2) (v := ?_) rfl (by kernel_rfl) (by kernel_rfl) (by kernel_rfl) (fun _ _ _ h => h) (Or.inl ⟨by rfl, ?_⟩) hHeld ?_
          rotate_left
          · intro w hSw
            try dsimp only at hSw
            go_simp
            try with_reducible rfl
          show wpAnyH _ _ _ _ _ _ _ (Act.put _ (some 59) _) _
          try simp only [Act.put, List.setIfInBounds_toArray, List.set_cons_zero, List.set_cons_succ]
          refine wpAnyH_take (i := 3) (v := ?_) rfl (by kernel_rfl) (by kernel_rfl) (by kernel_rfl) (fun _ _ _ h => h) (Or.inl ⟨by rfl, ?_⟩) hHeld ?_
          rotate_left
          · intro w hSw
            try dsimp only at hSw
            go_simp
            try with_reducible rfl
          show wpAnyH _ _ _ _ _ _ _ (Act.put _ (some 60) _) _
          try simp only [Act.put, List.setIfInBounds_toArray, List.set_cons_zero, List.set_cons_succ]
          refine wpAnyH_take (i := 4) (v := ?_) rfl (by kernel_rfl) (by kernel_rfl) (by kernel_rfl) (fun _ _ _ h => h) (Or.inl ⟨by rfl, ?_⟩) hHeld ?_
          rotate_left
          · intro w hSw
            try dsimp only at hSw
            go_simp
            try with_reducible rfl
          show wpAnyH _ _ _ _ _ _ _ (Act.put _ (some 61) _) _
          try simp only [Act.put, List.setIfInBounds_toArray, List.set_cons_zero, List.set_cons_succ]
          refine wpAnyH_take (i := 5) (v := ?_) rfl (by kernel_rfl) (by kernel_rfl) (by kernel_rfl) (fun _ _ _ h => h) (Or.inl ⟨by rfl, ?_⟩) hHeld ?_
          rotate_left
          · intro w hSw
            try dsimp only at hSw
            go_simp
            try with_reducible rfl
          show wpAnyH _ _ _ _ _ _ _ (Act.put _ (some 62) _) _
          try simp only [Act.put, List.setIfInBounds_toArray, List.set_cons_zero, List.set_cons_succ]
          refine wpAnyH_take (i := 6) (v := ?_) rfl (by kernel_rfl) (by kernel_rfl) (by kernel_rfl) (fun _ _ _ h => h) (Or.inl ⟨by rfl, ?_⟩) hHeld ?_
          rotate_left
          · intro w hSw
            try dsimp only at hSw
            go_simp
            try with_reducible rfl
          show wpAnyH _ _ _ _ _ _ _ (Act.put _ (some 63) _) _
          try simp only [Act.put, List.setIfInBounds_toArray, List.set_cons_zero, List.set_cons_succ]
          refine wpAnyH_take (i := 7) (v := ?_) rfl (by kernel_rfl) (by kernel_rfl) (by kernel_rfl) (fun _ _ _ h => h) (Or.inl ⟨by rfl, ?_⟩) hHeld ?_
          rotate_left
          · intro w hSw
            try dsimp only at hSw
            go_simp
            try with_reducible rfl
          show wpAnyH _ _ _ _ _ _ _ (Act.put _ (some 64) _) _
          try simp only [Act.put, List.setIfInBounds_toArray, List.set_cons_zero, List.set_cons_succ]
          refine wpAnyH_take (i := 8) (v := ?_) rfl (by kernel_rfl) (by kernel_rfl) (by kernel_rfl) (fun _ _ _ h => h) (Or.inl ⟨by rfl, ?_⟩) hHeld ?_
          rotate_left
          · intro w hSw
            try dsimp only at hSw
            go_simp
            try with_reducible rfl
          show wpAnyH _ _ _ _ _ _ _ (Act.put _ (some 65) _) _
          try simp only [Act.put, List.setIfInBounds_toArray, List.set_cons_zero, List.set_cons_succ]
          refine wpAnyH_take (i := 9) (v := ?_) rfl (by kernel_rfl) (by kernel_rfl) (by kernel_rfl) (fun _ _ _ h => h) (Or.inl ⟨by rfl, ?_⟩) hHeld ?_
          rotate_left
          · intro w hSw
            try dsimp only at hSw
            go_simp
            try with_reducible rfl
          show wpAnyH _ _ _ _ _ _ _ (Act.put _ (some 66) _) _
          try simp only [Act.put, List.setIfInBounds_toArray, List.set_cons_zero, List.set_cons_succ]
          refine wpAnyH_take (i := 10) (v := ?_) rfl (by kernel_rfl) (by kernel_rfl) (by kernel_rfl) (fun _ _ _ h => h) (Or.inl ⟨by rfl, ?_⟩) hHeld ?_
          rotate_left
          · intro w hSw
            try dsimp only at hSw
            go_simp
            try with_reducible rfl
          show wpAnyH _ _ _ _ _ _ _ (Act.put _ (some 67) _) _
          try simp only [Act.put, List.setIfInBounds_toArray, List.set_cons_zero, List.set_cons_succ]
          refine wpAnyH_take (i := 11) (v := ?_) rfl (by kernel_rfl) (by kernel_rfl) (by kernel_rfl) (fun _ _ _ h => h) (Or.inl ⟨by rfl, ?_⟩) hHeld ?_
          rotate_left
          · intro w hSw
            try dsimp only at hSw
            go_simp
            try with_reducible rfl
          show wpAnyH _ _ _ _ _ _ _ (Act.put _ (some 68) _) _
          try simp only [Act.put, List.setIfInBounds_toArray, List.set_cons_zero, List.set_cons_succ]
          refine wpAnyH_take (i := 12) (v := ?_) rfl (by kernel_rfl) (by kernel_rfl) (by kernel_rfl) (fun _ _ _ h => h) (Or.inl ⟨by rfl, ?_⟩) hHeld ?_
          rotate_left
          · intro w hSw
            try dsimp only at hSw
            go_simp
            try with_reducible rfl
          show wpAnyH _ _ _ _ _ _ _ (Act.put _ (some 69) _) _
          try simp only [Act.put, List.setIfInBounds_toArray, List.set_cons_zero, List.set_cons_succ]
          refine wpAnyH_done (by kernel_rfl) ?_ _
          clear hHeld
          have K8 := hide ((unhide KW).trans (Keep.refl _).drew)
          clear KW nn
          go_wp2_with fail
          go_loopw [7] (fun vi wr => ∃ j : Nat, j ≤ n ∧ vi = .int .i64 (j : Int) ∧ Hid (Keep w2 wr)) (fun vi _ => n - (intOf vi).toNat)
          case atStart => exact ⟨0, Nat.zero_le _, rfl, K8⟩
          case round =>
            clear K8
            obtain ⟨j, hj, rfl, KW⟩ := hrel
            obtain ⟨s0, s1, s2, s3⟩ := unhide SP _ (unhide KW)
            by_cases hlj : j < n
            · have lj : (j : Int) < (n : Int) := by omega
              obtain ⟨a3, rfl, x0⟩ := unhide HU j hlj
              obtain ⟨a4, rfl, x1⟩ := unhide HV j hlj
              generalize L.getD j 0 = y at *
              have SQ : Hid (∀ w', Keep w2 w' → w'.cell? ⟨b0, 2, none⟩ = some (.slice (some ad) ls cs) ∧ w'.cell? ⟨b1, 2, none⟩ = some (.slice (some ae) ls cq) ∧ w'.cell? (ad.add k) = some (.slice (some a3) n uc) ∧ w'.cell? (ae.add k) = some (.slice (some a4) n vc) ∧ w'.cell? (a3.add j) = some (.int .i64 y) ∧ w'.cell? (a4.add j) = some (.int .i64 y)) := hide (fun w' hk => ⟨(unhide SP _ hk).1, (unhide SP _ hk).2.1, (unhide SP _ hk).2.2.1, (unhide SP _ hk).2.2.2, kc (unhide EK _ hk) x0, kc (unhide EK _ hk) x1⟩)
              have ny : (y != y) = false := by simp
              clear x0 x1
              go_upto_region 16 with fail
              clear s0 s1 s2 s3
              refine wp_region_held_drew (S := (fun w' => w'.cell? ⟨b0, 2, none⟩ = some (.slice (some ad) ls cs) ∧ w'.cell? ⟨b1, 2, none⟩ = some (.slice (some ae) ls cq) ∧ w'.cell? (ad.add k) = some (.slice (some a3) n uc) ∧ w'.cell? (ae.add k) = some (.slice (some a4) n vc) ∧ w'.cell? (a3.add j) = some (.int .i64 y) ∧ w'.cell? (a4.add j) = some (.int .i64 y))) (by kernel_rfl) (by exact unhide SQ _ ((unhide KW).trans (Keep.refl _).drew)) (fun hHeld => ?_)
              refine wpAnyH_take (i := 0) (v := ?_) rfl (by kernel_rfl) (by kernel_rfl) (by kernel_rfl) (fun _ _ _ h => h) (Or.inl ⟨by rfl, ?_⟩) hHeld ?_
              rotate_left
              · intro w hSw
                try dsimp only at hSw
                go_simp
                try with_reducible rfl
              show wpAnyH _ _ _ _ _ _ _ (Act.put _ (some 80) _) _
              try simp only [Act.put, List.setIfInBounds_toArray, List.set_cons_zero, List.set_cons_succ]
              refine wpAnyH_take (i := 1) (v := ?_) rfl (by kernel_rfl) (by kernel_rfl) (by kernel_rfl) (fun _ _ _ h => h) (Or.inl ⟨by rfl, ?_⟩) hHeld ?_
              rotate_left
              · intro w hSw
                try dsimp only at hSw
                go_simp
                try with_reducible rfl
              show wpAnyH _ _ _ _ _ _ _ (Act.put _ (some 81) _) _
              try simp only [Act.put, List.setIfInBounds_toArray, List.set_cons_zero, List.set_cons_succ]
              refine wpAnyH_take (i := 2) (v := ?_) rfl (by kernel_rfl) (by kernel_rfl) (by kernel_rfl) (fun _ _ _ h => h) (Or.inl ⟨by rfl, ?_⟩) hHeld ?_
              rotate_left
              · intro w hSw
                try dsimp only at hSw
                go_simp
                try with_reducible rfl
              show wpAnyH _ _ _ _ _ _ _ (Act.put _ (some 82) _) _
              try simp only [Act.put, List.setIfInBounds_toArray, List.set_cons_zero, List.set_cons_succ]
              refine wpAnyH_take (i := 3) (v := ?_) rfl (by kernel_rfl) (by kernel_rfl) (by kernel_rfl) (fun _ _ _ h => h) (Or.inl ⟨by rfl, ?_⟩) hHeld ?_
              rotate_left
              · intro w hSw
                try dsimp only at hSw
                go_simp
                try with_reducible rfl
              show wpAnyH _ _ _ _ _ _ _ (Act.put _ (some 83) _) _
              try simp only [Act.put, List.setIfInBounds_toArray, List.set_cons_zero, List.set_cons_succ]
              refine wpAnyH_take (i := 4) (v := ?_) rfl (by kernel_rfl) (by kernel_rfl) (by kernel_rfl) (fun _ _ _ h => h) (Or.inl ⟨by rfl, ?_⟩) hHeld ?_
              rotate_left
              · intro w hSw
                try dsimp only at hSw
                go_simp
                try with_reducible rfl
              show wpAnyH _ _ _ _ _ _ _ (Act.put _ (some 84) _) _
              try simp only [Act.put, List.setIfInBounds_toArray, List.set_cons_zero, List.set_cons_succ]
              refine wpAnyH_take (i := 5) (v := ?_) rfl (by kernel_rfl) (by kernel_rfl) (by kernel_rfl) (fun _ _ _ h => h) (Or.inl ⟨by rfl, ?_⟩) hHeld ?_
              rotate_left
              · intro w hSw
                try dsimp only at hSw
                go_simp
                try with_reducible rfl
              show wpAnyH _ _ _ _ _ _ _ (Act.put _ (some 85) _) _
              try simp only [Act.put, List.setIfInBounds_toArray, List.set_cons_zero, List.set_cons_succ]
              refine wpAnyH_take (i := 6) (v := ?_) rfl (by kernel_rfl) (by kernel_rfl) (by kernel_rfl) (fun _ _ _ h => h) (Or.inl ⟨by rfl, ?_⟩) hHeld ?_
              rotate_left
              · intro w hSw
                try dsimp only at hSw
                go_simp
                try with_reducible rfl
              show wpAnyH _ _ _ _ _ _ _ (Act.put _ (some 86) _) _
              try simp only [Act.put, List.setIfInBounds_toArray, List.set_cons_zero, List.set_cons_succ]
              refine wpAnyH_take (i := 7) (v := ?_) rfl (by kernel_rfl) (by kernel_rfl) (by kernel_rfl) (fun _ _ _ h => h) (Or.inl ⟨by rfl, ?_⟩) hHeld ?_
              rotate_left
              · intro w hSw
                try dsimp only at hSw
                go_simp
                try with_reducible rfl
              show wpAnyH _ _ _ _ _ _ _ (Act.put _ (some 87) _) _
              try simp only [Act.put, List.setIfInBounds_toArray, List.set_cons_zero, List.set_cons_succ]
              refine wpAnyH_take (i := 8) (v := ?_) rfl (by kernel_rfl) (by kernel_rfl) (by kernel_rfl) (fun _ _ _ h => h) (Or.inl ⟨by rfl, ?_⟩) hHeld ?_
              rotate_left
              · intro w hSw
                try dsimp only at hSw
                go_simp
                try with_reducible rfl
              show wpAnyH _ _ _ _ _ _ _ (Act.put _ (some 88) _) _
              try simp only [Act.put, List.setIfInBounds_toArray, List.set_cons_zero, List.set_cons_succ]
              refine wpAnyH_take (i := 9) (v := ?_) rfl (by kernel_rfl) (by kernel_rfl) (by kernel_rfl) (fun _ _ _ h => h) (Or.inl ⟨by rfl, ?_⟩) hHeld ?_
              rotate_left
              · intro w hSw
                try dsimp only at hSw
                go_simp
                try with_reducible rfl
              show wpAnyH _ _ _ _ _ _ _ (Act.put _ (some 89) _) _
              try simp only [Act.put, List.setIfInBounds_toArray, List.set_cons_zero, List.set_cons_succ]
              refine wpAnyH_take (i := 10) (v := ?_) rfl (by kernel_rfl) (by kernel_rfl) (by kernel_rfl) (fun _ _ _ h => h) (Or.inl ⟨by rfl, ?_⟩) hHeld ?_
              rotate_left
              · intro w hSw
                try dsimp only at hSw
                go_simp
                try with_reducible rfl
              show wpAnyH _ _ _ _ _ _ _ (Act.put _ (some 90) _) _
              try simp only [Act.put, List.setIfInBounds_toArray, List.set_cons_zero, List.set_cons_succ]
              refine wpAnyH_take (i := 11) (v := ?_) rfl (by kernel_rfl) (by kernel_rfl) (by kernel_rfl) (fun _ _ _ h => h) (Or.inl ⟨by rfl, ?_⟩) hHeld ?_
              rotate_left
              · intro w hSw
                try dsimp only at hSw
                go_simp
                try with_reducible rfl
              show wpAnyH _ _ _ _ _ _ _ (Act.put _ (some 91) _) _
              try simp only [Act.put, List.setIfInBounds_toArray, List.set_cons_zero, List.set_cons_succ]
              refine wpAnyH_take (i := 12) (v := ?_) rfl (by kernel_rfl) (by kernel_rfl) (by kernel_rfl) (fun _ _ _ h => h) (Or.inl ⟨by rfl, ?_⟩) hHeld ?_
              rotate_left
              · intro w hSw
                try dsimp only at hSw
                go_simp
                try with_reducible rfl
              show wpAnyH _ _ _ _ _ _ _ (Act.put _ (some 92) _) _
              try simp only [Act.put, List.setIfInBounds_toArray, List.set_cons_zero, List.set_cons_succ]
              refine wpAnyH_take (i := 13) (v := ?_) rfl (by kernel_rfl) (by kernel_rfl) (by kernel_rfl) (fun _ _ _ h => h) (Or.inl ⟨by rfl, ?_⟩) hHeld ?_
              rotate_left
              · intro w hSw
                try dsimp only at hSw
                go_simp
                try with_reducible rfl
              show wpAnyH _ _ _ _ _ _ _ (Act.put _ (some 93) _) _
              try simp only [Act.put, List.setIfInBounds_toArray, List.set_cons_zero, List.set_cons_succ]
              refine wpAnyH_take (i := 14) (v := ?_) rfl (by kernel_rfl) (by kernel_rfl) (by kernel_rfl) (fun _ _ _ h => h) (Or.inl ⟨by rfl, ?_⟩) hHeld ?_
              rotate_left
              · intro w hSw
                try dsimp only at hSw
                go_simp
                try with_reducible rfl
              show wpAnyH _ _ _ _ _ _ _ (Act.put _ (some 94) _) _
              try simp only [Act.put, List.setIfInBounds_toArray, List.set_cons_zero, List.set_cons_succ]
              refine wpAnyH_take (i := 15) (v := ?_) rfl (by kernel_rfl) (by kernel_rfl) (by kernel_rfl) (fun _ _ _ h => h) (Or.inl ⟨by rfl, ?_⟩) hHeld ?_
              rotate_left
              · intro w hSw
                try dsimp only at hSw
                go_simp
                try with_reducible rfl
              show wpAnyH _ _ _ _ _ _ _ (Act.put _ (some 95) _) _
              try simp only [Act.put, List.setIfInBounds_toArray, List.set_cons_zero, List.set_cons_succ]
              refine wpAnyH_take (i := 16) (v := ?_) rfl (by kernel_rfl) (by kernel_rfl) (by kernel_rfl) (fun _ _ _ h => h) (Or.inl ⟨by rfl, ?_⟩) hHeld ?_
              rotate_left
              · intro w hSw
                try dsimp only at hSw
                go_simp
                try with_reducible rfl
              show wpAnyH _ _ _ _ _ _ _ (Act.put _ (some 96) _) _
              try simp only [Act.put, List.setIfInBounds_toArray, List.set_cons_zero, List.set_cons_succ]
              refine wpAnyH_done (by kernel_rfl) ?_ _
              clear hHeld
              have KN := hide ((unhide KW).trans (Keep.refl _).drew)
              go_wp2_with fail
              go_roundw
              case rel => exact ⟨j + 1, hlj, by go_num, KN⟩
              case measure => simp [intOf]; omega
            · have lj : ¬ (j : Int) < (n : Int) := by omega
              obtain rfl : j = n := by omega
              have KN := KW
              go_wp2_with fail
              go_roundw
              case rel => exact ⟨k + 1, hlk, by go_num, KN⟩
              case measure => simp [intOf]; omega
        · have lk : ¬ (k : Int) < (ls : Int) := by omega
          obtain rfl : k = ls := by omega
          have KE := hide (unhide EK _ (unhide KW))
          go_wp2_with fail
          try go_ret
          exact ⟨rfl, unhide KE⟩
end Gp
end Go.Proofs.Ytakandlehneciaa
