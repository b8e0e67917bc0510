/- Rows of phases held against one another: the document's. -/
import Derived.Test.YtcdnbdajnagfiaaGreatDoorMNm
import Derived.Test.YtcdnbdajnagfiaaGreatDoorLKind
namespace Go.Proofs.YtcdnbdajnagfiaaGreatDoor
open Go.RowKit
attribute [local go_sem ↓] Go.wp_at_zero Go.wp_at_succ
set_option linter.unusedVariables false
set_option linter.unusedSimpArgs false
set_option maxRecDepth 10000
set_option maxHeartbeats 8000000 in
theorem phases_false (a b : Option Addr) (n m ca cb : Nat) (X Y : Nat → ByteArray) (UA VA : Nat → Option Addr) (UN UC VN VC : Nat → Nat) (PP QQ : Nat → Int) (B E : Nat → Bool) (r : Bool) (w : World) (hn : n ≤ 100000) (hm : m ≤ 100000)
    (HA : Hid (∀ k, k < n → ∃ ad, a = some ad ∧ w.cell? (ad.add (k * 3)) = some (.string (X k)) ∧ w.cell? ⟨(ad.add (k * 3)).block, (ad.add (k * 3)).off + 1, none⟩ = some (.slice (UA k) (UN k) (UC k)) ∧ w.cell? ⟨(ad.add (k * 3)).block, (ad.add (k * 3)).off + 2, none⟩ = some (.int .i64 (PP k))))
    (HB : Hid (∀ k, k < m → ∃ ad, b = some ad ∧ w.cell? (ad.add (k * 3)) = some (.string (Y k)) ∧ w.cell? ⟨(ad.add (k * 3)).block, (ad.add (k * 3)).off + 1, none⟩ = some (.slice (VA k) (VN k) (VC k)) ∧ w.cell? ⟨(ad.add (k * 3)).block, (ad.add (k * 3)).off + 2, none⟩ = some (.int .i64 (QQ k))))
    (HN : Hid (∀ k, k < n → k < m → ∀ w', Keep w w' → Calls Tryz.prog 77 #[.slice (UA k) (UN k) (UC k), .slice (VA k) (VN k) (VC k)] w' fun e w'' => e = .returned (.bool (B k)) ∧ Keep w' w''))
    (HE : Hid (∀ k, ((X k).toList == (Y k).toList && (B k && true)) = E k))
    (H0 : Hid (n ≠ m → r = false)) (H1 : Hid (n = m → ∀ k, k < n → E k = false → r = false)) (H2 : Hid (n = m → (∀ k, k < n → E k = true) → r = true)) :
    Calls Tryz.prog 38 #[.slice a n ca, .slice b m cb, .bool false] w fun e w' => e = .returned (.bool r) ∧ Keep w w' := by
  by_cases hnm : n = m
  · subst hnm
    replace H1 := hide ((uq H1) rfl)
    replace H2 := hide ((uq H2) rfl)
    go_enter Tryz.func38, Tryz.ntmps38
    go_wp2_with fail
    go_loopw [7] (fun v7 wr => ∃ k : Nat, k ≤ n ∧ v7 = .int .i64 (k : Int) ∧ Hid (Keep w wr) ∧ Hid (∀ j, j < k → E j = true)) (fun v7 _ => n - (intOf v7).toNat)
    case atStart => exact ⟨0, Nat.zero_le _, rfl, hide (Keep.refl _), hide fun j hj => by omega⟩
    case round =>
      obtain ⟨k, hk, rfl, HK, HI⟩ := hrel
      by_cases hlt : k < n
      · have li : (k : Int) < (n : Int) := by omega
        have lz : (0 : Int) ≤ (k : Int) := by omega
        obtain ⟨ad, rfl, p0, p1, p2⟩ := (uq HA) k hlt
        obtain ⟨bd, rfl, q0, q1, q2⟩ := (uq HB) k hlt
        have he := (uq HE) k
        have HNk := hide ((uq HN) k hlt hlt)
        have HF := hide ((uq H1) k hlt)
        generalize hE : E k = ek at he HF
        have HEK := hide hE
        clear hE
        generalize X k = x0 at p0 he
        generalize Y k = y0 at q0 he
        generalize PP k = p at p2 he
        generalize QQ k = q at q2 he
        generalize UA k = ua at p1 HNk
        generalize UN k = un at p1 HNk
        generalize UC k = uc at p1 HNk
        generalize VA k = va at q1 HNk
        generalize VN k = vn at q1 HNk
        generalize VC k = vc at q1 HNk
        generalize B k = bk at he HNk
        have HC : Hid (∀ w', Keep w w' → w'.cell? (ad.add (k * 3)) = some (.string x0) ∧ w'.cell? ⟨(ad.add (k * 3)).block, (ad.add (k * 3)).off + 1, none⟩ = some (.slice ua un uc) ∧ w'.cell? ⟨(ad.add (k * 3)).block, (ad.add (k * 3)).off + 2, none⟩ = some (.int .i64 p) ∧ w'.cell? (bd.add (k * 3)) = some (.string y0) ∧ w'.cell? ⟨(bd.add (k * 3)).block, (bd.add (k * 3)).off + 1, none⟩ = some (.slice va vn vc) ∧ w'.cell? ⟨(bd.add (k * 3)).block, (bd.add (k * 3)).off + 2, none⟩ = some (.int .i64 q)) := fun w' hk => ⟨Keep.cell' hk p0, Keep.cell' hk p1, Keep.cell' hk p2, Keep.cell' hk q0, Keep.cell' hk q1, Keep.cell' hk q2⟩
        clear p0 p1 p2 q0 q1 q2
        have HEQ := hide he
        clear he
        go_upto_region 6 with fail
        by_cases he0 : x0.toList = y0.toList
        · have he1 : (x0.toList == y0.toList) = true := by simpa using he0
          have he2 : (x0.toList != y0.toList) = false := by simpa using he0
          cases bk with
          | false =>
            have hek : ek = false := by rw [← uq HEQ]; simp
            have hr := (uq HF) hek
            subst hr
            refine wp_region_held_drew (S := (fun w' => w'.cell? (ad.add (k * 3)) = some (.string x0) ∧ w'.cell? ⟨(ad.add (k * 3)).block, (ad.add (k * 3)).off + 1, none⟩ = some (.slice ua un uc) ∧ w'.cell? ⟨(ad.add (k * 3)).block, (ad.add (k * 3)).off + 2, none⟩ = some (.int .i64 p) ∧ w'.cell? (bd.add (k * 3)) = some (.string y0) ∧ w'.cell? ⟨(bd.add (k * 3)).block, (bd.add (k * 3)).off + 1, none⟩ = some (.slice va vn vc) ∧ w'.cell? ⟨(bd.add (k * 3)).block, (bd.add (k * 3)).off + 2, none⟩ = some (.int .i64 q))) (by kernel_rfl) (by exact uq HC _ ((uq HK).trans ((Keep.refl _).drew))) (fun hHeld => ?_)
            refine tkk 0 19 hHeld ?_; try simp only [Act.put, Ya, Yb, Yc]
            refine tkk 1 20 hHeld ?_; try simp only [Act.put, Ya, Yb, Yc]
            refine tkk 2 21 hHeld ?_; try simp only [Act.put, Ya, Yb, Yc]
            refine tkk 3 22 hHeld ?_; try simp only [Act.put, Ya, Yb, Yc]
            refine tkk 4 23 hHeld ?_; try simp only [Act.put, Ya, Yb, Yc]
            refine tkk 5 24 hHeld ?_; try simp only [Act.put, Ya, Yb, Yc]
            refine tkk 6 25 hHeld ?_; try simp only [Act.put, Ya, Yb, Yc]
            refine tkk 7 26 hHeld ?_; try simp only [Act.put, Ya, Yb, Yc]
            refine tkk 8 27 hHeld ?_; try simp only [Act.put, Ya, Yb, Yc]
            refine tkk 9 28 hHeld ?_; try simp only [Act.put, Ya, Yb, Yc]
            refine tkk 10 29 hHeld ?_; try simp only [Act.put, Ya, Yb, Yc]
            refine tkk 11 30 hHeld ?_; try simp only [Act.put, Ya, Yb, Yc]
            refine tkk 12 31 hHeld ?_; try simp only [Act.put, Ya, Yb, Yc]
            refine tkk 13 32 hHeld ?_; try simp only [Act.put, Ya, Yb, Yc]
            refine tkk 14 33 hHeld ?_; try simp only [Act.put, Ya, Yb, Yc]
            refine tkk 15 34 hHeld ?_; try simp only [Act.put, Ya, Yb, Yc]
            refine tkk 16 35 hHeld ?_; try simp only [Act.put, Ya, Yb, Yc]
            refine tkk 17 36 hHeld ?_; try simp only [Act.put, Ya, Yb, Yc]
            refine tkk 18 37 hHeld ?_; try simp only [Act.put, Ya, Yb, Yc]
            refine tkk 19 38 hHeld ?_; try simp only [Act.put, Ya, Yb, Yc]
            refine tkk 20 39 hHeld ?_; try simp only [Act.put, Ya, Yb, Yc]
            refine tkk 21 40 hHeld ?_; try simp only [Act.put, Ya, Yb, Yc]
            refine rdyy 22 (fun K hK => ?_)
            go_simp
            clear hHeld
            (refine ((uq HNk) _ ((uq HK).trans ((Keep.refl _).drew))).mono ?_; rintro e w2 ⟨rfl, hk2⟩)
            try go_wp2_with fail
            refine hK.out _ _ ?_ (fun hHeld => ?_)
            · exact uq HC _ ((uq HK).trans (((Keep.refl _).drew).trans hk2))
            clear hK K
            try simp only [Act.put, Ya, Yb, Yc]
            refine tkk 23 42 hHeld ?_; try simp only [Act.put, Ya, Yb, Yc]
            refine tkk 24 43 hHeld ?_; try simp only [Act.put, Ya, Yb, Yc]
            refine tkk 25 44 hHeld ?_; try simp only [Act.put, Ya, Yb, Yc]
            refine wpAnyH_take (i := 26) (v := undef) rfl (by kernel_rfl) (by kernel_rfl) (by kernel_rfl) (fun _ _ _ h => h) (Or.inr ⟨by rfl, rfl⟩) hHeld ?_
            show wpAnyH _ _ _ _ _ _ _ (Act.put _ (some 45) _) _
            try simp only [Act.put, Ya, Yb, Yc]
            refine wpAnyH_take (i := 27) (v := undef) rfl (by kernel_rfl) (by kernel_rfl) (by kernel_rfl) (fun _ _ _ h => h) (Or.inr ⟨by rfl, rfl⟩) hHeld ?_
            show wpAnyH _ _ _ _ _ _ _ (Act.put _ (some 46) _) _
            try simp only [Act.put, Ya, Yb, Yc]
            refine wpAnyH_take (i := 28) (v := undef) rfl (by kernel_rfl) (by kernel_rfl) (by kernel_rfl) (fun _ _ _ h => h) (Or.inr ⟨by rfl, rfl⟩) hHeld ?_
            show wpAnyH _ _ _ _ _ _ _ (Act.put _ (some 47) _) _
            try simp only [Act.put, Ya, Yb, Yc]
            refine wpAnyH_take (i := 29) (v := undef) rfl (by kernel_rfl) (by kernel_rfl) (by kernel_rfl) (fun _ _ _ h => h) (Or.inr ⟨by rfl, rfl⟩) hHeld ?_
            show wpAnyH _ _ _ _ _ _ _ (Act.put _ (some 48) _) _
            try simp only [Act.put, Ya, Yb, Yc]
            refine wpAnyH_take (i := 30) (v := undef) rfl (by kernel_rfl) (by kernel_rfl) (by kernel_rfl) (fun _ _ _ h => h) (Or.inr ⟨by rfl, rfl⟩) hHeld ?_
            show wpAnyH _ _ _ _ _ _ _ (Act.put _ (some 49) _) _
            try simp only [Act.put, Ya, Yb, Yc]
            refine wpAnyH_take (i := 31) (v := undef) rfl (by kernel_rfl) (by kernel_rfl) (by kernel_rfl) (fun _ _ _ h => h) (Or.inr ⟨by rfl, rfl⟩) hHeld ?_
            show wpAnyH _ _ _ _ _ _ _ (Act.put _ (some 50) _) _
            try simp only [Act.put, Ya, Yb, Yc]
            refine wpAnyH_take (i := 32) (v := undef) rfl (by kernel_rfl) (by kernel_rfl) (by kernel_rfl) (fun _ _ _ h => h) (Or.inr ⟨by rfl, rfl⟩) hHeld ?_
            show wpAnyH _ _ _ _ _ _ _ (Act.put _ (some 51) _) _
            try simp only [Act.put, Ya, Yb, Yc]
            refine wpAnyH_take (i := 33) (v := undef) rfl (by kernel_rfl) (by kernel_rfl) (by kernel_rfl) (fun _ _ _ h => h) (Or.inr ⟨by rfl, rfl⟩) hHeld ?_
            show wpAnyH _ _ _ _ _ _ _ (Act.put _ (some 52) _) _
            try simp only [Act.put, Ya, Yb, Yc]
            refine wpAnyH_take (i := 34) (v := undef) rfl (by kernel_rfl) (by kernel_rfl) (by kernel_rfl) (fun _ _ _ h => h) (Or.inr ⟨by rfl, rfl⟩) hHeld ?_
            show wpAnyH _ _ _ _ _ _ _ (Act.put _ (some 53) _) _
            try simp only [Act.put, Ya, Yb, Yc]
            refine wpAnyH_take (i := 35) (v := undef) rfl (by kernel_rfl) (by kernel_rfl) (by kernel_rfl) (fun _ _ _ h => h) (Or.inr ⟨by rfl, rfl⟩) hHeld ?_
            show wpAnyH _ _ _ _ _ _ _ (Act.put _ (some 54) _) _
            try simp only [Act.put, Ya, Yb, Yc]
            refine wpAnyH_take (i := 36) (v := undef) rfl (by kernel_rfl) (by kernel_rfl) (by kernel_rfl) (fun _ _ _ h => h) (Or.inr ⟨by rfl, rfl⟩) hHeld ?_
            show wpAnyH _ _ _ _ _ _ _ (Act.put _ (some 55) _) _
            try simp only [Act.put, Ya, Yb, Yc]
            refine wpAnyH_take (i := 37) (v := undef) rfl (by kernel_rfl) (by kernel_rfl) (by kernel_rfl) (fun _ _ _ h => h) (Or.inr ⟨by rfl, rfl⟩) hHeld ?_
            show wpAnyH _ _ _ _ _ _ _ (Act.put _ (some 56) _) _
            try simp only [Act.put, Ya, Yb, Yc]
            refine wpAnyH_take (i := 38) (v := undef) rfl (by kernel_rfl) (by kernel_rfl) (by kernel_rfl) (fun _ _ _ h => h) (Or.inr ⟨by rfl, rfl⟩) hHeld ?_
            show wpAnyH _ _ _ _ _ _ _ (Act.put _ (some 57) _) _
            try simp only [Act.put, Ya, Yb, Yc]
            refine wpAnyH_take (i := 39) (v := undef) rfl (by kernel_rfl) (by kernel_rfl) (by kernel_rfl) (fun _ _ _ h => h) (Or.inr ⟨by rfl, rfl⟩) hHeld ?_
            show wpAnyH _ _ _ _ _ _ _ (Act.put _ (some 58) _) _
            try simp only [Act.put, Ya, Yb, Yc]
            refine tkk 40 59 hHeld ?_; try simp only [Act.put, Ya, Yb, Yc]
            refine wpAnyH_done (by kernel_rfl) ?_ _
            clear hHeld
            go_wp2_with fail
            go_ret
            exact ⟨rfl, ((uq HK).drew).trans hk2⟩
          | true =>
            have hek : ek = true := by rw [← uq HEQ]; simp [he0]
            subst hek
            refine wp_region_held_drew (S := (fun w' => w'.cell? (ad.add (k * 3)) = some (.string x0) ∧ w'.cell? ⟨(ad.add (k * 3)).block, (ad.add (k * 3)).off + 1, none⟩ = some (.slice ua un uc) ∧ w'.cell? ⟨(ad.add (k * 3)).block, (ad.add (k * 3)).off + 2, none⟩ = some (.int .i64 p) ∧ w'.cell? (bd.add (k * 3)) = some (.string y0) ∧ w'.cell? ⟨(bd.add (k * 3)).block, (bd.add (k * 3)).off + 1, none⟩ = some (.slice va vn vc) ∧ w'.cell? ⟨(bd.add (k * 3)).block, (bd.add (k * 3)).off + 2, none⟩ = some (.int .i64 q))) (by kernel_rfl) (by exact uq HC _ ((uq HK).trans ((Keep.refl _).drew))) (fun hHeld => ?_)
            refine tkk 0 19 hHeld ?_; try simp only [Act.put, Ya, Yb, Yc]
            refine tkk 1 20 hHeld ?_; try simp only [Act.put, Ya, Yb, Yc]
            refine tkk 2 21 hHeld ?_; try simp only [Act.put, Ya, Yb, Yc]
            refine tkk 3 22 hHeld ?_; try simp only [Act.put, Ya, Yb, Yc]
            refine tkk 4 23 hHeld ?_; try simp only [Act.put, Ya, Yb, Yc]
            refine tkk 5 24 hHeld ?_; try simp only [Act.put, Ya, Yb, Yc]
            refine tkk 6 25 hHeld ?_; try simp only [Act.put, Ya, Yb, Yc]
            refine tkk 7 26 hHeld ?_; try simp only [Act.put, Ya, Yb, Yc]
            refine tkk 8 27 hHeld ?_; try simp only [Act.put, Ya, Yb, Yc]
            refine tkk 9 28 hHeld ?_; try simp only [Act.put, Ya, Yb, Yc]
            refine tkk 10 29 hHeld ?_; try simp only [Act.put, Ya, Yb, Yc]
            refine tkk 11 30 hHeld ?_; try simp only [Act.put, Ya, Yb, Yc]
            refine tkk 12 31 hHeld ?_; try simp only [Act.put, Ya, Yb, Yc]
            refine tkk 13 32 hHeld ?_; try simp only [Act.put, Ya, Yb, Yc]
            refine tkk 14 33 hHeld ?_; try simp only [Act.put, Ya, Yb, Yc]
            refine tkk 15 34 hHeld ?_; try simp only [Act.put, Ya, Yb, Yc]
            refine tkk 16 35 hHeld ?_; try simp only [Act.put, Ya, Yb, Yc]
            refine tkk 17 36 hHeld ?_; try simp only [Act.put, Ya, Yb, Yc]
            refine tkk 18 37 hHeld ?_; try simp only [Act.put, Ya, Yb, Yc]
            refine tkk 19 38 hHeld ?_; try simp only [Act.put, Ya, Yb, Yc]
            refine tkk 20 39 hHeld ?_; try simp only [Act.put, Ya, Yb, Yc]
            refine tkk 21 40 hHeld ?_; try simp only [Act.put, Ya, Yb, Yc]
            refine rdyy 22 (fun K hK => ?_)
            go_simp
            clear hHeld
            (refine ((uq HNk) _ ((uq HK).trans ((Keep.refl _).drew))).mono ?_; rintro e w2 ⟨rfl, hk2⟩)
            try go_wp2_with fail
            refine hK.out _ _ ?_ (fun hHeld => ?_)
            · exact uq HC _ ((uq HK).trans (((Keep.refl _).drew).trans hk2))
            clear hK K
            try simp only [Act.put, Ya, Yb, Yc]
            refine tkk 23 42 hHeld ?_; try simp only [Act.put, Ya, Yb, Yc]
            refine tkk 24 43 hHeld ?_; try simp only [Act.put, Ya, Yb, Yc]
            refine tkk 25 44 hHeld ?_; try simp only [Act.put, Ya, Yb, Yc]
            refine tkk 26 45 hHeld ?_; try simp only [Act.put, Ya, Yb, Yc]
            refine tkk 27 46 hHeld ?_; try simp only [Act.put, Ya, Yb, Yc]
            refine wpAnyH_take (i := 28) (v := undef) rfl (by kernel_rfl) (by kernel_rfl) (by kernel_rfl) (fun _ _ _ h => h) (Or.inr ⟨by rfl, rfl⟩) hHeld ?_
            show wpAnyH _ _ _ _ _ _ _ (Act.put _ (some 47) _) _
            try simp only [Act.put, Ya, Yb, Yc]
            refine wpAnyH_take (i := 29) (v := undef) rfl (by kernel_rfl) (by kernel_rfl) (by kernel_rfl) (fun _ _ _ h => h) (Or.inr ⟨by rfl, rfl⟩) hHeld ?_
            show wpAnyH _ _ _ _ _ _ _ (Act.put _ (some 48) _) _
            try simp only [Act.put, Ya, Yb, Yc]
            refine wpAnyH_take (i := 30) (v := undef) rfl (by kernel_rfl) (by kernel_rfl) (by kernel_rfl) (fun _ _ _ h => h) (Or.inr ⟨by rfl, rfl⟩) hHeld ?_
            show wpAnyH _ _ _ _ _ _ _ (Act.put _ (some 49) _) _
            try simp only [Act.put, Ya, Yb, Yc]
            refine wpAnyH_take (i := 31) (v := undef) rfl (by kernel_rfl) (by kernel_rfl) (by kernel_rfl) (fun _ _ _ h => h) (Or.inr ⟨by rfl, rfl⟩) hHeld ?_
            show wpAnyH _ _ _ _ _ _ _ (Act.put _ (some 50) _) _
            try simp only [Act.put, Ya, Yb, Yc]
            refine wpAnyH_take (i := 32) (v := undef) rfl (by kernel_rfl) (by kernel_rfl) (by kernel_rfl) (fun _ _ _ h => h) (Or.inr ⟨by rfl, rfl⟩) hHeld ?_
            show wpAnyH _ _ _ _ _ _ _ (Act.put _ (some 51) _) _
            try simp only [Act.put, Ya, Yb, Yc]
            refine wpAnyH_take (i := 33) (v := undef) rfl (by kernel_rfl) (by kernel_rfl) (by kernel_rfl) (fun _ _ _ h => h) (Or.inr ⟨by rfl, rfl⟩) hHeld ?_
            show wpAnyH _ _ _ _ _ _ _ (Act.put _ (some 52) _) _
            try simp only [Act.put, Ya, Yb, Yc]
            refine wpAnyH_take (i := 34) (v := undef) rfl (by kernel_rfl) (by kernel_rfl) (by kernel_rfl) (fun _ _ _ h => h) (Or.inr ⟨by rfl, rfl⟩) hHeld ?_
            show wpAnyH _ _ _ _ _ _ _ (Act.put _ (some 53) _) _
            try simp only [Act.put, Ya, Yb, Yc]
            refine wpAnyH_take (i := 35) (v := undef) rfl (by kernel_rfl) (by kernel_rfl) (by kernel_rfl) (fun _ _ _ h => h) (Or.inr ⟨by rfl, rfl⟩) hHeld ?_
            show wpAnyH _ _ _ _ _ _ _ (Act.put _ (some 54) _) _
            try simp only [Act.put, Ya, Yb, Yc]
            refine wpAnyH_take (i := 36) (v := undef) rfl (by kernel_rfl) (by kernel_rfl) (by kernel_rfl) (fun _ _ _ h => h) (Or.inr ⟨by rfl, rfl⟩) hHeld ?_
            show wpAnyH _ _ _ _ _ _ _ (Act.put _ (some 55) _) _
            try simp only [Act.put, Ya, Yb, Yc]
            refine wpAnyH_take (i := 37) (v := undef) rfl (by kernel_rfl) (by kernel_rfl) (by kernel_rfl) (fun _ _ _ h => h) (Or.inr ⟨by rfl, rfl⟩) hHeld ?_
            show wpAnyH _ _ _ _ _ _ _ (Act.put _ (some 56) _) _
            try simp only [Act.put, Ya, Yb, Yc]
            refine wpAnyH_take (i := 38) (v := undef) rfl (by kernel_rfl) (by kernel_rfl) (by kernel_rfl) (fun _ _ _ h => h) (Or.inr ⟨by rfl, rfl⟩) hHeld ?_
            show wpAnyH _ _ _ _ _ _ _ (Act.put _ (some 57) _) _
            try simp only [Act.put, Ya, Yb, Yc]
            refine tkk 39 58 hHeld ?_; try simp only [Act.put, Ya, Yb, Yc]
            refine tkk 40 59 hHeld ?_; try simp only [Act.put, Ya, Yb, Yc]
            refine wpAnyH_done (by kernel_rfl) ?_ _
            clear hHeld
            go_wp2_with fail
            go_roundw
            case rel => exact ⟨k + 1, hlt, by go_num, hide (((uq HK).drew).trans hk2), hide fun j hj => (Nat.lt_succ_iff_lt_or_eq.1 hj).elim ((uq HI) j) (fun e => e ▸ uq HEK)⟩
            case measure => simp [intOf]; omega
        · have he1 : (x0.toList == y0.toList) = false := by simpa using he0
          have he2 : (x0.toList != y0.toList) = true := by simpa using he0
          have hek : ek = false := by rw [← uq HEQ]; simp [he0]
          have hr := (uq HF) hek
          subst hr
          refine wp_region_held_drew (S := (fun w' => w'.cell? (ad.add (k * 3)) = some (.string x0) ∧ w'.cell? ⟨(ad.add (k * 3)).block, (ad.add (k * 3)).off + 1, none⟩ = some (.slice ua un uc) ∧ w'.cell? ⟨(ad.add (k * 3)).block, (ad.add (k * 3)).off + 2, none⟩ = some (.int .i64 p) ∧ w'.cell? (bd.add (k * 3)) = some (.string y0) ∧ w'.cell? ⟨(bd.add (k * 3)).block, (bd.add (k * 3)).off + 1, none⟩ = some (.slice va vn vc) ∧ w'.cell? ⟨(bd.add (k * 3)).block, (bd.add (k * 3)).off + 2, none⟩ = some (.int .i64 q))) (by kernel_rfl) (by exact uq HC _ ((uq HK).trans ((Keep.refl _).drew))) (fun hHeld => ?_)
          refine tkk 0 19 hHeld ?_; try simp only [Act.put, Ya, Yb, Yc]
          refine tkk 1 20 hHeld ?_; try simp only [Act.put, Ya, Yb, Yc]
          refine tkk 2 21 hHeld ?_; try simp only [Act.put, Ya, Yb, Yc]
          refine tkk 3 22 hHeld ?_; try simp only [Act.put, Ya, Yb, Yc]
          refine tkk 4 23 hHeld ?_; try simp only [Act.put, Ya, Yb, Yc]
          refine tkk 5 24 hHeld ?_; try simp only [Act.put, Ya, Yb, Yc]
          refine tkk 6 25 hHeld ?_; try simp only [Act.put, Ya, Yb, Yc]
          refine tkk 7 26 hHeld ?_; try simp only [Act.put, Ya, Yb, Yc]
          refine tkk 8 27 hHeld ?_; try simp only [Act.put, Ya, Yb, Yc]
          refine tkk 9 28 hHeld ?_; try simp only [Act.put, Ya, Yb, Yc]
          refine tkk 10 29 hHeld ?_; try simp only [Act.put, Ya, Yb, Yc]
          refine tkk 11 30 hHeld ?_; try simp only [Act.put, Ya, Yb, Yc]
          refine wpAnyH_take (i := 12) (v := undef) rfl (by kernel_rfl) (by kernel_rfl) (by kernel_rfl) (fun _ _ _ h => h) (Or.inr ⟨by rfl, rfl⟩) hHeld ?_
          show wpAnyH _ _ _ _ _ _ _ (Act.put _ (some 31) _) _
          try simp only [Act.put, Ya, Yb, Yc]
          refine wpAnyH_take (i := 13) (v := undef) rfl (by kernel_rfl) (by kernel_rfl) (by kernel_rfl) (fun _ _ _ h => h) (Or.inr ⟨by rfl, rfl⟩) hHeld ?_
          show wpAnyH _ _ _ _ _ _ _ (Act.put _ (some 32) _) _
          try simp only [Act.put, Ya, Yb, Yc]
          refine wpAnyH_take (i := 14) (v := undef) rfl (by kernel_rfl) (by kernel_rfl) (by kernel_rfl) (fun _ _ _ h => h) (Or.inr ⟨by rfl, rfl⟩) hHeld ?_
          show wpAnyH _ _ _ _ _ _ _ (Act.put _ (some 33) _) _
          try simp only [Act.put, Ya, Yb, Yc]
          refine wpAnyH_take (i := 15) (v := undef) rfl (by kernel_rfl) (by kernel_rfl) (by kernel_rfl) (fun _ _ _ h => h) (Or.inr ⟨by rfl, rfl⟩) hHeld ?_
          show wpAnyH _ _ _ _ _ _ _ (Act.put _ (some 34) _) _
          try simp only [Act.put, Ya, Yb, Yc]
          refine wpAnyH_take (i := 16) (v := undef) rfl (by kernel_rfl) (by kernel_rfl) (by kernel_rfl) (fun _ _ _ h => h) (Or.inr ⟨by rfl, rfl⟩) hHeld ?_
          show wpAnyH _ _ _ _ _ _ _ (Act.put _ (some 35) _) _
          try simp only [Act.put, Ya, Yb, Yc]
          refine wpAnyH_take (i := 17) (v := undef) rfl (by kernel_rfl) (by kernel_rfl) (by kernel_rfl) (fun _ _ _ h => h) (Or.inr ⟨by rfl, rfl⟩) hHeld ?_
          show wpAnyH _ _ _ _ _ _ _ (Act.put _ (some 36) _) _
          try simp only [Act.put, Ya, Yb, Yc]
          refine wpAnyH_take (i := 18) (v := undef) rfl (by kernel_rfl) (by kernel_rfl) (by kernel_rfl) (fun _ _ _ h => h) (Or.inr ⟨by rfl, rfl⟩) hHeld ?_
          show wpAnyH _ _ _ _ _ _ _ (Act.put _ (some 37) _) _
          try simp only [Act.put, Ya, Yb, Yc]
          refine wpAnyH_take (i := 19) (v := undef) rfl (by kernel_rfl) (by kernel_rfl) (by kernel_rfl) (fun _ _ _ h => h) (Or.inr ⟨by rfl, rfl⟩) hHeld ?_
          show wpAnyH _ _ _ _ _ _ _ (Act.put _ (some 38) _) _
          try simp only [Act.put, Ya, Yb, Yc]
          refine wpAnyH_take (i := 20) (v := undef) rfl (by kernel_rfl) (by kernel_rfl) (by kernel_rfl) (fun _ _ _ h => h) (Or.inr ⟨by rfl, rfl⟩) hHeld ?_
          show wpAnyH _ _ _ _ _ _ _ (Act.put _ (some 39) _) _
          try simp only [Act.put, Ya, Yb, Yc]
          refine wpAnyH_take (i := 21) (v := undef) rfl (by kernel_rfl) (by kernel_rfl) (by kernel_rfl) (fun _ _ _ h => h) (Or.inr ⟨by rfl, rfl⟩) hHeld ?_
          show wpAnyH _ _ _ _ _ _ _ (Act.put _ (some 40) _) _
          try simp only [Act.put, Ya, Yb, Yc]
          refine wpAnyH_take (i := 22) (v := undef) rfl (by kernel_rfl) (by kernel_rfl) (by kernel_rfl) (fun _ _ _ h => h) (Or.inr ⟨by rfl, rfl⟩) hHeld ?_
          show wpAnyH _ _ _ _ _ _ _ (Act.put _ (some 41) _) _
          try simp only [Act.put, Ya, Yb, Yc]
          refine wpAnyH_take (i := 23) (v := undef) rfl (by kernel_rfl) (by kernel_rfl) (by kernel_rfl) (fun _ _ _ h => h) (Or.inr ⟨by rfl, rfl⟩) hHeld ?_
          show wpAnyH _ _ _ _ _ _ _ (Act.put _ (some 42) _) _
          try simp only [Act.put, Ya, Yb, Yc]
          refine tkk 24 43 hHeld ?_; try simp only [Act.put, Ya, Yb, Yc]
          refine tkk 25 44 hHeld ?_; try simp only [Act.put, Ya, Yb, Yc]
          refine wpAnyH_take (i := 26) (v := undef) rfl (by kernel_rfl) (by kernel_rfl) (by kernel_rfl) (fun _ _ _ h => h) (Or.inr ⟨by rfl, rfl⟩) hHeld ?_
          show wpAnyH _ _ _ _ _ _ _ (Act.put _ (some 45) _) _
          try simp only [Act.put, Ya, Yb, Yc]
          refine wpAnyH_take (i := 27) (v := undef) rfl (by kernel_rfl) (by kernel_rfl) (by kernel_rfl) (fun _ _ _ h => h) (Or.inr ⟨by rfl, rfl⟩) hHeld ?_
          show wpAnyH _ _ _ _ _ _ _ (Act.put _ (some 46) _) _
          try simp only [Act.put, Ya, Yb, Yc]
          refine wpAnyH_take (i := 28) (v := undef) rfl (by kernel_rfl) (by kernel_rfl) (by kernel_rfl) (fun _ _ _ h => h) (Or.inr ⟨by rfl, rfl⟩) hHeld ?_
          show wpAnyH _ _ _ _ _ _ _ (Act.put _ (some 47) _) _
          try simp only [Act.put, Ya, Yb, Yc]
          refine wpAnyH_take (i := 29) (v := undef) rfl (by kernel_rfl) (by kernel_rfl) (by kernel_rfl) (fun _ _ _ h => h) (Or.inr ⟨by rfl, rfl⟩) hHeld ?_
          show wpAnyH _ _ _ _ _ _ _ (Act.put _ (some 48) _) _
          try simp only [Act.put, Ya, Yb, Yc]
          refine wpAnyH_take (i := 30) (v := undef) rfl (by kernel_rfl) (by kernel_rfl) (by kernel_rfl) (fun _ _ _ h => h) (Or.inr ⟨by rfl, rfl⟩) hHeld ?_
          show wpAnyH _ _ _ _ _ _ _ (Act.put _ (some 49) _) _
          try simp only [Act.put, Ya, Yb, Yc]
          refine wpAnyH_take (i := 31) (v := undef) rfl (by kernel_rfl) (by kernel_rfl) (by kernel_rfl) (fun _ _ _ h => h) (Or.inr ⟨by rfl, rfl⟩) hHeld ?_
          show wpAnyH _ _ _ _ _ _ _ (Act.put _ (some 50) _) _
          try simp only [Act.put, Ya, Yb, Yc]
          refine wpAnyH_take (i := 32) (v := undef) rfl (by kernel_rfl) (by kernel_rfl) (by kernel_rfl) (fun _ _ _ h => h) (Or.inr ⟨by rfl, rfl⟩) hHeld ?_
          show wpAnyH _ _ _ _ _ _ _ (Act.put _ (some 51) _) _
          try simp only [Act.put, Ya, Yb, Yc]
          refine wpAnyH_take (i := 33) (v := undef) rfl (by kernel_rfl) (by kernel_rfl) (by kernel_rfl) (fun _ _ _ h => h) (Or.inr ⟨by rfl, rfl⟩) hHeld ?_
          show wpAnyH _ _ _ _ _ _ _ (Act.put _ (some 52) _) _
          try simp only [Act.put, Ya, Yb, Yc]
          refine wpAnyH_take (i := 34) (v := undef) rfl (by kernel_rfl) (by kernel_rfl) (by kernel_rfl) (fun _ _ _ h => h) (Or.inr ⟨by rfl, rfl⟩) hHeld ?_
          show wpAnyH _ _ _ _ _ _ _ (Act.put _ (some 53) _) _
          try simp only [Act.put, Ya, Yb, Yc]
          refine wpAnyH_take (i := 35) (v := undef) rfl (by kernel_rfl) (by kernel_rfl) (by kernel_rfl) (fun _ _ _ h => h) (Or.inr ⟨by rfl, rfl⟩) hHeld ?_
          show wpAnyH _ _ _ _ _ _ _ (Act.put _ (some 54) _) _
          try simp only [Act.put, Ya, Yb, Yc]
          refine wpAnyH_take (i := 36) (v := undef) rfl (by kernel_rfl) (by kernel_rfl) (by kernel_rfl) (fun _ _ _ h => h) (Or.inr ⟨by rfl, rfl⟩) hHeld ?_
          show wpAnyH _ _ _ _ _ _ _ (Act.put _ (some 55) _) _
          try simp only [Act.put, Ya, Yb, Yc]
          refine wpAnyH_take (i := 37) (v := undef) rfl (by kernel_rfl) (by kernel_rfl) (by kernel_rfl) (fun _ _ _ h => h) (Or.inr ⟨by rfl, rfl⟩) hHeld ?_
          show wpAnyH _ _ _ _ _ _ _ (Act.put _ (some 56) _) _
          try simp only [Act.put, Ya, Yb, Yc]
          refine wpAnyH_take (i := 38) (v := undef) rfl (by kernel_rfl) (by kernel_rfl) (by kernel_rfl) (fun _ _ _ h => h) (Or.inr ⟨by rfl, rfl⟩) hHeld ?_
          show wpAnyH _ _ _ _ _ _ _ (Act.put _ (some 57) _) _
          try simp only [Act.put, Ya, Yb, Yc]
          refine wpAnyH_take (i := 39) (v := undef) rfl (by kernel_rfl) (by kernel_rfl) (by kernel_rfl) (fun _ _ _ h => h) (Or.inr ⟨by rfl, rfl⟩) hHeld ?_
          show wpAnyH _ _ _ _ _ _ _ (Act.put _ (some 58) _) _
          try simp only [Act.put, Ya, Yb, Yc]
          refine tkk 40 59 hHeld ?_; try simp only [Act.put, Ya, Yb, Yc]
          refine wpAnyH_done (by kernel_rfl) ?_ _
          clear hHeld
          go_wp2_with fail
          go_ret
          exact ⟨rfl, (uq HK).drew⟩
      · have : k = n := by omega
        subst this
        have hr := (uq H2) (uq HI)
        subst hr
        go_wp2_with fail
        go_ret
        exact ⟨rfl, uq HK⟩
  · have hr := (uq H0) hnm
    subst hr
    have hne : ((n : Int) != (m : Int)) = true := by simp; omega
    have hne2 : ((n : Int) == (m : Int)) = false := by simp; omega
    have hne3 : ¬ (n : Int) = (m : Int) := by omega
    have hne4 : ¬ n = m := hnm
    go_enter Tryz.func38, Tryz.ntmps38
    go_wp2_with fail
    go_ret
    exact ⟨rfl, Keep.refl _⟩
end Go.Proofs.YtcdnbdajnagfiaaGreatDoor
