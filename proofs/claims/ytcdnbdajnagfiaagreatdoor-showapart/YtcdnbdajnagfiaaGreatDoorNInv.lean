/- The chapter's example is shown as it stands. -/
import Derived.Test.YtcdnbdajnagfiaaGreatDoorSRed
import Derived.Test.YtcdnbdajnagfiaaGreatDoorLKind
import Derived.Test.YtcdnbdajnagfiaaGreatDoorQParse
import Derived.Test.YtcdnbdajnagfiaaGreatDoorLRToks
import Derived.Deep.DrawnRows
import Derived.Deep.RegionHeld
import Derived.Test.YtcdnbdajnagfiaaGreatDoorNVal
import Derived.LoopTactic
import Derived.Deep.DeepCutAuto
namespace Go.Proofs.YtcdnbdajnagfiaaGreatDoor
open Go.RowKit
attribute [local go_sem ↓] Go.wp_at_zero Go.wp_at_succ
set_option linter.unusedVariables false
set_option linter.unusedSimpArgs false
set_option maxRecDepth 100000
namespace S
def smp : List UInt8 := [99, 121, 99, 108, 101, 32, 54, 48, 48, 32, 116, 111, 32, 57, 48, 48, 32, 98, 121, 32, 49, 48, 59, 10, 112, 101, 97, 107, 32, 49, 47, 49, 59, 10, 110, 111, 100, 101, 32, 97, 32, 123, 10, 32, 32, 104, 101, 97, 100, 32] ++ ([110, 32, 118, 111, 108, 117, 109, 101, 32, 52, 48, 48, 32, 102, 108, 111, 119, 32, 49, 56, 48, 48, 32, 117, 115, 101, 32, 49, 47, 49, 32, 115, 112, 101, 101, 100, 32, 49, 53, 48, 48, 32, 103, 114, 97, 100, 101, 32, 45, 50] ++ ([48, 32, 119, 105, 100, 116, 104, 32, 49, 56, 48, 48, 32, 108, 101, 110, 103, 116, 104, 32, 54, 48, 48, 32, 103, 114, 101, 101, 110, 32, 55, 48, 59, 10, 32, 32, 119, 97, 108, 107, 32, 119, 32, 119, 105, 116, 104, 32, 112, 32] ++ ([108, 111, 110, 103, 32, 49, 53, 48, 48, 32, 112, 97, 99, 101, 32, 49, 50, 48, 32, 108, 101, 97, 115, 116, 32, 55, 48, 59, 10, 32, 32, 112, 104, 97, 115, 101, 32, 112, 58, 32, 110, 44, 32, 101, 59, 10, 32, 32, 103, 114] ++ ([111, 117, 112, 32, 123, 10, 32, 32, 32, 32, 114, 105, 110, 103, 32, 102, 114, 101, 101, 32, 112, 44, 32, 113, 59, 10, 32, 32, 125, 10, 32, 32, 102, 111, 101, 32, 110, 32, 101, 59, 10, 125, 10, 97, 114, 116, 101, 114, 121, 32] ++ ([123, 10, 32, 32, 115, 116, 111, 112, 32, 97, 32, 111, 117, 116, 32, 110, 32, 105, 110, 32, 101, 32, 97, 104, 101, 97, 100, 32, 48, 32, 98, 97, 99, 107, 32, 48, 59, 10, 32, 32, 119, 101, 105, 103, 104, 116, 115, 32, 50, 32] ++ ([49, 59, 10, 125, 10]))))))
def smpT : List D := [dI 600, dI 900, dI 10, dI 1, dI 1, .row 46 7 [[dS [97], .row 84 11 [[dS [110], dI 400, dI 1800, dI 1, dI 1, dI 1500, dI (-20), dI 1800, dI 600, dI 70, dI 50]], .row 86 6 [[dS [119], dS [112], dI 1500, dI 120, dI 70, dI 141]], .row 88 3 [[dS [112], .row 9 1 [[dS [110]], [dS [101]]], dI 187]], .row 91 1 [[.row 93 2 [[dB true, .row 9 1 [[dS [112]], [dS [113]]]]]]], .row 95 3 [[dS [110], dS [101], dI 236]], dI 39]], .row 49 6 [[dS [97], dS [110], dS [101], dI 0, dI 0, dI 259]], dI 2, dI 1]
theorem smp_len : smp.length = 305 := by decide
theorem smp_N : N smp = .ok smpT := by kernel_rfl
theorem dg600 : dg (600) = [54, 48, 48] := by simp [dg, Lib.itoa, Lib.decDigits]
theorem dg900 : dg (900) = [57, 48, 48] := by simp [dg, Lib.itoa, Lib.decDigits]
theorem dg10 : dg (10) = [49, 48] := by simp [dg, Lib.itoa, Lib.decDigits]
theorem dg1 : dg (1) = [49] := by simp [dg, Lib.itoa, Lib.decDigits]
theorem dg400 : dg (400) = [52, 48, 48] := by simp [dg, Lib.itoa, Lib.decDigits]
theorem dg1800 : dg (1800) = [49, 56, 48, 48] := by simp [dg, Lib.itoa, Lib.decDigits]
theorem dg1500 : dg (1500) = [49, 53, 48, 48] := by simp [dg, Lib.itoa, Lib.decDigits]
theorem dgm20 : dg (-20) = [45, 50, 48] := by simp [dg, Lib.itoa, Lib.decDigits]
theorem dg70 : dg (70) = [55, 48] := by simp [dg, Lib.itoa, Lib.decDigits]
theorem dg120 : dg (120) = [49, 50, 48] := by simp [dg, Lib.itoa, Lib.decDigits]
theorem dg0 : dg (0) = [48] := by simp [dg, Lib.itoa, Lib.decDigits]
theorem dg2 : dg (2) = [50] := by simp [dg, Lib.itoa, Lib.decDigits]
theorem smp_txt : txt smpT = smp := by
  have e : netW smpT = [[99, 121, 99, 108, 101], [54, 48, 48], [116, 111], [57, 48, 48], [98, 121], [49, 48], [59], [112, 101, 97, 107], [49], [47], [49], [59], [110, 111, 100, 101], [97], [123], [104, 101, 97, 100], [110], [118, 111, 108, 117, 109, 101], [52, 48, 48], [102, 108, 111, 119], [49, 56, 48, 48], [117, 115, 101], [49], [47], [49], [115, 112, 101, 101, 100], [49, 53, 48, 48], [103, 114, 97, 100, 101], [45, 50, 48], [119, 105, 100, 116, 104], [49, 56, 48, 48], [108, 101, 110, 103, 116, 104], [54, 48, 48], [103, 114, 101, 101, 110], [55, 48], [59], [119, 97, 108, 107], [119], [119, 105, 116, 104], [112], [108, 111, 110, 103], [49, 53, 48, 48], [112, 97, 99, 101], [49, 50, 48], [108, 101, 97, 115, 116], [55, 48], [59], [112, 104, 97, 115, 101], [112], [58], [110], [44], [101], [59], [103, 114, 111, 117, 112], [123], [114, 105, 110, 103], [102, 114, 101, 101], [112], [44], [113], [59], [125], [102, 111, 101], [110], [101], [59], [125], [97, 114, 116, 101, 114, 121], [123], [115, 116, 111, 112], [97], [111, 117, 116], [110], [105, 110], [101], [97, 104, 101, 97, 100], [48], [98, 97, 99, 107], [48], [59], [119, 101, 105, 103, 104, 116, 115], [50], [49], [59], [125]] := by
    simp only [netW, nodeW, artW, stopW, foeW, groupW, ringW, rw1, phaseW, walkW, headW, hw, lw, nms, smpT, gt, fL, fI, fB, dI, dB, List.getD_cons_zero, List.getD_cons_succ, List.flatMap_cons, List.flatMap_nil, List.map_cons, List.map_nil, tS_dS, dg600, dg900, dg10, dg1, dg400, dg1800, dg1500, dgm20, dg70, dg120, dg0, dg2]
    rfl
  unfold txt
  rw [e]
  rfl
set_option maxHeartbeats 1000000 in
theorem sample_core (w : World) : Calls Tryz.prog 32 #[] w fun e w' => e = .returned (.string (sv smp)) ∧ w' = w := by
  go_enter Tryz.func32, Tryz.ntmps32
  go_wp2_with fail
  go_ret
  exact ⟨by kernel_rfl, rfl⟩
/-- what Parse leaves of the example -/
def PqS (w : World) (e : Ending) (w' : World) : Prop := Keep w w' ∧ ∃ a0 a1 a2 a3 a4 aN nN cN aS nS cS a5 a6, e = .returned (.tuple #[.agg #[.int .i64 a0, .int .i64 a1, .int .i64 a2, .int .i64 a3, .int .i64 a4, .slice aN nN cN, .slice aS nS cS, .int .i64 a5, .int .i64 a6], .int .i64 0, .int .i64 0]) ∧ Rvs w' smpT [.int .i64 a0, .int .i64 a1, .int .i64 a2, .int .i64 a3, .int .i64 a4, .slice aN nN cN, .slice aS nS cS, .int .i64 a5, .int .i64 a6]
theorem rparse_smp (v : Value) (w : World) (h : By w v smp) : Calls Tryz.prog 31 #[v] w (PqS w) := by
  have key : Calls Tryz.prog 31 #[v] w (Q.Pp (.ok smpT) w) := by
    cases hT : T smp with
    | error x =>
      have eN : N smp = .error (x.1, (x.2 : Int)) := by unfold N; rw [hT]
      rw [smp_N] at eN
      cases eN
    | ok L =>
      have eN : N smp = Q.fstE (pNet L) := by
        unfold N; rw [hT]
        show (match pNet L with | .error x => Except.error x | .ok (c, _) => Except.ok c) = _
        rcases pNet L with x | ⟨c, r⟩ <;> rfl
      rw [← smp_N, eN]
      refine Q.parse_ok v L w (hide (Q.T_wq (by rw [smp_len]; decide) hT)) (hide fun w' hk => ?_)
      have := rtoks_any v smp w' (by rw [smp_len]; decide) (h.keep hk)
      rwa [hT] at this
  refine key.mono ?_
  rintro e w' ⟨hk, u0, u1, u2, u3, u4, a5, n5, c5, a6, n6, c6, u7, u8, rfl, hr⟩
  exact ⟨hk, u0, u1, u2, u3, u4, a5, n5, c5, a6, n6, c6, u7, u8, rfl, Rds.rv _ _ _ hr⟩
/-- a network with a number below 0 -/
def low0 : List D := [dI (-1), dI 0, dI 0, dI 0, dI 0, .row 46 7 [], .row 49 6 [], dI 0, dI 0]
theorem low_sh : ShL netT low0 := by
  simp only [ShL, Sh1, netT, low0]
  exact ⟨_, _, rfl, ⟨_, rfl, by decide, by decide⟩, ⟨_, _, rfl, ⟨_, rfl, by decide, by decide⟩, ⟨_, _, rfl, ⟨_, rfl, by decide, by decide⟩, ⟨_, _, rfl, ⟨_, rfl, by decide, by decide⟩, ⟨_, _, rfl, ⟨_, rfl, by decide, by decide⟩, ⟨_, _, rfl, ⟨_, rfl, by decide, fun x hx => by cases hx⟩, ⟨_, _, rfl, ⟨_, rfl, by decide, fun x hx => by cases hx⟩, ⟨_, _, rfl, ⟨_, rfl, by decide, by decide⟩, ⟨_, _, rfl, ⟨_, rfl, by decide, by decide⟩, rfl⟩⟩⟩⟩⟩⟩⟩⟩⟩
theorem low_B : netB low0 = false := by kernel_rfl
theorem low_rv (w : World) : Rvs w low0 [.int .i64 (-1), .int .i64 0, .int .i64 0, .int .i64 0, .int .i64 0, .slice none 0 0, .slice none 0 0, .int .i64 0, .int .i64 0] := by
  simp only [low0, Rvs, Rv, dI]
  exact ⟨_, _, rfl, rfl, _, _, rfl, rfl, _, _, rfl, rfl, _, _, rfl, rfl, _, _, rfl, rfl, _, _, rfl, ⟨none, 0, rfl, Nat.le_refl _, trivial⟩, _, _, rfl, ⟨none, 0, rfl, Nat.le_refl _, trivial⟩, _, _, rfl, rfl, _, _, rfl, rfl, rfl⟩
set_option maxHeartbeats 8000000 in
theorem awake_core (S : ByteArray) (out : List UInt8) (cs : List D) (w : World) (HSS : Hid (sv out = S))
    (T0 : Hid (∀ w', Calls Tryz.prog 32 #[] w' fun e w'' => e = .returned (.string S) ∧ w'' = w'))
    (T1 : Hid (∀ w' v, By w' v out → Calls Tryz.prog 31 #[v] w' fun e w'' => Keep w' w'' ∧ ∃ a0 a1 a2 a3 a4 aN nN cN aS nS cS a5 a6, e = .returned (.tuple #[.agg #[.int .i64 a0, .int .i64 a1, .int .i64 a2, .int .i64 a3, .int .i64 a4, .slice aN nN cN, .slice aS nS cS, .int .i64 a5, .int .i64 a6], .int .i64 0, .int .i64 0]) ∧ Rvs w'' cs [.int .i64 a0, .int .i64 a1, .int .i64 a2, .int .i64 a3, .int .i64 a4, .slice aN nN cN, .slice aS nS cS, .int .i64 a5, .int .i64 a6]))
    (T2 : Hid (∀ w' us, Keep w w' → Rvs w' cs us → Calls Tryz.prog 8 #[.agg us.toArray] w' (ShP out w')))
    (T3 : Hid (∀ w' us, Rvs w' cs us → Calls Tryz.prog 10 #[.agg us.toArray] w' fun e w'' => e = .returned (.bool true) ∧ Keep w' w''))
    (T4 : Hid (∀ w', Calls Tryz.prog 10 #[.agg #[.int .i64 (-1), .int .i64 0, .int .i64 0, .int .i64 0, .int .i64 0, .slice none 0 0, .slice none 0 0, .int .i64 0, .int .i64 0]] w' fun e w'' => e = .returned (.bool false) ∧ Keep w' w'')) :
    Calls Tryz.prog 12 #[] w fun e w' => e = .returned (.bool true) ∧ Keep w w' := by
  go_enter Tryz.func12, Tryz.ntmps12
  go_wp2_with fail
  (refine ((uq T0) _).mono ?_; rintro e w ⟨rfl, rfl⟩)
  obtain ⟨cp, o, kk, hcv, hby⟩ := str_by w S
  have cv := hcv 9 29 Tryz.underlying9 Tryz.underlying29
  rw [← uq HSS, sv_back, uq HSS] at hby
  have HBY := hide hby
  have HX := hide (keep_ext (Keep.refl w) #[o] kk)
  clear hcv hby
  go_wp2_with fail
  (refine ((uq T1) _ _ (uq HBY)).mono ?_; rintro e w4 ⟨hk, a0, a1, a2, a3, a4, aN, nN, cN, aS, nS, cS, a5, a6, rfl, hr⟩; have HK4 := hide ((uq HX).trans hk); have HR := hide hr; clear hk hr)
  clear cv HBY HX
  go_upto_region 2 with fail
  have n1 := heap_alloc_new w4 (.cells #[.int .i64 a0, .int .i64 a1, .int .i64 a2, .int .i64 a3, .int .i64 a4, .slice aN nN cN, .slice aS nS cS, .int .i64 a5, .int .i64 a6] 27)
  have HK5 := hide ((uq HK4).alloc (.cells #[.int .i64 a0, .int .i64 a1, .int .i64 a2, .int .i64 a3, .int .i64 a4, .slice aN nN cN, .slice aS nS cS, .int .i64 a5, .int .i64 a6] 27))
  have HR5 := hide (Rvs.keep ((Keep.refl w4).alloc (.cells #[.int .i64 a0, .int .i64 a1, .int .i64 a2, .int .i64 a3, .int .i64 a4, .slice aN nN cN, .slice aS nS cS, .int .i64 a5, .int .i64 a6] 27)) _ _ (uq HR))
  generalize w4.alloc (.cells #[.int .i64 a0, .int .i64 a1, .int .i64 a2, .int .i64 a3, .int .i64 a4, .slice aN nN cN, .slice aS nS cS, .int .i64 a5, .int .i64 a6] 27) = w5 at n1 HK5 HR5 ⊢
  generalize w4.heap.size = xb at n1 ⊢
  clear HK4 HR
  have ca0 : w5.cell? ⟨xb, 0, none⟩ = some (.int .i64 a0) := by simp [World.cell?, n1]
  have ca1 : w5.cell? ⟨xb, 1, none⟩ = some (.int .i64 a1) := by simp [World.cell?, n1]
  have ca2 : w5.cell? ⟨xb, 2, none⟩ = some (.int .i64 a2) := by simp [World.cell?, n1]
  have ca3 : w5.cell? ⟨xb, 3, none⟩ = some (.int .i64 a3) := by simp [World.cell?, n1]
  have ca4 : w5.cell? ⟨xb, 4, none⟩ = some (.int .i64 a4) := by simp [World.cell?, n1]
  have ca5 : w5.cell? ⟨xb, 5, none⟩ = some (.slice aN nN cN) := by simp [World.cell?, n1]
  have ca6 : w5.cell? ⟨xb, 6, none⟩ = some (.slice aS nS cS) := by simp [World.cell?, n1]
  have ca7 : w5.cell? ⟨xb, 7, none⟩ = some (.int .i64 a5) := by simp [World.cell?, n1]
  have ca8 : w5.cell? ⟨xb, 8, none⟩ = some (.int .i64 a6) := by simp [World.cell?, n1]
  have N1 := hide n1
  clear n1
  go_wp2_with fail
  (refine ((uq T2) _ _ (uq HK5) (uq HR5)).mono ?_; rintro e w6 ⟨vb, rfl, hb, hk⟩; have HB6 := hide hb; have HK56 := hide hk; have HK6 := hide ((uq HK5).trans hk); clear hb hk)
  clear ca0 ca1 ca2 ca3 ca4 ca5 ca6 ca7 ca8
  have HSX : Hid (∀ w', Keep w6 w' → w'.cell? ⟨xb, 0, none⟩ = some (.int .i64 a0) ∧ w'.cell? ⟨xb, 1, none⟩ = some (.int .i64 a1) ∧ w'.cell? ⟨xb, 2, none⟩ = some (.int .i64 a2) ∧ w'.cell? ⟨xb, 3, none⟩ = some (.int .i64 a3) ∧ w'.cell? ⟨xb, 4, none⟩ = some (.int .i64 a4) ∧ w'.cell? ⟨xb, 5, none⟩ = some (.slice aN nN cN) ∧ w'.cell? ⟨xb, 6, none⟩ = some (.slice aS nS cS) ∧ w'.cell? ⟨xb, 7, none⟩ = some (.int .i64 a5) ∧ w'.cell? ⟨xb, 8, none⟩ = some (.int .i64 a6) ∧ (convert 29 9 vb).run Tryz.prog w' = .ok (.string S) w') := hide (fun w' k9 => by
    have hx := ((uq HK56).trans k9).block xb (Array.getElem?_eq_some_iff.1 (uq N1)).1
    rw [uq N1] at hx
    refine ⟨by simp [World.cell?, hx], by simp [World.cell?, hx], by simp [World.cell?, hx], by simp [World.cell?, hx], by simp [World.cell?, hx], by simp [World.cell?, hx], by simp [World.cell?, hx], by simp [World.cell?, hx], by simp [World.cell?, hx], ?_⟩
    have := by_str ((uq HB6).keep k9) (t := 29) (u := 9) Tryz.underlying29 Tryz.underlying9
    rw [uq HSS] at this
    exact this)
  have HR6 := hide (Rvs.keep (uq HK56) _ _ (uq HR5))
  go_upto_region 3 with fail
  refine wp_region_held_drew (S := fun w' => w'.cell? ⟨xb, 0, none⟩ = some (.int .i64 a0) ∧ w'.cell? ⟨xb, 1, none⟩ = some (.int .i64 a1) ∧ w'.cell? ⟨xb, 2, none⟩ = some (.int .i64 a2) ∧ w'.cell? ⟨xb, 3, none⟩ = some (.int .i64 a3) ∧ w'.cell? ⟨xb, 4, none⟩ = some (.int .i64 a4) ∧ w'.cell? ⟨xb, 5, none⟩ = some (.slice aN nN cN) ∧ w'.cell? ⟨xb, 6, none⟩ = some (.slice aS nS cS) ∧ w'.cell? ⟨xb, 7, none⟩ = some (.int .i64 a5) ∧ w'.cell? ⟨xb, 8, none⟩ = some (.int .i64 a6) ∧ (convert 29 9 vb).run Tryz.prog w' = .ok (.string S) w') (by kernel_rfl) (by exact (uq HSX) _ (by repeat (first | apply Keep.drew | exact Keep.refl _))) (fun hHeld => ?_)
  refine tkk 0 18 hHeld ?_; try simp only [Act.put, Ya, Yb, Yc]
  refine tkk 1 19 hHeld ?_; try simp only [Act.put, Ya, Yb, Yc]
  refine tkk 2 20 hHeld ?_; try simp only [Act.put, Ya, Yb, Yc]
  refine tkk 3 21 hHeld ?_; try simp only [Act.put, Ya, Yb, Yc]
  refine tkk 4 22 hHeld ?_; try simp only [Act.put, Ya, Yb, Yc]
  refine tkk 5 23 hHeld ?_; try simp only [Act.put, Ya, Yb, Yc]
  refine tkk 6 24 hHeld ?_; try simp only [Act.put, Ya, Yb, Yc]
  refine tkk 7 25 hHeld ?_; try simp only [Act.put, Ya, Yb, Yc]
  refine rdyy 8 (fun K hK => ?_)
  go_simp
  clear hHeld
  (refine ((uq T3) _ _ (Rvs.keep (Keep.refl w6).drew _ _ (uq HR6))).mono ?_; rintro e w7 ⟨rfl, hk⟩; have HX7 := hide (((Keep.refl w6).drew).trans hk); clear hk)
  try go_wp2_with fail
  refine hK.out _ _ ?_ (fun hHeld => ?_)
  · exact (uq HSX) _ (uq HX7)
  clear hK K
  try simp only [Act.put, Ya, Yb, Yc]
  refine tkk 9 27 hHeld ?_; try simp only [Act.put, Ya, Yb, Yc]
  refine tkk 10 28 hHeld ?_; try simp only [Act.put, Ya, Yb, Yc]
  refine tkk 11 29 hHeld ?_; try simp only [Act.put, Ya, Yb, Yc]
  refine tkk 12 30 hHeld ?_; try simp only [Act.put, Ya, Yb, Yc]
  refine rdyy 13 (fun K hK => ?_)
  go_simp
  clear hHeld
  (refine ((uq T0) _).mono ?_; rintro e w7 ⟨rfl, rfl⟩)
  try go_wp2_with fail
  refine hK.out _ _ ?_ (fun hHeld => ?_)
  · exact (uq HSX) _ (uq HX7)
  clear hK K
  try simp only [Act.put, Ya, Yb, Yc]
  refine tkk 14 32 hHeld ?_; try simp only [Act.put, Ya, Yb, Yc]
  refine tkk 15 33 hHeld ?_; try simp only [Act.put, Ya, Yb, Yc]
  refine tkk 16 34 hHeld ?_; try simp only [Act.put, Ya, Yb, Yc]
  refine tkk 17 35 hHeld ?_; try simp only [Act.put, Ya, Yb, Yc]
  refine rdyy 18 (fun K hK => ?_)
  go_simp
  clear hHeld
  (refine ((uq T4) _).mono ?_; rintro e w8 ⟨rfl, hk⟩; have HX8 := hide ((uq HX7).trans hk); clear hk)
  try go_wp2_with fail
  refine hK.out _ _ ?_ (fun hHeld => ?_)
  · exact (uq HSX) _ (uq HX8)
  clear hK K
  try simp only [Act.put, Ya, Yb, Yc]
  refine tkk 19 37 hHeld ?_; try simp only [Act.put, Ya, Yb, Yc]
  refine tkk 20 38 hHeld ?_; try simp only [Act.put, Ya, Yb, Yc]
  refine tkk 21 0 hHeld ?_; try simp only [Act.put, Ya, Yb, Yc]
  refine wpAnyH_done (by kernel_rfl) ?_ _
  clear hHeld
  go_wp2_with fail
  go_ret
  exact ⟨rfl, (uq HK6).trans (uq HX8)⟩
theorem awake_any (w : World) (ht : Tab w) : Calls Tryz.prog 12 #[] w fun e w' => e = .returned (.bool true) ∧ Keep w w' := by
  have hB : netB smpT = true := (read_right smp_N).2
  have hS : ShL netT smpT := (read_right smp_N).1
  refine awake_core (sv smp) smp smpT w rfl (hide sample_core) (hide fun w' v h => rparse_smp v w' h) (hide fun w' us hk hr => ?_) (hide fun w' us hr => ?_) (hide fun w' => ?_)
  · have := show_any hS hB hr (ht.keep hk)
    rwa [smp_txt] at this
  · have := Right_any hS hr
    rwa [hB] at this
  · have := Right_any low_sh (low_rv w')
    rwa [low_B] at this
end S
end Go.Proofs.YtcdnbdajnagfiaaGreatDoor

namespace Go.Proofs.YtcdnbdajnagfiaaGreatDoor
open Go.RowKit
attribute [local go_sem ↓] Go.wp_at_zero Go.wp_at_succ
set_option linter.unusedVariables false
set_option linter.unusedSimpArgs false
set_option maxRecDepth 10000
/-- tokens that end as they should, with numbers that fit -/
def Wf (l : List Tok) : Prop := l.length ≤ 70000 ∧ (∃ m t, l = m ++ [t] ∧ t.k = 0 ∧ t.s = []) ∧ ∀ t ∈ l, 0 ≤ t.n ∧ t.n ≤ 999999999999999999
/-- where a reading goes on: the blocks that it turns, its reader, all tokens, where its parts stand -/
structure Env where
  S : Nat → Prop
  rb : Nat
  l : List Tok
  ta : Addr
  cap : Nat
  A : Nat → Nat × Nat
  lo : Nat
/-- where slices that are read may lie -/
def Env.P (E : Env) (b : Nat) : Prop := ¬ E.S b ∧ E.lo ≤ b
/-- the reader stands at the tokens r -/
def R0 (rb : Nat) (l : List Tok) (ta : Addr) (cap : Nat) (w : World) (r : List Tok) : Prop := ∃ k : Nat, k < l.length ∧ r = l.drop k ∧ w.cell? ⟨rb, 0, none⟩ = some (.slice (some ta) l.length cap) ∧ w.cell? ⟨rb, 1, none⟩ = some (.int .i64 (k : Int)) ∧ w.frozen? ⟨rb, 1, none⟩ = false ∧ ta.block < w.heap.size ∧ (∀ k, k < l.length → Tc w (ta.add (k * 4)) (l.getD k t0)) ∧ Wf l
def Rdr (E : Env) (w : World) (r : List Tok) : Prop := R0 E.rb E.l E.ta E.cap w r ∧ ¬ E.S E.ta.block ∧ E.S E.rb
/-- the parts read so -/
def Cel (E : Env) (w : World) (cs : List D) : Prop := (∀ i j, i < cs.length → j < cs.length → E.A i = E.A j → i = j) ∧ ∀ j d, cs[j]? = some d → ∃ v, w.cell? ⟨(E.A j).1, (E.A j).2, none⟩ = some v ∧ Rd w d E.P v ∧ w.frozen? ⟨(E.A j).1, (E.A j).2, none⟩ = false ∧ E.S (E.A j).1 ∧ (E.A j).1 ≠ E.rb
/-- an error's value -/
def flt (x : Er) : Value := .iface 73 (.agg #[.int .i64 x.1, .int .i64 x.2])
/-- what a step leaves -/
def Post (E : Env) (w : World) (rest : List D) (n : Nat) (X : Rs) (e : Ending) (w' : World) : Prop := Fr E.S w w' ∧
  match X with
  | .error x => e = .returned (flt x)
  | .ok (c, r) => e = .returned .nilIface ∧ c.length = n ∧ Rdr E w' r ∧ Cel E w' (c ++ rest)
/-- a function with a text of its own -/
def Ent (fn : FuncId) : Prop := ∀ (xs : Array Value) (w : World), (callFunc fn xs).run Tryz.prog w = .ok (.enter fn xs) w
/-- v is a function that does a step -/
def Does (E : Env) (w0 : World) (v : Value) (m : Nat) (zs : List D) (p : Sp) : Prop := ∃ fn xs ys, v = .func (.func fn) xs ys ∧ Ent fn ∧ ∀ w c rest r, Fr E.S w0 w → c.length = m → Rdr E w r → Cel E w (c ++ zs ++ rest) → Calls Tryz.prog fn (xs ++ ys) w (Post E w rest (m + zs.length) (p c r))
theorem Does.fr {E : Env} {w0 w1 : World} {v : Value} {m : Nat} {zs : List D} {p : Sp} (h : Does E w0 v m zs p) (k : Fr E.S w0 w1) : Does E w1 v m zs p := by
  obtain ⟨fn, xs, ys, rfl, h0, h⟩ := h
  exact ⟨fn, xs, ys, rfl, h0, fun w c rest r hf => h w c rest r (k.trans hf)⟩
theorem Does.keep {E : Env} {w0 w1 : World} {v : Value} {m : Nat} {zs : List D} {p : Sp} (h : Does E w0 v m zs p) (k : Keep w0 w1) : Does E w1 v m zs p := h.fr (.keep k)
theorem cell_lt {w : World} {a : Addr} {v : Value} (h : w.cell? a = some v) : a.block < w.heap.size := World.block_lt_of_cell? w a h
theorem Keep.cell' {w w' : World} (k : Keep w w') {a : Addr} {v : Value} (h : w.cell? a = some v) : w'.cell? a = some v := by rw [Below.cell k (cell_lt h)]; exact h
theorem Keep.frozen' {w w' : World} (k : Keep w w') {a : Addr} {v : Value} (h : w.cell? a = some v) (f : w.frozen? a = false) : w'.frozen? a = false := by rw [Below.frozen k (cell_lt h)]; exact f
theorem R0.keep {rb : Nat} {l : List Tok} {ta : Addr} {cap : Nat} {w w' : World} {r : List Tok} (h : R0 rb l ta cap w r) (k : Keep w w') : R0 rb l ta cap w' r := by
  obtain ⟨i, h1, h2, h3, h4, h5, h7, h8, h9⟩ := h
  exact ⟨i, h1, h2, k.cell' h3, k.cell' h4, k.frozen' h4 h5, Nat.lt_of_lt_of_le h7 k.size, fun j hj => (h8 j hj).keep (by rw [add_block]; exact h7) k, h9⟩
theorem Rdr.keep {E : Env} {w w' : World} {r : List Tok} (h : Rdr E w r) (k : Keep w w') : Rdr E w' r := ⟨h.1.keep k, h.2⟩
theorem Rd.keep {P : Nat → Prop} {w w' : World} (k : Keep w w') {d : D} {u : Value} (h : Rd w d P u) : Rd w' d P u := Rd.move d _ _ u h (fun i hi hl => ⟨k.block i hl, hi⟩)
theorem Cel.keep {E : Env} {w w' : World} {cs : List D} (h : Cel E w cs) (k : Keep w w') : Cel E w' cs := by
  refine ⟨h.1, fun j d hd => ?_⟩
  obtain ⟨v, h1, h2, h3, h4⟩ := h.2 j d hd
  exact ⟨v, k.cell' h1, h2.keep k, k.frozen' h1 h3, h4⟩
theorem drop_cons {l : List Tok} {k : Nat} {t : Tok} {r : List Tok} (h : t :: r = l.drop k) : k < l.length ∧ l.getD k t0 = t ∧ r = l.drop (k + 1) := by
  have hk : k < l.length := by
    rcases Nat.lt_or_ge k l.length with h1 | h1
    · exact h1
    · rw [List.drop_eq_nil_of_le h1] at h; cases h
  rw [List.drop_eq_getElem_cons hk] at h
  injection h with h1 h2
  exact ⟨hk, by rw [h1]; simp [List.getD, hk], h2⟩
/-- behind a token that is not the end there is one -/
theorem wf_next {l : List Tok} (h : Wf l) {k : Nat} {t : Tok} {r : List Tok} (e : t :: r = l.drop k) (hn : t.k ≠ 0 ∨ t.s ≠ []) : k + 1 < l.length := by
  obtain ⟨hk, ht, hr⟩ := drop_cons e
  rcases Nat.lt_or_ge (k + 1) l.length with h1 | h1
  · exact h1
  · exfalso
    obtain ⟨_, ⟨m, u, rfl, u1, u2⟩, _⟩ := h
    have : k = m.length := by simp at hk h1; omega
    subst this
    have : t = u := by rw [← ht]; simp
    subst this
    rcases hn with h | h
    · exact h u1
    · exact h u2
theorem set_ne (w : World) (p a : Addr) (v : Value) (h : p ≠ a) : (w.setCell p v).cell? a = w.cell? a := by apply World.cell?_setCell_other; exact h
theorem set_eq {w : World} {a : Addr} {u : Value} (v : Value) (h : w.cell? a = some u) : (w.setCell a v).cell? a = some v := by apply World.cell?_setCell_same; exact h
theorem set_far (w : World) (p a : Addr) (v : Value) (h : p.block ≠ a.block) : (w.setCell p v).cell? a = w.cell? a := World.cell?_of_block (Below.heap_setCell _ _ _ _ (fun e => h e.symm))
/-- the token goes by -/
theorem R0.step {rb : Nat} {l : List Tok} {ta : Addr} {cap : Nat} {w : World} {t : Tok} {r : List Tok} (h : R0 rb l ta cap w (t :: r)) (hn : t.k ≠ 0 ∨ t.s ≠ []) (hb : ta.block ≠ rb) :
    ∃ k : Nat, k + 1 < 70001 ∧ w.cell? ⟨rb, 1, none⟩ = some (.int .i64 (k : Int)) ∧ w.frozen? ⟨rb, 1, none⟩ = false ∧ R0 rb l ta cap (w.setCell ⟨rb, 1, none⟩ (.int .i64 ((k + 1 : Nat) : Int))) r := by
  obtain ⟨k, h1, h2, h3, h4, h5, h7, h8, h9⟩ := h
  have hlt := wf_next h9 h2 hn
  have := h9.1
  refine ⟨k, by omega, h4, h5, k + 1, hlt, (drop_cons h2).2.2, ?_, ?_, ?_, ?_, ?_, h9⟩
  · rw [set_ne _ _ _ _ (by simp)]; exact h3
  · exact set_eq _ h4
  · rw [World.frozen?_setCell]; exact h5
  · simpa [World.setCell] using h7
  · intro j hj
    obtain ⟨c0, c1, c2, c3⟩ := h8 j hj
    refine ⟨?_, ?_, ?_, ?_⟩
    · rw [set_far _ _ _ _ (by rw [add_block]; exact fun e => hb e.symm)]; exact c0
    · rw [set_far _ _ _ _ (by show rb ≠ (ta.add (j * 4)).block; rw [add_block]; exact fun e => hb e.symm)]; exact c1
    · rw [set_far _ _ _ _ (by show rb ≠ (ta.add (j * 4)).block; rw [add_block]; exact fun e => hb e.symm)]; exact c2
    · rw [set_far _ _ _ _ (by show rb ≠ (ta.add (j * 4)).block; rw [add_block]; exact fun e => hb e.symm)]; exact c3
end Go.Proofs.YtcdnbdajnagfiaaGreatDoor
