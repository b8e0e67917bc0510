/- NetBounds: no network that is read has more than there may be. For every text of at most 6000 bytes the law's call returns true, and the text reads behind it as it read before. -/
import Derived.Test.YtfjphcgipbgodaaDoorCards
import Derived.Test.YtfjphcgipbgodaaDoorTie
import Derived.Test.YtfjphcgipbgodaaDoorNAwkB
import Derived.Test.YtfjphcgipbgodaaDoorNBd
import Derived.Test.YtfjphcgipbgodaaDoorLOpn
import Derived.Test.YtfjphcgipbgodaaDoorLIn
import Derived.LaidLaws
import Derived.LaidHandle
import Derived.SevenTiedAt
namespace Go.Proofs.YtfjphcgipbgodaaDoor.bounds
open Go.ChangeShapes Go.WideShapes Go.ChangeAt Go.RowKit Go.Joins
open Go.WideMaps Go.WideElems
attribute [local go_sem ↓] Go.wp_at_zero Go.wp_at_succ
set_option linter.unusedVariables false
set_option linter.unusedSimpArgs false
set_option maxRecDepth 10000
set_option maxHeartbeats 1000000 in
theorem long (a : Option Addr) (n cap : Nat) (w : World) (hn : 6000 < n) : Calls Tryd.prog 4 #[.slice a n cap] w fun e w' => e = .returned (.bool true) ∧ w' = w := by
  have h : (6000 : Int) < (n : Int) := by omega
  go_enter Tryd.func4, Tryd.ntmps4
  go_wp2_with fail
  go_ret
  exact ⟨rfl, rfl⟩
set_option maxHeartbeats 4000000 in
theorem bad (a : Option Addr) (n cap : Nat) (x : Er) (w : World) (hn : n ≤ 6000) (hx : (x.1 != 0) = true)
    (T1 : Hid (∀ w', Keep w w' → Calls Tryd.prog 6 #[.slice a n cap] w' (ParseP (.error x) w'))) (T2 : Hid (∀ w', Keep w w' → Calls Tryd.prog 7 #[] w' fun e w'' => e = .returned (.bool true) ∧ Keep w' w'')) :
    Calls Tryd.prog 4 #[.slice a n cap] w fun e w' => e = .returned (.bool true) ∧ Keep w w' := by
  have h : ¬ (6000 : Int) < (n : Int) := by omega
  have HK := hide (Keep.refl w)
  have hx2 : (x.1 == 0) = false := by simpa [bne] using hx
  go_enter Tryd.func4, Tryd.ntmps4
  go_wp2_with fail
  (refine ((unhide T1) _ (unhide HK)).mono ?_; rintro e w2 ⟨hk, rfl⟩; have HK2 := hide hk; clear hk)
  go_wp2_with fail
  (refine ((unhide T2) _ ((unhide HK2).alloc _)).mono ?_; rintro e w3 ⟨rfl, hk⟩; have HK3 := hide (((unhide HK2).alloc _).trans hk); clear hk)
  go_wp2_with fail
  go_ret
  exact ⟨rfl, unhide HK3⟩
set_option maxHeartbeats 8000000 in
theorem good (a : Option Addr) (n cap : Nat) (w : World) (hn : n ≤ 6000)
    (T1 : Hid (∀ w', Keep w w' → Calls Tryd.prog 6 #[.slice a n cap] w' fun e w'' => Keep w' w'' ∧ ∃ a0 a1 a2 a3 a4 aN nN cN aS nS cS a5 a6, e = .returned (.tuple #[.agg #[.int .i64 a0, .int .i64 a1, .int .i64 a2, .int .i64 a3, .int .i64 a4, .slice aN nN cN, .slice aS nS cS, .int .i64 a5, .int .i64 a6], .int .i64 0, .int .i64 0]) ∧ 0 ≤ a0 ∧ 0 ≤ a1 ∧ 0 ≤ a2 ∧ nN ≤ 12 ∧ nS ≤ 12 ∧ ∀ i, i < nN → NodeM w'' aN i))
    (T2 : Hid (∀ w', Keep w w' → Calls Tryd.prog 7 #[] w' fun e w'' => e = .returned (.bool true) ∧ Keep w' w''))
    (T3 : Hid (∀ (S : ByteArray) w', ¬ S.toList ∈ words → Calls Tryd.prog 9 #[.string S] w' fun e w'' => e = .returned (.bool false) ∧ Keep w' w'')) :
    Calls Tryd.prog 4 #[.slice a n cap] w fun e w' => e = .returned (.bool true) ∧ Keep w w' := by
  have h : ¬ (6000 : Int) < (n : Int) := by omega
  have HK := hide (Keep.refl w)
  go_enter Tryd.func4, Tryd.ntmps4
  go_wp2_with fail
  (refine ((unhide T1) _ (unhide HK)).mono ?_; rintro e w2 ⟨hk, a0, a1, a2, a3, a4, aN, nN, cN, aS, nS, cS, a5, a6, rfl, b0, b1, b2, b3, b4, hnodes⟩; have HK2 := hide hk; clear hk)
  have HN := hide hnodes
  clear hnodes
  have l0 : ¬ (12 : Int) < (nN : Int) := by omega
  have l1 : ¬ (12 : Int) < (nS : Int) := by omega
  have l2 : ¬ a0 < 0 := by omega
  have l3 : ¬ a1 < 0 := by omega
  have l4 : ¬ a2 < 0 := by omega
  go_upto_region 8 with fail
  have m1 := hide ((unhide HK2).alloc (.cells #[.int .i64 a0, .int .i64 a1, .int .i64 a2, .int .i64 a3, .int .i64 a4, .slice aN nN cN, .slice aS nS cS, .int .i64 a5, .int .i64 a6] 28))
  have m2 := hide ((Keep.refl w2).alloc (.cells #[.int .i64 a0, .int .i64 a1, .int .i64 a2, .int .i64 a3, .int .i64 a4, .slice aN nN cN, .slice aS nS cS, .int .i64 a5, .int .i64 a6] 28))
  have m3 : Hid ((w2.alloc (.cells #[.int .i64 a0, .int .i64 a1, .int .i64 a2, .int .i64 a3, .int .i64 a4, .slice aN nN cN, .slice aS nS cS, .int .i64 a5, .int .i64 a6] 28)).cell? ⟨w2.heap.size, 5, none⟩ = some (.slice aN nN cN)) := hide (by simp [go_sem])
  generalize w2.alloc (.cells #[.int .i64 a0, .int .i64 a1, .int .i64 a2, .int .i64 a3, .int .i64 a4, .slice aN nN cN, .slice aS nS cS, .int .i64 a5, .int .i64 a6] 28) = w3 at m1 m2 m3 ⊢
  generalize w2.heap.size = nb at m3 ⊢
  go_wp2_with fail
  go_loopw [6] (fun v6 wr => ∃ i : Nat, i ≤ nN ∧ v6 = .int .i64 (i : Int) ∧ Hid (Keep w3 wr)) (fun v6 _ => nN - (intOf v6).toNat)
  case atStart => exact ⟨0, Nat.zero_le _, rfl, hide (Keep.refl _)⟩
  case round =>
    obtain ⟨i, hi, rfl, HKr⟩ := hrel
    have c5 := (unhide HKr).cell' (unhide m3)
    by_cases hlt : i < nN
    · have li : (i : Int) < (nN : Int) := by omega
      obtain ⟨g, S, x1, n1, y1, x2, n2, y2, x3, n3, y3, x4, n4, y4, x5, n5, y5, pp, rfl, hcells, k1, k2, k3, k4, k5, k6, hgroups⟩ := (unhide HN) i hlt
      obtain ⟨d0, d1, d2, d3, d4, d5, d6⟩ := hcells wr ((unhide m2).trans (unhide HKr))
      have HG := hide hgroups
      have HS := hide k6
      have q1 : ¬ (16 : Int) < (n1 : Int) := by omega
      have q2 : ¬ (8 : Int) < (n2 : Int) := by omega
      have q3 : ¬ (16 : Int) < (n3 : Int) := by omega
      have q4 : ¬ (4 : Int) < (n4 : Int) := by omega
      have q5 : ¬ (64 : Int) < (n5 : Int) := by omega
      clear hcells hgroups k6
      go_upto_region 12 with fail
      have p1 := hide ((unhide HKr).alloc (.cells #[.string S, .slice x1 n1 y1, .slice x2 n2 y2, .slice x3 n3 y3, .slice x4 n4 y4, .slice x5 n5 y5, .int .i64 pp] 41))
      have p2 : (wr.alloc (.cells #[.string S, .slice x1 n1 y1, .slice x2 n2 y2, .slice x3 n3 y3, .slice x4 n4 y4, .slice x5 n5 y5, .int .i64 pp] 41)).heap[wr.heap.size]? = some (.cells #[.string S, .slice x1 n1 y1, .slice x2 n2 y2, .slice x3 n3 y3, .slice x4 n4 y4, .slice x5 n5 y5, .int .i64 pp] 41 (0, 0)) := heap_alloc_new wr _
      generalize wr.alloc (.cells #[.string S, .slice x1 n1 y1, .slice x2 n2 y2, .slice x3 n3 y3, .slice x4 n4 y4, .slice x5 n5 y5, .int .i64 pp] 41) = wx at p1 p2 ⊢
      have HKr0 := HKr
      clear c5 d0 d1 d2 d3 d4 d5 d6
      obtain ⟨wo, rfl⟩ : ∃ wo, wo = wr := ⟨_, rfl⟩
      generalize wo.heap.size = xb at p2 ⊢
      have s0 : wx.cell? ⟨xb, 0, none⟩ = some (.string S) := by simp [World.cell?, p2]
      have s1 : wx.cell? ⟨xb, 1, none⟩ = some (.slice x1 n1 y1) := by simp [World.cell?, p2]
      have s2 : wx.cell? ⟨xb, 2, none⟩ = some (.slice x2 n2 y2) := by simp [World.cell?, p2]
      have s3 : wx.cell? ⟨xb, 3, none⟩ = some (.slice x3 n3 y3) := by simp [World.cell?, p2]
      have s4 : wx.cell? ⟨xb, 4, none⟩ = some (.slice x4 n4 y4) := by simp [World.cell?, p2]
      have s5 : wx.cell? ⟨xb, 5, none⟩ = some (.slice x5 n5 y5) := by simp [World.cell?, p2]
      have S4 := hide s4
      clear p2
      go_wp2_with fail
      (refine ((unhide T3) _ _ (unhide HS)).mono ?_; rintro e wy ⟨rfl, hk⟩; have HKy := hide hk; clear hk)
      have t4 := (unhide HKy).cell' (unhide S4)
      have T4 := hide t4
      have p3 := hide ((unhide p1).trans (unhide HKy))
      clear s0 s1 s2 s3 s4 s5 t4
      go_wp2_with fail
      go_loopw [8] (fun v8 wr => ∃ k : Nat, k ≤ n4 ∧ v8 = .int .i64 (k : Int) ∧ Hid (Keep wy wr)) (fun v8 _ => n4 - (intOf v8).toNat)
      case atStart => exact ⟨0, Nat.zero_le _, rfl, hide (Keep.refl _)⟩
      case round =>
        obtain ⟨k, hkk, rfl, HKk⟩ := hrel
        have e4 := (unhide HKk).cell' (unhide T4)
        by_cases hlt2 : k < n4
        · have lk : (k : Int) < (n4 : Int) := by omega
          obtain ⟨g4, aR, nR, cR, rfl, hc, r1, r2, hrings⟩ := (unhide HG) k hlt2
          have e5 := hc wr (((unhide m2).trans (unhide p3)).trans (unhide HKk))
          have HRg := hide hrings
          clear hc hrings
          have z1 : ¬ (nR : Int) < 1 := by omega
          have z2 : ¬ (2 : Int) < (nR : Int) := by omega
          go_upto_region 18 with fail
          have p4 := hide ((unhide HKk).alloc (.cells #[.slice aR nR cR] 45))
          have p5 : (wr.alloc (.cells #[.slice aR nR cR] 45)).cell? ⟨wr.heap.size, 0, none⟩ = some (.slice aR nR cR) := by simp [go_sem]
          generalize wr.alloc (.cells #[.slice aR nR cR] 45) = wz at p4 p5 ⊢
          clear e4 e5
          obtain ⟨wq, rfl⟩ : ∃ wq, wq = wr := ⟨_, rfl⟩
          generalize wq.heap.size = gb at p5 ⊢
          have P5 := hide p5
          go_wp2_with fail
          go_loopw [10] (fun v10 wr => ∃ m : Nat, m ≤ nR ∧ v10 = .int .i64 (m : Int) ∧ Hid (Keep wz wr)) (fun v10 _ => nR - (intOf v10).toNat)
          case atStart => exact ⟨0, Nat.zero_le _, rfl, hide (Keep.refl _)⟩
          case round =>
            obtain ⟨m, hm, rfl, HKm⟩ := hrel
            have f4 := (unhide HKm).cell' (unhide P5)
            by_cases hlt3 : m < nR
            · have lm : (m : Int) < (nR : Int) := by omega
              obtain ⟨gR, aP, nP, cP, rfl, hc, r3, r4⟩ := (unhide HRg) m hlt3
              have f5 := hc wr ((((unhide m2).trans (unhide p3)).trans (unhide p4)).trans (unhide HKm))
              clear hc
              have z3 : ¬ (nP : Int) < 1 := by omega
              have z4 : ¬ (4 : Int) < (nP : Int) := by omega
              go_wp2_with fail
              go_roundw
              case rel => exact ⟨m + 1, hlt3, by go_num, HKm⟩
              case measure => simp [intOf]; omega
            · have : m = nR := by omega
              subst this
              go_wp2_with fail
              go_roundw
              case rel => exact ⟨k + 1, hlt2, by go_num, hide ((unhide p4).trans (unhide HKm))⟩
              case measure => simp [intOf]; omega
        · have : k = n4 := by omega
          subst this
          go_wp2_with fail
          go_roundw
          case rel => exact ⟨i + 1, hlt, by go_num, hide ((unhide p3).trans (unhide HKk))⟩
          case measure => simp [intOf]; omega
    · have : i = nN := by omega
      subst this
      go_wp2_with fail
      (refine ((unhide T2) _ ((unhide m1).trans (unhide HKr))).mono ?_; rintro e w9 ⟨rfl, hk⟩; have HK9 := hide (((unhide m1).trans (unhide HKr)).trans hk); clear hk)
      go_wp2_with fail
      go_ret
      exact ⟨rfl, unhide HK9⟩
theorem walk (v : Value) (l : List UInt8) (w : World) (h : By w v l) (hg : Gl w) : Calls Tryd.prog 4 #[v] w fun e w' => e = .returned (.bool true) ∧ Below w.heap.size w w' := by
  obtain ⟨a, cap, hv⟩ := h.shape
  by_cases hl : 6000 < l.length
  · subst hv
    refine (long a l.length cap w hl).mono ?_
    rintro e w' ⟨rfl, rfl⟩
    exact ⟨rfl, Keep.refl _⟩
  · have hP : ∀ w', Keep w w' → Calls Tryd.prog 6 #[v] w' (ParseP (N l) w') := fun w' hk => parse_any v l w' (by omega) (h.keep hk) (hg.keep hk)
    have hA : ∀ w', Keep w w' → Calls Tryd.prog 7 #[] w' fun e w'' => e = .returned (.bool true) ∧ Keep w' w'' := fun w' hk => awake_any w' (hg.keep hk)
    subst hv
    cases hN : N l with
    | error x =>
      rw [hN] at hP
      refine bad a l.length cap x w (by omega) ?_ (hide hP) (hide hA)
      unfold N at hN
      cases hT : T l with
      | error y =>
        rw [hT] at hN
        simp at hN
        have := (T_err (e := y.1) (a := y.2) hT).1
        rw [← hN]
        simp
        omega
      | ok L =>
        rw [hT] at hN
        simp only at hN
        cases hp : pNet L with
        | ok q => rw [hp] at hN; cases hN
        | error y =>
          rw [hp] at hN
          injection hN with hN
          subst hN
          have := err_net hp
          simp
          omega
    | ok cs =>
      rw [hN] at hP
      refine good a l.length cap w (by omega) (hide fun w' hk => (hP w' hk).mono ?_) (hide hA) (hide fun S w' hS => by have := rres_any S w'; rw [decide_eq_false hS] at this; exact this)
      rintro e w'' ⟨hk2, u0, u1, u2, u3, u4, u5, u6, u7, u8, rfl, _, hrd⟩
      obtain ⟨a0, a1, a2, a3, a4, Ns, Ss, a5, a6, rfl, b0, b1, b2, b3, b4, b5⟩ := net_ok (by omega) hN
      obtain ⟨h0, h1, h2, h3, h4, h5, h6, h7, h8⟩ := open_nine hrd
      obtain rfl := rd_int h0
      obtain rfl := rd_int h1
      obtain rfl := rd_int h2
      obtain rfl := rd_int h3
      obtain rfl := rd_int h4
      obtain ⟨aN, cN, rfl, hM⟩ := node_m h5 b5
      obtain ⟨aS, cS, rfl⟩ := rd_row h6
      obtain rfl := rd_int h7
      obtain rfl := rd_int h8
      exact ⟨hk2, a0, a1, a2, a3, a4, aN, Ns.length, cN, aS, Ss.length, cS, a5, a6, rfl, b0, b1, b2, b3, b4, hM⟩
theorem laidOut : laidOutB Tryd.prog = true := by kernel_rfl
theorem own : ownKnob Tryd.prog.godebug = none := by kernel_rfl
theorem et : Tryd.prog.globalNamed "errors.errorType" = some 0 := by kernel_rfl
theorem rt : (Tryd.prog.cutTypes.find? (·.1 == "internal/reflectlite.rtype")).map (·.2) = some 116 := by kernel_rfl
theorem oneRow : ((List.range 210).filter fun t => Tryd.prog.rowNamed t [101, 114, 114, 111, 114]) = [51] := by kernel_rfl
theorem tsize : Tryd.prog.types.size = 210 := by kernel_rfl
theorem gl_of {W : World} (h : laidMetH Tryd.prog Rows.netBoundsRow.laid W) : Gl W := by
  have h' : laidMet Tryd.prog [] W ∧ handlesMet Tryd.prog Rows.netBoundsRow.laid W := h
  obtain ⟨name, u, ty, e1, e2, e3, e4, e5⟩ := h'.2 _ (List.mem_singleton.2 rfl)
  have en : name = [101, 114, 114, 111, 114] := (Option.some.inj e1).symm
  subst en
  obtain rfl := Option.some.inj (rt.symm.trans e2)
  have hm : ty ∈ (List.range 210).filter fun t => Tryd.prog.rowNamed t [101, 114, 114, 111, 114] := List.mem_filter.2 ⟨List.mem_range.2 (by rw [← tsize]; exact e3), e4⟩
  rw [oneRow] at hm
  obtain rfl := List.mem_singleton.1 hm
  have hh : typeHandle Tryd.prog 51 = .pointer (some ⟨1, 51, none⟩) := by kernel_rfl
  rw [hh] at e5
  simpa [Gl] using World.var?_cell et e5 0
noncomputable def laidWorld (os : Os) : World :=
  let w0 := World.holding Tryd.prog os ⟨#[], #[], []⟩
  { w0 with heap := w0.heap.modify 0 fun
      | .cells _ t frozen => .cells #[.iface 116 (.agg #[.pointer (some ⟨1, 51, none⟩)])] t frozen
      | o => o }
theorem laidWorld_met (os : Os) (args : Array Value) : laidMetH Tryd.prog Rows.netBoundsRow.laid ((laidWorld os).forCall (fun _ _ => 0) ⟨#[], args, []⟩).memory :=
  laidMetH_of_parts (laidMet_nil _ _) (by kernel_rfl)
set_option maxHeartbeats 400000 in
set_option maxRecDepth 100000 in
theorem lifted (os : Os) (started : os.Started) (H : Type) (enc : TypeId × Value → H) :
    ReturnsInHanded {} Tryd.checked os 4 .any (fun w args => (Rows.netBoundsSpec.pre enc Tryd.prog Tryd.f4 [] false w args ∧ laidMetH Tryd.prog Rows.netBoundsRow.laid w) ∧ sizedMet enc Tryd.prog Tryd.f4 (OpenSpec.ofChange Rows.netBoundsSpec) false w args)
      (Rows.netBoundsSpec.post enc Tryd.prog Tryd.f4 false true false false) := by
  refine returnsInHanded_of_change_and (C := Tryd.checked) (X := fun w _ => laidMetH Tryd.prog Rows.netBoundsRow.laid w) (fun _ _ _ hh h => h.of_heap hh) own started (by kernel_rfl) Tryd.func4
    (ChangeSpec.witness_at (enc := enc) (C := Tryd.checked) (os := os) (X := fun w _ => laidMetH Tryd.prog Rows.netBoundsRow.laid w) false (laidWorld os) #[.slice none 0 0] 8 rfl (by kernel_rfl) (by kernel_rfl) (by kernel_rfl) (by kernel_rfl) (by kernel_rfl) (laidWorld_met os _)) ?_
  intro W base args ds gs before hval0 hW _ _ hL _
  have hval : ∀ (j : Nat) t v, Tryd.f4.params[j]? = some t → args[j]? = some v → Value.okWide Tryd.prog W .any base t v := hval0
  have hW' := hW
  obtain ⟨p, q, hA0, hV, rfl, hfz, hnd⟩ := hW
  have hA : DataW.TrodAll enc Tryd.prog W 0 (fun _ => true) true Tryd.f4.params.toList args.toList ds p := hA0
  rw [Tryd.params4] at hA hval
  obtain ⟨v0, vs0, d0, ds0, p0, q0, hargs, rfl, rfl, h0, r0⟩ := trodAll_cons hA
  obtain ⟨rfl, rfl, rfl⟩ := trodAll_nil r0
  obtain rfl : args = #[v0] := by cases args; simp_all
  obtain ⟨rfl, rfl⟩ := trodVars_none hV
  have k0 := h0
  have lt0 : ∀ x ∈ p0, x.block < W.heap.size := by obtain ⟨m, hm⟩ := k0; exact DataW.trod_lt m _ _ _ hm
  obtain ⟨L0, w0⟩ := open_bytes Tryd.underlying22 Tryd.underlying5 (by kernel_rfl) (hval 0 22 v0 rfl rfl) h0
  clear h0
  clear hA0 hval0
  refine (walk v0 L0 W w0 (gl_of hL)).mono fun e W' ⟨he, bel⟩ => ?_
  subst he
  exact ⟨_, rfl, _, _, _, [], _, [], hW', trodAll_mk1 (shut_bool Tryd.underlying4 _), (trodAll_cons_mk (Below.trod laidOut (by kernel_rfl) (of_decide_eq_true (by kernel_rfl)) k0 bel lt0) trodAll_mk0), rfl, bel.frame _, fun h => by cases h⟩
theorem over : Rows.netBoundsRow.holds Tryd.pinned (OpenSpec.ofChange Rows.netBoundsSpec) :=
  OpenClaim.holds_of_wide 4 Tryd.f4 rfl rfl rfl rfl rfl rfl rfl ⟨rfl, rfl, rfl, rfl, rfl⟩ rfl rfl rfl rfl rfl (by kernel_rfl) Tryd.func4 (by kernel_rfl)
    (of_decide_eq_true (by kernel_rfl)) (by unfold Func.isWrapper; first | (rw [if_pos (by decide +kernel)]; kernel_rfl) | (rw [if_neg (by decide +kernel)]; exact ⟨rfl, rfl⟩))
    (fun os started H enc _ => lifted os started H enc)
theorem card : Claim7.holds Tryd.pinned (.plain (OpenSpec.ofChange Rows.netBoundsSpec)) Rows.netBoundsCard :=
  Claim7.holds_tied_plain_at .later [] [.handle] true _ true
    over (fun _ h => by cases h) (by kernel_rfl) (fun _ h => by cases h) netBounds_row_tie rfl ⟨rfl, rfl⟩ (by kernel_rfl) rfl
    (fun f fn hf hfn => by
      obtain rfl : f = 4 := Option.some.inj ((show Tryd.prog.funcNamed Rows.netBoundsRow.func = some 4 by kernel_rfl).symm.trans hf) |>.symm
      obtain rfl : fn = Tryd.f4 := (Option.some.inj (Tryd.func4.symm.trans hfn)).symm
      exact ⟨by kernel_rfl, fun j t ht => by
        rw [Tryd.params4] at ht
        have hm : t ∈ [22] := by simpa using Array.mem_of_getElem? ht
        have hall : ([22].all fun u => !Tryd.prog.wantsStandIn u) = true := by kernel_rfl
        exact (show Tryd.prog.wantsStandIn t = false by simpa using List.all_eq_true.1 hall t hm)⟩)
    (by kernel_rfl)

end Go.Proofs.YtfjphcgipbgodaaDoor.bounds
namespace Go.Proofs.YtfjphcgipbgodaaDoor
theorem NetBounds_holds : Rows.NetBoundsCardSaid := bounds.card
end Go.Proofs.YtfjphcgipbgodaaDoor
