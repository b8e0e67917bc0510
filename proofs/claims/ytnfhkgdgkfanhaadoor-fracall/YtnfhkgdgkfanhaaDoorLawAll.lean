/- Proved: for every row of at most fifty fractions, right or not, the sum of all, or that a sum on the way does not fit, and the greatest one are the document's (a longer row is let by). -/
import Derived.Test.YtnfhkgdgkfanhaaDoorCards
import Derived.Test.YtnfhkgdgkfanhaaDoorTie
import Derived.Test.YtnfhkgdgkfanhaaDoorAwake2
import Derived.Test.YtnfhkgdgkfanhaaDoorAllN
import Derived.WalkKit
import Derived.Lib.LaidTab
import Derived.ProofKit
import Derived.OpenShut
import Derived.ShutString
import Derived.ChangeOld
import Derived.Below
import Derived.Lib.SmallJoins
import Derived.SevenTiedAt
import Derived.LaidHandle
import Derived.LaidLaws
import Derived.LaidMore
import Derived.LaidOnce
import Derived.JoinedOf
import Derived.Stop.Joined
namespace Go.Proofs.YtnfhkgdgkfanhaaDoor.all
open Go.ChangeShapes Go.WideShapes Go.ChangeAt Go.RowKit Go.Joins
set_option linter.unusedVariables false
set_option maxRecDepth 10000
set_option maxHeartbeats 400000 in
theorem same_any (X Y Z : Int) (w : World) :
    Calls Tryd.prog 11 #[.agg #[.int .i64 X, .int .i64 Y], .int .i64 Z, .agg #[.int .i64 X, .int .i64 Y], .int .i64 Z] w fun e w' => e = .returned (.bool true) ∧ Keep w w' := by
  go_enter Tryd.func11, Tryd.ntmps11
  go_wp2
  go_ret
  exact ⟨rfl, by repeat (first | apply keep_ext | apply Keep.alloc | apply Keep.drew | exact Keep.refl _)⟩
set_option maxHeartbeats 400000 in
theorem walk_long (a : Option Addr) (n cap : Nat) (w : World) (h : 50 < n) :
    Calls Tryd.prog 7 #[.slice a n cap] w fun e w' => e = .returned (.bool true) ∧ Keep w w' := by
  have h' : (50 : Int) < (n : Int) := by omega
  go_enter Tryd.func7, Tryd.ntmps7
  go_wp2
  go_ret
  exact ⟨rfl, Keep.refl _⟩
set_option maxHeartbeats 2000000 in
theorem walk_core (a : Option Addr) (n cap : Nat) (X Y Z U V : Int) (w : World) (h : n ≤ 50)
    (S1 : Hid (∀ w', Keep w w' → Calls Tryd.prog 31 #[.slice a n cap] w' fun e w'' => e = .returned (.tuple #[.agg #[.int .i64 X, .int .i64 Y], .int .i64 Z]) ∧ Keep w' w'')) (S2 : Hid (∀ w', Keep w w' → Calls Tryd.prog 32 #[.slice a n cap] w' fun e w'' => e = .returned (.tuple #[.agg #[.int .i64 X, .int .i64 Y], .int .i64 Z]) ∧ Keep w' w''))
    (M1 : Hid (∀ w', Keep w w' → Calls Tryd.prog 33 #[.slice a n cap] w' fun e w'' => e = .returned (.agg #[.int .i64 U, .int .i64 V]) ∧ Keep w' w'')) (M2 : Hid (∀ w', Keep w w' → Calls Tryd.prog 34 #[.slice a n cap] w' fun e w'' => e = .returned (.agg #[.int .i64 U, .int .i64 V]) ∧ Keep w' w''))
    (SM : Hid (∀ w, Calls Tryd.prog 11 #[.agg #[.int .i64 X, .int .i64 Y], .int .i64 Z, .agg #[.int .i64 X, .int .i64 Y], .int .i64 Z] w fun e w' => e = .returned (.bool true) ∧ Keep w w'))
    (AW : Hid (∀ w, Calls Tryd.prog 14 #[] w fun e w' => e = .returned (.bool true) ∧ Keep w w')) :
    Calls Tryd.prog 7 #[.slice a n cap] w fun e w' => e = .returned (.bool true) ∧ Keep w w' := by
  have h' : ¬ (50 : Int) < (n : Int) := by omega
  go_enter Tryd.func7, Tryd.ntmps7
  go_wp2_with fail
  (refine ((unhide S1) _ (by repeat (first | apply keep_ext | apply Keep.alloc | apply Keep.drew | exact Keep.refl _))).mono ?_; rintro e w2 ⟨rfl, hk⟩; obtain ⟨o1, k1, rfl⟩ := hk.ext; clear hk)
  go_wp2_with fail
  (refine ((unhide S2) _ (by repeat (first | apply keep_ext | apply Keep.alloc | apply Keep.drew | exact Keep.refl _))).mono ?_; rintro e w2 ⟨rfl, hk⟩; obtain ⟨o2, k2, rfl⟩ := hk.ext; clear hk)
  go_wp2_with fail
  (refine ((unhide SM) _).mono ?_; rintro e w2 ⟨rfl, hk⟩; obtain ⟨o3, k3, rfl⟩ := hk.ext; clear hk)
  go_wp2_with fail
  (refine ((unhide M1) _ (by repeat (first | apply keep_ext | apply Keep.alloc | apply Keep.drew | exact Keep.refl _))).mono ?_; rintro e w2 ⟨rfl, hk⟩; obtain ⟨o4, k4, rfl⟩ := hk.ext; clear hk)
  go_wp2_with fail
  (refine ((unhide M2) _ (by repeat (first | apply keep_ext | apply Keep.alloc | apply Keep.drew | exact Keep.refl _))).mono ?_; rintro e w2 ⟨rfl, hk⟩; obtain ⟨o5, k5, rfl⟩ := hk.ext; clear hk)
  go_wp2_with fail
  (refine ((unhide AW) _).mono ?_; rintro e w2 ⟨rfl, hk⟩; obtain ⟨o6, k6, rfl⟩ := hk.ext; clear hk)
  go_wp2_with fail
  go_ret
  exact ⟨rfl, by repeat (first | apply keep_ext | apply Keep.alloc | apply Keep.drew | exact Keep.refl _)⟩
/-- a slice of fractions, as it reads -/
def FsV (w : World) (a : Option Addr) (n cap : Nat) : Prop := n = 0 ∨ ∃ (ad : Addr) (L : List (Int × Int)), a = some ad ∧ L.length = n ∧ n ≤ cap ∧ cap ≤ 9223372036854775807 ∧ Fs w ad L
theorem walk (a : Option Addr) (n cap : Nat) (w : World) (h : FsV w a n cap) :
    Calls Tryd.prog 7 #[.slice a n cap] w fun e w' => e = .returned (.bool true) ∧ Below w.heap.size w w' := by
  by_cases h50 : 50 < n
  · exact walk_long a n cap w h50
  · rcases h with rfl | ⟨ad, L, rfl, rfl, hc, hm, hF⟩
    · exact walk_core a 0 cap 0 1 0 0 1 w (by omega) (hide fun w' _ => fsum_nil a cap w') (hide fun w' _ => rsum_nil a cap w') (hide fun w' _ => fmax_nil a cap w') (hide fun w' _ => rmax_nil a cap w') (hide fun w => same_any _ _ _ w) (hide awake_any)
    · rcases Nat.eq_zero_or_pos L.length with h0 | h0
      · have e : L.length = 0 := h0
        rw [e]
        exact walk_core (some ad) 0 cap 0 1 0 0 1 w (by omega) (hide fun w' _ => fsum_nil _ cap w') (hide fun w' _ => rsum_nil _ cap w') (hide fun w' _ => fmax_nil _ cap w') (hide fun w' _ => rmax_nil _ cap w') (hide fun w => same_any _ _ _ w) (hide awake_any)
      · have A1 : Hid (∀ (t f : Int × Int), In t.1 → In t.2 → In f.1 → In f.2 → ∀ w, _) := fun t f h1 h2 h3 h4 w => fadd_any t.1 t.2 f.1 f.2 w h1.1 h1.2 h2.1 h2.2 h3.1 h3.2 h4.1 h4.2
        have A2 : Hid (∀ (t f : Int × Int), In t.1 → In t.2 → In f.1 → In f.2 → ∀ w, _) := fun t f h1 h2 h3 h4 w => rfadd_any t.1 t.2 f.1 f.2 w h1.1 h1.2 h2.1 h2.2 h3.1 h3.2 h4.1 h4.2
        have N1 : Hid (∀ (f : Int × Int), In f.1 → In f.2 → ∀ w, _) := fun f h1 h2 w => counted_any f.1 f.2 w h1.1 h1.2 h2.1 h2.2
        have N2 : Hid (∀ (f : Int × Int), In f.1 → In f.2 → ∀ w, _) := fun f h1 h2 w => norm_any f.1 f.2 w h1.1 h1.2 h2.1 h2.2
        have C1 : Hid (∀ (f t : Int × Int), In f.1 → In f.2 → In t.1 → In t.2 → ∀ w, _) := fun f t h1 h2 h3 h4 w => fcmp_any f.1 f.2 t.1 t.2 w h1.1 h1.2 h2.1 h2.2 h3.1 h3.2 h4.1 h4.2
        have C2 : Hid (∀ (f t : Int × Int), In f.1 → In f.2 → In t.1 → In t.2 → ∀ w, _) := fun f t h1 h2 h3 h4 w => rfcmp_any f.1 f.2 t.1 t.2 w h1.1 h1.2 h2.1 h2.2 h3.1 h3.2 h4.1 h4.2
        obtain ⟨⟨X, Y, Z⟩, hS⟩ : ∃ r, sm (0, 1) L = r := ⟨_, rfl⟩
        obtain ⟨⟨U, V⟩, hM⟩ : ∃ r, mxA L = r := ⟨_, rfl⟩
        refine walk_core (some ad) L.length cap X Y Z U V w (by omega) (hide fun w' hk => fsum_core ad L cap w' (by omega) (hF.keep hk) X Y Z (hide hS) (hide fun w => nought_any w) A1)
          (hide fun w' hk => rsum_core ad L cap w' (by omega) (hF.keep hk) X Y Z (hide hS) A2) (hide fun w' hk => ?_)
          (hide fun w' hk => rmax_core ad L cap w' (by omega) h0 (hF.keep hk) U V (hide hM) N2 C2) (hide fun w => same_any _ _ _ w) (hide awake_any)
        by_cases h1 : L.length = 1
        · have k := fmax_one ad L cap w' (by omega) h0 hc hm (hF.keep hk) U V (hide hM) (hide h1) N1
          rw [h1]
          exact k
        · exact fmax_many ad L cap w' (by omega) h0 hc hm (hF.keep hk) U V (hide hM) (by omega) N1 C1
theorem list_of {P : Nat → Int × Int → Prop} : ∀ n, (∀ i, i < n → ∃ p, P i p) → ∃ L : List (Int × Int), L.length = n ∧ ∀ i, i < n → P i (L.getD i (0, 0))
  | 0, _ => ⟨[], rfl, fun i h => by omega⟩
  | n + 1, h => by
    obtain ⟨L, h1, h2⟩ := list_of n (fun i hi => h i (by omega))
    obtain ⟨p, hp⟩ := h n (by omega)
    refine ⟨L ++ [p], by simp [h1], fun i hi => ?_⟩
    by_cases hin : i < n
    · have := h2 i hin
      rw [List.getD_eq_getElem?_getD, List.getElem?_append_left (by omega), ← List.getD_eq_getElem?_getD]
      exact this
    · have : i = n := by omega
      subst this
      rw [List.getD_eq_getElem?_getD, List.getElem?_append_right (by omega), h1]
      simpa using hp
theorem mapM_some_at {α β : Type} {f : α → Option β} {l : List α} {r : List β} (h : l.mapM f = some r) (i : Nat) (a : α) (ha : l[i]? = some a) : ∃ b, r[i]? = some b ∧ f a = some b := Lib.mapM_at h i a ha
/-- a slice of structs of two integers, opened -/
theorem open_fracs {H : Type} {enc : TypeId × Value → H} {P : Program} {w : World} {base : Nat} {spare : Nat → Bool} {held : Bool} {r : Reach} {b0 : Nat} {t e : TypeId} {f0 f1 : Field} {v : Value} {d : DataW H} {p : List MemPlace} (ht : P.underlying t = some (.slice e)) (he : P.underlying e = some (.struct #[f0, f1])) (hone : Go.Deep.oneCellFields P #[f0, f1] = true) (hCe : P.cellsOf e = 2)
    (i0 : P.underlying f0.type = some (.int .i64)) (i1 : P.underlying f1.type = some (.int .i64))
    (hv : Value.okWide P w r b0 t v) (h : DataW.Trod enc P w base spare held t v d p) :
    ∃ (a : Option Addr) (n cap : Nat), v = .slice a n cap ∧ FsV w a n cap := by
  obtain ⟨a0, len, cap, rfl⟩ := okWide_slice ht hv
  obtain ⟨fuel, hf⟩ := h
  refine ⟨a0, len, cap, rfl, ?_⟩
  rcases Go.Deep.open_slice ht hf with ⟨hcs, _⟩ | ⟨a, len', cap', m, n, D, Pl, hcs, _, hl, hm, hmm, _, hall⟩
  · simp [Value.cells] at hcs
    exact .inl hcs.2.1
  · simp [Value.cells] at hcs
    obtain ⟨rfl, rfl, rfl⟩ := hcs
    obtain ⟨o0, k0⟩ := Go.Deep.hone_of hone 0 f0 rfl
    obtain ⟨o1, k1⟩ := Go.Deep.hone_of hone 1 f1 rfl
    have hml : len ≤ m := by rw [hmm]; split <;> omega
    have each : ∀ i, i < len → ∃ q : Int × Int, a.block < w.heap.size ∧ In q.1 ∧ In q.2 ∧ w.cell? (a.add (i * 2)) = some (.int .i64 q.1) ∧ w.cell? ⟨(a.add (i * 2)).block, (a.add (i * 2)).off + 1, none⟩ = some (.int .i64 q.2) := by
      intro i hi
      obtain ⟨cs', hc, htr⟩ := hall i (by omega)
      rw [hCe] at hc
      unfold World.cells? at hc
      split at hc
      · obtain ⟨c0, g0, e0⟩ := mapM_some_at hc 0 0 rfl
        obtain ⟨c1, g1, e1⟩ := mapM_some_at hc 1 1 rfl
        have hl2 : cs'.length = 2 := by simpa using mapM_some_length hc
        obtain ⟨x0, x1, rfl⟩ : ∃ x0 x1, cs' = [x0, x1] := by
          match cs', hl2 with
          | [x0, x1], _ => exact ⟨x0, x1, rfl⟩
        obtain ⟨y0, y1, nn, _, _, t0, t1⟩ := trod_struct2 he htr
        rw [o0, k0] at t0
        rw [o1, k1] at t1
        obtain ⟨q0, s0, _, w0⟩ := DataW.trod_int i0 t0
        obtain ⟨q1, s1, _, w1⟩ := DataW.trod_int i1 t1
        simp at s0 s1
        subst s0 s1
        simp at g0 g1
        subst g0 g1
        have b0 := bounds_i64 w0
        have b1 := bounds_i64 w1
        have z0 : (a.add (i * 2)).add 0 = a.add (i * 2) := by simp [Addr.add]
        have z1 : (a.add (i * 2)).add 1 = ⟨(a.add (i * 2)).block, (a.add (i * 2)).off + 1, none⟩ := by simp [Addr.add]
        rw [z0] at e0
        rw [z1] at e1
        have hb := World.block_lt_of_cell? w (a.add (i * 2)) e0
        rw [add_block] at hb
        exact ⟨(q0, q1), hb, b0, b1, e0, e1⟩
      · cases hc
    obtain ⟨L, hL, hE⟩ := list_of len each
    refine .inr ⟨a, L, rfl, hL, hl, by unfold maxLen at hm; omega, fun k hk => hE k (by omega)⟩
theorem door_met (os : Os) (args : Array Value) : laidMetH Tryd.prog Rows.fracAllRow.laid ((World.doorLaid Tryd.prog 24 os).forCall (fun _ _ => 0) ⟨#[], args, []⟩).memory :=
  laidMetH_of_parts3 (fuel := 8) (laidMet_of_run' 8 (by kernel_rfl) (by kernel_rfl)) (by kernel_rfl) (by kernel_rfl)
theorem laidOut : laidOutB Tryd.prog = true := by kernel_rfl
theorem own : ownKnob Tryd.prog.godebug = none := by kernel_rfl
set_option maxHeartbeats 400000 in
set_option maxRecDepth 100000 in
theorem lifted (os : Os) (started : os.Started) (H : Type) (enc : TypeId × Value → H) :
    ReturnsInHanded {} Tryd.checked os 7 .any (fun w args => (Rows.fracAllSpec.pre enc Tryd.prog Tryd.f7 [] false w args ∧ laidMetH Tryd.prog Rows.fracAllRow.laid w) ∧ sizedMet enc Tryd.prog Tryd.f7 (OpenSpec.ofChange Rows.fracAllSpec) false w args)
      (Rows.fracAllSpec.post enc Tryd.prog Tryd.f7 false true false false) := by
  refine returnsInHanded_of_change_and (C := Tryd.checked) (X := fun w _ => laidMetH Tryd.prog Rows.fracAllRow.laid w) (fun _ _ _ hh h => h.of_heap hh) own started (by kernel_rfl) Tryd.func7
    (ChangeSpec.witness_shaped (enc := enc) (C := Tryd.checked) (os := os) (X := fun w _ => laidMetH Tryd.prog Rows.fracAllRow.laid w) false (World.doorLaid Tryd.prog 24 os) #[.slice none 0 0] 8 rfl (World.shaped_of_RefB (by kernel_rfl) (by kernel_rfl)) (by kernel_rfl) (by kernel_rfl) (by kernel_rfl) (door_met os _)) ?_
  intro W base args ds gs before hval0 hW _ _ hL _
  have hval : ∀ (j : Nat) t v, Tryd.f7.params[j]? = some t → args[j]? = some v → Value.okWide Tryd.prog W .any base t v := hval0
  have hW' := hW
  obtain ⟨p, q, hA0, hV, rfl, hfz, hnd⟩ := hW
  have hA : DataW.TrodAll enc Tryd.prog W 0 (fun _ => true) true Tryd.f7.params.toList args.toList ds p := hA0
  rw [Tryd.params7] at hA hval
  obtain ⟨v0, vs0, d0, ds0, p0, q0, hargs, rfl, rfl, h0, r0⟩ := trodAll_cons hA
  obtain ⟨rfl, rfl, rfl⟩ := trodAll_nil r0
  obtain rfl : args = #[v0] := by cases args; simp_all
  obtain ⟨rfl, rfl⟩ := trodVars_none hV
  have k0 := h0
  have lt0 : ∀ x ∈ p0, x.block < W.heap.size := by obtain ⟨m, hm⟩ := k0; exact DataW.trod_lt m _ _ _ hm
  obtain ⟨a0, n0, c0, rfl, w0⟩ := open_fracs Tryd.underlying36 Tryd.underlying23 (by kernel_rfl) (by kernel_rfl) Tryd.underlying2 Tryd.underlying2 (hval 0 36 v0 rfl rfl) h0
  clear h0
  clear hA0 hval0
  refine (walk a0 n0 c0 W w0).mono fun e W' ⟨he, bel⟩ => ?_
  subst he
  exact ⟨_, rfl, _, _, _, [], _, [], hW', trodAll_mk1 (shut_bool Tryd.underlying4 _), (trodAll_cons_mk (Below.trod laidOut (by kernel_rfl) (of_decide_eq_true (by kernel_rfl)) k0 bel lt0) trodAll_mk0), rfl, bel.frame _, fun h => by cases h⟩
theorem over : Rows.fracAllRow.holds Tryd.pinned (OpenSpec.ofChange Rows.fracAllSpec) :=
  OpenClaim.holds_of_wide 7 Tryd.f7 rfl rfl rfl rfl rfl rfl rfl ⟨rfl, rfl, rfl, rfl, rfl⟩ rfl rfl rfl rfl rfl (by kernel_rfl) Tryd.func7 (by kernel_rfl)
    (of_decide_eq_true (by kernel_rfl)) (by unfold Func.isWrapper; first | (rw [if_pos (by decide +kernel)]; kernel_rfl) | (rw [if_neg (by decide +kernel)]; exact ⟨rfl, rfl⟩))
    (fun os started H enc _ => lifted os started H enc)
theorem card : Claim7.holds Tryd.pinned (.plain (OpenSpec.ofChange Rows.fracAllSpec)) Rows.fracAllCard :=
  Claim7.holds_tied_plain_at .later [] [.data, .data, .data] true _ false
    over (fun _ h => by cases h) (by kernel_rfl) (fun _ h => by cases h) fracAll_row_tie rfl ⟨rfl, rfl⟩ (by kernel_rfl) rfl
    (fun f fn hf hfn => by
      obtain rfl : f = 7 := Option.some.inj ((show Tryd.prog.funcNamed Rows.fracAllRow.func = some 7 by kernel_rfl).symm.trans hf) |>.symm
      obtain rfl : fn = Tryd.f7 := (Option.some.inj (Tryd.func7.symm.trans hfn)).symm
      exact ⟨by kernel_rfl, fun j t ht => by
        rw [Tryd.params7] at ht
        have hm : t ∈ [36] := by simpa using Array.mem_of_getElem? ht
        have hall : ([36].all fun u => !Tryd.prog.wantsStandIn u) = true := by kernel_rfl
        exact (show Tryd.prog.wantsStandIn t = false by simpa using List.all_eq_true.1 hall t hm)⟩)
    (by kernel_rfl)

end Go.Proofs.YtnfhkgdgkfanhaaDoor.all
namespace Go.Proofs.YtnfhkgdgkfanhaaDoor
theorem FracAll_holds : Rows.FracAllCardSaid := all.card
end Go.Proofs.YtnfhkgdgkfanhaaDoor
