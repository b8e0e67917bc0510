/- NetNodes: a network of two texts' nodes, one behind the other, has the nodes of both, as long as there may be so many. For every two texts (those of more than 2000 bytes are let by) the law's call returns true, and both read behind it as they read before. -/
import Derived.Test.YtdnlghenlmjodaaDoorCards
import Derived.Test.YtdnlghenlmjodaaDoorTie
import Derived.Test.YtdnlghenlmjodaaDoorNAw
import Derived.Test.YtdnlghenlmjodaaDoorNBnd2
import Derived.Test.YtdnlghenlmjodaaDoorNNo
import Derived.Test.YtdnlghenlmjodaaDoorNErr
import Derived.Test.YtdnlghenlmjodaaDoorLOpn
import Derived.LaidLaws
import Derived.LaidHandle
import Derived.SevenTiedAt
namespace Go.Proofs.YtdnlghenlmjodaaDoor.nodes
open Go.ChangeShapes Go.WideShapes Go.ChangeAt Go.RowKit
open Go.WideMaps Go.WideElems
set_option linter.unusedVariables false
set_option linter.unusedSimpArgs false
set_option maxRecDepth 10000
/-- the numbers of what Parse answers -/
def nE : Except Er (List D) → Int
  | .error x => x.1
  | .ok _ => 0
def rl : D → Nat
  | .row _ _ L => L.length
  | _ => 0
def il : D → Int
  | .val (.int .i64 n) => n
  | _ => 0
def nn (k : Nat) : Except Er (List D) → Nat
  | .error _ => 0
  | .ok cs => rl (cs.getD k (dI 0))
def ni (k : Nat) : Except Er (List D) → Int
  | .error _ => 0
  | .ok cs => il (cs.getD k (dI 0))
theorem rd_len {w : World} {e z : Nat} {L : List (List D)} {P : Nat → Prop} {v : Value} (h : Rd w (.row e z L) P v) : ∃ a c, v = .slice a L.length c := by
  simp only [Rd] at h
  obtain ⟨xs, h1, _⟩ := h
  rcases h1.2 with ⟨rfl, h0⟩ | ⟨g, cap, _, rfl, _⟩
  · exact ⟨none, 0, by rw [h0]⟩
  · exact ⟨_, cap, rfl⟩
theorem rd_num {w : World} {n : Int} {P : Nat → Prop} {v : Value} (h : Rd w (dI n) P v) : v = .int .i64 n := by
  simp only [dI, Rd] at h
  exact h.1
theorem pp_of {v : Value} {l : List UInt8} {w : World} (hl : l.length ≤ 65536) (h : Calls Tryd.prog 4 #[v] w (ParseP (N l) w)) : Calls Tryd.prog 4 #[v] w (PP (nE (N l)) (nn 5 (N l)) (nn 6 (N l)) (ni 7 (N l)) (ni 8 (N l)) w) := by
  refine h.mono ?_
  cases hN : N l with
  | error x =>
    rintro e w' ⟨hk, rfl⟩
    exact ⟨hk, 0, 0, 0, 0, 0, none, 0, none, 0, x.2, rfl⟩
  | ok cs =>
    rintro e w' ⟨hk, u0, u1, u2, u3, u4, u5, u6, u7, u8, rfl, _, hrd⟩
    obtain ⟨a0, a1, a2, a3, a4, Ns, Ss, a5, a6, rfl, _⟩ := net_ok hl hN
    simp only [Rds] at hrd
    obtain ⟨_, _, e0, r0, _, _, e1, r1, _, _, e2, r2, _, _, e3, r3, _, _, e4, r4, _, _, e5, r5, _, _, e6, r6, _, _, e7, r7, _, _, e8, r8, e9⟩ := hrd
    simp only [List.cons.injEq] at e0
    obtain ⟨rfl, rfl⟩ := e0
    simp only [List.cons.injEq] at e1
    obtain ⟨rfl, rfl⟩ := e1
    simp only [List.cons.injEq] at e2
    obtain ⟨rfl, rfl⟩ := e2
    simp only [List.cons.injEq] at e3
    obtain ⟨rfl, rfl⟩ := e3
    simp only [List.cons.injEq] at e4
    obtain ⟨rfl, rfl⟩ := e4
    simp only [List.cons.injEq] at e5
    obtain ⟨rfl, rfl⟩ := e5
    simp only [List.cons.injEq] at e6
    obtain ⟨rfl, rfl⟩ := e6
    simp only [List.cons.injEq] at e7
    obtain ⟨rfl, rfl⟩ := e7
    simp only [List.cons.injEq] at e8
    obtain ⟨rfl, rfl⟩ := e8
    obtain rfl := rd_num r0
    obtain rfl := rd_num r1
    obtain rfl := rd_num r2
    obtain rfl := rd_num r3
    obtain rfl := rd_num r4
    obtain ⟨aN, cN, rfl⟩ := rd_len r5
    obtain ⟨aS, cS, rfl⟩ := rd_len r6
    obtain rfl := rd_num r7
    obtain rfl := rd_num r8
    exact ⟨hk, a0, a1, a2, a3, a4, aN, cN, aS, cS, 0, rfl⟩
theorem er_ne {l : List UInt8} {x : Er} (h : N l = .error x) : (x.1 != 0) = true ∧ (x.1 == 0) = false := by
  have : x.1 ≠ 0 := by
    unfold N at h
    cases hT : T l with
    | error y =>
      rw [hT] at h
      injection h with h
      subst h
      have := (T_err (e := y.1) (a := y.2) hT).1
      simp only
      omega
    | ok L =>
      rw [hT] at h
      simp only at h
      cases hp : pNet L with
      | ok q => rw [hp] at h; cases h
      | error y =>
        rw [hp] at h
        injection h with h
        subst h
        have := err_net hp
        omega
  exact ⟨by simpa using this, by simpa using this⟩
theorem walk (v0 : Value) (A : List UInt8) (v1 : Value) (B : List UInt8) (w : World) (hA : By w v0 A) (hB : By w v1 B) (hg : Gl w) : Calls Tryd.prog 3 #[v0, v1] w fun e w' => e = .returned (.bool true) ∧ Below w.heap.size w w' := by
  obtain ⟨a, c, rfl⟩ := hA.shape
  obtain ⟨b, d, rfl⟩ := hB.shape
  by_cases hl : 2000 < A.length ∨ 2000 < B.length
  · exact long a b A.length B.length c d w hl
  · have hAl : A.length ≤ 2000 := by omega
    have hBl : B.length ≤ 2000 := by omega
    have l1 : (hd0 ++ 10 :: A).length ≤ 65536 := by simp [hd0]; omega
    have l2 : (hd0 ++ 10 :: B).length ≤ 65536 := by simp [hd0]; omega
    have l3 : (hd0 ++ 10 :: A ++ 10 :: B).length ≤ 65536 := by simp [hd0]; omega
    refine body a b A.length B.length c d A B w hAl hBl hA hB hAl hBl _ _ _ _ _ _ _ _ _ _ _ _ _ _ _ (hasArt A) ?_ ?_
      (hide fun w' v hk h => pp_of l1 (parse_any v _ w' l1 h (hg.keep hk)))
      (hide fun w' v hk h => pp_of l2 (parse_any v _ w' l2 h (hg.keep hk)))
      (hide fun w' v hk h => pp_of l3 (parse_any v _ w' l3 h (hg.keep hk)))
      (hide fun w' hk => art_any _ A w' hAl (hA.keep hk))
      (hide fun w' hk => awake_any w' (hg.keep hk)) ?_
    · cases hN : N (hd0 ++ 10 :: A) with
      | error x => exact Nat.zero_le _
      | ok cs => obtain ⟨a0, a1, a2, a3, a4, Ns, Ss, a5, a6, rfl, _, _, _, h4, _⟩ := net_ok l1 hN; exact h4
    · cases hN : N (hd0 ++ 10 :: B) with
      | error x => exact Nat.zero_le _
      | ok cs => obtain ⟨a0, a1, a2, a3, a4, Ns, Ss, a5, a6, rfl, _, _, _, h4, _⟩ := net_ok l2 hN; exact h4
    · cases hX : N (hd0 ++ 10 :: A) with
      | error x => exact .inl (er_ne hX)
      | ok cm =>
        refine .inr ?_
        cases hY : N (hd0 ++ 10 :: B) with
        | error x => exact .inl ⟨rfl, er_ne hY⟩
        | ok cn =>
          refine .inr ?_
          by_cases h1 : 0 < nn 6 (.ok cm)
          · exact .inl ⟨rfl, rfl, h1⟩
          refine .inr ?_
          have h1 : nn 6 (.ok cm) = 0 := by omega
          by_cases h2 : ni 7 (.ok cm) = 0
          · refine .inr ?_
            by_cases h3 : ni 8 (.ok cm) = 0
            · refine .inr ?_
              by_cases h4 : hasArt A = true
              · exact .inl ⟨rfl, rfl, h1, h2, h3, h4⟩
              · refine .inr ?_
                have h4 : hasArt A = false := by simpa using h4
                obtain ⟨La, Lb, Sa, Sb, x, y, x1, y1, rfl, rfl, g1, g2⟩ := nod hAl hBl hX hY (hasArt_no h4)
                by_cases h5 : 12 < La.length + Lb.length
                · obtain ⟨p, hp⟩ := g1 h5
                  exact .inl ⟨rfl, rfl, h1, h2, h3, h4, h5, by rw [hp]; rfl⟩
                · obtain ⟨Lc, Sc, x', y', hp, q1, q2⟩ := g2 (by omega)
                  exact .inr ⟨rfl, rfl, h1, h2, h3, h4, (by show La.length + Lb.length ≤ 12; omega), by rw [hp]; rfl, by rw [hp]; exact q1, by rw [hp]; exact q2⟩
            · exact .inl ⟨rfl, rfl, h1, h2, by simpa using h3, by simpa using h3⟩
          · exact .inl ⟨rfl, rfl, h1, by simpa using h2, by simpa using h2⟩
theorem laidOut : laidOutB Tryd.prog = true := by kernel_rfl
theorem own : ownKnob Tryd.prog.godebug = none := by kernel_rfl
theorem et : Tryd.prog.globalNamed "errors.errorType" = some 0 := by kernel_rfl
theorem rt : (Tryd.prog.cutTypes.find? (·.1 == "internal/reflectlite.rtype")).map (·.2) = some 91 := by kernel_rfl
theorem oneRow : ((List.range 200).filter fun t => Tryd.prog.rowNamed t [101, 114, 114, 111, 114]) = [36] := by kernel_rfl
theorem tsize : Tryd.prog.types.size = 200 := by kernel_rfl
theorem gl_of {W : World} (h : laidMetH Tryd.prog Rows.netNodesRow.laid W) : Gl W := by
  have h' : laidMet Tryd.prog [] W ∧ handlesMet Tryd.prog Rows.netNodesRow.laid W := h
  obtain ⟨name, u, ty, e1, e2, e3, e4, e5⟩ := h'.2 _ (List.mem_singleton.2 rfl)
  have en : name = [101, 114, 114, 111, 114] := (Option.some.inj e1).symm
  subst en
  obtain rfl := Option.some.inj (rt.symm.trans e2)
  have hm : ty ∈ (List.range 200).filter fun t => Tryd.prog.rowNamed t [101, 114, 114, 111, 114] := List.mem_filter.2 ⟨List.mem_range.2 (by rw [← tsize]; exact e3), e4⟩
  rw [oneRow] at hm
  obtain rfl := List.mem_singleton.1 hm
  have hh : typeHandle Tryd.prog 36 = .pointer (some ⟨1, 36, none⟩) := by kernel_rfl
  rw [hh] at e5
  simpa [Gl] using World.var?_cell et e5 0
noncomputable def laidWorld (os : Os) : World :=
  let w0 := World.holding Tryd.prog os ⟨#[], #[], []⟩
  { w0 with heap := w0.heap.modify 0 fun
      | .cells _ t frozen => .cells #[.iface 91 (.agg #[.pointer (some ⟨1, 36, none⟩)])] t frozen
      | o => o }
theorem laidWorld_met (os : Os) (args : Array Value) : laidMetH Tryd.prog Rows.netNodesRow.laid ((laidWorld os).forCall (fun _ _ => 0) ⟨#[], args, []⟩).memory :=
  laidMetH_of_parts (laidMet_nil _ _) (by kernel_rfl)
set_option maxHeartbeats 400000 in
set_option maxRecDepth 100000 in
theorem lifted (os : Os) (started : os.Started) (H : Type) (enc : TypeId × Value → H) :
    ReturnsInHanded {} Tryd.checked os 3 .any (fun w args => (Rows.netNodesSpec.pre enc Tryd.prog Tryd.f3 [] false w args ∧ laidMetH Tryd.prog Rows.netNodesRow.laid w) ∧ sizedMet enc Tryd.prog Tryd.f3 (OpenSpec.ofChange Rows.netNodesSpec) false w args)
      (Rows.netNodesSpec.post enc Tryd.prog Tryd.f3 false true false false) := by
  refine returnsInHanded_of_change_and (C := Tryd.checked) (X := fun w _ => laidMetH Tryd.prog Rows.netNodesRow.laid w) (fun _ _ _ hh h => h.of_heap hh) own started (by kernel_rfl) Tryd.func3
    (ChangeSpec.witness_at (enc := enc) (C := Tryd.checked) (os := os) (X := fun w _ => laidMetH Tryd.prog Rows.netNodesRow.laid w) false (laidWorld os) #[.slice none 0 0, .slice none 0 0] 8 rfl (by kernel_rfl) (by kernel_rfl) (by kernel_rfl) (by kernel_rfl) (by kernel_rfl) (laidWorld_met os _)) ?_
  intro W base args ds gs before hval0 hW _ _ hL _
  have hval : ∀ (j : Nat) t v, Tryd.f3.params[j]? = some t → args[j]? = some v → Value.okWide Tryd.prog W .any base t v := hval0
  have hW' := hW
  obtain ⟨p, q, hA0, hV, rfl, hfz, hnd⟩ := hW
  have hA : DataW.TrodAll enc Tryd.prog W 0 (fun _ => true) true Tryd.f3.params.toList args.toList ds p := hA0
  rw [Tryd.params3] at hA hval
  obtain ⟨v0, vs0, d0, ds0, p0, q0, hargs, rfl, rfl, h0, r0⟩ := trodAll_cons hA
  obtain ⟨v1, vs1, d1, ds1, p1, q1, rfl, rfl, rfl, h1, r1⟩ := trodAll_cons r0
  obtain ⟨rfl, rfl, rfl⟩ := trodAll_nil r1
  obtain rfl : args = #[v0, v1] := by cases args; simp_all
  obtain ⟨rfl, rfl⟩ := trodVars_none hV
  have k0 := h0
  have lt0 : ∀ x ∈ p0, x.block < W.heap.size := by obtain ⟨m, hm⟩ := k0; exact DataW.trod_lt m _ _ _ hm
  obtain ⟨L0, w0⟩ := open_bytes Tryd.underlying22 Tryd.underlying5 (by kernel_rfl) (hval 0 22 v0 rfl rfl) h0
  clear h0
  have k1 := h1
  have lt1 : ∀ x ∈ p1, x.block < W.heap.size := by obtain ⟨m, hm⟩ := k1; exact DataW.trod_lt m _ _ _ hm
  obtain ⟨L1, w1⟩ := open_bytes Tryd.underlying22 Tryd.underlying5 (by kernel_rfl) (hval 1 22 v1 rfl rfl) h1
  clear h1
  clear hA0 hval0
  refine (walk v0 L0 v1 L1 W w0 w1 (gl_of hL)).mono fun e W' ⟨he, bel⟩ => ?_
  subst he
  exact ⟨_, rfl, _, _, _, [], _, [], hW', trodAll_mk1 (shut_bool Tryd.underlying4 _), (trodAll_cons_mk (Below.trod laidOut (by kernel_rfl) (of_decide_eq_true (by kernel_rfl)) k0 bel lt0) (trodAll_cons_mk (Below.trod laidOut (by kernel_rfl) (of_decide_eq_true (by kernel_rfl)) k1 bel lt1) trodAll_mk0)), rfl, bel.frame _, fun h => by cases h⟩
theorem over : Rows.netNodesRow.holds Tryd.pinned (OpenSpec.ofChange Rows.netNodesSpec) :=
  OpenClaim.holds_of_wide 3 Tryd.f3 rfl rfl rfl rfl rfl rfl rfl ⟨rfl, rfl, rfl, rfl, rfl⟩ rfl rfl rfl rfl rfl (by kernel_rfl) Tryd.func3 (by kernel_rfl)
    (of_decide_eq_true (by kernel_rfl)) (by unfold Func.isWrapper; first | (rw [if_pos (by decide +kernel)]; kernel_rfl) | (rw [if_neg (by decide +kernel)]; exact ⟨rfl, rfl⟩))
    (fun os started H enc _ => lifted os started H enc)
theorem card : Claim7.holds Tryd.pinned (.plain (OpenSpec.ofChange Rows.netNodesSpec)) Rows.netNodesCard :=
  Claim7.holds_tied_plain_at .later [] [.handle] true _ true
    over (fun _ h => by cases h) (by kernel_rfl) (fun _ h => by cases h) netNodes_row_tie rfl ⟨rfl, rfl⟩ (by kernel_rfl) rfl
    (fun f fn hf hfn => by
      obtain rfl : f = 3 := Option.some.inj ((show Tryd.prog.funcNamed Rows.netNodesRow.func = some 3 by kernel_rfl).symm.trans hf) |>.symm
      obtain rfl : fn = Tryd.f3 := (Option.some.inj (Tryd.func3.symm.trans hfn)).symm
      exact ⟨by kernel_rfl, fun j t ht => by
        rw [Tryd.params3] at ht
        have hm : t ∈ [22, 22] := by simpa using Array.mem_of_getElem? ht
        have hall : ([22, 22].all fun u => !Tryd.prog.wantsStandIn u) = true := by kernel_rfl
        exact (show Tryd.prog.wantsStandIn t = false by simpa using List.all_eq_true.1 hall t hm)⟩)
    (by kernel_rfl)

end Go.Proofs.YtdnlghenlmjodaaDoor.nodes
namespace Go.Proofs.YtdnlghenlmjodaaDoor
theorem NetNodes_holds : Rows.NetNodesCardSaid := nodes.card
end Go.Proofs.YtdnlghenlmjodaaDoor
