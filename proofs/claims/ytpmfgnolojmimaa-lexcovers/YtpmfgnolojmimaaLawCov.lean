/- Proved: for every text of at most 5000 bytes each token stands where it says, they do not overlap, and what lies between them has no tokens; or there is an error at a place of the text, and no token (longer texts are let by). -/
import Derived.Test.YtpmfgnolojmimaaRows
import Derived.Test.YtpmfgnolojmimaaLAwk
import Derived.Test.YtpmfgnolojmimaaLFact
import Derived.Test.YtpmfgnolojmimaaLCov
import Derived.Test.YtpmfgnolojmimaaLCovN
import Derived.Test.YtpmfgnolojmimaaLOpn
namespace Go.Proofs.Ytpmfgnolojmimaa
theorem skp_take : ∀ (b : Bool) (r : List UInt8), skp b (r.take (skp b r)) = skp b r
  | b, [] => by cases b <;> rfl
  | true, c :: r => by
    have ih := skp_take (decide (kd c.toNat ≠ 2)) r
    simp only [skp]
    rw [Nat.add_comm 1, List.take_succ_cons]
    simp only [skp]
    rw [ih]
    omega
  | false, c :: r => by
    have h1 := skp_take true r
    have h2 := skp_take false r
    by_cases k3 : kd c.toNat = 3
    · have e : skp false (c :: r) = skp true r + 1 := by simp only [skp, if_pos k3]; omega
      rw [e, List.take_succ_cons]
      simp only [skp, if_pos k3]
      omega
    · by_cases k12 : kd c.toNat = 1 ∨ kd c.toNat = 2
      · have e : skp false (c :: r) = skp false r + 1 := by simp only [skp, if_neg k3, if_pos k12]; omega
        rw [e, List.take_succ_cons]
        simp only [skp, if_neg k3, if_pos k12]
        omega
      · have e : skp false (c :: r) = 0 := by simp only [skp, if_neg k3, if_neg k12]
        rw [e]
        rfl
/-- what is passed over has no token -/
theorem T_skip (r : List UInt8) (h : r.length ≤ 65536) : T (r.take (skp false r)) = .ok [⟨0, [], 0, (skp false r : Nat)⟩] := by
  have hs := skp_le false r
  have hl : (r.take (skp false r)).length = skp false r := by rw [List.length_take]; omega
  unfold T
  rw [if_neg (by omega), tk_eq, skp_take, List.drop_of_length_le (by omega), Nat.zero_add]
  rfl
/-- what tokens of bytes are like -/
def Cov : List UInt8 → Nat → List Tok → Prop
  | _, _, [] => False
  | r, p, t :: M => ∃ a, t.p = ((p + a : Nat) : Int) ∧ a + t.s.length ≤ r.length ∧ t.s = (r.drop a).take t.s.length ∧ T (r.take a) = .ok [⟨0, [], 0, (a : Nat)⟩] ∧ (t.k = 0 ↔ M = []) ∧ (M = [] → a + t.s.length = r.length) ∧ (M ≠ [] → Cov (r.drop (a + t.s.length)) (p + a + t.s.length) M)
theorem cov_of : ∀ (L : List Tok) (r : List UInt8) (p : Nat), r.length ≤ 65536 → tk r p = .ok L → Cov r p L
  | [], r, p, hl, h => by
    have := (tk_len r.length r p [] (Nat.le_refl _) h).1
    simp at this
  | t :: M, r, p, hl, h => by
    rcases tk_cons h with ⟨e, hs⟩ | ⟨t', M', e, h1, h2, h3, h4, h5, h6, h7⟩
    · simp only [List.cons.injEq] at e
      obtain ⟨rfl, rfl⟩ := e
      refine ⟨r.length, rfl, by simp, by simp, ?_, by simp, fun _ => by simp, fun h => absurd rfl h⟩
      have := T_skip r hl
      rw [hs] at this
      exact this
    · simp only [List.cons.injEq] at e
      obtain ⟨rfl, rfl⟩ := e
      have hM := (tk_len _ _ _ M (Nat.le_refl _) h7).1
      have hne : M ≠ [] := fun e => by rw [e] at hM; simp at hM
      exact ⟨skp false r, h3, h6, h4, T_skip r hl, ⟨fun h => absurd h h2, fun h => absurd h hne⟩, fun h => absurd h hne, fun _ => cov_of M _ _ (by rw [List.length_drop]; omega) h7⟩
/-- where what lies ahead of a token begins -/
def bg (L : List Tok) : Nat → Nat
  | 0 => 0
  | i + 1 => (L.getD i t0).p.toNat + (L.getD i t0).s.length
theorem cov_at (l : List UInt8) (L : List Tok) (h : Cov l 0 L) : ∀ i, i < L.length → Cov (l.drop (bg L i)) (bg L i) (L.drop i)
  | 0, hi => by simpa [bg] using h
  | i + 1, hi => by
    have ih := cov_at l L h i (by omega)
    have e : L.drop i = L.getD i t0 :: L.drop (i + 1) := by
      rw [List.drop_eq_getElem_cons (by omega), List.getD_eq_getElem?_getD, List.getElem?_eq_getElem (by omega), Option.getD_some]
    rw [e] at ih
    obtain ⟨a, h1, _, _, _, _, _, h7⟩ := ih
    have h8 := h7 (by intro e; have := congrArg List.length e; simp at this; omega)
    have e2 : bg L (i + 1) = bg L i + a + (L.getD i t0).s.length := by show (L.getD i t0).p.toNat + _ = _; rw [h1, Int.toNat_natCast]
    rw [e2]
    rw [List.drop_drop] at h8
    rw [Nat.add_assoc] at h8 ⊢
    exact h8
theorem bg_fact (l : List UInt8) (L : List Tok) (h : Cov l 0 L) (i : Nat) (hi : i < L.length) (hb : bg L i ≤ l.length) :
    bg L i ≤ (L.getD i t0).p.toNat ∧ (L.getD i t0).p = ((L.getD i t0).p.toNat : Int) ∧ (L.getD i t0).p.toNat + (L.getD i t0).s.length ≤ l.length ∧ (L.getD i t0).s = (l.drop (L.getD i t0).p.toNat).take (L.getD i t0).s.length ∧
    (∃ x, T ((l.drop (bg L i)).take ((L.getD i t0).p.toNat - bg L i)) = .ok [x]) ∧ ((L.getD i t0).k = 0 ↔ i = L.length - 1) ∧ (i = L.length - 1 → bg L (i + 1) = l.length) := by
  have hc := cov_at l L h i hi
  have e : L.drop i = L.getD i t0 :: L.drop (i + 1) := by
    rw [List.drop_eq_getElem_cons (by omega), List.getD_eq_getElem?_getD, List.getElem?_eq_getElem (by omega), Option.getD_some]
  rw [e] at hc
  obtain ⟨a, h1, h2, h3, h4, h5, h6, _⟩ := hc
  have hp : (L.getD i t0).p.toNat = bg L i + a := by rw [h1, Int.toNat_natCast]
  have hd : L.drop (i + 1) = [] ↔ i = L.length - 1 := by rw [List.drop_eq_nil_iff]; omega
  rw [List.length_drop] at h2 h6
  rw [hp]
  refine ⟨by omega, h1, by omega, ?_, ⟨_, by rw [Nat.add_sub_cancel_left]; exact h4⟩, h5.trans hd, fun hl => ?_⟩
  · rw [List.drop_drop] at h3
    exact h3
  · have := h6 (hd.2 hl)
    show (L.getD i t0).p.toNat + _ = _
    rw [hp]
    omega
theorem bg_le (l : List UInt8) (L : List Tok) (h : Cov l 0 L) : ∀ i, i ≤ L.length → bg L i ≤ l.length
  | 0, _ => Nat.zero_le _
  | i + 1, hi => (bg_fact l L h i (by omega) (bg_le l L h i (by omega))).2.2.1
theorem piece_by {w : World} {b : Addr} {n cap : Nat} {l : List UInt8} (h : By w (.slice (some b) n cap) l) {q p : Nat} (hq : q ≤ p) (hp : p ≤ l.length) : By w (.slice (if cap = q then some b else some (b.add q)) (p - q) (cap - q)) ((l.drop q).take (p - q)) := by
  obtain ⟨a, cap', e, hc, h⟩ := h
  injection e with e1 e2 e3
  subst e1 e3
  have hl : ((l.drop q).take (p - q)).length = p - q := by rw [List.length_take, List.length_drop]; omega
  refine ⟨_, _, by rw [hl], by omega, fun k hk => ?_⟩
  rw [hl] at hk
  rw [if_neg (by omega)]
  obtain ⟨ad, e, hb, hcell⟩ := h (q + k) (by omega)
  injection e with e
  subst e
  refine ⟨_, rfl, by rw [add_block]; exact hb, ?_⟩
  rw [Addr.add_add, hcell]
  congr 3
  rw [List.getD_eq_getElem?_getD, List.getD_eq_getElem?_getD, List.getElem?_take_of_lt hk, List.getElem?_drop]
theorem conv_by {w : World} {v : Value} {l : List UInt8} (h : By w v l) {t u : TypeId} (hs : Try.prog.underlying t = some (.slice 5)) (hu : Try.prog.underlying u = some .string) : (convert t u v).run Try.prog w = .ok (.string (sv l)) w := by
  obtain ⟨a, cap, rfl, _, h⟩ := h
  cases a with
  | none =>
    have : l = [] := by
      cases l with
      | nil => rfl
      | cons c r => obtain ⟨ad, e, _⟩ := h 0 (by simp); cases e
    subst this
    exact run_convert_bytes_nil w t 5 hs Try.underlying5 _ _ u hu
  | some ad =>
    refine run_convert_bytes_back (P := Try.prog) w t u 5 ad cap l hs Try.underlying5 hu (fun j hj => ?_)
    obtain ⟨ad', e, _, hc⟩ := h j hj
    injection e with e
    subst e
    rw [hc, List.getD_eq_getElem?_getD, List.getElem?_eq_getElem hj]
    rfl
end Go.Proofs.Ytpmfgnolojmimaa
namespace Go.Proofs.Ytpmfgnolojmimaa.cov
open Go.ChangeShapes Go.WideShapes Go.ChangeAt Go.RowKit Go.Joins
set_option linter.unusedVariables false
set_option maxRecDepth 10000
theorem walk (v0 : Value) (l : List UInt8) (w : World) (h : By w v0 l) : Calls Try.prog 6 #[v0] w fun e w' => e = .returned (.bool true) ∧ Below w.heap.size w w' := by
  obtain ⟨a, cap, rfl, hcap, hcell⟩ := id h
  by_cases hn : 5000 < l.length
  · exact walk0 a l.length cap w hn
  · have A : ∀ w' v l', l'.length ≤ 5000 → By w' v l' → Calls Try.prog 9 #[v] w' (Tp (T l') w') := fun w' v l' hl h => toks_any v l' w' (by omega) h
    cases hT : T l with
    | error y =>
      obtain ⟨e, m⟩ := y
      obtain ⟨he, hm⟩ := T_err hT
      have B := A w _ l (by omega) h
      rw [hT] at B
      refine walkE a l.length cap m e w (by omega) (by simp; omega) hm (hide (B.mono ?_)) (hide awake_any)
      rintro _ w' ⟨u, rfl, h1, _, h3⟩
      obtain ⟨b, cp, rfl⟩ := h1.shape
      exact ⟨b, cp, rfl, h3⟩
    | ok L =>
      have hlen := T_len hT
      have hcov := cov_of L l 0 (by omega) (T_ok hT).2
      cases a with
      | none =>
        have hl : l = [] := by
          cases l with
          | nil => rfl
          | cons c r => obtain ⟨ad, e, _⟩ := hcell 0 (by simp); cases e
        subst hl
        have hb : ∀ w', By w' (.slice none 0 cap) [] := fun w' => ⟨none, cap, rfl, Nat.zero_le _, fun k hk => by simp at hk⟩
        refine walkN cap w (hide fun w' hk => (A w' _ [] (by simp) (hb w')).mono ?_) (hide fun w' => conv_by (hb w') Try.underlying22 Try.underlying9) (hide awake_any)
        rintro _ w'' ⟨u, rfl, h1, _, h3⟩
        have e1 : tl (T []) = [⟨0, [], 0, 0⟩] := rfl
        rw [e1] at h1
        obtain ⟨a', cp, rfl, _, hc⟩ := h1
        obtain ⟨ad, rfl, hb', c0, c1, c2, c3⟩ := hc 0 (by simp)
        have e : ad.add (0 * 4) = ad := by simp [Addr.add]
        rw [e] at c0 c1 c2 c3
        exact ⟨ad, cp, rfl, ⟨hb', c0, c1, c2, c3⟩, h3⟩
      | some b =>
        have F := fun i (hi : i < L.length) => bg_fact l L hcov i hi (bg_le l L hcov i (by omega))
        refine walk1 b l.length cap L.length (fun i => (L.getD i t0).k) (fun i => (L.getD i t0).n) (fun i => (L.getD i t0).p.toNat) (bg L) (fun i => sv (L.getD i t0).s) w (by omega) hcap hlen.1 (by omega)
          (hide ?_) (hide fun i hi w' hk => ?_) (hide fun i hi w' hk => ?_) (hide rfl) (hide fun i hi => ?_) (hide ?_) (hide fun i hi => (F i hi).2.2.2.2.2.1) (hide awake_any)
        · have B := A w _ l (by omega) h
          rw [hT] at B
          refine B.mono ?_
          rintro _ w' ⟨u, rfl, h1, _, h3⟩
          obtain ⟨a', cp, rfl, _, hc⟩ := h1
          obtain ⟨ad, rfl, hb, _⟩ := hc 0 hlen.1
          refine ⟨ad, cp, rfl, fun k hk => ?_, h3⟩
          obtain ⟨ad', e, hb', c0, c1, c2, c3⟩ := hc k hk
          injection e with e
          subst e
          have hp := (F k hk).2.1
          exact ⟨hb', c0, c1, c2, by rw [c3]; exact congrArg _ (congrArg _ hp)⟩
        · obtain ⟨f1, _, f3, _, ⟨x, fx⟩, _, _⟩ := F i hi
          have B := A w' _ _ (by rw [List.length_take, List.length_drop]; omega) (piece_by (h.keep hk) f1 (by omega))
          rw [fx] at B
          refine B.mono ?_
          rintro _ w'' ⟨u, rfl, h1, _, h3⟩
          obtain ⟨a', cp, rfl⟩ := h1.shape
          exact ⟨a', cp, rfl, h3⟩
        · obtain ⟨f1, _, f3, f4, _⟩ := F i hi
          have B := conv_by (piece_by (h.keep hk) (Nat.le_add_right (L.getD i t0).p.toNat (L.getD i t0).s.length) f3) (t := 22) (u := 9) Try.underlying22 Try.underlying9
          rw [Nat.add_sub_cancel_left, ← f4] at B
          rw [sv_size]
          exact B
        · obtain ⟨f1, _, f3, _⟩ := F i hi
          rw [sv_size]
          exact ⟨f1, f3, rfl⟩
        · obtain ⟨k, hk⟩ : ∃ k, L.length = k + 1 := ⟨L.length - 1, by omega⟩
          rw [hk]
          exact (F k (by omega)).2.2.2.2.2.2 (by omega)
theorem laidOut : laidOutB Try.prog = true := by kernel_rfl
theorem own : ownKnob Try.prog.godebug = none := by kernel_rfl
set_option maxHeartbeats 400000 in
set_option maxRecDepth 100000 in
theorem lifted (os : Os) (started : os.Started) (H : Type) (enc : TypeId × Value → H) :
    ReturnsInHanded {} Try.checked os 6 .any (Rows.lexCoversSpec.pre6 enc Try.prog Try.f6 Rows.lexCoversRow.domain false) (Rows.lexCoversSpec.post enc Try.prog Try.f6 false true false false) := by
  refine returnsInHanded_of_change (C := Try.checked) own started (by kernel_rfl) Try.func6
    (ChangeSpec.witness6 (enc := enc) (C := Try.checked) false ⟨#[], #[.slice none 0 0], []⟩ 8 (by kernel_rfl) (by kernel_rfl) (by kernel_rfl) (by kernel_rfl)) ?_
  intro W base args ds gs before hval0 hW hcnd _
  have hval : ∀ (j : Nat) t v, Try.f6.params[j]? = some t → args[j]? = some v → Value.okWide Try.prog W .any base t v := hval0
  have hW' := hW
  obtain ⟨p, q, hA0, hV, rfl, hfz, hnd⟩ := hW
  have hA : DataW.TrodAll enc Try.prog W 0 (fun _ => true) true Try.f6.params.toList args.toList ds p := hA0
  rw [Try.params6] at hA hval
  obtain ⟨v0, vs0, d0, ds0, p0, q0, hargs, rfl, rfl, h0, r0⟩ := trodAll_cons hA
  obtain ⟨rfl, rfl, rfl⟩ := trodAll_nil r0
  obtain rfl : args = #[v0] := by cases args; simp_all
  obtain ⟨rfl, rfl⟩ := trodVars_none hV
  have k0 := h0
  have lt0 : ∀ x ∈ p0, x.block < W.heap.size := by obtain ⟨m, hm⟩ := k0; exact DataW.trod_lt m _ _ _ hm
  obtain ⟨L0, w0⟩ := open_bytes Try.underlying22 Try.underlying5 (by kernel_rfl) (hval 0 22 v0 rfl rfl) h0
  clear h0
  clear hA0 hval0
  refine (walk v0 L0 W w0).mono fun e W' ⟨he, bel⟩ => ?_
  subst he
  exact ⟨_, rfl, _, _, _, [], _, [], hW', trodAll_mk1 (shut_bool Try.underlying4 _), (trodAll_cons_mk (Below.trod laidOut (by kernel_rfl) (of_decide_eq_true (by kernel_rfl)) k0 bel lt0) trodAll_mk0), rfl, bel.frame _, fun h => by cases h⟩
theorem over : Rows.lexCoversRow.holds Try.pinned (OpenSpec.ofChange Rows.lexCoversSpec) :=
  OpenClaim.holds_of_wide 6 Try.f6 rfl rfl rfl rfl rfl rfl rfl ⟨rfl, rfl, rfl, rfl, rfl⟩ rfl rfl rfl rfl rfl (by kernel_rfl) Try.func6 (by kernel_rfl)
    (of_decide_eq_true (by kernel_rfl)) (by unfold Func.isWrapper; first | (rw [if_pos (by decide +kernel)]; kernel_rfl) | (rw [if_neg (by decide +kernel)]; exact ⟨rfl, rfl⟩))
    (fun os started H enc _ => lifted os started H enc)

end Go.Proofs.Ytpmfgnolojmimaa.cov
namespace Go.Proofs.Ytpmfgnolojmimaa
theorem LexCovers_holds : Rows.LexCoversSaid := cov.over
end Go.Proofs.Ytpmfgnolojmimaa
