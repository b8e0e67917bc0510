/- Proved: a text may have just 65536 bytes, a word just 24, a number just 18 digits. -/
import Derived.Test.YtpmfgnolojmimaaRows
import Derived.Test.YtpmfgnolojmimaaLAwk
import Derived.Test.YtpmfgnolojmimaaLFact
import Derived.Test.YtpmfgnolojmimaaLLong
import Derived.Test.YtpmfgnolojmimaaLOpn
namespace Go.Proofs.Ytpmfgnolojmimaa.long
open Go.ChangeShapes Go.WideShapes Go.ChangeAt Go.RowKit Go.Joins
set_option linter.unusedVariables false
set_option maxRecDepth 10000
theorem own_gen (n g : Nat) (w : World) (cur : Array Value) (hn : n < 100000) (hs : cur.size = n + 1) (hc : ∀ j, j < n + 1 → cur[j]? = some (.int .u8 32)) (h : w.heap[g]? = some (.cells (cur.setIfInBounds 0 (.int .u8 55)) 5 (0, 0))) :
    w.ownsRow g 5 1 (.slice (some ⟨g, 0, none⟩) (n + 1) (n + 1)) (n + 1) (bc (55 :: List.replicate n 32)) := by
  refine ⟨by rw [bc_length]; simp, .inr ⟨g, n + 1, _, rfl, Nat.le_refl _, h, Nat.le_refl _, by unfold maxLen; omega, by rw [Array.size_setIfInBounds, hs]; omega, ?_⟩⟩
  apply List.ext_getElem?
  intro j
  unfold bc
  by_cases hj : j < n + 1
  · rw [List.getElem?_take_of_lt (by omega), Array.getElem?_toList, List.getElem?_map]
    cases j with
    | zero =>
      rw [Array.getElem?_setIfInBounds_self_of_lt (by omega)]
      rfl
    | succ j =>
      rw [Array.getElem?_setIfInBounds_ne (by omega), hc _ hj, List.getElem?_cons_succ, List.getElem?_replicate, if_pos (by omega)]
      rfl
  · rw [List.getElem?_eq_none (by rw [List.length_take, Array.length_toList, Array.size_setIfInBounds]; omega), List.getElem?_eq_none (by simp; omega)]
theorem tw_rep {P : UInt8 → Bool} {y : UInt8} (h : P y = false) (n : Nat) : tw P (List.replicate n y) = 0 := by
  unfold tw
  cases n with
  | zero => rfl
  | succ n => rw [List.replicate_succ, List.takeWhile_cons]; simp [h]
theorem skp_rep : ∀ n, skp false (List.replicate n 32) = n
  | 0 => rfl
  | n + 1 => by
    have k1 : kd (32 : UInt8).toNat = 1 := by decide
    rw [List.replicate_succ]
    simp only [skp, skp_rep n]
    rw [if_neg (by rw [k1]; decide), if_pos (.inl k1)]
    omega
theorem T_bl (n : Nat) (hn : n + 1 ≤ 65536) : T (55 :: List.replicate n 32) = .ok [⟨2, [55], 7, 0⟩, ⟨0, [], 0, ((n + 1 : Nat) : Int)⟩] := by
  have k5 : kd (55 : UInt8).toNat = 5 := by decide
  have es : skp false (55 :: List.replicate n 32) = 0 := by
    simp only [skp]
    rw [if_neg (by rw [k5]; decide), if_neg (by rw [k5]; decide)]
  have ee : en (55 :: List.replicate n 32) = 1 := by
    show 1 + tw (goes 55) (List.replicate n 32) = 1
    rw [tw_rep (by decide)]
  have e1 : one (55 :: List.replicate n 32) 0 = .ok ⟨2, [55], 7, 0⟩ := by
    have hx : (55 :: List.replicate n (32 : UInt8)).take 1 = [55] := by simp
    simp only [one]
    rw [if_neg (by rw [k5]; decide), if_pos k5, ee, if_neg (by decide), hx]
    rfl
  have e2 : tk (List.replicate n 32) 1 = .ok [⟨0, [], 0, ((n + 1 : Nat) : Int)⟩] := by
    rw [tk_eq, skp_rep, List.drop_of_length_le (by simp), Nat.add_comm 1 n]
    rfl
  unfold T
  rw [if_neg (by simp; omega), tk_eq, es, List.drop_zero, e1]
  simp only
  rw [if_neg (by decide)]
  show pre _ (tk (List.drop 1 (55 :: List.replicate n 32)) 1) = _
  rw [List.drop_succ_cons, List.drop_zero, e2]
  rfl
theorem T_c : T (List.replicate 24 97 ++ [32] ++ List.replicate 18 57) = .ok [⟨1, List.replicate 24 97, 0, 0⟩, ⟨2, List.replicate 18 57, 999999999999999999, 25⟩, ⟨0, [], 0, 43⟩] := by rfl
theorem T_d : T ([32, 32] ++ List.replicate 24 97 ++ [98]) = .error (4, 2) := by rfl
theorem T_e : T ([44] ++ List.replicate 18 57 ++ [57]) = .error (4, 1) := by rfl
theorem three (a b c : List UInt8) : (sv a ++ sv b ++ sv c).data.toList = a ++ b ++ c := by rw [sv_app, sv_app]; rfl
theorem walk (w : World) : Calls Try.prog 7 #[] w fun e w' => e = .returned (.bool true) ∧ Below w.heap.size w w' := by
  have X : ∀ w' v l, l.length ≤ 70000 → By w' v l → Calls Try.prog 9 #[v] w' (Tp (T l) w') := fun w' v l hl h => toks_any v l w' hl h
  have hl1 : (55 :: List.replicate 65535 (32 : UInt8)).length = 65536 := by rw [List.length_cons, List.length_replicate]
  refine walk1 w (55 :: List.replicate 65535 32) (hide fun w' cur hf h => own_gen 65535 _ w' cur (by decide) hf.1 hf.2 h) (hide hl1) (hide fun w' v h => ?_) (hide fun w' v h => ?_) (hide fun w' v h => ?_) (hide fun w' v h => ?_) (hide fun w' v h => ?_) (hide awake_any)
  · have Y := X w' v _ (by rw [hl1]; decide) h
    rw [T_bl 65535 (by decide)] at Y
    refine Y.mono ?_
    rintro _ w'' ⟨u, rfl, h1, hlo, h3⟩
    obtain ⟨a, cp, rfl, _, hc⟩ := h1
    obtain ⟨ad, rfl, hb, _, _, _, c3⟩ := hc 1 (by simp [tl])
    have e : ad.add (1 * 4) = ⟨ad.block, ad.off + 4, none⟩ := by simp [Addr.add]
    rw [e] at c3
    exact ⟨ad, cp, rfl, hlo ad _ _ rfl, hb, c3, h3⟩
  · have Y := X w' v _ (by rw [List.length_append, hl1]; decide) h
    have e : T (55 :: List.replicate 65535 32 ++ [32]) = .error (4, 65536) := by
      unfold T
      rw [if_pos (by rw [List.length_append, hl1]; decide)]
    rw [e] at Y
    refine Y.mono ?_
    rintro _ w'' ⟨u, rfl, h1, hlo, h3⟩
    exact ⟨u, rfl, h3⟩
  · rw [show (⟨#[32]⟩ : ByteArray) = sv [32] from rfl, three] at h
    have Y := X w' v _ (by decide) h
    rw [T_c] at Y
    refine Y.mono ?_
    rintro _ w'' ⟨u, rfl, h1, hlo, h3⟩
    obtain ⟨a, cp, rfl, _, hc⟩ := h1
    obtain ⟨ad, rfl, hb, _, _, c2, _⟩ := hc 1 (by simp [tl])
    have e : ad.add (1 * 4) = ⟨ad.block, ad.off + 4, none⟩ := by simp [Addr.add]
    rw [e] at c2
    exact ⟨ad, cp, rfl, hb, c2, h3⟩
  · rw [show (⟨#[98]⟩ : ByteArray) = sv [98] from rfl, show (⟨#[32, 32]⟩ : ByteArray) = sv [32, 32] from rfl, three] at h
    have Y := X w' v _ (by decide) h
    rw [T_d] at Y
    refine Y.mono ?_
    rintro _ w'' ⟨u, rfl, h1, hlo, h3⟩
    exact ⟨u, rfl, h3⟩
  · rw [show (⟨#[44]⟩ : ByteArray) = sv [44] from rfl, show (⟨#[57]⟩ : ByteArray) = sv [57] from rfl, three] at h
    have Y := X w' v _ (by decide) h
    rw [T_e] at Y
    refine Y.mono ?_
    rintro _ w'' ⟨u, rfl, h1, hlo, h3⟩
    exact ⟨u, rfl, h3⟩
theorem laidOut : laidOutB Try.prog = true := by kernel_rfl
theorem own : ownKnob Try.prog.godebug = none := by kernel_rfl
set_option maxHeartbeats 400000 in
set_option maxRecDepth 100000 in
theorem lifted (os : Os) (started : os.Started) (H : Type) (enc : TypeId × Value → H) :
    ReturnsInHanded {} Try.checked os 7 .any (Rows.lexLongSpec.pre6 enc Try.prog Try.f7 Rows.lexLongRow.domain false) (Rows.lexLongSpec.post enc Try.prog Try.f7 false true false false) := by
  refine returnsInHanded_of_change (C := Try.checked) own started (by kernel_rfl) Try.func7
    (ChangeSpec.witness6 (enc := enc) (C := Try.checked) false ⟨#[], #[], []⟩ 8 (by kernel_rfl) (by kernel_rfl) (by kernel_rfl) (by kernel_rfl)) ?_
  intro W base args ds gs before hval0 hW hcnd _
  have hval : ∀ (j : Nat) t v, Try.f7.params[j]? = some t → args[j]? = some v → Value.okWide Try.prog W .any base t v := hval0
  have hW' := hW
  obtain ⟨p, q, hA0, hV, rfl, hfz, hnd⟩ := hW
  have hA : DataW.TrodAll enc Try.prog W 0 (fun _ => true) true Try.f7.params.toList args.toList ds p := hA0
  rw [Try.params7] at hA hval
  obtain ⟨ha, rfl, rfl⟩ := trodAll_nil hA
  obtain rfl : args = #[] := by cases args; simp_all
  obtain ⟨rfl, rfl⟩ := trodVars_none hV
  clear hA0 hval0
  refine (walk  W ).mono fun e W' ⟨he, bel⟩ => ?_
  subst he
  exact ⟨_, rfl, _, _, _, [], [], [], hW', trodAll_mk1 (shut_bool Try.underlying4 _), trodAll_mk0, rfl, bel.frame _, fun h => by cases h⟩
theorem over : Rows.lexLongRow.holds Try.pinned (OpenSpec.ofChange Rows.lexLongSpec) :=
  OpenClaim.holds_of_wide 7 Try.f7 rfl rfl rfl rfl rfl rfl rfl ⟨rfl, rfl, rfl, rfl, rfl⟩ rfl rfl rfl rfl rfl (by kernel_rfl) Try.func7 (by kernel_rfl)
    (of_decide_eq_true (by kernel_rfl)) (by unfold Func.isWrapper; first | (rw [if_pos (by decide +kernel)]; kernel_rfl) | (rw [if_neg (by decide +kernel)]; exact ⟨rfl, rfl⟩))
    (fun os started H enc _ => lifted os started H enc)

end Go.Proofs.Ytpmfgnolojmimaa.long
namespace Go.Proofs.Ytpmfgnolojmimaa
theorem LexLong_holds : Rows.LexLongSaid := long.over
end Go.Proofs.Ytpmfgnolojmimaa
