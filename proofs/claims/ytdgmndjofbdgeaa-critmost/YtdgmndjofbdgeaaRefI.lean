/- The document's answer for fractions, numbers by parts: the rest of a division by doubling. -/
import Derived.Test.YtdgmndjofbdgeaaRefH
namespace Go.Proofs.Ytdgmndjofbdgeaa
open Go.RowKit
set_option linter.unusedVariables false
set_option maxRecDepth 10000
theorem infoS : (Try.prog.info? 79).map (fun i => (i.zero, i.size, i.bytes)) = some (some (.slice none 0 0), 1, 24) := by kernel_rfl
theorem info_of {P : Program} {t : TypeId} {z : Option Value} {a b : Nat} (h : (P.info? t).map (fun i => (i.zero, i.size, i.bytes)) = some (z, a, b)) : ∃ i, P.info? t = some i ∧ i.zero = z ∧ i.size = a ∧ i.bytes = b := by
  cases hi : P.info? t with
  | none => rw [hi] at h; simp at h
  | some i => rw [hi] at h; simp at h; exact ⟨i, rfl, h.1, h.2.1, h.2.2⟩
/-- how long a slice is -/
def lenOf : Value → Nat
  | .slice _ n _ => n
  | _ => 0
/-- the values vs are slices: b, its double, and so on -/
def Tws (b : Int) (w : World) (k : Nat) (vs : List Value) : Prop := vs.length = k ∧ ∀ i, i < k → ∃ L, Sl w (vs.getD i (.bool false)) L ∧ Dig L ∧ L.length ≤ 400 ∧ val L = b * 2 ^ i
theorem Tws.keep {b : Int} {w w' : World} {k : Nat} {vs : List Value} (h : Tws b w k vs) (hk : Keep w w') : Tws b w' k vs :=
  ⟨h.1, fun i hi => by obtain ⟨L, h1, h2⟩ := h.2 i hi; exact ⟨L, h1.keep hk, h2⟩⟩
theorem Tws.grown {b : Int} {w w' : World} {k : Nat} {vs : List Value} {row : Option Nat} {T : TypeId} (h : Tws b w k vs) (hg : w.grownBy w' row) (hT : T ≠ 82) (hr : ∀ k, row = some k → ∃ cur, w.heap[k]? = some (.cells cur T (0, 0))) : Tws b w' k vs :=
  ⟨h.1, fun i hi => by obtain ⟨L, h1, h2⟩ := h.2 i hi; exact ⟨L, h1.grown hg hT hr, h2⟩⟩
theorem Tws.snoc {b : Int} {w : World} {k : Nat} {vs : List Value} {v : Value} {L : List Int} (h : Tws b w k vs) (h1 : Sl w v L) (h2 : Dig L) (h3 : L.length ≤ 400) (h4 : val L = b * 2 ^ k) : Tws b w (k + 1) (vs ++ [v]) := by
  obtain ⟨hl, hi⟩ := h
  refine ⟨by simp [hl], fun i hlt => ?_⟩
  by_cases hik : i < k
  · obtain ⟨L', g⟩ := hi i hik
    refine ⟨L', ?_⟩
    rw [List.getD_eq_getElem?_getD, List.getElem?_append_left (by omega), ← List.getD_eq_getElem?_getD]
    exact g
  · have : i = k := by omega
    subst this
    refine ⟨L, ?_⟩
    rw [List.getD_eq_getElem?_getD, List.getElem?_append_right (by omega), hl]
    simpa using ⟨h1, h2, h3, h4⟩
theorem row_block {w : World} {B : Nat} {T : TypeId} {v : Value} {n : Nat} {xs : List Value} (h : w.ownsRow B T 1 v n xs) : ∀ k, v.ownBlock = some k → ∃ cur, w.heap[k]? = some (.cells cur T (0, 0)) := by
  intro k hk
  obtain ⟨_, h2⟩ := h
  rcases h2 with ⟨rfl, _⟩ | ⟨g, cap, cur, rfl, _, hb, _⟩
  · simp [Value.ownBlock] at hk
  · simp [Value.ownBlock] at hk
    subst hk
    exact ⟨cur, hb⟩
theorem below_grown_any {w wr w1 : World} {T : TypeId} {v : Value} {n : Nat} {xs : List Value} {o : Obj} (hown : wr.ownsRow w.heap.size T 1 v n xs) (hb : Below w.heap.size w wr) (hg : (wr.alloc o).grownBy w1 v.ownBlock) : Below w.heap.size w w1 :=
  Below.grown (hb.alloc hb.size o) hg (by have := hb.size; simp; omega) (fun k hk => (World.ownsRow.lt hown k hk).1)
theorem pow_bd {b a : Int} {k : Nat} (hb : 1 ≤ b) (h : b * 2 ^ k ≤ a) (ha : a < pw 20) : k < 320 := by
  by_cases hk : k < 320
  · exact hk
  · exfalso
    obtain ⟨N, hN⟩ : ∃ N : Nat, N = 16 * 20 := ⟨_, rfl⟩
    have h4 : pw 20 = (2 : Int) ^ N := by
      unfold pw
      rw [hN, Int.pow_mul]
      rfl
    have h1 : (2 : Int) ^ N ≤ 2 ^ k := by
      obtain ⟨d, rfl⟩ : ∃ d, k = N + d := ⟨k - N, by omega⟩
      rw [Int.pow_add]
      have : (1 : Int) ≤ 2 ^ d := Int.pow_pos (by omega)
      have h3 : (0 : Int) ≤ 2 ^ N := Int.le_of_lt (Int.pow_pos (by omega))
      have := Int.mul_le_mul_of_nonneg_left this h3
      omega
    have h2 : (2 : Int) ^ k ≤ b * 2 ^ k := by
      have h3 : (0 : Int) ≤ 2 ^ k := Int.le_of_lt (Int.pow_pos (by omega))
      have := Int.mul_le_mul_of_nonneg_right hb h3
      omega
    rw [h4] at ha
    generalize (2 : Int) ^ N = P at *
    generalize (2 : Int) ^ k = Q at *
    omega
theorem one_slice (g n cap : Nat) : ∀ u ∈ [Value.slice (some ⟨g, 0, none⟩) n cap], u.oneCell' = true := by intro u hu; simp at hu; subst hu; rfl
theorem pow_step (b : Int) (k : Nat) : 2 * (b * 2 ^ k) = b * 2 ^ (k + 1) := by rw [Int.pow_succ, ← Int.mul_assoc b, Int.mul_comm 2 (b * 2 ^ k)]

set_option maxHeartbeats 1000000 in
theorem rest_small (va vb : Value) (A B : List Int) (w : World) (ra : Sl w va A) (rb : Sl w vb B) (hA : Dig A) (hB : Dig B) (ha : A.length ≤ 20) (hb : B.length ≤ 20) (hlt : val A < val B) :
    Calls Try.prog 53 #[va, vb] w fun e w' => e = .returned va ∧ w' = w := by
  have O := hide (order_sl vb va B A w rb ra hB hA (by omega) (by omega))
  have hc : 0 < cm (val B) (val A) := by
    have := cm_le (x := val B) (y := val A)
    omega
  generalize cm (val B) (val A) = c at *
  have hcb : decide (c ≤ 0) = false := by simp; omega
  clear ra rb hlt
  go_enter Try.func53, Try.ntmps53
  go_wp2_with fail
  go_loop [5, 6] (fun l t => l = .slice none 0 0 ∧ t = vb) (fun _ _ => 0)
  case atStart => exact ⟨rfl, rfl⟩
  case round =>
    obtain ⟨rfl, rfl⟩ := hrel
    go_wp2_with fail
    refine (uq O).mono ?_
    rintro e w1 ⟨rfl, rfl⟩
    go_wp2_with fail
    go_loop [0, 7] (fun a i => a = va ∧ i = .int .i64 (-1)) (fun _ _ => 0)
    case atStart => exact ⟨rfl, rfl⟩
    case round =>
      obtain ⟨rfl, rfl⟩ := hrel
      go_wp2
      go_ret
      exact ⟨rfl, rfl⟩
/-! ### the rest, where there is something to be taken away -/
theorem tws_at {b : Int} {w : World} {k i : Nat} {vs : List Value} (h : Tws b w k vs) (hi : i < k) : ∃ L g cap, vs.getD i (.bool false) = .slice (some ⟨g, 0, none⟩) L.length cap ∧ Sl w (.slice (some ⟨g, 0, none⟩) L.length cap) L ∧ Dig L ∧ L.length ≤ 400 ∧ val L = b * 2 ^ i := by
  obtain ⟨L, h1, h2, h3, h4⟩ := h.2 i hi
  have h1' := h1
  obtain ⟨g, cap, e, _⟩ := h1'
  rw [e] at h1
  exact ⟨L, g, cap, e, h1, h2, h3, h4⟩
theorem row_at {w : World} {B : Nat} {T : TypeId} {g cap n : Nat} {vs : List Value} (h : w.ownsRow B T 1 (.slice (some ⟨g, 0, none⟩) n cap) n vs) (i : Nat) (hi : i < n) : w.cell? ⟨g, i, none⟩ = some (vs.getD i (.bool false)) := by
  have hl : vs.length = n * 1 := h.1
  have := World.ownsRow.cellAt h i (by omega)
  rw [this, List.getD_eq_getElem?_getD, List.getElem?_eq_getElem (by omega)]
  rfl
theorem row_keep {w w' : World} {B : Nat} {T : TypeId} {v : Value} {n : Nat} {xs : List Value} (h : w.ownsRow B T 1 v n xs) (hk : Keep w w') : w'.ownsRow B T 1 v n xs := by
  obtain ⟨h1, h2⟩ := h
  refine ⟨h1, ?_⟩
  rcases h2 with h2 | ⟨g, cap, cur, e, hg, hh, r⟩
  · exact .inl h2
  · have hlt : g < w.heap.size := by
      by_cases hc : g < w.heap.size
      · exact hc
      · rw [Array.getElem?_eq_none (by omega)] at hh; cases hh
    exact .inr ⟨g, cap, cur, e, hg, by rw [Below.block hk g hlt]; exact hh, r⟩
theorem row_len {w : World} {B : Nat} {T : TypeId} {v : Value} {n : Nat} {xs : List Value} (h : w.ownsRow B T 1 v n xs) : lenOf v = n := by
  obtain ⟨_, h2⟩ := h
  rcases h2 with ⟨rfl, h⟩ | ⟨g, cap, cur, rfl, _⟩
  · exact h.symm
  · rfl
theorem row_form {w : World} {B : Nat} {T : TypeId} {v : Value} {n : Nat} {xs : List Value} (h : w.ownsRow B T 1 v n xs) (hn : 0 < n) : ∃ g cap, v = .slice (some ⟨g, 0, none⟩) n cap ∧ B ≤ g ∧ g < w.heap.size := by
  obtain ⟨_, h2⟩ := h
  rcases h2 with ⟨_, h⟩ | ⟨g, cap, cur, rfl, hg, hh, _⟩
  · omega
  · refine ⟨g, cap, rfl, hg, ?_⟩
    by_cases hc : g < w.heap.size
    · exact hc
    · rw [Array.getElem?_eq_none (by omega)] at hh; cases hh
/-- what is left of a while multiples of b are taken away from it -/
def RInv (a b c : Int) (j : Nat) : Prop := 0 ≤ c ∧ c < b * 2 ^ j ∧ c % b = a % b
theorem ri_start {a b : Int} {k : Nat} (h0 : 0 ≤ a) (h : a < b * 2 ^ k) : RInv a b a k := ⟨h0, h, rfl⟩
theorem ri_yes {a b c d : Int} {i : Nat} (h : RInv a b c (i + 1)) (hd : d = b * 2 ^ i) (hle : d ≤ c) : RInv a b (c - d) i := by
  obtain ⟨h1, h2, h3⟩ := h
  rw [← pow_step, ← hd] at h2
  refine ⟨by omega, by rw [← hd]; omega, ?_⟩
  rw [← h3, hd, Int.sub_mul_emod_self_left]
theorem ri_no {a b c d : Int} {i : Nat} (h : RInv a b c (i + 1)) (hd : d = b * 2 ^ i) (hle : ¬ d ≤ c) : RInv a b c i := by
  obtain ⟨h1, h2, h3⟩ := h
  exact ⟨h1, by rw [← hd]; omega, h3⟩
theorem ri_end {a b c : Int} (h : RInv a b c 0) : c = a % b := by
  obtain ⟨h1, h2, h3⟩ := h
  rw [← h3, Int.emod_eq_of_lt h1 (by simpa using h2)]
set_option maxHeartbeats 4000000 in
theorem rest_big (va vb : Value) (A B : List Int) (w : World) (ra : Sl w va A) (rb : Sl w vb B) (hA : Dig A) (hB : Dig B) (ha : A.length ≤ 20) (hb : B.length ≤ 20) (hb1 : 1 ≤ val B) (hle0 : val B ≤ val A) :
    Calls Try.prog 53 #[va, vb] w fun e w' => GivesSl w w' e fun l => l.length ≤ A.length ∧ val l = val A % val B := by
  obtain ⟨i0, hi, hz0, hz1, hz2⟩ := info_of infoS
  have hab : val A < pw 20 := Int.lt_of_lt_of_le (val_bd hA).2 (pw_mono ha)
  have hB0 : 0 < B.length := by
    cases B with
    | nil => simp [val] at hb1
    | cons => simp
  obtain ⟨b, hbe⟩ : ∃ b, b = val B := ⟨_, rfl⟩
  obtain ⟨a, hae⟩ : ∃ a, a = val A := ⟨_, rfl⟩
  rw [← hbe] at hb1 hle0 ⊢
  rw [← hae] at hle0 hab ⊢
  have HBE := hide hbe
  have HAE := hide hae
  clear hbe hae
  go_enter Try.func53, Try.ntmps53
  go_wp2_with fail
  go_loopw [5, 6] (fun lv tv wr => ∃ (k : Nat) (vs : List Value) (L : List Int), k ≤ 320 ∧ wr.ownsRow w.heap.size 79 1 lv k vs ∧ Tws b wr k vs ∧ Sl wr tv L ∧ Dig L ∧ L.length ≤ 20 + k ∧ 0 < L.length ∧ Hid (val L = b * 2 ^ k) ∧ Keep w wr) (fun lv _ _ => 400 - lenOf lv)
  case atStart => exact ⟨0, [], B, by omega, World.ownsRow_nil _ _ _ _, ⟨rfl, fun i hi => by omega⟩, rb, hB, by omega, hB0, hide (by rw [uq HBE]; simp), Keep.refl _⟩
  case round =>
    obtain ⟨k, vs, L, hk, hown, htw, hsl, hdl, hll, hl0, HV, hkeep⟩ := hrel
    have O := hide (order_sl _ va L A wr hsl (ra.keep hkeep) hdl hA (by omega) (by omega))
    by_cases hle : b * 2 ^ k ≤ a
    · have hk2 := pow_bd hb1 hle hab
      have hcm : cm (val L) (val A) ≤ 0 := by rw [cm_le, uq HV, ← uq HAE]; exact hle
      generalize cm (val L) (val A) = c at *
      obtain ⟨gt, capt, et, hgt⟩ := hsl
      subst et
      have hsl : Sl wr (.slice (some ⟨gt, 0, none⟩) L.length capt) L := ⟨gt, capt, rfl, hgt⟩
      have a3 : k + 1 ≤ maxLen := by unfold maxLen; omega
      have HSL := hide hsl
      have HTW := hide htw
      have hsz := Below.size hkeep
      clear hsl htw hgt hle hle0 ra rb
      go_wp2_with fail
      refine (uq O).mono ?_
      rintro e wr ⟨rfl, rfl⟩
      go_wp2_with (first | (at_builtin; refine wpList_append_own _ rfl _ _ 114 rfl w.heap.size 79 i0 (.slice none 0 0) 1 24 Try.underlying114 hi hz0 hz1 hz2 rfl (by decide) _ _ _ rfl (World.ownsRow.alloc hown _) ⟨wr.heap.size, 0, none⟩ 1 1 [.slice (some ⟨gt, 0, none⟩) L.length capt] rfl rfl (cell_one_new _ _ _) (one_slice _ _ _) a3 (by omega) (by simp; omega) ?_) | fail)
      intro v' w1 hown' hgrow _
      have hb1' : Keep w w1 := below_grown_any hown hkeep hgrow
      have hal : Keep wr (wr.alloc (.cells #[.slice (some ⟨gt, 0, none⟩) L.length capt] 79)) := (Keep.refl wr).alloc _
      have hrb := row_block (World.ownsRow.alloc hown (.cells #[.slice (some ⟨gt, 0, none⟩) L.length capt] 79))
      have hsl1 : Sl w1 (.slice (some ⟨gt, 0, none⟩) L.length capt) L := ((uq HSL).keep hal).grown hgrow (by decide) hrb
      have htw1 := (((uq HTW).keep hal).grown hgrow (by decide) hrb).snoc hsl1 hdl (by omega) (uq HV)
      have TW := hide (twice_any _ L w1 hsl1 hdl (by omega) hl0)
      have HT1 := hide htw1
      have hlen := row_len hown
      have hlen' := row_len hown'
      have HLN := hide hlen
      have HLN' := hide hlen'
      have HOWN := hide hown'
      have HB1 := hide hb1'
      clear hown hown' hgrow hal hrb hsl1 htw1 HSL HTW hkeep hlen hlen' hb1'
      go_wp2_with fail
      refine (uq TW).mono ?_
      rintro e w2 ⟨v2, l2, rfl, s2, d2, ⟨p0, p1, p2⟩, k2⟩
      have own2 := row_keep (uq HOWN) k2
      have tw2 := (uq HT1).keep k2
      have HV2 : Hid (val l2 = b * 2 ^ (k + 1)) := by rw [p2, uq HV, pow_step]; exact hide rfl
      have HB2 : Hid (Keep w w2) := hide ((uq HB1).trans k2)
      have OWN2 := hide own2
      have TW2 := hide tw2
      have S2 := hide s2
      clear own2 tw2 s2 p2 k2
      go_wp2
      go_roundw
      case rel => exact ⟨k + 1, _, l2, by omega, uq OWN2, uq TW2, uq S2, d2, by omega, p0, HV2, uq HB2⟩
      case measure =>
        have h1 := uq HLN
        have h2 := uq HLN'
        simp [h1, h2]; omega
    · have hcm : 0 < cm (val L) (val A) := by
        have h := cm_le (x := val L) (y := val A)
        rw [uq HV, ← uq HAE] at h
        have : ¬ cm (val L) (val A) ≤ 0 := by rw [cm_le, uq HV, ← uq HAE]; exact hle
        omega
      generalize cm (val L) (val A) = c at *
      have hcb : decide (c ≤ 0) = false := by simp; omega
      have hk0 : 0 < k := by
        rcases Nat.eq_zero_or_pos k with h | h
        · subst h
          exact absurd (by simpa using hle0) hle
        · exact h
      obtain ⟨g, cap, rfl, _, hlt⟩ := row_form hown hk0
      have HR := hide (ri_start (a := a) (b := b) (k := k) (by omega) (by omega))
      have HTW := hide htw
      have HOWN := hide hown
      have RA := hide (ra.keep hkeep)
      clear hsl htw hown hle hle0 ra rb HV
      go_wp2_with fail
      refine (uq O).mono ?_
      rintro e wr ⟨rfl, rfl⟩
      go_wp2_with fail
      obtain ⟨wo, rfl⟩ : ∃ wo, wo = wr := ⟨_, rfl⟩
      go_loopw [0, 7] (fun av iv wi => ∃ (j : Nat) (C : List Int), iv = .int .i64 ((j : Int) - 1) ∧ j ≤ k ∧ Sl wi av C ∧ Dig C ∧ C.length ≤ A.length ∧ Hid (RInv a b (val C) j) ∧ Keep wo wi) (fun _ iv _ => (intOf iv + 1).toNat)
      case atStart => exact ⟨k, A, rfl, Nat.le_refl _, uq RA, hA, Nat.le_refl _, by rw [← uq HAE]; exact HR, Keep.refl _⟩
      case round =>
        obtain ⟨j, C, rfl, hj, hsc, hdc, hlc, HI, hki⟩ := hrel
        by_cases hj0 : j = 0
        · subst hj0
          have he := ri_end (uq HI)
          have HE := hide he
          have HK := hide (Keep.trans hkeep hki)
          have HSC := hide hsc
          clear he hsc hki hkeep
          rw [show (((0 : Nat) : Int) - 1) = -1 by rfl]
          go_wp2
          go_ret
          exact ⟨_, C, rfl, uq HSC, hdc, ⟨hlc, uq HE⟩, uq HK⟩
        · obtain ⟨i, rfl⟩ : ∃ i, j = i + 1 := ⟨j - 1, by omega⟩
          rw [show (((i + 1 : Nat) : Int) - 1) = (i : Int) by omega]
          obtain ⟨M, gm, capm, em, hsm, hdm, hlm, hvm⟩ := tws_at ((uq HTW).keep hki) (show i < k by omega)
          have hcell : wr.cell? ⟨g, i, none⟩ = some (.slice (some ⟨gm, 0, none⟩) M.length capm) := by
            rw [Below.cell (p := ⟨g, i, none⟩) hki hlt, row_at (uq HOWN) i (by omega), em]
          have hM0 : 0 < M.length ∨ M.length = 0 := by omega
          have O2 := hide (order_sl _ _ M C wr hsm hsc hdm hdc (by omega) (by omega))
          by_cases hle : val M ≤ val C
          · have hcm2 : cm (val M) (val C) ≤ 0 := by rw [cm_le]; exact hle
            have HI2 := hide (ri_yes (uq HI) hvm hle)
            have MI := hide (minus_sl _ _ C M wr hsc hsm hdc hdm (by omega) (by omega) hle)
            generalize cm (val M) (val C) = c2 at *
            clear hsm hsc hvm hle em HI O
            go_wp2_with fail
            refine (uq O2).mono ?_
            rintro e wr ⟨rfl, rfl⟩
            go_wp2_with fail
            refine (uq MI).mono ?_
            rintro e w2 ⟨v2, l2, rfl, r2, d2, ⟨m0, m1⟩, k2⟩
            have TR := hide (trim_any v2 l2 w2 r2.cases d2 (by omega))
            have M1 := hide m1
            clear r2 m1
            go_wp2_with fail
            refine (uq TR).mono ?_
            rintro e w3 ⟨v3, l3, rfl, s3, d3, ⟨q0, q1⟩, k3⟩
            have HI3 : Hid (RInv a b (val l3) i) := by rw [q1, uq M1]; exact HI2
            have HK3 := hide ((Keep.trans hki k2).trans k3)
            have S3 := hide s3
            clear s3 q1 HI2 k2 k3
            go_wp2
            go_roundw
            case rel => exact ⟨i, l3, by go_num, by omega, uq S3, d3, by omega, HI3, uq HK3⟩
            case measure => simp [intOf] <;> omega
          · have hcm2 : 0 < cm (val M) (val C) := by
              have : ¬ cm (val M) (val C) ≤ 0 := by rw [cm_le]; exact hle
              omega
            have HI2 := hide (ri_no (uq HI) hvm hle)
            generalize cm (val M) (val C) = c2 at *
            have hcb2 : decide (c2 ≤ 0) = false := by simp; omega
            have HSC := hide hsc
            clear hsm hsc hvm hle em HI O
            go_wp2_with fail
            refine (uq O2).mono ?_
            rintro e wr ⟨rfl, rfl⟩
            go_wp2
            go_roundw
            case rel => exact ⟨i, C, by go_num, by omega, uq HSC, hdc, hlc, HI2, hki⟩
            case measure => simp [intOf] <;> omega
theorem rest_any (va vb : Value) (A B : List Int) (w : World) (ra : Sl w va A) (rb : Sl w vb B) (hA : Dig A) (hB : Dig B) (ha : A.length ≤ 20) (hb : B.length ≤ 20) (hb1 : 1 ≤ val B) :
    Calls Try.prog 53 #[va, vb] w fun e w' => GivesSl w w' e fun l => l.length ≤ A.length ∧ val l = val A % val B := by
  by_cases h : val B ≤ val A
  · exact rest_big va vb A B w ra rb hA hB ha hb hb1 h
  · refine (rest_small va vb A B w ra rb hA hB ha hb (by omega)).mono ?_
    rintro e w' ⟨rfl, rfl⟩
    exact ⟨va, A, rfl, ra, hA, ⟨Nat.le_refl _, (Int.emod_eq_of_lt (val_bd hA).1 (by omega)).symm⟩, Keep.refl _⟩
end Go.Proofs.Ytdgmndjofbdgeaa
