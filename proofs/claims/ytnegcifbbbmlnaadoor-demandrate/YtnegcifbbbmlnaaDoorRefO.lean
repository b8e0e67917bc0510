/- The document's answer for fractions: how they are to one another, rounded, and as text. -/
import Derived.Test.YtnegcifbbbmlnaaDoorRefG
import Derived.Test.YtnegcifbbbmlnaaDoorComp
import Derived.Test.YtnegcifbbbmlnaaDoorWholeQ
import Derived.Lib.ItoaNum
import Derived.Laws.IdiomStrings
namespace Go.Proofs.YtnegcifbbbmlnaaDoor
open Go.RowKit
attribute [local go_sem ↓] Go.wp_at_zero Go.wp_at_succ
set_option linter.unusedVariables false
set_option linter.unusedSimpArgs false
set_option maxRecDepth 10000
/-- one digit, made a text -/
theorem one_digit (u : Nat) (W : World) : ∃ d : ByteArray, d.data.toList = [UInt8.ofNat (48 + u % 10)] ∧ d.size = 1 ∧ (convert 76 9 (.slice (some ⟨W.heap.size, 0, none⟩) 1 1)).run Tryd.prog (W.alloc (.cells #[.int .u8 (48 + (u : Int) % 10)] 5)) = .ok (.string d) (W.alloc (.cells #[.int .u8 (48 + (u : Int) % 10)] 5)) := by
  refine ⟨⟨#[UInt8.ofNat (48 + u % 10)]⟩, rfl, rfl, ?_⟩
  have h := run_convert_bytes_back (P := Tryd.prog) (W.alloc (.cells #[.int .u8 (48 + (u : Int) % 10)] 5)) 76 9 5 ⟨W.heap.size, 0, none⟩ 1 [UInt8.ofNat (48 + u % 10)] Tryd.underlying76 Tryd.underlying5 Tryd.underlying9 (fun j hj => by
    have : j = 0 := by simpa using hj
    subst this
    have e : ((UInt8.ofNat (48 + u % 10)).toNat : Int) = 48 + (u : Int) % 10 := by
      rw [UInt8.toNat_ofNat']; omega
    rw [List.getElem_cons_zero, e]
    simp [Addr.add, go_sem])
  exact h
/-- how far the digits are written: those that are there, those that lack -/
def DigInv (N u : Nat) (l : List UInt8) : Prop := (l = [] ∧ u = N) ∨ (l ≠ [] ∧ Lib.decDigits N = if u = 0 then l else Lib.decDigits u ++ l)
theorem dig_next {N u : Nat} {l : List UInt8} (h : DigInv N u l) (hu : l = [] ∨ ¬ u = 0) : DigInv N (u / 10) (UInt8.ofNat (48 + u % 10) :: l) := by
  refine .inr ⟨by simp, ?_⟩
  have key : ∀ v, Lib.decDigits v = if v / 10 = 0 then [UInt8.ofNat (48 + v % 10)] else Lib.decDigits (v / 10) ++ [UInt8.ofNat (48 + v % 10)] := by
    intro v
    rw [Lib.decDigits]
    by_cases hv : v < 10
    · rw [dif_pos hv, if_pos (by omega), Nat.mod_eq_of_lt hv]
    · rw [dif_neg hv, if_neg (by omega)]
  rcases h with ⟨rfl, rfl⟩ | ⟨h1, h2⟩
  · exact key u
  · have hu' : ¬ u = 0 := by rcases hu with h | h; exact absurd h h1; exact h
    rw [h2, if_neg hu', key u]
    by_cases h10 : u / 10 = 0
    · simp [h10]
    · simp [h10]
theorem dig_done {N : Nat} {l : List UInt8} (h : DigInv N 0 l) (hl : l ≠ []) : l = Lib.decDigits N := by
  rcases h with ⟨h1, _⟩ | ⟨_, h2⟩
  · exact absurd h1 hl
  · rw [h2]; simp
theorem bytes_eq {s : ByteArray} {l : List UInt8} (h : s.data.toList = l) : s = ⟨l.toArray⟩ := by
  obtain ⟨a⟩ := s
  simp at h
  rw [← h]
theorem bytes_app (a b : ByteArray) : (a ++ b).data.toList = a.data.toList ++ b.data.toList := by simp
theorem str_ret {s t : ByteArray} (h : s = t) : Ending.returned (.string s) = .returned (.string t) := by rw [h]
/-- a text's own part of the measure: is it empty? -/
def emptyOf : Value → Nat
  | .string s => if s.size = 0 then 1 else 0
  | _ => 0
theorem loopnil (bs : ByteArray) (i : Nat) (r : List UInt8) (h : bs.size ≤ i) : ByteArray.toList.loop bs i r = r.reverse := by
  unfold ByteArray.toList.loop
  rw [if_neg (by omega)]
theorem none_empty {s : ByteArray} (h : s.size = 0) : s.toList.isEmpty = true := by
  unfold ByteArray.toList
  rw [loopnil s 0 [] (by omega)]
  rfl
theorem loopne (bs : ByteArray) : ∀ (k i : Nat) (r : List UInt8), bs.size - i = k → r ≠ [] → ByteArray.toList.loop bs i r ≠ []
  | 0, i, r, h, hr => by
    rw [loopnil bs i r (by omega)]
    simpa using hr
  | k + 1, i, r, h, hr => by
    unfold ByteArray.toList.loop
    rw [if_pos (by omega)]
    exact loopne bs k (i + 1) _ (by omega) (by simp)
theorem some_empty {s : ByteArray} (h : 1 ≤ s.size) : s.toList.isEmpty = false := by
  have h2 : s.toList ≠ [] := by
    unfold ByteArray.toList ByteArray.toList.loop
    rw [if_pos (by omega)]
    exact loopne s (s.size - 1) 1 _ rfl (by simp)
  cases hh : s.toList with
  | nil => exact absurd hh h2
  | cons a b => rfl
theorem emptyOf_no {s : ByteArray} (h : 1 ≤ s.size) : emptyOf (.string s) = 0 := by
  show (if s.size = 0 then 1 else 0) = 0
  rw [if_neg (by omega)]
theorem emptyOf_yes {s : ByteArray} (h : s.size = 0) : emptyOf (.string s) = 1 := by
  show (if s.size = 0 then 1 else 0) = 1
  rw [if_pos h]
theorem bytes_none {s : ByteArray} (h : s = ⟨#[]⟩) : s.data.toList = [] := by rw [h]
theorem bytes_some {s : ByteArray} (h : ¬ s = ⟨#[]⟩) : s.data.toList ≠ [] ∧ 1 ≤ s.size := by
  have h1 : s.data.toList ≠ [] := fun h2 => h (by rw [bytes_eq h2])
  refine ⟨h1, ?_⟩
  rcases Nat.eq_zero_or_pos s.size with h2 | h2
  · refine absurd (List.length_eq_zero_iff.1 ?_) h1
    rw [Array.length_toList]
    exact h2
  · exact h2
theorem minus_add {P : Program} {t : TypeId} {s : ByteArray} (hs : 2 * s.size ≤ 9223372036854775810) (W : World) : (binOp .add t (.string ⟨#[45]⟩) (.string s)).run P W = .ok (.string (⟨#[45]⟩ ++ s)) W := by
  have e : (⟨#[45]⟩ : ByteArray).size = 1 := rfl
  obtain ⟨m, hm⟩ : ∃ m : ByteArray, m = ⟨#[45]⟩ := ⟨_, rfl⟩
  rw [← hm] at e ⊢
  have : ¬ m.size + s.size > 9223372036854775807 := by omega
  simp [go_sem, this]
set_option maxHeartbeats 1000000 in
theorem rdigits_core (n : Int) (N : Nat) (w : World) (hN : N ≤ 9223372036854775808)
    (HT : Hid (Lib.itoa n = if n < 0 then 45 :: Lib.decDigits N else Lib.decDigits N))
    (T : Hid (∀ w, Calls Tryd.prog 40 #[.int .i64 n] w fun e w' => e = .returned (.int .u64 (N : Int)) ∧ w' = w)) :
    Calls Tryd.prog 35 #[.int .i64 n] w fun e w' => e = .returned (.string ⟨(Lib.itoa n).toArray⟩) ∧ Keep w w' := by
  go_enter Tryd.func35, Tryd.ntmps35
  go_wp2_with fail
  (refine ((unhide T) _).mono ?_; rintro e w ⟨rfl, rfl⟩)
  go_wp2_with fail
  go_loopw [3, 4] (fun uv sv wr => ∃ (u : Nat) (s : ByteArray), uv = .int .u64 (u : Int) ∧ sv = .string s ∧ u ≤ 9223372036854775808 ∧ (1 ≤ u → 2 * s.size + u ≤ N) ∧ 2 * s.size ≤ N + 2 ∧ Hid (DigInv N u s.data.toList) ∧ Keep w wr) (fun uv sv _ => 2 * (intOf uv).toNat + emptyOf sv)
  case atStart => exact ⟨N, ⟨#[]⟩, rfl, rfl, hN, fun _ => by simp [ByteArray.size], by simp [ByteArray.size], hide (.inl ⟨rfl, rfl⟩), Keep.refl _⟩
  case round =>
    obtain ⟨u, s, rfl, rfl, hu, hb1, hb2, HI, hk⟩ := hrel
    by_cases h0 : s = ⟨#[]⟩
    · obtain ⟨d, hd1, hd2, hcv⟩ := one_digit u wr
      have HD1 := hide hd1
      have HS0 := hide h0
      have hs0 : s.size = 0 := by rw [h0]; rfl
      have hse := none_empty hs0
      have HIN : Hid (DigInv N (u / 10) (d ++ s).data.toList) := by
        rw [bytes_app, hd1]
        exact hide (dig_next (unhide HI) (.inl (bytes_none h0)))
      have hsz : (d ++ s).size = d.size + s.size := ByteArray.size_append
      have HSZ := hide hsz
      clear h0 hd1 HI hsz
      go_wp2
      go_roundw
      case rel => exact ⟨u / 10, d ++ s, by go_num, rfl, by omega, fun h => by rw [unhide HSZ]; have := hb1 (by omega); omega, by rw [unhide HSZ]; omega, HIN, hk.alloc _⟩
      case measure =>
        have h1 := unhide HSZ
        have : emptyOf (.string (d ++ s)) = 0 := emptyOf_no (by omega)
        have h2 : emptyOf (.string s) = 1 := emptyOf_yes hs0
        simp [intOf, this, h2] <;> omega
    · obtain ⟨hne, hs1⟩ := bytes_some h0
      have hse := some_empty hs1
      have HNE := hide hne
      clear h0 hne
      by_cases hu0 : u = 0
      · subst hu0
        have hfin := dig_done (unhide HI) (unhide HNE)
        have HFIN := hide hfin
        clear hfin HI
        by_cases hneg : n < 0
        · have hlast : (⟨#[45]⟩ ++ s : ByteArray) = ⟨(Lib.itoa n).toArray⟩ := by
            refine bytes_eq ?_
            rw [bytes_app, unhide HFIN, unhide HT, if_pos hneg]
            rfl
          have HL := hide hlast
          clear hlast
          have hadd := minus_add (P := Tryd.prog) (t := 9) (s := s) (by omega)
          go_wp2
          go_ret
          exact ⟨str_ret (unhide HL), hk⟩
        · have hlast : s = ⟨(Lib.itoa n).toArray⟩ := by
            refine bytes_eq ?_
            rw [unhide HFIN, unhide HT, if_neg hneg]
          have HL := hide hlast
          clear hlast
          go_wp2
          go_ret
          exact ⟨str_ret (unhide HL), hk⟩
      · obtain ⟨d, hd1, hd2, hcv⟩ := one_digit u wr
        have hu1 : 1 ≤ u := by omega
        have hb1' := hb1 hu1
        have hug : (0 : Int) < (u : Int) := by omega
        have HIN : Hid (DigInv N (u / 10) (d ++ s).data.toList) := by
          rw [bytes_app, hd1]
          exact hide (dig_next (unhide HI) (.inr hu0))
        have hsz : (d ++ s).size = d.size + s.size := ByteArray.size_append
        have HSZ := hide hsz
        clear hd1 HI hsz
        go_wp2
        go_roundw
        case rel => exact ⟨u / 10, d ++ s, by go_num, rfl, by omega, fun h => by rw [unhide HSZ]; omega, by rw [unhide HSZ]; omega, HIN, hk.alloc _⟩
        case measure =>
          have h1 := unhide HSZ
          have : emptyOf (.string (d ++ s)) = 0 := emptyOf_no (by omega)
          have h2 : emptyOf (.string s) = 0 := emptyOf_no hs1
          simp [intOf, this, h2] <;> omega
theorem itoa_size (n : Int) : Lib.itoa n = if n < 0 then 45 :: Lib.decDigits n.natAbs else Lib.decDigits n.natAbs := by
  unfold Lib.itoa
  by_cases h : n < 0
  · rw [if_pos h, if_pos h]
  · rw [if_neg h, if_neg h, show n.toNat = n.natAbs by omega]
theorem rdigits_any (n : Int) (w : World) (h1 : -9223372036854775808 ≤ n) (h2 : n ≤ 9223372036854775807) :
    Calls Tryd.prog 35 #[.int .i64 n] w fun e w' => e = .returned (.string ⟨(Lib.itoa n).toArray⟩) ∧ Keep w w' :=
  rdigits_core n n.natAbs w (by omega) (hide (itoa_size n)) (hide fun w => rsize_any n w h1 h2)
/-- a fraction's text -/
def fText (x y : Int) : ByteArray := (⟨(Lib.itoa x).toArray⟩ ++ ⟨#[47]⟩) ++ ⟨(Lib.itoa y).toArray⟩
theorem itoa_len (n : Int) (h1 : -9223372036854775808 ≤ n) (h2 : n ≤ 9223372036854775807) : (⟨(Lib.itoa n).toArray⟩ : ByteArray).size ≤ 30 := by
  have e : (⟨(Lib.itoa n).toArray⟩ : ByteArray).size = (Lib.itoa n).length := by simp [ByteArray.size]
  rw [e, itoa_size]
  have h : Lib.nDigits n.natAbs ≤ 20 := by
    rcases Nat.lt_or_ge 20 (Lib.nDigits n.natAbs) with h | h
    · exfalso
      have key : ∀ (k u : Nat), k + 1 ≤ Lib.nDigits u → 10 ^ k ≤ u ∨ k = 0 := by
        intro k
        induction k with
        | zero => intro u _; exact .inr rfl
        | succ k ih =>
          intro u hu
          left
          by_cases hs : u < 10
          · rw [Lib.nDigits_small hs] at hu; omega
          · rw [Lib.nDigits_big hs] at hu
            rcases ih (u / 10) (by omega) with h | h
            · rw [Nat.pow_succ]; omega
            · subst h; simp; omega
      rcases key 20 n.natAbs (by omega) with h | h
      · have : (10 : Nat) ^ 20 = 100000000000000000000 := by decide
        omega
      · omega
    · exact h
  split <;> simp [Lib.decDigits_length] <;> omega
set_option maxHeartbeats 400000 in
theorem rcmp_core (n d n2 d2 x y x2 y2 v : Int) (w : World) (Cn : Int → Int → Int → Int → Prop) (K1 : Cn n d x y) (K2 : Cn n2 d2 x2 y2)
    (N1 : Hid (∀ (n d x y : Int), Cn n d x y → ∀ w, Calls Tryd.prog 36 #[.agg #[.int .i64 n, .int .i64 d]] w fun e w' => e = .returned (.agg #[.int .i64 x, .int .i64 y]) ∧ Keep w w'))
    (T2 : Hid (∀ w, Calls Tryd.prog 37 #[.int .i64 x, .int .i64 y2, .int .i64 x2, .int .i64 y] w fun e w' => e = .returned (.int .i64 v) ∧ Keep w w')) :
    Calls Tryd.prog 14 #[.agg #[.int .i64 n, .int .i64 d], .agg #[.int .i64 n2, .int .i64 d2]] w fun e w' => e = .returned (.int .i64 v) ∧ Keep w w' := by
  go_enter Tryd.func14, Tryd.ntmps14
  go_wp2_with fail
  (refine ((unhide N1) _ _ _ _ K1 _).mono ?_; rintro e w2 ⟨rfl, hk⟩; obtain ⟨o1, k1, rfl⟩ := hk.ext; clear hk)
  go_wp2_with fail
  (refine ((unhide N1) _ _ _ _ K2 _).mono ?_; rintro e w2 ⟨rfl, hk⟩; obtain ⟨o2, k2, rfl⟩ := hk.ext; clear hk)
  go_wp2_with fail
  (refine ((unhide T2) _).mono ?_; rintro e w2 ⟨rfl, hk⟩; obtain ⟨o3, k3, rfl⟩ := hk.ext; clear hk)
  go_wp2_with fail
  go_ret
  exact ⟨rfl, by repeat (first | apply keep_ext | apply Keep.alloc | apply Keep.drew | exact Keep.refl _)⟩
theorem rfcmp_any (n d n2 d2 : Int) (w : World) (h1 : -9223372036854775808 ≤ n) (h2 : n ≤ 9223372036854775807) (h3 : -9223372036854775808 ≤ d) (h4 : d ≤ 9223372036854775807) (k1 : -9223372036854775808 ≤ n2) (k2 : n2 ≤ 9223372036854775807) (k3 : -9223372036854775808 ≤ d2) (k4 : d2 ≤ 9223372036854775807) :
    Calls Tryd.prog 14 #[.agg #[.int .i64 n, .int .i64 d], .agg #[.int .i64 n2, .int .i64 d2]] w fun e w' => e = .returned (.int .i64 (cm (cn n d * cd n2 d2) (cn n2 d2 * cd n d))) ∧ Keep w w' := by
  obtain ⟨r1, r2, r3, r4, r5⟩ := rt_counted n d h1 h2 h4
  obtain ⟨s1, s2, s3, s4, s5⟩ := rt_counted n2 d2 k1 k2 k4
  exact rcmp_core n d n2 d2 _ _ _ _ _ w (fun n d x y => ∀ w, Calls Tryd.prog 36 #[.agg #[.int .i64 n, .int .i64 d]] w fun e w' => e = .returned (.agg #[.int .i64 x, .int .i64 y]) ∧ Keep w w')
    (fun w => norm_any n d w h1 h2 h3 h4) (fun w => norm_any n2 d2 w k1 k2 k3 k4) (hide fun n d x y h => h) (hide fun w => rcompare_any _ _ _ _ w r3 r4 (by omega) s5 s3 s4 (by omega) r5)
end Go.Proofs.YtnegcifbbbmlnaaDoor
