/- The document's answer for fractions in decimal digits. -/
import Derived.Test.YtnegcifbbbmlnaaDoorDRat
import Derived.Test.YtnegcifbbbmlnaaDoorRefH
import Derived.Test.YtnegcifbbbmlnaaDoorRefF
import Derived.Test.YtnegcifbbbmlnaaDoorRefG
import Derived.Deep.DrawnRows
import Derived.Deep.RegionHeld
namespace Go.Proofs.YtnegcifbbbmlnaaDoor
open Go.RowKit
attribute [local go_sem ↓] Go.wp_at_zero Go.wp_at_succ
set_option linter.unusedVariables false
set_option linter.unusedSimpArgs false
set_option maxRecDepth 10000
namespace W
theorem cl9 {w w' : World} (k : Keep w w') {a : Addr} {v : Value} (h : w.cell? a = some v) : w'.cell? a = some v := by rw [Below.cell k (World.block_lt_of_cell? w a h)]; exact h
set_option maxHeartbeats 2000000 in
theorem trim9 (A : List Int) (w : World) (hA : Dig A) (hm : A.length ≤ 1000) (ga capa : Nat) (hla : A.length ≤ capa) (hca : ∀ j, j < A.length → w.cell? ⟨ga, j, none⟩ = some (.int .u64 (A.getD j 0))) :
    Calls Tryd.prog 31 #[.slice (some ⟨ga, 0, none⟩) A.length capa] w fun e w' => ∃ k : Nat, e = .returned (.slice (some ⟨ga, 0, none⟩) k capa) ∧ Hid (k ≤ A.length ∧ val (A.take k) = val A) ∧ w' = w := by
  have HCA := hide hca
  clear hca
  go_enter Tryd.func31, Tryd.ntmps31
  go_wp2
  go_loop [3] (fun i => ∃ k : Nat, i = .int .i64 (k : Int) ∧ k ≤ A.length ∧ Hid (val (A.take k) = val A)) (fun i => (intOf i).toNat)
  case atStart => exact ⟨A.length, rfl, by omega, hide (by rw [List.take_length])⟩
  case round =>
    obtain ⟨k, rfl, hk, HD⟩ := hrel
    by_cases hk0 : k = 0
    · subst hk0
      go_wp2
      go_ret
      exact ⟨0, rfl, hide ⟨Nat.zero_le _, unhide HD⟩, rfl⟩
    · obtain ⟨j, rfl⟩ : ∃ j, k = j + 1 := ⟨k - 1, by omega⟩
      have hts := val_take_succ A j
      obtain ⟨x, hx⟩ : ∃ x, x = A.getD j 0 := ⟨_, rfl⟩
      have dx := dig_getD hA j
      rw [← hx] at dx hts
      obtain ⟨dx0, dx1⟩ := dx
      have hcx : w.cell? ⟨ga, j, none⟩ = some (.int .u64 x) := by rw [hx]; exact unhide HCA j (by omega)
      clear hx
      by_cases hx0 : x = 0
      · subst hx0
        have hd : val (A.take j) = val A := by rw [← unhide HD, hts]; omega
        have HD2 := hide hd
        clear hd hts
        go_wp2
        go_round
        case rel => exact ⟨j, by go_num, by omega, HD2⟩
        case measure => simp [intOf] <;> omega
      · have hxb : (x == 0) = false := by simpa using hx0
        have hc1 : j + 1 ≤ capa := by omega
        clear hts
        go_wp2
        go_ret
        exact ⟨j + 1, rfl, hide ⟨hk, unhide HD⟩, rfl⟩
theorem trim9_any {va : Value} {A : List Int} {w : World} (ra : Sl w va A) (hA : Dig A) (hm : A.length ≤ 1000) :
    Calls Tryd.prog 31 #[va] w fun e w' => ∃ v, e = .returned v ∧ Hid (∃ l, Sl w v l ∧ Dig l ∧ l.length ≤ A.length ∧ val l = val A) ∧ w' = w := by
  obtain ⟨g, cap, rfl, h1, h2, h3, h4, h5⟩ := ra
  refine (trim9 A w hA hm g cap h2 h4).mono ?_
  rintro e w ⟨k, rfl, hk, rfl⟩
  obtain ⟨k1, k2⟩ := unhide hk
  refine ⟨_, rfl, hide ⟨A.take k, ⟨g, cap, by rw [List.length_take, Nat.min_eq_left k1], h1, by rw [List.length_take]; omega, h3, fun j hj => ?_, h5⟩, dig_take hA k, by rw [List.length_take]; omega, k2⟩, rfl⟩
  rw [List.length_take] at hj
  rw [h4 j (by omega), List.getD_eq_getElem?_getD, List.getD_eq_getElem?_getD, List.getElem?_take_of_lt (by omega)]
theorem times_sl {a b : Int} (w : World) (h0 : 0 ≤ a) (h1 : a < 18446744073709551616) (h2 : 0 ≤ b) (h3 : b < 18446744073709551616) :
    Calls Tryd.prog 30 #[.int .u64 a, .int .u64 b] w fun e w' => ∃ v, e = .returned v ∧ Hid ((∃ l, Sl w' v l ∧ Dig l ∧ 0 < l.length ∧ l.length ≤ 9 ∧ val l = a * b) ∧ Keep w w') := by
  refine (times_ref a b w h0 h1 h2 h3).mono ?_
  rintro e w' ⟨v, l, rfl, hr, hd, ⟨l0, l1, lv⟩, hb⟩
  exact ⟨v, rfl, hide ⟨⟨l, hr.sl l0, hd, l0, l1, lv⟩, hb⟩⟩
theorem parts_sl {u : Int} (w : World) (h0 : 0 ≤ u) (h1 : u < 18446744073709551616) :
    Calls Tryd.prog 34 #[.int .u64 u] w fun e w' => ∃ v, e = .returned v ∧ Hid ((∃ l, Sl w' v l ∧ Dig l ∧ l.length = 4 ∧ val l = u) ∧ Keep w w') := by
  refine (parts_any u w h0 h1).mono ?_
  rintro e w' ⟨v, l, rfl, hr, hd, ⟨l0, lv⟩, hb⟩
  exact ⟨v, rfl, hide ⟨⟨l, hr.sl (by omega), hd, l0, lv⟩, hb⟩⟩
/-- two rows, and what they are -/
def Two (w : World) (v1 v2 : Value) (m : Nat) (a b : Int) : Prop := ∃ l1 l2, Sl w v1 l1 ∧ Dig l1 ∧ 0 < l1.length ∧ l1.length ≤ m ∧ val l1 = a ∧ Sl w v2 l2 ∧ Dig l2 ∧ l2.length ≤ m ∧ val l2 = b
def One (w : World) (v : Value) (m : Nat) (a : Int) : Prop := ∃ l, Sl w v l ∧ Dig l ∧ 0 < l.length ∧ l.length ≤ m ∧ val l = a
theorem One.keep {w w' : World} {v : Value} {m : Nat} {a : Int} (h : One w v m a) (k : Keep w w') : One w' v m a := by
  obtain ⟨l, h1, h2⟩ := h
  exact ⟨l, h1.keep k, h2⟩
theorem two_mk {w0 w1 w2 : World} {v1 v2 : Value} {a b : Int} (h1 : (∃ l, Sl w1 v1 l ∧ Dig l ∧ 0 < l.length ∧ l.length ≤ 9 ∧ val l = a) ∧ Keep w0 w1) (h2 : (∃ l, Sl w2 v2 l ∧ Dig l ∧ 0 < l.length ∧ l.length ≤ 9 ∧ val l = b) ∧ Keep w1 w2) : Two w2 v1 v2 9 a b := by
  obtain ⟨⟨l1, a1, a2, a3, a4, a5⟩, _⟩ := h1
  obtain ⟨⟨l2, b1, b2, b3, b4, b5⟩, k⟩ := h2
  exact ⟨l1, l2, a1.keep k, a2, a3, by omega, a5, b1, b2, by omega, b5⟩
theorem two_mk2 {w1 w2 : World} {v1 v2 : Value} {a b : Int} (h1 : One w1 v1 10 a) (h2 : (∃ l, Sl w2 v2 l ∧ Dig l ∧ l.length = 4 ∧ val l = b) ∧ Keep w1 w2) : Two w2 v1 v2 10 a b := by
  obtain ⟨l1, a1, a2, a3, a4, a5⟩ := h1
  obtain ⟨⟨l2, b1, b2, b3, b5⟩, k⟩ := h2
  exact ⟨l1, l2, a1.keep k, a2, a3, by omega, a5, b1, b2, by omega, b5⟩
theorem two_trim {w : World} {v1 v2 : Value} {a b : Int} (h : Two w v1 v2 9 a b) : Calls Tryd.prog 31 #[v2] w fun e w' => ∃ v, e = .returned v ∧ Hid (Two w v1 v 9 a b) ∧ w' = w := by
  obtain ⟨l1, l2, a1, a2, a3, a4, a5, b1, b2, b4, b5⟩ := h
  refine (trim9_any b1 b2 (by omega)).mono ?_
  rintro e w' ⟨v, rfl, h, rfl⟩
  obtain ⟨l, c1, c2, c3, c4⟩ := unhide h
  exact ⟨v, rfl, hide ⟨l1, l, a1, a2, a3, a4, a5, c1, c2, by omega, c4.trans b5⟩, rfl⟩
theorem two_minus {w : World} {v1 v2 : Value} {a b : Int} (h : Two w v1 v2 9 a b) (hle : b ≤ a) : Calls Tryd.prog 29 #[v1, v2] w fun e w' => ∃ v, e = .returned v ∧ Hid (One w' v 9 (a - b) ∧ Keep w w') := by
  obtain ⟨l1, l2, a1, a2, a3, a4, a5, b1, b2, b4, b5⟩ := h
  refine (minus_sl v1 v2 l1 l2 w a1 b1 a2 b2 (by omega) (by omega) (by omega)).mono ?_
  rintro e w' ⟨v, l, rfl, hr, hd, ⟨e1, e2⟩, hb⟩
  exact ⟨v, rfl, hide ⟨⟨l, hr.sl (by omega), hd, by omega, by omega, by omega⟩, hb⟩⟩
theorem one_plus {w : World} {v : Value} {a : Int} (h : One w v 9 a) : Calls Tryd.prog 33 #[v, v] w fun e w' => ∃ u, e = .returned u ∧ Hid (One w' u 10 (a + a) ∧ Keep w w') := by
  obtain ⟨l, a1, a2, a3, a4, a5⟩ := h
  refine (plus_sl v v l l 9 w a1 a1 a2 a2 a4 a4 (by omega)).mono ?_
  rintro e w' ⟨u, m, rfl, hr, hd, ⟨e1, e2, e3⟩, hb⟩
  exact ⟨u, rfl, hide ⟨⟨m, hr.sl (by omega), hd, by omega, by omega, by omega⟩, hb⟩⟩
theorem two_order {w : World} {v1 v2 : Value} {a b c : Int} (h : Two w v1 v2 10 a b) (hc : cm a b = c) : Calls Tryd.prog 32 #[v1, v2] w fun e w' => e = .returned (.int .i64 c) ∧ w' = w := by
  obtain ⟨l1, l2, a1, a2, a3, a4, a5, b1, b2, b4, b5⟩ := h
  have := order_sl v1 v2 l1 l2 w a1 b1 a2 b2 (by omega) (by omega)
  rw [a5, b5, hc] at this
  exact this
/-- noughts ahead of digits -/
def padn (m : Nat) (l : List UInt8) : ByteArray := ⟨(List.replicate m 48 ++ l).toArray⟩
def strLen : Value → Nat
  | .string s => s.size
  | _ => 0
theorem padn_zero (l : List UInt8) : padn 0 l = ⟨l.toArray⟩ := rfl
theorem padn_size (m : Nat) (l : List UInt8) : (padn m l).size = m + l.length := by
  show (List.replicate m (48 : UInt8) ++ l).toArray.size = _
  simp
theorem padn_cat (m : Nat) (l : List UInt8) : (⟨#[48]⟩ : ByteArray) ++ padn m l = padn (m + 1) l := by
  refine bytes_eq ?_
  rw [bytes_app]
  simp [padn, List.replicate_succ]
set_option maxHeartbeats 4000000 in
theorem rrate_a (n d p : Int) (w : World) (h : p < 0) :
    Calls Tryd.prog 13 #[.agg #[.int .i64 n, .int .i64 d], .int .i64 p] w fun e w' => e = .returned (.tuple #[.string ⟨#[]⟩, .int .i64 1]) ∧ Keep w w' := by
  go_enter Tryd.func13, Tryd.ntmps13
  go_wp2_with fail
  go_ret2
  exact ⟨rfl, by repeat (first | (with_reducible exact Keep.refl _) | apply keep_ext | apply Keep.alloc | apply Keep.drew)⟩
set_option maxHeartbeats 4000000 in
theorem rrate_b (n d p : Int) (w : World) (h0 : ¬ p < 0) (h : 9 < p) :
    Calls Tryd.prog 13 #[.agg #[.int .i64 n, .int .i64 d], .int .i64 p] w fun e w' => e = .returned (.tuple #[.string ⟨#[]⟩, .int .i64 1]) ∧ Keep w w' := by
  go_enter Tryd.func13, Tryd.ntmps13
  go_wp2_with fail
  go_ret2
  exact ⟨rfl, by repeat (first | (with_reducible exact Keep.refl _) | apply keep_ext | apply Keep.alloc | apply Keep.drew)⟩
set_option maxHeartbeats 4000000 in
theorem rrate_c (n d p : Int) (w : World) (h0 : ¬ p < 0) (h1 : ¬ 9 < p) (T : Hid (∀ w, Calls Tryd.prog 27 #[.agg #[.int .i64 n, .int .i64 d]] w fun e w' => e = .returned (.bool false) ∧ Keep w w')) :
    Calls Tryd.prog 13 #[.agg #[.int .i64 n, .int .i64 d], .int .i64 p] w fun e w' => e = .returned (.tuple #[.string ⟨#[]⟩, .int .i64 1]) ∧ Keep w w' := by
  go_enter Tryd.func13, Tryd.ntmps13
  go_wp2_with fail
  (refine ((unhide T) _).mono ?_; rintro e w2 ⟨rfl, hk⟩; obtain ⟨o1, k1, rfl⟩ := hk.ext; clear hk)
  go_wp2_with fail
  go_ret2
  exact ⟨rfl, by repeat (first | (with_reducible exact Keep.refl _) | apply keep_ext | apply Keep.alloc | apply Keep.drew)⟩
set_option maxHeartbeats 4000000 in
theorem rrate_d (n d p : Int) (w : World) (h0 : ¬ p < 0) (h1 : ¬ 9 < p) (h2 : n < 0) (T : Hid (∀ w, Calls Tryd.prog 27 #[.agg #[.int .i64 n, .int .i64 d]] w fun e w' => e = .returned (.bool true) ∧ Keep w w')) :
    Calls Tryd.prog 13 #[.agg #[.int .i64 n, .int .i64 d], .int .i64 p] w fun e w' => e = .returned (.tuple #[.string ⟨#[]⟩, .int .i64 1]) ∧ Keep w w' := by
  go_enter Tryd.func13, Tryd.ntmps13
  go_wp2_with fail
  (refine ((unhide T) _).mono ?_; rintro e w2 ⟨rfl, hk⟩; obtain ⟨o1, k1, rfl⟩ := hk.ext; clear hk)
  go_wp2_with fail
  go_ret2
  exact ⟨rfl, by repeat (first | (with_reducible exact Keep.refl _) | apply keep_ext | apply Keep.alloc | apply Keep.drew)⟩
set_option maxHeartbeats 8000000 in
theorem rrate_e (n d : Int) (k : Nat) (q z : Int) (w : World) (hk9 : k ≤ 9) (h2 : ¬ n < 0) (hz : ¬ z = 0) (T : Hid (∀ w, Calls Tryd.prog 27 #[.agg #[.int .i64 n, .int .i64 d]] w fun e w' => e = .returned (.bool true) ∧ Keep w w')) (T1 : Hid (∀ w, Calls Tryd.prog 28 #[.int .i64 n, .int .i64 (ten k), .int .i64 d] w fun e w' => e = .returned (.tuple #[.int .i64 q, .int .i64 z]) ∧ Keep w w')) :
    Calls Tryd.prog 13 #[.agg #[.int .i64 n, .int .i64 d], .int .i64 (k : Int)] w fun e w' => e = .returned (.tuple #[.string ⟨#[]⟩, .int .i64 z]) ∧ Keep w w' := by
  have p0 : ¬ (k : Int) < 0 := by omega
  have p9 : ¬ (9 : Int) < (k : Int) := by omega
  go_enter Tryd.func13, Tryd.ntmps13
  go_wp2_with fail
  (refine ((unhide T) _).mono ?_; rintro e w2 ⟨rfl, hk⟩; obtain ⟨o1, k1, rfl⟩ := hk.ext; clear hk)
  go_wp2_with fail
  go_loopw [6, 7] (fun u i wr => ∃ j : Nat, j ≤ k ∧ u = .int .i64 (ten j) ∧ i = .int .i64 (j : Int) ∧ wr = ext (w.alloc (.cells #[.int .i64 n, .int .i64 d] 23)) o1 k1) (fun _ i _ => k - (intOf i).toNat)
  case atStart => exact ⟨0, by omega, rfl, rfl, rfl⟩
  case round =>
    obtain ⟨j, hj, rfl, rfl, rfl⟩ := hrel
    by_cases hlt : j < k
    · have li : (j : Int) < (k : Int) := by omega
      have hb := ten_bd (p := j) (by omega)
      have hm : wrap64 (ten j * 10) = ten (j + 1) := by rw [ten_succ]; exact wrap_in (by omega)
      go_wp2_with fail
      go_roundw
      case rel => exact ⟨j + 1, hlt, rfl, by go_num, trivial⟩
      case measure => simp [intOf]; omega
    · have : k = j := by omega
      subst this
      go_wp2_with fail
      (refine ((unhide T1) _).mono ?_; rintro e w2 ⟨rfl, hk⟩; obtain ⟨o2, k2, rfl⟩ := hk.ext; clear hk)
      go_wp2_with fail
      go_ret2
      exact ⟨rfl, by repeat (first | (with_reducible exact Keep.refl _) | apply keep_ext | apply Keep.alloc | apply Keep.drew)⟩
set_option maxHeartbeats 8000000 in
theorem rrate_h (n d : Int) (k : Nat) (q c : Int) (w : World) (hk9 : k ≤ 9) (h2 : ¬ n < 0) (hq : (q == 9223372036854775807) = true) (hc : 0 ≤ c) (T : Hid (∀ w, Calls Tryd.prog 27 #[.agg #[.int .i64 n, .int .i64 d]] w fun e w' => e = .returned (.bool true) ∧ Keep w w')) (T1 : Hid (∀ w, Calls Tryd.prog 28 #[.int .i64 n, .int .i64 (ten k), .int .i64 d] w fun e w' => e = .returned (.tuple #[.int .i64 q, .int .i64 0]) ∧ Keep w w'))
    (cn1 : IntKind.u64.wrap n = n) (cn2 : IntKind.u64.wrap (ten k) = ten k) (cn3 : IntKind.u64.wrap q = q) (cn4 : IntKind.u64.wrap d = d)
    (TA : Hid (∀ w, Calls Tryd.prog 30 #[.int .u64 n, .int .u64 (ten k)] w fun e w' => ∃ v, e = .returned v ∧ Hid ((∃ l, Sl w' v l ∧ Dig l ∧ 0 < l.length ∧ l.length ≤ 9 ∧ val l = n * ten k) ∧ Keep w w')))
    (TB : Hid (∀ w, Calls Tryd.prog 30 #[.int .u64 q, .int .u64 d] w fun e w' => ∃ v, e = .returned v ∧ Hid ((∃ l, Sl w' v l ∧ Dig l ∧ 0 < l.length ∧ l.length ≤ 9 ∧ val l = q * d) ∧ Keep w w')))
    (TP : Hid (∀ w, Calls Tryd.prog 34 #[.int .u64 d] w fun e w' => ∃ v, e = .returned v ∧ Hid ((∃ l, Sl w' v l ∧ Dig l ∧ l.length = 4 ∧ val l = d) ∧ Keep w w')))
    (HLE : Hid (q * d ≤ n * ten k)) (HCM : Hid (cm ((n * ten k - q * d) + (n * ten k - q * d)) d = c)) :
    Calls Tryd.prog 13 #[.agg #[.int .i64 n, .int .i64 d], .int .i64 (k : Int)] w fun e w' => e = .returned (.tuple #[.string ⟨#[]⟩, .int .i64 2]) ∧ Keep w w' := by
  have p0 : ¬ (k : Int) < 0 := by omega
  have p9 : ¬ (9 : Int) < (k : Int) := by omega
  go_enter Tryd.func13, Tryd.ntmps13
  go_wp2_with fail
  (refine ((unhide T) _).mono ?_; rintro e w2 ⟨rfl, hk⟩; obtain ⟨o1, k1, rfl⟩ := hk.ext; clear hk)
  go_wp2_with fail
  go_loopw [6, 7] (fun u i wr => ∃ j : Nat, j ≤ k ∧ u = .int .i64 (ten j) ∧ i = .int .i64 (j : Int) ∧ wr = ext (w.alloc (.cells #[.int .i64 n, .int .i64 d] 23)) o1 k1) (fun _ i _ => k - (intOf i).toNat)
  case atStart => exact ⟨0, by omega, rfl, rfl, rfl⟩
  case round =>
    obtain ⟨j, hj, rfl, rfl, rfl⟩ := hrel
    by_cases hlt : j < k
    · have li : (j : Int) < (k : Int) := by omega
      have hb := ten_bd (p := j) (by omega)
      have hm : wrap64 (ten j * 10) = ten (j + 1) := by rw [ten_succ]; exact wrap_in (by omega)
      go_wp2_with fail
      go_roundw
      case rel => exact ⟨j + 1, hlt, rfl, by go_num, trivial⟩
      case measure => simp [intOf]; omega
    · have : k = j := by omega
      subst this
      go_wp2_with fail
      (refine ((unhide T1) _).mono ?_; rintro e w2 ⟨rfl, hk⟩; obtain ⟨o2, k2, rfl⟩ := hk.ext; clear hk)
      go_wp2_with fail
      refine wp_region_held_drew (S := (fun w' => w'.cell? ⟨w.heap.size, 0, none⟩ = some (.int .i64 n) ∧ w'.cell? ⟨w.heap.size, 1, none⟩ = some (.int .i64 d))) (by kernel_rfl) (by simp [go_sem]) (fun hHeld => ?_)
      refine wpAnyH_take (i := 0) (v := ?_) rfl (by kernel_rfl) (by kernel_rfl) (by kernel_rfl) (fun _ _ _ h => h) (Or.inl ⟨by rfl, ?_⟩) hHeld ?_
      rotate_left
      · intro w hSw
        try dsimp only at hSw
        go_simp
        try with_reducible rfl
      show wpAnyH _ _ _ _ _ _ _ (Act.put _ (some 47) _) _
      try simp only [Act.put, List.setIfInBounds_toArray, List.set_cons_zero, List.set_cons_succ]
      refine wpAnyH_take (i := 1) (v := ?_) rfl (by kernel_rfl) (by kernel_rfl) (by kernel_rfl) (fun _ _ _ h => h) (Or.inl ⟨by rfl, ?_⟩) hHeld ?_
      rotate_left
      · intro w hSw
        try dsimp only at hSw
        go_simp
        try with_reducible rfl
      show wpAnyH _ _ _ _ _ _ _ (Act.put _ (some 48) _) _
      try simp only [Act.put, List.setIfInBounds_toArray, List.set_cons_zero, List.set_cons_succ]
      refine wpAnyH_take (i := 2) (v := ?_) rfl (by kernel_rfl) (by kernel_rfl) (by kernel_rfl) (fun _ _ _ h => h) (Or.inl ⟨by rfl, ?_⟩) hHeld ?_
      rotate_left
      · intro w hSw
        try dsimp only at hSw
        go_simp
        try with_reducible rfl
      show wpAnyH _ _ _ _ _ _ _ (Act.put _ (some 49) _) _
      try simp only [Act.put, List.setIfInBounds_toArray, List.set_cons_zero, List.set_cons_succ]
      refine wpAnyH_take (i := 3) (v := ?_) rfl (by kernel_rfl) (by kernel_rfl) (by kernel_rfl) (fun _ _ _ h => h) (Or.inl ⟨by rfl, ?_⟩) hHeld ?_
      rotate_left
      · intro w hSw
        try dsimp only at hSw
        go_simp
        try with_reducible rfl
      show wpAnyH _ _ _ _ _ _ _ (Act.put _ (some 50) _) _
      try simp only [Act.put, List.setIfInBounds_toArray, List.set_cons_zero, List.set_cons_succ]
      refine wpAnyH_take (i := 4) (v := ?_) rfl (by kernel_rfl) (by kernel_rfl) (by kernel_rfl) (fun _ _ _ h => h) (Or.inl ⟨by rfl, ?_⟩) hHeld ?_
      rotate_left
      · intro w hSw
        try dsimp only at hSw
        go_simp
        try with_reducible rfl
      show wpAnyH _ _ _ _ _ _ _ (Act.put _ (some 51) _) _
      try simp only [Act.put, List.setIfInBounds_toArray, List.set_cons_zero, List.set_cons_succ]
      refine wpAnyH_take (i := 6) (v := ?_) rfl (by kernel_rfl) (by kernel_rfl) (by kernel_rfl) (fun _ _ _ h => h) (Or.inl ⟨by rfl, ?_⟩) hHeld ?_
      rotate_left
      · intro w hSw
        try dsimp only at hSw
        go_simp
        try with_reducible rfl
      show wpAnyH _ _ _ _ _ _ _ (Act.put _ (some 53) _) _
      try simp only [Act.put, List.setIfInBounds_toArray, List.set_cons_zero, List.set_cons_succ]
      refine wpAnyH_take (i := 7) (v := ?_) rfl (by kernel_rfl) (by kernel_rfl) (by kernel_rfl) (fun _ _ _ h => h) (Or.inl ⟨by rfl, ?_⟩) hHeld ?_
      rotate_left
      · intro w hSw
        try dsimp only at hSw
        go_simp
        try with_reducible rfl
      show wpAnyH _ _ _ _ _ _ _ (Act.put _ (some 54) _) _
      try simp only [Act.put, List.setIfInBounds_toArray, List.set_cons_zero, List.set_cons_succ]
      refine wpAnyH_take (i := 8) (v := ?_) rfl (by kernel_rfl) (by kernel_rfl) (by kernel_rfl) (fun _ _ _ h => h) (Or.inl ⟨by rfl, ?_⟩) hHeld ?_
      rotate_left
      · intro w hSw
        try dsimp only at hSw
        go_simp
        try with_reducible rfl
      show wpAnyH _ _ _ _ _ _ _ (Act.put _ (some 55) _) _
      try simp only [Act.put, List.setIfInBounds_toArray, List.set_cons_zero, List.set_cons_succ]
      refine wpAnyH_take (i := 9) (v := ?_) rfl (by kernel_rfl) (by kernel_rfl) (by kernel_rfl) (fun _ _ _ h => h) (Or.inl ⟨by rfl, ?_⟩) hHeld ?_
      rotate_left
      · intro w hSw
        try dsimp only at hSw
        go_simp
        try with_reducible rfl
      show wpAnyH _ _ _ _ _ _ _ (Act.put _ (some 56) _) _
      try simp only [Act.put, List.setIfInBounds_toArray, List.set_cons_zero, List.set_cons_succ]
      refine wpAnyH_take (i := 10) (v := ?_) rfl (by kernel_rfl) (by kernel_rfl) (by kernel_rfl) (fun _ _ _ h => h) (Or.inl ⟨by rfl, ?_⟩) hHeld ?_
      rotate_left
      · intro w hSw
        try dsimp only at hSw
        go_simp
        try with_reducible rfl
      show wpAnyH _ _ _ _ _ _ _ (Act.put _ (some 57) _) _
      try simp only [Act.put, List.setIfInBounds_toArray, List.set_cons_zero, List.set_cons_succ]
      refine wpAnyH_ready (rs := [5]) (by kernel_rfl) (by simp) ?_
      refine AllReadyH.cons rfl (fun K hK => ?_) AllReadyH.nil
      go_simp
      clear hHeld
      (refine ((unhide TA) _).mono ?_; rintro e w1 ⟨v1, rfl, h1⟩; have HC1 : Hid (w1.cell? ⟨w.heap.size, 0, none⟩ = some (.int .i64 n) ∧ w1.cell? ⟨w.heap.size, 1, none⟩ = some (.int .i64 d)) := hide ⟨cl9 (unhide h1).2 (by simp [go_sem]), cl9 (unhide h1).2 (by simp [go_sem])⟩; have HW1 : Hid (Keep w w1) := hide ((by repeat (first | (with_reducible exact Keep.refl _) | apply keep_ext | apply Keep.alloc | apply Keep.drew) : Keep w _).trans (unhide h1).2))
      try go_wp2_with fail
      refine hK.out _ _ ?_ (fun hHeld => ?_)
      · exact unhide HC1
      clear hK K
      try simp only [Act.put, List.setIfInBounds_toArray, List.set_cons_zero, List.set_cons_succ]
      refine wpAnyH_ready (rs := [11]) (by kernel_rfl) (by simp) ?_
      refine AllReadyH.cons rfl (fun K hK => ?_) AllReadyH.nil
      go_simp
      clear hHeld
      (refine ((unhide TB) _).mono ?_; rintro e w2 ⟨v2, rfl, h2'⟩; have HC2 : Hid (w2.cell? ⟨w.heap.size, 0, none⟩ = some (.int .i64 n) ∧ w2.cell? ⟨w.heap.size, 1, none⟩ = some (.int .i64 d)) := hide ⟨cl9 (unhide h2').2 (unhide HC1).1, cl9 (unhide h2').2 (unhide HC1).2⟩; have HW2 : Hid (Keep w w2) := hide ((unhide HW1).trans (unhide h2').2); have HS : Hid (Two w2 v1 v2 9 (n * ten k) (q * d)) := hide (two_mk (unhide h1) (unhide h2')); clear h1 h2' HC1 HW1)
      try go_wp2_with fail
      refine hK.out _ _ ?_ (fun hHeld => ?_)
      · exact unhide HC2
      clear hK K
      try simp only [Act.put, List.setIfInBounds_toArray, List.set_cons_zero, List.set_cons_succ]
      refine wpAnyH_ready (rs := [12]) (by kernel_rfl) (by simp) ?_
      refine AllReadyH.cons rfl (fun K hK => ?_) AllReadyH.nil
      go_simp
      clear hHeld
      (refine (two_trim (unhide HS)).mono ?_; rintro e w2 ⟨v3, rfl, h3, rfl⟩; have HS3 : Hid (Two w2 v1 v3 9 (n * ten k) (q * d)) := h3; clear h3 HS)
      try go_wp2_with fail
      refine hK.out _ _ ?_ (fun hHeld => ?_)
      · exact unhide HC2
      clear hK K
      try simp only [Act.put, List.setIfInBounds_toArray, List.set_cons_zero, List.set_cons_succ]
      refine wpAnyH_ready (rs := [13]) (by kernel_rfl) (by simp) ?_
      refine AllReadyH.cons rfl (fun K hK => ?_) AllReadyH.nil
      go_simp
      clear hHeld
      (refine (two_minus (unhide HS3) (unhide HLE)).mono ?_; rintro e w4 ⟨v4, rfl, h4⟩; have HC4 : Hid (w4.cell? ⟨w.heap.size, 0, none⟩ = some (.int .i64 n) ∧ w4.cell? ⟨w.heap.size, 1, none⟩ = some (.int .i64 d)) := hide ⟨cl9 (unhide h4).2 (unhide HC2).1, cl9 (unhide h4).2 (unhide HC2).2⟩; have HW4 : Hid (Keep w w4) := hide ((unhide HW2).trans (unhide h4).2); have HS4 : Hid (One w4 v4 9 (n * ten k - q * d)) := hide (unhide h4).1; clear h4 HS3 HC2 HW2)
      try go_wp2_with fail
      refine hK.out _ _ ?_ (fun hHeld => ?_)
      · exact unhide HC4
      clear hK K
      try simp only [Act.put, List.setIfInBounds_toArray, List.set_cons_zero, List.set_cons_succ]
      refine wpAnyH_take (i := 14) (v := ?_) rfl (by kernel_rfl) (by kernel_rfl) (by kernel_rfl) (fun _ _ _ h => h) (Or.inl ⟨by rfl, ?_⟩) hHeld ?_
      rotate_left
      · intro w hSw
        try dsimp only at hSw
        go_simp
        try with_reducible rfl
      show wpAnyH _ _ _ _ _ _ _ (Act.put _ (some 10) _) _
      try simp only [Act.put, List.setIfInBounds_toArray, List.set_cons_zero, List.set_cons_succ]
      refine wpAnyH_done (by kernel_rfl) ?_ _
      clear hHeld
      have hc1 := (unhide HC4).1
      have hc2 := (unhide HC4).2
      clear HC4
      go_wp2_with fail
      refine wp_region_held_drew (S := (fun w' => w'.cell? ⟨w.heap.size, 0, none⟩ = some (.int .i64 n) ∧ w'.cell? ⟨w.heap.size, 1, none⟩ = some (.int .i64 d))) (by kernel_rfl) (by exact ⟨cl9 (Keep.refl w4).drew hc1, cl9 (Keep.refl w4).drew hc2⟩) (fun hHeld => ?_)
      refine wpAnyH_take (i := 0) (v := ?_) rfl (by kernel_rfl) (by kernel_rfl) (by kernel_rfl) (fun _ _ _ h => h) (Or.inl ⟨by rfl, ?_⟩) hHeld ?_
      rotate_left
      · intro w hSw
        try dsimp only at hSw
        go_simp
        try with_reducible rfl
      show wpAnyH _ _ _ _ _ _ _ (Act.put _ (some 61) _) _
      try simp only [Act.put, List.setIfInBounds_toArray, List.set_cons_zero, List.set_cons_succ]
      refine wpAnyH_take (i := 1) (v := ?_) rfl (by kernel_rfl) (by kernel_rfl) (by kernel_rfl) (fun _ _ _ h => h) (Or.inl ⟨by rfl, ?_⟩) hHeld ?_
      rotate_left
      · intro w hSw
        try dsimp only at hSw
        go_simp
        try with_reducible rfl
      show wpAnyH _ _ _ _ _ _ _ (Act.put _ (some 62) _) _
      try simp only [Act.put, List.setIfInBounds_toArray, List.set_cons_zero, List.set_cons_succ]
      refine wpAnyH_take (i := 3) (v := ?_) rfl (by kernel_rfl) (by kernel_rfl) (by kernel_rfl) (fun _ _ _ h => h) (Or.inl ⟨by rfl, ?_⟩) hHeld ?_
      rotate_left
      · intro w hSw
        try dsimp only at hSw
        go_simp
        try with_reducible rfl
      show wpAnyH _ _ _ _ _ _ _ (Act.put _ (some 64) _) _
      try simp only [Act.put, List.setIfInBounds_toArray, List.set_cons_zero, List.set_cons_succ]
      refine wpAnyH_take (i := 4) (v := ?_) rfl (by kernel_rfl) (by kernel_rfl) (by kernel_rfl) (fun _ _ _ h => h) (Or.inl ⟨by rfl, ?_⟩) hHeld ?_
      rotate_left
      · intro w hSw
        try dsimp only at hSw
        go_simp
        try with_reducible rfl
      show wpAnyH _ _ _ _ _ _ _ (Act.put _ (some 65) _) _
      try simp only [Act.put, List.setIfInBounds_toArray, List.set_cons_zero, List.set_cons_succ]
      refine wpAnyH_take (i := 5) (v := ?_) rfl (by kernel_rfl) (by kernel_rfl) (by kernel_rfl) (fun _ _ _ h => h) (Or.inl ⟨by rfl, ?_⟩) hHeld ?_
      rotate_left
      · intro w hSw
        try dsimp only at hSw
        go_simp
        try with_reducible rfl
      show wpAnyH _ _ _ _ _ _ _ (Act.put _ (some 66) _) _
      try simp only [Act.put, List.setIfInBounds_toArray, List.set_cons_zero, List.set_cons_succ]
      refine wpAnyH_ready (rs := [2]) (by kernel_rfl) (by simp) ?_
      refine AllReadyH.cons rfl (fun K hK => ?_) AllReadyH.nil
      go_simp
      clear hHeld
      (refine (one_plus ((unhide HS4).keep (Keep.refl w4).drew)).mono ?_; rintro e w5 ⟨v5, rfl, h5⟩; have HC5 : Hid (w5.cell? ⟨w.heap.size, 0, none⟩ = some (.int .i64 n) ∧ w5.cell? ⟨w.heap.size, 1, none⟩ = some (.int .i64 d)) := hide ⟨cl9 (unhide h5).2 (cl9 (Keep.refl w4).drew hc1), cl9 (unhide h5).2 (cl9 (Keep.refl w4).drew hc2)⟩; have HW5 : Hid (Keep w w5) := hide ((unhide HW4).trans ((Keep.refl w4).drew.trans (unhide h5).2)); have HS5 : Hid (One w5 v5 10 ((n * ten k - q * d) + (n * ten k - q * d))) := hide (unhide h5).1; clear h5 HS4 HW4 hc1 hc2)
      try go_wp2_with fail
      refine hK.out _ _ ?_ (fun hHeld => ?_)
      · exact unhide HC5
      clear hK K
      try simp only [Act.put, List.setIfInBounds_toArray, List.set_cons_zero, List.set_cons_succ]
      refine wpAnyH_ready (rs := [6]) (by kernel_rfl) (by simp) ?_
      refine AllReadyH.cons rfl (fun K hK => ?_) AllReadyH.nil
      go_simp
      clear hHeld
      (refine ((unhide TP) _).mono ?_; rintro e w6 ⟨v6, rfl, h6⟩; have HC6 : Hid (w6.cell? ⟨w.heap.size, 0, none⟩ = some (.int .i64 n) ∧ w6.cell? ⟨w.heap.size, 1, none⟩ = some (.int .i64 d)) := hide ⟨cl9 (unhide h6).2 (unhide HC5).1, cl9 (unhide h6).2 (unhide HC5).2⟩; have HW6 : Hid (Keep w w6) := hide ((unhide HW5).trans (unhide h6).2); have HS6 : Hid (Two w6 v5 v6 10 ((n * ten k - q * d) + (n * ten k - q * d)) d) := hide (two_mk2 (unhide HS5) (unhide h6)); clear h6 HS5 HC5 HW5)
      try go_wp2_with fail
      refine hK.out _ _ ?_ (fun hHeld => ?_)
      · exact unhide HC6
      clear hK K
      try simp only [Act.put, List.setIfInBounds_toArray, List.set_cons_zero, List.set_cons_succ]
      refine wpAnyH_ready (rs := [7]) (by kernel_rfl) (by simp) ?_
      refine AllReadyH.cons rfl (fun K hK => ?_) AllReadyH.nil
      go_simp
      clear hHeld
      (refine (two_order (unhide HS6) (unhide HCM)).mono ?_; rintro e w6 ⟨rfl, rfl⟩; clear HS6)
      try go_wp2_with fail
      refine hK.out _ _ ?_ (fun hHeld => ?_)
      · exact unhide HC6
      clear hK K
      try simp only [Act.put, List.setIfInBounds_toArray, List.set_cons_zero, List.set_cons_succ]
      refine wpAnyH_take (i := 8) (v := ?_) rfl (by kernel_rfl) (by kernel_rfl) (by kernel_rfl) (fun _ _ _ h => h) (Or.inl ⟨by rfl, ?_⟩) hHeld ?_
      rotate_left
      · intro w hSw
        try dsimp only at hSw
        go_simp
        try with_reducible rfl
      show wpAnyH _ _ _ _ _ _ _ (Act.put _ (some 69) _) _
      try simp only [Act.put, List.setIfInBounds_toArray, List.set_cons_zero, List.set_cons_succ]
      refine wpAnyH_done (by kernel_rfl) ?_ _
      clear hHeld
      clear HC6
      go_wp2_with fail
      go_ret2
      exact ⟨rfl, (unhide HW6)⟩

set_option maxHeartbeats 8000000 in
theorem rrate_x (n d : Int) (k : Nat) (q c X : Int) (w : World) (hk9 : k ≤ 9) (h2 : ¬ n < 0) (hq : (q == 9223372036854775807) = false) (hc : 0 ≤ c) (hX : wrap64 (q + 1) = X) (HK0 : Hid (k = 0)) (HL : Hid (1 ≤ (Lib.itoa X).length ∧ (Lib.itoa X).length ≤ 30)) (TD : Hid (∀ w, Calls Tryd.prog 35 #[.int .i64 X] w fun e w' => e = .returned (.string ⟨(Lib.itoa X).toArray⟩) ∧ Keep w w')) (T : Hid (∀ w, Calls Tryd.prog 27 #[.agg #[.int .i64 n, .int .i64 d]] w fun e w' => e = .returned (.bool true) ∧ Keep w w')) (T1 : Hid (∀ w, Calls Tryd.prog 28 #[.int .i64 n, .int .i64 (ten k), .int .i64 d] w fun e w' => e = .returned (.tuple #[.int .i64 q, .int .i64 0]) ∧ Keep w w'))
    (cn1 : IntKind.u64.wrap n = n) (cn2 : IntKind.u64.wrap (ten k) = ten k) (cn3 : IntKind.u64.wrap q = q) (cn4 : IntKind.u64.wrap d = d)
    (TA : Hid (∀ w, Calls Tryd.prog 30 #[.int .u64 n, .int .u64 (ten k)] w fun e w' => ∃ v, e = .returned v ∧ Hid ((∃ l, Sl w' v l ∧ Dig l ∧ 0 < l.length ∧ l.length ≤ 9 ∧ val l = n * ten k) ∧ Keep w w')))
    (TB : Hid (∀ w, Calls Tryd.prog 30 #[.int .u64 q, .int .u64 d] w fun e w' => ∃ v, e = .returned v ∧ Hid ((∃ l, Sl w' v l ∧ Dig l ∧ 0 < l.length ∧ l.length ≤ 9 ∧ val l = q * d) ∧ Keep w w')))
    (TP : Hid (∀ w, Calls Tryd.prog 34 #[.int .u64 d] w fun e w' => ∃ v, e = .returned v ∧ Hid ((∃ l, Sl w' v l ∧ Dig l ∧ l.length = 4 ∧ val l = d) ∧ Keep w w')))
    (HLE : Hid (q * d ≤ n * ten k)) (HCM : Hid (cm ((n * ten k - q * d) + (n * ten k - q * d)) d = c)) :
    Calls Tryd.prog 13 #[.agg #[.int .i64 n, .int .i64 d], .int .i64 (k : Int)] w fun e w' => e = .returned (.tuple #[.string ⟨(Lib.itoa X).toArray⟩, .int .i64 0]) ∧ Keep w w' := by
  have p0 : ¬ (k : Int) < 0 := by omega
  have p9 : ¬ (9 : Int) < (k : Int) := by omega
  go_enter Tryd.func13, Tryd.ntmps13
  go_wp2_with fail
  (refine ((unhide T) _).mono ?_; rintro e w2 ⟨rfl, hk⟩; obtain ⟨o1, k1, rfl⟩ := hk.ext; clear hk)
  go_wp2_with fail
  go_loopw [6, 7] (fun u i wr => ∃ j : Nat, j ≤ k ∧ u = .int .i64 (ten j) ∧ i = .int .i64 (j : Int) ∧ wr = ext (w.alloc (.cells #[.int .i64 n, .int .i64 d] 23)) o1 k1) (fun _ i _ => k - (intOf i).toNat)
  case atStart => exact ⟨0, by omega, rfl, rfl, rfl⟩
  case round =>
    obtain ⟨j, hj, rfl, rfl, rfl⟩ := hrel
    by_cases hlt : j < k
    · have li : (j : Int) < (k : Int) := by omega
      have hb := ten_bd (p := j) (by omega)
      have hm : wrap64 (ten j * 10) = ten (j + 1) := by rw [ten_succ]; exact wrap_in (by omega)
      go_wp2_with fail
      go_roundw
      case rel => exact ⟨j + 1, hlt, rfl, by go_num, trivial⟩
      case measure => simp [intOf]; omega
    · have : k = j := by omega
      subst this
      go_wp2_with fail
      (refine ((unhide T1) _).mono ?_; rintro e w2 ⟨rfl, hk⟩; obtain ⟨o2, k2, rfl⟩ := hk.ext; clear hk)
      go_wp2_with fail
      refine wp_region_held_drew (S := (fun w' => w'.cell? ⟨w.heap.size, 0, none⟩ = some (.int .i64 n) ∧ w'.cell? ⟨w.heap.size, 1, none⟩ = some (.int .i64 d))) (by kernel_rfl) (by simp [go_sem]) (fun hHeld => ?_)
      refine wpAnyH_take (i := 0) (v := ?_) rfl (by kernel_rfl) (by kernel_rfl) (by kernel_rfl) (fun _ _ _ h => h) (Or.inl ⟨by rfl, ?_⟩) hHeld ?_
      rotate_left
      · intro w hSw
        try dsimp only at hSw
        go_simp
        try with_reducible rfl
      show wpAnyH _ _ _ _ _ _ _ (Act.put _ (some 47) _) _
      try simp only [Act.put, List.setIfInBounds_toArray, List.set_cons_zero, List.set_cons_succ]
      refine wpAnyH_take (i := 1) (v := ?_) rfl (by kernel_rfl) (by kernel_rfl) (by kernel_rfl) (fun _ _ _ h => h) (Or.inl ⟨by rfl, ?_⟩) hHeld ?_
      rotate_left
      · intro w hSw
        try dsimp only at hSw
        go_simp
        try with_reducible rfl
      show wpAnyH _ _ _ _ _ _ _ (Act.put _ (some 48) _) _
      try simp only [Act.put, List.setIfInBounds_toArray, List.set_cons_zero, List.set_cons_succ]
      refine wpAnyH_take (i := 2) (v := ?_) rfl (by kernel_rfl) (by kernel_rfl) (by kernel_rfl) (fun _ _ _ h => h) (Or.inl ⟨by rfl, ?_⟩) hHeld ?_
      rotate_left
      · intro w hSw
        try dsimp only at hSw
        go_simp
        try with_reducible rfl
      show wpAnyH _ _ _ _ _ _ _ (Act.put _ (some 49) _) _
      try simp only [Act.put, List.setIfInBounds_toArray, List.set_cons_zero, List.set_cons_succ]
      refine wpAnyH_take (i := 3) (v := ?_) rfl (by kernel_rfl) (by kernel_rfl) (by kernel_rfl) (fun _ _ _ h => h) (Or.inl ⟨by rfl, ?_⟩) hHeld ?_
      rotate_left
      · intro w hSw
        try dsimp only at hSw
        go_simp
        try with_reducible rfl
      show wpAnyH _ _ _ _ _ _ _ (Act.put _ (some 50) _) _
      try simp only [Act.put, List.setIfInBounds_toArray, List.set_cons_zero, List.set_cons_succ]
      refine wpAnyH_take (i := 4) (v := ?_) rfl (by kernel_rfl) (by kernel_rfl) (by kernel_rfl) (fun _ _ _ h => h) (Or.inl ⟨by rfl, ?_⟩) hHeld ?_
      rotate_left
      · intro w hSw
        try dsimp only at hSw
        go_simp
        try with_reducible rfl
      show wpAnyH _ _ _ _ _ _ _ (Act.put _ (some 51) _) _
      try simp only [Act.put, List.setIfInBounds_toArray, List.set_cons_zero, List.set_cons_succ]
      refine wpAnyH_take (i := 6) (v := ?_) rfl (by kernel_rfl) (by kernel_rfl) (by kernel_rfl) (fun _ _ _ h => h) (Or.inl ⟨by rfl, ?_⟩) hHeld ?_
      rotate_left
      · intro w hSw
        try dsimp only at hSw
        go_simp
        try with_reducible rfl
      show wpAnyH _ _ _ _ _ _ _ (Act.put _ (some 53) _) _
      try simp only [Act.put, List.setIfInBounds_toArray, List.set_cons_zero, List.set_cons_succ]
      refine wpAnyH_take (i := 7) (v := ?_) rfl (by kernel_rfl) (by kernel_rfl) (by kernel_rfl) (fun _ _ _ h => h) (Or.inl ⟨by rfl, ?_⟩) hHeld ?_
      rotate_left
      · intro w hSw
        try dsimp only at hSw
        go_simp
        try with_reducible rfl
      show wpAnyH _ _ _ _ _ _ _ (Act.put _ (some 54) _) _
      try simp only [Act.put, List.setIfInBounds_toArray, List.set_cons_zero, List.set_cons_succ]
      refine wpAnyH_take (i := 8) (v := ?_) rfl (by kernel_rfl) (by kernel_rfl) (by kernel_rfl) (fun _ _ _ h => h) (Or.inl ⟨by rfl, ?_⟩) hHeld ?_
      rotate_left
      · intro w hSw
        try dsimp only at hSw
        go_simp
        try with_reducible rfl
      show wpAnyH _ _ _ _ _ _ _ (Act.put _ (some 55) _) _
      try simp only [Act.put, List.setIfInBounds_toArray, List.set_cons_zero, List.set_cons_succ]
      refine wpAnyH_take (i := 9) (v := ?_) rfl (by kernel_rfl) (by kernel_rfl) (by kernel_rfl) (fun _ _ _ h => h) (Or.inl ⟨by rfl, ?_⟩) hHeld ?_
      rotate_left
      · intro w hSw
        try dsimp only at hSw
        go_simp
        try with_reducible rfl
      show wpAnyH _ _ _ _ _ _ _ (Act.put _ (some 56) _) _
      try simp only [Act.put, List.setIfInBounds_toArray, List.set_cons_zero, List.set_cons_succ]
      refine wpAnyH_take (i := 10) (v := ?_) rfl (by kernel_rfl) (by kernel_rfl) (by kernel_rfl) (fun _ _ _ h => h) (Or.inl ⟨by rfl, ?_⟩) hHeld ?_
      rotate_left
      · intro w hSw
        try dsimp only at hSw
        go_simp
        try with_reducible rfl
      show wpAnyH _ _ _ _ _ _ _ (Act.put _ (some 57) _) _
      try simp only [Act.put, List.setIfInBounds_toArray, List.set_cons_zero, List.set_cons_succ]
      refine wpAnyH_ready (rs := [5]) (by kernel_rfl) (by simp) ?_
      refine AllReadyH.cons rfl (fun K hK => ?_) AllReadyH.nil
      go_simp
      clear hHeld
      (refine ((unhide TA) _).mono ?_; rintro e w1 ⟨v1, rfl, h1⟩; have HC1 : Hid (w1.cell? ⟨w.heap.size, 0, none⟩ = some (.int .i64 n) ∧ w1.cell? ⟨w.heap.size, 1, none⟩ = some (.int .i64 d)) := hide ⟨cl9 (unhide h1).2 (by simp [go_sem]), cl9 (unhide h1).2 (by simp [go_sem])⟩; have HW1 : Hid (Keep w w1) := hide ((by repeat (first | (with_reducible exact Keep.refl _) | apply keep_ext | apply Keep.alloc | apply Keep.drew) : Keep w _).trans (unhide h1).2))
      try go_wp2_with fail
      refine hK.out _ _ ?_ (fun hHeld => ?_)
      · exact unhide HC1
      clear hK K
      try simp only [Act.put, List.setIfInBounds_toArray, List.set_cons_zero, List.set_cons_succ]
      refine wpAnyH_ready (rs := [11]) (by kernel_rfl) (by simp) ?_
      refine AllReadyH.cons rfl (fun K hK => ?_) AllReadyH.nil
      go_simp
      clear hHeld
      (refine ((unhide TB) _).mono ?_; rintro e w2 ⟨v2, rfl, h2'⟩; have HC2 : Hid (w2.cell? ⟨w.heap.size, 0, none⟩ = some (.int .i64 n) ∧ w2.cell? ⟨w.heap.size, 1, none⟩ = some (.int .i64 d)) := hide ⟨cl9 (unhide h2').2 (unhide HC1).1, cl9 (unhide h2').2 (unhide HC1).2⟩; have HW2 : Hid (Keep w w2) := hide ((unhide HW1).trans (unhide h2').2); have HS : Hid (Two w2 v1 v2 9 (n * ten k) (q * d)) := hide (two_mk (unhide h1) (unhide h2')); clear h1 h2' HC1 HW1)
      try go_wp2_with fail
      refine hK.out _ _ ?_ (fun hHeld => ?_)
      · exact unhide HC2
      clear hK K
      try simp only [Act.put, List.setIfInBounds_toArray, List.set_cons_zero, List.set_cons_succ]
      refine wpAnyH_ready (rs := [12]) (by kernel_rfl) (by simp) ?_
      refine AllReadyH.cons rfl (fun K hK => ?_) AllReadyH.nil
      go_simp
      clear hHeld
      (refine (two_trim (unhide HS)).mono ?_; rintro e w2 ⟨v3, rfl, h3, rfl⟩; have HS3 : Hid (Two w2 v1 v3 9 (n * ten k) (q * d)) := h3; clear h3 HS)
      try go_wp2_with fail
      refine hK.out _ _ ?_ (fun hHeld => ?_)
      · exact unhide HC2
      clear hK K
      try simp only [Act.put, List.setIfInBounds_toArray, List.set_cons_zero, List.set_cons_succ]
      refine wpAnyH_ready (rs := [13]) (by kernel_rfl) (by simp) ?_
      refine AllReadyH.cons rfl (fun K hK => ?_) AllReadyH.nil
      go_simp
      clear hHeld
      (refine (two_minus (unhide HS3) (unhide HLE)).mono ?_; rintro e w4 ⟨v4, rfl, h4⟩; have HC4 : Hid (w4.cell? ⟨w.heap.size, 0, none⟩ = some (.int .i64 n) ∧ w4.cell? ⟨w.heap.size, 1, none⟩ = some (.int .i64 d)) := hide ⟨cl9 (unhide h4).2 (unhide HC2).1, cl9 (unhide h4).2 (unhide HC2).2⟩; have HW4 : Hid (Keep w w4) := hide ((unhide HW2).trans (unhide h4).2); have HS4 : Hid (One w4 v4 9 (n * ten k - q * d)) := hide (unhide h4).1; clear h4 HS3 HC2 HW2)
      try go_wp2_with fail
      refine hK.out _ _ ?_ (fun hHeld => ?_)
      · exact unhide HC4
      clear hK K
      try simp only [Act.put, List.setIfInBounds_toArray, List.set_cons_zero, List.set_cons_succ]
      refine wpAnyH_take (i := 14) (v := ?_) rfl (by kernel_rfl) (by kernel_rfl) (by kernel_rfl) (fun _ _ _ h => h) (Or.inl ⟨by rfl, ?_⟩) hHeld ?_
      rotate_left
      · intro w hSw
        try dsimp only at hSw
        go_simp
        try with_reducible rfl
      show wpAnyH _ _ _ _ _ _ _ (Act.put _ (some 10) _) _
      try simp only [Act.put, List.setIfInBounds_toArray, List.set_cons_zero, List.set_cons_succ]
      refine wpAnyH_done (by kernel_rfl) ?_ _
      clear hHeld
      have hc1 := (unhide HC4).1
      have hc2 := (unhide HC4).2
      clear HC4
      go_wp2_with fail
      refine wp_region_held_drew (S := (fun w' => w'.cell? ⟨w.heap.size, 0, none⟩ = some (.int .i64 n) ∧ w'.cell? ⟨w.heap.size, 1, none⟩ = some (.int .i64 d))) (by kernel_rfl) (by exact ⟨cl9 (Keep.refl w4).drew hc1, cl9 (Keep.refl w4).drew hc2⟩) (fun hHeld => ?_)
      refine wpAnyH_take (i := 0) (v := ?_) rfl (by kernel_rfl) (by kernel_rfl) (by kernel_rfl) (fun _ _ _ h => h) (Or.inl ⟨by rfl, ?_⟩) hHeld ?_
      rotate_left
      · intro w hSw
        try dsimp only at hSw
        go_simp
        try with_reducible rfl
      show wpAnyH _ _ _ _ _ _ _ (Act.put _ (some 61) _) _
      try simp only [Act.put, List.setIfInBounds_toArray, List.set_cons_zero, List.set_cons_succ]
      refine wpAnyH_take (i := 1) (v := ?_) rfl (by kernel_rfl) (by kernel_rfl) (by kernel_rfl) (fun _ _ _ h => h) (Or.inl ⟨by rfl, ?_⟩) hHeld ?_
      rotate_left
      · intro w hSw
        try dsimp only at hSw
        go_simp
        try with_reducible rfl
      show wpAnyH _ _ _ _ _ _ _ (Act.put _ (some 62) _) _
      try simp only [Act.put, List.setIfInBounds_toArray, List.set_cons_zero, List.set_cons_succ]
      refine wpAnyH_take (i := 3) (v := ?_) rfl (by kernel_rfl) (by kernel_rfl) (by kernel_rfl) (fun _ _ _ h => h) (Or.inl ⟨by rfl, ?_⟩) hHeld ?_
      rotate_left
      · intro w hSw
        try dsimp only at hSw
        go_simp
        try with_reducible rfl
      show wpAnyH _ _ _ _ _ _ _ (Act.put _ (some 64) _) _
      try simp only [Act.put, List.setIfInBounds_toArray, List.set_cons_zero, List.set_cons_succ]
      refine wpAnyH_take (i := 4) (v := ?_) rfl (by kernel_rfl) (by kernel_rfl) (by kernel_rfl) (fun _ _ _ h => h) (Or.inl ⟨by rfl, ?_⟩) hHeld ?_
      rotate_left
      · intro w hSw
        try dsimp only at hSw
        go_simp
        try with_reducible rfl
      show wpAnyH _ _ _ _ _ _ _ (Act.put _ (some 65) _) _
      try simp only [Act.put, List.setIfInBounds_toArray, List.set_cons_zero, List.set_cons_succ]
      refine wpAnyH_take (i := 5) (v := ?_) rfl (by kernel_rfl) (by kernel_rfl) (by kernel_rfl) (fun _ _ _ h => h) (Or.inl ⟨by rfl, ?_⟩) hHeld ?_
      rotate_left
      · intro w hSw
        try dsimp only at hSw
        go_simp
        try with_reducible rfl
      show wpAnyH _ _ _ _ _ _ _ (Act.put _ (some 66) _) _
      try simp only [Act.put, List.setIfInBounds_toArray, List.set_cons_zero, List.set_cons_succ]
      refine wpAnyH_ready (rs := [2]) (by kernel_rfl) (by simp) ?_
      refine AllReadyH.cons rfl (fun K hK => ?_) AllReadyH.nil
      go_simp
      clear hHeld
      (refine (one_plus ((unhide HS4).keep (Keep.refl w4).drew)).mono ?_; rintro e w5 ⟨v5, rfl, h5⟩; have HC5 : Hid (w5.cell? ⟨w.heap.size, 0, none⟩ = some (.int .i64 n) ∧ w5.cell? ⟨w.heap.size, 1, none⟩ = some (.int .i64 d)) := hide ⟨cl9 (unhide h5).2 (cl9 (Keep.refl w4).drew hc1), cl9 (unhide h5).2 (cl9 (Keep.refl w4).drew hc2)⟩; have HW5 : Hid (Keep w w5) := hide ((unhide HW4).trans ((Keep.refl w4).drew.trans (unhide h5).2)); have HS5 : Hid (One w5 v5 10 ((n * ten k - q * d) + (n * ten k - q * d))) := hide (unhide h5).1; clear h5 HS4 HW4 hc1 hc2)
      try go_wp2_with fail
      refine hK.out _ _ ?_ (fun hHeld => ?_)
      · exact unhide HC5
      clear hK K
      try simp only [Act.put, List.setIfInBounds_toArray, List.set_cons_zero, List.set_cons_succ]
      refine wpAnyH_ready (rs := [6]) (by kernel_rfl) (by simp) ?_
      refine AllReadyH.cons rfl (fun K hK => ?_) AllReadyH.nil
      go_simp
      clear hHeld
      (refine ((unhide TP) _).mono ?_; rintro e w6 ⟨v6, rfl, h6⟩; have HC6 : Hid (w6.cell? ⟨w.heap.size, 0, none⟩ = some (.int .i64 n) ∧ w6.cell? ⟨w.heap.size, 1, none⟩ = some (.int .i64 d)) := hide ⟨cl9 (unhide h6).2 (unhide HC5).1, cl9 (unhide h6).2 (unhide HC5).2⟩; have HW6 : Hid (Keep w w6) := hide ((unhide HW5).trans (unhide h6).2); have HS6 : Hid (Two w6 v5 v6 10 ((n * ten k - q * d) + (n * ten k - q * d)) d) := hide (two_mk2 (unhide HS5) (unhide h6)); clear h6 HS5 HC5 HW5)
      try go_wp2_with fail
      refine hK.out _ _ ?_ (fun hHeld => ?_)
      · exact unhide HC6
      clear hK K
      try simp only [Act.put, List.setIfInBounds_toArray, List.set_cons_zero, List.set_cons_succ]
      refine wpAnyH_ready (rs := [7]) (by kernel_rfl) (by simp) ?_
      refine AllReadyH.cons rfl (fun K hK => ?_) AllReadyH.nil
      go_simp
      clear hHeld
      (refine (two_order (unhide HS6) (unhide HCM)).mono ?_; rintro e w6 ⟨rfl, rfl⟩; clear HS6)
      try go_wp2_with fail
      refine hK.out _ _ ?_ (fun hHeld => ?_)
      · exact unhide HC6
      clear hK K
      try simp only [Act.put, List.setIfInBounds_toArray, List.set_cons_zero, List.set_cons_succ]
      refine wpAnyH_take (i := 8) (v := ?_) rfl (by kernel_rfl) (by kernel_rfl) (by kernel_rfl) (fun _ _ _ h => h) (Or.inl ⟨by rfl, ?_⟩) hHeld ?_
      rotate_left
      · intro w hSw
        try dsimp only at hSw
        go_simp
        try with_reducible rfl
      show wpAnyH _ _ _ _ _ _ _ (Act.put _ (some 69) _) _
      try simp only [Act.put, List.setIfInBounds_toArray, List.set_cons_zero, List.set_cons_succ]
      refine wpAnyH_done (by kernel_rfl) ?_ _
      clear hHeld
      clear HC6
      go_wp2_with fail
      (refine ((unhide TD) _).mono ?_; rintro e w7 ⟨rfl, hk⟩)
      have HW7 : Hid (Keep w w7) := hide ((unhide HW6).trans hk)
      clear hk HW6
      go_wp2_with fail
      go_loopw [11] (fun sv wr => ∃ m : Nat, sv = .string (padn m (Lib.itoa X)) ∧ m ≤ k + 1 - (Lib.itoa X).length ∧ Hid ((padn m (Lib.itoa X)).size = m + (Lib.itoa X).length) ∧ wr = w7) (fun sv _ => k + 1 - strLen sv)
      case atStart => exact ⟨0, by rw [padn_zero], by omega, hide (padn_size _ _), rfl⟩
      case round =>
        obtain ⟨m, rfl, hm, HM, rfl⟩ := hrel
        have hsz := unhide HM
        have hL := unhide HL
        by_cases hlt : m + (Lib.itoa X).length ≤ k
        · have hle : ((padn m (Lib.itoa X)).size : Int) ≤ (k : Int) := by omega
          have hcat : (⟨#[48]⟩ : ByteArray) ++ padn m (Lib.itoa X) = padn (m + 1) (Lib.itoa X) := padn_cat _ _
          have hov : ¬ 9223372036854775807 < 1 + (padn m (Lib.itoa X)).size := by omega
          have HSZ := hide hsz
          clear hsz hL
          go_wp2_with fail
          go_roundw
          case rel => exact ⟨m + 1, rfl, by omega, hide (padn_size _ _), trivial⟩
          case measure => simp only [strLen]; rw [padn_size, padn_size]; omega
        · have hm2 : m = k + 1 - (Lib.itoa X).length := by omega
          have hgt : ¬ ((padn m (Lib.itoa X)).size : Int) ≤ (k : Int) := by omega
          have hkz : ((k : Int) == 0) = true := by have := unhide HK0; simp; omega
          obtain ⟨D, hD⟩ : ∃ D, padn m (Lib.itoa X) = D := ⟨_, rfl⟩
          have hfin : D = ⟨(Lib.itoa X).toArray⟩ := by
            have := unhide HK0
            have hm0 : m = 0 := by omega
            rw [← hD, hm0]; rfl
          have HF := hide hfin
          have hDs : D.size = m + (Lib.itoa X).length := by rw [← hD]; exact hsz
          rw [hD] at hgt ⊢
          have hgt2 : (k : Int) < (D.size : Int) := by omega
          clear hsz hL hD HM hm hlt hm2 hgt hDs hfin
          go_wp2_with fail
          go_ret2
          exact ⟨by rw [unhide HF]; rfl, unhide HW7⟩

set_option maxHeartbeats 8000000 in
theorem rrate_y (n d : Int) (k : Nat) (q c X : Int) (Q : Nat) (D A B : ByteArray) (w : World) (hk9 : k ≤ 9) (h2 : ¬ n < 0) (hq : (q == 9223372036854775807) = false) (hc : 0 ≤ c) (hX : wrap64 (q + 1) = X) (HK0 : Hid (1 ≤ k)) (HD : Hid (padn (k + 1 - (Lib.itoa X).length) (Lib.itoa X) = D)) (HQ : Hid (D.size - k = Q)) (e4 : ¬ 9223372036854775807 < A.size + 1) (e5 : ¬ 9223372036854775807 < A.size + 1 + B.size) (hA : D.extract 0 Q = A) (hB : D.extract Q D.size = B) (HL : Hid (1 ≤ (Lib.itoa X).length ∧ (Lib.itoa X).length ≤ 30)) (TD : Hid (∀ w, Calls Tryd.prog 35 #[.int .i64 X] w fun e w' => e = .returned (.string ⟨(Lib.itoa X).toArray⟩) ∧ Keep w w')) (T : Hid (∀ w, Calls Tryd.prog 27 #[.agg #[.int .i64 n, .int .i64 d]] w fun e w' => e = .returned (.bool true) ∧ Keep w w')) (T1 : Hid (∀ w, Calls Tryd.prog 28 #[.int .i64 n, .int .i64 (ten k), .int .i64 d] w fun e w' => e = .returned (.tuple #[.int .i64 q, .int .i64 0]) ∧ Keep w w'))
    (cn1 : IntKind.u64.wrap n = n) (cn2 : IntKind.u64.wrap (ten k) = ten k) (cn3 : IntKind.u64.wrap q = q) (cn4 : IntKind.u64.wrap d = d)
    (TA : Hid (∀ w, Calls Tryd.prog 30 #[.int .u64 n, .int .u64 (ten k)] w fun e w' => ∃ v, e = .returned v ∧ Hid ((∃ l, Sl w' v l ∧ Dig l ∧ 0 < l.length ∧ l.length ≤ 9 ∧ val l = n * ten k) ∧ Keep w w')))
    (TB : Hid (∀ w, Calls Tryd.prog 30 #[.int .u64 q, .int .u64 d] w fun e w' => ∃ v, e = .returned v ∧ Hid ((∃ l, Sl w' v l ∧ Dig l ∧ 0 < l.length ∧ l.length ≤ 9 ∧ val l = q * d) ∧ Keep w w')))
    (TP : Hid (∀ w, Calls Tryd.prog 34 #[.int .u64 d] w fun e w' => ∃ v, e = .returned v ∧ Hid ((∃ l, Sl w' v l ∧ Dig l ∧ l.length = 4 ∧ val l = d) ∧ Keep w w')))
    (HLE : Hid (q * d ≤ n * ten k)) (HCM : Hid (cm ((n * ten k - q * d) + (n * ten k - q * d)) d = c)) :
    Calls Tryd.prog 13 #[.agg #[.int .i64 n, .int .i64 d], .int .i64 (k : Int)] w fun e w' => e = .returned (.tuple #[.string ((A ++ ⟨#[46]⟩) ++ B), .int .i64 0]) ∧ Keep w w' := by
  have p0 : ¬ (k : Int) < 0 := by omega
  have p9 : ¬ (9 : Int) < (k : Int) := by omega
  go_enter Tryd.func13, Tryd.ntmps13
  go_wp2_with fail
  (refine ((unhide T) _).mono ?_; rintro e w2 ⟨rfl, hk⟩; obtain ⟨o1, k1, rfl⟩ := hk.ext; clear hk)
  go_wp2_with fail
  go_loopw [6, 7] (fun u i wr => ∃ j : Nat, j ≤ k ∧ u = .int .i64 (ten j) ∧ i = .int .i64 (j : Int) ∧ wr = ext (w.alloc (.cells #[.int .i64 n, .int .i64 d] 23)) o1 k1) (fun _ i _ => k - (intOf i).toNat)
  case atStart => exact ⟨0, by omega, rfl, rfl, rfl⟩
  case round =>
    obtain ⟨j, hj, rfl, rfl, rfl⟩ := hrel
    by_cases hlt : j < k
    · have li : (j : Int) < (k : Int) := by omega
      have hb := ten_bd (p := j) (by omega)
      have hm : wrap64 (ten j * 10) = ten (j + 1) := by rw [ten_succ]; exact wrap_in (by omega)
      go_wp2_with fail
      go_roundw
      case rel => exact ⟨j + 1, hlt, rfl, by go_num, trivial⟩
      case measure => simp [intOf]; omega
    · have : k = j := by omega
      subst this
      go_wp2_with fail
      (refine ((unhide T1) _).mono ?_; rintro e w2 ⟨rfl, hk⟩; obtain ⟨o2, k2, rfl⟩ := hk.ext; clear hk)
      go_wp2_with fail
      refine wp_region_held_drew (S := (fun w' => w'.cell? ⟨w.heap.size, 0, none⟩ = some (.int .i64 n) ∧ w'.cell? ⟨w.heap.size, 1, none⟩ = some (.int .i64 d))) (by kernel_rfl) (by simp [go_sem]) (fun hHeld => ?_)
      refine wpAnyH_take (i := 0) (v := ?_) rfl (by kernel_rfl) (by kernel_rfl) (by kernel_rfl) (fun _ _ _ h => h) (Or.inl ⟨by rfl, ?_⟩) hHeld ?_
      rotate_left
      · intro w hSw
        try dsimp only at hSw
        go_simp
        try with_reducible rfl
      show wpAnyH _ _ _ _ _ _ _ (Act.put _ (some 47) _) _
      try simp only [Act.put, List.setIfInBounds_toArray, List.set_cons_zero, List.set_cons_succ]
      refine wpAnyH_take (i := 1) (v := ?_) rfl (by kernel_rfl) (by kernel_rfl) (by kernel_rfl) (fun _ _ _ h => h) (Or.inl ⟨by rfl, ?_⟩) hHeld ?_
      rotate_left
      · intro w hSw
        try dsimp only at hSw
        go_simp
        try with_reducible rfl
      show wpAnyH _ _ _ _ _ _ _ (Act.put _ (some 48) _) _
      try simp only [Act.put, List.setIfInBounds_toArray, List.set_cons_zero, List.set_cons_succ]
      refine wpAnyH_take (i := 2) (v := ?_) rfl (by kernel_rfl) (by kernel_rfl) (by kernel_rfl) (fun _ _ _ h => h) (Or.inl ⟨by rfl, ?_⟩) hHeld ?_
      rotate_left
      · intro w hSw
        try dsimp only at hSw
        go_simp
        try with_reducible rfl
      show wpAnyH _ _ _ _ _ _ _ (Act.put _ (some 49) _) _
      try simp only [Act.put, List.setIfInBounds_toArray, List.set_cons_zero, List.set_cons_succ]
      refine wpAnyH_take (i := 3) (v := ?_) rfl (by kernel_rfl) (by kernel_rfl) (by kernel_rfl) (fun _ _ _ h => h) (Or.inl ⟨by rfl, ?_⟩) hHeld ?_
      rotate_left
      · intro w hSw
        try dsimp only at hSw
        go_simp
        try with_reducible rfl
      show wpAnyH _ _ _ _ _ _ _ (Act.put _ (some 50) _) _
      try simp only [Act.put, List.setIfInBounds_toArray, List.set_cons_zero, List.set_cons_succ]
      refine wpAnyH_take (i := 4) (v := ?_) rfl (by kernel_rfl) (by kernel_rfl) (by kernel_rfl) (fun _ _ _ h => h) (Or.inl ⟨by rfl, ?_⟩) hHeld ?_
      rotate_left
      · intro w hSw
        try dsimp only at hSw
        go_simp
        try with_reducible rfl
      show wpAnyH _ _ _ _ _ _ _ (Act.put _ (some 51) _) _
      try simp only [Act.put, List.setIfInBounds_toArray, List.set_cons_zero, List.set_cons_succ]
      refine wpAnyH_take (i := 6) (v := ?_) rfl (by kernel_rfl) (by kernel_rfl) (by kernel_rfl) (fun _ _ _ h => h) (Or.inl ⟨by rfl, ?_⟩) hHeld ?_
      rotate_left
      · intro w hSw
        try dsimp only at hSw
        go_simp
        try with_reducible rfl
      show wpAnyH _ _ _ _ _ _ _ (Act.put _ (some 53) _) _
      try simp only [Act.put, List.setIfInBounds_toArray, List.set_cons_zero, List.set_cons_succ]
      refine wpAnyH_take (i := 7) (v := ?_) rfl (by kernel_rfl) (by kernel_rfl) (by kernel_rfl) (fun _ _ _ h => h) (Or.inl ⟨by rfl, ?_⟩) hHeld ?_
      rotate_left
      · intro w hSw
        try dsimp only at hSw
        go_simp
        try with_reducible rfl
      show wpAnyH _ _ _ _ _ _ _ (Act.put _ (some 54) _) _
      try simp only [Act.put, List.setIfInBounds_toArray, List.set_cons_zero, List.set_cons_succ]
      refine wpAnyH_take (i := 8) (v := ?_) rfl (by kernel_rfl) (by kernel_rfl) (by kernel_rfl) (fun _ _ _ h => h) (Or.inl ⟨by rfl, ?_⟩) hHeld ?_
      rotate_left
      · intro w hSw
        try dsimp only at hSw
        go_simp
        try with_reducible rfl
      show wpAnyH _ _ _ _ _ _ _ (Act.put _ (some 55) _) _
      try simp only [Act.put, List.setIfInBounds_toArray, List.set_cons_zero, List.set_cons_succ]
      refine wpAnyH_take (i := 9) (v := ?_) rfl (by kernel_rfl) (by kernel_rfl) (by kernel_rfl) (fun _ _ _ h => h) (Or.inl ⟨by rfl, ?_⟩) hHeld ?_
      rotate_left
      · intro w hSw
        try dsimp only at hSw
        go_simp
        try with_reducible rfl
      show wpAnyH _ _ _ _ _ _ _ (Act.put _ (some 56) _) _
      try simp only [Act.put, List.setIfInBounds_toArray, List.set_cons_zero, List.set_cons_succ]
      refine wpAnyH_take (i := 10) (v := ?_) rfl (by kernel_rfl) (by kernel_rfl) (by kernel_rfl) (fun _ _ _ h => h) (Or.inl ⟨by rfl, ?_⟩) hHeld ?_
      rotate_left
      · intro w hSw
        try dsimp only at hSw
        go_simp
        try with_reducible rfl
      show wpAnyH _ _ _ _ _ _ _ (Act.put _ (some 57) _) _
      try simp only [Act.put, List.setIfInBounds_toArray, List.set_cons_zero, List.set_cons_succ]
      refine wpAnyH_ready (rs := [5]) (by kernel_rfl) (by simp) ?_
      refine AllReadyH.cons rfl (fun K hK => ?_) AllReadyH.nil
      go_simp
      clear hHeld
      (refine ((unhide TA) _).mono ?_; rintro e w1 ⟨v1, rfl, h1⟩; have HC1 : Hid (w1.cell? ⟨w.heap.size, 0, none⟩ = some (.int .i64 n) ∧ w1.cell? ⟨w.heap.size, 1, none⟩ = some (.int .i64 d)) := hide ⟨cl9 (unhide h1).2 (by simp [go_sem]), cl9 (unhide h1).2 (by simp [go_sem])⟩; have HW1 : Hid (Keep w w1) := hide ((by repeat (first | (with_reducible exact Keep.refl _) | apply keep_ext | apply Keep.alloc | apply Keep.drew) : Keep w _).trans (unhide h1).2))
      try go_wp2_with fail
      refine hK.out _ _ ?_ (fun hHeld => ?_)
      · exact unhide HC1
      clear hK K
      try simp only [Act.put, List.setIfInBounds_toArray, List.set_cons_zero, List.set_cons_succ]
      refine wpAnyH_ready (rs := [11]) (by kernel_rfl) (by simp) ?_
      refine AllReadyH.cons rfl (fun K hK => ?_) AllReadyH.nil
      go_simp
      clear hHeld
      (refine ((unhide TB) _).mono ?_; rintro e w2 ⟨v2, rfl, h2'⟩; have HC2 : Hid (w2.cell? ⟨w.heap.size, 0, none⟩ = some (.int .i64 n) ∧ w2.cell? ⟨w.heap.size, 1, none⟩ = some (.int .i64 d)) := hide ⟨cl9 (unhide h2').2 (unhide HC1).1, cl9 (unhide h2').2 (unhide HC1).2⟩; have HW2 : Hid (Keep w w2) := hide ((unhide HW1).trans (unhide h2').2); have HS : Hid (Two w2 v1 v2 9 (n * ten k) (q * d)) := hide (two_mk (unhide h1) (unhide h2')); clear h1 h2' HC1 HW1)
      try go_wp2_with fail
      refine hK.out _ _ ?_ (fun hHeld => ?_)
      · exact unhide HC2
      clear hK K
      try simp only [Act.put, List.setIfInBounds_toArray, List.set_cons_zero, List.set_cons_succ]
      refine wpAnyH_ready (rs := [12]) (by kernel_rfl) (by simp) ?_
      refine AllReadyH.cons rfl (fun K hK => ?_) AllReadyH.nil
      go_simp
      clear hHeld
      (refine (two_trim (unhide HS)).mono ?_; rintro e w2 ⟨v3, rfl, h3, rfl⟩; have HS3 : Hid (Two w2 v1 v3 9 (n * ten k) (q * d)) := h3; clear h3 HS)
      try go_wp2_with fail
      refine hK.out _ _ ?_ (fun hHeld => ?_)
      · exact unhide HC2
      clear hK K
      try simp only [Act.put, List.setIfInBounds_toArray, List.set_cons_zero, List.set_cons_succ]
      refine wpAnyH_ready (rs := [13]) (by kernel_rfl) (by simp) ?_
      refine AllReadyH.cons rfl (fun K hK => ?_) AllReadyH.nil
      go_simp
      clear hHeld
      (refine (two_minus (unhide HS3) (unhide HLE)).mono ?_; rintro e w4 ⟨v4, rfl, h4⟩; have HC4 : Hid (w4.cell? ⟨w.heap.size, 0, none⟩ = some (.int .i64 n) ∧ w4.cell? ⟨w.heap.size, 1, none⟩ = some (.int .i64 d)) := hide ⟨cl9 (unhide h4).2 (unhide HC2).1, cl9 (unhide h4).2 (unhide HC2).2⟩; have HW4 : Hid (Keep w w4) := hide ((unhide HW2).trans (unhide h4).2); have HS4 : Hid (One w4 v4 9 (n * ten k - q * d)) := hide (unhide h4).1; clear h4 HS3 HC2 HW2)
      try go_wp2_with fail
      refine hK.out _ _ ?_ (fun hHeld => ?_)
      · exact unhide HC4
      clear hK K
      try simp only [Act.put, List.setIfInBounds_toArray, List.set_cons_zero, List.set_cons_succ]
      refine wpAnyH_take (i := 14) (v := ?_) rfl (by kernel_rfl) (by kernel_rfl) (by kernel_rfl) (fun _ _ _ h => h) (Or.inl ⟨by rfl, ?_⟩) hHeld ?_
      rotate_left
      · intro w hSw
        try dsimp only at hSw
        go_simp
        try with_reducible rfl
      show wpAnyH _ _ _ _ _ _ _ (Act.put _ (some 10) _) _
      try simp only [Act.put, List.setIfInBounds_toArray, List.set_cons_zero, List.set_cons_succ]
      refine wpAnyH_done (by kernel_rfl) ?_ _
      clear hHeld
      have hc1 := (unhide HC4).1
      have hc2 := (unhide HC4).2
      clear HC4
      go_wp2_with fail
      refine wp_region_held_drew (S := (fun w' => w'.cell? ⟨w.heap.size, 0, none⟩ = some (.int .i64 n) ∧ w'.cell? ⟨w.heap.size, 1, none⟩ = some (.int .i64 d))) (by kernel_rfl) (by exact ⟨cl9 (Keep.refl w4).drew hc1, cl9 (Keep.refl w4).drew hc2⟩) (fun hHeld => ?_)
      refine wpAnyH_take (i := 0) (v := ?_) rfl (by kernel_rfl) (by kernel_rfl) (by kernel_rfl) (fun _ _ _ h => h) (Or.inl ⟨by rfl, ?_⟩) hHeld ?_
      rotate_left
      · intro w hSw
        try dsimp only at hSw
        go_simp
        try with_reducible rfl
      show wpAnyH _ _ _ _ _ _ _ (Act.put _ (some 61) _) _
      try simp only [Act.put, List.setIfInBounds_toArray, List.set_cons_zero, List.set_cons_succ]
      refine wpAnyH_take (i := 1) (v := ?_) rfl (by kernel_rfl) (by kernel_rfl) (by kernel_rfl) (fun _ _ _ h => h) (Or.inl ⟨by rfl, ?_⟩) hHeld ?_
      rotate_left
      · intro w hSw
        try dsimp only at hSw
        go_simp
        try with_reducible rfl
      show wpAnyH _ _ _ _ _ _ _ (Act.put _ (some 62) _) _
      try simp only [Act.put, List.setIfInBounds_toArray, List.set_cons_zero, List.set_cons_succ]
      refine wpAnyH_take (i := 3) (v := ?_) rfl (by kernel_rfl) (by kernel_rfl) (by kernel_rfl) (fun _ _ _ h => h) (Or.inl ⟨by rfl, ?_⟩) hHeld ?_
      rotate_left
      · intro w hSw
        try dsimp only at hSw
        go_simp
        try with_reducible rfl
      show wpAnyH _ _ _ _ _ _ _ (Act.put _ (some 64) _) _
      try simp only [Act.put, List.setIfInBounds_toArray, List.set_cons_zero, List.set_cons_succ]
      refine wpAnyH_take (i := 4) (v := ?_) rfl (by kernel_rfl) (by kernel_rfl) (by kernel_rfl) (fun _ _ _ h => h) (Or.inl ⟨by rfl, ?_⟩) hHeld ?_
      rotate_left
      · intro w hSw
        try dsimp only at hSw
        go_simp
        try with_reducible rfl
      show wpAnyH _ _ _ _ _ _ _ (Act.put _ (some 65) _) _
      try simp only [Act.put, List.setIfInBounds_toArray, List.set_cons_zero, List.set_cons_succ]
      refine wpAnyH_take (i := 5) (v := ?_) rfl (by kernel_rfl) (by kernel_rfl) (by kernel_rfl) (fun _ _ _ h => h) (Or.inl ⟨by rfl, ?_⟩) hHeld ?_
      rotate_left
      · intro w hSw
        try dsimp only at hSw
        go_simp
        try with_reducible rfl
      show wpAnyH _ _ _ _ _ _ _ (Act.put _ (some 66) _) _
      try simp only [Act.put, List.setIfInBounds_toArray, List.set_cons_zero, List.set_cons_succ]
      refine wpAnyH_ready (rs := [2]) (by kernel_rfl) (by simp) ?_
      refine AllReadyH.cons rfl (fun K hK => ?_) AllReadyH.nil
      go_simp
      clear hHeld
      (refine (one_plus ((unhide HS4).keep (Keep.refl w4).drew)).mono ?_; rintro e w5 ⟨v5, rfl, h5⟩; have HC5 : Hid (w5.cell? ⟨w.heap.size, 0, none⟩ = some (.int .i64 n) ∧ w5.cell? ⟨w.heap.size, 1, none⟩ = some (.int .i64 d)) := hide ⟨cl9 (unhide h5).2 (cl9 (Keep.refl w4).drew hc1), cl9 (unhide h5).2 (cl9 (Keep.refl w4).drew hc2)⟩; have HW5 : Hid (Keep w w5) := hide ((unhide HW4).trans ((Keep.refl w4).drew.trans (unhide h5).2)); have HS5 : Hid (One w5 v5 10 ((n * ten k - q * d) + (n * ten k - q * d))) := hide (unhide h5).1; clear h5 HS4 HW4 hc1 hc2)
      try go_wp2_with fail
      refine hK.out _ _ ?_ (fun hHeld => ?_)
      · exact unhide HC5
      clear hK K
      try simp only [Act.put, List.setIfInBounds_toArray, List.set_cons_zero, List.set_cons_succ]
      refine wpAnyH_ready (rs := [6]) (by kernel_rfl) (by simp) ?_
      refine AllReadyH.cons rfl (fun K hK => ?_) AllReadyH.nil
      go_simp
      clear hHeld
      (refine ((unhide TP) _).mono ?_; rintro e w6 ⟨v6, rfl, h6⟩; have HC6 : Hid (w6.cell? ⟨w.heap.size, 0, none⟩ = some (.int .i64 n) ∧ w6.cell? ⟨w.heap.size, 1, none⟩ = some (.int .i64 d)) := hide ⟨cl9 (unhide h6).2 (unhide HC5).1, cl9 (unhide h6).2 (unhide HC5).2⟩; have HW6 : Hid (Keep w w6) := hide ((unhide HW5).trans (unhide h6).2); have HS6 : Hid (Two w6 v5 v6 10 ((n * ten k - q * d) + (n * ten k - q * d)) d) := hide (two_mk2 (unhide HS5) (unhide h6)); clear h6 HS5 HC5 HW5)
      try go_wp2_with fail
      refine hK.out _ _ ?_ (fun hHeld => ?_)
      · exact unhide HC6
      clear hK K
      try simp only [Act.put, List.setIfInBounds_toArray, List.set_cons_zero, List.set_cons_succ]
      refine wpAnyH_ready (rs := [7]) (by kernel_rfl) (by simp) ?_
      refine AllReadyH.cons rfl (fun K hK => ?_) AllReadyH.nil
      go_simp
      clear hHeld
      (refine (two_order (unhide HS6) (unhide HCM)).mono ?_; rintro e w6 ⟨rfl, rfl⟩; clear HS6)
      try go_wp2_with fail
      refine hK.out _ _ ?_ (fun hHeld => ?_)
      · exact unhide HC6
      clear hK K
      try simp only [Act.put, List.setIfInBounds_toArray, List.set_cons_zero, List.set_cons_succ]
      refine wpAnyH_take (i := 8) (v := ?_) rfl (by kernel_rfl) (by kernel_rfl) (by kernel_rfl) (fun _ _ _ h => h) (Or.inl ⟨by rfl, ?_⟩) hHeld ?_
      rotate_left
      · intro w hSw
        try dsimp only at hSw
        go_simp
        try with_reducible rfl
      show wpAnyH _ _ _ _ _ _ _ (Act.put _ (some 69) _) _
      try simp only [Act.put, List.setIfInBounds_toArray, List.set_cons_zero, List.set_cons_succ]
      refine wpAnyH_done (by kernel_rfl) ?_ _
      clear hHeld
      clear HC6
      go_wp2_with fail
      (refine ((unhide TD) _).mono ?_; rintro e w7 ⟨rfl, hk⟩)
      have HW7 : Hid (Keep w w7) := hide ((unhide HW6).trans hk)
      clear hk HW6
      go_wp2_with fail
      go_loopw [11] (fun sv wr => ∃ m : Nat, sv = .string (padn m (Lib.itoa X)) ∧ m ≤ k + 1 - (Lib.itoa X).length ∧ Hid ((padn m (Lib.itoa X)).size = m + (Lib.itoa X).length) ∧ wr = w7) (fun sv _ => k + 1 - strLen sv)
      case atStart => exact ⟨0, by rw [padn_zero], by omega, hide (padn_size _ _), rfl⟩
      case round =>
        obtain ⟨m, rfl, hm, HM, rfl⟩ := hrel
        have hsz := unhide HM
        have hL := unhide HL
        by_cases hlt : m + (Lib.itoa X).length ≤ k
        · have hle : ((padn m (Lib.itoa X)).size : Int) ≤ (k : Int) := by omega
          have hcat : (⟨#[48]⟩ : ByteArray) ++ padn m (Lib.itoa X) = padn (m + 1) (Lib.itoa X) := padn_cat _ _
          have hov : ¬ 9223372036854775807 < 1 + (padn m (Lib.itoa X)).size := by omega
          have HSZ := hide hsz
          clear hsz hL
          go_wp2_with fail
          go_roundw
          case rel => exact ⟨m + 1, rfl, by omega, hide (padn_size _ _), trivial⟩
          case measure => simp only [strLen]; rw [padn_size, padn_size]; omega
        · have hm2 : m = k + 1 - (Lib.itoa X).length := by omega
          have hgt : ¬ ((padn m (Lib.itoa X)).size : Int) ≤ (k : Int) := by omega
          have hkp : ((k : Int) == 0) = false := by have := unhide HK0; simp; omega
          have hD : padn m (Lib.itoa X) = D := by rw [hm2]; exact unhide HD
          have hDs : D.size = m + (Lib.itoa X).length := by rw [← hD]; exact hsz
          have hQ2 := unhide HQ
          have e6 : Q ≤ D.size := by omega
          have e3 : wrap64 ((D.size : Int) - (k : Int)) = (Q : Int) := by rw [wrap_in (by omega)]; omega
          have e3' : IntKind.i64.wrap ((D.size : Int) - (k : Int)) = (Q : Int) := by rw [IntKind.wrap_i64]; omega
          rw [hD] at hgt ⊢
          have hgt2 : (k : Int) < (D.size : Int) := by omega
          clear hDs hQ2
          clear hsz hL hD HD HM hm hlt hm2 hgt
          go_wp2_with fail
          refine wp_region_held_drew (S := (fun w' => True)) (by kernel_rfl) (by trivial) (fun hHeld => ?_)
          refine wpAnyH_take (i := 0) (v := ?_) rfl (by kernel_rfl) (by kernel_rfl) (by kernel_rfl) (fun _ _ _ h => h) (Or.inl ⟨by rfl, ?_⟩) hHeld ?_
          rotate_left
          · intro w hSw
            try dsimp only at hSw
            go_simp
            try with_reducible rfl
          show wpAnyH _ _ _ _ _ _ _ (Act.put _ (some 85) _) _
          try simp only [Act.put, List.setIfInBounds_toArray, List.set_cons_zero, List.set_cons_succ]
          refine wpAnyH_take (i := 1) (v := ?_) rfl (by kernel_rfl) (by kernel_rfl) (by kernel_rfl) (fun _ _ _ h => h) (Or.inl ⟨by rfl, ?_⟩) hHeld ?_
          rotate_left
          · intro w hSw
            try dsimp only at hSw
            go_simp
            try with_reducible rfl
          show wpAnyH _ _ _ _ _ _ _ (Act.put _ (some 86) _) _
          try simp only [Act.put, List.setIfInBounds_toArray, List.set_cons_zero, List.set_cons_succ]
          refine wpAnyH_take (i := 2) (v := ?_) rfl (by kernel_rfl) (by kernel_rfl) (by kernel_rfl) (fun _ _ _ h => h) (Or.inl ⟨by rfl, ?_⟩) hHeld ?_
          rotate_left
          · intro w hSw
            try dsimp only at hSw
            go_simp
            try with_reducible rfl
          show wpAnyH _ _ _ _ _ _ _ (Act.put _ (some 87) _) _
          try simp only [Act.put, List.setIfInBounds_toArray, List.set_cons_zero, List.set_cons_succ]
          refine wpAnyH_take (i := 3) (v := ?_) rfl (by kernel_rfl) (by kernel_rfl) (by kernel_rfl) (fun _ _ _ h => h) (Or.inl ⟨by rfl, ?_⟩) hHeld ?_
          rotate_left
          · intro w hSw
            try dsimp only at hSw
            go_simp
            try with_reducible rfl
          show wpAnyH _ _ _ _ _ _ _ (Act.put _ (some 88) _) _
          try simp only [Act.put, List.setIfInBounds_toArray, List.set_cons_zero, List.set_cons_succ]
          refine wpAnyH_take (i := 4) (v := ?_) rfl (by kernel_rfl) (by kernel_rfl) (by kernel_rfl) (fun _ _ _ h => h) (Or.inl ⟨by rfl, ?_⟩) hHeld ?_
          rotate_left
          · intro w hSw
            try dsimp only at hSw
            go_simp
            try with_reducible rfl
          show wpAnyH _ _ _ _ _ _ _ (Act.put _ (some 89) _) _
          try simp only [Act.put, List.setIfInBounds_toArray, List.set_cons_zero, List.set_cons_succ]
          refine wpAnyH_take (i := 5) (v := ?_) rfl (by kernel_rfl) (by kernel_rfl) (by kernel_rfl) (fun _ _ _ h => h) (Or.inl ⟨by rfl, ?_⟩) hHeld ?_
          rotate_left
          · intro w hSw
            try dsimp only at hSw
            go_simp
            try with_reducible rfl
          show wpAnyH _ _ _ _ _ _ _ (Act.put _ (some 90) _) _
          try simp only [Act.put, List.setIfInBounds_toArray, List.set_cons_zero, List.set_cons_succ]
          refine wpAnyH_take (i := 6) (v := ?_) rfl (by kernel_rfl) (by kernel_rfl) (by kernel_rfl) (fun _ _ _ h => h) (Or.inl ⟨by rfl, ?_⟩) hHeld ?_
          rotate_left
          · intro w hSw
            try dsimp only at hSw
            go_simp
            try with_reducible rfl
          show wpAnyH _ _ _ _ _ _ _ (Act.put _ (some 91) _) _
          try simp only [Act.put, List.setIfInBounds_toArray, List.set_cons_zero, List.set_cons_succ]
          refine wpAnyH_take (i := 7) (v := ?_) rfl (by kernel_rfl) (by kernel_rfl) (by kernel_rfl) (fun _ _ _ h => h) (Or.inl ⟨by rfl, ?_⟩) hHeld ?_
          rotate_left
          · intro w hSw
            try dsimp only at hSw
            go_simp
            try with_reducible rfl
          show wpAnyH _ _ _ _ _ _ _ (Act.put _ (some 92) _) _
          try simp only [Act.put, List.setIfInBounds_toArray, List.set_cons_zero, List.set_cons_succ]
          refine wpAnyH_take (i := 8) (v := ?_) rfl (by kernel_rfl) (by kernel_rfl) (by kernel_rfl) (fun _ _ _ h => h) (Or.inl ⟨by rfl, ?_⟩) hHeld ?_
          rotate_left
          · intro w hSw
            try dsimp only at hSw
            go_simp
            try with_reducible rfl
          show wpAnyH _ _ _ _ _ _ _ (Act.put _ (some 93) _) _
          try simp only [Act.put, List.setIfInBounds_toArray, List.set_cons_zero, List.set_cons_succ]
          refine wpAnyH_take (i := 9) (v := ?_) rfl (by kernel_rfl) (by kernel_rfl) (by kernel_rfl) (fun _ _ _ h => h) (Or.inl ⟨by rfl, ?_⟩) hHeld ?_
          rotate_left
          · intro w hSw
            try dsimp only at hSw
            go_simp
            try with_reducible rfl
          show wpAnyH _ _ _ _ _ _ _ (Act.put _ (some 94) _) _
          try simp only [Act.put, List.setIfInBounds_toArray, List.set_cons_zero, List.set_cons_succ]
          refine wpAnyH_take (i := 10) (v := ?_) rfl (by kernel_rfl) (by kernel_rfl) (by kernel_rfl) (fun _ _ _ h => h) (Or.inl ⟨by rfl, ?_⟩) hHeld ?_
          rotate_left
          · intro w hSw
            try dsimp only at hSw
            go_simp
            try with_reducible rfl
          show wpAnyH _ _ _ _ _ _ _ (Act.put _ (some 95) _) _
          try simp only [Act.put, List.setIfInBounds_toArray, List.set_cons_zero, List.set_cons_succ]
          refine wpAnyH_take (i := 11) (v := ?_) rfl (by kernel_rfl) (by kernel_rfl) (by kernel_rfl) (fun _ _ _ h => h) (Or.inl ⟨by rfl, ?_⟩) hHeld ?_
          rotate_left
          · intro w hSw
            try dsimp only at hSw
            go_simp
            try with_reducible rfl
          show wpAnyH _ _ _ _ _ _ _ (Act.put _ (some 96) _) _
          try simp only [Act.put, List.setIfInBounds_toArray, List.set_cons_zero, List.set_cons_succ]
          refine wpAnyH_take (i := 12) (v := ?_) rfl (by kernel_rfl) (by kernel_rfl) (by kernel_rfl) (fun _ _ _ h => h) (Or.inl ⟨by rfl, ?_⟩) hHeld ?_
          rotate_left
          · intro w hSw
            try dsimp only at hSw
            go_simp
            try with_reducible rfl
          show wpAnyH _ _ _ _ _ _ _ (Act.put _ (some 97) _) _
          try simp only [Act.put, List.setIfInBounds_toArray, List.set_cons_zero, List.set_cons_succ]
          refine wpAnyH_take (i := 13) (v := ?_) rfl (by kernel_rfl) (by kernel_rfl) (by kernel_rfl) (fun _ _ _ h => h) (Or.inl ⟨by rfl, ?_⟩) hHeld ?_
          rotate_left
          · intro w hSw
            try dsimp only at hSw
            go_simp
            try with_reducible rfl
          show wpAnyH _ _ _ _ _ _ _ (Act.put _ (some 98) _) _
          try simp only [Act.put, List.setIfInBounds_toArray, List.set_cons_zero, List.set_cons_succ]
          refine wpAnyH_take (i := 14) (v := ?_) rfl (by kernel_rfl) (by kernel_rfl) (by kernel_rfl) (fun _ _ _ h => h) (Or.inl ⟨by rfl, ?_⟩) hHeld ?_
          rotate_left
          · intro w hSw
            try dsimp only at hSw
            go_simp
            try with_reducible rfl
          show wpAnyH _ _ _ _ _ _ _ (Act.put _ (some 4) _) _
          try simp only [Act.put, List.setIfInBounds_toArray, List.set_cons_zero, List.set_cons_succ]
          refine wpAnyH_take (i := 15) (v := ?_) rfl (by kernel_rfl) (by kernel_rfl) (by kernel_rfl) (fun _ _ _ h => h) (Or.inl ⟨by rfl, ?_⟩) hHeld ?_
          rotate_left
          · intro w hSw
            try dsimp only at hSw
            go_simp
            try with_reducible rfl
          show wpAnyH _ _ _ _ _ _ _ (Act.put _ (some 5) _) _
          try simp only [Act.put, List.setIfInBounds_toArray, List.set_cons_zero, List.set_cons_succ]
          refine wpAnyH_done (by kernel_rfl) ?_ _
          clear hHeld
          go_wp2_with fail
          go_ret2
          exact ⟨rfl, (unhide HW7).drew⟩

set_option maxHeartbeats 8000000 in
theorem rrate_u (n d : Int) (k : Nat) (X c : Int) (w : World) (hk9 : k ≤ 9) (h2 : ¬ n < 0) (hc : c < 0) (HK0 : Hid (k = 0)) (HL : Hid (1 ≤ (Lib.itoa X).length ∧ (Lib.itoa X).length ≤ 30)) (TD : Hid (∀ w, Calls Tryd.prog 35 #[.int .i64 X] w fun e w' => e = .returned (.string ⟨(Lib.itoa X).toArray⟩) ∧ Keep w w')) (T : Hid (∀ w, Calls Tryd.prog 27 #[.agg #[.int .i64 n, .int .i64 d]] w fun e w' => e = .returned (.bool true) ∧ Keep w w')) (T1 : Hid (∀ w, Calls Tryd.prog 28 #[.int .i64 n, .int .i64 (ten k), .int .i64 d] w fun e w' => e = .returned (.tuple #[.int .i64 X, .int .i64 0]) ∧ Keep w w'))
    (cn1 : IntKind.u64.wrap n = n) (cn2 : IntKind.u64.wrap (ten k) = ten k) (cn3 : IntKind.u64.wrap X = X) (cn4 : IntKind.u64.wrap d = d)
    (TA : Hid (∀ w, Calls Tryd.prog 30 #[.int .u64 n, .int .u64 (ten k)] w fun e w' => ∃ v, e = .returned v ∧ Hid ((∃ l, Sl w' v l ∧ Dig l ∧ 0 < l.length ∧ l.length ≤ 9 ∧ val l = n * ten k) ∧ Keep w w')))
    (TB : Hid (∀ w, Calls Tryd.prog 30 #[.int .u64 X, .int .u64 d] w fun e w' => ∃ v, e = .returned v ∧ Hid ((∃ l, Sl w' v l ∧ Dig l ∧ 0 < l.length ∧ l.length ≤ 9 ∧ val l = X * d) ∧ Keep w w')))
    (TP : Hid (∀ w, Calls Tryd.prog 34 #[.int .u64 d] w fun e w' => ∃ v, e = .returned v ∧ Hid ((∃ l, Sl w' v l ∧ Dig l ∧ l.length = 4 ∧ val l = d) ∧ Keep w w')))
    (HLE : Hid (X * d ≤ n * ten k)) (HCM : Hid (cm ((n * ten k - X * d) + (n * ten k - X * d)) d = c)) :
    Calls Tryd.prog 13 #[.agg #[.int .i64 n, .int .i64 d], .int .i64 (k : Int)] w fun e w' => e = .returned (.tuple #[.string ⟨(Lib.itoa X).toArray⟩, .int .i64 0]) ∧ Keep w w' := by
  have p0 : ¬ (k : Int) < 0 := by omega
  have p9 : ¬ (9 : Int) < (k : Int) := by omega
  go_enter Tryd.func13, Tryd.ntmps13
  go_wp2_with fail
  (refine ((unhide T) _).mono ?_; rintro e w2 ⟨rfl, hk⟩; obtain ⟨o1, k1, rfl⟩ := hk.ext; clear hk)
  go_wp2_with fail
  go_loopw [6, 7] (fun u i wr => ∃ j : Nat, j ≤ k ∧ u = .int .i64 (ten j) ∧ i = .int .i64 (j : Int) ∧ wr = ext (w.alloc (.cells #[.int .i64 n, .int .i64 d] 23)) o1 k1) (fun _ i _ => k - (intOf i).toNat)
  case atStart => exact ⟨0, by omega, rfl, rfl, rfl⟩
  case round =>
    obtain ⟨j, hj, rfl, rfl, rfl⟩ := hrel
    by_cases hlt : j < k
    · have li : (j : Int) < (k : Int) := by omega
      have hb := ten_bd (p := j) (by omega)
      have hm : wrap64 (ten j * 10) = ten (j + 1) := by rw [ten_succ]; exact wrap_in (by omega)
      go_wp2_with fail
      go_roundw
      case rel => exact ⟨j + 1, hlt, rfl, by go_num, trivial⟩
      case measure => simp [intOf]; omega
    · have : k = j := by omega
      subst this
      go_wp2_with fail
      (refine ((unhide T1) _).mono ?_; rintro e w2 ⟨rfl, hk⟩; obtain ⟨o2, k2, rfl⟩ := hk.ext; clear hk)
      go_wp2_with fail
      refine wp_region_held_drew (S := (fun w' => w'.cell? ⟨w.heap.size, 0, none⟩ = some (.int .i64 n) ∧ w'.cell? ⟨w.heap.size, 1, none⟩ = some (.int .i64 d))) (by kernel_rfl) (by simp [go_sem]) (fun hHeld => ?_)
      refine wpAnyH_take (i := 0) (v := ?_) rfl (by kernel_rfl) (by kernel_rfl) (by kernel_rfl) (fun _ _ _ h => h) (Or.inl ⟨by rfl, ?_⟩) hHeld ?_
      rotate_left
      · intro w hSw
        try dsimp only at hSw
        go_simp
        try with_reducible rfl
      show wpAnyH _ _ _ _ _ _ _ (Act.put _ (some 47) _) _
      try simp only [Act.put, List.setIfInBounds_toArray, List.set_cons_zero, List.set_cons_succ]
      refine wpAnyH_take (i := 1) (v := ?_) rfl (by kernel_rfl) (by kernel_rfl) (by kernel_rfl) (fun _ _ _ h => h) (Or.inl ⟨by rfl, ?_⟩) hHeld ?_
      rotate_left
      · intro w hSw
        try dsimp only at hSw
        go_simp
        try with_reducible rfl
      show wpAnyH _ _ _ _ _ _ _ (Act.put _ (some 48) _) _
      try simp only [Act.put, List.setIfInBounds_toArray, List.set_cons_zero, List.set_cons_succ]
      refine wpAnyH_take (i := 2) (v := ?_) rfl (by kernel_rfl) (by kernel_rfl) (by kernel_rfl) (fun _ _ _ h => h) (Or.inl ⟨by rfl, ?_⟩) hHeld ?_
      rotate_left
      · intro w hSw
        try dsimp only at hSw
        go_simp
        try with_reducible rfl
      show wpAnyH _ _ _ _ _ _ _ (Act.put _ (some 49) _) _
      try simp only [Act.put, List.setIfInBounds_toArray, List.set_cons_zero, List.set_cons_succ]
      refine wpAnyH_take (i := 3) (v := ?_) rfl (by kernel_rfl) (by kernel_rfl) (by kernel_rfl) (fun _ _ _ h => h) (Or.inl ⟨by rfl, ?_⟩) hHeld ?_
      rotate_left
      · intro w hSw
        try dsimp only at hSw
        go_simp
        try with_reducible rfl
      show wpAnyH _ _ _ _ _ _ _ (Act.put _ (some 50) _) _
      try simp only [Act.put, List.setIfInBounds_toArray, List.set_cons_zero, List.set_cons_succ]
      refine wpAnyH_take (i := 4) (v := ?_) rfl (by kernel_rfl) (by kernel_rfl) (by kernel_rfl) (fun _ _ _ h => h) (Or.inl ⟨by rfl, ?_⟩) hHeld ?_
      rotate_left
      · intro w hSw
        try dsimp only at hSw
        go_simp
        try with_reducible rfl
      show wpAnyH _ _ _ _ _ _ _ (Act.put _ (some 51) _) _
      try simp only [Act.put, List.setIfInBounds_toArray, List.set_cons_zero, List.set_cons_succ]
      refine wpAnyH_take (i := 6) (v := ?_) rfl (by kernel_rfl) (by kernel_rfl) (by kernel_rfl) (fun _ _ _ h => h) (Or.inl ⟨by rfl, ?_⟩) hHeld ?_
      rotate_left
      · intro w hSw
        try dsimp only at hSw
        go_simp
        try with_reducible rfl
      show wpAnyH _ _ _ _ _ _ _ (Act.put _ (some 53) _) _
      try simp only [Act.put, List.setIfInBounds_toArray, List.set_cons_zero, List.set_cons_succ]
      refine wpAnyH_take (i := 7) (v := ?_) rfl (by kernel_rfl) (by kernel_rfl) (by kernel_rfl) (fun _ _ _ h => h) (Or.inl ⟨by rfl, ?_⟩) hHeld ?_
      rotate_left
      · intro w hSw
        try dsimp only at hSw
        go_simp
        try with_reducible rfl
      show wpAnyH _ _ _ _ _ _ _ (Act.put _ (some 54) _) _
      try simp only [Act.put, List.setIfInBounds_toArray, List.set_cons_zero, List.set_cons_succ]
      refine wpAnyH_take (i := 8) (v := ?_) rfl (by kernel_rfl) (by kernel_rfl) (by kernel_rfl) (fun _ _ _ h => h) (Or.inl ⟨by rfl, ?_⟩) hHeld ?_
      rotate_left
      · intro w hSw
        try dsimp only at hSw
        go_simp
        try with_reducible rfl
      show wpAnyH _ _ _ _ _ _ _ (Act.put _ (some 55) _) _
      try simp only [Act.put, List.setIfInBounds_toArray, List.set_cons_zero, List.set_cons_succ]
      refine wpAnyH_take (i := 9) (v := ?_) rfl (by kernel_rfl) (by kernel_rfl) (by kernel_rfl) (fun _ _ _ h => h) (Or.inl ⟨by rfl, ?_⟩) hHeld ?_
      rotate_left
      · intro w hSw
        try dsimp only at hSw
        go_simp
        try with_reducible rfl
      show wpAnyH _ _ _ _ _ _ _ (Act.put _ (some 56) _) _
      try simp only [Act.put, List.setIfInBounds_toArray, List.set_cons_zero, List.set_cons_succ]
      refine wpAnyH_take (i := 10) (v := ?_) rfl (by kernel_rfl) (by kernel_rfl) (by kernel_rfl) (fun _ _ _ h => h) (Or.inl ⟨by rfl, ?_⟩) hHeld ?_
      rotate_left
      · intro w hSw
        try dsimp only at hSw
        go_simp
        try with_reducible rfl
      show wpAnyH _ _ _ _ _ _ _ (Act.put _ (some 57) _) _
      try simp only [Act.put, List.setIfInBounds_toArray, List.set_cons_zero, List.set_cons_succ]
      refine wpAnyH_ready (rs := [5]) (by kernel_rfl) (by simp) ?_
      refine AllReadyH.cons rfl (fun K hK => ?_) AllReadyH.nil
      go_simp
      clear hHeld
      (refine ((unhide TA) _).mono ?_; rintro e w1 ⟨v1, rfl, h1⟩; have HC1 : Hid (w1.cell? ⟨w.heap.size, 0, none⟩ = some (.int .i64 n) ∧ w1.cell? ⟨w.heap.size, 1, none⟩ = some (.int .i64 d)) := hide ⟨cl9 (unhide h1).2 (by simp [go_sem]), cl9 (unhide h1).2 (by simp [go_sem])⟩; have HW1 : Hid (Keep w w1) := hide ((by repeat (first | (with_reducible exact Keep.refl _) | apply keep_ext | apply Keep.alloc | apply Keep.drew) : Keep w _).trans (unhide h1).2))
      try go_wp2_with fail
      refine hK.out _ _ ?_ (fun hHeld => ?_)
      · exact unhide HC1
      clear hK K
      try simp only [Act.put, List.setIfInBounds_toArray, List.set_cons_zero, List.set_cons_succ]
      refine wpAnyH_ready (rs := [11]) (by kernel_rfl) (by simp) ?_
      refine AllReadyH.cons rfl (fun K hK => ?_) AllReadyH.nil
      go_simp
      clear hHeld
      (refine ((unhide TB) _).mono ?_; rintro e w2 ⟨v2, rfl, h2'⟩; have HC2 : Hid (w2.cell? ⟨w.heap.size, 0, none⟩ = some (.int .i64 n) ∧ w2.cell? ⟨w.heap.size, 1, none⟩ = some (.int .i64 d)) := hide ⟨cl9 (unhide h2').2 (unhide HC1).1, cl9 (unhide h2').2 (unhide HC1).2⟩; have HW2 : Hid (Keep w w2) := hide ((unhide HW1).trans (unhide h2').2); have HS : Hid (Two w2 v1 v2 9 (n * ten k) (X * d)) := hide (two_mk (unhide h1) (unhide h2')); clear h1 h2' HC1 HW1)
      try go_wp2_with fail
      refine hK.out _ _ ?_ (fun hHeld => ?_)
      · exact unhide HC2
      clear hK K
      try simp only [Act.put, List.setIfInBounds_toArray, List.set_cons_zero, List.set_cons_succ]
      refine wpAnyH_ready (rs := [12]) (by kernel_rfl) (by simp) ?_
      refine AllReadyH.cons rfl (fun K hK => ?_) AllReadyH.nil
      go_simp
      clear hHeld
      (refine (two_trim (unhide HS)).mono ?_; rintro e w2 ⟨v3, rfl, h3, rfl⟩; have HS3 : Hid (Two w2 v1 v3 9 (n * ten k) (X * d)) := h3; clear h3 HS)
      try go_wp2_with fail
      refine hK.out _ _ ?_ (fun hHeld => ?_)
      · exact unhide HC2
      clear hK K
      try simp only [Act.put, List.setIfInBounds_toArray, List.set_cons_zero, List.set_cons_succ]
      refine wpAnyH_ready (rs := [13]) (by kernel_rfl) (by simp) ?_
      refine AllReadyH.cons rfl (fun K hK => ?_) AllReadyH.nil
      go_simp
      clear hHeld
      (refine (two_minus (unhide HS3) (unhide HLE)).mono ?_; rintro e w4 ⟨v4, rfl, h4⟩; have HC4 : Hid (w4.cell? ⟨w.heap.size, 0, none⟩ = some (.int .i64 n) ∧ w4.cell? ⟨w.heap.size, 1, none⟩ = some (.int .i64 d)) := hide ⟨cl9 (unhide h4).2 (unhide HC2).1, cl9 (unhide h4).2 (unhide HC2).2⟩; have HW4 : Hid (Keep w w4) := hide ((unhide HW2).trans (unhide h4).2); have HS4 : Hid (One w4 v4 9 (n * ten k - X * d)) := hide (unhide h4).1; clear h4 HS3 HC2 HW2)
      try go_wp2_with fail
      refine hK.out _ _ ?_ (fun hHeld => ?_)
      · exact unhide HC4
      clear hK K
      try simp only [Act.put, List.setIfInBounds_toArray, List.set_cons_zero, List.set_cons_succ]
      refine wpAnyH_take (i := 14) (v := ?_) rfl (by kernel_rfl) (by kernel_rfl) (by kernel_rfl) (fun _ _ _ h => h) (Or.inl ⟨by rfl, ?_⟩) hHeld ?_
      rotate_left
      · intro w hSw
        try dsimp only at hSw
        go_simp
        try with_reducible rfl
      show wpAnyH _ _ _ _ _ _ _ (Act.put _ (some 10) _) _
      try simp only [Act.put, List.setIfInBounds_toArray, List.set_cons_zero, List.set_cons_succ]
      refine wpAnyH_done (by kernel_rfl) ?_ _
      clear hHeld
      have hc1 := (unhide HC4).1
      have hc2 := (unhide HC4).2
      clear HC4
      go_wp2_with fail
      refine wp_region_held_drew (S := (fun w' => w'.cell? ⟨w.heap.size, 0, none⟩ = some (.int .i64 n) ∧ w'.cell? ⟨w.heap.size, 1, none⟩ = some (.int .i64 d))) (by kernel_rfl) (by exact ⟨cl9 (Keep.refl w4).drew hc1, cl9 (Keep.refl w4).drew hc2⟩) (fun hHeld => ?_)
      refine wpAnyH_take (i := 0) (v := ?_) rfl (by kernel_rfl) (by kernel_rfl) (by kernel_rfl) (fun _ _ _ h => h) (Or.inl ⟨by rfl, ?_⟩) hHeld ?_
      rotate_left
      · intro w hSw
        try dsimp only at hSw
        go_simp
        try with_reducible rfl
      show wpAnyH _ _ _ _ _ _ _ (Act.put _ (some 61) _) _
      try simp only [Act.put, List.setIfInBounds_toArray, List.set_cons_zero, List.set_cons_succ]
      refine wpAnyH_take (i := 1) (v := ?_) rfl (by kernel_rfl) (by kernel_rfl) (by kernel_rfl) (fun _ _ _ h => h) (Or.inl ⟨by rfl, ?_⟩) hHeld ?_
      rotate_left
      · intro w hSw
        try dsimp only at hSw
        go_simp
        try with_reducible rfl
      show wpAnyH _ _ _ _ _ _ _ (Act.put _ (some 62) _) _
      try simp only [Act.put, List.setIfInBounds_toArray, List.set_cons_zero, List.set_cons_succ]
      refine wpAnyH_take (i := 3) (v := ?_) rfl (by kernel_rfl) (by kernel_rfl) (by kernel_rfl) (fun _ _ _ h => h) (Or.inl ⟨by rfl, ?_⟩) hHeld ?_
      rotate_left
      · intro w hSw
        try dsimp only at hSw
        go_simp
        try with_reducible rfl
      show wpAnyH _ _ _ _ _ _ _ (Act.put _ (some 64) _) _
      try simp only [Act.put, List.setIfInBounds_toArray, List.set_cons_zero, List.set_cons_succ]
      refine wpAnyH_take (i := 4) (v := ?_) rfl (by kernel_rfl) (by kernel_rfl) (by kernel_rfl) (fun _ _ _ h => h) (Or.inl ⟨by rfl, ?_⟩) hHeld ?_
      rotate_left
      · intro w hSw
        try dsimp only at hSw
        go_simp
        try with_reducible rfl
      show wpAnyH _ _ _ _ _ _ _ (Act.put _ (some 65) _) _
      try simp only [Act.put, List.setIfInBounds_toArray, List.set_cons_zero, List.set_cons_succ]
      refine wpAnyH_take (i := 5) (v := ?_) rfl (by kernel_rfl) (by kernel_rfl) (by kernel_rfl) (fun _ _ _ h => h) (Or.inl ⟨by rfl, ?_⟩) hHeld ?_
      rotate_left
      · intro w hSw
        try dsimp only at hSw
        go_simp
        try with_reducible rfl
      show wpAnyH _ _ _ _ _ _ _ (Act.put _ (some 66) _) _
      try simp only [Act.put, List.setIfInBounds_toArray, List.set_cons_zero, List.set_cons_succ]
      refine wpAnyH_ready (rs := [2]) (by kernel_rfl) (by simp) ?_
      refine AllReadyH.cons rfl (fun K hK => ?_) AllReadyH.nil
      go_simp
      clear hHeld
      (refine (one_plus ((unhide HS4).keep (Keep.refl w4).drew)).mono ?_; rintro e w5 ⟨v5, rfl, h5⟩; have HC5 : Hid (w5.cell? ⟨w.heap.size, 0, none⟩ = some (.int .i64 n) ∧ w5.cell? ⟨w.heap.size, 1, none⟩ = some (.int .i64 d)) := hide ⟨cl9 (unhide h5).2 (cl9 (Keep.refl w4).drew hc1), cl9 (unhide h5).2 (cl9 (Keep.refl w4).drew hc2)⟩; have HW5 : Hid (Keep w w5) := hide ((unhide HW4).trans ((Keep.refl w4).drew.trans (unhide h5).2)); have HS5 : Hid (One w5 v5 10 ((n * ten k - X * d) + (n * ten k - X * d))) := hide (unhide h5).1; clear h5 HS4 HW4 hc1 hc2)
      try go_wp2_with fail
      refine hK.out _ _ ?_ (fun hHeld => ?_)
      · exact unhide HC5
      clear hK K
      try simp only [Act.put, List.setIfInBounds_toArray, List.set_cons_zero, List.set_cons_succ]
      refine wpAnyH_ready (rs := [6]) (by kernel_rfl) (by simp) ?_
      refine AllReadyH.cons rfl (fun K hK => ?_) AllReadyH.nil
      go_simp
      clear hHeld
      (refine ((unhide TP) _).mono ?_; rintro e w6 ⟨v6, rfl, h6⟩; have HC6 : Hid (w6.cell? ⟨w.heap.size, 0, none⟩ = some (.int .i64 n) ∧ w6.cell? ⟨w.heap.size, 1, none⟩ = some (.int .i64 d)) := hide ⟨cl9 (unhide h6).2 (unhide HC5).1, cl9 (unhide h6).2 (unhide HC5).2⟩; have HW6 : Hid (Keep w w6) := hide ((unhide HW5).trans (unhide h6).2); have HS6 : Hid (Two w6 v5 v6 10 ((n * ten k - X * d) + (n * ten k - X * d)) d) := hide (two_mk2 (unhide HS5) (unhide h6)); clear h6 HS5 HC5 HW5)
      try go_wp2_with fail
      refine hK.out _ _ ?_ (fun hHeld => ?_)
      · exact unhide HC6
      clear hK K
      try simp only [Act.put, List.setIfInBounds_toArray, List.set_cons_zero, List.set_cons_succ]
      refine wpAnyH_ready (rs := [7]) (by kernel_rfl) (by simp) ?_
      refine AllReadyH.cons rfl (fun K hK => ?_) AllReadyH.nil
      go_simp
      clear hHeld
      (refine (two_order (unhide HS6) (unhide HCM)).mono ?_; rintro e w6 ⟨rfl, rfl⟩; clear HS6)
      try go_wp2_with fail
      refine hK.out _ _ ?_ (fun hHeld => ?_)
      · exact unhide HC6
      clear hK K
      try simp only [Act.put, List.setIfInBounds_toArray, List.set_cons_zero, List.set_cons_succ]
      refine wpAnyH_take (i := 8) (v := ?_) rfl (by kernel_rfl) (by kernel_rfl) (by kernel_rfl) (fun _ _ _ h => h) (Or.inl ⟨by rfl, ?_⟩) hHeld ?_
      rotate_left
      · intro w hSw
        try dsimp only at hSw
        go_simp
        try with_reducible rfl
      show wpAnyH _ _ _ _ _ _ _ (Act.put _ (some 69) _) _
      try simp only [Act.put, List.setIfInBounds_toArray, List.set_cons_zero, List.set_cons_succ]
      refine wpAnyH_done (by kernel_rfl) ?_ _
      clear hHeld
      clear HC6
      go_wp2_with fail
      (refine ((unhide TD) _).mono ?_; rintro e w7 ⟨rfl, hk⟩)
      have HW7 : Hid (Keep w w7) := hide ((unhide HW6).trans hk)
      clear hk HW6
      go_wp2_with fail
      go_loopw [11] (fun sv wr => ∃ m : Nat, sv = .string (padn m (Lib.itoa X)) ∧ m ≤ k + 1 - (Lib.itoa X).length ∧ Hid ((padn m (Lib.itoa X)).size = m + (Lib.itoa X).length) ∧ wr = w7) (fun sv _ => k + 1 - strLen sv)
      case atStart => exact ⟨0, by rw [padn_zero], by omega, hide (padn_size _ _), rfl⟩
      case round =>
        obtain ⟨m, rfl, hm, HM, rfl⟩ := hrel
        have hsz := unhide HM
        have hL := unhide HL
        by_cases hlt : m + (Lib.itoa X).length ≤ k
        · have hle : ((padn m (Lib.itoa X)).size : Int) ≤ (k : Int) := by omega
          have hcat : (⟨#[48]⟩ : ByteArray) ++ padn m (Lib.itoa X) = padn (m + 1) (Lib.itoa X) := padn_cat _ _
          have hov : ¬ 9223372036854775807 < 1 + (padn m (Lib.itoa X)).size := by omega
          have HSZ := hide hsz
          clear hsz hL
          go_wp2_with fail
          go_roundw
          case rel => exact ⟨m + 1, rfl, by omega, hide (padn_size _ _), trivial⟩
          case measure => simp only [strLen]; rw [padn_size, padn_size]; omega
        · have hm2 : m = k + 1 - (Lib.itoa X).length := by omega
          have hgt : ¬ ((padn m (Lib.itoa X)).size : Int) ≤ (k : Int) := by omega
          have hkz : ((k : Int) == 0) = true := by have := unhide HK0; simp; omega
          obtain ⟨D, hD⟩ : ∃ D, padn m (Lib.itoa X) = D := ⟨_, rfl⟩
          have hfin : D = ⟨(Lib.itoa X).toArray⟩ := by
            have := unhide HK0
            have hm0 : m = 0 := by omega
            rw [← hD, hm0]; rfl
          have HF := hide hfin
          have hDs : D.size = m + (Lib.itoa X).length := by rw [← hD]; exact hsz
          rw [hD] at hgt ⊢
          have hgt2 : (k : Int) < (D.size : Int) := by omega
          clear hsz hL hD HM hm hlt hm2 hgt hDs hfin
          go_wp2_with fail
          go_ret2
          exact ⟨by rw [unhide HF]; rfl, unhide HW7⟩

set_option maxHeartbeats 8000000 in
theorem rrate_v (n d : Int) (k : Nat) (X c : Int) (Q : Nat) (D A B : ByteArray) (w : World) (hk9 : k ≤ 9) (h2 : ¬ n < 0) (hc : c < 0) (HK0 : Hid (1 ≤ k)) (HD : Hid (padn (k + 1 - (Lib.itoa X).length) (Lib.itoa X) = D)) (HQ : Hid (D.size - k = Q)) (e4 : ¬ 9223372036854775807 < A.size + 1) (e5 : ¬ 9223372036854775807 < A.size + 1 + B.size) (hA : D.extract 0 Q = A) (hB : D.extract Q D.size = B) (HL : Hid (1 ≤ (Lib.itoa X).length ∧ (Lib.itoa X).length ≤ 30)) (TD : Hid (∀ w, Calls Tryd.prog 35 #[.int .i64 X] w fun e w' => e = .returned (.string ⟨(Lib.itoa X).toArray⟩) ∧ Keep w w')) (T : Hid (∀ w, Calls Tryd.prog 27 #[.agg #[.int .i64 n, .int .i64 d]] w fun e w' => e = .returned (.bool true) ∧ Keep w w')) (T1 : Hid (∀ w, Calls Tryd.prog 28 #[.int .i64 n, .int .i64 (ten k), .int .i64 d] w fun e w' => e = .returned (.tuple #[.int .i64 X, .int .i64 0]) ∧ Keep w w'))
    (cn1 : IntKind.u64.wrap n = n) (cn2 : IntKind.u64.wrap (ten k) = ten k) (cn3 : IntKind.u64.wrap X = X) (cn4 : IntKind.u64.wrap d = d)
    (TA : Hid (∀ w, Calls Tryd.prog 30 #[.int .u64 n, .int .u64 (ten k)] w fun e w' => ∃ v, e = .returned v ∧ Hid ((∃ l, Sl w' v l ∧ Dig l ∧ 0 < l.length ∧ l.length ≤ 9 ∧ val l = n * ten k) ∧ Keep w w')))
    (TB : Hid (∀ w, Calls Tryd.prog 30 #[.int .u64 X, .int .u64 d] w fun e w' => ∃ v, e = .returned v ∧ Hid ((∃ l, Sl w' v l ∧ Dig l ∧ 0 < l.length ∧ l.length ≤ 9 ∧ val l = X * d) ∧ Keep w w')))
    (TP : Hid (∀ w, Calls Tryd.prog 34 #[.int .u64 d] w fun e w' => ∃ v, e = .returned v ∧ Hid ((∃ l, Sl w' v l ∧ Dig l ∧ l.length = 4 ∧ val l = d) ∧ Keep w w')))
    (HLE : Hid (X * d ≤ n * ten k)) (HCM : Hid (cm ((n * ten k - X * d) + (n * ten k - X * d)) d = c)) :
    Calls Tryd.prog 13 #[.agg #[.int .i64 n, .int .i64 d], .int .i64 (k : Int)] w fun e w' => e = .returned (.tuple #[.string ((A ++ ⟨#[46]⟩) ++ B), .int .i64 0]) ∧ Keep w w' := by
  have p0 : ¬ (k : Int) < 0 := by omega
  have p9 : ¬ (9 : Int) < (k : Int) := by omega
  go_enter Tryd.func13, Tryd.ntmps13
  go_wp2_with fail
  (refine ((unhide T) _).mono ?_; rintro e w2 ⟨rfl, hk⟩; obtain ⟨o1, k1, rfl⟩ := hk.ext; clear hk)
  go_wp2_with fail
  go_loopw [6, 7] (fun u i wr => ∃ j : Nat, j ≤ k ∧ u = .int .i64 (ten j) ∧ i = .int .i64 (j : Int) ∧ wr = ext (w.alloc (.cells #[.int .i64 n, .int .i64 d] 23)) o1 k1) (fun _ i _ => k - (intOf i).toNat)
  case atStart => exact ⟨0, by omega, rfl, rfl, rfl⟩
  case round =>
    obtain ⟨j, hj, rfl, rfl, rfl⟩ := hrel
    by_cases hlt : j < k
    · have li : (j : Int) < (k : Int) := by omega
      have hb := ten_bd (p := j) (by omega)
      have hm : wrap64 (ten j * 10) = ten (j + 1) := by rw [ten_succ]; exact wrap_in (by omega)
      go_wp2_with fail
      go_roundw
      case rel => exact ⟨j + 1, hlt, rfl, by go_num, trivial⟩
      case measure => simp [intOf]; omega
    · have : k = j := by omega
      subst this
      go_wp2_with fail
      (refine ((unhide T1) _).mono ?_; rintro e w2 ⟨rfl, hk⟩; obtain ⟨o2, k2, rfl⟩ := hk.ext; clear hk)
      go_wp2_with fail
      refine wp_region_held_drew (S := (fun w' => w'.cell? ⟨w.heap.size, 0, none⟩ = some (.int .i64 n) ∧ w'.cell? ⟨w.heap.size, 1, none⟩ = some (.int .i64 d))) (by kernel_rfl) (by simp [go_sem]) (fun hHeld => ?_)
      refine wpAnyH_take (i := 0) (v := ?_) rfl (by kernel_rfl) (by kernel_rfl) (by kernel_rfl) (fun _ _ _ h => h) (Or.inl ⟨by rfl, ?_⟩) hHeld ?_
      rotate_left
      · intro w hSw
        try dsimp only at hSw
        go_simp
        try with_reducible rfl
      show wpAnyH _ _ _ _ _ _ _ (Act.put _ (some 47) _) _
      try simp only [Act.put, List.setIfInBounds_toArray, List.set_cons_zero, List.set_cons_succ]
      refine wpAnyH_take (i := 1) (v := ?_) rfl (by kernel_rfl) (by kernel_rfl) (by kernel_rfl) (fun _ _ _ h => h) (Or.inl ⟨by rfl, ?_⟩) hHeld ?_
      rotate_left
      · intro w hSw
        try dsimp only at hSw
        go_simp
        try with_reducible rfl
      show wpAnyH _ _ _ _ _ _ _ (Act.put _ (some 48) _) _
      try simp only [Act.put, List.setIfInBounds_toArray, List.set_cons_zero, List.set_cons_succ]
      refine wpAnyH_take (i := 2) (v := ?_) rfl (by kernel_rfl) (by kernel_rfl) (by kernel_rfl) (fun _ _ _ h => h) (Or.inl ⟨by rfl, ?_⟩) hHeld ?_
      rotate_left
      · intro w hSw
        try dsimp only at hSw
        go_simp
        try with_reducible rfl
      show wpAnyH _ _ _ _ _ _ _ (Act.put _ (some 49) _) _
      try simp only [Act.put, List.setIfInBounds_toArray, List.set_cons_zero, List.set_cons_succ]
      refine wpAnyH_take (i := 3) (v := ?_) rfl (by kernel_rfl) (by kernel_rfl) (by kernel_rfl) (fun _ _ _ h => h) (Or.inl ⟨by rfl, ?_⟩) hHeld ?_
      rotate_left
      · intro w hSw
        try dsimp only at hSw
        go_simp
        try with_reducible rfl
      show wpAnyH _ _ _ _ _ _ _ (Act.put _ (some 50) _) _
      try simp only [Act.put, List.setIfInBounds_toArray, List.set_cons_zero, List.set_cons_succ]
      refine wpAnyH_take (i := 4) (v := ?_) rfl (by kernel_rfl) (by kernel_rfl) (by kernel_rfl) (fun _ _ _ h => h) (Or.inl ⟨by rfl, ?_⟩) hHeld ?_
      rotate_left
      · intro w hSw
        try dsimp only at hSw
        go_simp
        try with_reducible rfl
      show wpAnyH _ _ _ _ _ _ _ (Act.put _ (some 51) _) _
      try simp only [Act.put, List.setIfInBounds_toArray, List.set_cons_zero, List.set_cons_succ]
      refine wpAnyH_take (i := 6) (v := ?_) rfl (by kernel_rfl) (by kernel_rfl) (by kernel_rfl) (fun _ _ _ h => h) (Or.inl ⟨by rfl, ?_⟩) hHeld ?_
      rotate_left
      · intro w hSw
        try dsimp only at hSw
        go_simp
        try with_reducible rfl
      show wpAnyH _ _ _ _ _ _ _ (Act.put _ (some 53) _) _
      try simp only [Act.put, List.setIfInBounds_toArray, List.set_cons_zero, List.set_cons_succ]
      refine wpAnyH_take (i := 7) (v := ?_) rfl (by kernel_rfl) (by kernel_rfl) (by kernel_rfl) (fun _ _ _ h => h) (Or.inl ⟨by rfl, ?_⟩) hHeld ?_
      rotate_left
      · intro w hSw
        try dsimp only at hSw
        go_simp
        try with_reducible rfl
      show wpAnyH _ _ _ _ _ _ _ (Act.put _ (some 54) _) _
      try simp only [Act.put, List.setIfInBounds_toArray, List.set_cons_zero, List.set_cons_succ]
      refine wpAnyH_take (i := 8) (v := ?_) rfl (by kernel_rfl) (by kernel_rfl) (by kernel_rfl) (fun _ _ _ h => h) (Or.inl ⟨by rfl, ?_⟩) hHeld ?_
      rotate_left
      · intro w hSw
        try dsimp only at hSw
        go_simp
        try with_reducible rfl
      show wpAnyH _ _ _ _ _ _ _ (Act.put _ (some 55) _) _
      try simp only [Act.put, List.setIfInBounds_toArray, List.set_cons_zero, List.set_cons_succ]
      refine wpAnyH_take (i := 9) (v := ?_) rfl (by kernel_rfl) (by kernel_rfl) (by kernel_rfl) (fun _ _ _ h => h) (Or.inl ⟨by rfl, ?_⟩) hHeld ?_
      rotate_left
      · intro w hSw
        try dsimp only at hSw
        go_simp
        try with_reducible rfl
      show wpAnyH _ _ _ _ _ _ _ (Act.put _ (some 56) _) _
      try simp only [Act.put, List.setIfInBounds_toArray, List.set_cons_zero, List.set_cons_succ]
      refine wpAnyH_take (i := 10) (v := ?_) rfl (by kernel_rfl) (by kernel_rfl) (by kernel_rfl) (fun _ _ _ h => h) (Or.inl ⟨by rfl, ?_⟩) hHeld ?_
      rotate_left
      · intro w hSw
        try dsimp only at hSw
        go_simp
        try with_reducible rfl
      show wpAnyH _ _ _ _ _ _ _ (Act.put _ (some 57) _) _
      try simp only [Act.put, List.setIfInBounds_toArray, List.set_cons_zero, List.set_cons_succ]
      refine wpAnyH_ready (rs := [5]) (by kernel_rfl) (by simp) ?_
      refine AllReadyH.cons rfl (fun K hK => ?_) AllReadyH.nil
      go_simp
      clear hHeld
      (refine ((unhide TA) _).mono ?_; rintro e w1 ⟨v1, rfl, h1⟩; have HC1 : Hid (w1.cell? ⟨w.heap.size, 0, none⟩ = some (.int .i64 n) ∧ w1.cell? ⟨w.heap.size, 1, none⟩ = some (.int .i64 d)) := hide ⟨cl9 (unhide h1).2 (by simp [go_sem]), cl9 (unhide h1).2 (by simp [go_sem])⟩; have HW1 : Hid (Keep w w1) := hide ((by repeat (first | (with_reducible exact Keep.refl _) | apply keep_ext | apply Keep.alloc | apply Keep.drew) : Keep w _).trans (unhide h1).2))
      try go_wp2_with fail
      refine hK.out _ _ ?_ (fun hHeld => ?_)
      · exact unhide HC1
      clear hK K
      try simp only [Act.put, List.setIfInBounds_toArray, List.set_cons_zero, List.set_cons_succ]
      refine wpAnyH_ready (rs := [11]) (by kernel_rfl) (by simp) ?_
      refine AllReadyH.cons rfl (fun K hK => ?_) AllReadyH.nil
      go_simp
      clear hHeld
      (refine ((unhide TB) _).mono ?_; rintro e w2 ⟨v2, rfl, h2'⟩; have HC2 : Hid (w2.cell? ⟨w.heap.size, 0, none⟩ = some (.int .i64 n) ∧ w2.cell? ⟨w.heap.size, 1, none⟩ = some (.int .i64 d)) := hide ⟨cl9 (unhide h2').2 (unhide HC1).1, cl9 (unhide h2').2 (unhide HC1).2⟩; have HW2 : Hid (Keep w w2) := hide ((unhide HW1).trans (unhide h2').2); have HS : Hid (Two w2 v1 v2 9 (n * ten k) (X * d)) := hide (two_mk (unhide h1) (unhide h2')); clear h1 h2' HC1 HW1)
      try go_wp2_with fail
      refine hK.out _ _ ?_ (fun hHeld => ?_)
      · exact unhide HC2
      clear hK K
      try simp only [Act.put, List.setIfInBounds_toArray, List.set_cons_zero, List.set_cons_succ]
      refine wpAnyH_ready (rs := [12]) (by kernel_rfl) (by simp) ?_
      refine AllReadyH.cons rfl (fun K hK => ?_) AllReadyH.nil
      go_simp
      clear hHeld
      (refine (two_trim (unhide HS)).mono ?_; rintro e w2 ⟨v3, rfl, h3, rfl⟩; have HS3 : Hid (Two w2 v1 v3 9 (n * ten k) (X * d)) := h3; clear h3 HS)
      try go_wp2_with fail
      refine hK.out _ _ ?_ (fun hHeld => ?_)
      · exact unhide HC2
      clear hK K
      try simp only [Act.put, List.setIfInBounds_toArray, List.set_cons_zero, List.set_cons_succ]
      refine wpAnyH_ready (rs := [13]) (by kernel_rfl) (by simp) ?_
      refine AllReadyH.cons rfl (fun K hK => ?_) AllReadyH.nil
      go_simp
      clear hHeld
      (refine (two_minus (unhide HS3) (unhide HLE)).mono ?_; rintro e w4 ⟨v4, rfl, h4⟩; have HC4 : Hid (w4.cell? ⟨w.heap.size, 0, none⟩ = some (.int .i64 n) ∧ w4.cell? ⟨w.heap.size, 1, none⟩ = some (.int .i64 d)) := hide ⟨cl9 (unhide h4).2 (unhide HC2).1, cl9 (unhide h4).2 (unhide HC2).2⟩; have HW4 : Hid (Keep w w4) := hide ((unhide HW2).trans (unhide h4).2); have HS4 : Hid (One w4 v4 9 (n * ten k - X * d)) := hide (unhide h4).1; clear h4 HS3 HC2 HW2)
      try go_wp2_with fail
      refine hK.out _ _ ?_ (fun hHeld => ?_)
      · exact unhide HC4
      clear hK K
      try simp only [Act.put, List.setIfInBounds_toArray, List.set_cons_zero, List.set_cons_succ]
      refine wpAnyH_take (i := 14) (v := ?_) rfl (by kernel_rfl) (by kernel_rfl) (by kernel_rfl) (fun _ _ _ h => h) (Or.inl ⟨by rfl, ?_⟩) hHeld ?_
      rotate_left
      · intro w hSw
        try dsimp only at hSw
        go_simp
        try with_reducible rfl
      show wpAnyH _ _ _ _ _ _ _ (Act.put _ (some 10) _) _
      try simp only [Act.put, List.setIfInBounds_toArray, List.set_cons_zero, List.set_cons_succ]
      refine wpAnyH_done (by kernel_rfl) ?_ _
      clear hHeld
      have hc1 := (unhide HC4).1
      have hc2 := (unhide HC4).2
      clear HC4
      go_wp2_with fail
      refine wp_region_held_drew (S := (fun w' => w'.cell? ⟨w.heap.size, 0, none⟩ = some (.int .i64 n) ∧ w'.cell? ⟨w.heap.size, 1, none⟩ = some (.int .i64 d))) (by kernel_rfl) (by exact ⟨cl9 (Keep.refl w4).drew hc1, cl9 (Keep.refl w4).drew hc2⟩) (fun hHeld => ?_)
      refine wpAnyH_take (i := 0) (v := ?_) rfl (by kernel_rfl) (by kernel_rfl) (by kernel_rfl) (fun _ _ _ h => h) (Or.inl ⟨by rfl, ?_⟩) hHeld ?_
      rotate_left
      · intro w hSw
        try dsimp only at hSw
        go_simp
        try with_reducible rfl
      show wpAnyH _ _ _ _ _ _ _ (Act.put _ (some 61) _) _
      try simp only [Act.put, List.setIfInBounds_toArray, List.set_cons_zero, List.set_cons_succ]
      refine wpAnyH_take (i := 1) (v := ?_) rfl (by kernel_rfl) (by kernel_rfl) (by kernel_rfl) (fun _ _ _ h => h) (Or.inl ⟨by rfl, ?_⟩) hHeld ?_
      rotate_left
      · intro w hSw
        try dsimp only at hSw
        go_simp
        try with_reducible rfl
      show wpAnyH _ _ _ _ _ _ _ (Act.put _ (some 62) _) _
      try simp only [Act.put, List.setIfInBounds_toArray, List.set_cons_zero, List.set_cons_succ]
      refine wpAnyH_take (i := 3) (v := ?_) rfl (by kernel_rfl) (by kernel_rfl) (by kernel_rfl) (fun _ _ _ h => h) (Or.inl ⟨by rfl, ?_⟩) hHeld ?_
      rotate_left
      · intro w hSw
        try dsimp only at hSw
        go_simp
        try with_reducible rfl
      show wpAnyH _ _ _ _ _ _ _ (Act.put _ (some 64) _) _
      try simp only [Act.put, List.setIfInBounds_toArray, List.set_cons_zero, List.set_cons_succ]
      refine wpAnyH_take (i := 4) (v := ?_) rfl (by kernel_rfl) (by kernel_rfl) (by kernel_rfl) (fun _ _ _ h => h) (Or.inl ⟨by rfl, ?_⟩) hHeld ?_
      rotate_left
      · intro w hSw
        try dsimp only at hSw
        go_simp
        try with_reducible rfl
      show wpAnyH _ _ _ _ _ _ _ (Act.put _ (some 65) _) _
      try simp only [Act.put, List.setIfInBounds_toArray, List.set_cons_zero, List.set_cons_succ]
      refine wpAnyH_take (i := 5) (v := ?_) rfl (by kernel_rfl) (by kernel_rfl) (by kernel_rfl) (fun _ _ _ h => h) (Or.inl ⟨by rfl, ?_⟩) hHeld ?_
      rotate_left
      · intro w hSw
        try dsimp only at hSw
        go_simp
        try with_reducible rfl
      show wpAnyH _ _ _ _ _ _ _ (Act.put _ (some 66) _) _
      try simp only [Act.put, List.setIfInBounds_toArray, List.set_cons_zero, List.set_cons_succ]
      refine wpAnyH_ready (rs := [2]) (by kernel_rfl) (by simp) ?_
      refine AllReadyH.cons rfl (fun K hK => ?_) AllReadyH.nil
      go_simp
      clear hHeld
      (refine (one_plus ((unhide HS4).keep (Keep.refl w4).drew)).mono ?_; rintro e w5 ⟨v5, rfl, h5⟩; have HC5 : Hid (w5.cell? ⟨w.heap.size, 0, none⟩ = some (.int .i64 n) ∧ w5.cell? ⟨w.heap.size, 1, none⟩ = some (.int .i64 d)) := hide ⟨cl9 (unhide h5).2 (cl9 (Keep.refl w4).drew hc1), cl9 (unhide h5).2 (cl9 (Keep.refl w4).drew hc2)⟩; have HW5 : Hid (Keep w w5) := hide ((unhide HW4).trans ((Keep.refl w4).drew.trans (unhide h5).2)); have HS5 : Hid (One w5 v5 10 ((n * ten k - X * d) + (n * ten k - X * d))) := hide (unhide h5).1; clear h5 HS4 HW4 hc1 hc2)
      try go_wp2_with fail
      refine hK.out _ _ ?_ (fun hHeld => ?_)
      · exact unhide HC5
      clear hK K
      try simp only [Act.put, List.setIfInBounds_toArray, List.set_cons_zero, List.set_cons_succ]
      refine wpAnyH_ready (rs := [6]) (by kernel_rfl) (by simp) ?_
      refine AllReadyH.cons rfl (fun K hK => ?_) AllReadyH.nil
      go_simp
      clear hHeld
      (refine ((unhide TP) _).mono ?_; rintro e w6 ⟨v6, rfl, h6⟩; have HC6 : Hid (w6.cell? ⟨w.heap.size, 0, none⟩ = some (.int .i64 n) ∧ w6.cell? ⟨w.heap.size, 1, none⟩ = some (.int .i64 d)) := hide ⟨cl9 (unhide h6).2 (unhide HC5).1, cl9 (unhide h6).2 (unhide HC5).2⟩; have HW6 : Hid (Keep w w6) := hide ((unhide HW5).trans (unhide h6).2); have HS6 : Hid (Two w6 v5 v6 10 ((n * ten k - X * d) + (n * ten k - X * d)) d) := hide (two_mk2 (unhide HS5) (unhide h6)); clear h6 HS5 HC5 HW5)
      try go_wp2_with fail
      refine hK.out _ _ ?_ (fun hHeld => ?_)
      · exact unhide HC6
      clear hK K
      try simp only [Act.put, List.setIfInBounds_toArray, List.set_cons_zero, List.set_cons_succ]
      refine wpAnyH_ready (rs := [7]) (by kernel_rfl) (by simp) ?_
      refine AllReadyH.cons rfl (fun K hK => ?_) AllReadyH.nil
      go_simp
      clear hHeld
      (refine (two_order (unhide HS6) (unhide HCM)).mono ?_; rintro e w6 ⟨rfl, rfl⟩; clear HS6)
      try go_wp2_with fail
      refine hK.out _ _ ?_ (fun hHeld => ?_)
      · exact unhide HC6
      clear hK K
      try simp only [Act.put, List.setIfInBounds_toArray, List.set_cons_zero, List.set_cons_succ]
      refine wpAnyH_take (i := 8) (v := ?_) rfl (by kernel_rfl) (by kernel_rfl) (by kernel_rfl) (fun _ _ _ h => h) (Or.inl ⟨by rfl, ?_⟩) hHeld ?_
      rotate_left
      · intro w hSw
        try dsimp only at hSw
        go_simp
        try with_reducible rfl
      show wpAnyH _ _ _ _ _ _ _ (Act.put _ (some 69) _) _
      try simp only [Act.put, List.setIfInBounds_toArray, List.set_cons_zero, List.set_cons_succ]
      refine wpAnyH_done (by kernel_rfl) ?_ _
      clear hHeld
      clear HC6
      go_wp2_with fail
      (refine ((unhide TD) _).mono ?_; rintro e w7 ⟨rfl, hk⟩)
      have HW7 : Hid (Keep w w7) := hide ((unhide HW6).trans hk)
      clear hk HW6
      go_wp2_with fail
      go_loopw [11] (fun sv wr => ∃ m : Nat, sv = .string (padn m (Lib.itoa X)) ∧ m ≤ k + 1 - (Lib.itoa X).length ∧ Hid ((padn m (Lib.itoa X)).size = m + (Lib.itoa X).length) ∧ wr = w7) (fun sv _ => k + 1 - strLen sv)
      case atStart => exact ⟨0, by rw [padn_zero], by omega, hide (padn_size _ _), rfl⟩
      case round =>
        obtain ⟨m, rfl, hm, HM, rfl⟩ := hrel
        have hsz := unhide HM
        have hL := unhide HL
        by_cases hlt : m + (Lib.itoa X).length ≤ k
        · have hle : ((padn m (Lib.itoa X)).size : Int) ≤ (k : Int) := by omega
          have hcat : (⟨#[48]⟩ : ByteArray) ++ padn m (Lib.itoa X) = padn (m + 1) (Lib.itoa X) := padn_cat _ _
          have hov : ¬ 9223372036854775807 < 1 + (padn m (Lib.itoa X)).size := by omega
          have HSZ := hide hsz
          clear hsz hL
          go_wp2_with fail
          go_roundw
          case rel => exact ⟨m + 1, rfl, by omega, hide (padn_size _ _), trivial⟩
          case measure => simp only [strLen]; rw [padn_size, padn_size]; omega
        · have hm2 : m = k + 1 - (Lib.itoa X).length := by omega
          have hgt : ¬ ((padn m (Lib.itoa X)).size : Int) ≤ (k : Int) := by omega
          have hkp : ((k : Int) == 0) = false := by have := unhide HK0; simp; omega
          have hD : padn m (Lib.itoa X) = D := by rw [hm2]; exact unhide HD
          have hDs : D.size = m + (Lib.itoa X).length := by rw [← hD]; exact hsz
          have hQ2 := unhide HQ
          have e6 : Q ≤ D.size := by omega
          have e3 : wrap64 ((D.size : Int) - (k : Int)) = (Q : Int) := by rw [wrap_in (by omega)]; omega
          have e3' : IntKind.i64.wrap ((D.size : Int) - (k : Int)) = (Q : Int) := by rw [IntKind.wrap_i64]; omega
          rw [hD] at hgt ⊢
          have hgt2 : (k : Int) < (D.size : Int) := by omega
          clear hDs hQ2
          clear hsz hL hD HD HM hm hlt hm2 hgt
          go_wp2_with fail
          refine wp_region_held_drew (S := (fun w' => True)) (by kernel_rfl) (by trivial) (fun hHeld => ?_)
          refine wpAnyH_take (i := 0) (v := ?_) rfl (by kernel_rfl) (by kernel_rfl) (by kernel_rfl) (fun _ _ _ h => h) (Or.inl ⟨by rfl, ?_⟩) hHeld ?_
          rotate_left
          · intro w hSw
            try dsimp only at hSw
            go_simp
            try with_reducible rfl
          show wpAnyH _ _ _ _ _ _ _ (Act.put _ (some 85) _) _
          try simp only [Act.put, List.setIfInBounds_toArray, List.set_cons_zero, List.set_cons_succ]
          refine wpAnyH_take (i := 1) (v := ?_) rfl (by kernel_rfl) (by kernel_rfl) (by kernel_rfl) (fun _ _ _ h => h) (Or.inl ⟨by rfl, ?_⟩) hHeld ?_
          rotate_left
          · intro w hSw
            try dsimp only at hSw
            go_simp
            try with_reducible rfl
          show wpAnyH _ _ _ _ _ _ _ (Act.put _ (some 86) _) _
          try simp only [Act.put, List.setIfInBounds_toArray, List.set_cons_zero, List.set_cons_succ]
          refine wpAnyH_take (i := 2) (v := ?_) rfl (by kernel_rfl) (by kernel_rfl) (by kernel_rfl) (fun _ _ _ h => h) (Or.inl ⟨by rfl, ?_⟩) hHeld ?_
          rotate_left
          · intro w hSw
            try dsimp only at hSw
            go_simp
            try with_reducible rfl
          show wpAnyH _ _ _ _ _ _ _ (Act.put _ (some 87) _) _
          try simp only [Act.put, List.setIfInBounds_toArray, List.set_cons_zero, List.set_cons_succ]
          refine wpAnyH_take (i := 3) (v := ?_) rfl (by kernel_rfl) (by kernel_rfl) (by kernel_rfl) (fun _ _ _ h => h) (Or.inl ⟨by rfl, ?_⟩) hHeld ?_
          rotate_left
          · intro w hSw
            try dsimp only at hSw
            go_simp
            try with_reducible rfl
          show wpAnyH _ _ _ _ _ _ _ (Act.put _ (some 88) _) _
          try simp only [Act.put, List.setIfInBounds_toArray, List.set_cons_zero, List.set_cons_succ]
          refine wpAnyH_take (i := 4) (v := ?_) rfl (by kernel_rfl) (by kernel_rfl) (by kernel_rfl) (fun _ _ _ h => h) (Or.inl ⟨by rfl, ?_⟩) hHeld ?_
          rotate_left
          · intro w hSw
            try dsimp only at hSw
            go_simp
            try with_reducible rfl
          show wpAnyH _ _ _ _ _ _ _ (Act.put _ (some 89) _) _
          try simp only [Act.put, List.setIfInBounds_toArray, List.set_cons_zero, List.set_cons_succ]
          refine wpAnyH_take (i := 5) (v := ?_) rfl (by kernel_rfl) (by kernel_rfl) (by kernel_rfl) (fun _ _ _ h => h) (Or.inl ⟨by rfl, ?_⟩) hHeld ?_
          rotate_left
          · intro w hSw
            try dsimp only at hSw
            go_simp
            try with_reducible rfl
          show wpAnyH _ _ _ _ _ _ _ (Act.put _ (some 90) _) _
          try simp only [Act.put, List.setIfInBounds_toArray, List.set_cons_zero, List.set_cons_succ]
          refine wpAnyH_take (i := 6) (v := ?_) rfl (by kernel_rfl) (by kernel_rfl) (by kernel_rfl) (fun _ _ _ h => h) (Or.inl ⟨by rfl, ?_⟩) hHeld ?_
          rotate_left
          · intro w hSw
            try dsimp only at hSw
            go_simp
            try with_reducible rfl
          show wpAnyH _ _ _ _ _ _ _ (Act.put _ (some 91) _) _
          try simp only [Act.put, List.setIfInBounds_toArray, List.set_cons_zero, List.set_cons_succ]
          refine wpAnyH_take (i := 7) (v := ?_) rfl (by kernel_rfl) (by kernel_rfl) (by kernel_rfl) (fun _ _ _ h => h) (Or.inl ⟨by rfl, ?_⟩) hHeld ?_
          rotate_left
          · intro w hSw
            try dsimp only at hSw
            go_simp
            try with_reducible rfl
          show wpAnyH _ _ _ _ _ _ _ (Act.put _ (some 92) _) _
          try simp only [Act.put, List.setIfInBounds_toArray, List.set_cons_zero, List.set_cons_succ]
          refine wpAnyH_take (i := 8) (v := ?_) rfl (by kernel_rfl) (by kernel_rfl) (by kernel_rfl) (fun _ _ _ h => h) (Or.inl ⟨by rfl, ?_⟩) hHeld ?_
          rotate_left
          · intro w hSw
            try dsimp only at hSw
            go_simp
            try with_reducible rfl
          show wpAnyH _ _ _ _ _ _ _ (Act.put _ (some 93) _) _
          try simp only [Act.put, List.setIfInBounds_toArray, List.set_cons_zero, List.set_cons_succ]
          refine wpAnyH_take (i := 9) (v := ?_) rfl (by kernel_rfl) (by kernel_rfl) (by kernel_rfl) (fun _ _ _ h => h) (Or.inl ⟨by rfl, ?_⟩) hHeld ?_
          rotate_left
          · intro w hSw
            try dsimp only at hSw
            go_simp
            try with_reducible rfl
          show wpAnyH _ _ _ _ _ _ _ (Act.put _ (some 94) _) _
          try simp only [Act.put, List.setIfInBounds_toArray, List.set_cons_zero, List.set_cons_succ]
          refine wpAnyH_take (i := 10) (v := ?_) rfl (by kernel_rfl) (by kernel_rfl) (by kernel_rfl) (fun _ _ _ h => h) (Or.inl ⟨by rfl, ?_⟩) hHeld ?_
          rotate_left
          · intro w hSw
            try dsimp only at hSw
            go_simp
            try with_reducible rfl
          show wpAnyH _ _ _ _ _ _ _ (Act.put _ (some 95) _) _
          try simp only [Act.put, List.setIfInBounds_toArray, List.set_cons_zero, List.set_cons_succ]
          refine wpAnyH_take (i := 11) (v := ?_) rfl (by kernel_rfl) (by kernel_rfl) (by kernel_rfl) (fun _ _ _ h => h) (Or.inl ⟨by rfl, ?_⟩) hHeld ?_
          rotate_left
          · intro w hSw
            try dsimp only at hSw
            go_simp
            try with_reducible rfl
          show wpAnyH _ _ _ _ _ _ _ (Act.put _ (some 96) _) _
          try simp only [Act.put, List.setIfInBounds_toArray, List.set_cons_zero, List.set_cons_succ]
          refine wpAnyH_take (i := 12) (v := ?_) rfl (by kernel_rfl) (by kernel_rfl) (by kernel_rfl) (fun _ _ _ h => h) (Or.inl ⟨by rfl, ?_⟩) hHeld ?_
          rotate_left
          · intro w hSw
            try dsimp only at hSw
            go_simp
            try with_reducible rfl
          show wpAnyH _ _ _ _ _ _ _ (Act.put _ (some 97) _) _
          try simp only [Act.put, List.setIfInBounds_toArray, List.set_cons_zero, List.set_cons_succ]
          refine wpAnyH_take (i := 13) (v := ?_) rfl (by kernel_rfl) (by kernel_rfl) (by kernel_rfl) (fun _ _ _ h => h) (Or.inl ⟨by rfl, ?_⟩) hHeld ?_
          rotate_left
          · intro w hSw
            try dsimp only at hSw
            go_simp
            try with_reducible rfl
          show wpAnyH _ _ _ _ _ _ _ (Act.put _ (some 98) _) _
          try simp only [Act.put, List.setIfInBounds_toArray, List.set_cons_zero, List.set_cons_succ]
          refine wpAnyH_take (i := 14) (v := ?_) rfl (by kernel_rfl) (by kernel_rfl) (by kernel_rfl) (fun _ _ _ h => h) (Or.inl ⟨by rfl, ?_⟩) hHeld ?_
          rotate_left
          · intro w hSw
            try dsimp only at hSw
            go_simp
            try with_reducible rfl
          show wpAnyH _ _ _ _ _ _ _ (Act.put _ (some 4) _) _
          try simp only [Act.put, List.setIfInBounds_toArray, List.set_cons_zero, List.set_cons_succ]
          refine wpAnyH_take (i := 15) (v := ?_) rfl (by kernel_rfl) (by kernel_rfl) (by kernel_rfl) (fun _ _ _ h => h) (Or.inl ⟨by rfl, ?_⟩) hHeld ?_
          rotate_left
          · intro w hSw
            try dsimp only at hSw
            go_simp
            try with_reducible rfl
          show wpAnyH _ _ _ _ _ _ _ (Act.put _ (some 5) _) _
          try simp only [Act.put, List.setIfInBounds_toArray, List.set_cons_zero, List.set_cons_succ]
          refine wpAnyH_done (by kernel_rfl) ?_ _
          clear hHeld
          go_wp2_with fail
          go_ret2
          exact ⟨rfl, (unhide HW7).drew⟩

end W
end Go.Proofs.YtnegcifbbbmlnaaDoor
