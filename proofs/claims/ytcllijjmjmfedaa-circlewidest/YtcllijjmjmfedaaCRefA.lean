/- The document's answer for arcs, tick by tick: cycles, rests, which ticks arcs have. -/
import Derived.Test.YtcllijjmjmfedaaCSetC
namespace Go.Proofs.Ytcllijjmjmfedaa
open Go.RowKit Go.Shelf
attribute [local go_sem ↓] Go.wp_at_zero Go.wp_at_succ
set_option linter.unusedVariables false
set_option linter.unusedSimpArgs false
set_option maxRecDepth 10000
set_option maxHeartbeats 1000000 in
theorem rcyc_yes (c : Int) (h : Cyc c) (w : World) : Calls Try.prog 10 #[.int .i64 c] w fun e w' => e = .returned (.bool true) ∧ w' = w := by
  obtain ⟨h1, h2⟩ := h
  go_enter Try.func10, Try.ntmps10
  go_wp2
  go_ret
  exact ⟨rfl, rfl⟩
set_option maxHeartbeats 1000000 in
theorem rcyc_no (c : Int) (h : ¬ Cyc c) (w : World) : Calls Try.prog 10 #[.int .i64 c] w fun e w' => e = .returned (.bool false) ∧ w' = w := by
  by_cases h1 : 1 ≤ c
  · have h2 : ¬ c ≤ 6000 := fun k => h ⟨h1, k⟩
    clear h
    go_enter Try.func10, Try.ntmps10
    go_wp2
    go_ret
    exact ⟨rfl, rfl⟩
  · clear h
    go_enter Try.func10, Try.ntmps10
    go_wp2
    go_ret
    exact ⟨rfl, rfl⟩
set_option maxHeartbeats 1000000 in
theorem rmod_pos (a b m : Int) (w : World) (ha : 0 ≤ a) (hb : 1 ≤ b) (hz : (b == 0) = false) (e2 : a.tmod b = m) (m1 : 0 ≤ m) (m2 : m < b) :
    Calls Try.prog 12 #[.int .i64 a, .int .i64 b] w fun e w' => e = .returned (.int .i64 m) ∧ w' = w := by
  go_enter Try.func12, Try.ntmps12
  go_wp2
  go_ret
  exact ⟨rfl, rfl⟩
set_option maxHeartbeats 1000000 in
theorem rmod_neg (a b m : Int) (w : World) (hb : 1 ≤ b) (h4 : b ≤ 9223372036854775807) (hz : (b == 0) = false) (e2 : a.tmod b = m) (m1 : m < 0) (m2 : -b < m) :
    Calls Try.prog 12 #[.int .i64 a, .int .i64 b] w fun e w' => e = .returned (.int .i64 (m + b)) ∧ w' = w := by
  go_enter Try.func12, Try.ntmps12
  go_wp2
  go_ret
  exact ⟨rfl, rfl⟩
set_option maxHeartbeats 1000000 in
theorem rmod_pos' (a b : Int) (w : World) (hb : 1 ≤ b) (hz : (b == 0) = false) (e2 : a.tmod b = 0) :
    Calls Try.prog 12 #[.int .i64 a, .int .i64 b] w fun e w' => e = .returned (.int .i64 (a.tmod b)) ∧ w' = w := by
  rw [e2]
  go_enter Try.func12, Try.ntmps12
  go_wp2
  go_ret
  exact ⟨rfl, rfl⟩
theorem rmod_any (a c : Int) (hc : Cyc c) (w : World) : Calls Try.prog 12 #[.int .i64 a, .int .i64 c] w fun e w' => e = .returned (.int .i64 (a % c)) ∧ w' = w := by
  have h1 := hc.1
  have h2 := hc.2
  have hz : (c == 0) = false := by simp; omega
  by_cases ha : a < 0
  · have g := (go_negpos ha (show 0 < c by omega)).2
    have k1 := Int.emod_nonneg (-a) (show c ≠ 0 by omega)
    have k2 := Int.emod_lt_of_pos (-a) (show 0 < c by omega)
    rw [mod_low ha (by omega)]
    by_cases h0 : a.tmod c < 0
    · rw [if_pos h0]
      exact rmod_neg a c _ w h1 (by omega) hz rfl h0 (by omega)
    · rw [if_neg h0]
      have hz0 : a.tmod c = 0 := by omega
      exact rmod_pos' a c w h1 hz hz0
  · rw [← Int.tmod_eq_emod_of_nonneg (by omega)]
    have := em_bd h1 a
    rw [← Int.tmod_eq_emod_of_nonneg (show 0 ≤ a by omega)] at this
    exact rmod_pos a c _ w (by omega) h1 hz rfl this.1 this.2
/-- bits that are the ticks P -/
def Bits (cur : Array Value) (n : Nat) (P : Int → Prop) : Prop := cur.size = n ∧ ∀ j : Nat, j < n → ∃ b : Bool, cur[j]? = some (.bool b) ∧ (b = true ↔ P j)
/-- v is a slice of n bits, the ticks P -/
def Bs (w : World) (v : Value) (n : Nat) (P : Int → Prop) : Prop := ∃ a cap, v = .slice a n cap ∧ n ≤ cap ∧ ∀ j : Nat, j < n → ∃ g, a = some ⟨g, 0, none⟩ ∧ g < w.heap.size ∧ ∃ b : Bool, w.cell? ⟨g, j, none⟩ = some (.bool b) ∧ (b = true ↔ P j)
theorem Bs.keep {w w' : World} {v : Value} {n : Nat} {P : Int → Prop} (h : Bs w v n P) (hk : Keep w w') : Bs w' v n P := by
  obtain ⟨a, cap, rfl, hc, h⟩ := h
  refine ⟨a, cap, rfl, hc, fun j hj => ?_⟩
  obtain ⟨g, h0, h1, b, h2, h3⟩ := h j hj
  exact ⟨g, h0, by have := Below.size hk; omega, b, by rw [Below.cell (p := ⟨g, j, none⟩) hk h1]; exact h2, h3⟩
theorem bs_nil (w : World) (P : Int → Prop) : Bs w (.slice none 0 0) 0 P := ⟨none, 0, rfl, Nat.le_refl _, fun j h => by omega⟩
theorem bs_row {w : World} {g n : Nat} {cur : Array Value} {t : TypeId} {P : Int → Prop} (h : w.heap[g]? = some (.cells cur t (0, 0))) (hb : Bits cur n P) : Bs w (.slice (some ⟨g, 0, none⟩) n n) n P := by
  refine ⟨_, n, rfl, Nat.le_refl _, fun j hj => ⟨g, rfl, (Array.getElem?_eq_some_iff.1 h).1, ?_⟩⟩
  obtain ⟨b, h1, h2⟩ := hb.2 j hj
  exact ⟨b, by simp only [World.cell?, h]; exact h1, h2⟩
theorem bits_set {cur : Array Value} {n : Nat} {P : Int → Prop} (h : Bits cur n P) {j : Nat} (hj : j < n) : Bits (cur.setIfInBounds j (.bool true)) n (fun t => P t ∨ t = j) := by
  refine ⟨by rw [Array.size_setIfInBounds]; exact h.1, fun i hi => ?_⟩
  by_cases e : i = j
  · subst e
    refine ⟨true, ?_, by simp⟩
    rw [Array.getElem?_setIfInBounds_self_of_lt (by rw [h.1]; exact hi)]
  · obtain ⟨b, h1, h2⟩ := h.2 i hi
    refine ⟨b, ?_, ?_⟩
    · rw [Array.getElem?_setIfInBounds_ne (fun k => e k.symm)]; exact h1
    · rw [h2]
      constructor
      · exact .inl
      · rintro (k | k)
        · exact k
        · omega
theorem bits_congr {cur : Array Value} {n : Nat} {P Q : Int → Prop} (h : Bits cur n P) (e : ∀ t : Int, 0 ≤ t → t < n → (P t ↔ Q t)) : Bits cur n Q :=
  ⟨h.1, fun j hj => by obtain ⟨b, h1, h2⟩ := h.2 j hj; exact ⟨b, h1, h2.trans (e j (by omega) (by omega))⟩⟩
theorem row_set {w : World} {g : Nat} {cur : Array Value} {t : TypeId} (h : w.heap[g]? = some (.cells cur t (0, 0))) (j : Nat) (v : Value) : (w.setCell ⟨g, j, none⟩ v).heap[g]? = some (.cells (cur.setIfInBounds j v) t (0, 0)) := by
  obtain ⟨hlt, hk⟩ := Array.getElem?_eq_some_iff.1 h
  show (w.heap.modify g _)[g]? = _
  rw [Array.getElem?_eq_getElem (by rw [Array.size_modify]; exact hlt), Array.getElem_modify_self, hk]
  rfl
/-- a tick of an arc, told from where it begins on -/
theorem ia_ex {c : Int} (hc : Cyc c) (p : Pr) {t : Int} (h0 : 0 ≤ t) (h1 : t < c) : Ia c p t ↔ ∃ k, 0 ≤ k ∧ k < min p.2 c ∧ t = (p.1 % c + k) % c := by
  have b := em_bd hc.1 (t - p.1)
  constructor
  · rintro ⟨_, h2, h3⟩
    refine ⟨(t - p.1) % c, b.1, by omega, ?_⟩
    rw [em_add, Int.add_comm, em_add, show t - p.1 + p.1 = t by omega, em_one h0 h1]
  · rintro ⟨k, k0, k1, rfl⟩
    refine ⟨hc, by omega, ?_⟩
    rw [em_sub', Int.add_comm, show k + p.1 % c - p.1 = (k - p.1) + p.1 % c by omega, em_add, show k - p.1 + p.1 = k by omega, em_one k0 (by omega)]
    omega
theorem ta_snoc {c : Int} {L : List Pr} {k : Nat} (h : k < L.length) (t : Int) : Ta c (L.take (k + 1)) t ↔ Ta c (L.take k) t ∨ Ia c (L.getD k (0, 0)) t := by
  rw [take_snoc h]
  unfold Ta
  constructor
  · rintro ⟨a, ha, hi⟩
    rcases List.mem_append.1 ha with ha | ha
    · exact .inl ⟨a, ha, hi⟩
    · simp only [List.mem_singleton] at ha; rw [ha] at hi; exact .inr hi
  · rintro (⟨a, ha, hi⟩ | hi)
    · exact ⟨a, by simp [ha], hi⟩
    · exact ⟨_, by simp, hi⟩
theorem infoB : (Try.prog.info? 4).map (fun i => (i.zero, i.size, i.bytes)) = some (some (.bool false), 1, 1) := by kernel_rfl
set_option maxHeartbeats 1000000 in
theorem ticks_no (c : Int) (a : Option Addr) (n cap : Nat) (w : World) (T : Hid (∀ w, Calls Try.prog 10 #[.int .i64 c] w fun e w' => e = .returned (.bool false) ∧ w' = w)) :
    Calls Try.prog 17 #[.int .i64 c, .slice a n cap] w fun e w' => e = .returned (.slice none 0 0) ∧ w' = w := by
  go_enter Try.func17, Try.ntmps17
  go_wp2_with fail
  (refine ((unhide T) _).mono ?_; rintro e w ⟨rfl, rfl⟩)
  go_wp2_with fail
  go_ret
  exact ⟨rfl, rfl⟩
set_option maxHeartbeats 2000000 in
theorem ticks_yes (n : Nat) (hcy : Cyc n) (hn3 : n ≤ 300) (v0 : Value) (L : List Pr) (w : World) (hl : L.length ≤ 50000) (hR : Rs w v0 L) :
    Calls Try.prog 17 #[.int .i64 (n : Int), v0] w fun e w' => ∃ v, e = .returned v ∧ Bs w' v n (Ta n L) ∧ Keep w w' := by
  have T := hide (rcyc_yes n hcy)
  have TM : Hid (∀ a w, _) := hide fun a w => rmod_any a n hcy w
  obtain ⟨i0, hi, hz0, hz1, hz2⟩ := info_parts infoB
  obtain ⟨a, cap, hv, hcap, hcell⟩ := id hR
  subst hv
  have HC := hide hcell
  clear hR hcell
  have hn1 := hcy.1
  obtain ⟨Z, hZ, hmk⟩ : ∃ Z : Array Value, Bits Z n (Ta n (L.take 0)) ∧ ∀ w, (Instr.makeSlice 39 (.int .i64 (n : Int)) (.int .i64 (n : Int))).run Try.prog w = .ok (.slice (some ⟨w.heap.size, 0, none⟩) n n) (w.alloc (.cells Z 4)) := by
    refine ⟨madeCells (Value.bool false).cells (n * 1), ⟨by simp [size_madeCells], fun j hj => ⟨false, ?_, ?_⟩⟩, fun w => ?_⟩
    · have hs : j < (madeCells (Value.bool false).cells (n * 1)).size := by rw [size_madeCells]; omega
      rw [Array.getElem?_eq_getElem hs]
      simp [madeCells, Value.cells, Nat.mod_one]
    · constructor
      · intro h; cases h
      · rintro ⟨a, ha, _⟩; simp at ha
    · have h := run_make (P := Try.prog) w 39 4 i0 _ Try.underlying39 hi hz0 .i64 .i64 (n : Int) (n : Int) (by omega) (by omega) (by rw [hz2]; omega) (by omega)
      rw [hz1] at h
      simpa using h
  have HZ := hide hZ
  clear hZ
  have HCY := hide hcy
  clear hcy
  go_enter Try.func17, Try.ntmps17
  go_wp2_with fail
  (refine ((unhide T) _).mono ?_; rintro e w ⟨rfl, rfl⟩)
  go_wp2_with fail
  go_loopw [6] (fun vi wr => ∃ (i : Nat) (cur : Array Value), i ≤ L.length ∧ vi = .int .i64 i ∧ wr.heap[w.heap.size]? = some (.cells cur 4 (0, 0)) ∧ Hid (Bits cur n (Ta n (L.take i))) ∧ Below w.heap.size w wr) (fun vi _ => L.length - (intOf vi).toNat)
  case atStart => exact ⟨0, Z, Nat.zero_le _, rfl, World.alloc_heap_new w _, HZ, (Below.refl _ w).alloc (Nat.le_refl _) _⟩
  case round =>
    obtain ⟨i, cur, hi', rfl, hrow, HB, hbel⟩ := hrel
    by_cases hlt : i < L.length
    · obtain ⟨ad, rfl, hb, hin, c0, c1⟩ := (unhide HC) i hlt
      have HC0 : Hid (∀ W, Below w.heap.size w W → W.cell? (ad.add (i * 2)) = some (.int .i64 (L.getD i (0, 0)).1) ∧ W.cell? ⟨(ad.add (i * 2)).block, (ad.add (i * 2)).off + 1, none⟩ = some (.int .i64 (L.getD i (0, 0)).2)) := by
        intro W hW
        refine ⟨?_, ?_⟩
        · rw [Below.cell hW (by rw [add_block]; exact hb)]; exact c0
        · rw [Below.cell (p := ⟨(ad.add (i * 2)).block, (ad.add (i * 2)).off + 1, none⟩) hW (by show (ad.add (i * 2)).block < _; rw [add_block]; exact hb)]; exact c1
      have hts := fun t => ta_snoc (c := n) hlt t
      have hie := fun t h0 h1 => ia_ex (unhide HCY) (L.getD i (0, 0)) (t := t) h0 h1
      generalize L.getD i (0, 0) = p at *
      obtain ⟨x, y⟩ := p
      simp only at *
      obtain ⟨c0', c1'⟩ := (unhide HC0) wr hbel
      clear c0 c1
      have hxb := em_bd (show (1 : Int) ≤ n by omega) x
      obtain ⟨at0, hat⟩ : ∃ at0, x % (n : Int) = at0 := ⟨_, rfl⟩
      have hm : (if (n : Int) < y then (n : Int) else y) = min y n := by split <;> omega
      obtain ⟨m, hmm⟩ : ∃ m, min y (n : Int) = m := ⟨_, rfl⟩
      rw [hat] at hxb
      simp only [hat, hmm] at hie
      rw [hmm] at hm
      have TMx := hide (fun w => (unhide TM) x w)
      simp only [hat] at TMx
      have HTS := hide hts
      have HIE := hide hie
      have li : (i : Int) < (L.length : Int) := by omega
      have hmb : m ≤ n := by omega
      clear hts hie hat hin hm
      go_wp2_with fail
      (refine ((unhide TMx) _).mono ?_; rintro e wo ⟨rfl, rfl⟩)
      go_wp2_with fail
      have HRW := hide hrow
      have HBL := hide hbel
      clear hrow hbel c0' c1'
      obtain ⟨wv, hwv⟩ : ∃ wv, wv = wo := ⟨_, rfl⟩
      rw [← hwv]
      go_loopw [9] (fun vk wr => ∃ (k : Nat) (cur : Array Value), ((k : Int) ≤ m ∨ k = 0) ∧ vk = .int .i64 k ∧ wr.heap[w.heap.size]? = some (.cells cur 4 (0, 0)) ∧ Hid (Bits cur n (fun t => Ta n (L.take i) t ∨ ∃ k' : Int, 0 ≤ k' ∧ k' < k ∧ t = (at0 + k') % n)) ∧ Below w.heap.size w wr) (fun vk _ => (m - intOf vk).toNat)
      case atStart =>
        rw [hwv]
        exact ⟨0, cur, .inr rfl, rfl, unhide HRW, hide (bits_congr (unhide HB) fun t _ _ => ⟨.inl, fun h => h.elim id fun ⟨k', a, b, _⟩ => by omega⟩), unhide HBL⟩
      case round =>
        clear hwv
        obtain ⟨k, cur2, hkm, rfl, hrow, HB2, hbel⟩ := hrel
        by_cases hk : (k : Int) < m
        · have hkb : (k : Int) < n := by omega
          have htm : (at0 + k).tmod n = ((at0 + (k : Int)) % n) := Int.tmod_eq_emod_of_nonneg (by omega)
          have hjb := em_bd (show (1 : Int) ≤ n by omega) (at0 + k)
          obtain ⟨j, hj⟩ : ∃ j : Nat, (at0 + (k : Int)) % n = j := ⟨((at0 + (k : Int)) % n).toNat, by omega⟩
          rw [hj] at htm hjb
          have hjn : j < n := by omega
          have hz : ((n : Int) == 0) = false := by simp; omega
          have hw1 : wrap64 (at0 + k) = at0 + k := wrap_in (by omega)
          obtain ⟨b, hcb, _⟩ := (unhide HB2).2 j hjn
          have hcell : wr.cell? ⟨w.heap.size, j, none⟩ = some (.bool b) := by simp only [World.cell?, hrow]; exact hcb
          have hfz : wr.frozen? ⟨w.heap.size, j, none⟩ = false := by simp [World.frozen?, hrow]
          have lj : (j : Int) < (n : Int) := by omega
          have hnx : Hid (Bits (cur2.setIfInBounds j (.bool true)) n (fun t => Ta n (L.take i) t ∨ ∃ k' : Int, 0 ≤ k' ∧ k' < ((k + 1 : Nat) : Int) ∧ t = (at0 + k') % n)) := by
            refine bits_congr (bits_set (unhide HB2) hjn) fun t t0 t1 => ?_
            constructor
            · rintro ((h | ⟨k', a, b, e⟩) | h)
              · exact .inl h
              · exact .inr ⟨k', a, by omega, e⟩
              · exact .inr ⟨k, by omega, by omega, by rw [hj]; exact h⟩
            · rintro (h | ⟨k', a, b, e⟩)
              · exact .inl (.inl h)
              · by_cases ek : k' = k
                · right; rw [e, ek]; exact hj
                · exact .inl (.inr ⟨k', a, by omega, e⟩)
          have HROW := hide hrow
          have HBEL := hide hbel
          clear hrow hbel hj hcb hjb
          go_wp2_with fail
          go_roundw
          case rel => exact ⟨k + 1, _, .inl (by omega), by go_num, row_set (unhide HROW) j _, hnx, (unhide HBEL).setCell (p := ⟨w.heap.size, j, none⟩) (Nat.le_refl _) _⟩
          case measure => simp [intOf]; omega
        · have hbt : Hid (Bits cur2 n (Ta n (L.take (i + 1)))) := by
            refine bits_congr (unhide HB2) fun t t0 t1 => ?_
            rw [(unhide HTS) t, (unhide HIE) t t0 t1]
            constructor
            · rintro (h | ⟨k', a, b, e⟩)
              · exact .inl h
              · exact .inr ⟨k', a, by omega, e⟩
            · rintro (h | ⟨k', a, b, e⟩)
              · exact .inl h
              · exact .inr ⟨k', a, by omega, e⟩
          have HROW := hide hrow
          have HBEL := hide hbel
          clear hrow hbel
          go_wp2_with fail
          go_roundw
          case rel => exact ⟨i + 1, cur2, by omega, by go_num, unhide HROW, hbt, unhide HBEL⟩
          case measure => simp [intOf]; omega
    · have hil : i = L.length := by omega
      have HE : Hid (Bits cur n (Ta n L)) := by have h := unhide HB; rw [hil, List.take_length] at h; exact h
      have li : ¬ (i : Int) < (L.length : Int) := by omega
      have HROW := hide hrow
      have HBEL := hide hbel
      clear hrow hbel
      go_wp2_with fail
      go_ret
      exact ⟨_, rfl, bs_row (unhide HROW) (unhide HE), unhide HBEL⟩
end Go.Proofs.Ytcllijjmjmfedaa
