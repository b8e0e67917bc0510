/- Sums of more fractions; the law's ways. -/
import Derived.Test.YtdgmndjofbdgeaaCrQ
import Derived.Test.YtdgmndjofbdgeaaLMath
import Derived.Test.YtdgmndjofbdgeaaAllR
import Derived.Deep.DrawnRows
import Derived.Deep.RegionHeld3
import Derived.Laws.AppendOwn
import Derived.Laws.OwnMore
import Derived.Laws.MakeOwn
import Derived.OwnWalk
namespace Go.Proofs.Ytdgmndjofbdgeaa
open Go.RowKit
attribute [local go_sem ↓] Go.wp_at_zero Go.wp_at_succ
set_option linter.unusedVariables false
set_option linter.unusedSimpArgs false
set_option maxRecDepth 10000
set_option maxHeartbeats 2000000 in
theorem rsum3_core (ad : Addr) (L : List (Int × Int)) (cap : Nat) (w : World) (hn : L.length ≤ 1000) (hF : Fs w ad L) (X Y Z : Int) (HS : Hid (sm (0, 1) L = (X, Y, Z)))
    (AD : Hid (∀ (t f : Int × Int), In t.1 → In t.2 → In f.1 → In f.2 → ∀ w, Calls Try.prog 17 #[.agg #[.int .i64 t.1, .int .i64 t.2], .agg #[.int .i64 f.1, .int .i64 f.2]] w fun e w' => e = .returned (.tuple #[.agg #[.int .i64 (adX t f), .int .i64 (adY t f)], .int .i64 (adE t f)]) ∧ Keep w w')) :
    Calls Try.prog 15 #[.slice (some ad) L.length cap] w fun e w' => e = .returned (.tuple #[.agg #[.int .i64 X, .int .i64 Y], .int .i64 Z]) ∧ Keep w w' := by
  go_enter Try.func15, Try.ntmps15
  go_wp2_with fail
  obtain ⟨B, hB⟩ : ∃ B, B = w.heap.size + 1 := ⟨_, rfl⟩
  rw [← hB]
  have HB := hide hB
  clear hB
  go_loopw [5] (fun iv wr => ∃ (k : Nat) (t : Int × Int), iv = .int .i64 (k : Int) ∧ k ≤ L.length ∧ In t.1 ∧ In t.2 ∧ Hid (sm t (L.drop k) = (X, Y, Z)) ∧ Ft w wr B t.1 t.2) (fun iv _ => L.length - (intOf iv).toNat)
  case atStart =>
    refine ⟨0, (0, 1), rfl, by omega, by unfold In; omega, by unfold In; omega, HS, ?_⟩
    have hB := uq HB
    subst hB
    refine ⟨by repeat (first | apply keep_ext | apply Keep.alloc | exact Keep.refl _), ?_, ?_, ?_, ?_, ?_, ?_, ?_, ?_, ?_, ?_, ?_⟩ <;> simp [go_sem]
  case round =>
    obtain ⟨k, t, rfl, hk, ht1, ht2, HI, hft⟩ := hrel
    by_cases hlt : k < L.length
    · have hq := (hF.keep hft.1) k hlt
      have CK : ∀ w', Keep wr w' → (w'.cell? ⟨B, 0, none⟩ = some (.int .i64 t.1) ∧ w'.cell? ⟨B, 1, none⟩ = some (.int .i64 t.2) ∧ w'.cell? (ad.add (k * 2)) = some (.int .i64 (L.getD k (0, 0)).1) ∧ w'.cell? ⟨(ad.add (k * 2)).block, (ad.add (k * 2)).off + 1, none⟩ = some (.int .i64 (L.getD k (0, 0)).2)) := by
        intro w' hk'
        have f := hft.keep hk'
        have g := (hF.keep (hft.1.trans hk')) k hlt
        exact ⟨f.2.2.2.2.1, f.2.2.2.2.2.1, g.2.2.2.1, g.2.2.2.2⟩
      have ADk := hide (uq AD t (L.getD k (0, 0)) ht1 ht2 hq.2.1 hq.2.2.1)
      have sy := sm_yes (t := t) hlt
      have sn := sm_no (t := t) hlt
      have xi : In (adX t (L.getD k (0, 0))) := pN_in _ _
      have yi : In (adY t (L.getD k (0, 0))) := pD_in _ _
      clear hq
      generalize adX t (L.getD k (0, 0)) = ax at *
      generalize adY t (L.getD k (0, 0)) = ay at *
      generalize adE t (L.getD k (0, 0)) = ae at *
      generalize (L.getD k (0, 0)).1 = fx at *
      generalize (L.getD k (0, 0)).2 = fy at *
      obtain ⟨tx, ty⟩ := t
      simp only at *
      have CKH := hide CK
      have SY := hide sy
      have SN := hide sn
      have HFT := hide hft
      have hlc : ((k : Int) < (L.length : Int)) := by omega
      have hlz : ((0 : Int) ≤ (k : Int)) := by omega
      clear CK sy sn hft ht1 ht2
      go_upto_region 5 with fail
      go_cut [6, 7] (fun s6 s7 wc => ∃ T, s6 = .pointer (some ⟨T, 0, none⟩) ∧ s7 = .int .i64 ae ∧ T < wc.heap.size ∧ wr.heap.size ≤ T ∧ wc.cell? ⟨T, 0, none⟩ = some (.int .i64 ax) ∧ wc.cell? ⟨T, 1, none⟩ = some (.int .i64 ay) ∧ Keep wr wc)
      case first =>
        refine wp_region_held_drew (S := (fun w' => w'.cell? ⟨B, 0, none⟩ = some (.int .i64 tx) ∧ w'.cell? ⟨B, 1, none⟩ = some (.int .i64 ty) ∧ w'.cell? (ad.add (k * 2)) = some (.int .i64 fx) ∧ w'.cell? ⟨(ad.add (k * 2)).block, (ad.add (k * 2)).off + 1, none⟩ = some (.int .i64 fy))) (by kernel_rfl) (by exact uq CKH _ ((Keep.refl _).drew)) (fun hHeld => ?_)
        refine tkk 0 16 hHeld ?_; try simp only [Act.put, Ya, Yb, Yc]
        refine tkk 1 17 hHeld ?_; try simp only [Act.put, Ya, Yb, Yc]
        refine tkk 2 18 hHeld ?_; try simp only [Act.put, Ya, Yb, Yc]
        refine tkk 3 19 hHeld ?_; try simp only [Act.put, Ya, Yb, Yc]
        refine tkk 4 20 hHeld ?_; try simp only [Act.put, Ya, Yb, Yc]
        refine wpAnyH_ready (rs := [5, 9]) (by kernel_rfl) (by simp) ?_
        refine AllReadyH.cons rfl (fun K hK => ?_) (AllReadyH.cons rfl (fun K hK => ?_) AllReadyH.nil)
        · skip
          go_simp
          clear hHeld
          (refine ((uq ADk) _).mono ?_; rintro e w2 ⟨rfl, hk2⟩; obtain ⟨o2, k2, rfl⟩ := hk2.ext; clear hk2)
          try go_wp2_with fail
          refine hK.out _ _ ?_ (fun hHeld => ?_)
          · exact uq CKH _ (by repeat (first | apply keep_ext | apply Keep.alloc | apply Keep.drew | exact Keep.refl _))
          clear hK K
          try simp only [Act.put, Ya, Yb, Yc]
          refine tkk 6 15 hHeld ?_; try simp only [Act.put, Ya, Yb, Yc]
          refine tkk 7 22 hHeld ?_; try simp only [Act.put, Ya, Yb, Yc]
          refine tkk 8 23 hHeld ?_; try simp only [Act.put, Ya, Yb, Yc]
          refine rdyy 9 (fun K hK => ?_)
          go_simp
          clear hHeld
          refine hK.out _ _ ?_ (fun hHeld => ?_)
          · exact uq CKH _ (by repeat (first | apply keep_ext | apply Keep.alloc | apply Keep.drew | exact Keep.refl _))
          clear hK K
          try simp only [Act.put, Ya, Yb, Yc]
          refine rdyy 10 (fun K hK => ?_)
          go_simp
          clear hHeld
          refine hK.out _ _ ?_ (fun hHeld => ?_)
          · exact uq CKH _ (by repeat (first | apply keep_ext | apply Keep.alloc | apply Keep.drew | exact Keep.refl _))
          clear hK K
          try simp only [Act.put, Ya, Yb, Yc]
          refine tkk 11 7 hHeld ?_; try simp only [Act.put, Ya, Yb, Yc]
          refine wpAnyH_done (by kernel_rfl) ?_ _
          clear hHeld
          go_wp2_with fail
          go_meet
          exact ⟨_, rfl, rfl, by simp <;> omega, by simp <;> omega, by simp [go_sem], by simp [go_sem], by repeat (first | apply keep_ext | apply Keep.alloc | apply Keep.drew | exact Keep.refl _)⟩
        · skip
          go_simp
          clear hHeld
          refine hK.out _ _ ?_ (fun hHeld => ?_)
          · exact uq CKH _ (by repeat (first | apply keep_ext | apply Keep.alloc | apply Keep.drew | exact Keep.refl _))
          clear hK K
          try simp only [Act.put, Ya, Yb, Yc]
          refine rdyy 5 (fun K hK => ?_)
          go_simp
          clear hHeld
          (refine ((uq ADk) _).mono ?_; rintro e w2 ⟨rfl, hk2⟩; obtain ⟨o2, k2, rfl⟩ := hk2.ext; clear hk2)
          try go_wp2_with fail
          refine hK.out _ _ ?_ (fun hHeld => ?_)
          · exact uq CKH _ (by repeat (first | apply keep_ext | apply Keep.alloc | apply Keep.drew | exact Keep.refl _))
          clear hK K
          try simp only [Act.put, Ya, Yb, Yc]
          refine tkk 6 15 hHeld ?_; try simp only [Act.put, Ya, Yb, Yc]
          refine tkk 7 22 hHeld ?_; try simp only [Act.put, Ya, Yb, Yc]
          refine tkk 8 23 hHeld ?_; try simp only [Act.put, Ya, Yb, Yc]
          refine rdyy 10 (fun K hK => ?_)
          go_simp
          clear hHeld
          refine hK.out _ _ ?_ (fun hHeld => ?_)
          · exact uq CKH _ (by repeat (first | apply keep_ext | apply Keep.alloc | apply Keep.drew | exact Keep.refl _))
          clear hK K
          try simp only [Act.put, Ya, Yb, Yc]
          refine tkk 11 7 hHeld ?_; try simp only [Act.put, Ya, Yb, Yc]
          refine wpAnyH_done (by kernel_rfl) ?_ _
          clear hHeld
          go_wp2_with fail
          go_meet
          exact ⟨_, rfl, rfl, by simp <;> omega, by simp <;> omega, by simp [go_sem], by simp [go_sem], by repeat (first | apply keep_ext | apply Keep.alloc | apply Keep.drew | exact Keep.refl _)⟩
      case rest =>
        obtain ⟨T, hs6, hs7, hT1, hT2, m0, m1, hkc⟩ := hcut
        subst hs6 hs7
        have hfc := (uq HFT).keep hkc
        have HFC := hide hfc
        obtain ⟨h1, h2, h3, h4, c0, c1, z0, z1, r0, r1, y0, y1⟩ := hfc
        have h1' := hide h1
        clear hkc h1
        by_cases he : ae = 0
        · subst he
          have HN : Hid (sm (ax, ay) (L.drop (k + 1)) = (X, Y, Z)) := by rw [← uq SY rfl]; exact HI
          have HFN := hide ((uq HFC).set ax ay)
          clear SY SN HI
          go_wp2_with fail
          go_roundw
          case rel => exact ⟨k + 1, (ax, ay), by go_num, by omega, xi, yi, HN, uq HFN⟩
          case measure => simp [intOf]; omega
        · have hz := uq SN he
          rw [uq HI] at hz
          simp only [Prod.mk.injEq] at hz
          obtain ⟨rfl, rfl, rfl⟩ := hz
          have heb : (Z == 0) = false := by simpa using he
          have hec : (Z != 0) = true := by simpa using he
          clear SY SN HI
          go_wp2_with fail
          exact bodyPost_ret (v := .tuple #[.agg #[.int .i64 0, .int .i64 0], .int .i64 Z]) (by simp [results, Try.results15, go_sem, r0, r1, h2]) rfl ⟨rfl, by repeat (first | exact uq h1' | apply keep_ext | apply Keep.alloc | apply Keep.drew | (refine keep_set0 _ _ ?_))⟩
    · have hz := sm_end (t := t) (show L.length ≤ k by omega)
      rw [uq HI] at hz
      simp only [Prod.mk.injEq] at hz
      obtain ⟨rfl, rfl, rfl⟩ := hz
      obtain ⟨h1, h2, h3, h4, c0, c1, z0, z1, r0, r1, y0, y1⟩ := hft
      obtain ⟨tx, ty⟩ := t
      simp only at *
      have hlc : ¬ ((k : Int) < (L.length : Int)) := by omega
      have h1' := hide h1
      clear HI h1
      go_wp2_with fail
      exact bodyPost_ret (v := .tuple #[.agg #[.int .i64 tx, .int .i64 ty], .int .i64 0]) (by simp [results, Try.results15, go_sem, r0, r1, h2]) rfl ⟨rfl, by repeat (first | exact uq h1' | apply keep_ext | apply Keep.alloc | apply Keep.drew | (refine keep_set0 _ _ ?_))⟩
namespace Cr
/-- a call that sums up more -/
def SumK (F : Nat) : Prop := ∀ (v : Value) (L : List (Int × Int)) (w : World), Frs w v L → L.length ≤ 1000 → Calls Try.prog F #[v] w fun e w' => e = .returned (.tuple #[.agg #[.int .i64 (sS L).1, .int .i64 (sS L).2], .int .i64 (sZ L)]) ∧ Keep w w'
theorem rsumK : SumK 15 := by
  intro v L w hv hn
  obtain ⟨a, cap, rfl, h⟩ := hv
  rcases Nat.eq_zero_or_pos L.length with h0 | h0
  · obtain rfl : L = [] := List.eq_nil_of_length_eq_zero h0
    exact rsum_nil a cap w
  · obtain ⟨ad, rfl, hF⟩ := h h0
    exact rsum3_core ad L cap w hn hF _ _ _ (hide rfl) (hide fun t f h1 h2 h3 h4 w => rfadd_any t.1 t.2 f.1 f.2 w h1.1 h1.2 h2.1 h2.2 h3.1 h3.2 h4.1 h4.2)
theorem infoR : (Try.prog.info? 33).map (fun i => (i.zero, i.size, i.bytes)) = some (some (.slice none 0 0), 1, 24) := by kernel_rfl
/-- all ways, ring by ring -/
def ouW (LL : List (List Int)) : Nat → List (List Int)
  | 0 => []
  | i + 1 => ouW LL i ++ LL.map (fun r => (i : Int) :: r)
theorem ouW_len (LL : List (List Int)) : ∀ i, (ouW LL i).length = i * LL.length
  | 0 => by simp [ouW]
  | i + 1 => by rw [ouW, List.length_append, List.length_map, ouW_len LL i, Nat.succ_mul]
def wL (NG : Nat → Nat) : Nat → Nat → List (List Int)
  | 0, f => [[]]
  | m + 1, f => ouW (wL NG m (f + 1)) (NG f)
/-- rows of numbers that stand in a row -/
def Wr (w : World) (va : Option Addr) (LL : List (List Int)) : Prop := ∀ k, k < LL.length → ∃ ad u, va = some ad ∧ ad.block < w.heap.size ∧ w.cell? (ad.add k) = some u ∧ w.ownsRow 0 3 1 u (LL.getD k []).length (ics (LL.getD k []))
theorem Wr.keep {w w' : World} {va : Option Addr} {LL : List (List Int)} (h : Wr w va LL) (hk : Keep w w') : Wr w' va LL := fun k hlt => by
  obtain ⟨ad, u, e, hb, c, o⟩ := h k hlt
  exact ⟨ad, u, e, Nat.lt_of_lt_of_le hb hk.size, kcl hk c, own_k o hk⟩
def Wq (LL : List (List Int)) (w : World) (e : Ending) (w' : World) : Prop := ∃ va vc, e = .returned (.slice va LL.length vc) ∧ Keep w w' ∧ Wr w' va LL
/-- such rows, made by the call itself -/
def Og (B : Nat) (w : World) (v : Value) (LL : List (List Int)) : Prop := ∃ US : List Value, US.length = LL.length ∧ w.ownsRow B 33 1 v LL.length US ∧ ∀ j, j < LL.length → w.ownsRow 0 3 1 (US.getD j undef) (LL.getD j []).length (ics (LL.getD j []))
theorem Og.wr {B : Nat} {w : World} {va : Option Addr} {n c : Nat} {LL : List (List Int)} (h : Og B w (.slice va n c) LL) : Wr w va LL := by
  obtain ⟨US, hl, ho, hj⟩ := h
  intro k hk
  obtain ⟨a, cap, e, hc⟩ := own_cell ho
  injection e with e1 e2 e3
  subst e1
  obtain ⟨g, rfl, hg, _, _, hc⟩ := hc (by omega)
  refine ⟨_, US.getD k undef, rfl, hg, ?_, hj k hk⟩
  rw [add_pl, Nat.zero_add]
  exact hc k _ (by rw [List.getD_eq_getElem?_getD, List.getElem?_eq_getElem (by omega)]; rfl)
theorem Og.keep {B : Nat} {w w' : World} {v : Value} {LL : List (List Int)} (h : Og B w v LL) (hk : Keep w w') : Og B w' v LL := by
  obtain ⟨US, hl, ho, hj⟩ := h
  exact ⟨US, hl, own_k ho hk, fun j h => own_k (hj j h) hk⟩
theorem wpList_append_is {ops : Array Oper} {rest : List Oper} {o : Oper} {a : Act} {Q : Exit → Act → World → Prop} (w : World) (hgd : o.guard = none) (s x : Operand) (t : TypeId)
    (ho : o.op = .call { callee := .builtin .append, args := #[s, x], argTypes := #[t, t] })
    (base : Nat) (e : TypeId) (i : TypeInfo) (z : Value) (ht : Try.prog.underlying t = some (.slice e)) (hi : Try.prog.info? e = some i) (hz : i.zero = some z)
    (hsize : i.size = 1) (hby : i.bytes = 8) (hzs : z.cells.size = 1)
    (v : Value) (A : List Int) (hs : a.eval s = v) (hown : w.ownsRow base e 1 v A.length (ics A)) (xv : Value) (B : List Int) (hx : a.eval x = xv) (hr : Is w xv B) (hl : A.length + B.length ≤ 1000000) (hbase : base ≤ w.heap.size)
    (h : ∀ v' w', w'.ownsRow base e 1 v' (A ++ B).length (ics (A ++ B)) → w.grownBy w' v.ownBlock → wpList Try.prog ops Q rest (a.put o.dst v') w') : wpList Try.prog ops Q (o :: rest) a w :=
  wpList_plain hgd fun K hK => wp_append_is w s x t ho base e i z ht hi hz hsize hby hzs v A hs hown xv B hx hr hl hbase fun v' w' h2 h3 => hK _ _ (h v' w' h2 h3)
theorem one_row (w : World) (x : Int) (t : TypeId) : (w.alloc (.cells #[.int .i64 x] t)).ownsRow w.heap.size t 1 (.slice (some ⟨w.heap.size, 0, none⟩) 1 1) 1 (ics [x]) := ⟨rfl, .inr ⟨w.heap.size, 1, #[.int .i64 x], rfl, Nat.le_refl _, heap_alloc_new w _, Nat.le_refl _, by unfold maxLen; omega, rfl, rfl⟩⟩
set_option maxHeartbeats 2000000 in
theorem ways_base (s : ByteArray) (x1 : Option Addr) (n1 c1 : Nat) (x2 : Option Addr) (n2 c2 : Nat) (x3 : Option Addr) (n3 c3 : Nat) (x4 : Option Addr) (n4 c4 : Nat) (x5 : Option Addr) (n5 c5 : Nat) (p : Int) (f : Int) (w : World) (hf : (n4 : Int) ≤ f) : Calls Try.prog 13 #[.agg #[.string s, .slice x1 n1 c1, .slice x2 n2 c2, .slice x3 n3 c3, .slice x4 n4 c4, .slice x5 n5 c5, .int .i64 p], .int .i64 f] w (Wq [[]] w) := by
  have hnw0 := heap_alloc_new w (.cells #[.string s, .slice x1 n1 c1, .slice x2 n2 c2, .slice x3 n3 c3, .slice x4 n4 c4, .slice x5 n5 c5, .int .i64 p] 28)
  have K0 := hide ((Keep.refl w).alloc (.cells #[.string s, .slice x1 n1 c1, .slice x2 n2 c2, .slice x3 n3 c3, .slice x4 n4 c4, .slice x5 n5 c5, .int .i64 p] 28))
  go_enter Try.func13, Try.ntmps13
  go_upto_region 1 with fail
  generalize w.alloc (.cells #[.string s, .slice x1 n1 c1, .slice x2 n2 c2, .slice x3 n3 c3, .slice x4 n4 c4, .slice x5 n5 c5, .int .i64 p] 28) = w0 at hnw0 K0 ⊢
  obtain ⟨q0, HQ0⟩ : ∃ q, Hid (w.heap.size = q) := ⟨_, hide rfl⟩
  rw [uq HQ0] at hnw0 ⊢
  have HX0 : Hid (∀ w' : World, Keep w0 w' → w'.cell? ⟨q0, 0, none⟩ = some (.string s) ∧ w'.cell? ⟨q0, 1, none⟩ = some (.slice x1 n1 c1) ∧ w'.cell? ⟨q0, 2, none⟩ = some (.slice x2 n2 c2) ∧ w'.cell? ⟨q0, 3, none⟩ = some (.slice x3 n3 c3) ∧ w'.cell? ⟨q0, 4, none⟩ = some (.slice x4 n4 c4) ∧ w'.cell? ⟨q0, 5, none⟩ = some (.slice x5 n5 c5) ∧ w'.cell? ⟨q0, 6, none⟩ = some (.int .i64 p)) := hide (fun w' k9 => by
    have h1 := k9.block q0 (Array.getElem?_eq_some_iff.1 hnw0).1
    rw [hnw0] at h1
    refine ⟨?_, ?_, ?_, ?_, ?_, ?_, ?_⟩ <;> simp [World.cell?, h1])
  clear hnw0
  obtain ⟨z0, z1, z2, z3, z4, z5, z6⟩ := (uq HX0) w0 (Keep.refl _)
  have h1 := heap_alloc_new w0 (.cells #[] 3)
  have h2 := heap_alloc_new (w0.alloc (.cells #[] 3)) (.cells #[.slice (some ⟨w0.heap.size, 0, none⟩) 0 0] 33)
  have h3 : ((w0.alloc (.cells #[] 3)).alloc (.cells #[.slice (some ⟨w0.heap.size, 0, none⟩) 0 0] 33)).heap[w0.heap.size]? = some (.cells #[] 3 (0, 0)) := by rw [heap_alloc_old _ _ (by simp)]; exact h1
  rw [World.size_alloc] at h2
  have H2 := hide h2
  have H3 := hide h3
  have KE := hide (((Keep.refl w0).alloc (.cells #[] 3)).alloc (.cells #[.slice (some ⟨w0.heap.size, 0, none⟩) 0 0] 33))
  clear h1 h2 h3
  go_wp2_with fail
  go_ret
  refine ⟨_, _, rfl, (uq K0).trans (uq KE), fun k hk => ?_⟩
  obtain rfl : k = 0 := by simp at hk; omega
  refine ⟨_, .slice (some ⟨w0.heap.size, 0, none⟩) 0 0, rfl, (Array.getElem?_eq_some_iff.1 (uq H2)).1, ?_, rfl, .inr ⟨w0.heap.size, 0, #[], rfl, Nat.zero_le _, uq H3, Nat.le_refl _, by unfold maxLen; omega, rfl, rfl⟩⟩
  rw [add_pl, Nat.zero_add]
  simp only [World.cell?]
  rw [uq H2]
  rfl
set_option maxHeartbeats 8000000 in
theorem ways_step (s : ByteArray) (x1 : Option Addr) (n1 c1 : Nat) (x2 : Option Addr) (n2 c2 : Nat) (x3 : Option Addr) (n3 c3 : Nat) (x4 : Option Addr) (n4 c4 : Nat) (x5 : Option Addr) (n5 c5 : Nat) (p : Int) (f ng cg : Nat) (xg : Option Addr) (LL : List (List Int)) (w : World) (hf : f < n4) (hf5 : n4 ≤ 50) (hg : ng ≤ 2) (hl : LL.length ≤ 16)
    (HLL : Hid (∀ k, (LL.getD k []).length ≤ 100))
    (HG : Hid (∃ ad, x4 = some ad ∧ ad.block < w.heap.size ∧ w.cell? (ad.add f) = some (.slice xg ng cg)))
    (TW : Hid (∀ w', Keep w w' → Calls Try.prog 13 #[.agg #[.string s, .slice x1 n1 c1, .slice x2 n2 c2, .slice x3 n3 c3, .slice x4 n4 c4, .slice x5 n5 c5, .int .i64 p], .int .i64 ((f : Int) + 1)] w' (Wq LL w'))) :
    Calls Try.prog 13 #[.agg #[.string s, .slice x1 n1 c1, .slice x2 n2 c2, .slice x3 n3 c3, .slice x4 n4 c4, .slice x5 n5 c5, .int .i64 p], .int .i64 (f : Int)] w (Wq (ouW LL ng) w) := by
  obtain ⟨i0, hi0, hz00, hz01, hz02⟩ := info_f infoI
  obtain ⟨i1, hi1, hz10, hz11, hz12⟩ := info_f infoR
  have hnw0 := heap_alloc_new w (.cells #[.string s, .slice x1 n1 c1, .slice x2 n2 c2, .slice x3 n3 c3, .slice x4 n4 c4, .slice x5 n5 c5, .int .i64 p] 28)
  have K0 := hide ((Keep.refl w).alloc (.cells #[.string s, .slice x1 n1 c1, .slice x2 n2 c2, .slice x3 n3 c3, .slice x4 n4 c4, .slice x5 n5 c5, .int .i64 p] 28))
  go_enter Try.func13, Try.ntmps13
  go_upto_region 1 with fail
  generalize w.alloc (.cells #[.string s, .slice x1 n1 c1, .slice x2 n2 c2, .slice x3 n3 c3, .slice x4 n4 c4, .slice x5 n5 c5, .int .i64 p] 28) = w0 at hnw0 K0 ⊢
  obtain ⟨q0, HQ0⟩ : ∃ q, Hid (w.heap.size = q) := ⟨_, hide rfl⟩
  rw [uq HQ0] at hnw0 ⊢
  have HX0 : Hid (∀ w' : World, Keep w0 w' → w'.cell? ⟨q0, 0, none⟩ = some (.string s) ∧ w'.cell? ⟨q0, 1, none⟩ = some (.slice x1 n1 c1) ∧ w'.cell? ⟨q0, 2, none⟩ = some (.slice x2 n2 c2) ∧ w'.cell? ⟨q0, 3, none⟩ = some (.slice x3 n3 c3) ∧ w'.cell? ⟨q0, 4, none⟩ = some (.slice x4 n4 c4) ∧ w'.cell? ⟨q0, 5, none⟩ = some (.slice x5 n5 c5) ∧ w'.cell? ⟨q0, 6, none⟩ = some (.int .i64 p)) := hide (fun w' k9 => by
    have h1 := k9.block q0 (Array.getElem?_eq_some_iff.1 hnw0).1
    rw [hnw0] at h1
    refine ⟨?_, ?_, ?_, ?_, ?_, ?_, ?_⟩ <;> simp [World.cell?, h1])
  clear hnw0
  obtain ⟨ag, rfl, hbg, d0⟩ := uq HG
  have D0 : Hid (∀ w' : World, Keep w0 w' → w'.cell? (ag.add f) = some (.slice xg ng cg)) := hide (fun w' k9 => kcl ((uq K0).trans k9) d0)
  clear d0 HG
  obtain ⟨z0, z1, z2, z3, z4, z5, z6⟩ := (uq HX0) w0 (Keep.refl _)
  have lf : (f : Int) < (n4 : Int) := by omega
  have lf2 : ¬ (n4 : Int) ≤ (f : Int) := by omega
  go_wp2_with fail
  (refine ((uq TW) _ (uq K0)).mono ?_; rintro e w3 ⟨va, vc, rfl, hk9, hw9⟩; have K3 := hide hk9; have WR := hide hw9; clear hk9 hw9)
  clear z0 z1 z2 z3 z4 z5 z6
  obtain ⟨nl, hnl⟩ : ∃ n, LL.length = n := ⟨_, rfl⟩
  have HNL := hide hnl
  rw [hnl] at hl ⊢
  clear hnl
  go_wp2_with fail
  go_loopw [6, 7] (fun vo vi wr => ∃ i : Nat, i ≤ ng ∧ vi = .int .i64 (i : Int) ∧ Hid (Og w3.heap.size wr vo (ouW LL i)) ∧ Hid (Keep w3 wr)) (fun vo vi _ => ng - (intOf vi).toNat)
  case atStart => exact ⟨0, Nat.zero_le _, rfl, hide ⟨[], rfl, World.ownsRow_nil _ _ _ _, fun j h => by simp [ouW] at h⟩, hide (Keep.refl _)⟩
  case round =>
    obtain ⟨i, hi, rfl, OG, KW⟩ := hrel
    have K3W := hide ((uq K3).trans (uq KW))
    obtain ⟨z0, z1, z2, z3, z4, z5, z6⟩ := (uq HX0) wr (uq K3W)
    have x0 := (uq D0) wr (uq K3W)
    by_cases hlt : i < ng
    · have li : (i : Int) < (ng : Int) := by omega
      go_wp2_with fail
      clear x0 z0 z1 z2 z3 z4 z5 z6
      obtain ⟨wo, hwo⟩ : ∃ wo, wo = wr := ⟨_, rfl⟩
      subst hwo
      have OG0 := OG
      go_loopw [6, 8] (fun vo vk wr => ∃ k : Nat, k ≤ nl ∧ vk = .int .i64 (k : Int) ∧ Hid (Og w3.heap.size wr vo (ouW LL i ++ (LL.take k).map (fun r => (i : Int) :: r))) ∧ Hid (Keep w3 wr)) (fun vo vk _ => nl - (intOf vk).toNat)
      case atStart => exact ⟨0, Nat.zero_le _, rfl, hide (by simpa using uq OG0), KW⟩
      case round =>
        obtain ⟨k, hk, rfl, OGk, KWk⟩ := hrel
        obtain ⟨US, hus, hown, hrow⟩ := uq OGk
        obtain ⟨ao, co, rfl⟩ := own_l hown
        have hlen : (ouW LL i ++ (LL.take k).map (fun r => (i : Int) :: r)).length ≤ 32 := by
          rw [List.length_append, ouW_len, List.length_map, List.length_take]
          have h1 := uq HNL
          have : i * LL.length ≤ 1 * 16 := Nat.mul_le_mul (by omega) (by omega)
          omega
        have HO := hide hown
        have HU := hide hus
        have HRW := hide hrow
        clear hus hown hrow
        obtain ⟨no, hno⟩ : ∃ n, (ouW LL i ++ (LL.take k).map (fun r => (i : Int) :: r)).length = n := ⟨_, rfl⟩
        have HNO := hide hno
        rw [hno] at hlen HO ⊢
        clear hno
        have l100 : (no : Int) < 100 := by omega
        by_cases hkl : k < nl
        · have lk : (k : Int) < (nl : Int) := by omega
          obtain ⟨ad, u, rfl, hb, c0, hu⟩ := (uq WR) k (by have := uq HNL; omega)
          obtain ⟨ua, uc, rfl⟩ := own_l hu
          have y0 := kcl (uq KWk) c0
          have HIU := hide (is_own (own_k hu (uq KWk)))
          clear c0 hu
          have HR5 := (uq HLL) k
          have HST : Hid (ouW LL i ++ (LL.take (k + 1)).map (fun r => (i : Int) :: r) = (ouW LL i ++ (LL.take k).map (fun r => (i : Int) :: r)) ++ [(i : Int) :: LL.getD k []]) := hide (by
            rw [List.take_add_one, List.map_append, ← List.append_assoc, List.getD_eq_getElem?_getD, List.getElem?_eq_getElem (by have := uq HNL; omega)]
            simp)
          generalize LL.getD k [] = rk at y0 HIU HR5 HST
          have HONE := hide (one_row wr (i : Int) 3)
          have HIA := hide ((uq HIU).keep ((Keep.refl wr).alloc (.cells #[.int .i64 (i : Int)] 3)))
          have KAL := hide ((Keep.refl wr).alloc (.cells #[.int .i64 (i : Int)] 3))
          have y1 := kcl ((Keep.refl wr).alloc (.cells #[.int .i64 (i : Int)] 3)) y0
          go_wp2_with (first | (at_builtin; refine wpList_append_is _ rfl _ _ 33 rfl wr.heap.size 3 i0 _ Try.underlying33 hi0 hz00 hz01 hz02 rfl _ [(i : Int)] rfl (uq HONE) _ rk rfl (uq HIA) (by show 1 + rk.length ≤ 1000000; omega) (Below.size (uq KAL)) ?_; intro v5 w5 hown' hgrow; obtain ⟨a5, c5, rfl⟩ := own_l hown'; have HO5 := hide hown'; have K5 : Hid (Keep wr w5) := hide (Below.grown (uq KAL) hgrow (Below.size (uq KAL)) (fun j ej => ((uq HONE).lt j ej).1)); clear hown' hgrow; have HOo := hide (own_k (uq HO) (uq K5)); have hs5 := Below.size (uq K5)) | (at_builtin; refine wpList_append_own _ rfl _ _ 45 rfl w3.heap.size 33 i1 _ 1 24 Try.underlying45 hi1 hz10 hz11 hz12 rfl (by decide) _ _ _ rfl ((uq HOo).alloc _) ⟨w5.heap.size, 0, none⟩ 1 1 [.slice a5 ([(i : Int)] ++ rk).length c5] rfl rfl (new_v w5 [.slice a5 ([(i : Int)] ++ rk).length c5] _) (by simp [Value.oneCell']) (by unfold maxLen; omega) (by omega) (by have := Below.size (uq KWk); first | (simp; done) | (simp; omega)) ?_; intro v7 w7 hown' hgrow hnil; have HO7 := hide hown'; have HG7 := hide hgrow; clear hown' hgrow hnil))
          have HOoA := hide ((uq HOo).alloc (.cells #[.slice a5 ([(i : Int)] ++ rk).length c5] 33))
          have K7 : Hid (Keep w3 w7) := hide (Below.grown (((uq KWk).trans (uq K5)).alloc (.cells #[.slice a5 ([(i : Int)] ++ rk).length c5] 33)) (uq HG7) (by have := Below.size (uq KWk); simp; omega) (fun j ej => ((uq HOo).lt j ej).1))
          go_roundw
          case rel =>
            refine ⟨k + 1, hkl, by go_num, hide ?_, K7⟩
            rw [uq HST]
            have hno := uq HNO
            have e9 : ((ouW LL i ++ (LL.take k).map (fun r => (i : Int) :: r)) ++ [(i : Int) :: rk]).length = no + 1 := by have h := hno; simp only [List.length_append, List.length_cons, List.length_nil] at h ⊢; omega
            refine ⟨US ++ [.slice a5 ([(i : Int)] ++ rk).length c5], by rw [e9, ← hno]; have h := uq HU; simp only [List.length_append, List.length_cons, List.length_nil] at h ⊢; omega, by rw [e9]; exact uq HO7, fun j hj => ?_⟩
            rw [e9] at hj
            rcases Nat.lt_or_ge j no with h9 | h9
            · have e1 : (US ++ [Value.slice a5 ([(i : Int)] ++ rk).length c5]).getD j undef = US.getD j undef := by rw [List.getD_eq_getElem?_getD, List.getD_eq_getElem?_getD, List.getElem?_append_left (by rw [uq HU, hno]; exact h9)]
              have e2 : ((ouW LL i ++ (LL.take k).map (fun r => (i : Int) :: r)) ++ [(i : Int) :: rk]).getD j [] = (ouW LL i ++ (LL.take k).map (fun r => (i : Int) :: r)).getD j [] := by rw [List.getD_eq_getElem?_getD, List.getD_eq_getElem?_getD, List.getElem?_append_left (by rw [hno]; exact h9)]
              rw [e1, e2]
              exact own_g ((own_k ((uq HRW) j (by rw [hno]; exact h9)) (uq K5)).alloc _) (uq HOoA) (by decide) (uq HG7)
            · have hjn : j = no := by omega
              have e1 : (US ++ [Value.slice a5 ([(i : Int)] ++ rk).length c5]).getD j undef = Value.slice a5 ([(i : Int)] ++ rk).length c5 := by rw [List.getD_eq_getElem?_getD, List.getElem?_append_right (by rw [uq HU, hno]; omega), uq HU, hno, hjn]; simp
              have e2 : ((ouW LL i ++ (LL.take k).map (fun r => (i : Int) :: r)) ++ [(i : Int) :: rk]).getD j [] = [(i : Int)] ++ rk := by rw [List.getD_eq_getElem?_getD, List.getElem?_append_right (by rw [hno]; omega), hno, hjn]; simp
              rw [e1, e2]
              exact own_g (own_mono ((uq HO5).alloc _) (Nat.zero_le _)) (uq HOoA) (by decide) (uq HG7)
          case measure => simp [intOf]; omega
        · have lk : ¬ (k : Int) < (nl : Int) := by omega
          go_wp2_with fail
          go_roundw
          case rel => exact ⟨i + 1, hlt, by go_num, hide (by have h9 := uq OGk; rw [List.take_of_length_le (by have := uq HNL; omega)] at h9; rw [← uq HNO, List.take_of_length_le (by have := uq HNL; omega)]; exact h9), KWk⟩
          case measure => simp [intOf]; omega
    · have li : ¬ (i : Int) < (ng : Int) := by omega
      obtain rfl : i = ng := by omega
      obtain ⟨US, hus, hown, hrow⟩ := uq OG
      obtain ⟨ao, co, rfl⟩ := own_l hown
      go_wp2_with fail
      go_ret
      exact ⟨ao, co, rfl, (uq K0).trans (uq K3W), Og.wr (uq OG)⟩
end Cr
end Go.Proofs.Ytdgmndjofbdgeaa
