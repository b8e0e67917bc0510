/- Package paths: a round. -/
import Derived.Test.YtakandlehneciaaPaU
namespace Go.Proofs.Ytakandlehneciaa
open Go.RowKit
attribute [local go_sem ↓] Go.wp_at_zero Go.wp_at_succ
set_option linter.unusedVariables false
set_option linter.unusedSimpArgs false
set_option maxRecDepth 10000
namespace Pa
/-- edges by places -/
def nE (R : List E3) : List Ed := R.map fun e => (e.1.toNat, e.2.1.toNat, e.2.2)
def zE : Ed := (0, 0, 0)
theorem nE_len (R : List E3) : (nE R).length = R.length := by simp [nE]
theorem nE_app (A B : List E3) : nE (A ++ B) = nE A ++ nE B := by simp [nE]
/-- a graph: its edges -/
theorem isG_gr {n : Int} {R : List E3} (h : isG n R = true) : ∃ m : Nat, n = (m : Int) ∧ 1 ≤ m ∧ m ≤ 64 ∧ Gr m (nE R) ∧ (∀ e ∈ nE R, e.2.2 ≤ 6000) ∧ ∀ k, k < R.length → ∃ f t : Nat, ∃ l : Int, R.getD k z3 = ((f : Int), (t : Int), l) ∧ (nE R)[k]? = some (f, t, l) ∧ f < m ∧ t < m ∧ 0 ≤ l ∧ l ≤ 6000 := by
  unfold isG at h
  rw [Bool.and_eq_true, decide_eq_true_eq, List.all_eq_true] at h
  obtain ⟨⟨h1, h2⟩, h3⟩ := h
  obtain ⟨m, rfl⟩ : ∃ m : Nat, n = (m : Int) := ⟨n.toNat, by omega⟩
  have hr : ∀ e ∈ R, ∃ f t : Nat, ∃ l : Int, e = ((f : Int), (t : Int), l) ∧ f < m ∧ t < m ∧ 0 ≤ l ∧ l ≤ 6000 := fun e he => by
    have := h3 e he
    obtain ⟨x, y, l⟩ := e
    simp only [badE, Bool.not_eq_true', decide_eq_false_iff_not] at this
    exact ⟨x.toNat, y.toNat, l, by rw [show ((x.toNat : Nat) : Int) = x by omega, show ((y.toNat : Nat) : Int) = y by omega], by omega, by omega, by omega, by omega⟩
  refine ⟨m, rfl, by omega, by omega, ⟨by omega, fun e he => ?_⟩, fun e he => ?_, fun k hk => ?_⟩
  · obtain ⟨x, hx, rfl⟩ := List.mem_map.1 he
    obtain ⟨f, t, l, rfl, h4, h5, h6, h7⟩ := hr x hx
    exact ⟨by simpa using h4, by simpa using h5, h6⟩
  · obtain ⟨x, hx, rfl⟩ := List.mem_map.1 he
    obtain ⟨f, t, l, rfl, h4, h5, h6, h7⟩ := hr x hx
    exact h7
  · obtain ⟨f, t, l, h4, h5, h6, h7, h8⟩ := hr R[k] (List.getElem_mem hk)
    refine ⟨f, t, l, ?_, ?_, h5, h6, h7, h8⟩
    · rw [List.getD_eq_getElem?_getD, List.getElem?_eq_getElem hk]; exact h4
    · rw [nE, List.getElem?_map, List.getElem?_eq_getElem hk, Option.map_some, h4]; simp
theorem take_more {α : Type} {E : List α} {k : Nat} {x : α} (h : E[k]? = some x) : E.take (k + 1) = E.take k ++ [x] := by
  rw [List.take_add_one, h]; rfl
theorem g_at {d : List Int} {p : Nat} (h : p < d.length) : d.getD p 0 = g d p := by
  unfold g
  rw [List.getD_eq_getElem?_getD, List.getD_eq_getElem?_getD, List.getElem?_eq_getElem h]; rfl
theorem sp_bd {now : Nat} {x : List Int × Nat} {e : Ed} {B : Int} (hB : ∀ p, g x.1 p ≤ B) (hl : e.2.2 ≤ 6000) (ht : e.2.1 < x.1.length) : ∀ p, g (sp now x e).1 p ≤ B + 6000 := fun p => by
  have h1 := hB p; have h2 := hB e.1
  unfold sp
  cases gp now x.1 e with
  | false => simp only [cond_false]; omega
  | true => simp only [cond_true, g_set ht]; split <;> omega
theorem sp_len {now : Nat} {x : List Int × Nat} {e : Ed} : (sp now x e).1.length = x.1.length := by
  unfold sp; cases gp now x.1 e <;> simp
theorem rp_len (now : Nat) : ∀ (E : List Ed) (x : List Int × Nat), (rp now E x).1.length = x.1.length
  | [], x => rfl
  | e :: E, x => by rw [rp, rp_len now E, sp_len]
theorem rp_bd {now n : Nat} : ∀ (E : List Ed) (x : List Int × Nat) (B : Int), x.1.length = n → (∀ e ∈ E, e.2.2 ≤ 6000 ∧ e.2.1 < n) → (∀ p, g x.1 p ≤ B) → ∀ p, g (rp now E x).1 p ≤ B + 6000 * (E.length : Int)
  | [], x, B, hx, _, h, p => by simp only [rp, List.length_nil]; have := h p; omega
  | e :: E, x, B, hx, hE, h, p => by
    rw [rp]
    have h1 := hE e (by simp)
    have := rp_bd (now := now) E _ (B + 6000) (by rw [sp_len]; exact hx) (fun y hy => hE y (by simp [hy])) (sp_bd (now := now) h h1.1 (by omega)) p
    simp only [List.length_cons]; omega
/-- the search: its set, its numbers -/
def Sb (w : World) (b q n x : Nat) : Prop := w.heap[b]? = some (.cells #[.int .u64 (x : Int), .slice (some ⟨q, 0, none⟩) n n] 95 (0, 0))
theorem Sb.lt {w : World} {b q n x : Nat} (h : Sb w b q n x) : b < w.heap.size := (Array.getElem?_eq_some_iff.1 h).1
theorem Sb.keep {w w' : World} {b q n x : Nat} (h : Sb w b q n x) (k : Keep w w') : Sb w' b q n x := (k.block b h.lt).trans h
theorem Sb.c0 {w : World} {b q n x : Nat} (h : Sb w b q n x) : w.cell? ⟨b, 0, none⟩ = some (.int .u64 (x : Int)) := by
  unfold Sb at h; simp [World.cell?, h]
theorem Sb.c1 {w : World} {b q n x : Nat} (h : Sb w b q n x) : w.cell? ⟨b, 1, none⟩ = some (.slice (some ⟨q, 0, none⟩) n n) := by
  unfold Sb at h; simp [World.cell?, h]
theorem Sb.fz {w : World} {b q n x : Nat} (h : Sb w b q n x) (i : Nat) : w.frozen? ⟨b, i, none⟩ = false := by
  unfold Sb at h; simp [World.frozen?, h]
theorem Sb.set {w : World} {b q n x : Nat} (h : Sb w b q n x) (y : Nat) : Sb (w.setCell ⟨b, 0, none⟩ (.int .u64 (y : Int))) b q n y := by
  unfold Sb
  rw [heap_setCell_same w b 0 _ _ _ h]; rfl
theorem Sb.other {w : World} {b q n x g i : Nat} {v : Value} (h : Sb w b q n x) (hb : b ≠ g) : Sb (w.setCell ⟨g, i, none⟩ v) b q n x := by
  unfold Sb
  rw [heap_setCell_other w _ b v hb]
  exact h
theorem keep_st {a w : World} {b i : Nat} (h : Keep a w) (hb : a.heap.size ≤ b) (v : Value) : Keep a (w.setCell ⟨b, i, none⟩ v) := Below.setCell h hb v
/-- a box with an edge -/
def Eb (w : World) (c : Nat) (f t : Nat) (l : Int) : Prop := w.cell? ⟨c, 0, none⟩ = some (.int .i64 (f : Int)) ∧ w.cell? ⟨c, 1, none⟩ = some (.int .i64 (t : Int)) ∧ w.cell? ⟨c, 2, none⟩ = some (.int .i64 l)
theorem Eb.keep {w w' : World} {c f t : Nat} {l : Int} (h : Eb w c f t l) (hk : Keep w w') : Eb w' c f t l := ⟨kc hk h.1, kc hk h.2.1, kc hk h.2.2⟩
theorem cell_other {w : World} {c g i j : Nat} {u v : Value} (h : w.cell? ⟨c, j, none⟩ = some u) (hc : c ≠ g) : (w.setCell ⟨g, i, none⟩ v).cell? ⟨c, j, none⟩ = some u := by
  have e := heap_setCell_other w ⟨g, i, none⟩ c v hc
  rw [← h]
  simp only [World.cell?, e]
theorem Eb.other {w : World} {c f t g i : Nat} {l : Int} {v : Value} (h : Eb w c f t l) (hc : c ≠ g) : Eb (w.setCell ⟨g, i, none⟩ v) c f t l := ⟨cell_other h.1 hc, cell_other h.2.1 hc, cell_other h.2.2 hc⟩
theorem gp_or (now : Nat) (d : List Int) (f t : Nat) (l : Int) : (bt now f = false ∧ gp now d (f, t, l) = false) ∨ (bt now f = true ∧ ¬ g d t < g d f + l ∧ gp now d (f, t, l) = false) ∨ (bt now f = true ∧ g d t < g d f + l ∧ gp now d (f, t, l) = true) := by
  unfold gp
  cases bt now f
  · simp
  · by_cases h : g d t < g d f + l <;> simp [h]
theorem sp_no {now : Nat} {x : List Int × Nat} {e : Ed} (h : gp now x.1 e = false) : sp now x e = x := by unfold sp; rw [h]; rfl
theorem sp_yes {now : Nat} {x : List Int × Nat} {e : Ed} (h : gp now x.1 e = true) : sp now x e = (x.1.set e.2.1 (g x.1 e.1 + e.2.2), x.2 ||| 2 ^ e.2.1) := by unfold sp; rw [h]; rfl
set_option maxHeartbeats 4000000 in
theorem round_any (v : Value) (R : List E3) (n : Nat) (b q now : Nat) (d : List Int) (B : Int) (w0 w : World) (hR : Es w0 v R) (hl : R.length ≤ 1000) (hG : isG (n : Int) R = true) (hK : Keep w0 w) (hb : w0.heap.size ≤ b) (hq : w0.heap.size ≤ q) (hbq : b ≠ q) (hS : Sb w b q n now) (hD : Rw 2 w q d) (hI : Iv n (nE R) (d, now)) (hB : ∀ p, g d p ≤ B) (hB1 : B ≤ 1000000000000) :
    Calls Try.prog 56 #[.pointer (some ⟨b, 0, none⟩), v] w fun e w' => (∃ u, e = .returned u) ∧ Keep w0 w' ∧ Sb w' b q n (rd9 (nE R) (d, now)).2 ∧ Rw 2 w' q (rd9 (nE R) (d, now)).1 := by
  obtain ⟨n', hn', hn1, hn2, hg, h6, hat⟩ := isG_gr hG
  obtain rfl : n = n' := by omega
  obtain ⟨a, cap, rfl, hR⟩ := hR
  have HC := hide hR
  clear hR
  obtain ⟨m, hm⟩ : ∃ m, R.length = m := ⟨_, rfl⟩
  have HM := hide hm
  rw [hm] at hl HC hat ⊢
  clear hm
  obtain ⟨X, hX⟩ : ∃ X : Nat → List Int × Nat, ∀ k, X k = rp now ((nE R).take k) (d, 0) := ⟨_, fun k => rfl⟩
  have HX0 : Hid (X 0 = (d, 0)) := hide (hX 0)
  have HXm : Hid (X m = rd9 (nE R) (d, now)) := hide (by rw [hX, rd9, List.take_of_length_le (by rw [nE_len, unhide HM]; exact Nat.le_refl _)])
  have h0 : In9 n (nE R) now d (d, 0) := ⟨hI.nn, fun p => Int.le_refl _, hI.att, fun p hp => by simp [bt] at hp, fun p _ => rfl, (by show (0 : Nat) < 18446744073709551616; decide)⟩
  have HI : Hid (∀ k, In9 n (nE R) now d (X k)) := hide (fun k => by rw [hX]; exact (rp_in hn2 hg hI.re _ _ (fun e he => List.mem_of_mem_take he) h0).1)
  have HBd : Hid (∀ k p, g (X k).1 p ≤ 1000000000000 + 6000 * (k : Int)) := hide (fun k p => by
    rw [hX]
    have h1 := rp_bd (now := now) ((nE R).take k) (d, 0) B hI.nn.1 (fun e he => ⟨h6 e (List.mem_of_mem_take he), (hg.2 e (List.mem_of_mem_take he)).2.1⟩) hB p
    have h2 : ((nE R).take k).length ≤ k := List.length_take_le _ _
    omega)
  have HA : Hid (∀ k, k < m → ∃ f t : Nat, ∃ l : Int, R.getD k z3 = ((f : Int), (t : Int), l) ∧ f < n ∧ t < n ∧ 0 ≤ l ∧ l ≤ 6000 ∧ X (k + 1) = sp now (X k) (f, t, l)) := hide (fun k hk => by
    obtain ⟨f, t, l, h1, h2, h3, h4, h5, h6⟩ := hat k hk
    exact ⟨f, t, l, h1, h3, h4, h5, h6, by rw [hX, hX, take_more h2, rp_app]; rfl⟩)
  have h64 := hI.s64
  clear hX h0 hat h6 hg hI hB hB1 hG hn1
  rw [← unhide HXm]
  have HK := hide hK
  have HS := hide hS
  have HD : Hid (Rw 2 w q (X 0).1) := hide (by rw [unhide HX0]; exact hD)
  have Hb := hide hb
  have Hq := hide hq
  have Hn := hide hbq
  have T0 := hide (takeAll_any b 0 now w hS.c0 (hS.fz 0))
  have S1 : Hid (Sb (w.setCell ⟨b, 0, none⟩ (.int .u64 0)) b q n (X 0).2) := hide (by rw [unhide HX0]; exact hS.set 0)
  have K1 : Hid (Keep w0 (w.setCell ⟨b, 0, none⟩ (.int .u64 0))) := hide (Below.setCell hK hb _)
  have D1 : Hid (Rw 2 (w.setCell ⟨b, 0, none⟩ (.int .u64 0)) q (X 0).1) := hide ((unhide HD).other (fun e => hbq e.symm))
  clear hK hS hD hb hq hbq HXm HX0 HS HD
  simp only at h64
  go_enter Try.func56, Try.ntmps56
  go_wp2_with fail
  (refine (unhide T0).mono ?_; rintro e w1 ⟨rfl, rfl⟩; clear T0)
  generalize w.setCell ⟨b, 0, none⟩ (.int .u64 0) = w1 at S1 K1 D1 ⊢
  go_wp2_with fail
  go_loopw [14] (fun vi wr => ∃ k : Nat, vi = .int .i64 (k : Int) ∧ k ≤ m ∧ Hid (Keep w0 wr) ∧ Hid (Sb wr b q n (X k).2) ∧ Hid (Rw 2 wr q (X k).1)) (fun vi _ => m - (intOf vi).toNat)
  case atStart => exact ⟨0, rfl, Nat.zero_le _, K1, S1, D1⟩
  case round =>
    clear K1 S1 D1
    obtain ⟨k, rfl, hk, KW, SW, DW⟩ := hrel
    by_cases hlt : k < m
    · have li : (k : Int) < (m : Int) := by omega
      obtain ⟨ad, rfl, hc3⟩ := (unhide HC) k hlt
      obtain ⟨f, t, l, hr, hf, ht, hl0, hl6, hxk⟩ := (unhide HA) k hlt
      rw [hr] at hc3
      obtain ⟨x0, x1, x2⟩ := hc3.keep (unhide KW)
      simp only at x0 x1 x2
      have hi := (unhide HI) k
      have hlen := hi.nn.1
      have h264 := hi.s64
      have hyl := hi.nn.2 f
      have hyu := (unhide HBd) k f
      have HXk := hide hxk
      have HO := gp_or now (X k).1 f t l
      have HN := hide (fun h : gp now (X k).1 (f, t, l) = false => (sp_no (x := X k) h))
      have HY := hide (fun h : gp now (X k).1 (f, t, l) = true => (sp_yes (x := X k) h))
      clear hxk hi hc3 hr
      have cf : Hid (wr.cell? ⟨q, f, none⟩ = some (.int .i64 (g (X k).1 f))) := hide (by rw [← g_at (by omega)]; exact (unhide DW).cell (by omega))
      have ct : Hid (wr.cell? ⟨q, t, none⟩ = some (.int .i64 (g (X k).1 t))) := hide (by rw [← g_at (by omega)]; exact (unhide DW).cell (by omega))
      have HL := hide hlen
      clear hlen
      generalize gp now (X k).1 (f, t, l) = Gp at HO HN HY
      obtain ⟨y, hy⟩ : ∃ y, g (X k).1 f = y := ⟨_, rfl⟩
      obtain ⟨z, hz⟩ : ∃ z, g (X k).1 t = z := ⟨_, rfl⟩
      rw [hy] at cf hyl hyu HO HY
      rw [hz] at ct HO
      clear hy hz
      have hw : IntKind.i64.wrap (y + l) = y + l := by rw [IntKind.wrap_i64]; omega
      have fi : (f : Int) < (n : Int) := by omega
      have ti : (t : Int) < (n : Int) := by omega
      have fz : (0 : Int) ≤ (f : Int) := by omega
      have tz : (0 : Int) ≤ (t : Int) := by omega
      have TH := hide (fun w => has_any now f w h64 (by omega))
      have lb := hide (unhide SW).lt
      have lq := hide (unhide DW).lt
      have E1 : Hid (Eb (wr.alloc (.cells #[.int .i64 (f : Int), .int .i64 (t : Int), .int .i64 l] 82)) wr.heap.size f t l) := hide ⟨by simp [go_sem], by simp [go_sem], by simp [go_sem]⟩
      have KA := hide ((Keep.refl wr).alloc (.cells #[.int .i64 (f : Int), .int .i64 (t : Int), .int .i64 l] 82))
      go_upto_region 4 with fail
      generalize wr.alloc (.cells #[.int .i64 (f : Int), .int .i64 (t : Int), .int .i64 l] 82) = w1 at E1 KA ⊢
      obtain ⟨c, hc⟩ : ∃ c, wr.heap.size = c := ⟨_, rfl⟩
      rw [hc] at E1 lb lq ⊢
      clear hc
      have K1 := hide ((unhide KW).trans (unhide KA))
      have S1 := hide ((unhide SW).keep (unhide KA))
      have D1 := hide ((unhide DW).keep (unhide KA))
      have CK : Hid (∀ w', Keep w1 w' → w'.cell? ⟨b, 1, none⟩ = some (.slice (some ⟨q, 0, none⟩) n n) ∧ w'.cell? ⟨c, 0, none⟩ = some (.int .i64 (f : Int)) ∧ w'.cell? ⟨c, 1, none⟩ = some (.int .i64 (t : Int)) ∧ w'.cell? ⟨c, 2, none⟩ = some (.int .i64 l) ∧ w'.cell? ⟨q, f, none⟩ = some (.int .i64 y) ∧ w'.cell? ⟨q, t, none⟩ = some (.int .i64 z)) := hide (fun w' hk => ⟨kc hk (unhide S1).c1, kc hk (unhide E1).1, kc hk (unhide E1).2.1, kc hk (unhide E1).2.2, kc hk (kc (unhide KA) (unhide cf)), kc hk (kc (unhide KA) (unhide ct))⟩)
      clear cf ct
      refine wp_region_held_drew (S := (fun w' => w'.cell? ⟨b, 1, none⟩ = some (.slice (some ⟨q, 0, none⟩) n n) ∧ w'.cell? ⟨c, 0, none⟩ = some (.int .i64 (f : Int)) ∧ w'.cell? ⟨c, 1, none⟩ = some (.int .i64 (t : Int)) ∧ w'.cell? ⟨c, 2, none⟩ = some (.int .i64 l) ∧ w'.cell? ⟨q, f, none⟩ = some (.int .i64 y) ∧ w'.cell? ⟨q, t, none⟩ = some (.int .i64 z))) (by kernel_rfl) (by exact unhide CK _ (by repeat (first | apply Keep.drew | exact Keep.refl _))) (fun hHeld => ?_)
      refine wpAnyH_take (i := 0) (v := ?_) rfl (by kernel_rfl) (by kernel_rfl) (by kernel_rfl) (fun _ _ _ h => h) (Or.inl ⟨by rfl, ?_⟩) hHeld ?_
      rotate_left
      · intro w hSw
        try dsimp only at hSw
        go_simp
        try with_reducible rfl
      show wpAnyH _ _ _ _ _ _ _ (Act.put _ (some 18) _) _
      try simp only [Act.put, List.setIfInBounds_toArray, List.set_cons_zero, List.set_cons_succ]
      refine wpAnyH_take (i := 1) (v := ?_) rfl (by kernel_rfl) (by kernel_rfl) (by kernel_rfl) (fun _ _ _ h => h) (Or.inl ⟨by rfl, ?_⟩) hHeld ?_
      rotate_left
      · intro w hSw
        try dsimp only at hSw
        go_simp
        try with_reducible rfl
      show wpAnyH _ _ _ _ _ _ _ (Act.put _ (some 19) _) _
      try simp only [Act.put, List.setIfInBounds_toArray, List.set_cons_zero, List.set_cons_succ]
      refine wpAnyH_take (i := 2) (v := ?_) rfl (by kernel_rfl) (by kernel_rfl) (by kernel_rfl) (fun _ _ _ h => h) (Or.inl ⟨by rfl, ?_⟩) hHeld ?_
      rotate_left
      · intro w hSw
        try dsimp only at hSw
        go_simp
        try with_reducible rfl
      show wpAnyH _ _ _ _ _ _ _ (Act.put _ (some 20) _) _
      try simp only [Act.put, List.setIfInBounds_toArray, List.set_cons_zero, List.set_cons_succ]
      refine wpAnyH_take (i := 3) (v := ?_) rfl (by kernel_rfl) (by kernel_rfl) (by kernel_rfl) (fun _ _ _ h => h) (Or.inl ⟨by rfl, ?_⟩) hHeld ?_
      rotate_left
      · intro w hSw
        try dsimp only at hSw
        go_simp
        try with_reducible rfl
      show wpAnyH _ _ _ _ _ _ _ (Act.put _ (some 21) _) _
      try simp only [Act.put, List.setIfInBounds_toArray, List.set_cons_zero, List.set_cons_succ]
      refine wpAnyH_take (i := 4) (v := ?_) rfl (by kernel_rfl) (by kernel_rfl) (by kernel_rfl) (fun _ _ _ h => h) (Or.inl ⟨by rfl, ?_⟩) hHeld ?_
      rotate_left
      · intro w hSw
        try dsimp only at hSw
        go_simp
        try with_reducible rfl
      show wpAnyH _ _ _ _ _ _ _ (Act.put _ (some 22) _) _
      try simp only [Act.put, List.setIfInBounds_toArray, List.set_cons_zero, List.set_cons_succ]
      refine wpAnyH_take (i := 5) (v := ?_) rfl (by kernel_rfl) (by kernel_rfl) (by kernel_rfl) (fun _ _ _ h => h) (Or.inl ⟨by rfl, ?_⟩) hHeld ?_
      rotate_left
      · intro w hSw
        try dsimp only at hSw
        go_simp
        try with_reducible rfl
      show wpAnyH _ _ _ _ _ _ _ (Act.put _ (some 23) _) _
      try simp only [Act.put, List.setIfInBounds_toArray, List.set_cons_zero, List.set_cons_succ]
      refine wpAnyH_take (i := 6) (v := ?_) rfl (by kernel_rfl) (by kernel_rfl) (by kernel_rfl) (fun _ _ _ h => h) (Or.inl ⟨by rfl, ?_⟩) hHeld ?_
      rotate_left
      · intro w hSw
        try dsimp only at hSw
        go_simp
        try with_reducible rfl
      show wpAnyH _ _ _ _ _ _ _ (Act.put _ (some 24) _) _
      try simp only [Act.put, List.setIfInBounds_toArray, List.set_cons_zero, List.set_cons_succ]
      refine wpAnyH_take (i := 7) (v := ?_) rfl (by kernel_rfl) (by kernel_rfl) (by kernel_rfl) (fun _ _ _ h => h) (Or.inl ⟨by rfl, ?_⟩) hHeld ?_
      rotate_left
      · intro w hSw
        try dsimp only at hSw
        go_simp
        try with_reducible rfl
      show wpAnyH _ _ _ _ _ _ _ (Act.put _ (some 25) _) _
      try simp only [Act.put, List.setIfInBounds_toArray, List.set_cons_zero, List.set_cons_succ]
      refine wpAnyH_take (i := 8) (v := ?_) rfl (by kernel_rfl) (by kernel_rfl) (by kernel_rfl) (fun _ _ _ h => h) (Or.inl ⟨by rfl, ?_⟩) hHeld ?_
      rotate_left
      · intro w hSw
        try dsimp only at hSw
        go_simp
        try with_reducible rfl
      show wpAnyH _ _ _ _ _ _ _ (Act.put _ (some 26) _) _
      try simp only [Act.put, List.setIfInBounds_toArray, List.set_cons_zero, List.set_cons_succ]
      refine wpAnyH_take (i := 9) (v := ?_) rfl (by kernel_rfl) (by kernel_rfl) (by kernel_rfl) (fun _ _ _ h => h) (Or.inl ⟨by rfl, ?_⟩) hHeld ?_
      rotate_left
      · intro w hSw
        try dsimp only at hSw
        go_simp
        try with_reducible rfl
      show wpAnyH _ _ _ _ _ _ _ (Act.put _ (some 27) _) _
      try simp only [Act.put, List.setIfInBounds_toArray, List.set_cons_zero, List.set_cons_succ]
      refine wpAnyH_take (i := 10) (v := ?_) rfl (by kernel_rfl) (by kernel_rfl) (by kernel_rfl) (fun _ _ _ h => h) (Or.inl ⟨by rfl, ?_⟩) hHeld ?_
      rotate_left
      · intro w hSw
        try dsimp only at hSw
        go_simp
        try with_reducible rfl
      show wpAnyH _ _ _ _ _ _ _ (Act.put _ (some 28) _) _
      try simp only [Act.put, List.setIfInBounds_toArray, List.set_cons_zero, List.set_cons_succ]
      refine wpAnyH_take (i := 11) (v := ?_) rfl (by kernel_rfl) (by kernel_rfl) (by kernel_rfl) (fun _ _ _ h => h) (Or.inl ⟨by rfl, ?_⟩) hHeld ?_
      rotate_left
      · intro w hSw
        try dsimp only at hSw
        go_simp
        try with_reducible rfl
      show wpAnyH _ _ _ _ _ _ _ (Act.put _ (some 7) _) _
      try simp only [Act.put, List.setIfInBounds_toArray, List.set_cons_zero, List.set_cons_succ]
      refine wpAnyH_done (by kernel_rfl) ?_ _
      clear hHeld
      generalize bt now f = Bf at HO TH
      rcases HO with ⟨rfl, rfl⟩ | ⟨rfl, hcmp, rfl⟩ | ⟨rfl, hcmp, rfl⟩
      · have HXn := hide ((unhide HXk).trans ((unhide HN) rfl))
        clear HN HY
        go_upto_region 5 with fail
        refine wp_region_held_drew (S := (fun w' => w'.cell? ⟨b, 1, none⟩ = some (.slice (some ⟨q, 0, none⟩) n n) ∧ w'.cell? ⟨c, 0, none⟩ = some (.int .i64 (f : Int)) ∧ w'.cell? ⟨c, 1, none⟩ = some (.int .i64 (t : Int)) ∧ w'.cell? ⟨c, 2, none⟩ = some (.int .i64 l) ∧ w'.cell? ⟨q, f, none⟩ = some (.int .i64 y) ∧ w'.cell? ⟨q, t, none⟩ = some (.int .i64 z))) (by kernel_rfl) (by exact unhide CK _ (by repeat (first | apply Keep.drew | exact Keep.refl _))) (fun hHeld => ?_)
        refine wpAnyH_take (i := 0) (v := ?_) rfl (by kernel_rfl) (by kernel_rfl) (by kernel_rfl) (fun _ _ _ h => h) (Or.inl ⟨by rfl, ?_⟩) hHeld ?_
        rotate_left
        · intro w hSw
          try dsimp only at hSw
          go_simp
          try with_reducible rfl
        show wpAnyH _ _ _ _ _ _ _ (Act.put _ (some 29) _) _
        try simp only [Act.put, List.setIfInBounds_toArray, List.set_cons_zero, List.set_cons_succ]
        refine wpAnyH_take (i := 1) (v := ?_) rfl (by kernel_rfl) (by kernel_rfl) (by kernel_rfl) (fun _ _ _ h => h) (Or.inl ⟨by rfl, ?_⟩) hHeld ?_
        rotate_left
        · intro w hSw
          try dsimp only at hSw
          go_simp
          try with_reducible rfl
        show wpAnyH _ _ _ _ _ _ _ (Act.put _ (some 30) _) _
        try simp only [Act.put, List.setIfInBounds_toArray, List.set_cons_zero, List.set_cons_succ]
        refine wpAnyH_take (i := 2) (v := ?_) rfl (by kernel_rfl) (by kernel_rfl) (by kernel_rfl) (fun _ _ _ h => h) (Or.inl ⟨by rfl, ?_⟩) hHeld ?_
        rotate_left
        · intro w hSw
          try dsimp only at hSw
          go_simp
          try with_reducible rfl
        show wpAnyH _ _ _ _ _ _ _ (Act.put _ (some 31) _) _
        try simp only [Act.put, List.setIfInBounds_toArray, List.set_cons_zero, List.set_cons_succ]
        refine wpAnyH_ready (rs := [3]) (by kernel_rfl) (by simp) ?_
        refine AllReadyH.cons rfl (fun K hK => ?_) AllReadyH.nil
        go_simp
        clear hHeld
        (refine ((unhide TH) _).mono ?_; rintro e w9 ⟨rfl, rfl⟩)
        try go_wp2_with fail
        refine hK.out _ _ ?_ (fun hHeld => ?_)
        · exact unhide CK _ (by repeat (first | apply Keep.drew | exact Keep.refl _))
        clear hK K
        try simp only [Act.put, List.setIfInBounds_toArray, List.set_cons_zero, List.set_cons_succ]
        refine wpAnyH_take (i := 4) (v := ?_) rfl (by kernel_rfl) (by kernel_rfl) (by kernel_rfl) (fun _ _ _ h => h) (Or.inl ⟨by rfl, ?_⟩) hHeld ?_
        rotate_left
        · intro w hSw
          try dsimp only at hSw
          go_simp
          try with_reducible rfl
        show wpAnyH _ _ _ _ _ _ _ (Act.put _ (some 33) _) _
        try simp only [Act.put, List.setIfInBounds_toArray, List.set_cons_zero, List.set_cons_succ]
        refine wpAnyH_take (i := 5) (v := undef) rfl (by kernel_rfl) (by kernel_rfl) (by kernel_rfl) (fun _ _ _ h => h) (Or.inr ⟨by rfl, rfl⟩) hHeld ?_
        show wpAnyH _ _ _ _ _ _ _ (Act.put _ (some 34) _) _
        try simp only [Act.put, List.setIfInBounds_toArray, List.set_cons_zero, List.set_cons_succ]
        refine wpAnyH_take (i := 6) (v := undef) rfl (by kernel_rfl) (by kernel_rfl) (by kernel_rfl) (fun _ _ _ h => h) (Or.inr ⟨by rfl, rfl⟩) hHeld ?_
        show wpAnyH _ _ _ _ _ _ _ (Act.put _ (some 35) _) _
        try simp only [Act.put, List.setIfInBounds_toArray, List.set_cons_zero, List.set_cons_succ]
        refine wpAnyH_take (i := 7) (v := undef) rfl (by kernel_rfl) (by kernel_rfl) (by kernel_rfl) (fun _ _ _ h => h) (Or.inr ⟨by rfl, rfl⟩) hHeld ?_
        show wpAnyH _ _ _ _ _ _ _ (Act.put _ (some 36) _) _
        try simp only [Act.put, List.setIfInBounds_toArray, List.set_cons_zero, List.set_cons_succ]
        refine wpAnyH_take (i := 8) (v := undef) rfl (by kernel_rfl) (by kernel_rfl) (by kernel_rfl) (fun _ _ _ h => h) (Or.inr ⟨by rfl, rfl⟩) hHeld ?_
        show wpAnyH _ _ _ _ _ _ _ (Act.put _ (some 37) _) _
        try simp only [Act.put, List.setIfInBounds_toArray, List.set_cons_zero, List.set_cons_succ]
        refine wpAnyH_take (i := 9) (v := undef) rfl (by kernel_rfl) (by kernel_rfl) (by kernel_rfl) (fun _ _ _ h => h) (Or.inr ⟨by rfl, rfl⟩) hHeld ?_
        show wpAnyH _ _ _ _ _ _ _ (Act.put _ (some 38) _) _
        try simp only [Act.put, List.setIfInBounds_toArray, List.set_cons_zero, List.set_cons_succ]
        refine wpAnyH_take (i := 10) (v := undef) rfl (by kernel_rfl) (by kernel_rfl) (by kernel_rfl) (fun _ _ _ h => h) (Or.inr ⟨by rfl, rfl⟩) hHeld ?_
        show wpAnyH _ _ _ _ _ _ _ (Act.put _ (some 39) _) _
        try simp only [Act.put, List.setIfInBounds_toArray, List.set_cons_zero, List.set_cons_succ]
        refine wpAnyH_take (i := 11) (v := undef) rfl (by kernel_rfl) (by kernel_rfl) (by kernel_rfl) (fun _ _ _ h => h) (Or.inr ⟨by rfl, rfl⟩) hHeld ?_
        show wpAnyH _ _ _ _ _ _ _ (Act.put _ (some 40) _) _
        try simp only [Act.put, List.setIfInBounds_toArray, List.set_cons_zero, List.set_cons_succ]
        refine wpAnyH_take (i := 12) (v := undef) rfl (by kernel_rfl) (by kernel_rfl) (by kernel_rfl) (fun _ _ _ h => h) (Or.inr ⟨by rfl, rfl⟩) hHeld ?_
        show wpAnyH _ _ _ _ _ _ _ (Act.put _ (some 41) _) _
        try simp only [Act.put, List.setIfInBounds_toArray, List.set_cons_zero, List.set_cons_succ]
        refine wpAnyH_take (i := 13) (v := undef) rfl (by kernel_rfl) (by kernel_rfl) (by kernel_rfl) (fun _ _ _ h => h) (Or.inr ⟨by rfl, rfl⟩) hHeld ?_
        show wpAnyH _ _ _ _ _ _ _ (Act.put _ (some 42) _) _
        try simp only [Act.put, List.setIfInBounds_toArray, List.set_cons_zero, List.set_cons_succ]
        refine wpAnyH_take (i := 14) (v := undef) rfl (by kernel_rfl) (by kernel_rfl) (by kernel_rfl) (fun _ _ _ h => h) (Or.inr ⟨by rfl, rfl⟩) hHeld ?_
        show wpAnyH _ _ _ _ _ _ _ (Act.put _ (some 43) _) _
        try simp only [Act.put, List.setIfInBounds_toArray, List.set_cons_zero, List.set_cons_succ]
        refine wpAnyH_take (i := 15) (v := ?_) rfl (by kernel_rfl) (by kernel_rfl) (by kernel_rfl) (fun _ _ _ h => h) (Or.inl ⟨by rfl, ?_⟩) hHeld ?_
        rotate_left
        · intro w hSw
          try dsimp only at hSw
          go_simp
          try with_reducible rfl
        show wpAnyH _ _ _ _ _ _ _ (Act.put _ (some 44) _) _
        try simp only [Act.put, List.setIfInBounds_toArray, List.set_cons_zero, List.set_cons_succ]
        refine wpAnyH_done (by kernel_rfl) ?_ _
        clear hHeld
        go_wp2_with fail
        go_roundw
        case rel => exact ⟨k + 1, by go_num, by omega, hide (by have := unhide K1; repeat (first | exact this | apply Keep.drew)), hide (by rw [unhide HXn]; exact (unhide S1)), hide (by rw [unhide HXn]; exact (unhide D1))⟩
        case measure => simp [intOf]; omega
      · have HXn := hide ((unhide HXk).trans ((unhide HN) rfl))
        have hdec : decide (z < y + l) = false := decide_eq_false hcmp
        clear HN HY hcmp
        go_upto_region 5 with fail
        refine wp_region_held_drew (S := (fun w' => w'.cell? ⟨b, 1, none⟩ = some (.slice (some ⟨q, 0, none⟩) n n) ∧ w'.cell? ⟨c, 0, none⟩ = some (.int .i64 (f : Int)) ∧ w'.cell? ⟨c, 1, none⟩ = some (.int .i64 (t : Int)) ∧ w'.cell? ⟨c, 2, none⟩ = some (.int .i64 l) ∧ w'.cell? ⟨q, f, none⟩ = some (.int .i64 y) ∧ w'.cell? ⟨q, t, none⟩ = some (.int .i64 z))) (by kernel_rfl) (by exact unhide CK _ (by repeat (first | apply Keep.drew | exact Keep.refl _))) (fun hHeld => ?_)
        refine wpAnyH_take (i := 0) (v := ?_) rfl (by kernel_rfl) (by kernel_rfl) (by kernel_rfl) (fun _ _ _ h => h) (Or.inl ⟨by rfl, ?_⟩) hHeld ?_
        rotate_left
        · intro w hSw
          try dsimp only at hSw
          go_simp
          try with_reducible rfl
        show wpAnyH _ _ _ _ _ _ _ (Act.put _ (some 29) _) _
        try simp only [Act.put, List.setIfInBounds_toArray, List.set_cons_zero, List.set_cons_succ]
        refine wpAnyH_take (i := 1) (v := ?_) rfl (by kernel_rfl) (by kernel_rfl) (by kernel_rfl) (fun _ _ _ h => h) (Or.inl ⟨by rfl, ?_⟩) hHeld ?_
        rotate_left
        · intro w hSw
          try dsimp only at hSw
          go_simp
          try with_reducible rfl
        show wpAnyH _ _ _ _ _ _ _ (Act.put _ (some 30) _) _
        try simp only [Act.put, List.setIfInBounds_toArray, List.set_cons_zero, List.set_cons_succ]
        refine wpAnyH_take (i := 2) (v := ?_) rfl (by kernel_rfl) (by kernel_rfl) (by kernel_rfl) (fun _ _ _ h => h) (Or.inl ⟨by rfl, ?_⟩) hHeld ?_
        rotate_left
        · intro w hSw
          try dsimp only at hSw
          go_simp
          try with_reducible rfl
        show wpAnyH _ _ _ _ _ _ _ (Act.put _ (some 31) _) _
        try simp only [Act.put, List.setIfInBounds_toArray, List.set_cons_zero, List.set_cons_succ]
        refine wpAnyH_ready (rs := [3]) (by kernel_rfl) (by simp) ?_
        refine AllReadyH.cons rfl (fun K hK => ?_) AllReadyH.nil
        go_simp
        clear hHeld
        (refine ((unhide TH) _).mono ?_; rintro e w9 ⟨rfl, rfl⟩)
        try go_wp2_with fail
        refine hK.out _ _ ?_ (fun hHeld => ?_)
        · exact unhide CK _ (by repeat (first | apply Keep.drew | exact Keep.refl _))
        clear hK K
        try simp only [Act.put, List.setIfInBounds_toArray, List.set_cons_zero, List.set_cons_succ]
        refine wpAnyH_take (i := 4) (v := ?_) rfl (by kernel_rfl) (by kernel_rfl) (by kernel_rfl) (fun _ _ _ h => h) (Or.inl ⟨by rfl, ?_⟩) hHeld ?_
        rotate_left
        · intro w hSw
          try dsimp only at hSw
          go_simp
          try with_reducible rfl
        show wpAnyH _ _ _ _ _ _ _ (Act.put _ (some 33) _) _
        try simp only [Act.put, List.setIfInBounds_toArray, List.set_cons_zero, List.set_cons_succ]
        refine wpAnyH_take (i := 5) (v := ?_) rfl (by kernel_rfl) (by kernel_rfl) (by kernel_rfl) (fun _ _ _ h => h) (Or.inl ⟨by rfl, ?_⟩) hHeld ?_
        rotate_left
        · intro w hSw
          try dsimp only at hSw
          go_simp
          try with_reducible rfl
        show wpAnyH _ _ _ _ _ _ _ (Act.put _ (some 34) _) _
        try simp only [Act.put, List.setIfInBounds_toArray, List.set_cons_zero, List.set_cons_succ]
        refine wpAnyH_take (i := 6) (v := ?_) rfl (by kernel_rfl) (by kernel_rfl) (by kernel_rfl) (fun _ _ _ h => h) (Or.inl ⟨by rfl, ?_⟩) hHeld ?_
        rotate_left
        · intro w hSw
          try dsimp only at hSw
          go_simp
          try with_reducible rfl
        show wpAnyH _ _ _ _ _ _ _ (Act.put _ (some 35) _) _
        try simp only [Act.put, List.setIfInBounds_toArray, List.set_cons_zero, List.set_cons_succ]
        refine wpAnyH_take (i := 7) (v := ?_) rfl (by kernel_rfl) (by kernel_rfl) (by kernel_rfl) (fun _ _ _ h => h) (Or.inl ⟨by rfl, ?_⟩) hHeld ?_
        rotate_left
        · intro w hSw
          try dsimp only at hSw
          go_simp
          try with_reducible rfl
        show wpAnyH _ _ _ _ _ _ _ (Act.put _ (some 36) _) _
        try simp only [Act.put, List.setIfInBounds_toArray, List.set_cons_zero, List.set_cons_succ]
        refine wpAnyH_take (i := 8) (v := ?_) rfl (by kernel_rfl) (by kernel_rfl) (by kernel_rfl) (fun _ _ _ h => h) (Or.inl ⟨by rfl, ?_⟩) hHeld ?_
        rotate_left
        · intro w hSw
          try dsimp only at hSw
          go_simp
          try with_reducible rfl
        show wpAnyH _ _ _ _ _ _ _ (Act.put _ (some 37) _) _
        try simp only [Act.put, List.setIfInBounds_toArray, List.set_cons_zero, List.set_cons_succ]
        refine wpAnyH_take (i := 9) (v := ?_) rfl (by kernel_rfl) (by kernel_rfl) (by kernel_rfl) (fun _ _ _ h => h) (Or.inl ⟨by rfl, ?_⟩) hHeld ?_
        rotate_left
        · intro w hSw
          try dsimp only at hSw
          go_simp
          try with_reducible rfl
        show wpAnyH _ _ _ _ _ _ _ (Act.put _ (some 38) _) _
        try simp only [Act.put, List.setIfInBounds_toArray, List.set_cons_zero, List.set_cons_succ]
        refine wpAnyH_take (i := 10) (v := ?_) rfl (by kernel_rfl) (by kernel_rfl) (by kernel_rfl) (fun _ _ _ h => h) (Or.inl ⟨by rfl, ?_⟩) hHeld ?_
        rotate_left
        · intro w hSw
          try dsimp only at hSw
          go_simp
          try with_reducible rfl
        show wpAnyH _ _ _ _ _ _ _ (Act.put _ (some 39) _) _
        try simp only [Act.put, List.setIfInBounds_toArray, List.set_cons_zero, List.set_cons_succ]
        refine wpAnyH_take (i := 11) (v := ?_) rfl (by kernel_rfl) (by kernel_rfl) (by kernel_rfl) (fun _ _ _ h => h) (Or.inl ⟨by rfl, ?_⟩) hHeld ?_
        rotate_left
        · intro w hSw
          try dsimp only at hSw
          go_simp
          try with_reducible rfl
        show wpAnyH _ _ _ _ _ _ _ (Act.put _ (some 40) _) _
        try simp only [Act.put, List.setIfInBounds_toArray, List.set_cons_zero, List.set_cons_succ]
        refine wpAnyH_take (i := 12) (v := ?_) rfl (by kernel_rfl) (by kernel_rfl) (by kernel_rfl) (fun _ _ _ h => h) (Or.inl ⟨by rfl, ?_⟩) hHeld ?_
        rotate_left
        · intro w hSw
          try dsimp only at hSw
          go_simp
          try with_reducible rfl
        show wpAnyH _ _ _ _ _ _ _ (Act.put _ (some 41) _) _
        try simp only [Act.put, List.setIfInBounds_toArray, List.set_cons_zero, List.set_cons_succ]
        refine wpAnyH_take (i := 13) (v := ?_) rfl (by kernel_rfl) (by kernel_rfl) (by kernel_rfl) (fun _ _ _ h => h) (Or.inl ⟨by rfl, ?_⟩) hHeld ?_
        rotate_left
        · intro w hSw
          try dsimp only at hSw
          go_simp
          try with_reducible rfl
        show wpAnyH _ _ _ _ _ _ _ (Act.put _ (some 42) _) _
        try simp only [Act.put, List.setIfInBounds_toArray, List.set_cons_zero, List.set_cons_succ]
        refine wpAnyH_take (i := 14) (v := ?_) rfl (by kernel_rfl) (by kernel_rfl) (by kernel_rfl) (fun _ _ _ h => h) (Or.inl ⟨by rfl, ?_⟩) hHeld ?_
        rotate_left
        · intro w hSw
          try dsimp only at hSw
          go_simp
          try with_reducible rfl
        show wpAnyH _ _ _ _ _ _ _ (Act.put _ (some 43) _) _
        try simp only [Act.put, List.setIfInBounds_toArray, List.set_cons_zero, List.set_cons_succ]
        refine wpAnyH_take (i := 15) (v := ?_) rfl (by kernel_rfl) (by kernel_rfl) (by kernel_rfl) (fun _ _ _ h => h) (Or.inl ⟨by rfl, ?_⟩) hHeld ?_
        rotate_left
        · intro w hSw
          try dsimp only at hSw
          go_simp
          try with_reducible rfl
        show wpAnyH _ _ _ _ _ _ _ (Act.put _ (some 44) _) _
        try simp only [Act.put, List.setIfInBounds_toArray, List.set_cons_zero, List.set_cons_succ]
        refine wpAnyH_done (by kernel_rfl) ?_ _
        clear hHeld
        go_wp2_with fail
        go_roundw
        case rel => exact ⟨k + 1, by go_num, by omega, hide (by have := unhide K1; repeat (first | exact this | apply Keep.drew)), hide (by rw [unhide HXn]; exact (unhide S1)), hide (by rw [unhide HXn]; exact (unhide D1))⟩
        case measure => simp [intOf]; omega
      · have HXn := hide ((unhide HXk).trans ((unhide HY) rfl))
        have hdec : decide (z < y + l) = true := decide_eq_true hcmp
        clear HN HY hcmp
        have hbq2 : b ≠ q := unhide Hn
        have hcb : c ≠ b := by have := unhide lb; omega
        have hcq : c ≠ q := by have := unhide lq; omega
        have hf := (unhide D1).fz t
        have hqt : w1.cell? ⟨q, t, none⟩ = some (.int .i64 z) := (unhide CK _ (Keep.refl _)).2.2.2.2.2
        have K2 : Hid (Keep w0 (w1.setCell ⟨q, t, none⟩ (.int .i64 (y + l)))) := hide (Below.setCell (unhide K1) (unhide Hq) _)
        have S2 : Hid (Sb (w1.setCell ⟨q, t, none⟩ (.int .i64 (y + l))) b q n (X k).2) := hide ((unhide S1).other hbq2)
        have D2 : Hid (Rw 2 (w1.setCell ⟨q, t, none⟩ (.int .i64 (y + l))) q ((X k).1.set t (y + l))) := hide ((unhide D1).set _)
        have E2 : Hid (Eb (w1.setCell ⟨q, t, none⟩ (.int .i64 (y + l))) c f t l) := hide ((unhide E1).other hcq)
        go_upto_region 5 with fail
        refine wp_region_held_drew (S := (fun w' => w'.cell? ⟨b, 1, none⟩ = some (.slice (some ⟨q, 0, none⟩) n n) ∧ w'.cell? ⟨c, 0, none⟩ = some (.int .i64 (f : Int)) ∧ w'.cell? ⟨c, 1, none⟩ = some (.int .i64 (t : Int)) ∧ w'.cell? ⟨c, 2, none⟩ = some (.int .i64 l) ∧ w'.cell? ⟨q, f, none⟩ = some (.int .i64 y) ∧ w'.cell? ⟨q, t, none⟩ = some (.int .i64 z))) (by kernel_rfl) (by exact unhide CK _ (by repeat (first | apply Keep.drew | exact Keep.refl _))) (fun hHeld => ?_)
        refine wpAnyH_take (i := 0) (v := ?_) rfl (by kernel_rfl) (by kernel_rfl) (by kernel_rfl) (fun _ _ _ h => h) (Or.inl ⟨by rfl, ?_⟩) hHeld ?_
        rotate_left
        · intro w hSw
          try dsimp only at hSw
          go_simp
          try with_reducible rfl
        show wpAnyH _ _ _ _ _ _ _ (Act.put _ (some 29) _) _
        try simp only [Act.put, List.setIfInBounds_toArray, List.set_cons_zero, List.set_cons_succ]
        refine wpAnyH_take (i := 1) (v := ?_) rfl (by kernel_rfl) (by kernel_rfl) (by kernel_rfl) (fun _ _ _ h => h) (Or.inl ⟨by rfl, ?_⟩) hHeld ?_
        rotate_left
        · intro w hSw
          try dsimp only at hSw
          go_simp
          try with_reducible rfl
        show wpAnyH _ _ _ _ _ _ _ (Act.put _ (some 30) _) _
        try simp only [Act.put, List.setIfInBounds_toArray, List.set_cons_zero, List.set_cons_succ]
        refine wpAnyH_take (i := 2) (v := ?_) rfl (by kernel_rfl) (by kernel_rfl) (by kernel_rfl) (fun _ _ _ h => h) (Or.inl ⟨by rfl, ?_⟩) hHeld ?_
        rotate_left
        · intro w hSw
          try dsimp only at hSw
          go_simp
          try with_reducible rfl
        show wpAnyH _ _ _ _ _ _ _ (Act.put _ (some 31) _) _
        try simp only [Act.put, List.setIfInBounds_toArray, List.set_cons_zero, List.set_cons_succ]
        refine wpAnyH_ready (rs := [3]) (by kernel_rfl) (by simp) ?_
        refine AllReadyH.cons rfl (fun K hK => ?_) AllReadyH.nil
        go_simp
        clear hHeld
        (refine ((unhide TH) _).mono ?_; rintro e w9 ⟨rfl, rfl⟩)
        try go_wp2_with fail
        refine hK.out _ _ ?_ (fun hHeld => ?_)
        · exact unhide CK _ (by repeat (first | apply Keep.drew | exact Keep.refl _))
        clear hK K
        try simp only [Act.put, List.setIfInBounds_toArray, List.set_cons_zero, List.set_cons_succ]
        refine wpAnyH_take (i := 4) (v := ?_) rfl (by kernel_rfl) (by kernel_rfl) (by kernel_rfl) (fun _ _ _ h => h) (Or.inl ⟨by rfl, ?_⟩) hHeld ?_
        rotate_left
        · intro w hSw
          try dsimp only at hSw
          go_simp
          try with_reducible rfl
        show wpAnyH _ _ _ _ _ _ _ (Act.put _ (some 33) _) _
        try simp only [Act.put, List.setIfInBounds_toArray, List.set_cons_zero, List.set_cons_succ]
        refine wpAnyH_take (i := 5) (v := ?_) rfl (by kernel_rfl) (by kernel_rfl) (by kernel_rfl) (fun _ _ _ h => h) (Or.inl ⟨by rfl, ?_⟩) hHeld ?_
        rotate_left
        · intro w hSw
          try dsimp only at hSw
          go_simp
          try with_reducible rfl
        show wpAnyH _ _ _ _ _ _ _ (Act.put _ (some 34) _) _
        try simp only [Act.put, List.setIfInBounds_toArray, List.set_cons_zero, List.set_cons_succ]
        refine wpAnyH_take (i := 6) (v := ?_) rfl (by kernel_rfl) (by kernel_rfl) (by kernel_rfl) (fun _ _ _ h => h) (Or.inl ⟨by rfl, ?_⟩) hHeld ?_
        rotate_left
        · intro w hSw
          try dsimp only at hSw
          go_simp
          try with_reducible rfl
        show wpAnyH _ _ _ _ _ _ _ (Act.put _ (some 35) _) _
        try simp only [Act.put, List.setIfInBounds_toArray, List.set_cons_zero, List.set_cons_succ]
        refine wpAnyH_take (i := 7) (v := ?_) rfl (by kernel_rfl) (by kernel_rfl) (by kernel_rfl) (fun _ _ _ h => h) (Or.inl ⟨by rfl, ?_⟩) hHeld ?_
        rotate_left
        · intro w hSw
          try dsimp only at hSw
          go_simp
          try with_reducible rfl
        show wpAnyH _ _ _ _ _ _ _ (Act.put _ (some 36) _) _
        try simp only [Act.put, List.setIfInBounds_toArray, List.set_cons_zero, List.set_cons_succ]
        refine wpAnyH_take (i := 8) (v := ?_) rfl (by kernel_rfl) (by kernel_rfl) (by kernel_rfl) (fun _ _ _ h => h) (Or.inl ⟨by rfl, ?_⟩) hHeld ?_
        rotate_left
        · intro w hSw
          try dsimp only at hSw
          go_simp
          try with_reducible rfl
        show wpAnyH _ _ _ _ _ _ _ (Act.put _ (some 37) _) _
        try simp only [Act.put, List.setIfInBounds_toArray, List.set_cons_zero, List.set_cons_succ]
        refine wpAnyH_take (i := 9) (v := ?_) rfl (by kernel_rfl) (by kernel_rfl) (by kernel_rfl) (fun _ _ _ h => h) (Or.inl ⟨by rfl, ?_⟩) hHeld ?_
        rotate_left
        · intro w hSw
          try dsimp only at hSw
          go_simp
          try with_reducible rfl
        show wpAnyH _ _ _ _ _ _ _ (Act.put _ (some 38) _) _
        try simp only [Act.put, List.setIfInBounds_toArray, List.set_cons_zero, List.set_cons_succ]
        refine wpAnyH_take (i := 10) (v := ?_) rfl (by kernel_rfl) (by kernel_rfl) (by kernel_rfl) (fun _ _ _ h => h) (Or.inl ⟨by rfl, ?_⟩) hHeld ?_
        rotate_left
        · intro w hSw
          try dsimp only at hSw
          go_simp
          try with_reducible rfl
        show wpAnyH _ _ _ _ _ _ _ (Act.put _ (some 39) _) _
        try simp only [Act.put, List.setIfInBounds_toArray, List.set_cons_zero, List.set_cons_succ]
        refine wpAnyH_take (i := 11) (v := ?_) rfl (by kernel_rfl) (by kernel_rfl) (by kernel_rfl) (fun _ _ _ h => h) (Or.inl ⟨by rfl, ?_⟩) hHeld ?_
        rotate_left
        · intro w hSw
          try dsimp only at hSw
          go_simp
          try with_reducible rfl
        show wpAnyH _ _ _ _ _ _ _ (Act.put _ (some 40) _) _
        try simp only [Act.put, List.setIfInBounds_toArray, List.set_cons_zero, List.set_cons_succ]
        refine wpAnyH_take (i := 12) (v := ?_) rfl (by kernel_rfl) (by kernel_rfl) (by kernel_rfl) (fun _ _ _ h => h) (Or.inl ⟨by rfl, ?_⟩) hHeld ?_
        rotate_left
        · intro w hSw
          try dsimp only at hSw
          go_simp
          try with_reducible rfl
        show wpAnyH _ _ _ _ _ _ _ (Act.put _ (some 41) _) _
        try simp only [Act.put, List.setIfInBounds_toArray, List.set_cons_zero, List.set_cons_succ]
        refine wpAnyH_take (i := 13) (v := ?_) rfl (by kernel_rfl) (by kernel_rfl) (by kernel_rfl) (fun _ _ _ h => h) (Or.inl ⟨by rfl, ?_⟩) hHeld ?_
        rotate_left
        · intro w hSw
          try dsimp only at hSw
          go_simp
          try with_reducible rfl
        show wpAnyH _ _ _ _ _ _ _ (Act.put _ (some 42) _) _
        try simp only [Act.put, List.setIfInBounds_toArray, List.set_cons_zero, List.set_cons_succ]
        refine wpAnyH_take (i := 14) (v := ?_) rfl (by kernel_rfl) (by kernel_rfl) (by kernel_rfl) (fun _ _ _ h => h) (Or.inl ⟨by rfl, ?_⟩) hHeld ?_
        rotate_left
        · intro w hSw
          try dsimp only at hSw
          go_simp
          try with_reducible rfl
        show wpAnyH _ _ _ _ _ _ _ (Act.put _ (some 43) _) _
        try simp only [Act.put, List.setIfInBounds_toArray, List.set_cons_zero, List.set_cons_succ]
        refine wpAnyH_take (i := 15) (v := ?_) rfl (by kernel_rfl) (by kernel_rfl) (by kernel_rfl) (fun _ _ _ h => h) (Or.inl ⟨by rfl, ?_⟩) hHeld ?_
        rotate_left
        · intro w hSw
          try dsimp only at hSw
          go_simp
          try with_reducible rfl
        show wpAnyH _ _ _ _ _ _ _ (Act.put _ (some 44) _) _
        try simp only [Act.put, List.setIfInBounds_toArray, List.set_cons_zero, List.set_cons_succ]
        refine wpAnyH_done (by kernel_rfl) ?_ _
        clear hHeld
        have Hd := hide (And.intro hbq2 (And.intro hcb hcq))
        clear hbq2 hcb hcq
        go_upto_region 6 with fail
        refine wp_region_held_drew (S := (fun w' => w'.cell? ⟨b, 1, none⟩ = some (.slice (some ⟨q, 0, none⟩) n n) ∧ w'.cell? ⟨c, 1, none⟩ = some (.int .i64 (t : Int)))) (by kernel_rfl) (by exact ⟨(unhide CK _ (by repeat (first | apply Keep.drew | exact Keep.refl _))).1, (unhide CK _ (by repeat (first | apply Keep.drew | exact Keep.refl _))).2.2.1⟩) (fun hHeld => ?_)
        refine wpAnyH_take (i := 0) (v := ?_) rfl (by kernel_rfl) (by kernel_rfl) (by kernel_rfl) (fun _ _ _ h => h) (Or.inl ⟨by rfl, ?_⟩) hHeld ?_
        rotate_left
        · intro w hSw
          try dsimp only at hSw
          go_simp
          try with_reducible rfl
        show wpAnyH _ _ _ _ _ _ _ (Act.put _ (some 45) _) _
        try simp only [Act.put, List.setIfInBounds_toArray, List.set_cons_zero, List.set_cons_succ]
        refine wpAnyH_take (i := 1) (v := ?_) rfl (by kernel_rfl) (by kernel_rfl) (by kernel_rfl) (fun _ _ _ h => h) (Or.inl ⟨by rfl, ?_⟩) hHeld ?_
        rotate_left
        · intro w hSw
          try dsimp only at hSw
          go_simp
          try with_reducible rfl
        show wpAnyH _ _ _ _ _ _ _ (Act.put _ (some 46) _) _
        try simp only [Act.put, List.setIfInBounds_toArray, List.set_cons_zero, List.set_cons_succ]
        refine wpAnyH_take (i := 2) (v := ?_) rfl (by kernel_rfl) (by kernel_rfl) (by kernel_rfl) (fun _ _ _ h => h) (Or.inl ⟨by rfl, ?_⟩) hHeld ?_
        rotate_left
        · intro w hSw
          try dsimp only at hSw
          go_simp
          try with_reducible rfl
        show wpAnyH _ _ _ _ _ _ _ (Act.put _ (some 47) _) _
        try simp only [Act.put, List.setIfInBounds_toArray, List.set_cons_zero, List.set_cons_succ]
        refine wpAnyH_take (i := 3) (v := ?_) rfl (by kernel_rfl) (by kernel_rfl) (by kernel_rfl) (fun _ _ _ h => h) (Or.inl ⟨by rfl, ?_⟩) hHeld ?_
        rotate_left
        · intro w hSw
          try dsimp only at hSw
          go_simp
          try with_reducible rfl
        show wpAnyH _ _ _ _ _ _ _ (Act.put _ (some 48) _) _
        try simp only [Act.put, List.setIfInBounds_toArray, List.set_cons_zero, List.set_cons_succ]
        refine wpAnyH_take (i := 4) (v := ?_) rfl (by kernel_rfl) (by kernel_rfl) (by kernel_rfl) (fun _ _ _ h => h) (Or.inl ⟨by rfl, ?_⟩) hHeld ?_
        rotate_left
        · intro w hSw
          try dsimp only at hSw
          go_simp
          try with_reducible rfl
        show wpAnyH _ _ _ _ _ _ _ (Act.put _ (some 49) _) _
        try simp only [Act.put, List.setIfInBounds_toArray, List.set_cons_zero, List.set_cons_succ]
        refine wpAnyH_take (i := 5) (v := ?_) rfl (by kernel_rfl) (by kernel_rfl) (by kernel_rfl) (fun _ _ _ h => h) (Or.inl ⟨by rfl, ?_⟩) hHeld ?_
        rotate_left
        · intro w hSw
          try dsimp only at hSw
          go_simp
          try with_reducible rfl
        show wpAnyH _ _ _ _ _ _ _ (Act.put _ (some 50) _) _
        try simp only [Act.put, List.setIfInBounds_toArray, List.set_cons_zero, List.set_cons_succ]
        refine wpAnyH_take (i := 6) (v := ?_) rfl (by kernel_rfl) (by kernel_rfl) (by kernel_rfl) (fun _ _ _ h => h) (Or.inl ⟨by rfl, ?_⟩) hHeld ?_
        rotate_left
        · intro w hSw
          try dsimp only at hSw
          go_simp
          try with_reducible rfl
        show wpAnyH _ _ _ _ _ _ _ (Act.put _ (some 51) _) _
        try simp only [Act.put, List.setIfInBounds_toArray, List.set_cons_zero, List.set_cons_succ]
        refine wpAnyH_take (i := 7) (v := ?_) rfl (by kernel_rfl) (by kernel_rfl) (by kernel_rfl) (fun _ _ _ h => h) (Or.inl ⟨by rfl, ?_⟩) hHeld ?_
        rotate_left
        · intro w hSw
          try dsimp only at hSw
          go_simp
          try with_reducible rfl
        show wpAnyH _ _ _ _ _ _ _ (Act.put _ (some 52) _) _
        try simp only [Act.put, List.setIfInBounds_toArray, List.set_cons_zero, List.set_cons_succ]
        refine wpAnyH_ready (rs := [8]) (by kernel_rfl) (by simp) ?_
        refine AllReadyH.cons rfl (fun K hK => ?_) AllReadyH.nil
        go_simp
        clear hHeld
        refine hK.out _ _ ?_ (fun hHeld => ?_)
        · exact ⟨(unhide S2).c1, (unhide E2).2.1⟩
        clear hK K
        try simp only [Act.put, List.setIfInBounds_toArray, List.set_cons_zero, List.set_cons_succ]
        refine wpAnyH_done (by kernel_rfl) ?_ _
        clear hHeld
        go_upto_region 7 with fail
        generalize w1.setCell ⟨q, t, none⟩ (.int .i64 (y + l)) = w2 at K2 S2 D2 E2 ⊢
        refine wp_region_held_drew (S := (fun w' => w'.cell? ⟨c, 1, none⟩ = some (.int .i64 (t : Int)))) (by kernel_rfl) (by exact (unhide E2).2.1) (fun hHeld => ?_)
        refine wpAnyH_take (i := 0) (v := ?_) rfl (by kernel_rfl) (by kernel_rfl) (by kernel_rfl) (fun _ _ _ h => h) (Or.inl ⟨by rfl, ?_⟩) hHeld ?_
        rotate_left
        · intro w hSw
          try dsimp only at hSw
          go_simp
          try with_reducible rfl
        show wpAnyH _ _ _ _ _ _ _ (Act.put _ (some 53) _) _
        try simp only [Act.put, List.setIfInBounds_toArray, List.set_cons_zero, List.set_cons_succ]
        refine wpAnyH_take (i := 1) (v := ?_) rfl (by kernel_rfl) (by kernel_rfl) (by kernel_rfl) (fun _ _ _ h => h) (Or.inl ⟨by rfl, ?_⟩) hHeld ?_
        rotate_left
        · intro w hSw
          try dsimp only at hSw
          go_simp
          try with_reducible rfl
        show wpAnyH _ _ _ _ _ _ _ (Act.put _ (some 54) _) _
        try simp only [Act.put, List.setIfInBounds_toArray, List.set_cons_zero, List.set_cons_succ]
        refine wpAnyH_take (i := 2) (v := ?_) rfl (by kernel_rfl) (by kernel_rfl) (by kernel_rfl) (fun _ _ _ h => h) (Or.inl ⟨by rfl, ?_⟩) hHeld ?_
        rotate_left
        · intro w hSw
          try dsimp only at hSw
          go_simp
          try with_reducible rfl
        show wpAnyH _ _ _ _ _ _ _ (Act.put _ (some 55) _) _
        try simp only [Act.put, List.setIfInBounds_toArray, List.set_cons_zero, List.set_cons_succ]
        refine wpAnyH_take (i := 3) (v := ?_) rfl (by kernel_rfl) (by kernel_rfl) (by kernel_rfl) (fun _ _ _ h => h) (Or.inl ⟨by rfl, ?_⟩) hHeld ?_
        rotate_left
        · intro w hSw
          try dsimp only at hSw
          go_simp
          try with_reducible rfl
        show wpAnyH _ _ _ _ _ _ _ (Act.put _ (some 56) _) _
        try simp only [Act.put, List.setIfInBounds_toArray, List.set_cons_zero, List.set_cons_succ]
        refine wpAnyH_take (i := 4) (v := ?_) rfl (by kernel_rfl) (by kernel_rfl) (by kernel_rfl) (fun _ _ _ h => h) (Or.inl ⟨by rfl, ?_⟩) hHeld ?_
        rotate_left
        · intro w hSw
          try dsimp only at hSw
          go_simp
          try with_reducible rfl
        show wpAnyH _ _ _ _ _ _ _ (Act.put _ (some 57) _) _
        try simp only [Act.put, List.setIfInBounds_toArray, List.set_cons_zero, List.set_cons_succ]
        refine wpAnyH_ready (rs := [5]) (by kernel_rfl) (by simp) ?_
        refine AllReadyH.cons rfl (fun K hK => ?_) AllReadyH.nil
        go_simp
        clear hHeld
        (refine (put_any b 0 (X k).2 t _ (by exact (unhide S2).c0) (by exact (unhide S2).fz 0) h264 (by omega)).mono ?_; rintro e w9 ⟨⟨u9, rfl⟩, rfl⟩)
        try go_wp2_with fail
        refine hK.out _ _ ?_ (fun hHeld => ?_)
        · exact cell_other (unhide E2).2.1 (unhide Hd).2.1
        clear hK K
        try simp only [Act.put, List.setIfInBounds_toArray, List.set_cons_zero, List.set_cons_succ]
        refine wpAnyH_done (by kernel_rfl) ?_ _
        clear hHeld
        go_wp2_with fail
        go_roundw
        case rel => exact ⟨k + 1, by go_num, by omega, hide (by repeat (first | apply Keep.drew | exact keep_st (unhide K2) (unhide Hb) _)), hide (by rw [unhide HXn]; exact (unhide S2).set _), hide (by rw [unhide HXn]; exact (unhide D2).other (fun e => (unhide Hd).1 e.symm))⟩
        case measure => simp [intOf]; omega
    · have li : ¬ (k : Int) < (m : Int) := by omega
      obtain rfl : k = m := by omega
      go_wp2_with fail
      go_end0
      exact ⟨⟨_, rfl⟩, unhide KW, unhide SW, unhide DW⟩
end Pa
end Go.Proofs.Ytakandlehneciaa
