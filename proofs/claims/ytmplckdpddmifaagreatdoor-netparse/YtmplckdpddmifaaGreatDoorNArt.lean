/- Package net: the artery. -/
import Derived.Test.YtmplckdpddmifaaGreatDoorNRa
import Derived.Test.YtmplckdpddmifaaGreatDoorTk
import Derived.Test.YtmplckdpddmifaaGreatDoorNNames
namespace Go.Proofs.YtmplckdpddmifaaGreatDoor
open Go.RowKit
attribute [local go_sem ↓] Go.wp_at_zero Go.wp_at_succ
set_option linter.unusedVariables false
set_option linter.unusedSimpArgs false
set_option maxRecDepth 10000
/-- nothing that the parts have turns -/
theorem Cel.other {E : Env} {w w' : World} {cs : List D} {q : Nat} (h : Cel E w cs) (k : Fr (fun b => b = E.rb ∨ b = q) w w') (hs : E.S E.rb) (hq : w.heap.size ≤ q) : Cel E w' cs := by
  refine ⟨h.1, fun j d hd => ?_⟩
  obtain ⟨v, h1, h2, h3, h4, h5⟩ := h.2 j d hd
  have lt := cell_lt h1
  simp only at lt
  have e := k.block (E.A j).1 lt (fun x => x.elim h5 (fun x => by omega))
  refine ⟨v, (cell_of (a := ⟨(E.A j).1, (E.A j).2, none⟩) e).trans h1, Rd.move d _ _ v h2 (fun b hb hl => ⟨k.block b hl (fun x => x.elim (fun x => hb.1 (x ▸ hs)) (fun x => by omega)), hb⟩), (World.frozen?_of_block (a := ⟨(E.A j).1, (E.A j).2, none⟩) e).trans h3, h4, h5⟩
theorem Cel.nil {E : Env} {w : World} {c rest : List D} {e z : Nat} (h : Cel E w (c ++ [dN] ++ rest)) : Cel E w (c ++ [D.row e z []] ++ rest) := by
  have hlen : (c ++ [D.row e z []] ++ rest).length = (c ++ [dN] ++ rest).length := by simp
  refine ⟨by rw [hlen]; exact h.1, fun j d hd => ?_⟩
  by_cases he : j = c.length
  · subst he
    rw [show (c ++ [D.row e z []] ++ rest)[c.length]? = some (.row e z []) by simp] at hd
    injection hd with hd
    subst hd
    obtain ⟨v, h1, h2, h3⟩ := h.2 c.length dN (by simp)
    obtain rfl : v = .slice none 0 0 := h2.1
    exact ⟨_, h1, rd_nil _ _ _ _, h3⟩
  · rw [mid_ne (d := dN) he] at hd
    exact h.2 j d hd
set_option maxHeartbeats 8000000 in
theorem art_core (E : Env) (g1 g2 tb m : Nat) (c rest : List D) (w00 : World) (r00 : List Tok) (h1 : w00.cell? ⟨g1, 0, none⟩ = some (.pointer (some ⟨E.rb, 0, none⟩))) (h2 : Hid (w00.cell? ⟨g2, 0, none⟩ = some (.pointer (some ⟨tb, 0, none⟩))))
    (N1 : Hid (¬ E.S g1)) (N2 : Hid (¬ E.S g2)) (A0 : Hid (E.A m = (tb, 6))) (A1 : Hid (E.A (m + 1) = (tb, 7))) (A2 : Hid (E.A (m + 2) = (tb, 8))) (HS : Hid (∀ b, E.S b → b < w00.heap.size)) (HLo : Hid (E.lo ≤ w00.heap.size)) (hcm : Hid (c.length = m)) (HR00 : Hid (Rdr E w00 r00)) (HL00 : Hid (Cel E w00 (c ++ [dN, dI 0, dI 0] ++ rest)))
    (THStop : Hid (ThingM E.rb E.l E.ta E.cap 85 114 [.string ⟨#[]⟩, .string ⟨#[]⟩, .string ⟨#[]⟩, .int .i64 0, .int .i64 0, .int .i64 0] pStop)) :
    Calls Tryz.prog 82 #[.pointer (some ⟨g1, 0, none⟩), .pointer (some ⟨g2, 0, none⟩)] w00 (Post E w00 rest (m + 3) (pArt c r00)) := by
  have H1 := hide h1
  obtain ⟨t, r', hrt⟩ := r0_cons (uq HR00).1
  have HRT := hide hrt
  clear hrt
  have hta : E.ta.block < w00.heap.size := by obtain ⟨k, _, _, _, _, _, h7, _⟩ := (uq HR00).1; exact h7
  have HTA := hide hta
  have hrb := (uq HS) _ (uq HR00).2.2
  have HRB := hide hrb
  clear hta hrb
  go_enter Tryz.func82, Tryz.ntmps82
  have h1a : ∀ o, (w00.alloc o).cell? ⟨g1, 0, none⟩ = some (.pointer (some ⟨E.rb, 0, none⟩)) := fun o => ((Keep.refl w00).alloc o).cell' h1
  clear h1
  go_wp2_with fail
  (refine (may_any (E := Env.one E.rb E.l E.ta E.cap w00.heap.size (fun j => j) 0) [97, 114, 116, 101, 114, 121] (by decide) (dB false) 0 w00.heap.size 0 rfl _ (fun b hb => by
    rw [World.size_alloc]
    rcases hb with hb | hb
    · have : b = E.rb := hb; have := uq HRB; omega
    · have : b = w00.heap.size := hb; omega)).mono ?_; rintro e w2 ⟨f3, x3, y3, rfl, hk, hd⟩; have HK2 := hide hk; obtain ⟨hent3, hd3⟩ := hd.call; have HD3 := hide hd3; clear hk hd hd3)
  unfold Ent at hent3
  go_wp2_with fail
  have hr2 : Rdr (Env.one E.rb E.l E.ta E.cap w00.heap.size (fun j => j) 0) w2 r00 := (one_rdr ((uq HR00).1.keep ((Keep.refl _).alloc _)) (fun e => by have := uq HTA; omega) (fun e => (uq HR00).apart e.symm)).keep (uq HK2)
  have hl2 : Cel (Env.one E.rb E.l E.ta E.cap w00.heap.size (fun j => j) 0) w2 ([] ++ [dB false] ++ []) := Cel.keep (one_cel (zs := [.bool false]) (t := 4) (heap_alloc_new w00 _) (fun e => by have := uq HRB; omega) rfl (fun i j hi hj e => e) (fun j d hd => by
    match j, hd with
    | 0, hd => simp at hd; subst hd; exact ⟨.bool false, rfl, dB_rd _⟩
    | j + 1, hd => simp at hd)) (uq HK2)
  refine ((uq HD3) w2 [] [] r00 (.refl _ _) rfl hr2 hl2).mono ?_
  clear hr2 hl2
  rintro e w ⟨hf3, hp3⟩
  obtain ⟨bb, r, hpm, hart⟩ : ∃ bb r, pMay [97, 114, 116, 101, 114, 121] [] r00 = .ok ([dB bb], r) ∧ pArt c r00 = if bb then sq [pThe [123], pRow [115, 116, 111, 112] 12 114 6 pStop, pThe [119, 101, 105, 103, 104, 116, 115], pNum, pNum, pThe [59], pThe [125]] c r else .ok (c ++ [.row 114 6 [], dI 0, dI 0], r) := by
    rw [uq HRT]
    by_cases hu : t.s = [97, 114, 116, 101, 114, 121]
    · exact ⟨true, r', by simp [pMay, hu], by simp [pArt, pMay, hu, dB]⟩
    · exact ⟨false, t :: r', by simp [pMay, hu], by simp [pArt, pMay, hu, dB]⟩
  rw [hpm] at hp3
  obtain ⟨rfl, _, hr3, hl3⟩ := hp3
  have z3 : w.cell? ⟨w00.heap.size, 0, none⟩ = some (.bool bb) := by
    obtain ⟨u, k1, k2, _⟩ := hl3.2 0 (dB bb) (by simp)
    exact (show w.cell? ⟨w00.heap.size, 0, none⟩ = some u from k1).trans (by rw [show u = .bool bb from k2.1])
  have HF : Hid (Fr (fun b => b = E.rb ∨ b = w00.heap.size) w00 w) := hide ((Fr.keep (((Keep.refl w00).alloc (.cells #[.bool false] 4)).trans (uq HK2))).trans hf3)
  have HFS : Hid (Fr E.S w00 w) := hide ((Fr.refl _ _).inner (uq HF) (fun i hi hs => hs.elim (fun e => e ▸ (uq HR00).2.2) (fun e => by omega)))
  have HR : Hid (Rdr E w r) := hide ⟨hr3.1, (uq HR00).2⟩
  have HL : Hid (Cel E w (c ++ [dN, dI 0, dI 0] ++ rest)) := hide ((uq HL00).other (uq HF) (uq HR00).2.2 (Nat.le_refl _))
  have HART := hide hart
  have k1 := (uq HFS).cell (uq H1) (uq N1)
  have k2 := (uq HFS).cell (uq h2) (uq N2)
  clear hr3 hl3 hf3 hpm hart H1 h1a
  have H1 := hide k1
  have H2 := hide k2
  clear k1 k2
  have HS0 : Hid (∀ b, E.S b → b < w.drew.heap.size) := hide (fun b hb => Nat.lt_of_lt_of_le ((uq HS) b hb) (uq HFS).size)
  have HLo0 : Hid (E.lo ≤ w.drew.heap.size) := hide (Nat.le_trans (uq HLo) (uq HFS).size)
  have HK0 := hide (Keep.refl w).drew
  cases bb with
  | false =>
    go_wp2_with fail
    go_ret
    rw [uq HART, if_neg (by decide)]
    refine post_ok rfl (uq HFS) (by have := uq hcm; simp; omega) (uq HR) ?_
    have h9 : Cel E w (c ++ [dN] ++ ([dI 0, dI 0] ++ rest)) := by have := uq HL; simpa [List.append_assoc] using this
    have := h9.nil (e := 114) (z := 6)
    simpa [List.append_assoc] using this
  | true =>
    go_wp2_with fail
    refine wp_region_held_drew (S := fun w' => w'.cell? ⟨g1, 0, none⟩ = some (.pointer (some ⟨E.rb, 0, none⟩)) ∧ w'.cell? ⟨g2, 0, none⟩ = some (.pointer (some ⟨tb, 0, none⟩))) (by kernel_rfl) (by exact ⟨uq H1, uq H2⟩) (fun hHeld => ?_)
    refine tkk 0 15 hHeld ?_; try simp only [Act.put, Ya, Yb, Yc]
    refine tkk 2 17 hHeld ?_; try simp only [Act.put, Ya, Yb, Yc]
    refine tkk 3 18 hHeld ?_; try simp only [Act.put, Ya, Yb, Yc]
    refine tkk 4 19 hHeld ?_; try simp only [Act.put, Ya, Yb, Yc]
    refine tkk 5 20 hHeld ?_; try simp only [Act.put, Ya, Yb, Yc]
    refine tkk 6 21 hHeld ?_; try simp only [Act.put, Ya, Yb, Yc]
    refine tkk 7 22 hHeld ?_; try simp only [Act.put, Ya, Yb, Yc]
    refine tkk 9 24 hHeld ?_; try simp only [Act.put, Ya, Yb, Yc]
    refine tkk 11 26 hHeld ?_; try simp only [Act.put, Ya, Yb, Yc]
    refine tkk 12 27 hHeld ?_; try simp only [Act.put, Ya, Yb, Yc]
    refine tkk 13 28 hHeld ?_; try simp only [Act.put, Ya, Yb, Yc]
    refine tkk 14 29 hHeld ?_; try simp only [Act.put, Ya, Yb, Yc]
    refine tkk 16 31 hHeld ?_; try simp only [Act.put, Ya, Yb, Yc]
    refine tkk 17 32 hHeld ?_; try simp only [Act.put, Ya, Yb, Yc]
    refine tkk 18 33 hHeld ?_; try simp only [Act.put, Ya, Yb, Yc]
    refine tkk 19 34 hHeld ?_; try simp only [Act.put, Ya, Yb, Yc]
    refine tkk 21 36 hHeld ?_; try simp only [Act.put, Ya, Yb, Yc]
    refine tkk 23 38 hHeld ?_; try simp only [Act.put, Ya, Yb, Yc]
    refine rdyy 1 (fun K hK => ?_)
    go_simp
    clear hHeld
    (refine (the_any (E := E) [123] (by decide) (m) _ (uq HS0)).mono ?_; rintro e w1 ⟨f1, x1, y1, rfl, hk, hd⟩; have HS1 := hide (hs_keep (uq HS0) hk); have HLo1 := hide (lo_keep (uq HLo0) hk); have HK1 := hide ((uq HK0).trans hk); have HC1 : Hid (Chain E w1 (m) [(.func (.func f1) x1 y1, [], pThe [123])]) := hide ⟨hd, trivial⟩; clear hk hd)
    try go_wp2_with fail
    refine hK.out _ _ ?_ (fun hHeld => ?_)
    · exact ⟨(fun k : Keep w _ => k.cell' (uq H1)) (uq HK1), (fun k : Keep w _ => k.cell' (uq H2)) (uq HK1)⟩
    clear hK K
    try simp only [Act.put, Ya, Yb, Yc]
    refine rdyy 8 (fun K hK => ?_)
    go_simp
    clear hHeld
    (refine (rowStop_any (E := E) [115, 116, 111, 112] (by decide) 12 (by decide) pStop (uq THStop) (m) _ _ (uq A0) _ (uq HS1) (uq HLo1)).mono ?_; rintro e w2 ⟨f2, x2, y2, rfl, hk, hd⟩; have HS2 := hide (hs_keep (uq HS1) hk); have HLo2 := hide (lo_keep (uq HLo1) hk); have HK2 := hide ((uq HK1).trans hk); have HC2 : Hid (Chain E w2 (m) [(.func (.func f1) x1 y1, [], pThe [123]), (.func (.func f2) x2 y2, [dN], pRow [115, 116, 111, 112] 12 114 6 pStop)]) := hide (chain_snoc (uq HC1) hk hd); clear hk hd)
    try go_wp2_with fail
    refine hK.out _ _ ?_ (fun hHeld => ?_)
    · exact ⟨(fun k : Keep w _ => k.cell' (uq H1)) (uq HK2), (fun k : Keep w _ => k.cell' (uq H2)) (uq HK2)⟩
    clear hK K
    try simp only [Act.put, Ya, Yb, Yc]
    refine rdyy 10 (fun K hK => ?_)
    go_simp
    clear hHeld
    (refine (the_any (E := E) [119, 101, 105, 103, 104, 116, 115] (by decide) (m + 1) _ (uq HS2)).mono ?_; rintro e w3 ⟨f3, x3, y3, rfl, hk, hd⟩; have HS3 := hide (hs_keep (uq HS2) hk); have HLo3 := hide (lo_keep (uq HLo2) hk); have HK3 := hide ((uq HK2).trans hk); have HC3 : Hid (Chain E w3 (m) [(.func (.func f1) x1 y1, [], pThe [123]), (.func (.func f2) x2 y2, [dN], pRow [115, 116, 111, 112] 12 114 6 pStop), (.func (.func f3) x3 y3, [], pThe [119, 101, 105, 103, 104, 116, 115])]) := hide (chain_snoc (uq HC2) hk hd); clear hk hd)
    try go_wp2_with fail
    refine hK.out _ _ ?_ (fun hHeld => ?_)
    · exact ⟨(fun k : Keep w _ => k.cell' (uq H1)) (uq HK3), (fun k : Keep w _ => k.cell' (uq H2)) (uq HK3)⟩
    clear hK K
    try simp only [Act.put, Ya, Yb, Yc]
    refine rdyy 15 (fun K hK => ?_)
    go_simp
    clear hHeld
    (refine (num_any (E := E) (dI 0) (m + 1) _ _ (uq A1) _ (uq HS3)).mono ?_; rintro e w4 ⟨f4, x4, y4, rfl, hk, hd⟩; have HS4 := hide (hs_keep (uq HS3) hk); have HLo4 := hide (lo_keep (uq HLo3) hk); have HK4 := hide ((uq HK3).trans hk); have HC4 : Hid (Chain E w4 (m) [(.func (.func f1) x1 y1, [], pThe [123]), (.func (.func f2) x2 y2, [dN], pRow [115, 116, 111, 112] 12 114 6 pStop), (.func (.func f3) x3 y3, [], pThe [119, 101, 105, 103, 104, 116, 115]), (.func (.func f4) x4 y4, [dI 0], pNum)]) := hide (chain_snoc (uq HC3) hk hd); clear hk hd)
    try go_wp2_with fail
    refine hK.out _ _ ?_ (fun hHeld => ?_)
    · exact ⟨(fun k : Keep w _ => k.cell' (uq H1)) (uq HK4), (fun k : Keep w _ => k.cell' (uq H2)) (uq HK4)⟩
    clear hK K
    try simp only [Act.put, Ya, Yb, Yc]
    refine rdyy 20 (fun K hK => ?_)
    go_simp
    clear hHeld
    (refine (num_any (E := E) (dI 0) (m + 2) _ _ (uq A2) _ (uq HS4)).mono ?_; rintro e w5 ⟨f5, x5, y5, rfl, hk, hd⟩; have HS5 := hide (hs_keep (uq HS4) hk); have HLo5 := hide (lo_keep (uq HLo4) hk); have HK5 := hide ((uq HK4).trans hk); have HC5 : Hid (Chain E w5 (m) [(.func (.func f1) x1 y1, [], pThe [123]), (.func (.func f2) x2 y2, [dN], pRow [115, 116, 111, 112] 12 114 6 pStop), (.func (.func f3) x3 y3, [], pThe [119, 101, 105, 103, 104, 116, 115]), (.func (.func f4) x4 y4, [dI 0], pNum), (.func (.func f5) x5 y5, [dI 0], pNum)]) := hide (chain_snoc (uq HC4) hk hd); clear hk hd)
    try go_wp2_with fail
    refine hK.out _ _ ?_ (fun hHeld => ?_)
    · exact ⟨(fun k : Keep w _ => k.cell' (uq H1)) (uq HK5), (fun k : Keep w _ => k.cell' (uq H2)) (uq HK5)⟩
    clear hK K
    try simp only [Act.put, Ya, Yb, Yc]
    refine rdyy 22 (fun K hK => ?_)
    go_simp
    clear hHeld
    (refine (the_any (E := E) [59] (by decide) (m + 3) _ (uq HS5)).mono ?_; rintro e w6 ⟨f6, x6, y6, rfl, hk, hd⟩; have HS6 := hide (hs_keep (uq HS5) hk); have HLo6 := hide (lo_keep (uq HLo5) hk); have HK6 := hide ((uq HK5).trans hk); have HC6 : Hid (Chain E w6 (m) [(.func (.func f1) x1 y1, [], pThe [123]), (.func (.func f2) x2 y2, [dN], pRow [115, 116, 111, 112] 12 114 6 pStop), (.func (.func f3) x3 y3, [], pThe [119, 101, 105, 103, 104, 116, 115]), (.func (.func f4) x4 y4, [dI 0], pNum), (.func (.func f5) x5 y5, [dI 0], pNum), (.func (.func f6) x6 y6, [], pThe [59])]) := hide (chain_snoc (uq HC5) hk hd); clear hk hd)
    try go_wp2_with fail
    refine hK.out _ _ ?_ (fun hHeld => ?_)
    · exact ⟨(fun k : Keep w _ => k.cell' (uq H1)) (uq HK6), (fun k : Keep w _ => k.cell' (uq H2)) (uq HK6)⟩
    clear hK K
    try simp only [Act.put, Ya, Yb, Yc]
    refine rdyy 24 (fun K hK => ?_)
    go_simp
    clear hHeld
    (refine (the_any (E := E) [125] (by decide) (m + 3) _ (uq HS6)).mono ?_; rintro e w7 ⟨f7, x7, y7, rfl, hk, hd⟩; have HS7 := hide (hs_keep (uq HS6) hk); have HLo7 := hide (lo_keep (uq HLo6) hk); have HK7 := hide ((uq HK6).trans hk); have HC7 : Hid (Chain E w7 (m) [(.func (.func f1) x1 y1, [], pThe [123]), (.func (.func f2) x2 y2, [dN], pRow [115, 116, 111, 112] 12 114 6 pStop), (.func (.func f3) x3 y3, [], pThe [119, 101, 105, 103, 104, 116, 115]), (.func (.func f4) x4 y4, [dI 0], pNum), (.func (.func f5) x5 y5, [dI 0], pNum), (.func (.func f6) x6 y6, [], pThe [59]), (.func (.func f7) x7 y7, [], pThe [125])]) := hide (chain_snoc (uq HC6) hk hd); clear hk hd)
    try go_wp2_with fail
    refine hK.out _ _ ?_ (fun hHeld => ?_)
    · exact ⟨(fun k : Keep w _ => k.cell' (uq H1)) (uq HK7), (fun k : Keep w _ => k.cell' (uq H2)) (uq HK7)⟩
    clear hK K
    try simp only [Act.put, Ya, Yb, Yc]
    refine rdyy 25 (fun K hK => ?_)
    go_simp
    clear hHeld
    refine hK.out _ _ ?_ (fun hHeld => ?_)
    · exact ⟨(fun k : Keep w _ => k.cell' (uq H1)) ((uq HK7).alloc _), (fun k : Keep w _ => k.cell' (uq H2)) ((uq HK7).alloc _)⟩
    clear hK K
    try simp only [Act.put, Ya, Yb, Yc]
    refine rdyy 26 (fun K hK => ?_)
    go_simp
    clear hHeld
    (refine (order_any (E := E) (m := m) (ss := [(.func (.func f1) x1 y1, [], pThe [123]), (.func (.func f2) x2 y2, [dN], pRow [115, 116, 111, 112] 12 114 6 pStop), (.func (.func f3) x3 y3, [], pThe [119, 101, 105, 103, 104, 116, 115]), (.func (.func f4) x4 y4, [dI 0], pNum), (.func (.func f5) x5 y5, [dI 0], pNum), (.func (.func f6) x6 y6, [], pThe [59]), (.func (.func f7) x7 y7, [], pThe [125])]) (c := c) (rest := rest) (r := r) (by simp) (chain_keep ((Keep.refl _).alloc _) (uq HC7)) (new_steps _ _ _) (fun h => Nat.lt_irrefl _ ((uq HS7) _ h)) (uq hcm) ((uq HR).keep ((uq HK7).alloc _)) ((uq HL).keep ((uq HK7).alloc _))).mono ?_; rintro e wz hp; obtain ⟨vz, rfl⟩ := post_ret hp; have HP := hide hp; have HKz := hide ((uq HK7).alloc (.cells #[.func (.func f1) x1 y1, .func (.func f2) x2 y2, .func (.func f3) x3 y3, .func (.func f4) x4 y4, .func (.func f5) x5 y5, .func (.func f6) x6 y6, .func (.func f7) x7 y7] 121)); clear hp)
    try go_wp2_with fail
    refine hK.out _ _ ?_ (fun hHeld => ?_)
    · exact ⟨(uq HP).1.cell ((uq HKz).cell' (uq H1)) (uq N1), (uq HP).1.cell ((uq HKz).cell' (uq H2)) (uq N2)⟩
    clear hK K
    try simp only [Act.put, Ya, Yb, Yc]
    refine tkk 27 2 hHeld ?_; try simp only [Act.put, Ya, Yb, Yc]
    refine wpAnyH_done (by kernel_rfl) ?_ _
    clear hHeld
    go_wp2_with fail
    go_ret
    rw [uq HART, if_pos trivial]
    exact post_pre ((uq HFS).trans (.keep (uq HKz))) (uq HP)
set_option maxHeartbeats 1000000 in
theorem art_make (a b : Option Addr) (w : World) : Calls Tryz.prog 53 #[.pointer a, .pointer b] w fun e w' => e = .returned (.func (.func 82) #[] #[.pointer (some ⟨w.heap.size, 0, none⟩), .pointer (some ⟨w.heap.size + 1, 0, none⟩)]) ∧ w' = (w.alloc (.cells #[.pointer a] 81)).alloc (.cells #[.pointer b] 85) := by
  go_enter Tryz.func53, Tryz.ntmps53
  go_wp2
  go_ret
  exact ⟨rfl, rfl⟩
theorem art_any {E : Env} (m tb : Nat) (hA : E.A m = (tb, 6)) (hA1 : E.A (m + 1) = (tb, 7)) (hA2 : E.A (m + 2) = (tb, 8)) (hT : ThingM E.rb E.l E.ta E.cap 85 114 [.string ⟨#[]⟩, .string ⟨#[]⟩, .string ⟨#[]⟩, .int .i64 0, .int .i64 0, .int .i64 0] pStop) (w : World) (hS : ∀ b, E.S b → b < w.heap.size) (hLo : E.lo ≤ w.heap.size) : Calls Tryz.prog 53 #[.pointer (some ⟨E.rb, 0, none⟩), .pointer (some ⟨tb, 0, none⟩)] w (Mk E m [dN, dI 0, dI 0] pArt w) := by
  refine (art_make _ _ w).mono ?_
  rintro e w' ⟨rfl, rfl⟩
  obtain ⟨b1, b2⟩ := two_boxes E w (.pointer (some ⟨E.rb, 0, none⟩)) (.pointer (some ⟨tb, 0, none⟩)) 81 85 hS
  have hk := two_keep w (.cells #[.pointer (some ⟨E.rb, 0, none⟩)] 81) (.cells #[.pointer (some ⟨tb, 0, none⟩)] 85)
  exact ⟨_, _, _, rfl, hk, ⟨_, _, _, rfl, fun xs w => by kernel_rfl, fun w2 c rest r hf hc hr hl => art_core E _ _ tb m c rest w2 r (b1.fr hf).1 (hide (b2.fr hf).1) (hide b1.2) (hide b2.2) (hide hA) (hide hA1) (hide hA2) (hide (Bx.hs (hs_keep hS hk) hf)) (hide (Nat.le_trans (lo_keep hLo hk) hf.size)) (hide hc) (hide hr) (hide hl) (hide hT)⟩⟩
end Go.Proofs.YtmplckdpddmifaaGreatDoor
