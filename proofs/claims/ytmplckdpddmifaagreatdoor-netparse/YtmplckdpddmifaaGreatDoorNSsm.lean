/- Package net: head. -/
import Derived.Test.YtmplckdpddmifaaGreatDoorNFg
import Derived.Test.YtmplckdpddmifaaGreatDoorTk
import Derived.Test.YtmplckdpddmifaaGreatDoorNMs
import Derived.Test.YtmplckdpddmifaaGreatDoorNNames
namespace Go.Proofs.YtmplckdpddmifaaGreatDoor
open Go.RowKit
attribute [local go_sem ↓] Go.wp_at_zero Go.wp_at_succ
set_option linter.unusedVariables false
set_option linter.unusedSimpArgs false
set_option maxRecDepth 10000
set_option maxHeartbeats 4000000 in
theorem head_core (E : Env) (tb : Nat) (w : World) (r : List Tok) (A0 : Hid (E.A 0 = (tb, 10))) (A1 : Hid (E.A 1 = (tb, 0))) (A2 : Hid (E.A 2 = (tb, 1))) (A3 : Hid (E.A 3 = (tb, 2))) (A4 : Hid (E.A 4 = (tb, 3))) (A5 : Hid (E.A 5 = (tb, 4))) (A6 : Hid (E.A 6 = (tb, 5))) (A7 : Hid (E.A 7 = (tb, 6))) (A8 : Hid (E.A 8 = (tb, 7))) (A9 : Hid (E.A 9 = (tb, 8))) (A10 : Hid (E.A 10 = (tb, 9)))
    (HS : Hid (∀ b, E.S b → b < w.heap.size)) (HLo : Hid (E.lo ≤ w.heap.size)) (HR : Hid (Rdr E w r)) (HL : Hid (Cel E w [dI 0, dS [], dI 0, dI 0, dI 0, dI 0, dI 0, dI 0, dI 0, dI 0, dI 0])) :
    Calls Tryz.prog 73 #[.pointer (some ⟨E.rb, 0, none⟩), .pointer (some ⟨tb, 0, none⟩)] w (Post E w [] 11 (sq [pPos, pName, pThe [118, 111, 108, 117, 109, 101], pNum, pThe [102, 108, 111, 119], pNum, pThe [117, 115, 101], pFrac, pThe [115, 112, 101, 101, 100], pNum, pThe [103, 114, 97, 100, 101], pGrade, pThe [119, 105, 100, 116, 104], pNum, pThe [108, 101, 110, 103, 116, 104], pNum, pThe [103, 114, 101, 101, 110], pNum, pThe [59]] [] r)) := by
  have HK0 := hide (Keep.refl w).drew
  have HS0 : Hid (∀ b, E.S b → b < w.drew.heap.size) := HS
  have HLo0 : Hid (E.lo ≤ w.drew.heap.size) := HLo
  go_enter Tryz.func73, Tryz.ntmps73
  go_wp2_with fail
  refine wp_region_held_drew (S := fun _ => True) (by kernel_rfl) (by trivial) (fun hHeld => ?_)
  refine tkk 0 5 hHeld ?_; try simp only [Act.put, Ya, Yb, Yc]
  refine tkk 1 6 hHeld ?_; try simp only [Act.put, Ya, Yb, Yc]
  refine tkk 2 7 hHeld ?_; try simp only [Act.put, Ya, Yb, Yc]
  refine tkk 3 8 hHeld ?_; try simp only [Act.put, Ya, Yb, Yc]
  refine tkk 5 10 hHeld ?_; try simp only [Act.put, Ya, Yb, Yc]
  refine tkk 6 11 hHeld ?_; try simp only [Act.put, Ya, Yb, Yc]
  refine tkk 7 12 hHeld ?_; try simp only [Act.put, Ya, Yb, Yc]
  refine tkk 8 13 hHeld ?_; try simp only [Act.put, Ya, Yb, Yc]
  refine tkk 10 15 hHeld ?_; try simp only [Act.put, Ya, Yb, Yc]
  refine tkk 12 17 hHeld ?_; try simp only [Act.put, Ya, Yb, Yc]
  refine tkk 13 18 hHeld ?_; try simp only [Act.put, Ya, Yb, Yc]
  refine tkk 14 19 hHeld ?_; try simp only [Act.put, Ya, Yb, Yc]
  refine tkk 15 20 hHeld ?_; try simp only [Act.put, Ya, Yb, Yc]
  refine tkk 17 22 hHeld ?_; try simp only [Act.put, Ya, Yb, Yc]
  refine tkk 19 24 hHeld ?_; try simp only [Act.put, Ya, Yb, Yc]
  refine tkk 20 25 hHeld ?_; try simp only [Act.put, Ya, Yb, Yc]
  refine tkk 21 26 hHeld ?_; try simp only [Act.put, Ya, Yb, Yc]
  refine tkk 22 27 hHeld ?_; try simp only [Act.put, Ya, Yb, Yc]
  refine tkk 24 29 hHeld ?_; try simp only [Act.put, Ya, Yb, Yc]
  refine tkk 26 31 hHeld ?_; try simp only [Act.put, Ya, Yb, Yc]
  refine tkk 27 32 hHeld ?_; try simp only [Act.put, Ya, Yb, Yc]
  refine tkk 28 33 hHeld ?_; try simp only [Act.put, Ya, Yb, Yc]
  refine tkk 29 34 hHeld ?_; try simp only [Act.put, Ya, Yb, Yc]
  refine tkk 31 36 hHeld ?_; try simp only [Act.put, Ya, Yb, Yc]
  refine tkk 33 38 hHeld ?_; try simp only [Act.put, Ya, Yb, Yc]
  refine tkk 34 39 hHeld ?_; try simp only [Act.put, Ya, Yb, Yc]
  refine tkk 35 40 hHeld ?_; try simp only [Act.put, Ya, Yb, Yc]
  refine tkk 36 41 hHeld ?_; try simp only [Act.put, Ya, Yb, Yc]
  refine tkk 38 43 hHeld ?_; try simp only [Act.put, Ya, Yb, Yc]
  refine tkk 40 45 hHeld ?_; try simp only [Act.put, Ya, Yb, Yc]
  refine tkk 41 46 hHeld ?_; try simp only [Act.put, Ya, Yb, Yc]
  refine tkk 42 47 hHeld ?_; try simp only [Act.put, Ya, Yb, Yc]
  refine tkk 43 48 hHeld ?_; try simp only [Act.put, Ya, Yb, Yc]
  refine tkk 45 50 hHeld ?_; try simp only [Act.put, Ya, Yb, Yc]
  refine tkk 47 52 hHeld ?_; try simp only [Act.put, Ya, Yb, Yc]
  refine tkk 48 53 hHeld ?_; try simp only [Act.put, Ya, Yb, Yc]
  refine tkk 49 54 hHeld ?_; try simp only [Act.put, Ya, Yb, Yc]
  refine tkk 50 55 hHeld ?_; try simp only [Act.put, Ya, Yb, Yc]
  refine tkk 52 57 hHeld ?_; try simp only [Act.put, Ya, Yb, Yc]
  refine tkk 54 59 hHeld ?_; try simp only [Act.put, Ya, Yb, Yc]
  refine tkk 55 60 hHeld ?_; try simp only [Act.put, Ya, Yb, Yc]
  refine tkk 56 61 hHeld ?_; try simp only [Act.put, Ya, Yb, Yc]
  refine tkk 57 62 hHeld ?_; try simp only [Act.put, Ya, Yb, Yc]
  refine tkk 59 64 hHeld ?_; try simp only [Act.put, Ya, Yb, Yc]
  refine tkk 61 66 hHeld ?_; try simp only [Act.put, Ya, Yb, Yc]
  refine tkk 62 67 hHeld ?_; try simp only [Act.put, Ya, Yb, Yc]
  refine tkk 63 68 hHeld ?_; try simp only [Act.put, Ya, Yb, Yc]
  refine tkk 64 69 hHeld ?_; try simp only [Act.put, Ya, Yb, Yc]
  refine tkk 66 71 hHeld ?_; try simp only [Act.put, Ya, Yb, Yc]
  refine rdyy 4 (fun K hK => ?_)
  go_simp
  clear hHeld
  (refine (pos_any (E := E) (dI 0) (0) _ _ (uq A0) _ (uq HS0)).mono ?_; rintro e w1 ⟨f1, x1, y1, rfl, hk, hd⟩; have HS1 := hide (hs_keep (uq HS0) hk); have HLo1 := hide (lo_keep (uq HLo0) hk); have HK1 := hide ((uq HK0).trans hk); have HC1 : Hid (Chain E w1 (0) [(.func (.func f1) x1 y1, [dI 0], pPos)]) := hide ⟨hd, trivial⟩; clear hk hd)
  try go_wp2_with fail
  refine hK.out _ _ ?_ (fun hHeld => ?_)
  · trivial
  clear hK K
  try simp only [Act.put, Ya, Yb, Yc]
  refine rdyy 9 (fun K hK => ?_)
  go_simp
  clear hHeld
  (refine (name_any (E := E) (dS []) (1) _ _ (uq A1) _ (uq HS1)).mono ?_; rintro e w2 ⟨f2, x2, y2, rfl, hk, hd⟩; have HS2 := hide (hs_keep (uq HS1) hk); have HLo2 := hide (lo_keep (uq HLo1) hk); have HK2 := hide ((uq HK1).trans hk); have HC2 : Hid (Chain E w2 (0) [(.func (.func f1) x1 y1, [dI 0], pPos), (.func (.func f2) x2 y2, [dS []], pName)]) := hide (chain_snoc (uq HC1) hk hd); clear hk hd)
  try go_wp2_with fail
  refine hK.out _ _ ?_ (fun hHeld => ?_)
  · trivial
  clear hK K
  try simp only [Act.put, Ya, Yb, Yc]
  refine rdyy 11 (fun K hK => ?_)
  go_simp
  clear hHeld
  (refine (the_any (E := E) [118, 111, 108, 117, 109, 101] (by decide) (2) _ (uq HS2)).mono ?_; rintro e w3 ⟨f3, x3, y3, rfl, hk, hd⟩; have HS3 := hide (hs_keep (uq HS2) hk); have HLo3 := hide (lo_keep (uq HLo2) hk); have HK3 := hide ((uq HK2).trans hk); have HC3 : Hid (Chain E w3 (0) [(.func (.func f1) x1 y1, [dI 0], pPos), (.func (.func f2) x2 y2, [dS []], pName), (.func (.func f3) x3 y3, [], pThe [118, 111, 108, 117, 109, 101])]) := hide (chain_snoc (uq HC2) hk hd); clear hk hd)
  try go_wp2_with fail
  refine hK.out _ _ ?_ (fun hHeld => ?_)
  · trivial
  clear hK K
  try simp only [Act.put, Ya, Yb, Yc]
  refine rdyy 16 (fun K hK => ?_)
  go_simp
  clear hHeld
  (refine (num_any (E := E) (dI 0) (2) _ _ (uq A2) _ (uq HS3)).mono ?_; rintro e w4 ⟨f4, x4, y4, rfl, hk, hd⟩; have HS4 := hide (hs_keep (uq HS3) hk); have HLo4 := hide (lo_keep (uq HLo3) hk); have HK4 := hide ((uq HK3).trans hk); have HC4 : Hid (Chain E w4 (0) [(.func (.func f1) x1 y1, [dI 0], pPos), (.func (.func f2) x2 y2, [dS []], pName), (.func (.func f3) x3 y3, [], pThe [118, 111, 108, 117, 109, 101]), (.func (.func f4) x4 y4, [dI 0], pNum)]) := hide (chain_snoc (uq HC3) hk hd); clear hk hd)
  try go_wp2_with fail
  refine hK.out _ _ ?_ (fun hHeld => ?_)
  · trivial
  clear hK K
  try simp only [Act.put, Ya, Yb, Yc]
  refine rdyy 18 (fun K hK => ?_)
  go_simp
  clear hHeld
  (refine (the_any (E := E) [102, 108, 111, 119] (by decide) (3) _ (uq HS4)).mono ?_; rintro e w5 ⟨f5, x5, y5, rfl, hk, hd⟩; have HS5 := hide (hs_keep (uq HS4) hk); have HLo5 := hide (lo_keep (uq HLo4) hk); have HK5 := hide ((uq HK4).trans hk); have HC5 : Hid (Chain E w5 (0) [(.func (.func f1) x1 y1, [dI 0], pPos), (.func (.func f2) x2 y2, [dS []], pName), (.func (.func f3) x3 y3, [], pThe [118, 111, 108, 117, 109, 101]), (.func (.func f4) x4 y4, [dI 0], pNum), (.func (.func f5) x5 y5, [], pThe [102, 108, 111, 119])]) := hide (chain_snoc (uq HC4) hk hd); clear hk hd)
  try go_wp2_with fail
  refine hK.out _ _ ?_ (fun hHeld => ?_)
  · trivial
  clear hK K
  try simp only [Act.put, Ya, Yb, Yc]
  refine rdyy 23 (fun K hK => ?_)
  go_simp
  clear hHeld
  (refine (num_any (E := E) (dI 0) (3) _ _ (uq A3) _ (uq HS5)).mono ?_; rintro e w6 ⟨f6, x6, y6, rfl, hk, hd⟩; have HS6 := hide (hs_keep (uq HS5) hk); have HLo6 := hide (lo_keep (uq HLo5) hk); have HK6 := hide ((uq HK5).trans hk); have HC6 : Hid (Chain E w6 (0) [(.func (.func f1) x1 y1, [dI 0], pPos), (.func (.func f2) x2 y2, [dS []], pName), (.func (.func f3) x3 y3, [], pThe [118, 111, 108, 117, 109, 101]), (.func (.func f4) x4 y4, [dI 0], pNum), (.func (.func f5) x5 y5, [], pThe [102, 108, 111, 119]), (.func (.func f6) x6 y6, [dI 0], pNum)]) := hide (chain_snoc (uq HC5) hk hd); clear hk hd)
  try go_wp2_with fail
  refine hK.out _ _ ?_ (fun hHeld => ?_)
  · trivial
  clear hK K
  try simp only [Act.put, Ya, Yb, Yc]
  refine rdyy 25 (fun K hK => ?_)
  go_simp
  clear hHeld
  (refine (the_any (E := E) [117, 115, 101] (by decide) (4) _ (uq HS6)).mono ?_; rintro e w7 ⟨f7, x7, y7, rfl, hk, hd⟩; have HS7 := hide (hs_keep (uq HS6) hk); have HLo7 := hide (lo_keep (uq HLo6) hk); have HK7 := hide ((uq HK6).trans hk); have HC7 : Hid (Chain E w7 (0) [(.func (.func f1) x1 y1, [dI 0], pPos), (.func (.func f2) x2 y2, [dS []], pName), (.func (.func f3) x3 y3, [], pThe [118, 111, 108, 117, 109, 101]), (.func (.func f4) x4 y4, [dI 0], pNum), (.func (.func f5) x5 y5, [], pThe [102, 108, 111, 119]), (.func (.func f6) x6 y6, [dI 0], pNum), (.func (.func f7) x7 y7, [], pThe [117, 115, 101])]) := hide (chain_snoc (uq HC6) hk hd); clear hk hd)
  try go_wp2_with fail
  refine hK.out _ _ ?_ (fun hHeld => ?_)
  · trivial
  clear hK K
  try simp only [Act.put, Ya, Yb, Yc]
  refine rdyy 30 (fun K hK => ?_)
  go_simp
  clear hHeld
  (refine (frac_any (E := E) (4) _ _ (uq A4) (uq A5) _ (uq HS7)).mono ?_; rintro e w8 ⟨f8, x8, y8, rfl, hk, hd⟩; have HS8 := hide (hs_keep (uq HS7) hk); have HLo8 := hide (lo_keep (uq HLo7) hk); have HK8 := hide ((uq HK7).trans hk); have HC8 : Hid (Chain E w8 (0) [(.func (.func f1) x1 y1, [dI 0], pPos), (.func (.func f2) x2 y2, [dS []], pName), (.func (.func f3) x3 y3, [], pThe [118, 111, 108, 117, 109, 101]), (.func (.func f4) x4 y4, [dI 0], pNum), (.func (.func f5) x5 y5, [], pThe [102, 108, 111, 119]), (.func (.func f6) x6 y6, [dI 0], pNum), (.func (.func f7) x7 y7, [], pThe [117, 115, 101]), (.func (.func f8) x8 y8, [dI 0, dI 0], pFrac)]) := hide (chain_snoc (uq HC7) hk hd); clear hk hd)
  try go_wp2_with fail
  refine hK.out _ _ ?_ (fun hHeld => ?_)
  · trivial
  clear hK K
  try simp only [Act.put, Ya, Yb, Yc]
  refine rdyy 32 (fun K hK => ?_)
  go_simp
  clear hHeld
  (refine (the_any (E := E) [115, 112, 101, 101, 100] (by decide) (6) _ (uq HS8)).mono ?_; rintro e w9 ⟨f9, x9, y9, rfl, hk, hd⟩; have HS9 := hide (hs_keep (uq HS8) hk); have HLo9 := hide (lo_keep (uq HLo8) hk); have HK9 := hide ((uq HK8).trans hk); have HC9 : Hid (Chain E w9 (0) [(.func (.func f1) x1 y1, [dI 0], pPos), (.func (.func f2) x2 y2, [dS []], pName), (.func (.func f3) x3 y3, [], pThe [118, 111, 108, 117, 109, 101]), (.func (.func f4) x4 y4, [dI 0], pNum), (.func (.func f5) x5 y5, [], pThe [102, 108, 111, 119]), (.func (.func f6) x6 y6, [dI 0], pNum), (.func (.func f7) x7 y7, [], pThe [117, 115, 101]), (.func (.func f8) x8 y8, [dI 0, dI 0], pFrac), (.func (.func f9) x9 y9, [], pThe [115, 112, 101, 101, 100])]) := hide (chain_snoc (uq HC8) hk hd); clear hk hd)
  try go_wp2_with fail
  refine hK.out _ _ ?_ (fun hHeld => ?_)
  · trivial
  clear hK K
  try simp only [Act.put, Ya, Yb, Yc]
  refine rdyy 37 (fun K hK => ?_)
  go_simp
  clear hHeld
  (refine (num_any (E := E) (dI 0) (6) _ _ (uq A6) _ (uq HS9)).mono ?_; rintro e w10 ⟨f10, x10, y10, rfl, hk, hd⟩; have HS10 := hide (hs_keep (uq HS9) hk); have HLo10 := hide (lo_keep (uq HLo9) hk); have HK10 := hide ((uq HK9).trans hk); have HC10 : Hid (Chain E w10 (0) [(.func (.func f1) x1 y1, [dI 0], pPos), (.func (.func f2) x2 y2, [dS []], pName), (.func (.func f3) x3 y3, [], pThe [118, 111, 108, 117, 109, 101]), (.func (.func f4) x4 y4, [dI 0], pNum), (.func (.func f5) x5 y5, [], pThe [102, 108, 111, 119]), (.func (.func f6) x6 y6, [dI 0], pNum), (.func (.func f7) x7 y7, [], pThe [117, 115, 101]), (.func (.func f8) x8 y8, [dI 0, dI 0], pFrac), (.func (.func f9) x9 y9, [], pThe [115, 112, 101, 101, 100]), (.func (.func f10) x10 y10, [dI 0], pNum)]) := hide (chain_snoc (uq HC9) hk hd); clear hk hd)
  try go_wp2_with fail
  refine hK.out _ _ ?_ (fun hHeld => ?_)
  · trivial
  clear hK K
  try simp only [Act.put, Ya, Yb, Yc]
  refine rdyy 39 (fun K hK => ?_)
  go_simp
  clear hHeld
  (refine (the_any (E := E) [103, 114, 97, 100, 101] (by decide) (7) _ (uq HS10)).mono ?_; rintro e w11 ⟨f11, x11, y11, rfl, hk, hd⟩; have HS11 := hide (hs_keep (uq HS10) hk); have HLo11 := hide (lo_keep (uq HLo10) hk); have HK11 := hide ((uq HK10).trans hk); have HC11 : Hid (Chain E w11 (0) [(.func (.func f1) x1 y1, [dI 0], pPos), (.func (.func f2) x2 y2, [dS []], pName), (.func (.func f3) x3 y3, [], pThe [118, 111, 108, 117, 109, 101]), (.func (.func f4) x4 y4, [dI 0], pNum), (.func (.func f5) x5 y5, [], pThe [102, 108, 111, 119]), (.func (.func f6) x6 y6, [dI 0], pNum), (.func (.func f7) x7 y7, [], pThe [117, 115, 101]), (.func (.func f8) x8 y8, [dI 0, dI 0], pFrac), (.func (.func f9) x9 y9, [], pThe [115, 112, 101, 101, 100]), (.func (.func f10) x10 y10, [dI 0], pNum), (.func (.func f11) x11 y11, [], pThe [103, 114, 97, 100, 101])]) := hide (chain_snoc (uq HC10) hk hd); clear hk hd)
  try go_wp2_with fail
  refine hK.out _ _ ?_ (fun hHeld => ?_)
  · trivial
  clear hK K
  try simp only [Act.put, Ya, Yb, Yc]
  refine rdyy 44 (fun K hK => ?_)
  go_simp
  clear hHeld
  (refine (grade_any (E := E) (7) _ _ (uq A7) _ (uq HS11)).mono ?_; rintro e w12 ⟨f12, x12, y12, rfl, hk, hd⟩; have HS12 := hide (hs_keep (uq HS11) hk); have HLo12 := hide (lo_keep (uq HLo11) hk); have HK12 := hide ((uq HK11).trans hk); have HC12 : Hid (Chain E w12 (0) [(.func (.func f1) x1 y1, [dI 0], pPos), (.func (.func f2) x2 y2, [dS []], pName), (.func (.func f3) x3 y3, [], pThe [118, 111, 108, 117, 109, 101]), (.func (.func f4) x4 y4, [dI 0], pNum), (.func (.func f5) x5 y5, [], pThe [102, 108, 111, 119]), (.func (.func f6) x6 y6, [dI 0], pNum), (.func (.func f7) x7 y7, [], pThe [117, 115, 101]), (.func (.func f8) x8 y8, [dI 0, dI 0], pFrac), (.func (.func f9) x9 y9, [], pThe [115, 112, 101, 101, 100]), (.func (.func f10) x10 y10, [dI 0], pNum), (.func (.func f11) x11 y11, [], pThe [103, 114, 97, 100, 101]), (.func (.func f12) x12 y12, [dI 0], pGrade)]) := hide (chain_snoc (uq HC11) hk hd); clear hk hd)
  try go_wp2_with fail
  refine hK.out _ _ ?_ (fun hHeld => ?_)
  · trivial
  clear hK K
  try simp only [Act.put, Ya, Yb, Yc]
  refine rdyy 46 (fun K hK => ?_)
  go_simp
  clear hHeld
  (refine (the_any (E := E) [119, 105, 100, 116, 104] (by decide) (8) _ (uq HS12)).mono ?_; rintro e w13 ⟨f13, x13, y13, rfl, hk, hd⟩; have HS13 := hide (hs_keep (uq HS12) hk); have HLo13 := hide (lo_keep (uq HLo12) hk); have HK13 := hide ((uq HK12).trans hk); have HC13 : Hid (Chain E w13 (0) [(.func (.func f1) x1 y1, [dI 0], pPos), (.func (.func f2) x2 y2, [dS []], pName), (.func (.func f3) x3 y3, [], pThe [118, 111, 108, 117, 109, 101]), (.func (.func f4) x4 y4, [dI 0], pNum), (.func (.func f5) x5 y5, [], pThe [102, 108, 111, 119]), (.func (.func f6) x6 y6, [dI 0], pNum), (.func (.func f7) x7 y7, [], pThe [117, 115, 101]), (.func (.func f8) x8 y8, [dI 0, dI 0], pFrac), (.func (.func f9) x9 y9, [], pThe [115, 112, 101, 101, 100]), (.func (.func f10) x10 y10, [dI 0], pNum), (.func (.func f11) x11 y11, [], pThe [103, 114, 97, 100, 101]), (.func (.func f12) x12 y12, [dI 0], pGrade), (.func (.func f13) x13 y13, [], pThe [119, 105, 100, 116, 104])]) := hide (chain_snoc (uq HC12) hk hd); clear hk hd)
  try go_wp2_with fail
  refine hK.out _ _ ?_ (fun hHeld => ?_)
  · trivial
  clear hK K
  try simp only [Act.put, Ya, Yb, Yc]
  refine rdyy 51 (fun K hK => ?_)
  go_simp
  clear hHeld
  (refine (num_any (E := E) (dI 0) (8) _ _ (uq A8) _ (uq HS13)).mono ?_; rintro e w14 ⟨f14, x14, y14, rfl, hk, hd⟩; have HS14 := hide (hs_keep (uq HS13) hk); have HLo14 := hide (lo_keep (uq HLo13) hk); have HK14 := hide ((uq HK13).trans hk); have HC14 : Hid (Chain E w14 (0) [(.func (.func f1) x1 y1, [dI 0], pPos), (.func (.func f2) x2 y2, [dS []], pName), (.func (.func f3) x3 y3, [], pThe [118, 111, 108, 117, 109, 101]), (.func (.func f4) x4 y4, [dI 0], pNum), (.func (.func f5) x5 y5, [], pThe [102, 108, 111, 119]), (.func (.func f6) x6 y6, [dI 0], pNum), (.func (.func f7) x7 y7, [], pThe [117, 115, 101]), (.func (.func f8) x8 y8, [dI 0, dI 0], pFrac), (.func (.func f9) x9 y9, [], pThe [115, 112, 101, 101, 100]), (.func (.func f10) x10 y10, [dI 0], pNum), (.func (.func f11) x11 y11, [], pThe [103, 114, 97, 100, 101]), (.func (.func f12) x12 y12, [dI 0], pGrade), (.func (.func f13) x13 y13, [], pThe [119, 105, 100, 116, 104]), (.func (.func f14) x14 y14, [dI 0], pNum)]) := hide (chain_snoc (uq HC13) hk hd); clear hk hd)
  try go_wp2_with fail
  refine hK.out _ _ ?_ (fun hHeld => ?_)
  · trivial
  clear hK K
  try simp only [Act.put, Ya, Yb, Yc]
  refine rdyy 53 (fun K hK => ?_)
  go_simp
  clear hHeld
  (refine (the_any (E := E) [108, 101, 110, 103, 116, 104] (by decide) (9) _ (uq HS14)).mono ?_; rintro e w15 ⟨f15, x15, y15, rfl, hk, hd⟩; have HS15 := hide (hs_keep (uq HS14) hk); have HLo15 := hide (lo_keep (uq HLo14) hk); have HK15 := hide ((uq HK14).trans hk); have HC15 : Hid (Chain E w15 (0) [(.func (.func f1) x1 y1, [dI 0], pPos), (.func (.func f2) x2 y2, [dS []], pName), (.func (.func f3) x3 y3, [], pThe [118, 111, 108, 117, 109, 101]), (.func (.func f4) x4 y4, [dI 0], pNum), (.func (.func f5) x5 y5, [], pThe [102, 108, 111, 119]), (.func (.func f6) x6 y6, [dI 0], pNum), (.func (.func f7) x7 y7, [], pThe [117, 115, 101]), (.func (.func f8) x8 y8, [dI 0, dI 0], pFrac), (.func (.func f9) x9 y9, [], pThe [115, 112, 101, 101, 100]), (.func (.func f10) x10 y10, [dI 0], pNum), (.func (.func f11) x11 y11, [], pThe [103, 114, 97, 100, 101]), (.func (.func f12) x12 y12, [dI 0], pGrade), (.func (.func f13) x13 y13, [], pThe [119, 105, 100, 116, 104]), (.func (.func f14) x14 y14, [dI 0], pNum), (.func (.func f15) x15 y15, [], pThe [108, 101, 110, 103, 116, 104])]) := hide (chain_snoc (uq HC14) hk hd); clear hk hd)
  try go_wp2_with fail
  refine hK.out _ _ ?_ (fun hHeld => ?_)
  · trivial
  clear hK K
  try simp only [Act.put, Ya, Yb, Yc]
  refine rdyy 58 (fun K hK => ?_)
  go_simp
  clear hHeld
  (refine (num_any (E := E) (dI 0) (9) _ _ (uq A9) _ (uq HS15)).mono ?_; rintro e w16 ⟨f16, x16, y16, rfl, hk, hd⟩; have HS16 := hide (hs_keep (uq HS15) hk); have HLo16 := hide (lo_keep (uq HLo15) hk); have HK16 := hide ((uq HK15).trans hk); have HC16 : Hid (Chain E w16 (0) [(.func (.func f1) x1 y1, [dI 0], pPos), (.func (.func f2) x2 y2, [dS []], pName), (.func (.func f3) x3 y3, [], pThe [118, 111, 108, 117, 109, 101]), (.func (.func f4) x4 y4, [dI 0], pNum), (.func (.func f5) x5 y5, [], pThe [102, 108, 111, 119]), (.func (.func f6) x6 y6, [dI 0], pNum), (.func (.func f7) x7 y7, [], pThe [117, 115, 101]), (.func (.func f8) x8 y8, [dI 0, dI 0], pFrac), (.func (.func f9) x9 y9, [], pThe [115, 112, 101, 101, 100]), (.func (.func f10) x10 y10, [dI 0], pNum), (.func (.func f11) x11 y11, [], pThe [103, 114, 97, 100, 101]), (.func (.func f12) x12 y12, [dI 0], pGrade), (.func (.func f13) x13 y13, [], pThe [119, 105, 100, 116, 104]), (.func (.func f14) x14 y14, [dI 0], pNum), (.func (.func f15) x15 y15, [], pThe [108, 101, 110, 103, 116, 104]), (.func (.func f16) x16 y16, [dI 0], pNum)]) := hide (chain_snoc (uq HC15) hk hd); clear hk hd)
  try go_wp2_with fail
  refine hK.out _ _ ?_ (fun hHeld => ?_)
  · trivial
  clear hK K
  try simp only [Act.put, Ya, Yb, Yc]
  refine rdyy 60 (fun K hK => ?_)
  go_simp
  clear hHeld
  (refine (the_any (E := E) [103, 114, 101, 101, 110] (by decide) (10) _ (uq HS16)).mono ?_; rintro e w17 ⟨f17, x17, y17, rfl, hk, hd⟩; have HS17 := hide (hs_keep (uq HS16) hk); have HLo17 := hide (lo_keep (uq HLo16) hk); have HK17 := hide ((uq HK16).trans hk); have HC17 : Hid (Chain E w17 (0) [(.func (.func f1) x1 y1, [dI 0], pPos), (.func (.func f2) x2 y2, [dS []], pName), (.func (.func f3) x3 y3, [], pThe [118, 111, 108, 117, 109, 101]), (.func (.func f4) x4 y4, [dI 0], pNum), (.func (.func f5) x5 y5, [], pThe [102, 108, 111, 119]), (.func (.func f6) x6 y6, [dI 0], pNum), (.func (.func f7) x7 y7, [], pThe [117, 115, 101]), (.func (.func f8) x8 y8, [dI 0, dI 0], pFrac), (.func (.func f9) x9 y9, [], pThe [115, 112, 101, 101, 100]), (.func (.func f10) x10 y10, [dI 0], pNum), (.func (.func f11) x11 y11, [], pThe [103, 114, 97, 100, 101]), (.func (.func f12) x12 y12, [dI 0], pGrade), (.func (.func f13) x13 y13, [], pThe [119, 105, 100, 116, 104]), (.func (.func f14) x14 y14, [dI 0], pNum), (.func (.func f15) x15 y15, [], pThe [108, 101, 110, 103, 116, 104]), (.func (.func f16) x16 y16, [dI 0], pNum), (.func (.func f17) x17 y17, [], pThe [103, 114, 101, 101, 110])]) := hide (chain_snoc (uq HC16) hk hd); clear hk hd)
  try go_wp2_with fail
  refine hK.out _ _ ?_ (fun hHeld => ?_)
  · trivial
  clear hK K
  try simp only [Act.put, Ya, Yb, Yc]
  refine rdyy 65 (fun K hK => ?_)
  go_simp
  clear hHeld
  (refine (num_any (E := E) (dI 0) (10) _ _ (uq A10) _ (uq HS17)).mono ?_; rintro e w18 ⟨f18, x18, y18, rfl, hk, hd⟩; have HS18 := hide (hs_keep (uq HS17) hk); have HLo18 := hide (lo_keep (uq HLo17) hk); have HK18 := hide ((uq HK17).trans hk); have HC18 : Hid (Chain E w18 (0) [(.func (.func f1) x1 y1, [dI 0], pPos), (.func (.func f2) x2 y2, [dS []], pName), (.func (.func f3) x3 y3, [], pThe [118, 111, 108, 117, 109, 101]), (.func (.func f4) x4 y4, [dI 0], pNum), (.func (.func f5) x5 y5, [], pThe [102, 108, 111, 119]), (.func (.func f6) x6 y6, [dI 0], pNum), (.func (.func f7) x7 y7, [], pThe [117, 115, 101]), (.func (.func f8) x8 y8, [dI 0, dI 0], pFrac), (.func (.func f9) x9 y9, [], pThe [115, 112, 101, 101, 100]), (.func (.func f10) x10 y10, [dI 0], pNum), (.func (.func f11) x11 y11, [], pThe [103, 114, 97, 100, 101]), (.func (.func f12) x12 y12, [dI 0], pGrade), (.func (.func f13) x13 y13, [], pThe [119, 105, 100, 116, 104]), (.func (.func f14) x14 y14, [dI 0], pNum), (.func (.func f15) x15 y15, [], pThe [108, 101, 110, 103, 116, 104]), (.func (.func f16) x16 y16, [dI 0], pNum), (.func (.func f17) x17 y17, [], pThe [103, 114, 101, 101, 110]), (.func (.func f18) x18 y18, [dI 0], pNum)]) := hide (chain_snoc (uq HC17) hk hd); clear hk hd)
  try go_wp2_with fail
  refine hK.out _ _ ?_ (fun hHeld => ?_)
  · trivial
  clear hK K
  try simp only [Act.put, Ya, Yb, Yc]
  refine rdyy 67 (fun K hK => ?_)
  go_simp
  clear hHeld
  (refine (the_any (E := E) [59] (by decide) (11) _ (uq HS18)).mono ?_; rintro e w19 ⟨f19, x19, y19, rfl, hk, hd⟩; have HS19 := hide (hs_keep (uq HS18) hk); have HLo19 := hide (lo_keep (uq HLo18) hk); have HK19 := hide ((uq HK18).trans hk); have HC19 : Hid (Chain E w19 (0) [(.func (.func f1) x1 y1, [dI 0], pPos), (.func (.func f2) x2 y2, [dS []], pName), (.func (.func f3) x3 y3, [], pThe [118, 111, 108, 117, 109, 101]), (.func (.func f4) x4 y4, [dI 0], pNum), (.func (.func f5) x5 y5, [], pThe [102, 108, 111, 119]), (.func (.func f6) x6 y6, [dI 0], pNum), (.func (.func f7) x7 y7, [], pThe [117, 115, 101]), (.func (.func f8) x8 y8, [dI 0, dI 0], pFrac), (.func (.func f9) x9 y9, [], pThe [115, 112, 101, 101, 100]), (.func (.func f10) x10 y10, [dI 0], pNum), (.func (.func f11) x11 y11, [], pThe [103, 114, 97, 100, 101]), (.func (.func f12) x12 y12, [dI 0], pGrade), (.func (.func f13) x13 y13, [], pThe [119, 105, 100, 116, 104]), (.func (.func f14) x14 y14, [dI 0], pNum), (.func (.func f15) x15 y15, [], pThe [108, 101, 110, 103, 116, 104]), (.func (.func f16) x16 y16, [dI 0], pNum), (.func (.func f17) x17 y17, [], pThe [103, 114, 101, 101, 110]), (.func (.func f18) x18 y18, [dI 0], pNum), (.func (.func f19) x19 y19, [], pThe [59])]) := hide (chain_snoc (uq HC18) hk hd); clear hk hd)
  try go_wp2_with fail
  refine hK.out _ _ ?_ (fun hHeld => ?_)
  · trivial
  clear hK K
  try simp only [Act.put, Ya, Yb, Yc]
  refine rdyy 68 (fun K hK => ?_)
  go_simp
  clear hHeld
  refine hK.out _ _ ?_ (fun hHeld => ?_)
  · trivial
  clear hK K
  try simp only [Act.put, Ya, Yb, Yc]
  refine rdyy 69 (fun K hK => ?_)
  go_simp
  clear hHeld
  (refine (order_any (E := E) (m := 0) (ss := [(.func (.func f1) x1 y1, [dI 0], pPos), (.func (.func f2) x2 y2, [dS []], pName), (.func (.func f3) x3 y3, [], pThe [118, 111, 108, 117, 109, 101]), (.func (.func f4) x4 y4, [dI 0], pNum), (.func (.func f5) x5 y5, [], pThe [102, 108, 111, 119]), (.func (.func f6) x6 y6, [dI 0], pNum), (.func (.func f7) x7 y7, [], pThe [117, 115, 101]), (.func (.func f8) x8 y8, [dI 0, dI 0], pFrac), (.func (.func f9) x9 y9, [], pThe [115, 112, 101, 101, 100]), (.func (.func f10) x10 y10, [dI 0], pNum), (.func (.func f11) x11 y11, [], pThe [103, 114, 97, 100, 101]), (.func (.func f12) x12 y12, [dI 0], pGrade), (.func (.func f13) x13 y13, [], pThe [119, 105, 100, 116, 104]), (.func (.func f14) x14 y14, [dI 0], pNum), (.func (.func f15) x15 y15, [], pThe [108, 101, 110, 103, 116, 104]), (.func (.func f16) x16 y16, [dI 0], pNum), (.func (.func f17) x17 y17, [], pThe [103, 114, 101, 101, 110]), (.func (.func f18) x18 y18, [dI 0], pNum), (.func (.func f19) x19 y19, [], pThe [59])]) (c := []) (rest := []) (r := r) (by simp) (chain_keep ((Keep.refl _).alloc _) (uq HC19)) (new_steps _ _ _) (fun h => Nat.lt_irrefl _ ((uq HS19) _ h)) rfl ((uq HR).keep ((uq HK19).alloc _)) ((uq HL).keep ((uq HK19).alloc _))).mono ?_; rintro e wz hp; obtain ⟨vz, rfl⟩ := post_ret hp; have HP := hide hp; have HKz := hide ((uq HK19).alloc (.cells #[.func (.func f1) x1 y1, .func (.func f2) x2 y2, .func (.func f3) x3 y3, .func (.func f4) x4 y4, .func (.func f5) x5 y5, .func (.func f6) x6 y6, .func (.func f7) x7 y7, .func (.func f8) x8 y8, .func (.func f9) x9 y9, .func (.func f10) x10 y10, .func (.func f11) x11 y11, .func (.func f12) x12 y12, .func (.func f13) x13 y13, .func (.func f14) x14 y14, .func (.func f15) x15 y15, .func (.func f16) x16 y16, .func (.func f17) x17 y17, .func (.func f18) x18 y18, .func (.func f19) x19 y19] 121)); clear hp)
  try go_wp2_with fail
  refine hK.out _ _ ?_ (fun hHeld => ?_)
  · trivial
  clear hK K
  try simp only [Act.put, Ya, Yb, Yc]
  refine tkk 70 4 hHeld ?_; try simp only [Act.put, Ya, Yb, Yc]
  refine wpAnyH_done (by kernel_rfl) ?_ _
  clear hHeld
  go_wp2_with fail
  go_ret
  exact post_pre (.keep (uq HKz)) (uq HP)
end Go.Proofs.YtmplckdpddmifaaGreatDoor
namespace Go.Proofs.YtmplckdpddmifaaGreatDoor
open Go.RowKit
attribute [local go_sem ↓] Go.wp_at_zero Go.wp_at_succ
set_option linter.unusedVariables false
set_option linter.unusedSimpArgs false
set_option maxRecDepth 10000
set_option maxHeartbeats 4000000 in
theorem walk_core (E : Env) (tb : Nat) (w : World) (r : List Tok) (A0 : Hid (E.A 0 = (tb, 5))) (A1 : Hid (E.A 1 = (tb, 0))) (A2 : Hid (E.A 2 = (tb, 1))) (A3 : Hid (E.A 3 = (tb, 2))) (A4 : Hid (E.A 4 = (tb, 3))) (A5 : Hid (E.A 5 = (tb, 4)))
    (HS : Hid (∀ b, E.S b → b < w.heap.size)) (HLo : Hid (E.lo ≤ w.heap.size)) (HR : Hid (Rdr E w r)) (HL : Hid (Cel E w [dI 0, dS [], dS [], dI 0, dI 0, dI 0])) :
    Calls Tryz.prog 75 #[.pointer (some ⟨E.rb, 0, none⟩), .pointer (some ⟨tb, 0, none⟩)] w (Post E w [] 6 (sq [pPos, pName, pThe [119, 105, 116, 104], pName, pThe [108, 111, 110, 103], pNum, pThe [112, 97, 99, 101], pNum, pThe [108, 101, 97, 115, 116], pNum, pThe [59]] [] r)) := by
  have HK0 := hide (Keep.refl w).drew
  have HS0 : Hid (∀ b, E.S b → b < w.drew.heap.size) := HS
  have HLo0 : Hid (E.lo ≤ w.drew.heap.size) := HLo
  go_enter Tryz.func75, Tryz.ntmps75
  go_wp2_with fail
  refine wp_region_held_drew (S := fun _ => True) (by kernel_rfl) (by trivial) (fun hHeld => ?_)
  refine tkk 0 5 hHeld ?_; try simp only [Act.put, Ya, Yb, Yc]
  refine tkk 1 6 hHeld ?_; try simp only [Act.put, Ya, Yb, Yc]
  refine tkk 2 7 hHeld ?_; try simp only [Act.put, Ya, Yb, Yc]
  refine tkk 3 8 hHeld ?_; try simp only [Act.put, Ya, Yb, Yc]
  refine tkk 5 10 hHeld ?_; try simp only [Act.put, Ya, Yb, Yc]
  refine tkk 6 11 hHeld ?_; try simp only [Act.put, Ya, Yb, Yc]
  refine tkk 7 12 hHeld ?_; try simp only [Act.put, Ya, Yb, Yc]
  refine tkk 8 13 hHeld ?_; try simp only [Act.put, Ya, Yb, Yc]
  refine tkk 10 15 hHeld ?_; try simp only [Act.put, Ya, Yb, Yc]
  refine tkk 12 17 hHeld ?_; try simp only [Act.put, Ya, Yb, Yc]
  refine tkk 13 18 hHeld ?_; try simp only [Act.put, Ya, Yb, Yc]
  refine tkk 14 19 hHeld ?_; try simp only [Act.put, Ya, Yb, Yc]
  refine tkk 15 20 hHeld ?_; try simp only [Act.put, Ya, Yb, Yc]
  refine tkk 17 22 hHeld ?_; try simp only [Act.put, Ya, Yb, Yc]
  refine tkk 19 24 hHeld ?_; try simp only [Act.put, Ya, Yb, Yc]
  refine tkk 20 25 hHeld ?_; try simp only [Act.put, Ya, Yb, Yc]
  refine tkk 21 26 hHeld ?_; try simp only [Act.put, Ya, Yb, Yc]
  refine tkk 22 27 hHeld ?_; try simp only [Act.put, Ya, Yb, Yc]
  refine tkk 24 29 hHeld ?_; try simp only [Act.put, Ya, Yb, Yc]
  refine tkk 26 31 hHeld ?_; try simp only [Act.put, Ya, Yb, Yc]
  refine tkk 27 32 hHeld ?_; try simp only [Act.put, Ya, Yb, Yc]
  refine tkk 28 33 hHeld ?_; try simp only [Act.put, Ya, Yb, Yc]
  refine tkk 29 34 hHeld ?_; try simp only [Act.put, Ya, Yb, Yc]
  refine tkk 31 36 hHeld ?_; try simp only [Act.put, Ya, Yb, Yc]
  refine tkk 33 38 hHeld ?_; try simp only [Act.put, Ya, Yb, Yc]
  refine tkk 34 39 hHeld ?_; try simp only [Act.put, Ya, Yb, Yc]
  refine tkk 35 40 hHeld ?_; try simp only [Act.put, Ya, Yb, Yc]
  refine tkk 36 41 hHeld ?_; try simp only [Act.put, Ya, Yb, Yc]
  refine tkk 38 43 hHeld ?_; try simp only [Act.put, Ya, Yb, Yc]
  refine rdyy 4 (fun K hK => ?_)
  go_simp
  clear hHeld
  (refine (pos_any (E := E) (dI 0) (0) _ _ (uq A0) _ (uq HS0)).mono ?_; rintro e w1 ⟨f1, x1, y1, rfl, hk, hd⟩; have HS1 := hide (hs_keep (uq HS0) hk); have HLo1 := hide (lo_keep (uq HLo0) hk); have HK1 := hide ((uq HK0).trans hk); have HC1 : Hid (Chain E w1 (0) [(.func (.func f1) x1 y1, [dI 0], pPos)]) := hide ⟨hd, trivial⟩; clear hk hd)
  try go_wp2_with fail
  refine hK.out _ _ ?_ (fun hHeld => ?_)
  · trivial
  clear hK K
  try simp only [Act.put, Ya, Yb, Yc]
  refine rdyy 9 (fun K hK => ?_)
  go_simp
  clear hHeld
  (refine (name_any (E := E) (dS []) (1) _ _ (uq A1) _ (uq HS1)).mono ?_; rintro e w2 ⟨f2, x2, y2, rfl, hk, hd⟩; have HS2 := hide (hs_keep (uq HS1) hk); have HLo2 := hide (lo_keep (uq HLo1) hk); have HK2 := hide ((uq HK1).trans hk); have HC2 : Hid (Chain E w2 (0) [(.func (.func f1) x1 y1, [dI 0], pPos), (.func (.func f2) x2 y2, [dS []], pName)]) := hide (chain_snoc (uq HC1) hk hd); clear hk hd)
  try go_wp2_with fail
  refine hK.out _ _ ?_ (fun hHeld => ?_)
  · trivial
  clear hK K
  try simp only [Act.put, Ya, Yb, Yc]
  refine rdyy 11 (fun K hK => ?_)
  go_simp
  clear hHeld
  (refine (the_any (E := E) [119, 105, 116, 104] (by decide) (2) _ (uq HS2)).mono ?_; rintro e w3 ⟨f3, x3, y3, rfl, hk, hd⟩; have HS3 := hide (hs_keep (uq HS2) hk); have HLo3 := hide (lo_keep (uq HLo2) hk); have HK3 := hide ((uq HK2).trans hk); have HC3 : Hid (Chain E w3 (0) [(.func (.func f1) x1 y1, [dI 0], pPos), (.func (.func f2) x2 y2, [dS []], pName), (.func (.func f3) x3 y3, [], pThe [119, 105, 116, 104])]) := hide (chain_snoc (uq HC2) hk hd); clear hk hd)
  try go_wp2_with fail
  refine hK.out _ _ ?_ (fun hHeld => ?_)
  · trivial
  clear hK K
  try simp only [Act.put, Ya, Yb, Yc]
  refine rdyy 16 (fun K hK => ?_)
  go_simp
  clear hHeld
  (refine (name_any (E := E) (dS []) (2) _ _ (uq A2) _ (uq HS3)).mono ?_; rintro e w4 ⟨f4, x4, y4, rfl, hk, hd⟩; have HS4 := hide (hs_keep (uq HS3) hk); have HLo4 := hide (lo_keep (uq HLo3) hk); have HK4 := hide ((uq HK3).trans hk); have HC4 : Hid (Chain E w4 (0) [(.func (.func f1) x1 y1, [dI 0], pPos), (.func (.func f2) x2 y2, [dS []], pName), (.func (.func f3) x3 y3, [], pThe [119, 105, 116, 104]), (.func (.func f4) x4 y4, [dS []], pName)]) := hide (chain_snoc (uq HC3) hk hd); clear hk hd)
  try go_wp2_with fail
  refine hK.out _ _ ?_ (fun hHeld => ?_)
  · trivial
  clear hK K
  try simp only [Act.put, Ya, Yb, Yc]
  refine rdyy 18 (fun K hK => ?_)
  go_simp
  clear hHeld
  (refine (the_any (E := E) [108, 111, 110, 103] (by decide) (3) _ (uq HS4)).mono ?_; rintro e w5 ⟨f5, x5, y5, rfl, hk, hd⟩; have HS5 := hide (hs_keep (uq HS4) hk); have HLo5 := hide (lo_keep (uq HLo4) hk); have HK5 := hide ((uq HK4).trans hk); have HC5 : Hid (Chain E w5 (0) [(.func (.func f1) x1 y1, [dI 0], pPos), (.func (.func f2) x2 y2, [dS []], pName), (.func (.func f3) x3 y3, [], pThe [119, 105, 116, 104]), (.func (.func f4) x4 y4, [dS []], pName), (.func (.func f5) x5 y5, [], pThe [108, 111, 110, 103])]) := hide (chain_snoc (uq HC4) hk hd); clear hk hd)
  try go_wp2_with fail
  refine hK.out _ _ ?_ (fun hHeld => ?_)
  · trivial
  clear hK K
  try simp only [Act.put, Ya, Yb, Yc]
  refine rdyy 23 (fun K hK => ?_)
  go_simp
  clear hHeld
  (refine (num_any (E := E) (dI 0) (3) _ _ (uq A3) _ (uq HS5)).mono ?_; rintro e w6 ⟨f6, x6, y6, rfl, hk, hd⟩; have HS6 := hide (hs_keep (uq HS5) hk); have HLo6 := hide (lo_keep (uq HLo5) hk); have HK6 := hide ((uq HK5).trans hk); have HC6 : Hid (Chain E w6 (0) [(.func (.func f1) x1 y1, [dI 0], pPos), (.func (.func f2) x2 y2, [dS []], pName), (.func (.func f3) x3 y3, [], pThe [119, 105, 116, 104]), (.func (.func f4) x4 y4, [dS []], pName), (.func (.func f5) x5 y5, [], pThe [108, 111, 110, 103]), (.func (.func f6) x6 y6, [dI 0], pNum)]) := hide (chain_snoc (uq HC5) hk hd); clear hk hd)
  try go_wp2_with fail
  refine hK.out _ _ ?_ (fun hHeld => ?_)
  · trivial
  clear hK K
  try simp only [Act.put, Ya, Yb, Yc]
  refine rdyy 25 (fun K hK => ?_)
  go_simp
  clear hHeld
  (refine (the_any (E := E) [112, 97, 99, 101] (by decide) (4) _ (uq HS6)).mono ?_; rintro e w7 ⟨f7, x7, y7, rfl, hk, hd⟩; have HS7 := hide (hs_keep (uq HS6) hk); have HLo7 := hide (lo_keep (uq HLo6) hk); have HK7 := hide ((uq HK6).trans hk); have HC7 : Hid (Chain E w7 (0) [(.func (.func f1) x1 y1, [dI 0], pPos), (.func (.func f2) x2 y2, [dS []], pName), (.func (.func f3) x3 y3, [], pThe [119, 105, 116, 104]), (.func (.func f4) x4 y4, [dS []], pName), (.func (.func f5) x5 y5, [], pThe [108, 111, 110, 103]), (.func (.func f6) x6 y6, [dI 0], pNum), (.func (.func f7) x7 y7, [], pThe [112, 97, 99, 101])]) := hide (chain_snoc (uq HC6) hk hd); clear hk hd)
  try go_wp2_with fail
  refine hK.out _ _ ?_ (fun hHeld => ?_)
  · trivial
  clear hK K
  try simp only [Act.put, Ya, Yb, Yc]
  refine rdyy 30 (fun K hK => ?_)
  go_simp
  clear hHeld
  (refine (num_any (E := E) (dI 0) (4) _ _ (uq A4) _ (uq HS7)).mono ?_; rintro e w8 ⟨f8, x8, y8, rfl, hk, hd⟩; have HS8 := hide (hs_keep (uq HS7) hk); have HLo8 := hide (lo_keep (uq HLo7) hk); have HK8 := hide ((uq HK7).trans hk); have HC8 : Hid (Chain E w8 (0) [(.func (.func f1) x1 y1, [dI 0], pPos), (.func (.func f2) x2 y2, [dS []], pName), (.func (.func f3) x3 y3, [], pThe [119, 105, 116, 104]), (.func (.func f4) x4 y4, [dS []], pName), (.func (.func f5) x5 y5, [], pThe [108, 111, 110, 103]), (.func (.func f6) x6 y6, [dI 0], pNum), (.func (.func f7) x7 y7, [], pThe [112, 97, 99, 101]), (.func (.func f8) x8 y8, [dI 0], pNum)]) := hide (chain_snoc (uq HC7) hk hd); clear hk hd)
  try go_wp2_with fail
  refine hK.out _ _ ?_ (fun hHeld => ?_)
  · trivial
  clear hK K
  try simp only [Act.put, Ya, Yb, Yc]
  refine rdyy 32 (fun K hK => ?_)
  go_simp
  clear hHeld
  (refine (the_any (E := E) [108, 101, 97, 115, 116] (by decide) (5) _ (uq HS8)).mono ?_; rintro e w9 ⟨f9, x9, y9, rfl, hk, hd⟩; have HS9 := hide (hs_keep (uq HS8) hk); have HLo9 := hide (lo_keep (uq HLo8) hk); have HK9 := hide ((uq HK8).trans hk); have HC9 : Hid (Chain E w9 (0) [(.func (.func f1) x1 y1, [dI 0], pPos), (.func (.func f2) x2 y2, [dS []], pName), (.func (.func f3) x3 y3, [], pThe [119, 105, 116, 104]), (.func (.func f4) x4 y4, [dS []], pName), (.func (.func f5) x5 y5, [], pThe [108, 111, 110, 103]), (.func (.func f6) x6 y6, [dI 0], pNum), (.func (.func f7) x7 y7, [], pThe [112, 97, 99, 101]), (.func (.func f8) x8 y8, [dI 0], pNum), (.func (.func f9) x9 y9, [], pThe [108, 101, 97, 115, 116])]) := hide (chain_snoc (uq HC8) hk hd); clear hk hd)
  try go_wp2_with fail
  refine hK.out _ _ ?_ (fun hHeld => ?_)
  · trivial
  clear hK K
  try simp only [Act.put, Ya, Yb, Yc]
  refine rdyy 37 (fun K hK => ?_)
  go_simp
  clear hHeld
  (refine (num_any (E := E) (dI 0) (5) _ _ (uq A5) _ (uq HS9)).mono ?_; rintro e w10 ⟨f10, x10, y10, rfl, hk, hd⟩; have HS10 := hide (hs_keep (uq HS9) hk); have HLo10 := hide (lo_keep (uq HLo9) hk); have HK10 := hide ((uq HK9).trans hk); have HC10 : Hid (Chain E w10 (0) [(.func (.func f1) x1 y1, [dI 0], pPos), (.func (.func f2) x2 y2, [dS []], pName), (.func (.func f3) x3 y3, [], pThe [119, 105, 116, 104]), (.func (.func f4) x4 y4, [dS []], pName), (.func (.func f5) x5 y5, [], pThe [108, 111, 110, 103]), (.func (.func f6) x6 y6, [dI 0], pNum), (.func (.func f7) x7 y7, [], pThe [112, 97, 99, 101]), (.func (.func f8) x8 y8, [dI 0], pNum), (.func (.func f9) x9 y9, [], pThe [108, 101, 97, 115, 116]), (.func (.func f10) x10 y10, [dI 0], pNum)]) := hide (chain_snoc (uq HC9) hk hd); clear hk hd)
  try go_wp2_with fail
  refine hK.out _ _ ?_ (fun hHeld => ?_)
  · trivial
  clear hK K
  try simp only [Act.put, Ya, Yb, Yc]
  refine rdyy 39 (fun K hK => ?_)
  go_simp
  clear hHeld
  (refine (the_any (E := E) [59] (by decide) (6) _ (uq HS10)).mono ?_; rintro e w11 ⟨f11, x11, y11, rfl, hk, hd⟩; have HS11 := hide (hs_keep (uq HS10) hk); have HLo11 := hide (lo_keep (uq HLo10) hk); have HK11 := hide ((uq HK10).trans hk); have HC11 : Hid (Chain E w11 (0) [(.func (.func f1) x1 y1, [dI 0], pPos), (.func (.func f2) x2 y2, [dS []], pName), (.func (.func f3) x3 y3, [], pThe [119, 105, 116, 104]), (.func (.func f4) x4 y4, [dS []], pName), (.func (.func f5) x5 y5, [], pThe [108, 111, 110, 103]), (.func (.func f6) x6 y6, [dI 0], pNum), (.func (.func f7) x7 y7, [], pThe [112, 97, 99, 101]), (.func (.func f8) x8 y8, [dI 0], pNum), (.func (.func f9) x9 y9, [], pThe [108, 101, 97, 115, 116]), (.func (.func f10) x10 y10, [dI 0], pNum), (.func (.func f11) x11 y11, [], pThe [59])]) := hide (chain_snoc (uq HC10) hk hd); clear hk hd)
  try go_wp2_with fail
  refine hK.out _ _ ?_ (fun hHeld => ?_)
  · trivial
  clear hK K
  try simp only [Act.put, Ya, Yb, Yc]
  refine rdyy 40 (fun K hK => ?_)
  go_simp
  clear hHeld
  refine hK.out _ _ ?_ (fun hHeld => ?_)
  · trivial
  clear hK K
  try simp only [Act.put, Ya, Yb, Yc]
  refine rdyy 41 (fun K hK => ?_)
  go_simp
  clear hHeld
  (refine (order_any (E := E) (m := 0) (ss := [(.func (.func f1) x1 y1, [dI 0], pPos), (.func (.func f2) x2 y2, [dS []], pName), (.func (.func f3) x3 y3, [], pThe [119, 105, 116, 104]), (.func (.func f4) x4 y4, [dS []], pName), (.func (.func f5) x5 y5, [], pThe [108, 111, 110, 103]), (.func (.func f6) x6 y6, [dI 0], pNum), (.func (.func f7) x7 y7, [], pThe [112, 97, 99, 101]), (.func (.func f8) x8 y8, [dI 0], pNum), (.func (.func f9) x9 y9, [], pThe [108, 101, 97, 115, 116]), (.func (.func f10) x10 y10, [dI 0], pNum), (.func (.func f11) x11 y11, [], pThe [59])]) (c := []) (rest := []) (r := r) (by simp) (chain_keep ((Keep.refl _).alloc _) (uq HC11)) (new_steps _ _ _) (fun h => Nat.lt_irrefl _ ((uq HS11) _ h)) rfl ((uq HR).keep ((uq HK11).alloc _)) ((uq HL).keep ((uq HK11).alloc _))).mono ?_; rintro e wz hp; obtain ⟨vz, rfl⟩ := post_ret hp; have HP := hide hp; have HKz := hide ((uq HK11).alloc (.cells #[.func (.func f1) x1 y1, .func (.func f2) x2 y2, .func (.func f3) x3 y3, .func (.func f4) x4 y4, .func (.func f5) x5 y5, .func (.func f6) x6 y6, .func (.func f7) x7 y7, .func (.func f8) x8 y8, .func (.func f9) x9 y9, .func (.func f10) x10 y10, .func (.func f11) x11 y11] 121)); clear hp)
  try go_wp2_with fail
  refine hK.out _ _ ?_ (fun hHeld => ?_)
  · trivial
  clear hK K
  try simp only [Act.put, Ya, Yb, Yc]
  refine tkk 42 4 hHeld ?_; try simp only [Act.put, Ya, Yb, Yc]
  refine wpAnyH_done (by kernel_rfl) ?_ _
  clear hHeld
  go_wp2_with fail
  go_ret
  exact post_pre (.keep (uq HKz)) (uq HP)
end Go.Proofs.YtmplckdpddmifaaGreatDoor
namespace Go.Proofs.YtmplckdpddmifaaGreatDoor
open Go.RowKit
attribute [local go_sem ↓] Go.wp_at_zero Go.wp_at_succ
set_option linter.unusedVariables false
set_option linter.unusedSimpArgs false
set_option maxRecDepth 10000
set_option maxHeartbeats 4000000 in
theorem foe_core (E : Env) (tb : Nat) (w : World) (r : List Tok) (A0 : Hid (E.A 0 = (tb, 2))) (A1 : Hid (E.A 1 = (tb, 0))) (A2 : Hid (E.A 2 = (tb, 1)))
    (HS : Hid (∀ b, E.S b → b < w.heap.size)) (HLo : Hid (E.lo ≤ w.heap.size)) (HR : Hid (Rdr E w r)) (HL : Hid (Cel E w [dI 0, dS [], dS []])) :
    Calls Tryz.prog 81 #[.pointer (some ⟨E.rb, 0, none⟩), .pointer (some ⟨tb, 0, none⟩)] w (Post E w [] 3 (sq [pPos, pName, pName, pThe [59]] [] r)) := by
  have HK0 := hide (Keep.refl w).drew
  have HS0 : Hid (∀ b, E.S b → b < w.drew.heap.size) := HS
  have HLo0 : Hid (E.lo ≤ w.drew.heap.size) := HLo
  go_enter Tryz.func81, Tryz.ntmps81
  go_wp2_with fail
  refine wp_region_held_drew (S := fun _ => True) (by kernel_rfl) (by trivial) (fun hHeld => ?_)
  refine tkk 0 5 hHeld ?_; try simp only [Act.put, Ya, Yb, Yc]
  refine tkk 1 6 hHeld ?_; try simp only [Act.put, Ya, Yb, Yc]
  refine tkk 2 7 hHeld ?_; try simp only [Act.put, Ya, Yb, Yc]
  refine tkk 3 8 hHeld ?_; try simp only [Act.put, Ya, Yb, Yc]
  refine tkk 5 10 hHeld ?_; try simp only [Act.put, Ya, Yb, Yc]
  refine tkk 6 11 hHeld ?_; try simp only [Act.put, Ya, Yb, Yc]
  refine tkk 7 12 hHeld ?_; try simp only [Act.put, Ya, Yb, Yc]
  refine tkk 8 13 hHeld ?_; try simp only [Act.put, Ya, Yb, Yc]
  refine tkk 10 15 hHeld ?_; try simp only [Act.put, Ya, Yb, Yc]
  refine tkk 11 16 hHeld ?_; try simp only [Act.put, Ya, Yb, Yc]
  refine tkk 12 17 hHeld ?_; try simp only [Act.put, Ya, Yb, Yc]
  refine tkk 13 18 hHeld ?_; try simp only [Act.put, Ya, Yb, Yc]
  refine tkk 15 20 hHeld ?_; try simp only [Act.put, Ya, Yb, Yc]
  refine rdyy 4 (fun K hK => ?_)
  go_simp
  clear hHeld
  (refine (pos_any (E := E) (dI 0) (0) _ _ (uq A0) _ (uq HS0)).mono ?_; rintro e w1 ⟨f1, x1, y1, rfl, hk, hd⟩; have HS1 := hide (hs_keep (uq HS0) hk); have HLo1 := hide (lo_keep (uq HLo0) hk); have HK1 := hide ((uq HK0).trans hk); have HC1 : Hid (Chain E w1 (0) [(.func (.func f1) x1 y1, [dI 0], pPos)]) := hide ⟨hd, trivial⟩; clear hk hd)
  try go_wp2_with fail
  refine hK.out _ _ ?_ (fun hHeld => ?_)
  · trivial
  clear hK K
  try simp only [Act.put, Ya, Yb, Yc]
  refine rdyy 9 (fun K hK => ?_)
  go_simp
  clear hHeld
  (refine (name_any (E := E) (dS []) (1) _ _ (uq A1) _ (uq HS1)).mono ?_; rintro e w2 ⟨f2, x2, y2, rfl, hk, hd⟩; have HS2 := hide (hs_keep (uq HS1) hk); have HLo2 := hide (lo_keep (uq HLo1) hk); have HK2 := hide ((uq HK1).trans hk); have HC2 : Hid (Chain E w2 (0) [(.func (.func f1) x1 y1, [dI 0], pPos), (.func (.func f2) x2 y2, [dS []], pName)]) := hide (chain_snoc (uq HC1) hk hd); clear hk hd)
  try go_wp2_with fail
  refine hK.out _ _ ?_ (fun hHeld => ?_)
  · trivial
  clear hK K
  try simp only [Act.put, Ya, Yb, Yc]
  refine rdyy 14 (fun K hK => ?_)
  go_simp
  clear hHeld
  (refine (name_any (E := E) (dS []) (2) _ _ (uq A2) _ (uq HS2)).mono ?_; rintro e w3 ⟨f3, x3, y3, rfl, hk, hd⟩; have HS3 := hide (hs_keep (uq HS2) hk); have HLo3 := hide (lo_keep (uq HLo2) hk); have HK3 := hide ((uq HK2).trans hk); have HC3 : Hid (Chain E w3 (0) [(.func (.func f1) x1 y1, [dI 0], pPos), (.func (.func f2) x2 y2, [dS []], pName), (.func (.func f3) x3 y3, [dS []], pName)]) := hide (chain_snoc (uq HC2) hk hd); clear hk hd)
  try go_wp2_with fail
  refine hK.out _ _ ?_ (fun hHeld => ?_)
  · trivial
  clear hK K
  try simp only [Act.put, Ya, Yb, Yc]
  refine rdyy 16 (fun K hK => ?_)
  go_simp
  clear hHeld
  (refine (the_any (E := E) [59] (by decide) (3) _ (uq HS3)).mono ?_; rintro e w4 ⟨f4, x4, y4, rfl, hk, hd⟩; have HS4 := hide (hs_keep (uq HS3) hk); have HLo4 := hide (lo_keep (uq HLo3) hk); have HK4 := hide ((uq HK3).trans hk); have HC4 : Hid (Chain E w4 (0) [(.func (.func f1) x1 y1, [dI 0], pPos), (.func (.func f2) x2 y2, [dS []], pName), (.func (.func f3) x3 y3, [dS []], pName), (.func (.func f4) x4 y4, [], pThe [59])]) := hide (chain_snoc (uq HC3) hk hd); clear hk hd)
  try go_wp2_with fail
  refine hK.out _ _ ?_ (fun hHeld => ?_)
  · trivial
  clear hK K
  try simp only [Act.put, Ya, Yb, Yc]
  refine rdyy 17 (fun K hK => ?_)
  go_simp
  clear hHeld
  refine hK.out _ _ ?_ (fun hHeld => ?_)
  · trivial
  clear hK K
  try simp only [Act.put, Ya, Yb, Yc]
  refine rdyy 18 (fun K hK => ?_)
  go_simp
  clear hHeld
  (refine (order_any (E := E) (m := 0) (ss := [(.func (.func f1) x1 y1, [dI 0], pPos), (.func (.func f2) x2 y2, [dS []], pName), (.func (.func f3) x3 y3, [dS []], pName), (.func (.func f4) x4 y4, [], pThe [59])]) (c := []) (rest := []) (r := r) (by simp) (chain_keep ((Keep.refl _).alloc _) (uq HC4)) (new_steps _ _ _) (fun h => Nat.lt_irrefl _ ((uq HS4) _ h)) rfl ((uq HR).keep ((uq HK4).alloc _)) ((uq HL).keep ((uq HK4).alloc _))).mono ?_; rintro e wz hp; obtain ⟨vz, rfl⟩ := post_ret hp; have HP := hide hp; have HKz := hide ((uq HK4).alloc (.cells #[.func (.func f1) x1 y1, .func (.func f2) x2 y2, .func (.func f3) x3 y3, .func (.func f4) x4 y4] 121)); clear hp)
  try go_wp2_with fail
  refine hK.out _ _ ?_ (fun hHeld => ?_)
  · trivial
  clear hK K
  try simp only [Act.put, Ya, Yb, Yc]
  refine tkk 19 4 hHeld ?_; try simp only [Act.put, Ya, Yb, Yc]
  refine wpAnyH_done (by kernel_rfl) ?_ _
  clear hHeld
  go_wp2_with fail
  go_ret
  exact post_pre (.keep (uq HKz)) (uq HP)
end Go.Proofs.YtmplckdpddmifaaGreatDoor
namespace Go.Proofs.YtmplckdpddmifaaGreatDoor
open Go.RowKit
attribute [local go_sem ↓] Go.wp_at_zero Go.wp_at_succ
set_option linter.unusedVariables false
set_option linter.unusedSimpArgs false
set_option maxRecDepth 10000
set_option maxHeartbeats 4000000 in
theorem stop_core (E : Env) (tb : Nat) (w : World) (r : List Tok) (A0 : Hid (E.A 0 = (tb, 5))) (A1 : Hid (E.A 1 = (tb, 0))) (A2 : Hid (E.A 2 = (tb, 1))) (A3 : Hid (E.A 3 = (tb, 2))) (A4 : Hid (E.A 4 = (tb, 3))) (A5 : Hid (E.A 5 = (tb, 4)))
    (HS : Hid (∀ b, E.S b → b < w.heap.size)) (HLo : Hid (E.lo ≤ w.heap.size)) (HR : Hid (Rdr E w r)) (HL : Hid (Cel E w [dI 0, dS [], dS [], dS [], dI 0, dI 0])) :
    Calls Tryz.prog 85 #[.pointer (some ⟨E.rb, 0, none⟩), .pointer (some ⟨tb, 0, none⟩)] w (Post E w [] 6 (sq [pPos, pName, pThe [111, 117, 116], pName, pThe [105, 110], pName, pThe [97, 104, 101, 97, 100], pNum, pThe [98, 97, 99, 107], pNum, pThe [59]] [] r)) := by
  have HK0 := hide (Keep.refl w).drew
  have HS0 : Hid (∀ b, E.S b → b < w.drew.heap.size) := HS
  have HLo0 : Hid (E.lo ≤ w.drew.heap.size) := HLo
  go_enter Tryz.func85, Tryz.ntmps85
  go_wp2_with fail
  refine wp_region_held_drew (S := fun _ => True) (by kernel_rfl) (by trivial) (fun hHeld => ?_)
  refine tkk 0 5 hHeld ?_; try simp only [Act.put, Ya, Yb, Yc]
  refine tkk 1 6 hHeld ?_; try simp only [Act.put, Ya, Yb, Yc]
  refine tkk 2 7 hHeld ?_; try simp only [Act.put, Ya, Yb, Yc]
  refine tkk 3 8 hHeld ?_; try simp only [Act.put, Ya, Yb, Yc]
  refine tkk 5 10 hHeld ?_; try simp only [Act.put, Ya, Yb, Yc]
  refine tkk 6 11 hHeld ?_; try simp only [Act.put, Ya, Yb, Yc]
  refine tkk 7 12 hHeld ?_; try simp only [Act.put, Ya, Yb, Yc]
  refine tkk 8 13 hHeld ?_; try simp only [Act.put, Ya, Yb, Yc]
  refine tkk 10 15 hHeld ?_; try simp only [Act.put, Ya, Yb, Yc]
  refine tkk 12 17 hHeld ?_; try simp only [Act.put, Ya, Yb, Yc]
  refine tkk 13 18 hHeld ?_; try simp only [Act.put, Ya, Yb, Yc]
  refine tkk 14 19 hHeld ?_; try simp only [Act.put, Ya, Yb, Yc]
  refine tkk 15 20 hHeld ?_; try simp only [Act.put, Ya, Yb, Yc]
  refine tkk 17 22 hHeld ?_; try simp only [Act.put, Ya, Yb, Yc]
  refine tkk 19 24 hHeld ?_; try simp only [Act.put, Ya, Yb, Yc]
  refine tkk 20 25 hHeld ?_; try simp only [Act.put, Ya, Yb, Yc]
  refine tkk 21 26 hHeld ?_; try simp only [Act.put, Ya, Yb, Yc]
  refine tkk 22 27 hHeld ?_; try simp only [Act.put, Ya, Yb, Yc]
  refine tkk 24 29 hHeld ?_; try simp only [Act.put, Ya, Yb, Yc]
  refine tkk 26 31 hHeld ?_; try simp only [Act.put, Ya, Yb, Yc]
  refine tkk 27 32 hHeld ?_; try simp only [Act.put, Ya, Yb, Yc]
  refine tkk 28 33 hHeld ?_; try simp only [Act.put, Ya, Yb, Yc]
  refine tkk 29 34 hHeld ?_; try simp only [Act.put, Ya, Yb, Yc]
  refine tkk 31 36 hHeld ?_; try simp only [Act.put, Ya, Yb, Yc]
  refine tkk 33 38 hHeld ?_; try simp only [Act.put, Ya, Yb, Yc]
  refine tkk 34 39 hHeld ?_; try simp only [Act.put, Ya, Yb, Yc]
  refine tkk 35 40 hHeld ?_; try simp only [Act.put, Ya, Yb, Yc]
  refine tkk 36 41 hHeld ?_; try simp only [Act.put, Ya, Yb, Yc]
  refine tkk 38 43 hHeld ?_; try simp only [Act.put, Ya, Yb, Yc]
  refine rdyy 4 (fun K hK => ?_)
  go_simp
  clear hHeld
  (refine (pos_any (E := E) (dI 0) (0) _ _ (uq A0) _ (uq HS0)).mono ?_; rintro e w1 ⟨f1, x1, y1, rfl, hk, hd⟩; have HS1 := hide (hs_keep (uq HS0) hk); have HLo1 := hide (lo_keep (uq HLo0) hk); have HK1 := hide ((uq HK0).trans hk); have HC1 : Hid (Chain E w1 (0) [(.func (.func f1) x1 y1, [dI 0], pPos)]) := hide ⟨hd, trivial⟩; clear hk hd)
  try go_wp2_with fail
  refine hK.out _ _ ?_ (fun hHeld => ?_)
  · trivial
  clear hK K
  try simp only [Act.put, Ya, Yb, Yc]
  refine rdyy 9 (fun K hK => ?_)
  go_simp
  clear hHeld
  (refine (name_any (E := E) (dS []) (1) _ _ (uq A1) _ (uq HS1)).mono ?_; rintro e w2 ⟨f2, x2, y2, rfl, hk, hd⟩; have HS2 := hide (hs_keep (uq HS1) hk); have HLo2 := hide (lo_keep (uq HLo1) hk); have HK2 := hide ((uq HK1).trans hk); have HC2 : Hid (Chain E w2 (0) [(.func (.func f1) x1 y1, [dI 0], pPos), (.func (.func f2) x2 y2, [dS []], pName)]) := hide (chain_snoc (uq HC1) hk hd); clear hk hd)
  try go_wp2_with fail
  refine hK.out _ _ ?_ (fun hHeld => ?_)
  · trivial
  clear hK K
  try simp only [Act.put, Ya, Yb, Yc]
  refine rdyy 11 (fun K hK => ?_)
  go_simp
  clear hHeld
  (refine (the_any (E := E) [111, 117, 116] (by decide) (2) _ (uq HS2)).mono ?_; rintro e w3 ⟨f3, x3, y3, rfl, hk, hd⟩; have HS3 := hide (hs_keep (uq HS2) hk); have HLo3 := hide (lo_keep (uq HLo2) hk); have HK3 := hide ((uq HK2).trans hk); have HC3 : Hid (Chain E w3 (0) [(.func (.func f1) x1 y1, [dI 0], pPos), (.func (.func f2) x2 y2, [dS []], pName), (.func (.func f3) x3 y3, [], pThe [111, 117, 116])]) := hide (chain_snoc (uq HC2) hk hd); clear hk hd)
  try go_wp2_with fail
  refine hK.out _ _ ?_ (fun hHeld => ?_)
  · trivial
  clear hK K
  try simp only [Act.put, Ya, Yb, Yc]
  refine rdyy 16 (fun K hK => ?_)
  go_simp
  clear hHeld
  (refine (name_any (E := E) (dS []) (2) _ _ (uq A2) _ (uq HS3)).mono ?_; rintro e w4 ⟨f4, x4, y4, rfl, hk, hd⟩; have HS4 := hide (hs_keep (uq HS3) hk); have HLo4 := hide (lo_keep (uq HLo3) hk); have HK4 := hide ((uq HK3).trans hk); have HC4 : Hid (Chain E w4 (0) [(.func (.func f1) x1 y1, [dI 0], pPos), (.func (.func f2) x2 y2, [dS []], pName), (.func (.func f3) x3 y3, [], pThe [111, 117, 116]), (.func (.func f4) x4 y4, [dS []], pName)]) := hide (chain_snoc (uq HC3) hk hd); clear hk hd)
  try go_wp2_with fail
  refine hK.out _ _ ?_ (fun hHeld => ?_)
  · trivial
  clear hK K
  try simp only [Act.put, Ya, Yb, Yc]
  refine rdyy 18 (fun K hK => ?_)
  go_simp
  clear hHeld
  (refine (the_any (E := E) [105, 110] (by decide) (3) _ (uq HS4)).mono ?_; rintro e w5 ⟨f5, x5, y5, rfl, hk, hd⟩; have HS5 := hide (hs_keep (uq HS4) hk); have HLo5 := hide (lo_keep (uq HLo4) hk); have HK5 := hide ((uq HK4).trans hk); have HC5 : Hid (Chain E w5 (0) [(.func (.func f1) x1 y1, [dI 0], pPos), (.func (.func f2) x2 y2, [dS []], pName), (.func (.func f3) x3 y3, [], pThe [111, 117, 116]), (.func (.func f4) x4 y4, [dS []], pName), (.func (.func f5) x5 y5, [], pThe [105, 110])]) := hide (chain_snoc (uq HC4) hk hd); clear hk hd)
  try go_wp2_with fail
  refine hK.out _ _ ?_ (fun hHeld => ?_)
  · trivial
  clear hK K
  try simp only [Act.put, Ya, Yb, Yc]
  refine rdyy 23 (fun K hK => ?_)
  go_simp
  clear hHeld
  (refine (name_any (E := E) (dS []) (3) _ _ (uq A3) _ (uq HS5)).mono ?_; rintro e w6 ⟨f6, x6, y6, rfl, hk, hd⟩; have HS6 := hide (hs_keep (uq HS5) hk); have HLo6 := hide (lo_keep (uq HLo5) hk); have HK6 := hide ((uq HK5).trans hk); have HC6 : Hid (Chain E w6 (0) [(.func (.func f1) x1 y1, [dI 0], pPos), (.func (.func f2) x2 y2, [dS []], pName), (.func (.func f3) x3 y3, [], pThe [111, 117, 116]), (.func (.func f4) x4 y4, [dS []], pName), (.func (.func f5) x5 y5, [], pThe [105, 110]), (.func (.func f6) x6 y6, [dS []], pName)]) := hide (chain_snoc (uq HC5) hk hd); clear hk hd)
  try go_wp2_with fail
  refine hK.out _ _ ?_ (fun hHeld => ?_)
  · trivial
  clear hK K
  try simp only [Act.put, Ya, Yb, Yc]
  refine rdyy 25 (fun K hK => ?_)
  go_simp
  clear hHeld
  (refine (the_any (E := E) [97, 104, 101, 97, 100] (by decide) (4) _ (uq HS6)).mono ?_; rintro e w7 ⟨f7, x7, y7, rfl, hk, hd⟩; have HS7 := hide (hs_keep (uq HS6) hk); have HLo7 := hide (lo_keep (uq HLo6) hk); have HK7 := hide ((uq HK6).trans hk); have HC7 : Hid (Chain E w7 (0) [(.func (.func f1) x1 y1, [dI 0], pPos), (.func (.func f2) x2 y2, [dS []], pName), (.func (.func f3) x3 y3, [], pThe [111, 117, 116]), (.func (.func f4) x4 y4, [dS []], pName), (.func (.func f5) x5 y5, [], pThe [105, 110]), (.func (.func f6) x6 y6, [dS []], pName), (.func (.func f7) x7 y7, [], pThe [97, 104, 101, 97, 100])]) := hide (chain_snoc (uq HC6) hk hd); clear hk hd)
  try go_wp2_with fail
  refine hK.out _ _ ?_ (fun hHeld => ?_)
  · trivial
  clear hK K
  try simp only [Act.put, Ya, Yb, Yc]
  refine rdyy 30 (fun K hK => ?_)
  go_simp
  clear hHeld
  (refine (num_any (E := E) (dI 0) (4) _ _ (uq A4) _ (uq HS7)).mono ?_; rintro e w8 ⟨f8, x8, y8, rfl, hk, hd⟩; have HS8 := hide (hs_keep (uq HS7) hk); have HLo8 := hide (lo_keep (uq HLo7) hk); have HK8 := hide ((uq HK7).trans hk); have HC8 : Hid (Chain E w8 (0) [(.func (.func f1) x1 y1, [dI 0], pPos), (.func (.func f2) x2 y2, [dS []], pName), (.func (.func f3) x3 y3, [], pThe [111, 117, 116]), (.func (.func f4) x4 y4, [dS []], pName), (.func (.func f5) x5 y5, [], pThe [105, 110]), (.func (.func f6) x6 y6, [dS []], pName), (.func (.func f7) x7 y7, [], pThe [97, 104, 101, 97, 100]), (.func (.func f8) x8 y8, [dI 0], pNum)]) := hide (chain_snoc (uq HC7) hk hd); clear hk hd)
  try go_wp2_with fail
  refine hK.out _ _ ?_ (fun hHeld => ?_)
  · trivial
  clear hK K
  try simp only [Act.put, Ya, Yb, Yc]
  refine rdyy 32 (fun K hK => ?_)
  go_simp
  clear hHeld
  (refine (the_any (E := E) [98, 97, 99, 107] (by decide) (5) _ (uq HS8)).mono ?_; rintro e w9 ⟨f9, x9, y9, rfl, hk, hd⟩; have HS9 := hide (hs_keep (uq HS8) hk); have HLo9 := hide (lo_keep (uq HLo8) hk); have HK9 := hide ((uq HK8).trans hk); have HC9 : Hid (Chain E w9 (0) [(.func (.func f1) x1 y1, [dI 0], pPos), (.func (.func f2) x2 y2, [dS []], pName), (.func (.func f3) x3 y3, [], pThe [111, 117, 116]), (.func (.func f4) x4 y4, [dS []], pName), (.func (.func f5) x5 y5, [], pThe [105, 110]), (.func (.func f6) x6 y6, [dS []], pName), (.func (.func f7) x7 y7, [], pThe [97, 104, 101, 97, 100]), (.func (.func f8) x8 y8, [dI 0], pNum), (.func (.func f9) x9 y9, [], pThe [98, 97, 99, 107])]) := hide (chain_snoc (uq HC8) hk hd); clear hk hd)
  try go_wp2_with fail
  refine hK.out _ _ ?_ (fun hHeld => ?_)
  · trivial
  clear hK K
  try simp only [Act.put, Ya, Yb, Yc]
  refine rdyy 37 (fun K hK => ?_)
  go_simp
  clear hHeld
  (refine (num_any (E := E) (dI 0) (5) _ _ (uq A5) _ (uq HS9)).mono ?_; rintro e w10 ⟨f10, x10, y10, rfl, hk, hd⟩; have HS10 := hide (hs_keep (uq HS9) hk); have HLo10 := hide (lo_keep (uq HLo9) hk); have HK10 := hide ((uq HK9).trans hk); have HC10 : Hid (Chain E w10 (0) [(.func (.func f1) x1 y1, [dI 0], pPos), (.func (.func f2) x2 y2, [dS []], pName), (.func (.func f3) x3 y3, [], pThe [111, 117, 116]), (.func (.func f4) x4 y4, [dS []], pName), (.func (.func f5) x5 y5, [], pThe [105, 110]), (.func (.func f6) x6 y6, [dS []], pName), (.func (.func f7) x7 y7, [], pThe [97, 104, 101, 97, 100]), (.func (.func f8) x8 y8, [dI 0], pNum), (.func (.func f9) x9 y9, [], pThe [98, 97, 99, 107]), (.func (.func f10) x10 y10, [dI 0], pNum)]) := hide (chain_snoc (uq HC9) hk hd); clear hk hd)
  try go_wp2_with fail
  refine hK.out _ _ ?_ (fun hHeld => ?_)
  · trivial
  clear hK K
  try simp only [Act.put, Ya, Yb, Yc]
  refine rdyy 39 (fun K hK => ?_)
  go_simp
  clear hHeld
  (refine (the_any (E := E) [59] (by decide) (6) _ (uq HS10)).mono ?_; rintro e w11 ⟨f11, x11, y11, rfl, hk, hd⟩; have HS11 := hide (hs_keep (uq HS10) hk); have HLo11 := hide (lo_keep (uq HLo10) hk); have HK11 := hide ((uq HK10).trans hk); have HC11 : Hid (Chain E w11 (0) [(.func (.func f1) x1 y1, [dI 0], pPos), (.func (.func f2) x2 y2, [dS []], pName), (.func (.func f3) x3 y3, [], pThe [111, 117, 116]), (.func (.func f4) x4 y4, [dS []], pName), (.func (.func f5) x5 y5, [], pThe [105, 110]), (.func (.func f6) x6 y6, [dS []], pName), (.func (.func f7) x7 y7, [], pThe [97, 104, 101, 97, 100]), (.func (.func f8) x8 y8, [dI 0], pNum), (.func (.func f9) x9 y9, [], pThe [98, 97, 99, 107]), (.func (.func f10) x10 y10, [dI 0], pNum), (.func (.func f11) x11 y11, [], pThe [59])]) := hide (chain_snoc (uq HC10) hk hd); clear hk hd)
  try go_wp2_with fail
  refine hK.out _ _ ?_ (fun hHeld => ?_)
  · trivial
  clear hK K
  try simp only [Act.put, Ya, Yb, Yc]
  refine rdyy 40 (fun K hK => ?_)
  go_simp
  clear hHeld
  refine hK.out _ _ ?_ (fun hHeld => ?_)
  · trivial
  clear hK K
  try simp only [Act.put, Ya, Yb, Yc]
  refine rdyy 41 (fun K hK => ?_)
  go_simp
  clear hHeld
  (refine (order_any (E := E) (m := 0) (ss := [(.func (.func f1) x1 y1, [dI 0], pPos), (.func (.func f2) x2 y2, [dS []], pName), (.func (.func f3) x3 y3, [], pThe [111, 117, 116]), (.func (.func f4) x4 y4, [dS []], pName), (.func (.func f5) x5 y5, [], pThe [105, 110]), (.func (.func f6) x6 y6, [dS []], pName), (.func (.func f7) x7 y7, [], pThe [97, 104, 101, 97, 100]), (.func (.func f8) x8 y8, [dI 0], pNum), (.func (.func f9) x9 y9, [], pThe [98, 97, 99, 107]), (.func (.func f10) x10 y10, [dI 0], pNum), (.func (.func f11) x11 y11, [], pThe [59])]) (c := []) (rest := []) (r := r) (by simp) (chain_keep ((Keep.refl _).alloc _) (uq HC11)) (new_steps _ _ _) (fun h => Nat.lt_irrefl _ ((uq HS11) _ h)) rfl ((uq HR).keep ((uq HK11).alloc _)) ((uq HL).keep ((uq HK11).alloc _))).mono ?_; rintro e wz hp; obtain ⟨vz, rfl⟩ := post_ret hp; have HP := hide hp; have HKz := hide ((uq HK11).alloc (.cells #[.func (.func f1) x1 y1, .func (.func f2) x2 y2, .func (.func f3) x3 y3, .func (.func f4) x4 y4, .func (.func f5) x5 y5, .func (.func f6) x6 y6, .func (.func f7) x7 y7, .func (.func f8) x8 y8, .func (.func f9) x9 y9, .func (.func f10) x10 y10, .func (.func f11) x11 y11] 121)); clear hp)
  try go_wp2_with fail
  refine hK.out _ _ ?_ (fun hHeld => ?_)
  · trivial
  clear hK K
  try simp only [Act.put, Ya, Yb, Yc]
  refine tkk 42 4 hHeld ?_; try simp only [Act.put, Ya, Yb, Yc]
  refine wpAnyH_done (by kernel_rfl) ?_ _
  clear hHeld
  go_wp2_with fail
  go_ret
  exact post_pre (.keep (uq HKz)) (uq HP)
end Go.Proofs.YtmplckdpddmifaaGreatDoor
namespace Go.Proofs.YtmplckdpddmifaaGreatDoor
open Go.RowKit
attribute [local go_sem ↓] Go.wp_at_zero Go.wp_at_succ
set_option linter.unusedVariables false
set_option linter.unusedSimpArgs false
set_option maxRecDepth 10000
set_option maxHeartbeats 4000000 in
theorem phase_core (E : Env) (tb : Nat) (w : World) (r : List Tok) (A0 : Hid (E.A 0 = (tb, 2))) (A1 : Hid (E.A 1 = (tb, 0))) (A2 : Hid (E.A 2 = (tb, 1)))
    (HS : Hid (∀ b, E.S b → b < w.heap.size)) (HLo : Hid (E.lo ≤ w.heap.size)) (HR : Hid (Rdr E w r)) (HL : Hid (Cel E w [dI 0, dS [], dN])) :
    Calls Tryz.prog 77 #[.pointer (some ⟨E.rb, 0, none⟩), .pointer (some ⟨tb, 0, none⟩)] w (Post E w [] 3 (sq [pPos, pName, pThe [58], pNames 9 16, pThe [59]] [] r)) := by
  have HK0 := hide (Keep.refl w).drew
  have HS0 : Hid (∀ b, E.S b → b < w.drew.heap.size) := HS
  have HLo0 : Hid (E.lo ≤ w.drew.heap.size) := HLo
  go_enter Tryz.func77, Tryz.ntmps77
  go_wp2_with fail
  refine wp_region_held_drew (S := fun _ => True) (by kernel_rfl) (by trivial) (fun hHeld => ?_)
  refine tkk 0 5 hHeld ?_; try simp only [Act.put, Ya, Yb, Yc]
  refine tkk 1 6 hHeld ?_; try simp only [Act.put, Ya, Yb, Yc]
  refine tkk 2 7 hHeld ?_; try simp only [Act.put, Ya, Yb, Yc]
  refine tkk 3 8 hHeld ?_; try simp only [Act.put, Ya, Yb, Yc]
  refine tkk 5 10 hHeld ?_; try simp only [Act.put, Ya, Yb, Yc]
  refine tkk 6 11 hHeld ?_; try simp only [Act.put, Ya, Yb, Yc]
  refine tkk 7 12 hHeld ?_; try simp only [Act.put, Ya, Yb, Yc]
  refine tkk 8 13 hHeld ?_; try simp only [Act.put, Ya, Yb, Yc]
  refine tkk 10 15 hHeld ?_; try simp only [Act.put, Ya, Yb, Yc]
  refine tkk 12 17 hHeld ?_; try simp only [Act.put, Ya, Yb, Yc]
  refine tkk 13 18 hHeld ?_; try simp only [Act.put, Ya, Yb, Yc]
  refine tkk 14 19 hHeld ?_; try simp only [Act.put, Ya, Yb, Yc]
  refine tkk 15 20 hHeld ?_; try simp only [Act.put, Ya, Yb, Yc]
  refine tkk 17 22 hHeld ?_; try simp only [Act.put, Ya, Yb, Yc]
  refine rdyy 4 (fun K hK => ?_)
  go_simp
  clear hHeld
  (refine (pos_any (E := E) (dI 0) (0) _ _ (uq A0) _ (uq HS0)).mono ?_; rintro e w1 ⟨f1, x1, y1, rfl, hk, hd⟩; have HS1 := hide (hs_keep (uq HS0) hk); have HLo1 := hide (lo_keep (uq HLo0) hk); have HK1 := hide ((uq HK0).trans hk); have HC1 : Hid (Chain E w1 (0) [(.func (.func f1) x1 y1, [dI 0], pPos)]) := hide ⟨hd, trivial⟩; clear hk hd)
  try go_wp2_with fail
  refine hK.out _ _ ?_ (fun hHeld => ?_)
  · trivial
  clear hK K
  try simp only [Act.put, Ya, Yb, Yc]
  refine rdyy 9 (fun K hK => ?_)
  go_simp
  clear hHeld
  (refine (name_any (E := E) (dS []) (1) _ _ (uq A1) _ (uq HS1)).mono ?_; rintro e w2 ⟨f2, x2, y2, rfl, hk, hd⟩; have HS2 := hide (hs_keep (uq HS1) hk); have HLo2 := hide (lo_keep (uq HLo1) hk); have HK2 := hide ((uq HK1).trans hk); have HC2 : Hid (Chain E w2 (0) [(.func (.func f1) x1 y1, [dI 0], pPos), (.func (.func f2) x2 y2, [dS []], pName)]) := hide (chain_snoc (uq HC1) hk hd); clear hk hd)
  try go_wp2_with fail
  refine hK.out _ _ ?_ (fun hHeld => ?_)
  · trivial
  clear hK K
  try simp only [Act.put, Ya, Yb, Yc]
  refine rdyy 11 (fun K hK => ?_)
  go_simp
  clear hHeld
  (refine (the_any (E := E) [58] (by decide) (2) _ (uq HS2)).mono ?_; rintro e w3 ⟨f3, x3, y3, rfl, hk, hd⟩; have HS3 := hide (hs_keep (uq HS2) hk); have HLo3 := hide (lo_keep (uq HLo2) hk); have HK3 := hide ((uq HK2).trans hk); have HC3 : Hid (Chain E w3 (0) [(.func (.func f1) x1 y1, [dI 0], pPos), (.func (.func f2) x2 y2, [dS []], pName), (.func (.func f3) x3 y3, [], pThe [58])]) := hide (chain_snoc (uq HC2) hk hd); clear hk hd)
  try go_wp2_with fail
  refine hK.out _ _ ?_ (fun hHeld => ?_)
  · trivial
  clear hK K
  try simp only [Act.put, Ya, Yb, Yc]
  refine rdyy 16 (fun K hK => ?_)
  go_simp
  clear hHeld
  (refine (names_any (E := E) 16 (by decide) (2) _ _ (uq A2) _ (uq HS3) (uq HLo3)).mono ?_; rintro e w4 ⟨f4, x4, y4, rfl, hk, hd⟩; have HS4 := hide (hs_keep (uq HS3) hk); have HLo4 := hide (lo_keep (uq HLo3) hk); have HK4 := hide ((uq HK3).trans hk); have HC4 : Hid (Chain E w4 (0) [(.func (.func f1) x1 y1, [dI 0], pPos), (.func (.func f2) x2 y2, [dS []], pName), (.func (.func f3) x3 y3, [], pThe [58]), (.func (.func f4) x4 y4, [dN], pNames 9 16)]) := hide (chain_snoc (uq HC3) hk hd); clear hk hd)
  try go_wp2_with fail
  refine hK.out _ _ ?_ (fun hHeld => ?_)
  · trivial
  clear hK K
  try simp only [Act.put, Ya, Yb, Yc]
  refine rdyy 18 (fun K hK => ?_)
  go_simp
  clear hHeld
  (refine (the_any (E := E) [59] (by decide) (3) _ (uq HS4)).mono ?_; rintro e w5 ⟨f5, x5, y5, rfl, hk, hd⟩; have HS5 := hide (hs_keep (uq HS4) hk); have HLo5 := hide (lo_keep (uq HLo4) hk); have HK5 := hide ((uq HK4).trans hk); have HC5 : Hid (Chain E w5 (0) [(.func (.func f1) x1 y1, [dI 0], pPos), (.func (.func f2) x2 y2, [dS []], pName), (.func (.func f3) x3 y3, [], pThe [58]), (.func (.func f4) x4 y4, [dN], pNames 9 16), (.func (.func f5) x5 y5, [], pThe [59])]) := hide (chain_snoc (uq HC4) hk hd); clear hk hd)
  try go_wp2_with fail
  refine hK.out _ _ ?_ (fun hHeld => ?_)
  · trivial
  clear hK K
  try simp only [Act.put, Ya, Yb, Yc]
  refine rdyy 19 (fun K hK => ?_)
  go_simp
  clear hHeld
  refine hK.out _ _ ?_ (fun hHeld => ?_)
  · trivial
  clear hK K
  try simp only [Act.put, Ya, Yb, Yc]
  refine rdyy 20 (fun K hK => ?_)
  go_simp
  clear hHeld
  (refine (order_any (E := E) (m := 0) (ss := [(.func (.func f1) x1 y1, [dI 0], pPos), (.func (.func f2) x2 y2, [dS []], pName), (.func (.func f3) x3 y3, [], pThe [58]), (.func (.func f4) x4 y4, [dN], pNames 9 16), (.func (.func f5) x5 y5, [], pThe [59])]) (c := []) (rest := []) (r := r) (by simp) (chain_keep ((Keep.refl _).alloc _) (uq HC5)) (new_steps _ _ _) (fun h => Nat.lt_irrefl _ ((uq HS5) _ h)) rfl ((uq HR).keep ((uq HK5).alloc _)) ((uq HL).keep ((uq HK5).alloc _))).mono ?_; rintro e wz hp; obtain ⟨vz, rfl⟩ := post_ret hp; have HP := hide hp; have HKz := hide ((uq HK5).alloc (.cells #[.func (.func f1) x1 y1, .func (.func f2) x2 y2, .func (.func f3) x3 y3, .func (.func f4) x4 y4, .func (.func f5) x5 y5] 121)); clear hp)
  try go_wp2_with fail
  refine hK.out _ _ ?_ (fun hHeld => ?_)
  · trivial
  clear hK K
  try simp only [Act.put, Ya, Yb, Yc]
  refine tkk 21 4 hHeld ?_; try simp only [Act.put, Ya, Yb, Yc]
  refine wpAnyH_done (by kernel_rfl) ?_ _
  clear hHeld
  go_wp2_with fail
  go_ret
  exact post_pre (.keep (uq HKz)) (uq HP)
end Go.Proofs.YtmplckdpddmifaaGreatDoor
namespace Go.Proofs.YtmplckdpddmifaaGreatDoor
open Go.RowKit
attribute [local go_sem ↓] Go.wp_at_zero Go.wp_at_succ
set_option linter.unusedVariables false
set_option linter.unusedSimpArgs false
set_option maxRecDepth 10000
set_option maxHeartbeats 4000000 in
theorem ring_core (E : Env) (tb : Nat) (w : World) (r : List Tok) (A0 : Hid (E.A 0 = (tb, 0))) (A1 : Hid (E.A 1 = (tb, 1)))
    (HS : Hid (∀ b, E.S b → b < w.heap.size)) (HLo : Hid (E.lo ≤ w.heap.size)) (HR : Hid (Rdr E w r)) (HL : Hid (Cel E w [dB false, dN])) :
    Calls Tryz.prog 100 #[.pointer (some ⟨E.rb, 0, none⟩), .pointer (some ⟨tb, 0, none⟩)] w (Post E w [] 2 (sq [pMay [102, 114, 101, 101], pNames 9 4, pThe [59]] [] r)) := by
  have HK0 := hide (Keep.refl w).drew
  have HS0 : Hid (∀ b, E.S b → b < w.drew.heap.size) := HS
  have HLo0 : Hid (E.lo ≤ w.drew.heap.size) := HLo
  go_enter Tryz.func100, Tryz.ntmps100
  go_wp2_with fail
  refine wp_region_held_drew (S := fun _ => True) (by kernel_rfl) (by trivial) (fun hHeld => ?_)
  refine tkk 0 5 hHeld ?_; try simp only [Act.put, Ya, Yb, Yc]
  refine tkk 1 6 hHeld ?_; try simp only [Act.put, Ya, Yb, Yc]
  refine tkk 2 7 hHeld ?_; try simp only [Act.put, Ya, Yb, Yc]
  refine tkk 3 8 hHeld ?_; try simp only [Act.put, Ya, Yb, Yc]
  refine tkk 5 10 hHeld ?_; try simp only [Act.put, Ya, Yb, Yc]
  refine tkk 6 11 hHeld ?_; try simp only [Act.put, Ya, Yb, Yc]
  refine tkk 7 12 hHeld ?_; try simp only [Act.put, Ya, Yb, Yc]
  refine tkk 8 13 hHeld ?_; try simp only [Act.put, Ya, Yb, Yc]
  refine tkk 10 15 hHeld ?_; try simp only [Act.put, Ya, Yb, Yc]
  refine rdyy 4 (fun K hK => ?_)
  go_simp
  clear hHeld
  (refine (may_any (E := E) [102, 114, 101, 101] (by decide) (dB false) (0) _ _ (uq A0) _ (uq HS0)).mono ?_; rintro e w1 ⟨f1, x1, y1, rfl, hk, hd⟩; have HS1 := hide (hs_keep (uq HS0) hk); have HLo1 := hide (lo_keep (uq HLo0) hk); have HK1 := hide ((uq HK0).trans hk); have HC1 : Hid (Chain E w1 (0) [(.func (.func f1) x1 y1, [dB false], pMay [102, 114, 101, 101])]) := hide ⟨hd, trivial⟩; clear hk hd)
  try go_wp2_with fail
  refine hK.out _ _ ?_ (fun hHeld => ?_)
  · trivial
  clear hK K
  try simp only [Act.put, Ya, Yb, Yc]
  refine rdyy 9 (fun K hK => ?_)
  go_simp
  clear hHeld
  (refine (names_any (E := E) 4 (by decide) (1) _ _ (uq A1) _ (uq HS1) (uq HLo1)).mono ?_; rintro e w2 ⟨f2, x2, y2, rfl, hk, hd⟩; have HS2 := hide (hs_keep (uq HS1) hk); have HLo2 := hide (lo_keep (uq HLo1) hk); have HK2 := hide ((uq HK1).trans hk); have HC2 : Hid (Chain E w2 (0) [(.func (.func f1) x1 y1, [dB false], pMay [102, 114, 101, 101]), (.func (.func f2) x2 y2, [dN], pNames 9 4)]) := hide (chain_snoc (uq HC1) hk hd); clear hk hd)
  try go_wp2_with fail
  refine hK.out _ _ ?_ (fun hHeld => ?_)
  · trivial
  clear hK K
  try simp only [Act.put, Ya, Yb, Yc]
  refine rdyy 11 (fun K hK => ?_)
  go_simp
  clear hHeld
  (refine (the_any (E := E) [59] (by decide) (2) _ (uq HS2)).mono ?_; rintro e w3 ⟨f3, x3, y3, rfl, hk, hd⟩; have HS3 := hide (hs_keep (uq HS2) hk); have HLo3 := hide (lo_keep (uq HLo2) hk); have HK3 := hide ((uq HK2).trans hk); have HC3 : Hid (Chain E w3 (0) [(.func (.func f1) x1 y1, [dB false], pMay [102, 114, 101, 101]), (.func (.func f2) x2 y2, [dN], pNames 9 4), (.func (.func f3) x3 y3, [], pThe [59])]) := hide (chain_snoc (uq HC2) hk hd); clear hk hd)
  try go_wp2_with fail
  refine hK.out _ _ ?_ (fun hHeld => ?_)
  · trivial
  clear hK K
  try simp only [Act.put, Ya, Yb, Yc]
  refine rdyy 12 (fun K hK => ?_)
  go_simp
  clear hHeld
  refine hK.out _ _ ?_ (fun hHeld => ?_)
  · trivial
  clear hK K
  try simp only [Act.put, Ya, Yb, Yc]
  refine rdyy 13 (fun K hK => ?_)
  go_simp
  clear hHeld
  (refine (order_any (E := E) (m := 0) (ss := [(.func (.func f1) x1 y1, [dB false], pMay [102, 114, 101, 101]), (.func (.func f2) x2 y2, [dN], pNames 9 4), (.func (.func f3) x3 y3, [], pThe [59])]) (c := []) (rest := []) (r := r) (by simp) (chain_keep ((Keep.refl _).alloc _) (uq HC3)) (new_steps _ _ _) (fun h => Nat.lt_irrefl _ ((uq HS3) _ h)) rfl ((uq HR).keep ((uq HK3).alloc _)) ((uq HL).keep ((uq HK3).alloc _))).mono ?_; rintro e wz hp; obtain ⟨vz, rfl⟩ := post_ret hp; have HP := hide hp; have HKz := hide ((uq HK3).alloc (.cells #[.func (.func f1) x1 y1, .func (.func f2) x2 y2, .func (.func f3) x3 y3] 121)); clear hp)
  try go_wp2_with fail
  refine hK.out _ _ ?_ (fun hHeld => ?_)
  · trivial
  clear hK K
  try simp only [Act.put, Ya, Yb, Yc]
  refine tkk 14 4 hHeld ?_; try simp only [Act.put, Ya, Yb, Yc]
  refine wpAnyH_done (by kernel_rfl) ?_ _
  clear hHeld
  go_wp2_with fail
  go_ret
  exact post_pre (.keep (uq HKz)) (uq HP)
end Go.Proofs.YtmplckdpddmifaaGreatDoor
