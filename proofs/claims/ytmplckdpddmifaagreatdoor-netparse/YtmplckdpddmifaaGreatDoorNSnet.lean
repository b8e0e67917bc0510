/- Package net: net. -/
import Derived.Test.YtmplckdpddmifaaGreatDoorNArt
import Derived.Test.YtmplckdpddmifaaGreatDoorTk
import Derived.Test.YtmplckdpddmifaaGreatDoorNRb
import Derived.Test.YtmplckdpddmifaaGreatDoorNFg
namespace Go.Proofs.YtmplckdpddmifaaGreatDoor
open Go.RowKit
attribute [local go_sem ↓] Go.wp_at_zero Go.wp_at_succ
set_option linter.unusedVariables false
set_option linter.unusedSimpArgs false
set_option maxRecDepth 10000
set_option maxHeartbeats 4000000 in
theorem net_core (E : Env) (tb : Nat) (w : World) (r : List Tok) (A0 : Hid (E.A 0 = (tb, 0))) (A1 : Hid (E.A 1 = (tb, 1))) (A2 : Hid (E.A 2 = (tb, 2))) (A3 : Hid (E.A 3 = (tb, 3))) (A4 : Hid (E.A 4 = (tb, 4))) (A5 : Hid (E.A 5 = (tb, 5))) (A6 : Hid (E.A 6 = (tb, 6))) (A7 : Hid (E.A 7 = (tb, 7))) (A8 : Hid (E.A 8 = (tb, 8)))
    (HS : Hid (∀ b, E.S b → b < w.heap.size)) (HLo : Hid (E.lo ≤ w.heap.size)) (HR : Hid (Rdr E w r)) (HL : Hid (Cel E w [dI 0, dI 0, dI 0, dI 0, dI 0, dN, dN, dI 0, dI 0])) (THNode : Hid (ThingM E.rb E.l E.ta E.cap 52 61 [.string ⟨#[]⟩, .slice none 0 0, .slice none 0 0, .slice none 0 0, .slice none 0 0, .slice none 0 0, .int .i64 0] pNode)) (THStop : Hid (ThingM E.rb E.l E.ta E.cap 85 114 [.string ⟨#[]⟩, .string ⟨#[]⟩, .string ⟨#[]⟩, .int .i64 0, .int .i64 0, .int .i64 0] pStop)) :
    Calls Tryz.prog 31 #[.pointer (some ⟨E.rb, 0, none⟩), .pointer (some ⟨tb, 0, none⟩)] w (Post E w [] 9 (sq [pThe [99, 121, 99, 108, 101], pNum, pThe [116, 111], pNum, pThe [98, 121], pNum, pThe [59], pThe [112, 101, 97, 107], pFrac, pThe [59], pRow [110, 111, 100, 101] 12 61 7 pNode, pArt, pEnd] [] r)) := by
  have HK0 := hide (Keep.refl w).drew
  have HS0 : Hid (∀ b, E.S b → b < w.drew.heap.size) := HS
  have HLo0 : Hid (E.lo ≤ w.drew.heap.size) := HLo
  go_enter Tryz.func31, Tryz.ntmps31
  go_wp2_with fail
  refine wp_region_held_drew (S := fun _ => True) (by kernel_rfl) (by trivial) (fun hHeld => ?_)
  refine tkk 0 5 hHeld ?_; try simp only [Act.put, Ya, Yb, Yc]
  refine tkk 2 7 hHeld ?_; try simp only [Act.put, Ya, Yb, Yc]
  refine tkk 3 8 hHeld ?_; try simp only [Act.put, Ya, Yb, Yc]
  refine tkk 4 9 hHeld ?_; try simp only [Act.put, Ya, Yb, Yc]
  refine tkk 5 10 hHeld ?_; try simp only [Act.put, Ya, Yb, Yc]
  refine tkk 7 12 hHeld ?_; try simp only [Act.put, Ya, Yb, Yc]
  refine tkk 9 14 hHeld ?_; try simp only [Act.put, Ya, Yb, Yc]
  refine tkk 10 15 hHeld ?_; try simp only [Act.put, Ya, Yb, Yc]
  refine tkk 11 16 hHeld ?_; try simp only [Act.put, Ya, Yb, Yc]
  refine tkk 12 17 hHeld ?_; try simp only [Act.put, Ya, Yb, Yc]
  refine tkk 14 19 hHeld ?_; try simp only [Act.put, Ya, Yb, Yc]
  refine tkk 16 21 hHeld ?_; try simp only [Act.put, Ya, Yb, Yc]
  refine tkk 17 22 hHeld ?_; try simp only [Act.put, Ya, Yb, Yc]
  refine tkk 18 23 hHeld ?_; try simp only [Act.put, Ya, Yb, Yc]
  refine tkk 19 24 hHeld ?_; try simp only [Act.put, Ya, Yb, Yc]
  refine tkk 21 26 hHeld ?_; try simp only [Act.put, Ya, Yb, Yc]
  refine tkk 23 28 hHeld ?_; try simp only [Act.put, Ya, Yb, Yc]
  refine tkk 25 30 hHeld ?_; try simp only [Act.put, Ya, Yb, Yc]
  refine tkk 26 31 hHeld ?_; try simp only [Act.put, Ya, Yb, Yc]
  refine tkk 27 32 hHeld ?_; try simp only [Act.put, Ya, Yb, Yc]
  refine tkk 28 33 hHeld ?_; try simp only [Act.put, Ya, Yb, Yc]
  refine tkk 30 35 hHeld ?_; try simp only [Act.put, Ya, Yb, Yc]
  refine tkk 32 37 hHeld ?_; try simp only [Act.put, Ya, Yb, Yc]
  refine tkk 33 38 hHeld ?_; try simp only [Act.put, Ya, Yb, Yc]
  refine tkk 34 39 hHeld ?_; try simp only [Act.put, Ya, Yb, Yc]
  refine tkk 35 40 hHeld ?_; try simp only [Act.put, Ya, Yb, Yc]
  refine tkk 36 41 hHeld ?_; try simp only [Act.put, Ya, Yb, Yc]
  refine tkk 37 42 hHeld ?_; try simp only [Act.put, Ya, Yb, Yc]
  refine tkk 39 44 hHeld ?_; try simp only [Act.put, Ya, Yb, Yc]
  refine tkk 40 45 hHeld ?_; try simp only [Act.put, Ya, Yb, Yc]
  refine tkk 42 47 hHeld ?_; try simp only [Act.put, Ya, Yb, Yc]
  refine tkk 43 48 hHeld ?_; try simp only [Act.put, Ya, Yb, Yc]
  refine rdyy 1 (fun K hK => ?_)
  go_simp
  clear hHeld
  (refine (the_any (E := E) [99, 121, 99, 108, 101] (by decide) (0) _ (uq HS0)).mono ?_; rintro e w1 ⟨f1, x1, y1, rfl, hk, hd⟩; have HS1 := hide (hs_keep (uq HS0) hk); have HLo1 := hide (lo_keep (uq HLo0) hk); have HK1 := hide ((uq HK0).trans hk); have HC1 : Hid (Chain E w1 (0) [(.func (.func f1) x1 y1, [], pThe [99, 121, 99, 108, 101])]) := hide ⟨hd, trivial⟩; clear hk hd)
  try go_wp2_with fail
  refine hK.out _ _ ?_ (fun hHeld => ?_)
  · trivial
  clear hK K
  try simp only [Act.put, Ya, Yb, Yc]
  refine rdyy 6 (fun K hK => ?_)
  go_simp
  clear hHeld
  (refine (num_any (E := E) (dI 0) (0) _ _ (uq A0) _ (uq HS1)).mono ?_; rintro e w2 ⟨f2, x2, y2, rfl, hk, hd⟩; have HS2 := hide (hs_keep (uq HS1) hk); have HLo2 := hide (lo_keep (uq HLo1) hk); have HK2 := hide ((uq HK1).trans hk); have HC2 : Hid (Chain E w2 (0) [(.func (.func f1) x1 y1, [], pThe [99, 121, 99, 108, 101]), (.func (.func f2) x2 y2, [dI 0], pNum)]) := hide (chain_snoc (uq HC1) hk hd); clear hk hd)
  try go_wp2_with fail
  refine hK.out _ _ ?_ (fun hHeld => ?_)
  · trivial
  clear hK K
  try simp only [Act.put, Ya, Yb, Yc]
  refine rdyy 8 (fun K hK => ?_)
  go_simp
  clear hHeld
  (refine (the_any (E := E) [116, 111] (by decide) (1) _ (uq HS2)).mono ?_; rintro e w3 ⟨f3, x3, y3, rfl, hk, hd⟩; have HS3 := hide (hs_keep (uq HS2) hk); have HLo3 := hide (lo_keep (uq HLo2) hk); have HK3 := hide ((uq HK2).trans hk); have HC3 : Hid (Chain E w3 (0) [(.func (.func f1) x1 y1, [], pThe [99, 121, 99, 108, 101]), (.func (.func f2) x2 y2, [dI 0], pNum), (.func (.func f3) x3 y3, [], pThe [116, 111])]) := hide (chain_snoc (uq HC2) hk hd); clear hk hd)
  try go_wp2_with fail
  refine hK.out _ _ ?_ (fun hHeld => ?_)
  · trivial
  clear hK K
  try simp only [Act.put, Ya, Yb, Yc]
  refine rdyy 13 (fun K hK => ?_)
  go_simp
  clear hHeld
  (refine (num_any (E := E) (dI 0) (1) _ _ (uq A1) _ (uq HS3)).mono ?_; rintro e w4 ⟨f4, x4, y4, rfl, hk, hd⟩; have HS4 := hide (hs_keep (uq HS3) hk); have HLo4 := hide (lo_keep (uq HLo3) hk); have HK4 := hide ((uq HK3).trans hk); have HC4 : Hid (Chain E w4 (0) [(.func (.func f1) x1 y1, [], pThe [99, 121, 99, 108, 101]), (.func (.func f2) x2 y2, [dI 0], pNum), (.func (.func f3) x3 y3, [], pThe [116, 111]), (.func (.func f4) x4 y4, [dI 0], pNum)]) := hide (chain_snoc (uq HC3) hk hd); clear hk hd)
  try go_wp2_with fail
  refine hK.out _ _ ?_ (fun hHeld => ?_)
  · trivial
  clear hK K
  try simp only [Act.put, Ya, Yb, Yc]
  refine rdyy 15 (fun K hK => ?_)
  go_simp
  clear hHeld
  (refine (the_any (E := E) [98, 121] (by decide) (2) _ (uq HS4)).mono ?_; rintro e w5 ⟨f5, x5, y5, rfl, hk, hd⟩; have HS5 := hide (hs_keep (uq HS4) hk); have HLo5 := hide (lo_keep (uq HLo4) hk); have HK5 := hide ((uq HK4).trans hk); have HC5 : Hid (Chain E w5 (0) [(.func (.func f1) x1 y1, [], pThe [99, 121, 99, 108, 101]), (.func (.func f2) x2 y2, [dI 0], pNum), (.func (.func f3) x3 y3, [], pThe [116, 111]), (.func (.func f4) x4 y4, [dI 0], pNum), (.func (.func f5) x5 y5, [], pThe [98, 121])]) := hide (chain_snoc (uq HC4) hk hd); clear hk hd)
  try go_wp2_with fail
  refine hK.out _ _ ?_ (fun hHeld => ?_)
  · trivial
  clear hK K
  try simp only [Act.put, Ya, Yb, Yc]
  refine rdyy 20 (fun K hK => ?_)
  go_simp
  clear hHeld
  (refine (num_any (E := E) (dI 0) (2) _ _ (uq A2) _ (uq HS5)).mono ?_; rintro e w6 ⟨f6, x6, y6, rfl, hk, hd⟩; have HS6 := hide (hs_keep (uq HS5) hk); have HLo6 := hide (lo_keep (uq HLo5) hk); have HK6 := hide ((uq HK5).trans hk); have HC6 : Hid (Chain E w6 (0) [(.func (.func f1) x1 y1, [], pThe [99, 121, 99, 108, 101]), (.func (.func f2) x2 y2, [dI 0], pNum), (.func (.func f3) x3 y3, [], pThe [116, 111]), (.func (.func f4) x4 y4, [dI 0], pNum), (.func (.func f5) x5 y5, [], pThe [98, 121]), (.func (.func f6) x6 y6, [dI 0], pNum)]) := hide (chain_snoc (uq HC5) hk hd); clear hk hd)
  try go_wp2_with fail
  refine hK.out _ _ ?_ (fun hHeld => ?_)
  · trivial
  clear hK K
  try simp only [Act.put, Ya, Yb, Yc]
  refine rdyy 22 (fun K hK => ?_)
  go_simp
  clear hHeld
  (refine (the_any (E := E) [59] (by decide) (3) _ (uq HS6)).mono ?_; rintro e w7 ⟨f7, x7, y7, rfl, hk, hd⟩; have HS7 := hide (hs_keep (uq HS6) hk); have HLo7 := hide (lo_keep (uq HLo6) hk); have HK7 := hide ((uq HK6).trans hk); have HC7 : Hid (Chain E w7 (0) [(.func (.func f1) x1 y1, [], pThe [99, 121, 99, 108, 101]), (.func (.func f2) x2 y2, [dI 0], pNum), (.func (.func f3) x3 y3, [], pThe [116, 111]), (.func (.func f4) x4 y4, [dI 0], pNum), (.func (.func f5) x5 y5, [], pThe [98, 121]), (.func (.func f6) x6 y6, [dI 0], pNum), (.func (.func f7) x7 y7, [], pThe [59])]) := hide (chain_snoc (uq HC6) hk hd); clear hk hd)
  try go_wp2_with fail
  refine hK.out _ _ ?_ (fun hHeld => ?_)
  · trivial
  clear hK K
  try simp only [Act.put, Ya, Yb, Yc]
  refine rdyy 24 (fun K hK => ?_)
  go_simp
  clear hHeld
  (refine (the_any (E := E) [112, 101, 97, 107] (by decide) (3) _ (uq HS7)).mono ?_; rintro e w8 ⟨f8, x8, y8, rfl, hk, hd⟩; have HS8 := hide (hs_keep (uq HS7) hk); have HLo8 := hide (lo_keep (uq HLo7) hk); have HK8 := hide ((uq HK7).trans hk); have HC8 : Hid (Chain E w8 (0) [(.func (.func f1) x1 y1, [], pThe [99, 121, 99, 108, 101]), (.func (.func f2) x2 y2, [dI 0], pNum), (.func (.func f3) x3 y3, [], pThe [116, 111]), (.func (.func f4) x4 y4, [dI 0], pNum), (.func (.func f5) x5 y5, [], pThe [98, 121]), (.func (.func f6) x6 y6, [dI 0], pNum), (.func (.func f7) x7 y7, [], pThe [59]), (.func (.func f8) x8 y8, [], pThe [112, 101, 97, 107])]) := hide (chain_snoc (uq HC7) hk hd); clear hk hd)
  try go_wp2_with fail
  refine hK.out _ _ ?_ (fun hHeld => ?_)
  · trivial
  clear hK K
  try simp only [Act.put, Ya, Yb, Yc]
  refine rdyy 29 (fun K hK => ?_)
  go_simp
  clear hHeld
  (refine (frac_any (E := E) (3) _ _ (uq A3) (uq A4) _ (uq HS8)).mono ?_; rintro e w9 ⟨f9, x9, y9, rfl, hk, hd⟩; have HS9 := hide (hs_keep (uq HS8) hk); have HLo9 := hide (lo_keep (uq HLo8) hk); have HK9 := hide ((uq HK8).trans hk); have HC9 : Hid (Chain E w9 (0) [(.func (.func f1) x1 y1, [], pThe [99, 121, 99, 108, 101]), (.func (.func f2) x2 y2, [dI 0], pNum), (.func (.func f3) x3 y3, [], pThe [116, 111]), (.func (.func f4) x4 y4, [dI 0], pNum), (.func (.func f5) x5 y5, [], pThe [98, 121]), (.func (.func f6) x6 y6, [dI 0], pNum), (.func (.func f7) x7 y7, [], pThe [59]), (.func (.func f8) x8 y8, [], pThe [112, 101, 97, 107]), (.func (.func f9) x9 y9, [dI 0, dI 0], pFrac)]) := hide (chain_snoc (uq HC8) hk hd); clear hk hd)
  try go_wp2_with fail
  refine hK.out _ _ ?_ (fun hHeld => ?_)
  · trivial
  clear hK K
  try simp only [Act.put, Ya, Yb, Yc]
  refine rdyy 31 (fun K hK => ?_)
  go_simp
  clear hHeld
  (refine (the_any (E := E) [59] (by decide) (5) _ (uq HS9)).mono ?_; rintro e w10 ⟨f10, x10, y10, rfl, hk, hd⟩; have HS10 := hide (hs_keep (uq HS9) hk); have HLo10 := hide (lo_keep (uq HLo9) hk); have HK10 := hide ((uq HK9).trans hk); have HC10 : Hid (Chain E w10 (0) [(.func (.func f1) x1 y1, [], pThe [99, 121, 99, 108, 101]), (.func (.func f2) x2 y2, [dI 0], pNum), (.func (.func f3) x3 y3, [], pThe [116, 111]), (.func (.func f4) x4 y4, [dI 0], pNum), (.func (.func f5) x5 y5, [], pThe [98, 121]), (.func (.func f6) x6 y6, [dI 0], pNum), (.func (.func f7) x7 y7, [], pThe [59]), (.func (.func f8) x8 y8, [], pThe [112, 101, 97, 107]), (.func (.func f9) x9 y9, [dI 0, dI 0], pFrac), (.func (.func f10) x10 y10, [], pThe [59])]) := hide (chain_snoc (uq HC9) hk hd); clear hk hd)
  try go_wp2_with fail
  refine hK.out _ _ ?_ (fun hHeld => ?_)
  · trivial
  clear hK K
  try simp only [Act.put, Ya, Yb, Yc]
  refine rdyy 38 (fun K hK => ?_)
  go_simp
  clear hHeld
  (refine (rowNode_any (E := E) [110, 111, 100, 101] (by decide) 12 (by decide) pNode (uq THNode) (5) _ _ (uq A5) _ (uq HS10) (uq HLo10)).mono ?_; rintro e w11 ⟨f11, x11, y11, rfl, hk, hd⟩; have HS11 := hide (hs_keep (uq HS10) hk); have HLo11 := hide (lo_keep (uq HLo10) hk); have HK11 := hide ((uq HK10).trans hk); have HC11 : Hid (Chain E w11 (0) [(.func (.func f1) x1 y1, [], pThe [99, 121, 99, 108, 101]), (.func (.func f2) x2 y2, [dI 0], pNum), (.func (.func f3) x3 y3, [], pThe [116, 111]), (.func (.func f4) x4 y4, [dI 0], pNum), (.func (.func f5) x5 y5, [], pThe [98, 121]), (.func (.func f6) x6 y6, [dI 0], pNum), (.func (.func f7) x7 y7, [], pThe [59]), (.func (.func f8) x8 y8, [], pThe [112, 101, 97, 107]), (.func (.func f9) x9 y9, [dI 0, dI 0], pFrac), (.func (.func f10) x10 y10, [], pThe [59]), (.func (.func f11) x11 y11, [dN], pRow [110, 111, 100, 101] 12 61 7 pNode)]) := hide (chain_snoc (uq HC10) hk hd); clear hk hd)
  try go_wp2_with fail
  refine hK.out _ _ ?_ (fun hHeld => ?_)
  · trivial
  clear hK K
  try simp only [Act.put, Ya, Yb, Yc]
  refine rdyy 41 (fun K hK => ?_)
  go_simp
  clear hHeld
  (refine (art_any (E := E) (6) _ (uq A6) (uq A7) (uq A8) (uq THStop) _ (uq HS11) (uq HLo11)).mono ?_; rintro e w12 ⟨f12, x12, y12, rfl, hk, hd⟩; have HS12 := hide (hs_keep (uq HS11) hk); have HLo12 := hide (lo_keep (uq HLo11) hk); have HK12 := hide ((uq HK11).trans hk); have HC12 : Hid (Chain E w12 (0) [(.func (.func f1) x1 y1, [], pThe [99, 121, 99, 108, 101]), (.func (.func f2) x2 y2, [dI 0], pNum), (.func (.func f3) x3 y3, [], pThe [116, 111]), (.func (.func f4) x4 y4, [dI 0], pNum), (.func (.func f5) x5 y5, [], pThe [98, 121]), (.func (.func f6) x6 y6, [dI 0], pNum), (.func (.func f7) x7 y7, [], pThe [59]), (.func (.func f8) x8 y8, [], pThe [112, 101, 97, 107]), (.func (.func f9) x9 y9, [dI 0, dI 0], pFrac), (.func (.func f10) x10 y10, [], pThe [59]), (.func (.func f11) x11 y11, [dN], pRow [110, 111, 100, 101] 12 61 7 pNode), (.func (.func f12) x12 y12, [dN, dI 0, dI 0], pArt)]) := hide (chain_snoc (uq HC11) hk hd); clear hk hd)
  try go_wp2_with fail
  refine hK.out _ _ ?_ (fun hHeld => ?_)
  · trivial
  clear hK K
  try simp only [Act.put, Ya, Yb, Yc]
  have HC12_12 : Hid (Chain E w12 (0) [(.func (.func f1) x1 y1, [], pThe [99, 121, 99, 108, 101]), (.func (.func f2) x2 y2, [dI 0], pNum), (.func (.func f3) x3 y3, [], pThe [116, 111]), (.func (.func f4) x4 y4, [dI 0], pNum), (.func (.func f5) x5 y5, [], pThe [98, 121]), (.func (.func f6) x6 y6, [dI 0], pNum), (.func (.func f7) x7 y7, [], pThe [59]), (.func (.func f8) x8 y8, [], pThe [112, 101, 97, 107]), (.func (.func f9) x9 y9, [dI 0, dI 0], pFrac), (.func (.func f10) x10 y10, [], pThe [59]), (.func (.func f11) x11 y11, [dN], pRow [110, 111, 100, 101] 12 61 7 pNode), (.func (.func f12) x12 y12, [dN, dI 0, dI 0], pArt), (.func (.func 54) #[.pointer (some ⟨E.rb, 0, none⟩)] #[], [], pEnd)]) := hide (chain_snoc (uq HC12) (Keep.refl _) end_does)
  refine rdyy 44 (fun K hK => ?_)
  go_simp
  clear hHeld
  refine hK.out _ _ ?_ (fun hHeld => ?_)
  · trivial
  clear hK K
  try simp only [Act.put, Ya, Yb, Yc]
  refine rdyy 45 (fun K hK => ?_)
  go_simp
  clear hHeld
  (refine (order_any (E := E) (m := 0) (ss := [(.func (.func f1) x1 y1, [], pThe [99, 121, 99, 108, 101]), (.func (.func f2) x2 y2, [dI 0], pNum), (.func (.func f3) x3 y3, [], pThe [116, 111]), (.func (.func f4) x4 y4, [dI 0], pNum), (.func (.func f5) x5 y5, [], pThe [98, 121]), (.func (.func f6) x6 y6, [dI 0], pNum), (.func (.func f7) x7 y7, [], pThe [59]), (.func (.func f8) x8 y8, [], pThe [112, 101, 97, 107]), (.func (.func f9) x9 y9, [dI 0, dI 0], pFrac), (.func (.func f10) x10 y10, [], pThe [59]), (.func (.func f11) x11 y11, [dN], pRow [110, 111, 100, 101] 12 61 7 pNode), (.func (.func f12) x12 y12, [dN, dI 0, dI 0], pArt), (.func (.func 54) #[.pointer (some ⟨E.rb, 0, none⟩)] #[], [], pEnd)]) (c := []) (rest := []) (r := r) (by simp) (chain_keep ((Keep.refl _).alloc _) (uq HC12_12)) (new_steps _ _ _) (fun h => Nat.lt_irrefl _ ((uq HS12) _ h)) rfl ((uq HR).keep ((uq HK12).alloc _)) ((uq HL).keep ((uq HK12).alloc _))).mono ?_; rintro e wz hp; obtain ⟨vz, rfl⟩ := post_ret hp; have HP := hide hp; have HKz := hide ((uq HK12).alloc (.cells #[.func (.func f1) x1 y1, .func (.func f2) x2 y2, .func (.func f3) x3 y3, .func (.func f4) x4 y4, .func (.func f5) x5 y5, .func (.func f6) x6 y6, .func (.func f7) x7 y7, .func (.func f8) x8 y8, .func (.func f9) x9 y9, .func (.func f10) x10 y10, .func (.func f11) x11 y11, .func (.func f12) x12 y12, .func (.func 54) #[.pointer (some ⟨E.rb, 0, none⟩)] #[]] 121)); clear hp)
  try go_wp2_with fail
  refine hK.out _ _ ?_ (fun hHeld => ?_)
  · trivial
  clear hK K
  try simp only [Act.put, Ya, Yb, Yc]
  refine tkk 46 4 hHeld ?_; try simp only [Act.put, Ya, Yb, Yc]
  refine wpAnyH_done (by kernel_rfl) ?_ _
  clear hHeld
  go_wp2_with fail
  go_ret
  exact post_pre (.keep (uq HKz)) (uq HP)
end Go.Proofs.YtmplckdpddmifaaGreatDoor
