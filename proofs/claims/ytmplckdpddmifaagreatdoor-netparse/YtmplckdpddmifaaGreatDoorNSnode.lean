/- Package net: node. -/
import Derived.Test.YtmplckdpddmifaaGreatDoorNRb
import Derived.Test.YtmplckdpddmifaaGreatDoorTk
import Derived.Test.YtmplckdpddmifaaGreatDoorNRa
namespace Go.Proofs.YtmplckdpddmifaaGreatDoor
open Go.RowKit
attribute [local go_sem ↓] Go.wp_at_zero Go.wp_at_succ
set_option linter.unusedVariables false
set_option linter.unusedSimpArgs false
set_option maxRecDepth 10000
set_option maxHeartbeats 4000000 in
theorem node_core (E : Env) (tb : Nat) (w : World) (r : List Tok) (A0 : Hid (E.A 0 = (tb, 6))) (A1 : Hid (E.A 1 = (tb, 0))) (A2 : Hid (E.A 2 = (tb, 1))) (A3 : Hid (E.A 3 = (tb, 2))) (A4 : Hid (E.A 4 = (tb, 3))) (A5 : Hid (E.A 5 = (tb, 4))) (A6 : Hid (E.A 6 = (tb, 5)))
    (HS : Hid (∀ b, E.S b → b < w.heap.size)) (HLo : Hid (E.lo ≤ w.heap.size)) (HR : Hid (Rdr E w r)) (HL : Hid (Cel E w [dI 0, dS [], dN, dN, dN, dN, dN])) (THHead : Hid (ThingM E.rb E.l E.ta E.cap 73 77 [.string ⟨#[]⟩, .int .i64 0, .int .i64 0, .int .i64 0, .int .i64 0, .int .i64 0, .int .i64 0, .int .i64 0, .int .i64 0, .int .i64 0, .int .i64 0] pHead)) (THPed : Hid (ThingM E.rb E.l E.ta E.cap 75 101 [.string ⟨#[]⟩, .string ⟨#[]⟩, .int .i64 0, .int .i64 0, .int .i64 0, .int .i64 0] pWalk)) (THPhase : Hid (ThingM E.rb E.l E.ta E.cap 77 105 [.string ⟨#[]⟩, .slice none 0 0, .int .i64 0] pPhase)) (THGroup : Hid (ThingM E.rb E.l E.ta E.cap 79 109 [.slice none 0 0] pGroup)) (THFoe : Hid (ThingM E.rb E.l E.ta E.cap 81 112 [.string ⟨#[]⟩, .string ⟨#[]⟩, .int .i64 0] pFoe)) :
    Calls Tryz.prog 52 #[.pointer (some ⟨E.rb, 0, none⟩), .pointer (some ⟨tb, 0, none⟩)] w (Post E w [] 7 (sq [pPos, pName, pThe [123], pRow [104, 101, 97, 100] 16 77 11 pHead, pRow [119, 97, 108, 107] 8 101 6 pWalk, pRow [112, 104, 97, 115, 101] 16 105 3 pPhase, pRow [103, 114, 111, 117, 112] 4 109 1 pGroup, pRow [102, 111, 101] 64 112 3 pFoe, pThe [125]] [] r)) := by
  have HK0 := hide (Keep.refl w).drew
  have HS0 : Hid (∀ b, E.S b → b < w.drew.heap.size) := HS
  have HLo0 : Hid (E.lo ≤ w.drew.heap.size) := HLo
  go_enter Tryz.func52, Tryz.ntmps52
  go_wp2_with fail
  refine wp_region_held_drew (S := fun _ => True) (by kernel_rfl) (by trivial) (fun hHeld => ?_)
  refine tkk 0 5 hHeld ?_; try simp only [Act.put, Ya, Yb, Yc]
  refine tkk 1 6 hHeld ?_; try simp only [Act.put, Ya, Yb, Yc]
  refine tkk 2 7 hHeld ?_; try simp only [Act.put, Ya, Yb, Yc]
  refine tkk 3 8 hHeld ?_; try simp only [Act.put, Ya, Yb, Yc]
  refine tkk 5 10 hHeld ?_; try simp only [Act.put, Ya, Yb, Yc]
  refine tkk 6 11 hHeld ?_; try simp only [Act.put, Ya, Yb, Yc]
  refine tkk 7 12 hHeld ?_; try simp only [Act.put, Ya, Yb, Yc]
  refine tkk 8 13 hHeld ?_; try simp only [Act.put, Ya, Yb, Yc]
  refine tkk 10 15 hHeld ?_; try simp only [Act.put, Ya, Yb, Yc]
  refine tkk 12 17 hHeld ?_; try simp only [Act.put, Ya, Yb, Yc]
  refine tkk 13 18 hHeld ?_; try simp only [Act.put, Ya, Yb, Yc]
  refine tkk 14 19 hHeld ?_; try simp only [Act.put, Ya, Yb, Yc]
  refine tkk 15 20 hHeld ?_; try simp only [Act.put, Ya, Yb, Yc]
  refine tkk 16 21 hHeld ?_; try simp only [Act.put, Ya, Yb, Yc]
  refine tkk 17 22 hHeld ?_; try simp only [Act.put, Ya, Yb, Yc]
  refine tkk 19 24 hHeld ?_; try simp only [Act.put, Ya, Yb, Yc]
  refine tkk 20 25 hHeld ?_; try simp only [Act.put, Ya, Yb, Yc]
  refine tkk 21 26 hHeld ?_; try simp only [Act.put, Ya, Yb, Yc]
  refine tkk 22 27 hHeld ?_; try simp only [Act.put, Ya, Yb, Yc]
  refine tkk 23 28 hHeld ?_; try simp only [Act.put, Ya, Yb, Yc]
  refine tkk 24 29 hHeld ?_; try simp only [Act.put, Ya, Yb, Yc]
  refine tkk 26 31 hHeld ?_; try simp only [Act.put, Ya, Yb, Yc]
  refine tkk 27 32 hHeld ?_; try simp only [Act.put, Ya, Yb, Yc]
  refine tkk 28 33 hHeld ?_; try simp only [Act.put, Ya, Yb, Yc]
  refine tkk 29 34 hHeld ?_; try simp only [Act.put, Ya, Yb, Yc]
  refine tkk 30 35 hHeld ?_; try simp only [Act.put, Ya, Yb, Yc]
  refine tkk 31 36 hHeld ?_; try simp only [Act.put, Ya, Yb, Yc]
  refine tkk 33 38 hHeld ?_; try simp only [Act.put, Ya, Yb, Yc]
  refine tkk 34 39 hHeld ?_; try simp only [Act.put, Ya, Yb, Yc]
  refine tkk 35 40 hHeld ?_; try simp only [Act.put, Ya, Yb, Yc]
  refine tkk 36 41 hHeld ?_; try simp only [Act.put, Ya, Yb, Yc]
  refine tkk 37 42 hHeld ?_; try simp only [Act.put, Ya, Yb, Yc]
  refine tkk 38 43 hHeld ?_; try simp only [Act.put, Ya, Yb, Yc]
  refine tkk 40 45 hHeld ?_; try simp only [Act.put, Ya, Yb, Yc]
  refine tkk 41 46 hHeld ?_; try simp only [Act.put, Ya, Yb, Yc]
  refine tkk 42 47 hHeld ?_; try simp only [Act.put, Ya, Yb, Yc]
  refine tkk 43 48 hHeld ?_; try simp only [Act.put, Ya, Yb, Yc]
  refine tkk 44 49 hHeld ?_; try simp only [Act.put, Ya, Yb, Yc]
  refine tkk 45 50 hHeld ?_; try simp only [Act.put, Ya, Yb, Yc]
  refine tkk 47 52 hHeld ?_; try simp only [Act.put, Ya, Yb, Yc]
  refine rdyy 4 (fun K hK => ?_)
  go_simp
  clear hHeld
  (refine (pos_any (E := E) (dI 0) (0) _ _ (uq A0) _ (uq HS0)).mono ?_; rintro e w1 ⟨f1, x1, y1, rfl, hk, hd⟩; have HS1 := hide (hs_keep (uq HS0) hk); have HLo1 := hide (lo_keep (uq HLo0) hk); have HK1 := hide ((uq HK0).trans hk); have HC1 : Hid (Chain E w1 (0) [(.func (.func f1) x1 y1, [dI 0], pPos)]) := hide ⟨hd, trivial⟩; clear hk hd)
  try go_wp2_with fail
  refine hK.out _ _ ?_ (fun hHeld => ?_)
  · trivial
  clear hK K
  try simp only [Act.put, Ya, Yb, Yc]
  refine rdyy 9 (fun K hK => ?_)
  go_simp
  clear hHeld
  (refine (name_any (E := E) (dS []) (1) _ _ (uq A1) _ (uq HS1)).mono ?_; rintro e w2 ⟨f2, x2, y2, rfl, hk, hd⟩; have HS2 := hide (hs_keep (uq HS1) hk); have HLo2 := hide (lo_keep (uq HLo1) hk); have HK2 := hide ((uq HK1).trans hk); have HC2 : Hid (Chain E w2 (0) [(.func (.func f1) x1 y1, [dI 0], pPos), (.func (.func f2) x2 y2, [dS []], pName)]) := hide (chain_snoc (uq HC1) hk hd); clear hk hd)
  try go_wp2_with fail
  refine hK.out _ _ ?_ (fun hHeld => ?_)
  · trivial
  clear hK K
  try simp only [Act.put, Ya, Yb, Yc]
  refine rdyy 11 (fun K hK => ?_)
  go_simp
  clear hHeld
  (refine (the_any (E := E) [123] (by decide) (2) _ (uq HS2)).mono ?_; rintro e w3 ⟨f3, x3, y3, rfl, hk, hd⟩; have HS3 := hide (hs_keep (uq HS2) hk); have HLo3 := hide (lo_keep (uq HLo2) hk); have HK3 := hide ((uq HK2).trans hk); have HC3 : Hid (Chain E w3 (0) [(.func (.func f1) x1 y1, [dI 0], pPos), (.func (.func f2) x2 y2, [dS []], pName), (.func (.func f3) x3 y3, [], pThe [123])]) := hide (chain_snoc (uq HC2) hk hd); clear hk hd)
  try go_wp2_with fail
  refine hK.out _ _ ?_ (fun hHeld => ?_)
  · trivial
  clear hK K
  try simp only [Act.put, Ya, Yb, Yc]
  refine rdyy 18 (fun K hK => ?_)
  go_simp
  clear hHeld
  (refine (rowHead_any (E := E) [104, 101, 97, 100] (by decide) 16 (by decide) pHead (uq THHead) (2) _ _ (uq A2) _ (uq HS3) (uq HLo3)).mono ?_; rintro e w4 ⟨f4, x4, y4, rfl, hk, hd⟩; have HS4 := hide (hs_keep (uq HS3) hk); have HLo4 := hide (lo_keep (uq HLo3) hk); have HK4 := hide ((uq HK3).trans hk); have HC4 : Hid (Chain E w4 (0) [(.func (.func f1) x1 y1, [dI 0], pPos), (.func (.func f2) x2 y2, [dS []], pName), (.func (.func f3) x3 y3, [], pThe [123]), (.func (.func f4) x4 y4, [dN], pRow [104, 101, 97, 100] 16 77 11 pHead)]) := hide (chain_snoc (uq HC3) hk hd); clear hk hd)
  try go_wp2_with fail
  refine hK.out _ _ ?_ (fun hHeld => ?_)
  · trivial
  clear hK K
  try simp only [Act.put, Ya, Yb, Yc]
  refine rdyy 25 (fun K hK => ?_)
  go_simp
  clear hHeld
  (refine (rowPed_any (E := E) [119, 97, 108, 107] (by decide) 8 (by decide) pWalk (uq THPed) (3) _ _ (uq A3) _ (uq HS4) (uq HLo4)).mono ?_; rintro e w5 ⟨f5, x5, y5, rfl, hk, hd⟩; have HS5 := hide (hs_keep (uq HS4) hk); have HLo5 := hide (lo_keep (uq HLo4) hk); have HK5 := hide ((uq HK4).trans hk); have HC5 : Hid (Chain E w5 (0) [(.func (.func f1) x1 y1, [dI 0], pPos), (.func (.func f2) x2 y2, [dS []], pName), (.func (.func f3) x3 y3, [], pThe [123]), (.func (.func f4) x4 y4, [dN], pRow [104, 101, 97, 100] 16 77 11 pHead), (.func (.func f5) x5 y5, [dN], pRow [119, 97, 108, 107] 8 101 6 pWalk)]) := hide (chain_snoc (uq HC4) hk hd); clear hk hd)
  try go_wp2_with fail
  refine hK.out _ _ ?_ (fun hHeld => ?_)
  · trivial
  clear hK K
  try simp only [Act.put, Ya, Yb, Yc]
  refine rdyy 32 (fun K hK => ?_)
  go_simp
  clear hHeld
  (refine (rowPhase_any (E := E) [112, 104, 97, 115, 101] (by decide) 16 (by decide) pPhase (uq THPhase) (4) _ _ (uq A4) _ (uq HS5) (uq HLo5)).mono ?_; rintro e w6 ⟨f6, x6, y6, rfl, hk, hd⟩; have HS6 := hide (hs_keep (uq HS5) hk); have HLo6 := hide (lo_keep (uq HLo5) hk); have HK6 := hide ((uq HK5).trans hk); have HC6 : Hid (Chain E w6 (0) [(.func (.func f1) x1 y1, [dI 0], pPos), (.func (.func f2) x2 y2, [dS []], pName), (.func (.func f3) x3 y3, [], pThe [123]), (.func (.func f4) x4 y4, [dN], pRow [104, 101, 97, 100] 16 77 11 pHead), (.func (.func f5) x5 y5, [dN], pRow [119, 97, 108, 107] 8 101 6 pWalk), (.func (.func f6) x6 y6, [dN], pRow [112, 104, 97, 115, 101] 16 105 3 pPhase)]) := hide (chain_snoc (uq HC5) hk hd); clear hk hd)
  try go_wp2_with fail
  refine hK.out _ _ ?_ (fun hHeld => ?_)
  · trivial
  clear hK K
  try simp only [Act.put, Ya, Yb, Yc]
  refine rdyy 39 (fun K hK => ?_)
  go_simp
  clear hHeld
  (refine (rowGroup_any (E := E) [103, 114, 111, 117, 112] (by decide) 4 (by decide) pGroup (uq THGroup) (5) _ _ (uq A5) _ (uq HS6) (uq HLo6)).mono ?_; rintro e w7 ⟨f7, x7, y7, rfl, hk, hd⟩; have HS7 := hide (hs_keep (uq HS6) hk); have HLo7 := hide (lo_keep (uq HLo6) hk); have HK7 := hide ((uq HK6).trans hk); have HC7 : Hid (Chain E w7 (0) [(.func (.func f1) x1 y1, [dI 0], pPos), (.func (.func f2) x2 y2, [dS []], pName), (.func (.func f3) x3 y3, [], pThe [123]), (.func (.func f4) x4 y4, [dN], pRow [104, 101, 97, 100] 16 77 11 pHead), (.func (.func f5) x5 y5, [dN], pRow [119, 97, 108, 107] 8 101 6 pWalk), (.func (.func f6) x6 y6, [dN], pRow [112, 104, 97, 115, 101] 16 105 3 pPhase), (.func (.func f7) x7 y7, [dN], pRow [103, 114, 111, 117, 112] 4 109 1 pGroup)]) := hide (chain_snoc (uq HC6) hk hd); clear hk hd)
  try go_wp2_with fail
  refine hK.out _ _ ?_ (fun hHeld => ?_)
  · trivial
  clear hK K
  try simp only [Act.put, Ya, Yb, Yc]
  refine rdyy 46 (fun K hK => ?_)
  go_simp
  clear hHeld
  (refine (rowFoe_any (E := E) [102, 111, 101] (by decide) 64 (by decide) pFoe (uq THFoe) (6) _ _ (uq A6) _ (uq HS7) (uq HLo7)).mono ?_; rintro e w8 ⟨f8, x8, y8, rfl, hk, hd⟩; have HS8 := hide (hs_keep (uq HS7) hk); have HLo8 := hide (lo_keep (uq HLo7) hk); have HK8 := hide ((uq HK7).trans hk); have HC8 : Hid (Chain E w8 (0) [(.func (.func f1) x1 y1, [dI 0], pPos), (.func (.func f2) x2 y2, [dS []], pName), (.func (.func f3) x3 y3, [], pThe [123]), (.func (.func f4) x4 y4, [dN], pRow [104, 101, 97, 100] 16 77 11 pHead), (.func (.func f5) x5 y5, [dN], pRow [119, 97, 108, 107] 8 101 6 pWalk), (.func (.func f6) x6 y6, [dN], pRow [112, 104, 97, 115, 101] 16 105 3 pPhase), (.func (.func f7) x7 y7, [dN], pRow [103, 114, 111, 117, 112] 4 109 1 pGroup), (.func (.func f8) x8 y8, [dN], pRow [102, 111, 101] 64 112 3 pFoe)]) := hide (chain_snoc (uq HC7) hk hd); clear hk hd)
  try go_wp2_with fail
  refine hK.out _ _ ?_ (fun hHeld => ?_)
  · trivial
  clear hK K
  try simp only [Act.put, Ya, Yb, Yc]
  refine rdyy 48 (fun K hK => ?_)
  go_simp
  clear hHeld
  (refine (the_any (E := E) [125] (by decide) (7) _ (uq HS8)).mono ?_; rintro e w9 ⟨f9, x9, y9, rfl, hk, hd⟩; have HS9 := hide (hs_keep (uq HS8) hk); have HLo9 := hide (lo_keep (uq HLo8) hk); have HK9 := hide ((uq HK8).trans hk); have HC9 : Hid (Chain E w9 (0) [(.func (.func f1) x1 y1, [dI 0], pPos), (.func (.func f2) x2 y2, [dS []], pName), (.func (.func f3) x3 y3, [], pThe [123]), (.func (.func f4) x4 y4, [dN], pRow [104, 101, 97, 100] 16 77 11 pHead), (.func (.func f5) x5 y5, [dN], pRow [119, 97, 108, 107] 8 101 6 pWalk), (.func (.func f6) x6 y6, [dN], pRow [112, 104, 97, 115, 101] 16 105 3 pPhase), (.func (.func f7) x7 y7, [dN], pRow [103, 114, 111, 117, 112] 4 109 1 pGroup), (.func (.func f8) x8 y8, [dN], pRow [102, 111, 101] 64 112 3 pFoe), (.func (.func f9) x9 y9, [], pThe [125])]) := hide (chain_snoc (uq HC8) hk hd); clear hk hd)
  try go_wp2_with fail
  refine hK.out _ _ ?_ (fun hHeld => ?_)
  · trivial
  clear hK K
  try simp only [Act.put, Ya, Yb, Yc]
  refine rdyy 49 (fun K hK => ?_)
  go_simp
  clear hHeld
  refine hK.out _ _ ?_ (fun hHeld => ?_)
  · trivial
  clear hK K
  try simp only [Act.put, Ya, Yb, Yc]
  refine rdyy 50 (fun K hK => ?_)
  go_simp
  clear hHeld
  (refine (order_any (E := E) (m := 0) (ss := [(.func (.func f1) x1 y1, [dI 0], pPos), (.func (.func f2) x2 y2, [dS []], pName), (.func (.func f3) x3 y3, [], pThe [123]), (.func (.func f4) x4 y4, [dN], pRow [104, 101, 97, 100] 16 77 11 pHead), (.func (.func f5) x5 y5, [dN], pRow [119, 97, 108, 107] 8 101 6 pWalk), (.func (.func f6) x6 y6, [dN], pRow [112, 104, 97, 115, 101] 16 105 3 pPhase), (.func (.func f7) x7 y7, [dN], pRow [103, 114, 111, 117, 112] 4 109 1 pGroup), (.func (.func f8) x8 y8, [dN], pRow [102, 111, 101] 64 112 3 pFoe), (.func (.func f9) x9 y9, [], pThe [125])]) (c := []) (rest := []) (r := r) (by simp) (chain_keep ((Keep.refl _).alloc _) (uq HC9)) (new_steps _ _ _) (fun h => Nat.lt_irrefl _ ((uq HS9) _ h)) rfl ((uq HR).keep ((uq HK9).alloc _)) ((uq HL).keep ((uq HK9).alloc _))).mono ?_; rintro e wz hp; obtain ⟨vz, rfl⟩ := post_ret hp; have HP := hide hp; have HKz := hide ((uq HK9).alloc (.cells #[.func (.func f1) x1 y1, .func (.func f2) x2 y2, .func (.func f3) x3 y3, .func (.func f4) x4 y4, .func (.func f5) x5 y5, .func (.func f6) x6 y6, .func (.func f7) x7 y7, .func (.func f8) x8 y8, .func (.func f9) x9 y9] 121)); clear hp)
  try go_wp2_with fail
  refine hK.out _ _ ?_ (fun hHeld => ?_)
  · trivial
  clear hK K
  try simp only [Act.put, Ya, Yb, Yc]
  refine tkk 51 4 hHeld ?_; try simp only [Act.put, Ya, Yb, Yc]
  refine wpAnyH_done (by kernel_rfl) ?_ _
  clear hHeld
  go_wp2_with fail
  go_ret
  exact post_pre (.keep (uq HKz)) (uq HP)
end Go.Proofs.YtmplckdpddmifaaGreatDoor
