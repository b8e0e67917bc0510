/- Which tokens are right: package lex and the document. -/
import Derived.Test.YtcdnbdajnagfiaaGreatDoorLRToks
import Derived.Test.YtcdnbdajnagfiaaGreatDoorLKind
import Derived.Deep.RegionHeld
import Derived.Test.YtcdnbdajnagfiaaGreatDoorLFact
import Derived.Test.YtcdnbdajnagfiaaGreatDoorNVal
import Derived.Test.YtcdnbdajnagfiaaGreatDoorNMath
namespace Go.Proofs.YtcdnbdajnagfiaaGreatDoor
open Go.RowKit
attribute [local go_sem ↓] Go.wp_at_zero Go.wp_at_succ
set_option linter.unusedVariables false
set_option linter.unusedSimpArgs false
set_option maxRecDepth 10000
/-- bytes of a string -/
theorem by_of (w : World) (s : ByteArray) : ∃ cap o k, (∀ src dst, Tryz.prog.underlying src = some .string → Tryz.prog.underlying dst = some (.slice 5) → (convert src dst (.string s)).run Tryz.prog w = .ok (.slice (some ⟨w.heap.size, 0, none⟩) s.size cap) (ext w #[o] k)) ∧ By (ext w #[o] k) (.slice (some ⟨w.heap.size, 0, none⟩) s.size cap) s.data.toList := by
  refine ⟨grownCap w s.size 0 5, .cells (bytesRow s (grownCap w s.size 0 5)) 5 ((bytesRow s (grownCap w s.size 0 5)).size, (bytesRow s (grownCap w s.size 0 5)).size + 1), w.drew.drawn, fun src dst hs hd => ?_, ?_⟩
  · rw [run_bytes_of_string (P := Tryz.prog) w src dst 5 s hs hd Tryz.underlying5]
    congr 1
  · refine ⟨_, _, rfl, grownCap_ge _ _ _ _, fun k hk => ⟨_, rfl, by simp, ?_⟩⟩
    rw [add_plain, Nat.zero_add]
    have hk' : k < s.data.size := by simpa using hk
    have h1 : (ext w #[Obj.cells (bytesRow s (grownCap w s.size 0 5)) 5 ((bytesRow s (grownCap w s.size 0 5)).size, (bytesRow s (grownCap w s.size 0 5)).size + 1)] w.drew.drawn).cell? ⟨w.heap.size, k, none⟩ = (bytesRow s (grownCap w s.size 0 5))[k]? := by
      unfold World.cell? ext
      simp
    rw [h1, bytesRow_at s _ k hk']
    congr 3
    rw [List.getD_eq_getElem?_getD, List.getElem?_eq_getElem (by simpa using hk')]
    simp
/-- what Right says -/
def rg (t : Tok) : Bool := match T t.s with
  | .ok [x, _] => decide (x.k = t.k) && decide (x.n = t.n) && decide (x.s = t.s)
  | _ => false
set_option maxHeartbeats 4000000 in
theorem right_no (K N P E M : Int) (n : Nat) (S : ByteArray) (w : World) (h : (E != 0) = true ∨ ((E != 0) = false ∧ ((n : Int) != 2) = true))
    (T1 : Hid (∀ w' v, By w' v S.data.toList → Calls Tryz.prog 71 #[v] w' fun e w'' => ∃ a cap, e = .returned (.tuple #[.slice a n cap, .int .i64 E, .int .i64 M]) ∧ Keep w' w'')) :
    Calls Tryz.prog 86 #[.agg #[.int .i64 K, .string S, .int .i64 N, .int .i64 P]] w fun e w' => e = .returned (.bool false) ∧ Keep w w' := by
  obtain ⟨cap, o, k1, hcv, hby⟩ := by_of (w.alloc (.cells #[.int .i64 K, .string S, .int .i64 N, .int .i64 P] 115)) S
  have hcv2 := hcv 9 29 Tryz.underlying9 Tryz.underlying29
  simp only [World.size_alloc] at hcv2 hby
  have HBY := hide hby
  clear hcv hby
  have k0 := hide (keep_ext ((Keep.refl w).alloc (.cells #[.int .i64 K, .string S, .int .i64 N, .int .i64 P] 115)) #[o] k1)
  rcases h with h1 | ⟨h1, h2⟩
  · go_enter Tryz.func86, Tryz.ntmps86
    go_wp2_with fail
    (refine ((uq T1) _ _ (uq HBY)).mono ?_; rintro e w2 ⟨a, cp, rfl, hk⟩; replace k0 := hide ((uq k0).trans hk); clear hk)
    go_wp2_with fail
    go_ret
    exact ⟨rfl, uq k0⟩
  · go_enter Tryz.func86, Tryz.ntmps86
    go_wp2_with fail
    (refine ((uq T1) _ _ (uq HBY)).mono ?_; rintro e w2 ⟨a, cp, rfl, hk⟩; replace k0 := hide ((uq k0).trans hk); clear hk)
    go_wp2_with fail
    go_ret
    exact ⟨rfl, uq k0⟩
theorem ext_other (w : World) (o1 o2 : Obj) (os : Array Obj) (k : Nat) (ad : Addr) (h : w.heap.size < ad.block) : (ext (w.alloc o1) os k).cell? ad = (ext (w.alloc o2) os k).cell? ad := by
  have e : ∀ o : Obj, (w.heap.push o ++ os)[ad.block]? = os[ad.block - (w.heap.size + 1)]? := fun o => by
    rw [Array.getElem?_append_right (by rw [Array.size_push]; omega), Array.size_push]
  unfold World.cell? ext World.alloc
  simp only [e]
set_option maxHeartbeats 4000000 in
theorem right_eq (K N P : Int) (S : ByteArray) (w : World)
    (T1 : Hid (∀ w' v, By w' v S.data.toList → Calls Tryz.prog 71 #[v] w' fun e w'' => ∃ ad cap, e = .returned (.tuple #[.slice (some ad) 2 cap, .int .i64 0, .int .i64 0]) ∧ w'.heap.size ≤ ad.block ∧ ad.block < w''.heap.size ∧ (w''.cell? ad = some (.int .i64 K) ∧ w''.cell? ⟨ad.block, ad.off + 1, none⟩ = some (.string S) ∧ w''.cell? ⟨ad.block, ad.off + 2, none⟩ = some (.int .i64 N) ∧ w''.cell? ⟨ad.block, ad.off + 3, none⟩ = some (.int .i64 0)) ∧ Keep w' w'')) :
    Calls Tryz.prog 86 #[.agg #[.int .i64 K, .string S, .int .i64 N, .int .i64 P]] w fun e w' => e = .returned (.bool true) ∧ Keep w w' := by
  obtain ⟨cap, o, k1, hcv, hby⟩ := by_of (w.alloc (.cells #[.int .i64 K, .string S, .int .i64 N, .int .i64 P] 115)) S
  have hcv2 := hcv 9 29 Tryz.underlying9 Tryz.underlying29
  simp only [World.size_alloc] at hcv2 hby
  have HBY := hide hby
  clear hcv hby
  go_enter Tryz.func86, Tryz.ntmps86
  go_wp2_with fail
  (refine ((uq T1) _ _ (uq HBY)).mono ?_; rintro e w2 ⟨ad, cp, rfl, hlo, hhi, ⟨c0, c1, c2, c3⟩, hk⟩; obtain ⟨os, k2, rfl⟩ := hk.ext; clear hk)
  have k0 := hide (keep_ext ((Keep.refl w).alloc (.cells #[.int .i64 K, .string S, .int .i64 N, .int .i64 0] 115)) (#[o] ++ os) k2)
  simp only [ext_ext] at c0 c1 c2 c3 hhi
  have hlo' : w.heap.size < ad.block := by simp at hlo; omega
  rw [ext_other w _ (.cells #[.int .i64 K, .string S, .int .i64 N, .int .i64 0] 115) _ _ ad hlo'] at c0
  rw [ext_other w _ (.cells #[.int .i64 K, .string S, .int .i64 N, .int .i64 0] 115) _ _ ⟨ad.block, _, none⟩ hlo'] at c1 c2 c3
  clear hlo hlo' hhi
  go_wp2_with fail
  refine wp_region_held_drew (S := fun w' => w'.cell? ad = some (.int .i64 K) ∧ w'.cell? ⟨ad.block, ad.off + 1, none⟩ = some (.string S) ∧ w'.cell? ⟨ad.block, ad.off + 2, none⟩ = some (.int .i64 N) ∧ w'.cell? ⟨ad.block, ad.off + 3, none⟩ = some (.int .i64 0) ∧ w'.cell? ⟨w.heap.size, 0, none⟩ = some (.int .i64 K) ∧ w'.cell? ⟨w.heap.size, 1, none⟩ = some (.string S) ∧ w'.cell? ⟨w.heap.size, 2, none⟩ = some (.int .i64 N) ∧ w'.cell? ⟨w.heap.size, 3, none⟩ = some (.int .i64 0)) (by kernel_rfl) (by exact ⟨c0, c1, c2, c3, by simp [go_sem], by simp [go_sem], by simp [go_sem], by simp [go_sem]⟩) (fun hHeld => ?_)
  refine tkk 0 22 hHeld ?_; try simp only [Act.put, Ya, Yb, Yc]
  refine tkk 1 23 hHeld ?_; try simp only [Act.put, Ya, Yb, Yc]
  refine tkk 2 24 hHeld ?_; try simp only [Act.put, Ya, Yb, Yc]
  refine tkk 3 25 hHeld ?_; try simp only [Act.put, Ya, Yb, Yc]
  refine tkk 4 26 hHeld ?_; try simp only [Act.put, Ya, Yb, Yc]
  refine tkk 5 2 hHeld ?_; try simp only [Act.put, Ya, Yb, Yc]
  refine wpAnyH_done (by kernel_rfl) ?_ _
  clear hHeld
  go_wp2_with fail
  go_ret
  exact ⟨rfl, (uq k0).drew⟩
set_option maxHeartbeats 4000000 in
theorem right_k (K N P K2 N2 P2 : Int) (S S2 : ByteArray) (w : World) (hne : ¬ K2 = K)
    (T1 : Hid (∀ w' v, By w' v S.data.toList → Calls Tryz.prog 71 #[v] w' fun e w'' => ∃ ad cap, e = .returned (.tuple #[.slice (some ad) 2 cap, .int .i64 0, .int .i64 0]) ∧ w'.heap.size ≤ ad.block ∧ ad.block < w''.heap.size ∧ (w''.cell? ad = some (.int .i64 K2) ∧ w''.cell? ⟨ad.block, ad.off + 1, none⟩ = some (.string S2) ∧ w''.cell? ⟨ad.block, ad.off + 2, none⟩ = some (.int .i64 N2) ∧ w''.cell? ⟨ad.block, ad.off + 3, none⟩ = some (.int .i64 P2)) ∧ Keep w' w'')) :
    Calls Tryz.prog 86 #[.agg #[.int .i64 K, .string S, .int .i64 N, .int .i64 P]] w fun e w' => e = .returned (.bool false) ∧ Keep w w' := by
  obtain ⟨cap, o, k1, hcv, hby⟩ := by_of (w.alloc (.cells #[.int .i64 K, .string S, .int .i64 N, .int .i64 P] 115)) S
  have hcv2 := hcv 9 29 Tryz.underlying9 Tryz.underlying29
  simp only [World.size_alloc] at hcv2 hby
  have HBY := hide hby
  clear hcv hby
  go_enter Tryz.func86, Tryz.ntmps86
  go_wp2_with fail
  (refine ((uq T1) _ _ (uq HBY)).mono ?_; rintro e w2 ⟨ad, cp, rfl, hlo, hhi, ⟨c0, c1, c2, c3⟩, hk⟩; obtain ⟨os, k2, rfl⟩ := hk.ext; clear hk)
  have k0 := hide (keep_ext ((Keep.refl w).alloc (.cells #[.int .i64 K, .string S, .int .i64 N, .int .i64 0] 115)) (#[o] ++ os) k2)
  simp only [ext_ext] at c0 c1 c2 c3 hhi
  have hlo' : w.heap.size < ad.block := by simp at hlo; omega
  rw [ext_other w _ (.cells #[.int .i64 K, .string S, .int .i64 N, .int .i64 0] 115) _ _ ad hlo'] at c0
  rw [ext_other w _ (.cells #[.int .i64 K, .string S, .int .i64 N, .int .i64 0] 115) _ _ ⟨ad.block, _, none⟩ hlo'] at c1 c2 c3
  clear hlo hlo' hhi
  go_wp2_with fail
  refine wp_region_held_drew (S := fun w' => w'.cell? ad = some (.int .i64 K2) ∧ w'.cell? ⟨ad.block, ad.off + 1, none⟩ = some (.string S2) ∧ w'.cell? ⟨ad.block, ad.off + 2, none⟩ = some (.int .i64 N2) ∧ w'.cell? ⟨ad.block, ad.off + 3, none⟩ = some (.int .i64 P2) ∧ w'.cell? ⟨w.heap.size, 0, none⟩ = some (.int .i64 K) ∧ w'.cell? ⟨w.heap.size, 1, none⟩ = some (.string S) ∧ w'.cell? ⟨w.heap.size, 2, none⟩ = some (.int .i64 N) ∧ w'.cell? ⟨w.heap.size, 3, none⟩ = some (.int .i64 0)) (by kernel_rfl) (by exact ⟨c0, c1, c2, c3, by simp [go_sem], by simp [go_sem], by simp [go_sem], by simp [go_sem]⟩) (fun hHeld => ?_)
  refine tkk 0 22 hHeld ?_; try simp only [Act.put, Ya, Yb, Yc]
  refine tkk 1 23 hHeld ?_; try simp only [Act.put, Ya, Yb, Yc]
  refine tkk 2 24 hHeld ?_; try simp only [Act.put, Ya, Yb, Yc]
  refine tkk 3 25 hHeld ?_; try simp only [Act.put, Ya, Yb, Yc]
  refine tkk 4 26 hHeld ?_; try simp only [Act.put, Ya, Yb, Yc]
  refine tkk 5 2 hHeld ?_; try simp only [Act.put, Ya, Yb, Yc]
  refine wpAnyH_done (by kernel_rfl) ?_ _
  clear hHeld
  go_wp2_with fail
  go_ret
  exact ⟨rfl, (uq k0).drew⟩
set_option maxHeartbeats 4000000 in
theorem right_s (K N P N2 P2 : Int) (S S2 : ByteArray) (w : World) (hne : ¬ S2.toList = S.toList)
    (T1 : Hid (∀ w' v, By w' v S.data.toList → Calls Tryz.prog 71 #[v] w' fun e w'' => ∃ ad cap, e = .returned (.tuple #[.slice (some ad) 2 cap, .int .i64 0, .int .i64 0]) ∧ w'.heap.size ≤ ad.block ∧ ad.block < w''.heap.size ∧ (w''.cell? ad = some (.int .i64 K) ∧ w''.cell? ⟨ad.block, ad.off + 1, none⟩ = some (.string S2) ∧ w''.cell? ⟨ad.block, ad.off + 2, none⟩ = some (.int .i64 N2) ∧ w''.cell? ⟨ad.block, ad.off + 3, none⟩ = some (.int .i64 P2)) ∧ Keep w' w'')) :
    Calls Tryz.prog 86 #[.agg #[.int .i64 K, .string S, .int .i64 N, .int .i64 P]] w fun e w' => e = .returned (.bool false) ∧ Keep w w' := by
  obtain ⟨cap, o, k1, hcv, hby⟩ := by_of (w.alloc (.cells #[.int .i64 K, .string S, .int .i64 N, .int .i64 P] 115)) S
  have hcv2 := hcv 9 29 Tryz.underlying9 Tryz.underlying29
  simp only [World.size_alloc] at hcv2 hby
  have HBY := hide hby
  clear hcv hby
  go_enter Tryz.func86, Tryz.ntmps86
  go_wp2_with fail
  (refine ((uq T1) _ _ (uq HBY)).mono ?_; rintro e w2 ⟨ad, cp, rfl, hlo, hhi, ⟨c0, c1, c2, c3⟩, hk⟩; obtain ⟨os, k2, rfl⟩ := hk.ext; clear hk)
  have k0 := hide (keep_ext ((Keep.refl w).alloc (.cells #[.int .i64 K, .string S, .int .i64 N, .int .i64 0] 115)) (#[o] ++ os) k2)
  simp only [ext_ext] at c0 c1 c2 c3 hhi
  have hlo' : w.heap.size < ad.block := by simp at hlo; omega
  rw [ext_other w _ (.cells #[.int .i64 K, .string S, .int .i64 N, .int .i64 0] 115) _ _ ad hlo'] at c0
  rw [ext_other w _ (.cells #[.int .i64 K, .string S, .int .i64 N, .int .i64 0] 115) _ _ ⟨ad.block, _, none⟩ hlo'] at c1 c2 c3
  clear hlo hlo' hhi
  go_wp2_with fail
  refine wp_region_held_drew (S := fun w' => w'.cell? ad = some (.int .i64 K) ∧ w'.cell? ⟨ad.block, ad.off + 1, none⟩ = some (.string S2) ∧ w'.cell? ⟨ad.block, ad.off + 2, none⟩ = some (.int .i64 N2) ∧ w'.cell? ⟨ad.block, ad.off + 3, none⟩ = some (.int .i64 P2) ∧ w'.cell? ⟨w.heap.size, 0, none⟩ = some (.int .i64 K) ∧ w'.cell? ⟨w.heap.size, 1, none⟩ = some (.string S) ∧ w'.cell? ⟨w.heap.size, 2, none⟩ = some (.int .i64 N) ∧ w'.cell? ⟨w.heap.size, 3, none⟩ = some (.int .i64 0)) (by kernel_rfl) (by exact ⟨c0, c1, c2, c3, by simp [go_sem], by simp [go_sem], by simp [go_sem], by simp [go_sem]⟩) (fun hHeld => ?_)
  refine tkk 0 22 hHeld ?_; try simp only [Act.put, Ya, Yb, Yc]
  refine tkk 1 23 hHeld ?_; try simp only [Act.put, Ya, Yb, Yc]
  refine tkk 2 24 hHeld ?_; try simp only [Act.put, Ya, Yb, Yc]
  refine tkk 3 25 hHeld ?_; try simp only [Act.put, Ya, Yb, Yc]
  refine tkk 4 26 hHeld ?_; try simp only [Act.put, Ya, Yb, Yc]
  refine tkk 5 2 hHeld ?_; try simp only [Act.put, Ya, Yb, Yc]
  refine wpAnyH_done (by kernel_rfl) ?_ _
  clear hHeld
  go_wp2_with fail
  go_ret
  exact ⟨rfl, (uq k0).drew⟩
set_option maxHeartbeats 4000000 in
theorem right_n (K N P N2 P2 : Int) (S : ByteArray) (w : World) (hne : ¬ N2 = N)
    (T1 : Hid (∀ w' v, By w' v S.data.toList → Calls Tryz.prog 71 #[v] w' fun e w'' => ∃ ad cap, e = .returned (.tuple #[.slice (some ad) 2 cap, .int .i64 0, .int .i64 0]) ∧ w'.heap.size ≤ ad.block ∧ ad.block < w''.heap.size ∧ (w''.cell? ad = some (.int .i64 K) ∧ w''.cell? ⟨ad.block, ad.off + 1, none⟩ = some (.string S) ∧ w''.cell? ⟨ad.block, ad.off + 2, none⟩ = some (.int .i64 N2) ∧ w''.cell? ⟨ad.block, ad.off + 3, none⟩ = some (.int .i64 P2)) ∧ Keep w' w'')) :
    Calls Tryz.prog 86 #[.agg #[.int .i64 K, .string S, .int .i64 N, .int .i64 P]] w fun e w' => e = .returned (.bool false) ∧ Keep w w' := by
  obtain ⟨cap, o, k1, hcv, hby⟩ := by_of (w.alloc (.cells #[.int .i64 K, .string S, .int .i64 N, .int .i64 P] 115)) S
  have hcv2 := hcv 9 29 Tryz.underlying9 Tryz.underlying29
  simp only [World.size_alloc] at hcv2 hby
  have HBY := hide hby
  clear hcv hby
  go_enter Tryz.func86, Tryz.ntmps86
  go_wp2_with fail
  (refine ((uq T1) _ _ (uq HBY)).mono ?_; rintro e w2 ⟨ad, cp, rfl, hlo, hhi, ⟨c0, c1, c2, c3⟩, hk⟩; obtain ⟨os, k2, rfl⟩ := hk.ext; clear hk)
  have k0 := hide (keep_ext ((Keep.refl w).alloc (.cells #[.int .i64 K, .string S, .int .i64 N, .int .i64 0] 115)) (#[o] ++ os) k2)
  simp only [ext_ext] at c0 c1 c2 c3 hhi
  have hlo' : w.heap.size < ad.block := by simp at hlo; omega
  rw [ext_other w _ (.cells #[.int .i64 K, .string S, .int .i64 N, .int .i64 0] 115) _ _ ad hlo'] at c0
  rw [ext_other w _ (.cells #[.int .i64 K, .string S, .int .i64 N, .int .i64 0] 115) _ _ ⟨ad.block, _, none⟩ hlo'] at c1 c2 c3
  clear hlo hlo' hhi
  go_wp2_with fail
  refine wp_region_held_drew (S := fun w' => w'.cell? ad = some (.int .i64 K) ∧ w'.cell? ⟨ad.block, ad.off + 1, none⟩ = some (.string S) ∧ w'.cell? ⟨ad.block, ad.off + 2, none⟩ = some (.int .i64 N2) ∧ w'.cell? ⟨ad.block, ad.off + 3, none⟩ = some (.int .i64 P2) ∧ w'.cell? ⟨w.heap.size, 0, none⟩ = some (.int .i64 K) ∧ w'.cell? ⟨w.heap.size, 1, none⟩ = some (.string S) ∧ w'.cell? ⟨w.heap.size, 2, none⟩ = some (.int .i64 N) ∧ w'.cell? ⟨w.heap.size, 3, none⟩ = some (.int .i64 0)) (by kernel_rfl) (by exact ⟨c0, c1, c2, c3, by simp [go_sem], by simp [go_sem], by simp [go_sem], by simp [go_sem]⟩) (fun hHeld => ?_)
  refine tkk 0 22 hHeld ?_; try simp only [Act.put, Ya, Yb, Yc]
  refine tkk 1 23 hHeld ?_; try simp only [Act.put, Ya, Yb, Yc]
  refine tkk 2 24 hHeld ?_; try simp only [Act.put, Ya, Yb, Yc]
  refine tkk 3 25 hHeld ?_; try simp only [Act.put, Ya, Yb, Yc]
  refine tkk 4 26 hHeld ?_; try simp only [Act.put, Ya, Yb, Yc]
  refine tkk 5 2 hHeld ?_; try simp only [Act.put, Ya, Yb, Yc]
  refine wpAnyH_done (by kernel_rfl) ?_ _
  clear hHeld
  go_wp2_with fail
  go_ret
  exact ⟨rfl, (uq k0).drew⟩
end Go.Proofs.YtcdnbdajnagfiaaGreatDoor

namespace Go.Proofs.YtcdnbdajnagfiaaGreatDoor
open Go.RowKit
set_option linter.unusedVariables false
set_option linter.unusedSimpArgs false
set_option maxRecDepth 10000
theorem sv_data (l : List UInt8) : (sv l).data.toList = l := rfl
theorem sv_tl (l : List UInt8) : (sv l).toList = l := ByteArray.toList_mk l
theorem rg_ok {t x y : Tok} (h : T t.s = .ok [x, y]) : rg t = (decide (x.k = t.k) && decide (x.n = t.n) && decide (x.s = t.s)) := by unfold rg; rw [h]
theorem rg_no {t : Tok} (h : ∀ x y, T t.s ≠ .ok [x, y]) : rg t = false := by
  unfold rg
  split
  · rename_i x y hx; exact absurd hx (h x y)
  · rfl
theorem ts_two {w : World} {v : Value} {x y : Tok} (h : Ts w v [x, y]) : ∃ ad cap, v = .slice (some ad) 2 cap ∧ ad.block < w.heap.size ∧ Tc w ad x := by
  obtain ⟨a, cap, rfl, _, h⟩ := h
  obtain ⟨ad, rfl, hb, h1⟩ := h 0 (by simp)
  have e : ad.add (0 * 4) = ad := by simp [Addr.add]
  rw [e] at h1
  exact ⟨ad, cap, rfl, hb, h1⟩
theorem right_any (t : Tok) (w : World) (hl : t.s.length ≤ 70000) : Calls Tryz.prog 86 #[tv t] w fun e w' => e = .returned (.bool (rg t)) ∧ Keep w w' := by
  have A : ∀ w' v, By w' v (sv t.s).data.toList → Calls Tryz.prog 71 #[v] w' (Tp (T t.s) w') := fun w' v h => toks_any v _ w' hl h
  cases hT : T t.s with
  | error y =>
    obtain ⟨e, a⟩ := y
    rw [hT] at A
    rw [rg_no (fun x y h => by rw [hT] at h; cases h)]
    have he := (T_err hT).1
    refine right_no _ _ _ e a 0 _ w (.inl (by simp; omega)) (hide fun w' v h => (A w' v h).mono ?_)
    rintro _ w'' ⟨u, rfl, h1, _, h3⟩
    obtain ⟨b, cap, rfl⟩ := h1.shape
    exact ⟨b, cap, rfl, h3⟩
  | ok L =>
    rw [hT] at A
    by_cases h2 : L.length = 2
    · obtain ⟨x, y, rfl⟩ : ∃ x y, L = [x, y] := by
        match L, h2 with
        | [x, y], _ => exact ⟨x, y, rfl⟩
      rw [rg_ok hT]
      have B : ∀ w' v, By w' v (sv t.s).data.toList → Calls Tryz.prog 71 #[v] w' fun e w'' => ∃ ad cap, e = .returned (.tuple #[.slice (some ad) 2 cap, .int .i64 0, .int .i64 0]) ∧ w'.heap.size ≤ ad.block ∧ ad.block < w''.heap.size ∧ Tc w'' ad x ∧ Keep w' w'' := fun w' v h => (A w' v h).mono (by
        rintro _ w'' ⟨u, rfl, h1, h2, h3⟩
        obtain ⟨ad, cap, rfl, hb, hc⟩ := ts_two h1
        exact ⟨ad, cap, rfl, h2 ad _ _ rfl, hb, hc, h3⟩)
      by_cases hk : x.k = t.k
      · by_cases hs : x.s = t.s
        · have hp := T_one hT hs
          by_cases hn : x.n = t.n
          · have e : (decide (x.k = t.k) && decide (x.n = t.n) && decide (x.s = t.s)) = true := by simp [hk, hs, hn]
            rw [e]
            unfold Tc at B
            rw [hk, hs, hn, hp] at B
            exact right_eq _ _ _ _ w (hide B)
          · have e : (decide (x.k = t.k) && decide (x.n = t.n) && decide (x.s = t.s)) = false := by simp [hn]
            rw [e]
            unfold Tc at B
            rw [hk, hs] at B
            exact right_n _ _ _ _ _ _ w hn (hide B)
        · have e : (decide (x.k = t.k) && decide (x.n = t.n) && decide (x.s = t.s)) = false := by simp [hs]
          rw [e]
          unfold Tc at B
          rw [hk] at B
          exact right_s _ _ _ _ _ _ _ w (by rw [sv_tl, sv_tl]; exact hs) (hide B)
      · have e : (decide (x.k = t.k) && decide (x.n = t.n) && decide (x.s = t.s)) = false := by simp [hk]
        rw [e]
        exact right_k _ _ _ _ _ _ _ _ w hk (hide B)
    · rw [rg_no (fun x y h => by rw [hT] at h; simp only [Except.ok.injEq] at h; rw [h] at h2; exact h2 rfl)]
      refine right_no _ _ _ 0 0 L.length _ w (.inr ⟨rfl, by simp; omega⟩) (hide fun w' v h => (A w' v h).mono ?_)
      rintro _ w'' ⟨u, rfl, h1, _, h3⟩
      obtain ⟨b, cap, rfl⟩ := h1.shape
      exact ⟨b, cap, rfl, h3⟩
end Go.Proofs.YtcdnbdajnagfiaaGreatDoor

namespace Go.Proofs.YtcdnbdajnagfiaaGreatDoor
open Go.RowKit
attribute [local go_sem ↓] Go.wp_at_zero Go.wp_at_succ
set_option linter.unusedVariables false
set_option linter.unusedSimpArgs false
set_option maxRecDepth 10000
namespace S
def d0 : D := .val (.bool false)
def tS (d : D) : List UInt8 := (fS d).data.toList
def gt (ds : List D) (k : Nat) : D := ds.getD k d0
/-- is it a name? a number? a grade? -/
def nmB (s : List UInt8) : Bool := rg ⟨1, s, 0, 0⟩ && !decide (s ∈ words)
def nuB (n : Int) : Bool := decide (0 ≤ n ∧ n ≤ 999999999999999999)
def grB (n : Int) : Bool := decide (-999999999999999999 ≤ n ∧ n ≤ 999999999999999999)
def nusB (l : List Int) : Bool := l.all nuB
/-- as many as there may be, each of them right -/
def rowB (lo hi : Nat) (B : List D → Bool) (L : List (List D)) : Bool := decide (lo ≤ L.length ∧ L.length ≤ hi) && L.all B
def nameB (ds : List D) : Bool := nmB (tS (gt ds 0))
def headB (ds : List D) : Bool := nmB (tS (gt ds 0)) && (grB (fI (gt ds 6)) && nusB [fI (gt ds 1), fI (gt ds 2), fI (gt ds 3), fI (gt ds 4), fI (gt ds 5), fI (gt ds 7), fI (gt ds 8), fI (gt ds 9)])
def walkB (ds : List D) : Bool := nmB (tS (gt ds 0)) && (nmB (tS (gt ds 1)) && nusB [fI (gt ds 2), fI (gt ds 3), fI (gt ds 4)])
def phaseB (ds : List D) : Bool := nmB (tS (gt ds 0)) && rowB 1 16 nameB (fL (gt ds 1))
def ringB (ds : List D) : Bool := rowB 1 4 nameB (fL (gt ds 1))
def groupB (ds : List D) : Bool := rowB 1 2 ringB (fL (gt ds 0))
def foeB (ds : List D) : Bool := nmB (tS (gt ds 0)) && nmB (tS (gt ds 1))
def stopB (ds : List D) : Bool := nmB (tS (gt ds 0)) && (nmB (tS (gt ds 1)) && (nmB (tS (gt ds 2)) && nusB [fI (gt ds 3), fI (gt ds 4)]))
def nodeB (ds : List D) : Bool := nmB (tS (gt ds 0)) && (rowB 0 16 headB (fL (gt ds 1)) && (rowB 0 8 walkB (fL (gt ds 2)) && (rowB 0 16 phaseB (fL (gt ds 3)) && (rowB 0 4 groupB (fL (gt ds 4)) && rowB 0 64 foeB (fL (gt ds 5))))))
def netB (ds : List D) : Bool := nusB [fI (gt ds 0), fI (gt ds 1), fI (gt ds 2), fI (gt ds 3), fI (gt ds 4), fI (gt ds 7), fI (gt ds 8)] && (rowB 0 12 nodeB (fL (gt ds 5)) && rowB 0 12 stopB (fL (gt ds 6)))
/-- the cells of each kind of thing -/
def nameT : List Ty := [.s]
def headT : List Ty := [.s, .i, .i, .i, .i, .i, .i, .i, .i, .i, .i]
def pedT : List Ty := [.s, .s, .i, .i, .i, .i]
def phaseT : List Ty := [.s, .row 9 1 nameT, .i]
def rowT : List Ty := [.b, .row 9 1 nameT]
def groupT : List Ty := [.row 93 2 rowT]
def foeT : List Ty := [.s, .s, .i]
def stopT : List Ty := [.s, .s, .s, .i, .i, .i]
def nodeT : List Ty := [.s, .row 84 11 headT, .row 86 6 pedT, .row 88 3 phaseT, .row 91 1 groupT, .row 95 3 foeT, .i]
def netT : List Ty := [.i, .i, .i, .i, .i, .row 46 7 nodeT, .row 49 6 stopT, .i, .i]
theorem net_desc : desc Tryz.prog 12 27 = some netT := by kernel_rfl
/-- a row's answer -/
theorem rowB_no {lo hi : Nat} {B : List D → Bool} {L : List (List D)} (h : ¬ (lo ≤ L.length ∧ L.length ≤ hi)) : rowB lo hi B L = false := by simp only [rowB, decide_eq_false h, Bool.false_and]
theorem rowB_bad {lo hi : Nat} {B : List D → Bool} {L : List (List D)} {k : Nat} (hk : k < L.length) (h : B (L.getD k []) = false) : rowB lo hi B L = false := by
  unfold rowB
  rw [Bool.and_eq_false_iff]
  right
  rw [List.all_eq_false]
  refine ⟨L.getD k [], ?_, by rw [h]; simp⟩
  rw [List.getD_eq_getElem?_getD, List.getElem?_eq_getElem hk]
  exact List.getElem_mem hk
theorem rowB_yes {lo hi : Nat} {B : List D → Bool} {L : List (List D)} (h : lo ≤ L.length ∧ L.length ≤ hi) (hB : ∀ k, k < L.length → B (L.getD k []) = true) : rowB lo hi B L = true := by
  unfold rowB
  rw [decide_eq_true h, Bool.true_and, List.all_eq_true]
  intro x hx
  obtain ⟨k, hk, rfl⟩ := List.getElem_of_mem hx
  have := hB k hk
  rwa [List.getD_eq_getElem?_getD, List.getElem?_eq_getElem hk] at this
theorem tS_dS (l : List UInt8) : tS (dS l) = l := rfl
end S
end Go.Proofs.YtcdnbdajnagfiaaGreatDoor

namespace Go.Proofs.YtcdnbdajnagfiaaGreatDoor
open Go.RowKit
set_option linter.unusedVariables false
set_option linter.unusedSimpArgs false
set_option maxRecDepth 10000
/-- bytes as cells -/
def bc (l : List UInt8) : List Value := l.map fun x => Value.int .u8 (x.toNat : Int)
theorem bc_append (l m : List UInt8) : bc (l ++ m) = bc l ++ bc m := List.map_append
end Go.Proofs.YtcdnbdajnagfiaaGreatDoor

namespace Go.Proofs.YtcdnbdajnagfiaaGreatDoor
open Go.RowKit
attribute [local go_sem ↓] Go.wp_at_zero Go.wp_at_succ
set_option linter.unusedVariables false
set_option linter.unusedSimpArgs false
set_option maxRecDepth 10000
set_option maxHeartbeats 4000000 in
theorem words_any (w : World) : Calls Tryz.prog 93 #[] w fun e w' => e = .returned (.slice (some ⟨w.heap.size, 0, none⟩) 42 42) ∧ w' = w.alloc (.cells ((words.map fun x => Value.string (sv x)).toArray) 9) := by
  go_enter Tryz.func93, Tryz.ntmps93
  go_wp2_with fail
  go_ret
  exact ⟨rfl, rfl⟩
set_option maxHeartbeats 4000000 in
theorem in_core (s : ByteArray) (ad : Addr) (n cap : Nat) (X : Nat → ByteArray) (B : Nat → Bool) (r : Bool) (w : World) (hn : n ≤ 100000)
    (HC : Hid (∀ k, k < n → w.cell? (ad.add k) = some (.string (X k))))
    (HB : Hid (∀ k, k < n → ((X k).toList == s.toList) = B k))
    (H1 : Hid (∀ k, k < n → B k = true → r = true))
    (H2 : Hid ((∀ k, k < n → B k = false) → r = false)) :
    Calls Tryz.prog 92 #[.string s, .slice (some ad) n cap] w fun e w' => e = .returned (.bool r) ∧ w' = w := by
  go_enter Tryz.func92, Tryz.ntmps92
  go_wp2_with fail
  go_loop [5] (fun vi => ∃ k : Nat, k ≤ n ∧ vi = .int .i64 (k : Int) ∧ Hid (∀ j, j < k → B j = false)) (fun vi => n - (intOf vi).toNat)
  case atStart => exact ⟨0, Nat.zero_le _, rfl, hide fun j hj => by omega⟩
  case round =>
    obtain ⟨k, hk, rfl, HN⟩ := hrel
    by_cases hlt : k < n
    · have li : (k : Int) < (n : Int) := by omega
      have ck := (uq HC) k hlt
      have hb := (uq HB) k hlt
      have HQ := hide ((uq H1) k hlt)
      generalize X k = x at *
      obtain ⟨b, hbk⟩ : ∃ b, B k = b := ⟨_, rfl⟩
      rw [hbk] at hb
      have HBK := hide hbk
      clear hbk
      cases b with
      | true =>
        have hr := (uq HQ) (uq HBK)
        subst hr
        go_wp2_with fail
        go_ret
        exact ⟨rfl, rfl⟩
      | false =>
        go_wp2_with fail
        exact ⟨⟨k + 1, hlt, by go_num, hide fun j hj => (Nat.lt_succ_iff_lt_or_eq.1 hj).elim ((uq HN) j) (fun e => e ▸ uq HBK)⟩, by simp [intOf]; omega⟩
    · have hr := (uq H2) (fun j hj => (uq HN) j (by omega))
      subst hr
      go_wp2_with fail
      go_ret
      exact ⟨rfl, rfl⟩
theorem sv_list (l : List UInt8) : (sv l).toList = l := ByteArray.toList_mk l
theorem in_words (s : ByteArray) (g : Nat) (w : World) (HC : ∀ k, k < 42 → w.cell? ⟨g, k, none⟩ = some (.string (sv (words.getD k [])))) :
    Calls Tryz.prog 92 #[.string s, .slice (some ⟨g, 0, none⟩) 42 42] w fun e w' => e = .returned (.bool (decide (s.toList ∈ words))) ∧ w' = w := by
  refine in_core s ⟨g, 0, none⟩ 42 42 (fun k => sv (words.getD k [])) (fun k => words.getD k [] == s.toList) _ w (by decide) (hide fun k hk => ?_) (hide fun k hk => by rw [sv_list]) (hide fun k hk hb => ?_) (hide fun h => ?_)
  · rw [add_plain, Nat.zero_add]; exact HC k hk
  · rw [decide_eq_true_iff, ← eq_of_beq hb, List.getD_eq_getElem?_getD, List.getElem?_eq_getElem (show k < words.length from hk)]
    exact List.getElem_mem _
  · rw [decide_eq_false_iff_not]
    intro hm
    obtain ⟨k, hk, e⟩ := List.getElem_of_mem hm
    have := h k hk
    rw [List.getD_eq_getElem?_getD, List.getElem?_eq_getElem hk, Option.getD_some, e] at this
    simp at this
set_option maxHeartbeats 4000000 in
theorem rres_core (s : ByteArray) (r : Bool) (w : World) (o : Obj)
    (T1 : Hid (∀ w : World, Calls Tryz.prog 93 #[] w fun e w' => e = .returned (.slice (some ⟨w.heap.size, 0, none⟩) 42 42) ∧ w' = w.alloc o))
    (T2 : Hid (∀ w : World, Calls Tryz.prog 92 #[.string s, .slice (some ⟨w.heap.size, 0, none⟩) 42 42] (w.alloc o) fun e w' => e = .returned (.bool r) ∧ w' = w.alloc o)) :
    Calls Tryz.prog 60 #[.string s] w fun e w' => e = .returned (.bool r) ∧ Keep w w' := by
  go_enter Tryz.func60, Tryz.ntmps60
  go_wp2_with fail
  (refine ((uq T1) _).mono ?_; rintro e w2 ⟨rfl, rfl⟩)
  go_wp2_with fail
  (refine ((uq T2) _).mono ?_; rintro e w2 ⟨rfl, rfl⟩)
  go_wp2_with fail
  go_ret
  exact ⟨rfl, (Keep.refl w).alloc _⟩
theorem rres_any (s : ByteArray) (w : World) : Calls Tryz.prog 60 #[.string s] w fun e w' => e = .returned (.bool (decide (s.toList ∈ words))) ∧ Keep w w' := by
  refine rres_core s _ w _ (hide fun w => words_any w) (hide fun w => in_words s w.heap.size _ fun k hk => ?_)
  rw [World.cell?_alloc_mark, List.getElem?_toArray, List.getElem?_map, List.getD_eq_getElem?_getD, List.getElem?_eq_getElem (show k < words.length from hk)]
  rfl
end Go.Proofs.YtcdnbdajnagfiaaGreatDoor
