/- Which tokens are right: package lex and the document. -/
import Derived.Test.YtpmfgnolojmimaaLRToks
import Derived.Deep.RegionHeld
namespace Go.Proofs.Ytpmfgnolojmimaa
open Go.RowKit
attribute [local go_sem ↓] Go.wp_at_zero Go.wp_at_succ
set_option linter.unusedVariables false
set_option linter.unusedSimpArgs false
set_option maxRecDepth 10000
/-- bytes of a string -/
theorem by_of (w : World) (s : ByteArray) : ∃ cap o k, (∀ src dst, Try.prog.underlying src = some .string → Try.prog.underlying dst = some (.slice 5) → (convert src dst (.string s)).run Try.prog w = .ok (.slice (some ⟨w.heap.size, 0, none⟩) s.size cap) (ext w #[o] k)) ∧ By (ext w #[o] k) (.slice (some ⟨w.heap.size, 0, none⟩) s.size cap) s.data.toList := by
  refine ⟨grownCap w s.size 0 5, .cells (bytesRow s (grownCap w s.size 0 5)) 5 ((bytesRow s (grownCap w s.size 0 5)).size, (bytesRow s (grownCap w s.size 0 5)).size + 1), w.drew.drawn, fun src dst hs hd => ?_, ?_⟩
  · rw [run_bytes_of_string (P := Try.prog) w src dst 5 s hs hd Try.underlying5]
    congr 1
  · refine ⟨_, _, rfl, grownCap_ge _ _ _ _, fun k hk => ⟨_, rfl, by simp, ?_⟩⟩
    rw [add_plain, Nat.zero_add]
    have hk' : k < s.data.size := by simpa using hk
    have h1 : (ext w #[Obj.cells (bytesRow s (grownCap w s.size 0 5)) 5 ((bytesRow s (grownCap w s.size 0 5)).size, (bytesRow s (grownCap w s.size 0 5)).size + 1)] w.drew.drawn).cell? ⟨w.heap.size, k, none⟩ = (bytesRow s (grownCap w s.size 0 5))[k]? := by
      unfold World.cell? ext
      simp
    rw [h1, bytesRow_at s _ k hk']
    congr 3
    rw [List.getD_eq_getElem?_getD, List.getElem?_eq_getElem (by simpa using hk')]
    simp
/-- what Right says -/
def rg (t : Tok) : Bool := match T t.s with
  | .ok [x, _] => decide (x.k = t.k) && decide (x.n = t.n) && decide (x.s = t.s)
  | _ => false
set_option maxHeartbeats 4000000 in
theorem right_no (K N P E M : Int) (n : Nat) (S : ByteArray) (w : World) (h : (E != 0) = true ∨ ((E != 0) = false ∧ ((n : Int) != 2) = true))
    (T1 : Hid (∀ w' v, By w' v S.data.toList → Calls Try.prog 9 #[v] w' fun e w'' => ∃ a cap, e = .returned (.tuple #[.slice a n cap, .int .i64 E, .int .i64 M]) ∧ Keep w' w'')) :
    Calls Try.prog 13 #[.agg #[.int .i64 K, .string S, .int .i64 N, .int .i64 P]] w fun e w' => e = .returned (.bool false) ∧ Keep w w' := by
  obtain ⟨cap, o, k1, hcv, hby⟩ := by_of (w.alloc (.cells #[.int .i64 K, .string S, .int .i64 N, .int .i64 P] 31)) S
  have hcv2 := hcv 9 22 Try.underlying9 Try.underlying22
  simp only [World.size_alloc] at hcv2 hby
  have HBY := hide hby
  clear hcv hby
  have k0 := hide (keep_ext ((Keep.refl w).alloc (.cells #[.int .i64 K, .string S, .int .i64 N, .int .i64 P] 31)) #[o] k1)
  rcases h with h1 | ⟨h1, h2⟩
  · go_enter Try.func13, Try.ntmps13
    go_wp2_with fail
    (refine ((unhide T1) _ _ (unhide HBY)).mono ?_; rintro e w2 ⟨a, cp, rfl, hk⟩; replace k0 := hide ((unhide k0).trans hk); clear hk)
    go_wp2_with fail
    go_ret
    exact ⟨rfl, unhide k0⟩
  · go_enter Try.func13, Try.ntmps13
    go_wp2_with fail
    (refine ((unhide T1) _ _ (unhide HBY)).mono ?_; rintro e w2 ⟨a, cp, rfl, hk⟩; replace k0 := hide ((unhide k0).trans hk); clear hk)
    go_wp2_with fail
    go_ret
    exact ⟨rfl, unhide k0⟩
theorem ext_other (w : World) (o1 o2 : Obj) (os : Array Obj) (k : Nat) (ad : Addr) (h : w.heap.size < ad.block) : (ext (w.alloc o1) os k).cell? ad = (ext (w.alloc o2) os k).cell? ad := by
  have e : ∀ o : Obj, (w.heap.push o ++ os)[ad.block]? = os[ad.block - (w.heap.size + 1)]? := fun o => by
    rw [Array.getElem?_append_right (by rw [Array.size_push]; omega), Array.size_push]
  unfold World.cell? ext World.alloc
  simp only [e]
set_option maxHeartbeats 4000000 in
theorem right_eq (K N P : Int) (S : ByteArray) (w : World)
    (T1 : Hid (∀ w' v, By w' v S.data.toList → Calls Try.prog 9 #[v] w' fun e w'' => ∃ ad cap, e = .returned (.tuple #[.slice (some ad) 2 cap, .int .i64 0, .int .i64 0]) ∧ w'.heap.size ≤ ad.block ∧ ad.block < w''.heap.size ∧ (w''.cell? ad = some (.int .i64 K) ∧ w''.cell? ⟨ad.block, ad.off + 1, none⟩ = some (.string S) ∧ w''.cell? ⟨ad.block, ad.off + 2, none⟩ = some (.int .i64 N) ∧ w''.cell? ⟨ad.block, ad.off + 3, none⟩ = some (.int .i64 0)) ∧ Keep w' w'')) :
    Calls Try.prog 13 #[.agg #[.int .i64 K, .string S, .int .i64 N, .int .i64 P]] w fun e w' => e = .returned (.bool true) ∧ Keep w w' := by
  obtain ⟨cap, o, k1, hcv, hby⟩ := by_of (w.alloc (.cells #[.int .i64 K, .string S, .int .i64 N, .int .i64 P] 31)) S
  have hcv2 := hcv 9 22 Try.underlying9 Try.underlying22
  simp only [World.size_alloc] at hcv2 hby
  have HBY := hide hby
  clear hcv hby
  go_enter Try.func13, Try.ntmps13
  go_wp2_with fail
  (refine ((unhide T1) _ _ (unhide HBY)).mono ?_; rintro e w2 ⟨ad, cp, rfl, hlo, hhi, ⟨c0, c1, c2, c3⟩, hk⟩; obtain ⟨os, k2, rfl⟩ := hk.ext; clear hk)
  have k0 := hide (keep_ext ((Keep.refl w).alloc (.cells #[.int .i64 K, .string S, .int .i64 N, .int .i64 0] 31)) (#[o] ++ os) k2)
  simp only [ext_ext] at c0 c1 c2 c3 hhi
  have hlo' : w.heap.size < ad.block := by simp at hlo; omega
  rw [ext_other w _ (.cells #[.int .i64 K, .string S, .int .i64 N, .int .i64 0] 31) _ _ ad hlo'] at c0
  rw [ext_other w _ (.cells #[.int .i64 K, .string S, .int .i64 N, .int .i64 0] 31) _ _ ⟨ad.block, _, none⟩ hlo'] at c1 c2 c3
  clear hlo hlo' hhi
  go_wp2_with fail
  refine wp_region_held_drew (S := fun w' => w'.cell? ad = some (.int .i64 K) ∧ w'.cell? ⟨ad.block, ad.off + 1, none⟩ = some (.string S) ∧ w'.cell? ⟨ad.block, ad.off + 2, none⟩ = some (.int .i64 N) ∧ w'.cell? ⟨ad.block, ad.off + 3, none⟩ = some (.int .i64 0) ∧ w'.cell? ⟨w.heap.size, 0, none⟩ = some (.int .i64 K) ∧ w'.cell? ⟨w.heap.size, 1, none⟩ = some (.string S) ∧ w'.cell? ⟨w.heap.size, 2, none⟩ = some (.int .i64 N) ∧ w'.cell? ⟨w.heap.size, 3, none⟩ = some (.int .i64 0)) (by kernel_rfl) (by exact ⟨c0, c1, c2, c3, by simp [go_sem], by simp [go_sem], by simp [go_sem], by simp [go_sem]⟩) (fun hHeld => ?_)
  refine wpAnyH_take (i := 0) (v := ?_) rfl (by kernel_rfl) (by kernel_rfl) (by kernel_rfl) (fun _ _ _ h => h) (Or.inl ⟨by rfl, ?_⟩) hHeld ?_
  rotate_left
  · intro w hSw
    try dsimp only at hSw
    go_simp
    try with_reducible rfl
  show wpAnyH _ _ _ _ _ _ _ (Act.put _ (some 22) _) _
  try simp only [Act.put, List.setIfInBounds_toArray, List.set_cons_zero, List.set_cons_succ]
  refine wpAnyH_take (i := 1) (v := ?_) rfl (by kernel_rfl) (by kernel_rfl) (by kernel_rfl) (fun _ _ _ h => h) (Or.inl ⟨by rfl, ?_⟩) hHeld ?_
  rotate_left
  · intro w hSw
    try dsimp only at hSw
    go_simp
    try with_reducible rfl
  show wpAnyH _ _ _ _ _ _ _ (Act.put _ (some 23) _) _
  try simp only [Act.put, List.setIfInBounds_toArray, List.set_cons_zero, List.set_cons_succ]
  refine wpAnyH_take (i := 2) (v := ?_) rfl (by kernel_rfl) (by kernel_rfl) (by kernel_rfl) (fun _ _ _ h => h) (Or.inl ⟨by rfl, ?_⟩) hHeld ?_
  rotate_left
  · intro w hSw
    try dsimp only at hSw
    go_simp
    try with_reducible rfl
  show wpAnyH _ _ _ _ _ _ _ (Act.put _ (some 24) _) _
  try simp only [Act.put, List.setIfInBounds_toArray, List.set_cons_zero, List.set_cons_succ]
  refine wpAnyH_take (i := 3) (v := ?_) rfl (by kernel_rfl) (by kernel_rfl) (by kernel_rfl) (fun _ _ _ h => h) (Or.inl ⟨by rfl, ?_⟩) hHeld ?_
  rotate_left
  · intro w hSw
    try dsimp only at hSw
    go_simp
    try with_reducible rfl
  show wpAnyH _ _ _ _ _ _ _ (Act.put _ (some 25) _) _
  try simp only [Act.put, List.setIfInBounds_toArray, List.set_cons_zero, List.set_cons_succ]
  refine wpAnyH_take (i := 4) (v := ?_) rfl (by kernel_rfl) (by kernel_rfl) (by kernel_rfl) (fun _ _ _ h => h) (Or.inl ⟨by rfl, ?_⟩) hHeld ?_
  rotate_left
  · intro w hSw
    try dsimp only at hSw
    go_simp
    try with_reducible rfl
  show wpAnyH _ _ _ _ _ _ _ (Act.put _ (some 26) _) _
  try simp only [Act.put, List.setIfInBounds_toArray, List.set_cons_zero, List.set_cons_succ]
  refine wpAnyH_take (i := 5) (v := ?_) rfl (by kernel_rfl) (by kernel_rfl) (by kernel_rfl) (fun _ _ _ h => h) (Or.inl ⟨by rfl, ?_⟩) hHeld ?_
  rotate_left
  · intro w hSw
    try dsimp only at hSw
    go_simp
    try with_reducible rfl
  show wpAnyH _ _ _ _ _ _ _ (Act.put _ (some 2) _) _
  try simp only [Act.put, List.setIfInBounds_toArray, List.set_cons_zero, List.set_cons_succ]
  refine wpAnyH_done (by kernel_rfl) ?_ _
  clear hHeld
  go_wp2_with fail
  go_ret
  exact ⟨rfl, (unhide k0).drew⟩
set_option maxHeartbeats 4000000 in
theorem right_k (K N P K2 N2 P2 : Int) (S S2 : ByteArray) (w : World) (hne : ¬ K2 = K)
    (T1 : Hid (∀ w' v, By w' v S.data.toList → Calls Try.prog 9 #[v] w' fun e w'' => ∃ ad cap, e = .returned (.tuple #[.slice (some ad) 2 cap, .int .i64 0, .int .i64 0]) ∧ w'.heap.size ≤ ad.block ∧ ad.block < w''.heap.size ∧ (w''.cell? ad = some (.int .i64 K2) ∧ w''.cell? ⟨ad.block, ad.off + 1, none⟩ = some (.string S2) ∧ w''.cell? ⟨ad.block, ad.off + 2, none⟩ = some (.int .i64 N2) ∧ w''.cell? ⟨ad.block, ad.off + 3, none⟩ = some (.int .i64 P2)) ∧ Keep w' w'')) :
    Calls Try.prog 13 #[.agg #[.int .i64 K, .string S, .int .i64 N, .int .i64 P]] w fun e w' => e = .returned (.bool false) ∧ Keep w w' := by
  obtain ⟨cap, o, k1, hcv, hby⟩ := by_of (w.alloc (.cells #[.int .i64 K, .string S, .int .i64 N, .int .i64 P] 31)) S
  have hcv2 := hcv 9 22 Try.underlying9 Try.underlying22
  simp only [World.size_alloc] at hcv2 hby
  have HBY := hide hby
  clear hcv hby
  go_enter Try.func13, Try.ntmps13
  go_wp2_with fail
  (refine ((unhide T1) _ _ (unhide HBY)).mono ?_; rintro e w2 ⟨ad, cp, rfl, hlo, hhi, ⟨c0, c1, c2, c3⟩, hk⟩; obtain ⟨os, k2, rfl⟩ := hk.ext; clear hk)
  have k0 := hide (keep_ext ((Keep.refl w).alloc (.cells #[.int .i64 K, .string S, .int .i64 N, .int .i64 0] 31)) (#[o] ++ os) k2)
  simp only [ext_ext] at c0 c1 c2 c3 hhi
  have hlo' : w.heap.size < ad.block := by simp at hlo; omega
  rw [ext_other w _ (.cells #[.int .i64 K, .string S, .int .i64 N, .int .i64 0] 31) _ _ ad hlo'] at c0
  rw [ext_other w _ (.cells #[.int .i64 K, .string S, .int .i64 N, .int .i64 0] 31) _ _ ⟨ad.block, _, none⟩ hlo'] at c1 c2 c3
  clear hlo hlo' hhi
  go_wp2_with fail
  refine wp_region_held_drew (S := fun w' => w'.cell? ad = some (.int .i64 K2) ∧ w'.cell? ⟨ad.block, ad.off + 1, none⟩ = some (.string S2) ∧ w'.cell? ⟨ad.block, ad.off + 2, none⟩ = some (.int .i64 N2) ∧ w'.cell? ⟨ad.block, ad.off + 3, none⟩ = some (.int .i64 P2) ∧ w'.cell? ⟨w.heap.size, 0, none⟩ = some (.int .i64 K) ∧ w'.cell? ⟨w.heap.size, 1, none⟩ = some (.string S) ∧ w'.cell? ⟨w.heap.size, 2, none⟩ = some (.int .i64 N) ∧ w'.cell? ⟨w.heap.size, 3, none⟩ = some (.int .i64 0)) (by kernel_rfl) (by exact ⟨c0, c1, c2, c3, by simp [go_sem], by simp [go_sem], by simp [go_sem], by simp [go_sem]⟩) (fun hHeld => ?_)
  refine wpAnyH_take (i := 0) (v := ?_) rfl (by kernel_rfl) (by kernel_rfl) (by kernel_rfl) (fun _ _ _ h => h) (Or.inl ⟨by rfl, ?_⟩) hHeld ?_
  rotate_left
  · intro w hSw
    try dsimp only at hSw
    go_simp
    try with_reducible rfl
  show wpAnyH _ _ _ _ _ _ _ (Act.put _ (some 22) _) _
  try simp only [Act.put, List.setIfInBounds_toArray, List.set_cons_zero, List.set_cons_succ]
  refine wpAnyH_take (i := 1) (v := ?_) rfl (by kernel_rfl) (by kernel_rfl) (by kernel_rfl) (fun _ _ _ h => h) (Or.inl ⟨by rfl, ?_⟩) hHeld ?_
  rotate_left
  · intro w hSw
    try dsimp only at hSw
    go_simp
    try with_reducible rfl
  show wpAnyH _ _ _ _ _ _ _ (Act.put _ (some 23) _) _
  try simp only [Act.put, List.setIfInBounds_toArray, List.set_cons_zero, List.set_cons_succ]
  refine wpAnyH_take (i := 2) (v := ?_) rfl (by kernel_rfl) (by kernel_rfl) (by kernel_rfl) (fun _ _ _ h => h) (Or.inl ⟨by rfl, ?_⟩) hHeld ?_
  rotate_left
  · intro w hSw
    try dsimp only at hSw
    go_simp
    try with_reducible rfl
  show wpAnyH _ _ _ _ _ _ _ (Act.put _ (some 24) _) _
  try simp only [Act.put, List.setIfInBounds_toArray, List.set_cons_zero, List.set_cons_succ]
  refine wpAnyH_take (i := 3) (v := ?_) rfl (by kernel_rfl) (by kernel_rfl) (by kernel_rfl) (fun _ _ _ h => h) (Or.inl ⟨by rfl, ?_⟩) hHeld ?_
  rotate_left
  · intro w hSw
    try dsimp only at hSw
    go_simp
    try with_reducible rfl
  show wpAnyH _ _ _ _ _ _ _ (Act.put _ (some 25) _) _
  try simp only [Act.put, List.setIfInBounds_toArray, List.set_cons_zero, List.set_cons_succ]
  refine wpAnyH_take (i := 4) (v := ?_) rfl (by kernel_rfl) (by kernel_rfl) (by kernel_rfl) (fun _ _ _ h => h) (Or.inl ⟨by rfl, ?_⟩) hHeld ?_
  rotate_left
  · intro w hSw
    try dsimp only at hSw
    go_simp
    try with_reducible rfl
  show wpAnyH _ _ _ _ _ _ _ (Act.put _ (some 26) _) _
  try simp only [Act.put, List.setIfInBounds_toArray, List.set_cons_zero, List.set_cons_succ]
  refine wpAnyH_take (i := 5) (v := ?_) rfl (by kernel_rfl) (by kernel_rfl) (by kernel_rfl) (fun _ _ _ h => h) (Or.inl ⟨by rfl, ?_⟩) hHeld ?_
  rotate_left
  · intro w hSw
    try dsimp only at hSw
    go_simp
    try with_reducible rfl
  show wpAnyH _ _ _ _ _ _ _ (Act.put _ (some 2) _) _
  try simp only [Act.put, List.setIfInBounds_toArray, List.set_cons_zero, List.set_cons_succ]
  refine wpAnyH_done (by kernel_rfl) ?_ _
  clear hHeld
  go_wp2_with fail
  go_ret
  exact ⟨rfl, (unhide k0).drew⟩
set_option maxHeartbeats 4000000 in
theorem right_s (K N P N2 P2 : Int) (S S2 : ByteArray) (w : World) (hne : ¬ S2.toList = S.toList)
    (T1 : Hid (∀ w' v, By w' v S.data.toList → Calls Try.prog 9 #[v] w' fun e w'' => ∃ ad cap, e = .returned (.tuple #[.slice (some ad) 2 cap, .int .i64 0, .int .i64 0]) ∧ w'.heap.size ≤ ad.block ∧ ad.block < w''.heap.size ∧ (w''.cell? ad = some (.int .i64 K) ∧ w''.cell? ⟨ad.block, ad.off + 1, none⟩ = some (.string S2) ∧ w''.cell? ⟨ad.block, ad.off + 2, none⟩ = some (.int .i64 N2) ∧ w''.cell? ⟨ad.block, ad.off + 3, none⟩ = some (.int .i64 P2)) ∧ Keep w' w'')) :
    Calls Try.prog 13 #[.agg #[.int .i64 K, .string S, .int .i64 N, .int .i64 P]] w fun e w' => e = .returned (.bool false) ∧ Keep w w' := by
  obtain ⟨cap, o, k1, hcv, hby⟩ := by_of (w.alloc (.cells #[.int .i64 K, .string S, .int .i64 N, .int .i64 P] 31)) S
  have hcv2 := hcv 9 22 Try.underlying9 Try.underlying22
  simp only [World.size_alloc] at hcv2 hby
  have HBY := hide hby
  clear hcv hby
  go_enter Try.func13, Try.ntmps13
  go_wp2_with fail
  (refine ((unhide T1) _ _ (unhide HBY)).mono ?_; rintro e w2 ⟨ad, cp, rfl, hlo, hhi, ⟨c0, c1, c2, c3⟩, hk⟩; obtain ⟨os, k2, rfl⟩ := hk.ext; clear hk)
  have k0 := hide (keep_ext ((Keep.refl w).alloc (.cells #[.int .i64 K, .string S, .int .i64 N, .int .i64 0] 31)) (#[o] ++ os) k2)
  simp only [ext_ext] at c0 c1 c2 c3 hhi
  have hlo' : w.heap.size < ad.block := by simp at hlo; omega
  rw [ext_other w _ (.cells #[.int .i64 K, .string S, .int .i64 N, .int .i64 0] 31) _ _ ad hlo'] at c0
  rw [ext_other w _ (.cells #[.int .i64 K, .string S, .int .i64 N, .int .i64 0] 31) _ _ ⟨ad.block, _, none⟩ hlo'] at c1 c2 c3
  clear hlo hlo' hhi
  go_wp2_with fail
  refine wp_region_held_drew (S := fun w' => w'.cell? ad = some (.int .i64 K) ∧ w'.cell? ⟨ad.block, ad.off + 1, none⟩ = some (.string S2) ∧ w'.cell? ⟨ad.block, ad.off + 2, none⟩ = some (.int .i64 N2) ∧ w'.cell? ⟨ad.block, ad.off + 3, none⟩ = some (.int .i64 P2) ∧ w'.cell? ⟨w.heap.size, 0, none⟩ = some (.int .i64 K) ∧ w'.cell? ⟨w.heap.size, 1, none⟩ = some (.string S) ∧ w'.cell? ⟨w.heap.size, 2, none⟩ = some (.int .i64 N) ∧ w'.cell? ⟨w.heap.size, 3, none⟩ = some (.int .i64 0)) (by kernel_rfl) (by exact ⟨c0, c1, c2, c3, by simp [go_sem], by simp [go_sem], by simp [go_sem], by simp [go_sem]⟩) (fun hHeld => ?_)
  refine wpAnyH_take (i := 0) (v := ?_) rfl (by kernel_rfl) (by kernel_rfl) (by kernel_rfl) (fun _ _ _ h => h) (Or.inl ⟨by rfl, ?_⟩) hHeld ?_
  rotate_left
  · intro w hSw
    try dsimp only at hSw
    go_simp
    try with_reducible rfl
  show wpAnyH _ _ _ _ _ _ _ (Act.put _ (some 22) _) _
  try simp only [Act.put, List.setIfInBounds_toArray, List.set_cons_zero, List.set_cons_succ]
  refine wpAnyH_take (i := 1) (v := ?_) rfl (by kernel_rfl) (by kernel_rfl) (by kernel_rfl) (fun _ _ _ h => h) (Or.inl ⟨by rfl, ?_⟩) hHeld ?_
  rotate_left
  · intro w hSw
    try dsimp only at hSw
    go_simp
    try with_reducible rfl
  show wpAnyH _ _ _ _ _ _ _ (Act.put _ (some 23) _) _
  try simp only [Act.put, List.setIfInBounds_toArray, List.set_cons_zero, List.set_cons_succ]
  refine wpAnyH_take (i := 2) (v := ?_) rfl (by kernel_rfl) (by kernel_rfl) (by kernel_rfl) (fun _ _ _ h => h) (Or.inl ⟨by rfl, ?_⟩) hHeld ?_
  rotate_left
  · intro w hSw
    try dsimp only at hSw
    go_simp
    try with_reducible rfl
  show wpAnyH _ _ _ _ _ _ _ (Act.put _ (some 24) _) _
  try simp only [Act.put, List.setIfInBounds_toArray, List.set_cons_zero, List.set_cons_succ]
  refine wpAnyH_take (i := 3) (v := ?_) rfl (by kernel_rfl) (by kernel_rfl) (by kernel_rfl) (fun _ _ _ h => h) (Or.inl ⟨by rfl, ?_⟩) hHeld ?_
  rotate_left
  · intro w hSw
    try dsimp only at hSw
    go_simp
    try with_reducible rfl
  show wpAnyH _ _ _ _ _ _ _ (Act.put _ (some 25) _) _
  try simp only [Act.put, List.setIfInBounds_toArray, List.set_cons_zero, List.set_cons_succ]
  refine wpAnyH_take (i := 4) (v := ?_) rfl (by kernel_rfl) (by kernel_rfl) (by kernel_rfl) (fun _ _ _ h => h) (Or.inl ⟨by rfl, ?_⟩) hHeld ?_
  rotate_left
  · intro w hSw
    try dsimp only at hSw
    go_simp
    try with_reducible rfl
  show wpAnyH _ _ _ _ _ _ _ (Act.put _ (some 26) _) _
  try simp only [Act.put, List.setIfInBounds_toArray, List.set_cons_zero, List.set_cons_succ]
  refine wpAnyH_take (i := 5) (v := ?_) rfl (by kernel_rfl) (by kernel_rfl) (by kernel_rfl) (fun _ _ _ h => h) (Or.inl ⟨by rfl, ?_⟩) hHeld ?_
  rotate_left
  · intro w hSw
    try dsimp only at hSw
    go_simp
    try with_reducible rfl
  show wpAnyH _ _ _ _ _ _ _ (Act.put _ (some 2) _) _
  try simp only [Act.put, List.setIfInBounds_toArray, List.set_cons_zero, List.set_cons_succ]
  refine wpAnyH_done (by kernel_rfl) ?_ _
  clear hHeld
  go_wp2_with fail
  go_ret
  exact ⟨rfl, (unhide k0).drew⟩
set_option maxHeartbeats 4000000 in
theorem right_n (K N P N2 P2 : Int) (S : ByteArray) (w : World) (hne : ¬ N2 = N)
    (T1 : Hid (∀ w' v, By w' v S.data.toList → Calls Try.prog 9 #[v] w' fun e w'' => ∃ ad cap, e = .returned (.tuple #[.slice (some ad) 2 cap, .int .i64 0, .int .i64 0]) ∧ w'.heap.size ≤ ad.block ∧ ad.block < w''.heap.size ∧ (w''.cell? ad = some (.int .i64 K) ∧ w''.cell? ⟨ad.block, ad.off + 1, none⟩ = some (.string S) ∧ w''.cell? ⟨ad.block, ad.off + 2, none⟩ = some (.int .i64 N2) ∧ w''.cell? ⟨ad.block, ad.off + 3, none⟩ = some (.int .i64 P2)) ∧ Keep w' w'')) :
    Calls Try.prog 13 #[.agg #[.int .i64 K, .string S, .int .i64 N, .int .i64 P]] w fun e w' => e = .returned (.bool false) ∧ Keep w w' := by
  obtain ⟨cap, o, k1, hcv, hby⟩ := by_of (w.alloc (.cells #[.int .i64 K, .string S, .int .i64 N, .int .i64 P] 31)) S
  have hcv2 := hcv 9 22 Try.underlying9 Try.underlying22
  simp only [World.size_alloc] at hcv2 hby
  have HBY := hide hby
  clear hcv hby
  go_enter Try.func13, Try.ntmps13
  go_wp2_with fail
  (refine ((unhide T1) _ _ (unhide HBY)).mono ?_; rintro e w2 ⟨ad, cp, rfl, hlo, hhi, ⟨c0, c1, c2, c3⟩, hk⟩; obtain ⟨os, k2, rfl⟩ := hk.ext; clear hk)
  have k0 := hide (keep_ext ((Keep.refl w).alloc (.cells #[.int .i64 K, .string S, .int .i64 N, .int .i64 0] 31)) (#[o] ++ os) k2)
  simp only [ext_ext] at c0 c1 c2 c3 hhi
  have hlo' : w.heap.size < ad.block := by simp at hlo; omega
  rw [ext_other w _ (.cells #[.int .i64 K, .string S, .int .i64 N, .int .i64 0] 31) _ _ ad hlo'] at c0
  rw [ext_other w _ (.cells #[.int .i64 K, .string S, .int .i64 N, .int .i64 0] 31) _ _ ⟨ad.block, _, none⟩ hlo'] at c1 c2 c3
  clear hlo hlo' hhi
  go_wp2_with fail
  refine wp_region_held_drew (S := fun w' => w'.cell? ad = some (.int .i64 K) ∧ w'.cell? ⟨ad.block, ad.off + 1, none⟩ = some (.string S) ∧ w'.cell? ⟨ad.block, ad.off + 2, none⟩ = some (.int .i64 N2) ∧ w'.cell? ⟨ad.block, ad.off + 3, none⟩ = some (.int .i64 P2) ∧ w'.cell? ⟨w.heap.size, 0, none⟩ = some (.int .i64 K) ∧ w'.cell? ⟨w.heap.size, 1, none⟩ = some (.string S) ∧ w'.cell? ⟨w.heap.size, 2, none⟩ = some (.int .i64 N) ∧ w'.cell? ⟨w.heap.size, 3, none⟩ = some (.int .i64 0)) (by kernel_rfl) (by exact ⟨c0, c1, c2, c3, by simp [go_sem], by simp [go_sem], by simp [go_sem], by simp [go_sem]⟩) (fun hHeld => ?_)
  refine wpAnyH_take (i := 0) (v := ?_) rfl (by kernel_rfl) (by kernel_rfl) (by kernel_rfl) (fun _ _ _ h => h) (Or.inl ⟨by rfl, ?_⟩) hHeld ?_
  rotate_left
  · intro w hSw
    try dsimp only at hSw
    go_simp
    try with_reducible rfl
  show wpAnyH _ _ _ _ _ _ _ (Act.put _ (some 22) _) _
  try simp only [Act.put, List.setIfInBounds_toArray, List.set_cons_zero, List.set_cons_succ]
  refine wpAnyH_take (i := 1) (v := ?_) rfl (by kernel_rfl) (by kernel_rfl) (by kernel_rfl) (fun _ _ _ h => h) (Or.inl ⟨by rfl, ?_⟩) hHeld ?_
  rotate_left
  · intro w hSw
    try dsimp only at hSw
    go_simp
    try with_reducible rfl
  show wpAnyH _ _ _ _ _ _ _ (Act.put _ (some 23) _) _
  try simp only [Act.put, List.setIfInBounds_toArray, List.set_cons_zero, List.set_cons_succ]
  refine wpAnyH_take (i := 2) (v := ?_) rfl (by kernel_rfl) (by kernel_rfl) (by kernel_rfl) (fun _ _ _ h => h) (Or.inl ⟨by rfl, ?_⟩) hHeld ?_
  rotate_left
  · intro w hSw
    try dsimp only at hSw
    go_simp
    try with_reducible rfl
  show wpAnyH _ _ _ _ _ _ _ (Act.put _ (some 24) _) _
  try simp only [Act.put, List.setIfInBounds_toArray, List.set_cons_zero, List.set_cons_succ]
  refine wpAnyH_take (i := 3) (v := ?_) rfl (by kernel_rfl) (by kernel_rfl) (by kernel_rfl) (fun _ _ _ h => h) (Or.inl ⟨by rfl, ?_⟩) hHeld ?_
  rotate_left
  · intro w hSw
    try dsimp only at hSw
    go_simp
    try with_reducible rfl
  show wpAnyH _ _ _ _ _ _ _ (Act.put _ (some 25) _) _
  try simp only [Act.put, List.setIfInBounds_toArray, List.set_cons_zero, List.set_cons_succ]
  refine wpAnyH_take (i := 4) (v := ?_) rfl (by kernel_rfl) (by kernel_rfl) (by kernel_rfl) (fun _ _ _ h => h) (Or.inl ⟨by rfl, ?_⟩) hHeld ?_
  rotate_left
  · intro w hSw
    try dsimp only at hSw
    go_simp
    try with_reducible rfl
  show wpAnyH _ _ _ _ _ _ _ (Act.put _ (some 26) _) _
  try simp only [Act.put, List.setIfInBounds_toArray, List.set_cons_zero, List.set_cons_succ]
  refine wpAnyH_take (i := 5) (v := ?_) rfl (by kernel_rfl) (by kernel_rfl) (by kernel_rfl) (fun _ _ _ h => h) (Or.inl ⟨by rfl, ?_⟩) hHeld ?_
  rotate_left
  · intro w hSw
    try dsimp only at hSw
    go_simp
    try with_reducible rfl
  show wpAnyH _ _ _ _ _ _ _ (Act.put _ (some 2) _) _
  try simp only [Act.put, List.setIfInBounds_toArray, List.set_cons_zero, List.set_cons_succ]
  refine wpAnyH_done (by kernel_rfl) ?_ _
  clear hHeld
  go_wp2_with fail
  go_ret
  exact ⟨rfl, (unhide k0).drew⟩
end Go.Proofs.Ytpmfgnolojmimaa
