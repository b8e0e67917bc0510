/- Package lex: one token read. -/
import Derived.Test.YtfjphcgipbgodaaDoorLTok
namespace Go.Proofs.YtfjphcgipbgodaaDoor
open Go.RowKit
attribute [local go_sem ↓] Go.wp_at_zero Go.wp_at_succ
set_option linter.unusedVariables false
set_option linter.unusedSimpArgs false
set_option maxRecDepth 10000
set_option maxHeartbeats 2000000 in
theorem read_end (a : Option Addr) (n cap : Nat) (w : World) (hn : n ≤ 70000) :
    Calls Tryd.prog 32 #[.slice a n cap, .int .i64 (n : Int)] w fun e w' => e = .returned (.tuple #[.agg #[.int .i64 0, .string ⟨#[]⟩, .int .i64 0, .int .i64 (n : Int)], .int .i64 0]) ∧ Keep w w' := by
  go_enter Tryd.func32, Tryd.ntmps32
  go_wp2_with fail
  exact bodyPost_ret (v := .tuple #[.agg #[.int .i64 0, .string ⟨#[]⟩, .int .i64 0, .int .i64 (n : Int)], .int .i64 0]) (by simp [results, Tryd.results32, go_sem]) rfl ⟨rfl, by repeat (first | apply keep_ext | apply Keep.alloc | apply Keep.drew | exact Keep.refl _)⟩
set_option maxHeartbeats 2000000 in
theorem read_word (ad : Addr) (n cap i N : Nat) (c : Int) (s : ByteArray) (w : World) (hn : n ≤ 70000) (hi : i < n) (hN : i < N) (hNn : N ≤ n) (hnc : n ≤ cap) (hm : N - i ≤ 24) (hb : ad.block < w.heap.size)
    (HC : Hid (∀ W, Keep w W → W.cell? (ad.add i) = some (.int .u8 c)))
    (T1 : Hid (∀ w, Calls Tryd.prog 47 #[.int .u8 c] w fun e w' => e = .returned (.int .i64 4) ∧ w' = w))
    (T2 : Hid (∀ w', Keep w w' → Calls Tryd.prog 48 #[.slice (some ad) n cap, .int .i64 (i : Int)] w' fun e w'' => e = .returned (.int .i64 (N : Int)) ∧ Keep w' w''))
    (HV : Hid (∀ W, Keep w W → (convert 22 9 (.slice (some (ad.add i)) (N - i) (cap - i))).run Tryd.prog W = .ok (.string s) W)) :
    Calls Tryd.prog 32 #[.slice (some ad) n cap, .int .i64 (i : Int)] w fun e w' => e = .returned (.tuple #[.agg #[.int .i64 1, .string s, .int .i64 0, .int .i64 (i : Int)], .int .i64 0]) ∧ Keep w w' := by
  have hin : (i : Int) < (n : Int) := by omega
  have hne : ((i : Int) == (n : Int)) = false := by simp; omega
  have k0 := (show ∀ o1 o2, ((w.alloc o1).alloc o2).cell? (ad.add i) = some (.int .u8 c) from fun o1 o2 => (unhide HC) _ (((Keep.refl w).alloc _).alloc _))
  have kv := (show ∀ o1 o2 os k, (convert 22 9 (.slice (some (ad.add i)) (N - i) (cap - i))).run Tryd.prog (ext ((w.alloc o1).alloc o2) os k) = .ok (.string s) (ext ((w.alloc o1).alloc o2) os k) from fun o1 o2 os k => (unhide HV) _ (keep_ext (((Keep.refl w).alloc _).alloc _) _ _))
  go_enter Tryd.func32, Tryd.ntmps32
  go_wp2_with fail
  (refine ((unhide T1) _).mono ?_; rintro e w2 ⟨rfl, rfl⟩)
  clear k0
  go_wp2_with fail
  (refine ((unhide T2) _ (((Keep.refl w).alloc _).alloc _)).mono ?_; rintro e w3 ⟨rfl, hkk⟩; obtain ⟨o1, k1, rfl⟩ := hkk.ext; clear hkk)
  go_wp2_with fail
  exact bodyPost_ret (v := .tuple #[.agg #[.int .i64 1, .string s, .int .i64 0, .int .i64 (i : Int)], .int .i64 0]) (by simp [results, Tryd.results32, go_sem]) rfl ⟨rfl, by repeat (first | apply keep_ext | apply Keep.alloc | apply Keep.drew | exact Keep.refl _)⟩
set_option maxHeartbeats 2000000 in
theorem read_num (ad : Addr) (n cap i N : Nat) (c m : Int) (s : ByteArray) (w : World) (hn : n ≤ 70000) (hi : i < n) (hN : i < N) (hNn : N ≤ n) (hnc : n ≤ cap) (hm : N - i ≤ 18) (hb : ad.block < w.heap.size)
    (HC : Hid (∀ W, Keep w W → W.cell? (ad.add i) = some (.int .u8 c)))
    (T1 : Hid (∀ w, Calls Tryd.prog 47 #[.int .u8 c] w fun e w' => e = .returned (.int .i64 5) ∧ w' = w))
    (T2 : Hid (∀ w', Keep w w' → Calls Tryd.prog 48 #[.slice (some ad) n cap, .int .i64 (i : Int)] w' fun e w'' => e = .returned (.int .i64 (N : Int)) ∧ Keep w' w''))
    (HV : Hid (∀ W, Keep w W → (convert 22 9 (.slice (some (ad.add i)) (N - i) (cap - i))).run Tryd.prog W = .ok (.string s) W))
    (T3 : Hid (∀ w, Calls Tryd.prog 49 #[.string s] w fun e w' => e = .returned (.int .i64 m) ∧ w' = w)) :
    Calls Tryd.prog 32 #[.slice (some ad) n cap, .int .i64 (i : Int)] w fun e w' => e = .returned (.tuple #[.agg #[.int .i64 2, .string s, .int .i64 m, .int .i64 (i : Int)], .int .i64 0]) ∧ Keep w w' := by
  have hin : (i : Int) < (n : Int) := by omega
  have hne : ((i : Int) == (n : Int)) = false := by simp; omega
  have k0 := (show ∀ o1 o2, ((w.alloc o1).alloc o2).cell? (ad.add i) = some (.int .u8 c) from fun o1 o2 => (unhide HC) _ (((Keep.refl w).alloc _).alloc _))
  have kv := (show ∀ o1 o2 os k, (convert 22 9 (.slice (some (ad.add i)) (N - i) (cap - i))).run Tryd.prog (ext ((w.alloc o1).alloc o2) os k) = .ok (.string s) (ext ((w.alloc o1).alloc o2) os k) from fun o1 o2 os k => (unhide HV) _ (keep_ext (((Keep.refl w).alloc _).alloc _) _ _))
  go_enter Tryd.func32, Tryd.ntmps32
  go_wp2_with fail
  (refine ((unhide T1) _).mono ?_; rintro e w2 ⟨rfl, rfl⟩)
  clear k0
  go_wp2_with fail
  (refine ((unhide T2) _ (((Keep.refl w).alloc _).alloc _)).mono ?_; rintro e w3 ⟨rfl, hkk⟩; obtain ⟨o1, k1, rfl⟩ := hkk.ext; clear hkk)
  go_wp2_with fail
  (refine ((unhide T3) _).mono ?_; rintro e w4 ⟨rfl, rfl⟩)
  go_wp2_with fail
  exact bodyPost_ret (v := .tuple #[.agg #[.int .i64 2, .string s, .int .i64 m, .int .i64 (i : Int)], .int .i64 0]) (by simp [results, Tryd.results32, go_sem]) rfl ⟨rfl, by repeat (first | apply keep_ext | apply Keep.alloc | apply Keep.drew | exact Keep.refl _)⟩
set_option maxHeartbeats 2000000 in
theorem read_sign (ad : Addr) (n cap i N : Nat) (c : Int) (s : ByteArray) (w : World) (hn : n ≤ 70000) (hi : i < n) (hN : i < N) (hNn : N ≤ n) (hnc : n ≤ cap) (hm : N - i ≤ 1) (hb : ad.block < w.heap.size)
    (HC : Hid (∀ W, Keep w W → W.cell? (ad.add i) = some (.int .u8 c)))
    (T1 : Hid (∀ w, Calls Tryd.prog 47 #[.int .u8 c] w fun e w' => e = .returned (.int .i64 7) ∧ w' = w))
    (T2 : Hid (∀ w', Keep w w' → Calls Tryd.prog 48 #[.slice (some ad) n cap, .int .i64 (i : Int)] w' fun e w'' => e = .returned (.int .i64 (N : Int)) ∧ Keep w' w''))
    (HV : Hid (∀ W, Keep w W → (convert 22 9 (.slice (some (ad.add i)) (N - i) (cap - i))).run Tryd.prog W = .ok (.string s) W)) :
    Calls Tryd.prog 32 #[.slice (some ad) n cap, .int .i64 (i : Int)] w fun e w' => e = .returned (.tuple #[.agg #[.int .i64 3, .string s, .int .i64 0, .int .i64 (i : Int)], .int .i64 0]) ∧ Keep w w' := by
  have hin : (i : Int) < (n : Int) := by omega
  have hne : ((i : Int) == (n : Int)) = false := by simp; omega
  have k0 := (show ∀ o1 o2, ((w.alloc o1).alloc o2).cell? (ad.add i) = some (.int .u8 c) from fun o1 o2 => (unhide HC) _ (((Keep.refl w).alloc _).alloc _))
  have kv := (show ∀ o1 o2 os k, (convert 22 9 (.slice (some (ad.add i)) (N - i) (cap - i))).run Tryd.prog (ext ((w.alloc o1).alloc o2) os k) = .ok (.string s) (ext ((w.alloc o1).alloc o2) os k) from fun o1 o2 os k => (unhide HV) _ (keep_ext (((Keep.refl w).alloc _).alloc _) _ _))
  go_enter Tryd.func32, Tryd.ntmps32
  go_wp2_with fail
  (refine ((unhide T1) _).mono ?_; rintro e w2 ⟨rfl, rfl⟩)
  clear k0
  go_wp2_with fail
  (refine ((unhide T2) _ (((Keep.refl w).alloc _).alloc _)).mono ?_; rintro e w3 ⟨rfl, hkk⟩; obtain ⟨o1, k1, rfl⟩ := hkk.ext; clear hkk)
  go_wp2_with fail
  exact bodyPost_ret (v := .tuple #[.agg #[.int .i64 3, .string s, .int .i64 0, .int .i64 (i : Int)], .int .i64 0]) (by simp [results, Tryd.results32, go_sem]) rfl ⟨rfl, by repeat (first | apply keep_ext | apply Keep.alloc | apply Keep.drew | exact Keep.refl _)⟩
set_option maxHeartbeats 2000000 in
theorem read_wlong (ad : Addr) (n cap i N : Nat) (c : Int) (s : ByteArray) (w : World) (hn : n ≤ 70000) (hi : i < n) (hN : i < N) (hNn : N ≤ n) (hnc : n ≤ cap) (hm : 24 < N - i) (hb : ad.block < w.heap.size)
    (HC : Hid (∀ W, Keep w W → W.cell? (ad.add i) = some (.int .u8 c)))
    (T1 : Hid (∀ w, Calls Tryd.prog 47 #[.int .u8 c] w fun e w' => e = .returned (.int .i64 4) ∧ w' = w))
    (T2 : Hid (∀ w', Keep w w' → Calls Tryd.prog 48 #[.slice (some ad) n cap, .int .i64 (i : Int)] w' fun e w'' => e = .returned (.int .i64 (N : Int)) ∧ Keep w' w''))
    (HV : Hid (∀ W, Keep w W → (convert 22 9 (.slice (some (ad.add i)) (N - i) (cap - i))).run Tryd.prog W = .ok (.string s) W)) :
    Calls Tryd.prog 32 #[.slice (some ad) n cap, .int .i64 (i : Int)] w fun e w' => e = .returned (.tuple #[.agg #[.int .i64 0, .string ⟨#[]⟩, .int .i64 0, .int .i64 0], .int .i64 4]) ∧ Keep w w' := by
  have hin : (i : Int) < (n : Int) := by omega
  have hne : ((i : Int) == (n : Int)) = false := by simp; omega
  have k0 := (show ∀ o1 o2, ((w.alloc o1).alloc o2).cell? (ad.add i) = some (.int .u8 c) from fun o1 o2 => (unhide HC) _ (((Keep.refl w).alloc _).alloc _))
  have kv := (show ∀ o1 o2 os k, (convert 22 9 (.slice (some (ad.add i)) (N - i) (cap - i))).run Tryd.prog (ext ((w.alloc o1).alloc o2) os k) = .ok (.string s) (ext ((w.alloc o1).alloc o2) os k) from fun o1 o2 os k => (unhide HV) _ (keep_ext (((Keep.refl w).alloc _).alloc _) _ _))
  go_enter Tryd.func32, Tryd.ntmps32
  go_wp2_with fail
  (refine ((unhide T1) _).mono ?_; rintro e w2 ⟨rfl, rfl⟩)
  clear k0
  go_wp2_with fail
  (refine ((unhide T2) _ (((Keep.refl w).alloc _).alloc _)).mono ?_; rintro e w3 ⟨rfl, hkk⟩; obtain ⟨o1, k1, rfl⟩ := hkk.ext; clear hkk)
  go_wp2_with fail
  exact bodyPost_ret (v := .tuple #[.agg #[.int .i64 0, .string ⟨#[]⟩, .int .i64 0, .int .i64 0], .int .i64 4]) (by simp [results, Tryd.results32, go_sem]) rfl ⟨rfl, by repeat (first | apply keep_ext | apply Keep.alloc | apply Keep.drew | exact Keep.refl _)⟩
set_option maxHeartbeats 2000000 in
theorem read_nlong (ad : Addr) (n cap i N : Nat) (c : Int) (s : ByteArray) (w : World) (hn : n ≤ 70000) (hi : i < n) (hN : i < N) (hNn : N ≤ n) (hnc : n ≤ cap) (hm : 18 < N - i) (hb : ad.block < w.heap.size)
    (HC : Hid (∀ W, Keep w W → W.cell? (ad.add i) = some (.int .u8 c)))
    (T1 : Hid (∀ w, Calls Tryd.prog 47 #[.int .u8 c] w fun e w' => e = .returned (.int .i64 5) ∧ w' = w))
    (T2 : Hid (∀ w', Keep w w' → Calls Tryd.prog 48 #[.slice (some ad) n cap, .int .i64 (i : Int)] w' fun e w'' => e = .returned (.int .i64 (N : Int)) ∧ Keep w' w''))
    (HV : Hid (∀ W, Keep w W → (convert 22 9 (.slice (some (ad.add i)) (N - i) (cap - i))).run Tryd.prog W = .ok (.string s) W)) :
    Calls Tryd.prog 32 #[.slice (some ad) n cap, .int .i64 (i : Int)] w fun e w' => e = .returned (.tuple #[.agg #[.int .i64 0, .string ⟨#[]⟩, .int .i64 0, .int .i64 0], .int .i64 4]) ∧ Keep w w' := by
  have hin : (i : Int) < (n : Int) := by omega
  have hne : ((i : Int) == (n : Int)) = false := by simp; omega
  have k0 := (show ∀ o1 o2, ((w.alloc o1).alloc o2).cell? (ad.add i) = some (.int .u8 c) from fun o1 o2 => (unhide HC) _ (((Keep.refl w).alloc _).alloc _))
  have kv := (show ∀ o1 o2 os k, (convert 22 9 (.slice (some (ad.add i)) (N - i) (cap - i))).run Tryd.prog (ext ((w.alloc o1).alloc o2) os k) = .ok (.string s) (ext ((w.alloc o1).alloc o2) os k) from fun o1 o2 os k => (unhide HV) _ (keep_ext (((Keep.refl w).alloc _).alloc _) _ _))
  go_enter Tryd.func32, Tryd.ntmps32
  go_wp2_with fail
  (refine ((unhide T1) _).mono ?_; rintro e w2 ⟨rfl, rfl⟩)
  clear k0
  go_wp2_with fail
  (refine ((unhide T2) _ (((Keep.refl w).alloc _).alloc _)).mono ?_; rintro e w3 ⟨rfl, hkk⟩; obtain ⟨o1, k1, rfl⟩ := hkk.ext; clear hkk)
  go_wp2_with fail
  exact bodyPost_ret (v := .tuple #[.agg #[.int .i64 0, .string ⟨#[]⟩, .int .i64 0, .int .i64 0], .int .i64 4]) (by simp [results, Tryd.results32, go_sem]) rfl ⟨rfl, by repeat (first | apply keep_ext | apply Keep.alloc | apply Keep.drew | exact Keep.refl _)⟩
set_option maxHeartbeats 2000000 in
theorem read_byte (ad : Addr) (n cap i N : Nat) (c q : Int) (s : ByteArray) (w : World) (hn : n ≤ 70000) (hi : i < n) (hN : i < N) (hNn : N ≤ n) (hnc : n ≤ cap) (q4 : (q == 4) = false) (q5 : (q == 5) = false) (q7 : (q == 7) = false) (hb : ad.block < w.heap.size)
    (HC : Hid (∀ W, Keep w W → W.cell? (ad.add i) = some (.int .u8 c)))
    (T1 : Hid (∀ w, Calls Tryd.prog 47 #[.int .u8 c] w fun e w' => e = .returned (.int .i64 q) ∧ w' = w))
    (T2 : Hid (∀ w', Keep w w' → Calls Tryd.prog 48 #[.slice (some ad) n cap, .int .i64 (i : Int)] w' fun e w'' => e = .returned (.int .i64 (N : Int)) ∧ Keep w' w''))
    (HV : Hid (∀ W, Keep w W → (convert 22 9 (.slice (some (ad.add i)) (N - i) (cap - i))).run Tryd.prog W = .ok (.string s) W)) :
    Calls Tryd.prog 32 #[.slice (some ad) n cap, .int .i64 (i : Int)] w fun e w' => e = .returned (.tuple #[.agg #[.int .i64 0, .string ⟨#[]⟩, .int .i64 0, .int .i64 0], .int .i64 40]) ∧ Keep w w' := by
  have hin : (i : Int) < (n : Int) := by omega
  have hne : ((i : Int) == (n : Int)) = false := by simp; omega
  have k0 := (show ∀ o1 o2, ((w.alloc o1).alloc o2).cell? (ad.add i) = some (.int .u8 c) from fun o1 o2 => (unhide HC) _ (((Keep.refl w).alloc _).alloc _))
  have kv := (show ∀ o1 o2 os k, (convert 22 9 (.slice (some (ad.add i)) (N - i) (cap - i))).run Tryd.prog (ext ((w.alloc o1).alloc o2) os k) = .ok (.string s) (ext ((w.alloc o1).alloc o2) os k) from fun o1 o2 os k => (unhide HV) _ (keep_ext (((Keep.refl w).alloc _).alloc _) _ _))
  go_enter Tryd.func32, Tryd.ntmps32
  go_wp2_with fail
  (refine ((unhide T1) _).mono ?_; rintro e w2 ⟨rfl, rfl⟩)
  clear k0
  go_wp2_with fail
  exact bodyPost_ret (v := .tuple #[.agg #[.int .i64 0, .string ⟨#[]⟩, .int .i64 0, .int .i64 0], .int .i64 40]) (by simp [results, Tryd.results32, go_sem]) rfl ⟨rfl, by repeat (first | apply keep_ext | apply Keep.alloc | apply Keep.drew | exact Keep.refl _)⟩
end Go.Proofs.YtfjphcgipbgodaaDoor
