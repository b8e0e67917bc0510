/- Package lex: one token read. -/
import Derived.Test.YtmplckdpddmifaaGreatDoorLTok
namespace Go.Proofs.YtmplckdpddmifaaGreatDoor
open Go.RowKit
attribute [local go_sem ↓] Go.wp_at_zero Go.wp_at_succ
set_option linter.unusedVariables false
set_option linter.unusedSimpArgs false
set_option maxRecDepth 10000
set_option maxHeartbeats 2000000 in
theorem read_end (a : Option Addr) (n cap : Nat) (w : World) (hn : n ≤ 70000) :
    Calls Tryz.prog 46 #[.slice a n cap, .int .i64 (n : Int)] w fun e w' => e = .returned (.tuple #[.agg #[.int .i64 0, .string ⟨#[]⟩, .int .i64 0, .int .i64 (n : Int)], .int .i64 0]) ∧ Keep w w' := by
  go_enter Tryz.func46, Tryz.ntmps46
  go_wp2_with fail
  exact bodyPost_ret (v := .tuple #[.agg #[.int .i64 0, .string ⟨#[]⟩, .int .i64 0, .int .i64 (n : Int)], .int .i64 0]) (by simp [results, Tryz.results46, go_sem]) rfl ⟨rfl, by repeat (first | apply keep_ext | apply Keep.alloc | apply Keep.drew | exact Keep.refl _)⟩
set_option maxHeartbeats 2000000 in
theorem read_word (ad : Addr) (n cap i N : Nat) (c : Int) (s : ByteArray) (w : World) (hn : n ≤ 70000) (hi : i < n) (hN : i < N) (hNn : N ≤ n) (hnc : n ≤ cap) (hm : N - i ≤ 24) (hb : ad.block < w.heap.size)
    (HC : Hid (∀ W, Keep w W → W.cell? (ad.add i) = some (.int .u8 c)))
    (T1 : Hid (∀ w, Calls Tryz.prog 59 #[.int .u8 c] w fun e w' => e = .returned (.int .i64 4) ∧ w' = w))
    (T2 : Hid (∀ w', Keep w w' → Calls Tryz.prog 60 #[.slice (some ad) n cap, .int .i64 (i : Int)] w' fun e w'' => e = .returned (.int .i64 (N : Int)) ∧ Keep w' w''))
    (HV : Hid (∀ W, Keep w W → (convert 22 9 (.slice (some (ad.add i)) (N - i) (cap - i))).run Tryz.prog W = .ok (.string s) W)) :
    Calls Tryz.prog 46 #[.slice (some ad) n cap, .int .i64 (i : Int)] w fun e w' => e = .returned (.tuple #[.agg #[.int .i64 1, .string s, .int .i64 0, .int .i64 (i : Int)], .int .i64 0]) ∧ Keep w w' := by
  have hin : (i : Int) < (n : Int) := by omega
  have hne : ((i : Int) == (n : Int)) = false := by simp; omega
  have k0 := (show ∀ o1 o2, ((w.alloc o1).alloc o2).cell? (ad.add i) = some (.int .u8 c) from fun o1 o2 => (uq HC) _ (((Keep.refl w).alloc _).alloc _))
  have kv := (show ∀ o1 o2 os k, (convert 22 9 (.slice (some (ad.add i)) (N - i) (cap - i))).run Tryz.prog (ext ((w.alloc o1).alloc o2) os k) = .ok (.string s) (ext ((w.alloc o1).alloc o2) os k) from fun o1 o2 os k => (uq HV) _ (keep_ext (((Keep.refl w).alloc _).alloc _) _ _))
  go_enter Tryz.func46, Tryz.ntmps46
  go_wp2_with fail
  (refine ((uq T1) _).mono ?_; rintro e w2 ⟨rfl, rfl⟩)
  clear k0
  go_wp2_with fail
  (refine ((uq T2) _ (((Keep.refl w).alloc _).alloc _)).mono ?_; rintro e w3 ⟨rfl, hkk⟩; obtain ⟨o1, k1, rfl⟩ := hkk.ext; clear hkk)
  go_wp2_with fail
  exact bodyPost_ret (v := .tuple #[.agg #[.int .i64 1, .string s, .int .i64 0, .int .i64 (i : Int)], .int .i64 0]) (by simp [results, Tryz.results46, go_sem]) rfl ⟨rfl, by repeat (first | apply keep_ext | apply Keep.alloc | apply Keep.drew | exact Keep.refl _)⟩
set_option maxHeartbeats 2000000 in
theorem read_num (ad : Addr) (n cap i N : Nat) (c m : Int) (s : ByteArray) (w : World) (hn : n ≤ 70000) (hi : i < n) (hN : i < N) (hNn : N ≤ n) (hnc : n ≤ cap) (hm : N - i ≤ 18) (hb : ad.block < w.heap.size)
    (HC : Hid (∀ W, Keep w W → W.cell? (ad.add i) = some (.int .u8 c)))
    (T1 : Hid (∀ w, Calls Tryz.prog 59 #[.int .u8 c] w fun e w' => e = .returned (.int .i64 5) ∧ w' = w))
    (T2 : Hid (∀ w', Keep w w' → Calls Tryz.prog 60 #[.slice (some ad) n cap, .int .i64 (i : Int)] w' fun e w'' => e = .returned (.int .i64 (N : Int)) ∧ Keep w' w''))
    (HV : Hid (∀ W, Keep w W → (convert 22 9 (.slice (some (ad.add i)) (N - i) (cap - i))).run Tryz.prog W = .ok (.string s) W))
    (T3 : Hid (∀ w, Calls Tryz.prog 61 #[.string s] w fun e w' => e = .returned (.int .i64 m) ∧ w' = w)) :
    Calls Tryz.prog 46 #[.slice (some ad) n cap, .int .i64 (i : Int)] w fun e w' => e = .returned (.tuple #[.agg #[.int .i64 2, .string s, .int .i64 m, .int .i64 (i : Int)], .int .i64 0]) ∧ Keep w w' := by
  have hin : (i : Int) < (n : Int) := by omega
  have hne : ((i : Int) == (n : Int)) = false := by simp; omega
  have k0 := (show ∀ o1 o2, ((w.alloc o1).alloc o2).cell? (ad.add i) = some (.int .u8 c) from fun o1 o2 => (uq HC) _ (((Keep.refl w).alloc _).alloc _))
  have kv := (show ∀ o1 o2 os k, (convert 22 9 (.slice (some (ad.add i)) (N - i) (cap - i))).run Tryz.prog (ext ((w.alloc o1).alloc o2) os k) = .ok (.string s) (ext ((w.alloc o1).alloc o2) os k) from fun o1 o2 os k => (uq HV) _ (keep_ext (((Keep.refl w).alloc _).alloc _) _ _))
  go_enter Tryz.func46, Tryz.ntmps46
  go_wp2_with fail
  (refine ((uq T1) _).mono ?_; rintro e w2 ⟨rfl, rfl⟩)
  clear k0
  go_wp2_with fail
  (refine ((uq T2) _ (((Keep.refl w).alloc _).alloc _)).mono ?_; rintro e w3 ⟨rfl, hkk⟩; obtain ⟨o1, k1, rfl⟩ := hkk.ext; clear hkk)
  go_wp2_with fail
  (refine ((uq T3) _).mono ?_; rintro e w4 ⟨rfl, rfl⟩)
  go_wp2_with fail
  exact bodyPost_ret (v := .tuple #[.agg #[.int .i64 2, .string s, .int .i64 m, .int .i64 (i : Int)], .int .i64 0]) (by simp [results, Tryz.results46, go_sem]) rfl ⟨rfl, by repeat (first | apply keep_ext | apply Keep.alloc | apply Keep.drew | exact Keep.refl _)⟩
set_option maxHeartbeats 2000000 in
theorem read_sign (ad : Addr) (n cap i N : Nat) (c : Int) (s : ByteArray) (w : World) (hn : n ≤ 70000) (hi : i < n) (hN : i < N) (hNn : N ≤ n) (hnc : n ≤ cap) (hm : N - i ≤ 1) (hb : ad.block < w.heap.size)
    (HC : Hid (∀ W, Keep w W → W.cell? (ad.add i) = some (.int .u8 c)))
    (T1 : Hid (∀ w, Calls Tryz.prog 59 #[.int .u8 c] w fun e w' => e = .returned (.int .i64 7) ∧ w' = w))
    (T2 : Hid (∀ w', Keep w w' → Calls Tryz.prog 60 #[.slice (some ad) n cap, .int .i64 (i : Int)] w' fun e w'' => e = .returned (.int .i64 (N : Int)) ∧ Keep w' w''))
    (HV : Hid (∀ W, Keep w W → (convert 22 9 (.slice (some (ad.add i)) (N - i) (cap - i))).run Tryz.prog W = .ok (.string s) W)) :
    Calls Tryz.prog 46 #[.slice (some ad) n cap, .int .i64 (i : Int)] w fun e w' => e = .returned (.tuple #[.agg #[.int .i64 3, .string s, .int .i64 0, .int .i64 (i : Int)], .int .i64 0]) ∧ Keep w w' := by
  have hin : (i : Int) < (n : Int) := by omega
  have hne : ((i : Int) == (n : Int)) = false := by simp; omega
  have k0 := (show ∀ o1 o2, ((w.alloc o1).alloc o2).cell? (ad.add i) = some (.int .u8 c) from fun o1 o2 => (uq HC) _ (((Keep.refl w).alloc _).alloc _))
  have kv := (show ∀ o1 o2 os k, (convert 22 9 (.slice (some (ad.add i)) (N - i) (cap - i))).run Tryz.prog (ext ((w.alloc o1).alloc o2) os k) = .ok (.string s) (ext ((w.alloc o1).alloc o2) os k) from fun o1 o2 os k => (uq HV) _ (keep_ext (((Keep.refl w).alloc _).alloc _) _ _))
  go_enter Tryz.func46, Tryz.ntmps46
  go_wp2_with fail
  (refine ((uq T1) _).mono ?_; rintro e w2 ⟨rfl, rfl⟩)
  clear k0
  go_wp2_with fail
  (refine ((uq T2) _ (((Keep.refl w).alloc _).alloc _)).mono ?_; rintro e w3 ⟨rfl, hkk⟩; obtain ⟨o1, k1, rfl⟩ := hkk.ext; clear hkk)
  go_wp2_with fail
  exact bodyPost_ret (v := .tuple #[.agg #[.int .i64 3, .string s, .int .i64 0, .int .i64 (i : Int)], .int .i64 0]) (by simp [results, Tryz.results46, go_sem]) rfl ⟨rfl, by repeat (first | apply keep_ext | apply Keep.alloc | apply Keep.drew | exact Keep.refl _)⟩
set_option maxHeartbeats 2000000 in
theorem read_wlong (ad : Addr) (n cap i N : Nat) (c : Int) (s : ByteArray) (w : World) (hn : n ≤ 70000) (hi : i < n) (hN : i < N) (hNn : N ≤ n) (hnc : n ≤ cap) (hm : 24 < N - i) (hb : ad.block < w.heap.size)
    (HC : Hid (∀ W, Keep w W → W.cell? (ad.add i) = some (.int .u8 c)))
    (T1 : Hid (∀ w, Calls Tryz.prog 59 #[.int .u8 c] w fun e w' => e = .returned (.int .i64 4) ∧ w' = w))
    (T2 : Hid (∀ w', Keep w w' → Calls Tryz.prog 60 #[.slice (some ad) n cap, .int .i64 (i : Int)] w' fun e w'' => e = .returned (.int .i64 (N : Int)) ∧ Keep w' w''))
    (HV : Hid (∀ W, Keep w W → (convert 22 9 (.slice (some (ad.add i)) (N - i) (cap - i))).run Tryz.prog W = .ok (.string s) W)) :
    Calls Tryz.prog 46 #[.slice (some ad) n cap, .int .i64 (i : Int)] w fun e w' => e = .returned (.tuple #[.agg #[.int .i64 0, .string ⟨#[]⟩, .int .i64 0, .int .i64 0], .int .i64 4]) ∧ Keep w w' := by
  have hin : (i : Int) < (n : Int) := by omega
  have hne : ((i : Int) == (n : Int)) = false := by simp; omega
  have k0 := (show ∀ o1 o2, ((w.alloc o1).alloc o2).cell? (ad.add i) = some (.int .u8 c) from fun o1 o2 => (uq HC) _ (((Keep.refl w).alloc _).alloc _))
  have kv := (show ∀ o1 o2 os k, (convert 22 9 (.slice (some (ad.add i)) (N - i) (cap - i))).run Tryz.prog (ext ((w.alloc o1).alloc o2) os k) = .ok (.string s) (ext ((w.alloc o1).alloc o2) os k) from fun o1 o2 os k => (uq HV) _ (keep_ext (((Keep.refl w).alloc _).alloc _) _ _))
  go_enter Tryz.func46, Tryz.ntmps46
  go_wp2_with fail
  (refine ((uq T1) _).mono ?_; rintro e w2 ⟨rfl, rfl⟩)
  clear k0
  go_wp2_with fail
  (refine ((uq T2) _ (((Keep.refl w).alloc _).alloc _)).mono ?_; rintro e w3 ⟨rfl, hkk⟩; obtain ⟨o1, k1, rfl⟩ := hkk.ext; clear hkk)
  go_wp2_with fail
  exact bodyPost_ret (v := .tuple #[.agg #[.int .i64 0, .string ⟨#[]⟩, .int .i64 0, .int .i64 0], .int .i64 4]) (by simp [results, Tryz.results46, go_sem]) rfl ⟨rfl, by repeat (first | apply keep_ext | apply Keep.alloc | apply Keep.drew | exact Keep.refl _)⟩
set_option maxHeartbeats 2000000 in
theorem read_nlong (ad : Addr) (n cap i N : Nat) (c : Int) (s : ByteArray) (w : World) (hn : n ≤ 70000) (hi : i < n) (hN : i < N) (hNn : N ≤ n) (hnc : n ≤ cap) (hm : 18 < N - i) (hb : ad.block < w.heap.size)
    (HC : Hid (∀ W, Keep w W → W.cell? (ad.add i) = some (.int .u8 c)))
    (T1 : Hid (∀ w, Calls Tryz.prog 59 #[.int .u8 c] w fun e w' => e = .returned (.int .i64 5) ∧ w' = w))
    (T2 : Hid (∀ w', Keep w w' → Calls Tryz.prog 60 #[.slice (some ad) n cap, .int .i64 (i : Int)] w' fun e w'' => e = .returned (.int .i64 (N : Int)) ∧ Keep w' w''))
    (HV : Hid (∀ W, Keep w W → (convert 22 9 (.slice (some (ad.add i)) (N - i) (cap - i))).run Tryz.prog W = .ok (.string s) W)) :
    Calls Tryz.prog 46 #[.slice (some ad) n cap, .int .i64 (i : Int)] w fun e w' => e = .returned (.tuple #[.agg #[.int .i64 0, .string ⟨#[]⟩, .int .i64 0, .int .i64 0], .int .i64 4]) ∧ Keep w w' := by
  have hin : (i : Int) < (n : Int) := by omega
  have hne : ((i : Int) == (n : Int)) = false := by simp; omega
  have k0 := (show ∀ o1 o2, ((w.alloc o1).alloc o2).cell? (ad.add i) = some (.int .u8 c) from fun o1 o2 => (uq HC) _ (((Keep.refl w).alloc _).alloc _))
  have kv := (show ∀ o1 o2 os k, (convert 22 9 (.slice (some (ad.add i)) (N - i) (cap - i))).run Tryz.prog (ext ((w.alloc o1).alloc o2) os k) = .ok (.string s) (ext ((w.alloc o1).alloc o2) os k) from fun o1 o2 os k => (uq HV) _ (keep_ext (((Keep.refl w).alloc _).alloc _) _ _))
  go_enter Tryz.func46, Tryz.ntmps46
  go_wp2_with fail
  (refine ((uq T1) _).mono ?_; rintro e w2 ⟨rfl, rfl⟩)
  clear k0
  go_wp2_with fail
  (refine ((uq T2) _ (((Keep.refl w).alloc _).alloc _)).mono ?_; rintro e w3 ⟨rfl, hkk⟩; obtain ⟨o1, k1, rfl⟩ := hkk.ext; clear hkk)
  go_wp2_with fail
  exact bodyPost_ret (v := .tuple #[.agg #[.int .i64 0, .string ⟨#[]⟩, .int .i64 0, .int .i64 0], .int .i64 4]) (by simp [results, Tryz.results46, go_sem]) rfl ⟨rfl, by repeat (first | apply keep_ext | apply Keep.alloc | apply Keep.drew | exact Keep.refl _)⟩
set_option maxHeartbeats 2000000 in
theorem read_byte (ad : Addr) (n cap i N : Nat) (c q : Int) (s : ByteArray) (w : World) (hn : n ≤ 70000) (hi : i < n) (hN : i < N) (hNn : N ≤ n) (hnc : n ≤ cap) (q4 : (q == 4) = false) (q5 : (q == 5) = false) (q7 : (q == 7) = false) (hb : ad.block < w.heap.size)
    (HC : Hid (∀ W, Keep w W → W.cell? (ad.add i) = some (.int .u8 c)))
    (T1 : Hid (∀ w, Calls Tryz.prog 59 #[.int .u8 c] w fun e w' => e = .returned (.int .i64 q) ∧ w' = w))
    (T2 : Hid (∀ w', Keep w w' → Calls Tryz.prog 60 #[.slice (some ad) n cap, .int .i64 (i : Int)] w' fun e w'' => e = .returned (.int .i64 (N : Int)) ∧ Keep w' w''))
    (HV : Hid (∀ W, Keep w W → (convert 22 9 (.slice (some (ad.add i)) (N - i) (cap - i))).run Tryz.prog W = .ok (.string s) W)) :
    Calls Tryz.prog 46 #[.slice (some ad) n cap, .int .i64 (i : Int)] w fun e w' => e = .returned (.tuple #[.agg #[.int .i64 0, .string ⟨#[]⟩, .int .i64 0, .int .i64 0], .int .i64 40]) ∧ Keep w w' := by
  have hin : (i : Int) < (n : Int) := by omega
  have hne : ((i : Int) == (n : Int)) = false := by simp; omega
  have k0 := (show ∀ o1 o2, ((w.alloc o1).alloc o2).cell? (ad.add i) = some (.int .u8 c) from fun o1 o2 => (uq HC) _ (((Keep.refl w).alloc _).alloc _))
  have kv := (show ∀ o1 o2 os k, (convert 22 9 (.slice (some (ad.add i)) (N - i) (cap - i))).run Tryz.prog (ext ((w.alloc o1).alloc o2) os k) = .ok (.string s) (ext ((w.alloc o1).alloc o2) os k) from fun o1 o2 os k => (uq HV) _ (keep_ext (((Keep.refl w).alloc _).alloc _) _ _))
  go_enter Tryz.func46, Tryz.ntmps46
  go_wp2_with fail
  (refine ((uq T1) _).mono ?_; rintro e w2 ⟨rfl, rfl⟩)
  clear k0
  go_wp2_with fail
  exact bodyPost_ret (v := .tuple #[.agg #[.int .i64 0, .string ⟨#[]⟩, .int .i64 0, .int .i64 0], .int .i64 40]) (by simp [results, Tryz.results46, go_sem]) rfl ⟨rfl, by repeat (first | apply keep_ext | apply Keep.alloc | apply Keep.drew | exact Keep.refl _)⟩
end Go.Proofs.YtmplckdpddmifaaGreatDoor
namespace Go.Proofs.YtmplckdpddmifaaGreatDoor
open Go.RowKit
attribute [local go_sem ↓] Go.wp_at_zero Go.wp_at_succ
set_option linter.unusedVariables false
set_option linter.unusedSimpArgs false
set_option maxRecDepth 10000
set_option maxHeartbeats 2000000 in
theorem number_core (s : ByteArray) (D V : Nat → Int) (w : World) (hn : s.size ≤ 18) 
    (HD : Hid (∀ k (h : k < s.size), ((s[k]'h).toNat : Int) = D k + 48 ∧ 0 ≤ D k ∧ D k ≤ 9))
    (H0 : Hid (V 0 = 0))
    (HV : Hid (∀ k, k < s.size → V (k + 1) = V k * 10 + D k ∧ 0 ≤ V k ∧ V k ≤ 100000000000000000)) :
    Calls Tryz.prog 61 #[.string s] w fun e w' => e = .returned (.int .i64 (V s.size)) ∧ w' = w := by
  go_enter Tryz.func61, Tryz.ntmps61
  go_wp2_with fail
  go_loop [3, 7] (fun vn vi => ∃ k : Nat, k ≤ s.size ∧ vi = .int .i64 (k : Int) ∧ vn = .int .i64 (V k)) (fun vn vi => s.size - (intOf vi).toNat)
  case atStart => exact ⟨0, Nat.zero_le _, rfl, by rw [uq H0]⟩
  case round =>
    obtain ⟨k, hk, rfl, rfl⟩ := hrel
    by_cases hlt : k < s.size
    · have li : (k : Int) < (s.size : Int) := by omega
      obtain ⟨h1, h2, h3⟩ := (uq HD) k hlt
      obtain ⟨h4, h5, h6⟩ := (uq HV) k hlt
      have H4 := hide h4
      clear h4
      go_wp2_with fail
      exact ⟨⟨k + 1, hlt, by go_num, by rw [uq H4]⟩, by simp [intOf]; omega⟩
    · have e : k = s.size := by omega
      subst e
      go_wp2_with fail
      go_ret
      exact ⟨rfl, rfl⟩
theorem num_snoc (m : List UInt8) (c : UInt8) : num (m ++ [c]) = num m * 10 + ((c.toNat : Int) - 48) := by unfold num; rw [List.foldl_append]; rfl
theorem take_one (l : List UInt8) (k : Nat) (h : k < l.length) : l.take (k + 1) = l.take k ++ [l.getD k 0] := by
  rw [List.take_add_one, List.getElem?_eq_getElem h, List.getD_eq_getElem?_getD, List.getElem?_eq_getElem h]; rfl
theorem num_bd (l : List UInt8) (hd : ∀ c, c ∈ l → kd c.toNat = 5) : ∀ k, k ≤ l.length → 0 ≤ num (l.take k) ∧ num (l.take k) < 10 ^ k
  | 0, _ => by simp [num]
  | k + 1, h => by
    have ih := num_bd l hd k (by omega)
    have hc := (kd_5 _).1 (hd (l.getD k 0) (by rw [List.getD_eq_getElem?_getD, List.getElem?_eq_getElem (by omega)]; exact List.getElem_mem _))
    rw [take_one l k (by omega), num_snoc, Int.pow_succ]
    generalize num (l.take k) = x at *
    generalize (10 : Int) ^ k = y at *
    omega
theorem sv_at (l : List UInt8) (k : Nat) (h : k < (sv l).size) : (sv l)[k]'h = l.getD k 0 := by
  rw [sv_size] at h
  rw [List.getD_eq_getElem?_getD, List.getElem?_eq_getElem h]
  rfl
theorem number_any (l : List UInt8) (hl : l.length ≤ 18) (hd : ∀ c, c ∈ l → kd c.toNat = 5) (w : World) :
    Calls Tryz.prog 61 #[.string (sv l)] w fun e w' => e = .returned (.int .i64 (num l)) ∧ w' = w := by
  have h := number_core (sv l) (fun k => ((l.getD k 0).toNat : Int) - 48) (fun k => num (l.take k)) w (by rw [sv_size]; exact hl) (hide fun k hk => ?_) (hide (by simp [num])) (hide fun k hk => ?_)
  · simp only [sv_size, List.take_length] at h
    exact h
  · rw [sv_at]
    rw [sv_size] at hk
    have hc := (kd_5 _).1 (hd (l.getD k 0) (by rw [List.getD_eq_getElem?_getD, List.getElem?_eq_getElem hk]; exact List.getElem_mem _))
    omega
  · rw [sv_size] at hk
    have hb := num_bd l hd k (by omega)
    have hp : (10 : Int) ^ k ≤ 10 ^ 17 := by exact_mod_cast Nat.pow_le_pow_right (n := 10) (by decide) (show k ≤ 17 by omega)
    exact ⟨by rw [take_one l k hk, num_snoc], hb.1, by omega⟩
end Go.Proofs.YtmplckdpddmifaaGreatDoor
namespace Go.Proofs.YtmplckdpddmifaaGreatDoor
open Go.RowKit
set_option linter.unusedVariables false
set_option linter.unusedSimpArgs false
set_option maxRecDepth 10000
theorem tw_take (P : UInt8 → Bool) (r : List UInt8) : r.take (tw P r) = r.takeWhile P := (List.prefix_iff_eq_take.1 (List.takeWhile_prefix P)).symm
theorem en_take (c : UInt8) (r : List UInt8) : (c :: r).take (en (c :: r)) = c :: r.takeWhile (goes c) := by
  rw [en, Nat.add_comm, List.take_succ_cons, tw_take]
theorem en_all {c : UInt8} {r : List UInt8} {x : UInt8} (h : x ∈ (c :: r).take (en (c :: r))) : x = c ∨ goes c x = true := by
  rw [en_take, List.mem_cons] at h
  rcases h with h | h
  · exact .inl h
  · right
    have := List.all_takeWhile (l := r) (p := goes c)
    rw [List.all_eq_true] at this
    exact this x h
theorem en_digits {c : UInt8} {r : List UInt8} (h5 : kd c.toNat = 5) : ∀ x, x ∈ (c :: r).take (en (c :: r)) → kd x.toNat = 5 := by
  intro x h
  rcases en_all h with rfl | h
  · exact h5
  · unfold goes at h
    rw [on_iff] at h
    omega
/-- a piece of bytes, as a string -/
theorem conv_piece {w : World} {ad : Addr} {l : List UInt8} {i N : Nat} (C : Cy w (some ad) l.length (fun k => ((l.getD k 0).toNat : Int))) (hi : i ≤ N) (hN : N ≤ l.length) {t u : TypeId} (hs : Tryz.prog.underlying t = some (.slice 5)) (hu : Tryz.prog.underlying u = some .string) (c : Nat) :
    (convert t u (.slice (some (ad.add i)) (N - i) c)).run Tryz.prog w = .ok (.string (sv ((l.drop i).take (N - i)))) w := by
  have hl : ((l.drop i).take (N - i)).length = N - i := by rw [List.length_take, List.length_drop]; omega
  have h := run_convert_bytes_back (P := Tryz.prog) w t u 5 (ad.add i) c ((l.drop i).take (N - i)) hs Tryz.underlying5 hu (fun j hj => ?_)
  · rw [hl] at h; exact h
  · rw [hl] at hj
    obtain ⟨ad', e, _, hc⟩ := C (i + j) (by omega)
    injection e with e
    subst e
    rw [Addr.add_add, hc]
    congr 2
    show ((l.getD (i + j) 0).toNat : Int) = _
    rw [List.getD_eq_getElem?_getD, List.getElem?_eq_getElem (by omega)]
    simp
def rt : Except Int Tok → Tok
  | .ok t => t
  | .error _ => t0
def re : Except Int Tok → Int
  | .ok _ => 0
  | .error e => e
theorem read_any (v : Value) (l : List UInt8) (i : Nat) (w : World) (hl : l.length ≤ 70000) (hi : i ≤ l.length) (h : By w v l) :
    Calls Tryz.prog 46 #[v, .int .i64 (i : Int)] w fun e w' => e = .returned (.tuple #[tv (rt (one (l.drop i) i)), .int .i64 (re (one (l.drop i) i))]) ∧ Keep w w' := by
  by_cases hlt : i < l.length
  · obtain ⟨a, cap, e, hcap, hc⟩ := id h
    subst e
    obtain ⟨ad, rfl, hb, ci⟩ := hc i hlt
    have hd := drop_at l i hlt
    have h2 := en_le (l.drop i)
    have h1 : 1 ≤ en (l.drop i) := by rw [hd]; exact en_pos _ _
    rw [List.length_drop] at h2
    have HC : Hid (∀ W, Keep w W → W.cell? (ad.add i) = some (.int .u8 ((l.getD i 0).toNat : Int))) := fun W hk => by
      rw [Below.cell hk (by rw [add_block]; exact hb)]; exact ci
    have T2 := hide fun w' (hk : Keep w w') => end_any _ l i w' hl hlt (h.keep hk)
    have HV : Hid (∀ W, Keep w W → (convert 22 9 (.slice (some (ad.add i)) (i + en (l.drop i) - i) (cap - i))).run Tryz.prog W = .ok (.string (sv ((l.drop i).take (en (l.drop i))))) W) := fun W hk => by
      have := conv_piece (h.cy.keep hk) (show i ≤ i + en (l.drop i) by omega) (by omega) (t := 22) (u := 9) Tryz.underlying22 Tryz.underlying9 (cap - i)
      rw [Nat.add_sub_cancel_left] at this ⊢
      exact this
    have K := kind_any ((l.getD i 0).toNat : Int)
    have hdig : kd (l.getD i 0).toNat = 5 → ∀ x, x ∈ (l.drop i).take (en (l.drop i)) → kd x.toNat = 5 := by rw [hd]; exact en_digits
    have hlen : ((l.drop i).take (en (l.drop i))).length = en (l.drop i) := by rw [List.length_take, List.length_drop]; omega
    have h7e : kd (l.getD i 0).toNat = 7 → en (l.drop i) = 1 := by
      rw [hd]
      intro h7
      have : tw (goes (l.getD i 0)) (l.drop (i + 1)) = 0 := tw_none fun x => by unfold goes; rw [h7]; unfold on; simp
      show 1 + tw (goes (l.getD i 0)) (l.drop (i + 1)) = 1
      rw [this]
    have e1 : one (l.drop i) i = (if kd (l.getD i 0).toNat = 4 then (if 24 < en (l.drop i) then .error 4 else .ok ⟨1, (l.drop i).take (en (l.drop i)), 0, i⟩)
      else if kd (l.getD i 0).toNat = 5 then (if 18 < en (l.drop i) then .error 4 else .ok ⟨2, (l.drop i).take (en (l.drop i)), num ((l.drop i).take (en (l.drop i))), i⟩)
      else if kd (l.getD i 0).toNat = 7 then .ok ⟨3, (l.drop i).take (en (l.drop i)), 0, i⟩
      else .error 40) := by
      conv => lhs; rw [hd]
      simp only [one]
      rw [← hd]
    rw [e1]
    by_cases k4 : kd (l.getD i 0).toNat = 4
    · rw [if_pos k4]
      rw [k4] at K
      by_cases hm : 24 < en (l.drop i)
      · rw [if_pos hm]
        exact read_wlong ad l.length cap i (i + en (l.drop i)) _ _ w hl hlt (by omega) (by omega) hcap (by omega) hb HC (hide K) T2 HV
      · rw [if_neg hm]
        exact read_word ad l.length cap i (i + en (l.drop i)) _ _ w hl hlt (by omega) (by omega) hcap (by omega) hb HC (hide K) T2 HV
    · rw [if_neg k4]
      by_cases k5 : kd (l.getD i 0).toNat = 5
      · rw [if_pos k5]
        rw [k5] at K
        by_cases hm : 18 < en (l.drop i)
        · rw [if_pos hm]
          exact read_nlong ad l.length cap i (i + en (l.drop i)) _ _ w hl hlt (by omega) (by omega) hcap (by omega) hb HC (hide K) T2 HV
        · rw [if_neg hm]
          exact read_num ad l.length cap i (i + en (l.drop i)) _ _ _ w hl hlt (by omega) (by omega) hcap (by omega) hb HC (hide K) T2 HV (hide (number_any ((l.drop i).take (en (l.drop i))) (by rw [hlen]; omega) (hdig k5)))
      · rw [if_neg k5]
        by_cases k7 : kd (l.getD i 0).toNat = 7
        · rw [if_pos k7]
          rw [k7] at K
          have := h7e k7
          exact read_sign ad l.length cap i (i + en (l.drop i)) _ _ w hl hlt (by omega) (by omega) hcap (by omega) hb HC (hide K) T2 HV
        · rw [if_neg k7]
          exact read_byte ad l.length cap i (i + en (l.drop i)) _ _ _ w hl hlt (by omega) (by omega) hcap (by simpa using k4) (by simpa using k5) (by simpa using k7) hb HC (hide K) T2 HV
  · have e : i = l.length := by omega
    subst e
    obtain ⟨a, cap, rfl⟩ := h.shape
    have := read_end a l.length cap w hl
    rw [List.drop_length]
    exact this
end Go.Proofs.YtmplckdpddmifaaGreatDoor
