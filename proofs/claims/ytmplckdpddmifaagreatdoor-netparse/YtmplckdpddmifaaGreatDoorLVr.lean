/- All tokens: the document. -/
import Derived.Test.YtmplckdpddmifaaGreatDoorLToks
import Derived.Test.YtmplckdpddmifaaGreatDoorLRes
namespace Go.Proofs.YtmplckdpddmifaaGreatDoor
open Go.RowKit
attribute [local go_sem ↓] Go.wp_at_zero Go.wp_at_succ
set_option linter.unusedVariables false
set_option linter.unusedSimpArgs false
set_option maxRecDepth 10000
set_option maxHeartbeats 4000000 in
theorem rtoks_core (a : Option Addr) (n cap : Nat) (X : Except (Int × Nat) (List Tok)) (A : Nat → Nat) (R : Nat → Except Int Tok) (F : Nat → Except (Int × Nat) (List Tok)) (w : World) (hn : n ≤ 65536)
    (T1 : Hid (∀ k, k ≤ n → ∀ w', Keep w w' → Calls Tryz.prog 28 #[.slice a n cap, .int .i64 (k : Int)] w' fun e w'' => e = .returned (.int .i64 (A k : Nat)) ∧ w'' = w'))
    (T2 : Hid (∀ k, k ≤ n → A k < n → ∀ w', Keep w w' → Calls Tryz.prog 29 #[.slice a n cap, .int .i64 (A k : Nat)] w' fun e w'' => e = .returned (.tuple #[tv (rt (R k)), .int .i64 (re (R k))]) ∧ Keep w' w''))
    (HA : Hid (∀ k, k ≤ n → k ≤ A k ∧ A k ≤ n))
    (HR : Hid (∀ k t, k ≤ n → R k = .ok t → A k < n → t.k ≠ 0 ∧ 1 ≤ t.s.length ∧ A k + t.s.length ≤ n))
    (HE : Hid (∀ k e, k ≤ n → R k = .error e → e ≠ 0 ∧ F k = .error (e, A k)))
    (HF : Hid (∀ k t, k ≤ n → R k = .ok t → A k < n → F k = pre [t] (F (A k + t.s.length))))
    (HZ : Hid (∀ k, k ≤ n → A k = n → F k = .ok [⟨0, [], 0, n⟩]))
    (H0 : Hid (F 0 = X)) :
    Calls Tryz.prog 9 #[.slice a n cap] w (Tp X w) := by
  obtain ⟨i0, hi, hz0, hz1, hz2⟩ := info_parts infoT
  have hn' : ¬ (65536 : Int) < (n : Int) := by omega
  have T10 := hide ((uq T1) 0 (Nat.zero_le _) w (Keep.refl w))
  go_enter Tryz.func9, Tryz.ntmps9
  go_wp2_with fail
  (refine (uq T10).mono ?_; rintro e w ⟨rfl, rfl⟩)
  go_wp2_with fail
  go_loopw [5, 6] (fun vl vi wr => ∃ (k : Nat) (acc : List Tok), k ≤ n ∧ acc.length ≤ k ∧ vi = .int .i64 (A k : Nat) ∧ wr.ownsRow w.heap.size 65 4 vl acc.length (tc acc) ∧ Hid (pre acc (F k) = X) ∧ Hid (Keep w wr)) (fun vl vi _ => n - (intOf vi).toNat)
  case atStart => exact ⟨0, [], Nat.zero_le _, Nat.le_refl _, rfl, World.ownsRow_nil _ _ _ _, by unfold Hid; rw [pre_nil]; exact uq H0, hide (Keep.refl w)⟩
  case round =>
    obtain ⟨k, acc, hk, hak, rfl, hrow, HX, HK⟩ := hrel
    have HROW := hide hrow
    clear hrow
    obtain ⟨ha1, ha2⟩ := (uq HA) k hk
    have hl9 : acc.length ≤ 70000 := by omega
    have hsz0 := Below.size (uq HK)
    by_cases hlt : A k < n
    · have li : ((A k : Nat) : Int) < (n : Int) := by omega
      go_wp2_with fail
      (refine ((uq T2) k hk hlt _ (uq HK)).mono ?_; rintro e w3 ⟨rfl, hk3⟩)
      have HK3 := hide ((uq HK).trans hk3)
      have HROW3 := hide (own_keep (uq HROW) hk3)
      clear hk3 HK HROW
      have hsz := Below.size (uq HK3)
      cases hr : R k with
      | error e =>
        obtain ⟨he, hf⟩ := (uq HE) k e hk hr
        have HR1 : Hid (X = .error (e, A k)) := by have := uq HX; rw [hf] at this; exact this.symm
        have hb0 : (e != 0) = true := by simp [he]
        simp only [rt, re, tv, t0]
        clear hf hr he
        go_wp2_with fail
        go_ret3
        rw [uq HR1]
        exact ⟨_, rfl, ts_nil _, lo_nil _, (uq HK3).alloc _⟩
      | ok t =>
        have hf := (uq HF) k t hk hr hlt
        have hb := (uq HR) k t hk hr hlt
        obtain ⟨kk, ss, nn, pp⟩ := t
        simp only [rt, re, tv] at hf hb ⊢
        have HR1 : Hid (pre (acc ++ [⟨kk, ss, nn, pp⟩]) (F (A k + ss.length)) = X) := by have := uq HX; rw [hf, pre_pre] at this; exact this
        have hS := sv_size ss
        have HTC : Hid (tc (acc ++ [⟨kk, ss, nn, pp⟩]) = tc acc ++ [.int .i64 kk, .string (sv ss), .int .i64 nn, .int .i64 pp]) := tc_append _ _
        generalize sv ss = S at *
        clear hf hr HX
        have hb' := hb.2
        clear hb
        have hsz2 : S.size ≤ 70000 := by omega
        have hA3 := (uq HA) (A k + ss.length) hb'.2
        have T1k := hide ((uq T1) (A k + ss.length) hb'.2)
        have hcast : ((A k + ss.length : Nat) : Int) = (A k : Int) + (ss.length : Int) := by omega
        rw [hcast] at T1k
        clear hcast
        go_wp2_with (first
          | (at_builtin; refine wpList_append_own _ rfl _ _ 35 rfl w.heap.size 65 i0 _ 4 40 Tryz.underlying35 hi hz0 hz1 hz2 rfl (by decide) _ _ _ rfl (((uq HROW3).alloc _).alloc _) ⟨w3.heap.size + 1, 0, none⟩ 1 1 [.int .i64 kk, .string S, .int .i64 nn, .int .i64 pp] rfl rfl (four_new1 w3 _ _ _ _ _ _) (by simp [Value.oneCell']) (by unfold maxLen; omega) (by omega) (by simp; omega) ?_; intro v' w4 hown' hgrow hnil; obtain ⟨g', cp', rfl⟩ := own_succ hown'; have HOWN := hide hown'; have HGROW := hide hgrow; have HK4 := hide (Below.grown (((uq HK3).alloc _).alloc _) hgrow (by simp; omega) (fun j ej => ((uq HROW3).lt j ej).1)); have c1 := cell_after rfl hgrow (fun j ej => ((uq HROW3).lt j ej).2) 1 (.string S) rfl; clear hown' hgrow hnil)
          | (go_at_call 28; refine ((uq T1k) _ (uq HK4)).mono ?_; rintro e w5 ⟨rfl, rfl⟩))
        go_roundw
        case rel =>
          refine ⟨A k + ss.length, acc ++ [⟨kk, ss, nn, pp⟩], hb'.2, by rw [List.length_append]; simp; omega, rfl, ?_, HR1, HK4⟩
          rw [uq HTC, List.length_append]
          exact uq HOWN
        case measure => simp [intOf]; omega
    · have hAn : A k = n := by omega
      have HR1 : Hid (X = .ok (acc ++ [⟨0, [], 0, n⟩])) := by have := uq HX; rw [(uq HZ) k hk hAn] at this; exact this.symm
      have HTC : Hid (tc (acc ++ [⟨0, [], 0, n⟩]) = tc acc ++ [.int .i64 0, .string ⟨#[]⟩, .int .i64 0, .int .i64 (n : Int)]) := tc_append _ _
      rw [hAn]
      clear hAn HX
      have hrow2 := uq HROW
      go_wp2_with (at_builtin; refine wpList_append_own _ rfl _ _ 35 rfl w.heap.size 65 i0 _ 4 40 Tryz.underlying35 hi hz0 hz1 hz2 rfl (by decide) _ _ _ rfl ((uq HROW).alloc _) ⟨wr.heap.size, 0, none⟩ 1 1 [.int .i64 0, .string ⟨#[]⟩, .int .i64 0, .int .i64 (n : Int)] rfl rfl (four_new wr _ _ _ _ _) (by simp [Value.oneCell']) (by unfold maxLen; omega) (by omega) (by simp; omega) ?_; intro v' w4 hown' hgrow hnil; obtain ⟨g', cp', rfl⟩ := own_succ hown'; have HOWN := hide hown'; have HK4 := hide (Below.grown ((uq HK).alloc _) hgrow (by simp; omega) (fun j ej => ((uq HROW).lt j ej).1)); clear hown' hgrow hnil)
      go_ret3
      rw [uq HR1]
      refine ⟨_, rfl, ts_own (base := w.heap.size) (e := 65) ?_, own_lo (uq HOWN), uq HK4⟩
      show w4.ownsRow _ _ _ _ (acc ++ [_]).length (tc (acc ++ [_]))
      rw [uq HTC, List.length_append]
      exact uq HOWN
theorem tk_at (l : List UInt8) (k : Nat) : tk (l.drop k) k = match one (l.drop (sk false l k)) (sk false l k) with
    | .error e => Except.error (e, sk false l k)
    | .ok t => if t.k = 0 then .ok [t] else pre [t] (tk (l.drop (sk false l k + t.s.length)) (sk false l k + t.s.length)) := by
  rw [tk_eq]
  have e1 : (l.drop k).drop (skp false (l.drop k)) = l.drop (sk false l k) := by rw [List.drop_drop]; rfl
  rw [e1]
  simp only [List.drop_drop]
  rfl
theorem rtoks_any (v : Value) (l : List UInt8) (w : World) (hl : l.length ≤ 70000) (h : By w v l) : Calls Tryz.prog 9 #[v] w (Tp (T l) w) := by
  obtain ⟨a, cap, rfl⟩ := h.shape
  unfold T
  by_cases hlong : 65536 < l.length
  · rw [if_pos hlong]
    refine (rtoks_long a l.length cap w hlong).mono ?_
    rintro e w' ⟨rfl, rfl⟩
    exact ⟨_, rfl, ts_nil _, lo_nil _, Keep.refl _⟩
  · rw [if_neg hlong]
    refine rtoks_core a l.length cap (tk l 0) (sk false l) (fun k => one (l.drop (sk false l k)) (sk false l k)) (fun k => tk (l.drop k) k) w (by omega) (hide fun k hk w' hK => skip_any _ l k w' hl hk (h.keep hK)) (hide fun k hk hA w' hK => one_any _ l _ w' hl hA (h.keep hK))
      (hide fun k hk => ⟨sk_ge _ _ _, sk_le _ _ _ hk⟩) (hide fun k t hk ht hA => ?_) (hide fun k e hk he => ?_) (hide fun k t hk ht hA => ?_) (hide fun k hk hA => ?_) (hide (by rw [List.drop_zero]))
    · rcases (one_ok ht).2 with ⟨h1, _⟩ | ⟨h0, _, _, h1, h2, _⟩
      · have := congrArg List.length h1
        simp only [List.length_drop, List.length_nil] at this
        omega
      · have := en_le (l.drop (sk false l k))
        simp only [List.length_drop] at *
        exact ⟨h0, by omega, by omega⟩
    · refine ⟨?_, ?_⟩
      · intro e0
        subst e0
        cases hr : l.drop (sk false l k) with
        | nil => rw [hr] at he; simp [one] at he
        | cons c r => rw [hr] at he; simp only [one] at he; (repeat' split at he) <;> simp at he
      · show tk (l.drop k) k = _
        rw [tk_at, he]
    · show tk (l.drop k) k = _
      rw [tk_at, ht]
      rcases (one_ok ht).2 with ⟨h1, _⟩ | ⟨h0, _⟩
      · have := congrArg List.length h1
        simp only [List.length_drop, List.length_nil] at this
        omega
      · simp only [if_neg h0]
    · show tk (l.drop k) k = _
      rw [tk_at, hA, List.drop_length]
      rfl
end Go.Proofs.YtmplckdpddmifaaGreatDoor
namespace Go.Proofs.YtmplckdpddmifaaGreatDoor
open Go.RowKit
attribute [local go_sem ↓] Go.wp_at_zero Go.wp_at_succ
set_option linter.unusedVariables false
set_option linter.unusedSimpArgs false
set_option maxRecDepth 10000
set_option maxHeartbeats 4000000 in
theorem words_any (w : World) : Calls Tryz.prog 87 #[] w fun e w' => e = .returned (.slice (some ⟨w.heap.size, 0, none⟩) 42 42) ∧ w' = w.alloc (.cells ((words.map fun x => Value.string (sv x)).toArray) 9) := by
  go_enter Tryz.func87, Tryz.ntmps87
  go_wp2_with fail
  go_ret
  exact ⟨rfl, rfl⟩
set_option maxHeartbeats 4000000 in
theorem in_core (s : ByteArray) (ad : Addr) (n cap : Nat) (X : Nat → ByteArray) (B : Nat → Bool) (r : Bool) (w : World) (hn : n ≤ 100000)
    (HC : Hid (∀ k, k < n → w.cell? (ad.add k) = some (.string (X k))))
    (HB : Hid (∀ k, k < n → ((X k).toList == s.toList) = B k))
    (H1 : Hid (∀ k, k < n → B k = true → r = true))
    (H2 : Hid ((∀ k, k < n → B k = false) → r = false)) :
    Calls Tryz.prog 86 #[.string s, .slice (some ad) n cap] w fun e w' => e = .returned (.bool r) ∧ w' = w := by
  go_enter Tryz.func86, Tryz.ntmps86
  go_wp2_with fail
  go_loop [5] (fun vi => ∃ k : Nat, k ≤ n ∧ vi = .int .i64 (k : Int) ∧ Hid (∀ j, j < k → B j = false)) (fun vi => n - (intOf vi).toNat)
  case atStart => exact ⟨0, Nat.zero_le _, rfl, hide fun j hj => by omega⟩
  case round =>
    obtain ⟨k, hk, rfl, HN⟩ := hrel
    by_cases hlt : k < n
    · have li : (k : Int) < (n : Int) := by omega
      have ck := (uq HC) k hlt
      have hb := (uq HB) k hlt
      have HQ := hide ((uq H1) k hlt)
      generalize X k = x at *
      obtain ⟨b, hbk⟩ : ∃ b, B k = b := ⟨_, rfl⟩
      rw [hbk] at hb
      have HBK := hide hbk
      clear hbk
      cases b with
      | true =>
        have hr := (uq HQ) (uq HBK)
        subst hr
        go_wp2_with fail
        go_ret
        exact ⟨rfl, rfl⟩
      | false =>
        go_wp2_with fail
        exact ⟨⟨k + 1, hlt, by go_num, hide fun j hj => (Nat.lt_succ_iff_lt_or_eq.1 hj).elim ((uq HN) j) (fun e => e ▸ uq HBK)⟩, by simp [intOf]; omega⟩
    · have hr := (uq H2) (fun j hj => (uq HN) j (by omega))
      subst hr
      go_wp2_with fail
      go_ret
      exact ⟨rfl, rfl⟩
theorem sv_list (l : List UInt8) : (sv l).toList = l := ByteArray.toList_mk l
theorem in_words (s : ByteArray) (g : Nat) (w : World) (HC : ∀ k, k < 42 → w.cell? ⟨g, k, none⟩ = some (.string (sv (words.getD k [])))) :
    Calls Tryz.prog 86 #[.string s, .slice (some ⟨g, 0, none⟩) 42 42] w fun e w' => e = .returned (.bool (decide (s.toList ∈ words))) ∧ w' = w := by
  refine in_core s ⟨g, 0, none⟩ 42 42 (fun k => sv (words.getD k [])) (fun k => words.getD k [] == s.toList) _ w (by decide) (hide fun k hk => ?_) (hide fun k hk => by rw [sv_list]) (hide fun k hk hb => ?_) (hide fun h => ?_)
  · rw [add_plain, Nat.zero_add]; exact HC k hk
  · rw [decide_eq_true_iff, ← eq_of_beq hb, List.getD_eq_getElem?_getD, List.getElem?_eq_getElem (show k < words.length from hk)]
    exact List.getElem_mem _
  · rw [decide_eq_false_iff_not]
    intro hm
    obtain ⟨k, hk, e⟩ := List.getElem_of_mem hm
    have := h k hk
    rw [List.getD_eq_getElem?_getD, List.getElem?_eq_getElem hk, Option.getD_some, e] at this
    simp at this
set_option maxHeartbeats 4000000 in
theorem rres_core (s : ByteArray) (r : Bool) (w : World) (o : Obj)
    (T1 : Hid (∀ w : World, Calls Tryz.prog 87 #[] w fun e w' => e = .returned (.slice (some ⟨w.heap.size, 0, none⟩) 42 42) ∧ w' = w.alloc o))
    (T2 : Hid (∀ w : World, Calls Tryz.prog 86 #[.string s, .slice (some ⟨w.heap.size, 0, none⟩) 42 42] (w.alloc o) fun e w' => e = .returned (.bool r) ∧ w' = w.alloc o)) :
    Calls Tryz.prog 58 #[.string s] w fun e w' => e = .returned (.bool r) ∧ Keep w w' := by
  go_enter Tryz.func58, Tryz.ntmps58
  go_wp2_with fail
  (refine ((uq T1) _).mono ?_; rintro e w2 ⟨rfl, rfl⟩)
  go_wp2_with fail
  (refine ((uq T2) _).mono ?_; rintro e w2 ⟨rfl, rfl⟩)
  go_wp2_with fail
  go_ret
  exact ⟨rfl, (Keep.refl w).alloc _⟩
theorem rres_any (s : ByteArray) (w : World) : Calls Tryz.prog 58 #[.string s] w fun e w' => e = .returned (.bool (decide (s.toList ∈ words))) ∧ Keep w w' := by
  refine rres_core s _ w _ (hide fun w => words_any w) (hide fun w => in_words s w.heap.size _ fun k hk => ?_)
  rw [World.cell?_alloc_mark, List.getElem?_toArray, List.getElem?_map, List.getD_eq_getElem?_getD, List.getElem?_eq_getElem (show k < words.length from hk)]
  rfl
end Go.Proofs.YtmplckdpddmifaaGreatDoor
