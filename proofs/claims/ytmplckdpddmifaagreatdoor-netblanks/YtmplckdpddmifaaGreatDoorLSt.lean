/- Texts and bytes: one made of the other. -/
import Derived.Test.YtmplckdpddmifaaGreatDoorLToks
import Derived.Test.YtmplckdpddmifaaGreatDoorLRd
import Derived.Deep.RegionHeld
namespace Go.Proofs.YtmplckdpddmifaaGreatDoor
open Go.RowKit
set_option linter.unusedVariables false
set_option linter.unusedSimpArgs false
set_option maxRecDepth 10000
/-- bytes of a text -/
theorem str_by (w : World) (s : ByteArray) : ∃ cap o k, (∀ src dst, Tryz.prog.underlying src = some .string → Tryz.prog.underlying dst = some (.slice 5) → (convert src dst (.string s)).run Tryz.prog w = .ok (.slice (some ⟨w.heap.size, 0, none⟩) s.size cap) (ext w #[o] k)) ∧ By (ext w #[o] k) (.slice (some ⟨w.heap.size, 0, none⟩) s.size cap) s.data.toList := by
  refine ⟨grownCap w s.size 0 5, .cells (bytesRow s (grownCap w s.size 0 5)) 5 ((bytesRow s (grownCap w s.size 0 5)).size, (bytesRow s (grownCap w s.size 0 5)).size + 1), w.drew.drawn, fun src dst hs hd => ?_, ?_⟩
  · rw [run_bytes_of_string (P := Tryz.prog) w src dst 5 s hs hd Tryz.underlying5]
    congr 1
  · refine ⟨_, _, rfl, grownCap_ge _ _ _ _, fun k hk => ⟨_, rfl, by simp, ?_⟩⟩
    rw [add_plain, Nat.zero_add]
    have hk' : k < s.data.size := by simpa using hk
    have h1 : (ext w #[Obj.cells (bytesRow s (grownCap w s.size 0 5)) 5 ((bytesRow s (grownCap w s.size 0 5)).size, (bytesRow s (grownCap w s.size 0 5)).size + 1)] w.drew.drawn).cell? ⟨w.heap.size, k, none⟩ = (bytesRow s (grownCap w s.size 0 5))[k]? := by
      unfold World.cell? ext
      simp
    rw [h1, bytesRow_at s _ k hk']
    congr 3
    rw [List.getD_eq_getElem?_getD, List.getElem?_eq_getElem (by simpa using hk')]
    simp
/-- the text of bytes -/
theorem by_str {w : World} {v : Value} {l : List UInt8} (h : By w v l) {t u : TypeId} (hs : Tryz.prog.underlying t = some (.slice 5)) (hu : Tryz.prog.underlying u = some .string) : (convert t u v).run Tryz.prog w = .ok (.string (sv l)) w := by
  obtain ⟨a, cap, rfl, _, h⟩ := h
  cases a with
  | none =>
    have : l = [] := by
      cases l with
      | nil => rfl
      | cons c r => obtain ⟨ad, e, _⟩ := h 0 (by simp); cases e
    subst this
    exact run_convert_bytes_nil w t 5 hs Tryz.underlying5 _ _ u hu
  | some ad =>
    refine run_convert_bytes_back (P := Tryz.prog) w t u 5 ad cap l hs Tryz.underlying5 hu (fun j hj => ?_)
    obtain ⟨ad', e, _, hc⟩ := h j hj
    injection e with e
    subst e
    rw [hc, List.getD_eq_getElem?_getD, List.getElem?_eq_getElem hj]
    rfl
theorem sv_cat (a b : List UInt8) : sv a ++ sv b = sv (a ++ b) := by
  apply ByteArray.ext
  simp [sv]
theorem sv_back (l : List UInt8) : (sv l).data.toList = l := by simp [sv]
end Go.Proofs.YtmplckdpddmifaaGreatDoor
namespace Go.Proofs.YtmplckdpddmifaaGreatDoor
open Go.RowKit
attribute [local go_sem ↓] Go.wp_at_zero Go.wp_at_succ
set_option linter.unusedVariables false
set_option linter.unusedSimpArgs false
set_option maxRecDepth 10000
set_option maxHeartbeats 4000000 in
theorem rtoks_core (a : Option Addr) (n cap : Nat) (X : Except (Int × Nat) (List Tok)) (A : Nat → Nat) (R : Nat → Except Int Tok) (F : Nat → Except (Int × Nat) (List Tok)) (w : World) (hn : n ≤ 65536)
    (T1 : Hid (∀ k, k ≤ n → ∀ w', Keep w w' → Calls Tryz.prog 28 #[.slice a n cap, .int .i64 (k : Int)] w' fun e w'' => e = .returned (.int .i64 (A k : Nat)) ∧ w'' = w'))
    (T2 : Hid (∀ k, k ≤ n → A k < n → ∀ w', Keep w w' → Calls Tryz.prog 29 #[.slice a n cap, .int .i64 (A k : Nat)] w' fun e w'' => e = .returned (.tuple #[tv (rt (R k)), .int .i64 (re (R k))]) ∧ Keep w' w''))
    (HA : Hid (∀ k, k ≤ n → k ≤ A k ∧ A k ≤ n))
    (HR : Hid (∀ k t, k ≤ n → R k = .ok t → A k < n → t.k ≠ 0 ∧ 1 ≤ t.s.length ∧ A k + t.s.length ≤ n))
    (HE : Hid (∀ k e, k ≤ n → R k = .error e → e ≠ 0 ∧ F k = .error (e, A k)))
    (HF : Hid (∀ k t, k ≤ n → R k = .ok t → A k < n → F k = pre [t] (F (A k + t.s.length))))
    (HZ : Hid (∀ k, k ≤ n → A k = n → F k = .ok [⟨0, [], 0, n⟩]))
    (H0 : Hid (F 0 = X)) :
    Calls Tryz.prog 9 #[.slice a n cap] w (Tp X w) := by
  obtain ⟨i0, hi, hz0, hz1, hz2⟩ := info_parts infoT
  have hn' : ¬ (65536 : Int) < (n : Int) := by omega
  have T10 := hide ((unhide T1) 0 (Nat.zero_le _) w (Keep.refl w))
  go_enter Tryz.func9, Tryz.ntmps9
  go_wp2_with fail
  (refine (unhide T10).mono ?_; rintro e w ⟨rfl, rfl⟩)
  go_wp2_with fail
  go_loopw [5, 6] (fun vl vi wr => ∃ (k : Nat) (acc : List Tok), k ≤ n ∧ acc.length ≤ k ∧ vi = .int .i64 (A k : Nat) ∧ wr.ownsRow w.heap.size 65 4 vl acc.length (tc acc) ∧ Hid (pre acc (F k) = X) ∧ Hid (Keep w wr)) (fun vl vi _ => n - (intOf vi).toNat)
  case atStart => exact ⟨0, [], Nat.zero_le _, Nat.le_refl _, rfl, World.ownsRow_nil _ _ _ _, by unfold Hid; rw [pre_nil]; exact unhide H0, hide (Keep.refl w)⟩
  case round =>
    obtain ⟨k, acc, hk, hak, rfl, hrow, HX, HK⟩ := hrel
    have HROW := hide hrow
    clear hrow
    obtain ⟨ha1, ha2⟩ := (unhide HA) k hk
    have hl9 : acc.length ≤ 70000 := by omega
    have hsz0 := Below.size (unhide HK)
    by_cases hlt : A k < n
    · have li : ((A k : Nat) : Int) < (n : Int) := by omega
      go_wp2_with fail
      (refine ((unhide T2) k hk hlt _ (unhide HK)).mono ?_; rintro e w3 ⟨rfl, hk3⟩)
      have HK3 := hide ((unhide HK).trans hk3)
      have HROW3 := hide (own_keep (unhide HROW) hk3)
      clear hk3 HK HROW
      have hsz := Below.size (unhide HK3)
      cases hr : R k with
      | error e =>
        obtain ⟨he, hf⟩ := (unhide HE) k e hk hr
        have HR1 : Hid (X = .error (e, A k)) := by have := unhide HX; rw [hf] at this; exact this.symm
        have hb0 : (e != 0) = true := by simp [he]
        simp only [rt, re, tv, t0]
        clear hf hr he
        go_wp2_with fail
        go_ret3
        rw [unhide HR1]
        exact ⟨_, rfl, ts_nil _, lo_nil _, (unhide HK3).alloc _⟩
      | ok t =>
        have hf := (unhide HF) k t hk hr hlt
        have hb := (unhide HR) k t hk hr hlt
        obtain ⟨kk, ss, nn, pp⟩ := t
        simp only [rt, re, tv] at hf hb ⊢
        have HR1 : Hid (pre (acc ++ [⟨kk, ss, nn, pp⟩]) (F (A k + ss.length)) = X) := by have := unhide HX; rw [hf, pre_pre] at this; exact this
        have hS := sv_size ss
        have HTC : Hid (tc (acc ++ [⟨kk, ss, nn, pp⟩]) = tc acc ++ [.int .i64 kk, .string (sv ss), .int .i64 nn, .int .i64 pp]) := tc_append _ _
        generalize sv ss = S at *
        clear hf hr HX
        have hb' := hb.2
        clear hb
        have hsz2 : S.size ≤ 70000 := by omega
        have hA3 := (unhide HA) (A k + ss.length) hb'.2
        have T1k := hide ((unhide T1) (A k + ss.length) hb'.2)
        have hcast : ((A k + ss.length : Nat) : Int) = (A k : Int) + (ss.length : Int) := by omega
        rw [hcast] at T1k
        clear hcast
        go_wp2_with (first
          | (at_builtin; refine wpList_append_own _ rfl _ _ 35 rfl w.heap.size 65 i0 _ 4 40 Tryz.underlying35 hi hz0 hz1 hz2 rfl (by decide) _ _ _ rfl (((unhide HROW3).alloc _).alloc _) ⟨w3.heap.size + 1, 0, none⟩ 1 1 [.int .i64 kk, .string S, .int .i64 nn, .int .i64 pp] rfl rfl (four_new1 w3 _ _ _ _ _ _) (by simp [Value.oneCell']) (by unfold maxLen; omega) (by omega) (by simp; omega) ?_; intro v' w4 hown' hgrow hnil; obtain ⟨g', cp', rfl⟩ := own_succ hown'; have HOWN := hide hown'; have HGROW := hide hgrow; have HK4 := hide (Below.grown (((unhide HK3).alloc _).alloc _) hgrow (by simp; omega) (fun j ej => ((unhide HROW3).lt j ej).1)); have c1 := cell_after rfl hgrow (fun j ej => ((unhide HROW3).lt j ej).2) 1 (.string S) rfl; clear hown' hgrow hnil)
          | (go_at_call 28; refine ((unhide T1k) _ (unhide HK4)).mono ?_; rintro e w5 ⟨rfl, rfl⟩))
        go_roundw
        case rel =>
          refine ⟨A k + ss.length, acc ++ [⟨kk, ss, nn, pp⟩], hb'.2, by rw [List.length_append]; simp; omega, rfl, ?_, HR1, HK4⟩
          rw [unhide HTC, List.length_append]
          exact unhide HOWN
        case measure => simp [intOf]; omega
    · have hAn : A k = n := by omega
      have HR1 : Hid (X = .ok (acc ++ [⟨0, [], 0, n⟩])) := by have := unhide HX; rw [(unhide HZ) k hk hAn] at this; exact this.symm
      have HTC : Hid (tc (acc ++ [⟨0, [], 0, n⟩]) = tc acc ++ [.int .i64 0, .string ⟨#[]⟩, .int .i64 0, .int .i64 (n : Int)]) := tc_append _ _
      rw [hAn]
      clear hAn HX
      have hrow2 := unhide HROW
      go_wp2_with (at_builtin; refine wpList_append_own _ rfl _ _ 35 rfl w.heap.size 65 i0 _ 4 40 Tryz.underlying35 hi hz0 hz1 hz2 rfl (by decide) _ _ _ rfl ((unhide HROW).alloc _) ⟨wr.heap.size, 0, none⟩ 1 1 [.int .i64 0, .string ⟨#[]⟩, .int .i64 0, .int .i64 (n : Int)] rfl rfl (four_new wr _ _ _ _ _) (by simp [Value.oneCell']) (by unfold maxLen; omega) (by omega) (by simp; omega) ?_; intro v' w4 hown' hgrow hnil; obtain ⟨g', cp', rfl⟩ := own_succ hown'; have HOWN := hide hown'; have HK4 := hide (Below.grown ((unhide HK).alloc _) hgrow (by simp; omega) (fun j ej => ((unhide HROW).lt j ej).1)); clear hown' hgrow hnil)
      go_ret3
      rw [unhide HR1]
      refine ⟨_, rfl, ts_own (base := w.heap.size) (e := 65) ?_, own_lo (unhide HOWN), unhide HK4⟩
      show w4.ownsRow _ _ _ _ (acc ++ [_]).length (tc (acc ++ [_]))
      rw [unhide HTC, List.length_append]
      exact unhide HOWN
theorem tk_at (l : List UInt8) (k : Nat) : tk (l.drop k) k = match one (l.drop (sk false l k)) (sk false l k) with
    | .error e => Except.error (e, sk false l k)
    | .ok t => if t.k = 0 then .ok [t] else pre [t] (tk (l.drop (sk false l k + t.s.length)) (sk false l k + t.s.length)) := by
  rw [tk_eq]
  have e1 : (l.drop k).drop (skp false (l.drop k)) = l.drop (sk false l k) := by rw [List.drop_drop]; rfl
  rw [e1]
  simp only [List.drop_drop]
  rfl
theorem rtoks_any (v : Value) (l : List UInt8) (w : World) (hl : l.length ≤ 70000) (h : By w v l) : Calls Tryz.prog 9 #[v] w (Tp (T l) w) := by
  obtain ⟨a, cap, rfl⟩ := h.shape
  unfold T
  by_cases hlong : 65536 < l.length
  · rw [if_pos hlong]
    refine (rtoks_long a l.length cap w hlong).mono ?_
    rintro e w' ⟨rfl, rfl⟩
    exact ⟨_, rfl, ts_nil _, lo_nil _, Keep.refl _⟩
  · rw [if_neg hlong]
    refine rtoks_core a l.length cap (tk l 0) (sk false l) (fun k => one (l.drop (sk false l k)) (sk false l k)) (fun k => tk (l.drop k) k) w (by omega) (hide fun k hk w' hK => skip_any _ l k w' hl hk (h.keep hK)) (hide fun k hk hA w' hK => one_any _ l _ w' hl hA (h.keep hK))
      (hide fun k hk => ⟨sk_ge _ _ _, sk_le _ _ _ hk⟩) (hide fun k t hk ht hA => ?_) (hide fun k e hk he => ?_) (hide fun k t hk ht hA => ?_) (hide fun k hk hA => ?_) (hide (by rw [List.drop_zero]))
    · rcases (one_ok ht).2 with ⟨h1, _⟩ | ⟨h0, _, _, h1, h2, _⟩
      · have := congrArg List.length h1
        simp only [List.length_drop, List.length_nil] at this
        omega
      · have := en_le (l.drop (sk false l k))
        simp only [List.length_drop] at *
        exact ⟨h0, by omega, by omega⟩
    · refine ⟨?_, ?_⟩
      · intro e0
        subst e0
        cases hr : l.drop (sk false l k) with
        | nil => rw [hr] at he; simp [one] at he
        | cons c r => rw [hr] at he; simp only [one] at he; (repeat' split at he) <;> simp at he
      · show tk (l.drop k) k = _
        rw [tk_at, he]
    · show tk (l.drop k) k = _
      rw [tk_at, ht]
      rcases (one_ok ht).2 with ⟨h1, _⟩ | ⟨h0, _⟩
      · have := congrArg List.length h1
        simp only [List.length_drop, List.length_nil] at this
        omega
      · simp only [if_neg h0]
    · show tk (l.drop k) k = _
      rw [tk_at, hA, List.drop_length]
      rfl
end Go.Proofs.YtmplckdpddmifaaGreatDoor
