/- Tokens spelt: package lex and the document. -/
import Derived.Test.YtpmfgnolojmimaaLToks
import Derived.Test.YtpmfgnolojmimaaShelf
namespace Go.Proofs.Ytpmfgnolojmimaa
open Go.RowKit
attribute [local go_sem ↓] Go.wp_at_zero Go.wp_at_succ
set_option linter.unusedVariables false
set_option linter.unusedSimpArgs false
set_option maxRecDepth 10000
/-- the texts of all tokens but the end -/
def tx (L : List Tok) : List (List UInt8) := (L.filter fun t => decide (t.k ≠ 0)).map Tok.s
/-- tokens spelt -/
def sp (L : List Tok) : List UInt8 := Lib.join (tx L) [32]
theorem infoS : (Try.prog.info? 9).map (fun i => (i.zero, i.size, i.bytes)) = some (some (.string ⟨#[]⟩), 1, 16) := by kernel_rfl
theorem tx_snoc {L : List Tok} {k : Nat} (h : k < L.length) : tx (L.take (k + 1)) = tx (L.take k) ++ (if (L.getD k t0).k = 0 then [] else [(L.getD k t0).s]) := by
  have e : L.take (k + 1) = L.take k ++ [L.getD k t0] := by
    rw [List.take_add_one, List.getElem?_eq_getElem h, List.getD_eq_getElem?_getD, List.getElem?_eq_getElem h]; rfl
  unfold tx
  rw [e, List.filter_append, List.map_append]
  congr 1
  by_cases h0 : (L.getD k t0).k = 0
  · rw [if_pos h0, List.filter_cons, if_neg (by rw [h0]; decide)]; rfl
  · rw [if_neg h0, List.filter_cons, if_pos (by simpa using h0)]; rfl
theorem tx_le (L : List Tok) : (tx L).length ≤ L.length := by unfold tx; rw [List.length_map]; exact List.length_filter_le _ _
theorem one_new1 (w : World) (o : Obj) (a : Value) (t : TypeId) : ∀ j u, [a][j]? = some u → ((w.alloc o).alloc (.cells #[a] t)).cell? ((⟨w.heap.size + 1, 0, none⟩ : Addr).add j) = some u := by
  intro j u hj
  rw [add_plain, Nat.zero_add]
  match j, hj with
  | 0, hj =>
    simp at hj; subst hj
    have h := World.cell?_alloc_mark (w.alloc o) #[a] t (0, 0) 0
    rw [World.size_alloc] at h
    exact h
  | j + 1, hj => simp at hj
set_option maxHeartbeats 4000000 in
theorem spell_core (v0 : Value) (L : List Tok) (w : World) (hl : L.length ≤ 70000) (hR : Ts w v0 L) (R : ByteArray)
    (TJ : Hid (∀ w' v, w'.ownsRow w.heap.size 9 1 v (tx L).length ((tx L).map fun x => Value.string (sv x)) → Keep w w' → Calls Try.prog 26 #[v, .string ⟨#[32]⟩] w' fun e w'' => e = .returned (.string R) ∧ Keep w w'')) :
    Calls Try.prog 18 #[v0] w fun e w' => e = .returned (.string R) ∧ Keep w w' := by
  obtain ⟨i0, hi, hz0, hz1, hz2⟩ := info_parts infoS
  obtain ⟨a, cap, hv, hcap, hcell⟩ := id hR
  subst hv
  have HC := hide hcell
  clear hR hcell
  obtain ⟨Z, hZ, hmk⟩ : ∃ Z : Array Value, Z.size = L.length ∧ ∀ w, (Instr.makeSlice 41 (.int .i64 0) (.int .i64 (L.length : Int))).run Try.prog w = .ok (.slice (some ⟨w.heap.size, 0, none⟩) 0 L.length) (w.alloc (.cells Z 9)) := by
    refine ⟨madeCells (Value.string ⟨#[]⟩).cells (L.length * 1), by simp [size_madeCells], fun w => ?_⟩
    have h := run_make (P := Try.prog) w 41 9 i0 _ Try.underlying41 hi hz0 .i64 .i64 0 (L.length : Int) (by omega) (by omega) (by rw [hz2]; omega) (by omega)
    rw [hz1] at h
    simpa using h
  go_enter Try.func18, Try.ntmps18
  go_wp2_with fail
  have hrow0 := hide (World.ownsRow_made (base := w.heap.size) (e := 9) (size := 1) w Z L.length (Nat.le_refl _) (by unfold maxLen; omega) (by omega))
  go_loopw [3, 11] (fun vs vi wr => ∃ k : Nat, k ≤ L.length ∧ vi = .int .i64 (k : Int) ∧ Hid (wr.ownsRow w.heap.size 9 1 vs (tx (L.take k)).length ((tx (L.take k)).map fun x => Value.string (sv x))) ∧ Hid (Keep w wr)) (fun vs vi _ => L.length - (intOf vi).toNat)
  case atStart => exact ⟨0, Nat.zero_le _, rfl, hrow0, hide ((Keep.refl w).alloc _)⟩
  case round =>
    obtain ⟨k, hk, rfl, HROW, HK⟩ := hrel
    have hsz := Below.size (unhide HK)
    by_cases hlt : k < L.length
    · have li : (k : Int) < (L.length : Int) := by omega
      obtain ⟨ad, rfl, hb, hc⟩ := (unhide HC) k hlt
      obtain ⟨c0, c1, c2, c3⟩ := hc.keep (by rw [add_block]; exact hb) (unhide HK)
      have HS := hide (tx_snoc hlt)
      have htl := hide (tx_le (L.take k))
      generalize L.getD k t0 = t at *
      obtain ⟨kk, ss, nn, pp⟩ := t
      simp only at c0 c1 c2 c3 HS
      by_cases h0 : kk = 0
      · have hb0 : (kk != 0) = false := by simp [h0]
        have HS2 : Hid (tx (L.take (k + 1)) = tx (L.take k)) := by have := unhide HS; rw [if_pos h0, List.append_nil] at this; exact this
        clear h0 HS hc
        go_wp2_with fail
        go_roundw
        case rel => exact ⟨k + 1, hlt, by go_num, by rw [unhide HS2]; exact (unhide HROW).alloc _, hide ((unhide HK).alloc _)⟩
        case measure => simp [intOf]; omega
      · have hb0 : (kk != 0) = true := by simp [h0]
        have HS2 : Hid (tx (L.take (k + 1)) = tx (L.take k) ++ [ss]) := by have := unhide HS; rw [if_neg h0] at this; exact this
        have hl9 : (tx (L.take k)).length ≤ 70000 := by have := unhide htl; rw [List.length_take] at this; omega
        clear h0 HS hc
        generalize hSS : sv ss = S at *
        have HSS := hide hSS
        clear hSS
        go_wp2_with (at_builtin; refine wpList_append_own _ rfl _ _ 41 rfl w.heap.size 9 i0 _ 1 16 Try.underlying41 hi hz0 hz1 hz2 rfl (by decide) _ _ _ rfl (((unhide HROW).alloc _).alloc _) ⟨wr.heap.size + 1, 0, none⟩ 1 1 [.string S] rfl rfl (one_new1 wr _ _ _) (by simp [Value.oneCell']) (by unfold maxLen; omega) (by omega) (by simp; omega) ?_; intro v' w4 hown' hgrow hnil; have HOWN := hide hown'; have HK4 := hide (Below.grown (((unhide HK).alloc _).alloc _) hgrow (by simp; omega) (fun j ej => ((unhide HROW).lt j ej).1)); clear hown' hgrow hnil)
        go_roundw
        case rel =>
          refine ⟨k + 1, hlt, by go_num, ?_, HK4⟩
          rw [unhide HS2, List.length_append, List.map_append]
          have := unhide HOWN
          rw [← unhide HSS] at this
          exact this
        case measure => simp [intOf]; omega
    · have e : k = L.length := by omega
      subst e
      rw [List.take_length] at HROW
      go_wp2_with fail
      (refine ((unhide TJ) _ _ (unhide HROW) (unhide HK)).mono ?_; rintro e w5 ⟨rfl, hk5⟩)
      go_wp2_with fail
      go_ret
      exact ⟨rfl, hk5⟩
theorem spell_any (v0 : Value) (L : List Tok) (w : World) (hl : L.length ≤ 70000) (hs : (sp L).length ≤ 1000000) (hR : Ts w v0 L) :
    Calls Try.prog 18 #[v0] w fun e w' => e = .returned (.string (sv (sp L))) ∧ Keep w w' := by
  refine spell_core v0 L w hl hR _ (hide fun w' v hown hk => ?_)
  have hm : (tx L).map (fun x => (sv x).data.toList) = tx L := by simp [sv]
  have hxs : ((tx L).map sv).map (fun x => x.data.toList) = tx L := by rw [List.map_map]; exact hm
  rcases hown.2 with ⟨rfl, h0⟩ | ⟨g, cap, cur, rfl, hb, hg, hc, hm2, hcs, htk⟩
  · refine (Try.strings_Join_none none 0 ⟨#[32]⟩ w').mono ?_
    rintro e w'' ⟨rfl, rfl⟩
    refine ⟨?_, hk⟩
    unfold sp
    rw [List.eq_nil_of_length_eq_zero h0]
    rfl
  · have h := Try.strings_Join g 0 cap ((tx L).map sv) ⟨#[32]⟩ w' (fun j x hx => ?_) (Array.getElem?_eq_some_iff.1 hg).1 (by rw [List.length_map]; have := tx_le L; omega) (by rw [List.length_map]; exact hc) (by rw [hxs]; exact Nat.le_trans hs (by decide))
    · rw [List.length_map, hxs] at h
      refine h.mono ?_
      rintro e w'' ⟨rfl, hk2⟩
      exact ⟨rfl, hk.trans hk2⟩
    · rw [Nat.zero_add]
      have h1 : ((tx L).map fun x => Value.string (sv x))[j]? = some (.string x) := by
        rw [List.getElem?_map] at hx ⊢
        cases h2 : (tx L)[j]? with
        | none => rw [h2] at hx; cases hx
        | some y => rw [h2] at hx; simp only [Option.map_some, Option.some.injEq] at hx ⊢; rw [hx]
      have hj : j < (tx L).length := by have := (List.getElem?_eq_some_iff.1 hx).1; simpa using this
      rw [← htk, List.getElem?_take_of_lt (by omega)] at h1
      simp only [World.cell?, hg]
      simpa using h1
end Go.Proofs.Ytpmfgnolojmimaa
