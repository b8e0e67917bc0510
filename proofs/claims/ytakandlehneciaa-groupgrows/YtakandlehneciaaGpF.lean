/- Package group: fit. -/
import Derived.Test.YtakandlehneciaaGpI
namespace Go.Proofs.Ytakandlehneciaa
open Go.RowKit
attribute [local go_sem ↓] Go.wp_at_zero Go.wp_at_succ
set_option linter.unusedVariables false
set_option linter.unusedSimpArgs false
set_option maxRecDepth 10000
namespace Gp
open Pa
/-- when the phases of a row begin -/
def stL (M d : List Int) (k : Nat) : List Int := (List.range k).map fun i => d.getD (M.getD i 0).toNat 0
theorem stL_len (M d : List Int) (k : Nat) : (stL M d k).length = k := by simp [stL]
theorem stL_more (M d : List Int) (k : Nat) : stL M d (k + 1) = stL M d k ++ [d.getD (M.getD k 0).toNat 0] := by simp [stL, List.range_succ]
theorem keep_set {a w : World} {q : Nat} (h : Keep a w) (hq : a.heap.size = q) (k : Nat) (v : Value) : Keep a (w.setCell ⟨q, k, none⟩ v) := Below.setCell h (by show a.heap.size ≤ q; omega) v
def STn (MK OO : List (List Int)) (d : List Int) (r : Nat) : List (List Int) := (List.range r).map fun i => stL (MK.getD i []) d (OO.getD i []).length
theorem STn_more (MK OO : List (List Int)) (d : List Int) (r : Nat) : STn MK OO d (r + 1) = STn MK OO d r ++ [stL (MK.getD r []) d (OO.getD r []).length] := by simp [STn, List.range_succ]
theorem infoL : (Try.prog.info? 39).map (fun i => (i.zero, i.size, i.bytes)) = some (some (.slice none 0 0), 1, 24) := by kernel_rfl
abbrev T2 : TypeId := 2
/-- a fit in its box -/
theorem fit_at {w : World} {gb : Nat} {a b c : Value} {t : TypeId} (h : w.heap[gb]? = some (.cells #[a, b, c] t (0, 0))) : w.cell? ⟨gb, 2, none⟩ = some c := by simp [World.cell?, h]
theorem fit_fz {w : World} {gb : Nat} {arr : Array Value} {t : TypeId} (h : w.heap[gb]? = some (.cells arr t (0, 0))) : w.frozen? ⟨gb, 0, none⟩ = false ∧ w.frozen? ⟨gb, 1, none⟩ = false ∧ w.frozen? ⟨gb, 2, none⟩ = false := by simp [World.frozen?, h]
theorem fit_sz {w : World} {gb : Nat} {a b c : Value} {t : TypeId} (h : w.heap[gb]? = some (.cells #[a, b, c] t (0, 0))) : w.cell? ⟨gb, 0, none⟩ = some a ∧ w.cell? ⟨gb, 1, none⟩ = some b ∧ w.cell? ⟨gb, 2, none⟩ = some c := by simp [World.cell?, h]
theorem fit_sto {w : World} {gb : Nat} {a b c : Value} {t : TypeId} (h : w.heap[gb]? = some (.cells #[a, b, c] t (0, 0))) (x y z : Value) : (((w.setCell ⟨gb, 0, none⟩ x).setCell ⟨gb, 1, none⟩ y).setCell ⟨gb, 2, none⟩ z).heap[gb]? = some (.cells #[x, y, z] t (0, 0)) := by
  have h1 : (w.setCell ⟨gb, 0, none⟩ x).heap[gb]? = some (.cells #[x, b, c] t (0, 0)) := by rw [heap_setCell_same w gb 0 _ _ _ h]; rfl
  have h2 : ((w.setCell ⟨gb, 0, none⟩ x).setCell ⟨gb, 1, none⟩ y).heap[gb]? = some (.cells #[x, y, c] t (0, 0)) := by rw [heap_setCell_same _ gb 1 _ _ _ h1]; rfl
  rw [heap_setCell_same _ gb 2 _ _ _ h2]; rfl
structure Fs (B fb : Nat) (w : World) (x : Int) (vo st : Value) (ST : List (List Int)) : Prop where
  box : w.heap[fb]? = some (.cells #[.int .i64 x, vo, st] 30 (0, 0))
  low : B ≤ fb
  rows : Ow B 39 T2 w st ST
variable {B fb : Nat} {w w' : World} {x : Int} {vo st : Value} {ST : List (List Int)}
theorem Fs.keep (h : Fs B fb w x vo st ST) (hk : Keep w w') : Fs B fb w' x vo st ST := ⟨(hk.block fb (Array.getElem?_eq_some_iff.1 h.box).1).trans h.box, h.low, h.rows.keep hk⟩
theorem Fs.cell (h : Fs B fb w x vo st ST) : w.cell? ⟨fb, 0, none⟩ = some (.int .i64 x) ∧ w.cell? ⟨fb, 1, none⟩ = some vo ∧ w.cell? ⟨fb, 2, none⟩ = some st := by simp [World.cell?, h.box]
theorem Fs.app {b0 : World} (h : Fs B fb w x vo st ST) (hk : Keep b0 w) (hb : b0.heap.size = B) {ty : TypeId} {ad : Addr} {c : Nat} {u : Value} {L : List Int} (hc : w.cell? ad = some u) (hu : Iw T2 w u L) (hl : ST.length ≤ 100000) :
    ∃ v' w', (Builtin.append_ #[22, 22] ty #[st, .slice (some ad) 1 c]).run Try.prog w = .ok v' w' ∧ (∃ a c, v' = .slice a (ST.length + 1) c) ∧ w'.heap[fb]? = some (.cells #[.int .i64 x, vo, st] 30 (0, 0)) ∧ Keep b0 (w'.setCell ⟨fb, 2, none⟩ v') ∧ Fs B fb (w'.setCell ⟨fb, 2, none⟩ v') x vo v' (ST ++ [L]) ∧ ∀ i arr, i ≠ fb → w.heap[i]? = some (.cells arr 30 (0, 0)) → (w'.setCell ⟨fb, 2, none⟩ v').heap[i]? = some (.cells arr 30 (0, 0)) := by
  obtain ⟨i0, hi, hz0, hz1, hz2⟩ := info_f infoL
  obtain ⟨US, hus, hown, hrow⟩ := h.rows
  have hone : u.oneCell' = true := by rcases hu with ⟨rfl, _⟩ | ⟨_, _, _, rfl, _⟩ <;> rfl
  obtain ⟨v', w', h1, h2, h3, h4⟩ := run_append_one w B 22 ty 39 i0 _ Try.underlying22 hi hz0 hz1 (by omega) rfl st ST.length US hown ad c u hc hone hl (by rw [← hb]; exact Below.size hk)
  have hkt : Kt (fun e => e = 39) w w' := Kt.grown hown rfl h3
  have hbx := hkt.block _ _ _ h.box (by decide)
  have K1 : Keep b0 w' := Below.grown hk h3 (Below.size hk) (fun j ej => by have := (World.ownsRow.lt hown j ej).1; omega)
  have hs : Kt (fun e => e = 30) w' (w'.setCell ⟨fb, 2, none⟩ v') := Kt.set hbx rfl
  refine ⟨v', w', h1, own_l h2, hbx, Below.setCell K1 (by have := h.low; show b0.heap.size ≤ fb; omega) _, ⟨?_, h.low, (ow_more (by decide) hus hown hrow hu h2 h3).kt hs (by decide) (by decide)⟩, fun i arr hi h9 => by rw [heap_setCell_other _ _ i _ hi]; exact hkt.block _ _ _ h9 (by decide)⟩
  rw [heap_setCell_same w' fb 2 _ _ _ hbx]
  rfl
/-- what fit tells -/
def Fq (MK OO : List (List Int)) (d : List Int) (vo : Value) (w : World) (e : Ending) (w' : World) : Prop := ∃ st, e = .returned (.agg #[.int .i64 (d.getD 1 0), vo, st]) ∧ Keep w w' ∧ Tw 39 T2 w' st (STn MK OO d OO.length)
set_option maxHeartbeats 8000000 in
theorem fit_core (gb : Nat) (n : Int) (vo vd : Value) (PL MK OO : List (List Int)) (PH : List E3) (d : List Int) (w : World) (hG : Gm w gb n vo PL MK PH) (hO : Tw 49 3 w vo OO) (hd : Iw T2 w vd d) (hd2 : 2 ≤ d.length) (hl : OO.length ≤ 2) (hlm : MK.length = OO.length)
    (hr : Hid (∀ i, i < OO.length → (OO.getD i []).length ≤ 4 ∧ (OO.getD i []).length < (MK.getD i []).length ∧ ∀ k, k < (OO.getD i []).length → ∃ p : Nat, (MK.getD i []).getD k 0 = (p : Int) ∧ p < d.length)) :
    Calls Try.prog 39 #[.pointer (some ⟨gb, 0, none⟩), vd] w (Fq MK OO d vo w) := by
  obtain ⟨i0, hi0, hz00, hz01, hz02⟩ := info_f infoL
  have HQ : Hid (∀ w' st, Keep w w' → Tw 39 T2 w' st (STn MK OO d OO.length) → Fq MK OO d vo w (.returned (.agg #[.int .i64 (d.getD 1 0), vo, st])) w') := hide (fun w' st h1 h2 => ⟨st, rfl, h1, h2⟩)
  generalize Fq MK OO d vo w = QQ at HQ ⊢
  have HS := hide (fun r => STn_more MK OO d r)
  have HSL : Hid (∀ r, (STn MK OO d r).length = r) := hide (fun r => by simp [STn])
  obtain ⟨pl, mk, ph, hbx, hpl, hmk, -⟩ := hG
  have HMK := hide hmk
  have HO := hide hO
  have HD := hide hd
  obtain ⟨amk, cmk, rfl, -⟩ := hmk.sl
  obtain ⟨ao, co, rfl, -⟩ := hO.sl
  obtain ⟨ad, cd, rfl⟩ := hd.sl
  obtain ⟨gd, rfl, dc1⟩ := iw_at hd (k := 1) (by omega)
  have BX := hide (box_at hbx)
  have HLMK := hide hlm
  rw [hlm] at HMK BX
  clear hpl hmk hO hd hbx hlm
  obtain ⟨R, hR⟩ : ∃ R, OO.length = R := ⟨_, rfl⟩
  have HRR := hide hR
  rw [hR] at hl hr HQ HMK HO BX HLMK
  obtain ⟨nd, hnd⟩ : ∃ n, d.length = n := ⟨_, rfl⟩
  have HND := hide hnd
  rw [hnd] at hd2 hr HD ⊢
  clear hR hnd
  obtain ⟨x, hx⟩ : ∃ x, d.getD 1 0 = x := ⟨_, rfl⟩
  rw [hx] at dc1 HQ
  clear hx
  obtain ⟨-, g1, -, g3, -⟩ := unhide BX
  have CG : Hid (∀ w', Keep w w' → w'.cell? ⟨gb, 1, none⟩ = some (.slice ao R co) ∧ w'.cell? ⟨gb, 3, none⟩ = some (.slice amk R cmk) ∧ w'.cell? ⟨gd, 1, none⟩ = some (.int .i64 x)) := hide (fun w' hk => ⟨kc hk g1, kc hk g3, kc hk dc1⟩)
  have K1 := hide ((Keep.refl w).alloc (.cells #[.int .i64 0, .slice none 0 0, .slice none 0 0] 30))
  have RB1 := hide (heap_alloc_new w (.cells #[.int .i64 0, .slice none 0 0, .slice none 0 0] 30))
  clear g1 g3 dc1
  have l1 : (1 : Int) < (nd : Int) := by omega
  go_enter Try.func39, Try.ntmps39
  go_upto_region 1 with fail
  generalize w.alloc (.cells #[.int .i64 0, .slice none 0 0, .slice none 0 0] 30) = w1 at K1 RB1 ⊢
  obtain ⟨rb, hrb⟩ : ∃ b, w.heap.size = b := ⟨_, rfl⟩
  have HRB := hide hrb
  rw [hrb] at RB1 ⊢
  clear hrb
  have K2 := hide (((unhide K1).drew).alloc (.cells #[.int .i64 x, .slice ao R co, .slice none 0 0] 30))
  have E2 := hide (((Keep.refl w1).drew).alloc (.cells #[.int .i64 x, .slice ao R co, .slice none 0 0] 30))
  refine wp_region_held_drew (S := (fun w' => w'.cell? ⟨gb, 1, none⟩ = some (.slice ao R co) ∧ w'.cell? ⟨gb, 3, none⟩ = some (.slice amk R cmk) ∧ w'.cell? ⟨gd, 1, none⟩ = some (.int .i64 x))) (by kernel_rfl) (by exact unhide CG _ (unhide K1).drew) (fun hHeld => ?_)
  refine wpAnyH_take (i := 0) (v := ?_) rfl (by kernel_rfl) (by kernel_rfl) (by kernel_rfl) (fun _ _ _ h => h) (Or.inl ⟨by rfl, ?_⟩) hHeld ?_
  rotate_left
  · intro w hSw
    try dsimp only at hSw
    go_simp
    try with_reducible rfl
  show wpAnyH _ _ _ _ _ _ _ (Act.put _ (some 10) _) _
  try simp only [Act.put, List.setIfInBounds_toArray, List.set_cons_zero, List.set_cons_succ]
  refine wpAnyH_take (i := 1) (v := ?_) rfl (by kernel_rfl) (by kernel_rfl) (by kernel_rfl) (fun _ _ _ h => h) (Or.inl ⟨by rfl, ?_⟩) hHeld ?_
  rotate_left
  · intro w hSw
    try dsimp only at hSw
    go_simp
    try with_reducible rfl
  show wpAnyH _ _ _ _ _ _ _ (Act.put _ (some 11) _) _
  try simp only [Act.put, List.setIfInBounds_toArray, List.set_cons_zero, List.set_cons_succ]
  refine wpAnyH_take (i := 2) (v := ?_) rfl (by kernel_rfl) (by kernel_rfl) (by kernel_rfl) (fun _ _ _ h => h) (Or.inl ⟨by rfl, ?_⟩) hHeld ?_
  rotate_left
  · intro w hSw
    try dsimp only at hSw
    go_simp
    try with_reducible rfl
  show wpAnyH _ _ _ _ _ _ _ (Act.put _ (some 12) _) _
  try simp only [Act.put, List.setIfInBounds_toArray, List.set_cons_zero, List.set_cons_succ]
  refine wpAnyH_take (i := 3) (v := ?_) rfl (by kernel_rfl) (by kernel_rfl) (by kernel_rfl) (fun _ _ _ h => h) (Or.inl ⟨by rfl, ?_⟩) hHeld ?_
  rotate_left
  · intro w hSw
    try dsimp only at hSw
    go_simp
    try with_reducible rfl
  show wpAnyH _ _ _ _ _ _ _ (Act.put _ (some 13) _) _
  try simp only [Act.put, List.setIfInBounds_toArray, List.set_cons_zero, List.set_cons_succ]
  refine wpAnyH_take (i := 4) (v := ?_) rfl (by kernel_rfl) (by kernel_rfl) (by kernel_rfl) (fun _ _ _ h => h) (Or.inl ⟨by rfl, ?_⟩) hHeld ?_
  rotate_left
  · intro w hSw
    try dsimp only at hSw
    go_simp
    try with_reducible rfl
  show wpAnyH _ _ _ _ _ _ _ (Act.put _ (some 14) _) _
  try simp only [Act.put, List.setIfInBounds_toArray, List.set_cons_zero, List.set_cons_succ]
  refine wpAnyH_take (i := 5) (v := ?_) rfl (by kernel_rfl) (by kernel_rfl) (by kernel_rfl) (fun _ _ _ h => h) (Or.inl ⟨by rfl, ?_⟩) hHeld ?_
  rotate_left
  · intro w hSw
    try dsimp only at hSw
    go_simp
    try with_reducible rfl
  show wpAnyH _ _ _ _ _ _ _ (Act.put _ (some 15) _) _
  try simp only [Act.put, List.setIfInBounds_toArray, List.set_cons_zero, List.set_cons_succ]
  refine wpAnyH_take (i := 6) (v := ?_) rfl (by kernel_rfl) (by kernel_rfl) (by kernel_rfl) (fun _ _ _ h => h) (Or.inl ⟨by rfl, ?_⟩) hHeld ?_
  rotate_left
  · intro w hSw
    try dsimp only at hSw
    go_simp
    try with_reducible rfl
  show wpAnyH _ _ _ _ _ _ _ (Act.put _ (some 16) _) _
  try simp only [Act.put, List.setIfInBounds_toArray, List.set_cons_zero, List.set_cons_succ]
  refine wpAnyH_take (i := 7) (v := ?_) rfl (by kernel_rfl) (by kernel_rfl) (by kernel_rfl) (fun _ _ _ h => h) (Or.inl ⟨by rfl, ?_⟩) hHeld ?_
  rotate_left
  · intro w hSw
    try dsimp only at hSw
    go_simp
    try with_reducible rfl
  show wpAnyH _ _ _ _ _ _ _ (Act.put _ (some 17) _) _
  try simp only [Act.put, List.setIfInBounds_toArray, List.set_cons_zero, List.set_cons_succ]
  refine wpAnyH_ready (rs := [8]) (by kernel_rfl) (by simp) ?_
  refine AllReadyH.cons rfl (fun K hK => ?_) AllReadyH.nil
  go_simp
  clear hHeld
  refine hK.out _ _ ?_ (fun hHeld => ?_)
  · exact unhide CG _ ((unhide K1).drew.alloc _)
  clear hK K
  try simp only [Act.put, List.setIfInBounds_toArray, List.set_cons_zero, List.set_cons_succ]
  refine wpAnyH_ready (rs := [9]) (by kernel_rfl) (by simp) ?_
  refine AllReadyH.cons rfl (fun K hK => ?_) AllReadyH.nil
  go_simp
  clear hHeld
  refine hK.out _ _ ?_ (fun hHeld => ?_)
  · exact unhide CG _ (unhide K2)
  clear hK K
  try simp only [Act.put, List.setIfInBounds_toArray, List.set_cons_zero, List.set_cons_succ]
  refine wpAnyH_done (by kernel_rfl) ?_ _
  clear hHeld
  have F2 : Hid (Fs rb w1.heap.size (w1.alloc (.cells #[.int .i64 x, .slice ao R co, .slice none 0 0] 30)).drew x (.slice ao R co) (.slice none 0 0) (STn MK OO d 0)) := hide ⟨heap_alloc_new w1 _, by rw [← unhide HRB]; exact Below.size (unhide K1), ow_nil _ _ _ _⟩
  have RB2 : Hid ((w1.alloc (.cells #[.int .i64 x, .slice ao R co, .slice none 0 0] 30)).drew.heap[rb]? = some (.cells #[.int .i64 0, .slice none 0 0, .slice none 0 0] 30 (0, 0))) := hide ((unhide E2).block rb (Array.getElem?_eq_some_iff.1 (unhide RB1)).1 |>.trans (unhide RB1))
  have HRF : Hid (rb ≠ w1.heap.size) := hide (by have := (Array.getElem?_eq_some_iff.1 (unhide RB1)).1; omega)
  have K3 : Hid (Keep w (w1.alloc (.cells #[.int .i64 x, .slice ao R co, .slice none 0 0] 30)).drew) := K2
  clear E2 K2 RB1 K1
  generalize (w1.alloc (.cells #[.int .i64 x, .slice ao R co, .slice none 0 0] 30)).drew = w2 at F2 RB2 K3 ⊢
  generalize w1.heap.size = fb at F2 HRF ⊢
  obtain ⟨g1, g3, -⟩ := unhide CG _ (unhide K3)
  go_wp2_with fail
  clear g1 g3
  go_loopw [23] (fun vi ws => ∃ r : Nat, ∃ st : Value, r ≤ R ∧ vi = .int .i64 (r : Int) ∧ Hid (Fs rb fb ws x (.slice ao R co) st (STn MK OO d r)) ∧ Hid (Keep w ws) ∧ Hid (ws.heap[rb]? = some (.cells #[.int .i64 0, .slice none 0 0, .slice none 0 0] 30 (0, 0)))) (fun vi _ => R - (intOf vi).toNat)
  case atStart => exact ⟨0, _, Nat.zero_le _, rfl, F2, K3, RB2⟩
  case round =>
    clear F2 K3 RB2
    obtain ⟨r, st, hr1, rfl, FW, KW, RW⟩ := hrel
    by_cases hlt : r < R
    · have li : (r : Int) < (R : Int) := by omega
      obtain ⟨q1, q2, q3⟩ := unhide hr r hlt
      obtain ⟨go, uo, eo, oc, oi⟩ := (unhide HO).row (k := r) (by rw [unhide HRR]; exact hlt)
      subst eo
      obtain ⟨auo, cuo, rfl⟩ := oi.sl
      obtain ⟨gm, um, em, mc, mi⟩ := (unhide HMK).row (k := r) (by rw [unhide HLMK]; exact hlt)
      subst em
      obtain ⟨aum, cum, rfl⟩ := mi.sl
      have hsm := unhide HS r
      have HSM := hide hsm
      have yo := kc (unhide KW) oc
      have HMI := hide mi
      have MC := hide mc
      clear hsm oc oi mi mc
      obtain ⟨n1, hn1⟩ : ∃ n, (OO.getD r []).length = n := ⟨_, rfl⟩
      have HN1 := hide hn1
      rw [hn1] at q1 q2 q3 yo
      clear hn1
      have hmk9 := make_any n1 (by omega) wr
      have RW9 := hide (made_rw n1 wr)
      have KM := hide ((Keep.refl wr).alloc (.cells ((List.replicate n1 (0 : Int)).map (Value.int .i64)).toArray T2))
      generalize ((List.replicate n1 (0 : Int)).map (Value.int .i64)).toArray = ZZ at hmk9 RW9 KM
      go_wp2_with fail
      generalize wr.alloc (.cells ZZ T2) = w4 at RW9 KM ⊢
      obtain ⟨q, hq⟩ : ∃ b, wr.heap.size = b := ⟨_, rfl⟩
      have HQ9 := hide hq
      rw [hq] at RW9 ⊢
      clear hq hmk9 yo
      have hz : List.replicate n1 (0 : Int) = stL (MK.getD r []) d 0 ++ List.replicate (n1 - 0) 0 := by simp [stL]
      rw [hz] at RW9
      clear hz
      go_loopw [33] (fun vi ws => ∃ k : Nat, k ≤ n1 ∧ vi = .int .i64 (k : Int) ∧ Hid (Rw T2 ws q (stL (MK.getD r []) d k ++ List.replicate (n1 - k) 0)) ∧ Hid (Keep wr ws)) (fun vi _ => n1 - (intOf vi).toNat)
      case atStart => exact ⟨0, Nat.zero_le _, rfl, RW9, KM⟩
      case round =>
        clear RW9 KM
        obtain ⟨k, hk, rfl, RK, KK⟩ := hrel
        by_cases hkl : k < n1
        · have lk : (k : Int) < (n1 : Int) := by omega
          obtain ⟨p, hp1, hp2⟩ := q3 k hkl
          have KA := (unhide KW).trans (unhide KK)
          obtain ⟨gM, eM, pm⟩ := iw_at (unhide HMI) (k := k) (by omega)
          subst eM
          rw [hp1] at pm
          obtain ⟨gd2, eD, pd⟩ := iw_at (unhide HD) (k := p) (by rw [unhide HND]; exact hp2)
          injection eD with eD
          injection eD with eD
          subst eD
          have c1 := kc KA pm
          have c2 := kc KA pd
          have c3 := kc KA (unhide MC)
          obtain ⟨g1, g3, -⟩ := unhide CG _ KA
          have hst := stL_more (MK.getD r []) d k
          rw [hp1, Int.toNat_natCast] at hst
          obtain ⟨z, hz⟩ : ∃ z, d.getD p 0 = z := ⟨_, rfl⟩
          rw [hz] at c2 hst
          have hcell := (unhide RK).cell (i := k) (by simp [stL]; omega)
          have hfz := (unhide RK).fz k
          have hset : (stL (MK.getD r []) d k ++ List.replicate (n1 - k) 0).set k z = stL (MK.getD r []) d (k + 1) ++ List.replicate (n1 - (k + 1)) 0 := by
            rw [hst, show n1 - k = (n1 - (k + 1)) + 1 by omega, List.replicate_succ, List.set_append_right _ _ (by rw [stL_len]; exact Nat.le_refl _), stL_len, Nat.sub_self, List.set_cons_zero, List.append_assoc]
            rfl
          have RS := hide ((unhide RK).set (i := k) z)
          rw [hset] at RS
          have KS := hide (keep_set (unhide KK) (unhide HQ9) k (.int .i64 z))
          clear hset hst hz
          have lp0 : (0 : Int) ≤ (p : Int) := by omega
          have lk0 : (0 : Int) ≤ (k : Int) := by omega
          have lp1 : (p : Int) < (nd : Int) := by omega
          have lr0 : (0 : Int) ≤ (r : Int) := by omega
          have lkm : (k : Int) < ((MK.getD r []).length : Int) := by omega
          generalize (MK.getD r []).length = lm at *
          go_wp2_with fail
          go_roundw
          case rel => exact ⟨k + 1, hkl, by go_num, RS, KS⟩
          case measure => simp [intOf]; omega
        · have lk : ¬ (k : Int) < (n1 : Int) := by omega
          obtain rfl : k = n1 := by omega
          have I5 : Hid (Iw T2 wr (.slice (some ⟨q, 0, none⟩) k k) (stL (MK.getD r []) d k)) := hide (by
            have h := unhide RK
            rw [Nat.sub_self, List.replicate_zero, List.append_nil] at h
            have h2 := h.iw (c := k)
            rw [stL_len] at h2
            exact h2)
          have A5 := (Keep.refl wr).alloc (.cells #[.slice (some ⟨q, 0, none⟩) k k] 39)
          have F5 := hide ((unhide FW).keep ((unhide KK).trans A5))
          have K5 := hide ((unhide KW).trans ((unhide KK).trans A5))
          have I6 := hide ((unhide I5).keep A5)
          have C5 := hide (box_c wr [.slice (some ⟨q, 0, none⟩) k k] 39 0 _ rfl)
          have RB5 := hide (box_alloc (o := .cells #[.int .i64 0, .slice none 0 0, .slice none 0 0] 30 (0, 0)) (w := wr) (((unhide KK).block rb (Array.getElem?_eq_some_iff.1 (unhide RW)).1).trans (unhide RW)) (.cells #[.slice (some ⟨q, 0, none⟩) k k] 39))
          obtain ⟨-, -, f2⟩ := ((unhide FW).keep (unhide KK)).cell
          have HL5 : Hid ((STn MK OO d r).length ≤ 100000) := hide (by rw [unhide HSL]; omega)
          clear I5 A5 RK
          go_wp2_with (at_builtin; refine wpList_ap rfl _ _ 22 rfl rfl rfl (Fs.app (b0 := w) (unhide F5) (unhide K5) (unhide HRB) (ad := ⟨wr.heap.size, 0, none⟩) (c := 1) (u := .slice (some ⟨q, 0, none⟩) k k) (unhide C5) (unhide I6) (unhide HL5)) ?_; intro v7 w7 hP; generalize (STn MK OO d r).length + 1 = l7 at hP; obtain ⟨⟨a7, c7, rfl⟩, bx7, k7, f7, rb7⟩ := hP; have K7 := hide k7; have F7 := hide f7; have RB7 := hide (rb7 rb _ (unhide HRF) (unhide RB5)); have z7 := fit_at bx7; have y7 := box_fz bx7 2; clear bx7 k7 f7 rb7)
          go_roundw
          case rel => exact ⟨r + 1, _, hlt, by go_num, hide (by rw [unhide HSM, unhide HN1]; exact unhide F7), K7, RB7⟩
          case measure => simp [intOf]; omega
    · have li : ¬ (r : Int) < (R : Int) := by omega
      obtain rfl : r = R := by omega
      obtain ⟨f0, f1, f2⟩ := (unhide FW).cell
      have r0 := fit_fz (unhide RW)
      have r2 := fit_sz (unhide RW)
      obtain ⟨ast, cst, hst⟩ := (unhide FW).rows.sl
      have HTW := hide (unhide FW).rows.tw
      generalize (STn MK OO d r).length = lst at hst
      subst hst
      have K9 := hide (keep_set (keep_set (keep_set (unhide KW) (unhide HRB) 0 (.int .i64 x)) (unhide HRB) 1 (.slice ao r co)) (unhide HRB) 2 (.slice ast lst cst))
      have T9 := hide (((((unhide HTW).kt (Kt.set (A := fun e => e = 30) (i := 0) (u := .int .i64 x) (unhide RW) rfl) (by decide) (by decide)).kt (Kt.set (A := fun e => e = 30) (i := 1) (u := .slice ao r co) (heap_setCell_same wr rb 0 _ _ _ (unhide RW)) rfl) (by decide) (by decide)).kt (Kt.set (A := fun e => e = 30) (i := 2) (u := .slice ast lst cst) (heap_setCell_same _ rb 1 _ _ _ (heap_setCell_same wr rb 0 _ _ _ (unhide RW))) rfl) (by decide) (by decide)))
      have B9 := fit_sto (unhide RW) (.int .i64 x) (.slice ao r co) (.slice ast lst cst)
      have V9 := hide (fit_sz (a := .int .i64 x) (b := .slice ao r co) (c := .slice ast lst cst) B9)
      clear B9
      go_wp2_with fail
      obtain ⟨v0, v1, v2⟩ := unhide V9
      exact bodyPost_ret (v := .agg #[.int .i64 x, .slice ao r co, .slice ast lst cst]) (by simp [results, Try.results39, go_sem, v0, v1, v2]) rfl ((unhide HQ) _ _ (unhide K9) (unhide T9))
end Gp
end Go.Proofs.Ytakandlehneciaa
