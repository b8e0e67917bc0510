/- Package group: the search. -/
import Derived.Test.YtakandlehneciaaGpJ
import Derived.WalkMore
namespace Go.Proofs.Ytakandlehneciaa
open Go.RowKit
attribute [local go_sem ↓] Go.wp_at_zero Go.wp_at_succ
set_option linter.unusedVariables false
set_option linter.unusedSimpArgs false
set_option maxRecDepth 10000
namespace Gp
open Pa
/-- all layouts' orders, as they come -/
def all2 (F S : List (List Int)) : List (O2 × List Bool) := F.flatMap fun p => S.map fun q => ((p, q), [])
theorem all_row {F S : List (List Int)} {i : Nat} (h : i < F.length) : all2 (F.drop i) S = (S.map fun q => ((F.getD i [], q), [])) ++ all2 (F.drop (i + 1)) S := by
  rw [List.drop_eq_getElem_cons h, all2, List.flatMap_cons, List.getD_eq_getElem?_getD, List.getElem?_eq_getElem h]
  rfl
theorem row_one {S : List (List Int)} {p : List Int} {j : Nat} (h : j < S.length) : ((S.drop j).map fun q => (((p, q) : O2), ([] : List Bool))) = ((p, S.getD j []), []) :: (S.drop (j + 1)).map fun q => ((p, q), []) := by
  rw [List.drop_eq_getElem_cons h, List.map_cons, List.getD_eq_getElem?_getD, List.getElem?_eq_getElem h]
  rfl
theorem tw_row {A : TypeId → Prop} {e1 e2 : TypeId} {w w' : World} {a : Option Addr} {n c : Nat} {LL : List (List Int)} (h : Tw e1 e2 w (.slice a n c) LL) (hk : Kt A w w') (h1 : ¬ A e1) {k : Nat} (hlt : k < LL.length) : ∃ g u, a = some ⟨g, 0, none⟩ ∧ w'.cell? ⟨g, k, none⟩ = some u ∧ Iw e2 w u (LL.getD k []) := by
  rcases h with ⟨e, rfl⟩ | ⟨g, c, arr, e, h3, h4, h5⟩
  · simp at hlt
  · injection e with e _ _
    obtain ⟨u, h6, h7⟩ := h5 k hlt
    exact ⟨g, u, e, by simp [World.cell?, hk.block _ _ _ h3 h1, h6], h7⟩
/-- the two orders, cut to as many rows as there are -/
theorem tw_oo {w : World} {R b : Nat} {u0 u1 : Value} {o : O2} (hR : R = 1 ∨ R = 2) (hb : w.heap[b]? = some (.cells #[u0, u1] 49 (0, 0))) (h0 : Iw 3 w u0 o.1) (h1 : Iw 3 w u1 o.2) : Tw 49 3 w (.slice (some ⟨b, 0, none⟩) R 2) (oo R o) := by
  rcases hR with rfl | rfl
  · refine .inr ⟨b, 2, _, rfl, hb, by simp [oo], fun k hk => ?_⟩
    obtain rfl : k = 0 := by simp [oo] at hk; omega
    exact ⟨u0, rfl, h0⟩
  · refine .inr ⟨b, 2, _, rfl, hb, by simp [oo], fun k hk => ?_⟩
    have : k = 0 ∨ k = 1 := by simp [oo] at hk; omega
    rcases this with rfl | rfl
    · exact ⟨u0, rfl, h0⟩
    · exact ⟨u1, rfl, h1⟩
theorem lt_x {RR : List (List Int)} {w : World} {x y : Int} {vo st : Value} {B : Option Bt} (h : Bx RR w x vo st B) (hy : y ≤ 6000000) : lt B y = decide (y < x) := by
  cases B with
  | none => have := h.1; subst this; unfold lt; rw [decide_eq_true (by simp only [MaxI]; omega)]
  | some b => have := h.1; subst this; rfl
theorem oo_l {R : Nat} (h : R = 1 ∨ R = 2) {o : O2} : (oo R o).length = R := by rcases h with rfl | rfl <;> simp [oo]
theorem kt_best {w : World} {sb : Nat} {arr : Array Value} (h : w.heap[sb]? = some (.cells arr 47 (0, 0))) (x : Int) (vo st : Value) : Kt (fun e => e = 47) w (((w.setCell ⟨sb, 7, none⟩ (.int .i64 x)).setCell ⟨sb, 8, none⟩ vo).setCell ⟨sb, 9, none⟩ st) := by
  have e1 := heap_setCell_same w sb 7 _ _ (.int .i64 x) h
  have e2 := heap_setCell_same _ sb 8 _ _ vo e1
  exact ((Kt.set (A := fun e => e = 47) (i := 7) (u := .int .i64 x) h rfl).trans (Kt.set (A := fun e => e = 47) (i := 8) (u := vo) e1 rfl)).trans (Kt.set (A := fun e => e = 47) (i := 9) (u := st) e2 rfl)
/-- how many steps are left, by the search's box -/
def stl (bud : Int) (sb : Nat) (w : World) : Nat := match w.cell? ⟨sb, 5, none⟩ with
  | some (.int _ x) => (bud - x).toNat
  | _ => 0
theorem stl_is {RR : List (List Int)} {w9 w : World} {sb : Nat} {vr vf va vd : Value} {fl bud : Int} {k : Nat} {B : Option Bt} (h : Sv RR w9 w sb vr vf va vd fl bud k B) : stl bud sb w = k := by
  obtain ⟨x, vo, st, hb, _⟩ := h.box
  unfold stl
  rw [(sv_at hb).2.2.2.2.2.1]
  simp only
  omega
theorem stl_lt {RR : List (List Int)} {w9 w w' : World} {sb : Nat} {vr vf va vd : Value} {fl bud : Int} {k : Nat} {B B' : Option Bt} (h : Sv RR w9 w sb vr vf va vd fl bud (k + 1) B) (h' : Sv RR w9 w' sb vr vf va vd fl bud k B') : stl bud sb w' < stl bud sb w := by rw [stl_is h, stl_is h']; omega
/-- what the search comes to -/
def Rq (RR : List (List Int)) (D : List P2) (fl bud : Int) (F S : List (List Int)) (w9 : World) (sb : Nat) (vr vf va vd : Value) (k0 : Nat) (e : Ending) (w' : World) : Prop :=
  e = .returned (.int .i64 (if (go (fN RR D) D.length fl k0 none (all2 F S)).1 then (if (go (fN RR D) D.length fl k0 none (all2 F S)).2.1.isNone then 150 else 0) else 151)) ∧ Sv RR w9 w' sb vr vf va vd fl bud (go (fN RR D) D.length fl k0 none (all2 F S)).2.2 (go (fN RR D) D.length fl k0 none (all2 F S)).2.1
set_option maxHeartbeats 16000000 in
theorem run_core (RR : List (List Int)) (D : List P2) (F S : List (List Int)) (w9 w : World) (sb : Nat) (vr vf va vd : Value) (fl bud : Int) (k0 : Nat)
    (hR : RR.length = 1 ∨ RR.length = 2) (hvr : ∃ a c, vr = .slice a RR.length c) (hvf : ∃ a n c, vf = .slice a n c) (hva : ∃ a n c, va = .slice a n c) (hvd : ∃ a c, vd = .slice a D.length c) (hn : D.length ≤ 16) (hF : F.length ≤ 100) (hS : S.length ≤ 100) (hbud : 0 ≤ bud ∧ bud ≤ 9223372036854775807 ∧ (k0 : Int) = bud) (hfl : 0 ≤ fl ∧ fl ≤ 1000000)
    (h0 : Sv RR w9 w sb vr vf va vd fl bud k0 none)
    (T0 : Hid (∀ w', Keep w9 w' → Calls Try.prog 21 #[.agg #[vr, vf, va], .int .i64 0] w' (Od.Wg F w')))
    (T1 : Hid (∀ w', Keep w9 w' → Calls Try.prog 21 #[.agg #[vr, vf, va], .int .i64 1] w' (Od.Wg S w')))
    (TG : Hid (∀ i j vo w', i < F.length → j < S.length → Keep w9 w' → Tw 49 3 w' vo (oo RR.length (F.getD i [], S.getD j [])) → Calls Try.prog 35 #[vr, vo] w' (Nq RR (oo RR.length (F.getD i [], S.getD j [])) vo w')))
    (TE : Hid (∀ i j gb vo L w', i < F.length → j < S.length → L.length ≤ D.length → Keep w9 w' → Gm w' gb (ptN RR RR.length : Int) vo (PLn (oo RR.length (F.getD i [], S.getD j [])) RR.length) (MKn RR RR.length) (PHn RR (oo RR.length (F.getD i [], S.getD j [])) RR.length) → Calls Try.prog 37 #[.pointer (some ⟨gb, 0, none⟩), vd, .agg #[.int .i64 (L.length : Int), .int .u64 (xv L : Int)]] w' (Eq9 (edF RR D (F.getD i [], S.getD j []) L) w')))
    (TL : Hid (∀ i j L v w', i < F.length → j < S.length → L.length ≤ D.length → Es w' v (edF RR D (F.getD i [], S.getD j []) L) → Calls Try.prog 36 #[.int .i64 (ptN RR RR.length : Int), v] w' (Lq (ptN RR RR.length : Int) (edF RR D (F.getD i [], S.getD j []) L) w')))
    (TF : Hid (∀ i j gb vo vu d w', i < F.length → j < S.length → Gm w' gb (ptN RR RR.length : Int) vo (PLn (oo RR.length (F.getD i [], S.getD j [])) RR.length) (MKn RR RR.length) (PHn RR (oo RR.length (F.getD i [], S.getD j [])) RR.length) → Tw 49 3 w' vo (oo RR.length (F.getD i [], S.getD j [])) → Iw T2 w' vu d → d.length = ptN RR RR.length → Calls Try.prog 39 #[.pointer (some ⟨gb, 0, none⟩), vu] w' (Fq (MKn RR RR.length) (oo RR.length (F.getD i [], S.getD j [])) d vo w')))
    (HV : Hid (∀ i j L, i < F.length → j < S.length → L.length ≤ D.length → (lg (ptN RR RR.length : Int) (edF RR D (F.getD i [], S.getD j []) L)).2 = 0 → (lg (ptN RR RR.length : Int) (edF RR D (F.getD i [], S.getD j []) L)).1.length = ptN RR RR.length ∧ (lg (ptN RR RR.length : Int) (edF RR D (F.getD i [], S.getD j []) L)).1.getD 1 0 ≤ 6000000 ∧ 2 ≤ ptN RR RR.length)) :
    Calls Try.prog 20 #[.pointer (some ⟨sb, 0, none⟩)] w (Rq RR D fl bud F S w9 sb vr vf va vd k0) := by
  have HQ : Hid (∀ st B k e w', go (fN RR D) D.length fl k0 none (all2 F S) = (st, B, k) → e = .returned (.int .i64 (if st then (if B.isNone then 150 else 0) else 151)) → Sv RR w9 w' sb vr vf va vd fl bud k B → Rq RR D fl bud F S w9 sb vr vf va vd k0 e w') := hide (fun st B k e w' h1 h2 h3 => by
    unfold Rq
    rw [h1]
    exact ⟨h2, h3⟩)
  generalize Rq RR D fl bud F S w9 sb vr vf va vd k0 = QQ at HQ ⊢
  obtain ⟨GO, hGO⟩ : ∃ g, go (fN RR D) D.length fl k0 none (all2 F S) = g := ⟨_, rfl⟩
  rw [hGO] at HQ
  have HGO := hide hGO
  clear hGO
  have HBK : Hid ((k0 : Int) = bud) := hide hbud.2.2
  obtain ⟨ar, cr, rfl⟩ := hvr
  obtain ⟨af, nf, cf, rfl⟩ := hvf
  obtain ⟨aa, na, ca, rfl⟩ := hva
  obtain ⟨ad, cd, rfl⟩ := hvd
  obtain ⟨N, hN⟩ : ∃ N, (ptN RR RR.length : Int) = N := ⟨_, rfl⟩
  have h0' := h0
  obtain ⟨x, vo, st, hbx, -⟩ := h0.box
  obtain ⟨c0, c1, c2, -⟩ := sv_at hbx
  have H0 := hide h0
  clear hbx h0 h0'
  go_enter Try.func20, Try.ntmps20
  go_wp2_with fail
  go_step3
  go_wp2_with fail
  (refine ((unhide T1) _ (unhide H0).keep).mono ?_; rintro e wa ⟨vs, rfl, hka, hoa⟩; have HA := hide ((unhide H0).mv hka); have OA : Hid (Ow w.heap.size 49 3 wa vs S) := hide hoa; clear hka hoa H0 c0 c1 c2)
  obtain ⟨asx, csx, rfl⟩ := (unhide OA).sl
  obtain ⟨x1, vo1, st1, hbx, -⟩ := (unhide HA).box
  obtain ⟨c0, c1, c2, -⟩ := sv_at hbx
  clear hbx
  go_wp2_with fail
  go_step3
  go_wp2_with fail
  (refine ((unhide T0) _ (unhide HA).keep).mono ?_; rintro e wb ⟨vf0, rfl, hkb, hob⟩; have HB := hide ((unhide HA).mv hkb); have OB : Hid (Tw 49 3 wb vf0 F) := hide (Ow.tw (show Ow wa.heap.size 49 3 wb vf0 F from hob)); have OC : Hid (Tw 49 3 wb (.slice asx S.length csx) S) := hide ((unhide OA).keep hkb).tw; clear hkb hob HA OA c0 c1 c2)
  obtain ⟨afx, cfx, rfl, -⟩ := (unhide OB).sl
  go_wp2_with fail
  have HFl := hide hF
  have HSl := hide hS
  obtain ⟨f, hf⟩ : ∃ f, F.length = f := ⟨_, rfl⟩
  obtain ⟨s, hs⟩ : ∃ s, S.length = s := ⟨_, rfl⟩
  have HF9 := hide hf
  have HS9 := hide hs
  rw [hf] at hF HFl TG TE TL TF HV ⊢
  rw [hs] at hS HSl TG TE TL TF HV OC ⊢
  clear hf hs hN
  have S0 : Hid (go (fN RR D) D.length fl k0 none (all2 (F.drop 0) S) = GO) := HGO
  go_loopw [24] (fun vi ws => ∃ (i k : Nat) (B : Option Bt), i ≤ f ∧ vi = .int .i64 (i : Int) ∧ Hid (Sv RR w9 ws sb (.slice ar RR.length cr) (.slice af nf cf) (.slice aa na ca) (.slice ad D.length cd) fl bud k B) ∧ Hid (go (fN RR D) D.length fl k B (all2 (F.drop i) S) = GO) ∧ Hid (Kt Ch wb ws) ∧ Hid (k ≤ k0)) (fun vi _ => f - (intOf vi).toNat)
  case atStart => exact ⟨0, k0, none, Nat.zero_le _, rfl, HB, S0, hide (Kt.refl _ _), hide (Nat.le_refl _)⟩
  case round =>
    clear HB S0
    obtain ⟨i, k, B, hi, rfl, SW, GW, KTW, LK⟩ := hrel
    by_cases hlt : i < f
    · have li : (i : Int) < (f : Int) := by omega
      have hrow := all_row (F := F) (S := S) (i := i) (by rw [unhide HF9]; exact hlt)
      have GW2 := unhide GW
      rw [hrow] at GW2
      have GW3 := hide GW2
      obtain ⟨gf, uf, ef, fc, fi⟩ := tw_row (unhide OB) (unhide KTW) (by decide) (k := i) (by rw [unhide HF9]; exact hlt)
      subst ef
      have HFI := hide fi
      obtain ⟨auf, cuf, rfl⟩ := fi.sl
      clear fi GW2 hrow GW
      have S0 : Hid (go (fN RR D) D.length fl k B ((S.drop 0).map (fun q => ((F.getD i [], q), [])) ++ all2 (F.drop (i + 1)) S) = GO) := GW3
      obtain ⟨p, hp⟩ : ∃ p, F.getD i [] = p := ⟨_, rfl⟩
      have HP := hide hp
      generalize (F.getD i []).length = lp at *
      rw [hp] at S0 HFI
      clear GW3 hp
      go_wp2_with fail
      clear fc
      have LK0 := LK
      have SW0 := SW
      have KT0 := KTW
      go_loopw [30] (fun vi ws => ∃ (j k : Nat) (B : Option Bt), j ≤ s ∧ vi = .int .i64 (j : Int) ∧ Hid (Sv RR w9 ws sb (.slice ar RR.length cr) (.slice af nf cf) (.slice aa na ca) (.slice ad D.length cd) fl bud k B) ∧ Hid (go (fN RR D) D.length fl k B ((S.drop j).map (fun q => ((p, q), [])) ++ all2 (F.drop (i + 1)) S) = GO) ∧ Hid (Kt Ch wb ws) ∧ Hid (k ≤ k0)) (fun vi _ => s - (intOf vi).toNat)
      case atStart => exact ⟨0, k, B, Nat.zero_le _, rfl, SW0, S0, KT0, LK0⟩
      case round =>
        clear SW0 S0 KT0 LK0 SW KTW LK
        obtain ⟨j, k, B, hj, rfl, SW, GW, KTW, LK⟩ := hrel
        by_cases hjl : j < s
        · have lj : (j : Int) < (s : Int) := by omega
          have GW2 := unhide GW
          rw [row_one (by rw [unhide HS9]; exact hjl), List.cons_append] at GW2
          have GW3 := hide GW2
          obtain ⟨gs, us, es, sc, si⟩ := tw_row (unhide OC) (unhide KTW) (by decide) (k := j) (by rw [unhide HS9]; exact hjl)
          subst es
          obtain ⟨aus, cus, rfl⟩ := si.sl
          have HSI := hide si
          clear si GW2 GW
          obtain ⟨q, hq⟩ : ∃ q, S.getD j [] = q := ⟨_, rfl⟩
          have HQQ := hide hq
          generalize (S.getD j []).length = lq at *
          rw [hq] at GW3 HSI
          clear hq
          have TGj := hide (fun vo w' hk h => (unhide TG) i j vo w' hlt hjl hk h)
          rw [unhide HP, unhide HQQ] at TGj
          obtain ⟨x1, vo1, st1, hbx, -⟩ := (unhide SW).box
          have SC : Hid (∀ w', Keep wr w' → w'.cell? ⟨sb, 0, none⟩ = some (.slice ar RR.length cr)) := hide (fun w' hk => kc hk (sv_at hbx).1)
          clear hbx
          have lR0 : (0 : Int) ≤ (RR.length : Int) := by omega
          have lR1 : (RR.length : Int) ≤ 2 := by omega
          have lR2 : RR.length ≤ 2 := by omega
          have EA := hide (((Keep.refl wr).drew).alloc (.cells #[.slice auf lp cuf, .slice aus lq cus] 49))
          have HB9 := hide (heap_alloc_new wr.drew (.cells #[.slice auf lp cuf, .slice aus lq cus] 49))
          have TW9 : Hid (Tw 49 3 (wr.drew.alloc (.cells #[.slice auf lp cuf, .slice aus lq cus] 49)) (.slice (some ⟨wr.heap.size, 0, none⟩) RR.length 2) (oo RR.length (p, q))) := hide (tw_oo (o := (p, q)) hR (unhide HB9) (iw_kt (A := Ch) (unhide HFI) ((unhide KTW).trans (Kt.of (unhide EA))) (by decide)) (iw_kt (A := Ch) (unhide HSI) ((unhide KTW).trans (Kt.of (unhide EA))) (by decide)))
          have TGk := hide ((unhide TGj) _ _ ((unhide SW).keep.trans (unhide EA)) (unhide TW9))
          clear HB9
          go_upto_region 8 with fail
          refine wp_region_held_drew (S := (fun w' => w'.cell? ⟨sb, 0, none⟩ = some (.slice ar RR.length cr))) (by kernel_rfl) (by exact unhide SC _ ((Keep.refl _).drew)) (fun hHeld => ?_)
          refine wpAnyH_take (i := 0) (v := ?_) rfl (by kernel_rfl) (by kernel_rfl) (by kernel_rfl) (fun _ _ _ h => h) (Or.inl ⟨by rfl, ?_⟩) hHeld ?_
          rotate_left
          · intro w hSw
            try dsimp only at hSw
            go_simp
            try with_reducible rfl
          show wpAnyH _ _ _ _ _ _ _ (Act.put _ (some 34) _) _
          try simp only [Act.put, List.setIfInBounds_toArray, List.set_cons_zero, List.set_cons_succ]
          refine wpAnyH_take (i := 1) (v := ?_) rfl (by kernel_rfl) (by kernel_rfl) (by kernel_rfl) (fun _ _ _ h => h) (Or.inl ⟨by rfl, ?_⟩) hHeld ?_
          rotate_left
          · intro w hSw
            try dsimp only at hSw
            go_simp
            try with_reducible rfl
          show wpAnyH _ _ _ _ _ _ _ (Act.put _ (some 35) _) _
          try simp only [Act.put, List.setIfInBounds_toArray, List.set_cons_zero, List.set_cons_succ]
          refine wpAnyH_take (i := 2) (v := ?_) rfl (by kernel_rfl) (by kernel_rfl) (by kernel_rfl) (fun _ _ _ h => h) (Or.inl ⟨by rfl, ?_⟩) hHeld ?_
          rotate_left
          · intro w hSw
            try dsimp only at hSw
            go_simp
            try with_reducible rfl
          show wpAnyH _ _ _ _ _ _ _ (Act.put _ (some 36) _) _
          try simp only [Act.put, List.setIfInBounds_toArray, List.set_cons_zero, List.set_cons_succ]
          refine wpAnyH_take (i := 3) (v := ?_) rfl (by kernel_rfl) (by kernel_rfl) (by kernel_rfl) (fun _ _ _ h => h) (Or.inl ⟨by rfl, ?_⟩) hHeld ?_
          rotate_left
          · intro w hSw
            try dsimp only at hSw
            go_simp
            try with_reducible rfl
          show wpAnyH _ _ _ _ _ _ _ (Act.put _ (some 37) _) _
          try simp only [Act.put, List.setIfInBounds_toArray, List.set_cons_zero, List.set_cons_succ]
          refine wpAnyH_take (i := 4) (v := ?_) rfl (by kernel_rfl) (by kernel_rfl) (by kernel_rfl) (fun _ _ _ h => h) (Or.inl ⟨by rfl, ?_⟩) hHeld ?_
          rotate_left
          · intro w hSw
            try dsimp only at hSw
            go_simp
            try with_reducible rfl
          show wpAnyH _ _ _ _ _ _ _ (Act.put _ (some 38) _) _
          try simp only [Act.put, List.setIfInBounds_toArray, List.set_cons_zero, List.set_cons_succ]
          refine wpAnyH_take (i := 5) (v := ?_) rfl (by kernel_rfl) (by kernel_rfl) (by kernel_rfl) (fun _ _ _ h => h) (Or.inl ⟨by rfl, ?_⟩) hHeld ?_
          rotate_left
          · intro w hSw
            try dsimp only at hSw
            go_simp
            try with_reducible rfl
          show wpAnyH _ _ _ _ _ _ _ (Act.put _ (some 39) _) _
          try simp only [Act.put, List.setIfInBounds_toArray, List.set_cons_zero, List.set_cons_succ]
          refine wpAnyH_take (i := 6) (v := ?_) rfl (by kernel_rfl) (by kernel_rfl) (by kernel_rfl) (fun _ _ _ h => h) (Or.inl ⟨by rfl, ?_⟩) hHeld ?_
          rotate_left
          · intro w hSw
            try dsimp only at hSw
            go_simp
            try with_reducible rfl
          show wpAnyH _ _ _ _ _ _ _ (Act.put _ (some 40) _) _
          try simp only [Act.put, List.setIfInBounds_toArray, List.set_cons_zero, List.set_cons_succ]
          refine wpAnyH_take (i := 8) (v := ?_) rfl (by kernel_rfl) (by kernel_rfl) (by kernel_rfl) (fun _ _ _ h => h) (Or.inl ⟨by rfl, ?_⟩) hHeld ?_
          rotate_left
          · intro w hSw
            try dsimp only at hSw
            go_simp
            try with_reducible rfl
          show wpAnyH _ _ _ _ _ _ _ (Act.put _ (some 42) _) _
          try simp only [Act.put, List.setIfInBounds_toArray, List.set_cons_zero, List.set_cons_succ]
          refine wpAnyH_take (i := 9) (v := ?_) rfl (by kernel_rfl) (by kernel_rfl) (by kernel_rfl) (fun _ _ _ h => h) (Or.inl ⟨by rfl, ?_⟩) hHeld ?_
          rotate_left
          · intro w hSw
            try dsimp only at hSw
            go_simp
            try with_reducible rfl
          show wpAnyH _ _ _ _ _ _ _ (Act.put _ (some 43) _) _
          try simp only [Act.put, List.setIfInBounds_toArray, List.set_cons_zero, List.set_cons_succ]
          refine wpAnyH_take (i := 10) (v := ?_) rfl (by kernel_rfl) (by kernel_rfl) (by kernel_rfl) (fun _ _ _ h => h) (Or.inl ⟨by rfl, ?_⟩) hHeld ?_
          rotate_left
          · intro w hSw
            try dsimp only at hSw
            go_simp
            try with_reducible rfl
          show wpAnyH _ _ _ _ _ _ _ (Act.put _ (some 44) _) _
          try simp only [Act.put, List.setIfInBounds_toArray, List.set_cons_zero, List.set_cons_succ]
          refine wpAnyH_take (i := 11) (v := ?_) rfl (by kernel_rfl) (by kernel_rfl) (by kernel_rfl) (fun _ _ _ h => h) (Or.inl ⟨by rfl, ?_⟩) hHeld ?_
          rotate_left
          · intro w hSw
            try dsimp only at hSw
            go_simp
            try with_reducible rfl
          show wpAnyH _ _ _ _ _ _ _ (Act.put _ (some 45) _) _
          try simp only [Act.put, List.setIfInBounds_toArray, List.set_cons_zero, List.set_cons_succ]
          refine wpAnyH_take (i := 12) (v := ?_) rfl (by kernel_rfl) (by kernel_rfl) (by kernel_rfl) (fun _ _ _ h => h) (Or.inl ⟨by rfl, ?_⟩) hHeld ?_
          rotate_left
          · intro w hSw
            try dsimp only at hSw
            go_simp
            try with_reducible rfl
          show wpAnyH _ _ _ _ _ _ _ (Act.put _ (some 46) _) _
          try simp only [Act.put, List.setIfInBounds_toArray, List.set_cons_zero, List.set_cons_succ]
          refine wpAnyH_take (i := 13) (v := ?_) rfl (by kernel_rfl) (by kernel_rfl) (by kernel_rfl) (fun _ _ _ h => h) (Or.inl ⟨by rfl, ?_⟩) hHeld ?_
          rotate_left
          · intro w hSw
            try dsimp only at hSw
            go_simp
            try with_reducible rfl
          show wpAnyH _ _ _ _ _ _ _ (Act.put _ (some 47) _) _
          try simp only [Act.put, List.setIfInBounds_toArray, List.set_cons_zero, List.set_cons_succ]
          refine wpAnyH_ready (rs := [7]) (by kernel_rfl) (by simp) ?_
          refine AllReadyH.cons rfl (fun K hK => ?_) AllReadyH.nil
          go_simp
          clear hHeld
          refine hK.out _ _ ?_ (fun hHeld => ?_)
          · exact unhide SC _ (unhide EA)
          clear hK K
          try simp only [Act.put, List.setIfInBounds_toArray, List.set_cons_zero, List.set_cons_succ]
          refine wpAnyH_take (i := 14) (v := ?_) rfl (by kernel_rfl) (by kernel_rfl) (by kernel_rfl) (fun _ _ _ h => h) (Or.inl ⟨by rfl, ?_⟩) hHeld ?_
          rotate_left
          · intro w hSw
            try dsimp only at hSw
            go_simp
            try with_reducible rfl
          show wpAnyH _ _ _ _ _ _ _ (Act.put _ (some 48) _) _
          try simp only [Act.put, List.setIfInBounds_toArray, List.set_cons_zero, List.set_cons_succ]
          refine wpAnyH_ready (rs := [15]) (by kernel_rfl) (by simp) ?_
          refine AllReadyH.cons rfl (fun K hK => ?_) AllReadyH.nil
          go_simp
          clear hHeld
          (refine (unhide TGk).mono ?_; rintro e w5 ⟨gb, rfl, hk5, hlow, hgm⟩; have K5 : Hid (Keep wr w5) := hide ((unhide EA).trans hk5); have G5 := hide hgm; have W5 := hide ((unhide TW9).keep hk5); clear hlow hgm)
          try go_wp2_with fail
          refine hK.out _ _ ?_ (fun hHeld => ?_)
          · exact unhide SC _ ((unhide EA).trans hk5)
          clear hK K
          try simp only [Act.put, List.setIfInBounds_toArray, List.set_cons_zero, List.set_cons_succ]
          refine wpAnyH_take (i := 16) (v := ?_) rfl (by kernel_rfl) (by kernel_rfl) (by kernel_rfl) (fun _ _ _ h => h) (Or.inl ⟨by rfl, ?_⟩) hHeld ?_
          rotate_left
          · intro w hSw
            try dsimp only at hSw
            go_simp
            try with_reducible rfl
          show wpAnyH _ _ _ _ _ _ _ (Act.put _ (some 8) _) _
          try simp only [Act.put, List.setIfInBounds_toArray, List.set_cons_zero, List.set_cons_succ]
          refine wpAnyH_done (by kernel_rfl) ?_ _
          clear hHeld
          have SW6 := hide ((unhide SW).mv ((unhide K5).alloc (.cells #[.int .i64 0, .int .u64 0] 69)))
          have KT6 : Hid (Kt Ch wb (w5.alloc (.cells #[.int .i64 0, .int .u64 0] 69))) := hide ((unhide KTW).trans (Kt.of ((unhide K5).alloc _)))
          have KU6 : Hid (Kt Ch w5 (w5.alloc (.cells #[.int .i64 0, .int .u64 0] 69))) := hide (Kt.of ((Keep.refl w5).alloc _))
          have L6 : Hid (Lf w5.heap.size (w5.alloc (.cells #[.int .i64 0, .int .u64 0] 69)) (.slice (some ⟨w5.heap.size, 0, none⟩) 1 1) [[]]) := hide ⟨rfl, .inr ⟨w5.heap.size, 1, #[.int .i64 0, .int .u64 0], rfl, Nat.le_refl _, heap_alloc_new w5 _, Nat.le_refl _, by unfold maxLen; omega, rfl, rfl⟩⟩
          have HQ5 : Hid (w9.heap.size ≤ w5.heap.size) := hide (Below.size ((unhide SW).keep.trans (unhide K5)))
          obtain ⟨RT, hRT⟩ : ∃ RT, (S.drop (j + 1)).map (fun q => (((p, q) : O2), ([] : List Bool))) ++ all2 (F.drop (i + 1)) S = RT := ⟨_, rfl⟩
          rw [hRT] at GW3
          have HRT := hide hRT
          have GW6 : Hid (go (fN RR D) D.length fl k B ([[]].map (fun L => (((p, q) : O2), L)) ++ RT) = GO) := GW3
          have LK6 := LK
          clear hk5 EA TW9 TGk SC hRT GW3 SW KTW LK
          obtain ⟨vb9, hvb9⟩ : ∃ b, wr.heap.size = b := ⟨_, rfl⟩
          rw [hvb9] at W5 G5 ⊢
          clear hvb9
          go_wp2_with fail
          generalize w5.alloc (.cells #[.int .i64 0, .int .u64 0] 69) = w6 at SW6 KT6 KU6 L6 ⊢
          obtain ⟨q5, hq5⟩ : ∃ b, w5.heap.size = b := ⟨_, rfl⟩
          have HQ6 := hide hq5
          rw [hq5] at L6 HQ5 ⊢
          clear hq5
          have SI6 : Hid (SI [[]] ∧ ∀ L ∈ [([] : List Bool)], L.length ≤ D.length) := hide ⟨⟨Nat.le_refl _, trivial⟩, fun L hL => by simp at hL; subst hL; simp⟩
          go_loopw [9] (fun vl ws => ∃ (T : List (List Bool)) (k : Nat) (B : Option Bt), Hid (Lf q5 ws vl T) ∧ Hid (SI T ∧ ∀ L ∈ T, L.length ≤ D.length) ∧ Hid (Sv RR w9 ws sb (.slice ar RR.length cr) (.slice af nf cf) (.slice aa na ca) (.slice ad D.length cd) fl bud k B) ∧ Hid (go (fN RR D) D.length fl k B (T.map (fun L => (((p, q) : O2), L)) ++ RT) = GO) ∧ Hid (Kt Ch wb ws) ∧ Hid (Kt Ch w5 ws) ∧ Hid (k ≤ k0)) (fun vl ws => stl bud sb ws)
          case atStart => exact ⟨[[]], k, B, L6, SI6, SW6, GW6, KT6, KU6, LK6⟩
          case round =>
            clear L6 SI6 SW6 GW6 KT6 KU6 LK6
            obtain ⟨T, k, B, LF, SIT, SW, GW, KTW, KUW, LK⟩ := hrel
            obtain ⟨al, cl, rfl⟩ := (unhide LF).sl
            cases T with
            | nil =>
              have GW9 : Hid (go (fN RR D) D.length fl k B ((S.drop (j + 1)).map (fun q => ((p, q), [])) ++ all2 (F.drop (i + 1)) S) = GO) := hide (by rw [unhide HRT]; exact unhide GW)
              simp only [List.length_nil]
              go_wp2_with fail
              go_roundw
              case rel => exact ⟨j + 1, k, B, hjl, by go_num, SW, GW9, KTW, LK⟩
              case measure => simp [intOf]; omega
            | cons L T =>
              obtain ⟨x, vo, st, hbx, hB⟩ := (unhide SW).box
              cases k with
              | zero =>
                have hgo : Hid (GO = (false, B, 0)) := hide (by have h := unhide GW; rw [List.map_cons, List.cons_append, go_out] at h; exact h.symm)
                obtain ⟨-, -, -, -, -, c5, c6, -, -, -⟩ := sv_at hbx
                obtain ⟨z, hz⟩ : ∃ z, bud - ((0 : Nat) : Int) = z := ⟨_, rfl⟩
                rw [hz] at c5
                have hzb : (z == bud) = true := by rw [← hz]; simp
                have l0 : (0 : Int) < (((L :: T).length : Nat) : Int) := by rw [List.length_cons]; omega
                generalize (L :: T).length = n1 at *
                clear hz hbx hB
                have S11 : Hid (∀ w', Keep wr w' → w'.cell? ⟨sb, 5, none⟩ = some (.int .i64 z) ∧ w'.cell? ⟨sb, 6, none⟩ = some (.int .i64 bud)) := hide (fun w' hk => ⟨kc hk c5, kc hk c6⟩)
                have SW9 := hide ((unhide SW).mv (Keep.refl wr).drew)
                go_upto_region 11 with fail
                clear c5 c6
                refine wp_region_held_drew (S := (fun w' => w'.cell? ⟨sb, 5, none⟩ = some (.int .i64 z) ∧ w'.cell? ⟨sb, 6, none⟩ = some (.int .i64 bud))) (by kernel_rfl) (by exact unhide S11 _ ((Keep.refl _).drew)) (fun hHeld => ?_)
                refine wpAnyH_take (i := 0) (v := ?_) rfl (by kernel_rfl) (by kernel_rfl) (by kernel_rfl) (fun _ _ _ h => h) (Or.inl ⟨by rfl, ?_⟩) hHeld ?_
                rotate_left
                · intro w hSw
                  try dsimp only at hSw
                  go_simp
                  try with_reducible rfl
                show wpAnyH _ _ _ _ _ _ _ (Act.put _ (some 55) _) _
                try simp only [Act.put, List.setIfInBounds_toArray, List.set_cons_zero, List.set_cons_succ]
                refine wpAnyH_take (i := 1) (v := ?_) rfl (by kernel_rfl) (by kernel_rfl) (by kernel_rfl) (fun _ _ _ h => h) (Or.inl ⟨by rfl, ?_⟩) hHeld ?_
                rotate_left
                · intro w hSw
                  try dsimp only at hSw
                  go_simp
                  try with_reducible rfl
                show wpAnyH _ _ _ _ _ _ _ (Act.put _ (some 56) _) _
                try simp only [Act.put, List.setIfInBounds_toArray, List.set_cons_zero, List.set_cons_succ]
                refine wpAnyH_take (i := 2) (v := ?_) rfl (by kernel_rfl) (by kernel_rfl) (by kernel_rfl) (fun _ _ _ h => h) (Or.inl ⟨by rfl, ?_⟩) hHeld ?_
                rotate_left
                · intro w hSw
                  try dsimp only at hSw
                  go_simp
                  try with_reducible rfl
                show wpAnyH _ _ _ _ _ _ _ (Act.put _ (some 57) _) _
                try simp only [Act.put, List.setIfInBounds_toArray, List.set_cons_zero, List.set_cons_succ]
                refine wpAnyH_take (i := 3) (v := ?_) rfl (by kernel_rfl) (by kernel_rfl) (by kernel_rfl) (fun _ _ _ h => h) (Or.inl ⟨by rfl, ?_⟩) hHeld ?_
                rotate_left
                · intro w hSw
                  try dsimp only at hSw
                  go_simp
                  try with_reducible rfl
                show wpAnyH _ _ _ _ _ _ _ (Act.put _ (some 58) _) _
                try simp only [Act.put, List.setIfInBounds_toArray, List.set_cons_zero, List.set_cons_succ]
                refine wpAnyH_take (i := 4) (v := ?_) rfl (by kernel_rfl) (by kernel_rfl) (by kernel_rfl) (fun _ _ _ h => h) (Or.inl ⟨by rfl, ?_⟩) hHeld ?_
                rotate_left
                · intro w hSw
                  try dsimp only at hSw
                  go_simp
                  try with_reducible rfl
                show wpAnyH _ _ _ _ _ _ _ (Act.put _ (some 59) _) _
                try simp only [Act.put, List.setIfInBounds_toArray, List.set_cons_zero, List.set_cons_succ]
                refine wpAnyH_take (i := 5) (v := ?_) rfl (by kernel_rfl) (by kernel_rfl) (by kernel_rfl) (fun _ _ _ h => h) (Or.inl ⟨by rfl, ?_⟩) hHeld ?_
                rotate_left
                · intro w hSw
                  try dsimp only at hSw
                  go_simp
                  try with_reducible rfl
                show wpAnyH _ _ _ _ _ _ _ (Act.put _ (some 60) _) _
                try simp only [Act.put, List.setIfInBounds_toArray, List.set_cons_zero, List.set_cons_succ]
                refine wpAnyH_take (i := 6) (v := ?_) rfl (by kernel_rfl) (by kernel_rfl) (by kernel_rfl) (fun _ _ _ h => h) (Or.inl ⟨by rfl, ?_⟩) hHeld ?_
                rotate_left
                · intro w hSw
                  try dsimp only at hSw
                  go_simp
                  try with_reducible rfl
                show wpAnyH _ _ _ _ _ _ _ (Act.put _ (some 61) _) _
                try simp only [Act.put, List.setIfInBounds_toArray, List.set_cons_zero, List.set_cons_succ]
                refine wpAnyH_take (i := 7) (v := ?_) rfl (by kernel_rfl) (by kernel_rfl) (by kernel_rfl) (fun _ _ _ h => h) (Or.inl ⟨by rfl, ?_⟩) hHeld ?_
                rotate_left
                · intro w hSw
                  try dsimp only at hSw
                  go_simp
                  try with_reducible rfl
                show wpAnyH _ _ _ _ _ _ _ (Act.put _ (some 62) _) _
                try simp only [Act.put, List.setIfInBounds_toArray, List.set_cons_zero, List.set_cons_succ]
                refine wpAnyH_take (i := 8) (v := ?_) rfl (by kernel_rfl) (by kernel_rfl) (by kernel_rfl) (fun _ _ _ h => h) (Or.inl ⟨by rfl, ?_⟩) hHeld ?_
                rotate_left
                · intro w hSw
                  try dsimp only at hSw
                  go_simp
                  try with_reducible rfl
                show wpAnyH _ _ _ _ _ _ _ (Act.put _ (some 63) _) _
                try simp only [Act.put, List.setIfInBounds_toArray, List.set_cons_zero, List.set_cons_succ]
                refine wpAnyH_done (by kernel_rfl) ?_ _
                clear hHeld
                go_wp2_with fail
                try rw [Exit.noGoto_ret]
                try go_ret
                exact (unhide HQ) false B 0 _ _ (unhide hgo) rfl (unhide SW9)
              | succ k =>
                obtain ⟨SV7, KT7⟩ := (unhide SW).step
                obtain ⟨-, -, -, -, -, c5, c6, -, -, -⟩ := sv_at hbx
                have f5 := sv_fz hbx 5
                have hkk := unhide LK
                have hbk := unhide HBK
                obtain ⟨z, hz⟩ : ∃ z, bud - ((k + 1 : Nat) : Int) = z := ⟨_, rfl⟩
                obtain ⟨z2, hz2⟩ : ∃ z, bud - (k : Int) = z := ⟨_, rfl⟩
                rw [hz] at c5
                rw [hz2] at SV7 KT7
                have hzb : (z == bud) = false := by simp only [beq_eq_false_iff_ne, ne_eq]; omega
                have hzz : z + 1 = z2 := by omega
                have hzw : wrap64 (z + 1) = z2 := by rw [w64 (by omega) (by omega)]; exact hzz
                clear hzz
                have HZ := hide hz
                have HZ2 := hide hz2
                have LF7 : Hid (Lf q5 (wr.setCell ⟨sb, 5, none⟩ (.int .i64 z2)) (.slice al (L :: T).length cl) (L :: T)) := hide (own_kt (unhide LF) (Kt.set (A := fun e => e = 47) hbx rfl) (by decide))
                obtain ⟨g, ea, -, hc1, p0, p1, LT⟩ := (unhide LF7).top
                subst ea
                have LT7 := hide LT
                have hL := (unhide SIT).2 L (by simp)
                have SW7 := hide SV7
                have KT8 := hide ((unhide KTW).trans KT7)
                have KU8 := hide ((unhide KUW).trans KT7)
                have MS : Hid (∀ (w' : World) (B' : Option Bt), Sv RR w9 w' sb (.slice ar RR.length cr) (.slice af nf cf) (.slice aa na ca) (.slice ad D.length cd) fl bud k B' → stl bud sb w' < stl bud sb wr) := hide (fun w' B' h => stl_lt (unhide SW) h)
                clear hz hz2 hbx hB SV7 KT7 LT hbk
                obtain ⟨tl, htl⟩ : ∃ n, T.length = n := ⟨_, rfl⟩
                have HTL := hide htl
                have hn1 : (L :: T).length = tl + 1 := by rw [List.length_cons, htl]
                rw [hn1] at LF7 ⊢
                rw [htl] at p0 p1 hc1 LT7
                clear htl
                have l0 : (0 : Int) < ((tl + 1 : Nat) : Int) := by omega
                obtain ⟨nL, hnL⟩ : ∃ n, L.length = n := ⟨_, rfl⟩
                have HNL := hide hnL
                obtain ⟨xL, hxL⟩ : ∃ n, xv L = n := ⟨_, rfl⟩
                have HXL := hide hxL
                rw [hnL] at p0 hL
                rw [hxL] at p1
                clear hnL hxL
                have htl16 : tl ≤ nL := by have h := (unhide SIT).1.1; rw [unhide HTL, unhide HNL] at h; exact h
                have S11 : Hid (∀ w', Keep wr w' → w'.cell? ⟨sb, 5, none⟩ = some (.int .i64 z) ∧ w'.cell? ⟨sb, 6, none⟩ = some (.int .i64 bud)) := hide (fun w' hk => ⟨kc hk c5, kc hk c6⟩)
                have c5' : wr.drew.cell? ⟨sb, 5, none⟩ = some (.int .i64 z) := kc ((Keep.refl wr).drew) c5
                have f5' : wr.drew.frozen? ⟨sb, 5, none⟩ = false := f5
                go_upto_region 11 with fail
                clear c5 c6 f5
                refine wp_region_held_drew (S := (fun w' => w'.cell? ⟨sb, 5, none⟩ = some (.int .i64 z) ∧ w'.cell? ⟨sb, 6, none⟩ = some (.int .i64 bud))) (by kernel_rfl) (by exact unhide S11 _ ((Keep.refl _).drew)) (fun hHeld => ?_)
                refine wpAnyH_take (i := 0) (v := ?_) rfl (by kernel_rfl) (by kernel_rfl) (by kernel_rfl) (fun _ _ _ h => h) (Or.inl ⟨by rfl, ?_⟩) hHeld ?_
                rotate_left
                · intro w hSw
                  try dsimp only at hSw
                  go_simp
                  try with_reducible rfl
                show wpAnyH _ _ _ _ _ _ _ (Act.put _ (some 55) _) _
                try simp only [Act.put, List.setIfInBounds_toArray, List.set_cons_zero, List.set_cons_succ]
                refine wpAnyH_take (i := 1) (v := ?_) rfl (by kernel_rfl) (by kernel_rfl) (by kernel_rfl) (fun _ _ _ h => h) (Or.inl ⟨by rfl, ?_⟩) hHeld ?_
                rotate_left
                · intro w hSw
                  try dsimp only at hSw
                  go_simp
                  try with_reducible rfl
                show wpAnyH _ _ _ _ _ _ _ (Act.put _ (some 56) _) _
                try simp only [Act.put, List.setIfInBounds_toArray, List.set_cons_zero, List.set_cons_succ]
                refine wpAnyH_take (i := 2) (v := ?_) rfl (by kernel_rfl) (by kernel_rfl) (by kernel_rfl) (fun _ _ _ h => h) (Or.inl ⟨by rfl, ?_⟩) hHeld ?_
                rotate_left
                · intro w hSw
                  try dsimp only at hSw
                  go_simp
                  try with_reducible rfl
                show wpAnyH _ _ _ _ _ _ _ (Act.put _ (some 57) _) _
                try simp only [Act.put, List.setIfInBounds_toArray, List.set_cons_zero, List.set_cons_succ]
                refine wpAnyH_take (i := 3) (v := ?_) rfl (by kernel_rfl) (by kernel_rfl) (by kernel_rfl) (fun _ _ _ h => h) (Or.inl ⟨by rfl, ?_⟩) hHeld ?_
                rotate_left
                · intro w hSw
                  try dsimp only at hSw
                  go_simp
                  try with_reducible rfl
                show wpAnyH _ _ _ _ _ _ _ (Act.put _ (some 58) _) _
                try simp only [Act.put, List.setIfInBounds_toArray, List.set_cons_zero, List.set_cons_succ]
                refine wpAnyH_take (i := 4) (v := ?_) rfl (by kernel_rfl) (by kernel_rfl) (by kernel_rfl) (fun _ _ _ h => h) (Or.inl ⟨by rfl, ?_⟩) hHeld ?_
                rotate_left
                · intro w hSw
                  try dsimp only at hSw
                  go_simp
                  try with_reducible rfl
                show wpAnyH _ _ _ _ _ _ _ (Act.put _ (some 59) _) _
                try simp only [Act.put, List.setIfInBounds_toArray, List.set_cons_zero, List.set_cons_succ]
                refine wpAnyH_take (i := 5) (v := ?_) rfl (by kernel_rfl) (by kernel_rfl) (by kernel_rfl) (fun _ _ _ h => h) (Or.inl ⟨by rfl, ?_⟩) hHeld ?_
                rotate_left
                · intro w hSw
                  try dsimp only at hSw
                  go_simp
                  try with_reducible rfl
                show wpAnyH _ _ _ _ _ _ _ (Act.put _ (some 60) _) _
                try simp only [Act.put, List.setIfInBounds_toArray, List.set_cons_zero, List.set_cons_succ]
                refine wpAnyH_take (i := 6) (v := ?_) rfl (by kernel_rfl) (by kernel_rfl) (by kernel_rfl) (fun _ _ _ h => h) (Or.inl ⟨by rfl, ?_⟩) hHeld ?_
                rotate_left
                · intro w hSw
                  try dsimp only at hSw
                  go_simp
                  try with_reducible rfl
                show wpAnyH _ _ _ _ _ _ _ (Act.put _ (some 61) _) _
                try simp only [Act.put, List.setIfInBounds_toArray, List.set_cons_zero, List.set_cons_succ]
                refine wpAnyH_take (i := 7) (v := ?_) rfl (by kernel_rfl) (by kernel_rfl) (by kernel_rfl) (fun _ _ _ h => h) (Or.inl ⟨by rfl, ?_⟩) hHeld ?_
                rotate_left
                · intro w hSw
                  try dsimp only at hSw
                  go_simp
                  try with_reducible rfl
                show wpAnyH _ _ _ _ _ _ _ (Act.put _ (some 62) _) _
                try simp only [Act.put, List.setIfInBounds_toArray, List.set_cons_zero, List.set_cons_succ]
                refine wpAnyH_take (i := 8) (v := ?_) rfl (by kernel_rfl) (by kernel_rfl) (by kernel_rfl) (fun _ _ _ h => h) (Or.inl ⟨by rfl, ?_⟩) hHeld ?_
                rotate_left
                · intro w hSw
                  try dsimp only at hSw
                  go_simp
                  try with_reducible rfl
                show wpAnyH _ _ _ _ _ _ _ (Act.put _ (some 63) _) _
                try simp only [Act.put, List.setIfInBounds_toArray, List.set_cons_zero, List.set_cons_succ]
                refine wpAnyH_done (by kernel_rfl) ?_ _
                clear hHeld
                clear S11
                have hcw : wrap64 (((tl + 1 : Nat) : Int) - 1) = (tl : Int) := by rw [w64 (by omega) (by omega)]; omega
                go_upto_region 14 with fail
                have D7 := (Keep.refl (wr.setCell ⟨sb, 5, none⟩ (.int .i64 z2))).drew
                have SW8 := hide ((unhide SW7).mv D7)
                have KT9 := hide ((unhide KT8).trans (Kt.of D7))
                have KU9 := hide ((unhide KU8).trans (Kt.of D7))
                have LT8 := hide ((unhide LT7).keep D7)
                have p0' := kc D7 p0
                have p1' := kc D7 p1
                clear p0 p1 D7 SW7 KT8 KU8 LT7 LF7 SW KTW KUW LF c5' f5'
                generalize (wr.setCell ⟨sb, 5, none⟩ (.int .i64 z2)).drew = w8 at SW8 KT9 KU9 LT8 p0' p1' ⊢
                have A8 := (Keep.refl w8).alloc (.cells #[.int .i64 (nL : Int), .int .u64 (xL : Int)] 69)
                have SW10 := hide ((unhide SW8).mv A8)
                have KT10 := hide ((unhide KT9).trans (Kt.of A8))
                have KU10 := hide ((unhide KU9).trans (Kt.of A8))
                have LT10 := hide ((unhide LT8).keep A8)
                have b0 := box_c w8 [.int .i64 (nL : Int), .int .u64 (xL : Int)] 69 0 _ rfl
                have b1 := box_c w8 [.int .i64 (nL : Int), .int .u64 (xL : Int)] 69 1 _ rfl
                have hgp := (World.ownsRow.lt (unhide LT8) g rfl).2
                clear SW8 KT9 KU9 LT8 A8
                go_upto_region 15 with fail
                clear p0' p1'
                generalize w8.alloc (.cells #[.int .i64 (nL : Int), .int .u64 (xL : Int)] 69) = w10 at SW10 KT10 KU10 LT10 b0 b1 ⊢
                generalize w8.heap.size = pb at b0 b1 hgp ⊢
                have HGP := hide hgp
                clear hgp
                have lt2 : (tl : Int) ≤ (cl : Int) := by omega
                have lt3 : tl ≤ cl := by omega
                go_upto_region 16 with fail
                clear lt2 lt3 hcw l0
                obtain ⟨x3, vo3, st3, hbx, hB⟩ := (unhide SW10).box
                obtain ⟨-, -, -, c3, c4, -, -, c7, -, -⟩ := sv_at hbx
                have G10 := hide ((unhide G5).kt (unhide KU10) (by decide) (by decide) (by decide) (by decide))
                have W10 := hide ((unhide W5).kt (unhide KU10) (by decide) (by decide))
                have HGB : w10.cell? ⟨gb, 0, none⟩ = some (.int .i64 (ptN RR RR.length : Int)) := by
                  obtain ⟨pl, mk, ph, hb, -⟩ := unhide G10
                  exact (box_at hb).1
                have S16 : Hid (∀ w', Keep w10 w' → w'.cell? ⟨gb, 0, none⟩ = some (.int .i64 (ptN RR RR.length : Int)) ∧ w'.cell? ⟨sb, 3, none⟩ = some (.slice ad D.length cd) ∧ w'.cell? ⟨pb, 0, none⟩ = some (.int .i64 (nL : Int)) ∧ w'.cell? ⟨pb, 1, none⟩ = some (.int .u64 (xL : Int))) := hide (fun w' hk => ⟨kc hk HGB, kc hk c3, kc hk b0, kc hk b1⟩)
                have TE1 := hide ((unhide TE) i j gb _ L w10.drew hlt hjl (by rw [unhide HNL]; exact hL) (unhide SW10).keep.drew (by rw [unhide HP, unhide HQQ]; exact (unhide G10).keep (Keep.refl w10).drew))
                have TL1 := hide (fun v w' h => (unhide TL) i j L v w' hlt hjl (by rw [unhide HNL]; exact hL) h)
                have HV1 := hide ((unhide HV) i j L hlt hjl (by rw [unhide HNL]; exact hL))
                rw [unhide HP, unhide HQQ, unhide HNL, unhide HXL] at TE1
                rw [unhide HP, unhide HQQ] at TL1 HV1
                have HC3 := hide c3
                clear hbx HGB c3
                obtain ⟨er, hER⟩ : ∃ e, (lg (ptN RR RR.length : Int) (edF RR D (p, q) L)).2 = e := ⟨_, rfl⟩
                obtain ⟨dd, hDD⟩ : ∃ d, (lg (ptN RR RR.length : Int) (edF RR D (p, q) L)).1 = d := ⟨_, rfl⟩
                have hfN : fN RR D (p, q) L = if er = 0 then some (((p, q), dd), dd.getD 1 0) else none := by unfold fN; rw [hER, hDD]
                have HFN := hide hfN
                have TL3 : Hid (∀ v w', Es w' v (edF RR D (p, q) L) → Calls Try.prog 36 #[.int .i64 (ptN RR RR.length : Int), v] w' (fun e w2 => ∃ u, e = .returned (.tuple #[u, .int .i64 er]) ∧ Keep w' w2 ∧ Iw T2 w2 u dd)) := hide (fun v w' h => by
                  have h1 := (unhide TL1) v w' h
                  unfold Lq at h1
                  rw [hER, hDD] at h1
                  exact h1)
                rw [hER, hDD] at HV1
                clear hfN hER hDD TL1
                obtain ⟨EE, hEE⟩ : ∃ e, edF RR D (p, q) L = e := ⟨_, rfl⟩
                rw [hEE] at TE1 TL3
                obtain ⟨NP, hNP⟩ : ∃ e, (ptN RR RR.length : Int) = e := ⟨_, rfl⟩
                rw [hNP] at TL3 S16
                clear hEE
                refine wp_region_held_drew (S := (fun w' => w'.cell? ⟨gb, 0, none⟩ = some (.int .i64 NP) ∧ w'.cell? ⟨sb, 3, none⟩ = some (.slice ad D.length cd) ∧ w'.cell? ⟨pb, 0, none⟩ = some (.int .i64 (nL : Int)) ∧ w'.cell? ⟨pb, 1, none⟩ = some (.int .u64 (xL : Int)))) (by kernel_rfl) (by exact unhide S16 _ ((Keep.refl _).drew)) (fun hHeld => ?_)
                refine wpAnyH_take (i := 0) (v := ?_) rfl (by kernel_rfl) (by kernel_rfl) (by kernel_rfl) (fun _ _ _ h => h) (Or.inl ⟨by rfl, ?_⟩) hHeld ?_
                rotate_left
                · intro w hSw
                  try dsimp only at hSw
                  go_simp
                  try with_reducible rfl
                show wpAnyH _ _ _ _ _ _ _ (Act.put _ (some 83) _) _
                try simp only [Act.put, List.setIfInBounds_toArray, List.set_cons_zero, List.set_cons_succ]
                refine wpAnyH_take (i := 1) (v := ?_) rfl (by kernel_rfl) (by kernel_rfl) (by kernel_rfl) (fun _ _ _ h => h) (Or.inl ⟨by rfl, ?_⟩) hHeld ?_
                rotate_left
                · intro w hSw
                  try dsimp only at hSw
                  go_simp
                  try with_reducible rfl
                show wpAnyH _ _ _ _ _ _ _ (Act.put _ (some 84) _) _
                try simp only [Act.put, List.setIfInBounds_toArray, List.set_cons_zero, List.set_cons_succ]
                refine wpAnyH_take (i := 2) (v := ?_) rfl (by kernel_rfl) (by kernel_rfl) (by kernel_rfl) (fun _ _ _ h => h) (Or.inl ⟨by rfl, ?_⟩) hHeld ?_
                rotate_left
                · intro w hSw
                  try dsimp only at hSw
                  go_simp
                  try with_reducible rfl
                show wpAnyH _ _ _ _ _ _ _ (Act.put _ (some 85) _) _
                try simp only [Act.put, List.setIfInBounds_toArray, List.set_cons_zero, List.set_cons_succ]
                refine wpAnyH_take (i := 3) (v := ?_) rfl (by kernel_rfl) (by kernel_rfl) (by kernel_rfl) (fun _ _ _ h => h) (Or.inl ⟨by rfl, ?_⟩) hHeld ?_
                rotate_left
                · intro w hSw
                  try dsimp only at hSw
                  go_simp
                  try with_reducible rfl
                show wpAnyH _ _ _ _ _ _ _ (Act.put _ (some 86) _) _
                try simp only [Act.put, List.setIfInBounds_toArray, List.set_cons_zero, List.set_cons_succ]
                refine wpAnyH_take (i := 4) (v := ?_) rfl (by kernel_rfl) (by kernel_rfl) (by kernel_rfl) (fun _ _ _ h => h) (Or.inl ⟨by rfl, ?_⟩) hHeld ?_
                rotate_left
                · intro w hSw
                  try dsimp only at hSw
                  go_simp
                  try with_reducible rfl
                show wpAnyH _ _ _ _ _ _ _ (Act.put _ (some 87) _) _
                try simp only [Act.put, List.setIfInBounds_toArray, List.set_cons_zero, List.set_cons_succ]
                refine wpAnyH_take (i := 5) (v := ?_) rfl (by kernel_rfl) (by kernel_rfl) (by kernel_rfl) (fun _ _ _ h => h) (Or.inl ⟨by rfl, ?_⟩) hHeld ?_
                rotate_left
                · intro w hSw
                  try dsimp only at hSw
                  go_simp
                  try with_reducible rfl
                show wpAnyH _ _ _ _ _ _ _ (Act.put _ (some 88) _) _
                try simp only [Act.put, List.setIfInBounds_toArray, List.set_cons_zero, List.set_cons_succ]
                refine wpAnyH_take (i := 6) (v := ?_) rfl (by kernel_rfl) (by kernel_rfl) (by kernel_rfl) (fun _ _ _ h => h) (Or.inl ⟨by rfl, ?_⟩) hHeld ?_
                rotate_left
                · intro w hSw
                  try dsimp only at hSw
                  go_simp
                  try with_reducible rfl
                show wpAnyH _ _ _ _ _ _ _ (Act.put _ (some 89) _) _
                try simp only [Act.put, List.setIfInBounds_toArray, List.set_cons_zero, List.set_cons_succ]
                refine wpAnyH_take (i := 7) (v := ?_) rfl (by kernel_rfl) (by kernel_rfl) (by kernel_rfl) (fun _ _ _ h => h) (Or.inl ⟨by rfl, ?_⟩) hHeld ?_
                rotate_left
                · intro w hSw
                  try dsimp only at hSw
                  go_simp
                  try with_reducible rfl
                show wpAnyH _ _ _ _ _ _ _ (Act.put _ (some 90) _) _
                try simp only [Act.put, List.setIfInBounds_toArray, List.set_cons_zero, List.set_cons_succ]
                refine wpAnyH_take (i := 8) (v := ?_) rfl (by kernel_rfl) (by kernel_rfl) (by kernel_rfl) (fun _ _ _ h => h) (Or.inl ⟨by rfl, ?_⟩) hHeld ?_
                rotate_left
                · intro w hSw
                  try dsimp only at hSw
                  go_simp
                  try with_reducible rfl
                show wpAnyH _ _ _ _ _ _ _ (Act.put _ (some 91) _) _
                try simp only [Act.put, List.setIfInBounds_toArray, List.set_cons_zero, List.set_cons_succ]
                refine wpAnyH_take (i := 9) (v := ?_) rfl (by kernel_rfl) (by kernel_rfl) (by kernel_rfl) (fun _ _ _ h => h) (Or.inl ⟨by rfl, ?_⟩) hHeld ?_
                rotate_left
                · intro w hSw
                  try dsimp only at hSw
                  go_simp
                  try with_reducible rfl
                show wpAnyH _ _ _ _ _ _ _ (Act.put _ (some 92) _) _
                try simp only [Act.put, List.setIfInBounds_toArray, List.set_cons_zero, List.set_cons_succ]
                refine wpAnyH_ready (rs := [10]) (by kernel_rfl) (by simp) ?_
                refine AllReadyH.cons rfl (fun K hK => ?_) AllReadyH.nil
                go_simp
                clear hHeld
                (refine (unhide TE1).mono ?_; rintro e w11 ⟨v11, rfl, hk11, he11⟩; have E11 := hide he11)
                try go_wp2_with fail
                refine hK.out _ _ ?_ (fun hHeld => ?_)
                · exact unhide S16 _ (Keep.trans (Keep.drew (Keep.refl w10)) hk11)
                clear hK K
                try simp only [Act.put, List.setIfInBounds_toArray, List.set_cons_zero, List.set_cons_succ]
                have TL2 := (unhide TL3) v11 w11 (unhide E11)
                clear hNP
                obtain ⟨a11, c11, hv11, -⟩ := unhide E11
                generalize EE.length = l11 at hv11
                subst hv11
                refine wpAnyH_ready (rs := [11]) (by kernel_rfl) (by simp) ?_
                refine AllReadyH.cons rfl (fun K hK => ?_) AllReadyH.nil
                go_simp
                clear hHeld
                (refine TL2.mono ?_; rintro e w12 ⟨u12, rfl, hk12, hi12⟩; have I12 := hide hi12; obtain ⟨a12, c12, hv12⟩ := hi12.sl; obtain ⟨l12, hl12⟩ : ∃ l, dd.length = l := ⟨_, rfl⟩; rw [hl12] at hv12; have HL12 := hide hl12; subst hv12; clear hi12 hl12)
                try go_wp2_with fail
                refine hK.out _ _ ?_ (fun hHeld => ?_)
                · exact unhide S16 _ (Keep.trans (Keep.trans (Keep.drew (Keep.refl w10)) hk11) hk12)
                clear hK K
                try simp only [Act.put, List.setIfInBounds_toArray, List.set_cons_zero, List.set_cons_succ]
                refine wpAnyH_take (i := 12) (v := ?_) rfl (by kernel_rfl) (by kernel_rfl) (by kernel_rfl) (fun _ _ _ h => h) (Or.inl ⟨by rfl, ?_⟩) hHeld ?_
                rotate_left
                · intro w hSw
                  try dsimp only at hSw
                  go_simp
                  try with_reducible rfl
                show wpAnyH _ _ _ _ _ _ _ (Act.put _ (some 82) _) _
                try simp only [Act.put, List.setIfInBounds_toArray, List.set_cons_zero, List.set_cons_succ]
                refine wpAnyH_take (i := 13) (v := ?_) rfl (by kernel_rfl) (by kernel_rfl) (by kernel_rfl) (fun _ _ _ h => h) (Or.inl ⟨by rfl, ?_⟩) hHeld ?_
                rotate_left
                · intro w hSw
                  try dsimp only at hSw
                  go_simp
                  try with_reducible rfl
                show wpAnyH _ _ _ _ _ _ _ (Act.put _ (some 95) _) _
                try simp only [Act.put, List.setIfInBounds_toArray, List.set_cons_zero, List.set_cons_succ]
                refine wpAnyH_take (i := 14) (v := ?_) rfl (by kernel_rfl) (by kernel_rfl) (by kernel_rfl) (fun _ _ _ h => h) (Or.inl ⟨by rfl, ?_⟩) hHeld ?_
                rotate_left
                · intro w hSw
                  try dsimp only at hSw
                  go_simp
                  try with_reducible rfl
                show wpAnyH _ _ _ _ _ _ _ (Act.put _ (some 96) _) _
                try simp only [Act.put, List.setIfInBounds_toArray, List.set_cons_zero, List.set_cons_succ]
                refine wpAnyH_take (i := 15) (v := ?_) rfl (by kernel_rfl) (by kernel_rfl) (by kernel_rfl) (fun _ _ _ h => h) (Or.inl ⟨by rfl, ?_⟩) hHeld ?_
                rotate_left
                · intro w hSw
                  try dsimp only at hSw
                  go_simp
                  try with_reducible rfl
                show wpAnyH _ _ _ _ _ _ _ (Act.put _ (some 11) _) _
                try simp only [Act.put, List.setIfInBounds_toArray, List.set_cons_zero, List.set_cons_succ]
                refine wpAnyH_take (i := 16) (v := ?_) rfl (by kernel_rfl) (by kernel_rfl) (by kernel_rfl) (fun _ _ _ h => h) (Or.inl ⟨by rfl, ?_⟩) hHeld ?_
                rotate_left
                · intro w hSw
                  try dsimp only at hSw
                  go_simp
                  try with_reducible rfl
                show wpAnyH _ _ _ _ _ _ _ (Act.put _ (some 12) _) _
                try simp only [Act.put, List.setIfInBounds_toArray, List.set_cons_zero, List.set_cons_succ]
                refine wpAnyH_done (by kernel_rfl) ?_ _
                clear hHeld
                have K12 : Hid (Keep w10 w12) := hide (Keep.trans (Keep.trans (Keep.drew (Keep.refl w10)) hk11) hk12)
                have SW12 := hide ((unhide SW10).mv (unhide K12))
                have KT12 := hide ((unhide KT10).trans (Kt.of (unhide K12)))
                have KU12 := hide ((unhide KU10).trans (Kt.of (unhide K12)))
                have LT12 := hide ((unhide LT10).keep (unhide K12))
                have b0' := kc (unhide K12) b0
                have b1' := kc (unhide K12) b1
                have c4' := kc (unhide K12) c4
                have c3' := kc (unhide K12) (unhide HC3)
                have c7' := kc (unhide K12) c7
                have SIT2 : Hid (SI T ∧ ∀ L ∈ T, L.length ≤ D.length) := hide ⟨(unhide SIT).1.2, fun M hM => (unhide SIT).2 M (by simp [hM])⟩
                have LK2 : Hid (k ≤ k0) := hide (by omega)
                clear S16 TE1 TL3 SW10 KT10 KU10 LT10 G10 W10 K12 hk11 hk12 TL2 E11 b0 b1 c4 c7 hkk LK
                by_cases hE : er = 0
                · subst hE
                  obtain ⟨hv1, hv2, hv3⟩ := (unhide HV1) rfl
                  obtain ⟨gd, ed, yc⟩ := iw_at (unhide I12) (k := 1) (by rw [hv1]; omega)
                  subst ed
                  have hl12 : 1 < (l12 : Int) := by rw [← unhide HL12, hv1]; omega
                  obtain ⟨yy, hyy⟩ : ∃ y, dd.getD 1 0 = y := ⟨_, rfl⟩
                  rw [hyy] at yc hv2
                  have hfn : fN RR D (p, q) L = some (((p, q), dd), yy) := by rw [unhide HFN, if_pos rfl, hyy]
                  have HYY := hide hyy
                  have hltx := lt_x hB hv2
                  have HHB := hide hB
                  clear hyy hB HV1
                  have S17 : Hid (∀ w', Keep w12 w' → w'.cell? ⟨sb, 7, none⟩ = some (.int .i64 x3) ∧ w'.cell? ⟨gd, 1, none⟩ = some (.int .i64 yy)) := hide (fun w' hk => ⟨kc hk c7', kc hk yc⟩)
                  have D12 := (Keep.refl w12).drew
                  have SW13 := hide ((unhide SW12).mv D12)
                  have KT13 := hide ((unhide KT12).trans (Kt.of D12))
                  have KU13 := hide ((unhide KU12).trans (Kt.of D12))
                  have LT13 := hide ((unhide LT12).keep D12)
                  have I13 := hide (Iw.keep (unhide I12) D12)
                  have b0d := kc D12 b0'
                  have b1d := kc D12 b1'
                  have c3d := kc D12 c3'
                  have c4d := kc D12 c4'
                  clear D12 SW12 KT12 KU12 LT12 I12 b0' b1' c3' c4' yc
                  by_cases hcmp : x3 ≤ yy
                  · have hlt9 : lt B yy = false := by rw [hltx, decide_eq_false (by omega)]
                    have GW9 : Hid (go (fN RR D) D.length fl k B (T.map (fun L => (((p, q) : O2), L)) ++ RT) = GO) := hide (by
                      have h := unhide GW
                      rw [List.map_cons, List.cons_append, go_long (by exact hfn) hlt9] at h
                      exact h)
                    have hge : decide (x3 ≤ yy) = true := decide_eq_true hcmp
                    clear hfn hltx hlt9 b0d b1d c3d c4d c7' hcmp
                    go_upto_region 17 with fail
                    refine wp_region_held_drew (S := (fun w' => w'.cell? ⟨sb, 7, none⟩ = some (.int .i64 x3) ∧ w'.cell? ⟨gd, 1, none⟩ = some (.int .i64 yy))) (by kernel_rfl) (by exact unhide S17 _ ((Keep.refl _).drew)) (fun hHeld => ?_)
                    refine wpAnyH_take (i := 0) (v := ?_) rfl (by kernel_rfl) (by kernel_rfl) (by kernel_rfl) (fun _ _ _ h => h) (Or.inl ⟨by rfl, ?_⟩) hHeld ?_
                    rotate_left
                    · intro w hSw
                      try dsimp only at hSw
                      go_simp
                      try with_reducible rfl
                    show wpAnyH _ _ _ _ _ _ _ (Act.put _ (some 97) _) _
                    try simp only [Act.put, List.setIfInBounds_toArray, List.set_cons_zero, List.set_cons_succ]
                    refine wpAnyH_take (i := 1) (v := ?_) rfl (by kernel_rfl) (by kernel_rfl) (by kernel_rfl) (fun _ _ _ h => h) (Or.inl ⟨by rfl, ?_⟩) hHeld ?_
                    rotate_left
                    · intro w hSw
                      try dsimp only at hSw
                      go_simp
                      try with_reducible rfl
                    show wpAnyH _ _ _ _ _ _ _ (Act.put _ (some 98) _) _
                    try simp only [Act.put, List.setIfInBounds_toArray, List.set_cons_zero, List.set_cons_succ]
                    refine wpAnyH_take (i := 2) (v := ?_) rfl (by kernel_rfl) (by kernel_rfl) (by kernel_rfl) (fun _ _ _ h => h) (Or.inl ⟨by rfl, ?_⟩) hHeld ?_
                    rotate_left
                    · intro w hSw
                      try dsimp only at hSw
                      go_simp
                      try with_reducible rfl
                    show wpAnyH _ _ _ _ _ _ _ (Act.put _ (some 99) _) _
                    try simp only [Act.put, List.setIfInBounds_toArray, List.set_cons_zero, List.set_cons_succ]
                    refine wpAnyH_take (i := 3) (v := ?_) rfl (by kernel_rfl) (by kernel_rfl) (by kernel_rfl) (fun _ _ _ h => h) (Or.inl ⟨by rfl, ?_⟩) hHeld ?_
                    rotate_left
                    · intro w hSw
                      try dsimp only at hSw
                      go_simp
                      try with_reducible rfl
                    show wpAnyH _ _ _ _ _ _ _ (Act.put _ (some 100) _) _
                    try simp only [Act.put, List.setIfInBounds_toArray, List.set_cons_zero, List.set_cons_succ]
                    refine wpAnyH_take (i := 4) (v := ?_) rfl (by kernel_rfl) (by kernel_rfl) (by kernel_rfl) (fun _ _ _ h => h) (Or.inl ⟨by rfl, ?_⟩) hHeld ?_
                    rotate_left
                    · intro w hSw
                      try dsimp only at hSw
                      go_simp
                      try with_reducible rfl
                    show wpAnyH _ _ _ _ _ _ _ (Act.put _ (some 101) _) _
                    try simp only [Act.put, List.setIfInBounds_toArray, List.set_cons_zero, List.set_cons_succ]
                    refine wpAnyH_take (i := 5) (v := ?_) rfl (by kernel_rfl) (by kernel_rfl) (by kernel_rfl) (fun _ _ _ h => h) (Or.inl ⟨by rfl, ?_⟩) hHeld ?_
                    rotate_left
                    · intro w hSw
                      try dsimp only at hSw
                      go_simp
                      try with_reducible rfl
                    show wpAnyH _ _ _ _ _ _ _ (Act.put _ (some 102) _) _
                    try simp only [Act.put, List.setIfInBounds_toArray, List.set_cons_zero, List.set_cons_succ]
                    refine wpAnyH_take (i := 6) (v := ?_) rfl (by kernel_rfl) (by kernel_rfl) (by kernel_rfl) (fun _ _ _ h => h) (Or.inl ⟨by rfl, ?_⟩) hHeld ?_
                    rotate_left
                    · intro w hSw
                      try dsimp only at hSw
                      go_simp
                      try with_reducible rfl
                    show wpAnyH _ _ _ _ _ _ _ (Act.put _ (some 103) _) _
                    try simp only [Act.put, List.setIfInBounds_toArray, List.set_cons_zero, List.set_cons_succ]
                    refine wpAnyH_take (i := 7) (v := ?_) rfl (by kernel_rfl) (by kernel_rfl) (by kernel_rfl) (fun _ _ _ h => h) (Or.inl ⟨by rfl, ?_⟩) hHeld ?_
                    rotate_left
                    · intro w hSw
                      try dsimp only at hSw
                      go_simp
                      try with_reducible rfl
                    show wpAnyH _ _ _ _ _ _ _ (Act.put _ (some 104) _) _
                    try simp only [Act.put, List.setIfInBounds_toArray, List.set_cons_zero, List.set_cons_succ]
                    refine wpAnyH_take (i := 8) (v := ?_) rfl (by kernel_rfl) (by kernel_rfl) (by kernel_rfl) (fun _ _ _ h => h) (Or.inl ⟨by rfl, ?_⟩) hHeld ?_
                    rotate_left
                    · intro w hSw
                      try dsimp only at hSw
                      go_simp
                      try with_reducible rfl
                    show wpAnyH _ _ _ _ _ _ _ (Act.put _ (some 105) _) _
                    try simp only [Act.put, List.setIfInBounds_toArray, List.set_cons_zero, List.set_cons_succ]
                    refine wpAnyH_take (i := 9) (v := ?_) rfl (by kernel_rfl) (by kernel_rfl) (by kernel_rfl) (fun _ _ _ h => h) (Or.inl ⟨by rfl, ?_⟩) hHeld ?_
                    rotate_left
                    · intro w hSw
                      try dsimp only at hSw
                      go_simp
                      try with_reducible rfl
                    show wpAnyH _ _ _ _ _ _ _ (Act.put _ (some 106) _) _
                    try simp only [Act.put, List.setIfInBounds_toArray, List.set_cons_zero, List.set_cons_succ]
                    refine wpAnyH_take (i := 10) (v := ?_) rfl (by kernel_rfl) (by kernel_rfl) (by kernel_rfl) (fun _ _ _ h => h) (Or.inl ⟨by rfl, ?_⟩) hHeld ?_
                    rotate_left
                    · intro w hSw
                      try dsimp only at hSw
                      go_simp
                      try with_reducible rfl
                    show wpAnyH _ _ _ _ _ _ _ (Act.put _ (some 107) _) _
                    try simp only [Act.put, List.setIfInBounds_toArray, List.set_cons_zero, List.set_cons_succ]
                    refine wpAnyH_take (i := 11) (v := ?_) rfl (by kernel_rfl) (by kernel_rfl) (by kernel_rfl) (fun _ _ _ h => h) (Or.inl ⟨by rfl, ?_⟩) hHeld ?_
                    rotate_left
                    · intro w hSw
                      try dsimp only at hSw
                      go_simp
                      try with_reducible rfl
                    show wpAnyH _ _ _ _ _ _ _ (Act.put _ (some 108) _) _
                    try simp only [Act.put, List.setIfInBounds_toArray, List.set_cons_zero, List.set_cons_succ]
                    refine wpAnyH_take (i := 12) (v := ?_) rfl (by kernel_rfl) (by kernel_rfl) (by kernel_rfl) (fun _ _ _ h => h) (Or.inl ⟨by rfl, ?_⟩) hHeld ?_
                    rotate_left
                    · intro w hSw
                      try dsimp only at hSw
                      go_simp
                      try with_reducible rfl
                    show wpAnyH _ _ _ _ _ _ _ (Act.put _ (some 109) _) _
                    try simp only [Act.put, List.setIfInBounds_toArray, List.set_cons_zero, List.set_cons_succ]
                    refine wpAnyH_done (by kernel_rfl) ?_ _
                    clear hHeld
                    go_wp2_with fail
                    go_roundw
                    case rel => exact ⟨T, k, B, hide (by rw [Lf, unhide HTL]; exact (by have h := unhide LT13; rw [Lf, unhide HTL] at h; exact h)), SIT2, SW13, GW9, KT13, KU13, LK2⟩
                    case measure => exact (unhide MS) _ _ (unhide SW13)
                  · have hlt9 : lt B yy = true := by rw [hltx, decide_eq_true (by omega)]
                    have hge : decide (x3 ≤ yy) = false := decide_eq_false hcmp
                    clear hltx hcmp c7'
                    go_upto_region 17 with fail
                    refine wp_region_held_drew (S := (fun w' => w'.cell? ⟨sb, 7, none⟩ = some (.int .i64 x3) ∧ w'.cell? ⟨gd, 1, none⟩ = some (.int .i64 yy))) (by kernel_rfl) (by exact unhide S17 _ ((Keep.refl _).drew)) (fun hHeld => ?_)
                    refine wpAnyH_take (i := 0) (v := ?_) rfl (by kernel_rfl) (by kernel_rfl) (by kernel_rfl) (fun _ _ _ h => h) (Or.inl ⟨by rfl, ?_⟩) hHeld ?_
                    rotate_left
                    · intro w hSw
                      try dsimp only at hSw
                      go_simp
                      try with_reducible rfl
                    show wpAnyH _ _ _ _ _ _ _ (Act.put _ (some 97) _) _
                    try simp only [Act.put, List.setIfInBounds_toArray, List.set_cons_zero, List.set_cons_succ]
                    refine wpAnyH_take (i := 1) (v := ?_) rfl (by kernel_rfl) (by kernel_rfl) (by kernel_rfl) (fun _ _ _ h => h) (Or.inl ⟨by rfl, ?_⟩) hHeld ?_
                    rotate_left
                    · intro w hSw
                      try dsimp only at hSw
                      go_simp
                      try with_reducible rfl
                    show wpAnyH _ _ _ _ _ _ _ (Act.put _ (some 98) _) _
                    try simp only [Act.put, List.setIfInBounds_toArray, List.set_cons_zero, List.set_cons_succ]
                    refine wpAnyH_take (i := 2) (v := ?_) rfl (by kernel_rfl) (by kernel_rfl) (by kernel_rfl) (fun _ _ _ h => h) (Or.inl ⟨by rfl, ?_⟩) hHeld ?_
                    rotate_left
                    · intro w hSw
                      try dsimp only at hSw
                      go_simp
                      try with_reducible rfl
                    show wpAnyH _ _ _ _ _ _ _ (Act.put _ (some 99) _) _
                    try simp only [Act.put, List.setIfInBounds_toArray, List.set_cons_zero, List.set_cons_succ]
                    refine wpAnyH_take (i := 3) (v := ?_) rfl (by kernel_rfl) (by kernel_rfl) (by kernel_rfl) (fun _ _ _ h => h) (Or.inl ⟨by rfl, ?_⟩) hHeld ?_
                    rotate_left
                    · intro w hSw
                      try dsimp only at hSw
                      go_simp
                      try with_reducible rfl
                    show wpAnyH _ _ _ _ _ _ _ (Act.put _ (some 100) _) _
                    try simp only [Act.put, List.setIfInBounds_toArray, List.set_cons_zero, List.set_cons_succ]
                    refine wpAnyH_take (i := 4) (v := ?_) rfl (by kernel_rfl) (by kernel_rfl) (by kernel_rfl) (fun _ _ _ h => h) (Or.inl ⟨by rfl, ?_⟩) hHeld ?_
                    rotate_left
                    · intro w hSw
                      try dsimp only at hSw
                      go_simp
                      try with_reducible rfl
                    show wpAnyH _ _ _ _ _ _ _ (Act.put _ (some 101) _) _
                    try simp only [Act.put, List.setIfInBounds_toArray, List.set_cons_zero, List.set_cons_succ]
                    refine wpAnyH_take (i := 5) (v := ?_) rfl (by kernel_rfl) (by kernel_rfl) (by kernel_rfl) (fun _ _ _ h => h) (Or.inl ⟨by rfl, ?_⟩) hHeld ?_
                    rotate_left
                    · intro w hSw
                      try dsimp only at hSw
                      go_simp
                      try with_reducible rfl
                    show wpAnyH _ _ _ _ _ _ _ (Act.put _ (some 102) _) _
                    try simp only [Act.put, List.setIfInBounds_toArray, List.set_cons_zero, List.set_cons_succ]
                    refine wpAnyH_take (i := 6) (v := ?_) rfl (by kernel_rfl) (by kernel_rfl) (by kernel_rfl) (fun _ _ _ h => h) (Or.inl ⟨by rfl, ?_⟩) hHeld ?_
                    rotate_left
                    · intro w hSw
                      try dsimp only at hSw
                      go_simp
                      try with_reducible rfl
                    show wpAnyH _ _ _ _ _ _ _ (Act.put _ (some 103) _) _
                    try simp only [Act.put, List.setIfInBounds_toArray, List.set_cons_zero, List.set_cons_succ]
                    refine wpAnyH_take (i := 7) (v := ?_) rfl (by kernel_rfl) (by kernel_rfl) (by kernel_rfl) (fun _ _ _ h => h) (Or.inl ⟨by rfl, ?_⟩) hHeld ?_
                    rotate_left
                    · intro w hSw
                      try dsimp only at hSw
                      go_simp
                      try with_reducible rfl
                    show wpAnyH _ _ _ _ _ _ _ (Act.put _ (some 104) _) _
                    try simp only [Act.put, List.setIfInBounds_toArray, List.set_cons_zero, List.set_cons_succ]
                    refine wpAnyH_take (i := 8) (v := ?_) rfl (by kernel_rfl) (by kernel_rfl) (by kernel_rfl) (fun _ _ _ h => h) (Or.inl ⟨by rfl, ?_⟩) hHeld ?_
                    rotate_left
                    · intro w hSw
                      try dsimp only at hSw
                      go_simp
                      try with_reducible rfl
                    show wpAnyH _ _ _ _ _ _ _ (Act.put _ (some 105) _) _
                    try simp only [Act.put, List.setIfInBounds_toArray, List.set_cons_zero, List.set_cons_succ]
                    refine wpAnyH_take (i := 9) (v := ?_) rfl (by kernel_rfl) (by kernel_rfl) (by kernel_rfl) (fun _ _ _ h => h) (Or.inl ⟨by rfl, ?_⟩) hHeld ?_
                    rotate_left
                    · intro w hSw
                      try dsimp only at hSw
                      go_simp
                      try with_reducible rfl
                    show wpAnyH _ _ _ _ _ _ _ (Act.put _ (some 106) _) _
                    try simp only [Act.put, List.setIfInBounds_toArray, List.set_cons_zero, List.set_cons_succ]
                    refine wpAnyH_take (i := 10) (v := ?_) rfl (by kernel_rfl) (by kernel_rfl) (by kernel_rfl) (fun _ _ _ h => h) (Or.inl ⟨by rfl, ?_⟩) hHeld ?_
                    rotate_left
                    · intro w hSw
                      try dsimp only at hSw
                      go_simp
                      try with_reducible rfl
                    show wpAnyH _ _ _ _ _ _ _ (Act.put _ (some 107) _) _
                    try simp only [Act.put, List.setIfInBounds_toArray, List.set_cons_zero, List.set_cons_succ]
                    refine wpAnyH_take (i := 11) (v := ?_) rfl (by kernel_rfl) (by kernel_rfl) (by kernel_rfl) (fun _ _ _ h => h) (Or.inl ⟨by rfl, ?_⟩) hHeld ?_
                    rotate_left
                    · intro w hSw
                      try dsimp only at hSw
                      go_simp
                      try with_reducible rfl
                    show wpAnyH _ _ _ _ _ _ _ (Act.put _ (some 108) _) _
                    try simp only [Act.put, List.setIfInBounds_toArray, List.set_cons_zero, List.set_cons_succ]
                    refine wpAnyH_take (i := 12) (v := ?_) rfl (by kernel_rfl) (by kernel_rfl) (by kernel_rfl) (fun _ _ _ h => h) (Or.inl ⟨by rfl, ?_⟩) hHeld ?_
                    rotate_left
                    · intro w hSw
                      try dsimp only at hSw
                      go_simp
                      try with_reducible rfl
                    show wpAnyH _ _ _ _ _ _ _ (Act.put _ (some 109) _) _
                    try simp only [Act.put, List.setIfInBounds_toArray, List.set_cons_zero, List.set_cons_succ]
                    refine wpAnyH_done (by kernel_rfl) ?_ _
                    clear hHeld
                    go_upto_region 18 with fail
                    have S18 : Hid (∀ w', Keep w12.drew w' → w'.cell? ⟨pb, 0, none⟩ = some (.int .i64 (nL : Int)) ∧ w'.cell? ⟨sb, 3, none⟩ = some (.slice ad D.length cd)) := hide (fun w' hk => ⟨kc hk b0d, kc hk c3d⟩)
                    have D13 := (Keep.refl w12.drew).drew
                    have SW14 := hide ((unhide SW13).mv D13)
                    have KT14 := hide ((unhide KT13).trans (Kt.of D13))
                    have KU14 := hide ((unhide KU13).trans (Kt.of D13))
                    have LT14 := hide ((unhide LT13).keep D13)
                    have I14 := hide (Iw.keep (unhide I13) D13)
                    have b0e := kc D13 b0d
                    have b1e := kc D13 b1d
                    clear SW13 KT13 KU13 LT13 I13 D13 S17
                    by_cases hnl : nL < D.length
                    · have hnl2 : L.length < D.length := by rw [unhide HNL]; exact hnl
                      have GW9 : Hid (go (fN RR D) D.length fl k B (((L ++ [false]) :: (L ++ [true]) :: T).map (fun L => (((p, q) : O2), L)) ++ RT) = GO) := hide (by
                        have h := unhide GW
                        rw [List.map_cons, List.cons_append, go_two (by exact hfn) hlt9 (by exact hnl2)] at h
                        exact h)
                      have SIT3 : Hid (SI ((L ++ [false]) :: (L ++ [true]) :: T) ∧ ∀ M ∈ (L ++ [false]) :: (L ++ [true]) :: T, M.length ≤ D.length) := hide ⟨⟨by rw [List.length_cons, List.length_append, unhide HTL, unhide HNL]; simp; exact htl16, by rw [List.length_append, unhide HTL, unhide HNL]; omega, (unhide SIT2).1⟩, fun M hM => by
                        simp only [List.mem_cons] at hM
                        rcases hM with rfl | rfl | hM
                        · rw [List.length_append]; simp; omega
                        · rw [List.length_append]; simp; omega
                        · exact (unhide SIT2).2 M hM⟩
                      have TA := hide (fun (b : Bool) (w' : World) => and_any L b w' (by omega))
                      rw [unhide HNL, unhide HXL] at TA
                      obtain ⟨iq, hq0, hq1, hq2, hq3⟩ := info_f infoQ
                      have lnl : (nL : Int) < (D.length : Int) := by omega
                      clear hfn hlt9 hnl2 b0d b1d c3d c4d
                      refine wp_region_held_drew (S := (fun w' => w'.cell? ⟨pb, 0, none⟩ = some (.int .i64 (nL : Int)) ∧ w'.cell? ⟨sb, 3, none⟩ = some (.slice ad D.length cd))) (by kernel_rfl) (by exact unhide S18 _ ((Keep.refl _).drew)) (fun hHeld => ?_)
                      refine wpAnyH_take (i := 0) (v := ?_) rfl (by kernel_rfl) (by kernel_rfl) (by kernel_rfl) (fun _ _ _ h => h) (Or.inl ⟨by rfl, ?_⟩) hHeld ?_
                      rotate_left
                      · intro w hSw
                        try dsimp only at hSw
                        go_simp
                        try with_reducible rfl
                      show wpAnyH _ _ _ _ _ _ _ (Act.put _ (some 110) _) _
                      try simp only [Act.put, List.setIfInBounds_toArray, List.set_cons_zero, List.set_cons_succ]
                      refine wpAnyH_take (i := 1) (v := ?_) rfl (by kernel_rfl) (by kernel_rfl) (by kernel_rfl) (fun _ _ _ h => h) (Or.inl ⟨by rfl, ?_⟩) hHeld ?_
                      rotate_left
                      · intro w hSw
                        try dsimp only at hSw
                        go_simp
                        try with_reducible rfl
                      show wpAnyH _ _ _ _ _ _ _ (Act.put _ (some 111) _) _
                      try simp only [Act.put, List.setIfInBounds_toArray, List.set_cons_zero, List.set_cons_succ]
                      refine wpAnyH_take (i := 2) (v := ?_) rfl (by kernel_rfl) (by kernel_rfl) (by kernel_rfl) (fun _ _ _ h => h) (Or.inl ⟨by rfl, ?_⟩) hHeld ?_
                      rotate_left
                      · intro w hSw
                        try dsimp only at hSw
                        go_simp
                        try with_reducible rfl
                      show wpAnyH _ _ _ _ _ _ _ (Act.put _ (some 112) _) _
                      try simp only [Act.put, List.setIfInBounds_toArray, List.set_cons_zero, List.set_cons_succ]
                      refine wpAnyH_take (i := 3) (v := ?_) rfl (by kernel_rfl) (by kernel_rfl) (by kernel_rfl) (fun _ _ _ h => h) (Or.inl ⟨by rfl, ?_⟩) hHeld ?_
                      rotate_left
                      · intro w hSw
                        try dsimp only at hSw
                        go_simp
                        try with_reducible rfl
                      show wpAnyH _ _ _ _ _ _ _ (Act.put _ (some 113) _) _
                      try simp only [Act.put, List.setIfInBounds_toArray, List.set_cons_zero, List.set_cons_succ]
                      refine wpAnyH_take (i := 4) (v := ?_) rfl (by kernel_rfl) (by kernel_rfl) (by kernel_rfl) (fun _ _ _ h => h) (Or.inl ⟨by rfl, ?_⟩) hHeld ?_
                      rotate_left
                      · intro w hSw
                        try dsimp only at hSw
                        go_simp
                        try with_reducible rfl
                      show wpAnyH _ _ _ _ _ _ _ (Act.put _ (some 114) _) _
                      try simp only [Act.put, List.setIfInBounds_toArray, List.set_cons_zero, List.set_cons_succ]
                      refine wpAnyH_take (i := 5) (v := ?_) rfl (by kernel_rfl) (by kernel_rfl) (by kernel_rfl) (fun _ _ _ h => h) (Or.inl ⟨by rfl, ?_⟩) hHeld ?_
                      rotate_left
                      · intro w hSw
                        try dsimp only at hSw
                        go_simp
                        try with_reducible rfl
                      show wpAnyH _ _ _ _ _ _ _ (Act.put _ (some 115) _) _
                      try simp only [Act.put, List.setIfInBounds_toArray, List.set_cons_zero, List.set_cons_succ]
                      refine wpAnyH_take (i := 6) (v := ?_) rfl (by kernel_rfl) (by kernel_rfl) (by kernel_rfl) (fun _ _ _ h => h) (Or.inl ⟨by rfl, ?_⟩) hHeld ?_
                      rotate_left
                      · intro w hSw
                        try dsimp only at hSw
                        go_simp
                        try with_reducible rfl
                      show wpAnyH _ _ _ _ _ _ _ (Act.put _ (some 116) _) _
                      try simp only [Act.put, List.setIfInBounds_toArray, List.set_cons_zero, List.set_cons_succ]
                      refine wpAnyH_take (i := 7) (v := ?_) rfl (by kernel_rfl) (by kernel_rfl) (by kernel_rfl) (fun _ _ _ h => h) (Or.inl ⟨by rfl, ?_⟩) hHeld ?_
                      rotate_left
                      · intro w hSw
                        try dsimp only at hSw
                        go_simp
                        try with_reducible rfl
                      show wpAnyH _ _ _ _ _ _ _ (Act.put _ (some 117) _) _
                      try simp only [Act.put, List.setIfInBounds_toArray, List.set_cons_zero, List.set_cons_succ]
                      refine wpAnyH_done (by kernel_rfl) ?_ _
                      clear hHeld
                      go_upto_region 19 with fail
                      generalize w12.drew.drew = w13 at SW14 KT14 KU14 LT14 I14 b0e b1e ⊢
                      have S19 : Hid (∀ w', Keep w13 w' → w'.cell? ⟨pb, 0, none⟩ = some (.int .i64 (nL : Int)) ∧ w'.cell? ⟨pb, 1, none⟩ = some (.int .u64 (xL : Int))) := hide (fun w' hk => ⟨kc hk b0e, kc hk b1e⟩)
                      clear b0e b1e S18
                      have TAt := hide (fun (w' : World) => (unhide TA) true w')
                      have TAf := hide (fun (w' : World) => (unhide TA) false w')
                      obtain ⟨m1, hm1⟩ : ∃ m : Int, ((L ++ [true]).length : Int) = m := ⟨_, rfl⟩
                      have hm0 : ((L ++ [false]).length : Int) = m1 := by rw [← hm1]; simp
                      obtain ⟨y1, hy1⟩ : ∃ m : Int, ((xv (L ++ [true]) : Nat) : Int) = m := ⟨_, rfl⟩
                      obtain ⟨y0, hy0⟩ : ∃ m : Int, ((xv (L ++ [false]) : Nat) : Int) = m := ⟨_, rfl⟩
                      have HPTS : Hid (pts [L ++ [true], L ++ [false]] = [.int .i64 m1, .int .u64 y1, .int .i64 m1, .int .u64 y0]) := hide (by simp only [pts, hm1, hm0, hy1, hy0])
                      simp only [if_true, if_false, Bool.false_eq_true, hm1, hm0, hy1, hy0] at TAt TAf
                      clear hm1 hm0 hy1 hy0 TA
                      refine wp_region_held_drew (S := (fun w' => w'.cell? ⟨pb, 0, none⟩ = some (.int .i64 (nL : Int)) ∧ w'.cell? ⟨pb, 1, none⟩ = some (.int .u64 (xL : Int)))) (by kernel_rfl) (by exact unhide S19 _ ((Keep.refl _).drew)) (fun hHeld => ?_)
                      refine wpAnyH_take (i := 0) (v := ?_) rfl (by kernel_rfl) (by kernel_rfl) (by kernel_rfl) (fun _ _ _ h => h) (Or.inl ⟨by rfl, ?_⟩) hHeld ?_
                      rotate_left
                      · intro w hSw
                        try dsimp only at hSw
                        go_simp
                        try with_reducible rfl
                      show wpAnyH _ _ _ _ _ _ _ (Act.put _ (some 118) _) _
                      try simp only [Act.put, List.setIfInBounds_toArray, List.set_cons_zero, List.set_cons_succ]
                      refine wpAnyH_take (i := 1) (v := ?_) rfl (by kernel_rfl) (by kernel_rfl) (by kernel_rfl) (fun _ _ _ h => h) (Or.inl ⟨by rfl, ?_⟩) hHeld ?_
                      rotate_left
                      · intro w hSw
                        try dsimp only at hSw
                        go_simp
                        try with_reducible rfl
                      show wpAnyH _ _ _ _ _ _ _ (Act.put _ (some 119) _) _
                      try simp only [Act.put, List.setIfInBounds_toArray, List.set_cons_zero, List.set_cons_succ]
                      refine wpAnyH_take (i := 3) (v := ?_) rfl (by kernel_rfl) (by kernel_rfl) (by kernel_rfl) (fun _ _ _ h => h) (Or.inl ⟨by rfl, ?_⟩) hHeld ?_
                      rotate_left
                      · intro w hSw
                        try dsimp only at hSw
                        go_simp
                        try with_reducible rfl
                      show wpAnyH _ _ _ _ _ _ _ (Act.put _ (some 121) _) _
                      try simp only [Act.put, List.setIfInBounds_toArray, List.set_cons_zero, List.set_cons_succ]
                      refine wpAnyH_ready (rs := [2]) (by kernel_rfl) (by simp) ?_
                      refine AllReadyH.cons rfl (fun K hK => ?_) AllReadyH.nil
                      go_simp
                      clear hHeld
                      (refine ((unhide TAt) _).mono ?_; rintro e wy ⟨rfl, hka⟩)
                      try go_wp2_with fail
                      refine hK.out _ _ ?_ (fun hHeld => ?_)
                      · exact unhide S19 _ (Keep.trans (Keep.drew (Keep.refl w13)) hka)
                      clear hK K
                      try simp only [Act.put, List.setIfInBounds_toArray, List.set_cons_zero, List.set_cons_succ]
                      refine wpAnyH_ready (rs := [4]) (by kernel_rfl) (by simp) ?_
                      refine AllReadyH.cons rfl (fun K hK => ?_) AllReadyH.nil
                      go_simp
                      clear hHeld
                      (refine ((unhide TAf) _).mono ?_; rintro e wz ⟨rfl, hkb⟩)
                      try go_wp2_with fail
                      refine hK.out _ _ ?_ (fun hHeld => ?_)
                      · exact unhide S19 _ (Keep.trans (Keep.trans (Keep.drew (Keep.refl w13)) hka) hkb)
                      clear hK K
                      try simp only [Act.put, List.setIfInBounds_toArray, List.set_cons_zero, List.set_cons_succ]
                      have KZ : Hid (Keep w13 wz) := hide (Keep.trans (Keep.trans (Keep.drew (Keep.refl w13)) hka) hkb)
                      have AZ := (Keep.refl wz).alloc (.cells #[.int .i64 m1, .int .u64 y1, .int .i64 m1, .int .u64 y0] 69)
                      have SWZ := hide (((unhide SW14).mv (unhide KZ)).mv AZ)
                      have KTZ := hide (((unhide KT14).trans (Kt.of (unhide KZ))).trans (Kt.of AZ))
                      have KUZ := hide (((unhide KU14).trans (Kt.of (unhide KZ))).trans (Kt.of AZ))
                      have LTZ := hide (((unhide LT14).keep (unhide KZ)).keep AZ)
                      have NZ := new_v wz [.int .i64 m1, .int .u64 y1, .int .i64 m1, .int .u64 y0] 69
                      refine wpAnyH_ready (rs := [5]) (by kernel_rfl) (by simp) ?_
                      refine AllReadyH.cons rfl (fun K hK => ?_) AllReadyH.nil
                      go_simp
                      clear hHeld
                      refine hK.out _ _ ?_ (fun hHeld => ?_)
                      · exact unhide S19 _ (Keep.trans (unhide KZ) AZ)
                      clear hK K
                      try simp only [Act.put, List.setIfInBounds_toArray, List.set_cons_zero, List.set_cons_succ]
                      refine wpAnyH_ready (rs := [6]) (by kernel_rfl) (by simp) ?_
                      refine AllReadyH.cons rfl (fun K hK => ?_) AllReadyH.nil
                      clear hHeld
                      try rw [if_pos (by rfl)]
                      refine wp_append_own _ _ _ 70 rfl q5 69 iq _ 2 16 Try.underlying70 hq0 hq1 hq2 hq3 rfl (by decide) _ _ _ rfl (show _ from by have h := unhide LTZ; rw [Lf, unhide HTL] at h; exact h) ⟨wz.heap.size, 0, none⟩ 2 2 [.int .i64 m1, .int .u64 y1, .int .i64 m1, .int .u64 y0] rfl rfl NZ (by simp [Value.oneCell']) (by unfold maxLen; omega) (by omega) (by have h := (unhide KUZ).size; rw [unhide HQ6] at h; exact h) ?_
                      intro v20 w20 hown hgrow hnil
                      have SW20 := hide ((unhide SWZ).grown (unhide LTZ) (unhide HQ5) hgrow)
                      have L20 : Hid (Lf q5 w20 v20 ((L ++ [false]) :: (L ++ [true]) :: T)) := hide (by
                        rw [Lf, List.length_cons, List.length_cons, unhide HTL]
                        have h := hown
                        rw [← unhide HPTS, ← pts_app] at h
                        simp only [List.reverse_cons, List.append_assoc, List.cons_append, List.nil_append]
                        exact h)
                      have KG20 : Kt Ch _ w20 := Kt.grown (unhide LTZ) (.inr rfl) hgrow
                      have KK20 : Hid (Kt Ch _ w20 ∧ Kt Ch _ w20) := hide ⟨(unhide KTZ).trans KG20, (unhide KUZ).trans KG20⟩
                      have HS20 : w20.cell? ⟨pb, 0, none⟩ = some (.int .i64 (nL : Int)) ∧ w20.cell? ⟨pb, 1, none⟩ = some (.int .u64 (xL : Int)) := by
                        have h := unhide S19 _ (Keep.trans (unhide KZ) AZ)
                        have hne : some pb ≠ some g := fun e => by injection e with e; have := unhide HGP; omega
                        exact ⟨hgrow.cell h.1 hne, hgrow.cell h.2 hne⟩
                      clear hown hgrow hnil KG20 KTZ KUZ SWZ LTZ KT14 KU14 LT14 SW14
                      refine hK.out _ _ HS20 (fun hHeld => ?_)
                      clear hK K HS20
                      show wpAnyH _ _ _ _ _ _ _ (Act.put _ (some 124) _) _
                      try simp only [Act.put, List.setIfInBounds_toArray, List.set_cons_zero, List.set_cons_succ]
                      refine wpAnyH_take (i := 7) (v := ?_) rfl (by kernel_rfl) (by kernel_rfl) (by kernel_rfl) (fun _ _ _ h => h) (Or.inl ⟨by rfl, ?_⟩) hHeld ?_
                      rotate_left
                      · intro w hSw
                        try dsimp only at hSw
                        go_simp
                        try with_reducible rfl
                      show wpAnyH _ _ _ _ _ _ _ (Act.put _ (some 9) _) _
                      try simp only [Act.put, List.setIfInBounds_toArray, List.set_cons_zero, List.set_cons_succ]
                      refine wpAnyH_done (by kernel_rfl) ?_ _
                      clear hHeld
                      go_wp2_with fail
                      go_roundw
                      case rel => exact ⟨(L ++ [false]) :: (L ++ [true]) :: T, k, B, L20, SIT3, SW20, GW9, hide (unhide KK20).1, hide (unhide KK20).2, LK2⟩
                      case measure => exact (unhide MS) _ _ (unhide SW20)
                    · have hnl2 : ¬ L.length < D.length := by rw [unhide HNL]; exact hnl
                      have lnl : ¬ (nL : Int) < (D.length : Int) := by omega
                      have G14 := (unhide G5).kt (unhide KU14) (by decide) (by decide) (by decide) (by decide)
                      have W14 := (unhide W5).kt (unhide KU14) (by decide) (by decide)
                      have TF2 : Hid (Calls Try.prog 39 #[.pointer (some ⟨gb, 0, none⟩), .slice (some ⟨gd, 0, none⟩) l12 c12] w12.drew.drew (fun e w2 => ∃ st, e = .returned (.agg #[.int .i64 yy, .slice (some ⟨vb9, 0, none⟩) RR.length 2, st]) ∧ Keep w12.drew.drew w2 ∧ Tw 39 T2 w2 st (STn (MKn RR RR.length) (oo RR.length (p, q)) dd (oo RR.length (p, q)).length))) := hide (by
                        have h := (unhide TF) i j gb _ _ dd w12.drew.drew hlt hjl (by rw [unhide HP, unhide HQQ]; exact G14) (by rw [unhide HP, unhide HQQ]; exact W14) (unhide I14) hv1
                        rw [unhide HP, unhide HQQ] at h
                        unfold Fq at h
                        rw [unhide HYY] at h
                        exact h)
                      clear G14 b0e b1e c3d c4d
                      refine wp_region_held_drew (S := (fun w' => w'.cell? ⟨pb, 0, none⟩ = some (.int .i64 (nL : Int)) ∧ w'.cell? ⟨sb, 3, none⟩ = some (.slice ad D.length cd))) (by kernel_rfl) (by exact unhide S18 _ ((Keep.refl _).drew)) (fun hHeld => ?_)
                      refine wpAnyH_take (i := 0) (v := ?_) rfl (by kernel_rfl) (by kernel_rfl) (by kernel_rfl) (fun _ _ _ h => h) (Or.inl ⟨by rfl, ?_⟩) hHeld ?_
                      rotate_left
                      · intro w hSw
                        try dsimp only at hSw
                        go_simp
                        try with_reducible rfl
                      show wpAnyH _ _ _ _ _ _ _ (Act.put _ (some 110) _) _
                      try simp only [Act.put, List.setIfInBounds_toArray, List.set_cons_zero, List.set_cons_succ]
                      refine wpAnyH_take (i := 1) (v := ?_) rfl (by kernel_rfl) (by kernel_rfl) (by kernel_rfl) (fun _ _ _ h => h) (Or.inl ⟨by rfl, ?_⟩) hHeld ?_
                      rotate_left
                      · intro w hSw
                        try dsimp only at hSw
                        go_simp
                        try with_reducible rfl
                      show wpAnyH _ _ _ _ _ _ _ (Act.put _ (some 111) _) _
                      try simp only [Act.put, List.setIfInBounds_toArray, List.set_cons_zero, List.set_cons_succ]
                      refine wpAnyH_take (i := 2) (v := ?_) rfl (by kernel_rfl) (by kernel_rfl) (by kernel_rfl) (fun _ _ _ h => h) (Or.inl ⟨by rfl, ?_⟩) hHeld ?_
                      rotate_left
                      · intro w hSw
                        try dsimp only at hSw
                        go_simp
                        try with_reducible rfl
                      show wpAnyH _ _ _ _ _ _ _ (Act.put _ (some 112) _) _
                      try simp only [Act.put, List.setIfInBounds_toArray, List.set_cons_zero, List.set_cons_succ]
                      refine wpAnyH_take (i := 3) (v := ?_) rfl (by kernel_rfl) (by kernel_rfl) (by kernel_rfl) (fun _ _ _ h => h) (Or.inl ⟨by rfl, ?_⟩) hHeld ?_
                      rotate_left
                      · intro w hSw
                        try dsimp only at hSw
                        go_simp
                        try with_reducible rfl
                      show wpAnyH _ _ _ _ _ _ _ (Act.put _ (some 113) _) _
                      try simp only [Act.put, List.setIfInBounds_toArray, List.set_cons_zero, List.set_cons_succ]
                      refine wpAnyH_take (i := 4) (v := ?_) rfl (by kernel_rfl) (by kernel_rfl) (by kernel_rfl) (fun _ _ _ h => h) (Or.inl ⟨by rfl, ?_⟩) hHeld ?_
                      rotate_left
                      · intro w hSw
                        try dsimp only at hSw
                        go_simp
                        try with_reducible rfl
                      show wpAnyH _ _ _ _ _ _ _ (Act.put _ (some 114) _) _
                      try simp only [Act.put, List.setIfInBounds_toArray, List.set_cons_zero, List.set_cons_succ]
                      refine wpAnyH_take (i := 5) (v := ?_) rfl (by kernel_rfl) (by kernel_rfl) (by kernel_rfl) (fun _ _ _ h => h) (Or.inl ⟨by rfl, ?_⟩) hHeld ?_
                      rotate_left
                      · intro w hSw
                        try dsimp only at hSw
                        go_simp
                        try with_reducible rfl
                      show wpAnyH _ _ _ _ _ _ _ (Act.put _ (some 115) _) _
                      try simp only [Act.put, List.setIfInBounds_toArray, List.set_cons_zero, List.set_cons_succ]
                      refine wpAnyH_take (i := 6) (v := ?_) rfl (by kernel_rfl) (by kernel_rfl) (by kernel_rfl) (fun _ _ _ h => h) (Or.inl ⟨by rfl, ?_⟩) hHeld ?_
                      rotate_left
                      · intro w hSw
                        try dsimp only at hSw
                        go_simp
                        try with_reducible rfl
                      show wpAnyH _ _ _ _ _ _ _ (Act.put _ (some 116) _) _
                      try simp only [Act.put, List.setIfInBounds_toArray, List.set_cons_zero, List.set_cons_succ]
                      refine wpAnyH_take (i := 7) (v := ?_) rfl (by kernel_rfl) (by kernel_rfl) (by kernel_rfl) (fun _ _ _ h => h) (Or.inl ⟨by rfl, ?_⟩) hHeld ?_
                      rotate_left
                      · intro w hSw
                        try dsimp only at hSw
                        go_simp
                        try with_reducible rfl
                      show wpAnyH _ _ _ _ _ _ _ (Act.put _ (some 117) _) _
                      try simp only [Act.put, List.setIfInBounds_toArray, List.set_cons_zero, List.set_cons_succ]
                      refine wpAnyH_done (by kernel_rfl) ?_ _
                      clear hHeld
                      generalize w12.drew.drew = w13 at SW14 KT14 KU14 LT14 I14 TF2 W14 ⊢
                      have W15 := hide W14
                      clear S18 W14 b0d b1d
                      go_wp2_with fail
                      (refine (unhide TF2).mono ?_; rintro e w15 ⟨st15, rfl, hk15, htw⟩)
                      obtain ⟨a15, c15, hst, -⟩ := htw.sl
                      generalize (STn (MKn RR RR.length) (oo RR.length (p, q)) dd (oo RR.length (p, q)).length).length = l15 at hst
                      subst hst
                      have HBX : Bx RR w15 yy (.slice (some ⟨vb9, 0, none⟩) RR.length 2) (.slice a15 l15 c15) (some (((p, q), dd), yy)) := ⟨rfl, (unhide W15).keep hk15, htw⟩
                      have SW15 := hide ((unhide SW14).mv hk15)
                      have KT15 := (unhide KT14).trans (Kt.of hk15)
                      have KU15 := (unhide KU14).trans (Kt.of hk15)
                      have LT15 := (unhide LT14).keep hk15
                      obtain ⟨SB16, KB16, e7, e4⟩ := (unhide SW15).best HBX
                      obtain ⟨x15, vo15, st15, hbx15, -⟩ := (unhide SW15).box
                      have L16 := hide (own_kt LT15 (kt_best hbx15 yy (.slice (some ⟨vb9, 0, none⟩) RR.length 2) (.slice a15 l15 c15)) (by decide))
                      obtain ⟨-, -, -, -, -, -, -, k7, k8, k9⟩ := sv_at hbx15
                      have z7 := sv_fz hbx15 7
                      have z8 := sv_fz hbx15 8
                      have z9 := sv_fz hbx15 9
                      have SW16 := hide SB16
                      have KT16 := hide (KT15.trans KB16)
                      have KU16 := hide (KU15.trans KB16)
                      have S21 : Hid (∀ w', Keep (((w15.setCell ⟨sb, 7, none⟩ (.int .i64 yy)).setCell ⟨sb, 8, none⟩ (.slice (some ⟨vb9, 0, none⟩) RR.length 2)).setCell ⟨sb, 9, none⟩ (.slice a15 l15 c15)) w' → w'.cell? ⟨sb, 7, none⟩ = some (.int .i64 yy) ∧ w'.cell? ⟨sb, 4, none⟩ = some (.int .i64 fl)) := hide (fun w' hk => ⟨kc hk e7, kc hk e4⟩)
                      clear hk15 htw HBX SB16 KB16 e7 e4 KT15 KU15 LT15 hbx15 SW15 SW14 KT14 KU14 LT14 I14 TF2
                      go_upto_region 21 with fail
                      clear k7 k8 k9 z7 z8 z9
                      generalize ((w15.setCell ⟨sb, 7, none⟩ (.int .i64 yy)).setCell ⟨sb, 8, none⟩ (.slice (some ⟨vb9, 0, none⟩) RR.length 2)).setCell ⟨sb, 9, none⟩ (.slice a15 l15 c15) = w16 at SW16 KT16 KU16 L16 S21 ⊢
                      have D16 := (Keep.refl w16).drew
                      have SW17 := hide ((unhide SW16).mv D16)
                      have KT17 := hide ((unhide KT16).trans (Kt.of D16))
                      have KU17 := hide ((unhide KU16).trans (Kt.of D16))
                      have L17 := hide (own_k (unhide L16) D16)
                      clear D16 SW16 KT16 KU16 L16
                      by_cases hyf : yy = fl
                      · have hgo : Hid (GO = (true, some (((p, q), dd), yy), k)) := hide (by
                          have h := unhide GW
                          rw [List.map_cons, List.cons_append, go_stop (by exact hfn) hlt9 (by exact hnl2) (by exact hyf)] at h
                          exact h.symm)
                        have hyb : (yy == fl) = true := by simp [hyf]
                        clear hfn hlt9 hnl2 hyf
                        refine wp_region_held_drew (S := (fun w' => w'.cell? ⟨sb, 7, none⟩ = some (.int .i64 yy) ∧ w'.cell? ⟨sb, 4, none⟩ = some (.int .i64 fl))) (by kernel_rfl) (by exact unhide S21 _ ((Keep.refl _).drew)) (fun hHeld => ?_)
                        refine wpAnyH_take (i := 0) (v := ?_) rfl (by kernel_rfl) (by kernel_rfl) (by kernel_rfl) (fun _ _ _ h => h) (Or.inl ⟨by rfl, ?_⟩) hHeld ?_
                        rotate_left
                        · intro w hSw
                          try dsimp only at hSw
                          go_simp
                          try with_reducible rfl
                        show wpAnyH _ _ _ _ _ _ _ (Act.put _ (some 131) _) _
                        try simp only [Act.put, List.setIfInBounds_toArray, List.set_cons_zero, List.set_cons_succ]
                        refine wpAnyH_take (i := 1) (v := ?_) rfl (by kernel_rfl) (by kernel_rfl) (by kernel_rfl) (fun _ _ _ h => h) (Or.inl ⟨by rfl, ?_⟩) hHeld ?_
                        rotate_left
                        · intro w hSw
                          try dsimp only at hSw
                          go_simp
                          try with_reducible rfl
                        show wpAnyH _ _ _ _ _ _ _ (Act.put _ (some 132) _) _
                        try simp only [Act.put, List.setIfInBounds_toArray, List.set_cons_zero, List.set_cons_succ]
                        refine wpAnyH_take (i := 2) (v := ?_) rfl (by kernel_rfl) (by kernel_rfl) (by kernel_rfl) (fun _ _ _ h => h) (Or.inl ⟨by rfl, ?_⟩) hHeld ?_
                        rotate_left
                        · intro w hSw
                          try dsimp only at hSw
                          go_simp
                          try with_reducible rfl
                        show wpAnyH _ _ _ _ _ _ _ (Act.put _ (some 133) _) _
                        try simp only [Act.put, List.setIfInBounds_toArray, List.set_cons_zero, List.set_cons_succ]
                        refine wpAnyH_take (i := 3) (v := ?_) rfl (by kernel_rfl) (by kernel_rfl) (by kernel_rfl) (fun _ _ _ h => h) (Or.inl ⟨by rfl, ?_⟩) hHeld ?_
                        rotate_left
                        · intro w hSw
                          try dsimp only at hSw
                          go_simp
                          try with_reducible rfl
                        show wpAnyH _ _ _ _ _ _ _ (Act.put _ (some 134) _) _
                        try simp only [Act.put, List.setIfInBounds_toArray, List.set_cons_zero, List.set_cons_succ]
                        refine wpAnyH_take (i := 4) (v := ?_) rfl (by kernel_rfl) (by kernel_rfl) (by kernel_rfl) (fun _ _ _ h => h) (Or.inl ⟨by rfl, ?_⟩) hHeld ?_
                        rotate_left
                        · intro w hSw
                          try dsimp only at hSw
                          go_simp
                          try with_reducible rfl
                        show wpAnyH _ _ _ _ _ _ _ (Act.put _ (some 135) _) _
                        try simp only [Act.put, List.setIfInBounds_toArray, List.set_cons_zero, List.set_cons_succ]
                        refine wpAnyH_take (i := 5) (v := ?_) rfl (by kernel_rfl) (by kernel_rfl) (by kernel_rfl) (fun _ _ _ h => h) (Or.inl ⟨by rfl, ?_⟩) hHeld ?_
                        rotate_left
                        · intro w hSw
                          try dsimp only at hSw
                          go_simp
                          try with_reducible rfl
                        show wpAnyH _ _ _ _ _ _ _ (Act.put _ (some 136) _) _
                        try simp only [Act.put, List.setIfInBounds_toArray, List.set_cons_zero, List.set_cons_succ]
                        refine wpAnyH_take (i := 6) (v := ?_) rfl (by kernel_rfl) (by kernel_rfl) (by kernel_rfl) (fun _ _ _ h => h) (Or.inl ⟨by rfl, ?_⟩) hHeld ?_
                        rotate_left
                        · intro w hSw
                          try dsimp only at hSw
                          go_simp
                          try with_reducible rfl
                        show wpAnyH _ _ _ _ _ _ _ (Act.put _ (some 137) _) _
                        try simp only [Act.put, List.setIfInBounds_toArray, List.set_cons_zero, List.set_cons_succ]
                        refine wpAnyH_take (i := 7) (v := ?_) rfl (by kernel_rfl) (by kernel_rfl) (by kernel_rfl) (fun _ _ _ h => h) (Or.inl ⟨by rfl, ?_⟩) hHeld ?_
                        rotate_left
                        · intro w hSw
                          try dsimp only at hSw
                          go_simp
                          try with_reducible rfl
                        show wpAnyH _ _ _ _ _ _ _ (Act.put _ (some 138) _) _
                        try simp only [Act.put, List.setIfInBounds_toArray, List.set_cons_zero, List.set_cons_succ]
                        refine wpAnyH_take (i := 8) (v := ?_) rfl (by kernel_rfl) (by kernel_rfl) (by kernel_rfl) (fun _ _ _ h => h) (Or.inl ⟨by rfl, ?_⟩) hHeld ?_
                        rotate_left
                        · intro w hSw
                          try dsimp only at hSw
                          go_simp
                          try with_reducible rfl
                        show wpAnyH _ _ _ _ _ _ _ (Act.put _ (some 139) _) _
                        try simp only [Act.put, List.setIfInBounds_toArray, List.set_cons_zero, List.set_cons_succ]
                        refine wpAnyH_take (i := 9) (v := ?_) rfl (by kernel_rfl) (by kernel_rfl) (by kernel_rfl) (fun _ _ _ h => h) (Or.inl ⟨by rfl, ?_⟩) hHeld ?_
                        rotate_left
                        · intro w hSw
                          try dsimp only at hSw
                          go_simp
                          try with_reducible rfl
                        show wpAnyH _ _ _ _ _ _ _ (Act.put _ (some 140) _) _
                        try simp only [Act.put, List.setIfInBounds_toArray, List.set_cons_zero, List.set_cons_succ]
                        refine wpAnyH_done (by kernel_rfl) ?_ _
                        clear hHeld
                        obtain ⟨x9, vo9, st9, hbx9, hB9⟩ := (unhide SW17).box
                        obtain ⟨-, -, -, -, -, -, -, -, c8, -⟩ := sv_at hbx9
                        obtain ⟨-, hb9, -⟩ := hB9
                        obtain ⟨a9, c9, rfl, -⟩ := hb9.sl
                        rw [oo_l hR] at c8
                        have h1 : ((RR.length : Int) == 0) = false := by simp; intro h; rw [h] at hR; simp at hR
                        clear hb9 hbx9
                        go_wp2_with fail
                        try rw [Exit.noGoto_ret]
                        try go_ret
                        exact (unhide HQ) true (some (((p, q), dd), yy)) k _ _ (unhide hgo) rfl (unhide SW17)
                      · have GW9 : Hid (go (fN RR D) D.length fl k (some (((p, q), dd), yy)) (T.map (fun L => (((p, q) : O2), L)) ++ RT) = GO) := hide (by
                          have h := unhide GW
                          rw [List.map_cons, List.cons_append, go_on (by exact hfn) hlt9 (by exact hnl2) (by exact hyf)] at h
                          exact h)
                        have hyb : (yy == fl) = false := by simp only [beq_eq_false_iff_ne, ne_eq]; exact hyf
                        clear hfn hlt9 hnl2 hyf
                        refine wp_region_held_drew (S := (fun w' => w'.cell? ⟨sb, 7, none⟩ = some (.int .i64 yy) ∧ w'.cell? ⟨sb, 4, none⟩ = some (.int .i64 fl))) (by kernel_rfl) (by exact unhide S21 _ ((Keep.refl _).drew)) (fun hHeld => ?_)
                        refine wpAnyH_take (i := 0) (v := ?_) rfl (by kernel_rfl) (by kernel_rfl) (by kernel_rfl) (fun _ _ _ h => h) (Or.inl ⟨by rfl, ?_⟩) hHeld ?_
                        rotate_left
                        · intro w hSw
                          try dsimp only at hSw
                          go_simp
                          try with_reducible rfl
                        show wpAnyH _ _ _ _ _ _ _ (Act.put _ (some 131) _) _
                        try simp only [Act.put, List.setIfInBounds_toArray, List.set_cons_zero, List.set_cons_succ]
                        refine wpAnyH_take (i := 1) (v := ?_) rfl (by kernel_rfl) (by kernel_rfl) (by kernel_rfl) (fun _ _ _ h => h) (Or.inl ⟨by rfl, ?_⟩) hHeld ?_
                        rotate_left
                        · intro w hSw
                          try dsimp only at hSw
                          go_simp
                          try with_reducible rfl
                        show wpAnyH _ _ _ _ _ _ _ (Act.put _ (some 132) _) _
                        try simp only [Act.put, List.setIfInBounds_toArray, List.set_cons_zero, List.set_cons_succ]
                        refine wpAnyH_take (i := 2) (v := ?_) rfl (by kernel_rfl) (by kernel_rfl) (by kernel_rfl) (fun _ _ _ h => h) (Or.inl ⟨by rfl, ?_⟩) hHeld ?_
                        rotate_left
                        · intro w hSw
                          try dsimp only at hSw
                          go_simp
                          try with_reducible rfl
                        show wpAnyH _ _ _ _ _ _ _ (Act.put _ (some 133) _) _
                        try simp only [Act.put, List.setIfInBounds_toArray, List.set_cons_zero, List.set_cons_succ]
                        refine wpAnyH_take (i := 3) (v := ?_) rfl (by kernel_rfl) (by kernel_rfl) (by kernel_rfl) (fun _ _ _ h => h) (Or.inl ⟨by rfl, ?_⟩) hHeld ?_
                        rotate_left
                        · intro w hSw
                          try dsimp only at hSw
                          go_simp
                          try with_reducible rfl
                        show wpAnyH _ _ _ _ _ _ _ (Act.put _ (some 134) _) _
                        try simp only [Act.put, List.setIfInBounds_toArray, List.set_cons_zero, List.set_cons_succ]
                        refine wpAnyH_take (i := 4) (v := ?_) rfl (by kernel_rfl) (by kernel_rfl) (by kernel_rfl) (fun _ _ _ h => h) (Or.inl ⟨by rfl, ?_⟩) hHeld ?_
                        rotate_left
                        · intro w hSw
                          try dsimp only at hSw
                          go_simp
                          try with_reducible rfl
                        show wpAnyH _ _ _ _ _ _ _ (Act.put _ (some 135) _) _
                        try simp only [Act.put, List.setIfInBounds_toArray, List.set_cons_zero, List.set_cons_succ]
                        refine wpAnyH_take (i := 5) (v := ?_) rfl (by kernel_rfl) (by kernel_rfl) (by kernel_rfl) (fun _ _ _ h => h) (Or.inl ⟨by rfl, ?_⟩) hHeld ?_
                        rotate_left
                        · intro w hSw
                          try dsimp only at hSw
                          go_simp
                          try with_reducible rfl
                        show wpAnyH _ _ _ _ _ _ _ (Act.put _ (some 136) _) _
                        try simp only [Act.put, List.setIfInBounds_toArray, List.set_cons_zero, List.set_cons_succ]
                        refine wpAnyH_take (i := 6) (v := ?_) rfl (by kernel_rfl) (by kernel_rfl) (by kernel_rfl) (fun _ _ _ h => h) (Or.inl ⟨by rfl, ?_⟩) hHeld ?_
                        rotate_left
                        · intro w hSw
                          try dsimp only at hSw
                          go_simp
                          try with_reducible rfl
                        show wpAnyH _ _ _ _ _ _ _ (Act.put _ (some 137) _) _
                        try simp only [Act.put, List.setIfInBounds_toArray, List.set_cons_zero, List.set_cons_succ]
                        refine wpAnyH_take (i := 7) (v := ?_) rfl (by kernel_rfl) (by kernel_rfl) (by kernel_rfl) (fun _ _ _ h => h) (Or.inl ⟨by rfl, ?_⟩) hHeld ?_
                        rotate_left
                        · intro w hSw
                          try dsimp only at hSw
                          go_simp
                          try with_reducible rfl
                        show wpAnyH _ _ _ _ _ _ _ (Act.put _ (some 138) _) _
                        try simp only [Act.put, List.setIfInBounds_toArray, List.set_cons_zero, List.set_cons_succ]
                        refine wpAnyH_take (i := 8) (v := ?_) rfl (by kernel_rfl) (by kernel_rfl) (by kernel_rfl) (fun _ _ _ h => h) (Or.inl ⟨by rfl, ?_⟩) hHeld ?_
                        rotate_left
                        · intro w hSw
                          try dsimp only at hSw
                          go_simp
                          try with_reducible rfl
                        show wpAnyH _ _ _ _ _ _ _ (Act.put _ (some 139) _) _
                        try simp only [Act.put, List.setIfInBounds_toArray, List.set_cons_zero, List.set_cons_succ]
                        refine wpAnyH_take (i := 9) (v := ?_) rfl (by kernel_rfl) (by kernel_rfl) (by kernel_rfl) (fun _ _ _ h => h) (Or.inl ⟨by rfl, ?_⟩) hHeld ?_
                        rotate_left
                        · intro w hSw
                          try dsimp only at hSw
                          go_simp
                          try with_reducible rfl
                        show wpAnyH _ _ _ _ _ _ _ (Act.put _ (some 140) _) _
                        try simp only [Act.put, List.setIfInBounds_toArray, List.set_cons_zero, List.set_cons_succ]
                        refine wpAnyH_done (by kernel_rfl) ?_ _
                        clear hHeld
                        go_wp2_with fail
                        go_roundw
                        case rel => exact ⟨T, k, _, hide (by rw [Lf, unhide HTL]; exact (by have h := unhide L17; rw [unhide HTL] at h; exact h)), SIT2, SW17, GW9, KT17, KU17, LK2⟩
                        case measure => exact (unhide MS) _ _ (unhide SW17)
                · have hne : (er != 0) = true := by simp; exact hE
                  have hfn : fN RR D (p, q) L = none := by rw [unhide HFN, if_neg hE]
                  have GW9 : Hid (go (fN RR D) D.length fl k B (T.map (fun L => (((p, q) : O2), L)) ++ RT) = GO) := hide (by
                    have h := unhide GW
                    rw [List.map_cons, List.cons_append, go_none (by exact hfn)] at h
                    exact h)
                  clear hfn
                  have S17 : Hid (∀ w', Keep w12 w' → w'.cell? ⟨sb, 7, none⟩ = some (.int .i64 x3)) := hide (fun w' hk => kc hk c7')
                  have D12 := (Keep.refl w12).drew
                  have SW13 := hide ((unhide SW12).mv D12)
                  have KT13 := hide ((unhide KT12).trans (Kt.of D12))
                  have KU13 := hide ((unhide KU12).trans (Kt.of D12))
                  have LT13 := hide ((unhide LT12).keep D12)
                  clear D12 SW12 KT12 KU12 LT12
                  go_upto_region 17 with fail
                  refine wp_region_held_drew (S := (fun w' => w'.cell? ⟨sb, 7, none⟩ = some (.int .i64 x3))) (by kernel_rfl) (by exact unhide S17 _ ((Keep.refl _).drew)) (fun hHeld => ?_)
                  refine wpAnyH_take (i := 0) (v := ?_) rfl (by kernel_rfl) (by kernel_rfl) (by kernel_rfl) (fun _ _ _ h => h) (Or.inl ⟨by rfl, ?_⟩) hHeld ?_
                  rotate_left
                  · intro w hSw
                    try dsimp only at hSw
                    go_simp
                    try with_reducible rfl
                  show wpAnyH _ _ _ _ _ _ _ (Act.put _ (some 97) _) _
                  try simp only [Act.put, List.setIfInBounds_toArray, List.set_cons_zero, List.set_cons_succ]
                  refine wpAnyH_take (i := 1) (v := ?_) rfl (by kernel_rfl) (by kernel_rfl) (by kernel_rfl) (fun _ _ _ h => h) (Or.inl ⟨by rfl, ?_⟩) hHeld ?_
                  rotate_left
                  · intro w hSw
                    try dsimp only at hSw
                    go_simp
                    try with_reducible rfl
                  show wpAnyH _ _ _ _ _ _ _ (Act.put _ (some 98) _) _
                  try simp only [Act.put, List.setIfInBounds_toArray, List.set_cons_zero, List.set_cons_succ]
                  refine wpAnyH_take (i := 2) (v := ?_) rfl (by kernel_rfl) (by kernel_rfl) (by kernel_rfl) (fun _ _ _ h => h) (Or.inl ⟨by rfl, ?_⟩) hHeld ?_
                  rotate_left
                  · intro w hSw
                    try dsimp only at hSw
                    go_simp
                    try with_reducible rfl
                  show wpAnyH _ _ _ _ _ _ _ (Act.put _ (some 99) _) _
                  try simp only [Act.put, List.setIfInBounds_toArray, List.set_cons_zero, List.set_cons_succ]
                  refine wpAnyH_take (i := 3) (v := undef) rfl (by kernel_rfl) (by kernel_rfl) (by kernel_rfl) (fun _ _ _ h => h) (Or.inr ⟨by rfl, rfl⟩) hHeld ?_
                  show wpAnyH _ _ _ _ _ _ _ (Act.put _ (some 100) _) _
                  try simp only [Act.put, List.setIfInBounds_toArray, List.set_cons_zero, List.set_cons_succ]
                  refine wpAnyH_take (i := 4) (v := undef) rfl (by kernel_rfl) (by kernel_rfl) (by kernel_rfl) (fun _ _ _ h => h) (Or.inr ⟨by rfl, rfl⟩) hHeld ?_
                  show wpAnyH _ _ _ _ _ _ _ (Act.put _ (some 101) _) _
                  try simp only [Act.put, List.setIfInBounds_toArray, List.set_cons_zero, List.set_cons_succ]
                  refine wpAnyH_take (i := 5) (v := undef) rfl (by kernel_rfl) (by kernel_rfl) (by kernel_rfl) (fun _ _ _ h => h) (Or.inr ⟨by rfl, rfl⟩) hHeld ?_
                  show wpAnyH _ _ _ _ _ _ _ (Act.put _ (some 102) _) _
                  try simp only [Act.put, List.setIfInBounds_toArray, List.set_cons_zero, List.set_cons_succ]
                  refine wpAnyH_take (i := 6) (v := undef) rfl (by kernel_rfl) (by kernel_rfl) (by kernel_rfl) (fun _ _ _ h => h) (Or.inr ⟨by rfl, rfl⟩) hHeld ?_
                  show wpAnyH _ _ _ _ _ _ _ (Act.put _ (some 103) _) _
                  try simp only [Act.put, List.setIfInBounds_toArray, List.set_cons_zero, List.set_cons_succ]
                  refine wpAnyH_take (i := 7) (v := undef) rfl (by kernel_rfl) (by kernel_rfl) (by kernel_rfl) (fun _ _ _ h => h) (Or.inr ⟨by rfl, rfl⟩) hHeld ?_
                  show wpAnyH _ _ _ _ _ _ _ (Act.put _ (some 104) _) _
                  try simp only [Act.put, List.setIfInBounds_toArray, List.set_cons_zero, List.set_cons_succ]
                  refine wpAnyH_take (i := 8) (v := undef) rfl (by kernel_rfl) (by kernel_rfl) (by kernel_rfl) (fun _ _ _ h => h) (Or.inr ⟨by rfl, rfl⟩) hHeld ?_
                  show wpAnyH _ _ _ _ _ _ _ (Act.put _ (some 105) _) _
                  try simp only [Act.put, List.setIfInBounds_toArray, List.set_cons_zero, List.set_cons_succ]
                  refine wpAnyH_take (i := 9) (v := undef) rfl (by kernel_rfl) (by kernel_rfl) (by kernel_rfl) (fun _ _ _ h => h) (Or.inr ⟨by rfl, rfl⟩) hHeld ?_
                  show wpAnyH _ _ _ _ _ _ _ (Act.put _ (some 106) _) _
                  try simp only [Act.put, List.setIfInBounds_toArray, List.set_cons_zero, List.set_cons_succ]
                  refine wpAnyH_take (i := 10) (v := undef) rfl (by kernel_rfl) (by kernel_rfl) (by kernel_rfl) (fun _ _ _ h => h) (Or.inr ⟨by rfl, rfl⟩) hHeld ?_
                  show wpAnyH _ _ _ _ _ _ _ (Act.put _ (some 107) _) _
                  try simp only [Act.put, List.setIfInBounds_toArray, List.set_cons_zero, List.set_cons_succ]
                  refine wpAnyH_take (i := 11) (v := undef) rfl (by kernel_rfl) (by kernel_rfl) (by kernel_rfl) (fun _ _ _ h => h) (Or.inr ⟨by rfl, rfl⟩) hHeld ?_
                  show wpAnyH _ _ _ _ _ _ _ (Act.put _ (some 108) _) _
                  try simp only [Act.put, List.setIfInBounds_toArray, List.set_cons_zero, List.set_cons_succ]
                  refine wpAnyH_take (i := 12) (v := ?_) rfl (by kernel_rfl) (by kernel_rfl) (by kernel_rfl) (fun _ _ _ h => h) (Or.inl ⟨by rfl, ?_⟩) hHeld ?_
                  rotate_left
                  · intro w hSw
                    try dsimp only at hSw
                    go_simp
                    try with_reducible rfl
                  show wpAnyH _ _ _ _ _ _ _ (Act.put _ (some 109) _) _
                  try simp only [Act.put, List.setIfInBounds_toArray, List.set_cons_zero, List.set_cons_succ]
                  refine wpAnyH_done (by kernel_rfl) ?_ _
                  clear hHeld
                  go_wp2_with fail
                  go_roundw
                  case rel => exact ⟨T, k, B, hide (by rw [Lf, unhide HTL]; exact (by have h := unhide LT13; rw [Lf, unhide HTL] at h; exact h)), SIT2, SW13, GW9, KT13, KU13, LK2⟩
                  case measure => exact (unhide MS) _ _ (unhide SW13)
        · have lj : ¬ (j : Int) < (s : Int) := by omega
          obtain rfl : j = s := by omega
          have GW2 : Hid (go (fN RR D) D.length fl k B (all2 (F.drop (i + 1)) S) = GO) := hide (by
            have h := unhide GW
            rw [List.drop_of_length_le (by rw [unhide HS9]; exact Nat.le_refl _)] at h
            exact h)
          go_wp2_with fail
          go_roundw
          case rel => exact ⟨i + 1, k, B, hlt, by go_num, SW, GW2, KTW, LK⟩
          case measure => simp [intOf]; omega
    · have li : ¬ (i : Int) < (f : Int) := by omega
      obtain rfl : i = f := by omega
      have hgo : Hid (GO = (true, B, k)) := hide (by
        have h := unhide GW
        rw [List.drop_of_length_le (by rw [unhide HF9]; exact Nat.le_refl _), all2, List.flatMap_nil, go_nil] at h
        exact h.symm)
      obtain ⟨x1, vo1, st1, hbx, hB⟩ := (unhide SW).box
      obtain ⟨-, -, -, -, -, -, -, -, c8, -⟩ := sv_at hbx
      clear hbx
      cases B with
      | none =>
        obtain ⟨-, rfl, -⟩ := hB
        go_wp2_with fail
        try rw [Exit.noGoto_ret]
        try go_ret
        exact (unhide HQ) true none k _ _ (unhide hgo) rfl (unhide SW)
      | some b =>
        obtain ⟨-, hb, -⟩ := hB
        obtain ⟨a1, c1, rfl, -⟩ := hb.sl
        have hl : (oo RR.length b.1.1).length = RR.length := by unfold oo; rw [List.length_take]; simp; omega
        rw [hl] at c8
        have h1 : ((RR.length : Int) == 0) = false := by simp; intro h; rw [h] at hR; simp at hR
        clear hb hl
        go_wp2_with fail
        try rw [Exit.noGoto_ret]
        try go_ret
        exact (unhide HQ) true (some b) k _ _ (unhide hgo) rfl (unhide SW)
end Gp
end Go.Proofs.Ytakandlehneciaa
