/- The document's way. -/
import Derived.Test.YtfofkkjldngkaaaDoorPcB
namespace Go.Proofs.YtfofkkjldngkaaaDoor
open Go.RowKit
attribute [local go_sem ↓] Go.wp_at_zero Go.wp_at_succ
set_option linter.unusedVariables false
set_option linter.unusedSimpArgs false
set_option maxRecDepth 10000
namespace Pa
def bcs (u : List Bool) : List Value := u.map .bool
theorem bcs_len (u : List Bool) : (bcs u).length = u.length := by simp [bcs]
theorem bcs_set (u : List Bool) (i : Nat) (x : Bool) : (bcs u).set i (.bool x) = bcs (u.set i x) := by simp [bcs, List.map_set]
theorem bcs_at {u : List Bool} {k : Nat} (hk : k < u.length) : (bcs u)[k]? = some (.bool (ub u k)) := by
  rw [bcs, List.getElem?_map, List.getElem?_eq_getElem hk, ub, List.getD_eq_getElem?_getD, List.getElem?_eq_getElem hk]; rfl
theorem bcs_one (u : List Bool) : ∀ x ∈ bcs u, x.oneCell' = true := by
  intro x hx
  obtain ⟨y, _, rfl⟩ := List.mem_map.1 hx
  rfl
theorem infoB : (Tryd.prog.info? 4).map (fun i => (i.zero, i.size, i.bytes)) = some (some (.bool false), 1, 1) := by kernel_rfl
theorem lp_at (f : Nat → List Nat) : ∀ m k, (∀ q, q < k → f q = []) → k < m → f k ≠ [] → lp f 0 m = f k := by
  intro m k h hk hne
  rcases Classical.em (lp f 0 m = []) with h1 | h1
  · exact absurd ((lp_no f m 0).1 h1 k (Nat.zero_le _) (by omega)) hne
  · obtain ⟨q, h2, h3, h4, h5⟩ := lp_yes f m 0 h1
    rcases Nat.lt_trichotomy q k with h6 | h6 | h6
    · rw [h4, h q h6] at h1; exact absurd rfl h1
    · rw [h4, h6]
    · exact absurd (h5 k (Nat.zero_le _) h6) hne
theorem lp_end (f : Nat → List Nat) (m : Nat) (h : ∀ q, q < m → f q = []) : lp f 0 m = [] := (lp_no f m 0).2 fun q _ h2 => h q (by omega)
theorem tg_app (A B : List Ed) (d : Nat → Int) (a p : Nat) : tg (A ++ B) d a p = (tg A d a p || tg B d a p) := by simp [tg]
/-- what is gone through at a point -/
def Fo (T : Nat → Nat → Bool) (n td f a : Nat) (u' : List Bool) (p : Nat) : List Nat := if ub u' p = true then [] else if T a p = true then onW T n td f p u' else []
theorem on_go {T : Nat → Nat → Bool} {n td f a : Nat} {u : List Bool} (h : a ≠ td) : onW T n td (f + 1) a u = if lp (Fo T n td f a (u.set a true)) 0 n = [] then [] else a :: lp (Fo T n td f a (u.set a true)) 0 n := by
  simp only [onW, if_neg h]; rfl
theorem lp_len (F : Nat → List Nat) (f : Nat) (h : ∀ p, (F p).length ≤ f) : ∀ m p, (lp F p m).length ≤ f
  | 0, p => by simp [lp]
  | m + 1, p => by
    unfold lp
    split
    · exact lp_len F f h m (p + 1)
    · exact h p
theorem on_len (T : Nat → Nat → Bool) (n td : Nat) : ∀ f a u, (onW T n td f a u).length ≤ f
  | 0, a, u => by simp [onW]
  | f + 1, a, u => by
    by_cases h : a = td
    · simp [onW, h]
    · rw [on_go h]
      have h1 := lp_len (Fo T n td f a (u.set a true)) f (fun p => by
        unfold Fo
        split
        · simp
        · split
          · exact on_len T n td f p _
          · simp) n 0
      split
      · simp
      · simp only [List.length_cons]; omega
def OQ (L : List Nat) (w : World) (e : Ending) (w' : World) : Prop := ∃ x, e = .returned x ∧ Keep w w' ∧ Iw 3 w' x (nI L)
set_option maxHeartbeats 8000000 in
theorem on_step (v vd : Value) (R : List E3) (n td : Nat) (D : List Int) (w0 : World) (hR : Es w0 v R) (hl : R.length ≤ 1000) (hG : isG (n : Int) R = true) (hD : Is w0 vd D) (hn : Nn n D) (hB : ∀ p, g D p ≤ 1000000000000) (f : Nat) (hf : f ≤ 64)
    (IH : ∀ (a : Nat) (u : List Bool) (vu : Value) (w : World), u.count false ≤ f → u.length = n → a < n → ub u a = false → Keep w0 w → Vs w vu n (bcs u) → Calls Tryd.prog 25 #[vd, v, .int .i64 (a : Int), .int .i64 (td : Int), vu] w (OQ (onW (tg (nE R) (g D)) n td f a u) w))
    (a : Nat) (u : List Bool) (vu : Value) (w : World) (hc : u.count false ≤ f + 1) (hu : u.length = n) (ha : a < n) (h0 : ub u a = false) (hK : Keep w0 w) (hV : Vs w vu n (bcs u)) :
    Calls Tryd.prog 25 #[vd, v, .int .i64 (a : Int), .int .i64 (td : Int), vu] w (OQ (onW (tg (nE R) (g D)) n td (f + 1) a u) w) := by
  obtain ⟨i0, hi0, hz0, hz1, hz2⟩ := info_f infoN
  obtain ⟨iB, hiB, hzB0, hzB1, hzB2⟩ := info_f infoB
  by_cases hat : a = td
  · subst hat
    have HP : Hid (∀ e w' x, Keep w w' → Iw 3 w' x (nI [a]) → e = .returned x → OQ (onW (tg (nE R) (g D)) n a (f + 1) a u) w e w') := hide (fun e w' x hk hi he => ⟨x, he, hk, by simp only [onW, if_true]; exact hi⟩)
    generalize OQ (onW (tg (nE R) (g D)) n a (f + 1) a u) w = QQ at HP ⊢
    obtain ⟨xa, xc, rfl⟩ := is_sl hD
    obtain ⟨aa, cap, rfl, -⟩ := hR
    obtain ⟨ua, uc, rfl, -⟩ := hV
    generalize D.length = dl at *
    generalize R.length = rl at *
    have hI := hide (Iw.keep (w := w.alloc (.cells #[.int .i64 (a : Int)] 3)) (w' := w.alloc (.cells #[.int .i64 (a : Int)] 3)) (iw_own (World.ownsRow_lit (base := 0) w #[.int .i64 (a : Int)] 1 (Nat.zero_le _) (by unfold maxLen; omega) rfl : _ ) (L := nI [a]) rfl) (Keep.refl _))
    clear IH
    go_enter Tryd.func25, Tryd.ntmps25
    go_wp2_with fail
    try go_ret
    exact (unhide HP) _ _ _ ((Keep.refl w).alloc _) (unhide hI) rfl
  · obtain ⟨n', hn', hn1, hn2, hg, h6, hat9⟩ := isG_gr hG
    obtain rfl : n = n' := by omega
    have HP : Hid (∀ e w' x L, Keep w w' → Iw 3 w' x (nI L) → L = (if lp (Fo (tg (nE R) (g D)) n td f a (u.set a true)) 0 n = [] then [] else a :: lp (Fo (tg (nE R) (g D)) n td f a (u.set a true)) 0 n) → e = .returned x → OQ (onW (tg (nE R) (g D)) n td (f + 1) a u) w e w') := hide (fun e w' x L hk hi hL he => ⟨x, he, hk, by rw [on_go hat, ← hL]; exact hi⟩)
    generalize OQ (onW (tg (nE R) (g D)) n td (f + 1) a u) w = QQ at HP ⊢
    have hcu := cf_set u a (by omega) h0
    obtain ⟨u', hu'⟩ : ∃ u', u.set a true = u' := ⟨_, rfl⟩
    have hul : u'.length = n := by rw [← hu']; simpa using hu
    have hb1 : bcs (u.set a true) = bcs u' := by rw [hu']
    rw [← bcs_set] at hb1
    have HB1 := hide hb1
    rw [hu'] at hcu HP
    have TI := hide (fun (p : Nat) (w' : World) (vu : Value) (hp : p < n) (hup : ub u' p = false) (hk : Keep w0 w') (hvu : Vs w' vu n (bcs u')) => IH p u' vu w' (by omega) hul hp hup hk hvu)
    have HF : Hid (∀ p, (ub u' p = true → Fo (tg (nE R) (g D)) n td f a u' p = []) ∧ (ub u' p = false → tg (nE R) (g D) a p = false → Fo (tg (nE R) (g D)) n td f a u' p = []) ∧ (ub u' p = false → tg (nE R) (g D) a p = true → Fo (tg (nE R) (g D)) n td f a u' p = onW (tg (nE R) (g D)) n td f p u')) := hide (fun p => ⟨fun h => by unfold Fo; rw [if_pos h], fun h h2 => by unfold Fo; rw [h, h2]; rfl, fun h h2 => by unfold Fo; rw [h, h2]; rfl⟩)
    generalize Fo (tg (nE R) (g D)) n td f a u' = Fp at HP HF
    have HOW : Hid (∀ p u, (onW (tg (nE R) (g D)) n td f p u).length ≤ 64) := hide (fun p u => Nat.le_trans (on_len _ n td f p u) hf)
    generalize onW (tg (nE R) (g D)) n td f = OW at TI HF HOW
    have HLe := hide (lp_end Fp n)
    have HLa := hide (lp_at Fp n)
    generalize lp Fp 0 n = LP at HP HLe HLa
    clear IH hb1 hcu hc hu'
    have HR := hide (hR.keep hK)
    obtain ⟨aa, cap, rfl, hR2⟩ := hR
    have HC := hide (fun (k : Nat) (hk : k < R.length) => by
      obtain ⟨ad, e1, e2⟩ := hR2 k hk
      exact (⟨ad, e1, e2.keep hK⟩ : ∃ ad, aa = some ad ∧ C3 w (ad.add (k * 3)) (R.getD k z3)))
    clear hR2 HR
    obtain ⟨m, hm⟩ : ∃ m, R.length = m := ⟨_, rfl⟩
    have HM := hide hm
    rw [hm] at hl HC hat9 TI ⊢
    clear hm
    obtain ⟨xa0, xc, rfl⟩ := is_sl hD
    rw [hn.1] at hD TI ⊢
    have HDc : Hid (∀ k, k < n → ∃ ad, xa0 = some ad ∧ w.cell? (ad.add k) = some (.int .i64 (g D k)) ∧ -1 ≤ g D k ∧ g D k ≤ 1000000000000) := hide (fun k hk => by
      obtain ⟨ad, e1, e2⟩ := hD.at.2 k (by rw [hn.1]; exact hk)
      exact ⟨ad, e1, kc hK e2, hn.2 k, hB k⟩)
    obtain ⟨Tk, hTk⟩ : ∃ Tk : Nat → Nat → Bool, ∀ k p, Tk k p = tg ((nE R).take k) (g D) a p := ⟨_, fun k p => rfl⟩
    have HT0 : Hid (∀ p, Tk 0 p = false) := hide (fun p => by rw [hTk]; rfl)
    have HTm : Hid (∀ p, Tk m p = tg (nE R) (g D) a p) := hide (fun p => by rw [hTk, List.take_of_length_le (by rw [nE_len, unhide HM]; exact Nat.le_refl _)])
    have HA : Hid (∀ k, k < m → ∃ f1 t1 : Nat, ∃ l1 : Int, R.getD k z3 = ((f1 : Int), (t1 : Int), l1) ∧ 0 ≤ l1 ∧ l1 ≤ 6000 ∧ ∀ p, Tk (k + 1) p = (Tk k p || (f1 == a && t1 == p && g D p == g D a + l1))) := hide (fun k hk => by
      obtain ⟨f1, t1, l1, h1, h2, h3, h4, h5, h6⟩ := hat9 k hk
      exact ⟨f1, t1, l1, h1, h5, h6, fun p => by rw [hTk, hTk, take_more h2, tg_app]; simp [tg]⟩)
    have hVs := hV
    obtain ⟨ua, uc, rfl, -⟩ := hV
    have HV := hide hVs
    have HK := hide hK
    clear hTk hat9 h6 hg hG hD hn hB hVs hK h0
    have E0 := hide (e_row w 4 1)
    have KA := hide ((Keep.refl w).alloc (.cells #[] 4))
    have HVA := hide ((unhide HV).keep (unhide KA))
    have HL1 : Hid ((bcs u).length = n * 1) := hide (by rw [bcs_len, hu, Nat.mul_one])
    have HL2 := hide (bcs_one u)
    have HUl := hide (And.intro hu hul)
    have an : (a : Int) < (n : Int) := by omega
    have az : (0 : Int) ≤ (a : Int) := by omega
    have hbat : ((a : Int) == (td : Int)) = false := by simp; omega
    clear hu hul
    go_enter Tryd.func25, Tryd.ntmps25
    go_upto_region 4 with (at_builtin; refine wpList_append_vs _ rfl _ _ 54 rfl w.heap.size 4 iB _ 1 1 Tryd.underlying54 hiB hzB0 hzB1 hzB2 rfl (by decide) (by decide) _ 0 [] rfl (unhide E0) _ n (bcs u) rfl (unhide HVA) (unhide HL1) (unhide HL2) (by omega) (unhide KA).size ?_; intro v5 w5 hown' hgrow; rw [Nat.zero_add, List.nil_append] at hown'; obtain ⟨g0, c5, rfl, hgb, hgl⟩ := own_g hown' (by omega); have HO5 := hide hown'; have Hgb := hide hgb; have K5 : Hid (Keep w w5) := hide (Below.grown (unhide KA) hgrow (unhide KA).size (fun j ej => ((unhide E0).lt j ej).1)); clear hown' hgrow hgb hgl)
    have hca : w5.cell? ⟨g0, a, none⟩ = some (.bool (ub u a)) := by rw [(unhide HO5).cellAt a (by omega), bcs_at (by rw [(unhide HUl).1]; exact ha)]
    have hfa := (unhide HO5).frozenAt a
    have O6 := hide ((unhide HO5).stored a (.bool true)).1
    rw [unhide HB1] at O6
    have K6 : Hid (Keep w (w5.setCell ⟨g0, a, none⟩ (.bool true))) := hide (keep_st (unhide K5) (unhide Hgb) _)
    go_upto_region 5 with fail
    generalize w5.setCell ⟨g0, a, none⟩ (.bool true) = w6 at O6 K6 ⊢
    clear hca hfa HO5 K5 HVA E0 KA HB1
    go_wp2_with fail
    go_loopw [12] (fun vp wr => ∃ p : Nat, vp = .int .i64 (p : Int) ∧ p ≤ n ∧ Hid (∀ q, q < p → Fp q = []) ∧ Hid (Keep w wr) ∧ Hid (wr.ownsRow w.heap.size 4 1 (.slice (some ⟨g0, 0, none⟩) n c5) n (bcs u'))) (fun vp _ => n - (intOf vp).toNat)
    case atStart => exact ⟨0, rfl, Nat.zero_le _, hide (fun q hq => by omega), K6, O6⟩
    case round =>
      clear K6 O6
      obtain ⟨p, rfl, hp, HN, KW, OWn⟩ := hrel
      by_cases hlt : p < n
      · have li : (p : Int) < (n : Int) := by omega
        have lz : (0 : Int) ≤ (p : Int) := by omega
        have hcp : wr.cell? ⟨g0, p, none⟩ = some (.bool (ub u' p)) := by rw [(unhide OWn).cellAt p (by omega), bcs_at (by rw [(unhide HUl).2]; exact hlt)]
        have HFp := hide ((unhide HF) p)
        have HNm : Hid (Fp p = [] → ∀ q, q < p + 1 → Fp q = []) := hide (fun h q hq => by
          rcases Nat.lt_or_eq_of_le (Nat.le_of_lt_succ hq) with h1 | h1
          · exact unhide HN q h1
          · rw [h1]; exact h)
        cases hup : ub u' p with
        | true =>
          rw [hup] at hcp
          have HN2 := hide ((unhide HNm) ((unhide HFp).1 hup))
          clear hup HNm HFp
          go_wp2_with fail
          go_roundw
          case rel => exact ⟨p + 1, by go_num, hlt, HN2, KW, OWn⟩
          case measure => simp [intOf]; omega
        | false =>
          rw [hup] at hcp
          have HUP := hide hup
          clear hup
          go_wp2_with fail
          obtain ⟨wo, hwo⟩ : ∃ wo, wo = wr := ⟨_, rfl⟩
          subst hwo
          go_loopw [13, 14] (fun vb vi wr => ∃ k : Nat, vi = .int .i64 (k : Int) ∧ k ≤ m ∧ vb = .bool (Tk k p) ∧ Hid (Keep wo wr)) (fun vb vi _ => m - (intOf vi).toNat)
          case atStart => exact ⟨0, rfl, Nat.zero_le _, by rw [unhide HT0], hide (Keep.refl _)⟩
          case round =>
            obtain ⟨k, rfl, hk, rfl, KV⟩ := hrel
            by_cases hkm : k < m
            · have ki : (k : Int) < (m : Int) := by omega
              obtain ⟨ad, rfl, hc3⟩ := (unhide HC) k hkm
              obtain ⟨f1, t1, l1, hr, hl0, hl6, hbk⟩ := (unhide HA) k hkm
              rw [hr] at hc3
              have KX := hide ((unhide KW).trans (unhide KV))
              obtain ⟨x0, x1, x2⟩ := hc3.keep (unhide KX)
              simp only at x0 x1 x2
              obtain ⟨xa, rfl, y0, hyl, hyu⟩ := (unhide HDc) p hlt
              obtain ⟨xb, hxb, z0, hzl, hzu⟩ := (unhide HDc) a ha
              obtain rfl : xa = xb := by injection hxb
              have y1 := kc (unhide KX) y0
              have z1 := kc (unhide KX) z0
              have HBk := hide (hbk p)
              clear hbk hc3 hr y0 z0 hxb
              obtain ⟨y, hy⟩ : ∃ y, g D p = y := ⟨_, rfl⟩
              obtain ⟨z, hz⟩ : ∃ z, g D a = z := ⟨_, rfl⟩
              rw [hy] at y1 hyl hyu HBk
              rw [hz] at z1 hzl hzu HBk
              clear hy hz
              have CK : Hid (∀ w', Keep wr w' → w'.cell? (ad.add (k * 3)) = some (.int .i64 (f1 : Int)) ∧ w'.cell? ⟨(ad.add (k * 3)).block, (ad.add (k * 3)).off + 1, none⟩ = some (.int .i64 (t1 : Int)) ∧ w'.cell? ⟨(ad.add (k * 3)).block, (ad.add (k * 3)).off + 2, none⟩ = some (.int .i64 l1) ∧ w'.cell? (xa.add p) = some (.int .i64 y) ∧ w'.cell? (xa.add a) = some (.int .i64 z)) := hide (fun w' hk => ⟨kc hk x0, kc hk x1, kc hk x2, kc hk y1, kc hk z1⟩)
              clear x0 x1 x2 y1 z1
              have hw : IntKind.i64.wrap (z + l1) = z + l1 := by rw [IntKind.wrap_i64]; omega
              have HQ : Hid (Tk k p = false → Tk (k + 1) p = (f1 == a && t1 == p && y == z + l1)) := hide (fun h => by rw [unhide HBk, h, Bool.false_or])
              cases hTk : Tk k p with
              | true =>
                have HBn : Hid (Tk (k + 1) p = true) := hide (by rw [unhide HBk, hTk, Bool.true_or])
                clear HQ HBk hTk
                go_upto_region 13 with fail
                refine wp_region_held_drew (S := (fun w' => w'.cell? (ad.add (k * 3)) = some (.int .i64 (f1 : Int)) ∧ w'.cell? ⟨(ad.add (k * 3)).block, (ad.add (k * 3)).off + 1, none⟩ = some (.int .i64 (t1 : Int)) ∧ w'.cell? ⟨(ad.add (k * 3)).block, (ad.add (k * 3)).off + 2, none⟩ = some (.int .i64 l1) ∧ w'.cell? (xa.add p) = some (.int .i64 y) ∧ w'.cell? (xa.add a) = some (.int .i64 z))) (by kernel_rfl) (by exact unhide CK _ (by repeat (first | apply Keep.drew | exact Keep.refl _))) (fun hHeld => ?_)
                refine wpAnyH_take (i := 0) (v := ?_) rfl (by kernel_rfl) (by kernel_rfl) (by kernel_rfl) (fun _ _ _ h => h) (Or.inl ⟨by rfl, ?_⟩) hHeld ?_
                rotate_left
                · intro w hSw
                  try dsimp only at hSw
                  go_simp
                  try with_reducible rfl
                show wpAnyH _ _ _ _ _ _ _ (Act.put _ (some 43) _) _
                try simp only [Act.put, List.setIfInBounds_toArray, List.set_cons_zero, List.set_cons_succ]
                refine wpAnyH_take (i := 1) (v := ?_) rfl (by kernel_rfl) (by kernel_rfl) (by kernel_rfl) (fun _ _ _ h => h) (Or.inl ⟨by rfl, ?_⟩) hHeld ?_
                rotate_left
                · intro w hSw
                  try dsimp only at hSw
                  go_simp
                  try with_reducible rfl
                show wpAnyH _ _ _ _ _ _ _ (Act.put _ (some 44) _) _
                try simp only [Act.put, List.setIfInBounds_toArray, List.set_cons_zero, List.set_cons_succ]
                refine wpAnyH_take (i := 2) (v := undef) rfl (by kernel_rfl) (by kernel_rfl) (by kernel_rfl) (fun _ _ _ h => h) (Or.inr ⟨by rfl, rfl⟩) hHeld ?_
                show wpAnyH _ _ _ _ _ _ _ (Act.put _ (some 45) _) _
                try simp only [Act.put, List.setIfInBounds_toArray, List.set_cons_zero, List.set_cons_succ]
                refine wpAnyH_take (i := 3) (v := undef) rfl (by kernel_rfl) (by kernel_rfl) (by kernel_rfl) (fun _ _ _ h => h) (Or.inr ⟨by rfl, rfl⟩) hHeld ?_
                show wpAnyH _ _ _ _ _ _ _ (Act.put _ (some 46) _) _
                try simp only [Act.put, List.setIfInBounds_toArray, List.set_cons_zero, List.set_cons_succ]
                refine wpAnyH_take (i := 4) (v := undef) rfl (by kernel_rfl) (by kernel_rfl) (by kernel_rfl) (fun _ _ _ h => h) (Or.inr ⟨by rfl, rfl⟩) hHeld ?_
                show wpAnyH _ _ _ _ _ _ _ (Act.put _ (some 47) _) _
                try simp only [Act.put, List.setIfInBounds_toArray, List.set_cons_zero, List.set_cons_succ]
                refine wpAnyH_take (i := 5) (v := undef) rfl (by kernel_rfl) (by kernel_rfl) (by kernel_rfl) (fun _ _ _ h => h) (Or.inr ⟨by rfl, rfl⟩) hHeld ?_
                show wpAnyH _ _ _ _ _ _ _ (Act.put _ (some 48) _) _
                try simp only [Act.put, List.setIfInBounds_toArray, List.set_cons_zero, List.set_cons_succ]
                refine wpAnyH_take (i := 6) (v := undef) rfl (by kernel_rfl) (by kernel_rfl) (by kernel_rfl) (fun _ _ _ h => h) (Or.inr ⟨by rfl, rfl⟩) hHeld ?_
                show wpAnyH _ _ _ _ _ _ _ (Act.put _ (some 49) _) _
                try simp only [Act.put, List.setIfInBounds_toArray, List.set_cons_zero, List.set_cons_succ]
                refine wpAnyH_take (i := 7) (v := undef) rfl (by kernel_rfl) (by kernel_rfl) (by kernel_rfl) (fun _ _ _ h => h) (Or.inr ⟨by rfl, rfl⟩) hHeld ?_
                show wpAnyH _ _ _ _ _ _ _ (Act.put _ (some 50) _) _
                try simp only [Act.put, List.setIfInBounds_toArray, List.set_cons_zero, List.set_cons_succ]
                refine wpAnyH_take (i := 8) (v := undef) rfl (by kernel_rfl) (by kernel_rfl) (by kernel_rfl) (fun _ _ _ h => h) (Or.inr ⟨by rfl, rfl⟩) hHeld ?_
                show wpAnyH _ _ _ _ _ _ _ (Act.put _ (some 51) _) _
                try simp only [Act.put, List.setIfInBounds_toArray, List.set_cons_zero, List.set_cons_succ]
                refine wpAnyH_take (i := 9) (v := undef) rfl (by kernel_rfl) (by kernel_rfl) (by kernel_rfl) (fun _ _ _ h => h) (Or.inr ⟨by rfl, rfl⟩) hHeld ?_
                show wpAnyH _ _ _ _ _ _ _ (Act.put _ (some 52) _) _
                try simp only [Act.put, List.setIfInBounds_toArray, List.set_cons_zero, List.set_cons_succ]
                refine wpAnyH_take (i := 10) (v := undef) rfl (by kernel_rfl) (by kernel_rfl) (by kernel_rfl) (fun _ _ _ h => h) (Or.inr ⟨by rfl, rfl⟩) hHeld ?_
                show wpAnyH _ _ _ _ _ _ _ (Act.put _ (some 53) _) _
                try simp only [Act.put, List.setIfInBounds_toArray, List.set_cons_zero, List.set_cons_succ]
                refine wpAnyH_take (i := 11) (v := undef) rfl (by kernel_rfl) (by kernel_rfl) (by kernel_rfl) (fun _ _ _ h => h) (Or.inr ⟨by rfl, rfl⟩) hHeld ?_
                show wpAnyH _ _ _ _ _ _ _ (Act.put _ (some 54) _) _
                try simp only [Act.put, List.setIfInBounds_toArray, List.set_cons_zero, List.set_cons_succ]
                refine wpAnyH_take (i := 12) (v := undef) rfl (by kernel_rfl) (by kernel_rfl) (by kernel_rfl) (fun _ _ _ h => h) (Or.inr ⟨by rfl, rfl⟩) hHeld ?_
                show wpAnyH _ _ _ _ _ _ _ (Act.put _ (some 55) _) _
                try simp only [Act.put, List.setIfInBounds_toArray, List.set_cons_zero, List.set_cons_succ]
                refine wpAnyH_take (i := 13) (v := undef) rfl (by kernel_rfl) (by kernel_rfl) (by kernel_rfl) (fun _ _ _ h => h) (Or.inr ⟨by rfl, rfl⟩) hHeld ?_
                show wpAnyH _ _ _ _ _ _ _ (Act.put _ (some 56) _) _
                try simp only [Act.put, List.setIfInBounds_toArray, List.set_cons_zero, List.set_cons_succ]
                refine wpAnyH_take (i := 14) (v := undef) rfl (by kernel_rfl) (by kernel_rfl) (by kernel_rfl) (fun _ _ _ h => h) (Or.inr ⟨by rfl, rfl⟩) hHeld ?_
                show wpAnyH _ _ _ _ _ _ _ (Act.put _ (some 57) _) _
                try simp only [Act.put, List.setIfInBounds_toArray, List.set_cons_zero, List.set_cons_succ]
                refine wpAnyH_take (i := 15) (v := undef) rfl (by kernel_rfl) (by kernel_rfl) (by kernel_rfl) (fun _ _ _ h => h) (Or.inr ⟨by rfl, rfl⟩) hHeld ?_
                show wpAnyH _ _ _ _ _ _ _ (Act.put _ (some 58) _) _
                try simp only [Act.put, List.setIfInBounds_toArray, List.set_cons_zero, List.set_cons_succ]
                refine wpAnyH_take (i := 16) (v := undef) rfl (by kernel_rfl) (by kernel_rfl) (by kernel_rfl) (fun _ _ _ h => h) (Or.inr ⟨by rfl, rfl⟩) hHeld ?_
                show wpAnyH _ _ _ _ _ _ _ (Act.put _ (some 59) _) _
                try simp only [Act.put, List.setIfInBounds_toArray, List.set_cons_zero, List.set_cons_succ]
                refine wpAnyH_take (i := 17) (v := undef) rfl (by kernel_rfl) (by kernel_rfl) (by kernel_rfl) (fun _ _ _ h => h) (Or.inr ⟨by rfl, rfl⟩) hHeld ?_
                show wpAnyH _ _ _ _ _ _ _ (Act.put _ (some 60) _) _
                try simp only [Act.put, List.setIfInBounds_toArray, List.set_cons_zero, List.set_cons_succ]
                refine wpAnyH_take (i := 18) (v := undef) rfl (by kernel_rfl) (by kernel_rfl) (by kernel_rfl) (fun _ _ _ h => h) (Or.inr ⟨by rfl, rfl⟩) hHeld ?_
                show wpAnyH _ _ _ _ _ _ _ (Act.put _ (some 61) _) _
                try simp only [Act.put, List.setIfInBounds_toArray, List.set_cons_zero, List.set_cons_succ]
                refine wpAnyH_take (i := 19) (v := undef) rfl (by kernel_rfl) (by kernel_rfl) (by kernel_rfl) (fun _ _ _ h => h) (Or.inr ⟨by rfl, rfl⟩) hHeld ?_
                show wpAnyH _ _ _ _ _ _ _ (Act.put _ (some 62) _) _
                try simp only [Act.put, List.setIfInBounds_toArray, List.set_cons_zero, List.set_cons_succ]
                refine wpAnyH_take (i := 20) (v := undef) rfl (by kernel_rfl) (by kernel_rfl) (by kernel_rfl) (fun _ _ _ h => h) (Or.inr ⟨by rfl, rfl⟩) hHeld ?_
                show wpAnyH _ _ _ _ _ _ _ (Act.put _ (some 63) _) _
                try simp only [Act.put, List.setIfInBounds_toArray, List.set_cons_zero, List.set_cons_succ]
                refine wpAnyH_take (i := 21) (v := undef) rfl (by kernel_rfl) (by kernel_rfl) (by kernel_rfl) (fun _ _ _ h => h) (Or.inr ⟨by rfl, rfl⟩) hHeld ?_
                show wpAnyH _ _ _ _ _ _ _ (Act.put _ (some 64) _) _
                try simp only [Act.put, List.setIfInBounds_toArray, List.set_cons_zero, List.set_cons_succ]
                refine wpAnyH_take (i := 22) (v := undef) rfl (by kernel_rfl) (by kernel_rfl) (by kernel_rfl) (fun _ _ _ h => h) (Or.inr ⟨by rfl, rfl⟩) hHeld ?_
                show wpAnyH _ _ _ _ _ _ _ (Act.put _ (some 65) _) _
                try simp only [Act.put, List.setIfInBounds_toArray, List.set_cons_zero, List.set_cons_succ]
                refine wpAnyH_take (i := 23) (v := undef) rfl (by kernel_rfl) (by kernel_rfl) (by kernel_rfl) (fun _ _ _ h => h) (Or.inr ⟨by rfl, rfl⟩) hHeld ?_
                show wpAnyH _ _ _ _ _ _ _ (Act.put _ (some 66) _) _
                try simp only [Act.put, List.setIfInBounds_toArray, List.set_cons_zero, List.set_cons_succ]
                refine wpAnyH_take (i := 24) (v := undef) rfl (by kernel_rfl) (by kernel_rfl) (by kernel_rfl) (fun _ _ _ h => h) (Or.inr ⟨by rfl, rfl⟩) hHeld ?_
                show wpAnyH _ _ _ _ _ _ _ (Act.put _ (some 67) _) _
                try simp only [Act.put, List.setIfInBounds_toArray, List.set_cons_zero, List.set_cons_succ]
                refine wpAnyH_take (i := 25) (v := undef) rfl (by kernel_rfl) (by kernel_rfl) (by kernel_rfl) (fun _ _ _ h => h) (Or.inr ⟨by rfl, rfl⟩) hHeld ?_
                show wpAnyH _ _ _ _ _ _ _ (Act.put _ (some 68) _) _
                try simp only [Act.put, List.setIfInBounds_toArray, List.set_cons_zero, List.set_cons_succ]
                refine wpAnyH_take (i := 26) (v := undef) rfl (by kernel_rfl) (by kernel_rfl) (by kernel_rfl) (fun _ _ _ h => h) (Or.inr ⟨by rfl, rfl⟩) hHeld ?_
                show wpAnyH _ _ _ _ _ _ _ (Act.put _ (some 69) _) _
                try simp only [Act.put, List.setIfInBounds_toArray, List.set_cons_zero, List.set_cons_succ]
                refine wpAnyH_take (i := 27) (v := undef) rfl (by kernel_rfl) (by kernel_rfl) (by kernel_rfl) (fun _ _ _ h => h) (Or.inr ⟨by rfl, rfl⟩) hHeld ?_
                show wpAnyH _ _ _ _ _ _ _ (Act.put _ (some 70) _) _
                try simp only [Act.put, List.setIfInBounds_toArray, List.set_cons_zero, List.set_cons_succ]
                refine wpAnyH_take (i := 28) (v := undef) rfl (by kernel_rfl) (by kernel_rfl) (by kernel_rfl) (fun _ _ _ h => h) (Or.inr ⟨by rfl, rfl⟩) hHeld ?_
                show wpAnyH _ _ _ _ _ _ _ (Act.put _ (some 71) _) _
                try simp only [Act.put, List.setIfInBounds_toArray, List.set_cons_zero, List.set_cons_succ]
                refine wpAnyH_take (i := 29) (v := undef) rfl (by kernel_rfl) (by kernel_rfl) (by kernel_rfl) (fun _ _ _ h => h) (Or.inr ⟨by rfl, rfl⟩) hHeld ?_
                show wpAnyH _ _ _ _ _ _ _ (Act.put _ (some 72) _) _
                try simp only [Act.put, List.setIfInBounds_toArray, List.set_cons_zero, List.set_cons_succ]
                refine wpAnyH_take (i := 30) (v := undef) rfl (by kernel_rfl) (by kernel_rfl) (by kernel_rfl) (fun _ _ _ h => h) (Or.inr ⟨by rfl, rfl⟩) hHeld ?_
                show wpAnyH _ _ _ _ _ _ _ (Act.put _ (some 73) _) _
                try simp only [Act.put, List.setIfInBounds_toArray, List.set_cons_zero, List.set_cons_succ]
                refine wpAnyH_take (i := 31) (v := undef) rfl (by kernel_rfl) (by kernel_rfl) (by kernel_rfl) (fun _ _ _ h => h) (Or.inr ⟨by rfl, rfl⟩) hHeld ?_
                show wpAnyH _ _ _ _ _ _ _ (Act.put _ (some 74) _) _
                try simp only [Act.put, List.setIfInBounds_toArray, List.set_cons_zero, List.set_cons_succ]
                refine wpAnyH_take (i := 32) (v := undef) rfl (by kernel_rfl) (by kernel_rfl) (by kernel_rfl) (fun _ _ _ h => h) (Or.inr ⟨by rfl, rfl⟩) hHeld ?_
                show wpAnyH _ _ _ _ _ _ _ (Act.put _ (some 75) _) _
                try simp only [Act.put, List.setIfInBounds_toArray, List.set_cons_zero, List.set_cons_succ]
                refine wpAnyH_take (i := 33) (v := undef) rfl (by kernel_rfl) (by kernel_rfl) (by kernel_rfl) (fun _ _ _ h => h) (Or.inr ⟨by rfl, rfl⟩) hHeld ?_
                show wpAnyH _ _ _ _ _ _ _ (Act.put _ (some 76) _) _
                try simp only [Act.put, List.setIfInBounds_toArray, List.set_cons_zero, List.set_cons_succ]
                refine wpAnyH_take (i := 34) (v := undef) rfl (by kernel_rfl) (by kernel_rfl) (by kernel_rfl) (fun _ _ _ h => h) (Or.inr ⟨by rfl, rfl⟩) hHeld ?_
                show wpAnyH _ _ _ _ _ _ _ (Act.put _ (some 77) _) _
                try simp only [Act.put, List.setIfInBounds_toArray, List.set_cons_zero, List.set_cons_succ]
                refine wpAnyH_take (i := 35) (v := ?_) rfl (by kernel_rfl) (by kernel_rfl) (by kernel_rfl) (fun _ _ _ h => h) (Or.inl ⟨by rfl, ?_⟩) hHeld ?_
                rotate_left
                · intro w hSw
                  try dsimp only at hSw
                  go_simp
                  try with_reducible rfl
                show wpAnyH _ _ _ _ _ _ _ (Act.put _ (some 78) _) _
                try simp only [Act.put, List.setIfInBounds_toArray, List.set_cons_zero, List.set_cons_succ]
                refine wpAnyH_take (i := 36) (v := ?_) rfl (by kernel_rfl) (by kernel_rfl) (by kernel_rfl) (fun _ _ _ h => h) (Or.inl ⟨by rfl, ?_⟩) hHeld ?_
                rotate_left
                · intro w hSw
                  try dsimp only at hSw
                  go_simp
                  try with_reducible rfl
                show wpAnyH _ _ _ _ _ _ _ (Act.put _ (some 13) _) _
                try simp only [Act.put, List.setIfInBounds_toArray, List.set_cons_zero, List.set_cons_succ]
                refine wpAnyH_done (by kernel_rfl) ?_ _
                clear hHeld
                go_wp2_with fail
                go_roundw
                case rel => exact ⟨k + 1, by go_num, by omega, by rw [unhide HBn], hide (by have := unhide KV; repeat (first | exact this | apply Keep.drew))⟩
                case measure => simp [intOf]; omega
              | false =>
                have HBn := hide ((unhide HQ) hTk)
                clear HQ HBk hTk
                by_cases hf1 : f1 = a
                · have hb1 : ((f1 : Int) == (a : Int)) = true := by simp; omega
                  by_cases ht1 : t1 = p
                  · have hb2 : ((t1 : Int) == (p : Int)) = true := by simp; omega
                    rw [show (f1 == a && t1 == p && y == z + l1) = (y == z + l1) by simp [hf1, ht1]] at HBn
                    clear ht1 hf1
                    go_upto_region 13 with fail
                    refine wp_region_held_drew (S := (fun w' => w'.cell? (ad.add (k * 3)) = some (.int .i64 (f1 : Int)) ∧ w'.cell? ⟨(ad.add (k * 3)).block, (ad.add (k * 3)).off + 1, none⟩ = some (.int .i64 (t1 : Int)) ∧ w'.cell? ⟨(ad.add (k * 3)).block, (ad.add (k * 3)).off + 2, none⟩ = some (.int .i64 l1) ∧ w'.cell? (xa.add p) = some (.int .i64 y) ∧ w'.cell? (xa.add a) = some (.int .i64 z))) (by kernel_rfl) (by exact unhide CK _ (by repeat (first | apply Keep.drew | exact Keep.refl _))) (fun hHeld => ?_)
                    refine wpAnyH_take (i := 0) (v := ?_) rfl (by kernel_rfl) (by kernel_rfl) (by kernel_rfl) (fun _ _ _ h => h) (Or.inl ⟨by rfl, ?_⟩) hHeld ?_
                    rotate_left
                    · intro w hSw
                      try dsimp only at hSw
                      go_simp
                      try with_reducible rfl
                    show wpAnyH _ _ _ _ _ _ _ (Act.put _ (some 43) _) _
                    try simp only [Act.put, List.setIfInBounds_toArray, List.set_cons_zero, List.set_cons_succ]
                    refine wpAnyH_take (i := 1) (v := ?_) rfl (by kernel_rfl) (by kernel_rfl) (by kernel_rfl) (fun _ _ _ h => h) (Or.inl ⟨by rfl, ?_⟩) hHeld ?_
                    rotate_left
                    · intro w hSw
                      try dsimp only at hSw
                      go_simp
                      try with_reducible rfl
                    show wpAnyH _ _ _ _ _ _ _ (Act.put _ (some 44) _) _
                    try simp only [Act.put, List.setIfInBounds_toArray, List.set_cons_zero, List.set_cons_succ]
                    refine wpAnyH_take (i := 2) (v := ?_) rfl (by kernel_rfl) (by kernel_rfl) (by kernel_rfl) (fun _ _ _ h => h) (Or.inl ⟨by rfl, ?_⟩) hHeld ?_
                    rotate_left
                    · intro w hSw
                      try dsimp only at hSw
                      go_simp
                      try with_reducible rfl
                    show wpAnyH _ _ _ _ _ _ _ (Act.put _ (some 45) _) _
                    try simp only [Act.put, List.setIfInBounds_toArray, List.set_cons_zero, List.set_cons_succ]
                    refine wpAnyH_take (i := 3) (v := ?_) rfl (by kernel_rfl) (by kernel_rfl) (by kernel_rfl) (fun _ _ _ h => h) (Or.inl ⟨by rfl, ?_⟩) hHeld ?_
                    rotate_left
                    · intro w hSw
                      try dsimp only at hSw
                      go_simp
                      try with_reducible rfl
                    show wpAnyH _ _ _ _ _ _ _ (Act.put _ (some 46) _) _
                    try simp only [Act.put, List.setIfInBounds_toArray, List.set_cons_zero, List.set_cons_succ]
                    refine wpAnyH_take (i := 4) (v := ?_) rfl (by kernel_rfl) (by kernel_rfl) (by kernel_rfl) (fun _ _ _ h => h) (Or.inl ⟨by rfl, ?_⟩) hHeld ?_
                    rotate_left
                    · intro w hSw
                      try dsimp only at hSw
                      go_simp
                      try with_reducible rfl
                    show wpAnyH _ _ _ _ _ _ _ (Act.put _ (some 47) _) _
                    try simp only [Act.put, List.setIfInBounds_toArray, List.set_cons_zero, List.set_cons_succ]
                    refine wpAnyH_take (i := 5) (v := ?_) rfl (by kernel_rfl) (by kernel_rfl) (by kernel_rfl) (fun _ _ _ h => h) (Or.inl ⟨by rfl, ?_⟩) hHeld ?_
                    rotate_left
                    · intro w hSw
                      try dsimp only at hSw
                      go_simp
                      try with_reducible rfl
                    show wpAnyH _ _ _ _ _ _ _ (Act.put _ (some 48) _) _
                    try simp only [Act.put, List.setIfInBounds_toArray, List.set_cons_zero, List.set_cons_succ]
                    refine wpAnyH_take (i := 6) (v := ?_) rfl (by kernel_rfl) (by kernel_rfl) (by kernel_rfl) (fun _ _ _ h => h) (Or.inl ⟨by rfl, ?_⟩) hHeld ?_
                    rotate_left
                    · intro w hSw
                      try dsimp only at hSw
                      go_simp
                      try with_reducible rfl
                    show wpAnyH _ _ _ _ _ _ _ (Act.put _ (some 49) _) _
                    try simp only [Act.put, List.setIfInBounds_toArray, List.set_cons_zero, List.set_cons_succ]
                    refine wpAnyH_take (i := 7) (v := ?_) rfl (by kernel_rfl) (by kernel_rfl) (by kernel_rfl) (fun _ _ _ h => h) (Or.inl ⟨by rfl, ?_⟩) hHeld ?_
                    rotate_left
                    · intro w hSw
                      try dsimp only at hSw
                      go_simp
                      try with_reducible rfl
                    show wpAnyH _ _ _ _ _ _ _ (Act.put _ (some 50) _) _
                    try simp only [Act.put, List.setIfInBounds_toArray, List.set_cons_zero, List.set_cons_succ]
                    refine wpAnyH_take (i := 8) (v := ?_) rfl (by kernel_rfl) (by kernel_rfl) (by kernel_rfl) (fun _ _ _ h => h) (Or.inl ⟨by rfl, ?_⟩) hHeld ?_
                    rotate_left
                    · intro w hSw
                      try dsimp only at hSw
                      go_simp
                      try with_reducible rfl
                    show wpAnyH _ _ _ _ _ _ _ (Act.put _ (some 51) _) _
                    try simp only [Act.put, List.setIfInBounds_toArray, List.set_cons_zero, List.set_cons_succ]
                    refine wpAnyH_take (i := 9) (v := ?_) rfl (by kernel_rfl) (by kernel_rfl) (by kernel_rfl) (fun _ _ _ h => h) (Or.inl ⟨by rfl, ?_⟩) hHeld ?_
                    rotate_left
                    · intro w hSw
                      try dsimp only at hSw
                      go_simp
                      try with_reducible rfl
                    show wpAnyH _ _ _ _ _ _ _ (Act.put _ (some 52) _) _
                    try simp only [Act.put, List.setIfInBounds_toArray, List.set_cons_zero, List.set_cons_succ]
                    refine wpAnyH_take (i := 10) (v := ?_) rfl (by kernel_rfl) (by kernel_rfl) (by kernel_rfl) (fun _ _ _ h => h) (Or.inl ⟨by rfl, ?_⟩) hHeld ?_
                    rotate_left
                    · intro w hSw
                      try dsimp only at hSw
                      go_simp
                      try with_reducible rfl
                    show wpAnyH _ _ _ _ _ _ _ (Act.put _ (some 53) _) _
                    try simp only [Act.put, List.setIfInBounds_toArray, List.set_cons_zero, List.set_cons_succ]
                    refine wpAnyH_take (i := 11) (v := ?_) rfl (by kernel_rfl) (by kernel_rfl) (by kernel_rfl) (fun _ _ _ h => h) (Or.inl ⟨by rfl, ?_⟩) hHeld ?_
                    rotate_left
                    · intro w hSw
                      try dsimp only at hSw
                      go_simp
                      try with_reducible rfl
                    show wpAnyH _ _ _ _ _ _ _ (Act.put _ (some 54) _) _
                    try simp only [Act.put, List.setIfInBounds_toArray, List.set_cons_zero, List.set_cons_succ]
                    refine wpAnyH_take (i := 12) (v := ?_) rfl (by kernel_rfl) (by kernel_rfl) (by kernel_rfl) (fun _ _ _ h => h) (Or.inl ⟨by rfl, ?_⟩) hHeld ?_
                    rotate_left
                    · intro w hSw
                      try dsimp only at hSw
                      go_simp
                      try with_reducible rfl
                    show wpAnyH _ _ _ _ _ _ _ (Act.put _ (some 55) _) _
                    try simp only [Act.put, List.setIfInBounds_toArray, List.set_cons_zero, List.set_cons_succ]
                    refine wpAnyH_take (i := 13) (v := ?_) rfl (by kernel_rfl) (by kernel_rfl) (by kernel_rfl) (fun _ _ _ h => h) (Or.inl ⟨by rfl, ?_⟩) hHeld ?_
                    rotate_left
                    · intro w hSw
                      try dsimp only at hSw
                      go_simp
                      try with_reducible rfl
                    show wpAnyH _ _ _ _ _ _ _ (Act.put _ (some 56) _) _
                    try simp only [Act.put, List.setIfInBounds_toArray, List.set_cons_zero, List.set_cons_succ]
                    refine wpAnyH_take (i := 14) (v := ?_) rfl (by kernel_rfl) (by kernel_rfl) (by kernel_rfl) (fun _ _ _ h => h) (Or.inl ⟨by rfl, ?_⟩) hHeld ?_
                    rotate_left
                    · intro w hSw
                      try dsimp only at hSw
                      go_simp
                      try with_reducible rfl
                    show wpAnyH _ _ _ _ _ _ _ (Act.put _ (some 57) _) _
                    try simp only [Act.put, List.setIfInBounds_toArray, List.set_cons_zero, List.set_cons_succ]
                    refine wpAnyH_take (i := 15) (v := ?_) rfl (by kernel_rfl) (by kernel_rfl) (by kernel_rfl) (fun _ _ _ h => h) (Or.inl ⟨by rfl, ?_⟩) hHeld ?_
                    rotate_left
                    · intro w hSw
                      try dsimp only at hSw
                      go_simp
                      try with_reducible rfl
                    show wpAnyH _ _ _ _ _ _ _ (Act.put _ (some 58) _) _
                    try simp only [Act.put, List.setIfInBounds_toArray, List.set_cons_zero, List.set_cons_succ]
                    refine wpAnyH_take (i := 16) (v := ?_) rfl (by kernel_rfl) (by kernel_rfl) (by kernel_rfl) (fun _ _ _ h => h) (Or.inl ⟨by rfl, ?_⟩) hHeld ?_
                    rotate_left
                    · intro w hSw
                      try dsimp only at hSw
                      go_simp
                      try with_reducible rfl
                    show wpAnyH _ _ _ _ _ _ _ (Act.put _ (some 59) _) _
                    try simp only [Act.put, List.setIfInBounds_toArray, List.set_cons_zero, List.set_cons_succ]
                    refine wpAnyH_take (i := 17) (v := ?_) rfl (by kernel_rfl) (by kernel_rfl) (by kernel_rfl) (fun _ _ _ h => h) (Or.inl ⟨by rfl, ?_⟩) hHeld ?_
                    rotate_left
                    · intro w hSw
                      try dsimp only at hSw
                      go_simp
                      try with_reducible rfl
                    show wpAnyH _ _ _ _ _ _ _ (Act.put _ (some 60) _) _
                    try simp only [Act.put, List.setIfInBounds_toArray, List.set_cons_zero, List.set_cons_succ]
                    refine wpAnyH_take (i := 18) (v := ?_) rfl (by kernel_rfl) (by kernel_rfl) (by kernel_rfl) (fun _ _ _ h => h) (Or.inl ⟨by rfl, ?_⟩) hHeld ?_
                    rotate_left
                    · intro w hSw
                      try dsimp only at hSw
                      go_simp
                      try with_reducible rfl
                    show wpAnyH _ _ _ _ _ _ _ (Act.put _ (some 61) _) _
                    try simp only [Act.put, List.setIfInBounds_toArray, List.set_cons_zero, List.set_cons_succ]
                    refine wpAnyH_take (i := 19) (v := ?_) rfl (by kernel_rfl) (by kernel_rfl) (by kernel_rfl) (fun _ _ _ h => h) (Or.inl ⟨by rfl, ?_⟩) hHeld ?_
                    rotate_left
                    · intro w hSw
                      try dsimp only at hSw
                      go_simp
                      try with_reducible rfl
                    show wpAnyH _ _ _ _ _ _ _ (Act.put _ (some 62) _) _
                    try simp only [Act.put, List.setIfInBounds_toArray, List.set_cons_zero, List.set_cons_succ]
                    refine wpAnyH_take (i := 20) (v := ?_) rfl (by kernel_rfl) (by kernel_rfl) (by kernel_rfl) (fun _ _ _ h => h) (Or.inl ⟨by rfl, ?_⟩) hHeld ?_
                    rotate_left
                    · intro w hSw
                      try dsimp only at hSw
                      go_simp
                      try with_reducible rfl
                    show wpAnyH _ _ _ _ _ _ _ (Act.put _ (some 63) _) _
                    try simp only [Act.put, List.setIfInBounds_toArray, List.set_cons_zero, List.set_cons_succ]
                    refine wpAnyH_take (i := 21) (v := ?_) rfl (by kernel_rfl) (by kernel_rfl) (by kernel_rfl) (fun _ _ _ h => h) (Or.inl ⟨by rfl, ?_⟩) hHeld ?_
                    rotate_left
                    · intro w hSw
                      try dsimp only at hSw
                      go_simp
                      try with_reducible rfl
                    show wpAnyH _ _ _ _ _ _ _ (Act.put _ (some 64) _) _
                    try simp only [Act.put, List.setIfInBounds_toArray, List.set_cons_zero, List.set_cons_succ]
                    refine wpAnyH_take (i := 22) (v := ?_) rfl (by kernel_rfl) (by kernel_rfl) (by kernel_rfl) (fun _ _ _ h => h) (Or.inl ⟨by rfl, ?_⟩) hHeld ?_
                    rotate_left
                    · intro w hSw
                      try dsimp only at hSw
                      go_simp
                      try with_reducible rfl
                    show wpAnyH _ _ _ _ _ _ _ (Act.put _ (some 65) _) _
                    try simp only [Act.put, List.setIfInBounds_toArray, List.set_cons_zero, List.set_cons_succ]
                    refine wpAnyH_take (i := 23) (v := ?_) rfl (by kernel_rfl) (by kernel_rfl) (by kernel_rfl) (fun _ _ _ h => h) (Or.inl ⟨by rfl, ?_⟩) hHeld ?_
                    rotate_left
                    · intro w hSw
                      try dsimp only at hSw
                      go_simp
                      try with_reducible rfl
                    show wpAnyH _ _ _ _ _ _ _ (Act.put _ (some 66) _) _
                    try simp only [Act.put, List.setIfInBounds_toArray, List.set_cons_zero, List.set_cons_succ]
                    refine wpAnyH_take (i := 24) (v := ?_) rfl (by kernel_rfl) (by kernel_rfl) (by kernel_rfl) (fun _ _ _ h => h) (Or.inl ⟨by rfl, ?_⟩) hHeld ?_
                    rotate_left
                    · intro w hSw
                      try dsimp only at hSw
                      go_simp
                      try with_reducible rfl
                    show wpAnyH _ _ _ _ _ _ _ (Act.put _ (some 67) _) _
                    try simp only [Act.put, List.setIfInBounds_toArray, List.set_cons_zero, List.set_cons_succ]
                    refine wpAnyH_take (i := 25) (v := ?_) rfl (by kernel_rfl) (by kernel_rfl) (by kernel_rfl) (fun _ _ _ h => h) (Or.inl ⟨by rfl, ?_⟩) hHeld ?_
                    rotate_left
                    · intro w hSw
                      try dsimp only at hSw
                      go_simp
                      try with_reducible rfl
                    show wpAnyH _ _ _ _ _ _ _ (Act.put _ (some 68) _) _
                    try simp only [Act.put, List.setIfInBounds_toArray, List.set_cons_zero, List.set_cons_succ]
                    refine wpAnyH_take (i := 26) (v := ?_) rfl (by kernel_rfl) (by kernel_rfl) (by kernel_rfl) (fun _ _ _ h => h) (Or.inl ⟨by rfl, ?_⟩) hHeld ?_
                    rotate_left
                    · intro w hSw
                      try dsimp only at hSw
                      go_simp
                      try with_reducible rfl
                    show wpAnyH _ _ _ _ _ _ _ (Act.put _ (some 69) _) _
                    try simp only [Act.put, List.setIfInBounds_toArray, List.set_cons_zero, List.set_cons_succ]
                    refine wpAnyH_take (i := 27) (v := ?_) rfl (by kernel_rfl) (by kernel_rfl) (by kernel_rfl) (fun _ _ _ h => h) (Or.inl ⟨by rfl, ?_⟩) hHeld ?_
                    rotate_left
                    · intro w hSw
                      try dsimp only at hSw
                      go_simp
                      try with_reducible rfl
                    show wpAnyH _ _ _ _ _ _ _ (Act.put _ (some 70) _) _
                    try simp only [Act.put, List.setIfInBounds_toArray, List.set_cons_zero, List.set_cons_succ]
                    refine wpAnyH_take (i := 28) (v := ?_) rfl (by kernel_rfl) (by kernel_rfl) (by kernel_rfl) (fun _ _ _ h => h) (Or.inl ⟨by rfl, ?_⟩) hHeld ?_
                    rotate_left
                    · intro w hSw
                      try dsimp only at hSw
                      go_simp
                      try with_reducible rfl
                    show wpAnyH _ _ _ _ _ _ _ (Act.put _ (some 71) _) _
                    try simp only [Act.put, List.setIfInBounds_toArray, List.set_cons_zero, List.set_cons_succ]
                    refine wpAnyH_take (i := 29) (v := ?_) rfl (by kernel_rfl) (by kernel_rfl) (by kernel_rfl) (fun _ _ _ h => h) (Or.inl ⟨by rfl, ?_⟩) hHeld ?_
                    rotate_left
                    · intro w hSw
                      try dsimp only at hSw
                      go_simp
                      try with_reducible rfl
                    show wpAnyH _ _ _ _ _ _ _ (Act.put _ (some 72) _) _
                    try simp only [Act.put, List.setIfInBounds_toArray, List.set_cons_zero, List.set_cons_succ]
                    refine wpAnyH_take (i := 30) (v := ?_) rfl (by kernel_rfl) (by kernel_rfl) (by kernel_rfl) (fun _ _ _ h => h) (Or.inl ⟨by rfl, ?_⟩) hHeld ?_
                    rotate_left
                    · intro w hSw
                      try dsimp only at hSw
                      go_simp
                      try with_reducible rfl
                    show wpAnyH _ _ _ _ _ _ _ (Act.put _ (some 73) _) _
                    try simp only [Act.put, List.setIfInBounds_toArray, List.set_cons_zero, List.set_cons_succ]
                    refine wpAnyH_take (i := 31) (v := ?_) rfl (by kernel_rfl) (by kernel_rfl) (by kernel_rfl) (fun _ _ _ h => h) (Or.inl ⟨by rfl, ?_⟩) hHeld ?_
                    rotate_left
                    · intro w hSw
                      try dsimp only at hSw
                      go_simp
                      try with_reducible rfl
                    show wpAnyH _ _ _ _ _ _ _ (Act.put _ (some 74) _) _
                    try simp only [Act.put, List.setIfInBounds_toArray, List.set_cons_zero, List.set_cons_succ]
                    refine wpAnyH_take (i := 32) (v := ?_) rfl (by kernel_rfl) (by kernel_rfl) (by kernel_rfl) (fun _ _ _ h => h) (Or.inl ⟨by rfl, ?_⟩) hHeld ?_
                    rotate_left
                    · intro w hSw
                      try dsimp only at hSw
                      go_simp
                      try with_reducible rfl
                    show wpAnyH _ _ _ _ _ _ _ (Act.put _ (some 75) _) _
                    try simp only [Act.put, List.setIfInBounds_toArray, List.set_cons_zero, List.set_cons_succ]
                    refine wpAnyH_take (i := 33) (v := ?_) rfl (by kernel_rfl) (by kernel_rfl) (by kernel_rfl) (fun _ _ _ h => h) (Or.inl ⟨by rfl, ?_⟩) hHeld ?_
                    rotate_left
                    · intro w hSw
                      try dsimp only at hSw
                      go_simp
                      try with_reducible rfl
                    show wpAnyH _ _ _ _ _ _ _ (Act.put _ (some 76) _) _
                    try simp only [Act.put, List.setIfInBounds_toArray, List.set_cons_zero, List.set_cons_succ]
                    refine wpAnyH_take (i := 34) (v := ?_) rfl (by kernel_rfl) (by kernel_rfl) (by kernel_rfl) (fun _ _ _ h => h) (Or.inl ⟨by rfl, ?_⟩) hHeld ?_
                    rotate_left
                    · intro w hSw
                      try dsimp only at hSw
                      go_simp
                      try with_reducible rfl
                    show wpAnyH _ _ _ _ _ _ _ (Act.put _ (some 77) _) _
                    try simp only [Act.put, List.setIfInBounds_toArray, List.set_cons_zero, List.set_cons_succ]
                    refine wpAnyH_take (i := 35) (v := ?_) rfl (by kernel_rfl) (by kernel_rfl) (by kernel_rfl) (fun _ _ _ h => h) (Or.inl ⟨by rfl, ?_⟩) hHeld ?_
                    rotate_left
                    · intro w hSw
                      try dsimp only at hSw
                      go_simp
                      try with_reducible rfl
                    show wpAnyH _ _ _ _ _ _ _ (Act.put _ (some 78) _) _
                    try simp only [Act.put, List.setIfInBounds_toArray, List.set_cons_zero, List.set_cons_succ]
                    refine wpAnyH_take (i := 36) (v := ?_) rfl (by kernel_rfl) (by kernel_rfl) (by kernel_rfl) (fun _ _ _ h => h) (Or.inl ⟨by rfl, ?_⟩) hHeld ?_
                    rotate_left
                    · intro w hSw
                      try dsimp only at hSw
                      go_simp
                      try with_reducible rfl
                    show wpAnyH _ _ _ _ _ _ _ (Act.put _ (some 13) _) _
                    try simp only [Act.put, List.setIfInBounds_toArray, List.set_cons_zero, List.set_cons_succ]
                    refine wpAnyH_done (by kernel_rfl) ?_ _
                    clear hHeld
                    go_wp2_with fail
                    go_roundw
                    case rel => exact ⟨k + 1, by go_num, by omega, by rw [unhide HBn], hide (by have := unhide KV; repeat (first | exact this | apply Keep.drew))⟩
                    case measure => simp [intOf]; omega
                  · have hb2 : ((t1 : Int) == (p : Int)) = false := by simp; omega
                    rw [show (f1 == a && t1 == p && y == z + l1) = false by simp [ht1]] at HBn
                    clear ht1 hf1
                    go_upto_region 13 with fail
                    refine wp_region_held_drew (S := (fun w' => w'.cell? (ad.add (k * 3)) = some (.int .i64 (f1 : Int)) ∧ w'.cell? ⟨(ad.add (k * 3)).block, (ad.add (k * 3)).off + 1, none⟩ = some (.int .i64 (t1 : Int)) ∧ w'.cell? ⟨(ad.add (k * 3)).block, (ad.add (k * 3)).off + 2, none⟩ = some (.int .i64 l1) ∧ w'.cell? (xa.add p) = some (.int .i64 y) ∧ w'.cell? (xa.add a) = some (.int .i64 z))) (by kernel_rfl) (by exact unhide CK _ (by repeat (first | apply Keep.drew | exact Keep.refl _))) (fun hHeld => ?_)
                    refine wpAnyH_take (i := 0) (v := ?_) rfl (by kernel_rfl) (by kernel_rfl) (by kernel_rfl) (fun _ _ _ h => h) (Or.inl ⟨by rfl, ?_⟩) hHeld ?_
                    rotate_left
                    · intro w hSw
                      try dsimp only at hSw
                      go_simp
                      try with_reducible rfl
                    show wpAnyH _ _ _ _ _ _ _ (Act.put _ (some 43) _) _
                    try simp only [Act.put, List.setIfInBounds_toArray, List.set_cons_zero, List.set_cons_succ]
                    refine wpAnyH_take (i := 1) (v := ?_) rfl (by kernel_rfl) (by kernel_rfl) (by kernel_rfl) (fun _ _ _ h => h) (Or.inl ⟨by rfl, ?_⟩) hHeld ?_
                    rotate_left
                    · intro w hSw
                      try dsimp only at hSw
                      go_simp
                      try with_reducible rfl
                    show wpAnyH _ _ _ _ _ _ _ (Act.put _ (some 44) _) _
                    try simp only [Act.put, List.setIfInBounds_toArray, List.set_cons_zero, List.set_cons_succ]
                    refine wpAnyH_take (i := 2) (v := ?_) rfl (by kernel_rfl) (by kernel_rfl) (by kernel_rfl) (fun _ _ _ h => h) (Or.inl ⟨by rfl, ?_⟩) hHeld ?_
                    rotate_left
                    · intro w hSw
                      try dsimp only at hSw
                      go_simp
                      try with_reducible rfl
                    show wpAnyH _ _ _ _ _ _ _ (Act.put _ (some 45) _) _
                    try simp only [Act.put, List.setIfInBounds_toArray, List.set_cons_zero, List.set_cons_succ]
                    refine wpAnyH_take (i := 3) (v := ?_) rfl (by kernel_rfl) (by kernel_rfl) (by kernel_rfl) (fun _ _ _ h => h) (Or.inl ⟨by rfl, ?_⟩) hHeld ?_
                    rotate_left
                    · intro w hSw
                      try dsimp only at hSw
                      go_simp
                      try with_reducible rfl
                    show wpAnyH _ _ _ _ _ _ _ (Act.put _ (some 46) _) _
                    try simp only [Act.put, List.setIfInBounds_toArray, List.set_cons_zero, List.set_cons_succ]
                    refine wpAnyH_take (i := 4) (v := ?_) rfl (by kernel_rfl) (by kernel_rfl) (by kernel_rfl) (fun _ _ _ h => h) (Or.inl ⟨by rfl, ?_⟩) hHeld ?_
                    rotate_left
                    · intro w hSw
                      try dsimp only at hSw
                      go_simp
                      try with_reducible rfl
                    show wpAnyH _ _ _ _ _ _ _ (Act.put _ (some 47) _) _
                    try simp only [Act.put, List.setIfInBounds_toArray, List.set_cons_zero, List.set_cons_succ]
                    refine wpAnyH_take (i := 5) (v := ?_) rfl (by kernel_rfl) (by kernel_rfl) (by kernel_rfl) (fun _ _ _ h => h) (Or.inl ⟨by rfl, ?_⟩) hHeld ?_
                    rotate_left
                    · intro w hSw
                      try dsimp only at hSw
                      go_simp
                      try with_reducible rfl
                    show wpAnyH _ _ _ _ _ _ _ (Act.put _ (some 48) _) _
                    try simp only [Act.put, List.setIfInBounds_toArray, List.set_cons_zero, List.set_cons_succ]
                    refine wpAnyH_take (i := 6) (v := ?_) rfl (by kernel_rfl) (by kernel_rfl) (by kernel_rfl) (fun _ _ _ h => h) (Or.inl ⟨by rfl, ?_⟩) hHeld ?_
                    rotate_left
                    · intro w hSw
                      try dsimp only at hSw
                      go_simp
                      try with_reducible rfl
                    show wpAnyH _ _ _ _ _ _ _ (Act.put _ (some 49) _) _
                    try simp only [Act.put, List.setIfInBounds_toArray, List.set_cons_zero, List.set_cons_succ]
                    refine wpAnyH_take (i := 7) (v := ?_) rfl (by kernel_rfl) (by kernel_rfl) (by kernel_rfl) (fun _ _ _ h => h) (Or.inl ⟨by rfl, ?_⟩) hHeld ?_
                    rotate_left
                    · intro w hSw
                      try dsimp only at hSw
                      go_simp
                      try with_reducible rfl
                    show wpAnyH _ _ _ _ _ _ _ (Act.put _ (some 50) _) _
                    try simp only [Act.put, List.setIfInBounds_toArray, List.set_cons_zero, List.set_cons_succ]
                    refine wpAnyH_take (i := 8) (v := ?_) rfl (by kernel_rfl) (by kernel_rfl) (by kernel_rfl) (fun _ _ _ h => h) (Or.inl ⟨by rfl, ?_⟩) hHeld ?_
                    rotate_left
                    · intro w hSw
                      try dsimp only at hSw
                      go_simp
                      try with_reducible rfl
                    show wpAnyH _ _ _ _ _ _ _ (Act.put _ (some 51) _) _
                    try simp only [Act.put, List.setIfInBounds_toArray, List.set_cons_zero, List.set_cons_succ]
                    refine wpAnyH_take (i := 9) (v := ?_) rfl (by kernel_rfl) (by kernel_rfl) (by kernel_rfl) (fun _ _ _ h => h) (Or.inl ⟨by rfl, ?_⟩) hHeld ?_
                    rotate_left
                    · intro w hSw
                      try dsimp only at hSw
                      go_simp
                      try with_reducible rfl
                    show wpAnyH _ _ _ _ _ _ _ (Act.put _ (some 52) _) _
                    try simp only [Act.put, List.setIfInBounds_toArray, List.set_cons_zero, List.set_cons_succ]
                    refine wpAnyH_take (i := 10) (v := ?_) rfl (by kernel_rfl) (by kernel_rfl) (by kernel_rfl) (fun _ _ _ h => h) (Or.inl ⟨by rfl, ?_⟩) hHeld ?_
                    rotate_left
                    · intro w hSw
                      try dsimp only at hSw
                      go_simp
                      try with_reducible rfl
                    show wpAnyH _ _ _ _ _ _ _ (Act.put _ (some 53) _) _
                    try simp only [Act.put, List.setIfInBounds_toArray, List.set_cons_zero, List.set_cons_succ]
                    refine wpAnyH_take (i := 11) (v := ?_) rfl (by kernel_rfl) (by kernel_rfl) (by kernel_rfl) (fun _ _ _ h => h) (Or.inl ⟨by rfl, ?_⟩) hHeld ?_
                    rotate_left
                    · intro w hSw
                      try dsimp only at hSw
                      go_simp
                      try with_reducible rfl
                    show wpAnyH _ _ _ _ _ _ _ (Act.put _ (some 54) _) _
                    try simp only [Act.put, List.setIfInBounds_toArray, List.set_cons_zero, List.set_cons_succ]
                    refine wpAnyH_take (i := 12) (v := ?_) rfl (by kernel_rfl) (by kernel_rfl) (by kernel_rfl) (fun _ _ _ h => h) (Or.inl ⟨by rfl, ?_⟩) hHeld ?_
                    rotate_left
                    · intro w hSw
                      try dsimp only at hSw
                      go_simp
                      try with_reducible rfl
                    show wpAnyH _ _ _ _ _ _ _ (Act.put _ (some 55) _) _
                    try simp only [Act.put, List.setIfInBounds_toArray, List.set_cons_zero, List.set_cons_succ]
                    refine wpAnyH_take (i := 13) (v := ?_) rfl (by kernel_rfl) (by kernel_rfl) (by kernel_rfl) (fun _ _ _ h => h) (Or.inl ⟨by rfl, ?_⟩) hHeld ?_
                    rotate_left
                    · intro w hSw
                      try dsimp only at hSw
                      go_simp
                      try with_reducible rfl
                    show wpAnyH _ _ _ _ _ _ _ (Act.put _ (some 56) _) _
                    try simp only [Act.put, List.setIfInBounds_toArray, List.set_cons_zero, List.set_cons_succ]
                    refine wpAnyH_take (i := 14) (v := ?_) rfl (by kernel_rfl) (by kernel_rfl) (by kernel_rfl) (fun _ _ _ h => h) (Or.inl ⟨by rfl, ?_⟩) hHeld ?_
                    rotate_left
                    · intro w hSw
                      try dsimp only at hSw
                      go_simp
                      try with_reducible rfl
                    show wpAnyH _ _ _ _ _ _ _ (Act.put _ (some 57) _) _
                    try simp only [Act.put, List.setIfInBounds_toArray, List.set_cons_zero, List.set_cons_succ]
                    refine wpAnyH_take (i := 15) (v := ?_) rfl (by kernel_rfl) (by kernel_rfl) (by kernel_rfl) (fun _ _ _ h => h) (Or.inl ⟨by rfl, ?_⟩) hHeld ?_
                    rotate_left
                    · intro w hSw
                      try dsimp only at hSw
                      go_simp
                      try with_reducible rfl
                    show wpAnyH _ _ _ _ _ _ _ (Act.put _ (some 58) _) _
                    try simp only [Act.put, List.setIfInBounds_toArray, List.set_cons_zero, List.set_cons_succ]
                    refine wpAnyH_take (i := 16) (v := ?_) rfl (by kernel_rfl) (by kernel_rfl) (by kernel_rfl) (fun _ _ _ h => h) (Or.inl ⟨by rfl, ?_⟩) hHeld ?_
                    rotate_left
                    · intro w hSw
                      try dsimp only at hSw
                      go_simp
                      try with_reducible rfl
                    show wpAnyH _ _ _ _ _ _ _ (Act.put _ (some 59) _) _
                    try simp only [Act.put, List.setIfInBounds_toArray, List.set_cons_zero, List.set_cons_succ]
                    refine wpAnyH_take (i := 17) (v := ?_) rfl (by kernel_rfl) (by kernel_rfl) (by kernel_rfl) (fun _ _ _ h => h) (Or.inl ⟨by rfl, ?_⟩) hHeld ?_
                    rotate_left
                    · intro w hSw
                      try dsimp only at hSw
                      go_simp
                      try with_reducible rfl
                    show wpAnyH _ _ _ _ _ _ _ (Act.put _ (some 60) _) _
                    try simp only [Act.put, List.setIfInBounds_toArray, List.set_cons_zero, List.set_cons_succ]
                    refine wpAnyH_take (i := 18) (v := ?_) rfl (by kernel_rfl) (by kernel_rfl) (by kernel_rfl) (fun _ _ _ h => h) (Or.inl ⟨by rfl, ?_⟩) hHeld ?_
                    rotate_left
                    · intro w hSw
                      try dsimp only at hSw
                      go_simp
                      try with_reducible rfl
                    show wpAnyH _ _ _ _ _ _ _ (Act.put _ (some 61) _) _
                    try simp only [Act.put, List.setIfInBounds_toArray, List.set_cons_zero, List.set_cons_succ]
                    refine wpAnyH_take (i := 19) (v := undef) rfl (by kernel_rfl) (by kernel_rfl) (by kernel_rfl) (fun _ _ _ h => h) (Or.inr ⟨by rfl, rfl⟩) hHeld ?_
                    show wpAnyH _ _ _ _ _ _ _ (Act.put _ (some 62) _) _
                    try simp only [Act.put, List.setIfInBounds_toArray, List.set_cons_zero, List.set_cons_succ]
                    refine wpAnyH_take (i := 20) (v := undef) rfl (by kernel_rfl) (by kernel_rfl) (by kernel_rfl) (fun _ _ _ h => h) (Or.inr ⟨by rfl, rfl⟩) hHeld ?_
                    show wpAnyH _ _ _ _ _ _ _ (Act.put _ (some 63) _) _
                    try simp only [Act.put, List.setIfInBounds_toArray, List.set_cons_zero, List.set_cons_succ]
                    refine wpAnyH_take (i := 21) (v := undef) rfl (by kernel_rfl) (by kernel_rfl) (by kernel_rfl) (fun _ _ _ h => h) (Or.inr ⟨by rfl, rfl⟩) hHeld ?_
                    show wpAnyH _ _ _ _ _ _ _ (Act.put _ (some 64) _) _
                    try simp only [Act.put, List.setIfInBounds_toArray, List.set_cons_zero, List.set_cons_succ]
                    refine wpAnyH_take (i := 22) (v := undef) rfl (by kernel_rfl) (by kernel_rfl) (by kernel_rfl) (fun _ _ _ h => h) (Or.inr ⟨by rfl, rfl⟩) hHeld ?_
                    show wpAnyH _ _ _ _ _ _ _ (Act.put _ (some 65) _) _
                    try simp only [Act.put, List.setIfInBounds_toArray, List.set_cons_zero, List.set_cons_succ]
                    refine wpAnyH_take (i := 23) (v := undef) rfl (by kernel_rfl) (by kernel_rfl) (by kernel_rfl) (fun _ _ _ h => h) (Or.inr ⟨by rfl, rfl⟩) hHeld ?_
                    show wpAnyH _ _ _ _ _ _ _ (Act.put _ (some 66) _) _
                    try simp only [Act.put, List.setIfInBounds_toArray, List.set_cons_zero, List.set_cons_succ]
                    refine wpAnyH_take (i := 24) (v := undef) rfl (by kernel_rfl) (by kernel_rfl) (by kernel_rfl) (fun _ _ _ h => h) (Or.inr ⟨by rfl, rfl⟩) hHeld ?_
                    show wpAnyH _ _ _ _ _ _ _ (Act.put _ (some 67) _) _
                    try simp only [Act.put, List.setIfInBounds_toArray, List.set_cons_zero, List.set_cons_succ]
                    refine wpAnyH_take (i := 25) (v := undef) rfl (by kernel_rfl) (by kernel_rfl) (by kernel_rfl) (fun _ _ _ h => h) (Or.inr ⟨by rfl, rfl⟩) hHeld ?_
                    show wpAnyH _ _ _ _ _ _ _ (Act.put _ (some 68) _) _
                    try simp only [Act.put, List.setIfInBounds_toArray, List.set_cons_zero, List.set_cons_succ]
                    refine wpAnyH_take (i := 26) (v := undef) rfl (by kernel_rfl) (by kernel_rfl) (by kernel_rfl) (fun _ _ _ h => h) (Or.inr ⟨by rfl, rfl⟩) hHeld ?_
                    show wpAnyH _ _ _ _ _ _ _ (Act.put _ (some 69) _) _
                    try simp only [Act.put, List.setIfInBounds_toArray, List.set_cons_zero, List.set_cons_succ]
                    refine wpAnyH_take (i := 27) (v := undef) rfl (by kernel_rfl) (by kernel_rfl) (by kernel_rfl) (fun _ _ _ h => h) (Or.inr ⟨by rfl, rfl⟩) hHeld ?_
                    show wpAnyH _ _ _ _ _ _ _ (Act.put _ (some 70) _) _
                    try simp only [Act.put, List.setIfInBounds_toArray, List.set_cons_zero, List.set_cons_succ]
                    refine wpAnyH_take (i := 28) (v := undef) rfl (by kernel_rfl) (by kernel_rfl) (by kernel_rfl) (fun _ _ _ h => h) (Or.inr ⟨by rfl, rfl⟩) hHeld ?_
                    show wpAnyH _ _ _ _ _ _ _ (Act.put _ (some 71) _) _
                    try simp only [Act.put, List.setIfInBounds_toArray, List.set_cons_zero, List.set_cons_succ]
                    refine wpAnyH_take (i := 29) (v := undef) rfl (by kernel_rfl) (by kernel_rfl) (by kernel_rfl) (fun _ _ _ h => h) (Or.inr ⟨by rfl, rfl⟩) hHeld ?_
                    show wpAnyH _ _ _ _ _ _ _ (Act.put _ (some 72) _) _
                    try simp only [Act.put, List.setIfInBounds_toArray, List.set_cons_zero, List.set_cons_succ]
                    refine wpAnyH_take (i := 30) (v := undef) rfl (by kernel_rfl) (by kernel_rfl) (by kernel_rfl) (fun _ _ _ h => h) (Or.inr ⟨by rfl, rfl⟩) hHeld ?_
                    show wpAnyH _ _ _ _ _ _ _ (Act.put _ (some 73) _) _
                    try simp only [Act.put, List.setIfInBounds_toArray, List.set_cons_zero, List.set_cons_succ]
                    refine wpAnyH_take (i := 31) (v := undef) rfl (by kernel_rfl) (by kernel_rfl) (by kernel_rfl) (fun _ _ _ h => h) (Or.inr ⟨by rfl, rfl⟩) hHeld ?_
                    show wpAnyH _ _ _ _ _ _ _ (Act.put _ (some 74) _) _
                    try simp only [Act.put, List.setIfInBounds_toArray, List.set_cons_zero, List.set_cons_succ]
                    refine wpAnyH_take (i := 32) (v := undef) rfl (by kernel_rfl) (by kernel_rfl) (by kernel_rfl) (fun _ _ _ h => h) (Or.inr ⟨by rfl, rfl⟩) hHeld ?_
                    show wpAnyH _ _ _ _ _ _ _ (Act.put _ (some 75) _) _
                    try simp only [Act.put, List.setIfInBounds_toArray, List.set_cons_zero, List.set_cons_succ]
                    refine wpAnyH_take (i := 33) (v := undef) rfl (by kernel_rfl) (by kernel_rfl) (by kernel_rfl) (fun _ _ _ h => h) (Or.inr ⟨by rfl, rfl⟩) hHeld ?_
                    show wpAnyH _ _ _ _ _ _ _ (Act.put _ (some 76) _) _
                    try simp only [Act.put, List.setIfInBounds_toArray, List.set_cons_zero, List.set_cons_succ]
                    refine wpAnyH_take (i := 34) (v := ?_) rfl (by kernel_rfl) (by kernel_rfl) (by kernel_rfl) (fun _ _ _ h => h) (Or.inl ⟨by rfl, ?_⟩) hHeld ?_
                    rotate_left
                    · intro w hSw
                      try dsimp only at hSw
                      go_simp
                      try with_reducible rfl
                    show wpAnyH _ _ _ _ _ _ _ (Act.put _ (some 77) _) _
                    try simp only [Act.put, List.setIfInBounds_toArray, List.set_cons_zero, List.set_cons_succ]
                    refine wpAnyH_take (i := 35) (v := ?_) rfl (by kernel_rfl) (by kernel_rfl) (by kernel_rfl) (fun _ _ _ h => h) (Or.inl ⟨by rfl, ?_⟩) hHeld ?_
                    rotate_left
                    · intro w hSw
                      try dsimp only at hSw
                      go_simp
                      try with_reducible rfl
                    show wpAnyH _ _ _ _ _ _ _ (Act.put _ (some 78) _) _
                    try simp only [Act.put, List.setIfInBounds_toArray, List.set_cons_zero, List.set_cons_succ]
                    refine wpAnyH_take (i := 36) (v := ?_) rfl (by kernel_rfl) (by kernel_rfl) (by kernel_rfl) (fun _ _ _ h => h) (Or.inl ⟨by rfl, ?_⟩) hHeld ?_
                    rotate_left
                    · intro w hSw
                      try dsimp only at hSw
                      go_simp
                      try with_reducible rfl
                    show wpAnyH _ _ _ _ _ _ _ (Act.put _ (some 13) _) _
                    try simp only [Act.put, List.setIfInBounds_toArray, List.set_cons_zero, List.set_cons_succ]
                    refine wpAnyH_done (by kernel_rfl) ?_ _
                    clear hHeld
                    go_wp2_with fail
                    go_roundw
                    case rel => exact ⟨k + 1, by go_num, by omega, by rw [unhide HBn], hide (by have := unhide KV; repeat (first | exact this | apply Keep.drew))⟩
                    case measure => simp [intOf]; omega
                · have hb1 : ((f1 : Int) == (a : Int)) = false := by simp; omega
                  rw [show (f1 == a && t1 == p && y == z + l1) = false by simp [hf1]] at HBn
                  clear hf1
                  go_upto_region 13 with fail
                  refine wp_region_held_drew (S := (fun w' => w'.cell? (ad.add (k * 3)) = some (.int .i64 (f1 : Int)) ∧ w'.cell? ⟨(ad.add (k * 3)).block, (ad.add (k * 3)).off + 1, none⟩ = some (.int .i64 (t1 : Int)) ∧ w'.cell? ⟨(ad.add (k * 3)).block, (ad.add (k * 3)).off + 2, none⟩ = some (.int .i64 l1) ∧ w'.cell? (xa.add p) = some (.int .i64 y) ∧ w'.cell? (xa.add a) = some (.int .i64 z))) (by kernel_rfl) (by exact unhide CK _ (by repeat (first | apply Keep.drew | exact Keep.refl _))) (fun hHeld => ?_)
                  refine wpAnyH_take (i := 0) (v := ?_) rfl (by kernel_rfl) (by kernel_rfl) (by kernel_rfl) (fun _ _ _ h => h) (Or.inl ⟨by rfl, ?_⟩) hHeld ?_
                  rotate_left
                  · intro w hSw
                    try dsimp only at hSw
                    go_simp
                    try with_reducible rfl
                  show wpAnyH _ _ _ _ _ _ _ (Act.put _ (some 43) _) _
                  try simp only [Act.put, List.setIfInBounds_toArray, List.set_cons_zero, List.set_cons_succ]
                  refine wpAnyH_take (i := 1) (v := ?_) rfl (by kernel_rfl) (by kernel_rfl) (by kernel_rfl) (fun _ _ _ h => h) (Or.inl ⟨by rfl, ?_⟩) hHeld ?_
                  rotate_left
                  · intro w hSw
                    try dsimp only at hSw
                    go_simp
                    try with_reducible rfl
                  show wpAnyH _ _ _ _ _ _ _ (Act.put _ (some 44) _) _
                  try simp only [Act.put, List.setIfInBounds_toArray, List.set_cons_zero, List.set_cons_succ]
                  refine wpAnyH_take (i := 2) (v := ?_) rfl (by kernel_rfl) (by kernel_rfl) (by kernel_rfl) (fun _ _ _ h => h) (Or.inl ⟨by rfl, ?_⟩) hHeld ?_
                  rotate_left
                  · intro w hSw
                    try dsimp only at hSw
                    go_simp
                    try with_reducible rfl
                  show wpAnyH _ _ _ _ _ _ _ (Act.put _ (some 45) _) _
                  try simp only [Act.put, List.setIfInBounds_toArray, List.set_cons_zero, List.set_cons_succ]
                  refine wpAnyH_take (i := 3) (v := ?_) rfl (by kernel_rfl) (by kernel_rfl) (by kernel_rfl) (fun _ _ _ h => h) (Or.inl ⟨by rfl, ?_⟩) hHeld ?_
                  rotate_left
                  · intro w hSw
                    try dsimp only at hSw
                    go_simp
                    try with_reducible rfl
                  show wpAnyH _ _ _ _ _ _ _ (Act.put _ (some 46) _) _
                  try simp only [Act.put, List.setIfInBounds_toArray, List.set_cons_zero, List.set_cons_succ]
                  refine wpAnyH_take (i := 4) (v := ?_) rfl (by kernel_rfl) (by kernel_rfl) (by kernel_rfl) (fun _ _ _ h => h) (Or.inl ⟨by rfl, ?_⟩) hHeld ?_
                  rotate_left
                  · intro w hSw
                    try dsimp only at hSw
                    go_simp
                    try with_reducible rfl
                  show wpAnyH _ _ _ _ _ _ _ (Act.put _ (some 47) _) _
                  try simp only [Act.put, List.setIfInBounds_toArray, List.set_cons_zero, List.set_cons_succ]
                  refine wpAnyH_take (i := 5) (v := ?_) rfl (by kernel_rfl) (by kernel_rfl) (by kernel_rfl) (fun _ _ _ h => h) (Or.inl ⟨by rfl, ?_⟩) hHeld ?_
                  rotate_left
                  · intro w hSw
                    try dsimp only at hSw
                    go_simp
                    try with_reducible rfl
                  show wpAnyH _ _ _ _ _ _ _ (Act.put _ (some 48) _) _
                  try simp only [Act.put, List.setIfInBounds_toArray, List.set_cons_zero, List.set_cons_succ]
                  refine wpAnyH_take (i := 6) (v := ?_) rfl (by kernel_rfl) (by kernel_rfl) (by kernel_rfl) (fun _ _ _ h => h) (Or.inl ⟨by rfl, ?_⟩) hHeld ?_
                  rotate_left
                  · intro w hSw
                    try dsimp only at hSw
                    go_simp
                    try with_reducible rfl
                  show wpAnyH _ _ _ _ _ _ _ (Act.put _ (some 49) _) _
                  try simp only [Act.put, List.setIfInBounds_toArray, List.set_cons_zero, List.set_cons_succ]
                  refine wpAnyH_take (i := 7) (v := ?_) rfl (by kernel_rfl) (by kernel_rfl) (by kernel_rfl) (fun _ _ _ h => h) (Or.inl ⟨by rfl, ?_⟩) hHeld ?_
                  rotate_left
                  · intro w hSw
                    try dsimp only at hSw
                    go_simp
                    try with_reducible rfl
                  show wpAnyH _ _ _ _ _ _ _ (Act.put _ (some 50) _) _
                  try simp only [Act.put, List.setIfInBounds_toArray, List.set_cons_zero, List.set_cons_succ]
                  refine wpAnyH_take (i := 8) (v := ?_) rfl (by kernel_rfl) (by kernel_rfl) (by kernel_rfl) (fun _ _ _ h => h) (Or.inl ⟨by rfl, ?_⟩) hHeld ?_
                  rotate_left
                  · intro w hSw
                    try dsimp only at hSw
                    go_simp
                    try with_reducible rfl
                  show wpAnyH _ _ _ _ _ _ _ (Act.put _ (some 51) _) _
                  try simp only [Act.put, List.setIfInBounds_toArray, List.set_cons_zero, List.set_cons_succ]
                  refine wpAnyH_take (i := 9) (v := ?_) rfl (by kernel_rfl) (by kernel_rfl) (by kernel_rfl) (fun _ _ _ h => h) (Or.inl ⟨by rfl, ?_⟩) hHeld ?_
                  rotate_left
                  · intro w hSw
                    try dsimp only at hSw
                    go_simp
                    try with_reducible rfl
                  show wpAnyH _ _ _ _ _ _ _ (Act.put _ (some 52) _) _
                  try simp only [Act.put, List.setIfInBounds_toArray, List.set_cons_zero, List.set_cons_succ]
                  refine wpAnyH_take (i := 10) (v := undef) rfl (by kernel_rfl) (by kernel_rfl) (by kernel_rfl) (fun _ _ _ h => h) (Or.inr ⟨by rfl, rfl⟩) hHeld ?_
                  show wpAnyH _ _ _ _ _ _ _ (Act.put _ (some 53) _) _
                  try simp only [Act.put, List.setIfInBounds_toArray, List.set_cons_zero, List.set_cons_succ]
                  refine wpAnyH_take (i := 11) (v := undef) rfl (by kernel_rfl) (by kernel_rfl) (by kernel_rfl) (fun _ _ _ h => h) (Or.inr ⟨by rfl, rfl⟩) hHeld ?_
                  show wpAnyH _ _ _ _ _ _ _ (Act.put _ (some 54) _) _
                  try simp only [Act.put, List.setIfInBounds_toArray, List.set_cons_zero, List.set_cons_succ]
                  refine wpAnyH_take (i := 12) (v := undef) rfl (by kernel_rfl) (by kernel_rfl) (by kernel_rfl) (fun _ _ _ h => h) (Or.inr ⟨by rfl, rfl⟩) hHeld ?_
                  show wpAnyH _ _ _ _ _ _ _ (Act.put _ (some 55) _) _
                  try simp only [Act.put, List.setIfInBounds_toArray, List.set_cons_zero, List.set_cons_succ]
                  refine wpAnyH_take (i := 13) (v := undef) rfl (by kernel_rfl) (by kernel_rfl) (by kernel_rfl) (fun _ _ _ h => h) (Or.inr ⟨by rfl, rfl⟩) hHeld ?_
                  show wpAnyH _ _ _ _ _ _ _ (Act.put _ (some 56) _) _
                  try simp only [Act.put, List.setIfInBounds_toArray, List.set_cons_zero, List.set_cons_succ]
                  refine wpAnyH_take (i := 14) (v := undef) rfl (by kernel_rfl) (by kernel_rfl) (by kernel_rfl) (fun _ _ _ h => h) (Or.inr ⟨by rfl, rfl⟩) hHeld ?_
                  show wpAnyH _ _ _ _ _ _ _ (Act.put _ (some 57) _) _
                  try simp only [Act.put, List.setIfInBounds_toArray, List.set_cons_zero, List.set_cons_succ]
                  refine wpAnyH_take (i := 15) (v := undef) rfl (by kernel_rfl) (by kernel_rfl) (by kernel_rfl) (fun _ _ _ h => h) (Or.inr ⟨by rfl, rfl⟩) hHeld ?_
                  show wpAnyH _ _ _ _ _ _ _ (Act.put _ (some 58) _) _
                  try simp only [Act.put, List.setIfInBounds_toArray, List.set_cons_zero, List.set_cons_succ]
                  refine wpAnyH_take (i := 16) (v := undef) rfl (by kernel_rfl) (by kernel_rfl) (by kernel_rfl) (fun _ _ _ h => h) (Or.inr ⟨by rfl, rfl⟩) hHeld ?_
                  show wpAnyH _ _ _ _ _ _ _ (Act.put _ (some 59) _) _
                  try simp only [Act.put, List.setIfInBounds_toArray, List.set_cons_zero, List.set_cons_succ]
                  refine wpAnyH_take (i := 17) (v := ?_) rfl (by kernel_rfl) (by kernel_rfl) (by kernel_rfl) (fun _ _ _ h => h) (Or.inl ⟨by rfl, ?_⟩) hHeld ?_
                  rotate_left
                  · intro w hSw
                    try dsimp only at hSw
                    go_simp
                    try with_reducible rfl
                  show wpAnyH _ _ _ _ _ _ _ (Act.put _ (some 60) _) _
                  try simp only [Act.put, List.setIfInBounds_toArray, List.set_cons_zero, List.set_cons_succ]
                  refine wpAnyH_take (i := 18) (v := ?_) rfl (by kernel_rfl) (by kernel_rfl) (by kernel_rfl) (fun _ _ _ h => h) (Or.inl ⟨by rfl, ?_⟩) hHeld ?_
                  rotate_left
                  · intro w hSw
                    try dsimp only at hSw
                    go_simp
                    try with_reducible rfl
                  show wpAnyH _ _ _ _ _ _ _ (Act.put _ (some 61) _) _
                  try simp only [Act.put, List.setIfInBounds_toArray, List.set_cons_zero, List.set_cons_succ]
                  refine wpAnyH_take (i := 19) (v := undef) rfl (by kernel_rfl) (by kernel_rfl) (by kernel_rfl) (fun _ _ _ h => h) (Or.inr ⟨by rfl, rfl⟩) hHeld ?_
                  show wpAnyH _ _ _ _ _ _ _ (Act.put _ (some 62) _) _
                  try simp only [Act.put, List.setIfInBounds_toArray, List.set_cons_zero, List.set_cons_succ]
                  refine wpAnyH_take (i := 20) (v := undef) rfl (by kernel_rfl) (by kernel_rfl) (by kernel_rfl) (fun _ _ _ h => h) (Or.inr ⟨by rfl, rfl⟩) hHeld ?_
                  show wpAnyH _ _ _ _ _ _ _ (Act.put _ (some 63) _) _
                  try simp only [Act.put, List.setIfInBounds_toArray, List.set_cons_zero, List.set_cons_succ]
                  refine wpAnyH_take (i := 21) (v := undef) rfl (by kernel_rfl) (by kernel_rfl) (by kernel_rfl) (fun _ _ _ h => h) (Or.inr ⟨by rfl, rfl⟩) hHeld ?_
                  show wpAnyH _ _ _ _ _ _ _ (Act.put _ (some 64) _) _
                  try simp only [Act.put, List.setIfInBounds_toArray, List.set_cons_zero, List.set_cons_succ]
                  refine wpAnyH_take (i := 22) (v := undef) rfl (by kernel_rfl) (by kernel_rfl) (by kernel_rfl) (fun _ _ _ h => h) (Or.inr ⟨by rfl, rfl⟩) hHeld ?_
                  show wpAnyH _ _ _ _ _ _ _ (Act.put _ (some 65) _) _
                  try simp only [Act.put, List.setIfInBounds_toArray, List.set_cons_zero, List.set_cons_succ]
                  refine wpAnyH_take (i := 23) (v := undef) rfl (by kernel_rfl) (by kernel_rfl) (by kernel_rfl) (fun _ _ _ h => h) (Or.inr ⟨by rfl, rfl⟩) hHeld ?_
                  show wpAnyH _ _ _ _ _ _ _ (Act.put _ (some 66) _) _
                  try simp only [Act.put, List.setIfInBounds_toArray, List.set_cons_zero, List.set_cons_succ]
                  refine wpAnyH_take (i := 24) (v := undef) rfl (by kernel_rfl) (by kernel_rfl) (by kernel_rfl) (fun _ _ _ h => h) (Or.inr ⟨by rfl, rfl⟩) hHeld ?_
                  show wpAnyH _ _ _ _ _ _ _ (Act.put _ (some 67) _) _
                  try simp only [Act.put, List.setIfInBounds_toArray, List.set_cons_zero, List.set_cons_succ]
                  refine wpAnyH_take (i := 25) (v := undef) rfl (by kernel_rfl) (by kernel_rfl) (by kernel_rfl) (fun _ _ _ h => h) (Or.inr ⟨by rfl, rfl⟩) hHeld ?_
                  show wpAnyH _ _ _ _ _ _ _ (Act.put _ (some 68) _) _
                  try simp only [Act.put, List.setIfInBounds_toArray, List.set_cons_zero, List.set_cons_succ]
                  refine wpAnyH_take (i := 26) (v := undef) rfl (by kernel_rfl) (by kernel_rfl) (by kernel_rfl) (fun _ _ _ h => h) (Or.inr ⟨by rfl, rfl⟩) hHeld ?_
                  show wpAnyH _ _ _ _ _ _ _ (Act.put _ (some 69) _) _
                  try simp only [Act.put, List.setIfInBounds_toArray, List.set_cons_zero, List.set_cons_succ]
                  refine wpAnyH_take (i := 27) (v := undef) rfl (by kernel_rfl) (by kernel_rfl) (by kernel_rfl) (fun _ _ _ h => h) (Or.inr ⟨by rfl, rfl⟩) hHeld ?_
                  show wpAnyH _ _ _ _ _ _ _ (Act.put _ (some 70) _) _
                  try simp only [Act.put, List.setIfInBounds_toArray, List.set_cons_zero, List.set_cons_succ]
                  refine wpAnyH_take (i := 28) (v := undef) rfl (by kernel_rfl) (by kernel_rfl) (by kernel_rfl) (fun _ _ _ h => h) (Or.inr ⟨by rfl, rfl⟩) hHeld ?_
                  show wpAnyH _ _ _ _ _ _ _ (Act.put _ (some 71) _) _
                  try simp only [Act.put, List.setIfInBounds_toArray, List.set_cons_zero, List.set_cons_succ]
                  refine wpAnyH_take (i := 29) (v := undef) rfl (by kernel_rfl) (by kernel_rfl) (by kernel_rfl) (fun _ _ _ h => h) (Or.inr ⟨by rfl, rfl⟩) hHeld ?_
                  show wpAnyH _ _ _ _ _ _ _ (Act.put _ (some 72) _) _
                  try simp only [Act.put, List.setIfInBounds_toArray, List.set_cons_zero, List.set_cons_succ]
                  refine wpAnyH_take (i := 30) (v := undef) rfl (by kernel_rfl) (by kernel_rfl) (by kernel_rfl) (fun _ _ _ h => h) (Or.inr ⟨by rfl, rfl⟩) hHeld ?_
                  show wpAnyH _ _ _ _ _ _ _ (Act.put _ (some 73) _) _
                  try simp only [Act.put, List.setIfInBounds_toArray, List.set_cons_zero, List.set_cons_succ]
                  refine wpAnyH_take (i := 31) (v := undef) rfl (by kernel_rfl) (by kernel_rfl) (by kernel_rfl) (fun _ _ _ h => h) (Or.inr ⟨by rfl, rfl⟩) hHeld ?_
                  show wpAnyH _ _ _ _ _ _ _ (Act.put _ (some 74) _) _
                  try simp only [Act.put, List.setIfInBounds_toArray, List.set_cons_zero, List.set_cons_succ]
                  refine wpAnyH_take (i := 32) (v := undef) rfl (by kernel_rfl) (by kernel_rfl) (by kernel_rfl) (fun _ _ _ h => h) (Or.inr ⟨by rfl, rfl⟩) hHeld ?_
                  show wpAnyH _ _ _ _ _ _ _ (Act.put _ (some 75) _) _
                  try simp only [Act.put, List.setIfInBounds_toArray, List.set_cons_zero, List.set_cons_succ]
                  refine wpAnyH_take (i := 33) (v := undef) rfl (by kernel_rfl) (by kernel_rfl) (by kernel_rfl) (fun _ _ _ h => h) (Or.inr ⟨by rfl, rfl⟩) hHeld ?_
                  show wpAnyH _ _ _ _ _ _ _ (Act.put _ (some 76) _) _
                  try simp only [Act.put, List.setIfInBounds_toArray, List.set_cons_zero, List.set_cons_succ]
                  refine wpAnyH_take (i := 34) (v := ?_) rfl (by kernel_rfl) (by kernel_rfl) (by kernel_rfl) (fun _ _ _ h => h) (Or.inl ⟨by rfl, ?_⟩) hHeld ?_
                  rotate_left
                  · intro w hSw
                    try dsimp only at hSw
                    go_simp
                    try with_reducible rfl
                  show wpAnyH _ _ _ _ _ _ _ (Act.put _ (some 77) _) _
                  try simp only [Act.put, List.setIfInBounds_toArray, List.set_cons_zero, List.set_cons_succ]
                  refine wpAnyH_take (i := 35) (v := ?_) rfl (by kernel_rfl) (by kernel_rfl) (by kernel_rfl) (fun _ _ _ h => h) (Or.inl ⟨by rfl, ?_⟩) hHeld ?_
                  rotate_left
                  · intro w hSw
                    try dsimp only at hSw
                    go_simp
                    try with_reducible rfl
                  show wpAnyH _ _ _ _ _ _ _ (Act.put _ (some 78) _) _
                  try simp only [Act.put, List.setIfInBounds_toArray, List.set_cons_zero, List.set_cons_succ]
                  refine wpAnyH_take (i := 36) (v := ?_) rfl (by kernel_rfl) (by kernel_rfl) (by kernel_rfl) (fun _ _ _ h => h) (Or.inl ⟨by rfl, ?_⟩) hHeld ?_
                  rotate_left
                  · intro w hSw
                    try dsimp only at hSw
                    go_simp
                    try with_reducible rfl
                  show wpAnyH _ _ _ _ _ _ _ (Act.put _ (some 13) _) _
                  try simp only [Act.put, List.setIfInBounds_toArray, List.set_cons_zero, List.set_cons_succ]
                  refine wpAnyH_done (by kernel_rfl) ?_ _
                  clear hHeld
                  go_wp2_with fail
                  go_roundw
                  case rel => exact ⟨k + 1, by go_num, by omega, by rw [unhide HBn], hide (by have := unhide KV; repeat (first | exact this | apply Keep.drew))⟩
                  case measure => simp [intOf]; omega
            · have ki : ¬ (k : Int) < (m : Int) := by omega
              obtain rfl : k = m := by omega
              have KX := hide ((unhide KW).trans (unhide KV))
              have OX := hide (own_k (unhide OWn) (unhide KV))
              cases hT : Tk k p with
              | false =>
                have HN2 := hide ((unhide HNm) ((unhide HFp).2.1 (unhide HUP) (by rw [← unhide HTm]; exact hT)))
                clear hT HNm HFp
                go_wp2_with fail
                go_roundw
                case rel => exact ⟨p + 1, by go_num, hlt, HN2, KX, OX⟩
                case measure => simp [intOf]; omega
              | true =>
                have HFe := hide ((unhide HFp).2.2 (unhide HUP) (by rw [← unhide HTm]; exact hT))
                have hVx : Vs wr (.slice (some ⟨g0, 0, none⟩) n c5) n (bcs u') := ⟨_, c5, rfl, fun j x hj => ⟨_, rfl, by
                  have hjn : j < n * 1 := by
                    rcases Nat.lt_or_ge j (n * 1) with h | h
                    · exact h
                    · rw [List.getElem?_eq_none (by rw [bcs_len, (unhide HUl).2]; omega)] at hj; cases hj
                  rw [add_pl, Nat.zero_add, (unhide OX).cellAt j hjn]; exact hj⟩⟩
                have TIp := hide ((unhide TI) p wr _ hlt (unhide HUP) ((unhide HK).trans (unhide KX)) hVx)
                clear hVx hT HFp
                unfold OQ at TIp
                have HLw := hide ((unhide HOW) p u')
                generalize OW p u' = LL at HFe TIp HLw
                go_wp2_with fail
                (refine (unhide TIp).mono ?_; rintro e w7 ⟨x7, rfl, hk7, hi7⟩; have K7 := hide ((unhide KX).trans hk7); have KV7 := hide ((unhide KV).trans hk7); have I7 := hide hi7; clear hk7 hi7 TIp)
                obtain ⟨xx, xcc, rfl⟩ := (unhide I7).sl
                by_cases hLL : LL = []
                · subst hLL
                  have HN2 := hide ((unhide HNm) (unhide HFe))
                  have O7 := hide (own_k (unhide OWn) (unhide KV7))
                  rw [show (nI []).length = 0 from rfl] at I7 ⊢
                  clear HNm HFe
                  go_wp2_with fail
                  go_roundw
                  case rel => exact ⟨p + 1, by go_num, hlt, HN2, K7, O7⟩
                  case measure => simp [intOf]; omega
                · have hln : 0 < LL.length := List.length_pos_iff.2 hLL
                  have hLP : Hid (LP = LL) := hide (by rw [(unhide HLa) p (unhide HN) hlt (by rw [unhide HFe]; exact hLL), unhide HFe])
                  have HL9 : Hid (a :: LL = if LP = [] then [] else a :: LP) := hide (by rw [unhide hLP, if_neg hLL])
                  have hsm : LL.length ≤ 64 := unhide HLw
                  have KA7 := hide ((unhide K7).alloc (.cells #[.int .i64 (a : Int)] 3))
                  have I8 := hide (((unhide I7).keep ((Keep.refl w7).alloc (.cells #[.int .i64 (a : Int)] 3))).is.vs)
                  have O8 : Hid ((w7.alloc (.cells #[.int .i64 (a : Int)] 3)).ownsRow w7.heap.size 3 1 (.slice (some ⟨w7.heap.size, 0, none⟩) 1 1) 1 (ics [(a : Int)])) := hide (World.ownsRow_lit w7 #[.int .i64 (a : Int)] 1 (Nat.le_refl _) (by unfold maxLen; omega) rfl)
                  have HI9 : Hid (ics [(a : Int)] ++ ics (nI LL) = ics (nI (a :: LL))) := hide (by simp [ics, nI])
                  have HN9 : Hid (1 + (nI LL).length = (nI (a :: LL)).length) := hide (by simp [nI]; omega)
                  have HL3 : Hid ((ics (nI LL)).length = (nI LL).length * 1) := hide (by rw [ics_len, Nat.mul_one])
                  have HL4 := hide (ics_one (nI LL))
                  have hnl : 0 < (nI LL).length := by rw [nI_len]; exact hln
                  have hnl2 : (nI LL).length ≤ 900000 := by rw [nI_len]; omega
                  clear HNm hLL hln hsm
                  generalize (nI LL).length = nl at *
                  have ln0 : (0 : Int) < (nl : Int) := by omega
                  go_wp2_with (at_builtin; refine wpList_append_vs _ rfl _ _ 30 rfl w7.heap.size 3 i0 _ 1 8 Tryd.underlying30 hi0 hz0 hz1 hz2 rfl (by decide) (by decide) _ 1 (ics [(a : Int)]) rfl (unhide O8) _ nl (ics (nI LL)) rfl (unhide I8) (unhide HL3) (unhide HL4) (by omega) (by simp) ?_; intro v9 w9 hown' hgrow; rw [unhide HI9] at hown'; have I9 := hide (iw_own hown' (unhide HN9)); have K9 : Hid (Keep w w9) := hide (Below.grown (unhide KA7) hgrow (unhide KA7).size (fun j ej => Nat.le_trans (unhide K7).size ((unhide O8).lt j ej).1)); clear hown' hgrow)
                  try go_ret
                  exact (unhide HP) _ _ _ (a :: LL) (unhide K9) (unhide I9) (unhide HL9) rfl
      · have li : ¬ (p : Int) < (n : Int) := by omega
        obtain rfl : p = n := by omega
        have hnil := hide ((unhide HLe) (unhide HN))
        go_wp2_with fail
        try go_ret
        exact (unhide HP) _ _ _ [] (unhide KW) (iw_nil _) (by rw [unhide hnil]; rfl) rfl
theorem on_any (v vd : Value) (R : List E3) (n td : Nat) (D : List Int) (w0 : World) (hR : Es w0 v R) (hl : R.length ≤ 1000) (hG : isG (n : Int) R = true) (hD : Is w0 vd D) (hn : Nn n D) (hB : ∀ p, g D p ≤ 1000000000000) : ∀ (f : Nat), f ≤ 64 → ∀ (a : Nat) (u : List Bool) (vu : Value) (w : World), u.count false ≤ f → u.length = n → a < n → ub u a = false → Keep w0 w → Vs w vu n (bcs u) → Calls Tryd.prog 25 #[vd, v, .int .i64 (a : Int), .int .i64 (td : Int), vu] w (OQ (onW (tg (nE R) (g D)) n td f a u) w)
  | 0, _, a, u, vu, w, hc, hu, ha, h0, hK, hV => by
    have := cf_set u a (by omega) h0
    omega
  | f + 1, hf, a, u, vu, w, hc, hu, ha, h0, hK, hV => on_step v vd R n td D w0 hR hl hG hD hn hB f (by omega) (fun a u vu w => on_any v vd R n td D w0 hR hl hG hD hn hB f (by omega) a u vu w) a u vu w hc hu ha h0 hK hV
theorem madeB_is (n : Nat) : madeCells (Value.bool false).cells (n * 1) = (bcs (List.replicate n false)).toArray := by
  unfold madeCells
  apply Array.ext
  · simp [bcs]
  · intro i h1 h2
    simp [Value.cells, Nat.mod_one, bcs]
theorem makeB_any (n : Nat) (hn : n ≤ 1000) (w : World) : (Instr.makeSlice 54 (.int .i64 (n : Int)) (.int .i64 (n : Int))).run Tryd.prog w = .ok (.slice (some ⟨w.heap.size, 0, none⟩) n n) (w.alloc (.cells (bcs (List.replicate n false)).toArray 4)) := by
  obtain ⟨i0, hi0, hz0, hz1, hz2⟩ := info_f infoB
  have h := run_make (P := Tryd.prog) w 54 4 i0 _ Tryd.underlying54 hi0 hz0 .i64 .i64 (n : Int) (n : Int) (by omega) (by omega) (by rw [hz2]; omega) (by omega)
  rw [hz1] at h
  simp only [Int.toNat_natCast] at h
  rw [h, madeB_is]
theorem madeB_vs (n : Nat) (w : World) : Vs (w.alloc (.cells (bcs (List.replicate n false)).toArray 4)) (.slice (some ⟨w.heap.size, 0, none⟩) n n) n (bcs (List.replicate n false)) := ⟨_, n, rfl, fun j u hj => ⟨_, rfl, new_v w (bcs (List.replicate n false)) _ j u hj⟩⟩
set_option maxHeartbeats 4000000 in
theorem rway_any (v : Value) (R : List E3) (n td : Int) (w : World) (hR : Es w v R) (hl : R.length ≤ 1000) : Calls Tryd.prog 13 #[.int .i64 n, v, .int .i64 td] w (WQ n R td w) := by
  have T1 := hide (rlongest_any v R n w hR hl)
  have HP0 : Hid (¬ ((lg n R).2 = 0 ∧ 0 ≤ td ∧ td < n ∧ 0 ≤ g (lg n R).1 td.toNat) → ∀ e w', Keep w w' → e = .returned (.slice none 0 0) → WQ n R td w e w') := hide (fun h e w' hk he => ⟨_, he, hk, by rw [wy_no h]; exact iw_nil _⟩)
  unfold Lq at T1
  by_cases hE : (lg n R).2 = 0
  · obtain ⟨m, d, rfl, hG, hm1, hm2, hg, hd, hlg, hbd⟩ := lg_ok hE
    rw [hlg] at T1 HP0
    simp only at HP0 T1
    by_cases h1 : td < 0
    · have HP := hide ((unhide HP0) (by omega))
      clear HP0
      generalize WQ (m : Int) R td w = QQ at HP ⊢
      obtain ⟨a, cap, rfl, -⟩ := hR
      generalize R.length = rl at *
      clear hlg hE hd hbd hG hg
      go_enter Tryd.func13, Tryd.ntmps13
      go_wp2_with fail
      (refine (unhide T1).mono ?_; rintro e w1 ⟨u1, rfl, hk9, hi9⟩; have K1 := hide hk9; clear hk9 hi9 T1)
      go_wp2_with fail
      try go_ret
      exact (unhide HP) _ _ (unhide K1) rfl
    by_cases h2 : (m : Int) ≤ td
    · have HP := hide ((unhide HP0) (by omega))
      clear HP0
      generalize WQ (m : Int) R td w = QQ at HP ⊢
      obtain ⟨a, cap, rfl, -⟩ := hR
      generalize R.length = rl at *
      clear hlg hE hd hbd hG hg
      go_enter Tryd.func13, Tryd.ntmps13
      go_wp2_with fail
      (refine (unhide T1).mono ?_; rintro e w1 ⟨u1, rfl, hk9, hi9⟩; have K1 := hide hk9; clear hk9 hi9 T1)
      go_wp2_with fail
      try go_ret
      exact (unhide HP) _ _ (unhide K1) rfl
    obtain ⟨t, rfl⟩ : ∃ t : Nat, td = (t : Int) := ⟨td.toNat, by omega⟩
    have ht : t < m := by omega
    have hdl := hd.1.1
    rw [Int.toNat_natCast] at HP0
    have l1 : ¬ ((t : Int) < 0) := by omega
    have l2 : ¬ ((m : Int) ≤ (t : Int)) := by omega
    have l3 : (t : Int) < (m : Int) := by omega
    clear h1 h2
    by_cases h3 : g d t < 0
    · have HP := hide ((unhide HP0) (by omega))
      clear HP0
      generalize WQ (m : Int) R (t : Int) w = QQ at HP ⊢
      obtain ⟨a, cap, rfl, -⟩ := hR
      generalize R.length = rl at *
      have HD := hide hdl
      clear hlg hE hd hbd hG hg hdl
      go_enter Tryd.func13, Tryd.ntmps13
      go_wp2_with fail
      (refine (unhide T1).mono ?_; rintro e w1 ⟨u1, rfl, hk9, hi9⟩; have K1 := hide hk9; have I1 := hide hi9; clear hk9 hi9 T1)
      obtain ⟨xa, xc, rfl⟩ := (unhide I1).sl
      have hat := (unhide I1).is.at.2 t (by rw [unhide HD]; exact ht)
      rw [unhide HD] at I1 ⊢
      obtain ⟨ad, rfl, hc⟩ := hat
      obtain ⟨y, hy⟩ : ∃ y, g d t = y := ⟨_, rfl⟩
      rw [hy] at hc h3
      clear hy
      go_wp2_with fail
      try go_ret
      exact (unhide HP) _ _ (unhide K1) rfl
    · have HP : Hid (∀ e w' x, Keep w w' → Iw 3 w' x (nI (wyN m (nE R) d t)) → e = .returned x → WQ (m : Int) R (t : Int) w e w') := hide (fun e w' u hk hi he => ⟨u, he, hk, by unfold wy; rw [if_pos (by rw [hlg, Int.toNat_natCast]; exact ⟨rfl, by omega, by omega, (by show 0 ≤ g d t; omega)⟩), hlg, Int.toNat_natCast, Int.toNat_natCast]; exact hi⟩)
      have TO := hide (fun (w' : World) (vd vu : Value) (hk : Keep w w') (hi : Is w' vd d) (w2 : World) (hk2 : Keep w' w2) (hv : Vs w2 vu m (bcs (List.replicate m false))) => on_any v vd R m t d w' (hR.keep hk) hl hG hi hd.1 hbd m hm2 0 (List.replicate m false) vu w2 (by rw [List.count_replicate]; simp) (by simp) (by omega) (ub_rep m 0) hk2 hv)
      rw [show onW (tg (nE R) (g d)) m t m 0 (List.replicate m false) = wyN m (nE R) d t from rfl] at TO
      unfold OQ at TO
      clear HP0
      generalize WQ (m : Int) R (t : Int) w = QQ at HP ⊢
      generalize wyN m (nE R) d t = L at *
      obtain ⟨a, cap, rfl, -⟩ := hR
      generalize R.length = rl at *
      have HD := hide hdl
      have hmk := makeB_any m (by omega)
      have HVm := hide (madeB_vs m)
      generalize bcs (List.replicate m false) = ZB at hmk HVm TO
      clear hlg hE hd hbd hG hg hdl
      go_enter Tryd.func13, Tryd.ntmps13
      go_wp2_with fail
      (refine (unhide T1).mono ?_; rintro e w1 ⟨u1, rfl, hk9, hi9⟩; have K1 := hide hk9; have I1 := hide hi9; clear hk9 hi9 T1)
      obtain ⟨xa, xc, rfl⟩ := (unhide I1).sl
      have hat := (unhide I1).is.at.2 t (by rw [unhide HD]; exact ht)
      have IS1 := hide (unhide I1).is
      rw [unhide HD] at I1 IS1 ⊢
      obtain ⟨ad, rfl, hc⟩ := hat
      obtain ⟨y, hy⟩ : ∃ y, g d t = y := ⟨_, rfl⟩
      rw [hy] at hc h3
      clear hy
      go_wp2_with fail
      (refine ((unhide TO) _ _ _ (unhide K1) (unhide IS1) _ ((Keep.refl _).alloc _) ((unhide HVm) _)).mono ?_; rintro e w2 ⟨x2, rfl, hk9, hi9⟩; have K2 := hide (((unhide K1).alloc _).trans hk9); have I2 := hide hi9; clear hk9 hi9 TO)
      go_wp2_with fail
      try go_ret
      exact (unhide HP) _ _ _ (unhide K2) (unhide I2) rfl
  · have HP := hide ((unhide HP0) (fun h => hE h.1))
    clear HP0
    generalize WQ n R td w = QQ at HP ⊢
    generalize (lg n R).2 = E2 at hE T1
    generalize (lg n R).1 = L2 at T1
    obtain ⟨a, cap, rfl, -⟩ := hR
    generalize R.length = rl at *
    have hb : (E2 != 0) = true := by simpa using hE
    clear hE
    go_enter Tryd.func13, Tryd.ntmps13
    go_wp2_with fail
    (refine (unhide T1).mono ?_; rintro e w1 ⟨u1, rfl, hk9, hi9⟩; have K1 := hide hk9; clear hk9 hi9 T1)
    go_wp2_with fail
    try go_ret
    exact (unhide HP) _ _ (unhide K1) rfl
end Pa
end Go.Proofs.YtfofkkjldngkaaaDoor
