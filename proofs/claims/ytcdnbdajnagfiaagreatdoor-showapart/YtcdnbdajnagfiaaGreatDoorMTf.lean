/- The document's Same on trees. -/
import Derived.Test.YtcdnbdajnagfiaaGreatDoorLOpn
import Derived.Test.YtcdnbdajnagfiaaGreatDoorMSf
import Derived.Test.YtcdnbdajnagfiaaGreatDoorMNm
import Derived.Test.YtcdnbdajnagfiaaGreatDoorMPh
import Derived.Test.YtcdnbdajnagfiaaGreatDoorMGr
namespace Go.Proofs.YtcdnbdajnagfiaaGreatDoor
open Go.RowKit
set_option linter.unusedVariables false
set_option linter.unusedSimpArgs false
set_option maxRecDepth 10000
theorem getd_mem {L : List (List D)} {k : Nat} (h : k < L.length) : L.getD k [] ∈ L := by
  rw [List.getD_eq_getElem?_getD, List.getElem?_eq_getElem h]
  exact List.getElem_mem _
theorem sv_eq {a b : List UInt8} : sv a = sv b ↔ a = b := ⟨fun h => sv_inj.1 (by rw [h]), fun h => by rw [h]⟩
theorem names_z {L : List (List D)} (h : NamesSh L) : Zss false L = L := by
  rw [zss_map]
  conv => rhs; rw [← List.map_id L]
  apply List.map_congr_left
  intro x hx
  obtain ⟨s, rfl⟩ := h.2 x hx
  simp [Zl, Z, dS]
theorem rings_z {R : List (List D)} (h : ∀ y ∈ R, RingSh y) : Zss false R = R := by
  rw [zss_map]
  conv => rhs; rw [← List.map_id R]
  apply List.map_congr_left
  intro y hy
  obtain ⟨f, Q, rfl, hQ⟩ := h y hy
  simp [Zl, Z, dB, plc, names_z hQ]
theorem groups_z {L : List (List D)} (h : ∀ y ∈ L, GroupSh y) : Zss false L = L := by
  rw [zss_map]
  conv => rhs; rw [← List.map_id L]
  apply List.map_congr_left
  intro x hx
  obtain ⟨R, rfl, _, hR⟩ := h x hx
  simp [Zl, Z, plc, rings_z hR]
/-- no address -/
def d0 : Addr := ⟨0, 0, none⟩
theorem names_tree {w : World} {L M : List (List D)} {a b : Option Addr} {ca cb : Nat} (hL : NamesSh L) (hM : NamesSh M) (HA : Rvss w a 1 L 0) (HB : Rvss w b 1 M 0) :
    ∃ r : Bool, (r = true ↔ L = M) ∧ ∀ w', Keep w w' → Calls Tryz.prog 77 #[.slice a L.length ca, .slice b M.length cb] w' fun e w'' => e = .returned (.bool r) ∧ Keep w' w'' := by
  obtain ⟨r, h0, h1, h2, h3⟩ := row_ans (n := L.length) (m := M.length) (E := fun k => ((fS ((L.getD k []).getD 0 (dI 0))).toList == (fS ((M.getD k []).getD 0 (dI 0))).toList))
  have rd : ∀ (N : List (List D)) (c : Option Addr), NamesSh N → Rvss w c 1 N 0 → ∀ w', Keep w w' → ∀ k, k < N.length → ∃ ad, c = some ad ∧ w'.cell? (ad.add k) = some (.string (fS ((N.getD k []).getD 0 (dI 0)))) := by
    intro N c hN HN w' hk k hlt
    obtain ⟨ad, us, e0, hb, e2, e3, e4⟩ := rvss_at N 0 (Rvss.keep hk _ _ N 0 HN) k hlt
    obtain ⟨s, ex⟩ := hN.2 _ (getd_mem hlt)
    rw [ex] at e2
    simp only [Rvs, Rv, dS] at e2
    obtain ⟨_, _, rfl, rfl, rfl⟩ := e2
    rw [Nat.zero_add, Nat.mul_one] at e4
    simp only [ex]
    exact ⟨ad, e0, e4 0 _ rfl⟩
  refine ⟨r, ?_, fun w' hk => names_core a b L.length M.length ca cb (fun k => fS ((L.getD k []).getD 0 (dI 0))) (fun k => fS ((M.getD k []).getD 0 (dI 0))) _ r w' hL.1 hM.1 (hide (rd L a hL HA w' hk)) (hide (rd M b hM HB w' hk)) (hide fun k => rfl) (hide h1) (hide h2) (hide h3)⟩
  rw [h0, list_eq []]
  refine and_congr_right fun hnm => forall_congr' fun k => imp_congr_right fun hlt => ?_
  obtain ⟨s, ex⟩ := hL.2 _ (getd_mem hlt)
  obtain ⟨t, ey⟩ := hM.2 _ (getd_mem (show k < M.length by omega))
  simp only [ex, ey]
  simp [fS, dS, sv_inj, sv_eq]
theorem groups_tree {w : World} {L M : List (List D)} {a b : Option Addr} {ca cb : Nat} (hL : L.length ≤ 100000 ∧ ∀ y ∈ L, GroupSh y) (hM : M.length ≤ 100000 ∧ ∀ y ∈ M, GroupSh y) (HA : Rvss w a 1 L 0) (HB : Rvss w b 1 M 0) :
    ∃ r : Bool, (r = true ↔ L = M) ∧ ∀ w', Keep w w' → Calls Tryz.prog 39 #[.slice a L.length ca, .slice b M.length cb] w' fun e w'' => e = .returned (.bool r) ∧ Keep w' w'' := by
  classical
  have rd : ∀ (N : List (List D)) (c : Option Addr), (N.length ≤ 100000 ∧ ∀ y ∈ N, GroupSh y) → Rvss w c 1 N 0 → ∀ i, i < N.length → ∃ ad, c = some ad ∧ w.cell? (ad.add i) = some (.slice (slA w ((c.getD d0).add i)) (slN w ((c.getD d0).add i)) (slC w ((c.getD d0).add i))) ∧ slN w ((c.getD d0).add i) = (fL ((N.getD i []).getD 0 (dI 0))).length ∧ (fL ((N.getD i []).getD 0 (dI 0))).length ≤ 100000 ∧ (∀ y ∈ (fL ((N.getD i []).getD 0 (dI 0))), RingSh y) ∧ Rvss w (slA w ((c.getD d0).add i)) 2 (fL ((N.getD i []).getD 0 (dI 0))) 0 := by
    intro N c hN HN i hlt
    obtain ⟨ad, us, rfl, hb, e2, e3, e4⟩ := rvss_at N 0 HN i hlt
    obtain ⟨R, ex, hR, hR2⟩ := hN.2 _ (getd_mem hlt)
    rw [ex] at e2
    simp only [Rvs, Rv] at e2
    obtain ⟨_, _, rfl, ⟨a1, c1, rfl, _, h1⟩, rfl⟩ := e2
    rw [Nat.zero_add, Nat.mul_one] at e4
    have hc : w.cell? (ad.add i) = some (.slice a1 R.length c1) := e4 0 _ rfl
    simp only [ex, Option.getD_some, slA, slN, slC, hc]
    exact ⟨ad, rfl, hc, rfl, hR, hR2, h1⟩
  have rd2 : ∀ (N : List (List D)) (c : Option Addr), (N.length ≤ 100000 ∧ ∀ y ∈ N, GroupSh y) → Rvss w c 1 N 0 → ∀ i, i < N.length → ∀ k, k < slN w ((c.getD d0).add i) → ∃ ad, slA w ((c.getD d0).add i) = some ad ∧ w.cell? (ad.add (k * 2)) = some (.bool (fB (((fL ((N.getD i []).getD 0 (dI 0))).getD k []).getD 0 (dI 0)))) ∧ w.cell? ⟨(ad.add (k * 2)).block, (ad.add (k * 2)).off + 1, none⟩ = some (.slice (slA w (ati (((slA w ((c.getD d0).add i)).getD d0).add (k * 2)) 1)) (slN w (ati (((slA w ((c.getD d0).add i)).getD d0).add (k * 2)) 1)) (slC w (ati (((slA w ((c.getD d0).add i)).getD d0).add (k * 2)) 1))) ∧ NamesSh (fL (((fL ((N.getD i []).getD 0 (dI 0))).getD k []).getD 1 (dI 0))) ∧ slN w (ati (((slA w ((c.getD d0).add i)).getD d0).add (k * 2)) 1) = (fL (((fL ((N.getD i []).getD 0 (dI 0))).getD k []).getD 1 (dI 0))).length ∧ Rvss w (slA w (ati (((slA w ((c.getD d0).add i)).getD d0).add (k * 2)) 1)) 1 (fL (((fL ((N.getD i []).getD 0 (dI 0))).getD k []).getD 1 (dI 0))) 0 := by
    intro N c hN HN i hlt k hk
    obtain ⟨_, _, _, hlen, _, hR2, h1⟩ := rd N c hN HN i hlt
    rw [hlen] at hk
    generalize slA w ((c.getD d0).add i) = ra at h1 ⊢
    generalize (fL ((N.getD i []).getD 0 (dI 0))) = R at hk hR2 h1 ⊢
    obtain ⟨ad, us, rfl, hb, e2, e3, e4⟩ := rvss_at R 0 h1 k hk
    obtain ⟨f, Q, ex, hQ⟩ := hR2 _ (getd_mem hk)
    rw [ex] at e2
    simp only [Rvs, Rv, dB] at e2
    obtain ⟨_, _, rfl, rfl, _, _, rfl, ⟨a1, c1, rfl, _, h2⟩, rfl⟩ := e2
    rw [Nat.zero_add] at e4
    have hc : w.cell? (ati (ad.add (k * 2)) 1) = some (.slice a1 Q.length c1) := e4 1 _ rfl
    simp only [ex, Option.getD_some, slA, slN, slC, hc]
    exact ⟨ad, rfl, e4 0 _ rfl, hc, hQ, rfl, h2⟩
  let r : Bool := decide (L = M)
  have key : ∀ i, i < L.length → i < M.length → (L.getD i [] = M.getD i [] ↔ slN w ((a.getD d0).add i) = slN w ((b.getD d0).add i) ∧ ∀ k, k < slN w ((a.getD d0).add i) → (((fB (((fL ((L.getD i []).getD 0 (dI 0))).getD k []).getD 0 (dI 0))) == (fB (((fL ((M.getD i []).getD 0 (dI 0))).getD k []).getD 0 (dI 0)))) && decide (fL (((fL ((L.getD i []).getD 0 (dI 0))).getD k []).getD 1 (dI 0)) = fL (((fL ((M.getD i []).getD 0 (dI 0))).getD k []).getD 1 (dI 0)))) = true) := by
    intro i h1 h2
    obtain ⟨_, _, _, l1, _, q1, _⟩ := rd L a hL HA i h1
    obtain ⟨_, _, _, l2, _, q2, _⟩ := rd M b hM HB i h2
    obtain ⟨R, ex, _⟩ := hL.2 _ (getd_mem h1)
    obtain ⟨S, ey, _⟩ := hM.2 _ (getd_mem h2)
    rw [l1, l2]
    rw [ex] at q1 ⊢
    rw [ey] at q2 ⊢
    simp only [List.getD_cons_zero, fL] at q1 q2 ⊢
    simp only [List.cons.injEq, and_true, D.row.injEq, true_and]
    rw [list_eq []]
    refine and_congr_right fun hnm => forall_congr' fun k => imp_congr_right fun hlt => ?_
    obtain ⟨f, Q, ez, hQ⟩ := q1 _ (getd_mem hlt)
    obtain ⟨g, S', e5, hS⟩ := q2 _ (getd_mem (show k < S.length by omega))
    rw [ez, e5]
    simp [fB, fL, dB]
  refine ⟨r, by simp [r], fun w' hk => groups_core a b L.length M.length ca cb (fun i => slA w ((a.getD d0).add i)) (fun i => slA w ((b.getD d0).add i)) (fun i => slN w ((a.getD d0).add i)) (fun i => slC w ((a.getD d0).add i)) (fun i => slN w ((b.getD d0).add i)) (fun i => slC w ((b.getD d0).add i)) (fun i k => fB (((fL ((L.getD i []).getD 0 (dI 0))).getD k []).getD 0 (dI 0))) (fun i k => fB (((fL ((M.getD i []).getD 0 (dI 0))).getD k []).getD 0 (dI 0))) (fun i k => slA w (ati (((slA w ((a.getD d0).add i)).getD d0).add (k * 2)) 1)) (fun i k => slA w (ati (((slA w ((b.getD d0).add i)).getD d0).add (k * 2)) 1)) (fun i k => slN w (ati (((slA w ((a.getD d0).add i)).getD d0).add (k * 2)) 1)) (fun i k => slC w (ati (((slA w ((a.getD d0).add i)).getD d0).add (k * 2)) 1)) (fun i k => slN w (ati (((slA w ((b.getD d0).add i)).getD d0).add (k * 2)) 1)) (fun i k => slC w (ati (((slA w ((b.getD d0).add i)).getD d0).add (k * 2)) 1)) (fun i k => decide (fL (((fL ((L.getD i []).getD 0 (dI 0))).getD k []).getD 1 (dI 0)) = fL (((fL ((M.getD i []).getD 0 (dI 0))).getD k []).getD 1 (dI 0)))) _ r w' hL.1 hM.1
    (hide fun i hi => by obtain ⟨_, _, _, e, e2, _⟩ := rd L a hL HA i hi; rw [e]; exact e2) (hide fun i hi => by obtain ⟨_, _, _, e, e2, _⟩ := rd M b hM HB i hi; rw [e]; exact e2)
    (hide fun i hi => by obtain ⟨ad, e0, e1, _⟩ := rd L a hL HA i hi; exact ⟨ad, e0, Q.kcell hk e1⟩) (hide fun i hi => by obtain ⟨ad, e0, e1, _⟩ := rd M b hM HB i hi; exact ⟨ad, e0, Q.kcell hk e1⟩)
    (hide fun i hi k hk2 => by obtain ⟨ad, e0, e1, e2, _⟩ := rd2 L a hL HA i hi k hk2; exact ⟨ad, e0, Q.kcell hk e1, Q.kcell hk e2⟩) (hide fun i hi k hk2 => by obtain ⟨ad, e0, e1, e2, _⟩ := rd2 M b hM HB i hi k hk2; exact ⟨ad, e0, Q.kcell hk e1, Q.kcell hk e2⟩)
    (hide fun i k hi hj h1 h2 w2 hk2 => ?_) (hide fun i k => rfl) (hide fun h => ?_) (hide fun h i hi hne => ?_) (hide fun h i hi he k hk2 hek => ?_) (hide fun h hall => ?_)⟩
  · obtain ⟨_, _, _, _, s1, l1, v1⟩ := rd2 L a hL HA i hi k h1
    obtain ⟨_, _, _, _, s2, l2, v2⟩ := rd2 M b hM HB i hj k h2
    obtain ⟨rk, hrk, hcall⟩ := names_tree (ca := slC w (ati (((slA w ((a.getD d0).add i)).getD d0).add (k * 2)) 1)) (cb := slC w (ati (((slA w ((b.getD d0).add i)).getD d0).add (k * 2)) 1)) s1 s2 v1 v2
    have hc := hcall w2 (hk.trans hk2)
    rw [← l1, ← l2] at hc
    have e : rk = decide (fL (((fL ((L.getD i []).getD 0 (dI 0))).getD k []).getD 1 (dI 0)) = fL (((fL ((M.getD i []).getD 0 (dI 0))).getD k []).getD 1 (dI 0))) := by
      cases rk with
      | true => rw [decide_eq_true (hrk.1 rfl)]
      | false => rw [decide_eq_false (fun h => by have := hrk.2 h; cases this)]
    rw [e] at hc
    exact hc
  · exact decide_eq_false (fun e => h (by rw [e]))
  · exact decide_eq_false (fun e => hne ((key i hi (by omega)).1 (by rw [e])).1)
  · refine decide_eq_false (fun e => ?_)
    have := ((key i hi (by omega)).1 (by rw [e])).2 k hk2
    rw [this] at hek
    cases hek
  · exact decide_eq_true ((list_eq []).2 ⟨h, fun i hi => (key i hi (by omega)).2 (hall i hi)⟩)
theorem heads_tree_false {w : World} {L M : List (List D)} {a b : Option Addr} {ca cb : Nat} (hL : L.length ≤ 100000 ∧ ∀ y ∈ L, HeadSh y) (hM : M.length ≤ 100000 ∧ ∀ y ∈ M, HeadSh y) (HA : Rvss w a 11 L 0) (HB : Rvss w b 11 M 0) :
    ∃ r : Bool, (r = true ↔ Zss true L = Zss true M) ∧ ∀ w', Keep w w' → Calls Tryz.prog 36 #[.slice a L.length ca, .slice b M.length cb, .bool false] w' fun e w'' => e = .returned (.bool r) ∧ Keep w' w'' := by
  obtain ⟨r, h0, h1, h2, h3⟩ := row_ans (n := L.length) (m := M.length) (E := (fun k => (((fS ((L.getD k []).getD 0 (dI 0))).toList == (fS ((M.getD k []).getD 0 (dI 0))).toList) && ((fI ((L.getD k []).getD 1 (dI 0)) == fI ((M.getD k []).getD 1 (dI 0))) && ((fI ((L.getD k []).getD 2 (dI 0)) == fI ((M.getD k []).getD 2 (dI 0))) && ((fI ((L.getD k []).getD 3 (dI 0)) == fI ((M.getD k []).getD 3 (dI 0))) && ((fI ((L.getD k []).getD 4 (dI 0)) == fI ((M.getD k []).getD 4 (dI 0))) && ((fI ((L.getD k []).getD 5 (dI 0)) == fI ((M.getD k []).getD 5 (dI 0))) && ((fI ((L.getD k []).getD 6 (dI 0)) == fI ((M.getD k []).getD 6 (dI 0))) && ((fI ((L.getD k []).getD 7 (dI 0)) == fI ((M.getD k []).getD 7 (dI 0))) && ((fI ((L.getD k []).getD 8 (dI 0)) == fI ((M.getD k []).getD 8 (dI 0))) && ((fI ((L.getD k []).getD 9 (dI 0)) == fI ((M.getD k []).getD 9 (dI 0))) && true))))))))))))
  have rd : ∀ (N : List (List D)) (c : Option Addr), (N.length ≤ 100000 ∧ ∀ y ∈ N, HeadSh y) → Rvss w c 11 N 0 → ∀ w', Keep w w' → ∀ k, k < N.length → ∃ ad, c = some ad ∧ w'.cell? (ad.add (k * 11)) = some (.string (fS ((N.getD k []).getD 0 (dI 0)))) ∧ w'.cell? ⟨(ad.add (k * 11)).block, (ad.add (k * 11)).off + 1, none⟩ = some (.int .i64 (fI ((N.getD k []).getD 1 (dI 0)))) ∧ w'.cell? ⟨(ad.add (k * 11)).block, (ad.add (k * 11)).off + 2, none⟩ = some (.int .i64 (fI ((N.getD k []).getD 2 (dI 0)))) ∧ w'.cell? ⟨(ad.add (k * 11)).block, (ad.add (k * 11)).off + 3, none⟩ = some (.int .i64 (fI ((N.getD k []).getD 3 (dI 0)))) ∧ w'.cell? ⟨(ad.add (k * 11)).block, (ad.add (k * 11)).off + 4, none⟩ = some (.int .i64 (fI ((N.getD k []).getD 4 (dI 0)))) ∧ w'.cell? ⟨(ad.add (k * 11)).block, (ad.add (k * 11)).off + 5, none⟩ = some (.int .i64 (fI ((N.getD k []).getD 5 (dI 0)))) ∧ w'.cell? ⟨(ad.add (k * 11)).block, (ad.add (k * 11)).off + 6, none⟩ = some (.int .i64 (fI ((N.getD k []).getD 6 (dI 0)))) ∧ w'.cell? ⟨(ad.add (k * 11)).block, (ad.add (k * 11)).off + 7, none⟩ = some (.int .i64 (fI ((N.getD k []).getD 7 (dI 0)))) ∧ w'.cell? ⟨(ad.add (k * 11)).block, (ad.add (k * 11)).off + 8, none⟩ = some (.int .i64 (fI ((N.getD k []).getD 8 (dI 0)))) ∧ w'.cell? ⟨(ad.add (k * 11)).block, (ad.add (k * 11)).off + 9, none⟩ = some (.int .i64 (fI ((N.getD k []).getD 9 (dI 0)))) ∧ w'.cell? ⟨(ad.add (k * 11)).block, (ad.add (k * 11)).off + 10, none⟩ = some (.int .i64 (fI ((N.getD k []).getD 10 (dI 0)))) := by
    intro N c hN HN w' hk k hlt
    obtain ⟨ad, us, e0, hb, e2, e3, e4⟩ := rvss_at N 0 (Rvss.keep hk _ _ N 0 HN) k hlt
    obtain ⟨x0, x1, x2, x3, x4, x5, x6, x7, x8, x9, x10, ex⟩ := hN.2 _ (getd_mem hlt)
    rw [ex] at e2
    simp only [Rvs, Rv, dS, dI] at e2
    obtain ⟨_, _, rfl, rfl, _, _, rfl, rfl, _, _, rfl, rfl, _, _, rfl, rfl, _, _, rfl, rfl, _, _, rfl, rfl, _, _, rfl, rfl, _, _, rfl, rfl, _, _, rfl, rfl, _, _, rfl, rfl, _, _, rfl, rfl, rfl⟩ := e2
    rw [Nat.zero_add] at e4
    simp only [ex]
    exact ⟨ad, e0, e4 0 _ rfl, e4 1 _ rfl, e4 2 _ rfl, e4 3 _ rfl, e4 4 _ rfl, e4 5 _ rfl, e4 6 _ rfl, e4 7 _ rfl, e4 8 _ rfl, e4 9 _ rfl, e4 10 _ rfl⟩
  refine ⟨r, ?_, fun w' hk => heads_false a b L.length M.length ca cb (fun k => fS ((L.getD k []).getD 0 (dI 0))) (fun k => fS ((M.getD k []).getD 0 (dI 0))) (fun k => fI ((L.getD k []).getD 1 (dI 0))) (fun k => fI ((M.getD k []).getD 1 (dI 0))) (fun k => fI ((L.getD k []).getD 2 (dI 0))) (fun k => fI ((M.getD k []).getD 2 (dI 0))) (fun k => fI ((L.getD k []).getD 3 (dI 0))) (fun k => fI ((M.getD k []).getD 3 (dI 0))) (fun k => fI ((L.getD k []).getD 4 (dI 0))) (fun k => fI ((M.getD k []).getD 4 (dI 0))) (fun k => fI ((L.getD k []).getD 5 (dI 0))) (fun k => fI ((M.getD k []).getD 5 (dI 0))) (fun k => fI ((L.getD k []).getD 6 (dI 0))) (fun k => fI ((M.getD k []).getD 6 (dI 0))) (fun k => fI ((L.getD k []).getD 7 (dI 0))) (fun k => fI ((M.getD k []).getD 7 (dI 0))) (fun k => fI ((L.getD k []).getD 8 (dI 0))) (fun k => fI ((M.getD k []).getD 8 (dI 0))) (fun k => fI ((L.getD k []).getD 9 (dI 0))) (fun k => fI ((M.getD k []).getD 9 (dI 0))) (fun k => fI ((L.getD k []).getD 10 (dI 0))) (fun k => fI ((M.getD k []).getD 10 (dI 0))) (fun k => (((fS ((L.getD k []).getD 0 (dI 0))).toList == (fS ((M.getD k []).getD 0 (dI 0))).toList) && ((fI ((L.getD k []).getD 1 (dI 0)) == fI ((M.getD k []).getD 1 (dI 0))) && ((fI ((L.getD k []).getD 2 (dI 0)) == fI ((M.getD k []).getD 2 (dI 0))) && ((fI ((L.getD k []).getD 3 (dI 0)) == fI ((M.getD k []).getD 3 (dI 0))) && ((fI ((L.getD k []).getD 4 (dI 0)) == fI ((M.getD k []).getD 4 (dI 0))) && ((fI ((L.getD k []).getD 5 (dI 0)) == fI ((M.getD k []).getD 5 (dI 0))) && ((fI ((L.getD k []).getD 6 (dI 0)) == fI ((M.getD k []).getD 6 (dI 0))) && ((fI ((L.getD k []).getD 7 (dI 0)) == fI ((M.getD k []).getD 7 (dI 0))) && ((fI ((L.getD k []).getD 8 (dI 0)) == fI ((M.getD k []).getD 8 (dI 0))) && ((fI ((L.getD k []).getD 9 (dI 0)) == fI ((M.getD k []).getD 9 (dI 0))) && true))))))))))) r w' hL.1 hM.1 (hide (rd L a hL HA w' hk)) (hide (rd M b hM HB w' hk)) (hide fun k => rfl) (hide h1) (hide h2) (hide h3)⟩
  rw [h0, zss_map, zss_map, map_eq _ []]
  refine and_congr_right fun hnm => forall_congr' fun k => imp_congr_right fun hlt => ?_
  obtain ⟨x0, x1, x2, x3, x4, x5, x6, x7, x8, x9, x10, ex⟩ := hL.2 _ (getd_mem hlt)
  obtain ⟨y0, y1, y2, y3, y4, y5, y6, y7, y8, y9, y10, ey⟩ := hM.2 _ (getd_mem (show k < M.length by omega))
  simp only [ex, ey]
  simp [fS, fI, dS, dI, Zl, Z, sv_inj, sv_eq]
theorem peds_tree_false {w : World} {L M : List (List D)} {a b : Option Addr} {ca cb : Nat} (hL : L.length ≤ 100000 ∧ ∀ y ∈ L, PedSh y) (hM : M.length ≤ 100000 ∧ ∀ y ∈ M, PedSh y) (HA : Rvss w a 6 L 0) (HB : Rvss w b 6 M 0) :
    ∃ r : Bool, (r = true ↔ Zss true L = Zss true M) ∧ ∀ w', Keep w w' → Calls Tryz.prog 37 #[.slice a L.length ca, .slice b M.length cb, .bool false] w' fun e w'' => e = .returned (.bool r) ∧ Keep w' w'' := by
  obtain ⟨r, h0, h1, h2, h3⟩ := row_ans (n := L.length) (m := M.length) (E := (fun k => (((fS ((L.getD k []).getD 0 (dI 0))).toList == (fS ((M.getD k []).getD 0 (dI 0))).toList) && (((fS ((L.getD k []).getD 1 (dI 0))).toList == (fS ((M.getD k []).getD 1 (dI 0))).toList) && ((fI ((L.getD k []).getD 2 (dI 0)) == fI ((M.getD k []).getD 2 (dI 0))) && ((fI ((L.getD k []).getD 3 (dI 0)) == fI ((M.getD k []).getD 3 (dI 0))) && ((fI ((L.getD k []).getD 4 (dI 0)) == fI ((M.getD k []).getD 4 (dI 0))) && true)))))))
  have rd : ∀ (N : List (List D)) (c : Option Addr), (N.length ≤ 100000 ∧ ∀ y ∈ N, PedSh y) → Rvss w c 6 N 0 → ∀ w', Keep w w' → ∀ k, k < N.length → ∃ ad, c = some ad ∧ w'.cell? (ad.add (k * 6)) = some (.string (fS ((N.getD k []).getD 0 (dI 0)))) ∧ w'.cell? ⟨(ad.add (k * 6)).block, (ad.add (k * 6)).off + 1, none⟩ = some (.string (fS ((N.getD k []).getD 1 (dI 0)))) ∧ w'.cell? ⟨(ad.add (k * 6)).block, (ad.add (k * 6)).off + 2, none⟩ = some (.int .i64 (fI ((N.getD k []).getD 2 (dI 0)))) ∧ w'.cell? ⟨(ad.add (k * 6)).block, (ad.add (k * 6)).off + 3, none⟩ = some (.int .i64 (fI ((N.getD k []).getD 3 (dI 0)))) ∧ w'.cell? ⟨(ad.add (k * 6)).block, (ad.add (k * 6)).off + 4, none⟩ = some (.int .i64 (fI ((N.getD k []).getD 4 (dI 0)))) ∧ w'.cell? ⟨(ad.add (k * 6)).block, (ad.add (k * 6)).off + 5, none⟩ = some (.int .i64 (fI ((N.getD k []).getD 5 (dI 0)))) := by
    intro N c hN HN w' hk k hlt
    obtain ⟨ad, us, e0, hb, e2, e3, e4⟩ := rvss_at N 0 (Rvss.keep hk _ _ N 0 HN) k hlt
    obtain ⟨x0, x1, x2, x3, x4, x5, ex⟩ := hN.2 _ (getd_mem hlt)
    rw [ex] at e2
    simp only [Rvs, Rv, dS, dI] at e2
    obtain ⟨_, _, rfl, rfl, _, _, rfl, rfl, _, _, rfl, rfl, _, _, rfl, rfl, _, _, rfl, rfl, _, _, rfl, rfl, rfl⟩ := e2
    rw [Nat.zero_add] at e4
    simp only [ex]
    exact ⟨ad, e0, e4 0 _ rfl, e4 1 _ rfl, e4 2 _ rfl, e4 3 _ rfl, e4 4 _ rfl, e4 5 _ rfl⟩
  refine ⟨r, ?_, fun w' hk => peds_false a b L.length M.length ca cb (fun k => fS ((L.getD k []).getD 0 (dI 0))) (fun k => fS ((M.getD k []).getD 0 (dI 0))) (fun k => fS ((L.getD k []).getD 1 (dI 0))) (fun k => fS ((M.getD k []).getD 1 (dI 0))) (fun k => fI ((L.getD k []).getD 2 (dI 0))) (fun k => fI ((M.getD k []).getD 2 (dI 0))) (fun k => fI ((L.getD k []).getD 3 (dI 0))) (fun k => fI ((M.getD k []).getD 3 (dI 0))) (fun k => fI ((L.getD k []).getD 4 (dI 0))) (fun k => fI ((M.getD k []).getD 4 (dI 0))) (fun k => fI ((L.getD k []).getD 5 (dI 0))) (fun k => fI ((M.getD k []).getD 5 (dI 0))) (fun k => (((fS ((L.getD k []).getD 0 (dI 0))).toList == (fS ((M.getD k []).getD 0 (dI 0))).toList) && (((fS ((L.getD k []).getD 1 (dI 0))).toList == (fS ((M.getD k []).getD 1 (dI 0))).toList) && ((fI ((L.getD k []).getD 2 (dI 0)) == fI ((M.getD k []).getD 2 (dI 0))) && ((fI ((L.getD k []).getD 3 (dI 0)) == fI ((M.getD k []).getD 3 (dI 0))) && ((fI ((L.getD k []).getD 4 (dI 0)) == fI ((M.getD k []).getD 4 (dI 0))) && true)))))) r w' hL.1 hM.1 (hide (rd L a hL HA w' hk)) (hide (rd M b hM HB w' hk)) (hide fun k => rfl) (hide h1) (hide h2) (hide h3)⟩
  rw [h0, zss_map, zss_map, map_eq _ []]
  refine and_congr_right fun hnm => forall_congr' fun k => imp_congr_right fun hlt => ?_
  obtain ⟨x0, x1, x2, x3, x4, x5, ex⟩ := hL.2 _ (getd_mem hlt)
  obtain ⟨y0, y1, y2, y3, y4, y5, ey⟩ := hM.2 _ (getd_mem (show k < M.length by omega))
  simp only [ex, ey]
  simp [fS, fI, dS, dI, Zl, Z, sv_inj, sv_eq]
theorem foes_tree_false {w : World} {L M : List (List D)} {a b : Option Addr} {ca cb : Nat} (hL : L.length ≤ 100000 ∧ ∀ y ∈ L, FoeSh y) (hM : M.length ≤ 100000 ∧ ∀ y ∈ M, FoeSh y) (HA : Rvss w a 3 L 0) (HB : Rvss w b 3 M 0) :
    ∃ r : Bool, (r = true ↔ Zss true L = Zss true M) ∧ ∀ w', Keep w w' → Calls Tryz.prog 40 #[.slice a L.length ca, .slice b M.length cb, .bool false] w' fun e w'' => e = .returned (.bool r) ∧ Keep w' w'' := by
  obtain ⟨r, h0, h1, h2, h3⟩ := row_ans (n := L.length) (m := M.length) (E := (fun k => (((fS ((L.getD k []).getD 0 (dI 0))).toList == (fS ((M.getD k []).getD 0 (dI 0))).toList) && (((fS ((L.getD k []).getD 1 (dI 0))).toList == (fS ((M.getD k []).getD 1 (dI 0))).toList) && true))))
  have rd : ∀ (N : List (List D)) (c : Option Addr), (N.length ≤ 100000 ∧ ∀ y ∈ N, FoeSh y) → Rvss w c 3 N 0 → ∀ w', Keep w w' → ∀ k, k < N.length → ∃ ad, c = some ad ∧ w'.cell? (ad.add (k * 3)) = some (.string (fS ((N.getD k []).getD 0 (dI 0)))) ∧ w'.cell? ⟨(ad.add (k * 3)).block, (ad.add (k * 3)).off + 1, none⟩ = some (.string (fS ((N.getD k []).getD 1 (dI 0)))) ∧ w'.cell? ⟨(ad.add (k * 3)).block, (ad.add (k * 3)).off + 2, none⟩ = some (.int .i64 (fI ((N.getD k []).getD 2 (dI 0)))) := by
    intro N c hN HN w' hk k hlt
    obtain ⟨ad, us, e0, hb, e2, e3, e4⟩ := rvss_at N 0 (Rvss.keep hk _ _ N 0 HN) k hlt
    obtain ⟨x0, x1, x2, ex⟩ := hN.2 _ (getd_mem hlt)
    rw [ex] at e2
    simp only [Rvs, Rv, dS, dI] at e2
    obtain ⟨_, _, rfl, rfl, _, _, rfl, rfl, _, _, rfl, rfl, rfl⟩ := e2
    rw [Nat.zero_add] at e4
    simp only [ex]
    exact ⟨ad, e0, e4 0 _ rfl, e4 1 _ rfl, e4 2 _ rfl⟩
  refine ⟨r, ?_, fun w' hk => foes_false a b L.length M.length ca cb (fun k => fS ((L.getD k []).getD 0 (dI 0))) (fun k => fS ((M.getD k []).getD 0 (dI 0))) (fun k => fS ((L.getD k []).getD 1 (dI 0))) (fun k => fS ((M.getD k []).getD 1 (dI 0))) (fun k => fI ((L.getD k []).getD 2 (dI 0))) (fun k => fI ((M.getD k []).getD 2 (dI 0))) (fun k => (((fS ((L.getD k []).getD 0 (dI 0))).toList == (fS ((M.getD k []).getD 0 (dI 0))).toList) && (((fS ((L.getD k []).getD 1 (dI 0))).toList == (fS ((M.getD k []).getD 1 (dI 0))).toList) && true))) r w' hL.1 hM.1 (hide (rd L a hL HA w' hk)) (hide (rd M b hM HB w' hk)) (hide fun k => rfl) (hide h1) (hide h2) (hide h3)⟩
  rw [h0, zss_map, zss_map, map_eq _ []]
  refine and_congr_right fun hnm => forall_congr' fun k => imp_congr_right fun hlt => ?_
  obtain ⟨x0, x1, x2, ex⟩ := hL.2 _ (getd_mem hlt)
  obtain ⟨y0, y1, y2, ey⟩ := hM.2 _ (getd_mem (show k < M.length by omega))
  simp only [ex, ey]
  simp [fS, fI, dS, dI, Zl, Z, sv_inj, sv_eq]
theorem stops_tree_false {w : World} {L M : List (List D)} {a b : Option Addr} {ca cb : Nat} (hL : L.length ≤ 100000 ∧ ∀ y ∈ L, StopSh y) (hM : M.length ≤ 100000 ∧ ∀ y ∈ M, StopSh y) (HA : Rvss w a 6 L 0) (HB : Rvss w b 6 M 0) :
    ∃ r : Bool, (r = true ↔ Zss true L = Zss true M) ∧ ∀ w', Keep w w' → Calls Tryz.prog 35 #[.slice a L.length ca, .slice b M.length cb, .bool false] w' fun e w'' => e = .returned (.bool r) ∧ Keep w' w'' := by
  obtain ⟨r, h0, h1, h2, h3⟩ := row_ans (n := L.length) (m := M.length) (E := (fun k => (((fS ((L.getD k []).getD 0 (dI 0))).toList == (fS ((M.getD k []).getD 0 (dI 0))).toList) && (((fS ((L.getD k []).getD 1 (dI 0))).toList == (fS ((M.getD k []).getD 1 (dI 0))).toList) && (((fS ((L.getD k []).getD 2 (dI 0))).toList == (fS ((M.getD k []).getD 2 (dI 0))).toList) && ((fI ((L.getD k []).getD 3 (dI 0)) == fI ((M.getD k []).getD 3 (dI 0))) && ((fI ((L.getD k []).getD 4 (dI 0)) == fI ((M.getD k []).getD 4 (dI 0))) && true)))))))
  have rd : ∀ (N : List (List D)) (c : Option Addr), (N.length ≤ 100000 ∧ ∀ y ∈ N, StopSh y) → Rvss w c 6 N 0 → ∀ w', Keep w w' → ∀ k, k < N.length → ∃ ad, c = some ad ∧ w'.cell? (ad.add (k * 6)) = some (.string (fS ((N.getD k []).getD 0 (dI 0)))) ∧ w'.cell? ⟨(ad.add (k * 6)).block, (ad.add (k * 6)).off + 1, none⟩ = some (.string (fS ((N.getD k []).getD 1 (dI 0)))) ∧ w'.cell? ⟨(ad.add (k * 6)).block, (ad.add (k * 6)).off + 2, none⟩ = some (.string (fS ((N.getD k []).getD 2 (dI 0)))) ∧ w'.cell? ⟨(ad.add (k * 6)).block, (ad.add (k * 6)).off + 3, none⟩ = some (.int .i64 (fI ((N.getD k []).getD 3 (dI 0)))) ∧ w'.cell? ⟨(ad.add (k * 6)).block, (ad.add (k * 6)).off + 4, none⟩ = some (.int .i64 (fI ((N.getD k []).getD 4 (dI 0)))) ∧ w'.cell? ⟨(ad.add (k * 6)).block, (ad.add (k * 6)).off + 5, none⟩ = some (.int .i64 (fI ((N.getD k []).getD 5 (dI 0)))) := by
    intro N c hN HN w' hk k hlt
    obtain ⟨ad, us, e0, hb, e2, e3, e4⟩ := rvss_at N 0 (Rvss.keep hk _ _ N 0 HN) k hlt
    obtain ⟨x0, x1, x2, x3, x4, x5, ex⟩ := hN.2 _ (getd_mem hlt)
    rw [ex] at e2
    simp only [Rvs, Rv, dS, dI] at e2
    obtain ⟨_, _, rfl, rfl, _, _, rfl, rfl, _, _, rfl, rfl, _, _, rfl, rfl, _, _, rfl, rfl, _, _, rfl, rfl, rfl⟩ := e2
    rw [Nat.zero_add] at e4
    simp only [ex]
    exact ⟨ad, e0, e4 0 _ rfl, e4 1 _ rfl, e4 2 _ rfl, e4 3 _ rfl, e4 4 _ rfl, e4 5 _ rfl⟩
  refine ⟨r, ?_, fun w' hk => stops_false a b L.length M.length ca cb (fun k => fS ((L.getD k []).getD 0 (dI 0))) (fun k => fS ((M.getD k []).getD 0 (dI 0))) (fun k => fS ((L.getD k []).getD 1 (dI 0))) (fun k => fS ((M.getD k []).getD 1 (dI 0))) (fun k => fS ((L.getD k []).getD 2 (dI 0))) (fun k => fS ((M.getD k []).getD 2 (dI 0))) (fun k => fI ((L.getD k []).getD 3 (dI 0))) (fun k => fI ((M.getD k []).getD 3 (dI 0))) (fun k => fI ((L.getD k []).getD 4 (dI 0))) (fun k => fI ((M.getD k []).getD 4 (dI 0))) (fun k => fI ((L.getD k []).getD 5 (dI 0))) (fun k => fI ((M.getD k []).getD 5 (dI 0))) (fun k => (((fS ((L.getD k []).getD 0 (dI 0))).toList == (fS ((M.getD k []).getD 0 (dI 0))).toList) && (((fS ((L.getD k []).getD 1 (dI 0))).toList == (fS ((M.getD k []).getD 1 (dI 0))).toList) && (((fS ((L.getD k []).getD 2 (dI 0))).toList == (fS ((M.getD k []).getD 2 (dI 0))).toList) && ((fI ((L.getD k []).getD 3 (dI 0)) == fI ((M.getD k []).getD 3 (dI 0))) && ((fI ((L.getD k []).getD 4 (dI 0)) == fI ((M.getD k []).getD 4 (dI 0))) && true)))))) r w' hL.1 hM.1 (hide (rd L a hL HA w' hk)) (hide (rd M b hM HB w' hk)) (hide fun k => rfl) (hide h1) (hide h2) (hide h3)⟩
  rw [h0, zss_map, zss_map, map_eq _ []]
  refine and_congr_right fun hnm => forall_congr' fun k => imp_congr_right fun hlt => ?_
  obtain ⟨x0, x1, x2, x3, x4, x5, ex⟩ := hL.2 _ (getd_mem hlt)
  obtain ⟨y0, y1, y2, y3, y4, y5, ey⟩ := hM.2 _ (getd_mem (show k < M.length by omega))
  simp only [ex, ey]
  simp [fS, fI, dS, dI, Zl, Z, sv_inj, sv_eq]
theorem phases_tree_false {w : World} {L M : List (List D)} {a b : Option Addr} {ca cb : Nat} (hL : L.length ≤ 100000 ∧ ∀ y ∈ L, PhaseSh y) (hM : M.length ≤ 100000 ∧ ∀ y ∈ M, PhaseSh y) (HA : Rvss w a 3 L 0) (HB : Rvss w b 3 M 0) :
    ∃ r : Bool, (r = true ↔ Zss true L = Zss true M) ∧ ∀ w', Keep w w' → Calls Tryz.prog 38 #[.slice a L.length ca, .slice b M.length cb, .bool false] w' fun e w'' => e = .returned (.bool r) ∧ Keep w' w'' := by
  classical
  have rd : ∀ (N : List (List D)) (c : Option Addr), (N.length ≤ 100000 ∧ ∀ y ∈ N, PhaseSh y) → Rvss w c 3 N 0 → ∀ k, k < N.length → ∃ ad, c = some ad ∧ w.cell? (ad.add (k * 3)) = some (.string (fS ((N.getD k []).getD 0 (dI 0)))) ∧ w.cell? ⟨(ad.add (k * 3)).block, (ad.add (k * 3)).off + 1, none⟩ = some (.slice (slA w (ati ((c.getD d0).add (k * 3)) 1)) (slN w (ati ((c.getD d0).add (k * 3)) 1)) (slC w (ati ((c.getD d0).add (k * 3)) 1))) ∧ w.cell? ⟨(ad.add (k * 3)).block, (ad.add (k * 3)).off + 2, none⟩ = some (.int .i64 (fI ((N.getD k []).getD 2 (dI 0)))) ∧ NamesSh (fL ((N.getD k []).getD 1 (dI 0))) ∧ slN w (ati ((c.getD d0).add (k * 3)) 1) = (fL ((N.getD k []).getD 1 (dI 0))).length ∧ Rvss w (slA w (ati ((c.getD d0).add (k * 3)) 1)) 1 (fL ((N.getD k []).getD 1 (dI 0))) 0 := by
    intro N c hN HN k hlt
    obtain ⟨ad, us, rfl, hb, e2, e3, e4⟩ := rvss_at N 0 HN k hlt
    obtain ⟨s, Q, p, ex, hQ⟩ := hN.2 _ (getd_mem hlt)
    rw [ex] at e2
    simp only [Rvs, Rv, dS, dI] at e2
    obtain ⟨_, _, rfl, rfl, _, _, rfl, ⟨a1, c1, rfl, _, h1⟩, _, _, rfl, rfl, rfl⟩ := e2
    rw [Nat.zero_add] at e4
    have hc : w.cell? (ati (ad.add (k * 3)) 1) = some (.slice a1 Q.length c1) := e4 1 _ rfl
    simp only [ex, Option.getD_some, slA, slN, slC, hc]
    exact ⟨ad, rfl, e4 0 _ rfl, hc, e4 2 _ rfl, hQ, rfl, h1⟩
  obtain ⟨r, h0, h1, h2, h3⟩ := row_ans (n := L.length) (m := M.length) (E := fun k => ((fS ((L.getD k []).getD 0 (dI 0))).toList == (fS ((M.getD k []).getD 0 (dI 0))).toList && (decide (fL ((L.getD k []).getD 1 (dI 0)) = fL ((M.getD k []).getD 1 (dI 0))) && true)))
  refine ⟨r, ?_, fun w' hk => phases_false a b L.length M.length ca cb (fun k => fS ((L.getD k []).getD 0 (dI 0))) (fun k => fS ((M.getD k []).getD 0 (dI 0))) (fun k => slA w (ati ((a.getD d0).add (k * 3)) 1)) (fun k => slA w (ati ((b.getD d0).add (k * 3)) 1)) (fun k => slN w (ati ((a.getD d0).add (k * 3)) 1)) (fun k => slC w (ati ((a.getD d0).add (k * 3)) 1)) (fun k => slN w (ati ((b.getD d0).add (k * 3)) 1)) (fun k => slC w (ati ((b.getD d0).add (k * 3)) 1)) (fun k => fI ((L.getD k []).getD 2 (dI 0))) (fun k => fI ((M.getD k []).getD 2 (dI 0))) (fun k => decide (fL ((L.getD k []).getD 1 (dI 0)) = fL ((M.getD k []).getD 1 (dI 0)))) _ r w' hL.1 hM.1 (hide fun k hlt => ?_) (hide fun k hlt => ?_) (hide fun k hlt hlm w2 hk2 => ?_) (hide fun k => rfl) (hide h1) (hide h2) (hide h3)⟩
  · rw [h0, zss_map, zss_map, map_eq _ []]
    refine and_congr_right fun hnm => forall_congr' fun k => imp_congr_right fun hlt => ?_
    obtain ⟨s, Q, p, ex, hQ⟩ := hL.2 _ (getd_mem hlt)
    obtain ⟨t, S, q, ey, hS⟩ := hM.2 _ (getd_mem (show k < M.length by omega))
    simp only [ex, ey]
    have zQ := names_z hQ
    have zS := names_z hS
    simp [fS, fI, fL, dS, dI, Zl, Z, sv_inj, sv_eq, plc, zQ, zS]
  · obtain ⟨ad, e0, e1, e2, e3, _⟩ := rd L a hL HA k hlt
    exact ⟨ad, e0, Q.kcell hk e1, Q.kcell hk e2, Q.kcell hk e3⟩
  · obtain ⟨ad, e0, e1, e2, e3, _⟩ := rd M b hM HB k hlt
    exact ⟨ad, e0, Q.kcell hk e1, Q.kcell hk e2, Q.kcell hk e3⟩
  · obtain ⟨_, _, _, _, _, s1, l1, v1⟩ := rd L a hL HA k hlt
    obtain ⟨_, _, _, _, _, s2, l2, v2⟩ := rd M b hM HB k hlm
    obtain ⟨rk, hrk, hcall⟩ := names_tree (ca := slC w (ati ((a.getD d0).add (k * 3)) 1)) (cb := slC w (ati ((b.getD d0).add (k * 3)) 1)) s1 s2 v1 v2
    have hc := hcall w2 (hk.trans hk2)
    rw [← l1, ← l2] at hc
    have e : rk = decide (fL ((L.getD k []).getD 1 (dI 0)) = fL ((M.getD k []).getD 1 (dI 0))) := by
      cases rk with
      | true => rw [decide_eq_true (hrk.1 rfl)]
      | false => rw [decide_eq_false (fun h => by have := hrk.2 h; cases this)]
    rw [e] at hc
    exact hc
theorem same_tree_false {w : World} {cs ds : List D} {us vs : List Value} (hc : NetSh cs) (hd : NetSh ds) (HC : Rvs w cs us) (HD : Rvs w ds vs) :
    ∃ r : Bool, (r = true ↔ cs.map Z = ds.map Z) ∧ ∀ w', Keep w w' → Calls Tryz.prog 14 #[.agg us.toArray, .agg vs.toArray, .bool false] w' fun e w'' => e = .returned (.bool r) ∧ Keep w' w'' := by
  classical
  obtain ⟨a0, a1, a2, a3, a4, L, Sa, a5, a6, rfl, hL, hSa⟩ := hc
  obtain ⟨b0, b1, b2, b3, b4, M, Sb, b5, b6, rfl, hM, hSb⟩ := hd
  simp only [Rvs, Rv, dI] at HC HD
  obtain ⟨_, _, rfl, rfl, _, _, rfl, rfl, _, _, rfl, rfl, _, _, rfl, rfl, _, _, rfl, rfl, _, _, rfl, ⟨a, ca, rfl, _, HA⟩, _, _, rfl, ⟨aS, da, rfl, _, HSa⟩, _, _, rfl, rfl, _, _, rfl, rfl, rfl⟩ := HC
  obtain ⟨_, _, rfl, rfl, _, _, rfl, rfl, _, _, rfl, rfl, _, _, rfl, rfl, _, _, rfl, rfl, _, _, rfl, ⟨b, cb, rfl, _, HB⟩, _, _, rfl, ⟨bS, db, rfl, _, HSb⟩, _, _, rfl, rfl, _, _, rfl, rfl, rfl⟩ := HD
  obtain ⟨rs, hrs, hstops⟩ := stops_tree_false (ca := da) (cb := db) hSa hSb HSa HSb
  have rd : ∀ (N : List (List D)) (c : Option Addr), (N.length ≤ 100000 ∧ ∀ y ∈ N, NodeSh y) → Rvss w c 7 N 0 → ∀ k, k < N.length → ∃ ad, c = some ad ∧ (w.cell? (ad.add (k * 7)) = some (.string (fS ((N.getD k []).getD 0 (dI 0)))) ∧ w.cell? ⟨(ad.add (k * 7)).block, (ad.add (k * 7)).off + 1, none⟩ = some (.slice (slA w (ati ((c.getD d0).add (k * 7)) 1)) (slN w (ati ((c.getD d0).add (k * 7)) 1)) (slC w (ati ((c.getD d0).add (k * 7)) 1))) ∧ w.cell? ⟨(ad.add (k * 7)).block, (ad.add (k * 7)).off + 2, none⟩ = some (.slice (slA w (ati ((c.getD d0).add (k * 7)) 2)) (slN w (ati ((c.getD d0).add (k * 7)) 2)) (slC w (ati ((c.getD d0).add (k * 7)) 2))) ∧ w.cell? ⟨(ad.add (k * 7)).block, (ad.add (k * 7)).off + 3, none⟩ = some (.slice (slA w (ati ((c.getD d0).add (k * 7)) 3)) (slN w (ati ((c.getD d0).add (k * 7)) 3)) (slC w (ati ((c.getD d0).add (k * 7)) 3))) ∧ w.cell? ⟨(ad.add (k * 7)).block, (ad.add (k * 7)).off + 4, none⟩ = some (.slice (slA w (ati ((c.getD d0).add (k * 7)) 4)) (slN w (ati ((c.getD d0).add (k * 7)) 4)) (slC w (ati ((c.getD d0).add (k * 7)) 4))) ∧ w.cell? ⟨(ad.add (k * 7)).block, (ad.add (k * 7)).off + 5, none⟩ = some (.slice (slA w (ati ((c.getD d0).add (k * 7)) 5)) (slN w (ati ((c.getD d0).add (k * 7)) 5)) (slC w (ati ((c.getD d0).add (k * 7)) 5))) ∧ w.cell? ⟨(ad.add (k * 7)).block, (ad.add (k * 7)).off + 6, none⟩ = some (.int .i64 (fI ((N.getD k []).getD 6 (dI 0))))) ∧ slN w (ati ((c.getD d0).add (k * 7)) 1) = (fL ((N.getD k []).getD 1 (dI 0))).length ∧ ((fL ((N.getD k []).getD 1 (dI 0))).length ≤ 100000 ∧ ∀ y ∈ (fL ((N.getD k []).getD 1 (dI 0))), HeadSh y) ∧ Rvss w (slA w (ati ((c.getD d0).add (k * 7)) 1)) 11 (fL ((N.getD k []).getD 1 (dI 0))) 0 ∧ slN w (ati ((c.getD d0).add (k * 7)) 2) = (fL ((N.getD k []).getD 2 (dI 0))).length ∧ ((fL ((N.getD k []).getD 2 (dI 0))).length ≤ 100000 ∧ ∀ y ∈ (fL ((N.getD k []).getD 2 (dI 0))), PedSh y) ∧ Rvss w (slA w (ati ((c.getD d0).add (k * 7)) 2)) 6 (fL ((N.getD k []).getD 2 (dI 0))) 0 ∧ slN w (ati ((c.getD d0).add (k * 7)) 3) = (fL ((N.getD k []).getD 3 (dI 0))).length ∧ ((fL ((N.getD k []).getD 3 (dI 0))).length ≤ 100000 ∧ ∀ y ∈ (fL ((N.getD k []).getD 3 (dI 0))), PhaseSh y) ∧ Rvss w (slA w (ati ((c.getD d0).add (k * 7)) 3)) 3 (fL ((N.getD k []).getD 3 (dI 0))) 0 ∧ slN w (ati ((c.getD d0).add (k * 7)) 4) = (fL ((N.getD k []).getD 4 (dI 0))).length ∧ ((fL ((N.getD k []).getD 4 (dI 0))).length ≤ 100000 ∧ ∀ y ∈ (fL ((N.getD k []).getD 4 (dI 0))), GroupSh y) ∧ Rvss w (slA w (ati ((c.getD d0).add (k * 7)) 4)) 1 (fL ((N.getD k []).getD 4 (dI 0))) 0 ∧ slN w (ati ((c.getD d0).add (k * 7)) 5) = (fL ((N.getD k []).getD 5 (dI 0))).length ∧ ((fL ((N.getD k []).getD 5 (dI 0))).length ≤ 100000 ∧ ∀ y ∈ (fL ((N.getD k []).getD 5 (dI 0))), FoeSh y) ∧ Rvss w (slA w (ati ((c.getD d0).add (k * 7)) 5)) 3 (fL ((N.getD k []).getD 5 (dI 0))) 0 := by
    intro N c hN HN k hlt
    obtain ⟨ad, us, rfl, hb, e2, e3, e4⟩ := rvss_at N 0 HN k hlt
    obtain ⟨s, H, P, Q, G, F, p, ex, hH, hP, hQ, hG, hF⟩ := hN.2 _ (getd_mem hlt)
    rw [ex] at e2
    simp only [Rvs, Rv, dS, dI] at e2
    obtain ⟨_, _, rfl, rfl, _, _, rfl, ⟨x1, c1, rfl, _, h1⟩, _, _, rfl, ⟨x2, c2, rfl, _, h2⟩, _, _, rfl, ⟨x3, c3, rfl, _, h3⟩, _, _, rfl, ⟨x4, c4, rfl, _, h4⟩, _, _, rfl, ⟨x5, c5, rfl, _, h5⟩, _, _, rfl, rfl, rfl⟩ := e2
    rw [Nat.zero_add] at e4
    have k1 : w.cell? (ati (ad.add (k * 7)) 1) = some (.slice x1 H.length c1) := e4 1 _ rfl
    have k2 : w.cell? (ati (ad.add (k * 7)) 2) = some (.slice x2 P.length c2) := e4 2 _ rfl
    have k3 : w.cell? (ati (ad.add (k * 7)) 3) = some (.slice x3 Q.length c3) := e4 3 _ rfl
    have k4 : w.cell? (ati (ad.add (k * 7)) 4) = some (.slice x4 G.length c4) := e4 4 _ rfl
    have k5 : w.cell? (ati (ad.add (k * 7)) 5) = some (.slice x5 F.length c5) := e4 5 _ rfl
    simp only [ex, Option.getD_some, slA, slN, slC, k1, k2, k3, k4, k5]
    exact ⟨ad, rfl, ⟨e4 0 _ rfl, k1, k2, k3, k4, k5, e4 6 _ rfl⟩, rfl, hH, h1, rfl, hP, h2, rfl, hQ, h3, rfl, hG, h4, rfl, hF, h5⟩
  let R : Nat → Nat → Bool := fun j k => match j with | 1 => decide (Zss true (fL ((L.getD k []).getD 1 (dI 0))) = Zss true (fL ((M.getD k []).getD 1 (dI 0)))) | 2 => decide (Zss true (fL ((L.getD k []).getD 2 (dI 0))) = Zss true (fL ((M.getD k []).getD 2 (dI 0)))) | 3 => decide (Zss true (fL ((L.getD k []).getD 3 (dI 0))) = Zss true (fL ((M.getD k []).getD 3 (dI 0)))) | 4 => decide ((fL ((L.getD k []).getD 4 (dI 0))) = (fL ((M.getD k []).getD 4 (dI 0)))) | _ => decide (Zss true (fL ((L.getD k []).getD 5 (dI 0))) = Zss true (fL ((M.getD k []).getD 5 (dI 0))))
  let E : Nat → Bool := fun k => ((fS ((L.getD k []).getD 0 (dI 0))).toList == (fS ((M.getD k []).getD 0 (dI 0))).toList && (true && (R 1 k && (R 2 k && (R 3 k && (R 4 k && R 5 k))))))
  have key : ∀ k, k < L.length → k < M.length → (E k = true ↔ Zl true (L.getD k []) = Zl true (M.getD k [])) := by
    intro k h1 h2
    obtain ⟨s, H, P, Q, G, F, p, ex, hH, hP, hQ, hG, hF⟩ := hL.2 _ (getd_mem h1)
    obtain ⟨s', H', P', Q', G', F', p', ey, hH', hP', hQ', hG', hF'⟩ := hM.2 _ (getd_mem h2)
    simp only [E, R, ex, ey]
    have zG := groups_z hG.2
    have zG2 := groups_z hG'.2
    simp [fS, fI, fL, dS, dI, Zl, Z, sv_inj, sv_eq, plc, zG, zG2]
    
  let C : Bool := (a0 == b0 && (a1 == b1 && (a2 == b2 && (a3 == b3 && (a4 == b4 && (a5 == b5 && (a6 == b6 && (L.length == M.length && rs))))))))
  have hC : C = true ↔ (a0 = b0 ∧ a1 = b1 ∧ a2 = b2 ∧ a3 = b3 ∧ a4 = b4 ∧ a5 = b5 ∧ a6 = b6 ∧ L.length = M.length ∧ Zss true Sa = Zss true Sb) := by
    simp [C, hrs]
  let r : Bool := decide (C = true ∧ ∀ k, k < L.length → E k = true)
  refine ⟨r, ?_, fun w' hk => same_false a0 a1 a2 a3 a4 a5 a6 b0 b1 b2 b3 b4 b5 b6 a aS b bS L.length Sa.length M.length Sb.length ca da cb db (fun k => fS ((L.getD k []).getD 0 (dI 0))) (fun k => fS ((M.getD k []).getD 0 (dI 0))) (fun k => fI ((L.getD k []).getD 6 (dI 0))) (fun k => fI ((M.getD k []).getD 6 (dI 0))) (fun j k => slA w (ati ((a.getD d0).add (k * 7)) j)) (fun j k => slA w (ati ((b.getD d0).add (k * 7)) j)) (fun j k => slN w (ati ((a.getD d0).add (k * 7)) j)) (fun j k => slC w (ati ((a.getD d0).add (k * 7)) j)) (fun j k => slN w (ati ((b.getD d0).add (k * 7)) j)) (fun j k => slC w (ati ((b.getD d0).add (k * 7)) j)) rs R E C r w' hL.1 hM.1 (hide fun w2 hk2 => hstops w2 (hk.trans hk2)) (hide fun k hlt => ?_) (hide fun k hlt => ?_) (hide fun k h1 h2 w2 hk2 => ?_) (hide fun k h1 h2 w2 hk2 => ?_) (hide fun k h1 h2 w2 hk2 => ?_) (hide fun k h1 h2 w2 hk2 => ?_) (hide fun k h1 h2 w2 hk2 => ?_) (hide fun k => rfl) (hide rfl) (hide fun h => ?_) (hide fun h k hlt he => ?_) (hide fun h hall => ?_)⟩
  · simp only [r, decide_eq_true_eq]
    rw [hC]
    constructor
    · rintro ⟨⟨rfl, rfl, rfl, rfl, rfl, rfl, rfl, hlen, hS⟩, hE⟩
      have hLM : Zss true L = Zss true M := by
        rw [zss_map, zss_map, map_eq _ []]
        exact ⟨hlen, fun k hk => (key k hk (by omega)).1 (hE k hk)⟩
      simp [Z, dI, plc, hLM, hS]
    · intro h
      simp only [List.map_cons, List.map_nil, Z, List.cons.injEq, D.row.injEq, dI, D.val.injEq, Value.int.injEq, true_and, and_true, plc] at h
      obtain ⟨e0, e1, e2, e3, e4, hLM, hS, e5, e6⟩ := h
      have hlm : L.length = M.length ∧ ∀ k, k < L.length → Zl true (L.getD k []) = Zl true (M.getD k []) := by
        have hLM2 : Zss true L = Zss true M := hLM
        rw [zss_map, zss_map, map_eq _ []] at hLM2
        exact hLM2
      exact ⟨⟨e0, e1, e2, e3, e4, e5, e6, hlm.1, hS⟩, fun k hk => (key k hk (by omega)).2 (hlm.2 k hk)⟩
  · obtain ⟨ad, e0, ⟨q0, q1, q2, q3, q4, q5, q6⟩, _⟩ := rd L a hL HA k hlt
    exact ⟨ad, e0, Q.kcell hk q0, Q.kcell hk q1, Q.kcell hk q2, Q.kcell hk q3, Q.kcell hk q4, Q.kcell hk q5, Q.kcell hk q6⟩
  · obtain ⟨ad, e0, ⟨q0, q1, q2, q3, q4, q5, q6⟩, _⟩ := rd M b hM HB k hlt
    exact ⟨ad, e0, Q.kcell hk q0, Q.kcell hk q1, Q.kcell hk q2, Q.kcell hk q3, Q.kcell hk q4, Q.kcell hk q5, Q.kcell hk q6⟩
  · obtain ⟨_, _, _, xl1, xs1, xv1, xl2, xs2, xv2, xl3, xs3, xv3, xl4, xs4, xv4, xl5, xs5, xv5⟩ := rd L a hL HA k h1
    obtain ⟨_, _, _, yl1, ys1, yv1, yl2, ys2, yv2, yl3, ys3, yv3, yl4, ys4, yv4, yl5, ys5, yv5⟩ := rd M b hM HB k h2
    obtain ⟨rk, hrk, hcall⟩ := heads_tree_false (ca := slC w (ati ((a.getD d0).add (k * 7)) 1)) (cb := slC w (ati ((b.getD d0).add (k * 7)) 1)) xs1 ys1 xv1 yv1
    have hcl := hcall w2 (hk.trans hk2)
    rw [← xl1, ← yl1] at hcl
    have e : rk = decide (Zss true (fL ((L.getD k []).getD 1 (dI 0))) = Zss true (fL ((M.getD k []).getD 1 (dI 0)))) := by
      cases rk with
      | true => rw [decide_eq_true (hrk.1 rfl)]
      | false => rw [decide_eq_false (fun h => by have := hrk.2 h; cases this)]
    rw [e] at hcl
    exact hcl
  · obtain ⟨_, _, _, xl1, xs1, xv1, xl2, xs2, xv2, xl3, xs3, xv3, xl4, xs4, xv4, xl5, xs5, xv5⟩ := rd L a hL HA k h1
    obtain ⟨_, _, _, yl1, ys1, yv1, yl2, ys2, yv2, yl3, ys3, yv3, yl4, ys4, yv4, yl5, ys5, yv5⟩ := rd M b hM HB k h2
    obtain ⟨rk, hrk, hcall⟩ := peds_tree_false (ca := slC w (ati ((a.getD d0).add (k * 7)) 2)) (cb := slC w (ati ((b.getD d0).add (k * 7)) 2)) xs2 ys2 xv2 yv2
    have hcl := hcall w2 (hk.trans hk2)
    rw [← xl2, ← yl2] at hcl
    have e : rk = decide (Zss true (fL ((L.getD k []).getD 2 (dI 0))) = Zss true (fL ((M.getD k []).getD 2 (dI 0)))) := by
      cases rk with
      | true => rw [decide_eq_true (hrk.1 rfl)]
      | false => rw [decide_eq_false (fun h => by have := hrk.2 h; cases this)]
    rw [e] at hcl
    exact hcl
  · obtain ⟨_, _, _, xl1, xs1, xv1, xl2, xs2, xv2, xl3, xs3, xv3, xl4, xs4, xv4, xl5, xs5, xv5⟩ := rd L a hL HA k h1
    obtain ⟨_, _, _, yl1, ys1, yv1, yl2, ys2, yv2, yl3, ys3, yv3, yl4, ys4, yv4, yl5, ys5, yv5⟩ := rd M b hM HB k h2
    obtain ⟨rk, hrk, hcall⟩ := phases_tree_false (ca := slC w (ati ((a.getD d0).add (k * 7)) 3)) (cb := slC w (ati ((b.getD d0).add (k * 7)) 3)) xs3 ys3 xv3 yv3
    have hcl := hcall w2 (hk.trans hk2)
    rw [← xl3, ← yl3] at hcl
    have e : rk = decide (Zss true (fL ((L.getD k []).getD 3 (dI 0))) = Zss true (fL ((M.getD k []).getD 3 (dI 0)))) := by
      cases rk with
      | true => rw [decide_eq_true (hrk.1 rfl)]
      | false => rw [decide_eq_false (fun h => by have := hrk.2 h; cases this)]
    rw [e] at hcl
    exact hcl
  · obtain ⟨_, _, _, xl1, xs1, xv1, xl2, xs2, xv2, xl3, xs3, xv3, xl4, xs4, xv4, xl5, xs5, xv5⟩ := rd L a hL HA k h1
    obtain ⟨_, _, _, yl1, ys1, yv1, yl2, ys2, yv2, yl3, ys3, yv3, yl4, ys4, yv4, yl5, ys5, yv5⟩ := rd M b hM HB k h2
    obtain ⟨rk, hrk, hcall⟩ := groups_tree (ca := slC w (ati ((a.getD d0).add (k * 7)) 4)) (cb := slC w (ati ((b.getD d0).add (k * 7)) 4)) xs4 ys4 xv4 yv4
    have hcl := hcall w2 (hk.trans hk2)
    rw [← xl4, ← yl4] at hcl
    have e : rk = decide ((fL ((L.getD k []).getD 4 (dI 0))) = (fL ((M.getD k []).getD 4 (dI 0)))) := by
      cases rk with
      | true => rw [decide_eq_true (hrk.1 rfl)]
      | false => rw [decide_eq_false (fun h => by have := hrk.2 h; cases this)]
    rw [e] at hcl
    exact hcl
  · obtain ⟨_, _, _, xl1, xs1, xv1, xl2, xs2, xv2, xl3, xs3, xv3, xl4, xs4, xv4, xl5, xs5, xv5⟩ := rd L a hL HA k h1
    obtain ⟨_, _, _, yl1, ys1, yv1, yl2, ys2, yv2, yl3, ys3, yv3, yl4, ys4, yv4, yl5, ys5, yv5⟩ := rd M b hM HB k h2
    obtain ⟨rk, hrk, hcall⟩ := foes_tree_false (ca := slC w (ati ((a.getD d0).add (k * 7)) 5)) (cb := slC w (ati ((b.getD d0).add (k * 7)) 5)) xs5 ys5 xv5 yv5
    have hcl := hcall w2 (hk.trans hk2)
    rw [← xl5, ← yl5] at hcl
    have e : rk = decide (Zss true (fL ((L.getD k []).getD 5 (dI 0))) = Zss true (fL ((M.getD k []).getD 5 (dI 0)))) := by
      cases rk with
      | true => rw [decide_eq_true (hrk.1 rfl)]
      | false => rw [decide_eq_false (fun h => by have := hrk.2 h; cases this)]
    rw [e] at hcl
    exact hcl
  · exact decide_eq_false (fun e => by rw [e.1] at h; cases h)
  · exact decide_eq_false (fun e => by rw [e.2 k hlt] at he; cases he)
  · exact decide_eq_true ⟨h, hall⟩
end Go.Proofs.YtcdnbdajnagfiaaGreatDoor
