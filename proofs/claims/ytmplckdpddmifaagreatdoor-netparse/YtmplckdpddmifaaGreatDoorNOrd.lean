/- Package net: steps in order. -/
import Derived.Test.YtmplckdpddmifaaGreatDoorNSt
namespace Go.Proofs.YtmplckdpddmifaaGreatDoor
open Go.RowKit
attribute [local go_sem ↓] Go.wp_at_zero Go.wp_at_succ
set_option linter.unusedVariables false
set_option linter.unusedSimpArgs false
set_option maxRecDepth 10000
set_option maxHeartbeats 2000000 in
theorem order_core (g n : Nat) (V : Nat → Value) (I : Nat → World → Prop) (Q : Value → World → Prop) (w : World) (hn : n ≤ 1000)
    (HV : Hid (∀ i w', i < n → I i w' → w'.cell? ⟨g, i, none⟩ = some (V i)))
    (T : Hid (∀ i w', i < n → I i w' → ∃ fn xs ys, V i = .func (.func fn) xs ys ∧ Ent fn ∧ Calls Tryz.prog fn (xs ++ ys) w' fun e w'' => (e = .returned .nilIface ∧ I (i + 1) w'') ∨ ∃ x, e = .returned (.iface 44 x) ∧ Q x w''))
    (H0 : Hid (I 0 w)) : Calls Tryz.prog 47 #[.slice (some ⟨g, 0, none⟩) n n] w fun e w' => (e = .returned .nilIface ∧ I n w') ∨ ∃ x, e = .returned (.iface 44 x) ∧ Q x w' := by
  go_enter Tryz.func47, Tryz.ntmps47
  go_wp2_with fail
  go_loopw [8] (fun vi wr => ∃ i : Nat, i ≤ n ∧ vi = .int .i64 (i : Int) ∧ Hid (I i wr)) (fun vi _ => n - (intOf vi).toNat)
  case atStart => exact ⟨0, Nat.zero_le _, rfl, H0⟩
  case round =>
    obtain ⟨i, hi, rfl, HI⟩ := hrel
    by_cases hlt : i < n
    · have li : (i : Int) < (n : Int) := by omega
      have ci := (uq HV) i _ hlt (uq HI)
      obtain ⟨fn, xs, ys, hv, hent, hc⟩ := (uq T) i _ hlt (uq HI)
      rw [hv] at ci
      have HC := hide hc
      clear hc hv
      unfold Ent at hent
      go_wp2_with fail
      refine (uq HC).mono ?_
      rintro e w2 (⟨rfl, hI⟩ | ⟨x, rfl, hQ⟩)
      · have HI2 := hide hI
        clear hI
        go_wp2_with fail
        go_roundw
        case rel => exact ⟨i + 1, hlt, by go_num, HI2⟩
        case measure => simp [intOf]; omega
      · have HQ := hide hQ
        clear hQ
        go_wp2_with fail
        go_ret
        exact .inr ⟨x, rfl, uq HQ⟩
    · have : i = n := by omega
      subst this
      go_wp2_with fail
      go_ret
      exact .inl ⟨rfl, uq HI⟩
/-- steps that stand one behind the other -/
def Chain (E : Env) (w0 : World) : Nat → List (Value × List D × Sp) → Prop
  | _, [] => True
  | m, s :: ss => Does E w0 s.1 m s.2.1 s.2.2 ∧ Chain E w0 (m + s.2.1.length) ss
def zer : List (Value × List D × Sp) → List D
  | [] => []
  | s :: ss => s.2.1 ++ zer ss
theorem drop_ss {ss : List (Value × List D × Sp)} {i : Nat} (h : i < ss.length) : ∃ s, ss[i]? = some s ∧ ss.drop i = s :: ss.drop (i + 1) := ⟨ss[i], by simp [h], List.drop_eq_getElem_cons h⟩
theorem order_any {E : Env} {w : World} {g m : Nat} {ss : List (Value × List D × Sp)} {c rest : List D} {r : List Tok} (hn : ss.length ≤ 1000) (hch : Chain E w m ss) (hv : ∀ i s, ss[i]? = some s → w.cell? ⟨g, i, none⟩ = some s.1) (hg : ¬ E.S g)
    (hc : c.length = m) (hr : Rdr E w r) (hl : Cel E w (c ++ zer ss ++ rest)) :
    Calls Tryz.prog 47 #[.slice (some ⟨g, 0, none⟩) ss.length ss.length] w (Post E w rest (m + (zer ss).length) (sq (ss.map fun s => s.2.2) c r)) := by
  refine (order_core g ss.length (fun i => (ss.getD i (.nilIface, [], pPos)).1)
    (fun i w' => Fr E.S w w' ∧ ∃ c' r' m', sq (ss.map fun s => s.2.2) c r = sq ((ss.drop i).map fun s => s.2.2) c' r' ∧ c'.length = m' ∧ m' + (zer (ss.drop i)).length = m + (zer ss).length ∧ Chain E w m' (ss.drop i) ∧ Rdr E w' r' ∧ Cel E w' (c' ++ zer (ss.drop i) ++ rest))
    (fun x w' => Fr E.S w w' ∧ ∃ y : Er, x = .agg #[.int .i64 y.1, .int .i64 y.2] ∧ sq (ss.map fun s => s.2.2) c r = .error y) w hn (hide fun i w' hi h => ?_) (hide fun i w' hi h => ?_) (hide ⟨.refl _ _, c, r, m, by simp, hc, by simp, by simpa using hch, hr, by simpa using hl⟩)).mono ?_
  · obtain ⟨s, hs, _⟩ := drop_ss hi
    have e : (ss.getD i (.nilIface, [], pPos)).1 = s.1 := by rw [List.getD_eq_getElem?_getD, hs]; rfl
    rw [e]
    exact h.1.cell (hv i s hs) hg
  · obtain ⟨s, hs, hd⟩ := drop_ss hi
    have e : (ss.getD i (.nilIface, [], pPos)).1 = s.1 := by rw [List.getD_eq_getElem?_getD, hs]; rfl
    obtain ⟨hf, c', r', m', h1, h2, h3, h4, h5, h6⟩ := h
    rw [hd] at h1 h3 h4 h6
    obtain ⟨⟨fn, xs, ys, k1, k2, k3⟩, h4⟩ := h4
    refine ⟨fn, xs, ys, e.trans k1, k2, (k3 w' c' (zer (ss.drop (i + 1)) ++ rest) r' hf h2 h5 (by simpa [zer, List.append_assoc] using h6)).mono ?_⟩
    rintro e w'' ⟨f2, hp⟩
    simp only [List.map_cons, sq] at h1
    cases hx : s.2.2 c' r' with
    | error y =>
      rw [hx] at hp h1
      exact .inr ⟨_, hp, hf.trans f2, y, rfl, h1⟩
    | ok q =>
      obtain ⟨c2, r2⟩ := q
      rw [hx] at hp h1
      obtain ⟨p1, p2, p3, p4⟩ := hp
      refine .inl ⟨p1, hf.trans f2, c2, r2, m' + s.2.1.length, h1, p2, ?_, h4, p3, by simpa [List.append_assoc] using p4⟩
      simp [zer] at h3
      omega
  · rintro e w' (⟨he, hf, c', r', m', h1, h2, h3, h4, h5, h6⟩ | ⟨x, he, hf, y, rfl, h1⟩)
    · rw [h1]
      simp only [List.drop_length, List.map_nil, sq, zer, List.length_nil, List.append_nil] at h1 h3 h6 ⊢
      exact post_ok he hf (by omega) h5 h6
    · rw [h1]
      exact ⟨hf, he⟩
end Go.Proofs.YtmplckdpddmifaaGreatDoor
