/- Package net: groups of rings. -/
import Derived.Test.YtmplckdpddmifaaGreatDoorNRa
import Derived.Test.YtmplckdpddmifaaGreatDoorTk
namespace Go.Proofs.YtmplckdpddmifaaGreatDoor
open Go.RowKit
attribute [local go_sem ↓] Go.wp_at_zero Go.wp_at_succ
set_option linter.unusedVariables false
set_option linter.unusedSimpArgs false
set_option maxRecDepth 10000
/-- v does a step where what was read so far is such -/
def DoesQ (E : Env) (w0 : World) (v : Value) (m : Nat) (zs : List D) (Q : List D → Prop) (p : Sp) : Prop := ∃ fn xs ys, v = .func (.func fn) xs ys ∧ Ent fn ∧ ∀ w c rest r, Q c → Fr E.S w0 w → c.length = m → Rdr E w r → Cel E w (c ++ zs ++ rest) → Calls Tryz.prog fn (xs ++ ys) w (Post E w rest (m + zs.length) (p c r))
theorem Does.q {E : Env} {w0 : World} {v : Value} {m : Nat} {zs : List D} {p : Sp} (h : Does E w0 v m zs p) (Q : List D → Prop) : DoesQ E w0 v m zs Q p := by
  obtain ⟨fn, xs, ys, a, b, c⟩ := h
  exact ⟨fn, xs, ys, a, b, fun w c' rest r _ => c w c' rest r⟩
def ChainQ (E : Env) (w0 : World) : Nat → (List D → Prop) → List (Value × List D × Sp) → Prop
  | _, _, [] => True
  | m, Q, s :: ss => ∃ R : List D → Prop, DoesQ E w0 s.1 m s.2.1 Q s.2.2 ∧ (∀ c r c' r', Q c → s.2.2 c r = .ok (c', r') → R c') ∧ ChainQ E w0 (m + s.2.1.length) R ss
theorem order_q {E : Env} {w : World} {g m : Nat} {ss : List (Value × List D × Sp)} {c rest : List D} {r : List Tok} {Q : List D → Prop} (hq : Q c) (hn : ss.length ≤ 1000) (hch : ChainQ E w m Q ss) (hv : ∀ i s, ss[i]? = some s → w.cell? ⟨g, i, none⟩ = some s.1) (hg : ¬ E.S g)
    (hc : c.length = m) (hr : Rdr E w r) (hl : Cel E w (c ++ zer ss ++ rest)) :
    Calls Tryz.prog 47 #[.slice (some ⟨g, 0, none⟩) ss.length ss.length] w (Post E w rest (m + (zer ss).length) (sq (ss.map fun s => s.2.2) c r)) := by
  refine (order_core g ss.length (fun i => (ss.getD i (.nilIface, [], pPos)).1)
    (fun i w' => Fr E.S w w' ∧ ∃ c' r' m' Q', sq (ss.map fun s => s.2.2) c r = sq ((ss.drop i).map fun s => s.2.2) c' r' ∧ c'.length = m' ∧ m' + (zer (ss.drop i)).length = m + (zer ss).length ∧ Q' c' ∧ ChainQ E w m' Q' (ss.drop i) ∧ Rdr E w' r' ∧ Cel E w' (c' ++ zer (ss.drop i) ++ rest))
    (fun x w' => Fr E.S w w' ∧ ∃ y : Er, x = .agg #[.int .i64 y.1, .int .i64 y.2] ∧ sq (ss.map fun s => s.2.2) c r = .error y) w hn (hide fun i w' hi h => ?_) (hide fun i w' hi h => ?_) (hide ⟨.refl _ _, c, r, m, Q, by simp, hc, by simp, hq, by simpa using hch, hr, by simpa using hl⟩)).mono ?_
  · obtain ⟨s, hs, _⟩ := drop_ss hi
    have e : (ss.getD i (.nilIface, [], pPos)).1 = s.1 := by rw [List.getD_eq_getElem?_getD, hs]; rfl
    rw [e]
    exact h.1.cell (hv i s hs) hg
  · obtain ⟨s, hs, hd⟩ := drop_ss hi
    have e : (ss.getD i (.nilIface, [], pPos)).1 = s.1 := by rw [List.getD_eq_getElem?_getD, hs]; rfl
    obtain ⟨hf, c', r', m', Q', h1, h2, h3, hq', h4, h5, h6⟩ := h
    rw [hd] at h1 h3 h4 h6
    obtain ⟨R, ⟨fn, xs, ys, k1, k2, k3⟩, hR, h4⟩ := h4
    refine ⟨fn, xs, ys, e.trans k1, k2, (k3 w' c' (zer (ss.drop (i + 1)) ++ rest) r' hq' hf h2 h5 (by simpa [zer, List.append_assoc] using h6)).mono ?_⟩
    rintro e w'' ⟨f2, hp⟩
    simp only [List.map_cons, sq] at h1
    cases hx : s.2.2 c' r' with
    | error y =>
      rw [hx] at hp h1
      exact .inr ⟨_, hp, hf.trans f2, y, rfl, h1⟩
    | ok q =>
      obtain ⟨c2, r2⟩ := q
      rw [hx] at hp h1
      obtain ⟨p1, p2, p3, p4⟩ := hp
      refine .inl ⟨p1, hf.trans f2, c2, r2, m' + s.2.1.length, R, h1, p2, ?_, hR _ _ _ _ hq' hx, h4, p3, by simpa [List.append_assoc] using p4⟩
      simp [zer] at h3
      omega
  · rintro e w' (⟨he, hf, c', r', m', Q', h1, h2, h3, hq', h4, h5, h6⟩ | ⟨x, he, hf, y, rfl, h1⟩)
    · rw [h1]
      simp only [List.drop_length, List.map_nil, sq, zer, List.length_nil, List.append_nil] at h1 h3 h6 ⊢
      exact post_ok he hf (by omega) h5 h6
    · rw [h1]
      exact ⟨hf, he⟩
set_option maxHeartbeats 2000000 in
theorem some_yes (rb g1 g2 tb n cap : Nat) (av : Option Addr) (w : World) (hn : 0 < n) (h2 : w.cell? ⟨g2, 0, none⟩ = some (.pointer (some ⟨tb, 0, none⟩))) (h3 : w.cell? ⟨tb, 0, none⟩ = some (.slice av n cap)) :
    Calls Tryz.prog 101 #[.pointer (some ⟨g2, 0, none⟩), .pointer (some ⟨g1, 0, none⟩)] w fun e w' => e = .returned .nilIface ∧ w' = w := by
  have hb : ((n : Int) == 0) = false := by simp; omega
  have hb2 : ¬ n = 0 := by omega
  go_enter Tryz.func101, Tryz.ntmps101
  go_wp2_with fail
  go_ret
  exact ⟨rfl, rfl⟩
set_option maxHeartbeats 2000000 in
theorem some_no (rb g1 g2 tb cap : Nat) (pp : Int) (av : Option Addr) (w : World) (h1 : w.cell? ⟨g1, 0, none⟩ = some (.pointer (some ⟨rb, 0, none⟩))) (h2 : w.cell? ⟨g2, 0, none⟩ = some (.pointer (some ⟨tb, 0, none⟩))) (h3 : w.cell? ⟨tb, 0, none⟩ = some (.slice av 0 cap)) (T2 : Hid (WrongT rb pp w)) :
    Calls Tryz.prog 101 #[.pointer (some ⟨g2, 0, none⟩), .pointer (some ⟨g1, 0, none⟩)] w fun e w' => e = .returned (flt (50, pp)) ∧ Keep w w' := by
  have HK := hide (Keep.refl w)
  go_enter Tryz.func101, Tryz.ntmps101
  go_wp2_with fail
  (refine ((uq T2) _ _ (uq HK)).mono ?_; rintro e w3 ⟨rfl, hk⟩; have HK3 := hide hk; clear hk)
  go_wp2_with fail
  go_ret
  exact ⟨rfl, uq HK3⟩
theorem some_does {E : Env} {w0 : World} {g1 g2 tb e z : Nat} (hA : E.A 0 = (tb, 0)) (b1 : Bx E w0 g1 (.pointer (some ⟨E.rb, 0, none⟩))) (b2 : Bx E w0 g2 (.pointer (some ⟨tb, 0, none⟩))) :
    DoesQ E w0 (.func (.func 101) #[] #[.pointer (some ⟨g2, 0, none⟩), .pointer (some ⟨g1, 0, none⟩)]) 1 [] (fun c => ∃ L, c = [.row e z L]) pSome := by
  refine ⟨_, _, _, rfl, fun xs w => by kernel_rfl, fun w c rest r hq hf hc hr hl => ?_⟩
  obtain ⟨L, rfl⟩ := hq
  obtain ⟨v, k1, k2, k3⟩ := hl.2 0 (.row e z L) (by simp)
  rw [hA] at k1
  obtain ⟨av, cap, xs, rfl, _⟩ := row_shape k2
  obtain ⟨t, r', rfl⟩ := r0_cons hr.1
  cases L with
  | nil =>
    simp only [pSome, bad]
    refine (some_no E.rb g1 g2 tb cap t.p av w (b1.fr hf).1 (b2.fr hf).1 k1 (hide (wrongT hr.1))).mono ?_
    rintro e w' ⟨he, hk⟩
    exact post_err he hk
  | cons d L =>
    simp only [pSome]
    refine (some_yes E.rb g1 g2 tb (d :: L).length cap av w (by simp) (b2.fr hf).1 k1).mono ?_
    rintro e w' ⟨he, rfl⟩
    exact post_ok he (.refl _ _) (by simp) hr (by simpa using hl)
theorem row_q {X : List UInt8} {most e z : Nat} {body : List Tok → Rs} {c : List D} {r : List Tok} {c' : List D} {r' : List Tok} (hc : c = []) (h : pRow X most e z body c r = .ok (c', r')) : ∃ L, c' = [.row e z L] := by
  subst hc
  simp only [pRow] at h
  split at h
  · cases h
  · simp at h; exact ⟨_, h.1.symm⟩
theorem the_q {s : List UInt8} {c : List D} {r : List Tok} {c' : List D} {r' : List Tok} (h : pThe s c r = .ok (c', r')) : c' = c := by
  cases r with
  | nil => simp [pThe, bad] at h
  | cons t r => simp only [pThe] at h; split at h; (simp at h; exact h.1.symm); exact absurd h bad_ne
set_option maxHeartbeats 4000000 in
theorem group_core (E : Env) (tb : Nat) (w00 : World) (r : List Tok) (A0 : Hid (E.A 0 = (tb, 0))) (HS00 : Hid (∀ b, E.S b → b < w00.heap.size)) (HLo00 : Hid (E.lo ≤ w00.heap.size)) (HR00 : Hid (Rdr E w00 r)) (HL00 : Hid (Cel E w00 [dN]))
    (THRow : Hid (ThingM E.rb E.l E.ta E.cap 100 117 [.bool false, .slice none 0 0] pRing)) :
    Calls Tryz.prog 79 #[.pointer (some ⟨E.rb, 0, none⟩), .pointer (some ⟨tb, 0, none⟩)] w00 (Post E w00 [] 1 (pGroup r)) := by
  have HK00 := hide (two_keep w00 (.cells #[.pointer (some ⟨E.rb, 0, none⟩)] 81) (.cells #[.pointer (some ⟨tb, 0, none⟩)] 185))
  obtain ⟨b1, b2⟩ := two_boxes E w00 (.pointer (some ⟨E.rb, 0, none⟩)) (.pointer (some ⟨tb, 0, none⟩)) 81 185 (uq HS00)
  have B1 := hide b1
  have B2 := hide b2
  clear b1 b2
  go_enter Tryz.func79, Tryz.ntmps79
  go_wp2_with fail
  generalize (w00.alloc (.cells #[.pointer (some ⟨E.rb, 0, none⟩)] 81)).alloc (.cells #[.pointer (some ⟨tb, 0, none⟩)] 185) = w at HK00 B1 B2 ⊢
  generalize w00.heap.size + 1 = g2 at B2 ⊢
  obtain ⟨g1, HG1⟩ : ∃ g, Hid (w00.heap.size = g) := ⟨_, rfl⟩
  rw [uq HG1] at B1 ⊢
  have HS0 : Hid (∀ b, E.S b → b < w.drew.heap.size) := hide (hs_keep (w' := w) (uq HS00) (uq HK00))
  have HLo0 : Hid (E.lo ≤ w.drew.heap.size) := hide (lo_keep (w' := w) (uq HLo00) (uq HK00))
  have HR := hide ((uq HR00).keep (uq HK00))
  have HL := hide ((uq HL00).keep (uq HK00))
  have HK0 := hide (Keep.refl w).drew
  have H1 := hide (uq B1).1
  have H2 := hide (uq B2).1
  refine wp_region_held_drew (S := fun w' => w'.cell? ⟨g1, 0, none⟩ = some (.pointer (some ⟨E.rb, 0, none⟩)) ∧ w'.cell? ⟨g2, 0, none⟩ = some (.pointer (some ⟨tb, 0, none⟩))) (by kernel_rfl) (by exact ⟨uq H1, uq H2⟩) (fun hHeld => ?_)
  refine tkk 0 5 hHeld ?_; try simp only [Act.put, Ya, Yb, Yc]
  refine tkk 2 7 hHeld ?_; try simp only [Act.put, Ya, Yb, Yc]
  refine tkk 3 8 hHeld ?_; try simp only [Act.put, Ya, Yb, Yc]
  refine tkk 4 9 hHeld ?_; try simp only [Act.put, Ya, Yb, Yc]
  refine tkk 5 10 hHeld ?_; try simp only [Act.put, Ya, Yb, Yc]
  refine tkk 6 11 hHeld ?_; try simp only [Act.put, Ya, Yb, Yc]
  refine tkk 7 12 hHeld ?_; try simp only [Act.put, Ya, Yb, Yc]
  refine tkk 9 14 hHeld ?_; try simp only [Act.put, Ya, Yb, Yc]
  refine tkk 10 15 hHeld ?_; try simp only [Act.put, Ya, Yb, Yc]
  refine rdyy 1 (fun K hK => ?_)
  go_simp
  clear hHeld
  (refine (the_any (E := E) [123] (by decide) 0 _ (uq HS0)).mono ?_; rintro e w1 ⟨f1, x1, y1, rfl, hk, hd⟩; have HS1 := hide (hs_keep (uq HS0) hk); have HLo1 := hide (lo_keep (uq HLo0) hk); have HK1 := hide ((uq HK0).trans hk); have HD1 := hide hd; clear hk hd)
  try go_wp2_with fail
  refine hK.out _ _ ?_ (fun hHeld => ?_)
  · exact ⟨(uq HK1).cell' (uq H1), (uq HK1).cell' (uq H2)⟩
  clear hK K
  try simp only [Act.put, Ya, Yb, Yc]
  refine rdyy 8 (fun K hK => ?_)
  go_simp
  clear hHeld
  (refine (rowRow_any (E := E) [114, 105, 110, 103] (by decide) 2 (by decide) pRing (uq THRow) 0 _ _ (uq A0) _ (uq HS1) (uq HLo1)).mono ?_; rintro e w2 ⟨f2, x2, y2, rfl, hk, hd⟩; have HS2 := hide (hs_keep (uq HS1) hk); have HK2 := hide ((uq HK1).trans hk); have HD2 := hide hd; have HD12 := hide ((uq HD1).keep hk); clear hk hd)
  try go_wp2_with fail
  refine hK.out _ _ ?_ (fun hHeld => ?_)
  · exact ⟨(uq HK2).cell' (uq H1), (uq HK2).cell' (uq H2)⟩
  clear hK K
  try simp only [Act.put, Ya, Yb, Yc]
  refine rdyy 11 (fun K hK => ?_)
  go_simp
  clear hHeld
  (refine (the_any (E := E) [125] (by decide) 1 _ (uq HS2)).mono ?_; rintro e w3 ⟨f3, x3, y3, rfl, hk, hd⟩; have HS3 := hide (hs_keep (uq HS2) hk); have HK3 := hide ((uq HK2).trans hk); have HD3 := hide hd; have HD23 := hide ((uq HD2).keep hk); have HD13 := hide ((uq HD12).keep hk); clear hk hd)
  try go_wp2_with fail
  refine hK.out _ _ ?_ (fun hHeld => ?_)
  · exact ⟨(uq HK3).cell' (uq H1), (uq HK3).cell' (uq H2)⟩
  clear hK K
  try simp only [Act.put, Ya, Yb, Yc]
  refine rdyy 12 (fun K hK => ?_)
  go_simp
  clear hHeld
  refine hK.out _ _ ?_ (fun hHeld => ?_)
  · exact ⟨((uq HK3).alloc _).cell' (uq H1), ((uq HK3).alloc _).cell' (uq H2)⟩
  clear hK K
  try simp only [Act.put, Ya, Yb, Yc]
  refine rdyy 13 (fun K hK => ?_)
  go_simp
  clear hHeld
  (refine (order_q (E := E) (m := 0) (Q := fun c => c = []) (ss := [(.func (.func f1) x1 y1, [], pThe [123]), (.func (.func f2) x2 y2, [dN], pRow [114, 105, 110, 103] 2 117 2 pRing), (.func (.func 101) #[] #[.pointer (some ⟨g2, 0, none⟩), .pointer (some ⟨g1, 0, none⟩)], [], pSome), (.func (.func f3) x3 y3, [], pThe [125])]) (c := []) (rest := []) (r := r) rfl (by simp) ⟨fun c => c = [], ((uq HD13).keep ((Keep.refl _).alloc _)).q _, fun c r c' r' hc h => (the_q h).trans hc, fun c => ∃ L, c = [.row 117 2 L], ((uq HD23).keep ((Keep.refl _).alloc _)).q _, fun c r c' r' hc h => row_q hc h, fun _ => True, some_does (uq A0) ((uq B1).fr (.keep ((uq HK3).alloc _))) ((uq B2).fr (.keep ((uq HK3).alloc _))), fun _ _ _ _ _ _ => trivial, fun _ => True, ((uq HD3).keep ((Keep.refl _).alloc _)).q _, fun _ _ _ _ _ _ => trivial, trivial⟩ (new_steps _ _ _) (fun h => Nat.lt_irrefl _ ((uq HS3) _ h)) rfl ((uq HR).keep ((uq HK3).alloc _)) ((uq HL).keep ((uq HK3).alloc _))).mono ?_; rintro e wz hp; obtain ⟨vz, rfl⟩ := post_ret hp; have HP := hide hp; have HKz := hide ((uq HK3).alloc (.cells #[.func (.func f1) x1 y1, .func (.func f2) x2 y2, .func (.func 101) #[] #[.pointer (some ⟨g2, 0, none⟩), .pointer (some ⟨g1, 0, none⟩)], .func (.func f3) x3 y3] 121)); clear hp)
  try go_wp2_with fail
  refine hK.out _ _ ?_ (fun hHeld => ?_)
  · exact ⟨(uq HP).1.cell ((uq HKz).cell' (uq H1)) (uq B1).2, (uq HP).1.cell ((uq HKz).cell' (uq H2)) (uq B2).2⟩
  clear hK K
  try simp only [Act.put, Ya, Yb, Yc]
  refine tkk 14 4 hHeld ?_; try simp only [Act.put, Ya, Yb, Yc]
  refine wpAnyH_done (by kernel_rfl) ?_ _
  clear hHeld
  go_wp2_with fail
  go_ret
  exact post_pre (.keep ((uq HK00).trans (uq HKz))) (uq HP)
end Go.Proofs.YtmplckdpddmifaaGreatDoor
