/- NetWhere: there is a network, or an error that stands in the text, and no network; what was read ahead of a wrong token is wrong nowhere, but for its end. For every text of at most 6000 bytes the law's call returns true, and the text reads behind it as it read before. -/
import Derived.Test.YtfjphcgipbgodaaDoorCards
import Derived.Test.YtfjphcgipbgodaaDoorTie
import Derived.Test.YtfjphcgipbgodaaDoorNAwkB
import Derived.Test.YtfjphcgipbgodaaDoorNCt
import Derived.Test.YtfjphcgipbgodaaDoorNTake
import Derived.Test.YtfjphcgipbgodaaDoorLOpn
import Derived.LaidLaws
import Derived.LaidHandle
import Derived.SevenTiedAt
namespace Go.Proofs.YtfjphcgipbgodaaDoor.wher
open Go.ChangeShapes Go.WideShapes Go.ChangeAt Go.RowKit Go.Joins
open Go.WideMaps Go.WideElems
attribute [local go_sem ↓] Go.wp_at_zero Go.wp_at_succ
set_option linter.unusedVariables false
set_option linter.unusedSimpArgs false
set_option maxRecDepth 10000
theorem tk_le : ∀ (n : Nat) (r : List UInt8) (p : Nat) (L : List Tok), r.length ≤ n → tk r p = .ok L → ∀ t ∈ L, t.p ≤ ((p + r.length : Nat) : Int)
  | n, r, p, L, hn, h => by
    rcases tk_cons h with ⟨rfl, _⟩ | ⟨t, M, rfl, h1, h2, h3, _, h5, h6, h7⟩
    · intro t ht; simp at ht; subst ht; simp
    · intro u hu
      rcases List.mem_cons.1 hu with rfl | hu
      · rw [h3]; omega
      · cases n with
        | zero => omega
        | succ n => have := tk_le n _ _ M (by rw [List.length_drop]; omega) h7 u hu; rw [List.length_drop] at this; omega
theorem w_of {L : List Tok} (h : Wf L) : W L := h.2.1
theorem place {l : List UInt8} {x : Er} (hl : l.length ≤ 6000) (h : N l = .error x) : 0 ≤ x.2 ∧ x.2 ≤ (l.length : Int) ∧ (x.1 = 50 ∨ x.1 = 4 ∨ x.1 = 40) := by
  unfold N at h
  cases hT : T l with
  | error y =>
    rw [hT] at h
    injection h with h
    subst h
    have := T_err (e := y.1) (a := y.2) hT
    exact ⟨by simp, by simp; omega, by simp; omega⟩
  | ok L =>
    rw [hT] at h
    simp only at h
    cases hp : pNet L with
    | ok q => rw [hp] at h; cases h
    | error y =>
      rw [hp] at h
      injection h with h
      subst h
      obtain ⟨t, ht, e⟩ := net_ep (w_of (T_wf (by omega) hT)) hp
      have h1 := tk_ge _ _ _ _ (Nat.le_refl _) (T_ok hT).2 t ht
      have h2 := tk_le _ _ _ _ (Nat.le_refl _) (T_ok hT).2 t ht
      have h3 := err_net hp
      rw [e] at h1 h2
      exact ⟨by simpa using h1, by simpa using h2, by omega⟩
theorem cut {l : List UInt8} {k : Nat} (hl : l.length ≤ 6000) (h : N l = .error (50, (k : Int))) : N (l.take k) = .error (50, (k : Int)) ∨ ∃ cs, N (l.take k) = .ok cs := by
  unfold N at h ⊢
  cases hT : T l with
  | error y =>
    rw [hT] at h
    injection h with h
    injection h with h _
    have := (T_err (e := y.1) (a := y.2) hT).1
    omega
  | ok L =>
    rw [hT] at h
    simp only at h
    cases hp : pNet L with
    | ok q => rw [hp] at h; cases h
    | error y =>
      rw [hp] at h
      injection h with h
      subst h
      obtain ⟨a, t, b, rfl, e2, e3⟩ := net_cut (w_of (T_wf (by omega) hT)) hp
      rw [T_take hT e2]
      rcases e3 ⟨0, [], 0, (k : Int)⟩ ⟨rfl, rfl, rfl⟩ with e | ⟨y, e⟩
      · left; simp only [e]
      · right; exact ⟨y.1, by simp only [e]⟩
theorem by_take {w : World} {a : Option Addr} {cap : Nat} {l : List UInt8} {k : Nat} (h : By w (.slice a l.length cap) l) (hk : k ≤ l.length) : By w (.slice a k cap) (l.take k) := by
  obtain ⟨a', cap', e, hc, hx⟩ := h
  injection e with e1 e2 e3
  subst e1 e3
  have hlen : (l.take k).length = k := by rw [List.length_take]; omega
  refine ⟨a, cap, by rw [hlen], by rw [hlen]; omega, fun j hj => ?_⟩
  rw [hlen] at hj
  obtain ⟨ad, q1, q2, q3⟩ := hx j (by omega)
  refine ⟨ad, q1, q2, ?_⟩
  rw [q3]
  congr 3
  simp [List.getD_eq_getElem?_getD, List.getElem?_take, hj]
set_option maxHeartbeats 2000000 in
theorem stops_zero (w : World) : Calls Tryd.prog 13 #[.slice none 0 0, .slice none 0 0, .bool true] w fun e w' => e = .returned (.bool true) ∧ w' = w := by
  go_enter Tryd.func13, Tryd.ntmps13
  go_wp2_with fail
  go_loop [7] (fun v => v = .int .i64 0) (fun _ => 0)
  case atStart => rfl
  case round =>
    subst hrel
    go_wp2_with fail
    go_ret
    exact ⟨rfl, rfl⟩
set_option maxHeartbeats 4000000 in
theorem same_zero (w : World) : Calls Tryd.prog 8 #[.agg #[.int .i64 0, .int .i64 0, .int .i64 0, .int .i64 0, .int .i64 0, .slice none 0 0, .slice none 0 0, .int .i64 0, .int .i64 0], .agg #[.int .i64 0, .int .i64 0, .int .i64 0, .int .i64 0, .int .i64 0, .slice none 0 0, .slice none 0 0, .int .i64 0, .int .i64 0], .bool true] w fun e w' => e = .returned (.bool true) ∧ Keep w w' := by
  have S := hide stops_zero
  go_enter Tryd.func8, Tryd.ntmps8
  go_wp2_with fail
  (refine ((unhide S) _).mono ?_; rintro e w2 ⟨rfl, rfl⟩)
  go_wp2_with fail
  go_loop [7] (fun v => v = .int .i64 0) (fun _ => 0)
  case atStart => rfl
  case round =>
    subst hrel
    go_wp2_with fail
    go_ret
    exact ⟨rfl, two_keep _ _ _⟩
set_option maxHeartbeats 1000000 in
theorem long (a : Option Addr) (n cap : Nat) (w : World) (hn : 6000 < n) : Calls Tryd.prog 3 #[.slice a n cap] w fun e w' => e = .returned (.bool true) ∧ w' = w := by
  have h : (6000 : Int) < (n : Int) := by omega
  go_enter Tryd.func3, Tryd.ntmps3
  go_wp2_with fail
  go_ret
  exact ⟨rfl, rfl⟩
set_option maxHeartbeats 4000000 in
theorem good (a : Option Addr) (n cap : Nat) (cs : List D) (w : World) (hn : n ≤ 6000) (T1 : Hid (∀ w', Keep w w' → Calls Tryd.prog 6 #[.slice a n cap] w' (ParseP (.ok cs) w'))) (T2 : Hid (∀ w', Keep w w' → Calls Tryd.prog 7 #[] w' fun e w'' => e = .returned (.bool true) ∧ Keep w' w'')) :
    Calls Tryd.prog 3 #[.slice a n cap] w fun e w' => e = .returned (.bool true) ∧ Keep w w' := by
  have h : ¬ (6000 : Int) < (n : Int) := by omega
  have HK := hide (Keep.refl w)
  have SZ := hide same_zero
  go_enter Tryd.func3, Tryd.ntmps3
  go_wp2_with fail
  (refine ((unhide T1) _ (unhide HK)).mono ?_; rintro e w2 ⟨hk, u0, u1, u2, u3, u4, u5, u6, u7, u8, rfl, hon, hrd⟩; have HK2 := hide hk; clear hk)
  obtain ⟨W1, W2, W3, W4, W5, W6, W7, W8, W9, s0, s1, s2, s3, s4, s5, s6, s7, s8, hb9, hq9, hz9, ho9, ht9, hp9⟩ := store9 (heap_alloc_new w2 (.cells #[.int .i64 0, .int .i64 0, .int .i64 0, .int .i64 0, .int .i64 0, .slice none 0 0, .slice none 0 0, .int .i64 0, .int .i64 0] 28)) hon
  have HK9 : Hid (Keep w2 W9) := hide ⟨ho9, ht9, hp9, by rw [hz9, World.size_alloc]; omega, fun i hi => by rw [hq9 i (by omega)]; exact heap_alloc_old w2 _ hi⟩
  clear hon hrd hb9 hq9 hz9 ho9 ht9 hp9
  go_wp2_with fail
  (refine ((unhide T2) _ ((unhide HK2).trans (unhide HK9))).mono ?_; rintro e w3 ⟨rfl, hk⟩; have HK3 := hide (((unhide HK2).trans (unhide HK9)).trans hk); clear hk)
  go_wp2_with fail
  go_ret
  exact ⟨rfl, unhide HK3⟩
set_option maxHeartbeats 4000000 in
theorem er4 (a : Option Addr) (n cap k : Nat) (w : World) (hn : n ≤ 6000) (hk : k ≤ n) (T1 : Hid (∀ w', Keep w w' → Calls Tryd.prog 6 #[.slice a n cap] w' (ParseP (.error (4, (k : Int))) w'))) (T2 : Hid (∀ w', Keep w w' → Calls Tryd.prog 7 #[] w' fun e w'' => e = .returned (.bool true) ∧ Keep w' w'')) :
    Calls Tryd.prog 3 #[.slice a n cap] w fun e w' => e = .returned (.bool true) ∧ Keep w w' := by
  have h : ¬ (6000 : Int) < (n : Int) := by omega
  have HK := hide (Keep.refl w)
  have SZ := hide same_zero
  have q1 : ¬ (k : Int) < 0 := by omega
  have q2 : ¬ (n : Int) < (k : Int) := by omega
  go_enter Tryd.func3, Tryd.ntmps3
  go_wp2_with fail
  (refine ((unhide T1) _ (unhide HK)).mono ?_; rintro e w2 ⟨hk2, rfl⟩; have HK2 := hide hk2; clear hk2)
  go_wp2_with fail
  (refine ((unhide SZ) _).mono ?_; rintro e w3 ⟨rfl, hk3⟩; have HK3 := hide (((unhide HK2).alloc _).trans hk3); clear hk3)
  go_wp2_with fail
  (refine ((unhide T2) _ (unhide HK3)).mono ?_; rintro e w4 ⟨rfl, hk4⟩; have HK4 := hide ((unhide HK3).trans hk4); clear hk4)
  go_wp2_with fail
  go_ret
  exact ⟨rfl, unhide HK4⟩
set_option maxHeartbeats 4000000 in
theorem er40 (a : Option Addr) (n cap k : Nat) (w : World) (hn : n ≤ 6000) (hk : k ≤ n) (T1 : Hid (∀ w', Keep w w' → Calls Tryd.prog 6 #[.slice a n cap] w' (ParseP (.error (40, (k : Int))) w'))) (T2 : Hid (∀ w', Keep w w' → Calls Tryd.prog 7 #[] w' fun e w'' => e = .returned (.bool true) ∧ Keep w' w'')) :
    Calls Tryd.prog 3 #[.slice a n cap] w fun e w' => e = .returned (.bool true) ∧ Keep w w' := by
  have h : ¬ (6000 : Int) < (n : Int) := by omega
  have HK := hide (Keep.refl w)
  have SZ := hide same_zero
  have q1 : ¬ (k : Int) < 0 := by omega
  have q2 : ¬ (n : Int) < (k : Int) := by omega
  go_enter Tryd.func3, Tryd.ntmps3
  go_wp2_with fail
  (refine ((unhide T1) _ (unhide HK)).mono ?_; rintro e w2 ⟨hk2, rfl⟩; have HK2 := hide hk2; clear hk2)
  go_wp2_with fail
  (refine ((unhide SZ) _).mono ?_; rintro e w3 ⟨rfl, hk3⟩; have HK3 := hide (((unhide HK2).alloc _).trans hk3); clear hk3)
  go_wp2_with fail
  (refine ((unhide T2) _ (unhide HK3)).mono ?_; rintro e w4 ⟨rfl, hk4⟩; have HK4 := hide ((unhide HK3).trans hk4); clear hk4)
  go_wp2_with fail
  go_ret
  exact ⟨rfl, unhide HK4⟩
set_option maxHeartbeats 4000000 in
theorem cutA (a : Option Addr) (n cap k : Nat) (cs : List D) (w : World) (hn : n ≤ 6000) (hk : k ≤ n) (hcap : n ≤ cap) (T1 : Hid (∀ w', Keep w w' → Calls Tryd.prog 6 #[.slice a n cap] w' (ParseP (.error (50, (k : Int))) w'))) (T3 : Hid (∀ w', Keep w w' → Calls Tryd.prog 6 #[.slice a k cap] w' (ParseP (.ok cs) w'))) (T2 : Hid (∀ w', Keep w w' → Calls Tryd.prog 7 #[] w' fun e w'' => e = .returned (.bool true) ∧ Keep w' w'')) :
    Calls Tryd.prog 3 #[.slice a n cap] w fun e w' => e = .returned (.bool true) ∧ Keep w w' := by
  have h : ¬ (6000 : Int) < (n : Int) := by omega
  have HK := hide (Keep.refl w)
  have SZ := hide same_zero
  have q1 : ¬ (k : Int) < 0 := by omega
  have q2 : ¬ (n : Int) < (k : Int) := by omega
  have q3 : (k : Int) ≤ (cap : Int) := by omega
  have q4 : k ≤ cap := by omega
  go_enter Tryd.func3, Tryd.ntmps3
  go_wp2_with fail
  (refine ((unhide T1) _ (unhide HK)).mono ?_; rintro e w2 ⟨hk2, rfl⟩; have HK2 := hide hk2; clear hk2)
  go_wp2_with fail
  (refine ((unhide SZ) _).mono ?_; rintro e w3 ⟨rfl, hk3⟩; have HK3 := hide (((unhide HK2).alloc _).trans hk3); clear hk3)
  go_wp2_with fail
  (refine ((unhide T3) _ (unhide HK3)).mono ?_; rintro e w4 ⟨hk4, u0, u1, u2, u3, u4, u5, u6, u7, u8, rfl, hon, hrd⟩; have HK4 := hide ((unhide HK3).trans hk4); clear hk4)
  obtain ⟨W1, W2, W3, W4, W5, W6, W7, W8, W9, s0, s1, s2, s3, s4, s5, s6, s7, s8, hb9, hq9, hz9, ho9, ht9, hp9⟩ := store9 (heap_alloc_new w4 (.cells #[.int .i64 0, .int .i64 0, .int .i64 0, .int .i64 0, .int .i64 0, .slice none 0 0, .slice none 0 0, .int .i64 0, .int .i64 0] 28)) hon
  have HK9 : Hid (Keep w4 W9) := hide ⟨ho9, ht9, hp9, by rw [hz9, World.size_alloc]; omega, fun i hi => by rw [hq9 i (by omega)]; exact heap_alloc_old w4 _ hi⟩
  clear hon hrd hb9 hq9 hz9 ho9 ht9 hp9
  go_wp2_with fail
  (refine ((unhide T2) _ ((unhide HK4).trans (unhide HK9))).mono ?_; rintro e w5 ⟨rfl, hk5⟩; have HK5 := hide (((unhide HK4).trans (unhide HK9)).trans hk5); clear hk5)
  go_wp2_with fail
  go_ret
  exact ⟨rfl, unhide HK5⟩
set_option maxHeartbeats 4000000 in
theorem cutB (a : Option Addr) (n cap k : Nat) (cs : List D) (w : World) (hn : n ≤ 6000) (hk : k ≤ n) (hcap : n ≤ cap) (T1 : Hid (∀ w', Keep w w' → Calls Tryd.prog 6 #[.slice a n cap] w' (ParseP (.error (50, (k : Int))) w'))) (T3 : Hid (∀ w', Keep w w' → Calls Tryd.prog 6 #[.slice a k cap] w' (ParseP (.error (50, (k : Int))) w'))) (T2 : Hid (∀ w', Keep w w' → Calls Tryd.prog 7 #[] w' fun e w'' => e = .returned (.bool true) ∧ Keep w' w'')) :
    Calls Tryd.prog 3 #[.slice a n cap] w fun e w' => e = .returned (.bool true) ∧ Keep w w' := by
  have h : ¬ (6000 : Int) < (n : Int) := by omega
  have HK := hide (Keep.refl w)
  have SZ := hide same_zero
  have q1 : ¬ (k : Int) < 0 := by omega
  have q2 : ¬ (n : Int) < (k : Int) := by omega
  have q3 : (k : Int) ≤ (cap : Int) := by omega
  have q4 : k ≤ cap := by omega
  go_enter Tryd.func3, Tryd.ntmps3
  go_wp2_with fail
  (refine ((unhide T1) _ (unhide HK)).mono ?_; rintro e w2 ⟨hk2, rfl⟩; have HK2 := hide hk2; clear hk2)
  go_wp2_with fail
  (refine ((unhide SZ) _).mono ?_; rintro e w3 ⟨rfl, hk3⟩; have HK3 := hide (((unhide HK2).alloc _).trans hk3); clear hk3)
  go_wp2_with fail
  (refine ((unhide T3) _ (unhide HK3)).mono ?_; rintro e w4 ⟨hk4, rfl⟩; have HK4 := hide ((unhide HK3).trans hk4); clear hk4)
  go_wp2_with fail
  (refine ((unhide T2) _ ((unhide HK4).alloc _)).mono ?_; rintro e w5 ⟨rfl, hk5⟩; have HK5 := hide (((unhide HK4).alloc _).trans hk5); clear hk5)
  go_wp2_with fail
  go_ret
  exact ⟨rfl, unhide HK5⟩
theorem walk (v : Value) (l : List UInt8) (w : World) (h : By w v l) (hg : Gl w) : Calls Tryd.prog 3 #[v] w fun e w' => e = .returned (.bool true) ∧ Below w.heap.size w w' := by
  have hcap : ∃ a cap, v = .slice a l.length cap ∧ l.length ≤ cap := by obtain ⟨a, cap, hv, hc, _⟩ := h; exact ⟨a, cap, hv, hc⟩
  obtain ⟨a, cap, rfl, hcap⟩ := hcap
  by_cases hl : 6000 < l.length
  · refine (long a l.length cap w hl).mono ?_
    rintro e w' ⟨rfl, rfl⟩
    exact ⟨rfl, Keep.refl _⟩
  · have hP : ∀ w', Keep w w' → Calls Tryd.prog 6 #[.slice a l.length cap] w' (ParseP (N l) w') := fun w' hk => parse_any _ l w' (by omega) (h.keep hk) (hg.keep hk)
    have hA : ∀ w', Keep w w' → Calls Tryd.prog 7 #[] w' fun e w'' => e = .returned (.bool true) ∧ Keep w' w'' := fun w' hk => awake_any w' (hg.keep hk)
    cases hN : N l with
    | ok cs => rw [hN] at hP; exact good a l.length cap cs w (by omega) (hide hP) (hide hA)
    | error x =>
      rw [hN] at hP
      obtain ⟨p1, p2, p3⟩ := place (by omega) hN
      obtain ⟨e, q⟩ := x
      obtain ⟨k, rfl⟩ : ∃ k : Nat, q = (k : Int) := ⟨q.toNat, by simp at p1; omega⟩
      have hk : k ≤ l.length := by simp at p2; omega
      simp only at p3
      rcases p3 with rfl | rfl | rfl
      · have hP2 : ∀ w', Keep w w' → Calls Tryd.prog 6 #[.slice a k cap] w' (ParseP (N (l.take k)) w') := fun w' hk2 => parse_any _ (l.take k) w' (by rw [List.length_take]; omega) ((by_take h hk).keep hk2) (hg.keep hk2)
        rcases cut (by omega) hN with e | ⟨cs, e⟩
        · rw [e] at hP2; exact cutB a l.length cap k [] w (by omega) hk hcap (hide hP) (hide hP2) (hide hA)
        · rw [e] at hP2; exact cutA a l.length cap k cs w (by omega) hk hcap (hide hP) (hide hP2) (hide hA)
      · exact er4 a l.length cap k w (by omega) hk (hide hP) (hide hA)
      · exact er40 a l.length cap k w (by omega) hk (hide hP) (hide hA)
theorem laidOut : laidOutB Tryd.prog = true := by kernel_rfl
theorem own : ownKnob Tryd.prog.godebug = none := by kernel_rfl
theorem et : Tryd.prog.globalNamed "errors.errorType" = some 0 := by kernel_rfl
theorem rt : (Tryd.prog.cutTypes.find? (·.1 == "internal/reflectlite.rtype")).map (·.2) = some 116 := by kernel_rfl
theorem oneRow : ((List.range 210).filter fun t => Tryd.prog.rowNamed t [101, 114, 114, 111, 114]) = [51] := by kernel_rfl
theorem tsize : Tryd.prog.types.size = 210 := by kernel_rfl
theorem gl_of {W : World} (h : laidMetH Tryd.prog Rows.netWhereRow.laid W) : Gl W := by
  have h' : laidMet Tryd.prog [] W ∧ handlesMet Tryd.prog Rows.netWhereRow.laid W := h
  obtain ⟨name, u, ty, e1, e2, e3, e4, e5⟩ := h'.2 _ (List.mem_singleton.2 rfl)
  have en : name = [101, 114, 114, 111, 114] := (Option.some.inj e1).symm
  subst en
  obtain rfl := Option.some.inj (rt.symm.trans e2)
  have hm : ty ∈ (List.range 210).filter fun t => Tryd.prog.rowNamed t [101, 114, 114, 111, 114] := List.mem_filter.2 ⟨List.mem_range.2 (by rw [← tsize]; exact e3), e4⟩
  rw [oneRow] at hm
  obtain rfl := List.mem_singleton.1 hm
  have hh : typeHandle Tryd.prog 51 = .pointer (some ⟨1, 51, none⟩) := by kernel_rfl
  rw [hh] at e5
  simpa [Gl] using World.var?_cell et e5 0
noncomputable def laidWorld (os : Os) : World :=
  let w0 := World.holding Tryd.prog os ⟨#[], #[], []⟩
  { w0 with heap := w0.heap.modify 0 fun
      | .cells _ t frozen => .cells #[.iface 116 (.agg #[.pointer (some ⟨1, 51, none⟩)])] t frozen
      | o => o }
theorem laidWorld_met (os : Os) (args : Array Value) : laidMetH Tryd.prog Rows.netWhereRow.laid ((laidWorld os).forCall (fun _ _ => 0) ⟨#[], args, []⟩).memory :=
  laidMetH_of_parts (laidMet_nil _ _) (by kernel_rfl)
set_option maxHeartbeats 400000 in
set_option maxRecDepth 100000 in
theorem lifted (os : Os) (started : os.Started) (H : Type) (enc : TypeId × Value → H) :
    ReturnsInHanded {} Tryd.checked os 3 .any (fun w args => (Rows.netWhereSpec.pre enc Tryd.prog Tryd.f3 [] false w args ∧ laidMetH Tryd.prog Rows.netWhereRow.laid w) ∧ sizedMet enc Tryd.prog Tryd.f3 (OpenSpec.ofChange Rows.netWhereSpec) false w args)
      (Rows.netWhereSpec.post enc Tryd.prog Tryd.f3 false true false false) := by
  refine returnsInHanded_of_change_and (C := Tryd.checked) (X := fun w _ => laidMetH Tryd.prog Rows.netWhereRow.laid w) (fun _ _ _ hh h => h.of_heap hh) own started (by kernel_rfl) Tryd.func3
    (ChangeSpec.witness_at (enc := enc) (C := Tryd.checked) (os := os) (X := fun w _ => laidMetH Tryd.prog Rows.netWhereRow.laid w) false (laidWorld os) #[.slice none 0 0] 8 rfl (by kernel_rfl) (by kernel_rfl) (by kernel_rfl) (by kernel_rfl) (by kernel_rfl) (laidWorld_met os _)) ?_
  intro W base args ds gs before hval0 hW _ _ hL _
  have hval : ∀ (j : Nat) t v, Tryd.f3.params[j]? = some t → args[j]? = some v → Value.okWide Tryd.prog W .any base t v := hval0
  have hW' := hW
  obtain ⟨p, q, hA0, hV, rfl, hfz, hnd⟩ := hW
  have hA : DataW.TrodAll enc Tryd.prog W 0 (fun _ => true) true Tryd.f3.params.toList args.toList ds p := hA0
  rw [Tryd.params3] at hA hval
  obtain ⟨v0, vs0, d0, ds0, p0, q0, hargs, rfl, rfl, h0, r0⟩ := trodAll_cons hA
  obtain ⟨rfl, rfl, rfl⟩ := trodAll_nil r0
  obtain rfl : args = #[v0] := by cases args; simp_all
  obtain ⟨rfl, rfl⟩ := trodVars_none hV
  have k0 := h0
  have lt0 : ∀ x ∈ p0, x.block < W.heap.size := by obtain ⟨m, hm⟩ := k0; exact DataW.trod_lt m _ _ _ hm
  obtain ⟨L0, w0⟩ := open_bytes Tryd.underlying22 Tryd.underlying5 (by kernel_rfl) (hval 0 22 v0 rfl rfl) h0
  clear h0
  clear hA0 hval0
  refine (walk v0 L0 W w0 (gl_of hL)).mono fun e W' ⟨he, bel⟩ => ?_
  subst he
  exact ⟨_, rfl, _, _, _, [], _, [], hW', trodAll_mk1 (shut_bool Tryd.underlying4 _), (trodAll_cons_mk (Below.trod laidOut (by kernel_rfl) (of_decide_eq_true (by kernel_rfl)) k0 bel lt0) trodAll_mk0), rfl, bel.frame _, fun h => by cases h⟩
theorem over : Rows.netWhereRow.holds Tryd.pinned (OpenSpec.ofChange Rows.netWhereSpec) :=
  OpenClaim.holds_of_wide 3 Tryd.f3 rfl rfl rfl rfl rfl rfl rfl ⟨rfl, rfl, rfl, rfl, rfl⟩ rfl rfl rfl rfl rfl (by kernel_rfl) Tryd.func3 (by kernel_rfl)
    (of_decide_eq_true (by kernel_rfl)) (by unfold Func.isWrapper; first | (rw [if_pos (by decide +kernel)]; kernel_rfl) | (rw [if_neg (by decide +kernel)]; exact ⟨rfl, rfl⟩))
    (fun os started H enc _ => lifted os started H enc)
theorem card : Claim7.holds Tryd.pinned (.plain (OpenSpec.ofChange Rows.netWhereSpec)) Rows.netWhereCard :=
  Claim7.holds_tied_plain_at .later [] [.handle] true _ true
    over (fun _ h => by cases h) (by kernel_rfl) (fun _ h => by cases h) netWhere_row_tie rfl ⟨rfl, rfl⟩ (by kernel_rfl) rfl
    (fun f fn hf hfn => by
      obtain rfl : f = 3 := Option.some.inj ((show Tryd.prog.funcNamed Rows.netWhereRow.func = some 3 by kernel_rfl).symm.trans hf) |>.symm
      obtain rfl : fn = Tryd.f3 := (Option.some.inj (Tryd.func3.symm.trans hfn)).symm
      exact ⟨by kernel_rfl, fun j t ht => by
        rw [Tryd.params3] at ht
        have hm : t ∈ [22] := by simpa using Array.mem_of_getElem? ht
        have hall : ([22].all fun u => !Tryd.prog.wantsStandIn u) = true := by kernel_rfl
        exact (show Tryd.prog.wantsStandIn t = false by simpa using List.all_eq_true.1 hall t hm)⟩)
    (by kernel_rfl)

end Go.Proofs.YtfjphcgipbgodaaDoor.wher
namespace Go.Proofs.YtfjphcgipbgodaaDoor
theorem NetWhere_holds : Rows.NetWhereCardSaid := wher.card
end Go.Proofs.YtfjphcgipbgodaaDoor
