/- The document's words. -/
import Derived.Test.YtfjphcgipbgodaaDoorLRes
import Derived.Test.YtfjphcgipbgodaaDoorLToks
namespace Go.Proofs.YtfjphcgipbgodaaDoor
open Go.RowKit
attribute [local go_sem ↓] Go.wp_at_zero Go.wp_at_succ
set_option linter.unusedVariables false
set_option linter.unusedSimpArgs false
set_option maxRecDepth 10000
set_option maxHeartbeats 4000000 in
theorem words_any (w : World) : Calls Tryd.prog 20 #[] w fun e w' => e = .returned (.slice (some ⟨w.heap.size, 0, none⟩) 42 42) ∧ w' = w.alloc (.cells ((words.map fun x => Value.string (sv x)).toArray) 9) := by
  go_enter Tryd.func20, Tryd.ntmps20
  go_wp2_with fail
  go_ret
  exact ⟨rfl, rfl⟩
set_option maxHeartbeats 4000000 in
theorem in_core (s : ByteArray) (ad : Addr) (n cap : Nat) (X : Nat → ByteArray) (B : Nat → Bool) (r : Bool) (w : World) (hn : n ≤ 100000)
    (HC : Hid (∀ k, k < n → w.cell? (ad.add k) = some (.string (X k))))
    (HB : Hid (∀ k, k < n → ((X k).toList == s.toList) = B k))
    (H1 : Hid (∀ k, k < n → B k = true → r = true))
    (H2 : Hid ((∀ k, k < n → B k = false) → r = false)) :
    Calls Tryd.prog 19 #[.string s, .slice (some ad) n cap] w fun e w' => e = .returned (.bool r) ∧ w' = w := by
  go_enter Tryd.func19, Tryd.ntmps19
  go_wp2_with fail
  go_loop [5] (fun vi => ∃ k : Nat, k ≤ n ∧ vi = .int .i64 (k : Int) ∧ Hid (∀ j, j < k → B j = false)) (fun vi => n - (intOf vi).toNat)
  case atStart => exact ⟨0, Nat.zero_le _, rfl, hide fun j hj => by omega⟩
  case round =>
    obtain ⟨k, hk, rfl, HN⟩ := hrel
    by_cases hlt : k < n
    · have li : (k : Int) < (n : Int) := by omega
      have ck := (unhide HC) k hlt
      have hb := (unhide HB) k hlt
      have HQ := hide ((unhide H1) k hlt)
      generalize X k = x at *
      obtain ⟨b, hbk⟩ : ∃ b, B k = b := ⟨_, rfl⟩
      rw [hbk] at hb
      have HBK := hide hbk
      clear hbk
      cases b with
      | true =>
        have hr := (unhide HQ) (unhide HBK)
        subst hr
        go_wp2_with fail
        go_ret
        exact ⟨rfl, rfl⟩
      | false =>
        go_wp2_with fail
        exact ⟨⟨k + 1, hlt, by go_num, hide fun j hj => (Nat.lt_succ_iff_lt_or_eq.1 hj).elim ((unhide HN) j) (fun e => e ▸ unhide HBK)⟩, by simp [intOf]; omega⟩
    · have hr := (unhide H2) (fun j hj => (unhide HN) j (by omega))
      subst hr
      go_wp2_with fail
      go_ret
      exact ⟨rfl, rfl⟩
theorem sv_list (l : List UInt8) : (sv l).toList = l := ByteArray.toList_mk l
theorem in_words (s : ByteArray) (g : Nat) (w : World) (HC : ∀ k, k < 42 → w.cell? ⟨g, k, none⟩ = some (.string (sv (words.getD k [])))) :
    Calls Tryd.prog 19 #[.string s, .slice (some ⟨g, 0, none⟩) 42 42] w fun e w' => e = .returned (.bool (decide (s.toList ∈ words))) ∧ w' = w := by
  refine in_core s ⟨g, 0, none⟩ 42 42 (fun k => sv (words.getD k [])) (fun k => words.getD k [] == s.toList) _ w (by decide) (hide fun k hk => ?_) (hide fun k hk => by rw [sv_list]) (hide fun k hk hb => ?_) (hide fun h => ?_)
  · rw [add_plain, Nat.zero_add]; exact HC k hk
  · rw [decide_eq_true_iff, ← eq_of_beq hb, List.getD_eq_getElem?_getD, List.getElem?_eq_getElem (show k < words.length from hk)]
    exact List.getElem_mem _
  · rw [decide_eq_false_iff_not]
    intro hm
    obtain ⟨k, hk, e⟩ := List.getElem_of_mem hm
    have := h k hk
    rw [List.getD_eq_getElem?_getD, List.getElem?_eq_getElem hk, Option.getD_some, e] at this
    simp at this
set_option maxHeartbeats 4000000 in
theorem rres_core (s : ByteArray) (r : Bool) (w : World) (o : Obj)
    (T1 : Hid (∀ w : World, Calls Tryd.prog 20 #[] w fun e w' => e = .returned (.slice (some ⟨w.heap.size, 0, none⟩) 42 42) ∧ w' = w.alloc o))
    (T2 : Hid (∀ w : World, Calls Tryd.prog 19 #[.string s, .slice (some ⟨w.heap.size, 0, none⟩) 42 42] (w.alloc o) fun e w' => e = .returned (.bool r) ∧ w' = w.alloc o)) :
    Calls Tryd.prog 9 #[.string s] w fun e w' => e = .returned (.bool r) ∧ Keep w w' := by
  go_enter Tryd.func9, Tryd.ntmps9
  go_wp2_with fail
  (refine ((unhide T1) _).mono ?_; rintro e w2 ⟨rfl, rfl⟩)
  go_wp2_with fail
  (refine ((unhide T2) _).mono ?_; rintro e w2 ⟨rfl, rfl⟩)
  go_wp2_with fail
  go_ret
  exact ⟨rfl, (Keep.refl w).alloc _⟩
theorem rres_any (s : ByteArray) (w : World) : Calls Tryd.prog 9 #[.string s] w fun e w' => e = .returned (.bool (decide (s.toList ∈ words))) ∧ Keep w w' := by
  refine rres_core s _ w _ (hide fun w => words_any w) (hide fun w => in_words s w.heap.size _ fun k hk => ?_)
  rw [World.cell?_alloc_mark, List.getElem?_toArray, List.getElem?_map, List.getD_eq_getElem?_getD, List.getElem?_eq_getElem (show k < words.length from hk)]
  rfl
end Go.Proofs.YtfjphcgipbgodaaDoor
