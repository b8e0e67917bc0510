/- The chapter's example. -/
import Derived.Test.YtpmfgnolojmimaaLSpell
import Derived.Test.YtpmfgnolojmimaaLRes
namespace Go.Proofs.Ytpmfgnolojmimaa
open Go.RowKit
attribute [local go_sem ↓] Go.wp_at_zero Go.wp_at_succ
set_option linter.unusedVariables false
set_option linter.unusedSimpArgs false
set_option maxRecDepth 10000
/-- head n1 volume 40; # so -/
def ex0 : List UInt8 := [104, 101, 97, 100, 32, 110, 49, 32, 118, 111, 108, 117, 109, 101, 32, 52, 48, 59, 32, 35, 32, 115, 111]
def ex1 : List Tok := [⟨1, [104, 101, 97, 100], 0, 0⟩, ⟨1, [110, 49], 0, 5⟩, ⟨1, [118, 111, 108, 117, 109, 101], 0, 8⟩, ⟨2, [52, 48], 40, 15⟩, ⟨3, [59], 0, 17⟩, ⟨0, [], 0, 23⟩]
theorem ex_T : T ex0 = .ok ex1 := by rfl
theorem ex_sp : sp ex1 = [104, 101, 97, 100, 32, 110, 49, 32, 118, 111, 108, 117, 109, 101, 32, 52, 48, 32, 59] := by rfl
theorem by_new (w : World) (l : List UInt8) (t : TypeId) (fr : Nat × Nat) : By (w.alloc (.cells ((l.map fun x => Value.int .u8 (x.toNat : Int)).toArray) t fr)) (.slice (some ⟨w.heap.size, 0, none⟩) l.length l.length) l := by
  refine ⟨_, _, rfl, Nat.le_refl _, fun k hk => ⟨_, rfl, by simp, ?_⟩⟩
  rw [add_plain, Nat.zero_add, World.cell?_alloc_mark, List.getElem?_toArray, List.getElem?_map, List.getD_eq_getElem?_getD, List.getElem?_eq_getElem hk]
  rfl
/-- a text's bytes, as the program's text has them: marked behind their end -/
theorem conv_mark (w : World) (C : Array Value) (n : Nat) (hn : C.size = n) : (convert 22 22 (.slice (some ⟨w.heap.size, 0, none⟩) n n)).run Try.prog (w.alloc (.cells C 5)) = .ok (.slice (some ⟨w.heap.size, 0, none⟩) n n) (w.alloc (.cells C 5 (n, n + 1))) := by
  subst hn
  have hsh : (w.alloc (.cells C 5)).shape? w.heap.size = some (5, C.size) := by
    have : (w.alloc (.cells C 5)).heap[w.heap.size]? = some (.cells C 5) := by
      show (w.heap.push (.cells C 5))[w.heap.size]? = _
      simp
    unfold World.shape?
    rw [this]
  have hfr : (w.alloc (.cells C 5)).freeze ⟨w.heap.size, C.size, none⟩ 1 = w.alloc (.cells C 5 (C.size, C.size + 1)) := by
    have hm : ∀ (a : Array Obj) (x : Obj) (f : Obj → Obj), (a.push x).modify a.size f = a.push (f x) := by
      intro a x f
      apply Array.ext
      · simp
      · intro i h1 h2
        simp only [Array.getElem_modify, Array.getElem_push]
        by_cases h : a.size = i
        · subst h
          simp
        · have hi : i < a.size := by simp at h1; omega
          simp [h, hi]
    unfold World.freeze
    rw [if_neg (by decide)]
    show ({ w.alloc (.cells C 5) with heap := (w.heap.push (.cells C 5)).modify w.heap.size _ } : World) = _
    rw [hm]
    rfl
  simp [convert, run_underlying Try.underlying22, run_underlying Try.underlying5, markStringish, hsh]
  exact hfr
theorem by_ex (w : World) : By (w.alloc (.cells #[.int .u8 104, .int .u8 101, .int .u8 97, .int .u8 100, .int .u8 32, .int .u8 110, .int .u8 49, .int .u8 32, .int .u8 118, .int .u8 111, .int .u8 108, .int .u8 117, .int .u8 109, .int .u8 101, .int .u8 32, .int .u8 52, .int .u8 48, .int .u8 59, .int .u8 32, .int .u8 35, .int .u8 32, .int .u8 115, .int .u8 111] 5 (23, 24))) (.slice (some ⟨w.heap.size, 0, none⟩) 23 23) ex0 := by_new w ex0 5 (23, 24)
theorem ts_ex {w : World} {v : Value} (h : Ts w v ex1) : ∃ ad cap, v = .slice (some ad) 6 cap ∧ w.cell? ⟨ad.block, ad.off + 4, none⟩ = some (.int .i64 1) ∧ w.cell? ⟨ad.block, ad.off + 12 + 2, none⟩ = some (.int .i64 40) := by
  obtain ⟨a, cap, rfl, _, h⟩ := h
  obtain ⟨ad, rfl, _, h1, _⟩ := h 1 (by decide)
  obtain ⟨ad', e, _, _, _, h3, _⟩ := h 3 (by decide)
  injection e with e
  subst e
  have e1 : ad.add (1 * 4) = ⟨ad.block, ad.off + 4, none⟩ := by simp [Addr.add]
  have e3 : ad.add (3 * 4) = ⟨ad.block, ad.off + 12, none⟩ := by simp [Addr.add]
  rw [e1] at h1
  rw [e3] at h3
  exact ⟨ad, cap, rfl, h1, h3⟩
set_option maxHeartbeats 4000000 in
theorem awake_core (w : World) (S : ByteArray) (hS : (S.toList == [104, 101, 97, 100, 32, 110, 49, 32, 118, 111, 108, 117, 109, 101, 32, 52, 48, 32, 59]) = true)
    (T1 : Hid (∀ w' v, By w' v ex0 → Calls Try.prog 9 #[v] w' (Tp (.ok ex1) w')))
    (T2 : Hid (∀ w' v, Ts w' v ex1 → Calls Try.prog 18 #[v] w' fun e w'' => e = .returned (.string S) ∧ Keep w' w''))
    (T3 : Hid (∀ w', Calls Try.prog 15 #[.string ⟨#[104, 101, 97, 100]⟩] w' fun e w'' => e = .returned (.bool true) ∧ w'' = w'))
    (T4 : Hid (∀ w', Calls Try.prog 15 #[.string ⟨#[110, 49]⟩] w' fun e w'' => e = .returned (.bool false) ∧ w'' = w')) :
    Calls Try.prog 12 #[] w fun e w' => e = .returned (.bool true) ∧ Keep w w' := by
  have HB := hide (by_ex w)
  have hcv := conv_mark w #[.int .u8 104, .int .u8 101, .int .u8 97, .int .u8 100, .int .u8 32, .int .u8 110, .int .u8 49, .int .u8 32, .int .u8 118, .int .u8 111, .int .u8 108, .int .u8 117, .int .u8 109, .int .u8 101, .int .u8 32, .int .u8 52, .int .u8 48, .int .u8 59, .int .u8 32, .int .u8 35, .int .u8 32, .int .u8 115, .int .u8 111] 23 rfl
  have k0 := hide ((Keep.refl w).alloc (.cells #[.int .u8 104, .int .u8 101, .int .u8 97, .int .u8 100, .int .u8 32, .int .u8 110, .int .u8 49, .int .u8 32, .int .u8 118, .int .u8 111, .int .u8 108, .int .u8 117, .int .u8 109, .int .u8 101, .int .u8 32, .int .u8 52, .int .u8 48, .int .u8 59, .int .u8 32, .int .u8 35, .int .u8 32, .int .u8 115, .int .u8 111] 5 (23, 24)))
  go_enter Try.func12, Try.ntmps12
  go_wp2_with fail
  clear hcv
  (refine ((unhide T1) _ _ (unhide HB)).mono ?_; rintro e w2 ⟨v, rfl, hts, hlo, hk⟩; replace k0 := hide ((unhide k0).trans hk); clear hk hlo)
  simp only [te, tn, tl] at hts ⊢
  have HTS := hide hts
  obtain ⟨ad, cap, rfl, h1, h3⟩ := ts_ex hts
  clear hts HB
  go_wp2_with fail
  (refine ((unhide T2) _ _ (unhide HTS)).mono ?_; rintro e w3 ⟨rfl, hk⟩; replace k0 := hide ((unhide k0).trans hk); clear hk)
  go_wp2_with fail
  (refine ((unhide T3) _).mono ?_; rintro e w4 ⟨rfl, rfl⟩)
  go_wp2_with fail
  (refine ((unhide T4) _).mono ?_; rintro e w4 ⟨rfl, rfl⟩)
  go_wp2_with fail
  go_ret
  exact ⟨rfl, unhide k0⟩
theorem awake_any (w : World) : Calls Try.prog 12 #[] w fun e w' => e = .returned (.bool true) ∧ Keep w w' := by
  refine awake_core w (sv (sp ex1)) (by rw [show (sv (sp ex1)).toList = sp ex1 from ByteArray.toList_mk _, ex_sp]; rfl) (hide fun w' v h => ?_) (hide fun w' v h => spell_any v ex1 w' (by decide) (by rw [ex_sp]; decide) h) (hide fun w' => ?_) (hide fun w' => ?_)
  · have := toks_any v ex0 w' (by decide) h
    rw [ex_T] at this
    exact this
  · have := res_any (sv [104, 101, 97, 100]) w'
    rw [show (sv [104, 101, 97, 100]).toList = [104, 101, 97, 100] from ByteArray.toList_mk _, show decide ([104, 101, 97, 100] ∈ words) = true by decide] at this
    exact this
  · have := res_any (sv [110, 49]) w'
    rw [show (sv [110, 49]).toList = [110, 49] from ByteArray.toList_mk _, show decide ([110, 49] ∈ words) = false by decide] at this
    exact this
end Go.Proofs.Ytpmfgnolojmimaa
