/- Package lex: one token read, as the document says. -/
import Derived.Test.YtfjphcgipbgodaaDoorLRead
import Derived.Test.YtfjphcgipbgodaaDoorLNum
namespace Go.Proofs.YtfjphcgipbgodaaDoor
open Go.RowKit
set_option linter.unusedVariables false
set_option linter.unusedSimpArgs false
set_option maxRecDepth 10000
theorem tw_take (P : UInt8 → Bool) (r : List UInt8) : r.take (tw P r) = r.takeWhile P := (List.prefix_iff_eq_take.1 (List.takeWhile_prefix P)).symm
theorem en_take (c : UInt8) (r : List UInt8) : (c :: r).take (en (c :: r)) = c :: r.takeWhile (goes c) := by
  rw [en, Nat.add_comm, List.take_succ_cons, tw_take]
theorem en_all {c : UInt8} {r : List UInt8} {x : UInt8} (h : x ∈ (c :: r).take (en (c :: r))) : x = c ∨ goes c x = true := by
  rw [en_take, List.mem_cons] at h
  rcases h with h | h
  · exact .inl h
  · right
    have := List.all_takeWhile (l := r) (p := goes c)
    rw [List.all_eq_true] at this
    exact this x h
theorem en_digits {c : UInt8} {r : List UInt8} (h5 : kd c.toNat = 5) : ∀ x, x ∈ (c :: r).take (en (c :: r)) → kd x.toNat = 5 := by
  intro x h
  rcases en_all h with rfl | h
  · exact h5
  · unfold goes at h
    rw [on_iff] at h
    omega
/-- a piece of bytes, as a string -/
theorem conv_piece {w : World} {ad : Addr} {l : List UInt8} {i N : Nat} (C : Cy w (some ad) l.length (fun k => ((l.getD k 0).toNat : Int))) (hi : i ≤ N) (hN : N ≤ l.length) {t u : TypeId} (hs : Tryd.prog.underlying t = some (.slice 5)) (hu : Tryd.prog.underlying u = some .string) (c : Nat) :
    (convert t u (.slice (some (ad.add i)) (N - i) c)).run Tryd.prog w = .ok (.string (sv ((l.drop i).take (N - i)))) w := by
  have hl : ((l.drop i).take (N - i)).length = N - i := by rw [List.length_take, List.length_drop]; omega
  have h := run_convert_bytes_back (P := Tryd.prog) w t u 5 (ad.add i) c ((l.drop i).take (N - i)) hs Tryd.underlying5 hu (fun j hj => ?_)
  · rw [hl] at h; exact h
  · rw [hl] at hj
    obtain ⟨ad', e, _, hc⟩ := C (i + j) (by omega)
    injection e with e
    subst e
    rw [Addr.add_add, hc]
    congr 2
    show ((l.getD (i + j) 0).toNat : Int) = _
    rw [List.getD_eq_getElem?_getD, List.getElem?_eq_getElem (by omega)]
    simp
def rt : Except Int Tok → Tok
  | .ok t => t
  | .error _ => t0
def re : Except Int Tok → Int
  | .ok _ => 0
  | .error e => e
theorem read_any (v : Value) (l : List UInt8) (i : Nat) (w : World) (hl : l.length ≤ 70000) (hi : i ≤ l.length) (h : By w v l) :
    Calls Tryd.prog 32 #[v, .int .i64 (i : Int)] w fun e w' => e = .returned (.tuple #[tv (rt (one (l.drop i) i)), .int .i64 (re (one (l.drop i) i))]) ∧ Keep w w' := by
  by_cases hlt : i < l.length
  · obtain ⟨a, cap, e, hcap, hc⟩ := id h
    subst e
    obtain ⟨ad, rfl, hb, ci⟩ := hc i hlt
    have hd := drop_at l i hlt
    have h2 := en_le (l.drop i)
    have h1 : 1 ≤ en (l.drop i) := by rw [hd]; exact en_pos _ _
    rw [List.length_drop] at h2
    have HC : Hid (∀ W, Keep w W → W.cell? (ad.add i) = some (.int .u8 ((l.getD i 0).toNat : Int))) := fun W hk => by
      rw [Below.cell hk (by rw [add_block]; exact hb)]; exact ci
    have T2 := hide fun w' (hk : Keep w w') => end_any _ l i w' hl hlt (h.keep hk)
    have HV : Hid (∀ W, Keep w W → (convert 22 9 (.slice (some (ad.add i)) (i + en (l.drop i) - i) (cap - i))).run Tryd.prog W = .ok (.string (sv ((l.drop i).take (en (l.drop i))))) W) := fun W hk => by
      have := conv_piece (h.cy.keep hk) (show i ≤ i + en (l.drop i) by omega) (by omega) (t := 22) (u := 9) Tryd.underlying22 Tryd.underlying9 (cap - i)
      rw [Nat.add_sub_cancel_left] at this ⊢
      exact this
    have K := kind_any ((l.getD i 0).toNat : Int)
    have hdig : kd (l.getD i 0).toNat = 5 → ∀ x, x ∈ (l.drop i).take (en (l.drop i)) → kd x.toNat = 5 := by rw [hd]; exact en_digits
    have hlen : ((l.drop i).take (en (l.drop i))).length = en (l.drop i) := by rw [List.length_take, List.length_drop]; omega
    have h7e : kd (l.getD i 0).toNat = 7 → en (l.drop i) = 1 := by
      rw [hd]
      intro h7
      have : tw (goes (l.getD i 0)) (l.drop (i + 1)) = 0 := tw_none fun x => by unfold goes; rw [h7]; unfold on; simp
      show 1 + tw (goes (l.getD i 0)) (l.drop (i + 1)) = 1
      rw [this]
    have e1 : one (l.drop i) i = (if kd (l.getD i 0).toNat = 4 then (if 24 < en (l.drop i) then .error 4 else .ok ⟨1, (l.drop i).take (en (l.drop i)), 0, i⟩)
      else if kd (l.getD i 0).toNat = 5 then (if 18 < en (l.drop i) then .error 4 else .ok ⟨2, (l.drop i).take (en (l.drop i)), num ((l.drop i).take (en (l.drop i))), i⟩)
      else if kd (l.getD i 0).toNat = 7 then .ok ⟨3, (l.drop i).take (en (l.drop i)), 0, i⟩
      else .error 40) := by
      conv => lhs; rw [hd]
      simp only [one]
      rw [← hd]
    rw [e1]
    by_cases k4 : kd (l.getD i 0).toNat = 4
    · rw [if_pos k4]
      rw [k4] at K
      by_cases hm : 24 < en (l.drop i)
      · rw [if_pos hm]
        exact read_wlong ad l.length cap i (i + en (l.drop i)) _ _ w hl hlt (by omega) (by omega) hcap (by omega) hb HC (hide K) T2 HV
      · rw [if_neg hm]
        exact read_word ad l.length cap i (i + en (l.drop i)) _ _ w hl hlt (by omega) (by omega) hcap (by omega) hb HC (hide K) T2 HV
    · rw [if_neg k4]
      by_cases k5 : kd (l.getD i 0).toNat = 5
      · rw [if_pos k5]
        rw [k5] at K
        by_cases hm : 18 < en (l.drop i)
        · rw [if_pos hm]
          exact read_nlong ad l.length cap i (i + en (l.drop i)) _ _ w hl hlt (by omega) (by omega) hcap (by omega) hb HC (hide K) T2 HV
        · rw [if_neg hm]
          exact read_num ad l.length cap i (i + en (l.drop i)) _ _ _ w hl hlt (by omega) (by omega) hcap (by omega) hb HC (hide K) T2 HV (hide (number_any ((l.drop i).take (en (l.drop i))) (by rw [hlen]; omega) (hdig k5)))
      · rw [if_neg k5]
        by_cases k7 : kd (l.getD i 0).toNat = 7
        · rw [if_pos k7]
          rw [k7] at K
          have := h7e k7
          exact read_sign ad l.length cap i (i + en (l.drop i)) _ _ w hl hlt (by omega) (by omega) hcap (by omega) hb HC (hide K) T2 HV
        · rw [if_neg k7]
          exact read_byte ad l.length cap i (i + en (l.drop i)) _ _ _ w hl hlt (by omega) (by omega) hcap (by simpa using k4) (by simpa using k5) (by simpa using k7) hb HC (hide K) T2 HV
  · have e : i = l.length := by omega
    subst e
    obtain ⟨a, cap, rfl⟩ := h.shape
    have := read_end a l.length cap w hl
    rw [List.drop_length]
    exact this
end Go.Proofs.YtfjphcgipbgodaaDoor
