/- Arguments opened: bytes, a token, tokens. -/
import Derived.Test.YtmplckdpddmifaaGreatDoorLTok
import Derived.WalkKit
import Derived.ProofKit
import Derived.OpenShut
import Derived.ShutString
import Derived.ChangeOld
import Derived.Below
import Derived.Lib.SmallJoins
import Derived.JoinedOf
import Derived.Stop.Joined
namespace Go.Proofs.YtmplckdpddmifaaGreatDoor
open Go.ChangeShapes Go.WideShapes Go.ChangeAt Go.RowKit Go.Joins
open Go.WideMaps Go.WideElems
open Go.ChangeMaps (open_string shut_string)
set_option linter.unusedVariables false
set_option maxRecDepth 10000
theorem byte_of {x : Int} (h : (Lit.int .u8 x).wf = true) : ((UInt8.ofNat x.toNat).toNat : Int) = x := by
  have hb := bounds_u8 h
  rw [UInt8.toNat_ofNat']
  omega
/-- a slice of bytes, opened -/
theorem open_bytes {H : Type} {enc : TypeId × Value → H} {P : Program} {w : World} {base : Nat} {spare : Nat → Bool} {held : Bool} {r : Reach} {b0 : Nat} {t e : TypeId} {v : Value} {d : DataW H} {p : List MemPlace} (ht : P.underlying t = some (.slice e)) (he : P.underlying e = some (.int .u8)) (hCe : P.cellsOf e = 1)
    (hv : Value.okWide P w r b0 t v) (h : DataW.Trod enc P w base spare held t v d p) : ∃ l : List UInt8, By w v l := by
  obtain ⟨a0, len, cap, rfl⟩ := okWide_slice ht hv
  obtain ⟨fuel, hf⟩ := h
  rcases open_ints ht he hCe hf with ⟨hcs, _⟩ | ⟨a, len', cap', zs, hcs, _, hl, hm, hz, hx, hcell, hwz⟩
  · simp [Value.cells] at hcs
    obtain ⟨rfl, rfl, rfl⟩ := hcs
    exact ⟨[], by_nil w⟩
  · simp [Value.cells] at hcs
    obtain ⟨rfl, rfl, rfl⟩ := hcs
    have hzl : len ≤ zs.length := by rw [hz]; split <;> omega
    refine ⟨(zs.take len).map fun n => UInt8.ofNat n.toNat, some a, cap, ?_, ?_, fun k hk => ⟨a, rfl, ?_, ?_⟩⟩
    · simp; omega
    · simp; omega
    · simp at hk
      have := World.block_lt_of_cell? w (a.add k) (hcell k (by omega))
      rw [add_block] at this
      exact this
    · simp at hk
      have h1 : k < len := by omega
      have h2 : k < zs.length := by omega
      have e1 : zs.getD k 0 = zs[k] := by rw [List.getD_eq_getElem?_getD, List.getElem?_eq_getElem h2]; rfl
      have e2 : ((zs.take len).map fun n => UInt8.ofNat n.toNat).getD k 0 = UInt8.ofNat (zs[k]).toNat := by
        rw [List.getD_eq_getElem?_getD, List.getElem?_map, List.getElem?_take_of_lt h1, List.getElem?_eq_getElem h2]; rfl
      rw [hcell k (by omega), e1, e2, byte_of (hwz _ (List.getElem_mem h2))]
theorem list_of {α : Type} {P : Nat → α → Prop} (z : α) : ∀ n, (∀ i, i < n → ∃ p, P i p) → ∃ L : List α, L.length = n ∧ ∀ i, i < n → P i (L.getD i z)
  | 0, _ => ⟨[], rfl, fun i h => by omega⟩
  | n + 1, h => by
    obtain ⟨L, h1, h2⟩ := list_of z n (fun i hi => h i (by omega))
    obtain ⟨p, hp⟩ := h n (by omega)
    refine ⟨L ++ [p], by simp [h1], fun i hi => ?_⟩
    by_cases hin : i < n
    · have := h2 i hin
      rw [List.getD_eq_getElem?_getD, List.getElem?_append_left (by omega), ← List.getD_eq_getElem?_getD]
      exact this
    · have : i = n := by omega
      subst this
      rw [List.getD_eq_getElem?_getD, List.getElem?_append_right (by omega), h1]
      simpa using hp
theorem mapM_some_at {α β : Type} {f : α → Option β} {l : List α} {r : List β} (h : l.mapM f = some r) (i : Nat) (a : α) (ha : l[i]? = some a) : ∃ b, r[i]? = some b ∧ f a = some b := Lib.mapM_at h i a ha
theorem sv_of (s : ByteArray) : sv s.data.toList = s := by simp [sv]
/-- a token, opened -/
theorem open_tok {H : Type} {enc : TypeId × Value → H} {P : Program} {w : World} {base : Nat} {spare : Nat → Bool} {held : Bool} {r : Reach} {b0 : Nat} {t : TypeId} {f0 f1 f2 f3 : Field} {v : Value} {d : DataW H} {p : List MemPlace} (ht : P.underlying t = some (.struct #[f0, f1, f2, f3])) (hone : Go.Deep.oneCellFields P #[f0, f1, f2, f3] = true) (hC : P.cellsOf t = 4)
    (i0 : P.underlying f0.type = some (.int .i64)) (i1 : P.underlying f1.type = some .string) (i2 : P.underlying f2.type = some (.int .i64)) (i3 : P.underlying f3.type = some (.int .i64))
    (hv : Value.okWide P w r b0 t v) (h : DataW.Trod enc P w base spare held t v d p) : ∃ x : Tok, v = tv x := by
  obtain ⟨v0, v1, v2, v3, y0, y1, y2, y3, n, rfl, _, _, h0, h1, h2, h3⟩ := open_agg4 ht hone hC hv h
  obtain ⟨a0, e0, _, _⟩ := DataW.trod_int i0 h0
  obtain ⟨a1, e1, _⟩ := DataW.trod_string i1 h1
  obtain ⟨a2, e2, _, _⟩ := DataW.trod_int i2 h2
  obtain ⟨a3, e3, _, _⟩ := DataW.trod_int i3 h3
  simp at e0 e1 e2 e3
  subst e0 e1 e2 e3
  exact ⟨⟨a0, a1.data.toList, a2, a3⟩, by unfold tv; simp only [sv_of]⟩
/-- a slice of tokens, opened -/
theorem open_toks {H : Type} {enc : TypeId × Value → H} {P : Program} {w : World} {base : Nat} {spare : Nat → Bool} {held : Bool} {r : Reach} {b0 : Nat} {t e : TypeId} {f0 f1 f2 f3 : Field} {v : Value} {d : DataW H} {p : List MemPlace} (ht : P.underlying t = some (.slice e)) (he : P.underlying e = some (.struct #[f0, f1, f2, f3])) (hone : Go.Deep.oneCellFields P #[f0, f1, f2, f3] = true) (hCe : P.cellsOf e = 4)
    (i0 : P.underlying f0.type = some (.int .i64)) (i1 : P.underlying f1.type = some .string) (i2 : P.underlying f2.type = some (.int .i64)) (i3 : P.underlying f3.type = some (.int .i64))
    (hv : Value.okWide P w r b0 t v) (h : DataW.Trod enc P w base spare held t v d p) : ∃ L : List Tok, Ts w v L := by
  obtain ⟨a0, len, cap, rfl⟩ := okWide_slice ht hv
  obtain ⟨fuel, hf⟩ := h
  rcases Go.Deep.open_slice ht hf with ⟨hcs, _⟩ | ⟨a, len', cap', m, n, D, Pl, hcs, _, hl, hm, hmm, _, hall⟩
  · simp [Value.cells] at hcs
    obtain ⟨rfl, rfl, rfl⟩ := hcs
    exact ⟨[], ts_nil w⟩
  · simp [Value.cells] at hcs
    obtain ⟨rfl, rfl, rfl⟩ := hcs
    obtain ⟨o0, k0⟩ := Go.Deep.hone_of hone 0 f0 rfl
    obtain ⟨o1, k1⟩ := Go.Deep.hone_of hone 1 f1 rfl
    obtain ⟨o2, k2⟩ := Go.Deep.hone_of hone 2 f2 rfl
    obtain ⟨o3, k3⟩ := Go.Deep.hone_of hone 3 f3 rfl
    have hml : len ≤ m := by rw [hmm]; split <;> omega
    have each : ∀ i, i < len → ∃ q : Tok, a.block < w.heap.size ∧ Tc w (a.add (i * 4)) q := by
      intro i hi
      obtain ⟨cs', hc, htr⟩ := hall i (by omega)
      rw [hCe] at hc
      unfold World.cells? at hc
      split at hc
      · obtain ⟨c0, g0, e0⟩ := mapM_some_at hc 0 0 rfl
        obtain ⟨c1, g1, e1⟩ := mapM_some_at hc 1 1 rfl
        obtain ⟨c2, g2, e2⟩ := mapM_some_at hc 2 2 rfl
        obtain ⟨c3, g3, e3⟩ := mapM_some_at hc 3 3 rfl
        have hl4 : cs'.length = 4 := by simpa using mapM_some_length hc
        obtain ⟨x0, x1, x2, x3, rfl⟩ : ∃ x0 x1 x2 x3, cs' = [x0, x1, x2, x3] := by
          match cs', hl4 with
          | [x0, x1, x2, x3], _ => exact ⟨x0, x1, x2, x3, rfl⟩
        obtain ⟨y0, y1, y2, y3, nn, _, _, t0, t1, t2, t3⟩ := trod_struct4 he htr
        rw [o0, k0] at t0
        rw [o1, k1] at t1
        rw [o2, k2] at t2
        rw [o3, k3] at t3
        obtain ⟨q0, s0, _, _⟩ := DataW.trod_int i0 t0
        obtain ⟨q1, s1, _⟩ := DataW.trod_string i1 t1
        obtain ⟨q2, s2, _, _⟩ := DataW.trod_int i2 t2
        obtain ⟨q3, s3, _, _⟩ := DataW.trod_int i3 t3
        simp at s0 s1 s2 s3
        subst s0 s1 s2 s3
        simp at g0 g1 g2 g3
        subst g0 g1 g2 g3
        have z0 : (a.add (i * 4)).add 0 = a.add (i * 4) := by simp [Addr.add]
        have z1 : (a.add (i * 4)).add 1 = ⟨(a.add (i * 4)).block, (a.add (i * 4)).off + 1, none⟩ := by simp [Addr.add]
        have z2 : (a.add (i * 4)).add 2 = ⟨(a.add (i * 4)).block, (a.add (i * 4)).off + 2, none⟩ := by simp [Addr.add]
        have z3 : (a.add (i * 4)).add 3 = ⟨(a.add (i * 4)).block, (a.add (i * 4)).off + 3, none⟩ := by simp [Addr.add]
        rw [z0] at e0
        rw [z1] at e1
        rw [z2] at e2
        rw [z3] at e3
        have hb := World.block_lt_of_cell? w (a.add (i * 4)) e0
        rw [add_block] at hb
        exact ⟨⟨q0, q1.data.toList, q2, q3⟩, hb, e0, by show _ = some (Value.string (sv q1.data.toList)); rw [sv_of]; exact e1, e2, e3⟩
      · cases hc
    obtain ⟨L, hL, hE⟩ := list_of t0 len each
    subst hL
    exact ⟨L, some a, cap, rfl, hl, fun k hk => ⟨a, rfl, (hE k hk).1, (hE k hk).2⟩⟩
end Go.Proofs.YtmplckdpddmifaaGreatDoor
