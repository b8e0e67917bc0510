/- Package net: steps that are laid in order: what walks share. -/
import Derived.Test.YtmplckdpddmifaaGreatDoorNMay
namespace Go.Proofs.YtmplckdpddmifaaGreatDoor
open Go.RowKit
attribute [local go_sem ↓] Go.wp_at_zero Go.wp_at_succ
set_option linter.unusedVariables false
set_option linter.unusedSimpArgs false
set_option maxRecDepth 10000
theorem hs_keep {E : Env} {w w' : World} (h : ∀ b, E.S b → b < w.heap.size) (k : Keep w w') : ∀ b, E.S b → b < w'.heap.size := fun b hb => Nat.lt_of_lt_of_le (h b hb) k.size
theorem lo_keep {E : Env} {w w' : World} (h : E.lo ≤ w.heap.size) (k : Keep w w') : E.lo ≤ w'.heap.size := Nat.le_trans h k.size
theorem chain_keep {E : Env} {w w' : World} (k : Keep w w') : ∀ {m : Nat} {ss : List (Value × List D × Sp)}, Chain E w m ss → Chain E w' m ss
  | _, [], _ => trivial
  | _, _ :: _, h => ⟨h.1.keep k, chain_keep k h.2⟩
theorem chain_snoc {E : Env} {w w' : World} {m : Nat} {ss : List (Value × List D × Sp)} {v : Value} {zs : List D} {p : Sp} (h : Chain E w m ss) (k : Keep w w') (hd : Does E w' v (m + (zer ss).length) zs p) : Chain E w' m (ss ++ [(v, zs, p)]) := by
  induction ss generalizing m with
  | nil => exact ⟨hd, trivial⟩
  | cons s ss ih => exact ⟨h.1.keep k, ih h.2 (by rw [Nat.add_assoc, ← List.length_append]; exact hd)⟩
theorem new_steps (w : World) (t : TypeId) (ss : List (Value × List D × Sp)) : ∀ i s, ss[i]? = some s → (w.alloc (.cells (ss.map (fun s => s.1)).toArray t)).cell? ⟨w.heap.size, i, none⟩ = some s.1 := by
  intro i s h
  rw [World.cell?_alloc_mark]
  simp [h]
theorem post_ret {E : Env} {w : World} {rest : List D} {n : Nat} {X : Rs} {e : Ending} {w' : World} (h : Post E w rest n X e w') : ∃ v, e = .returned v := by
  obtain ⟨_, h⟩ := h
  cases X with
  | error x => exact ⟨_, h⟩
  | ok q => exact ⟨_, h.1⟩
theorem post_pre {E : Env} {w w1 : World} {rest : List D} {n : Nat} {X : Rs} {e : Ending} {w' : World} (k : Fr E.S w w1) (h : Post E w1 rest n X e w') : Post E w rest n X e w' := ⟨k.trans h.1, h.2⟩
end Go.Proofs.YtmplckdpddmifaaGreatDoor
