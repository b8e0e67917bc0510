/- errors.As at a fault of package net, by its contracts. -/
import Derived.Test.YtfjphcgipbgodaaDoorNAs
import Derived.Test.YtfjphcgipbgodaaDoorNInv
namespace Go.Proofs.YtfjphcgipbgodaaDoor
open Go.RowKit Go.Extern.Stop Go.Stop Go.Extern
set_option linter.unusedVariables false
set_option linter.unusedSimpArgs false
set_option maxRecDepth 10000
theorem Tryd.loadF (b : Nat) (x p : Int) (W : World) (h0 : W.cell? ⟨b, 0, none⟩ = some (.int .i64 x)) (h1 : W.cell? ⟨b, 1, none⟩ = some (.int .i64 p)) : (loadVar 55 ⟨b, 0, none⟩).run Tryd.prog W = .ok (.agg #[.int .i64 x, .int .i64 p]) W := by
  have hA : ∀ W, (isAgg 55).run Tryd.prog W = .ok true W := fun W => by kernel_rfl
  have hS : ∀ W, (sizeOf 55).run Tryd.prog W = .ok 2 W := fun W => by kernel_rfl
  simp [loadVar, loadCells, loadCellsFrom, hA, hS, h0, h1, Addr.add, Result.andThen]
theorem Tryd.setF (tb b : Nat) (x p : Int) (o0 o1 : Value) (W : World) (hb0 : W.cell? ⟨b, 0, none⟩ = some (.int .i64 x)) (hb1 : W.cell? ⟨b, 1, none⟩ = some (.int .i64 p)) (ht0 : W.cell? ⟨tb, 0, none⟩ = some o0) (hf0 : W.frozen? ⟨tb, 0, none⟩ = false) (ht1 : W.cell? ⟨tb, 1, none⟩ = some o1) (hf1 : W.frozen? ⟨tb, 1, none⟩ = false) :
    (ReflectliteValue.set #[.agg #[.pointer (some ⟨1, 55, none⟩), .pointer (some ⟨tb, 0, none⟩), .int .u64 409], .agg #[.pointer (some ⟨1, 55, none⟩), .pointer (some ⟨b, 0, none⟩), .int .u64 153]]).run Tryd.prog W
      = .ok (.tuple #[]) ((W.setCell ⟨tb, 0, none⟩ (.int .i64 x)).setCell ⟨tb, 1, none⟩ (.int .i64 p)) := by
  have hS : ∀ W, (sizeOf 55).run Tryd.prog W = .ok 2 W := fun W => by kernel_rfl
  have hl := Tryd.loadF b x p W hb0 hb1
  rw [rls]
  simp only [Sem.run_bind, Tryd.partsFa, Tryd.partsF, Result.andThen]
  simp [ReflectliteValue.flagAddr, hl, Result.andThen, Tryd.directF, storeVar, Value.cells, hS, storeCells, Addr.add]
  rw [run_store Tryd.prog W ⟨tb, 0, none⟩ _ _ (by rfl)]
  simp only [ht0, hf0, Bool.false_eq_true, if_false]
  have h2 : (W.setCell ⟨tb, 0, none⟩ (.int .i64 x)).cell? ⟨tb, 1, none⟩ = some o1 := by rw [set_ne _ _ _ _ (by simp)]; exact ht1
  have h3 : (W.setCell ⟨tb, 0, none⟩ (.int .i64 x)).frozen? ⟨tb, 1, none⟩ = false := by rw [World.frozen?_setCell]; exact hf1
  rw [run_store Tryd.prog (W.setCell ⟨tb, 0, none⟩ (.int .i64 x)) ⟨tb, 1, none⟩ (.int .i64 p) _ (by rfl)]
  simp [h2, h3]
set_option maxHeartbeats 4000000 in
theorem as_num (tb : Nat) (x p : Int) (old : Value) (w : World) (hg : w.cell? ⟨0, 0, none⟩ = some (.iface 116 (.agg #[.pointer (some ⟨1, 51, none⟩)]))) (ht0 : w.cell? ⟨tb, 0, none⟩ = some old) (hf0 : w.frozen? ⟨tb, 0, none⟩ = false) :
    Calls Tryd.prog 12 #[.iface 55 (.agg #[.int .i64 x, .int .i64 p]), .iface 57 (.pointer (some ⟨tb, 0, none⟩))] w fun ev w' => ev = .returned (.bool true) ∧ ∃ w2, Keep w w2 ∧ w' = w2.setCell ⟨tb, 0, none⟩ (.int .i64 x) := by
  have h6 := @run_callFunc_extern Tryd.prog 24 _ (fun args => ReflectliteValue.unpack (args.getD 0 (.tuple #[]))) Tryd.func24 (by kernel_rfl) (by kernel_rfl) (by kernel_rfl) (by kernel_rfl)
  have h7 := @run_callFunc_extern Tryd.prog 25 _ (ReflectliteValue.methodAny (ReflectliteValue.valueError "reflectlite.Value.Type" 0) (fun t _ _ _ => ReflectliteType.toType t)) Tryd.func25 (by kernel_rfl) (by kernel_rfl) (by kernel_rfl) (by kernel_rfl)
  have h8 := @run_callFunc_extern Tryd.prog 26 _ (ReflectliteValue.method (ReflectliteValue.valueError "reflectlite.Value.IsNil" 0) ReflectliteValue.isNil) Tryd.func26 (by kernel_rfl) (by kernel_rfl) (by kernel_rfl) (by kernel_rfl)
  have h27 := @run_callFunc_extern Tryd.prog 109 _ (ReflectliteType.abiMethod fun t => do pure (.int .u8 (← Rtype.kind t))) Tryd.func109 (by kernel_rfl) (by kernel_rfl) (by kernel_rfl) (by kernel_rfl)
  have h37 := @run_callFunc_extern Tryd.prog 121 _ (ReflectliteType.method ReflectliteType.elem) Tryd.func121 (by kernel_rfl) (by kernel_rfl) (by kernel_rfl) (by kernel_rfl)
  have h38 := @run_callFunc_extern Tryd.prog 122 _ (ReflectliteType.relation "Implements" ReflectliteType.implements_) Tryd.func122 (by kernel_rfl) (by kernel_rfl) (by kernel_rfl) (by kernel_rfl)
  have h10 := @run_callFunc_extern Tryd.prog 41 _ ReflectliteType.typeOf Tryd.func41 (by kernel_rfl) (by kernel_rfl) (by kernel_rfl) (by kernel_rfl)
  have h35 := @run_callFunc_extern Tryd.prog 119 _ (ReflectliteType.relation "AssignableTo" ReflectliteType.assignableTo) Tryd.func119 (by kernel_rfl) (by kernel_rfl) (by kernel_rfl) (by kernel_rfl)
  have h11 := @run_callFunc_extern Tryd.prog 42 _ (ReflectliteValue.method (ReflectliteValue.valueError "reflectlite.Value.Elem" 0) ReflectliteValue.elem) Tryd.func42 (by kernel_rfl) (by kernel_rfl) (by kernel_rfl) (by kernel_rfl)
  have h12 := @run_callFunc_extern Tryd.prog 43 _ ReflectliteValue.set Tryd.func43 (by kernel_rfl) (by kernel_rfl) (by kernel_rfl) (by kernel_rfl)
  have a0 := Tryd.methodKind
  have a1 := Tryd.methodElem
  have a2 := Tryd.methodImplements
  have a3 := Tryd.methodAssignableTo
  have a4 := Tryd.noAsF
  have a5 := Tryd.kindPE
  have a6 := Tryd.kindE
  have a7 := Tryd.valueOfPE
  have a8 := Tryd.valueOfE
  have a9 := Tryd.typePE
  have a10 := Tryd.elemPE
  have a11 := Tryd.implementsE
  have a12 := Tryd.typeOfF
  have a13 := Tryd.typeOfE
  have a14 := Tryd.assignableE
  have a15 := Tryd.assignableFE
  have a16 := Tryd.hasUnwrapF
  have a17 := Tryd.methodUnwrap
  have U := hide unwrap_any
  have HG := hide hg
  have HT := hide ht0
  have HF := hide hf0
  have n8 := Tryd.isNilPE ⟨w.heap.size, 0, none⟩ ⟨tb, 0, none⟩ ((w.alloc (.cells #[.pointer (some ⟨tb, 0, none⟩)] 57)).alloc (.cells #[.pointer (some ⟨1, 57, none⟩), .pointer (some ⟨w.heap.size, 0, none⟩), .int .u64 150] 82)) (by simp [go_sem])
  have hg2 : ((w.alloc (.cells #[.pointer (some ⟨tb, 0, none⟩)] 57)).alloc (.cells #[.pointer (some ⟨1, 57, none⟩), .pointer (some ⟨w.heap.size, 0, none⟩), .int .u64 150] 82)).cell? ⟨0, 0, none⟩ = some (.iface 116 (.agg #[.pointer (some ⟨1, 51, none⟩)])) := (((Keep.refl w).alloc _).alloc _).cell' hg
  clear ht0 hf0 hg
  go_enter Tryd.func12, Tryd.ntmps12
  go_wp2_with fail
  go_enter Tryd.func27, Tryd.ntmps27
  go_wp2_with fail
  refine wp_loop_rounds 2 ?_
  rw [rounds_succ]
  go_wp2_with fail
  (refine ((unhide U) _ _ _).mono ?_; rintro e w4 ⟨rfl, hk⟩; have HK4 : Hid (Keep (((w.alloc (.cells #[.pointer (some ⟨tb, 0, none⟩)] 57)).alloc (.cells #[.pointer (some ⟨1, 57, none⟩), .pointer (some ⟨w.heap.size, 0, none⟩), .int .u64 150] 82)).alloc (.cells #[.pointer (some ⟨1, 57, none⟩), .pointer (some ⟨w.heap.size, 0, none⟩), .int .u64 150] 82)) w4) := hide hk; clear hk)
  have HKw : Hid (Keep w w4) := hide (((((Keep.refl w).alloc _).alloc _).alloc _).trans (unhide HK4))
  have v0 : w4.cell? ⟨w.heap.size + 1 + 1, 0, none⟩ = some (.pointer (some ⟨1, 57, none⟩)) := (unhide HK4).cell' (by simp [go_sem])
  have v1 : w4.cell? ⟨w.heap.size + 1 + 1, 1, none⟩ = some (.pointer (some ⟨w.heap.size, 0, none⟩)) := (unhide HK4).cell' (by simp [go_sem])
  have v2 : w4.cell? ⟨w.heap.size + 1 + 1, 2, none⟩ = some (.int .u64 150) := (unhide HK4).cell' (by simp [go_sem])
  have el := Tryd.elemVPE ⟨w.heap.size, 0, none⟩ ⟨tb, 0, none⟩ w4 ((unhide HK4).cell' (by simp [go_sem]))
  have st := Tryd.setE ⟨tb, 0, none⟩ ⟨w4.heap.size, 0, none⟩ x old (w4.alloc (.cells #[.int .i64 x] 29)) (by simp [go_sem]) (((unhide HKw).alloc _).cell' (unhide HT)) (((unhide HKw).alloc _).frozen' (unhide HT) (unhide HF))
  go_wp2_with fail
  rw [rounds_succ]
  go_wp2_with fail
  go_ret
  exact ⟨rfl, _, (unhide HKw).alloc _, rfl⟩
set_option maxHeartbeats 4000000 in
theorem as_self (tb : Nat) (x p : Int) (o0 o1 : Value) (w : World) (hg : w.cell? ⟨0, 0, none⟩ = some (.iface 116 (.agg #[.pointer (some ⟨1, 51, none⟩)]))) (ht0 : w.cell? ⟨tb, 0, none⟩ = some o0) (hf0 : w.frozen? ⟨tb, 0, none⟩ = false) (ht1 : w.cell? ⟨tb, 1, none⟩ = some o1) (hf1 : w.frozen? ⟨tb, 1, none⟩ = false) :
    Calls Tryd.prog 12 #[.iface 55 (.agg #[.int .i64 x, .int .i64 p]), .iface 58 (.pointer (some ⟨tb, 0, none⟩))] w fun ev w' => ev = .returned (.bool true) ∧ ∃ w2, Keep w w2 ∧ w' = (w2.setCell ⟨tb, 0, none⟩ (.int .i64 x)).setCell ⟨tb, 1, none⟩ (.int .i64 p) := by
  have h6 := @run_callFunc_extern Tryd.prog 24 _ (fun args => ReflectliteValue.unpack (args.getD 0 (.tuple #[]))) Tryd.func24 (by kernel_rfl) (by kernel_rfl) (by kernel_rfl) (by kernel_rfl)
  have h7 := @run_callFunc_extern Tryd.prog 25 _ (ReflectliteValue.methodAny (ReflectliteValue.valueError "reflectlite.Value.Type" 0) (fun t _ _ _ => ReflectliteType.toType t)) Tryd.func25 (by kernel_rfl) (by kernel_rfl) (by kernel_rfl) (by kernel_rfl)
  have h8 := @run_callFunc_extern Tryd.prog 26 _ (ReflectliteValue.method (ReflectliteValue.valueError "reflectlite.Value.IsNil" 0) ReflectliteValue.isNil) Tryd.func26 (by kernel_rfl) (by kernel_rfl) (by kernel_rfl) (by kernel_rfl)
  have h27 := @run_callFunc_extern Tryd.prog 109 _ (ReflectliteType.abiMethod fun t => do pure (.int .u8 (← Rtype.kind t))) Tryd.func109 (by kernel_rfl) (by kernel_rfl) (by kernel_rfl) (by kernel_rfl)
  have h37 := @run_callFunc_extern Tryd.prog 121 _ (ReflectliteType.method ReflectliteType.elem) Tryd.func121 (by kernel_rfl) (by kernel_rfl) (by kernel_rfl) (by kernel_rfl)
  have h38 := @run_callFunc_extern Tryd.prog 122 _ (ReflectliteType.relation "Implements" ReflectliteType.implements_) Tryd.func122 (by kernel_rfl) (by kernel_rfl) (by kernel_rfl) (by kernel_rfl)
  have h10 := @run_callFunc_extern Tryd.prog 41 _ ReflectliteType.typeOf Tryd.func41 (by kernel_rfl) (by kernel_rfl) (by kernel_rfl) (by kernel_rfl)
  have h35 := @run_callFunc_extern Tryd.prog 119 _ (ReflectliteType.relation "AssignableTo" ReflectliteType.assignableTo) Tryd.func119 (by kernel_rfl) (by kernel_rfl) (by kernel_rfl) (by kernel_rfl)
  have h11 := @run_callFunc_extern Tryd.prog 42 _ (ReflectliteValue.method (ReflectliteValue.valueError "reflectlite.Value.Elem" 0) ReflectliteValue.elem) Tryd.func42 (by kernel_rfl) (by kernel_rfl) (by kernel_rfl) (by kernel_rfl)
  have h12 := @run_callFunc_extern Tryd.prog 43 _ ReflectliteValue.set Tryd.func43 (by kernel_rfl) (by kernel_rfl) (by kernel_rfl) (by kernel_rfl)
  have a0 := Tryd.methodKind
  have a1 := Tryd.methodElem
  have a2 := Tryd.methodImplements
  have a3 := Tryd.methodAssignableTo
  have a4 := Tryd.noAsF
  have a5 := Tryd.kindPF
  have a6 := Tryd.kindF
  have a7 := Tryd.valueOfPF
  have a8 := Tryd.valueOfF
  have a9 := Tryd.typePF
  have a10 := Tryd.elemPF
  have a11 := Tryd.implementsF
  have a12 := Tryd.typeOfF
  have a13 := Tryd.typeOfE
  have a14 := Tryd.assignableF
  have a15 := Tryd.assignableFE
  have a16 := Tryd.hasUnwrapF
  have a17 := Tryd.methodUnwrap
  have HK3 := hide ((((Keep.refl w).alloc (.cells #[.pointer (some ⟨tb, 0, none⟩)] 58)).alloc (.cells #[.pointer (some ⟨1, 58, none⟩), .pointer (some ⟨w.heap.size, 0, none⟩), .int .u64 150] 82)).alloc (.cells #[.pointer (some ⟨1, 58, none⟩), .pointer (some ⟨w.heap.size, 0, none⟩), .int .u64 150] 82))
  have n8 := Tryd.isNilPF ⟨w.heap.size, 0, none⟩ ⟨tb, 0, none⟩ ((w.alloc (.cells #[.pointer (some ⟨tb, 0, none⟩)] 58)).alloc (.cells #[.pointer (some ⟨1, 58, none⟩), .pointer (some ⟨w.heap.size, 0, none⟩), .int .u64 150] 82)) (by simp [go_sem])
  have hg2 : ((w.alloc (.cells #[.pointer (some ⟨tb, 0, none⟩)] 58)).alloc (.cells #[.pointer (some ⟨1, 58, none⟩), .pointer (some ⟨w.heap.size, 0, none⟩), .int .u64 150] 82)).cell? ⟨0, 0, none⟩ = some (.iface 116 (.agg #[.pointer (some ⟨1, 51, none⟩)])) := (((Keep.refl w).alloc _).alloc _).cell' hg
  have el := Tryd.elemVPF ⟨w.heap.size, 0, none⟩ ⟨tb, 0, none⟩ (((w.alloc (.cells #[.pointer (some ⟨tb, 0, none⟩)] 58)).alloc (.cells #[.pointer (some ⟨1, 58, none⟩), .pointer (some ⟨w.heap.size, 0, none⟩), .int .u64 150] 82)).alloc (.cells #[.pointer (some ⟨1, 58, none⟩), .pointer (some ⟨w.heap.size, 0, none⟩), .int .u64 150] 82)) (by simp [go_sem])
  have st := Tryd.setF tb (w.heap.size + 1 + 1 + 1) x p o0 o1 ((((w.alloc (.cells #[.pointer (some ⟨tb, 0, none⟩)] 58)).alloc (.cells #[.pointer (some ⟨1, 58, none⟩), .pointer (some ⟨w.heap.size, 0, none⟩), .int .u64 150] 82)).alloc (.cells #[.pointer (some ⟨1, 58, none⟩), .pointer (some ⟨w.heap.size, 0, none⟩), .int .u64 150] 82)).alloc (.cells #[.int .i64 x, .int .i64 p] 55)) (by simp [go_sem]) (by simp [go_sem]) (((unhide HK3).alloc _).cell' ht0) (((unhide HK3).alloc _).frozen' ht0 hf0) (((unhide HK3).alloc _).cell' ht1) (((unhide HK3).alloc _).frozen' ht1 hf1)
  clear ht0 hf0 ht1 hf1 hg
  go_enter Tryd.func12, Tryd.ntmps12
  go_wp2_with fail
  go_enter Tryd.func27, Tryd.ntmps27
  go_wp2_with fail
  refine wp_loop_rounds 1 ?_
  rw [rounds_succ]
  go_wp2_with fail
  go_ret
  exact ⟨rfl, _, (unhide HK3).alloc _, rfl⟩
end Go.Proofs.YtfjphcgipbgodaaDoor
