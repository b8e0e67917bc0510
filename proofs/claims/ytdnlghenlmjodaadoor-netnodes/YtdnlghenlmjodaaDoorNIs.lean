/- errors.Is at a fault of package net: is it that another token was wanted? -/
import Derived.Test.YtdnlghenlmjodaaDoorNDoes
import Derived.LaidEql
import Derived.Stop.Asserts
import Derived.RowKitTokens
namespace Go.Proofs.YtdnlghenlmjodaaDoor
open Go.RowKit Go.Extern.Stop Go.Stop Go.Extern
set_option linter.unusedVariables false
set_option linter.unusedSimpArgs false
set_option maxRecDepth 10000
theorem Tryd.isTypeOf (v : Value) (w : World) : (Extern.ReflectliteType.typeOf #[.iface 29 v]).run Tryd.prog w = .ok (.iface 91 (.agg #[.pointer (some ⟨1, 29, none⟩)])) w := by kernel_rfl
theorem Tryd.isComparable (w : World) : ((Extern.ReflectliteType.method fun t => do Rtype.noPackHeld "Comparable" t; (fun a => Value.bool a.comparable) <$> typeInfo t) #[.agg #[.pointer (some ⟨1, 29, none⟩)]]).run Tryd.prog w = .ok (.bool true) w := by kernel_rfl
theorem Tryd.isMethodComparable (v : Value) (w : World) : (Go.method 300 91 v "Comparable").run Tryd.prog w = .ok (107, v) w := by kernel_rfl
theorem Tryd.methodUnwrap (v : Value) (w : World) : (Go.method 300 40 v "Unwrap").run Tryd.prog w = .ok (101, v) w := by kernel_rfl
theorem Tryd.noIsF (v : Value) (xT : TypeId) (w : World) : (Instr.typeAssert (.iface 40 v) xT 166 true).run Tryd.prog w = .ok (.tuple #[.nilIface, .bool false]) w := run_typeAssert_lacksB Tryd.underlying166 (by kernel_rfl) (by kernel_rfl) v xT w
theorem Tryd.hasUnwrapF (v : Value) (xT : TypeId) (w : World) : (Instr.typeAssert (.iface 40 v) xT 99 true).run Tryd.prog w = .ok (.tuple #[.iface 40 v, .bool true]) w := run_typeAssert_hasB Tryd.underlying99 (by kernel_rfl) v xT w
theorem Tryd.noIsE (v : Value) (xT : TypeId) (w : World) : (Instr.typeAssert (.iface 29 v) xT 166 true).run Tryd.prog w = .ok (.tuple #[.nilIface, .bool false]) w := run_typeAssert_lacksB Tryd.underlying166 (by kernel_rfl) (by kernel_rfl) v xT w
theorem Tryd.noUnwrapE (v : Value) (xT : TypeId) (w : World) : (Instr.typeAssert (.iface 29 v) xT 99 true).run Tryd.prog w = .ok (.tuple #[.nilIface, .bool false]) w := run_typeAssert_lacksB Tryd.underlying99 (by kernel_rfl) (by kernel_rfl) v xT w
theorem Tryd.noUnwrapsE (v : Value) (xT : TypeId) (w : World) : (Instr.typeAssert (.iface 29 v) xT 100 true).run Tryd.prog w = .ok (.tuple #[.nilIface, .bool false]) w := run_typeAssert_lacksB Tryd.underlying100 (by kernel_rfl) (by kernel_rfl) v xT w
theorem is_nil (v : Value) (w : World) :
    Calls Tryd.prog 44 #[.nilIface, .iface 29 v] w fun e w' => e = .returned (.bool false) ∧ w' = w := by
  have hn := run_eql_iface_nil_left (P := Tryd.prog) w 29 v Tryd.underlying36
  go_enter Tryd.func44, Tryd.ntmps44
  go_wp2
  go_ret
  exact ⟨rfl, rfl⟩
set_option maxHeartbeats 1000000 in
theorem unwrap_any (x p : Int) (w : World) : Calls Tryd.prog 101 #[.agg #[.int .i64 x, .int .i64 p]] w fun e w' => e = .returned (.iface 29 (.int .i64 x)) ∧ Keep w w' := by
  go_enter Tryd.func101, Tryd.ntmps101
  go_wp2
  go_ret
  exact ⟨rfl, (Keep.refl w).alloc _⟩
theorem Tryd.eqlE (x y : Int) (w : World) : (binOp .eql 36 (.iface 29 (.int .i64 x)) (.iface 29 (.int .i64 y))).run Tryd.prog w = .ok (.bool (x == y)) w := by kernel_rfl
set_option maxHeartbeats 4000000 in
theorem is_core (x p : Int) (b : Bool) (w : World) (hb : (x == 50) = b) :
    Calls Tryd.prog 44 #[flt (x, p), .iface 29 (.int .i64 50)] w fun e w' => e = .returned (.bool b) ∧ Keep w w' := by
  have h8 := @run_callFunc_extern Tryd.prog 28 _ Extern.ReflectliteType.typeOf Tryd.func28 (by kernel_rfl) (by kernel_rfl) (by kernel_rfl) (by kernel_rfl)
  have h32 := @run_callFunc_extern Tryd.prog 107 _ (Extern.ReflectliteType.method fun t => do Rtype.noPackHeld "Comparable" t; pure (.bool (← typeInfo t).comparable)) Tryd.func107 (by kernel_rfl) (by kernel_rfl) (by kernel_rfl) (by kernel_rfl)
  have tT := Tryd.isTypeOf
  have cT := Tryd.isComparable
  have mR := Tryd.isMethodComparable
  have mU := Tryd.methodUnwrap
  have nE := Tryd.noIsE
  have uE := Tryd.noUnwrapE
  have vE := Tryd.noUnwrapsE
  have nF := Tryd.noIsF
  have uF := Tryd.hasUnwrapF
  have hq := Tryd.eqlE
  have hty := fun w => run_eql_iface_types (P := Tryd.prog) 40 29 (.agg #[.int .i64 x, .int .i64 p]) (.int .i64 50) Tryd.underlying36 (by decide) w
  have U := hide unwrap_any
  unfold flt
  go_enter Tryd.func44, Tryd.ntmps44
  go_wp2_with fail
  go_enter Tryd.func62, Tryd.ntmps62
  go_wp2_with fail
  refine wp_loop_rounds 2 ?_
  rw [rounds_succ]
  go_wp2_with fail
  (refine ((unhide U) _ _ _).mono ?_; rintro e w2 ⟨rfl, hk⟩; have HK2 := hide hk; clear hk)
  go_wp2_with fail
  rw [rounds_succ]
  cases b with
  | true =>
    go_wp2_with fail
    go_ret
    exact ⟨rfl, unhide HK2⟩
  | false =>
    go_wp2_with fail
    go_ret
    exact ⟨rfl, unhide HK2⟩
theorem is_want (p : Int) (w : World) : Calls Tryd.prog 44 #[flt (50, p), .iface 29 (.int .i64 50)] w fun e w' => e = .returned (.bool true) ∧ Keep w w' := is_core 50 p true w rfl
theorem is_long (p : Int) (w : World) : Calls Tryd.prog 44 #[flt (4, p), .iface 29 (.int .i64 50)] w fun e w' => e = .returned (.bool false) ∧ Keep w w' := is_core 4 p false w rfl
end Go.Proofs.YtdnlghenlmjodaaDoor
