/- errors.Is at a fault of package net: is it that another token was wanted? -/
import Derived.Test.YtmplckdpddmifaaGreatDoorNSt
import Derived.LaidEql
import Derived.Stop.Asserts
import Derived.RowKitTokens
namespace Go.Proofs.YtmplckdpddmifaaGreatDoor
open Go.RowKit Go.Extern.Stop Go.Stop Go.Extern
set_option linter.unusedVariables false
set_option linter.unusedSimpArgs false
set_option maxRecDepth 10000
theorem Tryz.isTypeOf (v : Value) (w : World) : (Extern.ReflectliteType.typeOf #[.iface 29 v]).run Tryz.prog w = .ok (.iface 132 (.agg #[.pointer (some ⟨1, 29, none⟩)])) w := by kernel_rfl
theorem Tryz.isComparable (w : World) : ((Extern.ReflectliteType.method fun t => do Rtype.noPackHeld "Comparable" t; (fun a => Value.bool a.comparable) <$> typeInfo t) #[.agg #[.pointer (some ⟨1, 29, none⟩)]]).run Tryz.prog w = .ok (.bool true) w := by kernel_rfl
theorem Tryz.isMethodComparable (v : Value) (w : World) : (Go.method 324 132 v "Comparable").run Tryz.prog w = .ok (134, v) w := by kernel_rfl
theorem Tryz.methodUnwrap (v : Value) (w : World) : (Go.method 324 44 v "Unwrap").run Tryz.prog w = .ok (128, v) w := by kernel_rfl
theorem Tryz.noIsF (v : Value) (xT : TypeId) (w : World) : (Instr.typeAssert (.iface 44 v) xT 191 true).run Tryz.prog w = .ok (.tuple #[.nilIface, .bool false]) w := run_typeAssert_lacksB Tryz.underlying191 (by kernel_rfl) (by kernel_rfl) v xT w
theorem Tryz.hasUnwrapF (v : Value) (xT : TypeId) (w : World) : (Instr.typeAssert (.iface 44 v) xT 140 true).run Tryz.prog w = .ok (.tuple #[.iface 44 v, .bool true]) w := run_typeAssert_hasB Tryz.underlying140 (by kernel_rfl) v xT w
theorem Tryz.noIsE (v : Value) (xT : TypeId) (w : World) : (Instr.typeAssert (.iface 29 v) xT 191 true).run Tryz.prog w = .ok (.tuple #[.nilIface, .bool false]) w := run_typeAssert_lacksB Tryz.underlying191 (by kernel_rfl) (by kernel_rfl) v xT w
theorem Tryz.noUnwrapE (v : Value) (xT : TypeId) (w : World) : (Instr.typeAssert (.iface 29 v) xT 140 true).run Tryz.prog w = .ok (.tuple #[.nilIface, .bool false]) w := run_typeAssert_lacksB Tryz.underlying140 (by kernel_rfl) (by kernel_rfl) v xT w
theorem Tryz.noUnwrapsE (v : Value) (xT : TypeId) (w : World) : (Instr.typeAssert (.iface 29 v) xT 141 true).run Tryz.prog w = .ok (.tuple #[.nilIface, .bool false]) w := run_typeAssert_lacksB Tryz.underlying141 (by kernel_rfl) (by kernel_rfl) v xT w
theorem is_nil (v : Value) (w : World) :
    Calls Tryz.prog 69 #[.nilIface, .iface 29 v] w fun e w' => e = .returned (.bool false) ∧ w' = w := by
  have hn := run_eql_iface_nil_left (P := Tryz.prog) w 29 v Tryz.underlying40
  go_enter Tryz.func69, Tryz.ntmps69
  go_wp2
  go_ret
  exact ⟨rfl, rfl⟩
set_option maxHeartbeats 1000000 in
theorem unwrap_any (x p : Int) (w : World) : Calls Tryz.prog 128 #[.agg #[.int .i64 x, .int .i64 p]] w fun e w' => e = .returned (.iface 29 (.int .i64 x)) ∧ Keep w w' := by
  go_enter Tryz.func128, Tryz.ntmps128
  go_wp2
  go_ret
  exact ⟨rfl, (Keep.refl w).alloc _⟩
theorem Tryz.eqlE (x y : Int) (w : World) : (binOp .eql 40 (.iface 29 (.int .i64 x)) (.iface 29 (.int .i64 y))).run Tryz.prog w = .ok (.bool (x == y)) w := by kernel_rfl
set_option maxHeartbeats 4000000 in
theorem is_core (x p : Int) (b : Bool) (w : World) (hb : (x == 50) = b) :
    Calls Tryz.prog 69 #[flt (x, p), .iface 29 (.int .i64 50)] w fun e w' => e = .returned (.bool b) ∧ Keep w w' := by
  have h8 := @run_callFunc_extern Tryz.prog 55 _ Extern.ReflectliteType.typeOf Tryz.func55 (by kernel_rfl) (by kernel_rfl) (by kernel_rfl) (by kernel_rfl)
  have h32 := @run_callFunc_extern Tryz.prog 134 _ (Extern.ReflectliteType.method fun t => do Rtype.noPackHeld "Comparable" t; pure (.bool (← typeInfo t).comparable)) Tryz.func134 (by kernel_rfl) (by kernel_rfl) (by kernel_rfl) (by kernel_rfl)
  have tT := Tryz.isTypeOf
  have cT := Tryz.isComparable
  have mR := Tryz.isMethodComparable
  have mU := Tryz.methodUnwrap
  have nE := Tryz.noIsE
  have uE := Tryz.noUnwrapE
  have vE := Tryz.noUnwrapsE
  have nF := Tryz.noIsF
  have uF := Tryz.hasUnwrapF
  have hq := Tryz.eqlE
  have hty := fun w => run_eql_iface_types (P := Tryz.prog) 44 29 (.agg #[.int .i64 x, .int .i64 p]) (.int .i64 50) Tryz.underlying40 (by decide) w
  have U := hide unwrap_any
  unfold flt
  go_enter Tryz.func69, Tryz.ntmps69
  go_wp2_with fail
  go_enter Tryz.func89, Tryz.ntmps89
  go_wp2_with fail
  refine wp_loop_rounds 2 ?_
  rw [rounds_succ]
  go_wp2_with fail
  (refine ((uq U) _ _ _).mono ?_; rintro e w2 ⟨rfl, hk⟩; have HK2 := hide hk; clear hk)
  go_wp2_with fail
  rw [rounds_succ]
  cases b with
  | true =>
    go_wp2_with fail
    go_ret
    exact ⟨rfl, uq HK2⟩
  | false =>
    go_wp2_with fail
    go_ret
    exact ⟨rfl, uq HK2⟩
theorem is_want (p : Int) (w : World) : Calls Tryz.prog 69 #[flt (50, p), .iface 29 (.int .i64 50)] w fun e w' => e = .returned (.bool true) ∧ Keep w w' := is_core 50 p true w rfl
theorem is_long (p : Int) (w : World) : Calls Tryz.prog 69 #[flt (4, p), .iface 29 (.int .i64 50)] w fun e w' => e = .returned (.bool false) ∧ Keep w w' := is_core 4 p false w rfl
end Go.Proofs.YtmplckdpddmifaaGreatDoor
