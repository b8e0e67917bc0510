/- errors.As at a fault of package net: its number, and itself. -/
import Derived.Test.YthceiikgecoimaaGreatDoorNFrac
import Derived.Test.YthceiikgecoimaaGreatDoorNThe
import Derived.Test.YthceiikgecoimaaGreatDoorNRead
import Derived.Test.YthceiikgecoimaaGreatDoorLVal
import Derived.Test.YthceiikgecoimaaGreatDoorLReadA
import Derived.Test.YthceiikgecoimaaGreatDoorLFact
namespace Go.Proofs.YthceiikgecoimaaGreatDoor
open Go.RowKit Go.Extern.Stop Go.Stop Go.Extern
set_option linter.unusedVariables false
set_option linter.unusedSimpArgs false
set_option maxRecDepth 10000
theorem rlm (z:Sem Value) (f:TypeId->Addr->Nat->Nat->Sem Value) (v:Value):
  ReflectliteValue.method z f #[v]=(do match <- ReflectliteValue.parts v with|none=>z|some (t,a,fl)=>f t a fl (fl % 32)):=rfl
theorem rls (v x:Value):ReflectliteValue.set #[v,x]=(do
  let (some (dst,a,fl),some (src,b,_)):=(<- ReflectliteValue.parts v,<- ReflectliteValue.parts x)
   |unsupported (.noEntry "extern/(internal/reflectlite.Value).Set.zeroValue")
  if fl / ReflectliteValue.flagAddr % 2==0 then unsupported (.noEntry "extern/(internal/reflectlite.Value).Set.unaddressable")
  let val <- loadVar src b
  if <- Rtype.directlyAssignable dst src then storeVar dst a val
  else if <- Rtype.implements dst src then
   if(<- Rtype.kind src)==20 then
    match val with
    | .nilIface=>unsupported (.noEntry "extern/reflectlite: a nil value of one interface type handed on as a value of another")
    | _=>storeVar dst a val
   else storeVar dst a (.iface src val)
  else panicString ("reflectlite.Set: value of type " ++(<- Rtype.spelt src)++ " is not assignable to type " ++(<- Rtype.spelt dst))
  pure (.tuple #[])):=rfl
theorem Tryz.methodKind (h:Value) (w:World):(Go.method 394 173 (.agg #[h]) "Kind").run Tryz.prog w= .ok (187,h) w:=by kernel_rfl
theorem Tryz.methodElem (h:Value) (w:World):(Go.method 394 173 (.agg #[h]) "Elem").run Tryz.prog w= .ok (200,.agg #[h]) w:=by kernel_rfl
theorem Tryz.methodImplements (h:Value) (w:World):(Go.method 394 173 (.agg #[h]) "Implements").run Tryz.prog w= .ok (201,.agg #[h]) w:=by kernel_rfl
theorem Tryz.methodAssignableTo (h:Value) (w:World):(Go.method 394 173 (.agg #[h]) "AssignableTo").run Tryz.prog w= .ok (198,.agg #[h]) w:=by kernel_rfl
theorem Tryz.noAsF (v:Value) (xT:TypeId) (w:World):(Instr.typeAssert (.iface 66 v) xT 178 true).run Tryz.prog w= .ok (.tuple #[.nilIface,.bool false]) w:=run_typeAssert_lacksB Tryz.underlying178 (by kernel_rfl) (by kernel_rfl) v xT w
theorem Tryz.kindPE (w:World):((ReflectliteType.abiMethod λt=>(λa:Nat=>Value.int IntKind.u8 (a:Int))<$> Rtype.kind t) #[.pointer (some ⟨5,68,none⟩)]).run Tryz.prog w= .ok (.int .u8 22) w:=by kernel_rfl
theorem Tryz.kindPF (w:World):((ReflectliteType.abiMethod λt=>(λa:Nat=>Value.int IntKind.u8 (a:Int))<$> Rtype.kind t) #[.pointer (some ⟨5,69,none⟩)]).run Tryz.prog w= .ok (.int .u8 22) w:=by kernel_rfl
theorem Tryz.kindE (w:World):((ReflectliteType.abiMethod λt=>(λa:Nat=>Value.int IntKind.u8 (a:Int))<$> Rtype.kind t) #[.pointer (some ⟨5,30,none⟩)]).run Tryz.prog w= .ok (.int .u8 2) w:=by kernel_rfl
theorem Tryz.kindF (w:World):((ReflectliteType.abiMethod λt=>(λa:Nat=>Value.int IntKind.u8 (a:Int))<$> Rtype.kind t) #[.pointer (some ⟨5,66,none⟩)]).run Tryz.prog w= .ok (.int .u8 25) w:=by kernel_rfl
theorem Tryz.valueOfPE (t:Addr) (w:World):(ReflectliteValue.unpack (.iface 68 (.pointer (some t)))).run Tryz.prog w
  = .ok (.agg #[.pointer (some ⟨5,68,none⟩),.pointer (some ⟨w.heap.size,0,none⟩),.int .u64 150]) (w.alloc (.cells #[.pointer (some t)] 68)):=by kernel_rfl
theorem Tryz.valueOfE (x:Int) (w:World):(ReflectliteValue.unpack (.iface 30 (.int .i64 x))).run Tryz.prog w
  = .ok (.agg #[.pointer (some ⟨5,30,none⟩),.pointer (some ⟨w.heap.size,0,none⟩),.int .u64 130]) (w.alloc (.cells #[.int .i64 x] 30)):=by kernel_rfl
theorem Tryz.typePE (a:Addr) (w:World):(ReflectliteValue.methodAny (ReflectliteValue.valueError "reflectlite.Value.Type" 0) (λt _ _ _=>ReflectliteType.toType t) #[.agg #[.pointer (some ⟨5,68,none⟩),.pointer (some a),.int .u64 150]]).run Tryz.prog w
  = .ok (.iface 173 (.agg #[.pointer (some ⟨5,68,none⟩)])) w:=by kernel_rfl
theorem Tryz.partsPE (a:Addr) (w:World):(ReflectliteValue.parts (.agg #[.pointer (some ⟨5,68,none⟩),.pointer (some a),.int .u64 150])).run Tryz.prog w= .ok (some (68,a,150)) w:=by kernel_rfl
theorem Tryz.isNilPE (a q:Addr) (W:World) (ha:W.cell? a=some (.pointer (some q))):
  (ReflectliteValue.method (ReflectliteValue.valueError "reflectlite.Value.IsNil" 0) ReflectliteValue.isNil #[.agg #[.pointer (some ⟨5,68,none⟩),.pointer (some a),.int .u64 150]]).run Tryz.prog W= .ok (.bool false) W:=by
 rw[rlm];simp only[Sem.run_bind,Tryz.partsPE,Result.andThen];simp[ReflectliteValue.isNil,loadVar,isAgg,underlying,Tryz.underlying68,ha,Result.andThen]
theorem Tryz.elemPE (w:World):(ReflectliteType.method ReflectliteType.elem #[.agg #[.pointer (some ⟨5,68,none⟩)]]).run Tryz.prog w= .ok (.iface 173 (.agg #[.pointer (some ⟨5,30,none⟩)])) w:=by kernel_rfl
theorem Tryz.implementsE (w:World):(ReflectliteType.relation "Implements" ReflectliteType.implements_ #[.agg #[.pointer (some ⟨5,30,none⟩)],.iface 173 (.agg #[.pointer (some ⟨5,62,none⟩)])]).run Tryz.prog w= .ok (.bool true) w:=by kernel_rfl
theorem Tryz.typeOfE (v:Value) (w:World):(ReflectliteType.typeOf #[.iface 30 v]).run Tryz.prog w= .ok (.iface 173 (.agg #[.pointer (some ⟨5,30,none⟩)])) w:=by kernel_rfl
theorem Tryz.assignableE (w:World):(ReflectliteType.relation "AssignableTo" ReflectliteType.assignableTo #[.agg #[.pointer (some ⟨5,30,none⟩)],.iface 173 (.agg #[.pointer (some ⟨5,30,none⟩)])]).run Tryz.prog w= .ok (.bool true) w:=by kernel_rfl
theorem Tryz.elemOfPE (w:World):(Rtype.elem? 68).run Tryz.prog w= .ok (some 30) w:=by kernel_rfl
theorem Tryz.mkE (q:Addr) (w:World):(ReflectliteValue.mk 30 q ReflectliteValue.flagAddr).run Tryz.prog w= .ok (.agg #[.pointer (some ⟨5,30,none⟩),.pointer (some q),.int .u64 386]) w:=by kernel_rfl
theorem Tryz.elemVPE (a q:Addr) (W:World) (ha:W.cell? a=some (.pointer (some q))):
  (ReflectliteValue.method (ReflectliteValue.valueError "reflectlite.Value.Elem" 0) ReflectliteValue.elem #[.agg #[.pointer (some ⟨5,68,none⟩),.pointer (some a),.int .u64 150]]).run Tryz.prog W
   = .ok (.agg #[.pointer (some ⟨5,30,none⟩),.pointer (some q),.int .u64 386]) W:=by
 rw[rlm];simp only[Sem.run_bind,Tryz.partsPE,Result.andThen];simp[ReflectliteValue.elem,loadVar,isAgg,underlying,Tryz.underlying68,ha,Result.andThen,Tryz.elemOfPE,Tryz.mkE]
theorem Tryz.partsEa (a:Addr) (w:World):(ReflectliteValue.parts (.agg #[.pointer (some ⟨5,30,none⟩),.pointer (some a),.int .u64 386])).run Tryz.prog w= .ok (some (30,a,386)) w:=by kernel_rfl
theorem Tryz.partsE (a:Addr) (w:World):(ReflectliteValue.parts (.agg #[.pointer (some ⟨5,30,none⟩),.pointer (some a),.int .u64 130])).run Tryz.prog w= .ok (some (30,a,130)) w:=by kernel_rfl
theorem Tryz.directE (w:World):(Rtype.directlyAssignable 30 30).run Tryz.prog w= .ok true w:=by kernel_rfl
theorem Tryz.valueOfPF (t:Addr) (w:World):(ReflectliteValue.unpack (.iface 69 (.pointer (some t)))).run Tryz.prog w
  = .ok (.agg #[.pointer (some ⟨5,69,none⟩),.pointer (some ⟨w.heap.size,0,none⟩),.int .u64 150]) (w.alloc (.cells #[.pointer (some t)] 69)):=by kernel_rfl
theorem Tryz.valueOfF (x p:Int) (w:World):(ReflectliteValue.unpack (.iface 66 (.agg #[.int .i64 x,.int .i64 p]))).run Tryz.prog w
  = .ok (.agg #[.pointer (some ⟨5,66,none⟩),.pointer (some ⟨w.heap.size,0,none⟩),.int .u64 153]) (w.alloc (.cells #[.int .i64 x,.int .i64 p] 66)):=by kernel_rfl
theorem Tryz.typePF (a:Addr) (w:World):(ReflectliteValue.methodAny (ReflectliteValue.valueError "reflectlite.Value.Type" 0) (λt _ _ _=>ReflectliteType.toType t) #[.agg #[.pointer (some ⟨5,69,none⟩),.pointer (some a),.int .u64 150]]).run Tryz.prog w
  = .ok (.iface 173 (.agg #[.pointer (some ⟨5,69,none⟩)])) w:=by kernel_rfl
theorem Tryz.partsPF (a:Addr) (w:World):(ReflectliteValue.parts (.agg #[.pointer (some ⟨5,69,none⟩),.pointer (some a),.int .u64 150])).run Tryz.prog w= .ok (some (69,a,150)) w:=by kernel_rfl
theorem Tryz.isNilPF (a q:Addr) (W:World) (ha:W.cell? a=some (.pointer (some q))):
  (ReflectliteValue.method (ReflectliteValue.valueError "reflectlite.Value.IsNil" 0) ReflectliteValue.isNil #[.agg #[.pointer (some ⟨5,69,none⟩),.pointer (some a),.int .u64 150]]).run Tryz.prog W= .ok (.bool false) W:=by
 rw[rlm];simp only[Sem.run_bind,Tryz.partsPF,Result.andThen];simp[ReflectliteValue.isNil,loadVar,isAgg,underlying,Tryz.underlying69,ha,Result.andThen]
theorem Tryz.elemPF (w:World):(ReflectliteType.method ReflectliteType.elem #[.agg #[.pointer (some ⟨5,69,none⟩)]]).run Tryz.prog w= .ok (.iface 173 (.agg #[.pointer (some ⟨5,66,none⟩)])) w:=by kernel_rfl
theorem Tryz.implementsF (w:World):(ReflectliteType.relation "Implements" ReflectliteType.implements_ #[.agg #[.pointer (some ⟨5,66,none⟩)],.iface 173 (.agg #[.pointer (some ⟨5,62,none⟩)])]).run Tryz.prog w= .ok (.bool true) w:=by kernel_rfl
theorem Tryz.typeOfF (v:Value) (w:World):(ReflectliteType.typeOf #[.iface 66 v]).run Tryz.prog w= .ok (.iface 173 (.agg #[.pointer (some ⟨5,66,none⟩)])) w:=by kernel_rfl
theorem Tryz.assignableF (w:World):(ReflectliteType.relation "AssignableTo" ReflectliteType.assignableTo #[.agg #[.pointer (some ⟨5,66,none⟩)],.iface 173 (.agg #[.pointer (some ⟨5,66,none⟩)])]).run Tryz.prog w= .ok (.bool true) w:=by kernel_rfl
theorem Tryz.elemOfPF (w:World):(Rtype.elem? 69).run Tryz.prog w= .ok (some 66) w:=by kernel_rfl
theorem Tryz.mkF (q:Addr) (w:World):(ReflectliteValue.mk 66 q ReflectliteValue.flagAddr).run Tryz.prog w= .ok (.agg #[.pointer (some ⟨5,66,none⟩),.pointer (some q),.int .u64 409]) w:=by kernel_rfl
theorem Tryz.elemVPF (a q:Addr) (W:World) (ha:W.cell? a=some (.pointer (some q))):
  (ReflectliteValue.method (ReflectliteValue.valueError "reflectlite.Value.Elem" 0) ReflectliteValue.elem #[.agg #[.pointer (some ⟨5,69,none⟩),.pointer (some a),.int .u64 150]]).run Tryz.prog W
   = .ok (.agg #[.pointer (some ⟨5,66,none⟩),.pointer (some q),.int .u64 409]) W:=by
 rw[rlm];simp only[Sem.run_bind,Tryz.partsPF,Result.andThen];simp[ReflectliteValue.elem,loadVar,isAgg,underlying,Tryz.underlying69,ha,Result.andThen,Tryz.elemOfPF,Tryz.mkF]
theorem Tryz.partsFa (a:Addr) (w:World):(ReflectliteValue.parts (.agg #[.pointer (some ⟨5,66,none⟩),.pointer (some a),.int .u64 409])).run Tryz.prog w= .ok (some (66,a,409)) w:=by kernel_rfl
theorem Tryz.partsF (a:Addr) (w:World):(ReflectliteValue.parts (.agg #[.pointer (some ⟨5,66,none⟩),.pointer (some a),.int .u64 153])).run Tryz.prog w= .ok (some (66,a,153)) w:=by kernel_rfl
theorem Tryz.directF (w:World):(Rtype.directlyAssignable 66 66).run Tryz.prog w= .ok true w:=by kernel_rfl
theorem Tryz.assignableFE (w:World):(ReflectliteType.relation "AssignableTo" ReflectliteType.assignableTo #[.agg #[.pointer (some ⟨5,66,none⟩)],.iface 173 (.agg #[.pointer (some ⟨5,30,none⟩)])]).run Tryz.prog w= .ok (.bool false) w:=by kernel_rfl
theorem Tryz.setE (ta b:Addr) (x:Int) (old:Value) (W:World) (hb:W.cell? b=some (.int .i64 x)) (ht:W.cell? ta=some old) (hf:W.frozen? ta=false):
  (ReflectliteValue.set #[.agg #[.pointer (some ⟨5,30,none⟩),.pointer (some ta),.int .u64 386],.agg #[.pointer (some ⟨5,30,none⟩),.pointer (some b),.int .u64 130]]).run Tryz.prog W
   = .ok (.tuple #[]) (W.setCell ta (.int .i64 x)):=by
 rw[rls];simp only[Sem.run_bind,Tryz.partsEa,Tryz.partsE,Result.andThen];simp[ReflectliteValue.flagAddr,loadVar,isAgg,underlying,Tryz.underlying30,hb,Result.andThen,Tryz.directE,storeVar,Value.cells,storeCells,Addr.add];rw[run_store Tryz.prog W ta _ _ (by rfl)];simp[ht,hf]
theorem Tryz.loadF (b:Nat) (x p:Int) (W:World) (h0:W.cell? ⟨b,0,none⟩=some (.int .i64 x)) (h1:W.cell? ⟨b,1,none⟩=some (.int .i64 p)):(loadVar 66 ⟨b,0,none⟩).run Tryz.prog W= .ok (.agg #[.int .i64 x,.int .i64 p]) W:=by
 have hA:∀ W,(isAgg 66).run Tryz.prog W= .ok true W:=λW=>by kernel_rfl
 have hS:∀ W,(sizeOf 66).run Tryz.prog W= .ok 2 W:=λW=>by kernel_rfl
 simp[loadVar,loadCells,loadCellsFrom,hA,hS,h0,h1,Addr.add,Result.andThen]
theorem Tryz.setF (tb b:Nat) (x p:Int) (o0 o1:Value) (W:World) (hb0:W.cell? ⟨b,0,none⟩=some (.int .i64 x)) (hb1:W.cell? ⟨b,1,none⟩=some (.int .i64 p)) (ht0:W.cell? ⟨tb,0,none⟩=some o0) (hf0:W.frozen? ⟨tb,0,none⟩=false) (ht1:W.cell? ⟨tb,1,none⟩=some o1) (hf1:W.frozen? ⟨tb,1,none⟩=false):
  (ReflectliteValue.set #[.agg #[.pointer (some ⟨5,66,none⟩),.pointer (some ⟨tb,0,none⟩),.int .u64 409],.agg #[.pointer (some ⟨5,66,none⟩),.pointer (some ⟨b,0,none⟩),.int .u64 153]]).run Tryz.prog W
   = .ok (.tuple #[]) ((W.setCell ⟨tb,0,none⟩ (.int .i64 x)).setCell ⟨tb,1,none⟩ (.int .i64 p)):=by
 have hS:∀ W,(sizeOf 66).run Tryz.prog W= .ok 2 W:=λW=>by kernel_rfl
 have hl:=Tryz.loadF b x p W hb0 hb1;rw[rls];simp only[Sem.run_bind,Tryz.partsFa,Tryz.partsF,Result.andThen];simp[ReflectliteValue.flagAddr,hl,Result.andThen,Tryz.directF,storeVar,Value.cells,hS,storeCells,Addr.add];rw[run_store Tryz.prog W ⟨tb,0,none⟩ _ _ (by rfl)];simp only[ht0,hf0,Bool.false_eq_true,if_false];have h2:(W.setCell ⟨tb,0,none⟩ (.int .i64 x)).cell? ⟨tb,1,none⟩=some o1:=by rw[zb9 _ _ _ _ (by simp)];exact ht1
 have h3:(W.setCell ⟨tb,0,none⟩ (.int .i64 x)).frozen? ⟨tb,1,none⟩=false:=by rw[World.frozen?_setCell];exact hf1
 rw[run_store Tryz.prog (W.setCell ⟨tb,0,none⟩ (.int .i64 x)) ⟨tb,1,none⟩ (.int .i64 p) _ (by rfl)];simp[h2,h3]
set_option maxHeartbeats 4000000 in
theorem zrF (tb:Nat) (x p:Int) (old:Value) (w:World) (hg:w.cell? ⟨0,0,none⟩=some (.iface 173 (.agg #[.pointer (some ⟨5,62,none⟩)]))) (ht0:w.cell? ⟨tb,0,none⟩=some old) (hf0:w.frozen? ⟨tb,0,none⟩=false):
  Calls Tryz.prog 23 #[.iface 66 (.agg #[.int .i64 x,.int .i64 p]),.iface 68 (.pointer (some ⟨tb,0,none⟩))] w λev w'=>ev= .returned (.bool true)/\∃ w2,Keep w w2/\w'=w2.setCell ⟨tb,0,none⟩ (.int .i64 x):=by
 have h6:=@run_callFunc_extern Tryz.prog 57 _ (λargs=>ReflectliteValue.unpack (args.getD 0 (.tuple #[]))) Tryz.func57 (by kernel_rfl) (by kernel_rfl) (by kernel_rfl) (by kernel_rfl);have h7:=@run_callFunc_extern Tryz.prog 58 _ (ReflectliteValue.methodAny (ReflectliteValue.valueError "reflectlite.Value.Type" 0) (λt _ _ _=>ReflectliteType.toType t)) Tryz.func58 (by kernel_rfl) (by kernel_rfl) (by kernel_rfl) (by kernel_rfl);have h8:=@run_callFunc_extern Tryz.prog 59 _ (ReflectliteValue.method (ReflectliteValue.valueError "reflectlite.Value.IsNil" 0) ReflectliteValue.isNil) Tryz.func59 (by kernel_rfl) (by kernel_rfl) (by kernel_rfl) (by kernel_rfl);have h27:=@run_callFunc_extern Tryz.prog 187 _ (ReflectliteType.abiMethod λt=>do pure (.int .u8 (<- Rtype.kind t))) Tryz.func187 (by kernel_rfl) (by kernel_rfl) (by kernel_rfl) (by kernel_rfl);have h37:=@run_callFunc_extern Tryz.prog 200 _ (ReflectliteType.method ReflectliteType.elem) Tryz.func200 (by kernel_rfl) (by kernel_rfl) (by kernel_rfl) (by kernel_rfl);have h38:=@run_callFunc_extern Tryz.prog 201 _ (ReflectliteType.relation "Implements" ReflectliteType.implements_) Tryz.func201 (by kernel_rfl) (by kernel_rfl) (by kernel_rfl) (by kernel_rfl);have h10:=@run_callFunc_extern Tryz.prog 92 _ ReflectliteType.typeOf Tryz.func92 (by kernel_rfl) (by kernel_rfl) (by kernel_rfl) (by kernel_rfl);have h35:=@run_callFunc_extern Tryz.prog 198 _ (ReflectliteType.relation "AssignableTo" ReflectliteType.assignableTo) Tryz.func198 (by kernel_rfl) (by kernel_rfl) (by kernel_rfl) (by kernel_rfl);have h11:=@run_callFunc_extern Tryz.prog 93 _ (ReflectliteValue.method (ReflectliteValue.valueError "reflectlite.Value.Elem" 0) ReflectliteValue.elem) Tryz.func93 (by kernel_rfl) (by kernel_rfl) (by kernel_rfl) (by kernel_rfl);have h12:=@run_callFunc_extern Tryz.prog 94 _ ReflectliteValue.set Tryz.func94 (by kernel_rfl) (by kernel_rfl) (by kernel_rfl) (by kernel_rfl);have a0:=Tryz.methodKind;have a1:=Tryz.methodElem;have a2:=Tryz.methodImplements;have a3:=Tryz.methodAssignableTo;have a4:=Tryz.noAsF;have a5:=Tryz.kindPE;have a6:=Tryz.kindE;have a7:=Tryz.valueOfPE;have a8:=Tryz.valueOfE;have a9:=Tryz.typePE;have a10:=Tryz.elemPE;have a11:=Tryz.implementsE;have a12:=Tryz.typeOfF;have a13:=Tryz.typeOfE;have a14:=Tryz.assignableE;have a15:=Tryz.assignableFE;have a16:=Tryz.hasUnwrapF;have a17:=Tryz.methodUnwrap;have U:=zh zfi;have HG:=zh hg;have HT:=zh ht0;have HF:=zh hf0;have n8:=Tryz.isNilPE ⟨w.heap.size,0,none⟩ ⟨tb,0,none⟩ ((w.alloc (.cells #[.pointer (some ⟨tb,0,none⟩)] 68)).alloc (.cells #[.pointer (some ⟨5,68,none⟩),.pointer (some ⟨w.heap.size,0,none⟩),.int .u64 150] 131)) (by simp[go_sem]);have hg2:((w.alloc (.cells #[.pointer (some ⟨tb,0,none⟩)] 68)).alloc (.cells #[.pointer (some ⟨5,68,none⟩),.pointer (some ⟨w.heap.size,0,none⟩),.int .u64 150] 131)).cell? ⟨0,0,none⟩=some (.iface 173 (.agg #[.pointer (some ⟨5,62,none⟩)])):=(((zk w).alloc _).alloc _).cell' hg;clear ht0 hf0 hg;go_enter Tryz.func23,Tryz.ntmps23;go_wp2_with fail
 go_enter Tryz.func60,Tryz.ntmps60;go_wp2_with fail
 refine wp_loop_rounds 2 ?_;rw[rounds_succ];go_wp2_with fail
 (refine((uq U) _ _ _).mono ?_;rintro e w4 ⟨rfl,hk⟩;have HK4:Hid (Keep (((w.alloc (.cells #[.pointer (some ⟨tb,0,none⟩)] 68)).alloc (.cells #[.pointer (some ⟨5,68,none⟩),.pointer (some ⟨w.heap.size,0,none⟩),.int .u64 150] 131)).alloc (.cells #[.pointer (some ⟨5,68,none⟩),.pointer (some ⟨w.heap.size,0,none⟩),.int .u64 150] 131)) w4):=zh hk;clear hk);have HKw:Hid (Keep w w4):=zh (((((zk w).alloc _).alloc _).alloc _).trans (uq HK4));have v0:w4.cell? ⟨w.heap.size+1+1,0,none⟩=some (.pointer (some ⟨5,68,none⟩)):=(uq HK4).cell' (by simp[go_sem]);have v1:w4.cell? ⟨w.heap.size+1+1,1,none⟩=some (.pointer (some ⟨w.heap.size,0,none⟩)):=(uq HK4).cell' (by simp[go_sem]);have v2:w4.cell? ⟨w.heap.size+1+1,2,none⟩=some (.int .u64 150):=(uq HK4).cell' (by simp[go_sem]);have el:=Tryz.elemVPE ⟨w.heap.size,0,none⟩ ⟨tb,0,none⟩ w4 ((uq HK4).cell' (by simp[go_sem]));have st:=Tryz.setE ⟨tb,0,none⟩ ⟨w4.heap.size,0,none⟩ x old (w4.alloc (.cells #[.int .i64 x] 30)) (by simp[go_sem]) (((uq HKw).alloc _).cell' (uq HT)) (((uq HKw).alloc _).frozen' (uq HT) (uq HF));go_wp2_with fail
 rw[rounds_succ];go_wp2_with fail
 go_ret;exact⟨rfl,_,(uq HKw).alloc _,rfl⟩
set_option maxHeartbeats 4000000 in
theorem zpi (tb:Nat) (x p:Int) (o0 o1:Value) (w:World) (hg:w.cell? ⟨0,0,none⟩=some (.iface 173 (.agg #[.pointer (some ⟨5,62,none⟩)]))) (ht0:w.cell? ⟨tb,0,none⟩=some o0) (hf0:w.frozen? ⟨tb,0,none⟩=false) (ht1:w.cell? ⟨tb,1,none⟩=some o1) (hf1:w.frozen? ⟨tb,1,none⟩=false):
  Calls Tryz.prog 23 #[.iface 66 (.agg #[.int .i64 x,.int .i64 p]),.iface 69 (.pointer (some ⟨tb,0,none⟩))] w λev w'=>ev= .returned (.bool true)/\∃ w2,Keep w w2/\w'=(w2.setCell ⟨tb,0,none⟩ (.int .i64 x)).setCell ⟨tb,1,none⟩ (.int .i64 p):=by
 have h6:=@run_callFunc_extern Tryz.prog 57 _ (λargs=>ReflectliteValue.unpack (args.getD 0 (.tuple #[]))) Tryz.func57 (by kernel_rfl) (by kernel_rfl) (by kernel_rfl) (by kernel_rfl);have h7:=@run_callFunc_extern Tryz.prog 58 _ (ReflectliteValue.methodAny (ReflectliteValue.valueError "reflectlite.Value.Type" 0) (λt _ _ _=>ReflectliteType.toType t)) Tryz.func58 (by kernel_rfl) (by kernel_rfl) (by kernel_rfl) (by kernel_rfl);have h8:=@run_callFunc_extern Tryz.prog 59 _ (ReflectliteValue.method (ReflectliteValue.valueError "reflectlite.Value.IsNil" 0) ReflectliteValue.isNil) Tryz.func59 (by kernel_rfl) (by kernel_rfl) (by kernel_rfl) (by kernel_rfl);have h27:=@run_callFunc_extern Tryz.prog 187 _ (ReflectliteType.abiMethod λt=>do pure (.int .u8 (<- Rtype.kind t))) Tryz.func187 (by kernel_rfl) (by kernel_rfl) (by kernel_rfl) (by kernel_rfl);have h37:=@run_callFunc_extern Tryz.prog 200 _ (ReflectliteType.method ReflectliteType.elem) Tryz.func200 (by kernel_rfl) (by kernel_rfl) (by kernel_rfl) (by kernel_rfl);have h38:=@run_callFunc_extern Tryz.prog 201 _ (ReflectliteType.relation "Implements" ReflectliteType.implements_) Tryz.func201 (by kernel_rfl) (by kernel_rfl) (by kernel_rfl) (by kernel_rfl);have h10:=@run_callFunc_extern Tryz.prog 92 _ ReflectliteType.typeOf Tryz.func92 (by kernel_rfl) (by kernel_rfl) (by kernel_rfl) (by kernel_rfl);have h35:=@run_callFunc_extern Tryz.prog 198 _ (ReflectliteType.relation "AssignableTo" ReflectliteType.assignableTo) Tryz.func198 (by kernel_rfl) (by kernel_rfl) (by kernel_rfl) (by kernel_rfl);have h11:=@run_callFunc_extern Tryz.prog 93 _ (ReflectliteValue.method (ReflectliteValue.valueError "reflectlite.Value.Elem" 0) ReflectliteValue.elem) Tryz.func93 (by kernel_rfl) (by kernel_rfl) (by kernel_rfl) (by kernel_rfl);have h12:=@run_callFunc_extern Tryz.prog 94 _ ReflectliteValue.set Tryz.func94 (by kernel_rfl) (by kernel_rfl) (by kernel_rfl) (by kernel_rfl);have a0:=Tryz.methodKind;have a1:=Tryz.methodElem;have a2:=Tryz.methodImplements;have a3:=Tryz.methodAssignableTo;have a4:=Tryz.noAsF;have a5:=Tryz.kindPF;have a6:=Tryz.kindF;have a7:=Tryz.valueOfPF;have a8:=Tryz.valueOfF;have a9:=Tryz.typePF;have a10:=Tryz.elemPF;have a11:=Tryz.implementsF;have a12:=Tryz.typeOfF;have a13:=Tryz.typeOfE;have a14:=Tryz.assignableF;have a15:=Tryz.assignableFE;have a16:=Tryz.hasUnwrapF;have a17:=Tryz.methodUnwrap;have HK3:=zh ((((zk w).alloc (.cells #[.pointer (some ⟨tb,0,none⟩)] 69)).alloc (.cells #[.pointer (some ⟨5,69,none⟩),.pointer (some ⟨w.heap.size,0,none⟩),.int .u64 150] 131)).alloc (.cells #[.pointer (some ⟨5,69,none⟩),.pointer (some ⟨w.heap.size,0,none⟩),.int .u64 150] 131));have n8:=Tryz.isNilPF ⟨w.heap.size,0,none⟩ ⟨tb,0,none⟩ ((w.alloc (.cells #[.pointer (some ⟨tb,0,none⟩)] 69)).alloc (.cells #[.pointer (some ⟨5,69,none⟩),.pointer (some ⟨w.heap.size,0,none⟩),.int .u64 150] 131)) (by simp[go_sem]);have hg2:((w.alloc (.cells #[.pointer (some ⟨tb,0,none⟩)] 69)).alloc (.cells #[.pointer (some ⟨5,69,none⟩),.pointer (some ⟨w.heap.size,0,none⟩),.int .u64 150] 131)).cell? ⟨0,0,none⟩=some (.iface 173 (.agg #[.pointer (some ⟨5,62,none⟩)])):=(((zk w).alloc _).alloc _).cell' hg;have el:=Tryz.elemVPF ⟨w.heap.size,0,none⟩ ⟨tb,0,none⟩ (((w.alloc (.cells #[.pointer (some ⟨tb,0,none⟩)] 69)).alloc (.cells #[.pointer (some ⟨5,69,none⟩),.pointer (some ⟨w.heap.size,0,none⟩),.int .u64 150] 131)).alloc (.cells #[.pointer (some ⟨5,69,none⟩),.pointer (some ⟨w.heap.size,0,none⟩),.int .u64 150] 131)) (by simp[go_sem]);have st:=Tryz.setF tb (w.heap.size+1+1+1) x p o0 o1 ((((w.alloc (.cells #[.pointer (some ⟨tb,0,none⟩)] 69)).alloc (.cells #[.pointer (some ⟨5,69,none⟩),.pointer (some ⟨w.heap.size,0,none⟩),.int .u64 150] 131)).alloc (.cells #[.pointer (some ⟨5,69,none⟩),.pointer (some ⟨w.heap.size,0,none⟩),.int .u64 150] 131)).alloc (.cells #[.int .i64 x,.int .i64 p] 66)) (by simp[go_sem]) (by simp[go_sem]) (((uq HK3).alloc _).cell' ht0) (((uq HK3).alloc _).frozen' ht0 hf0) (((uq HK3).alloc _).cell' ht1) (((uq HK3).alloc _).frozen' ht1 hf1)
 clear ht0 hf0 ht1 hf1 hg;go_enter Tryz.func23,Tryz.ntmps23;go_wp2_with fail
 go_enter Tryz.func60,Tryz.ntmps60;go_wp2_with fail
 refine wp_loop_rounds 1 ?_;rw[rounds_succ];go_wp2_with fail
 go_ret;exact⟨rfl,_,(uq HK3).alloc _,rfl⟩
end Go.Proofs.YthceiikgecoimaaGreatDoor
namespace Go.Proofs.YthceiikgecoimaaGreatDoor
open Go.RowKit
attribute [local go_sem ↓] Go.wp_at_zero Go.wp_at_succ
set_option linter.unusedVariables false
set_option linter.unusedSimpArgs false
set_option maxRecDepth 10000
theorem zaJ {W:World} {b i:Nat} {arr:Array Value} {t:TypeId} {fr:Nat×Nat} {v:Value} (h:W.heap[b]? =some (.cells arr t fr)) (hi:arr[i]? =some v):W.setCell ⟨b,i,none⟩ v=W:=by
 have e:W.heap.modify b (fun| .cells c elem frozen=> .cells (if(⟨b,i,none⟩:Addr).spot.isSome then c else c.setIfInBounds (⟨b,i,none⟩:Addr).off v) elem frozen|o=>o)=W.heap:=by
  apply Array.ext_getElem?;intro j
  rw[Array.getElem?_modify];by_cases hj:b=j
  ·subst hj;rw[if_pos rfl,h];simp only[Option.map_some,Option.isSome_none,Bool.false_eq_true,if_false];congr 2;apply Array.ext_getElem?;intro k
   rw[Array.getElem?_setIfInBounds];by_cases hk:i=k
   ·subst hk;have hl:i<arr.size:=by
     rcases Nat.lt_or_ge i arr.size with h|h
     ·exact h
     ·rw[Array.getElem?_eq_none h]at hi;cases hi
    rw[Array.getElem?_eq_getElem hl]at hi;injection hi with hi
    simp[hl,hi]
   ·simp[hk]
  ·rw[if_neg hj]
 have hh:(W.setCell ⟨b,i,none⟩ v).heap=W.heap:=e;have h3:W.setCell ⟨b,i,none⟩ v= { W with heap:=(W.setCell ⟨b,i,none⟩ v).heap } :=rfl;rw[h3,hh]
def Gl (w:World):Prop:=w.cell? ⟨0,0,none⟩=some (.iface 173 (.agg #[.pointer (some ⟨5,62,none⟩)]))
theorem Gl.keep {w w':World} (h:Gl w) (k:Keep w w'):Gl w':=k.cell' h
def zhD (X:Except Er (List D)) (w:World) (e:Ending) (w':World):Prop:=Keep w w'/\
 match X with
 | .error x=>e= .returned (.tuple #[.agg #[.int .i64 0,.int .i64 0,.int .i64 0,.int .i64 0,.int .i64 0,.slice none 0 0,.slice none 0 0,.int .i64 0,.int .i64 0],.int .i64 x.1,.int .i64 x.2])
 | .ok cs=>∃ u0 u1 u2 u3 u4 u5 u6 u7 u8,e= .returned (.tuple #[.agg #[u0,u1,u2,u3,u4,u5,u6,u7,u8],.int .i64 0,.int .i64 0])/\(∀ u∈ [u0,u1,u2,u3,u4,u5,u6,u7,u8],u.oneCell'=true)/\Rds w' cs (λq=>w.heap.size<=q) [u0,u1,u2,u3,u4,u5,u6,u7,u8]
set_option maxHeartbeats 8000000 in
theorem zgo (v0:Value) (x:Er) (w:World) (hg:Hid (Gl w)) (T1:Hid (∀ w',Keep w w'->Calls Tryz.prog 22 #[v0] w' (zin (.error x) w'))):
  Calls Tryz.prog 9 #[v0] w (zhD (.error x) w):=by
 have HK:=zh ((zk w).alloc (.cells #[.int .i64 0,.int .i64 0,.int .i64 0,.int .i64 0,.int .i64 0,.slice none 0 0,.slice none 0 0,.int .i64 0,.int .i64 0] 27));have htb0:=zh (heap_alloc_new w (.cells #[.int .i64 0,.int .i64 0,.int .i64 0,.int .i64 0,.int .i64 0,.slice none 0 0,.slice none 0 0,.int .i64 0,.int .i64 0] 27));have hsz0:=zh (World.size_alloc w (.cells #[.int .i64 0,.int .i64 0,.int .i64 0,.int .i64 0,.int .i64 0,.slice none 0 0,.slice none 0 0,.int .i64 0,.int .i64 0] 27));go_enter Tryz.func9,Tryz.ntmps9;go_wp2_with fail
 generalize w.alloc (.cells #[.int .i64 0,.int .i64 0,.int .i64 0,.int .i64 0,.int .i64 0,.slice none 0 0,.slice none 0 0,.int .i64 0,.int .i64 0] 27)=w1 at HK htb0 hsz0 |-;(refine((uq T1) _ (uq HK)).mono ?_;rintro e w2 ⟨hk,u0,u1,u2,u3,u4,u5,u6,u7,u8,hon,he⟩);obtain rfl:e= .returned (.tuple #[.agg #[u0,u1,u2,u3,u4,u5,u6,u7,u8],flt x]):=he;have HK2:=zh hk;clear hk;have o0:u0.oneCell'=true:=hon u0 (by simp);have o1:u1.oneCell'=true:=hon u1 (by simp);have o2:u2.oneCell'=true:=hon u2 (by simp);have o3:u3.oneCell'=true:=hon u3 (by simp);have o4:u4.oneCell'=true:=hon u4 (by simp);have o5:u5.oneCell'=true:=hon u5 (by simp);have o6:u6.oneCell'=true:=hon u6 (by simp);have o7:u7.oneCell'=true:=hon u7 (by simp);have o8:u8.oneCell'=true:=hon u8 (by simp);obtain⟨W1,W2,W3,W4,W5,W6,W7,W8,W9,s0,s1,s2,s3,s4,s5,s6,s7,s8,hb9,hq9,hz9,ho9,ht9,hp9⟩:=zdL (heap_alloc_new w2 (.cells #[.int .i64 0,.int .i64 0,.int .i64 0,.int .i64 0,.int .i64 0,.slice none 0 0,.slice none 0 0,.int .i64 0,.int .i64 0] 27)) hon;have HQ9:=zh hq9;have HK9:Hid (Keep w2 W9):=zh ⟨ho9,ht9,hp9,by rw[hz9,World.size_alloc];omega,λi hi=>by rw[hq9 i (by omega)];exact heap_alloc_old w2 _ hi⟩;have HZ9:Hid (W9.heap.size=w2.heap.size+1):=zh (by rw[hz9,World.size_alloc]);clear hon hb9 hq9 hz9 ho9 ht9 hp9;obtain⟨tb,HTB⟩:∃ tb,Hid (w.heap.size=tb):=⟨_,rfl⟩;rw[uq HTB]at htb0 hsz0 |-;unfold flt
 go_wp2_with fail
 have HKa:Hid (Keep w2 ((W9.alloc (.cells #[.int .i64 0] 30)).alloc (.cells #[.int .i64 0,.int .i64 0] 66))):=zh ((uq HK9).trans (zaM W9 (.cells #[.int .i64 0] 30) (.cells #[.int .i64 0,.int .i64 0] 66)));have b1:Hid (((W9.alloc (.cells #[.int .i64 0] 30)).alloc (.cells #[.int .i64 0,.int .i64 0] 66)).heap[W9.heap.size]? =some (.cells #[.int .i64 0] 30 (0,0))):=zh (by rw[heap_alloc_old _ _ (by rw[World.size_alloc];omega)];exact heap_alloc_new W9 _);have b2:Hid (((W9.alloc (.cells #[.int .i64 0] 30)).alloc (.cells #[.int .i64 0,.int .i64 0] 66)).heap[W9.heap.size+1]? =some (.cells #[.int .i64 0,.int .i64 0] 66 (0,0))):=zh (by have:=heap_alloc_new (W9.alloc (.cells #[.int .i64 0] 30)) (.cells #[.int .i64 0,.int .i64 0] 66);rw[World.size_alloc]at this;exact this);generalize ((W9.alloc (.cells #[.int .i64 0] 30)).alloc (.cells #[.int .i64 0,.int .i64 0] 66))=w3 at HKa b1 b2 |-;have hlt:Hid (w1.heap.size<=w2.heap.size/\w1.heap.size=tb+1):=zh ⟨(uq HK2).size,uq hsz0⟩;obtain⟨eb,HEB0⟩:∃ eb,Hid (W9.heap.size=eb):=⟨_,rfl⟩;have HEB:Hid (w2.heap.size+1=eb):=zh (by have:=uq HEB0;have:=uq HZ9;omega);rw[uq HEB0]at b1 b2 |-;obtain⟨fb,HFB⟩:∃ fb,Hid (eb+1=fb):=⟨_,rfl⟩;rw[uq HFB]at b2 |-;have HKw3:Hid (Keep w w3):=zh (((uq HK).trans (uq HK2)).trans (uq HKa));have htb3:Hid (w3.heap[tb]? =some (.cells #[.int .i64 0,.int .i64 0,.int .i64 0,.int .i64 0,.int .i64 0,.slice none 0 0,.slice none 0 0,.int .i64 0,.int .i64 0] 27 (0,0))):=zh (by have:=uq hlt;rw[(uq HKa).block tb (by omega),(uq HK2).block tb (by omega)];exact uq htb0);refine(zrF eb x.1 x.2 (.int .i64 0) w3 ((uq hg).keep (uq HKw3)) (by simp[World.cell?,uq b1]) (by simp[World.frozen?,uq b1])).mono ?_;rintro e w9 ⟨rfl,w4,hk4,rfl⟩;have HKw4:Hid (Keep w (w4.setCell ⟨eb,0,none⟩ (.int .i64 x.1))):=zh (((uq HKw3).trans hk4).set _ _ (by have:=uq hlt;have:=uq HEB;have:=uq HTB;simp;omega));have lte:eb<w3.heap.size:=(Array.getElem?_eq_some_iff.1 (uq b1)).1;have ltf:fb<w3.heap.size:=(Array.getElem?_eq_some_iff.1 (uq b2)).1;have ltt:tb<w3.heap.size:=(Array.getElem?_eq_some_iff.1 (uq htb3)).1;have ce:Hid ((w4.setCell ⟨eb,0,none⟩ (.int .i64 x.1)).cell? ⟨eb,0,none⟩=some (.int .i64 x.1)):=zh (zdn _ (hk4.cell' (by simp[World.cell?,uq b1]:w3.cell? ⟨eb,0,none⟩=some (.int .i64 0))));have cf:Hid ((w4.setCell ⟨eb,0,none⟩ (.int .i64 x.1)).heap[fb]? =some (.cells #[.int .i64 0,.int .i64 0] 66 (0,0))):=zh (by rw[Below.heap_setCell _ _ _ _ (by have:=uq HFB;simp;omega),hk4.block fb ltf];exact uq b2);have ct:Hid ((w4.setCell ⟨eb,0,none⟩ (.int .i64 x.1)).heap[tb]? =some (.cells #[.int .i64 0,.int .i64 0,.int .i64 0,.int .i64 0,.int .i64 0,.slice none 0 0,.slice none 0 0,.int .i64 0,.int .i64 0] 27 (0,0))):=zh (by rw[Below.heap_setCell _ _ _ _ (by have:=uq hlt;have:=uq HEB;simp;omega),hk4.block tb ltt];exact uq htb3);clear hk4 lte ltf ltt;generalize w4.setCell ⟨eb,0,none⟩ (.int .i64 x.1)=w5 at HKw4 ce cf ct |-;go_wp2_with fail
 refine(zpi fb x.1 x.2 (.int .i64 0) (.int .i64 0) w5 ((uq hg).keep (uq HKw4)) (by simp[World.cell?,uq cf]) (by simp[World.frozen?,uq cf]) (by simp[World.cell?,uq cf]) (by simp[World.frozen?,uq cf])).mono ?_;rintro e w9 ⟨rfl,w6,hk6,rfl⟩;have ltt:tb<w5.heap.size:=(Array.getElem?_eq_some_iff.1 (uq ct)).1;have nf:Hid (fb≠tb/\fb≠eb):=zh (by have:=uq hlt;have:=uq HEB;have:=uq HFB;omega);have HKw6:Hid (Keep w ((w6.setCell ⟨fb,0,none⟩ (.int .i64 x.1)).setCell ⟨fb,1,none⟩ (.int .i64 x.2))):=zh ((((uq HKw4).trans hk6).set _ _ (by have:=uq hlt;have:=uq HEB;have:=uq HFB;have:=uq HTB;simp;omega)).set _ _ (by have:=uq hlt;have:=uq HEB;have:=uq HFB;have:=uq HTB;simp;omega));have de:Hid (((w6.setCell ⟨fb,0,none⟩ (.int .i64 x.1)).setCell ⟨fb,1,none⟩ (.int .i64 x.2)).cell? ⟨eb,0,none⟩=some (.int .i64 x.1)):=zh (by rw[zac _ _ _ _ (uq nf).2,zac _ _ _ _ (uq nf).2];exact hk6.cell' (uq ce));have df:Hid (((w6.setCell ⟨fb,0,none⟩ (.int .i64 x.1)).setCell ⟨fb,1,none⟩ (.int .i64 x.2)).cell? ⟨fb,1,none⟩=some (.int .i64 x.2)):=zh (zdn (u:= .int .i64 0) _ (by rw[zb9 _ _ _ _ (by simp)];exact hk6.cell' (by simp[World.cell?,uq cf])));have dt:((w6.setCell ⟨fb,0,none⟩ (.int .i64 x.1)).setCell ⟨fb,1,none⟩ (.int .i64 x.2)).heap[tb]? =some (.cells #[.int .i64 0,.int .i64 0,.int .i64 0,.int .i64 0,.int .i64 0,.slice none 0 0,.slice none 0 0,.int .i64 0,.int .i64 0] 27 (0,0)):=by rw[Below.heap_setCell _ _ _ _ (λe=>(uq nf).1 e.symm),Below.heap_setCell _ _ _ _ (λe=>(uq nf).1 e.symm),hk6.block tb ltt];exact uq ct
 clear hk6 ltt;generalize (w6.setCell ⟨fb,0,none⟩ (.int .i64 x.1)).setCell ⟨fb,1,none⟩ (.int .i64 x.2)=w7 at HKw6 de df dt |-;have net:Hid (tb≠eb/\tb≠fb):=zh (by have:=uq hlt;have:=uq HEB;have:=uq HFB;omega);have dt2:w7.drew.heap[tb]? =some (.cells #[.int .i64 0,.int .i64 0,.int .i64 0,.int .i64 0,.int .i64 0,.slice none 0 0,.slice none 0 0,.int .i64 0,.int .i64 0] 27 (0,0)):=dt;have r0:w7.drew.cell? ⟨tb,0,none⟩=some (.int .i64 0):=by simp[World.cell?,dt2]
 have f0:w7.drew.frozen? ⟨tb,0,none⟩=false:=by simp[World.frozen?,dt2]
 have e0:w7.drew.setCell ⟨tb,0,none⟩ (.int .i64 0)=w7.drew:=zaJ dt2 rfl;have r1:w7.drew.cell? ⟨tb,1,none⟩=some (.int .i64 0):=by simp[World.cell?,dt2]
 have f1:w7.drew.frozen? ⟨tb,1,none⟩=false:=by simp[World.frozen?,dt2]
 have e1:w7.drew.setCell ⟨tb,1,none⟩ (.int .i64 0)=w7.drew:=zaJ dt2 rfl;have r2:w7.drew.cell? ⟨tb,2,none⟩=some (.int .i64 0):=by simp[World.cell?,dt2]
 have f2:w7.drew.frozen? ⟨tb,2,none⟩=false:=by simp[World.frozen?,dt2]
 have e2:w7.drew.setCell ⟨tb,2,none⟩ (.int .i64 0)=w7.drew:=zaJ dt2 rfl;have r3:w7.drew.cell? ⟨tb,3,none⟩=some (.int .i64 0):=by simp[World.cell?,dt2]
 have f3:w7.drew.frozen? ⟨tb,3,none⟩=false:=by simp[World.frozen?,dt2]
 have e3:w7.drew.setCell ⟨tb,3,none⟩ (.int .i64 0)=w7.drew:=zaJ dt2 rfl;have r4:w7.drew.cell? ⟨tb,4,none⟩=some (.int .i64 0):=by simp[World.cell?,dt2]
 have f4:w7.drew.frozen? ⟨tb,4,none⟩=false:=by simp[World.frozen?,dt2]
 have e4:w7.drew.setCell ⟨tb,4,none⟩ (.int .i64 0)=w7.drew:=zaJ dt2 rfl;have r5:w7.drew.cell? ⟨tb,5,none⟩=some (.slice none 0 0):=by simp[World.cell?,dt2]
 have f5:w7.drew.frozen? ⟨tb,5,none⟩=false:=by simp[World.frozen?,dt2]
 have e5:w7.drew.setCell ⟨tb,5,none⟩ (.slice none 0 0)=w7.drew:=zaJ dt2 rfl;have r6:w7.drew.cell? ⟨tb,6,none⟩=some (.slice none 0 0):=by simp[World.cell?,dt2]
 have f6:w7.drew.frozen? ⟨tb,6,none⟩=false:=by simp[World.frozen?,dt2]
 have e6:w7.drew.setCell ⟨tb,6,none⟩ (.slice none 0 0)=w7.drew:=zaJ dt2 rfl;have r7:w7.drew.cell? ⟨tb,7,none⟩=some (.int .i64 0):=by simp[World.cell?,dt2]
 have f7:w7.drew.frozen? ⟨tb,7,none⟩=false:=by simp[World.frozen?,dt2]
 have e7:w7.drew.setCell ⟨tb,7,none⟩ (.int .i64 0)=w7.drew:=zaJ dt2 rfl;have r8:w7.drew.cell? ⟨tb,8,none⟩=some (.int .i64 0):=by simp[World.cell?,dt2]
 have f8:w7.drew.frozen? ⟨tb,8,none⟩=false:=by simp[World.frozen?,dt2]
 have e8:w7.drew.setCell ⟨tb,8,none⟩ (.int .i64 0)=w7.drew:=zaJ dt2 rfl;have HV8:Hid (Keep w w7.drew):=zh (uq HKw6).drew;have je:Hid (w7.drew.cell? ⟨eb,0,none⟩=some (.int .i64 x.1)/\w7.drew.cell? ⟨fb,1,none⟩=some (.int .i64 x.2)):=zh ⟨uq de,uq df⟩;clear dt dt2;go_wp2_with fail
 refine wp_region_held_drew (S:=λw'=>w'.cell? ⟨eb,0,none⟩=some (.int .i64 x.1)/\w'.cell? ⟨fb,1,none⟩=some (.int .i64 x.2)) (by kernel_rfl) (by exact⟨uq de,uq df⟩) (λzH=>?_);refine tk4 0 22 1 23 2 24 3 25 zH ?_;try simp only[Yq]
 generalize w7.drew=w8 at HV8 je r0 f0 e0 r1 f1 e1 r2 f2 e2 r3 f3 e3 r4 f4 e4 r5 f5 e5 r6 f6 e6 r7 f7 e7 r8 f8 e8 |-;refine zaq 4 (λK hK=>?_);go_simp;clear zH;refine hK.out _ _ ?_ (λzH=>?_)
 ·exact uq je
 clear hK K;try simp only[Yq]
 refine tk2 5 3 6 4 zH ?_;try simp only[Yq]
 refine wpAnyH_done (by kernel_rfl) ?_ _;clear zH;go_wp2_with fail
 refine bodyPost_ret (v:= .tuple #[.agg #[.int .i64 0,.int .i64 0,.int .i64 0,.int .i64 0,.int .i64 0,.slice none 0 0,.slice none 0 0,.int .i64 0,.int .i64 0],.int .i64 x.1,.int .i64 x.2]) ?_ rfl ?_
 ·simp[results,Tryz.results9,go_sem,r0,r1,r2,r3,r4,r5,r6,r7,r8]
 ·exact⟨uq HV8,rfl⟩
set_option maxHeartbeats 8000000 in
theorem zio (v0:Value) (cs:List D) (w:World) (T1:Hid (∀ w',Keep w w'->Calls Tryz.prog 22 #[v0] w' (zin (.ok cs) w'))):
  Calls Tryz.prog 9 #[v0] w (zhD (.ok cs) w):=by
 have HK:=zh ((zk w).alloc (.cells #[.int .i64 0,.int .i64 0,.int .i64 0,.int .i64 0,.int .i64 0,.slice none 0 0,.slice none 0 0,.int .i64 0,.int .i64 0] 27));have htb0:=zh (heap_alloc_new w (.cells #[.int .i64 0,.int .i64 0,.int .i64 0,.int .i64 0,.int .i64 0,.slice none 0 0,.slice none 0 0,.int .i64 0,.int .i64 0] 27));have hsz0:=zh (World.size_alloc w (.cells #[.int .i64 0,.int .i64 0,.int .i64 0,.int .i64 0,.int .i64 0,.slice none 0 0,.slice none 0 0,.int .i64 0,.int .i64 0] 27));go_enter Tryz.func9,Tryz.ntmps9;go_wp2_with fail
 generalize w.alloc (.cells #[.int .i64 0,.int .i64 0,.int .i64 0,.int .i64 0,.int .i64 0,.slice none 0 0,.slice none 0 0,.int .i64 0,.int .i64 0] 27)=w1 at HK htb0 hsz0 |-;(refine((uq T1) _ (uq HK)).mono ?_;rintro e w2 ⟨hk,u0,u1,u2,u3,u4,u5,u6,u7,u8,hon,rfl,hrd⟩);have HK2:=zh hk;have HON:=zh hon;have HRD:=zh hrd;clear hk hrd;have o0:u0.oneCell'=true:=hon u0 (by simp);have o1:u1.oneCell'=true:=hon u1 (by simp);have o2:u2.oneCell'=true:=hon u2 (by simp);have o3:u3.oneCell'=true:=hon u3 (by simp);have o4:u4.oneCell'=true:=hon u4 (by simp);have o5:u5.oneCell'=true:=hon u5 (by simp);have o6:u6.oneCell'=true:=hon u6 (by simp);have o7:u7.oneCell'=true:=hon u7 (by simp);have o8:u8.oneCell'=true:=hon u8 (by simp);obtain⟨W1,W2,W3,W4,W5,W6,W7,W8,W9,s0,s1,s2,s3,s4,s5,s6,s7,s8,hb9,hq9,hz9,ho9,ht9,hp9⟩:=zdL (heap_alloc_new w2 (.cells #[.int .i64 0,.int .i64 0,.int .i64 0,.int .i64 0,.int .i64 0,.slice none 0 0,.slice none 0 0,.int .i64 0,.int .i64 0] 27)) hon;have HK9:Hid (Keep w2 W9):=zh ⟨ho9,ht9,hp9,by rw[hz9,World.size_alloc];omega,λi hi=>by rw[hq9 i (by omega)];exact heap_alloc_old w2 _ hi⟩;have n0:W9.cell? ⟨w2.heap.size,0,none⟩=some u0:=by simp[World.cell?,hb9]
 have n1:W9.cell? ⟨w2.heap.size,1,none⟩=some u1:=by simp[World.cell?,hb9]
 have n2:W9.cell? ⟨w2.heap.size,2,none⟩=some u2:=by simp[World.cell?,hb9]
 have n3:W9.cell? ⟨w2.heap.size,3,none⟩=some u3:=by simp[World.cell?,hb9]
 have n4:W9.cell? ⟨w2.heap.size,4,none⟩=some u4:=by simp[World.cell?,hb9]
 have n5:W9.cell? ⟨w2.heap.size,5,none⟩=some u5:=by simp[World.cell?,hb9]
 have n6:W9.cell? ⟨w2.heap.size,6,none⟩=some u6:=by simp[World.cell?,hb9]
 have n7:W9.cell? ⟨w2.heap.size,7,none⟩=some u7:=by simp[World.cell?,hb9]
 have n8:W9.cell? ⟨w2.heap.size,8,none⟩=some u8:=by simp[World.cell?,hb9]
 obtain⟨tb,HTB⟩:∃ tb,Hid (w.heap.size=tb):=⟨_,rfl⟩;rw[uq HTB]at htb0 hsz0 |-;have htb9:W9.heap[tb]? =some (.cells #[.int .i64 0,.int .i64 0,.int .i64 0,.int .i64 0,.int .i64 0,.slice none 0 0,.slice none 0 0,.int .i64 0,.int .i64 0] 27 (0,0)):=by
  have e1:=uq hsz0;have e2:=(uq HK2).size;rw[(uq HK9).block tb (by omega),(uq HK2).block tb (by omega)];exact uq htb0
 obtain⟨V1,V2,V3,V4,V5,V6,V7,V8,V9,y0,y1,y2,y3,y4,y5,y6,y7,y8,jb9,jq9,jz9,jo9,jt9,jp9⟩:=zdL htb9 hon;have HV9:Hid (Keep w V9):=zh (by
  have k:=((uq HK).trans (uq HK2)).trans (uq HK9);exact⟨jo9.trans k.os,jt9.trans k.tape,jp9.trans k.output,by have:=k.size;omega,λi hi=>by rw[jq9 i (by have:=uq HTB;omega)];exact k.block i hi⟩)
 have HQ:Hid (∀ q,q<w2.heap.size->q≠tb->V9.heap[q]? =w2.heap[q]?):=zh (λq hq hne=>by rw[jq9 q hne];exact(uq HK9).block q hq);have t0:V9.cell? ⟨tb,0,none⟩=some u0:=by simp[World.cell?,jb9]
 have t1:V9.cell? ⟨tb,1,none⟩=some u1:=by simp[World.cell?,jb9]
 have t2:V9.cell? ⟨tb,2,none⟩=some u2:=by simp[World.cell?,jb9]
 have t3:V9.cell? ⟨tb,3,none⟩=some u3:=by simp[World.cell?,jb9]
 have t4:V9.cell? ⟨tb,4,none⟩=some u4:=by simp[World.cell?,jb9]
 have t5:V9.cell? ⟨tb,5,none⟩=some u5:=by simp[World.cell?,jb9]
 have t6:V9.cell? ⟨tb,6,none⟩=some u6:=by simp[World.cell?,jb9]
 have t7:V9.cell? ⟨tb,7,none⟩=some u7:=by simp[World.cell?,jb9]
 have t8:V9.cell? ⟨tb,8,none⟩=some u8:=by simp[World.cell?,jb9]
 clear hon hb9 hq9 hz9 ho9 ht9 hp9 jb9 jq9 jz9 jo9 jt9 jp9 htb9;go_wp2_with fail
 refine bodyPost_ret (v:= .tuple #[.agg #[u0,u1,u2,u3,u4,u5,u6,u7,u8],.int .i64 0,.int .i64 0]) ?_ rfl ?_
 ·simp[results,Tryz.results9,go_sem,t0,t1,t2,t3,t4,t5,t6,t7,t8]
 ·refine⟨uq HV9,u0,u1,u2,u3,u4,u5,u6,u7,u8,rfl,uq HON,Rds.move cs _ _ _ (uq HRD) (λb hb hl=>⟨(uq HQ) b hl ?_,?_⟩)⟩
  ·have:=uq hsz0;omega
  ·have:=(uq HK).size;omega
theorem zlP (v0:Value) (l:List UInt8) (w:World) (hl:l.length<=65536) (h:By w v0 l) (hw:∀ L,T l= .ok L->Wf L) (he:∀ x,T l= .error x->x.1≠0):Calls Tryz.prog 22 #[v0] w (zin (N l) w):=by
 have T1:∀ w',Keep w w'->Calls Tryz.prog 55 #[v0] w' (Tp (T l) w'):=λw' hk=>zft v0 l w' (by omega) (h.keep hk)
 unfold N
 cases hT:T l with
 |error x=>rw[hT]at T1;exact zhC v0 x w (he x hT) (zh T1)
 |ok L=>
  rw[hT]at T1;have:=zph v0 L w (zh (hw L hT)) (zh T1);unfold XN at this
  exact this
end Go.Proofs.YthceiikgecoimaaGreatDoor
namespace Go.Proofs.YthceiikgecoimaaGreatDoor
open Go.RowKit
set_option linter.unusedVariables false
set_option linter.unusedSimpArgs false
set_option maxRecDepth 10000
theorem zfQ {r:List UInt8} {p:Nat} {t:Tok} (h:one r p= .ok t):0<=t.n/\t.n<=999999999999999999:=by
 cases r with
 |nil=>simp only[one,Except.ok.injEq]at h;subst h;simp
 |cons c r=>
  simp only[one]at h;split at h
  ·split at h
   ·cases h
   ·simp only[Except.ok.injEq]at h;subst h;simp
  ·split at h
   ·rename_i h5
    split at h
    ·cases h
    ·rename_i h18
     simp only[Except.ok.injEq]at h;subst h;have hb:=zed ((c :: r).take (en (c :: r))) (zdB h5) ((c :: r).take (en (c :: r))).length (Nat.le_refl _);rw[List.take_length]at hb;have hle:((c :: r).take (en (c :: r))).length<=18:=by rw[List.length_take];omega
     have hp:(10:Int) ^ ((c :: r).take (en (c :: r))).length<=10 ^ 18:=by
      have:(10:Nat) ^ ((c :: r).take (en (c :: r))).length<=10 ^ 18:=Nat.pow_le_pow_right (by decide) hle
      exact_mod_cast this
     refine⟨hb.1,?_⟩;have:=hb.2;have e:(10:Int) ^ 18=1000000000000000000:=by decide
     show num _<=_;omega
   ·split at h
    ·simp only[Except.ok.injEq]at h;subst h;simp
    ·cases h
theorem zjW:∀(n:Nat) (r:List UInt8) (p:Nat) (L:List Tok),r.length<=n->tk r p= .ok L->(∃ m t,L=m++ [t]/\t.k=0/\t.s= [])/\∀ t∈L,0<=t.n/\t.n<=999999999999999999
 |n,r,p,L,hn,h=>by
  rcases zdr h with ⟨rfl,_⟩|⟨t,M,rfl,h1,h2,_,_,h5,h6,h7⟩
  ·exact⟨⟨[],_,rfl,rfl,rfl⟩,λt ht=>by simp at ht;subst ht;simp⟩
  ·cases n with
   |zero=>omega
   |succ n=>
    obtain⟨⟨m,u,rfl,u1,u2⟩,hM⟩:=zjW n _ _ M (by rw[List.length_drop];omega) h7;refine⟨⟨t :: m,u,rfl,u1,u2⟩,λx hx=>?_⟩;rcases List.mem_cons.1 hx with rfl|hx
    ·exact zfQ h1
    ·exact hM x hx
theorem zs5 {l:List UInt8} {L:List Tok} (hl:l.length<=65536) (h:T l= .ok L):Wf L:=by
 have h1:=zjW l.length l 0 L (Nat.le_refl _) (zl0 h).2;have h2:=zqR h;exact⟨by omega,h1.1,h1.2⟩
theorem zkt (v:Value) (l:List UInt8) (w:World) (hl:l.length<=65536) (h:By w v l) (hg:Gl w):Calls Tryz.prog 9 #[v] w (zhD (N l) w):=by
 have R:∀ w',Keep w w'->Calls Tryz.prog 22 #[v] w' (zin (N l) w'):=λw' hk=>zlP v l w' hl (h.keep hk) (λL hL=>zs5 hl hL) (λx hx=>by have:=(zob (e:=x.1) (a:=x.2) hx).1;omega)
 cases hN:N l with
 |error x=>rw[hN]at R;exact zgo v x w (zh hg) (zh R)
 |ok cs=>rw[hN]at R;exact zio v cs w (zh R)
end Go.Proofs.YthceiikgecoimaaGreatDoor
