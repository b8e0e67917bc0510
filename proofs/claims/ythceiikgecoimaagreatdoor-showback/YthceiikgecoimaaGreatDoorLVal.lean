/- Plain numbers: what fits 64 bits; what sums, quotients and rests are. No program is met here. -/
import Derived.WalkKit
import Derived.Deep.DrawnRows
import Derived.Deep.RegionHeld
import Derived.Deep.RegionHeld3
import Derived.ProofKit
import Derived.Test.YthceiikgecoimaaGreatDoorProg
import Derived.Laws.AppendOwn
import Derived.Laws.OwnMore
import Derived.Laws.IdiomStrings
import Derived.OwnWalk
namespace Go.Proofs.YthceiikgecoimaaGreatDoor
open Go.RowKit
set_option linter.unusedVariables false
theorem hide {p:Prop} (h:p):Hid p:=h
theorem zsH {p:Prop} (h:Hid p):p:=h
def Keep (w w':World):Prop:=Below w.heap.size w w'
theorem Keep.refl (w:World):Keep w w:=Below.refl _ _
theorem Yq:(∀ (a:Act) (d:Tmp) (v:Value),Act.put a (some d) v={a with tmps:=a.tmps.setIfInBounds d v})/\(∀ (a:Act) (v:Value),Act.put a none v=a)/\(∀{α:Type}(l:List α)(i:Nat)(a:α),l.toArray.setIfInBounds i a=(l.set i a).toArray)/\(∀{α:Type}{x y:α}{xs:List α},(x::xs).set 0 y=y::xs)/\(∀{α:Type}{x y:α}{n:Nat}{xs:List α},(x::xs).set (n+1) y=x::xs.set n y):=⟨λ_ _ _=>rfl,λ_ _=>rfl,λ_ _ _=>List.setIfInBounds_toArray ..,List.set_cons_zero,List.set_cons_succ⟩
theorem zh{p:Prop}(h:p):Hid p:=h
theorem zk(w:World):Keep w w:=Keep.refl w
theorem Keep.trans {a b c:World} (h:Keep a b) (k:Keep b c):Keep a c:=Below.trans h (Below.mono k h.size)
theorem Keep.drew {a b:World} (h:Keep a b):Keep a b.drew:=Below.drew h
theorem Keep.alloc {a b:World} (h:Keep a b) (o:Obj):Keep a (b.alloc o):=Below.alloc h h.size o
def fit (n:Int):Bool:=decide (-9223372036854775808<=n/\n<=9223372036854775807)
theorem zmA {k:IntKind} {a b:Int} (h:a=b):Ending.returned (.int k a)= .returned (.int k b):=by rw[h]
theorem Ya {α:Type} (l:List α) (i:Nat) (a:α):l.toArray.setIfInBounds i a=(l.set i a).toArray:=List.setIfInBounds_toArray ..
theorem Yb {α:Type} {x y:α} {xs:List α} :(x :: xs).set 0 y=y :: xs:=List.set_cons_zero
theorem Yc {α:Type} {x y:α} {n:Nat} {xs:List α} :(x :: xs).set (n+1) y=x :: xs.set n y:=List.set_cons_succ
theorem uq {p:Prop} (h:Hid p):p:=h
end Go.Proofs.YthceiikgecoimaaGreatDoor
namespace Go.Proofs.YthceiikgecoimaaGreatDoor
section
variable {P : Program} {ops : Array Oper} {Q : Exit -> Act -> World -> Prop} {md : Region.Mode} {S : World -> Prop}
theorem tkk (i d:Nat) {oi:Oper} {v:Value} {fuel:Nat} {listed:Array Bool} {a:Act} {w:World} (hS:S w) (h:wpAnyH P md ops Q S fuel (listed.setIfInBounds i true) (a.put (some d) v) w)
  (hi:ops[i]? =some oi:=by rfl) (hd:oi.dst=some d:=by rfl) (hs:Region.noSelect ops=true:=by kernel_rfl) (hf:Region.free md ops listed i=true:=by kernel_rfl) (hr:(Region.ready md ops listed).contains i=true:=by kernel_rfl)
  (hQ:∀ c a w,Q (.panic c) (a.put oi.dst v) w->Q (.panic c) a w:=by exact λ_ _ _ h=>h) (hy:YieldsIf P ops S oi v a:=by exact Or.inl ⟨by rfl,by intro w hSw;(try dsimp only at hSw);go_simp;(try with_reducible rfl)⟩):wpAnyH P md ops Q S (fuel+1) listed a w:=
 wpAnyH_take hi hs hf hr hQ hy hS (hd▸h)
theorem tk2 (i0 d0 i1 d1:Nat) {o0 o1:Oper} {v0 v1:Value} {fuel:Nat} {listed:Array Bool} {a:Act} {w:World} (hS:S w) (h:wpAnyH P md ops Q S fuel ((listed.setIfInBounds i0 true).setIfInBounds i1 true) ((a.put (some d0) v0).put (some d1) v1) w)
  (hi0:ops[i0]? =some o0:=by rfl) (hd0:o0.dst=some d0:=by rfl) (hs:Region.noSelect ops=true:=by kernel_rfl) (hf0:Region.free md ops listed i0=true:=by kernel_rfl) (hr0:(Region.ready md ops listed).contains i0=true:=by kernel_rfl) (hQ0:∀ c a w,Q (.panic c) (a.put o0.dst v0) w->Q (.panic c) a w:=by exact λ_ _ _ h=>h) (hy0:YieldsIf P ops S o0 v0 a:=by exact Or.inl ⟨by rfl,by intro w hSw;(try dsimp only at hSw);go_simp;(try with_reducible rfl)⟩)
  (hi1:ops[i1]? =some o1:=by rfl) (hd1:o1.dst=some d1:=by rfl) (hf1:Region.free md ops (listed.setIfInBounds i0 true) i1=true:=by kernel_rfl) (hr1:(Region.ready md ops (listed.setIfInBounds i0 true)).contains i1=true:=by kernel_rfl) (hQ1:∀ c a w,Q (.panic c) (a.put o1.dst v1) w->Q (.panic c) a w:=by exact λ_ _ _ h=>h) (hy1:YieldsIf P ops S o1 v1 (a.put (some d0) v0):=by(try simp only[Yq]);exact Or.inl ⟨by rfl,by intro w hSw;(try dsimp only at hSw);go_simp;(try with_reducible rfl)⟩):wpAnyH P md ops Q S (fuel+1+1) listed a w:=
 tkk i0 d0 hS (tkk i1 d1 hS h hi1 hd1 hs hf1 hr1 hQ1 hy1) hi0 hd0 hs hf0 hr0 hQ0 hy0
theorem tk3 (i0 d0 i1 d1 i2 d2:Nat) {o0 o1 o2:Oper} {v0 v1 v2:Value} {fuel:Nat} {listed:Array Bool} {a:Act} {w:World} (hS:S w) (h:wpAnyH P md ops Q S fuel (((listed.setIfInBounds i0 true).setIfInBounds i1 true).setIfInBounds i2 true) (((a.put (some d0) v0).put (some d1) v1).put (some d2) v2) w)
  (hi0:ops[i0]? =some o0:=by rfl) (hd0:o0.dst=some d0:=by rfl) (hs:Region.noSelect ops=true:=by kernel_rfl) (hf0:Region.free md ops listed i0=true:=by kernel_rfl) (hr0:(Region.ready md ops listed).contains i0=true:=by kernel_rfl) (hQ0:∀ c a w,Q (.panic c) (a.put o0.dst v0) w->Q (.panic c) a w:=by exact λ_ _ _ h=>h) (hy0:YieldsIf P ops S o0 v0 a:=by exact Or.inl ⟨by rfl,by intro w hSw;(try dsimp only at hSw);go_simp;(try with_reducible rfl)⟩)
  (hi1:ops[i1]? =some o1:=by rfl) (hd1:o1.dst=some d1:=by rfl) (hf1:Region.free md ops (listed.setIfInBounds i0 true) i1=true:=by kernel_rfl) (hr1:(Region.ready md ops (listed.setIfInBounds i0 true)).contains i1=true:=by kernel_rfl) (hQ1:∀ c a w,Q (.panic c) (a.put o1.dst v1) w->Q (.panic c) a w:=by exact λ_ _ _ h=>h) (hy1:YieldsIf P ops S o1 v1 (a.put (some d0) v0):=by(try simp only[Yq]);exact Or.inl ⟨by rfl,by intro w hSw;(try dsimp only at hSw);go_simp;(try with_reducible rfl)⟩)
  (hi2:ops[i2]? =some o2:=by rfl) (hd2:o2.dst=some d2:=by rfl) (hf2:Region.free md ops ((listed.setIfInBounds i0 true).setIfInBounds i1 true) i2=true:=by kernel_rfl) (hr2:(Region.ready md ops ((listed.setIfInBounds i0 true).setIfInBounds i1 true)).contains i2=true:=by kernel_rfl) (hQ2:∀ c a w,Q (.panic c) (a.put o2.dst v2) w->Q (.panic c) a w:=by exact λ_ _ _ h=>h) (hy2:YieldsIf P ops S o2 v2 ((a.put (some d0) v0).put (some d1) v1):=by(try simp only[Yq]);exact Or.inl ⟨by rfl,by intro w hSw;(try dsimp only at hSw);go_simp;(try with_reducible rfl)⟩):wpAnyH P md ops Q S (fuel+1+1+1) listed a w:=
 tkk i0 d0 hS (tkk i1 d1 hS (tkk i2 d2 hS h hi2 hd2 hs hf2 hr2 hQ2 hy2) hi1 hd1 hs hf1 hr1 hQ1 hy1) hi0 hd0 hs hf0 hr0 hQ0 hy0
theorem tk4 (i0 d0 i1 d1 i2 d2 i3 d3:Nat) {o0 o1 o2 o3:Oper} {v0 v1 v2 v3:Value} {fuel:Nat} {listed:Array Bool} {a:Act} {w:World} (hS:S w) (h:wpAnyH P md ops Q S fuel ((((listed.setIfInBounds i0 true).setIfInBounds i1 true).setIfInBounds i2 true).setIfInBounds i3 true) ((((a.put (some d0) v0).put (some d1) v1).put (some d2) v2).put (some d3) v3) w)
  (hi0:ops[i0]? =some o0:=by rfl) (hd0:o0.dst=some d0:=by rfl) (hs:Region.noSelect ops=true:=by kernel_rfl) (hf0:Region.free md ops listed i0=true:=by kernel_rfl) (hr0:(Region.ready md ops listed).contains i0=true:=by kernel_rfl) (hQ0:∀ c a w,Q (.panic c) (a.put o0.dst v0) w->Q (.panic c) a w:=by exact λ_ _ _ h=>h) (hy0:YieldsIf P ops S o0 v0 a:=by exact Or.inl ⟨by rfl,by intro w hSw;(try dsimp only at hSw);go_simp;(try with_reducible rfl)⟩)
  (hi1:ops[i1]? =some o1:=by rfl) (hd1:o1.dst=some d1:=by rfl) (hf1:Region.free md ops (listed.setIfInBounds i0 true) i1=true:=by kernel_rfl) (hr1:(Region.ready md ops (listed.setIfInBounds i0 true)).contains i1=true:=by kernel_rfl) (hQ1:∀ c a w,Q (.panic c) (a.put o1.dst v1) w->Q (.panic c) a w:=by exact λ_ _ _ h=>h) (hy1:YieldsIf P ops S o1 v1 (a.put (some d0) v0):=by(try simp only[Yq]);exact Or.inl ⟨by rfl,by intro w hSw;(try dsimp only at hSw);go_simp;(try with_reducible rfl)⟩)
  (hi2:ops[i2]? =some o2:=by rfl) (hd2:o2.dst=some d2:=by rfl) (hf2:Region.free md ops ((listed.setIfInBounds i0 true).setIfInBounds i1 true) i2=true:=by kernel_rfl) (hr2:(Region.ready md ops ((listed.setIfInBounds i0 true).setIfInBounds i1 true)).contains i2=true:=by kernel_rfl) (hQ2:∀ c a w,Q (.panic c) (a.put o2.dst v2) w->Q (.panic c) a w:=by exact λ_ _ _ h=>h) (hy2:YieldsIf P ops S o2 v2 ((a.put (some d0) v0).put (some d1) v1):=by(try simp only[Yq]);exact Or.inl ⟨by rfl,by intro w hSw;(try dsimp only at hSw);go_simp;(try with_reducible rfl)⟩)
  (hi3:ops[i3]? =some o3:=by rfl) (hd3:o3.dst=some d3:=by rfl) (hf3:Region.free md ops (((listed.setIfInBounds i0 true).setIfInBounds i1 true).setIfInBounds i2 true) i3=true:=by kernel_rfl) (hr3:(Region.ready md ops (((listed.setIfInBounds i0 true).setIfInBounds i1 true).setIfInBounds i2 true)).contains i3=true:=by kernel_rfl) (hQ3:∀ c a w,Q (.panic c) (a.put o3.dst v3) w->Q (.panic c) a w:=by exact λ_ _ _ h=>h) (hy3:YieldsIf P ops S o3 v3 (((a.put (some d0) v0).put (some d1) v1).put (some d2) v2):=by(try simp only[Yq]);exact Or.inl ⟨by rfl,by intro w hSw;(try dsimp only at hSw);go_simp;(try with_reducible rfl)⟩):wpAnyH P md ops Q S (fuel+1+1+1+1) listed a w:=
 tkk i0 d0 hS (tkk i1 d1 hS (tkk i2 d2 hS (tkk i3 d3 hS h hi3 hd3 hs hf3 hr3 hQ3 hy3) hi2 hd2 hs hf2 hr2 hQ2 hy2) hi1 hd1 hs hf1 hr1 hQ1 hy1) hi0 hd0 hs hf0 hr0 hQ0 hy0
theorem tk6 (i0 d0 i1 d1 i2 d2 i3 d3 i4 d4 i5 d5:Nat) {o0 o1 o2 o3 o4 o5:Oper} {v0 v1 v2 v3 v4 v5:Value} {fuel:Nat} {listed:Array Bool} {a:Act} {w:World} (hS:S w) (h:wpAnyH P md ops Q S fuel ((((((listed.setIfInBounds i0 true).setIfInBounds i1 true).setIfInBounds i2 true).setIfInBounds i3 true).setIfInBounds i4 true).setIfInBounds i5 true) ((((((a.put (some d0) v0).put (some d1) v1).put (some d2) v2).put (some d3) v3).put (some d4) v4).put (some d5) v5) w)
  (hi0:ops[i0]? =some o0:=by rfl) (hd0:o0.dst=some d0:=by rfl) (hs:Region.noSelect ops=true:=by kernel_rfl) (hf0:Region.free md ops listed i0=true:=by kernel_rfl) (hr0:(Region.ready md ops listed).contains i0=true:=by kernel_rfl) (hQ0:∀ c a w,Q (.panic c) (a.put o0.dst v0) w->Q (.panic c) a w:=by exact λ_ _ _ h=>h) (hy0:YieldsIf P ops S o0 v0 a:=by exact Or.inl ⟨by rfl,by intro w hSw;(try dsimp only at hSw);go_simp;(try with_reducible rfl)⟩)
  (hi1:ops[i1]? =some o1:=by rfl) (hd1:o1.dst=some d1:=by rfl) (hf1:Region.free md ops (listed.setIfInBounds i0 true) i1=true:=by kernel_rfl) (hr1:(Region.ready md ops (listed.setIfInBounds i0 true)).contains i1=true:=by kernel_rfl) (hQ1:∀ c a w,Q (.panic c) (a.put o1.dst v1) w->Q (.panic c) a w:=by exact λ_ _ _ h=>h) (hy1:YieldsIf P ops S o1 v1 (a.put (some d0) v0):=by(try simp only[Yq]);exact Or.inl ⟨by rfl,by intro w hSw;(try dsimp only at hSw);go_simp;(try with_reducible rfl)⟩)
  (hi2:ops[i2]? =some o2:=by rfl) (hd2:o2.dst=some d2:=by rfl) (hf2:Region.free md ops ((listed.setIfInBounds i0 true).setIfInBounds i1 true) i2=true:=by kernel_rfl) (hr2:(Region.ready md ops ((listed.setIfInBounds i0 true).setIfInBounds i1 true)).contains i2=true:=by kernel_rfl) (hQ2:∀ c a w,Q (.panic c) (a.put o2.dst v2) w->Q (.panic c) a w:=by exact λ_ _ _ h=>h) (hy2:YieldsIf P ops S o2 v2 ((a.put (some d0) v0).put (some d1) v1):=by(try simp only[Yq]);exact Or.inl ⟨by rfl,by intro w hSw;(try dsimp only at hSw);go_simp;(try with_reducible rfl)⟩)
  (hi3:ops[i3]? =some o3:=by rfl) (hd3:o3.dst=some d3:=by rfl) (hf3:Region.free md ops (((listed.setIfInBounds i0 true).setIfInBounds i1 true).setIfInBounds i2 true) i3=true:=by kernel_rfl) (hr3:(Region.ready md ops (((listed.setIfInBounds i0 true).setIfInBounds i1 true).setIfInBounds i2 true)).contains i3=true:=by kernel_rfl) (hQ3:∀ c a w,Q (.panic c) (a.put o3.dst v3) w->Q (.panic c) a w:=by exact λ_ _ _ h=>h) (hy3:YieldsIf P ops S o3 v3 (((a.put (some d0) v0).put (some d1) v1).put (some d2) v2):=by(try simp only[Yq]);exact Or.inl ⟨by rfl,by intro w hSw;(try dsimp only at hSw);go_simp;(try with_reducible rfl)⟩)
  (hi4:ops[i4]? =some o4:=by rfl) (hd4:o4.dst=some d4:=by rfl) (hf4:Region.free md ops ((((listed.setIfInBounds i0 true).setIfInBounds i1 true).setIfInBounds i2 true).setIfInBounds i3 true) i4=true:=by kernel_rfl) (hr4:(Region.ready md ops ((((listed.setIfInBounds i0 true).setIfInBounds i1 true).setIfInBounds i2 true).setIfInBounds i3 true)).contains i4=true:=by kernel_rfl) (hQ4:∀ c a w,Q (.panic c) (a.put o4.dst v4) w->Q (.panic c) a w:=by exact λ_ _ _ h=>h) (hy4:YieldsIf P ops S o4 v4 ((((a.put (some d0) v0).put (some d1) v1).put (some d2) v2).put (some d3) v3):=by(try simp only[Yq]);exact Or.inl ⟨by rfl,by intro w hSw;(try dsimp only at hSw);go_simp;(try with_reducible rfl)⟩)
  (hi5:ops[i5]? =some o5:=by rfl) (hd5:o5.dst=some d5:=by rfl) (hf5:Region.free md ops (((((listed.setIfInBounds i0 true).setIfInBounds i1 true).setIfInBounds i2 true).setIfInBounds i3 true).setIfInBounds i4 true) i5=true:=by kernel_rfl) (hr5:(Region.ready md ops (((((listed.setIfInBounds i0 true).setIfInBounds i1 true).setIfInBounds i2 true).setIfInBounds i3 true).setIfInBounds i4 true)).contains i5=true:=by kernel_rfl) (hQ5:∀ c a w,Q (.panic c) (a.put o5.dst v5) w->Q (.panic c) a w:=by exact λ_ _ _ h=>h) (hy5:YieldsIf P ops S o5 v5 (((((a.put (some d0) v0).put (some d1) v1).put (some d2) v2).put (some d3) v3).put (some d4) v4):=by(try simp only[Yq]);exact Or.inl ⟨by rfl,by intro w hSw;(try dsimp only at hSw);go_simp;(try with_reducible rfl)⟩):wpAnyH P md ops Q S (fuel+1+1+1+1+1+1) listed a w:=
 tkk i0 d0 hS (tkk i1 d1 hS (tkk i2 d2 hS (tkk i3 d3 hS (tkk i4 d4 hS (tkk i5 d5 hS h hi5 hd5 hs hf5 hr5 hQ5 hy5) hi4 hd4 hs hf4 hr4 hQ4 hy4) hi3 hd3 hs hf3 hr3 hQ3 hy3) hi2 hd2 hs hf2 hr2 hQ2 hy2) hi1 hd1 hs hf1 hr1 hQ1 hy1) hi0 hd0 hs hf0 hr0 hQ0 hy0
theorem zap (i:Nat) {fuel:Nat} {listed:Array Bool} {a:Act} {w:World} {o:Oper}
  (h:∀ K':Act->World->Prop,Shut (∀ a w,S w->(S w->wpAnyH P md ops Q S fuel (listed.setIfInBounds i true) a w)->K' a w)->if Region.wanted o (yielded ops a.tmps)=true then Oper.wp P o a w K' Q else K' (a.put o.dst undef) w)
  (ho:ops[i]? =some o:=by rfl) (hr:Region.ready md ops listed= [i]:=by kernel_rfl):wpAnyH P md ops Q S (fuel+1) listed a w:=
 wpAnyH_ready hr (by simp) (AllReadyH.cons ho h AllReadyH.nil)
end
end Go.Proofs.YthceiikgecoimaaGreatDoor
namespace Go.Proofs.YthceiikgecoimaaGreatDoor
set_option linter.unusedVariables false
def kd (c:Int):Int:=
 if c=32\/c=9\/c=13 then 1 else if c=10 then 2 else if c=35 then 3 else if c=95 then 6
 else if c=123\/c=125\/c=44\/c=59\/c=58\/c=47\/c=45 then 7
 else if 97<=c/\c<=122 then 4 else if 48<=c/\c<=57 then 5 else 0
def on (f n:Int):Bool:=
 if f=3 then decide (n≠2)else if f=4 then decide (n=4\/n=6\/n=5)else if f=5 then decide (n=5)else false
theorem zde (f n:Int):on f n=true↔(f=3/\n≠2)\/(f=4/\(n=4\/n=6\/n=5))\/(f=5/\n=5):=by
 unfold on
 (repeat' split)<;>simp<;>omega
def tw (P:UInt8->Bool) (l:List UInt8):Nat:=(l.takeWhile P).length
theorem zcQ (P:UInt8->Bool) (l:List UInt8) (k:Nat) (h:k<l.length):tw P (l.drop k)=if P (l.getD k 0)then 1+tw P (l.drop (k+1))else 0:=by
 unfold tw
 rw[List.drop_eq_getElem_cons h,List.takeWhile_cons,List.getD_eq_getElem?_getD,List.getElem?_eq_getElem h,Option.getD_some];split<;>simp<;>omega
theorem ziu (P:UInt8->Bool) (l:List UInt8) (k:Nat) (h:l.length<=k):tw P (l.drop k)=0:=by
 unfold tw
 rw[List.drop_eq_nil_of_le h];rfl
theorem zpB (P:UInt8->Bool) (l:List UInt8):tw P l<=l.length:=List.Sublist.length_le (List.takeWhile_sublist P)
def zcs (c:UInt8) (x:UInt8):Bool:=on (kd c.toNat) (kd x.toNat)
def en:List UInt8->Nat
 | []=>0
 |c :: r=>1+tw (zcs c) r
theorem zkF (l:List UInt8) (k:Nat) (h:k<l.length):en (l.drop k)=1+tw (zcs (l.getD k 0)) (l.drop (k+1)):=by
 rw[List.drop_eq_getElem_cons h,List.getD_eq_getElem?_getD,List.getElem?_eq_getElem h,Option.getD_some];rfl
theorem zep (l:List UInt8):en l<=l.length:=by
 cases l with
 |nil=>exact Nat.le_refl _
 |cons c r=>have:=zpB (zcs c) r;simp[en];omega
theorem zsI (c:Int):kd c=1↔(c=32\/c=9\/c=13):=by unfold kd;(repeat' split)<;>omega
theorem zrO (c:Int):kd c=2↔c=10:=by unfold kd;(repeat' split)<;>omega
theorem zsJ (c:Int):kd c=3↔c=35:=by unfold kd;(repeat' split)<;>omega
theorem zsN (c:Int):kd c=6↔c=95:=by unfold kd;(repeat' split)<;>omega
theorem zsK (c:Int):kd c=7↔(c=123\/c=125\/c=44\/c=59\/c=58\/c=47\/c=45):=by unfold kd;(repeat' split)<;>omega
theorem zrT (c:Int):kd c=4↔(97<=c/\c<=122):=by unfold kd;(repeat' split)<;>omega
theorem zl0 (c:Int):kd c=5↔(48<=c/\c<=57):=by unfold kd;(repeat' split)<;>omega
def skp:Bool->List UInt8->Nat
 | _,[]=>0
 |true,c :: r=>1+skp (decide (kd c.toNat≠2)) r
 |false,c :: r=>if kd c.toNat=3 then 1+skp true r else if kd c.toNat=1\/kd c.toNat=2 then 1+skp false r else 0
theorem zeW:∀(b:Bool) (l:List UInt8),skp b l<=l.length
 |b,[]=>by cases b<;>exact Nat.le_refl _
 |true,c :: r=>by have:=zeW (decide (kd c.toNat≠2)) r;simp only[skp,List.length_cons];omega
 |false,c :: r=>by
  have h1:=zeW true r;have h2:=zeW false r;simp only[skp,List.length_cons]
  (repeat' split)<;>omega
theorem zg1:∀ r:List UInt8,skp true r=tw (λx=>on 3 (kd x.toNat)) r+skp false (r.drop (tw (λx=>on 3 (kd x.toNat)) r))
 | []=>rfl
 |c :: r=>by
  have ih:=zg1 r;by_cases h:kd c.toNat=2
  ·have h0:on 3 (kd c.toNat)=false:=by rw[h];decide
   have e:tw (λx=>on 3 (kd x.toNat)) (c :: r)=0:=by unfold tw;rw[List.takeWhile_cons];simp[h0]
   rw[e,List.drop_zero];simp[skp,h]
  ·have h0:on 3 (kd c.toNat)=true:=by rw[zde];exact .inl ⟨rfl,h⟩
   have e:tw (λx=>on 3 (kd x.toNat)) (c :: r)=1+tw (λx=>on 3 (kd x.toNat)) r:=by unfold tw;rw[List.takeWhile_cons];simp[h0];omega
   rw[e,Nat.add_comm 1 (tw _ r),List.drop_succ_cons];simp only[skp,ne_eq,h,not_false_eq_true,decide_true];omega
theorem zdL {P:UInt8->Bool} {l:List UInt8} (h:∀ x,P x=false):tw P l=0:=by
 unfold tw
 cases l with
 |nil=>rfl
 |cons c r=>rw[List.takeWhile_cons];simp[h]
theorem zpC {c:UInt8} {r:List UInt8} (h:kd c.toNat=1\/kd c.toNat=2\/kd c.toNat=3):skp false (c :: r)=en (c :: r)+skp false ((c :: r).drop (en (c :: r))):=by
 rcases h with h|h|h
 ·have e:tw (zcs c) r=0:=zdL λx=>by unfold zcs;rw[h];unfold on;simp
  simp[en,e,skp,h]
 ·have e:tw (zcs c) r=0:=zdL λx=>by unfold zcs;rw[h];unfold on;simp
  simp[en,e,skp,h]
 ·have e:zcs c=λx=>on 3 (kd x.toNat):=by funext x;unfold zcs;rw[h]
  have:=zg1 r;simp only[en,e,skp,h,if_true,Nat.add_comm 1 (tw _ r),List.drop_succ_cons];omega
theorem zcR (l:List UInt8) (k:Nat) (h:k<l.length):l.drop k=l.getD k 0 :: l.drop (k+1):=by
 rw[List.drop_eq_getElem_cons h,List.getD_eq_getElem?_getD,List.getElem?_eq_getElem h,Option.getD_some]
def sk (b:Bool) (l:List UInt8) (k:Nat):Nat:=k+skp b (l.drop k)
theorem ziv (b:Bool) (l:List UInt8) (k:Nat) (h:l.length<=k):sk b l k=k:=by
 unfold sk;rw[List.drop_eq_nil_of_le h];cases b<;>rfl
theorem zrU (l:List UInt8) (k:Nat) (h:k<l.length) (hk:kd (l.getD k 0).toNat=1\/kd (l.getD k 0).toNat=2\/kd (l.getD k 0).toNat=3):sk false l (k+en (l.drop k))=sk false l k:=by
 unfold sk
 have e:=zcR l k h;rw[<- List.drop_drop,e,zpC hk];omega
theorem ziw (l:List UInt8) (k:Nat) (h:k<l.length) (hk:¬(kd (l.getD k 0).toNat=1\/kd (l.getD k 0).toNat=2\/kd (l.getD k 0).toNat=3)):sk false l k=k:=by
 unfold sk
 rw[zcR l k h];simp only[skp];rw[if_neg (λh=>hk (.inr (.inr h))),if_neg (λh=>hk (h.elim .inl λh=> .inr (.inl h)))]
 rfl
theorem zpD (l:List UInt8) (k:Nat) (h:k<l.length) (hk:kd (l.getD k 0).toNat=2):sk true l k=sk false l k:=by
 unfold sk
 rw[zcR l k h];generalize l.getD k 0=c at hk |-;simp[skp,hk]
theorem zpE (l:List UInt8) (k:Nat) (h:k<l.length) (hk:kd (l.getD k 0).toNat≠2):sk true l (k+1)=sk true l k:=by
 unfold sk
 rw[zcR l k h];simp only[skp,hk,ne_eq,not_false_eq_true,decide_true];omega
theorem zmB (l:List UInt8) (k:Nat) (h:k<l.length) (hk:kd (l.getD k 0).toNat=3):sk true l k=sk false l k:=by
 unfold sk
 rw[zcR l k h];generalize l.getD k 0=c at hk |-;simp[skp,hk]
theorem zkG (l:List UInt8) (k:Nat) (h:k<l.length) (hk:kd (l.getD k 0).toNat=1\/kd (l.getD k 0).toNat=2):sk false l (k+1)=sk false l k:=by
 unfold sk
 rw[zcR l k h];simp only[skp];rw[if_neg (by omega),if_pos hk];omega
theorem zkH (b:Bool) (l:List UInt8) (k:Nat) (h:k<=l.length):sk b l k<=l.length:=by
 have:=zeW b (l.drop k);rw[List.length_drop]at this;unfold sk;omega
theorem zpF (b:Bool) (l:List UInt8) (k:Nat):k<=sk b l k:=by unfold sk;omega
end Go.Proofs.YthceiikgecoimaaGreatDoor
namespace Go.Proofs.YthceiikgecoimaaGreatDoor
open Go.RowKit
set_option linter.unusedVariables false
def ext (w:World) (os:Array Obj) (k:Nat):World:= { w with heap:=w.heap++os,drawn:=k }
theorem Keep.ext {w w':World} (h:Keep w w'):∃ os k,w'=ext w os k:=by
 obtain⟨h1,h2,h3,h4,h5⟩:=h;refine⟨w'.heap.extract w.heap.size w'.heap.size,w'.drawn,?_⟩;have e:w'.heap=w.heap++w'.heap.extract w.heap.size w'.heap.size:=by
  apply Array.ext_getElem?;intro i
  by_cases hi:i<w.heap.size
  ·rw[h5 i hi,Array.getElem?_append_left hi]
  ·rw[Array.getElem?_append_right (by omega),Array.getElem?_extract];by_cases h6:i<w'.heap.size
   ·rw[if_pos (by omega)];congr 1;omega
   ·rw[if_neg (by omega),Array.getElem?_eq_none (by omega)]
 obtain⟨a,b,c,d,f⟩:=w';obtain⟨a',b',c',d',f'⟩:=w;simp only at h1 h2 h3 e;subst h1 h2 h3;simp only[Proofs.YthceiikgecoimaaGreatDoor.ext];rw[<- e]
theorem zaa {a w:World} (h:Keep a w) (os:Array Obj) (k:Nat):Keep a (ext w os k):=by
 refine h.trans ⟨rfl,rfl,rfl,by simp[ext],λi hi=>?_⟩;simp only[ext];rw[Array.getElem?_append_left hi]
@[go_sem,simp] theorem zrP (w:World) (os:Array Obj) (k:Nat):(ext w os k).heap.size=w.heap.size+os.size:=by simp[ext]
@[go_sem] theorem zrQ (w:World) (os:Array Obj) (k n i:Nat) (hn:n<w.heap.size):(ext w os k).cell? ⟨n,i,none⟩=w.cell? ⟨n,i,none⟩:=
 (zaa (zk w) os k).cell hn
@[go_sem] theorem zpv (w:World) (os:Array Obj) (k n i:Nat) (hn:n<w.heap.size):(ext w os k).frozen? ⟨n,i,none⟩=w.frozen? ⟨n,i,none⟩:=
 (zaa (zk w) os k).frozen hn
@[go_sem] theorem zmC (w:World) (os:Array Obj) (k n i:Nat) (v:Value) (hn:n<w.heap.size):(ext w os k).setCell ⟨n,i,none⟩ v=ext (w.setCell ⟨n,i,none⟩ v) os k:=by
 unfold World.setCell ext
 congr 1;apply Array.ext_getElem?;intro j
 simp only[Array.getElem?_modify,Array.getElem?_append,Array.size_modify];by_cases hj:j<w.heap.size
 ·simp[hj]
 ·have:¬n=j:=by omega
  simp[hj,this]
@[go_sem] theorem zfg (w:World) (o1 o2:Array Obj) (k1 k2:Nat):ext (ext w o1 k1) o2 k2=ext w (o1++o2) k2:=by simp[ext,Array.append_assoc]
@[go_sem] theorem zrR (w:World) (os:Array Obj) (k:Nat):ext w.drew os k=ext w os k:=rfl
@[go_sem] theorem zrV (a x:Nat):a<a+1+x:=by omega
@[go_sem] theorem zrW (a x:Nat):a<a+1+x+1:=by omega
@[go_sem] theorem zpG (a x y:Nat):a<a+1+x+1+y:=by omega
@[go_sem] theorem zpH (a x y:Nat):a<a+1+x+1+y+1:=by omega
@[go_sem] theorem zpI (a x y:Nat):a<a+1+x+1+y+1+1:=by omega
@[go_sem] theorem zpJ (a x y:Nat):a<a+1+x+1+y+1+1+1:=by omega
@[go_sem] theorem zrX (a x:Nat):a<a+1+x+1+1:=by omega
@[go_sem] theorem zpK (a x y:Nat):a<a+1+x+1+1+y:=by omega
@[go_sem] theorem zpL (a x y:Nat):a<a+1+x+1+1+y+1:=by omega
@[go_sem] theorem zpM (a x y:Nat):a<a+1+x+1+1+y+1+1:=by omega
@[go_sem] theorem zpN (a x y:Nat):a<a+1+x+1+1+y+1+1+1:=by omega
@[go_sem] theorem zrY (a x:Nat):a<a+1+x+1+1+1:=by omega
@[go_sem] theorem zpO (a x y:Nat):a<a+1+x+1+1+1+y:=by omega
@[go_sem] theorem zpP (a x y:Nat):a<a+1+x+1+1+1+y+1:=by omega
@[go_sem] theorem zpQ (a x y:Nat):a<a+1+x+1+1+1+y+1+1:=by omega
@[go_sem] theorem zpR (a x y:Nat):a<a+1+x+1+1+1+y+1+1+1:=by omega
@[go_sem] theorem zsO (a:Nat):a<a+1+1:=by omega
@[go_sem] theorem zrZ (a x:Nat):a<a+1+1+x:=by omega
@[go_sem] theorem zr0 (a x:Nat):a<a+1+1+x+1:=by omega
@[go_sem] theorem zpS (a x y:Nat):a<a+1+1+x+1+y:=by omega
@[go_sem] theorem zpT (a x y:Nat):a<a+1+1+x+1+y+1:=by omega
@[go_sem] theorem zpU (a x y:Nat):a<a+1+1+x+1+y+1+1:=by omega
@[go_sem] theorem zpV (a x y:Nat):a<a+1+1+x+1+y+1+1+1:=by omega
@[go_sem] theorem zr1 (a x:Nat):a<a+1+1+x+1+1:=by omega
@[go_sem] theorem zpW (a x y:Nat):a<a+1+1+x+1+1+y:=by omega
@[go_sem] theorem zpX (a x y:Nat):a<a+1+1+x+1+1+y+1:=by omega
@[go_sem] theorem zpY (a x y:Nat):a<a+1+1+x+1+1+y+1+1:=by omega
@[go_sem] theorem zpZ (a x y:Nat):a<a+1+1+x+1+1+y+1+1+1:=by omega
@[go_sem] theorem zr2 (a x:Nat):a<a+1+1+x+1+1+1:=by omega
@[go_sem] theorem zp0 (a x y:Nat):a<a+1+1+x+1+1+1+y:=by omega
@[go_sem] theorem zp1 (a x y:Nat):a<a+1+1+x+1+1+1+y+1:=by omega
@[go_sem] theorem zp2 (a x y:Nat):a<a+1+1+x+1+1+1+y+1+1:=by omega
@[go_sem] theorem zp3 (a x y:Nat):a<a+1+1+x+1+1+1+y+1+1+1:=by omega
@[go_sem] theorem zsP (a:Nat):a<a+1+1+1:=by omega
@[go_sem] theorem zr3 (a x:Nat):a<a+1+1+1+x:=by omega
@[go_sem] theorem zr4 (a x:Nat):a<a+1+1+1+x+1:=by omega
@[go_sem] theorem zp4 (a x y:Nat):a<a+1+1+1+x+1+y:=by omega
@[go_sem] theorem zp5 (a x y:Nat):a<a+1+1+1+x+1+y+1:=by omega
@[go_sem] theorem zp6 (a x y:Nat):a<a+1+1+1+x+1+y+1+1:=by omega
@[go_sem] theorem zp7 (a x y:Nat):a<a+1+1+1+x+1+y+1+1+1:=by omega
@[go_sem] theorem zr5 (a x:Nat):a<a+1+1+1+x+1+1:=by omega
@[go_sem] theorem zp8 (a x y:Nat):a<a+1+1+1+x+1+1+y:=by omega
@[go_sem] theorem zp9 (a x y:Nat):a<a+1+1+1+x+1+1+y+1:=by omega
@[go_sem] theorem zqa (a x y:Nat):a<a+1+1+1+x+1+1+y+1+1:=by omega
@[go_sem] theorem zqb (a x y:Nat):a<a+1+1+1+x+1+1+y+1+1+1:=by omega
@[go_sem] theorem zr6 (a x:Nat):a<a+1+1+1+x+1+1+1:=by omega
@[go_sem] theorem zqc (a x y:Nat):a<a+1+1+1+x+1+1+1+y:=by omega
@[go_sem] theorem zqd (a x y:Nat):a<a+1+1+1+x+1+1+1+y+1:=by omega
@[go_sem] theorem zqe (a x y:Nat):a<a+1+1+1+x+1+1+1+y+1+1:=by omega
@[go_sem] theorem zqf (a x y:Nat):a<a+1+1+1+x+1+1+1+y+1+1+1:=by omega
@[go_sem] theorem zsQ (a:Nat):a<a+1+1+1+1:=by omega
@[go_sem] theorem zr7 (a x:Nat):a<a+1+1+1+1+x:=by omega
@[go_sem] theorem zr8 (a x:Nat):a<a+1+1+1+1+x+1:=by omega
@[go_sem] theorem zqg (a x y:Nat):a<a+1+1+1+1+x+1+y:=by omega
@[go_sem] theorem zqh (a x y:Nat):a<a+1+1+1+1+x+1+y+1:=by omega
@[go_sem] theorem zqi (a x y:Nat):a<a+1+1+1+1+x+1+y+1+1:=by omega
@[go_sem] theorem zqj (a x y:Nat):a<a+1+1+1+1+x+1+y+1+1+1:=by omega
@[go_sem] theorem zr9 (a x:Nat):a<a+1+1+1+1+x+1+1:=by omega
@[go_sem] theorem zqk (a x y:Nat):a<a+1+1+1+1+x+1+1+y:=by omega
@[go_sem] theorem zql (a x y:Nat):a<a+1+1+1+1+x+1+1+y+1:=by omega
@[go_sem] theorem zqm (a x y:Nat):a<a+1+1+1+1+x+1+1+y+1+1:=by omega
@[go_sem] theorem zqn (a x y:Nat):a<a+1+1+1+1+x+1+1+y+1+1+1:=by omega
@[go_sem] theorem zsa (a x:Nat):a<a+1+1+1+1+x+1+1+1:=by omega
@[go_sem] theorem zqo (a x y:Nat):a<a+1+1+1+1+x+1+1+1+y:=by omega
@[go_sem] theorem zqp (a x y:Nat):a<a+1+1+1+1+x+1+1+1+y+1:=by omega
@[go_sem] theorem zqq (a x y:Nat):a<a+1+1+1+1+x+1+1+1+y+1+1:=by omega
@[go_sem] theorem zqr (a x y:Nat):a<a+1+1+1+1+x+1+1+1+y+1+1+1:=by omega
@[go_sem] theorem zsR (a:Nat):a<a+1+1+1+1+1:=by omega
@[go_sem] theorem zsb (a x:Nat):a<a+1+1+1+1+1+x:=by omega
@[go_sem] theorem zsc (a x:Nat):a<a+1+1+1+1+1+x+1:=by omega
@[go_sem] theorem zqs (a x y:Nat):a<a+1+1+1+1+1+x+1+y:=by omega
@[go_sem] theorem zqt (a x y:Nat):a<a+1+1+1+1+1+x+1+y+1:=by omega
@[go_sem] theorem zqu (a x y:Nat):a<a+1+1+1+1+1+x+1+y+1+1:=by omega
@[go_sem] theorem zqv (a x y:Nat):a<a+1+1+1+1+1+x+1+y+1+1+1:=by omega
@[go_sem] theorem zsd (a x:Nat):a<a+1+1+1+1+1+x+1+1:=by omega
@[go_sem] theorem zqw (a x y:Nat):a<a+1+1+1+1+1+x+1+1+y:=by omega
@[go_sem] theorem zqx (a x y:Nat):a<a+1+1+1+1+1+x+1+1+y+1:=by omega
@[go_sem] theorem zqy (a x y:Nat):a<a+1+1+1+1+1+x+1+1+y+1+1:=by omega
@[go_sem] theorem zqz (a x y:Nat):a<a+1+1+1+1+1+x+1+1+y+1+1+1:=by omega
@[go_sem] theorem zse (a x:Nat):a<a+1+1+1+1+1+x+1+1+1:=by omega
@[go_sem] theorem zqA (a x y:Nat):a<a+1+1+1+1+1+x+1+1+1+y:=by omega
@[go_sem] theorem zqB (a x y:Nat):a<a+1+1+1+1+1+x+1+1+1+y+1:=by omega
@[go_sem] theorem zqC (a x y:Nat):a<a+1+1+1+1+1+x+1+1+1+y+1+1:=by omega
@[go_sem] theorem zqD (a x y:Nat):a<a+1+1+1+1+1+x+1+1+1+y+1+1+1:=by omega
@[go_sem] theorem zmD (a x y z:Nat):a<a+1+x+1+y+1+z:=by omega
@[go_sem] theorem zmE (a x y z:Nat):a<a+1+x+1+y+1+z+1:=by omega
@[go_sem] theorem zmF (a x y z:Nat):a<a+1+x+1+y+1+1+z:=by omega
@[go_sem] theorem zmG (a x y z:Nat):a<a+1+x+1+y+1+1+z+1:=by omega
@[go_sem] theorem zmH (a x y z:Nat):a<a+1+x+1+y+1+1+1+z:=by omega
@[go_sem] theorem zmI (a x y z:Nat):a<a+1+x+1+y+1+1+1+z+1:=by omega
@[go_sem] theorem zmJ (a x y z:Nat):a<a+1+x+1+1+y+1+z:=by omega
@[go_sem] theorem zmK (a x y z:Nat):a<a+1+x+1+1+y+1+z+1:=by omega
@[go_sem] theorem zmL (a x y z:Nat):a<a+1+x+1+1+y+1+1+z:=by omega
@[go_sem] theorem zmM (a x y z:Nat):a<a+1+x+1+1+y+1+1+z+1:=by omega
@[go_sem] theorem zmN (a x y z:Nat):a<a+1+x+1+1+y+1+1+1+z:=by omega
@[go_sem] theorem zmO (a x y z:Nat):a<a+1+x+1+1+y+1+1+1+z+1:=by omega
@[go_sem] theorem zmP (a x y z:Nat):a<a+1+x+1+1+1+y+1+z:=by omega
@[go_sem] theorem zmQ (a x y z:Nat):a<a+1+x+1+1+1+y+1+z+1:=by omega
@[go_sem] theorem zmR (a x y z:Nat):a<a+1+x+1+1+1+y+1+1+z:=by omega
@[go_sem] theorem zmS (a x y z:Nat):a<a+1+x+1+1+1+y+1+1+z+1:=by omega
@[go_sem] theorem zmT (a x y z:Nat):a<a+1+x+1+1+1+y+1+1+1+z:=by omega
@[go_sem] theorem zmU (a x y z:Nat):a<a+1+x+1+1+1+y+1+1+1+z+1:=by omega
@[go_sem] theorem zmV (a x y z:Nat):a<a+1+1+x+1+y+1+z:=by omega
@[go_sem] theorem zmW (a x y z:Nat):a<a+1+1+x+1+y+1+z+1:=by omega
@[go_sem] theorem zmX (a x y z:Nat):a<a+1+1+x+1+y+1+1+z:=by omega
@[go_sem] theorem zmY (a x y z:Nat):a<a+1+1+x+1+y+1+1+z+1:=by omega
@[go_sem] theorem zmZ (a x y z:Nat):a<a+1+1+x+1+y+1+1+1+z:=by omega
@[go_sem] theorem zm0 (a x y z:Nat):a<a+1+1+x+1+y+1+1+1+z+1:=by omega
@[go_sem] theorem zm1 (a x y z:Nat):a<a+1+1+x+1+1+y+1+z:=by omega
@[go_sem] theorem zm2 (a x y z:Nat):a<a+1+1+x+1+1+y+1+z+1:=by omega
@[go_sem] theorem zm3 (a x y z:Nat):a<a+1+1+x+1+1+y+1+1+z:=by omega
@[go_sem] theorem zm4 (a x y z:Nat):a<a+1+1+x+1+1+y+1+1+z+1:=by omega
@[go_sem] theorem zm5 (a x y z:Nat):a<a+1+1+x+1+1+y+1+1+1+z:=by omega
@[go_sem] theorem zm6 (a x y z:Nat):a<a+1+1+x+1+1+y+1+1+1+z+1:=by omega
@[go_sem] theorem zm7 (a x y z:Nat):a<a+1+1+x+1+1+1+y+1+z:=by omega
@[go_sem] theorem zm8 (a x y z:Nat):a<a+1+1+x+1+1+1+y+1+z+1:=by omega
@[go_sem] theorem zm9 (a x y z:Nat):a<a+1+1+x+1+1+1+y+1+1+z:=by omega
@[go_sem] theorem zna (a x y z:Nat):a<a+1+1+x+1+1+1+y+1+1+z+1:=by omega
@[go_sem] theorem znb (a x y z:Nat):a<a+1+1+x+1+1+1+y+1+1+1+z:=by omega
@[go_sem] theorem znc (a x y z:Nat):a<a+1+1+x+1+1+1+y+1+1+1+z+1:=by omega
@[go_sem] theorem znd (a x y z:Nat):a<a+1+1+1+x+1+y+1+z:=by omega
@[go_sem] theorem zne (a x y z:Nat):a<a+1+1+1+x+1+y+1+z+1:=by omega
@[go_sem] theorem znf (a x y z:Nat):a<a+1+1+1+x+1+y+1+1+z:=by omega
@[go_sem] theorem zng (a x y z:Nat):a<a+1+1+1+x+1+y+1+1+z+1:=by omega
@[go_sem] theorem znh (a x y z:Nat):a<a+1+1+1+x+1+y+1+1+1+z:=by omega
@[go_sem] theorem zni (a x y z:Nat):a<a+1+1+1+x+1+y+1+1+1+z+1:=by omega
@[go_sem] theorem znj (a x y z:Nat):a<a+1+1+1+x+1+1+y+1+z:=by omega
@[go_sem] theorem znk (a x y z:Nat):a<a+1+1+1+x+1+1+y+1+z+1:=by omega
@[go_sem] theorem znl (a x y z:Nat):a<a+1+1+1+x+1+1+y+1+1+z:=by omega
@[go_sem] theorem znm (a x y z:Nat):a<a+1+1+1+x+1+1+y+1+1+z+1:=by omega
@[go_sem] theorem znn (a x y z:Nat):a<a+1+1+1+x+1+1+y+1+1+1+z:=by omega
@[go_sem] theorem zno (a x y z:Nat):a<a+1+1+1+x+1+1+y+1+1+1+z+1:=by omega
@[go_sem] theorem znp (a x y z:Nat):a<a+1+1+1+x+1+1+1+y+1+z:=by omega
@[go_sem] theorem znq (a x y z:Nat):a<a+1+1+1+x+1+1+1+y+1+z+1:=by omega
@[go_sem] theorem znr (a x y z:Nat):a<a+1+1+1+x+1+1+1+y+1+1+z:=by omega
@[go_sem] theorem zns (a x y z:Nat):a<a+1+1+1+x+1+1+1+y+1+1+z+1:=by omega
@[go_sem] theorem znt (a x y z:Nat):a<a+1+1+1+x+1+1+1+y+1+1+1+z:=by omega
@[go_sem] theorem znu (a x y z:Nat):a<a+1+1+1+x+1+1+1+y+1+1+1+z+1:=by omega
@[go_sem] theorem znv (a x y z:Nat):a<a+1+1+1+1+x+1+y+1+z:=by omega
@[go_sem] theorem znw (a x y z:Nat):a<a+1+1+1+1+x+1+y+1+z+1:=by omega
@[go_sem] theorem znx (a x y z:Nat):a<a+1+1+1+1+x+1+y+1+1+z:=by omega
@[go_sem] theorem zny (a x y z:Nat):a<a+1+1+1+1+x+1+y+1+1+z+1:=by omega
@[go_sem] theorem znz (a x y z:Nat):a<a+1+1+1+1+x+1+y+1+1+1+z:=by omega
@[go_sem] theorem znA (a x y z:Nat):a<a+1+1+1+1+x+1+y+1+1+1+z+1:=by omega
@[go_sem] theorem znB (a x y z:Nat):a<a+1+1+1+1+x+1+1+y+1+z:=by omega
@[go_sem] theorem znC (a x y z:Nat):a<a+1+1+1+1+x+1+1+y+1+z+1:=by omega
@[go_sem] theorem znD (a x y z:Nat):a<a+1+1+1+1+x+1+1+y+1+1+z:=by omega
@[go_sem] theorem znE (a x y z:Nat):a<a+1+1+1+1+x+1+1+y+1+1+z+1:=by omega
@[go_sem] theorem znF (a x y z:Nat):a<a+1+1+1+1+x+1+1+y+1+1+1+z:=by omega
@[go_sem] theorem znG (a x y z:Nat):a<a+1+1+1+1+x+1+1+y+1+1+1+z+1:=by omega
@[go_sem] theorem znH (a x y z:Nat):a<a+1+1+1+1+x+1+1+1+y+1+z:=by omega
@[go_sem] theorem znI (a x y z:Nat):a<a+1+1+1+1+x+1+1+1+y+1+z+1:=by omega
@[go_sem] theorem znJ (a x y z:Nat):a<a+1+1+1+1+x+1+1+1+y+1+1+z:=by omega
@[go_sem] theorem znK (a x y z:Nat):a<a+1+1+1+1+x+1+1+1+y+1+1+z+1:=by omega
@[go_sem] theorem znL (a x y z:Nat):a<a+1+1+1+1+x+1+1+1+y+1+1+1+z:=by omega
@[go_sem] theorem znM (a x y z:Nat):a<a+1+1+1+1+x+1+1+1+y+1+1+1+z+1:=by omega
@[go_sem] theorem znN (a x y z:Nat):a<a+1+1+1+1+1+x+1+y+1+z:=by omega
@[go_sem] theorem znO (a x y z:Nat):a<a+1+1+1+1+1+x+1+y+1+z+1:=by omega
@[go_sem] theorem znP (a x y z:Nat):a<a+1+1+1+1+1+x+1+y+1+1+z:=by omega
@[go_sem] theorem znQ (a x y z:Nat):a<a+1+1+1+1+1+x+1+y+1+1+z+1:=by omega
@[go_sem] theorem znR (a x y z:Nat):a<a+1+1+1+1+1+x+1+y+1+1+1+z:=by omega
@[go_sem] theorem znS (a x y z:Nat):a<a+1+1+1+1+1+x+1+y+1+1+1+z+1:=by omega
@[go_sem] theorem znT (a x y z:Nat):a<a+1+1+1+1+1+x+1+1+y+1+z:=by omega
@[go_sem] theorem znU (a x y z:Nat):a<a+1+1+1+1+1+x+1+1+y+1+z+1:=by omega
@[go_sem] theorem znV (a x y z:Nat):a<a+1+1+1+1+1+x+1+1+y+1+1+z:=by omega
@[go_sem] theorem znW (a x y z:Nat):a<a+1+1+1+1+1+x+1+1+y+1+1+z+1:=by omega
@[go_sem] theorem znX (a x y z:Nat):a<a+1+1+1+1+1+x+1+1+y+1+1+1+z:=by omega
@[go_sem] theorem znY (a x y z:Nat):a<a+1+1+1+1+1+x+1+1+y+1+1+1+z+1:=by omega
@[go_sem] theorem znZ (a x y z:Nat):a<a+1+1+1+1+1+x+1+1+1+y+1+z:=by omega
@[go_sem] theorem zn0 (a x y z:Nat):a<a+1+1+1+1+1+x+1+1+1+y+1+z+1:=by omega
@[go_sem] theorem zn1 (a x y z:Nat):a<a+1+1+1+1+1+x+1+1+1+y+1+1+z:=by omega
@[go_sem] theorem zn2 (a x y z:Nat):a<a+1+1+1+1+1+x+1+1+1+y+1+1+z+1:=by omega
@[go_sem] theorem zn3 (a x y z:Nat):a<a+1+1+1+1+1+x+1+1+1+y+1+1+1+z:=by omega
@[go_sem] theorem zn4 (a x y z:Nat):a<a+1+1+1+1+1+x+1+1+1+y+1+1+1+z+1:=by omega
@[go_sem] theorem zn5 (a b c:Nat) (h:a<b):a<b+c:=by omega
end Go.Proofs.YthceiikgecoimaaGreatDoor
namespace Go.Proofs.YthceiikgecoimaaGreatDoor
open Go.RowKit
attribute [local go_sem ↓] Go.wp_at_zero Go.wp_at_succ
set_option linter.unusedVariables false
set_option linter.unusedSimpArgs false
set_option maxRecDepth 10000
set_option maxHeartbeats 2000000 in
theorem zfh (c:Int) (w:World):Calls Tryz.prog 103 #[.int .u8 c] w λe w'=>e= .returned (.int .i64 (kd c))/\w'=w:=by
 go_enter Tryz.func103,Tryz.ntmps103;go_wp2;all_goals (go_ret;exact⟨zmA (by simp only[beq_iff_eq,beq_eq_false_iff_ne,ne_eq]at *;unfold kd;(repeat' split)<;>omega),rfl⟩)
theorem zdr {a b:Bool} (h:a=b):Ending.returned (.bool a)= .returned (.bool b):=by rw[h]
set_option maxHeartbeats 2000000 in
theorem zix (f n:Int) (g:Nat) (w:World) (h:w.cell? ⟨g,0,none⟩=some (.int .i64 f)):
  Calls Tryz.prog 166 #[.int .i64 n,.pointer (some ⟨g,0,none⟩)] w λe w'=>e= .returned (.bool (on f n))/\w'=w:=by
 go_enter Tryz.func166,Tryz.ntmps166;go_wp2;all_goals (go_ret;refine⟨zdr ?_,rfl⟩;rw[Bool.eq_iff_iff];(first|simp only[zde]|skip);simp only[beq_iff_eq,bne_iff_ne,beq_eq_false_iff_ne,ne_eq,decide_eq_true_eq,Bool.or_eq_true,Bool.and_eq_true,Bool.false_eq_true,false_iff,true_iff]at *;omega)
set_option maxHeartbeats 2000000 in
theorem zn6 (f:Int) (w:World):
  Calls Tryz.prog 141 #[.int .i64 f] w λe w'=>e= .returned (.func (.func 166) #[] #[.pointer (some ⟨w.heap.size,0,none⟩)])/\w'=w.alloc (.cells #[.int .i64 f] 188):=by
 go_enter Tryz.func141,Tryz.ntmps141;go_wp2;go_ret;exact⟨rfl,rfl⟩
set_option maxHeartbeats 2000000 in
theorem zfN (c:Int) (w:World):Calls Tryz.prog 99 #[.int .u8 c] w λe w'=>e= .returned (.bool (decide (97<=c/\c<=122)))/\w'=w:=by
 go_enter Tryz.func99,Tryz.ntmps99;go_wp2;all_goals (go_ret;refine⟨zdr ?_,rfl⟩;rw[Bool.eq_iff_iff];(first|simp only[zde]|skip);simp only[beq_iff_eq,bne_iff_ne,beq_eq_false_iff_ne,ne_eq,decide_eq_true_eq,Bool.or_eq_true,Bool.and_eq_true,Bool.false_eq_true,false_iff,true_iff]at *;omega)
set_option maxHeartbeats 2000000 in
theorem zeq (c:Int) (w:World):Calls Tryz.prog 100 #[.int .u8 c] w λe w'=>e= .returned (.bool (decide (48<=c/\c<=57)))/\w'=w:=by
 go_enter Tryz.func100,Tryz.ntmps100;go_wp2;all_goals (go_ret;refine⟨zdr ?_,rfl⟩;rw[Bool.eq_iff_iff];(first|simp only[zde]|skip);simp only[beq_iff_eq,bne_iff_ne,beq_eq_false_iff_ne,ne_eq,decide_eq_true_eq,Bool.or_eq_true,Bool.and_eq_true,Bool.false_eq_true,false_iff,true_iff]at *;omega)
set_option maxHeartbeats 2000000 in
theorem zkI (c:Int) (w:World):Calls Tryz.prog 101 #[.int .u8 c] w λe w'=>e= .returned (.bool (decide (c=123\/c=125\/c=44\/c=59\/c=58\/c=47\/c=45)))/\w'=w:=by
 go_enter Tryz.func101,Tryz.ntmps101;go_wp2;all_goals (go_ret;refine⟨zdr ?_,rfl⟩;rw[Bool.eq_iff_iff];(first|simp only[zde]|skip);simp only[beq_iff_eq,bne_iff_ne,beq_eq_false_iff_ne,ne_eq,decide_eq_true_eq,Bool.or_eq_true,Bool.and_eq_true,Bool.false_eq_true,false_iff,true_iff]at *;omega)
end Go.Proofs.YthceiikgecoimaaGreatDoor
namespace Go.Proofs.YthceiikgecoimaaGreatDoor
open Go.RowKit
set_option linter.unusedVariables false
set_option linter.unusedSimpArgs false
theorem zag (ad:Addr) (n:Nat):(ad.add n).block=ad.block:=by unfold Addr.add;split<;>rfl
theorem zbt (b o n:Nat):(⟨b,o,none⟩:Addr).add n=⟨b,o+n,none⟩:=by unfold Addr.add;split<;>simp_all
def By (w:World) (v:Value) (l:List UInt8):Prop:=∃ a cap,v= .slice a l.length cap/\l.length<=cap/\∀ k,k<l.length->∃ ad,a=some ad/\ad.block<w.heap.size/\w.cell? (ad.add k)=some (.int .u8 ((l.getD k 0).toNat:Int))
theorem By.keep {w w':World} {v:Value} {l:List UInt8} (h:By w v l) (hk:Keep w w'):By w' v l:=by
 obtain⟨a,cap,rfl,hc,h⟩:=h;refine⟨a,cap,rfl,hc,λk hlt=>?_⟩;obtain⟨ad,h0,h1,h2⟩:=h k hlt;exact⟨ad,h0,Nat.lt_of_lt_of_le h1 (Below.size hk),by rw[Below.cell hk (by rw[zag];exact h1)];exact h2⟩
theorem By.shape {w:World} {v:Value} {l:List UInt8} (h:By w v l):∃ a cap,v= .slice a l.length cap:=by obtain⟨a,cap,rfl,_⟩:=h;exact⟨a,cap,rfl⟩
end Go.Proofs.YthceiikgecoimaaGreatDoor
