/- Plain numbers: what fits 64 bits; what sums, quotients and rests are. No program is met here. -/
import Derived.WalkKit
import Derived.Deep.DrawnRows
import Derived.Deep.RegionHeld
import Derived.Deep.RegionHeld3
import Derived.ProofKit
import Derived.Test.YtpmaonkelkmhbaaGreatProg
import Derived.Laws.AppendOwn
import Derived.Laws.OwnMore
import Derived.Laws.IdiomStrings
import Derived.OwnWalk
import Derived.LoopTactic
import Derived.Deep.DeepCutAuto
namespace Go.Proofs.YtpmaonkelkmhbaaGreat
open Go.RowKit
set_option linter.unusedVariables false
theorem hide {p:Prop} (h:p):Hid p:=h
theorem zo1 {p:Prop} (h:Hid p):p:=h
def Keep (w w':World):Prop:=Below w.heap.size w w'
theorem Keep.refl (w:World):Keep w w:=Below.refl _ _
theorem Keep.trans {a b c:World} (h:Keep a b) (k:Keep b c):Keep a c:=Below.trans h (Below.mono k h.size)
theorem Keep.drew {a b:World} (h:Keep a b):Keep a b.drew:=Below.drew h
theorem Keep.alloc {a b:World} (h:Keep a b) (o:Obj):Keep a (b.alloc o):=Below.alloc h h.size o
def fit (n:Int):Bool:=decide (-9223372036854775808≤n∧n≤9223372036854775807)
def ans (n:Int):Int:=if fit n then n else 0
def err (n:Int):Int:=if fit n then 0 else 2
theorem zbJ {n:Int} (h1: -9223372036854775808≤n) (h2:n≤9223372036854775807):fit n=true:=by simp[fit];omega
theorem zci {n:Int} (h1:n< -9223372036854775808∨9223372036854775807<n):fit n=false:=by simp[fit];omega
theorem zd6 {n:Int} (h1: -9223372036854775808≤n) (h2:n≤9223372036854775807):ans n=n:=by simp[ans,zbJ h1 h2]
theorem zd7 {n:Int} (h1: -9223372036854775808≤n) (h2:n≤9223372036854775807):err n=0:=by simp[err,zbJ h1 h2]
theorem ziE {n:Int} (h1:n< -9223372036854775808∨9223372036854775807<n):ans n=0:=by simp[ans,zci h1]
theorem ziF {n:Int} (h1:n< -9223372036854775808∨9223372036854775807<n):err n=2:=by simp[err,zci h1]
theorem zdh {k:IntKind} {a b:Int} (h:a=b):Ending.returned (.int k a)= .returned (.int k b):=by rw[h]
theorem zf5 {a b c d:Int} (h1:a=b) (h2:c=d):Ending.returned (.tuple #[.int .i64 a,.int .i64 c])= .returned (.tuple #[.int .i64 b,.int .i64 d]):=by rw[h1,h2]
theorem zcj {a b:Int} (h1: -9223372036854775808≤a) (h2:a≤9223372036854775807) (h3: -9223372036854775808≤b) (h4:b≤9223372036854775807)
  (hs:a<0↔b<0) (h:(!decide (wrap64 (a+b)<0)==decide (b<0))=true):a+b< -9223372036854775808∨9223372036854775807<a+b:=by
 by_cases hb:b<0<;>simp[hb,wrap64]at h hs<;>omega
theorem za3 {n:Int} (h: -9223372036854775808≤n∧n≤9223372036854775807):wrap64 n=n:=by unfold wrap64;omega
def cm (x y:Int):Int:=if x=y then 0 else if x<y then -1 else 1
theorem zjc {a b:Int} (h1: -9223372036854775808≤a) (h2:a≤9223372036854775807) (h3: -9223372036854775808≤b) (h4:b≤9223372036854775807):
  -85070591730234615865843651857942052864≤a * b∧a * b≤85070591730234615865843651857942052864:=by
 have e:=Int.natAbs_mul a b;have m:a.natAbs * b.natAbs≤9223372036854775808 * 9223372036854775808:=Nat.mul_le_mul (by omega) (by omega);generalize a.natAbs * b.natAbs=u at e m;omega
theorem zdi {a b c d:Int} (h1:a=b) (h2:c=d):Ending.returned (.agg #[.int .i64 a,.int .u64 c])= .returned (.agg #[.int .i64 b,.int .u64 d]):=by rw[h1,h2]
def zbt (x:Int):Int:=x / 18446744073709551616
def zbF (x:Int):Int:=x % 18446744073709551616
theorem ziG (x:Int):x=zbt x * 18446744073709551616+zbF x∧0≤zbF x∧zbF x<18446744073709551616:=by unfold zbt zbF;omega
theorem zfj {x H L:Int} (h:x=H * 18446744073709551616+L) (h0:0≤L) (h1:L<18446744073709551616):zbt x=H∧zbF x=L:=by unfold zbt zbF;omega
theorem zlP (a b:Int):(a+18446744073709551616) * (b+18446744073709551616)=a * b+18446744073709551616 * (a+b)+340282366920938463463374607431768211456:=by
 rw[Int.add_mul,Int.mul_add,Int.mul_add];omega
theorem zlQ (a b:Int):(a+18446744073709551616) * b=a * b+18446744073709551616 * b:=by rw[Int.add_mul]
theorem zjd (a b:Int):a * (b+18446744073709551616)=a * b+18446744073709551616 * a:=by rw[Int.mul_add];omega
theorem zbR {a:Int} (h1: -9223372036854775808≤a) (h:a<0):IntKind.u64.wrap a=a+18446744073709551616:=by rw[IntKind.wrap_u64];omega
theorem Ya {α:Type} (l:List α) (i:Nat) (a:α):l.toArray.setIfInBounds i a=(l.set i a).toArray:=List.setIfInBounds_toArray ..
theorem Yb {α:Type} {x y:α} {xs:List α} :(x :: xs).set 0 y=y :: xs:=List.set_cons_zero
theorem Yc {α:Type} {x y:α} {n:Nat} {xs:List α} :(x :: xs).set (n+1) y=x :: xs.set n y:=List.set_cons_succ
theorem uq {p:Prop} (h:Hid p):p:=h
end Go.Proofs.YtpmaonkelkmhbaaGreat
namespace Go.Proofs.YtpmaonkelkmhbaaGreat
section
variable {P : Program} {ops : Array Oper} {Q : Exit → Act → World → Prop} {md : Region.Mode} {S : World → Prop}
theorem tkk (i d:Nat) {oi:Oper} {v:Value} {fuel:Nat} {listed:Array Bool} {a:Act} {w:World} (hS:S w) (h:wpAnyH P md ops Q S fuel (listed.setIfInBounds i true) (a.put (some d) v) w)
  (hi:ops[i]? =some oi:=by rfl) (hd:oi.dst=some d:=by rfl) (hs:Region.noSelect ops=true:=by kernel_rfl) (hf:Region.free md ops listed i=true:=by kernel_rfl) (hr:(Region.ready md ops listed).contains i=true:=by kernel_rfl)
  (hQ:∀ c a w,Q (.panic c) (a.put oi.dst v) w→Q (.panic c) a w:=by exact fun _ _ _ h=>h) (hy:YieldsIf P ops S oi v a:=by exact Or.inl ⟨by rfl,by intro w hSw;(try dsimp only at hSw);go_simp;(try with_reducible rfl)⟩):wpAnyH P md ops Q S (fuel+1) listed a w:=
 wpAnyH_take hi hs hf hr hQ hy hS (hd▸h)
theorem zal (i:Nat) {fuel:Nat} {listed:Array Bool} {a:Act} {w:World} {o:Oper}
  (h:∀ K':Act→World→Prop,Shut (∀ a w,S w→(S w→wpAnyH P md ops Q S fuel (listed.setIfInBounds i true) a w)→K' a w)→if Region.wanted o (yielded ops a.tmps)=true then Oper.wp P o a w K' Q else K' (a.put o.dst undef) w)
  (ho:ops[i]? =some o:=by rfl) (hr:Region.ready md ops listed= [i]:=by kernel_rfl):wpAnyH P md ops Q S (fuel+1) listed a w:=
 wpAnyH_ready hr (by simp) (AllReadyH.cons ho h AllReadyH.nil)
end
end Go.Proofs.YtpmaonkelkmhbaaGreat
namespace Go.Proofs.YtpmaonkelkmhbaaGreat
set_option linter.unusedVariables false
def kd (c:Int):Int:=
 if c=32∨c=9∨c=13 then 1 else if c=10 then 2 else if c=35 then 3 else if c=95 then 6
 else if c=123∨c=125∨c=44∨c=59∨c=58∨c=47∨c=45 then 7
 else if 97≤c∧c≤122 then 4 else if 48≤c∧c≤57 then 5 else 0
def on (f n:Int):Bool:=
 if f=3 then decide (n≠2)else if f=4 then decide (n=4∨n=6∨n=5)else if f=5 then decide (n=5)else false
theorem zc4 (f n:Int):on f n=true↔(f=3∧n≠2)∨(f=4∧(n=4∨n=6∨n=5))∨(f=5∧n=5):=by
 unfold on
 (repeat' split)<;>simp<;>omega
def tw (P:UInt8→Bool) (l:List UInt8):Nat:=(l.takeWhile P).length
theorem zb8 (P:UInt8→Bool) (l:List UInt8) (k:Nat) (h:k<l.length):tw P (l.drop k)=if P (l.getD k 0)then 1+tw P (l.drop (k+1))else 0:=by
 unfold tw
 rw[List.drop_eq_getElem_cons h,List.takeWhile_cons,List.getD_eq_getElem?_getD,List.getElem?_eq_getElem h,Option.getD_some];split<;>simp<;>omega
theorem ziH (P:UInt8→Bool) (l:List UInt8) (k:Nat) (h:l.length≤k):tw P (l.drop k)=0:=by
 unfold tw
 rw[List.drop_eq_nil_of_le h];rfl
theorem zn2 (P:UInt8→Bool) (l:List UInt8):tw P l≤l.length:=List.Sublist.length_le (List.takeWhile_sublist P)
def zdJ (c:UInt8) (x:UInt8):Bool:=on (kd c.toNat) (kd x.toNat)
def en:List UInt8→Nat
 | []=>0
 |c :: r=>1+tw (zdJ c) r
theorem zlR (l:List UInt8) (k:Nat) (h:k<l.length):en (l.drop k)=1+tw (zdJ (l.getD k 0)) (l.drop (k+1)):=by
 rw[List.drop_eq_getElem_cons h,List.getD_eq_getElem?_getD,List.getElem?_eq_getElem h,Option.getD_some];rfl
theorem zfk (l:List UInt8):en l≤l.length:=by
 cases l with
 |nil=>exact Nat.le_refl _
 |cons c r=>have:=zn2 (zdJ c) r;simp[en];omega
theorem zo2 (c:Int):kd c=1↔(c=32∨c=9∨c=13):=by unfold kd;(repeat' split)<;>omega
theorem znT (c:Int):kd c=2↔c=10:=by unfold kd;(repeat' split)<;>omega
theorem zo3 (c:Int):kd c=3↔c=35:=by unfold kd;(repeat' split)<;>omega
theorem zo8 (c:Int):kd c=6↔c=95:=by unfold kd;(repeat' split)<;>omega
theorem zo4 (c:Int):kd c=7↔(c=123∨c=125∨c=44∨c=59∨c=58∨c=47∨c=45):=by unfold kd;(repeat' split)<;>omega
theorem zn3 (c:Int):kd c=4↔(97≤c∧c≤122):=by unfold kd;(repeat' split)<;>omega
theorem zlS (c:Int):kd c=5↔(48≤c∧c≤57):=by unfold kd;(repeat' split)<;>omega
def skp:Bool→List UInt8→Nat
 | _,[]=>0
 |true,c :: r=>1+skp (decide (kd c.toNat≠2)) r
 |false,c :: r=>if kd c.toNat=3 then 1+skp true r else if kd c.toNat=1∨kd c.toNat=2 then 1+skp false r else 0
theorem zdK:∀(b:Bool) (l:List UInt8),skp b l≤l.length
 |b,[]=>by cases b<;>exact Nat.le_refl _
 |true,c :: r=>by have:=zdK (decide (kd c.toNat≠2)) r;simp only[skp,List.length_cons];omega
 |false,c :: r=>by
  have h1:=zdK true r;have h2:=zdK false r;simp only[skp,List.length_cons]
  (repeat' split)<;>omega
theorem zf6 {P:UInt8→Bool} {l:List UInt8} (h:∀ x,P x=false):tw P l=0:=by
 unfold tw
 cases l with
 |nil=>rfl
 |cons c r=>rw[List.takeWhile_cons];simp[h]
theorem zb9 (l:List UInt8) (k:Nat) (h:k<l.length):l.drop k=l.getD k 0 :: l.drop (k+1):=by
 rw[List.drop_eq_getElem_cons h,List.getD_eq_getElem?_getD,List.getElem?_eq_getElem h,Option.getD_some]
def sk (b:Bool) (l:List UInt8) (k:Nat):Nat:=k+skp b (l.drop k)
theorem ziI (b:Bool) (l:List UInt8) (k:Nat) (h:l.length≤k):sk b l k=k:=by
 unfold sk;rw[List.drop_eq_nil_of_le h];cases b<;>rfl
theorem zje (l:List UInt8) (k:Nat) (h:k<l.length) (hk:¬(kd (l.getD k 0).toNat=1∨kd (l.getD k 0).toNat=2∨kd (l.getD k 0).toNat=3)):sk false l k=k:=by
 unfold sk
 rw[zb9 l k h];simp only[skp];rw[if_neg (fun h=>hk (.inr (.inr h))),if_neg (fun h=>hk (h.elim .inl fun h=> .inr (.inl h)))]
 rfl
theorem zlT (l:List UInt8) (k:Nat) (h:k<l.length) (hk:kd (l.getD k 0).toNat=2):sk true l k=sk false l k:=by
 unfold sk
 rw[zb9 l k h];generalize l.getD k 0=c at hk ⊢;simp[skp,hk]
theorem zlU (l:List UInt8) (k:Nat) (h:k<l.length) (hk:kd (l.getD k 0).toNat≠2):sk true l (k+1)=sk true l k:=by
 unfold sk
 rw[zb9 l k h];simp only[skp,hk,ne_eq,not_false_eq_true,decide_true];omega
theorem zjf (l:List UInt8) (k:Nat) (h:k<l.length) (hk:kd (l.getD k 0).toNat=3):sk true l k=sk false l k:=by
 unfold sk
 rw[zb9 l k h];generalize l.getD k 0=c at hk ⊢;simp[skp,hk]
theorem zhM (l:List UInt8) (k:Nat) (h:k<l.length) (hk:kd (l.getD k 0).toNat=1∨kd (l.getD k 0).toNat=2):sk false l (k+1)=sk false l k:=by
 unfold sk
 rw[zb9 l k h];simp only[skp];rw[if_neg (by omega),if_pos hk];omega
theorem zn4 (b:Bool) (l:List UInt8) (k:Nat) (h:k≤l.length):sk b l k≤l.length:=by
 have:=zdK b (l.drop k);rw[List.length_drop]at this;unfold sk;omega
theorem zn5 (b:Bool) (l:List UInt8) (k:Nat):k≤sk b l k:=by unfold sk;omega
end Go.Proofs.YtpmaonkelkmhbaaGreat
namespace Go.Proofs.YtpmaonkelkmhbaaGreat
open Go.RowKit
set_option linter.unusedVariables false
def ext (w:World) (os:Array Obj) (k:Nat):World:= { w with heap:=w.heap++os,drawn:=k }
theorem Keep.ext {w w':World} (h:Keep w w'):∃ os k,w'=ext w os k:=by
 obtain⟨h1,h2,h3,h4,h5⟩:=h;refine⟨w'.heap.extract w.heap.size w'.heap.size,w'.drawn,?_⟩;have e:w'.heap=w.heap++w'.heap.extract w.heap.size w'.heap.size:=by
  apply Array.ext_getElem?;intro i
  by_cases hi:i<w.heap.size
  ·rw[h5 i hi,Array.getElem?_append_left hi]
  ·rw[Array.getElem?_append_right (by omega),Array.getElem?_extract];by_cases h6:i<w'.heap.size
   ·rw[if_pos (by omega)];congr 1;omega
   ·rw[if_neg (by omega),Array.getElem?_eq_none (by omega)]
 obtain⟨a,b,c,d,f⟩:=w';obtain⟨a',b',c',d',f'⟩:=w;simp only at h1 h2 h3 e;subst h1 h2 h3;simp only[Proofs.YtpmaonkelkmhbaaGreat.ext];rw[← e]
theorem zaa {a w:World} (h:Keep a w) (os:Array Obj) (k:Nat):Keep a (ext w os k):=by
 refine h.trans ⟨rfl,rfl,rfl,by simp[ext],fun i hi=>?_⟩;simp only[ext];rw[Array.getElem?_append_left hi]
@[go_sem,simp] theorem znU (w:World) (os:Array Obj) (k:Nat):(ext w os k).heap.size=w.heap.size+os.size:=by simp[ext]
@[go_sem] theorem znV (w:World) (os:Array Obj) (k n i:Nat) (hn:n<w.heap.size):(ext w os k).cell? ⟨n,i,none⟩=w.cell? ⟨n,i,none⟩:=
 (zaa (Keep.refl w) os k).cell hn
@[go_sem] theorem zlJ (w:World) (os:Array Obj) (k n i:Nat) (hn:n<w.heap.size):(ext w os k).frozen? ⟨n,i,none⟩=w.frozen? ⟨n,i,none⟩:=
 (zaa (Keep.refl w) os k).frozen hn
@[go_sem] theorem zjg (w:World) (os:Array Obj) (k n i:Nat) (v:Value) (hn:n<w.heap.size):(ext w os k).setCell ⟨n,i,none⟩ v=ext (w.setCell ⟨n,i,none⟩ v) os k:=by
 unfold World.setCell ext
 congr 1;apply Array.ext_getElem?;intro j
 simp only[Array.getElem?_modify,Array.getElem?_append,Array.size_modify];by_cases hj:j<w.heap.size
 ·simp[hj]
 ·have:¬n=j:=by omega
  simp[hj,this]
@[go_sem] theorem zn6 (w:World) (o1 o2:Array Obj) (k1 k2:Nat):ext (ext w o1 k1) o2 k2=ext w (o1++o2) k2:=by simp[ext,Array.append_assoc]
@[go_sem] theorem znW (w:World) (os:Array Obj) (k:Nat):ext w.drew os k=ext w os k:=rfl
@[go_sem] theorem zn7 (a x:Nat):a<a+1+x:=by omega
@[go_sem] theorem zn8 (a x:Nat):a<a+1+x+1:=by omega
@[go_sem] theorem zlV (a x y:Nat):a<a+1+x+1+y:=by omega
@[go_sem] theorem zlW (a x y:Nat):a<a+1+x+1+y+1:=by omega
@[go_sem] theorem zlX (a x y:Nat):a<a+1+x+1+y+1+1:=by omega
@[go_sem] theorem zlY (a x y:Nat):a<a+1+x+1+y+1+1+1:=by omega
@[go_sem] theorem zn9 (a x:Nat):a<a+1+x+1+1:=by omega
@[go_sem] theorem zlZ (a x y:Nat):a<a+1+x+1+1+y:=by omega
@[go_sem] theorem zl0 (a x y:Nat):a<a+1+x+1+1+y+1:=by omega
@[go_sem] theorem zl1 (a x y:Nat):a<a+1+x+1+1+y+1+1:=by omega
@[go_sem] theorem zl2 (a x y:Nat):a<a+1+x+1+1+y+1+1+1:=by omega
@[go_sem] theorem zoa (a x:Nat):a<a+1+x+1+1+1:=by omega
@[go_sem] theorem zl3 (a x y:Nat):a<a+1+x+1+1+1+y:=by omega
@[go_sem] theorem zl4 (a x y:Nat):a<a+1+x+1+1+1+y+1:=by omega
@[go_sem] theorem zl5 (a x y:Nat):a<a+1+x+1+1+1+y+1+1:=by omega
@[go_sem] theorem zl6 (a x y:Nat):a<a+1+x+1+1+1+y+1+1+1:=by omega
@[go_sem] theorem zo9 (a:Nat):a<a+1+1:=by omega
@[go_sem] theorem zob (a x:Nat):a<a+1+1+x:=by omega
@[go_sem] theorem zoc (a x:Nat):a<a+1+1+x+1:=by omega
@[go_sem] theorem zl7 (a x y:Nat):a<a+1+1+x+1+y:=by omega
@[go_sem] theorem zl8 (a x y:Nat):a<a+1+1+x+1+y+1:=by omega
@[go_sem] theorem zl9 (a x y:Nat):a<a+1+1+x+1+y+1+1:=by omega
@[go_sem] theorem zma (a x y:Nat):a<a+1+1+x+1+y+1+1+1:=by omega
@[go_sem] theorem zod (a x:Nat):a<a+1+1+x+1+1:=by omega
@[go_sem] theorem zmb (a x y:Nat):a<a+1+1+x+1+1+y:=by omega
@[go_sem] theorem zmc (a x y:Nat):a<a+1+1+x+1+1+y+1:=by omega
@[go_sem] theorem zmd (a x y:Nat):a<a+1+1+x+1+1+y+1+1:=by omega
@[go_sem] theorem zme (a x y:Nat):a<a+1+1+x+1+1+y+1+1+1:=by omega
@[go_sem] theorem zoe (a x:Nat):a<a+1+1+x+1+1+1:=by omega
@[go_sem] theorem zmf (a x y:Nat):a<a+1+1+x+1+1+1+y:=by omega
@[go_sem] theorem zmg (a x y:Nat):a<a+1+1+x+1+1+1+y+1:=by omega
@[go_sem] theorem zmh (a x y:Nat):a<a+1+1+x+1+1+1+y+1+1:=by omega
@[go_sem] theorem zmi (a x y:Nat):a<a+1+1+x+1+1+1+y+1+1+1:=by omega
@[go_sem] theorem zpa (a:Nat):a<a+1+1+1:=by omega
@[go_sem] theorem zof (a x:Nat):a<a+1+1+1+x:=by omega
@[go_sem] theorem zog (a x:Nat):a<a+1+1+1+x+1:=by omega
@[go_sem] theorem zmj (a x y:Nat):a<a+1+1+1+x+1+y:=by omega
@[go_sem] theorem zmk (a x y:Nat):a<a+1+1+1+x+1+y+1:=by omega
@[go_sem] theorem zml (a x y:Nat):a<a+1+1+1+x+1+y+1+1:=by omega
@[go_sem] theorem zmm (a x y:Nat):a<a+1+1+1+x+1+y+1+1+1:=by omega
@[go_sem] theorem zoh (a x:Nat):a<a+1+1+1+x+1+1:=by omega
@[go_sem] theorem zmn (a x y:Nat):a<a+1+1+1+x+1+1+y:=by omega
@[go_sem] theorem zmo (a x y:Nat):a<a+1+1+1+x+1+1+y+1:=by omega
@[go_sem] theorem zmp (a x y:Nat):a<a+1+1+1+x+1+1+y+1+1:=by omega
@[go_sem] theorem zmq (a x y:Nat):a<a+1+1+1+x+1+1+y+1+1+1:=by omega
@[go_sem] theorem zoi (a x:Nat):a<a+1+1+1+x+1+1+1:=by omega
@[go_sem] theorem zmr (a x y:Nat):a<a+1+1+1+x+1+1+1+y:=by omega
@[go_sem] theorem zms (a x y:Nat):a<a+1+1+1+x+1+1+1+y+1:=by omega
@[go_sem] theorem zmt (a x y:Nat):a<a+1+1+1+x+1+1+1+y+1+1:=by omega
@[go_sem] theorem zmu (a x y:Nat):a<a+1+1+1+x+1+1+1+y+1+1+1:=by omega
@[go_sem] theorem zpb (a:Nat):a<a+1+1+1+1:=by omega
@[go_sem] theorem zoj (a x:Nat):a<a+1+1+1+1+x:=by omega
@[go_sem] theorem zok (a x:Nat):a<a+1+1+1+1+x+1:=by omega
@[go_sem] theorem zmv (a x y:Nat):a<a+1+1+1+1+x+1+y:=by omega
@[go_sem] theorem zmw (a x y:Nat):a<a+1+1+1+1+x+1+y+1:=by omega
@[go_sem] theorem zmx (a x y:Nat):a<a+1+1+1+1+x+1+y+1+1:=by omega
@[go_sem] theorem zmy (a x y:Nat):a<a+1+1+1+1+x+1+y+1+1+1:=by omega
@[go_sem] theorem zol (a x:Nat):a<a+1+1+1+1+x+1+1:=by omega
@[go_sem] theorem zmz (a x y:Nat):a<a+1+1+1+1+x+1+1+y:=by omega
@[go_sem] theorem zmA (a x y:Nat):a<a+1+1+1+1+x+1+1+y+1:=by omega
@[go_sem] theorem zmB (a x y:Nat):a<a+1+1+1+1+x+1+1+y+1+1:=by omega
@[go_sem] theorem zmC (a x y:Nat):a<a+1+1+1+1+x+1+1+y+1+1+1:=by omega
@[go_sem] theorem zom (a x:Nat):a<a+1+1+1+1+x+1+1+1:=by omega
@[go_sem] theorem zmD (a x y:Nat):a<a+1+1+1+1+x+1+1+1+y:=by omega
@[go_sem] theorem zmE (a x y:Nat):a<a+1+1+1+1+x+1+1+1+y+1:=by omega
@[go_sem] theorem zmF (a x y:Nat):a<a+1+1+1+1+x+1+1+1+y+1+1:=by omega
@[go_sem] theorem zmG (a x y:Nat):a<a+1+1+1+1+x+1+1+1+y+1+1+1:=by omega
@[go_sem] theorem zpc (a:Nat):a<a+1+1+1+1+1:=by omega
@[go_sem] theorem zon (a x:Nat):a<a+1+1+1+1+1+x:=by omega
@[go_sem] theorem zoo (a x:Nat):a<a+1+1+1+1+1+x+1:=by omega
@[go_sem] theorem zmH (a x y:Nat):a<a+1+1+1+1+1+x+1+y:=by omega
@[go_sem] theorem zmI (a x y:Nat):a<a+1+1+1+1+1+x+1+y+1:=by omega
@[go_sem] theorem zmJ (a x y:Nat):a<a+1+1+1+1+1+x+1+y+1+1:=by omega
@[go_sem] theorem zmK (a x y:Nat):a<a+1+1+1+1+1+x+1+y+1+1+1:=by omega
@[go_sem] theorem zop (a x:Nat):a<a+1+1+1+1+1+x+1+1:=by omega
@[go_sem] theorem zmL (a x y:Nat):a<a+1+1+1+1+1+x+1+1+y:=by omega
@[go_sem] theorem zmM (a x y:Nat):a<a+1+1+1+1+1+x+1+1+y+1:=by omega
@[go_sem] theorem zmN (a x y:Nat):a<a+1+1+1+1+1+x+1+1+y+1+1:=by omega
@[go_sem] theorem zmO (a x y:Nat):a<a+1+1+1+1+1+x+1+1+y+1+1+1:=by omega
@[go_sem] theorem zoq (a x:Nat):a<a+1+1+1+1+1+x+1+1+1:=by omega
@[go_sem] theorem zmP (a x y:Nat):a<a+1+1+1+1+1+x+1+1+1+y:=by omega
@[go_sem] theorem zmQ (a x y:Nat):a<a+1+1+1+1+1+x+1+1+1+y+1:=by omega
@[go_sem] theorem zmR (a x y:Nat):a<a+1+1+1+1+1+x+1+1+1+y+1+1:=by omega
@[go_sem] theorem zmS (a x y:Nat):a<a+1+1+1+1+1+x+1+1+1+y+1+1+1:=by omega
@[go_sem] theorem zjh (a x y z:Nat):a<a+1+x+1+y+1+z:=by omega
@[go_sem] theorem zji (a x y z:Nat):a<a+1+x+1+y+1+z+1:=by omega
@[go_sem] theorem zjj (a x y z:Nat):a<a+1+x+1+y+1+1+z:=by omega
@[go_sem] theorem zjk (a x y z:Nat):a<a+1+x+1+y+1+1+z+1:=by omega
@[go_sem] theorem zjl (a x y z:Nat):a<a+1+x+1+y+1+1+1+z:=by omega
@[go_sem] theorem zjm (a x y z:Nat):a<a+1+x+1+y+1+1+1+z+1:=by omega
@[go_sem] theorem zjn (a x y z:Nat):a<a+1+x+1+1+y+1+z:=by omega
@[go_sem] theorem zjo (a x y z:Nat):a<a+1+x+1+1+y+1+z+1:=by omega
@[go_sem] theorem zjp (a x y z:Nat):a<a+1+x+1+1+y+1+1+z:=by omega
@[go_sem] theorem zjq (a x y z:Nat):a<a+1+x+1+1+y+1+1+z+1:=by omega
@[go_sem] theorem zjr (a x y z:Nat):a<a+1+x+1+1+y+1+1+1+z:=by omega
@[go_sem] theorem zjs (a x y z:Nat):a<a+1+x+1+1+y+1+1+1+z+1:=by omega
@[go_sem] theorem zjt (a x y z:Nat):a<a+1+x+1+1+1+y+1+z:=by omega
@[go_sem] theorem zju (a x y z:Nat):a<a+1+x+1+1+1+y+1+z+1:=by omega
@[go_sem] theorem zjv (a x y z:Nat):a<a+1+x+1+1+1+y+1+1+z:=by omega
@[go_sem] theorem zjw (a x y z:Nat):a<a+1+x+1+1+1+y+1+1+z+1:=by omega
@[go_sem] theorem zjx (a x y z:Nat):a<a+1+x+1+1+1+y+1+1+1+z:=by omega
@[go_sem] theorem zjy (a x y z:Nat):a<a+1+x+1+1+1+y+1+1+1+z+1:=by omega
@[go_sem] theorem zjz (a x y z:Nat):a<a+1+1+x+1+y+1+z:=by omega
@[go_sem] theorem zjA (a x y z:Nat):a<a+1+1+x+1+y+1+z+1:=by omega
@[go_sem] theorem zjB (a x y z:Nat):a<a+1+1+x+1+y+1+1+z:=by omega
@[go_sem] theorem zjC (a x y z:Nat):a<a+1+1+x+1+y+1+1+z+1:=by omega
@[go_sem] theorem zjD (a x y z:Nat):a<a+1+1+x+1+y+1+1+1+z:=by omega
@[go_sem] theorem zjE (a x y z:Nat):a<a+1+1+x+1+y+1+1+1+z+1:=by omega
@[go_sem] theorem zjF (a x y z:Nat):a<a+1+1+x+1+1+y+1+z:=by omega
@[go_sem] theorem zjG (a x y z:Nat):a<a+1+1+x+1+1+y+1+z+1:=by omega
@[go_sem] theorem zjH (a x y z:Nat):a<a+1+1+x+1+1+y+1+1+z:=by omega
@[go_sem] theorem zjI (a x y z:Nat):a<a+1+1+x+1+1+y+1+1+z+1:=by omega
@[go_sem] theorem zjJ (a x y z:Nat):a<a+1+1+x+1+1+y+1+1+1+z:=by omega
@[go_sem] theorem zjK (a x y z:Nat):a<a+1+1+x+1+1+y+1+1+1+z+1:=by omega
@[go_sem] theorem zjL (a x y z:Nat):a<a+1+1+x+1+1+1+y+1+z:=by omega
@[go_sem] theorem zjM (a x y z:Nat):a<a+1+1+x+1+1+1+y+1+z+1:=by omega
@[go_sem] theorem zjN (a x y z:Nat):a<a+1+1+x+1+1+1+y+1+1+z:=by omega
@[go_sem] theorem zjO (a x y z:Nat):a<a+1+1+x+1+1+1+y+1+1+z+1:=by omega
@[go_sem] theorem zjP (a x y z:Nat):a<a+1+1+x+1+1+1+y+1+1+1+z:=by omega
@[go_sem] theorem zjQ (a x y z:Nat):a<a+1+1+x+1+1+1+y+1+1+1+z+1:=by omega
@[go_sem] theorem zjR (a x y z:Nat):a<a+1+1+1+x+1+y+1+z:=by omega
@[go_sem] theorem zjS (a x y z:Nat):a<a+1+1+1+x+1+y+1+z+1:=by omega
@[go_sem] theorem zjT (a x y z:Nat):a<a+1+1+1+x+1+y+1+1+z:=by omega
@[go_sem] theorem zjU (a x y z:Nat):a<a+1+1+1+x+1+y+1+1+z+1:=by omega
@[go_sem] theorem zjV (a x y z:Nat):a<a+1+1+1+x+1+y+1+1+1+z:=by omega
@[go_sem] theorem zjW (a x y z:Nat):a<a+1+1+1+x+1+y+1+1+1+z+1:=by omega
@[go_sem] theorem zjX (a x y z:Nat):a<a+1+1+1+x+1+1+y+1+z:=by omega
@[go_sem] theorem zjY (a x y z:Nat):a<a+1+1+1+x+1+1+y+1+z+1:=by omega
@[go_sem] theorem zjZ (a x y z:Nat):a<a+1+1+1+x+1+1+y+1+1+z:=by omega
@[go_sem] theorem zj0 (a x y z:Nat):a<a+1+1+1+x+1+1+y+1+1+z+1:=by omega
@[go_sem] theorem zj1 (a x y z:Nat):a<a+1+1+1+x+1+1+y+1+1+1+z:=by omega
@[go_sem] theorem zj2 (a x y z:Nat):a<a+1+1+1+x+1+1+y+1+1+1+z+1:=by omega
@[go_sem] theorem zj3 (a x y z:Nat):a<a+1+1+1+x+1+1+1+y+1+z:=by omega
@[go_sem] theorem zj4 (a x y z:Nat):a<a+1+1+1+x+1+1+1+y+1+z+1:=by omega
@[go_sem] theorem zj5 (a x y z:Nat):a<a+1+1+1+x+1+1+1+y+1+1+z:=by omega
@[go_sem] theorem zj6 (a x y z:Nat):a<a+1+1+1+x+1+1+1+y+1+1+z+1:=by omega
@[go_sem] theorem zj7 (a x y z:Nat):a<a+1+1+1+x+1+1+1+y+1+1+1+z:=by omega
@[go_sem] theorem zj8 (a x y z:Nat):a<a+1+1+1+x+1+1+1+y+1+1+1+z+1:=by omega
@[go_sem] theorem zj9 (a x y z:Nat):a<a+1+1+1+1+x+1+y+1+z:=by omega
@[go_sem] theorem zka (a x y z:Nat):a<a+1+1+1+1+x+1+y+1+z+1:=by omega
@[go_sem] theorem zkb (a x y z:Nat):a<a+1+1+1+1+x+1+y+1+1+z:=by omega
@[go_sem] theorem zkc (a x y z:Nat):a<a+1+1+1+1+x+1+y+1+1+z+1:=by omega
@[go_sem] theorem zkd (a x y z:Nat):a<a+1+1+1+1+x+1+y+1+1+1+z:=by omega
@[go_sem] theorem zke (a x y z:Nat):a<a+1+1+1+1+x+1+y+1+1+1+z+1:=by omega
@[go_sem] theorem zkf (a x y z:Nat):a<a+1+1+1+1+x+1+1+y+1+z:=by omega
@[go_sem] theorem zkg (a x y z:Nat):a<a+1+1+1+1+x+1+1+y+1+z+1:=by omega
@[go_sem] theorem zkh (a x y z:Nat):a<a+1+1+1+1+x+1+1+y+1+1+z:=by omega
@[go_sem] theorem zki (a x y z:Nat):a<a+1+1+1+1+x+1+1+y+1+1+z+1:=by omega
@[go_sem] theorem zkj (a x y z:Nat):a<a+1+1+1+1+x+1+1+y+1+1+1+z:=by omega
@[go_sem] theorem zkk (a x y z:Nat):a<a+1+1+1+1+x+1+1+y+1+1+1+z+1:=by omega
@[go_sem] theorem zkl (a x y z:Nat):a<a+1+1+1+1+x+1+1+1+y+1+z:=by omega
@[go_sem] theorem zkm (a x y z:Nat):a<a+1+1+1+1+x+1+1+1+y+1+z+1:=by omega
@[go_sem] theorem zkn (a x y z:Nat):a<a+1+1+1+1+x+1+1+1+y+1+1+z:=by omega
@[go_sem] theorem zko (a x y z:Nat):a<a+1+1+1+1+x+1+1+1+y+1+1+z+1:=by omega
@[go_sem] theorem zkp (a x y z:Nat):a<a+1+1+1+1+x+1+1+1+y+1+1+1+z:=by omega
@[go_sem] theorem zkq (a x y z:Nat):a<a+1+1+1+1+x+1+1+1+y+1+1+1+z+1:=by omega
@[go_sem] theorem zkr (a x y z:Nat):a<a+1+1+1+1+1+x+1+y+1+z:=by omega
@[go_sem] theorem zks (a x y z:Nat):a<a+1+1+1+1+1+x+1+y+1+z+1:=by omega
@[go_sem] theorem zkt (a x y z:Nat):a<a+1+1+1+1+1+x+1+y+1+1+z:=by omega
@[go_sem] theorem zku (a x y z:Nat):a<a+1+1+1+1+1+x+1+y+1+1+z+1:=by omega
@[go_sem] theorem zkv (a x y z:Nat):a<a+1+1+1+1+1+x+1+y+1+1+1+z:=by omega
@[go_sem] theorem zkw (a x y z:Nat):a<a+1+1+1+1+1+x+1+y+1+1+1+z+1:=by omega
@[go_sem] theorem zkx (a x y z:Nat):a<a+1+1+1+1+1+x+1+1+y+1+z:=by omega
@[go_sem] theorem zky (a x y z:Nat):a<a+1+1+1+1+1+x+1+1+y+1+z+1:=by omega
@[go_sem] theorem zkz (a x y z:Nat):a<a+1+1+1+1+1+x+1+1+y+1+1+z:=by omega
@[go_sem] theorem zkA (a x y z:Nat):a<a+1+1+1+1+1+x+1+1+y+1+1+z+1:=by omega
@[go_sem] theorem zkB (a x y z:Nat):a<a+1+1+1+1+1+x+1+1+y+1+1+1+z:=by omega
@[go_sem] theorem zkC (a x y z:Nat):a<a+1+1+1+1+1+x+1+1+y+1+1+1+z+1:=by omega
@[go_sem] theorem zkD (a x y z:Nat):a<a+1+1+1+1+1+x+1+1+1+y+1+z:=by omega
@[go_sem] theorem zkE (a x y z:Nat):a<a+1+1+1+1+1+x+1+1+1+y+1+z+1:=by omega
@[go_sem] theorem zkF (a x y z:Nat):a<a+1+1+1+1+1+x+1+1+1+y+1+1+z:=by omega
@[go_sem] theorem zkG (a x y z:Nat):a<a+1+1+1+1+1+x+1+1+1+y+1+1+z+1:=by omega
@[go_sem] theorem zkH (a x y z:Nat):a<a+1+1+1+1+1+x+1+1+1+y+1+1+1+z:=by omega
@[go_sem] theorem zkI (a x y z:Nat):a<a+1+1+1+1+1+x+1+1+1+y+1+1+1+z+1:=by omega
@[go_sem] theorem zkJ (a b c:Nat) (h:a<b):a<b+c:=by omega
end Go.Proofs.YtpmaonkelkmhbaaGreat
namespace Go.Proofs.YtpmaonkelkmhbaaGreat
open Go.RowKit
attribute [local go_sem ↓] Go.wp_at_zero Go.wp_at_succ
set_option linter.unusedVariables false
set_option linter.unusedSimpArgs false
set_option maxRecDepth 10000
theorem zdj {a b:Bool} (h:a=b):Ending.returned (.bool a)= .returned (.bool b):=by rw[h]
set_option maxHeartbeats 2000000 in
theorem zdL (c:Int) (w:World):Calls Tryz.prog 64 #[.int .u8 c] w fun e w'=>e= .returned (.bool (decide (97≤c∧c≤122)))∧w'=w:=by
 go_enter Tryz.func64,Tryz.ntmps64;go_wp2;all_goals (go_ret;refine⟨zdj ?_,rfl⟩;rw[Bool.eq_iff_iff];(first|simp only[zc4]|skip);simp only[beq_iff_eq,bne_iff_ne,beq_eq_false_iff_ne,ne_eq,decide_eq_true_eq,Bool.or_eq_true,Bool.and_eq_true,Bool.false_eq_true,false_iff,true_iff]at *;omega)
set_option maxHeartbeats 2000000 in
theorem zcG (c:Int) (w:World):Calls Tryz.prog 65 #[.int .u8 c] w fun e w'=>e= .returned (.bool (decide (48≤c∧c≤57)))∧w'=w:=by
 go_enter Tryz.func65,Tryz.ntmps65;go_wp2;all_goals (go_ret;refine⟨zdj ?_,rfl⟩;rw[Bool.eq_iff_iff];(first|simp only[zc4]|skip);simp only[beq_iff_eq,bne_iff_ne,beq_eq_false_iff_ne,ne_eq,decide_eq_true_eq,Bool.or_eq_true,Bool.and_eq_true,Bool.false_eq_true,false_iff,true_iff]at *;omega)
set_option maxHeartbeats 2000000 in
theorem zhN (c:Int) (w:World):Calls Tryz.prog 66 #[.int .u8 c] w fun e w'=>e= .returned (.bool (decide (c=123∨c=125∨c=44∨c=59∨c=58∨c=47∨c=45)))∧w'=w:=by
 go_enter Tryz.func66,Tryz.ntmps66;go_wp2;all_goals (go_ret;refine⟨zdj ?_,rfl⟩;rw[Bool.eq_iff_iff];(first|simp only[zc4]|skip);simp only[beq_iff_eq,bne_iff_ne,beq_eq_false_iff_ne,ne_eq,decide_eq_true_eq,Bool.or_eq_true,Bool.and_eq_true,Bool.false_eq_true,false_iff,true_iff]at *;omega)
end Go.Proofs.YtpmaonkelkmhbaaGreat
namespace Go.Proofs.YtpmaonkelkmhbaaGreat
open Go.RowKit
set_option linter.unusedVariables false
set_option linter.unusedSimpArgs false
theorem zaH (ad:Addr) (n:Nat):(ad.add n).block=ad.block:=by unfold Addr.add;split<;>rfl
theorem zaP (b o n:Nat):(⟨b,o,none⟩:Addr).add n=⟨b,o+n,none⟩:=by unfold Addr.add;split<;>simp_all
def By (w:World) (v:Value) (l:List UInt8):Prop:=∃ a cap,v= .slice a l.length cap∧l.length≤cap∧∀ k,k<l.length→∃ ad,a=some ad∧ad.block<w.heap.size∧w.cell? (ad.add k)=some (.int .u8 ((l.getD k 0).toNat:Int))
theorem By.keep {w w':World} {v:Value} {l:List UInt8} (h:By w v l) (hk:Keep w w'):By w' v l:=by
 obtain⟨a,cap,rfl,hc,h⟩:=h;refine⟨a,cap,rfl,hc,fun k hlt=>?_⟩;obtain⟨ad,h0,h1,h2⟩:=h k hlt;exact⟨ad,h0,Nat.lt_of_lt_of_le h1 (Below.size hk),by rw[Below.cell hk (by rw[zaH];exact h1)];exact h2⟩
theorem By.shape {w:World} {v:Value} {l:List UInt8} (h:By w v l):∃ a cap,v= .slice a l.length cap:=by obtain⟨a,cap,rfl,_⟩:=h;exact⟨a,cap,rfl⟩
end Go.Proofs.YtpmaonkelkmhbaaGreat
namespace Go.Proofs.YtpmaonkelkmhbaaGreat
open Go.RowKit
attribute [local go_sem ↓] Go.wp_at_zero Go.wp_at_succ
set_option linter.unusedVariables false
set_option linter.unusedSimpArgs false
set_option maxRecDepth 10000
def Cy (w:World) (a:Option Addr) (n:Nat) (C:Nat→Int):Prop:=∀ k,k<n→∃ ad,a=some ad∧ad.block<w.heap.size∧w.cell? (ad.add k)=some (.int .u8 (C k))
theorem Cy.keep {w w':World} {a:Option Addr} {n:Nat} {C:Nat→Int} (h:Cy w a n C) (hk:Keep w w'):Cy w' a n C:=by
 intro k hlt
 obtain⟨ad,h0,h1,h2⟩:=h k hlt;exact⟨ad,h0,Nat.lt_of_lt_of_le h1 (Below.size hk),by rw[Below.cell hk (by rw[zaH];exact h1)];exact h2⟩
theorem By.cy {w:World} {a:Option Addr} {n cap:Nat} {l:List UInt8} (h:By w (.slice a n cap) l):Cy w a l.length (fun k=>((l.getD k 0).toNat:Int)):=by
 obtain⟨a',cap',e,_,h⟩:=h;injection e with e1 e2 e3
 subst e1;exact h
set_option maxHeartbeats 4000000 in
theorem zf7 (a:Option Addr) (n cap i E:Nat) (C:Nat→Int) (S R:Nat→Nat) (w:World) (hn:n≤70000) (hi:i≤n)
  (HC:Hid (Cy w a n C))
  (H0:Hid (∀ k,k<n→C k=35→R k=S k))
  (H1:Hid (∀ k,k<n→C k≠10→R (k+1)=R k))
  (H2:Hid (∀ k,k<n→C k=10→R k=S k))
  (H3:Hid (∀ k,n≤k→S k=k∧R k=k))
  (H4:Hid (∀ k,k<n→(C k=32∨C k=9∨C k=10∨C k=13)→S (k+1)=S k))
  (H5:Hid (∀ k,k<n→¬(C k=35∨C k=32∨C k=9∨C k=10∨C k=13)→S k=k))
  (HE:Hid (S i=E)):
  Calls Tryz.prog 44 #[.slice a n cap,.int .i64 (i:Int)] w fun e w'=>e= .returned (.int .i64 (E:Int))∧w'=w:=by
 go_enter Tryz.func44,Tryz.ntmps44;go_wp2_with fail
 go_loop [1] (fun vi=>∃ k:Nat,k≤n∧vi= .int .i64 (k:Int)∧Hid (S k=E)) (fun vi=>n - (intOf vi).toNat)
 case atStart=>exact⟨i,hi,rfl,HE⟩
 case round=>
  obtain⟨k,hk,rfl,hE⟩:=hrel;by_cases hlt:k<n
  ·have li:(k:Int)<(n:Int):=by omega
   obtain⟨ad,rfl,hb,ck⟩:=(uq HC) k hlt;by_cases hc:C k=35
   ·have h35:(C k==35)=true:=by simp[hc]
    have HCk:=hide hc;clear hc;go_wp2_with fail
    go_loop [1] (fun vi=>∃ j:Nat,k≤j∧j≤n∧vi= .int .i64 (j:Int)∧Hid (R j=E)) (fun vi=>n - (intOf vi).toNat)
    case atStart=>exact⟨k,Nat.le_refl _,hk,rfl,((uq H0) k hlt (uq HCk)).trans (uq hE)⟩
    case round=>
     obtain⟨j,hkj,hj,rfl,hR⟩:=hrel;by_cases hjn:j<n
     ·have lj:(j:Int)<(n:Int):=by omega
      obtain⟨ad',e,_,cj⟩:=(uq HC) j hjn;injection e with e
      subst e;by_cases h10:C j=10
      ·have hb10:(C j !=10)=false:=by simp[h10]
       have hne:k≠j:=by
        intro e
        have h0:=uq HCk;rw[e,h10]at h0;omega
       have HS:Hid (S j=E):=((uq H2) j hjn h10).symm.trans (uq hR);clear h10;go_wp2_with fail
       exact⟨⟨j,hj,rfl,HS⟩,by simp[intOf];omega⟩
      ·have hb10:(C j !=10)=true:=by simp[h10]
       have HR':Hid (R (j+1)=E):=((uq H1) j hjn h10).trans (uq hR);clear h10;go_wp2_with fail
       exact⟨⟨j+1,by omega,hjn,by go_num,HR'⟩,by simp[intOf];omega⟩
     ·have HS:Hid (S j=E):=by
       have h3:=(uq H3) j (by omega);exact(h3.1.trans h3.2.symm).trans (uq hR)
      go_wp2_with fail
      exact⟨⟨j,hj,rfl,HS⟩,by simp[intOf];omega⟩
   ·have h35:(C k==35)=false:=by simp[hc]
    have HCk:=hide hc;clear hc;go_wp2_with fail
    iterate 4
     ·refine⟨⟨k+1,hlt,by go_num,?_⟩,by simp[intOf];omega⟩;refine((uq H4) k hlt ?_).trans (uq hE);simp only[beq_iff_eq]at *;omega
    ·have hEk:k=E:=by
      have:=uq hE;rw[(uq H5) k hlt (by have:=uq HCk;simp only[beq_eq_false_iff_ne]at *;omega)]at this;omega
     subst hEk;go_ret;exact⟨rfl,rfl⟩
  ·have hEk:k=E:=by have:=uq hE;rw[((uq H3) k (by omega)).1]at this;omega
   subst hEk;go_wp2_with fail
   go_ret;exact⟨rfl,rfl⟩
theorem zhO (v:Value) (l:List UInt8) (i:Nat) (w:World) (hl:l.length≤70000) (hi:i≤l.length) (h:By w v l):
  Calls Tryz.prog 44 #[v,.int .i64 (i:Int)] w fun e w'=>e= .returned (.int .i64 (sk false l i:Nat))∧w'=w:=by
 obtain⟨a,cap,rfl⟩:=h.shape;exact zf7 a l.length cap i _ (fun k=>((l.getD k 0).toNat:Int)) (sk false l) (sk true l) w hl hi (hide h.cy)
  (hide fun k hk hq=>zjf l k hk ((zo3 _).2 hq)) (hide fun k hk hq=>zlU l k hk (fun h=>hq ((znT _).1 h))) (hide fun k hk hq=>zlT l k hk ((znT _).2 hq)) (hide fun k hk=>⟨ziI _ _ _ hk,ziI _ _ _ hk⟩)
  (hide fun k hk hq=>zhM l k hk (by rw[zo2,znT];omega)) (hide fun k hk hq=>zje l k hk (by rw[zo2,znT,zo3];omega)) (hide rfl)
end Go.Proofs.YtpmaonkelkmhbaaGreat
