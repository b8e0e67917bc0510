/- Plain numbers: what fits 64 bits; what sums, quotients and rests are. No program is met here. -/
import Derived.WalkKit
import Derived.Deep.DrawnRows
import Derived.Deep.RegionHeld
import Derived.Deep.RegionHeld3
import Derived.ProofKit
import Derived.Test.YtfepanidippjlaaGreatDoorProg
import Derived.Laws.AppendOwn
import Derived.Laws.OwnMore
import Derived.Laws.IdiomStrings
import Derived.OwnWalk
import Derived.LoopTactic
import Derived.Deep.DeepCutAuto
namespace Go.Proofs.YtfepanidippjlaaGreatDoor
open Go.RowKit
set_option linter.unusedVariables false
theorem hide {p:Prop} (h:p):Hid p:=h
theorem zqs {p:Prop} (h:Hid p):p:=h
def Keep (w w':World):Prop:=Below w.heap.size w w'
theorem Keep.refl (w:World):Keep w w:=Below.refl _ _
theorem Keep.trans {a b c:World} (h:Keep a b) (k:Keep b c):Keep a c:=Below.trans h (Below.mono k h.size)
theorem Keep.drew {a b:World} (h:Keep a b):Keep a b.drew:=Below.drew h
theorem Keep.alloc {a b:World} (h:Keep a b) (o:Obj):Keep a (b.alloc o):=Below.alloc h h.size o
def fit (n:Int):Bool:=decide (-9223372036854775808≤n∧n≤9223372036854775807)
theorem ze7 {k:IntKind} {a b:Int} (h:a=b):Ending.returned (.int k a)= .returned (.int k b):=by rw[h]
theorem Ya {α:Type} (l:List α) (i:Nat) (a:α):l.toArray.setIfInBounds i a=(l.set i a).toArray:=List.setIfInBounds_toArray ..
theorem Yb {α:Type} {x y:α} {xs:List α} :(x :: xs).set 0 y=y :: xs:=List.set_cons_zero
theorem Yc {α:Type} {x y:α} {n:Nat} {xs:List α} :(x :: xs).set (n+1) y=x :: xs.set n y:=List.set_cons_succ
theorem uq {p:Prop} (h:Hid p):p:=h
end Go.Proofs.YtfepanidippjlaaGreatDoor
namespace Go.Proofs.YtfepanidippjlaaGreatDoor
section
variable {P : Program} {ops : Array Oper} {Q : Exit → Act → World → Prop} {md : Region.Mode} {S : World → Prop}
theorem tkk (i d:Nat) {oi:Oper} {v:Value} {fuel:Nat} {listed:Array Bool} {a:Act} {w:World} (hS:S w) (h:wpAnyH P md ops Q S fuel (listed.setIfInBounds i true) (a.put (some d) v) w)
  (hi:ops[i]? =some oi:=by rfl) (hd:oi.dst=some d:=by rfl) (hs:Region.noSelect ops=true:=by kernel_rfl) (hf:Region.free md ops listed i=true:=by kernel_rfl) (hr:(Region.ready md ops listed).contains i=true:=by kernel_rfl)
  (hQ:∀ c a w,Q (.panic c) (a.put oi.dst v) w→Q (.panic c) a w:=by exact fun _ _ _ h=>h) (hy:YieldsIf P ops S oi v a:=by exact Or.inl ⟨by rfl,by intro w hSw;(try dsimp only at hSw);go_simp;(try with_reducible rfl)⟩):wpAnyH P md ops Q S (fuel+1) listed a w:=
 wpAnyH_take hi hs hf hr hQ hy hS (hd▸h)
theorem zaC (i:Nat) {fuel:Nat} {listed:Array Bool} {a:Act} {w:World} {o:Oper}
  (h:∀ K':Act→World→Prop,Shut (∀ a w,S w→(S w→wpAnyH P md ops Q S fuel (listed.setIfInBounds i true) a w)→K' a w)→if Region.wanted o (yielded ops a.tmps)=true then Oper.wp P o a w K' Q else K' (a.put o.dst undef) w)
  (ho:ops[i]? =some o:=by rfl) (hr:Region.ready md ops listed= [i]:=by kernel_rfl):wpAnyH P md ops Q S (fuel+1) listed a w:=
 wpAnyH_ready hr (by simp) (AllReadyH.cons ho h AllReadyH.nil)
end
end Go.Proofs.YtfepanidippjlaaGreatDoor
namespace Go.Proofs.YtfepanidippjlaaGreatDoor
set_option linter.unusedVariables false
def kd (c:Int):Int:=
 if c=32∨c=9∨c=13 then 1 else if c=10 then 2 else if c=35 then 3 else if c=95 then 6
 else if c=123∨c=125∨c=44∨c=59∨c=58∨c=47∨c=45 then 7
 else if 97≤c∧c≤122 then 4 else if 48≤c∧c≤57 then 5 else 0
def on (f n:Int):Bool:=
 if f=3 then decide (n≠2)else if f=4 then decide (n=4∨n=6∨n=5)else if f=5 then decide (n=5)else false
theorem zcM (f n:Int):on f n=true↔(f=3∧n≠2)∨(f=4∧(n=4∨n=6∨n=5))∨(f=5∧n=5):=by
 unfold on
 (repeat' split)<;>simp<;>omega
def tw (P:UInt8→Bool) (l:List UInt8):Nat:=(l.takeWhile P).length
theorem zck (P:UInt8→Bool) (l:List UInt8) (k:Nat) (h:k<l.length):tw P (l.drop k)=if P (l.getD k 0)then 1+tw P (l.drop (k+1))else 0:=by
 unfold tw
 rw[List.drop_eq_getElem_cons h,List.takeWhile_cons,List.getD_eq_getElem?_getD,List.getElem?_eq_getElem h,Option.getD_some];split<;>simp<;>omega
theorem zgW (P:UInt8→Bool) (l:List UInt8) (k:Nat) (h:l.length≤k):tw P (l.drop k)=0:=by
 unfold tw
 rw[List.drop_eq_nil_of_le h];rfl
theorem znn (P:UInt8→Bool) (l:List UInt8):tw P l≤l.length:=List.Sublist.length_le (List.takeWhile_sublist P)
def zb0 (c:UInt8) (x:UInt8):Bool:=on (kd c.toNat) (kd x.toNat)
def en:List UInt8→Nat
 | []=>0
 |c :: r=>1+tw (zb0 c) r
theorem ziO (l:List UInt8) (k:Nat) (h:k<l.length):en (l.drop k)=1+tw (zb0 (l.getD k 0)) (l.drop (k+1)):=by
 rw[List.drop_eq_getElem_cons h,List.getD_eq_getElem?_getD,List.getElem?_eq_getElem h,Option.getD_some];rfl
theorem zdF (l:List UInt8):en l≤l.length:=by
 cases l with
 |nil=>exact Nat.le_refl _
 |cons c r=>have:=znn (zb0 c) r;simp[en];omega
theorem zqt (c:Int):kd c=1↔(c=32∨c=9∨c=13):=by unfold kd;(repeat' split)<;>omega
theorem zpA (c:Int):kd c=2↔c=10:=by unfold kd;(repeat' split)<;>omega
theorem zqu (c:Int):kd c=3↔c=35:=by unfold kd;(repeat' split)<;>omega
theorem zqy (c:Int):kd c=6↔c=95:=by unfold kd;(repeat' split)<;>omega
theorem zqv (c:Int):kd c=7↔(c=123∨c=125∨c=44∨c=59∨c=58∨c=47∨c=45):=by unfold kd;(repeat' split)<;>omega
theorem zpG (c:Int):kd c=4↔(97≤c∧c≤122):=by unfold kd;(repeat' split)<;>omega
theorem zjZ (c:Int):kd c=5↔(48≤c∧c≤57):=by unfold kd;(repeat' split)<;>omega
def skp:Bool→List UInt8→Nat
 | _,[]=>0
 |true,c :: r=>1+skp (decide (kd c.toNat≠2)) r
 |false,c :: r=>if kd c.toNat=3 then 1+skp true r else if kd c.toNat=1∨kd c.toNat=2 then 1+skp false r else 0
theorem zd0:∀(b:Bool) (l:List UInt8),skp b l≤l.length
 |b,[]=>by cases b<;>exact Nat.le_refl _
 |true,c :: r=>by have:=zd0 (decide (kd c.toNat≠2)) r;simp only[skp,List.length_cons];omega
 |false,c :: r=>by
  have h1:=zd0 true r;have h2:=zd0 false r;simp only[skp,List.length_cons]
  (repeat' split)<;>omega
theorem zfD:∀ r:List UInt8,skp true r=tw (fun x=>on 3 (kd x.toNat)) r+skp false (r.drop (tw (fun x=>on 3 (kd x.toNat)) r))
 | []=>rfl
 |c :: r=>by
  have ih:=zfD r;by_cases h:kd c.toNat=2
  ·have h0:on 3 (kd c.toNat)=false:=by rw[h];decide
   have e:tw (fun x=>on 3 (kd x.toNat)) (c :: r)=0:=by unfold tw;rw[List.takeWhile_cons];simp[h0]
   rw[e,List.drop_zero];simp[skp,h]
  ·have h0:on 3 (kd c.toNat)=true:=by rw[zcM];exact .inl ⟨rfl,h⟩
   have e:tw (fun x=>on 3 (kd x.toNat)) (c :: r)=1+tw (fun x=>on 3 (kd x.toNat)) r:=by unfold tw;rw[List.takeWhile_cons];simp[h0];omega
   rw[e,Nat.add_comm 1 (tw _ r),List.drop_succ_cons];simp only[skp,ne_eq,h,not_false_eq_true,decide_true];omega
theorem zc6 {P:UInt8→Bool} {l:List UInt8} (h:∀ x,P x=false):tw P l=0:=by
 unfold tw
 cases l with
 |nil=>rfl
 |cons c r=>rw[List.takeWhile_cons];simp[h]
theorem zno {c:UInt8} {r:List UInt8} (h:kd c.toNat=1∨kd c.toNat=2∨kd c.toNat=3):skp false (c :: r)=en (c :: r)+skp false ((c :: r).drop (en (c :: r))):=by
 rcases h with h|h|h
 ·have e:tw (zb0 c) r=0:=zc6 fun x=>by unfold zb0;rw[h];unfold on;simp
  simp[en,e,skp,h]
 ·have e:tw (zb0 c) r=0:=zc6 fun x=>by unfold zb0;rw[h];unfold on;simp
  simp[en,e,skp,h]
 ·have e:zb0 c=fun x=>on 3 (kd x.toNat):=by funext x;unfold zb0;rw[h]
  have:=zfD r;simp only[en,e,skp,h,if_true,Nat.add_comm 1 (tw _ r),List.drop_succ_cons];omega
theorem zcl (l:List UInt8) (k:Nat) (h:k<l.length):l.drop k=l.getD k 0 :: l.drop (k+1):=by
 rw[List.drop_eq_getElem_cons h,List.getD_eq_getElem?_getD,List.getElem?_eq_getElem h,Option.getD_some]
def sk (b:Bool) (l:List UInt8) (k:Nat):Nat:=k+skp b (l.drop k)
theorem zgX (b:Bool) (l:List UInt8) (k:Nat) (h:l.length≤k):sk b l k=k:=by
 unfold sk;rw[List.drop_eq_nil_of_le h];cases b<;>rfl
theorem zpH (l:List UInt8) (k:Nat) (h:k<l.length) (hk:kd (l.getD k 0).toNat=1∨kd (l.getD k 0).toNat=2∨kd (l.getD k 0).toNat=3):sk false l (k+en (l.drop k))=sk false l k:=by
 unfold sk
 have e:=zcl l k h;rw[← List.drop_drop,e,zno hk];omega
theorem zgY (l:List UInt8) (k:Nat) (h:k<l.length) (hk:¬(kd (l.getD k 0).toNat=1∨kd (l.getD k 0).toNat=2∨kd (l.getD k 0).toNat=3)):sk false l k=k:=by
 unfold sk
 rw[zcl l k h];simp only[skp];rw[if_neg (fun h=>hk (.inr (.inr h))),if_neg (fun h=>hk (h.elim .inl fun h=> .inr (.inl h)))]
 rfl
theorem znp (l:List UInt8) (k:Nat) (h:k<l.length) (hk:kd (l.getD k 0).toNat=2):sk true l k=sk false l k:=by
 unfold sk
 rw[zcl l k h];generalize l.getD k 0=c at hk ⊢;simp[skp,hk]
theorem znq (l:List UInt8) (k:Nat) (h:k<l.length) (hk:kd (l.getD k 0).toNat≠2):sk true l (k+1)=sk true l k:=by
 unfold sk
 rw[zcl l k h];simp only[skp,hk,ne_eq,not_false_eq_true,decide_true];omega
theorem zks (l:List UInt8) (k:Nat) (h:k<l.length) (hk:kd (l.getD k 0).toNat=3):sk true l k=sk false l k:=by
 unfold sk
 rw[zcl l k h];generalize l.getD k 0=c at hk ⊢;simp[skp,hk]
theorem ziP (l:List UInt8) (k:Nat) (h:k<l.length) (hk:kd (l.getD k 0).toNat=1∨kd (l.getD k 0).toNat=2):sk false l (k+1)=sk false l k:=by
 unfold sk
 rw[zcl l k h];simp only[skp];rw[if_neg (by omega),if_pos hk];omega
theorem ziQ (b:Bool) (l:List UInt8) (k:Nat) (h:k≤l.length):sk b l k≤l.length:=by
 have:=zd0 b (l.drop k);rw[List.length_drop]at this;unfold sk;omega
theorem znr (b:Bool) (l:List UInt8) (k:Nat):k≤sk b l k:=by unfold sk;omega
end Go.Proofs.YtfepanidippjlaaGreatDoor
namespace Go.Proofs.YtfepanidippjlaaGreatDoor
open Go.RowKit
set_option linter.unusedVariables false
def ext (w:World) (os:Array Obj) (k:Nat):World:= { w with heap:=w.heap++os,drawn:=k }
theorem Keep.ext {w w':World} (h:Keep w w'):∃ os k,w'=ext w os k:=by
 obtain⟨h1,h2,h3,h4,h5⟩:=h;refine⟨w'.heap.extract w.heap.size w'.heap.size,w'.drawn,?_⟩;have e:w'.heap=w.heap++w'.heap.extract w.heap.size w'.heap.size:=by
  apply Array.ext_getElem?;intro i
  by_cases hi:i<w.heap.size
  ·rw[h5 i hi,Array.getElem?_append_left hi]
  ·rw[Array.getElem?_append_right (by omega),Array.getElem?_extract];by_cases h6:i<w'.heap.size
   ·rw[if_pos (by omega)];congr 1;omega
   ·rw[if_neg (by omega),Array.getElem?_eq_none (by omega)]
 obtain⟨a,b,c,d,f⟩:=w';obtain⟨a',b',c',d',f'⟩:=w;simp only at h1 h2 h3 e;subst h1 h2 h3;simp only[Proofs.YtfepanidippjlaaGreatDoor.ext];rw[← e]
theorem zab {a w:World} (h:Keep a w) (os:Array Obj) (k:Nat):Keep a (ext w os k):=by
 refine h.trans ⟨rfl,rfl,rfl,by simp[ext],fun i hi=>?_⟩;simp only[ext];rw[Array.getElem?_append_left hi]
@[go_sem,simp] theorem zpB (w:World) (os:Array Obj) (k:Nat):(ext w os k).heap.size=w.heap.size+os.size:=by simp[ext]
@[go_sem] theorem zpC (w:World) (os:Array Obj) (k n i:Nat) (hn:n<w.heap.size):(ext w os k).cell? ⟨n,i,none⟩=w.cell? ⟨n,i,none⟩:=
 (zab (Keep.refl w) os k).cell hn
@[go_sem] theorem zng (w:World) (os:Array Obj) (k n i:Nat) (hn:n<w.heap.size):(ext w os k).frozen? ⟨n,i,none⟩=w.frozen? ⟨n,i,none⟩:=
 (zab (Keep.refl w) os k).frozen hn
@[go_sem] theorem zkt (w:World) (os:Array Obj) (k n i:Nat) (v:Value) (hn:n<w.heap.size):(ext w os k).setCell ⟨n,i,none⟩ v=ext (w.setCell ⟨n,i,none⟩ v) os k:=by
 unfold World.setCell ext
 congr 1;apply Array.ext_getElem?;intro j
 simp only[Array.getElem?_modify,Array.getElem?_append,Array.size_modify];by_cases hj:j<w.heap.size
 ·simp[hj]
 ·have:¬n=j:=by omega
  simp[hj,this]
@[go_sem] theorem zcN (w:World) (o1 o2:Array Obj) (k1 k2:Nat):ext (ext w o1 k1) o2 k2=ext w (o1++o2) k2:=by simp[ext,Array.append_assoc]
@[go_sem] theorem zpD (w:World) (os:Array Obj) (k:Nat):ext w.drew os k=ext w os k:=rfl
@[go_sem] theorem zpI (a x:Nat):a<a+1+x:=by omega
@[go_sem] theorem zpJ (a x:Nat):a<a+1+x+1:=by omega
@[go_sem] theorem zns (a x y:Nat):a<a+1+x+1+y:=by omega
@[go_sem] theorem znt (a x y:Nat):a<a+1+x+1+y+1:=by omega
@[go_sem] theorem znu (a x y:Nat):a<a+1+x+1+y+1+1:=by omega
@[go_sem] theorem znv (a x y:Nat):a<a+1+x+1+y+1+1+1:=by omega
@[go_sem] theorem zpK (a x:Nat):a<a+1+x+1+1:=by omega
@[go_sem] theorem znw (a x y:Nat):a<a+1+x+1+1+y:=by omega
@[go_sem] theorem znx (a x y:Nat):a<a+1+x+1+1+y+1:=by omega
@[go_sem] theorem zny (a x y:Nat):a<a+1+x+1+1+y+1+1:=by omega
@[go_sem] theorem znz (a x y:Nat):a<a+1+x+1+1+y+1+1+1:=by omega
@[go_sem] theorem zpL (a x:Nat):a<a+1+x+1+1+1:=by omega
@[go_sem] theorem znA (a x y:Nat):a<a+1+x+1+1+1+y:=by omega
@[go_sem] theorem znB (a x y:Nat):a<a+1+x+1+1+1+y+1:=by omega
@[go_sem] theorem znC (a x y:Nat):a<a+1+x+1+1+1+y+1+1:=by omega
@[go_sem] theorem znD (a x y:Nat):a<a+1+x+1+1+1+y+1+1+1:=by omega
@[go_sem] theorem zqz (a:Nat):a<a+1+1:=by omega
@[go_sem] theorem zpM (a x:Nat):a<a+1+1+x:=by omega
@[go_sem] theorem zpN (a x:Nat):a<a+1+1+x+1:=by omega
@[go_sem] theorem znE (a x y:Nat):a<a+1+1+x+1+y:=by omega
@[go_sem] theorem znF (a x y:Nat):a<a+1+1+x+1+y+1:=by omega
@[go_sem] theorem znG (a x y:Nat):a<a+1+1+x+1+y+1+1:=by omega
@[go_sem] theorem znH (a x y:Nat):a<a+1+1+x+1+y+1+1+1:=by omega
@[go_sem] theorem zpO (a x:Nat):a<a+1+1+x+1+1:=by omega
@[go_sem] theorem znI (a x y:Nat):a<a+1+1+x+1+1+y:=by omega
@[go_sem] theorem znJ (a x y:Nat):a<a+1+1+x+1+1+y+1:=by omega
@[go_sem] theorem znK (a x y:Nat):a<a+1+1+x+1+1+y+1+1:=by omega
@[go_sem] theorem znL (a x y:Nat):a<a+1+1+x+1+1+y+1+1+1:=by omega
@[go_sem] theorem zpP (a x:Nat):a<a+1+1+x+1+1+1:=by omega
@[go_sem] theorem znM (a x y:Nat):a<a+1+1+x+1+1+1+y:=by omega
@[go_sem] theorem znN (a x y:Nat):a<a+1+1+x+1+1+1+y+1:=by omega
@[go_sem] theorem znO (a x y:Nat):a<a+1+1+x+1+1+1+y+1+1:=by omega
@[go_sem] theorem znP (a x y:Nat):a<a+1+1+x+1+1+1+y+1+1+1:=by omega
@[go_sem] theorem zqA (a:Nat):a<a+1+1+1:=by omega
@[go_sem] theorem zpQ (a x:Nat):a<a+1+1+1+x:=by omega
@[go_sem] theorem zpR (a x:Nat):a<a+1+1+1+x+1:=by omega
@[go_sem] theorem znQ (a x y:Nat):a<a+1+1+1+x+1+y:=by omega
@[go_sem] theorem znR (a x y:Nat):a<a+1+1+1+x+1+y+1:=by omega
@[go_sem] theorem znS (a x y:Nat):a<a+1+1+1+x+1+y+1+1:=by omega
@[go_sem] theorem znT (a x y:Nat):a<a+1+1+1+x+1+y+1+1+1:=by omega
@[go_sem] theorem zpS (a x:Nat):a<a+1+1+1+x+1+1:=by omega
@[go_sem] theorem znU (a x y:Nat):a<a+1+1+1+x+1+1+y:=by omega
@[go_sem] theorem znV (a x y:Nat):a<a+1+1+1+x+1+1+y+1:=by omega
@[go_sem] theorem znW (a x y:Nat):a<a+1+1+1+x+1+1+y+1+1:=by omega
@[go_sem] theorem znX (a x y:Nat):a<a+1+1+1+x+1+1+y+1+1+1:=by omega
@[go_sem] theorem zpT (a x:Nat):a<a+1+1+1+x+1+1+1:=by omega
@[go_sem] theorem znY (a x y:Nat):a<a+1+1+1+x+1+1+1+y:=by omega
@[go_sem] theorem znZ (a x y:Nat):a<a+1+1+1+x+1+1+1+y+1:=by omega
@[go_sem] theorem zn0 (a x y:Nat):a<a+1+1+1+x+1+1+1+y+1+1:=by omega
@[go_sem] theorem zn1 (a x y:Nat):a<a+1+1+1+x+1+1+1+y+1+1+1:=by omega
@[go_sem] theorem zqB (a:Nat):a<a+1+1+1+1:=by omega
@[go_sem] theorem zpU (a x:Nat):a<a+1+1+1+1+x:=by omega
@[go_sem] theorem zpV (a x:Nat):a<a+1+1+1+1+x+1:=by omega
@[go_sem] theorem zn2 (a x y:Nat):a<a+1+1+1+1+x+1+y:=by omega
@[go_sem] theorem zn3 (a x y:Nat):a<a+1+1+1+1+x+1+y+1:=by omega
@[go_sem] theorem zn4 (a x y:Nat):a<a+1+1+1+1+x+1+y+1+1:=by omega
@[go_sem] theorem zn5 (a x y:Nat):a<a+1+1+1+1+x+1+y+1+1+1:=by omega
@[go_sem] theorem zpW (a x:Nat):a<a+1+1+1+1+x+1+1:=by omega
@[go_sem] theorem zn6 (a x y:Nat):a<a+1+1+1+1+x+1+1+y:=by omega
@[go_sem] theorem zn7 (a x y:Nat):a<a+1+1+1+1+x+1+1+y+1:=by omega
@[go_sem] theorem zn8 (a x y:Nat):a<a+1+1+1+1+x+1+1+y+1+1:=by omega
@[go_sem] theorem zn9 (a x y:Nat):a<a+1+1+1+1+x+1+1+y+1+1+1:=by omega
@[go_sem] theorem zpX (a x:Nat):a<a+1+1+1+1+x+1+1+1:=by omega
@[go_sem] theorem zoa (a x y:Nat):a<a+1+1+1+1+x+1+1+1+y:=by omega
@[go_sem] theorem zob (a x y:Nat):a<a+1+1+1+1+x+1+1+1+y+1:=by omega
@[go_sem] theorem zoc (a x y:Nat):a<a+1+1+1+1+x+1+1+1+y+1+1:=by omega
@[go_sem] theorem zod (a x y:Nat):a<a+1+1+1+1+x+1+1+1+y+1+1+1:=by omega
@[go_sem] theorem zqC (a:Nat):a<a+1+1+1+1+1:=by omega
@[go_sem] theorem zpY (a x:Nat):a<a+1+1+1+1+1+x:=by omega
@[go_sem] theorem zpZ (a x:Nat):a<a+1+1+1+1+1+x+1:=by omega
@[go_sem] theorem zoe (a x y:Nat):a<a+1+1+1+1+1+x+1+y:=by omega
@[go_sem] theorem zof (a x y:Nat):a<a+1+1+1+1+1+x+1+y+1:=by omega
@[go_sem] theorem zog (a x y:Nat):a<a+1+1+1+1+1+x+1+y+1+1:=by omega
@[go_sem] theorem zoh (a x y:Nat):a<a+1+1+1+1+1+x+1+y+1+1+1:=by omega
@[go_sem] theorem zp0 (a x:Nat):a<a+1+1+1+1+1+x+1+1:=by omega
@[go_sem] theorem zoi (a x y:Nat):a<a+1+1+1+1+1+x+1+1+y:=by omega
@[go_sem] theorem zoj (a x y:Nat):a<a+1+1+1+1+1+x+1+1+y+1:=by omega
@[go_sem] theorem zok (a x y:Nat):a<a+1+1+1+1+1+x+1+1+y+1+1:=by omega
@[go_sem] theorem zol (a x y:Nat):a<a+1+1+1+1+1+x+1+1+y+1+1+1:=by omega
@[go_sem] theorem zp1 (a x:Nat):a<a+1+1+1+1+1+x+1+1+1:=by omega
@[go_sem] theorem zom (a x y:Nat):a<a+1+1+1+1+1+x+1+1+1+y:=by omega
@[go_sem] theorem zon (a x y:Nat):a<a+1+1+1+1+1+x+1+1+1+y+1:=by omega
@[go_sem] theorem zoo (a x y:Nat):a<a+1+1+1+1+1+x+1+1+1+y+1+1:=by omega
@[go_sem] theorem zop (a x y:Nat):a<a+1+1+1+1+1+x+1+1+1+y+1+1+1:=by omega
@[go_sem] theorem zku (a x y z:Nat):a<a+1+x+1+y+1+z:=by omega
@[go_sem] theorem zkv (a x y z:Nat):a<a+1+x+1+y+1+z+1:=by omega
@[go_sem] theorem zkw (a x y z:Nat):a<a+1+x+1+y+1+1+z:=by omega
@[go_sem] theorem zkx (a x y z:Nat):a<a+1+x+1+y+1+1+z+1:=by omega
@[go_sem] theorem zky (a x y z:Nat):a<a+1+x+1+y+1+1+1+z:=by omega
@[go_sem] theorem zkz (a x y z:Nat):a<a+1+x+1+y+1+1+1+z+1:=by omega
@[go_sem] theorem zkA (a x y z:Nat):a<a+1+x+1+1+y+1+z:=by omega
@[go_sem] theorem zkB (a x y z:Nat):a<a+1+x+1+1+y+1+z+1:=by omega
@[go_sem] theorem zkC (a x y z:Nat):a<a+1+x+1+1+y+1+1+z:=by omega
@[go_sem] theorem zkD (a x y z:Nat):a<a+1+x+1+1+y+1+1+z+1:=by omega
@[go_sem] theorem zkE (a x y z:Nat):a<a+1+x+1+1+y+1+1+1+z:=by omega
@[go_sem] theorem zkF (a x y z:Nat):a<a+1+x+1+1+y+1+1+1+z+1:=by omega
@[go_sem] theorem zkG (a x y z:Nat):a<a+1+x+1+1+1+y+1+z:=by omega
@[go_sem] theorem zkH (a x y z:Nat):a<a+1+x+1+1+1+y+1+z+1:=by omega
@[go_sem] theorem zkI (a x y z:Nat):a<a+1+x+1+1+1+y+1+1+z:=by omega
@[go_sem] theorem zkJ (a x y z:Nat):a<a+1+x+1+1+1+y+1+1+z+1:=by omega
@[go_sem] theorem zkK (a x y z:Nat):a<a+1+x+1+1+1+y+1+1+1+z:=by omega
@[go_sem] theorem zkL (a x y z:Nat):a<a+1+x+1+1+1+y+1+1+1+z+1:=by omega
@[go_sem] theorem zkM (a x y z:Nat):a<a+1+1+x+1+y+1+z:=by omega
@[go_sem] theorem zkN (a x y z:Nat):a<a+1+1+x+1+y+1+z+1:=by omega
@[go_sem] theorem zkO (a x y z:Nat):a<a+1+1+x+1+y+1+1+z:=by omega
@[go_sem] theorem zkP (a x y z:Nat):a<a+1+1+x+1+y+1+1+z+1:=by omega
@[go_sem] theorem zkQ (a x y z:Nat):a<a+1+1+x+1+y+1+1+1+z:=by omega
@[go_sem] theorem zkR (a x y z:Nat):a<a+1+1+x+1+y+1+1+1+z+1:=by omega
@[go_sem] theorem zkS (a x y z:Nat):a<a+1+1+x+1+1+y+1+z:=by omega
@[go_sem] theorem zkT (a x y z:Nat):a<a+1+1+x+1+1+y+1+z+1:=by omega
@[go_sem] theorem zkU (a x y z:Nat):a<a+1+1+x+1+1+y+1+1+z:=by omega
@[go_sem] theorem zkV (a x y z:Nat):a<a+1+1+x+1+1+y+1+1+z+1:=by omega
@[go_sem] theorem zkW (a x y z:Nat):a<a+1+1+x+1+1+y+1+1+1+z:=by omega
@[go_sem] theorem zkX (a x y z:Nat):a<a+1+1+x+1+1+y+1+1+1+z+1:=by omega
@[go_sem] theorem zkY (a x y z:Nat):a<a+1+1+x+1+1+1+y+1+z:=by omega
@[go_sem] theorem zkZ (a x y z:Nat):a<a+1+1+x+1+1+1+y+1+z+1:=by omega
@[go_sem] theorem zk0 (a x y z:Nat):a<a+1+1+x+1+1+1+y+1+1+z:=by omega
@[go_sem] theorem zk1 (a x y z:Nat):a<a+1+1+x+1+1+1+y+1+1+z+1:=by omega
@[go_sem] theorem zk2 (a x y z:Nat):a<a+1+1+x+1+1+1+y+1+1+1+z:=by omega
@[go_sem] theorem zk3 (a x y z:Nat):a<a+1+1+x+1+1+1+y+1+1+1+z+1:=by omega
@[go_sem] theorem zk4 (a x y z:Nat):a<a+1+1+1+x+1+y+1+z:=by omega
@[go_sem] theorem zk5 (a x y z:Nat):a<a+1+1+1+x+1+y+1+z+1:=by omega
@[go_sem] theorem zk6 (a x y z:Nat):a<a+1+1+1+x+1+y+1+1+z:=by omega
@[go_sem] theorem zk7 (a x y z:Nat):a<a+1+1+1+x+1+y+1+1+z+1:=by omega
@[go_sem] theorem zk8 (a x y z:Nat):a<a+1+1+1+x+1+y+1+1+1+z:=by omega
@[go_sem] theorem zk9 (a x y z:Nat):a<a+1+1+1+x+1+y+1+1+1+z+1:=by omega
@[go_sem] theorem zla (a x y z:Nat):a<a+1+1+1+x+1+1+y+1+z:=by omega
@[go_sem] theorem zlb (a x y z:Nat):a<a+1+1+1+x+1+1+y+1+z+1:=by omega
@[go_sem] theorem zlc (a x y z:Nat):a<a+1+1+1+x+1+1+y+1+1+z:=by omega
@[go_sem] theorem zld (a x y z:Nat):a<a+1+1+1+x+1+1+y+1+1+z+1:=by omega
@[go_sem] theorem zle (a x y z:Nat):a<a+1+1+1+x+1+1+y+1+1+1+z:=by omega
@[go_sem] theorem zlf (a x y z:Nat):a<a+1+1+1+x+1+1+y+1+1+1+z+1:=by omega
@[go_sem] theorem zlg (a x y z:Nat):a<a+1+1+1+x+1+1+1+y+1+z:=by omega
@[go_sem] theorem zlh (a x y z:Nat):a<a+1+1+1+x+1+1+1+y+1+z+1:=by omega
@[go_sem] theorem zli (a x y z:Nat):a<a+1+1+1+x+1+1+1+y+1+1+z:=by omega
@[go_sem] theorem zlj (a x y z:Nat):a<a+1+1+1+x+1+1+1+y+1+1+z+1:=by omega
@[go_sem] theorem zlk (a x y z:Nat):a<a+1+1+1+x+1+1+1+y+1+1+1+z:=by omega
@[go_sem] theorem zll (a x y z:Nat):a<a+1+1+1+x+1+1+1+y+1+1+1+z+1:=by omega
@[go_sem] theorem zlm (a x y z:Nat):a<a+1+1+1+1+x+1+y+1+z:=by omega
@[go_sem] theorem zln (a x y z:Nat):a<a+1+1+1+1+x+1+y+1+z+1:=by omega
@[go_sem] theorem zlo (a x y z:Nat):a<a+1+1+1+1+x+1+y+1+1+z:=by omega
@[go_sem] theorem zlp (a x y z:Nat):a<a+1+1+1+1+x+1+y+1+1+z+1:=by omega
@[go_sem] theorem zlq (a x y z:Nat):a<a+1+1+1+1+x+1+y+1+1+1+z:=by omega
@[go_sem] theorem zlr (a x y z:Nat):a<a+1+1+1+1+x+1+y+1+1+1+z+1:=by omega
@[go_sem] theorem zls (a x y z:Nat):a<a+1+1+1+1+x+1+1+y+1+z:=by omega
@[go_sem] theorem zlt (a x y z:Nat):a<a+1+1+1+1+x+1+1+y+1+z+1:=by omega
@[go_sem] theorem zlu (a x y z:Nat):a<a+1+1+1+1+x+1+1+y+1+1+z:=by omega
@[go_sem] theorem zlv (a x y z:Nat):a<a+1+1+1+1+x+1+1+y+1+1+z+1:=by omega
@[go_sem] theorem zlw (a x y z:Nat):a<a+1+1+1+1+x+1+1+y+1+1+1+z:=by omega
@[go_sem] theorem zlx (a x y z:Nat):a<a+1+1+1+1+x+1+1+y+1+1+1+z+1:=by omega
@[go_sem] theorem zly (a x y z:Nat):a<a+1+1+1+1+x+1+1+1+y+1+z:=by omega
@[go_sem] theorem zlz (a x y z:Nat):a<a+1+1+1+1+x+1+1+1+y+1+z+1:=by omega
@[go_sem] theorem zlA (a x y z:Nat):a<a+1+1+1+1+x+1+1+1+y+1+1+z:=by omega
@[go_sem] theorem zlB (a x y z:Nat):a<a+1+1+1+1+x+1+1+1+y+1+1+z+1:=by omega
@[go_sem] theorem zlC (a x y z:Nat):a<a+1+1+1+1+x+1+1+1+y+1+1+1+z:=by omega
@[go_sem] theorem zlD (a x y z:Nat):a<a+1+1+1+1+x+1+1+1+y+1+1+1+z+1:=by omega
@[go_sem] theorem zlE (a x y z:Nat):a<a+1+1+1+1+1+x+1+y+1+z:=by omega
@[go_sem] theorem zlF (a x y z:Nat):a<a+1+1+1+1+1+x+1+y+1+z+1:=by omega
@[go_sem] theorem zlG (a x y z:Nat):a<a+1+1+1+1+1+x+1+y+1+1+z:=by omega
@[go_sem] theorem zlH (a x y z:Nat):a<a+1+1+1+1+1+x+1+y+1+1+z+1:=by omega
@[go_sem] theorem zlI (a x y z:Nat):a<a+1+1+1+1+1+x+1+y+1+1+1+z:=by omega
@[go_sem] theorem zlJ (a x y z:Nat):a<a+1+1+1+1+1+x+1+y+1+1+1+z+1:=by omega
@[go_sem] theorem zlK (a x y z:Nat):a<a+1+1+1+1+1+x+1+1+y+1+z:=by omega
@[go_sem] theorem zlL (a x y z:Nat):a<a+1+1+1+1+1+x+1+1+y+1+z+1:=by omega
@[go_sem] theorem zlM (a x y z:Nat):a<a+1+1+1+1+1+x+1+1+y+1+1+z:=by omega
@[go_sem] theorem zlN (a x y z:Nat):a<a+1+1+1+1+1+x+1+1+y+1+1+z+1:=by omega
@[go_sem] theorem zlO (a x y z:Nat):a<a+1+1+1+1+1+x+1+1+y+1+1+1+z:=by omega
@[go_sem] theorem zlP (a x y z:Nat):a<a+1+1+1+1+1+x+1+1+y+1+1+1+z+1:=by omega
@[go_sem] theorem zlQ (a x y z:Nat):a<a+1+1+1+1+1+x+1+1+1+y+1+z:=by omega
@[go_sem] theorem zlR (a x y z:Nat):a<a+1+1+1+1+1+x+1+1+1+y+1+z+1:=by omega
@[go_sem] theorem zlS (a x y z:Nat):a<a+1+1+1+1+1+x+1+1+1+y+1+1+z:=by omega
@[go_sem] theorem zlT (a x y z:Nat):a<a+1+1+1+1+1+x+1+1+1+y+1+1+z+1:=by omega
@[go_sem] theorem zlU (a x y z:Nat):a<a+1+1+1+1+1+x+1+1+1+y+1+1+1+z:=by omega
@[go_sem] theorem zlV (a x y z:Nat):a<a+1+1+1+1+1+x+1+1+1+y+1+1+1+z+1:=by omega
@[go_sem] theorem zlW (a b c:Nat) (h:a<b):a<b+c:=by omega
end Go.Proofs.YtfepanidippjlaaGreatDoor
namespace Go.Proofs.YtfepanidippjlaaGreatDoor
open Go.RowKit
attribute [local go_sem ↓] Go.wp_at_zero Go.wp_at_succ
set_option linter.unusedVariables false
set_option linter.unusedSimpArgs false
set_option maxRecDepth 10000
set_option maxHeartbeats 2000000 in
theorem zek (c:Int) (w:World):Calls Tryz.prog 121 #[.int .u8 c] w fun e w'=>e= .returned (.int .i64 (kd c))∧w'=w:=by
 go_enter Tryz.func121,Tryz.ntmps121;go_wp2;all_goals (go_ret;exact⟨ze7 (by simp only[beq_iff_eq,beq_eq_false_iff_ne,ne_eq]at *;unfold kd;(repeat' split)<;>omega),rfl⟩)
theorem zcW {a b:Bool} (h:a=b):Ending.returned (.bool a)= .returned (.bool b):=by rw[h]
set_option maxHeartbeats 2000000 in
theorem zgZ (f n:Int) (g:Nat) (w:World) (h:w.cell? ⟨g,0,none⟩=some (.int .i64 f)):
  Calls Tryz.prog 182 #[.int .i64 n,.pointer (some ⟨g,0,none⟩)] w fun e w'=>e= .returned (.bool (on f n))∧w'=w:=by
 go_enter Tryz.func182,Tryz.ntmps182;go_wp2;all_goals (go_ret;refine⟨zcW ?_,rfl⟩;rw[Bool.eq_iff_iff];(first|simp only[zcM]|skip);simp only[beq_iff_eq,bne_iff_ne,beq_eq_false_iff_ne,ne_eq,decide_eq_true_eq,Bool.or_eq_true,Bool.and_eq_true,Bool.false_eq_true,false_iff,true_iff]at *;omega)
set_option maxHeartbeats 2000000 in
theorem zlX (f:Int) (w:World):
  Calls Tryz.prog 157 #[.int .i64 f] w fun e w'=>e= .returned (.func (.func 182) #[] #[.pointer (some ⟨w.heap.size,0,none⟩)])∧w'=w.alloc (.cells #[.int .i64 f] 198):=by
 go_enter Tryz.func157,Tryz.ntmps157;go_wp2;go_ret;exact⟨rfl,rfl⟩
set_option maxHeartbeats 2000000 in
theorem zeH (c:Int) (w:World):Calls Tryz.prog 118 #[.int .u8 c] w fun e w'=>e= .returned (.bool (decide (97≤c∧c≤122)))∧w'=w:=by
 go_enter Tryz.func118,Tryz.ntmps118;go_wp2;all_goals (go_ret;refine⟨zcW ?_,rfl⟩;rw[Bool.eq_iff_iff];(first|simp only[zcM]|skip);simp only[beq_iff_eq,bne_iff_ne,beq_eq_false_iff_ne,ne_eq,decide_eq_true_eq,Bool.or_eq_true,Bool.and_eq_true,Bool.false_eq_true,false_iff,true_iff]at *;omega)
set_option maxHeartbeats 2000000 in
theorem zdG (c:Int) (w:World):Calls Tryz.prog 119 #[.int .u8 c] w fun e w'=>e= .returned (.bool (decide (48≤c∧c≤57)))∧w'=w:=by
 go_enter Tryz.func119,Tryz.ntmps119;go_wp2;all_goals (go_ret;refine⟨zcW ?_,rfl⟩;rw[Bool.eq_iff_iff];(first|simp only[zcM]|skip);simp only[beq_iff_eq,bne_iff_ne,beq_eq_false_iff_ne,ne_eq,decide_eq_true_eq,Bool.or_eq_true,Bool.and_eq_true,Bool.false_eq_true,false_iff,true_iff]at *;omega)
set_option maxHeartbeats 2000000 in
theorem ziR (c:Int) (w:World):Calls Tryz.prog 120 #[.int .u8 c] w fun e w'=>e= .returned (.bool (decide (c=123∨c=125∨c=44∨c=59∨c=58∨c=47∨c=45)))∧w'=w:=by
 go_enter Tryz.func120,Tryz.ntmps120;go_wp2;all_goals (go_ret;refine⟨zcW ?_,rfl⟩;rw[Bool.eq_iff_iff];(first|simp only[zcM]|skip);simp only[beq_iff_eq,bne_iff_ne,beq_eq_false_iff_ne,ne_eq,decide_eq_true_eq,Bool.or_eq_true,Bool.and_eq_true,Bool.false_eq_true,false_iff,true_iff]at *;omega)
end Go.Proofs.YtfepanidippjlaaGreatDoor
namespace Go.Proofs.YtfepanidippjlaaGreatDoor
open Go.RowKit
set_option linter.unusedVariables false
set_option linter.unusedSimpArgs false
theorem zae (ad:Addr) (n:Nat):(ad.add n).block=ad.block:=by unfold Addr.add;split<;>rfl
theorem zbo (b o n:Nat):(⟨b,o,none⟩:Addr).add n=⟨b,o+n,none⟩:=by unfold Addr.add;split<;>simp_all
def By (w:World) (v:Value) (l:List UInt8):Prop:=∃ a cap,v= .slice a l.length cap∧l.length≤cap∧∀ k,k<l.length→∃ ad,a=some ad∧ad.block<w.heap.size∧w.cell? (ad.add k)=some (.int .u8 ((l.getD k 0).toNat:Int))
theorem By.keep {w w':World} {v:Value} {l:List UInt8} (h:By w v l) (hk:Keep w w'):By w' v l:=by
 obtain⟨a,cap,rfl,hc,h⟩:=h;refine⟨a,cap,rfl,hc,fun k hlt=>?_⟩;obtain⟨ad,h0,h1,h2⟩:=h k hlt;exact⟨ad,h0,Nat.lt_of_lt_of_le h1 (Below.size hk),by rw[Below.cell hk (by rw[zae];exact h1)];exact h2⟩
theorem By.shape {w:World} {v:Value} {l:List UInt8} (h:By w v l):∃ a cap,v= .slice a l.length cap:=by obtain⟨a,cap,rfl,_⟩:=h;exact⟨a,cap,rfl⟩
end Go.Proofs.YtfepanidippjlaaGreatDoor
namespace Go.Proofs.YtfepanidippjlaaGreatDoor
open Go.RowKit
attribute [local go_sem ↓] Go.wp_at_zero Go.wp_at_succ
set_option linter.unusedVariables false
set_option linter.unusedSimpArgs false
set_option maxRecDepth 10000
set_option maxHeartbeats 2000000 in
theorem ziS (ad:Addr) (n cap i E:Nat) (C Q:Nat→Int) (B:Nat→Bool) (G:Nat→Nat) (w:World) (hn:n≤70000) (hi:i<n) (hb:ad.block<w.heap.size)
  (HC:Hid (∀ k,k<n→w.cell? (ad.add k)=some (.int .u8 (C k))))
  (T1:Hid (∀ k,k<n→∀ w,Calls Tryz.prog 121 #[.int .u8 (C k)] w fun e w'=>e= .returned (.int .i64 (Q k))∧w'=w))
  (T2:Hid (∀ k,k<n→∀ w g,w.cell? ⟨g,0,none⟩=some (.int .i64 (Q i))→Calls Tryz.prog 182 #[.int .i64 (Q k),.pointer (some ⟨g,0,none⟩)] w fun e w'=>e= .returned (.bool (B k))∧w'=w))
  (HG:Hid (∀ k,k<n→B k=true→G k=1+G (k+1)))
  (HG2:Hid (∀ k,(k<n→B k=false)→G k=0))
  (HE:Hid (i+1+G (i+1)=E)):
  Calls Tryz.prog 122 #[.slice (some ad) n cap,.int .i64 (i:Int)] w fun e w'=>e= .returned (.int .i64 (E:Int))∧Keep w w':=by
 have ci:=(uq HC) i hi;have K:=hide zlX;have hii:(i:Int)<(n:Int):=by omega
 have hbs:∀ k,(ad.add k).block=ad.block:=zae ad;have HB:=hide hbs;have HW:Hid (∀ k,k<n→∀ o,(w.alloc o).cell? (ad.add k)=some (.int .u8 (C k))):=by
  intro k hk o
  rw[Below.cell ((Below.refl w.heap.size w).alloc (Nat.le_refl _) o) (by rw[zae];exact hb)];exact(uq HC) k hk
 clear hbs;go_enter Tryz.func122,Tryz.ntmps122;go_wp2_with fail
 (refine((uq T1) i hi _).mono ?_;rintro e w ⟨rfl,rfl⟩);go_wp2_with fail
 (refine((uq K) _ _).mono ?_;rintro e w1 ⟨rfl,rfl⟩);clear K ci;go_wp2_with fail
 go_loop [1] (fun vi=>∃ k:Nat,k≤n∧vi= .int .i64 (k:Int)∧Hid (k+G k=E)) (fun vi=>n - (intOf vi).toNat)
 case atStart=>exact⟨i+1,hi,by go_num,HE⟩
 case round=>
  obtain⟨k,hk,rfl,hE⟩:=hrel;by_cases hlt:k<n
  ·have li:(k:Int)<(n:Int):=by omega
   have ck:=(uq HW) k hlt (.cells #[.int .i64 (Q i)] 198);have T1k:=hide ((uq T1) k hlt);have T2k:=hide ((uq T2) k hlt);go_wp2_with fail
   (refine((uq T1k) _).mono ?_;rintro e w2 ⟨rfl,rfl⟩);go_wp2_with fail
   (refine((uq T2k) _ _ (by simp[go_sem])).mono ?_;rintro e w2 ⟨rfl,rfl⟩);obtain⟨b,hb2⟩:∃ b,B k=b:=⟨_,rfl⟩;rw[hb2];have HBk:=hide hb2;clear hb2;cases b with
   |true=>
    go_wp2_with fail
    go_round
    case rel=>exact⟨k+1,hlt,by go_num,by have:=uq hE;rw[(uq HG) k hlt (uq HBk)]at this;show k+1+G (k+1)=E;omega⟩
    case measure=>simp[intOf];omega
   |false=>
    have hEk:(k:Int)=E:=by have:=uq hE;rw[(uq HG2) k (fun _=>uq HBk)]at this;omega
    rw[hEk];clear hEk;go_wp2_with fail
    go_ret;exact⟨rfl,(Keep.refl w).alloc _⟩
  ·have hEk:k=E:=by have:=uq hE;rw[(uq HG2) k (fun h=>absurd h hlt)]at this;omega
   subst hEk;go_wp2_with fail
   go_ret;exact⟨rfl,(Keep.refl w).alloc _⟩
theorem zg0 (v:Value) (l:List UInt8) (i:Nat) (w:World) (hl:l.length≤70000) (hi:i<l.length) (h:By w v l):
  Calls Tryz.prog 122 #[v,.int .i64 (i:Int)] w fun e w'=>e= .returned (.int .i64 ((i+en (l.drop i):Nat):Int))∧Keep w w':=by
 obtain⟨a,cap,rfl,_,hc⟩:=h;obtain⟨ad,rfl,hb,_⟩:=hc i hi;refine ziS ad l.length cap i _ (fun k=>((l.getD k 0).toNat:Int)) (fun k=>kd ((l.getD k 0).toNat:Int)) (fun k=>zb0 (l.getD i 0) (l.getD k 0)) (fun k=>tw (zb0 (l.getD i 0)) (l.drop k)) w hl hi hb (hide fun k hk=>?_)
  (hide fun k hk w=>zek _ w) (hide fun k hk w g hg=>zgZ _ _ g w hg) (hide fun k hk hb=>?_) (hide fun k hk=>?_) (hide ?_)
 ·obtain⟨ad',h0,_,h2⟩:=hc k hk;injection h0 with h0
  subst h0;exact h2
 ·rw[zck _ _ _ hk,if_pos hb]
 ·by_cases hlt:k<l.length
  ·rw[zck _ _ _ hlt,if_neg (by rw[hk hlt];decide)]
  ·exact zgW _ _ _ (by omega)
 ·rw[ziO _ _ hi];omega
end Go.Proofs.YtfepanidippjlaaGreatDoor
