/- A world with later blocks: what a callee leaves that turns nothing. The walk goes past them. -/
import Derived.Test.YtnegcifbbbmlnaaGreatDoorWholeA
import Derived.WalkKit
import Derived.ProofKit
namespace Go.Proofs.YtnegcifbbbmlnaaGreatDoor
open Go.RowKit
set_option linter.unusedVariables false
def ext (w:World) (os:Array Obj) (k:Nat):World:= { w with heap:=w.heap++os,drawn:=k }
theorem Keep.ext {w w':World} (h:Keep w w'):∃ os k,w'=ext w os k:=by
 obtain⟨h1,h2,h3,h4,h5⟩:=h;refine⟨w'.heap.extract w.heap.size w'.heap.size,w'.drawn,?_⟩;have e:w'.heap=w.heap++w'.heap.extract w.heap.size w'.heap.size:=by
  apply Array.ext_getElem?;intro i
  by_cases hi:i<w.heap.size
  ·rw[h5 i hi,Array.getElem?_append_left hi]
  ·rw[Array.getElem?_append_right (by omega),Array.getElem?_extract];by_cases h6:i<w'.heap.size
   ·rw[if_pos (by omega)];congr 1;omega
   ·rw[if_neg (by omega),Array.getElem?_eq_none (by omega)]
 obtain⟨a,b,c,d,f⟩:=w';obtain⟨a',b',c',d',f'⟩:=w;simp only at h1 h2 h3 e;subst h1 h2 h3;simp only[Proofs.YtnegcifbbbmlnaaGreatDoor.ext];rw[← e]
theorem zaa {a w:World} (h:Keep a w) (os:Array Obj) (k:Nat):Keep a (ext w os k):=by
 refine h.trans ⟨rfl,rfl,rfl,by simp[ext],fun i hi=>?_⟩;simp only[ext];rw[Array.getElem?_append_left hi]
@[go_sem,simp] theorem zbQ (w:World) (os:Array Obj) (k:Nat):(ext w os k).heap.size=w.heap.size+os.size:=by simp[ext]
@[go_sem] theorem zkR (w:World) (os:Array Obj) (k n i:Nat) (hn:n<w.heap.size):(ext w os k).cell? ⟨n,i,none⟩=w.cell? ⟨n,i,none⟩:=
 (zaa (Keep.refl w) os k).cell hn
@[go_sem] theorem ziU (w:World) (os:Array Obj) (k n i:Nat) (hn:n<w.heap.size):(ext w os k).frozen? ⟨n,i,none⟩=w.frozen? ⟨n,i,none⟩:=
 (zaa (Keep.refl w) os k).frozen hn
@[go_sem] theorem zgS (w:World) (os:Array Obj) (k n i:Nat) (v:Value) (hn:n<w.heap.size):(ext w os k).setCell ⟨n,i,none⟩ v=ext (w.setCell ⟨n,i,none⟩ v) os k:=by
 unfold World.setCell ext
 congr 1;apply Array.ext_getElem?;intro j
 simp only[Array.getElem?_modify,Array.getElem?_append,Array.size_modify];by_cases hj:j<w.heap.size
 ·simp[hj]
 ·have:¬n=j:=by omega
  simp[hj,this]
@[go_sem] theorem zbR (w:World) (o1 o2:Array Obj) (k1 k2:Nat):ext (ext w o1 k1) o2 k2=ext w (o1++o2) k2:=by simp[ext,Array.append_assoc]
@[go_sem] theorem zkS (w:World) (os:Array Obj) (k:Nat):ext w.drew os k=ext w os k:=rfl
@[go_sem] theorem zkY (a x:Nat):a<a+1+x:=by omega
@[go_sem] theorem zkZ (a x:Nat):a<a+1+x+1:=by omega
@[go_sem] theorem zi5 (a x y:Nat):a<a+1+x+1+y:=by omega
@[go_sem] theorem zi6 (a x y:Nat):a<a+1+x+1+y+1:=by omega
@[go_sem] theorem zi7 (a x y:Nat):a<a+1+x+1+y+1+1:=by omega
@[go_sem] theorem zi8 (a x y:Nat):a<a+1+x+1+y+1+1+1:=by omega
@[go_sem] theorem zk0 (a x:Nat):a<a+1+x+1+1:=by omega
@[go_sem] theorem zi9 (a x y:Nat):a<a+1+x+1+1+y:=by omega
@[go_sem] theorem zja (a x y:Nat):a<a+1+x+1+1+y+1:=by omega
@[go_sem] theorem zjb (a x y:Nat):a<a+1+x+1+1+y+1+1:=by omega
@[go_sem] theorem zjc (a x y:Nat):a<a+1+x+1+1+y+1+1+1:=by omega
@[go_sem] theorem zk1 (a x:Nat):a<a+1+x+1+1+1:=by omega
@[go_sem] theorem zjd (a x y:Nat):a<a+1+x+1+1+1+y:=by omega
@[go_sem] theorem zje (a x y:Nat):a<a+1+x+1+1+1+y+1:=by omega
@[go_sem] theorem zjf (a x y:Nat):a<a+1+x+1+1+1+y+1+1:=by omega
@[go_sem] theorem zjg (a x y:Nat):a<a+1+x+1+1+1+y+1+1+1:=by omega
@[go_sem] theorem zl6 (a:Nat):a<a+1+1:=by omega
@[go_sem] theorem zk2 (a x:Nat):a<a+1+1+x:=by omega
@[go_sem] theorem zk3 (a x:Nat):a<a+1+1+x+1:=by omega
@[go_sem] theorem zjh (a x y:Nat):a<a+1+1+x+1+y:=by omega
@[go_sem] theorem zji (a x y:Nat):a<a+1+1+x+1+y+1:=by omega
@[go_sem] theorem zjj (a x y:Nat):a<a+1+1+x+1+y+1+1:=by omega
@[go_sem] theorem zjk (a x y:Nat):a<a+1+1+x+1+y+1+1+1:=by omega
@[go_sem] theorem zk4 (a x:Nat):a<a+1+1+x+1+1:=by omega
@[go_sem] theorem zjl (a x y:Nat):a<a+1+1+x+1+1+y:=by omega
@[go_sem] theorem zjm (a x y:Nat):a<a+1+1+x+1+1+y+1:=by omega
@[go_sem] theorem zjn (a x y:Nat):a<a+1+1+x+1+1+y+1+1:=by omega
@[go_sem] theorem zjo (a x y:Nat):a<a+1+1+x+1+1+y+1+1+1:=by omega
@[go_sem] theorem zk5 (a x:Nat):a<a+1+1+x+1+1+1:=by omega
@[go_sem] theorem zjp (a x y:Nat):a<a+1+1+x+1+1+1+y:=by omega
@[go_sem] theorem zjq (a x y:Nat):a<a+1+1+x+1+1+1+y+1:=by omega
@[go_sem] theorem zjr (a x y:Nat):a<a+1+1+x+1+1+1+y+1+1:=by omega
@[go_sem] theorem zjs (a x y:Nat):a<a+1+1+x+1+1+1+y+1+1+1:=by omega
@[go_sem] theorem zl7 (a:Nat):a<a+1+1+1:=by omega
@[go_sem] theorem zk6 (a x:Nat):a<a+1+1+1+x:=by omega
@[go_sem] theorem zk7 (a x:Nat):a<a+1+1+1+x+1:=by omega
@[go_sem] theorem zjt (a x y:Nat):a<a+1+1+1+x+1+y:=by omega
@[go_sem] theorem zju (a x y:Nat):a<a+1+1+1+x+1+y+1:=by omega
@[go_sem] theorem zjv (a x y:Nat):a<a+1+1+1+x+1+y+1+1:=by omega
@[go_sem] theorem zjw (a x y:Nat):a<a+1+1+1+x+1+y+1+1+1:=by omega
@[go_sem] theorem zk8 (a x:Nat):a<a+1+1+1+x+1+1:=by omega
@[go_sem] theorem zjx (a x y:Nat):a<a+1+1+1+x+1+1+y:=by omega
@[go_sem] theorem zjy (a x y:Nat):a<a+1+1+1+x+1+1+y+1:=by omega
@[go_sem] theorem zjz (a x y:Nat):a<a+1+1+1+x+1+1+y+1+1:=by omega
@[go_sem] theorem zjA (a x y:Nat):a<a+1+1+1+x+1+1+y+1+1+1:=by omega
@[go_sem] theorem zk9 (a x:Nat):a<a+1+1+1+x+1+1+1:=by omega
@[go_sem] theorem zjB (a x y:Nat):a<a+1+1+1+x+1+1+1+y:=by omega
@[go_sem] theorem zjC (a x y:Nat):a<a+1+1+1+x+1+1+1+y+1:=by omega
@[go_sem] theorem zjD (a x y:Nat):a<a+1+1+1+x+1+1+1+y+1+1:=by omega
@[go_sem] theorem zjE (a x y:Nat):a<a+1+1+1+x+1+1+1+y+1+1+1:=by omega
@[go_sem] theorem zl8 (a:Nat):a<a+1+1+1+1:=by omega
@[go_sem] theorem zla (a x:Nat):a<a+1+1+1+1+x:=by omega
@[go_sem] theorem zlb (a x:Nat):a<a+1+1+1+1+x+1:=by omega
@[go_sem] theorem zjF (a x y:Nat):a<a+1+1+1+1+x+1+y:=by omega
@[go_sem] theorem zjG (a x y:Nat):a<a+1+1+1+1+x+1+y+1:=by omega
@[go_sem] theorem zjH (a x y:Nat):a<a+1+1+1+1+x+1+y+1+1:=by omega
@[go_sem] theorem zjI (a x y:Nat):a<a+1+1+1+1+x+1+y+1+1+1:=by omega
@[go_sem] theorem zlc (a x:Nat):a<a+1+1+1+1+x+1+1:=by omega
@[go_sem] theorem zjJ (a x y:Nat):a<a+1+1+1+1+x+1+1+y:=by omega
@[go_sem] theorem zjK (a x y:Nat):a<a+1+1+1+1+x+1+1+y+1:=by omega
@[go_sem] theorem zjL (a x y:Nat):a<a+1+1+1+1+x+1+1+y+1+1:=by omega
@[go_sem] theorem zjM (a x y:Nat):a<a+1+1+1+1+x+1+1+y+1+1+1:=by omega
@[go_sem] theorem zld (a x:Nat):a<a+1+1+1+1+x+1+1+1:=by omega
@[go_sem] theorem zjN (a x y:Nat):a<a+1+1+1+1+x+1+1+1+y:=by omega
@[go_sem] theorem zjO (a x y:Nat):a<a+1+1+1+1+x+1+1+1+y+1:=by omega
@[go_sem] theorem zjP (a x y:Nat):a<a+1+1+1+1+x+1+1+1+y+1+1:=by omega
@[go_sem] theorem zjQ (a x y:Nat):a<a+1+1+1+1+x+1+1+1+y+1+1+1:=by omega
@[go_sem] theorem zl9 (a:Nat):a<a+1+1+1+1+1:=by omega
@[go_sem] theorem zle (a x:Nat):a<a+1+1+1+1+1+x:=by omega
@[go_sem] theorem zlf (a x:Nat):a<a+1+1+1+1+1+x+1:=by omega
@[go_sem] theorem zjR (a x y:Nat):a<a+1+1+1+1+1+x+1+y:=by omega
@[go_sem] theorem zjS (a x y:Nat):a<a+1+1+1+1+1+x+1+y+1:=by omega
@[go_sem] theorem zjT (a x y:Nat):a<a+1+1+1+1+1+x+1+y+1+1:=by omega
@[go_sem] theorem zjU (a x y:Nat):a<a+1+1+1+1+1+x+1+y+1+1+1:=by omega
@[go_sem] theorem zlg (a x:Nat):a<a+1+1+1+1+1+x+1+1:=by omega
@[go_sem] theorem zjV (a x y:Nat):a<a+1+1+1+1+1+x+1+1+y:=by omega
@[go_sem] theorem zjW (a x y:Nat):a<a+1+1+1+1+1+x+1+1+y+1:=by omega
@[go_sem] theorem zjX (a x y:Nat):a<a+1+1+1+1+1+x+1+1+y+1+1:=by omega
@[go_sem] theorem zjY (a x y:Nat):a<a+1+1+1+1+1+x+1+1+y+1+1+1:=by omega
@[go_sem] theorem zlh (a x:Nat):a<a+1+1+1+1+1+x+1+1+1:=by omega
@[go_sem] theorem zjZ (a x y:Nat):a<a+1+1+1+1+1+x+1+1+1+y:=by omega
@[go_sem] theorem zj0 (a x y:Nat):a<a+1+1+1+1+1+x+1+1+1+y+1:=by omega
@[go_sem] theorem zj1 (a x y:Nat):a<a+1+1+1+1+1+x+1+1+1+y+1+1:=by omega
@[go_sem] theorem zj2 (a x y:Nat):a<a+1+1+1+1+1+x+1+1+1+y+1+1+1:=by omega
@[go_sem] theorem zgT (a x y z:Nat):a<a+1+x+1+y+1+z:=by omega
@[go_sem] theorem zgU (a x y z:Nat):a<a+1+x+1+y+1+z+1:=by omega
@[go_sem] theorem zgV (a x y z:Nat):a<a+1+x+1+y+1+1+z:=by omega
@[go_sem] theorem zgW (a x y z:Nat):a<a+1+x+1+y+1+1+z+1:=by omega
@[go_sem] theorem zgX (a x y z:Nat):a<a+1+x+1+y+1+1+1+z:=by omega
@[go_sem] theorem zgY (a x y z:Nat):a<a+1+x+1+y+1+1+1+z+1:=by omega
@[go_sem] theorem zgZ (a x y z:Nat):a<a+1+x+1+1+y+1+z:=by omega
@[go_sem] theorem zg0 (a x y z:Nat):a<a+1+x+1+1+y+1+z+1:=by omega
@[go_sem] theorem zg1 (a x y z:Nat):a<a+1+x+1+1+y+1+1+z:=by omega
@[go_sem] theorem zg2 (a x y z:Nat):a<a+1+x+1+1+y+1+1+z+1:=by omega
@[go_sem] theorem zg3 (a x y z:Nat):a<a+1+x+1+1+y+1+1+1+z:=by omega
@[go_sem] theorem zg4 (a x y z:Nat):a<a+1+x+1+1+y+1+1+1+z+1:=by omega
@[go_sem] theorem zg5 (a x y z:Nat):a<a+1+x+1+1+1+y+1+z:=by omega
@[go_sem] theorem zg6 (a x y z:Nat):a<a+1+x+1+1+1+y+1+z+1:=by omega
@[go_sem] theorem zg7 (a x y z:Nat):a<a+1+x+1+1+1+y+1+1+z:=by omega
@[go_sem] theorem zg8 (a x y z:Nat):a<a+1+x+1+1+1+y+1+1+z+1:=by omega
@[go_sem] theorem zg9 (a x y z:Nat):a<a+1+x+1+1+1+y+1+1+1+z:=by omega
@[go_sem] theorem zha (a x y z:Nat):a<a+1+x+1+1+1+y+1+1+1+z+1:=by omega
@[go_sem] theorem zhb (a x y z:Nat):a<a+1+1+x+1+y+1+z:=by omega
@[go_sem] theorem zhc (a x y z:Nat):a<a+1+1+x+1+y+1+z+1:=by omega
@[go_sem] theorem zhd (a x y z:Nat):a<a+1+1+x+1+y+1+1+z:=by omega
@[go_sem] theorem zhe (a x y z:Nat):a<a+1+1+x+1+y+1+1+z+1:=by omega
@[go_sem] theorem zhf (a x y z:Nat):a<a+1+1+x+1+y+1+1+1+z:=by omega
@[go_sem] theorem zhg (a x y z:Nat):a<a+1+1+x+1+y+1+1+1+z+1:=by omega
@[go_sem] theorem zhh (a x y z:Nat):a<a+1+1+x+1+1+y+1+z:=by omega
@[go_sem] theorem zhi (a x y z:Nat):a<a+1+1+x+1+1+y+1+z+1:=by omega
@[go_sem] theorem zhj (a x y z:Nat):a<a+1+1+x+1+1+y+1+1+z:=by omega
@[go_sem] theorem zhk (a x y z:Nat):a<a+1+1+x+1+1+y+1+1+z+1:=by omega
@[go_sem] theorem zhl (a x y z:Nat):a<a+1+1+x+1+1+y+1+1+1+z:=by omega
@[go_sem] theorem zhm (a x y z:Nat):a<a+1+1+x+1+1+y+1+1+1+z+1:=by omega
@[go_sem] theorem zhn (a x y z:Nat):a<a+1+1+x+1+1+1+y+1+z:=by omega
@[go_sem] theorem zho (a x y z:Nat):a<a+1+1+x+1+1+1+y+1+z+1:=by omega
@[go_sem] theorem zhp (a x y z:Nat):a<a+1+1+x+1+1+1+y+1+1+z:=by omega
@[go_sem] theorem zhq (a x y z:Nat):a<a+1+1+x+1+1+1+y+1+1+z+1:=by omega
@[go_sem] theorem zhr (a x y z:Nat):a<a+1+1+x+1+1+1+y+1+1+1+z:=by omega
@[go_sem] theorem zhs (a x y z:Nat):a<a+1+1+x+1+1+1+y+1+1+1+z+1:=by omega
@[go_sem] theorem zht (a x y z:Nat):a<a+1+1+1+x+1+y+1+z:=by omega
@[go_sem] theorem zhu (a x y z:Nat):a<a+1+1+1+x+1+y+1+z+1:=by omega
@[go_sem] theorem zhv (a x y z:Nat):a<a+1+1+1+x+1+y+1+1+z:=by omega
@[go_sem] theorem zhw (a x y z:Nat):a<a+1+1+1+x+1+y+1+1+z+1:=by omega
@[go_sem] theorem zhx (a x y z:Nat):a<a+1+1+1+x+1+y+1+1+1+z:=by omega
@[go_sem] theorem zhy (a x y z:Nat):a<a+1+1+1+x+1+y+1+1+1+z+1:=by omega
@[go_sem] theorem zhz (a x y z:Nat):a<a+1+1+1+x+1+1+y+1+z:=by omega
@[go_sem] theorem zhA (a x y z:Nat):a<a+1+1+1+x+1+1+y+1+z+1:=by omega
@[go_sem] theorem zhB (a x y z:Nat):a<a+1+1+1+x+1+1+y+1+1+z:=by omega
@[go_sem] theorem zhC (a x y z:Nat):a<a+1+1+1+x+1+1+y+1+1+z+1:=by omega
@[go_sem] theorem zhD (a x y z:Nat):a<a+1+1+1+x+1+1+y+1+1+1+z:=by omega
@[go_sem] theorem zhE (a x y z:Nat):a<a+1+1+1+x+1+1+y+1+1+1+z+1:=by omega
@[go_sem] theorem zhF (a x y z:Nat):a<a+1+1+1+x+1+1+1+y+1+z:=by omega
@[go_sem] theorem zhG (a x y z:Nat):a<a+1+1+1+x+1+1+1+y+1+z+1:=by omega
@[go_sem] theorem zhH (a x y z:Nat):a<a+1+1+1+x+1+1+1+y+1+1+z:=by omega
@[go_sem] theorem zhI (a x y z:Nat):a<a+1+1+1+x+1+1+1+y+1+1+z+1:=by omega
@[go_sem] theorem zhJ (a x y z:Nat):a<a+1+1+1+x+1+1+1+y+1+1+1+z:=by omega
@[go_sem] theorem zhK (a x y z:Nat):a<a+1+1+1+x+1+1+1+y+1+1+1+z+1:=by omega
@[go_sem] theorem zhL (a x y z:Nat):a<a+1+1+1+1+x+1+y+1+z:=by omega
@[go_sem] theorem zhM (a x y z:Nat):a<a+1+1+1+1+x+1+y+1+z+1:=by omega
@[go_sem] theorem zhN (a x y z:Nat):a<a+1+1+1+1+x+1+y+1+1+z:=by omega
@[go_sem] theorem zhO (a x y z:Nat):a<a+1+1+1+1+x+1+y+1+1+z+1:=by omega
@[go_sem] theorem zhP (a x y z:Nat):a<a+1+1+1+1+x+1+y+1+1+1+z:=by omega
@[go_sem] theorem zhQ (a x y z:Nat):a<a+1+1+1+1+x+1+y+1+1+1+z+1:=by omega
@[go_sem] theorem zhR (a x y z:Nat):a<a+1+1+1+1+x+1+1+y+1+z:=by omega
@[go_sem] theorem zhS (a x y z:Nat):a<a+1+1+1+1+x+1+1+y+1+z+1:=by omega
@[go_sem] theorem zhT (a x y z:Nat):a<a+1+1+1+1+x+1+1+y+1+1+z:=by omega
@[go_sem] theorem zhU (a x y z:Nat):a<a+1+1+1+1+x+1+1+y+1+1+z+1:=by omega
@[go_sem] theorem zhV (a x y z:Nat):a<a+1+1+1+1+x+1+1+y+1+1+1+z:=by omega
@[go_sem] theorem zhW (a x y z:Nat):a<a+1+1+1+1+x+1+1+y+1+1+1+z+1:=by omega
@[go_sem] theorem zhX (a x y z:Nat):a<a+1+1+1+1+x+1+1+1+y+1+z:=by omega
@[go_sem] theorem zhY (a x y z:Nat):a<a+1+1+1+1+x+1+1+1+y+1+z+1:=by omega
@[go_sem] theorem zhZ (a x y z:Nat):a<a+1+1+1+1+x+1+1+1+y+1+1+z:=by omega
@[go_sem] theorem zh0 (a x y z:Nat):a<a+1+1+1+1+x+1+1+1+y+1+1+z+1:=by omega
@[go_sem] theorem zh1 (a x y z:Nat):a<a+1+1+1+1+x+1+1+1+y+1+1+1+z:=by omega
@[go_sem] theorem zh2 (a x y z:Nat):a<a+1+1+1+1+x+1+1+1+y+1+1+1+z+1:=by omega
@[go_sem] theorem zh3 (a x y z:Nat):a<a+1+1+1+1+1+x+1+y+1+z:=by omega
@[go_sem] theorem zh4 (a x y z:Nat):a<a+1+1+1+1+1+x+1+y+1+z+1:=by omega
@[go_sem] theorem zh5 (a x y z:Nat):a<a+1+1+1+1+1+x+1+y+1+1+z:=by omega
@[go_sem] theorem zh6 (a x y z:Nat):a<a+1+1+1+1+1+x+1+y+1+1+z+1:=by omega
@[go_sem] theorem zh7 (a x y z:Nat):a<a+1+1+1+1+1+x+1+y+1+1+1+z:=by omega
@[go_sem] theorem zh8 (a x y z:Nat):a<a+1+1+1+1+1+x+1+y+1+1+1+z+1:=by omega
@[go_sem] theorem zh9 (a x y z:Nat):a<a+1+1+1+1+1+x+1+1+y+1+z:=by omega
@[go_sem] theorem zia (a x y z:Nat):a<a+1+1+1+1+1+x+1+1+y+1+z+1:=by omega
@[go_sem] theorem zib (a x y z:Nat):a<a+1+1+1+1+1+x+1+1+y+1+1+z:=by omega
@[go_sem] theorem zic (a x y z:Nat):a<a+1+1+1+1+1+x+1+1+y+1+1+z+1:=by omega
@[go_sem] theorem zid (a x y z:Nat):a<a+1+1+1+1+1+x+1+1+y+1+1+1+z:=by omega
@[go_sem] theorem zie (a x y z:Nat):a<a+1+1+1+1+1+x+1+1+y+1+1+1+z+1:=by omega
@[go_sem] theorem zif (a x y z:Nat):a<a+1+1+1+1+1+x+1+1+1+y+1+z:=by omega
@[go_sem] theorem zig (a x y z:Nat):a<a+1+1+1+1+1+x+1+1+1+y+1+z+1:=by omega
@[go_sem] theorem zih (a x y z:Nat):a<a+1+1+1+1+1+x+1+1+1+y+1+1+z:=by omega
@[go_sem] theorem zii (a x y z:Nat):a<a+1+1+1+1+1+x+1+1+1+y+1+1+z+1:=by omega
@[go_sem] theorem zij (a x y z:Nat):a<a+1+1+1+1+1+x+1+1+1+y+1+1+1+z:=by omega
@[go_sem] theorem zik (a x y z:Nat):a<a+1+1+1+1+1+x+1+1+1+y+1+1+1+z+1:=by omega
@[go_sem] theorem zil (a b c:Nat) (h:a<b):a<b+c:=by omega
end Go.Proofs.YtnegcifbbbmlnaaGreatDoor
