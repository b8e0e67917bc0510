/- A world with later blocks: what a callee leaves that turns nothing. The walk goes past them. -/
import Derived.Test.YthbfohohelflnaaLMath
import Derived.WalkKit
import Derived.ProofKit
import Derived.Test.YthbfohohelflnaaProg
import Derived.Deep.DrawnRows
import Derived.Laws.AppendOwn
import Derived.Laws.OwnMore
import Derived.Laws.IdiomStrings
import Derived.OwnWalk
namespace Go.Proofs.Ythbfohohelflnaa
open Go.RowKit
set_option linter.unusedVariables false
def ext (w:World) (os:Array Obj) (k:Nat):World:= { w with heap:=w.heap++os,drawn:=k }
theorem Keep.ext {w w':World} (h:Keep w w'):∃ os k,w'=ext w os k:=by
 obtain⟨h1,h2,h3,h4,h5⟩:=h;refine⟨w'.heap.extract w.heap.size w'.heap.size,w'.drawn,?_⟩;have e:w'.heap=w.heap++w'.heap.extract w.heap.size w'.heap.size:=by
  apply Array.ext_getElem?;intro i
  by_cases hi:i<w.heap.size
  ·rw[h5 i hi,Array.getElem?_append_left hi]
  ·rw[Array.getElem?_append_right (by omega),Array.getElem?_extract];by_cases h6:i<w'.heap.size
   ·rw[if_pos (by omega)];congr 1;omega
   ·rw[if_neg (by omega),Array.getElem?_eq_none (by omega)]
 obtain⟨a,b,c,d,f⟩:=w';obtain⟨a',b',c',d',f'⟩:=w;simp only at h1 h2 h3 e;subst h1 h2 h3;simp only[Proofs.Ythbfohohelflnaa.ext];rw[← e]
theorem zaA {a w:World} (h:Keep a w) (os:Array Obj) (k:Nat):Keep a (ext w os k):=by
 refine h.trans ⟨rfl,rfl,rfl,by simp[ext],fun i hi=>?_⟩;simp only[ext];rw[Array.getElem?_append_left hi]
@[go_sem,simp] theorem zkk (w:World) (os:Array Obj) (k:Nat):(ext w os k).heap.size=w.heap.size+os.size:=by simp[ext]
@[go_sem] theorem zkl (w:World) (os:Array Obj) (k n i:Nat) (hn:n<w.heap.size):(ext w os k).cell? ⟨n,i,none⟩=w.cell? ⟨n,i,none⟩:=
 (zaA (Keep.refl w) os k).cell hn
@[go_sem] theorem ziu (w:World) (os:Array Obj) (k n i:Nat) (hn:n<w.heap.size):(ext w os k).frozen? ⟨n,i,none⟩=w.frozen? ⟨n,i,none⟩:=
 (zaA (Keep.refl w) os k).frozen hn
@[go_sem] theorem zgn (w:World) (os:Array Obj) (k n i:Nat) (v:Value) (hn:n<w.heap.size):(ext w os k).setCell ⟨n,i,none⟩ v=ext (w.setCell ⟨n,i,none⟩ v) os k:=by
 unfold World.setCell ext
 congr 1;apply Array.ext_getElem?;intro j
 simp only[Array.getElem?_modify,Array.getElem?_append,Array.size_modify];by_cases hj:j<w.heap.size
 ·simp[hj]
 ·have:¬n=j:=by omega
  simp[hj,this]
@[go_sem] theorem zku (w:World) (o1 o2:Array Obj) (k1 k2:Nat):ext (ext w o1 k1) o2 k2=ext w (o1++o2) k2:=by simp[ext,Array.append_assoc]
@[go_sem] theorem zkm (w:World) (os:Array Obj) (k:Nat):ext w.drew os k=ext w os k:=rfl
@[go_sem] theorem zkv (a x:Nat):a<a+1+x:=by omega
@[go_sem] theorem zkw (a x:Nat):a<a+1+x+1:=by omega
@[go_sem] theorem ziD (a x y:Nat):a<a+1+x+1+y:=by omega
@[go_sem] theorem ziE (a x y:Nat):a<a+1+x+1+y+1:=by omega
@[go_sem] theorem ziF (a x y:Nat):a<a+1+x+1+y+1+1:=by omega
@[go_sem] theorem ziG (a x y:Nat):a<a+1+x+1+y+1+1+1:=by omega
@[go_sem] theorem zkx (a x:Nat):a<a+1+x+1+1:=by omega
@[go_sem] theorem ziH (a x y:Nat):a<a+1+x+1+1+y:=by omega
@[go_sem] theorem ziI (a x y:Nat):a<a+1+x+1+1+y+1:=by omega
@[go_sem] theorem ziJ (a x y:Nat):a<a+1+x+1+1+y+1+1:=by omega
@[go_sem] theorem ziK (a x y:Nat):a<a+1+x+1+1+y+1+1+1:=by omega
@[go_sem] theorem zky (a x:Nat):a<a+1+x+1+1+1:=by omega
@[go_sem] theorem ziL (a x y:Nat):a<a+1+x+1+1+1+y:=by omega
@[go_sem] theorem ziM (a x y:Nat):a<a+1+x+1+1+1+y+1:=by omega
@[go_sem] theorem ziN (a x y:Nat):a<a+1+x+1+1+1+y+1+1:=by omega
@[go_sem] theorem ziO (a x y:Nat):a<a+1+x+1+1+1+y+1+1+1:=by omega
@[go_sem] theorem zlc (a:Nat):a<a+1+1:=by omega
@[go_sem] theorem zkz (a x:Nat):a<a+1+1+x:=by omega
@[go_sem] theorem zkA (a x:Nat):a<a+1+1+x+1:=by omega
@[go_sem] theorem ziP (a x y:Nat):a<a+1+1+x+1+y:=by omega
@[go_sem] theorem ziQ (a x y:Nat):a<a+1+1+x+1+y+1:=by omega
@[go_sem] theorem ziR (a x y:Nat):a<a+1+1+x+1+y+1+1:=by omega
@[go_sem] theorem ziS (a x y:Nat):a<a+1+1+x+1+y+1+1+1:=by omega
@[go_sem] theorem zkB (a x:Nat):a<a+1+1+x+1+1:=by omega
@[go_sem] theorem ziT (a x y:Nat):a<a+1+1+x+1+1+y:=by omega
@[go_sem] theorem ziU (a x y:Nat):a<a+1+1+x+1+1+y+1:=by omega
@[go_sem] theorem ziV (a x y:Nat):a<a+1+1+x+1+1+y+1+1:=by omega
@[go_sem] theorem ziW (a x y:Nat):a<a+1+1+x+1+1+y+1+1+1:=by omega
@[go_sem] theorem zkC (a x:Nat):a<a+1+1+x+1+1+1:=by omega
@[go_sem] theorem ziX (a x y:Nat):a<a+1+1+x+1+1+1+y:=by omega
@[go_sem] theorem ziY (a x y:Nat):a<a+1+1+x+1+1+1+y+1:=by omega
@[go_sem] theorem ziZ (a x y:Nat):a<a+1+1+x+1+1+1+y+1+1:=by omega
@[go_sem] theorem zi0 (a x y:Nat):a<a+1+1+x+1+1+1+y+1+1+1:=by omega
@[go_sem] theorem zld (a:Nat):a<a+1+1+1:=by omega
@[go_sem] theorem zkD (a x:Nat):a<a+1+1+1+x:=by omega
@[go_sem] theorem zkE (a x:Nat):a<a+1+1+1+x+1:=by omega
@[go_sem] theorem zi1 (a x y:Nat):a<a+1+1+1+x+1+y:=by omega
@[go_sem] theorem zi2 (a x y:Nat):a<a+1+1+1+x+1+y+1:=by omega
@[go_sem] theorem zi3 (a x y:Nat):a<a+1+1+1+x+1+y+1+1:=by omega
@[go_sem] theorem zi4 (a x y:Nat):a<a+1+1+1+x+1+y+1+1+1:=by omega
@[go_sem] theorem zkF (a x:Nat):a<a+1+1+1+x+1+1:=by omega
@[go_sem] theorem zi5 (a x y:Nat):a<a+1+1+1+x+1+1+y:=by omega
@[go_sem] theorem zi6 (a x y:Nat):a<a+1+1+1+x+1+1+y+1:=by omega
@[go_sem] theorem zi7 (a x y:Nat):a<a+1+1+1+x+1+1+y+1+1:=by omega
@[go_sem] theorem zi8 (a x y:Nat):a<a+1+1+1+x+1+1+y+1+1+1:=by omega
@[go_sem] theorem zkG (a x:Nat):a<a+1+1+1+x+1+1+1:=by omega
@[go_sem] theorem zi9 (a x y:Nat):a<a+1+1+1+x+1+1+1+y:=by omega
@[go_sem] theorem zja (a x y:Nat):a<a+1+1+1+x+1+1+1+y+1:=by omega
@[go_sem] theorem zjb (a x y:Nat):a<a+1+1+1+x+1+1+1+y+1+1:=by omega
@[go_sem] theorem zjc (a x y:Nat):a<a+1+1+1+x+1+1+1+y+1+1+1:=by omega
@[go_sem] theorem zle (a:Nat):a<a+1+1+1+1:=by omega
@[go_sem] theorem zkH (a x:Nat):a<a+1+1+1+1+x:=by omega
@[go_sem] theorem zkI (a x:Nat):a<a+1+1+1+1+x+1:=by omega
@[go_sem] theorem zjd (a x y:Nat):a<a+1+1+1+1+x+1+y:=by omega
@[go_sem] theorem zje (a x y:Nat):a<a+1+1+1+1+x+1+y+1:=by omega
@[go_sem] theorem zjf (a x y:Nat):a<a+1+1+1+1+x+1+y+1+1:=by omega
@[go_sem] theorem zjg (a x y:Nat):a<a+1+1+1+1+x+1+y+1+1+1:=by omega
@[go_sem] theorem zkJ (a x:Nat):a<a+1+1+1+1+x+1+1:=by omega
@[go_sem] theorem zjh (a x y:Nat):a<a+1+1+1+1+x+1+1+y:=by omega
@[go_sem] theorem zji (a x y:Nat):a<a+1+1+1+1+x+1+1+y+1:=by omega
@[go_sem] theorem zjj (a x y:Nat):a<a+1+1+1+1+x+1+1+y+1+1:=by omega
@[go_sem] theorem zjk (a x y:Nat):a<a+1+1+1+1+x+1+1+y+1+1+1:=by omega
@[go_sem] theorem zkK (a x:Nat):a<a+1+1+1+1+x+1+1+1:=by omega
@[go_sem] theorem zjl (a x y:Nat):a<a+1+1+1+1+x+1+1+1+y:=by omega
@[go_sem] theorem zjm (a x y:Nat):a<a+1+1+1+1+x+1+1+1+y+1:=by omega
@[go_sem] theorem zjn (a x y:Nat):a<a+1+1+1+1+x+1+1+1+y+1+1:=by omega
@[go_sem] theorem zjo (a x y:Nat):a<a+1+1+1+1+x+1+1+1+y+1+1+1:=by omega
@[go_sem] theorem zlf (a:Nat):a<a+1+1+1+1+1:=by omega
@[go_sem] theorem zkL (a x:Nat):a<a+1+1+1+1+1+x:=by omega
@[go_sem] theorem zkM (a x:Nat):a<a+1+1+1+1+1+x+1:=by omega
@[go_sem] theorem zjp (a x y:Nat):a<a+1+1+1+1+1+x+1+y:=by omega
@[go_sem] theorem zjq (a x y:Nat):a<a+1+1+1+1+1+x+1+y+1:=by omega
@[go_sem] theorem zjr (a x y:Nat):a<a+1+1+1+1+1+x+1+y+1+1:=by omega
@[go_sem] theorem zjs (a x y:Nat):a<a+1+1+1+1+1+x+1+y+1+1+1:=by omega
@[go_sem] theorem zkN (a x:Nat):a<a+1+1+1+1+1+x+1+1:=by omega
@[go_sem] theorem zjt (a x y:Nat):a<a+1+1+1+1+1+x+1+1+y:=by omega
@[go_sem] theorem zju (a x y:Nat):a<a+1+1+1+1+1+x+1+1+y+1:=by omega
@[go_sem] theorem zjv (a x y:Nat):a<a+1+1+1+1+1+x+1+1+y+1+1:=by omega
@[go_sem] theorem zjw (a x y:Nat):a<a+1+1+1+1+1+x+1+1+y+1+1+1:=by omega
@[go_sem] theorem zkO (a x:Nat):a<a+1+1+1+1+1+x+1+1+1:=by omega
@[go_sem] theorem zjx (a x y:Nat):a<a+1+1+1+1+1+x+1+1+1+y:=by omega
@[go_sem] theorem zjy (a x y:Nat):a<a+1+1+1+1+1+x+1+1+1+y+1:=by omega
@[go_sem] theorem zjz (a x y:Nat):a<a+1+1+1+1+1+x+1+1+1+y+1+1:=by omega
@[go_sem] theorem zjA (a x y:Nat):a<a+1+1+1+1+1+x+1+1+1+y+1+1+1:=by omega
@[go_sem] theorem zgo (a x y z:Nat):a<a+1+x+1+y+1+z:=by omega
@[go_sem] theorem zgp (a x y z:Nat):a<a+1+x+1+y+1+z+1:=by omega
@[go_sem] theorem zgq (a x y z:Nat):a<a+1+x+1+y+1+1+z:=by omega
@[go_sem] theorem zgr (a x y z:Nat):a<a+1+x+1+y+1+1+z+1:=by omega
@[go_sem] theorem zgs (a x y z:Nat):a<a+1+x+1+y+1+1+1+z:=by omega
@[go_sem] theorem zgt (a x y z:Nat):a<a+1+x+1+y+1+1+1+z+1:=by omega
@[go_sem] theorem zgu (a x y z:Nat):a<a+1+x+1+1+y+1+z:=by omega
@[go_sem] theorem zgv (a x y z:Nat):a<a+1+x+1+1+y+1+z+1:=by omega
@[go_sem] theorem zgw (a x y z:Nat):a<a+1+x+1+1+y+1+1+z:=by omega
@[go_sem] theorem zgx (a x y z:Nat):a<a+1+x+1+1+y+1+1+z+1:=by omega
@[go_sem] theorem zgy (a x y z:Nat):a<a+1+x+1+1+y+1+1+1+z:=by omega
@[go_sem] theorem zgz (a x y z:Nat):a<a+1+x+1+1+y+1+1+1+z+1:=by omega
@[go_sem] theorem zgA (a x y z:Nat):a<a+1+x+1+1+1+y+1+z:=by omega
@[go_sem] theorem zgB (a x y z:Nat):a<a+1+x+1+1+1+y+1+z+1:=by omega
@[go_sem] theorem zgC (a x y z:Nat):a<a+1+x+1+1+1+y+1+1+z:=by omega
@[go_sem] theorem zgD (a x y z:Nat):a<a+1+x+1+1+1+y+1+1+z+1:=by omega
@[go_sem] theorem zgE (a x y z:Nat):a<a+1+x+1+1+1+y+1+1+1+z:=by omega
@[go_sem] theorem zgF (a x y z:Nat):a<a+1+x+1+1+1+y+1+1+1+z+1:=by omega
@[go_sem] theorem zgG (a x y z:Nat):a<a+1+1+x+1+y+1+z:=by omega
@[go_sem] theorem zgH (a x y z:Nat):a<a+1+1+x+1+y+1+z+1:=by omega
@[go_sem] theorem zgI (a x y z:Nat):a<a+1+1+x+1+y+1+1+z:=by omega
@[go_sem] theorem zgJ (a x y z:Nat):a<a+1+1+x+1+y+1+1+z+1:=by omega
@[go_sem] theorem zgK (a x y z:Nat):a<a+1+1+x+1+y+1+1+1+z:=by omega
@[go_sem] theorem zgL (a x y z:Nat):a<a+1+1+x+1+y+1+1+1+z+1:=by omega
@[go_sem] theorem zgM (a x y z:Nat):a<a+1+1+x+1+1+y+1+z:=by omega
@[go_sem] theorem zgN (a x y z:Nat):a<a+1+1+x+1+1+y+1+z+1:=by omega
@[go_sem] theorem zgO (a x y z:Nat):a<a+1+1+x+1+1+y+1+1+z:=by omega
@[go_sem] theorem zgP (a x y z:Nat):a<a+1+1+x+1+1+y+1+1+z+1:=by omega
@[go_sem] theorem zgQ (a x y z:Nat):a<a+1+1+x+1+1+y+1+1+1+z:=by omega
@[go_sem] theorem zgR (a x y z:Nat):a<a+1+1+x+1+1+y+1+1+1+z+1:=by omega
@[go_sem] theorem zgS (a x y z:Nat):a<a+1+1+x+1+1+1+y+1+z:=by omega
@[go_sem] theorem zgT (a x y z:Nat):a<a+1+1+x+1+1+1+y+1+z+1:=by omega
@[go_sem] theorem zgU (a x y z:Nat):a<a+1+1+x+1+1+1+y+1+1+z:=by omega
@[go_sem] theorem zgV (a x y z:Nat):a<a+1+1+x+1+1+1+y+1+1+z+1:=by omega
@[go_sem] theorem zgW (a x y z:Nat):a<a+1+1+x+1+1+1+y+1+1+1+z:=by omega
@[go_sem] theorem zgX (a x y z:Nat):a<a+1+1+x+1+1+1+y+1+1+1+z+1:=by omega
@[go_sem] theorem zgY (a x y z:Nat):a<a+1+1+1+x+1+y+1+z:=by omega
@[go_sem] theorem zgZ (a x y z:Nat):a<a+1+1+1+x+1+y+1+z+1:=by omega
@[go_sem] theorem zg0 (a x y z:Nat):a<a+1+1+1+x+1+y+1+1+z:=by omega
@[go_sem] theorem zg1 (a x y z:Nat):a<a+1+1+1+x+1+y+1+1+z+1:=by omega
@[go_sem] theorem zg2 (a x y z:Nat):a<a+1+1+1+x+1+y+1+1+1+z:=by omega
@[go_sem] theorem zg3 (a x y z:Nat):a<a+1+1+1+x+1+y+1+1+1+z+1:=by omega
@[go_sem] theorem zg4 (a x y z:Nat):a<a+1+1+1+x+1+1+y+1+z:=by omega
@[go_sem] theorem zg5 (a x y z:Nat):a<a+1+1+1+x+1+1+y+1+z+1:=by omega
@[go_sem] theorem zg6 (a x y z:Nat):a<a+1+1+1+x+1+1+y+1+1+z:=by omega
@[go_sem] theorem zg7 (a x y z:Nat):a<a+1+1+1+x+1+1+y+1+1+z+1:=by omega
@[go_sem] theorem zg8 (a x y z:Nat):a<a+1+1+1+x+1+1+y+1+1+1+z:=by omega
@[go_sem] theorem zg9 (a x y z:Nat):a<a+1+1+1+x+1+1+y+1+1+1+z+1:=by omega
@[go_sem] theorem zha (a x y z:Nat):a<a+1+1+1+x+1+1+1+y+1+z:=by omega
@[go_sem] theorem zhb (a x y z:Nat):a<a+1+1+1+x+1+1+1+y+1+z+1:=by omega
@[go_sem] theorem zhc (a x y z:Nat):a<a+1+1+1+x+1+1+1+y+1+1+z:=by omega
@[go_sem] theorem zhd (a x y z:Nat):a<a+1+1+1+x+1+1+1+y+1+1+z+1:=by omega
@[go_sem] theorem zhe (a x y z:Nat):a<a+1+1+1+x+1+1+1+y+1+1+1+z:=by omega
@[go_sem] theorem zhf (a x y z:Nat):a<a+1+1+1+x+1+1+1+y+1+1+1+z+1:=by omega
@[go_sem] theorem zhg (a x y z:Nat):a<a+1+1+1+1+x+1+y+1+z:=by omega
@[go_sem] theorem zhh (a x y z:Nat):a<a+1+1+1+1+x+1+y+1+z+1:=by omega
@[go_sem] theorem zhi (a x y z:Nat):a<a+1+1+1+1+x+1+y+1+1+z:=by omega
@[go_sem] theorem zhj (a x y z:Nat):a<a+1+1+1+1+x+1+y+1+1+z+1:=by omega
@[go_sem] theorem zhk (a x y z:Nat):a<a+1+1+1+1+x+1+y+1+1+1+z:=by omega
@[go_sem] theorem zhl (a x y z:Nat):a<a+1+1+1+1+x+1+y+1+1+1+z+1:=by omega
@[go_sem] theorem zhm (a x y z:Nat):a<a+1+1+1+1+x+1+1+y+1+z:=by omega
@[go_sem] theorem zhn (a x y z:Nat):a<a+1+1+1+1+x+1+1+y+1+z+1:=by omega
@[go_sem] theorem zho (a x y z:Nat):a<a+1+1+1+1+x+1+1+y+1+1+z:=by omega
@[go_sem] theorem zhp (a x y z:Nat):a<a+1+1+1+1+x+1+1+y+1+1+z+1:=by omega
@[go_sem] theorem zhq (a x y z:Nat):a<a+1+1+1+1+x+1+1+y+1+1+1+z:=by omega
@[go_sem] theorem zhr (a x y z:Nat):a<a+1+1+1+1+x+1+1+y+1+1+1+z+1:=by omega
@[go_sem] theorem zhs (a x y z:Nat):a<a+1+1+1+1+x+1+1+1+y+1+z:=by omega
@[go_sem] theorem zht (a x y z:Nat):a<a+1+1+1+1+x+1+1+1+y+1+z+1:=by omega
@[go_sem] theorem zhu (a x y z:Nat):a<a+1+1+1+1+x+1+1+1+y+1+1+z:=by omega
@[go_sem] theorem zhv (a x y z:Nat):a<a+1+1+1+1+x+1+1+1+y+1+1+z+1:=by omega
@[go_sem] theorem zhw (a x y z:Nat):a<a+1+1+1+1+x+1+1+1+y+1+1+1+z:=by omega
@[go_sem] theorem zhx (a x y z:Nat):a<a+1+1+1+1+x+1+1+1+y+1+1+1+z+1:=by omega
@[go_sem] theorem zhy (a x y z:Nat):a<a+1+1+1+1+1+x+1+y+1+z:=by omega
@[go_sem] theorem zhz (a x y z:Nat):a<a+1+1+1+1+1+x+1+y+1+z+1:=by omega
@[go_sem] theorem zhA (a x y z:Nat):a<a+1+1+1+1+1+x+1+y+1+1+z:=by omega
@[go_sem] theorem zhB (a x y z:Nat):a<a+1+1+1+1+1+x+1+y+1+1+z+1:=by omega
@[go_sem] theorem zhC (a x y z:Nat):a<a+1+1+1+1+1+x+1+y+1+1+1+z:=by omega
@[go_sem] theorem zhD (a x y z:Nat):a<a+1+1+1+1+1+x+1+y+1+1+1+z+1:=by omega
@[go_sem] theorem zhE (a x y z:Nat):a<a+1+1+1+1+1+x+1+1+y+1+z:=by omega
@[go_sem] theorem zhF (a x y z:Nat):a<a+1+1+1+1+1+x+1+1+y+1+z+1:=by omega
@[go_sem] theorem zhG (a x y z:Nat):a<a+1+1+1+1+1+x+1+1+y+1+1+z:=by omega
@[go_sem] theorem zhH (a x y z:Nat):a<a+1+1+1+1+1+x+1+1+y+1+1+z+1:=by omega
@[go_sem] theorem zhI (a x y z:Nat):a<a+1+1+1+1+1+x+1+1+y+1+1+1+z:=by omega
@[go_sem] theorem zhJ (a x y z:Nat):a<a+1+1+1+1+1+x+1+1+y+1+1+1+z+1:=by omega
@[go_sem] theorem zhK (a x y z:Nat):a<a+1+1+1+1+1+x+1+1+1+y+1+z:=by omega
@[go_sem] theorem zhL (a x y z:Nat):a<a+1+1+1+1+1+x+1+1+1+y+1+z+1:=by omega
@[go_sem] theorem zhM (a x y z:Nat):a<a+1+1+1+1+1+x+1+1+1+y+1+1+z:=by omega
@[go_sem] theorem zhN (a x y z:Nat):a<a+1+1+1+1+1+x+1+1+1+y+1+1+z+1:=by omega
@[go_sem] theorem zhO (a x y z:Nat):a<a+1+1+1+1+1+x+1+1+1+y+1+1+1+z:=by omega
@[go_sem] theorem zhP (a x y z:Nat):a<a+1+1+1+1+1+x+1+1+1+y+1+1+1+z+1:=by omega
@[go_sem] theorem zhQ (a b c:Nat) (h:a<b):a<b+c:=by omega
end Go.Proofs.Ythbfohohelflnaa
namespace Go.Proofs.Ythbfohohelflnaa
open Go.RowKit
attribute [local go_sem ↓] Go.wp_at_zero Go.wp_at_succ
set_option linter.unusedVariables false
set_option linter.unusedSimpArgs false
set_option maxRecDepth 10000
theorem zcD {a b:Bool} (h:a=b):Ending.returned (.bool a)= .returned (.bool b):=by rw[h]
set_option maxHeartbeats 2000000 in
theorem zcX (c:Int) (w:World):Calls Try.prog 67 #[.int .u8 c] w fun e w'=>e= .returned (.bool (decide (97≤c∧c≤122)))∧w'=w:=by
 go_enter Try.func67,Try.ntmps67;go_wp2;all_goals (go_ret;refine⟨zcD ?_,rfl⟩;rw[Bool.eq_iff_iff];(first|simp only[zcv]|skip);simp only[beq_iff_eq,bne_iff_ne,beq_eq_false_iff_ne,ne_eq,decide_eq_true_eq,Bool.or_eq_true,Bool.and_eq_true,Bool.false_eq_true,false_iff,true_iff]at *;omega)
set_option maxHeartbeats 2000000 in
theorem zcd (c:Int) (w:World):Calls Try.prog 68 #[.int .u8 c] w fun e w'=>e= .returned (.bool (decide (48≤c∧c≤57)))∧w'=w:=by
 go_enter Try.func68,Try.ntmps68;go_wp2;all_goals (go_ret;refine⟨zcD ?_,rfl⟩;rw[Bool.eq_iff_iff];(first|simp only[zcv]|skip);simp only[beq_iff_eq,bne_iff_ne,beq_eq_false_iff_ne,ne_eq,decide_eq_true_eq,Bool.or_eq_true,Bool.and_eq_true,Bool.false_eq_true,false_iff,true_iff]at *;omega)
set_option maxHeartbeats 2000000 in
theorem zft (c:Int) (w:World):Calls Try.prog 69 #[.int .u8 c] w fun e w'=>e= .returned (.bool (decide (c=123∨c=125∨c=44∨c=59∨c=58∨c=47∨c=45)))∧w'=w:=by
 go_enter Try.func69,Try.ntmps69;go_wp2;all_goals (go_ret;refine⟨zcD ?_,rfl⟩;rw[Bool.eq_iff_iff];(first|simp only[zcv]|skip);simp only[beq_iff_eq,bne_iff_ne,beq_eq_false_iff_ne,ne_eq,decide_eq_true_eq,Bool.or_eq_true,Bool.and_eq_true,Bool.false_eq_true,false_iff,true_iff]at *;omega)
end Go.Proofs.Ythbfohohelflnaa
namespace Go.Proofs.Ythbfohohelflnaa
open Go.RowKit
set_option linter.unusedVariables false
set_option linter.unusedSimpArgs false
theorem zaH (ad:Addr) (n:Nat):(ad.add n).block=ad.block:=by unfold Addr.add;split<;>rfl
theorem zaO (b o n:Nat):(⟨b,o,none⟩:Addr).add n=⟨b,o+n,none⟩:=by unfold Addr.add;split<;>simp_all
def By (w:World) (v:Value) (l:List UInt8):Prop:=∃ a cap,v= .slice a l.length cap∧l.length≤cap∧∀ k,k<l.length→∃ ad,a=some ad∧ad.block<w.heap.size∧w.cell? (ad.add k)=some (.int .u8 ((l.getD k 0).toNat:Int))
theorem By.keep {w w':World} {v:Value} {l:List UInt8} (h:By w v l) (hk:Keep w w'):By w' v l:=by
 obtain⟨a,cap,rfl,hc,h⟩:=h;refine⟨a,cap,rfl,hc,fun k hlt=>?_⟩;obtain⟨ad,h0,h1,h2⟩:=h k hlt;exact⟨ad,h0,Nat.lt_of_lt_of_le h1 (Below.size hk),by rw[Below.cell hk (by rw[zaH];exact h1)];exact h2⟩
theorem By.shape {w:World} {v:Value} {l:List UInt8} (h:By w v l):∃ a cap,v= .slice a l.length cap:=by obtain⟨a,cap,rfl,_⟩:=h;exact⟨a,cap,rfl⟩
end Go.Proofs.Ythbfohohelflnaa
