/- A world in which one block has turned and later blocks are there: the walk goes past it. -/
import Derived.Test.YtpdcabfabghbkaaQOne
namespace Go.Proofs.Ytpdcabfabghbkaa
open Go.RowKit
set_option linter.unusedVariables false
set_option linter.unusedSimpArgs false
set_option maxRecDepth 10000
namespace Q
def chg (w:World) (b:Nat) (o:Obj) (os:Array Obj) (k:Nat):World:= { w with heap:=w.heap.setIfInBounds b o++os,drawn:=k }
theorem zaK (w:World) (b:Nat) (o:Obj) (os:Array Obj) (k i:Nat) (hi:i<w.heap.size) (hb:i≠b):(chg w b o os k).heap[i]? =w.heap[i]? :=by
 simp only[chg];rw[Array.getElem?_append_left (by simpa using hi),Array.getElem?_setIfInBounds_ne (fun e=>hb e.symm)]
theorem zcy (w:World) (b:Nat) (o:Obj) (os:Array Obj) (k:Nat) (hb:b<w.heap.size):(chg w b o os k).heap[b]? =some o:=by
 simp only[chg];rw[Array.getElem?_append_left (by simpa using hb),Array.getElem?_setIfInBounds_self];simp[hb]
theorem zae {w w':World} {b:Nat} (h:Fr (fun i=>i=b) w w') (hb:b<w.heap.size):∃ o os k,w'=chg w b o os k:=by
 have hb':b<w'.heap.size:=Nat.lt_of_lt_of_le hb h.size;refine⟨w'.heap[b],w'.heap.extract w.heap.size w'.heap.size,w'.drawn,?_⟩;have e:w'.heap=w.heap.setIfInBounds b w'.heap[b]++w'.heap.extract w.heap.size w'.heap.size:=by
  apply Array.ext_getElem?;intro i
  by_cases hi:i<w.heap.size
  ·rw[Array.getElem?_append_left (by simpa using hi)];by_cases e:i=b
   ·subst e;rw[Array.getElem?_setIfInBounds_self];simp[hi,hb']
   ·rw[Array.getElem?_setIfInBounds_ne (fun x=>e x.symm),h.block i hi e]
  ·rw[Array.getElem?_append_right (by simp;omega),Array.getElem?_extract];simp only[Array.size_setIfInBounds];by_cases h6:i<w'.heap.size
   ·rw[if_pos (by omega)];congr 1;omega
   ·rw[if_neg (by omega),Array.getElem?_eq_none (by omega)]
 obtain⟨h1,h2,h3,h4,h5,_,_⟩:=h;obtain⟨a,b2,c,d,f⟩:=w';obtain⟨a',b',c',d',f'⟩:=w;simp only at h1 h2 h3 e;subst h1 h2 h3;simp only[chg];rw[← e]
@[go_sem,simp] theorem zaw (w:World) (b:Nat) (o:Obj) (os:Array Obj) (k:Nat):(chg w b o os k).heap.size=w.heap.size+os.size:=by simp[chg]
@[go_sem] theorem zkc (w:World) (b:Nat) (o:Obj) (os:Array Obj) (k n i:Nat) (hn:n<w.heap.size) (hb:¬n=b):(chg w b o os k).cell? ⟨n,i,none⟩=w.cell? ⟨n,i,none⟩:=
 World.cell?_of_block (a:=⟨n,i,none⟩) (zaK w b o os k n hn hb)
@[go_sem] theorem zio (w:World) (b:Nat) (o:Obj) (os:Array Obj) (k n i:Nat) (hn:n<w.heap.size) (hb:¬n=b):(chg w b o os k).frozen? ⟨n,i,none⟩=w.frozen? ⟨n,i,none⟩:=
 World.frozen?_of_block (a:=⟨n,i,none⟩) (zaK w b o os k n hn hb)
@[go_sem] theorem zh1 (w:World) (b:Nat) (o:Obj) (os:Array Obj) (k n i:Nat) (v:Value) (hn:n<w.heap.size) (hb:¬n=b):(chg w b o os k).setCell ⟨n,i,none⟩ v=chg (w.setCell ⟨n,i,none⟩ v) b o os k:=by
 unfold World.setCell chg
 congr 1;apply Array.ext_getElem?;intro j
 simp only[Array.getElem?_modify,Array.getElem?_append,Array.size_modify,Array.size_setIfInBounds,Array.getElem?_setIfInBounds];by_cases hj:j<w.heap.size
 ·by_cases e1:b=j
  ·subst e1;simp[hj,hb]
  ·simp[hj,e1]
 ·have:¬n=j:=by omega
  simp[hj,this]
theorem zcK (w:World) (b:Nat) (o o2:Obj) (s1 s2:Array Obj) (k1 k2:Nat) (hb:b<w.heap.size):chg (chg w b o s1 k1) b o2 s2 k2=chg w b o2 (s1++s2) k2:=by
 unfold chg
 congr 1;simp only;rw[← Array.append_assoc];congr 1;apply Array.ext_getElem?;intro j
 simp only[Array.getElem?_append,Array.size_setIfInBounds,Array.getElem?_setIfInBounds,Array.size_append];by_cases e:b=j
 ·subst e;simp[hb];omega
 ·simp[e]
def SF (w:World) (b:Nat) (Y:Except Er (List Tok)) (A:World):Prop:=Fr (fun i=>i=b) w A∧Sr A b Y
theorem SF.eqv {w:World} {b:Nat} {Y:Except Er (List Tok)} {A B:World} (h:SF w b Y A) (hb:b<w.heap.size) (e:∀ i,i<w.heap.size→B.heap[i]? =A.heap[i]?) (hs:w.heap.size≤B.heap.size) (h1:B.os=A.os) (h2:B.tape=A.tape) (h3:B.output=A.output):SF w b Y B:=
 ⟨⟨h1.trans h.1.os,h2.trans h.1.tape,h3.trans h.1.output,hs,fun i hi hn=>(e i hi).trans (h.1.block i hi hn),fun i hi=>(zeo (e i hi)).trans (h.1.shape i hi),fun i hi k=>zc7 (e i hi) (h.1.ones i hi k)⟩,h.2.far (fun i hi=>e i (by omega))⟩
theorem SF.keep {w:World} {b:Nat} {Y:Except Er (List Tok)} {A B:World} (h:SF w b Y A) (k:Keep A B):SF w b Y B:=⟨h.1.trans (.keep k),h.2.keep k⟩
theorem SF.step {w:World} {b:Nat} {X:Rs} {A B:World} {p:Sp} {ds:List D} (h:SF w b (zad X) A) (k:Did p ds b X A B):SF w b (zad (bnd X p)) B:=⟨h.1.trans k.1,k.2.1⟩
theorem SF.box1 {w:World} {b:Nat} {Y:Except Er (List Tok)} {o1 o1' o:Obj} {os:Array Obj} {k:Nat} (hb:b<w.heap.size) (h:SF w b Y (chg (w.alloc o1) b o os k)):SF w b Y (chg (w.alloc o1') b o os k):=by
 refine h.eqv hb (fun i hi=>?_) (by simp only[zaw,World.size_alloc];omega) rfl rfl rfl;by_cases e:i=b
 ·subst e;rw[zcy _ _ _ _ _ (by rw[World.size_alloc];omega),zcy _ _ _ _ _ (by rw[World.size_alloc];omega)]
 ·rw[zaK _ _ _ _ _ _ (by rw[World.size_alloc];omega) e,zaK _ _ _ _ _ _ (by rw[World.size_alloc];omega) e,heap_alloc_old _ _ hi,heap_alloc_old _ _ hi]
theorem SF.box2 {w:World} {b:Nat} {Y:Except Er (List Tok)} {o1 o1' o2 o2' o:Obj} {os:Array Obj} {k:Nat} (hb:b<w.heap.size) (h:SF w b Y (chg ((w.alloc o1).alloc o2) b o os k)):SF w b Y (chg ((w.alloc o1').alloc o2') b o os k):=by
 refine h.eqv hb (fun i hi=>?_) (by simp only[zaw,World.size_alloc];omega) rfl rfl rfl;by_cases e:i=b
 ·subst e;rw[zcy _ _ _ _ _ (by rw[World.size_alloc,World.size_alloc];omega),zcy _ _ _ _ _ (by rw[World.size_alloc,World.size_alloc];omega)]
 ·rw[zaK _ _ _ _ _ _ (by rw[World.size_alloc,World.size_alloc];omega) e,zaK _ _ _ _ _ _ (by rw[World.size_alloc,World.size_alloc];omega) e,heap_alloc_old _ _ (by rw[World.size_alloc];omega),heap_alloc_old _ _ hi,heap_alloc_old _ _ (by rw[World.size_alloc];omega),heap_alloc_old _ _ hi]
theorem zav {w:World} {b:Nat} (hb:b<w.heap.size) {o1 o o2:Obj} {s1 s2:Array Obj} {k1 k2:Nat} :chg (chg (w.alloc o1) b o s1 k1) b o2 s2 k2=chg (w.alloc o1) b o2 (s1++s2) k2:=zcK _ _ _ _ _ _ _ _ (by rw[World.size_alloc];omega)
theorem zam {w:World} {b:Nat} (hb:b<w.heap.size) {o1 o3 o o2:Obj} {s1 s2:Array Obj} {k1 k2:Nat} :chg (chg ((w.alloc o1).alloc o3) b o s1 k1) b o2 s2 k2=chg ((w.alloc o1).alloc o3) b o2 (s1++s2) k2:=zcK _ _ _ _ _ _ _ _ (by rw[World.size_alloc,World.size_alloc];omega)
@[go_sem] theorem zlg (a:Nat):a<a+1:=by omega
@[go_sem] theorem zlh (a:Nat):a<a+1+1:=by omega
end Q
end Go.Proofs.Ytpdcabfabghbkaa
