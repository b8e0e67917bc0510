/- The document's reader: rows that grow in a box. -/
import Derived.Test.YthbfohohelflnaaQNames
namespace Go.Proofs.Ythbfohohelflnaa
open Go.RowKit
set_option linter.unusedVariables false
set_option linter.unusedSimpArgs false
set_option maxRecDepth 10000
namespace Q
structure LS (b gb j:Nat) (w2:World) (e z:Nat) (us:List Value) (wr:World) (L:List (List D)) (a:Option Addr) (n cap:Nat) (Y:Except Er (List Tok)):Prop where
 ro:RO (fun i=>i=b∨i=gb) w2 e z wr L (.slice a n cap)
 bx:Bxs wr gb (us.set j (.slice a n cap))
 sr:Sr wr b Y
 hn:L.length=n
 hb:b<gb
 hg:gb<w2.heap.size
 hj:j<us.length
theorem LS.start {b gb j:Nat} {w2:World} {e z:Nat} {us:List Value} {Y:Except Er (List Tok)} (hs:Sr w2 b Y) (hx:Bxs w2 gb us) (hj:us[j]? =some (.slice none 0 0)) (hb:b<gb) (hg:gb<w2.heap.size):LS b gb j w2 e z us w2 [] none 0 0 Y:=by
 have hl:j<us.length:=by
  rcases Nat.lt_or_ge j us.length with h|h
  ·exact h
  ·rw[List.getElem?_eq_none h]at hj;cases hj
 refine⟨RO.start _ _ _ _,?_,hs,rfl,hb,hg,hl⟩;have:us.set j (.slice none 0 0)=us:=by
  apply List.ext_getElem?;intro i
  by_cases e:j=i
  ·subst e;rw[List.getElem?_set_self hl,hj]
  ·rw[List.getElem?_set_ne e]
 rw[this];exact hx
theorem LS.gw {b gb j:Nat} {w2:World} {e z:Nat} {us:List Value} {wr:World} {L:List (List D)} {a:Option Addr} {n cap:Nat} {Y:Except Er (List Tok)} (h:LS b gb j w2 e z us wr L a n cap Y):gb<wr.heap.size:=Nat.lt_of_lt_of_le h.hg h.ro.fr.size
theorem LS.move {b gb j:Nat} {w2:World} {e z:Nat} {us:List Value} {wr w3:World} {L:List (List D)} {a:Option Addr} {n cap:Nat} {Y Y':Except Er (List Tok)} (h:LS b gb j w2 e z us wr L a n cap Y) (k:Fr (fun i=>i=b) wr w3) (hs:Sr w3 b Y'):LS b gb j w2 e z us w3 L a n cap Y':=
 ⟨h.ro.move k (fun i x=>⟨.inl x,by have:=h.hb;have:=h.hg;omega⟩),h.bx.move (k.block gb h.gw (fun x=>by have:=h.hb;omega)),hs,h.hn,h.hb,h.hg,h.hj⟩
theorem LS.cell {b gb j:Nat} {w2:World} {e z:Nat} {us:List Value} {wr:World} {L:List (List D)} {a:Option Addr} {n cap:Nat} {Y:Except Er (List Tok)} (h:LS b gb j w2 e z us wr L a n cap Y):wr.cell? ⟨gb,j,none⟩=some (.slice a n cap)∧wr.frozen? ⟨gb,j,none⟩=false:=
 h.bx j _ (by rw[List.getElem?_set_self h.hj])
theorem LS.own {b gb j:Nat} {w2:World} {e z:Nat} {us:List Value} {wr W6:World} {L:List (List D)} {a:Option Addr} {n cap:Nat} {Y:Except Er (List Tok)} (h:LS b gb j w2 e z us wr L a n cap Y) (k:Fr (fun i=>i=b) wr W6):∃ xs,W6.ownsRow 0 e z (.slice a n cap) n xs:=by
 obtain⟨xs,h1,_⟩:=(h.ro.move k (fun i x=>⟨.inl x,by have:=h.hb;have:=h.hg;omega⟩)).shape;rw[h.hn]at h1;exact⟨xs,h1⟩
theorem LS.app {b gb j:Nat} {w2:World} {e z:Nat} {us:List Value} {wr W6 wa w8:World} {L:List (List D)} {a a':Option Addr} {n cap cap':Nat} {Y Y6:Except Er (List Tok)} {ds:List D} {xs vs:List Value} (h:LS b gb j w2 e z us wr L a n cap Y) (k:Fr (fun i=>i=b) wr W6) (hs:Sr W6 b Y6) (hd:Rds W6 ds (fun i=>wr.heap.size≤i) vs) (hz:ds.length=z) (hka:Keep W6 wa) (hxs:W6.ownsRow 0 e z (.slice a n cap) n xs) (hown:w8.ownsRow 0 e z (.slice a' (n+1) cap') (n+1) (xs++vs)) (hg:wa.grownBy w8 (Value.slice a n cap).ownBlock) (hat:(Value.slice a' (n+1) cap').ownBlock=(Value.slice a n cap).ownBlock∨(Value.slice a' (n+1) cap').ownBlock=some wa.heap.size):
  LS b gb j w2 e z us (w8.setCell ⟨gb,j,none⟩ (.slice a' (n+1) cap')) (L++ [ds]) a' (n+1) cap' Y6∧w8.cell? ⟨gb,j,none⟩=some (.slice a n cap)∧w8.frozen? ⟨gb,j,none⟩=false:=by
 have hro:=h.ro.move k (fun i x=>⟨.inl x,by have:=h.hb;have:=h.hg;omega⟩);obtain⟨_,_,hlt⟩:=h.ro.shape;have A:=hro.app hka (fun i x=>by rcases x with x|x<;>(have:=h.hb;have:=h.hg;omega)) (B:=wr.heap.size) (fun g hg'=>(hlt g hg').2) h.ro.fr.size hd hz (by rw[h.hn];exact hxs) (by rw[h.hn];exact hown) hg hat;have hb6:W6.heap[gb]? =wr.heap[gb]? :=k.block gb h.gw (fun x=>by have:=h.hb;omega);have hb8:w8.heap[gb]? =wr.heap[gb]? :=(A.2 gb h.hg).trans hb6;have hbx8:Bxs w8 gb (us.set j (.slice a n cap)):=h.bx.move hb8;have hc8:=hbx8 j _ (by rw[List.getElem?_set_self h.hj]);refine⟨⟨A.1.set _ _ rfl (.inr rfl) h.hg,?_,?_,by rw[List.length_append,h.hn];rfl,h.hb,h.hg,h.hj⟩,hc8⟩
 ·have:=hbx8.set j (.slice a' (n+1) cap');rwa[List.set_set]at this
 ·refine(hs.far (fun i hi=>A.2 i (by have:=h.hb;have:=h.hg;omega))).set _ _ ?_;exact h.hb
theorem LS.fin {b gb j:Nat} {w2:World} {e z:Nat} {us:List Value} {wr:World} {L:List (List D)} {a:Option Addr} {n cap:Nat} {Y:Except Er (List Tok)} (h:LS b gb j w2 e z us wr L a n cap Y):Rd wr (.row e z L) (fun i=>w2.heap.size≤i) (.slice a n cap)∧Fr (fun i=>i=b∨i=gb) w2 wr:=⟨h.ro.row,h.ro.fr⟩
theorem zas {word:List UInt8} {n most:Nat} {body:List Tok→Rs} (hm:Mon body) {Y:Except Er (List Tok)} {t:Tok} {r:List Tok} {w w':World} {b:Nat} (hY:Y= .ok (t :: r)) (hs:Sr w b Y) (hs':Sr w' b (zae (body r))):rem w' b<rem w b:=by
 subst hY;rw[zci hs];cases hx:body r with
 |error x=>rw[hx]at hs';rw[zeB (x:=x) hs'];simp
 |ok q=>
  obtain⟨c,r'⟩:=q;rw[hx]at hs';rw[zci (r:=r') hs'];have:=hm _ _ _ hx;simp;omega
end Q
end Go.Proofs.Ythbfohohelflnaa
