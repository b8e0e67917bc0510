/- The document's reader: what is stored cell by cell. -/
import Derived.Test.YthceiikgecoimaaGreatDoorQArt
namespace Go.Proofs.YthceiikgecoimaaGreatDoor
open Go.RowKit
attribute [local go_sem ↓] Go.wp_at_zero Go.wp_at_succ
set_option linter.unusedVariables false
set_option linter.unusedSimpArgs false
set_option maxRecDepth 10000
namespace Q
theorem zfP (W:World) (b i:Nat) (u old:Value) (ho:u.oneCell'=true) (hc:W.cell? ⟨b,i,none⟩=some old) (hf:W.frozen? ⟨b,i,none⟩=false):(store ⟨b,i,none⟩ u).run Tryz.prog W= .ok () (W.setCell ⟨b,i,none⟩ u):=by
 rw[run_store Tryz.prog W ⟨b,i,none⟩ u _ ho];simp[hc,hf]
theorem zeO {W:World} {b i:Nat} {arr:Array Value} {t:TypeId} {fr:Nat×Nat} (h:W.heap[b]? =some (.cells arr t fr)) (v:Value):(W.setCell ⟨b,i,none⟩ v).heap[b]? =some (.cells (arr.setIfInBounds i v) t fr):=by
 simp[World.setCell,Array.getElem?_modify,h]
theorem zbg {W:World} {b:Nat} {t:TypeId} {arr:Array Value} (h:W.heap[b]? =some (.cells arr t (0,0))) (i:Nat) {z u:Value} (hi:arr[i]? =some z) (ho:u.oneCell'=true):
  ∃ W',(store ⟨b,i,none⟩ u).run Tryz.prog W= .ok () W'/\W'.heap[b]? =some (.cells (arr.setIfInBounds i u) t (0,0))/\(∀ q,q≠b->W'.heap[q]? =W.heap[q]?)/\W'.heap.size=W.heap.size/\W'.os=W.os/\W'.tape=W.tape/\W'.output=W.output:=
 ⟨_,zfP W b i u z ho (by simp[World.cell?,h,hi]) (by simp[World.frozen?,h]),zeO h u,λq hq=>Below.heap_setCell _ _ _ _ hq,by simp[World.setCell],rfl,rfl,rfl⟩
set_option maxHeartbeats 2000000 in
theorem zru {W:World} {b:Nat} {t:TypeId} {z0 z1 z2 z3 z4 z5 z6:Value} (h:W.heap[b]? =some (.cells #[z0,z1,z2,z3,z4,z5,z6] t (0,0))) {u0 u1 u2 u3 u4 u5 u6:Value} (ho:∀ u∈ [u0,u1,u2,u3,u4,u5,u6],u.oneCell'=true):
  ∃ W1 W2 W3 W4 W5 W6 W7,(store ⟨b,0,none⟩ u0).run Tryz.prog W= .ok () W1/\(store ⟨b,1,none⟩ u1).run Tryz.prog W1= .ok () W2/\(store ⟨b,2,none⟩ u2).run Tryz.prog W2= .ok () W3/\(store ⟨b,3,none⟩ u3).run Tryz.prog W3= .ok () W4/\(store ⟨b,4,none⟩ u4).run Tryz.prog W4= .ok () W5/\(store ⟨b,5,none⟩ u5).run Tryz.prog W5= .ok () W6/\(store ⟨b,6,none⟩ u6).run Tryz.prog W6= .ok () W7/\W7.heap[b]? =some (.cells #[u0,u1,u2,u3,u4,u5,u6] t (0,0))/\(∀ q,q≠b->W7.heap[q]? =W.heap[q]?)/\W7.heap.size=W.heap.size/\W7.os=W.os/\W7.tape=W.tape/\W7.output=W.output:=by
 obtain⟨W1,s0,g0,q0,z0',a0,b0,c0⟩:=zbg h 0 (z:=z0) (u:=u0) rfl (ho _ (by simp));have h0:W1.heap[b]? =some (.cells #[u0,z1,z2,z3,z4,z5,z6] t (0,0)):=g0;obtain⟨W2,s1,g1,q1,z1',a1,b1,c1⟩:=zbg h0 1 (z:=z1) (u:=u1) rfl (ho _ (by simp));have h1:W2.heap[b]? =some (.cells #[u0,u1,z2,z3,z4,z5,z6] t (0,0)):=g1;obtain⟨W3,s2,g2,q2,z2',a2,b2,c2⟩:=zbg h1 2 (z:=z2) (u:=u2) rfl (ho _ (by simp));have h2:W3.heap[b]? =some (.cells #[u0,u1,u2,z3,z4,z5,z6] t (0,0)):=g2;obtain⟨W4,s3,g3,q3,z3',a3,b3,c3⟩:=zbg h2 3 (z:=z3) (u:=u3) rfl (ho _ (by simp));have h3:W4.heap[b]? =some (.cells #[u0,u1,u2,u3,z4,z5,z6] t (0,0)):=g3;obtain⟨W5,s4,g4,q4,z4',a4,b4,c4⟩:=zbg h3 4 (z:=z4) (u:=u4) rfl (ho _ (by simp));have h4:W5.heap[b]? =some (.cells #[u0,u1,u2,u3,u4,z5,z6] t (0,0)):=g4;obtain⟨W6,s5,g5,q5,z5',a5,b5,c5⟩:=zbg h4 5 (z:=z5) (u:=u5) rfl (ho _ (by simp));have h5:W6.heap[b]? =some (.cells #[u0,u1,u2,u3,u4,u5,z6] t (0,0)):=g5;obtain⟨W7,s6,g6,q6,z6',a6,b6,c6⟩:=zbg h5 6 (z:=z6) (u:=u6) rfl (ho _ (by simp));have h6:W7.heap[b]? =some (.cells #[u0,u1,u2,u3,u4,u5,u6] t (0,0)):=g6;refine⟨W1,W2,W3,W4,W5,W6,W7,s0,s1,s2,s3,s4,s5,s6,h6,λq hq=>?_,?_,?_,?_,?_⟩
 ·rw[q6 q hq,q5 q hq,q4 q hq,q3 q hq,q2 q hq,q1 q hq,q0 q hq]
 ·rw[z6',z5',z4',z3',z2',z1',z0']
 ·rw[a6,a5,a4,a3,a2,a1,a0]
 ·rw[b6,b5,b4,b3,b2,b1,b0]
 ·rw[c6,c5,c4,c3,c2,c1,c0]
set_option maxHeartbeats 2000000 in
theorem zdL {W:World} {b:Nat} {t:TypeId} {z0 z1 z2 z3 z4 z5 z6 z7 z8:Value} (h:W.heap[b]? =some (.cells #[z0,z1,z2,z3,z4,z5,z6,z7,z8] t (0,0))) {u0 u1 u2 u3 u4 u5 u6 u7 u8:Value} (ho:∀ u∈ [u0,u1,u2,u3,u4,u5,u6,u7,u8],u.oneCell'=true):
  ∃ W1 W2 W3 W4 W5 W6 W7 W8 W9,(store ⟨b,0,none⟩ u0).run Tryz.prog W= .ok () W1/\(store ⟨b,1,none⟩ u1).run Tryz.prog W1= .ok () W2/\(store ⟨b,2,none⟩ u2).run Tryz.prog W2= .ok () W3/\(store ⟨b,3,none⟩ u3).run Tryz.prog W3= .ok () W4/\(store ⟨b,4,none⟩ u4).run Tryz.prog W4= .ok () W5/\(store ⟨b,5,none⟩ u5).run Tryz.prog W5= .ok () W6/\(store ⟨b,6,none⟩ u6).run Tryz.prog W6= .ok () W7/\(store ⟨b,7,none⟩ u7).run Tryz.prog W7= .ok () W8/\(store ⟨b,8,none⟩ u8).run Tryz.prog W8= .ok () W9/\W9.heap[b]? =some (.cells #[u0,u1,u2,u3,u4,u5,u6,u7,u8] t (0,0))/\(∀ q,q≠b->W9.heap[q]? =W.heap[q]?)/\W9.heap.size=W.heap.size/\W9.os=W.os/\W9.tape=W.tape/\W9.output=W.output:=by
 obtain⟨W1,s0,g0,q0,z0',a0,b0,c0⟩:=zbg h 0 (z:=z0) (u:=u0) rfl (ho _ (by simp));have h0:W1.heap[b]? =some (.cells #[u0,z1,z2,z3,z4,z5,z6,z7,z8] t (0,0)):=g0;obtain⟨W2,s1,g1,q1,z1',a1,b1,c1⟩:=zbg h0 1 (z:=z1) (u:=u1) rfl (ho _ (by simp));have h1:W2.heap[b]? =some (.cells #[u0,u1,z2,z3,z4,z5,z6,z7,z8] t (0,0)):=g1;obtain⟨W3,s2,g2,q2,z2',a2,b2,c2⟩:=zbg h1 2 (z:=z2) (u:=u2) rfl (ho _ (by simp));have h2:W3.heap[b]? =some (.cells #[u0,u1,u2,z3,z4,z5,z6,z7,z8] t (0,0)):=g2;obtain⟨W4,s3,g3,q3,z3',a3,b3,c3⟩:=zbg h2 3 (z:=z3) (u:=u3) rfl (ho _ (by simp));have h3:W4.heap[b]? =some (.cells #[u0,u1,u2,u3,z4,z5,z6,z7,z8] t (0,0)):=g3;obtain⟨W5,s4,g4,q4,z4',a4,b4,c4⟩:=zbg h3 4 (z:=z4) (u:=u4) rfl (ho _ (by simp));have h4:W5.heap[b]? =some (.cells #[u0,u1,u2,u3,u4,z5,z6,z7,z8] t (0,0)):=g4;obtain⟨W6,s5,g5,q5,z5',a5,b5,c5⟩:=zbg h4 5 (z:=z5) (u:=u5) rfl (ho _ (by simp));have h5:W6.heap[b]? =some (.cells #[u0,u1,u2,u3,u4,u5,z6,z7,z8] t (0,0)):=g5;obtain⟨W7,s6,g6,q6,z6',a6,b6,c6⟩:=zbg h5 6 (z:=z6) (u:=u6) rfl (ho _ (by simp));have h6:W7.heap[b]? =some (.cells #[u0,u1,u2,u3,u4,u5,u6,z7,z8] t (0,0)):=g6;obtain⟨W8,s7,g7,q7,z7',a7,b7,c7⟩:=zbg h6 7 (z:=z7) (u:=u7) rfl (ho _ (by simp));have h7:W8.heap[b]? =some (.cells #[u0,u1,u2,u3,u4,u5,u6,u7,z8] t (0,0)):=g7;obtain⟨W9,s8,g8,q8,z8',a8,b8,c8⟩:=zbg h7 8 (z:=z8) (u:=u8) rfl (ho _ (by simp));have h8:W9.heap[b]? =some (.cells #[u0,u1,u2,u3,u4,u5,u6,u7,u8] t (0,0)):=g8;refine⟨W1,W2,W3,W4,W5,W6,W7,W8,W9,s0,s1,s2,s3,s4,s5,s6,s7,s8,h8,λq hq=>?_,?_,?_,?_,?_⟩
 ·rw[q8 q hq,q7 q hq,q6 q hq,q5 q hq,q4 q hq,q3 q hq,q2 q hq,q1 q hq,q0 q hq]
 ·rw[z8',z7',z6',z5',z4',z3',z2',z1',z0']
 ·rw[a8,a7,a6,a5,a4,a3,a2,a1,a0]
 ·rw[b8,b7,b6,b5,b4,b3,b2,b1,b0]
 ·rw[c8,c7,c6,c5,c4,c3,c2,c1,c0]
theorem zrv {w:World} {b:Nat} (hb:b<w.heap.size) (o1 o2:Obj) (o:Obj) (os:Array Obj) (k:Nat):(chg ((w.alloc o1).alloc o2) b o os k).heap[w.heap.size]? =some o1:=by
 rw[zbp _ _ _ _ _ _ (by simp only[World.size_alloc];omega) (by omega),heap_alloc_old _ _ (by rw[World.size_alloc];omega)];exact heap_alloc_new w o1
theorem SF.stored {w:World} {b rb:Nat} {Y:Except Er (List Tok)} {A B:World} (h:SF w b Y A) (hb:b<w.heap.size) (hr:w.heap.size<=rb) (hq:∀ q,q≠rb->B.heap[q]? =A.heap[q]?) (hs:B.heap.size=A.heap.size) (h1:B.os=A.os) (h2:B.tape=A.tape) (h3:B.output=A.output):SF w b Y B:=
 h.eqv hb (λi hi=>hq i (by omega)) (by rw[hs];exact h.1.size) h1 h2 h3
theorem SF.loop {w:World} {b gb j:Nat} {Y Y':Except Er (List Tok)} {A:World} {e z:Nat} {us:List Value} {wr:World} {L:List (List D)} {a:Option Addr} {n cap:Nat} (h:SF w b Y A) (hg:w.heap.size<=gb) (l:LS b gb j A e z us wr L a n cap Y'):SF w b Y' wr:=
 ⟨h.1.inner l.ro.fr (λi hi x=>by rcases x with x|x;exact x;omega),l.sr⟩
theorem LS.row {b gb j:Nat} {A:World} {e z:Nat} {us:List Value} {wr:World} {L:List (List D)} {a:Option Addr} {n cap:Nat} {Y':Except Er (List Tok)} (l:LS b gb j A e z us wr L a n cap Y'):Rd wr (.row e z L) (λi=>gb<i) (.slice a n cap):=
 Rd.move _ _ _ _ l.ro.row (λi hi _=>⟨rfl,by have:=l.hg;omega⟩)
theorem LS.rows {b gb j:Nat} {A:World} {e z:Nat} {us:List Value} {wr:World} {L:List (List D)} {a:Option Addr} {n cap:Nat} {Y':Except Er (List Tok)} (l:LS b gb j A e z us wr L a n cap Y') {d:D} {v:Value} (h:Rd A d (λi=>gb<i) v):Rd wr d (λi=>gb<i) v:=
 Rd.fr l.ro.fr (λi hi x=>by have:=l.hb;rcases x with x|x<;>omega) h
theorem zc2 {b gb:Nat} (hb:b<gb) {A wr:World} (k:Fr (λi=>i=b) A wr) {d:D} {v:Value} (h:Rd A d (λi=>gb<i) v):Rd wr d (λi=>gb<i) v:=
 Rd.fr k (λi hi x=>by omega) h
theorem LS.low2 {b gb j:Nat} {A:World} {e z:Nat} {us:List Value} {wr:World} {L:List (List D)} {a:Option Addr} {n cap:Nat} {Y':Except Er (List Tok)} (l:LS b gb j A e z us wr L a n cap Y') {rb:Nat} (h1:rb<b):wr.heap[rb]? =A.heap[rb]? :=
 l.ro.fr.block rb (by have:=l.hg;have:=l.hb;omega) (λx=>by have:=l.hb;rcases x with x|x<;>omega)
theorem zo3 {w:World} {b:Nat} (hb:b<w.heap.size) (us1:List Value) (t1:TypeId) (o:Obj) (os:Array Obj) (k:Nat):Bxs (chg (w.alloc (.cells us1.toArray t1)) b o os k) w.heap.size us1/\w.heap.size+1<=(chg (w.alloc (.cells us1.toArray t1)) b o os k).heap.size:=by
 refine⟨(bxs_new w us1 t1).move ?_,by simp only[zbe,World.size_alloc];omega⟩;rw[zbp _ _ _ _ _ _ (by simp only[World.size_alloc];omega) (by omega)]
theorem LS.low {b gb j:Nat} {A:World} {e z:Nat} {us:List Value} {wr:World} {L:List (List D)} {a:Option Addr} {n cap:Nat} {Y':Except Er (List Tok)} (l:LS b gb j A e z us wr L a n cap Y') {rb:Nat} (h1:b<rb) (h2:rb<gb):wr.heap[rb]? =A.heap[rb]? :=
 l.ro.fr.block rb (by have:=l.hg;omega) (λx=>by rcases x with x|x<;>omega)
end Q
end Go.Proofs.YthceiikgecoimaaGreatDoor
