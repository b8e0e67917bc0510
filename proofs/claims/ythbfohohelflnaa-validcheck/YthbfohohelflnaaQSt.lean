/- The document's reader in memory; rows that grow; boxes. -/
import Derived.Test.YthbfohohelflnaaLReadA
import Derived.Test.YthbfohohelflnaaNVal
import Derived.LoopTactic
import Derived.Deep.DeepCutAuto
import Derived.Maps.AppendAt
namespace Go.Proofs.Ythbfohohelflnaa
open Go.RowKit
set_option linter.unusedVariables false
set_option linter.unusedSimpArgs false
set_option maxRecDepth 10000
namespace Q
def Wf (l:List Tok):Prop:=l.length≤70000∧(∃ m t,l=m++ [t]∧t.k=0∧t.s= [])∧∀ t∈l,0≤t.n∧t.n≤999999999999999999
theorem zch {w:World} {a:Addr} {v:Value} (h:w.cell? a=some v):a.block<w.heap.size:=World.block_lt_of_cell? w a h
theorem kcell {w w':World} (k:Keep w w') {a:Addr} {v:Value} (h:w.cell? a=some v):w'.cell? a=some v:=by rw[Below.cell k (zch h)];exact h
theorem zhZ {w w':World} (k:Keep w w') {a:Addr} {v:Value} (h:w.cell? a=some v) (f:w.frozen? a=false):w'.frozen? a=false:=by rw[Below.frozen k (zch h)];exact f
theorem zbH (w:World) (p a:Addr) (v:Value) (h:p≠a):(w.setCell p v).cell? a=w.cell? a:=by apply World.cell?_setCell_other;exact h
theorem zdJ {w:World} {a:Addr} {u:Value} (v:Value) (h:w.cell? a=some u):(w.setCell a v).cell? a=some v:=by apply World.cell?_setCell_same;exact h
theorem zh0 (w:World) (p a:Addr) (v:Value) (h:p.block≠a.block):(w.setCell p v).cell? a=w.cell? a:=World.cell?_of_block (Below.heap_setCell _ _ _ _ (fun e=>h e.symm))
theorem zbn {w w':World} {a:Addr} (h:w'.heap[a.block]? =w.heap[a.block]?):w'.cell? a=w.cell? a:=World.cell?_of_block h
theorem zb5 (w:World) (o o':Obj):Keep w ((w.alloc o).alloc o'):=((Keep.refl w).alloc o).alloc o'
section
variable {P : Program} {w : World}
theorem zao {o:Oper} {a:Act} {K:Act→World→Prop} {Q:Exit→Act→World→Prop} (s x:Operand) (t:TypeId)
  (ho:o.op= .call { callee:= .builtin .append,args:=#[s,x],argTypes:=#[t,t] })
  (base:Nat) (e:TypeId) (i:TypeInfo) (z:Value) (size bytes:Nat) (ht:P.underlying t=some (.slice e)) (hi:P.info? e=some i) (hz:i.zero=some z)
  (hsize:i.size=size) (hby:i.bytes=bytes) (hzs:z.cells.size=size) (hsz:0<size)
  (v:Value) (n:Nat) (xs:List Value) (hs:a.eval s=v) (hown:w.ownsRow base e size v n xs)
  (ad:Addr) (m c:Nat) (news:List Value) (hx:a.eval x= .slice (some ad) m c) (hl:news.length=m * size) (hnews:∀ j u,news[j]? =some u→w.cell? (ad.add j)=some u) (h1:∀ u∈news,u.oneCell'=true)
  (h63:n+m≤maxLen) (hbytes:(n+m) * bytes≤140737488355328) (hbase:base≤w.heap.size)
  (h:∀ v' w',w'.ownsRow base e size v' (n+m) (xs++news)→w.grownBy w' v.ownBlock→(v'.ownBlock=v.ownBlock∨v'.ownBlock=some w.heap.size)→K (a.put o.dst v') w'):o.wp P a w K Q:=by
 obtain⟨v',w',hr,h2,h3,h4,h5⟩:=run_append_own_at (P:=P) w base t o.type e i z size bytes ht hi hz hsize hby hzs hsz v n xs hown ad m c news hl hnews h1 h63 hbytes hbase;unfold Oper.wp execOp
 simp only[ho,resolve,invoke,builtin,Sem.run_bind,Sem.run_pure,Result.andThen_ok,List.map_toArray,List.map_cons,List.map_nil,hs,hx,hr];exact h v' w' h2 h3 h5
end
def Wq (L:List Tok):Prop:=Wf L∧∀ t∈L,Kf t
theorem Wq.cons {t:Tok} {r:List Tok} (h:Wq (t :: r)) (hk:t.k≠0∨t.s≠ []):Wq r∧r≠ []:=by
 obtain⟨⟨h1,⟨m,u,e,u1,u2⟩,h3⟩,h4⟩:=h;cases m with
 |nil=>
  simp only[List.nil_append,List.cons.injEq]at e;obtain⟨rfl,_⟩:=e;rcases hk with hk|hk
  ·exact absurd u1 hk
  ·exact absurd u2 hk
 |cons x m=>
  simp only[List.cons_append,List.cons.injEq]at e;obtain⟨rfl,rfl⟩:=e;refine⟨⟨⟨by simp at h1 ⊢;omega,⟨m,u,rfl,u1,u2⟩,fun t ht=>h3 t (List.mem_cons_of_mem _ ht)⟩,fun t ht=>h4 t (List.mem_cons_of_mem _ ht)⟩,by simp⟩
theorem Wq.ne {L:List Tok} (h:Wq L):∃ t r,L=t :: r:=by
 obtain⟨⟨_,⟨m,u,rfl,_⟩,_⟩,_⟩:=h;cases m with
 |nil=>exact⟨u,[],rfl⟩
 |cons x m=>exact⟨x,m++ [u],rfl⟩
structure Rm (w:World) (b:Nat) (ad:Addr) (cap:Nat) (e p:Int) (L:List Tok):Prop where
 c0:w.cell? ⟨b,0,none⟩=some (.slice (some ad) L.length cap)
 c1:w.cell? ⟨b,1,none⟩=some (.int .i64 e)
 c2:w.cell? ⟨b,2,none⟩=some (.int .i64 p)
 f0:w.frozen? ⟨b,0,none⟩=false
 f1:w.frozen? ⟨b,1,none⟩=false
 f2:w.frozen? ⟨b,2,none⟩=false
 le:L.length≤cap
 lt:ad.block<b
 tc:∀ k,k<L.length→Tc w (ad.add (k * 4)) (L.getD k t0)
 wq:Wq L
theorem Rm.bl {w:World} {b:Nat} {ad:Addr} {cap:Nat} {e p:Int} {L:List Tok} (h:Rm w b ad cap e p L):b<w.heap.size:=zch h.c0
theorem zcH {w w':World} {ad:Addr} {t:Tok} (h:Tc w ad t) (hk:w'.heap[ad.block]? =w.heap[ad.block]?):Tc w' ad t:=by
 obtain⟨h0,h1,h2,h3⟩:=h;exact⟨(zbn hk).trans h0,(zbn (a:=⟨ad.block,ad.off+1,none⟩) hk).trans h1,(zbn (a:=⟨ad.block,ad.off+2,none⟩) hk).trans h2,(zbn (a:=⟨ad.block,ad.off+3,none⟩) hk).trans h3⟩
theorem Rm.move {w w':World} {b:Nat} {ad:Addr} {cap:Nat} {e p:Int} {L:List Tok} (h:Rm w b ad cap e p L) (hb:w'.heap[b]? =w.heap[b]?) (ht:w'.heap[ad.block]? =w.heap[ad.block]?):Rm w' b ad cap e p L:=
 ⟨(zbn (a:=⟨b,0,none⟩) hb).trans h.c0,(zbn (a:=⟨b,1,none⟩) hb).trans h.c1,(zbn (a:=⟨b,2,none⟩) hb).trans h.c2,(World.frozen?_of_block (a:=⟨b,0,none⟩) hb).trans h.f0,(World.frozen?_of_block (a:=⟨b,1,none⟩) hb).trans h.f1,(World.frozen?_of_block (a:=⟨b,2,none⟩) hb).trans h.f2,h.le,h.lt,fun k hk=>zcH (h.tc k hk) (by rw[zaH];exact ht),h.wq⟩
theorem Rm.keep {w w':World} {b:Nat} {ad:Addr} {cap:Nat} {e p:Int} {L:List Tok} (h:Rm w b ad cap e p L) (k:Keep w w'):Rm w' b ad cap e p L:=h.move (k.block _ h.bl) (k.block _ (Nat.lt_trans h.lt h.bl))
theorem Rm.fail {w:World} {b:Nat} {ad:Addr} {cap:Nat} {e p e' p':Int} {L:List Tok} (h:Rm w b ad cap e p L):Rm ((w.setCell ⟨b,1,none⟩ (.int .i64 e')).setCell ⟨b,2,none⟩ (.int .i64 p')) b ad cap e' p' L:=by
 have hb:∀ k,(ad.add (k * 4)).block≠b:=fun k=>by rw[zaH];have:=h.lt;omega
 refine⟨?_,?_,?_,?_,?_,?_,h.le,h.lt,fun k hk=>zcH (h.tc k hk) ?_,h.wq⟩
 ·rw[zbH _ _ _ _ (by simp),zbH _ _ _ _ (by simp)];exact h.c0
 ·rw[zbH _ _ _ _ (by simp)];exact zdJ _ h.c1
 ·refine zdJ _ (u:= .int .i64 p) ?_;rw[zbH _ _ _ _ (by simp)];exact h.c2
 ·rw[World.frozen?_setCell,World.frozen?_setCell];exact h.f0
 ·rw[World.frozen?_setCell,World.frozen?_setCell];exact h.f1
 ·rw[World.frozen?_setCell,World.frozen?_setCell];exact h.f2
 ·rw[Below.heap_setCell _ _ _ _ (hb k),Below.heap_setCell _ _ _ _ (hb k)]
theorem Rm.next {w:World} {b:Nat} {ad:Addr} {cap:Nat} {e p:Int} {t:Tok} {r:List Tok} (h:Rm w b ad cap e p (t :: r)) (hk:t.k≠0∨t.s≠ []):Rm (w.setCell ⟨b,0,none⟩ (.slice (some ⟨ad.block,ad.off+4,none⟩) r.length (cap - 1))) b ⟨ad.block,ad.off+4,none⟩ (cap - 1) e p r∧1<cap∧r≠ []:=by
 have hw:=h.wq.cons hk;have hl:0<r.length:=List.length_pos_iff.2 hw.2;have hc:=h.le;simp only[List.length_cons]at hc;refine⟨⟨?_,?_,?_,?_,?_,?_,by omega,h.lt,fun k hk2=>?_,hw.1⟩,by omega,hw.2⟩
 ·exact zdJ _ h.c0
 ·rw[zbH _ _ _ _ (by simp)];exact h.c1
 ·rw[zbH _ _ _ _ (by simp)];exact h.c2
 ·rw[World.frozen?_setCell];exact h.f0
 ·rw[World.frozen?_setCell];exact h.f1
 ·rw[World.frozen?_setCell];exact h.f2
 ·have:=h.tc (k+1) (by simp;omega);have e1:ad.add ((k+1) * 4)=(⟨ad.block,ad.off+4,none⟩:Addr).add (k * 4):=by
   rw[zaO];unfold Addr.add
   rw[if_neg (by omega)];simp only[Addr.mk.injEq,true_and,and_true];omega
  rw[e1]at this;have e2:(t :: r).getD (k+1) t0=r.getD k t0:=by simp
  rw[e2]at this;exact zcH this (by rw[zaH];exact Below.heap_setCell _ _ _ _ (by have:=h.lt;simp only;omega))
def Sr (w:World) (b:Nat) (Y:Except Er (List Tok)):Prop:=∃ ad cap e p L,Rm w b ad cap e p L∧match Y with
 | .ok r=>L=r∧e=0
 | .error x=>e=x.1∧p=x.2∧x.1≠0
theorem Sr.keep {w w':World} {b:Nat} {Y:Except Er (List Tok)} (h:Sr w b Y) (k:Keep w w'):Sr w' b Y:=by
 obtain⟨ad,cap,e,p,L,h1,h2⟩:=h;exact⟨ad,cap,e,p,L,h1.keep k,h2⟩
theorem Sr.bl {w:World} {b:Nat} {Y:Except Er (List Tok)} (h:Sr w b Y):b<w.heap.size:=by
 obtain⟨ad,cap,e,p,L,h1,h2⟩:=h;exact h1.bl
theorem Sr.far {w w':World} {b:Nat} {Y:Except Er (List Tok)} (h:Sr w b Y) (k:∀ i,i≤b→w'.heap[i]? =w.heap[i]?):Sr w' b Y:=by
 obtain⟨ad,cap,e,p,L,h1,h2⟩:=h;exact⟨ad,cap,e,p,L,h1.move (k b (Nat.le_refl _)) (k _ (Nat.le_of_lt h1.lt)),h2⟩
theorem Sr.set {w:World} {b:Nat} {Y:Except Er (List Tok)} (h:Sr w b Y) (a:Addr) (v:Value) (hb:b<a.block):Sr (w.setCell a v) b Y:=h.far (fun i hi=>Below.heap_setCell _ _ _ _ (by omega))
theorem Sr.alive {w:World} {b:Nat} {r:List Tok} (h:Sr w b (.ok r)):∃ ad cap p t r',r=t :: r'∧Rm w b ad cap 0 p (t :: r'):=by
 obtain⟨ad,cap,e,p,L,h1,rfl,rfl⟩:=h;obtain⟨t,r',rfl⟩:=h1.wq.ne;exact⟨ad,cap,p,t,r',rfl,h1⟩
theorem Sr.dead {w:World} {b:Nat} {x:Er} (h:Sr w b (.error x)):∃ ad cap t r',Rm w b ad cap x.1 x.2 (t :: r')∧x.1≠0:=by
 obtain⟨ad,cap,e,p,L,h1,rfl,rfl,h2⟩:=h;obtain⟨t,r',rfl⟩:=h1.wq.ne;exact⟨ad,cap,t,r',h1,h2⟩
theorem Sr.ne {w:World} {b:Nat} {Y:Except Er (List Tok)} (h:Sr w b Y):Y≠ .ok []:=by
 rintro rfl;obtain⟨_,_,_,t,r',e,_⟩:=h.alive;cases e
theorem Sr.front {w:World} {b:Nat} {Y:Except Er (List Tok)} (h:Sr w b Y):∃ ad cap e p t r',Rm w b ad cap e p (t :: r')∧(∀ r,Y= .ok r→r=t :: r'):=by
 cases Y with
 |error x=>obtain⟨ad,cap,t,r',h1,_⟩:=h.dead;exact⟨ad,cap,_,_,t,r',h1,fun r e=>by cases e⟩
 |ok r=>obtain⟨ad,cap,p,t,r',e,h1⟩:=h.alive;exact⟨ad,cap,0,p,t,r',h1,fun r2 e2=>by cases e2;exact e⟩
theorem zjN {w:World} {b:Nat} {ad:Addr} {cap:Nat} {p:Int} {L:List Tok} (h:Rm w b ad cap 0 p L):Sr w b (.ok L):=⟨ad,cap,0,p,L,h,rfl,rfl⟩
theorem zjO {w:World} {b:Nat} {ad:Addr} {cap:Nat} {x:Er} {L:List Tok} (h:Rm w b ad cap x.1 x.2 L) (hx:x.1≠0):Sr w b (.error x):=⟨ad,cap,_,_,L,h,rfl,rfl,hx⟩
def rem (w:World) (b:Nat):Nat:=match w.cell? ⟨b,1,none⟩,w.cell? ⟨b,0,none⟩with
 |some (.int .i64 0),some (.slice _ n _)=>n
 | _,_=>0
theorem zci {w:World} {b:Nat} {r:List Tok} (h:Sr w b (.ok r)):rem w b=r.length:=by
 obtain⟨ad,cap,p,t,r',rfl,h1⟩:=h.alive;simp[rem,h1.c0,h1.c1]
theorem zeB {w:World} {b:Nat} {x:Er} (h:Sr w b (.error x)):rem w b=0:=by
 obtain⟨ad,cap,t,r',h1,h2⟩:=h.dead;simp only[rem,h1.c0,h1.c1];split
 ·rename_i e1 _
  simp at e1;exact absurd e1 h2
 ·rfl
def Did (p:Sp) (ds:List D) (b:Nat) (X:Rs) (w w':World):Prop:=Fr (fun i=>i=b) w w'∧Sr w' b (zae (bnd X p))∧Got X (bnd X p) ds
theorem zbT {w:World} {b:Nat} {X:Rs} {ad:Addr} {cap:Nat} {e p:Int} {t:Tok} {r':List Tok} (h:Sr w b (zae X)) (h1:Rm w b ad cap e p (t :: r')) (h2:∀ r,zae X= .ok r→r=t :: r'):Sr w b (zae (bnd X zb4))∧Got X (bnd X zb4) [dI t.p]:=by
 rcases X with x|⟨c,r⟩
 ·exact⟨h,fun c r e=>by cases e⟩
 ·have:=h2 r rfl;subst this;exact⟨h,fun c2 r2 e2=>by simp only[bnd,zb4,Except.ok.injEq,Prod.mk.injEq]at e2;exact⟨c,_,rfl,e2.1.symm⟩⟩
def Bxs (w:World) (nb:Nat) (us:List Value):Prop:=∀ i u,us[i]? =some u→w.cell? ⟨nb,i,none⟩=some u∧w.frozen? ⟨nb,i,none⟩=false
theorem Bxs.move {w w':World} {nb:Nat} {us:List Value} (h:Bxs w nb us) (hb:w'.heap[nb]? =w.heap[nb]?):Bxs w' nb us:=fun i u hu=>⟨(zbn (a:=⟨nb,i,none⟩) hb).trans (h i u hu).1,(World.frozen?_of_block (a:=⟨nb,i,none⟩) hb).trans (h i u hu).2⟩
theorem Bxs.lt {w:World} {nb:Nat} {u:Value} {us:List Value} (h:Bxs w nb (u :: us)):nb<w.heap.size:=zch (h 0 u rfl).1
theorem Bxs.fr {S:Nat→Prop} {w w':World} {nb:Nat} {u:Value} {us:List Value} (h:Bxs w nb (u :: us)) (k:Fr S w w') (hn:¬S nb):Bxs w' nb (u :: us):=h.move (k.block nb h.lt hn)
theorem Bxs.keep {w w':World} {nb:Nat} {u:Value} {us:List Value} (h:Bxs w nb (u :: us)) (k:Keep w w'):Bxs w' nb (u :: us):=h.move (k.block nb h.lt)
theorem Bxs.far {w:World} {nb:Nat} {us:List Value} (h:Bxs w nb us) (a:Addr) (v:Value) (hn:a.block≠nb):Bxs (w.setCell a v) nb us:=h.move (Below.heap_setCell _ _ _ _ (fun e=>hn e.symm))
theorem Bxs.set {w:World} {nb:Nat} {us:List Value} (h:Bxs w nb us) (j:Nat) (v:Value):Bxs (w.setCell ⟨nb,j,none⟩ v) nb (us.set j v):=by
 intro i u hu
 by_cases e:i=j
 ·subst e;rw[List.getElem?_set]at hu;simp only[if_true]at hu;split at hu
  ·rename_i hl
   simp only[Option.some.injEq]at hu;subst hu;obtain⟨h1,h2⟩:=h i us[i] (List.getElem?_eq_getElem hl);exact⟨zdJ _ h1,by rw[World.frozen?_setCell];exact h2⟩
  ·cases hu
 ·rw[List.getElem?_set_ne (fun x=>e x.symm)]at hu;obtain⟨h1,h2⟩:=h i u hu;exact⟨by rw[zbH _ _ _ _ (fun x=>e (by injection x with _ x _;exact x.symm))];exact h1,by rw[World.frozen?_setCell];exact h2⟩
theorem bxs_new (w:World) (us:List Value) (t:TypeId):Bxs (w.alloc (.cells us.toArray t)) w.heap.size us:=by
 intro i u hu
 have:=heap_alloc_new w (.cells us.toArray t);refine⟨?_,?_⟩
 ·simp only[World.cell?];rw[this];simpa using hu
 ·simp only[World.frozen?];rw[this];simp
structure RO (S:Nat→Prop) (w:World) (e z:Nat) (wr:World) (L:List (List D)) (v:Value):Prop where
 fr:Fr S w wr
 row:Rd wr (.row e z L) (fun b=>w.heap.size≤b) v
theorem RO.start (S:Nat→Prop) (w:World) (e z:Nat):RO S w e z w [] (.slice none 0 0):=⟨.refl _ _,zga _ _ _ _⟩
theorem RO.move {S S':Nat→Prop} {w:World} {e z:Nat} {wr w':World} {L:List (List D)} {v:Value} (h:RO S w e z wr L v) (k:Fr S' wr w') (hs:∀ i,S' i→S i∧i<w.heap.size):RO S w e z w' L v:=
 ⟨h.fr.inner k (fun i _ x=>(hs i x).1),Rd.move _ _ _ v h.row (fun b hb hl=>⟨k.block b hl (fun x=>by have:=(hs b x).2;omega),hb⟩)⟩
theorem RO.keep {S:Nat→Prop} {w:World} {e z:Nat} {wr w':World} {L:List (List D)} {v:Value} (h:RO S w e z wr L v) (k:Keep wr w'):RO S w e z w' L v:=h.move (S':=fun _=>False) (.keep k) (fun i x=>x.elim)
theorem RO.set {S:Nat→Prop} {w:World} {e z:Nat} {wr:World} {L:List (List D)} {v:Value} (h:RO S w e z wr L v) (a:Addr) (u:Value) (hu:u.oneCell'=true) (ha:S a.block) (hl:a.block<w.heap.size):RO S w e z (wr.setCell a u) L v:=
 h.move (S':=fun i=>i=a.block) ((Fr.refl _ wr).set a u rfl hu) (fun i x=>x▸⟨ha,hl⟩)
theorem RO.shape {S:Nat→Prop} {w:World} {e z:Nat} {wr:World} {L:List (List D)} {v:Value} (h:RO S w e z wr L v):∃ xs,wr.ownsRow 0 e z v L.length xs∧∀ g,v.ownBlock=some g→w.heap.size≤g∧g<wr.heap.size:=by
 have:=h.row;simp only[Rd]at this;obtain⟨xs,h1,h2,_⟩:=this;exact⟨xs,h1,fun g hg=>⟨h2 g hg,(h1.lt g hg).2⟩⟩
theorem RO.app {S:Nat→Prop} {w:World} {e z:Nat} {wr wa w3:World} {L:List (List D)} {ds:List D} {v v':Value} {B:Nat} {xs vs:List Value} (h:RO S w e z wr L v) (hka:Keep wr wa) (hS:∀ b,S b→b<w.heap.size)
  (hv:∀ g,v.ownBlock=some g→g<B) (hB:w.heap.size≤B) (hd:Rds wr ds (fun b=>B≤b) vs) (hz:ds.length=z)
  (hxs:wr.ownsRow 0 e z v L.length xs) (hown:w3.ownsRow 0 e z v' (L.length+1) (xs++vs)) (hg:wa.grownBy w3 v.ownBlock) (hat:v'.ownBlock=v.ownBlock∨v'.ownBlock=some wa.heap.size):
  RO S w e z w3 (L++ [ds]) v'∧∀ b,b<w.heap.size→w3.heap[b]? =wr.heap[b]? :=by
 have P0:∀ g,v.ownBlock=some g→w.heap.size≤g:=by
  have:=h.row;simp only[Rd]at this;obtain⟨_,_,k,_⟩:=this;exact k
 have R1:Rdss wr L (fun b=>w.heap.size≤b∧v.ownBlock≠some b) z xs:=by
  have:=h.row;simp only[Rd]at this;obtain⟨ys,k1,_,k3⟩:=this;have:ys=xs:=by
   rcases k1.2 with ⟨rfl,h0⟩|⟨g,cap,cur,rfl,_,hg1,_,_,_,h5⟩
   ·have a:=k1.1;have b:=hxs.1;rw[h0]at a b;simp at a b;rw[a,b]
   ·rcases hxs.2 with ⟨h1,_⟩|⟨g',cap',cur',h1,_,hg2,_,_,_,h6⟩
    ·cases h1
    ·injection h1 with h1 _ _
     injection h1 with h1
     injection h1 with h1
     subst h1;rw[hg1]at hg2;injection hg2 with hg2
     injection hg2 with hg2
     subst hg2;rw[← h5,← h6]
  subst this;exact k3
 have hsz:=h.fr.size;have gsz:=hg.size;have asz:=hka.size;have same:∀ b,b<wr.heap.size→v.ownBlock≠some b→w3.heap[b]? =wr.heap[b]? :=fun b hb hne=>by
  rw[hg.block b (by omega) (fun e=>hne e.symm)];exact hka.block b hb
 have low:∀ b,b<w.heap.size→w3.heap[b]? =wr.heap[b]? :=fun b hb=>same b (by omega) (fun e=>by have:=P0 b e;omega)
 have pv:∀ g,v'.ownBlock=some g→w.heap.size≤g:=fun g hg'=>by
  rcases hat with e1|e1
  ·exact P0 g (e1▸hg')
  ·rw[e1]at hg';injection hg' with hg'
   omega
 have nv:∀ b,b<wr.heap.size→v.ownBlock≠some b→v'.ownBlock≠some b:=fun b hb hne e1=>by
  rcases hat with e2|e2
  ·exact hne (e2▸e1)
  ·rw[e2]at e1;injection e1 with e1
   omega
 refine⟨⟨⟨hg.os.trans (hka.os.trans h.fr.os),hg.tape.trans (hka.tape.trans h.fr.tape),hg.output.trans (hka.output.trans h.fr.output),by omega,fun b hb hn=>?_,fun b hb=>?_,fun b hb h1=>?_⟩,?_⟩,low⟩
 ·rw[low b hb];exact h.fr.block b hb hn
 ·exact(zeA (low b hb)).trans (h.fr.shape b hb)
 ·exact zde (low b hb) (h.fr.ones b hb h1)
 ·simp only[Rd];have own4:w3.ownsRow 0 e z v' (L++ [ds]).length (xs++vs):=by rw[List.length_append];exact hown
  refine⟨xs++vs,own4,pv,zc0 L ds _ z xs vs (Rdss.move L _ _ z xs R1 (fun b hb hl=>⟨same b hl hb.2,hb.1,nv b hl hb.2⟩)) (Rds.move ds _ _ vs hd (fun b hb hl=>?_)) ((zcx _ _ _ hd).trans hz)⟩;have q1:v.ownBlock≠some b:=fun e=>by have:=hv b e;omega
  exact⟨same b hl q1,by omega,nv b hl q1⟩
end Q
end Go.Proofs.Ythbfohohelflnaa
