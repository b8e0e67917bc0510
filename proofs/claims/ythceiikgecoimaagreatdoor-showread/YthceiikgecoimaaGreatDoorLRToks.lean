/- The document's reader in memory; rows that grow; boxes. -/
import Derived.Test.YthceiikgecoimaaGreatDoorLReadA
import Derived.Test.YthceiikgecoimaaGreatDoorNVal
import Derived.LoopTactic
import Derived.Deep.DeepCutAuto
import Derived.Maps.AppendAt
import Derived.Test.YthceiikgecoimaaGreatDoorLFact
import Derived.Test.YthceiikgecoimaaGreatDoorNCut
import Derived.WalkKit
import Derived.ProofKit
import Derived.OpenShut
import Derived.ShutString
import Derived.ChangeOld
import Derived.Below
import Derived.Lib.SmallJoins
import Derived.JoinedOf
import Derived.Stop.Joined
namespace Go.Proofs.YthceiikgecoimaaGreatDoor
open Go.RowKit
set_option linter.unusedVariables false
set_option linter.unusedSimpArgs false
set_option maxRecDepth 10000
namespace Q
def Wf (l:List Tok):Prop:=l.length<=70000/\(∃ m t,l=m++ [t]/\t.k=0/\t.s= [])/\∀ t∈l,0<=t.n/\t.n<=999999999999999999
theorem zat {w:World} {a:Addr} {v:Value} (h:w.cell? a=some v):a.block<w.heap.size:=World.block_lt_of_cell? w a h
theorem kcell {w w':World} (k:Keep w w') {a:Addr} {v:Value} (h:w.cell? a=some v):w'.cell? a=some v:=by rw[Below.cell k (zat h)];exact h
theorem zoh {w w':World} (k:Keep w w') {a:Addr} {v:Value} (h:w.cell? a=some v) (f:w.frozen? a=false):w'.frozen? a=false:=by rw[Below.frozen k (zat h)];exact f
theorem zb9 (w:World) (p a:Addr) (v:Value) (h:p≠a):(w.setCell p v).cell? a=w.cell? a:=by apply World.cell?_setCell_other;exact h
theorem zdn {w:World} {a:Addr} {u:Value} (v:Value) (h:w.cell? a=some u):(w.setCell a v).cell? a=some v:=by apply World.cell?_setCell_same;exact h
theorem zac (w:World) (p a:Addr) (v:Value) (h:p.block≠a.block):(w.setCell p v).cell? a=w.cell? a:=World.cell?_of_block (Below.heap_setCell _ _ _ _ (λe=>h e.symm))
theorem zal {w w':World} {a:Addr} (h:w'.heap[a.block]? =w.heap[a.block]?):w'.cell? a=w.cell? a:=World.cell?_of_block h
theorem zaM (w:World) (o o':Obj):Keep w ((w.alloc o).alloc o'):=((zk w).alloc o).alloc o'
theorem zi0 {w:World} {base e z n:Nat} {v:Value} {xs:List Value} (h:w.ownsRow base e z v n xs):v.oneCell'=true:=by
 rcases h.2 with ⟨rfl,_⟩|⟨g,cap,cur,rfl,_⟩<;>rfl
section
variable {P : Program} {w : World}
theorem zaC {o:Oper} {a:Act} {K:Act->World->Prop} {Q:Exit->Act->World->Prop} (s x:Operand) (t:TypeId)
  (ho:o.op= .call { callee:= .builtin .append,args:=#[s,x],argTypes:=#[t,t] })
  (base:Nat) (e:TypeId) (i:TypeInfo) (z:Value) (size bytes:Nat) (ht:P.underlying t=some (.slice e)) (hi:P.info? e=some i) (hz:i.zero=some z)
  (hsize:i.size=size) (hby:i.bytes=bytes) (hzs:z.cells.size=size) (hsz:0<size)
  (v:Value) (n:Nat) (xs:List Value) (hs:a.eval s=v) (hown:w.ownsRow base e size v n xs)
  (ad:Addr) (m c:Nat) (news:List Value) (hx:a.eval x= .slice (some ad) m c) (hl:news.length=m * size) (hnews:∀ j u,news[j]? =some u->w.cell? (ad.add j)=some u) (h1:∀ u∈news,u.oneCell'=true)
  (h63:n+m<=maxLen) (hbytes:(n+m) * bytes<=140737488355328) (hbase:base<=w.heap.size)
  (h:∀ v' w',w'.ownsRow base e size v' (n+m) (xs++news)->w.grownBy w' v.ownBlock->(v'.ownBlock=v.ownBlock\/v'.ownBlock=some w.heap.size)->K (a.put o.dst v') w'):o.wp P a w K Q:=by
 obtain⟨v',w',hr,h2,h3,h4,h5⟩:=run_append_own_at (P:=P) w base t o.type e i z size bytes ht hi hz hsize hby hzs hsz v n xs hown ad m c news hl hnews h1 h63 hbytes hbase;unfold Oper.wp execOp
 simp only[ho,resolve,invoke,builtin,Sem.run_bind,Sem.run_pure,Result.andThen_ok,List.map_toArray,List.map_cons,List.map_nil,hs,hx,hr];exact h v' w' h2 h3 h5
end
def Wq (L:List Tok):Prop:=Wf L/\∀ t∈L,Kf t
theorem Wq.cons {t:Tok} {r:List Tok} (h:Wq (t :: r)) (hk:t.k≠0\/t.s≠ []):Wq r/\r≠ []:=by
 obtain⟨⟨h1,⟨m,u,e,u1,u2⟩,h3⟩,h4⟩:=h;cases m with
 |nil=>
  simp only[List.nil_append,List.cons.injEq]at e;obtain⟨rfl,_⟩:=e;rcases hk with hk|hk
  ·exact absurd u1 hk
  ·exact absurd u2 hk
 |cons x m=>
  simp only[List.cons_append,List.cons.injEq]at e;obtain⟨rfl,rfl⟩:=e;refine⟨⟨⟨by simp at h1 |-;omega,⟨m,u,rfl,u1,u2⟩,λt ht=>h3 t (List.mem_cons_of_mem _ ht)⟩,λt ht=>h4 t (List.mem_cons_of_mem _ ht)⟩,by simp⟩
theorem Wq.ne {L:List Tok} (h:Wq L):∃ t r,L=t :: r:=by
 obtain⟨⟨_,⟨m,u,rfl,_⟩,_⟩,_⟩:=h;cases m with
 |nil=>exact⟨u,[],rfl⟩
 |cons x m=>exact⟨x,m++ [u],rfl⟩
structure Rm (w:World) (b:Nat) (ad:Addr) (cap:Nat) (e p:Int) (L:List Tok):Prop where
 c0:w.cell? ⟨b,0,none⟩=some (.slice (some ad) L.length cap)
 c1:w.cell? ⟨b,1,none⟩=some (.int .i64 e)
 c2:w.cell? ⟨b,2,none⟩=some (.int .i64 p)
 f0:w.frozen? ⟨b,0,none⟩=false
 f1:w.frozen? ⟨b,1,none⟩=false
 f2:w.frozen? ⟨b,2,none⟩=false
 le:L.length<=cap
 lt:ad.block<b
 tc:∀ k,k<L.length->Tc w (ad.add (k * 4)) (L.getD k t0)
 wq:Wq L
theorem Rm.bl {w:World} {b:Nat} {ad:Addr} {cap:Nat} {e p:Int} {L:List Tok} (h:Rm w b ad cap e p L):b<w.heap.size:=zat h.c0
theorem zfv {w w':World} {ad:Addr} {t:Tok} (h:Tc w ad t) (hk:w'.heap[ad.block]? =w.heap[ad.block]?):Tc w' ad t:=by
 obtain⟨h0,h1,h2,h3⟩:=h;exact⟨(zal hk).trans h0,(zal (a:=⟨ad.block,ad.off+1,none⟩) hk).trans h1,(zal (a:=⟨ad.block,ad.off+2,none⟩) hk).trans h2,(zal (a:=⟨ad.block,ad.off+3,none⟩) hk).trans h3⟩
theorem Rm.move {w w':World} {b:Nat} {ad:Addr} {cap:Nat} {e p:Int} {L:List Tok} (h:Rm w b ad cap e p L) (hb:w'.heap[b]? =w.heap[b]?) (ht:w'.heap[ad.block]? =w.heap[ad.block]?):Rm w' b ad cap e p L:=
 ⟨(zal (a:=⟨b,0,none⟩) hb).trans h.c0,(zal (a:=⟨b,1,none⟩) hb).trans h.c1,(zal (a:=⟨b,2,none⟩) hb).trans h.c2,(World.frozen?_of_block (a:=⟨b,0,none⟩) hb).trans h.f0,(World.frozen?_of_block (a:=⟨b,1,none⟩) hb).trans h.f1,(World.frozen?_of_block (a:=⟨b,2,none⟩) hb).trans h.f2,h.le,h.lt,λk hk=>zfv (h.tc k hk) (by rw[zag];exact ht),h.wq⟩
theorem Rm.keep {w w':World} {b:Nat} {ad:Addr} {cap:Nat} {e p:Int} {L:List Tok} (h:Rm w b ad cap e p L) (k:Keep w w'):Rm w' b ad cap e p L:=h.move (k.block _ h.bl) (k.block _ (Nat.lt_trans h.lt h.bl))
theorem Rm.fail {w:World} {b:Nat} {ad:Addr} {cap:Nat} {e p e' p':Int} {L:List Tok} (h:Rm w b ad cap e p L):Rm ((w.setCell ⟨b,1,none⟩ (.int .i64 e')).setCell ⟨b,2,none⟩ (.int .i64 p')) b ad cap e' p' L:=by
 have hb:∀ k,(ad.add (k * 4)).block≠b:=λk=>by rw[zag];have:=h.lt;omega
 refine⟨?_,?_,?_,?_,?_,?_,h.le,h.lt,λk hk=>zfv (h.tc k hk) ?_,h.wq⟩
 ·rw[zb9 _ _ _ _ (by simp),zb9 _ _ _ _ (by simp)];exact h.c0
 ·rw[zb9 _ _ _ _ (by simp)];exact zdn _ h.c1
 ·refine zdn _ (u:= .int .i64 p) ?_;rw[zb9 _ _ _ _ (by simp)];exact h.c2
 ·rw[World.frozen?_setCell,World.frozen?_setCell];exact h.f0
 ·rw[World.frozen?_setCell,World.frozen?_setCell];exact h.f1
 ·rw[World.frozen?_setCell,World.frozen?_setCell];exact h.f2
 ·rw[Below.heap_setCell _ _ _ _ (hb k),Below.heap_setCell _ _ _ _ (hb k)]
theorem Rm.next {w:World} {b:Nat} {ad:Addr} {cap:Nat} {e p:Int} {t:Tok} {r:List Tok} (h:Rm w b ad cap e p (t :: r)) (hk:t.k≠0\/t.s≠ []):Rm (w.setCell ⟨b,0,none⟩ (.slice (some ⟨ad.block,ad.off+4,none⟩) r.length (cap - 1))) b ⟨ad.block,ad.off+4,none⟩ (cap - 1) e p r/\1<cap/\r≠ []:=by
 have hw:=h.wq.cons hk;have hl:0<r.length:=List.length_pos_iff.2 hw.2;have hc:=h.le;simp only[List.length_cons]at hc;refine⟨⟨?_,?_,?_,?_,?_,?_,by omega,h.lt,λk hk2=>?_,hw.1⟩,by omega,hw.2⟩
 ·exact zdn _ h.c0
 ·rw[zb9 _ _ _ _ (by simp)];exact h.c1
 ·rw[zb9 _ _ _ _ (by simp)];exact h.c2
 ·rw[World.frozen?_setCell];exact h.f0
 ·rw[World.frozen?_setCell];exact h.f1
 ·rw[World.frozen?_setCell];exact h.f2
 ·have:=h.tc (k+1) (by simp;omega);have e1:ad.add ((k+1) * 4)=(⟨ad.block,ad.off+4,none⟩:Addr).add (k * 4):=by
   rw[zbJ];unfold Addr.add
   rw[if_neg (by omega)];simp only[Addr.mk.injEq,true_and,and_true];omega
  rw[e1]at this;have e2:(t :: r).getD (k+1) t0=r.getD k t0:=by simp
  rw[e2]at this;exact zfv this (by rw[zag];exact Below.heap_setCell _ _ _ _ (by have:=h.lt;simp only;omega))
def Sr (w:World) (b:Nat) (Y:Except Er (List Tok)):Prop:=∃ ad cap e p L,Rm w b ad cap e p L/\match Y with
 | .ok r=>L=r/\e=0
 | .error x=>e=x.1/\p=x.2/\x.1≠0
theorem Sr.keep {w w':World} {b:Nat} {Y:Except Er (List Tok)} (h:Sr w b Y) (k:Keep w w'):Sr w' b Y:=by
 obtain⟨ad,cap,e,p,L,h1,h2⟩:=h;exact⟨ad,cap,e,p,L,h1.keep k,h2⟩
theorem Sr.bl {w:World} {b:Nat} {Y:Except Er (List Tok)} (h:Sr w b Y):b<w.heap.size:=by
 obtain⟨ad,cap,e,p,L,h1,h2⟩:=h;exact h1.bl
theorem Sr.far {w w':World} {b:Nat} {Y:Except Er (List Tok)} (h:Sr w b Y) (k:∀ i,i<=b->w'.heap[i]? =w.heap[i]?):Sr w' b Y:=by
 obtain⟨ad,cap,e,p,L,h1,h2⟩:=h;exact⟨ad,cap,e,p,L,h1.move (k b (Nat.le_refl _)) (k _ (Nat.le_of_lt h1.lt)),h2⟩
theorem Sr.set {w:World} {b:Nat} {Y:Except Er (List Tok)} (h:Sr w b Y) (a:Addr) (v:Value) (hb:b<a.block):Sr (w.setCell a v) b Y:=h.far (λi hi=>Below.heap_setCell _ _ _ _ (by omega))
theorem Sr.alive {w:World} {b:Nat} {r:List Tok} (h:Sr w b (.ok r)):∃ ad cap p t r',r=t :: r'/\Rm w b ad cap 0 p (t :: r'):=by
 obtain⟨ad,cap,e,p,L,h1,rfl,rfl⟩:=h;obtain⟨t,r',rfl⟩:=h1.wq.ne;exact⟨ad,cap,p,t,r',rfl,h1⟩
theorem Sr.dead {w:World} {b:Nat} {x:Er} (h:Sr w b (.error x)):∃ ad cap t r',Rm w b ad cap x.1 x.2 (t :: r')/\x.1≠0:=by
 obtain⟨ad,cap,e,p,L,h1,rfl,rfl,h2⟩:=h;obtain⟨t,r',rfl⟩:=h1.wq.ne;exact⟨ad,cap,t,r',h1,h2⟩
theorem Sr.ne {w:World} {b:Nat} {Y:Except Er (List Tok)} (h:Sr w b Y):Y≠ .ok []:=by
 rintro rfl;obtain⟨_,_,_,t,r',e,_⟩:=h.alive;cases e
theorem Sr.front {w:World} {b:Nat} {Y:Except Er (List Tok)} (h:Sr w b Y):∃ ad cap e p t r',Rm w b ad cap e p (t :: r')/\(∀ r,Y= .ok r->r=t :: r'):=by
 cases Y with
 |error x=>obtain⟨ad,cap,t,r',h1,_⟩:=h.dead;exact⟨ad,cap,_,_,t,r',h1,λr e=>by cases e⟩
 |ok r=>obtain⟨ad,cap,p,t,r',e,h1⟩:=h.alive;exact⟨ad,cap,0,p,t,r',h1,λr2 e2=>by cases e2;exact e⟩
theorem zqY {w:World} {b:Nat} {ad:Addr} {cap:Nat} {p:Int} {L:List Tok} (h:Rm w b ad cap 0 p L):Sr w b (.ok L):=⟨ad,cap,0,p,L,h,rfl,rfl⟩
theorem zqZ {w:World} {b:Nat} {ad:Addr} {cap:Nat} {x:Er} {L:List Tok} (h:Rm w b ad cap x.1 x.2 L) (hx:x.1≠0):Sr w b (.error x):=⟨ad,cap,_,_,L,h,rfl,rfl,hx⟩
def rem (w:World) (b:Nat):Nat:=match w.cell? ⟨b,1,none⟩,w.cell? ⟨b,0,none⟩with
 |some (.int .i64 0),some (.slice _ n _)=>n
 | _,_=>0
theorem ze9 {w:World} {b:Nat} {r:List Tok} (h:Sr w b (.ok r)):rem w b=r.length:=by
 obtain⟨ad,cap,p,t,r',rfl,h1⟩:=h.alive;simp[rem,h1.c0,h1.c1]
theorem zi1 {w:World} {b:Nat} {x:Er} (h:Sr w b (.error x)):rem w b=0:=by
 obtain⟨ad,cap,t,r',h1,h2⟩:=h.dead;simp only[rem,h1.c0,h1.c1];split
 ·rename_i e1 _
  simp at e1;exact absurd e1 h2
 ·rfl
def Did (p:Sp) (ds:List D) (b:Nat) (X:Rs) (w w':World):Prop:=Fr (λi=>i=b) w w'/\Sr w' b (zaz (bnd X p))/\Got X (bnd X p) ds
theorem zdW {w:World} {b:Nat} {X:Rs} {ad:Addr} {cap:Nat} {e p:Int} {t:Tok} {r':List Tok} (h:Sr w b (zaz X)) (h1:Rm w b ad cap e p (t :: r')) (h2:∀ r,zaz X= .ok r->r=t :: r'):Sr w b (zaz (bnd X zaN))/\Got X (bnd X zaN) [dI t.p]:=by
 rcases X with x|⟨c,r⟩
 ·exact⟨h,λc r e=>by cases e⟩
 ·have:=h2 r rfl;subst this;exact⟨h,λc2 r2 e2=>by simp only[bnd,zaN,Except.ok.injEq,Prod.mk.injEq]at e2;exact⟨c,_,rfl,e2.1.symm⟩⟩
def Bxs (w:World) (nb:Nat) (us:List Value):Prop:=∀ i u,us[i]? =some u->w.cell? ⟨nb,i,none⟩=some u/\w.frozen? ⟨nb,i,none⟩=false
theorem Bxs.move {w w':World} {nb:Nat} {us:List Value} (h:Bxs w nb us) (hb:w'.heap[nb]? =w.heap[nb]?):Bxs w' nb us:=λi u hu=>⟨(zal (a:=⟨nb,i,none⟩) hb).trans (h i u hu).1,(World.frozen?_of_block (a:=⟨nb,i,none⟩) hb).trans (h i u hu).2⟩
theorem Bxs.lt {w:World} {nb:Nat} {u:Value} {us:List Value} (h:Bxs w nb (u :: us)):nb<w.heap.size:=zat (h 0 u rfl).1
theorem Bxs.fr {S:Nat->Prop} {w w':World} {nb:Nat} {u:Value} {us:List Value} (h:Bxs w nb (u :: us)) (k:Fr S w w') (hn:¬S nb):Bxs w' nb (u :: us):=h.move (k.block nb h.lt hn)
theorem Bxs.keep {w w':World} {nb:Nat} {u:Value} {us:List Value} (h:Bxs w nb (u :: us)) (k:Keep w w'):Bxs w' nb (u :: us):=h.move (k.block nb h.lt)
theorem Bxs.far {w:World} {nb:Nat} {us:List Value} (h:Bxs w nb us) (a:Addr) (v:Value) (hn:a.block≠nb):Bxs (w.setCell a v) nb us:=h.move (Below.heap_setCell _ _ _ _ (λe=>hn e.symm))
theorem Bxs.set {w:World} {nb:Nat} {us:List Value} (h:Bxs w nb us) (j:Nat) (v:Value):Bxs (w.setCell ⟨nb,j,none⟩ v) nb (us.set j v):=by
 intro i u hu
 by_cases e:i=j
 ·subst e;rw[List.getElem?_set]at hu;simp only[if_true]at hu;split at hu
  ·rename_i hl
   simp only[Option.some.injEq]at hu;subst hu;obtain⟨h1,h2⟩:=h i us[i] (List.getElem?_eq_getElem hl);exact⟨zdn _ h1,by rw[World.frozen?_setCell];exact h2⟩
  ·cases hu
 ·rw[List.getElem?_set_ne (λx=>e x.symm)]at hu;obtain⟨h1,h2⟩:=h i u hu;exact⟨by rw[zb9 _ _ _ _ (λx=>e (by injection x with _ x _;exact x.symm))];exact h1,by rw[World.frozen?_setCell];exact h2⟩
theorem bxs_new (w:World) (us:List Value) (t:TypeId):Bxs (w.alloc (.cells us.toArray t)) w.heap.size us:=by
 intro i u hu
 have:=heap_alloc_new w (.cells us.toArray t);refine⟨?_,?_⟩
 ·simp only[World.cell?];rw[this];simpa using hu
 ·simp only[World.frozen?];rw[this];simp
structure RO (S:Nat->Prop) (w:World) (e z:Nat) (wr:World) (L:List (List D)) (v:Value):Prop where
 fr:Fr S w wr
 row:Rd wr (.row e z L) (λb=>w.heap.size<=b) v
theorem RO.start (S:Nat->Prop) (w:World) (e z:Nat):RO S w e z w [] (.slice none 0 0):=⟨.refl _ _,zhi _ _ _ _⟩
theorem RO.move {S S':Nat->Prop} {w:World} {e z:Nat} {wr w':World} {L:List (List D)} {v:Value} (h:RO S w e z wr L v) (k:Fr S' wr w') (hs:∀ i,S' i->S i/\i<w.heap.size):RO S w e z w' L v:=
 ⟨h.fr.inner k (λi _ x=>(hs i x).1),Rd.move _ _ _ v h.row (λb hb hl=>⟨k.block b hl (λx=>by have:=(hs b x).2;omega),hb⟩)⟩
theorem RO.keep {S:Nat->Prop} {w:World} {e z:Nat} {wr w':World} {L:List (List D)} {v:Value} (h:RO S w e z wr L v) (k:Keep wr w'):RO S w e z w' L v:=h.move (S':=λ_=>False) (.keep k) (λi x=>x.elim)
theorem RO.set {S:Nat->Prop} {w:World} {e z:Nat} {wr:World} {L:List (List D)} {v:Value} (h:RO S w e z wr L v) (a:Addr) (u:Value) (hu:u.oneCell'=true) (ha:S a.block) (hl:a.block<w.heap.size):RO S w e z (wr.setCell a u) L v:=
 h.move (S':=λi=>i=a.block) ((Fr.refl _ wr).set a u rfl hu) (λi x=>x▸⟨ha,hl⟩)
theorem RO.shape {S:Nat->Prop} {w:World} {e z:Nat} {wr:World} {L:List (List D)} {v:Value} (h:RO S w e z wr L v):∃ xs,wr.ownsRow 0 e z v L.length xs/\∀ g,v.ownBlock=some g->w.heap.size<=g/\g<wr.heap.size:=by
 have:=h.row;simp only[Rd]at this;obtain⟨xs,h1,h2,_⟩:=this;exact⟨xs,h1,λg hg=>⟨h2 g hg,(h1.lt g hg).2⟩⟩
theorem RO.app {S:Nat->Prop} {w:World} {e z:Nat} {wr wa w3:World} {L:List (List D)} {ds:List D} {v v':Value} {B:Nat} {xs vs:List Value} (h:RO S w e z wr L v) (hka:Keep wr wa) (hS:∀ b,S b->b<w.heap.size)
  (hv:∀ g,v.ownBlock=some g->g<B) (hB:w.heap.size<=B) (hd:Rds wr ds (λb=>B<=b) vs) (hz:ds.length=z)
  (hxs:wr.ownsRow 0 e z v L.length xs) (hown:w3.ownsRow 0 e z v' (L.length+1) (xs++vs)) (hg:wa.grownBy w3 v.ownBlock) (hat:v'.ownBlock=v.ownBlock\/v'.ownBlock=some wa.heap.size):
  RO S w e z w3 (L++ [ds]) v'/\∀ b,b<w.heap.size->w3.heap[b]? =wr.heap[b]? :=by
 have P0:∀ g,v.ownBlock=some g->w.heap.size<=g:=by
  have:=h.row;simp only[Rd]at this;obtain⟨_,_,k,_⟩:=this;exact k
 have R1:Rdss wr L (λb=>w.heap.size<=b/\v.ownBlock≠some b) z xs:=by
  have:=h.row;simp only[Rd]at this;obtain⟨ys,k1,_,k3⟩:=this;have:ys=xs:=by
   rcases k1.2 with ⟨rfl,h0⟩|⟨g,cap,cur,rfl,_,hg1,_,_,_,h5⟩
   ·have a:=k1.1;have b:=hxs.1;rw[h0]at a b;simp at a b;rw[a,b]
   ·rcases hxs.2 with ⟨h1,_⟩|⟨g',cap',cur',h1,_,hg2,_,_,_,h6⟩
    ·cases h1
    ·injection h1 with h1 _ _
     injection h1 with h1
     injection h1 with h1
     subst h1;rw[hg1]at hg2;injection hg2 with hg2
     injection hg2 with hg2
     subst hg2;rw[<- h5,<- h6]
  subst this;exact k3
 have hsz:=h.fr.size;have gsz:=hg.size;have asz:=hka.size;have same:∀ b,b<wr.heap.size->v.ownBlock≠some b->w3.heap[b]? =wr.heap[b]? :=λb hb hne=>by
  rw[hg.block b (by omega) (λe=>hne e.symm)];exact hka.block b hb
 have low:∀ b,b<w.heap.size->w3.heap[b]? =wr.heap[b]? :=λb hb=>same b (by omega) (λe=>by have:=P0 b e;omega)
 have pv:∀ g,v'.ownBlock=some g->w.heap.size<=g:=λg hg'=>by
  rcases hat with e1|e1
  ·exact P0 g (e1▸hg')
  ·rw[e1]at hg';injection hg' with hg'
   omega
 have nv:∀ b,b<wr.heap.size->v.ownBlock≠some b->v'.ownBlock≠some b:=λb hb hne e1=>by
  rcases hat with e2|e2
  ·exact hne (e2▸e1)
  ·rw[e2]at e1;injection e1 with e1
   omega
 refine⟨⟨⟨hg.os.trans (hka.os.trans h.fr.os),hg.tape.trans (hka.tape.trans h.fr.tape),hg.output.trans (hka.output.trans h.fr.output),by omega,λb hb hn=>?_,λb hb=>?_,λb hb h1=>?_⟩,?_⟩,low⟩
 ·rw[low b hb];exact h.fr.block b hb hn
 ·exact(zhj (low b hb)).trans (h.fr.shape b hb)
 ·exact zfu (low b hb) (h.fr.ones b hb h1)
 ·simp only[Rd];have own4:w3.ownsRow 0 e z v' (L++ [ds]).length (xs++vs):=by rw[List.length_append];exact hown
  refine⟨xs++vs,own4,pv,zeG L ds _ z xs vs (Rdss.move L _ _ z xs R1 (λb hb hl=>⟨same b hl hb.2,hb.1,nv b hl hb.2⟩)) (Rds.move ds _ _ vs hd (λb hb hl=>?_)) ((zba _ _ _ hd).trans hz)⟩;have q1:v.ownBlock≠some b:=λe=>by have:=hv b e;omega
  exact⟨same b hl q1,by omega,nv b hl q1⟩
end Q
end Go.Proofs.YthceiikgecoimaaGreatDoor
namespace Go.Proofs.YthceiikgecoimaaGreatDoor
open Go.RowKit
set_option linter.unusedVariables false
set_option linter.unusedSimpArgs false
def ati (ad:Addr) (j:Nat):Addr:=if j=0 then ad else⟨ad.block,ad.off+j,none⟩
theorem zi2 (b o j:Nat):ati ⟨b,o,none⟩ j=⟨b,o+j,none⟩:=by
 unfold ati
 split
 ·rename_i h;subst h;rfl
 ·rfl
mutual
def Rv (w:World):D->Value->Prop
 | .val v,u=>u=v
 | .row e z L,u=>∃ a cap,u= .slice a L.length cap/\L.length<=cap/\Rvss w a z L 0
def Rvs (w:World):List D->List Value->Prop
 | [],us=>us= []
 |d :: ds,us=>∃ u vs,us=u :: vs/\Rv w d u/\Rvs w ds vs
def Rvss (w:World) (a:Option Addr) (z:Nat):List (List D)->Nat->Prop
 | [],k=>True
 |ds :: L,k=>(∃ ad us,a=some ad/\ad.block<w.heap.size/\Rvs w ds us/\us.length=z/\∀ j u,us[j]? =some u->w.cell? (ati (ad.add (k * z)) j)=some u)/\Rvss w a z L (k+1)
end
mutual
theorem Rv.keep {w w':World} (h:Keep w w'):∀(d:D) (u:Value),Rv w d u->Rv w' d u
 | .val v,u,h1=>h1
 | .row e z L,u,h1=>by
  simp only[Rv]at h1 |-;obtain⟨a,cap,h0,hc,h2⟩:=h1;exact⟨a,cap,h0,hc,Rvss.keep h a z L 0 h2⟩
theorem Rvs.keep {w w':World} (h:Keep w w'):∀(ds:List D) (us:List Value),Rvs w ds us->Rvs w' ds us
 | [],us,h1=>h1
 |d :: ds,us,h1=>by
  simp only[Rvs]at h1 |-;obtain⟨u,vs,h0,h2,h3⟩:=h1;exact⟨u,vs,h0,Rv.keep h d u h2,Rvs.keep h ds vs h3⟩
theorem Rvss.keep {w w':World} (h:Keep w w') (a:Option Addr) (z:Nat):∀(L:List (List D)) (k:Nat),Rvss w a z L k->Rvss w' a z L k
 | [],k,h1=>trivial
 |ds :: L,k,h1=>by
  simp only[Rvss]at h1 |-;obtain⟨⟨ad,us,h0,hb,h2,h3,h4⟩,h5⟩:=h1;exact⟨⟨ad,us,h0,Nat.lt_of_lt_of_le hb h.size,Rvs.keep h ds us h2,h3,λj u hu=>Q.kcell h (h4 j u hu)⟩,Rvss.keep h a z L (k+1) h5⟩
end
theorem za0 {w:World} {a:Option Addr} {z:Nat} :∀(L:List (List D)) (k:Nat),Rvss w a z L k->∀ i,i<L.length->∃ ad us,a=some ad/\ad.block<w.heap.size/\Rvs w (L.getD i []) us/\us.length=z/\∀ j u,us[j]? =some u->w.cell? (ati (ad.add ((k+i) * z)) j)=some u
 | [],k,h,i,hi=>by simp at hi
 |ds :: L,k,h,i,hi=>by
  simp only[Rvss]at h;cases i with
  |zero=>obtain⟨⟨ad,us,h0,hb,h2,h3,h4⟩,_⟩:=h;exact⟨ad,us,h0,hb,by simpa using h2,h3,by simpa using h4⟩
  |succ i=>
   obtain⟨ad,us,h0,hb,h2,h3,h4⟩:=za0 L (k+1) h.2 i (by simpa using hi);refine⟨ad,us,h0,hb,by simpa using h2,h3,λj u hu=>?_⟩;rw[show k+(i+1)=k+1+i by omega];exact h4 j u hu
mutual
theorem Rd.rv {w:World} :∀(d:D) (P:Nat->Prop) (u:Value),Rd w d P u->Rv w d u
 | .val v,P,u,h=>by simp only[Rd]at h;simp only[Rv];exact h.1
 | .row e z L,P,u,h=>by
  simp only[Rd]at h;simp only[Rv];obtain⟨xs,h1,h2,h3⟩:=h;rcases h1.2 with ⟨rfl,h0⟩|⟨g,cap,cur,rfl,hb,hg,hc,hm,hs,ht⟩
  ·have:L= []:=List.eq_nil_of_length_eq_zero h0;subst this;exact⟨none,0,rfl,Nat.le_refl _,trivial⟩
  ·refine⟨some ⟨g,0,none⟩,cap,rfl,hc,Rdss.rv L _ z xs g 0 (Array.getElem?_eq_some_iff.1 hg).1 h3 (λj u hu=>?_)⟩;rw[<- ht]at hu;have hlt:j<xs.length:=by rw[<- ht];exact(List.getElem?_eq_some_iff.1 hu).1
   simp only[World.cell?,hg];rw[Nat.zero_mul,Nat.zero_add];have:(cur.toList.take (L.length * z))[j]? =some u:=hu;rw[List.getElem?_take]at this;split at this
   ·simpa using this
   ·cases this
theorem Rds.rv {w:World} :∀(ds:List D) (P:Nat->Prop) (us:List Value),Rds w ds P us->Rvs w ds us
 | [],P,us,h=>by simp only[Rds]at h;simp only[Rvs];exact h
 |d :: ds,P,us,h=>by
  simp only[Rds]at h;simp only[Rvs];obtain⟨v,vs,h0,h1,h2⟩:=h;exact⟨v,vs,h0,Rd.rv d P v h1,Rds.rv ds P vs h2⟩
theorem Rdss.rv {w:World} :∀(L:List (List D)) (P:Nat->Prop) (z:Nat) (xs:List Value) (g k:Nat),g<w.heap.size->Rdss w L P z xs->(∀ j u,xs[j]? =some u->w.cell? ⟨g,k * z+j,none⟩=some u)->Rvss w (some ⟨g,0,none⟩) z L k
 | [],P,z,xs,g,k,hg,h,hx=>trivial
 |ds :: L,P,z,xs,g,k,hg,h,hx=>by
  simp only[Rdss]at h;simp only[Rvss];obtain⟨ys,zs,rfl,h1,h2,h3⟩:=h;refine⟨⟨⟨g,0,none⟩,ys,rfl,hg,Rds.rv ds P ys h2,h1,λj u hu=>?_⟩,Rdss.rv L P z zs g (k+1) hg h3 (λj u hu=>?_)⟩
  ·rw[zbJ,zi2,Nat.zero_add];exact hx j u (by rw[List.getElem?_append_left (List.getElem?_eq_some_iff.1 hu).1];exact hu)
  ·have:=hx (z+j) u (by rw[List.getElem?_append_right (by omega),h1,Nat.add_sub_cancel_left];exact hu);rw[show(k+1) * z+j=k * z+(z+j) by rw[Nat.add_mul];omega];exact this
end
def slA (w:World) (ad:Addr):Option Addr:=match w.cell? ad with|some (.slice a _ _)=>a| _=>none
def slN (w:World) (ad:Addr):Nat:=match w.cell? ad with|some (.slice _ n _)=>n| _=>0
def slC (w:World) (ad:Addr):Nat:=match w.cell? ad with|some (.slice _ _ c)=>c| _=>0
def fS:D->ByteArray
 | .val (.string s)=>s
 | _=>⟨#[]⟩
def fI:D->Int
 | .val (.int .i64 n)=>n
 | _=>0
def fB:D->Bool
 | .val (.bool b)=>b
 | _=>false
def fL:D->List (List D)
 | .row _ _ L=>L
 | _=> []
theorem zfw {α:Type} (d:α) {L M:List α} :L=M↔L.length=M.length/\∀ k,k<L.length->L.getD k d=M.getD k d:=by
 constructor
 ·rintro rfl;exact⟨rfl,λ_ _=>rfl⟩
 ·rintro⟨h,hk⟩;apply List.ext_getElem h;intro i h1 h2
  have:=hk i h1;rwa[List.getD_eq_getElem?_getD,List.getD_eq_getElem?_getD,List.getElem?_eq_getElem h1,List.getElem?_eq_getElem h2,Option.getD_some,Option.getD_some]at this
theorem zeH {α β:Type} (q:α->β) (d:α) {L M:List α} :L.map q=M.map q↔L.length=M.length/\∀ k,k<L.length->q (L.getD k d)=q (M.getD k d):=by
 rw[zfw (q d)];simp only[List.length_map];refine and_congr_right λh=>forall_congr' λk=>?_
 have e:∀ X:List α,(X.map q).getD k (q d)=q (X.getD k d):=λX=>by
  rw[List.getD_eq_getElem?_getD,List.getElem?_map,List.getD_eq_getElem?_getD];cases X[k]? <;>rfl
 rw[e,e]
theorem zee {a b:List UInt8} :(sv a).toList=(sv b).toList↔a=b:=by
 rw[show(sv a).toList=a from ByteArray.toList_mk _,show(sv b).toList=b from ByteArray.toList_mk _]
theorem zdX {n m:Nat} {E:Nat->Bool} :∃ r:Bool,(r=true↔n=m/\∀ k,k<n->E k=true)/\(n≠m->r=false)/\(n=m->∀ k,k<n->E k=false->r=false)/\(n=m->(∀ k,k<n->E k=true)->r=true):=by
 classical
 refine⟨decide (n=m/\∀ k,k<n->E k=true),by simp,λh=>by simp[h],λh k hk he=>?_,λh hk=>by simp[h];intro k h2;exact hk k (by omega)⟩;rw[decide_eq_false_iff_not];rintro⟨_,h2⟩;rw[h2 k hk]at he;cases he
end Go.Proofs.YthceiikgecoimaaGreatDoor
namespace Go.Proofs.YthceiikgecoimaaGreatDoor
open Go.ChangeShapes Go.WideShapes Go.ChangeAt Go.RowKit Go.Joins
open Go.WideMaps Go.WideElems
open Go.ChangeMaps (open_string shut_string)
set_option linter.unusedVariables false
set_option maxRecDepth 10000
theorem zoi {x:Int} (h:(Lit.int .u8 x).wf=true):((UInt8.ofNat x.toNat).toNat:Int)=x:=by
 have hb:=bounds_u8 h;rw[UInt8.toNat_ofNat'];omega
theorem zhI {H:Type} {enc:TypeId×Value->H} {P:Program} {w:World} {base:Nat} {spare:Nat->Bool} {held:Bool} {r:Reach} {b0:Nat} {t e:TypeId} {v:Value} {d:DataW H} {p:List MemPlace} (ht:P.underlying t=some (.slice e)) (he:P.underlying e=some (.int .u8)) (hCe:P.cellsOf e=1)
  (hv:Value.okWide P w r b0 t v) (h:DataW.Trod enc P w base spare held t v d p):∃ l:List UInt8,By w v l:=by
 obtain⟨a0,len,cap,rfl⟩:=okWide_slice ht hv;obtain⟨fuel,hf⟩:=h;rcases open_ints ht he hCe hf with ⟨hcs,_⟩|⟨a,len',cap',zs,hcs,_,hl,hm,hz,hx,hcell,hwz⟩
 ·simp[Value.cells]at hcs;obtain⟨rfl,rfl,rfl⟩:=hcs;exact⟨[],zqC w⟩
 ·simp[Value.cells]at hcs;obtain⟨rfl,rfl,rfl⟩:=hcs;have hzl:len<=zs.length:=by rw[hz];split<;>omega
  refine⟨(zs.take len).map λn=>UInt8.ofNat n.toNat,some a,cap,?_,?_,λk hk=>⟨a,rfl,?_,?_⟩⟩
  ·simp;omega
  ·simp;omega
  ·simp at hk;have:=World.block_lt_of_cell? w (a.add k) (hcell k (by omega));rw[zag]at this;exact this
  ·simp at hk;have h1:k<len:=by omega
   have h2:k<zs.length:=by omega
   have e1:zs.getD k 0=zs[k]:=by rw[List.getD_eq_getElem?_getD,List.getElem?_eq_getElem h2];rfl
   have e2:((zs.take len).map λn=>UInt8.ofNat n.toNat).getD k 0=UInt8.ofNat (zs[k]).toNat:=by
    rw[List.getD_eq_getElem?_getD,List.getElem?_map,List.getElem?_take_of_lt h1,List.getElem?_eq_getElem h2];rfl
   rw[hcell k (by omega),e1,e2,zoi (hwz _ (List.getElem_mem h2))]
theorem zq0 (s:ByteArray):sv s.data.toList=s:=by simp[sv]
end Go.Proofs.YthceiikgecoimaaGreatDoor
namespace Go.Proofs.YthceiikgecoimaaGreatDoor
open Go.ChangeShapes Go.WideShapes Go.ChangeAt Go.RowKit Go.Joins
open Go.WideMaps Go.WideElems
set_option linter.unusedVariables false
set_option linter.unusedSimpArgs false
set_option maxRecDepth 10000
inductive Ty where
 |i|s|b
 |row (e z:Nat) (fs:List Ty)
mutual
def Sh1:Ty->D->Prop
 | .i,d=>∃ n:Int,d=dI n/\ -9223372036854775808<=n/\n<=9223372036854775807
 | .s,d=>∃ l:List UInt8,d=dS l/\l.length<=maxLen
 | .b,d=>∃ x,d=dB x
 | .row e z fs,d=>∃ L,d= .row e z L/\L.length<=maxLen/\∀ ds∈L,ShL fs ds
def ShL:List Ty->List D->Prop
 | [],ds=>ds= []
 |t :: ts,ds=>∃ d r,ds=d :: r/\Sh1 t d/\ShL ts r
end
section
variable {H : Type} {enc : TypeId × Value -> H} {P : Program} {w : World} {base : Nat} {spare : Nat -> Bool} {held : Bool}
end
end Go.Proofs.YthceiikgecoimaaGreatDoor
namespace Go.Proofs.YthceiikgecoimaaGreatDoor
open Go.RowKit
attribute [local go_sem ↓] Go.wp_at_zero Go.wp_at_succ
set_option linter.unusedVariables false
set_option linter.unusedSimpArgs false
set_option maxRecDepth 10000
set_option maxHeartbeats 4000000 in
theorem zhJ (a:Option Addr) (n cap:Nat) (X:Except (Int×Nat) (List Tok)) (A:Nat->Nat) (R:Nat->Except Int Tok) (F:Nat->Except (Int×Nat) (List Tok)) (w:World) (hn:n<=65536)
  (T1:Hid (∀ k,k<=n->∀ w',Keep w w'->Calls Tryz.prog 75 #[.slice a n cap,.int .i64 (k:Int)] w' λe w''=>e= .returned (.int .i64 (A k:Nat))/\w''=w'))
  (T2:Hid (∀ k,k<=n->A k<n->∀ w',Keep w w'->Calls Tryz.prog 76 #[.slice a n cap,.int .i64 (A k:Nat)] w' λe w''=>e= .returned (.tuple #[tv (rtk (R k)),.int .i64 (re (R k))])/\Keep w' w''))
  (HA:Hid (∀ k,k<=n->k<=A k/\A k<=n))
  (HR:Hid (∀ k t,k<=n->R k= .ok t->A k<n->t.k≠0/\1<=t.s.length/\A k+t.s.length<=n))
  (HE:Hid (∀ k e,k<=n->R k= .error e->e≠0/\F k= .error (e,A k)))
  (HF:Hid (∀ k t,k<=n->R k= .ok t->A k<n->F k=pre [t] (F (A k+t.s.length))))
  (HZ:Hid (∀ k,k<=n->A k=n->F k= .ok [⟨0,[],0,n⟩]))
  (H0:Hid (F 0=X)):
  Calls Tryz.prog 45 #[.slice a n cap] w (Tp X w):=by
 obtain⟨i0,hi,hz0,hz1,hz2⟩:=zaG zqW;have hn':¬(65536:Int)<(n:Int):=by omega
 have T10:=zh ((uq T1) 0 (Nat.zero_le _) w (zk w));go_enter Tryz.func45,Tryz.ntmps45;go_wp2_with fail
 (refine(uq T10).mono ?_;rintro e w ⟨rfl,rfl⟩);go_wp2_with fail
 go_loopw [5,6] (λvl vi wr=>∃(k:Nat) (acc:List Tok),k<=n/\acc.length<=k/\vi= .int .i64 (A k:Nat)/\wr.ownsRow w.heap.size 118 4 vl acc.length (tc acc)/\Hid (pre acc (F k)=X)/\Hid (Keep w wr)) (λvl vi _=>n - (intOf vi).toNat)
 case atStart=>exact⟨0,[],Nat.zero_le _,Nat.le_refl _,rfl,World.ownsRow_nil _ _ _ _,by unfold Hid;rw[ziD];exact uq H0,zh (zk w)⟩
 case round=>
  obtain⟨k,acc,hk,hak,rfl,hrow,HX,HK⟩:=hrel;have HROW:=zh hrow;clear hrow;obtain⟨ha1,ha2⟩:=(uq HA) k hk;have hl9:acc.length<=70000:=by omega
  have hsz0:=Below.size (uq HK);by_cases hlt:A k<n
  ·have li:((A k:Nat):Int)<(n:Int):=by omega
   go_wp2_with fail
   (refine((uq T2) k hk hlt _ (uq HK)).mono ?_;rintro e w3 ⟨rfl,hk3⟩);have HK3:=zh ((uq HK).trans hk3);have HROW3:=zh (zeq (uq HROW) hk3);clear hk3 HK HROW;have hsz:=Below.size (uq HK3);cases hr:R k with
   |error e=>
    obtain⟨he,hf⟩:=(uq HE) k e hk hr;have HR1:Hid (X= .error (e,A k)):=by have:=uq HX;rw[hf]at this;exact this.symm
    have hb0:(e !=0)=true:=by simp[he]
    simp only[rtk,re,tv,t0];clear hf hr he;go_wp2_with fail
    go_ret3
    rw[uq HR1];exact⟨_,rfl,ze6 _,zf0 _,(uq HK3).alloc _⟩
   |ok t=>
    have hf:=(uq HF) k t hk hr hlt;have hb:=(uq HR) k t hk hr hlt;obtain⟨kk,ss,nn,pp⟩:=t;simp only[rtk,re,tv]at hf hb |-;have HR1:Hid (pre (acc++ [⟨kk,ss,nn,pp⟩]) (F (A k+ss.length))=X):=by have:=uq HX;rw[hf,zgt]at this;exact this
    have hS:=zbB ss;have HTC:Hid (tc (acc++ [⟨kk,ss,nn,pp⟩])=tc acc++ [.int .i64 kk,.string (sv ss),.int .i64 nn,.int .i64 pp]):=zdy _ _;generalize sv ss=S at *;clear hf hr HX;have hb':=hb.2;clear hb;have hsz2:S.size<=70000:=by omega
    have hA3:=(uq HA) (A k+ss.length) hb'.2;have T1k:=zh ((uq T1) (A k+ss.length) hb'.2);have hcast:((A k+ss.length:Nat):Int)=(A k:Int)+(ss.length:Int):=by omega
    rw[hcast]at T1k;clear hcast;go_wp2_with (first
     |(at_builtin;refine wpList_append_own _ rfl _ _ 106 rfl w.heap.size 118 i0 _ 4 40 Tryz.underlying106 hi hz0 hz1 hz2 rfl (by decide) _ _ _ rfl (((uq HROW3).alloc _).alloc _) ⟨w3.heap.size+1,0,none⟩ 1 1 [.int .i64 kk,.string S,.int .i64 nn,.int .i64 pp] rfl rfl (zeF w3 _ _ _ _ _ _) (by simp[Value.oneCell']) (by unfold maxLen;omega) (by omega) (by simp;omega) ?_;intro v' w4 hown' hgrow hnil;obtain⟨g',cp',rfl⟩:=zaP hown';have HOWN:=zh hown';have HGROW:=zh hgrow;have HK4:=zh (Below.grown (((uq HK3).alloc _).alloc _) hgrow (by simp;omega) (λj ej=>((uq HROW3).lt j ej).1));have c1:=zdc rfl hgrow (λj ej=>((uq HROW3).lt j ej).2) 1 (.string S) rfl;clear hown' hgrow hnil)
     |(go_at_call 75;refine((uq T1k) _ (uq HK4)).mono ?_;rintro e w5 ⟨rfl,rfl⟩))
    go_roundw
    case rel=>
     refine⟨A k+ss.length,acc++ [⟨kk,ss,nn,pp⟩],hb'.2,by rw[List.length_append];simp;omega,rfl,?_,HR1,HK4⟩;rw[uq HTC,List.length_append];exact uq HOWN
    case measure=>simp[intOf];omega
  ·have hAn:A k=n:=by omega
   have HR1:Hid (X= .ok (acc++ [⟨0,[],0,n⟩])):=by have:=uq HX;rw[(uq HZ) k hk hAn]at this;exact this.symm
   have HTC:Hid (tc (acc++ [⟨0,[],0,n⟩])=tc acc++ [.int .i64 0,.string ⟨#[]⟩,.int .i64 0,.int .i64 (n:Int)]):=zdy _ _;rw[hAn];clear hAn HX;have hrow2:=uq HROW;go_wp2_with (at_builtin;refine wpList_append_own _ rfl _ _ 106 rfl w.heap.size 118 i0 _ 4 40 Tryz.underlying106 hi hz0 hz1 hz2 rfl (by decide) _ _ _ rfl ((uq HROW).alloc _) ⟨wr.heap.size,0,none⟩ 1 1 [.int .i64 0,.string ⟨#[]⟩,.int .i64 0,.int .i64 (n:Int)] rfl rfl (zhg wr _ _ _ _ _) (by simp[Value.oneCell']) (by unfold maxLen;omega) (by omega) (by simp;omega) ?_;intro v' w4 hown' hgrow hnil;obtain⟨g',cp',rfl⟩:=zaP hown';have HOWN:=zh hown';have HK4:=zh (Below.grown ((uq HK).alloc _) hgrow (by simp;omega) (λj ej=>((uq HROW).lt j ej).1));clear hown' hgrow hnil)
   go_ret3
   rw[uq HR1];refine⟨_,rfl,zlV (base:=w.heap.size) (e:=118) ?_,zl2 (uq HOWN),uq HK4⟩;show w4.ownsRow _ _ _ _ (acc++ [_]).length (tc (acc++ [_]));rw[uq HTC,List.length_append];exact uq HOWN
theorem zoj (l:List UInt8) (k:Nat):tk (l.drop k) k=match one (l.drop (sk false l k)) (sk false l k)with
  | .error e=>Except.error (e,sk false l k)
  | .ok t=>if t.k=0 then .ok [t]else pre [t] (tk (l.drop (sk false l k+t.s.length)) (sk false l k+t.s.length)):=by
 rw[zeY];have e1:(l.drop k).drop (skp false (l.drop k))=l.drop (sk false l k):=by rw[List.drop_drop];rfl
 rw[e1];simp only[List.drop_drop]
 rfl
theorem zi3 (v:Value) (l:List UInt8) (w:World) (hl:l.length<=70000) (h:By w v l):Calls Tryz.prog 45 #[v] w (Tp (T l) w):=by
 obtain⟨a,cap,rfl⟩:=h.shape;unfold T
 by_cases hlong:65536<l.length
 ·rw[if_pos hlong];refine(zhH a l.length cap w hlong).mono ?_;rintro e w' ⟨rfl,rfl⟩;exact⟨_,rfl,ze6 _,zf0 _,zk _⟩
 ·rw[if_neg hlong];refine zhJ a l.length cap (tk l 0) (sk false l) (λk=>one (l.drop (sk false l k)) (sk false l k)) (λk=>tk (l.drop k) k) w (by omega) (zh λk hk w' hK=>zkB _ l k w' hl hk (h.keep hK)) (zh λk hk hA w' hK=>zog _ l _ w' hl hA (h.keep hK))
   (zh λk hk=>⟨zpD _ _ _,zkx _ _ _ hk⟩) (zh λk t hk ht hA=>?_) (zh λk e hk he=>?_) (zh λk t hk ht hA=>?_) (zh λk hk hA=>?_) (zh (by rw[List.drop_zero]))
  ·rcases(zcU ht).2 with ⟨h1,_⟩|⟨h0,_,_,h1,h2,_⟩
   ·have:=congrArg List.length h1;simp only[List.length_drop,List.length_nil]at this;omega
   ·have:=zey (l.drop (sk false l k));simp only[List.length_drop]at *;exact⟨h0,by omega,by omega⟩
  ·refine⟨?_,?_⟩
   ·intro e0
    subst e0;cases hr:l.drop (sk false l k)with
    |nil=>rw[hr]at he;simp[one]at he
    |cons c r=>rw[hr]at he;simp only[one]at he;(repeat' split at he)<;>simp at he
   ·show tk (l.drop k) k=_;rw[zoj,he]
  ·show tk (l.drop k) k=_;rw[zoj,ht];rcases(zcU ht).2 with ⟨h1,_⟩|⟨h0,_⟩
   ·have:=congrArg List.length h1;simp only[List.length_drop,List.length_nil]at this;omega
   ·simp only[if_neg h0]
  ·show tk (l.drop k) k=_;rw[zoj,hA,List.drop_length]
   rfl
end Go.Proofs.YthceiikgecoimaaGreatDoor
