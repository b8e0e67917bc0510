/- All tokens: package lex and the document. -/
import Derived.Test.YtpmaonkelkmhbaaGreatLOneA
import Derived.Test.YtpmaonkelkmhbaaGreatLFact
import Derived.LoopTactic
import Derived.Deep.DeepCutAuto
import Derived.Maps.AppendAt
import Derived.WalkKit
import Derived.ProofKit
import Derived.OpenShut
import Derived.ShutString
import Derived.ChangeOld
import Derived.Below
import Derived.Lib.SmallJoins
import Derived.JoinedOf
import Derived.Stop.Joined
namespace Go.Proofs.YtpmaonkelkmhbaaGreat
open Go.RowKit
attribute [local go_sem ↓] Go.wp_at_zero Go.wp_at_succ
set_option linter.unusedVariables false
set_option linter.unusedSimpArgs false
set_option maxRecDepth 10000
theorem zay {t:TypeId} {z:Value} {a b:Nat} (h:(Tryz.prog.info? t).map (fun i=>(i.zero,i.size,i.bytes))=some (some z,a,b)):∃ i,Tryz.prog.info? t=some i∧i.zero=some z∧i.size=a∧i.bytes=b:=by
 cases hi:Tryz.prog.info? t with
 |none=>rw[hi]at h;cases h
 |some i=>rw[hi]at h;simp at h;exact⟨i,rfl,h.1,h.2.1,h.2.2⟩
theorem zot:(Tryz.prog.info? 100).map (fun i=>(i.zero,i.size,i.bytes))=some (some (.agg #[.int .i64 0,.string ⟨#[]⟩,.int .i64 0,.int .i64 0]),4,40):=by kernel_rfl
set_option maxHeartbeats 2000000 in
theorem zfm (a:Option Addr) (n cap:Nat) (w:World) (hn:65536<n):
  Calls Tryz.prog 27 #[.slice a n cap] w fun e w'=>e= .returned (.tuple #[.slice none 0 0,.int .i64 4,.int .i64 65536])∧w'=w:=by
 have h:(65536:Int)<(n:Int):=by omega
 go_enter Tryz.func27,Tryz.ntmps27;go_wp2_with fail
 go_ret3
 exact⟨rfl,rfl⟩
theorem Keep.grown {w w':World} (h:Keep w w'):w.grownBy w' none:=⟨h.1,h.2,h.3,h.4,fun i hi _=>h.5 i hi⟩
theorem zhU {w w':World} {base:Nat} {e:TypeId} {z n:Nat} {v:Value} {xs:List Value} (h:w.ownsRow base e z v n xs) (hk:Keep w w'):w'.ownsRow base e z v n xs:=
 h.kept hk.grown (by cases v.ownBlock<;>simp)
theorem zak {W:World} {base:Nat} {e:TypeId} {size:Nat} {v:Value} {k:Nat} {xs:List Value} (h:W.ownsRow base e size v (k+1) xs):∃ g cap,v= .slice (some ⟨g,0,none⟩) (k+1) cap:=by
 rcases h.2 with ⟨_,h0⟩|⟨g,cap,_,rfl,_⟩
 ·omega
 ·exact⟨g,cap,rfl⟩
theorem zeT (w:World) (a b c d:Value) (t:TypeId):∀ j u,[a,b,c,d][j]? =some u→(w.alloc (.cells #[a,b,c,d] t)).cell? ((⟨w.heap.size,0,none⟩:Addr).add j)=some u:=by
 intro j u hj
 rw[zaP,Nat.zero_add]
 match j,hj with
 |0,hj=>simp at hj;subst hj;simp[go_sem]
 |1,hj=>simp at hj;subst hj;simp[go_sem]
 |2,hj=>simp at hj;subst hj;simp[go_sem]
 |3,hj=>simp at hj;subst hj;simp[go_sem]
 |j+4,hj=>simp at hj
theorem zgh (w:World) (o:Obj) (a b c d:Value) (t:TypeId):∀ j u,[a,b,c,d][j]? =some u→((w.alloc o).alloc (.cells #[a,b,c,d] t)).cell? ((⟨w.heap.size+1,0,none⟩:Addr).add j)=some u:=by
 have h:=zeT (w.alloc o) a b c d t;rw[World.size_alloc]at h;exact h
theorem zfn {w w':World} {o o2:Obj} {cur:Array Value} {t:TypeId} {row:Option Nat} (ho:o= .cells cur t) (hg:((w.alloc o).alloc o2).grownBy w' row) (hr:∀ j,row=some j→j<w.heap.size) (i:Nat) (x:Value) (hi:cur[i]? =some x):
  w'.cell? ⟨w.heap.size,i,none⟩=some x:=by
 subst ho;refine hg.cell ?_ ?_
 ·have h1:((w.alloc (.cells cur t)).alloc o2).cell? ⟨w.heap.size,i,none⟩=(w.alloc (.cells cur t)).cell? ⟨w.heap.size,i,none⟩:=
   Below.cell (p:=⟨w.heap.size,i,none⟩) ((Below.refl (w.alloc (.cells cur t)).heap.size _).alloc (Nat.le_refl _) o2) (by show w.heap.size<_;rw[World.size_alloc];omega)
  rw[h1,World.cell?_alloc_mark];exact hi
 ·intro e
  have:=hr w.heap.size e.symm;omega
def Lo (n:Nat) (v:Value):Prop:=∀ ad m cap,v= .slice (some ad) m cap→n≤ad.block
theorem ziO (n:Nat):Lo n (.slice none 0 0):=fun _ _ _ e=>by cases e
theorem zm2 {w:World} {base:Nat} {e:TypeId} {z n:Nat} {v:Value} {xs:List Value} (h:w.ownsRow base e z v n xs):Lo base v:=fun ad m cap ev=>by
 subst ev;exact(h.lt _ rfl).1
def Tp (X:Except (Int×Nat) (List Tok)) (w:World) (e:Ending) (w':World):Prop:=∃ v,e= .returned (.tuple #[v,.int .i64 (te X),.int .i64 (tn X:Nat)])∧Ts w' v (tl X)∧Lo w.heap.size v∧Keep w w'
end Go.Proofs.YtpmaonkelkmhbaaGreat
namespace Go.Proofs.YtpmaonkelkmhbaaGreat
open Go.RowKit
set_option linter.unusedVariables false
set_option linter.unusedSimpArgs false
mutual
def Rd (w:World):D→(Nat→Prop)→Value→Prop
 | .val v,P,u=>u=v∧v.oneCell'=true
 | .row e z L,P,u=>∃ xs:List Value,w.ownsRow 0 e z u L.length xs∧(∀ g,u.ownBlock=some g→P g)∧Rdss w L (fun b=>P b∧u.ownBlock≠some b) z xs
def Rds (w:World):List D→(Nat→Prop)→List Value→Prop
 | [],P,xs=>xs= []
 |d :: ds,P,xs=>∃ u us,xs=u :: us∧Rd w d P u∧Rds w ds P us
def Rdss (w:World):List (List D)→(Nat→Prop)→Nat→List Value→Prop
 | [],P,z,xs=>xs= []
 |ds :: L,P,z,xs=>∃ ys zs,xs=ys++zs∧ys.length=z∧Rds w ds P ys∧Rdss w L P z zs
end
theorem ziP {w w':World} {base e z n:Nat} {v:Value} {xs:List Value} (h:w.ownsRow base e z v n xs) (hk:∀ g,v.ownBlock=some g→w'.heap[g]? =w.heap[g]?):w'.ownsRow base e z v n xs:=by
 refine⟨h.1,?_⟩;rcases h.2 with hn|⟨g,cap,cur,rfl,hb,hgg,rest⟩
 ·exact .inl hn
 ·exact .inr ⟨g,cap,cur,rfl,hb,by rw[hk g rfl];exact hgg,rest⟩
mutual
theorem Rd.move {w w':World} :∀(d:D) (P P':Nat→Prop) (u:Value),Rd w d P u→(∀ b,P b→b<w.heap.size→w'.heap[b]? =w.heap[b]? ∧P' b)→Rd w' d P' u
 | .val v,P,P',u,h,hk=>h
 | .row e z L,P,P',u,h,hk=>by
  simp only[Rd]at h ⊢;obtain⟨xs,h1,h2,h3⟩:=h;have hlt:∀ g,u.ownBlock=some g→g<w.heap.size:=fun g hg=>(h1.lt g hg).2
  exact⟨xs,ziP h1 (fun g hg=>(hk g (h2 g hg) (hlt g hg)).1),fun g hg=>(hk g (h2 g hg) (hlt g hg)).2,Rdss.move L _ _ z xs h3 (fun b hb hl=>⟨(hk b hb.1 hl).1,(hk b hb.1 hl).2,hb.2⟩)⟩
theorem Rds.move {w w':World} :∀(ds:List D) (P P':Nat→Prop) (us:List Value),Rds w ds P us→(∀ b,P b→b<w.heap.size→w'.heap[b]? =w.heap[b]? ∧P' b)→Rds w' ds P' us
 | [],P,P',us,h,hk=>h
 |d :: ds,P,P',us,h,hk=>by
  simp only[Rds]at h ⊢;obtain⟨v,vs,h0,h1,h2⟩:=h;exact⟨v,vs,h0,Rd.move d P P' v h1 hk,Rds.move ds P P' vs h2 hk⟩
theorem Rdss.move {w w':World} :∀(L:List (List D)) (P P':Nat→Prop) (z:Nat) (us:List Value),Rdss w L P z us→(∀ b,P b→b<w.heap.size→w'.heap[b]? =w.heap[b]? ∧P' b)→Rdss w' L P' z us
 | [],P,P',z,us,h,hk=>h
 |ds :: L,P,P',z,us,h,hk=>by
  simp only[Rdss]at h ⊢;obtain⟨ys,zs,h0,h1,h2,h3⟩:=h;exact⟨ys,zs,h0,h1,Rds.move ds P P' ys h2 hk,Rdss.move L P P' z zs h3 hk⟩
end
theorem zc6 {w:World} :∀(ds:List D) (P:Nat→Prop) (us:List Value),Rds w ds P us→us.length=ds.length
 | [],P,us,h=>by simp only[Rds]at h;subst h;rfl
 |d :: ds,P,us,h=>by
  simp only[Rds]at h;obtain⟨v,vs,rfl,_,h2⟩:=h;simp[zc6 ds P vs h2]
theorem zdN {w:World} :∀(L:List (List D)) (ds:List D) (P:Nat→Prop) (z:Nat) (us ys:List Value),Rdss w L P z us→Rds w ds P ys→ys.length=z→Rdss w (L++ [ds]) P z (us++ys)
 | [],ds,P,z,us,ys,h,k,hz=>by
  simp only[Rdss]at h;subst h;simp only[List.nil_append,Rdss];exact⟨ys,[],by simp,hz,k,rfl⟩
 |es :: L,ds,P,z,us,ys,h,k,hz=>by
  simp only[Rdss,List.cons_append]at h ⊢;obtain⟨y1,y2,rfl,h1,h2,h3⟩:=h;exact⟨y1,y2++ys,by simp,h1,h2,zdN L ds P z y2 ys h3 k hz⟩
theorem ziQ (w:World) (e z:Nat) (P:Nat→Prop):Rd w (.row e z []) P (.slice none 0 0):=by
 simp only[Rd];exact⟨[],World.ownsRow_nil _ _ _ _,fun g hg=>by simp[Value.ownBlock]at hg,by simp[Rdss]⟩
def shp (w:World) (b:Nat):Option (Nat×TypeId×(Nat×Nat)):=match w.heap[b]? with
 |some (.cells arr t f)=>some (arr.size,t,f)
 | _=>none
theorem zgi {w w':World} {b:Nat} (h:w'.heap[b]? =w.heap[b]?):shp w' b=shp w b:=by unfold shp;rw[h]
theorem zkR (w:World) (a:Addr) (v:Value) (b:Nat):shp (w.setCell a v) b=shp w b:=by
 unfold shp
 by_cases h:b=a.block
 ·subst h;simp only[World.setCell,Array.getElem?_modify,if_true];cases hh:w.heap[a.block]? with
  |none=>simp
  |some o=>
   cases o with
   |cells c e f=>simp only[Option.map_some];by_cases hs:a.spot.isSome=true<;>simp[hs]
   | _=>simp
 ·rw[Below.heap_setCell _ _ _ _ h]
def zlK (w:World) (b:Nat):Prop:=∀ i v,w.cell? ⟨b,i,none⟩=some v→v.oneCell'=true
theorem zea {w w':World} {b:Nat} (h:w'.heap[b]? =w.heap[b]?) (h1:zlK w b):zlK w' b:=fun i v hv=>h1 i v (by rw[← hv];exact(World.cell?_of_block (a:=⟨b,i,none⟩) h).symm)
theorem zhV {w:World} {a:Addr} {v:Value} (hv:v.oneCell'=true) {b:Nat} (h:zlK w b):zlK (w.setCell a v) b:=by
 intro i u hu
 by_cases e:a=⟨b,i,none⟩
 ·subst e;cases hc:w.cell? ⟨b,i,none⟩with
  |none=>
   exfalso;rw[World.cell?]at hc;simp only[World.setCell,World.cell?,Array.getElem?_modify,if_true]at hu;cases hh:w.heap[b]? with
   |none=>simp[hh]at hu
   |some o=>cases o<;>simp[hh]at hc hu<;>simp_all
  |some x=>
   have:(w.setCell ⟨b,i,none⟩ v).cell? ⟨b,i,none⟩=some v:=by apply World.cell?_setCell_same;exact hc
   rw[this]at hu;injection hu with hu;subst hu;exact hv
 ·have:(w.setCell a v).cell? ⟨b,i,none⟩=w.cell? ⟨b,i,none⟩:=by apply World.cell?_setCell_other;exact e
  rw[this]at hu;exact h i u hu
structure Fr (S:Nat→Prop) (w w':World):Prop where
 os:w'.os=w.os
 tape:w'.tape=w.tape
 output:w'.output=w.output
 size:w.heap.size≤w'.heap.size
 block:∀ b,b<w.heap.size→¬S b→w'.heap[b]? =w.heap[b]?
 shape:∀ b,b<w.heap.size→shp w' b=shp w b
 ones:∀ b,b<w.heap.size→zlK w b→zlK w' b
theorem Fr.refl (S:Nat→Prop) (w:World):Fr S w w:=⟨rfl,rfl,rfl,Nat.le_refl _,fun _ _ _=>rfl,fun _ _=>rfl,fun _ _ h=>h⟩
theorem Fr.trans {S:Nat→Prop} {a b c:World} (h:Fr S a b) (k:Fr S b c):Fr S a c:=
 ⟨k.os.trans h.os,k.tape.trans h.tape,k.output.trans h.output,Nat.le_trans h.size k.size,fun i hi hs=>(k.block i (Nat.lt_of_lt_of_le hi h.size) hs).trans (h.block i hi hs),fun i hi=>(k.shape i (Nat.lt_of_lt_of_le hi h.size)).trans (h.shape i hi),fun i hi h1=>k.ones i (Nat.lt_of_lt_of_le hi h.size) (h.ones i hi h1)⟩
theorem Fr.inner {S S':Nat→Prop} {a b c:World} (h:Fr S a b) (k:Fr S' b c) (hs:∀ i,i<a.heap.size→S' i→S i):Fr S a c:=
 ⟨k.os.trans h.os,k.tape.trans h.tape,k.output.trans h.output,Nat.le_trans h.size k.size,fun i hi hn=>(k.block i (Nat.lt_of_lt_of_le hi h.size) (fun x=>hn (hs i hi x))).trans (h.block i hi hn),fun i hi=>(k.shape i (Nat.lt_of_lt_of_le hi h.size)).trans (h.shape i hi),fun i hi h1=>k.ones i (Nat.lt_of_lt_of_le hi h.size) (h.ones i hi h1)⟩
theorem Fr.keep {S:Nat→Prop} {a b:World} (k:Keep a b):Fr S a b:=⟨k.os,k.tape,k.output,k.size,fun i hi _=>k.block i hi,fun i hi=>zgi (k.block i hi),fun i hi h1=>zea (k.block i hi) h1⟩
theorem Fr.set {S:Nat→Prop} {a b:World} (k:Fr S a b) (ad:Addr) (v:Value) (h:S ad.block) (hv:v.oneCell'=true:=by rfl):Fr S a (b.setCell ad v):=by
 refine⟨k.os,k.tape,k.output,?_,fun i hi hn=>?_,fun i hi=>(zkR _ _ _ _).trans (k.shape i hi),fun i hi h1=>zhV hv (k.ones i hi h1)⟩
 ·have:=k.size;simpa [World.setCell]using this
 ·rw[← k.block i hi hn];exact Below.heap_setCell _ _ _ _ (fun e=>hn (e▸h))
theorem Fr.cell {S:Nat→Prop} {a b:World} (k:Fr S a b) {p:Addr} {v:Value} (h:a.cell? p=some v) (hn:¬S p.block):b.cell? p=some v:=
 (World.cell?_of_block (k.block p.block (World.block_lt_of_cell? a p h) hn)).trans h
theorem Fr.frozen {S:Nat→Prop} {a b:World} (k:Fr S a b) {p:Addr} (h:p.block<a.heap.size) (hn:¬S p.block):b.frozen? p=a.frozen? p:=
 World.frozen?_of_block (k.block p.block h hn)
theorem Rd.fr {S P:Nat→Prop} {a b:World} (k:Fr S a b) (hp:∀ i,P i→¬S i) {d:D} {u:Value} (h:Rd a d P u):Rd b d P u:=
 Rd.move d _ _ u h (fun i hi hl=>⟨k.block i hl (hp i hi),hi⟩)
theorem Rd.set {w:World} {d:D} {P:Nat→Prop} {u:Value} (h:Rd w d P u) (a:Addr) (v:Value) (ha:¬P a.block):Rd (w.setCell a v) d P u:=
 Rd.move d _ _ u h (fun i hi _=>⟨Below.heap_setCell _ _ _ _ (fun e=>ha (e▸hi)),hi⟩)
end Go.Proofs.YtpmaonkelkmhbaaGreat
namespace Go.Proofs.YtpmaonkelkmhbaaGreat
open Go.RowKit
set_option linter.unusedVariables false
set_option linter.unusedSimpArgs false
set_option maxRecDepth 10000
namespace Q
def Wf (l:List Tok):Prop:=l.length≤70000∧(∃ m t,l=m++ [t]∧t.k=0∧t.s= [])∧∀ t∈l,0≤t.n∧t.n≤999999999999999999
theorem zcK {w:World} {a:Addr} {v:Value} (h:w.cell? a=some v):a.block<w.heap.size:=World.block_lt_of_cell? w a h
theorem kcell {w w':World} (k:Keep w w') {a:Addr} {v:Value} (h:w.cell? a=some v):w'.cell? a=some v:=by rw[Below.cell k (zcK h)];exact h
theorem zkS {w w':World} (k:Keep w w') {a:Addr} {v:Value} (h:w.cell? a=some v) (f:w.frozen? a=false):w'.frozen? a=false:=by rw[Below.frozen k (zcK h)];exact f
theorem zbY (w:World) (p a:Addr) (v:Value) (h:p≠a):(w.setCell p v).cell? a=w.cell? a:=by apply World.cell?_setCell_other;exact h
theorem zeU {w:World} {a:Addr} {u:Value} (v:Value) (h:w.cell? a=some u):(w.setCell a v).cell? a=some v:=by apply World.cell?_setCell_same;exact h
theorem zkT (w:World) (p a:Addr) (v:Value) (h:p.block≠a.block):(w.setCell p v).cell? a=w.cell? a:=World.cell?_of_block (Below.heap_setCell _ _ _ _ (fun e=>h e.symm))
theorem zbv {w w':World} {a:Addr} (h:w'.heap[a.block]? =w.heap[a.block]?):w'.cell? a=w.cell? a:=World.cell?_of_block h
theorem zcu (w:World) (o o':Obj):Keep w ((w.alloc o).alloc o'):=((Keep.refl w).alloc o).alloc o'
section
variable {P : Program} {w : World}
theorem zap {o:Oper} {a:Act} {K:Act→World→Prop} {Q:Exit→Act→World→Prop} (s x:Operand) (t:TypeId)
  (ho:o.op= .call { callee:= .builtin .append,args:=#[s,x],argTypes:=#[t,t] })
  (base:Nat) (e:TypeId) (i:TypeInfo) (z:Value) (size bytes:Nat) (ht:P.underlying t=some (.slice e)) (hi:P.info? e=some i) (hz:i.zero=some z)
  (hsize:i.size=size) (hby:i.bytes=bytes) (hzs:z.cells.size=size) (hsz:0<size)
  (v:Value) (n:Nat) (xs:List Value) (hs:a.eval s=v) (hown:w.ownsRow base e size v n xs)
  (ad:Addr) (m c:Nat) (news:List Value) (hx:a.eval x= .slice (some ad) m c) (hl:news.length=m * size) (hnews:∀ j u,news[j]? =some u→w.cell? (ad.add j)=some u) (h1:∀ u∈news,u.oneCell'=true)
  (h63:n+m≤maxLen) (hbytes:(n+m) * bytes≤140737488355328) (hbase:base≤w.heap.size)
  (h:∀ v' w',w'.ownsRow base e size v' (n+m) (xs++news)→w.grownBy w' v.ownBlock→(v'.ownBlock=v.ownBlock∨v'.ownBlock=some w.heap.size)→K (a.put o.dst v') w'):o.wp P a w K Q:=by
 obtain⟨v',w',hr,h2,h3,h4,h5⟩:=run_append_own_at (P:=P) w base t o.type e i z size bytes ht hi hz hsize hby hzs hsz v n xs hown ad m c news hl hnews h1 h63 hbytes hbase;unfold Oper.wp execOp
 simp only[ho,resolve,invoke,builtin,Sem.run_bind,Sem.run_pure,Result.andThen_ok,List.map_toArray,List.map_cons,List.map_nil,hs,hx,hr];exact h v' w' h2 h3 h5
end
def Wq (L:List Tok):Prop:=Wf L∧∀ t∈L,Kf t
theorem Wq.cons {t:Tok} {r:List Tok} (h:Wq (t :: r)) (hk:t.k≠0∨t.s≠ []):Wq r∧r≠ []:=by
 obtain⟨⟨h1,⟨m,u,e,u1,u2⟩,h3⟩,h4⟩:=h;cases m with
 |nil=>
  simp only[List.nil_append,List.cons.injEq]at e;obtain⟨rfl,_⟩:=e;rcases hk with hk|hk
  ·exact absurd u1 hk
  ·exact absurd u2 hk
 |cons x m=>
  simp only[List.cons_append,List.cons.injEq]at e;obtain⟨rfl,rfl⟩:=e;refine⟨⟨⟨by simp at h1 ⊢;omega,⟨m,u,rfl,u1,u2⟩,fun t ht=>h3 t (List.mem_cons_of_mem _ ht)⟩,fun t ht=>h4 t (List.mem_cons_of_mem _ ht)⟩,by simp⟩
theorem Wq.ne {L:List Tok} (h:Wq L):∃ t r,L=t :: r:=by
 obtain⟨⟨_,⟨m,u,rfl,_⟩,_⟩,_⟩:=h;cases m with
 |nil=>exact⟨u,[],rfl⟩
 |cons x m=>exact⟨x,m++ [u],rfl⟩
structure Rm (w:World) (b:Nat) (ad:Addr) (cap:Nat) (e p:Int) (L:List Tok):Prop where
 c0:w.cell? ⟨b,0,none⟩=some (.slice (some ad) L.length cap)
 c1:w.cell? ⟨b,1,none⟩=some (.int .i64 e)
 c2:w.cell? ⟨b,2,none⟩=some (.int .i64 p)
 f0:w.frozen? ⟨b,0,none⟩=false
 f1:w.frozen? ⟨b,1,none⟩=false
 f2:w.frozen? ⟨b,2,none⟩=false
 le:L.length≤cap
 lt:ad.block<b
 tc:∀ k,k<L.length→Tc w (ad.add (k * 4)) (L.getD k t0)
 wq:Wq L
theorem Rm.bl {w:World} {b:Nat} {ad:Addr} {cap:Nat} {e p:Int} {L:List Tok} (h:Rm w b ad cap e p L):b<w.heap.size:=zcK h.c0
theorem zdn {w w':World} {ad:Addr} {t:Tok} (h:Tc w ad t) (hk:w'.heap[ad.block]? =w.heap[ad.block]?):Tc w' ad t:=by
 obtain⟨h0,h1,h2,h3⟩:=h;exact⟨(zbv hk).trans h0,(zbv (a:=⟨ad.block,ad.off+1,none⟩) hk).trans h1,(zbv (a:=⟨ad.block,ad.off+2,none⟩) hk).trans h2,(zbv (a:=⟨ad.block,ad.off+3,none⟩) hk).trans h3⟩
theorem Rm.move {w w':World} {b:Nat} {ad:Addr} {cap:Nat} {e p:Int} {L:List Tok} (h:Rm w b ad cap e p L) (hb:w'.heap[b]? =w.heap[b]?) (ht:w'.heap[ad.block]? =w.heap[ad.block]?):Rm w' b ad cap e p L:=
 ⟨(zbv (a:=⟨b,0,none⟩) hb).trans h.c0,(zbv (a:=⟨b,1,none⟩) hb).trans h.c1,(zbv (a:=⟨b,2,none⟩) hb).trans h.c2,(World.frozen?_of_block (a:=⟨b,0,none⟩) hb).trans h.f0,(World.frozen?_of_block (a:=⟨b,1,none⟩) hb).trans h.f1,(World.frozen?_of_block (a:=⟨b,2,none⟩) hb).trans h.f2,h.le,h.lt,fun k hk=>zdn (h.tc k hk) (by rw[zaH];exact ht),h.wq⟩
theorem Rm.keep {w w':World} {b:Nat} {ad:Addr} {cap:Nat} {e p:Int} {L:List Tok} (h:Rm w b ad cap e p L) (k:Keep w w'):Rm w' b ad cap e p L:=h.move (k.block _ h.bl) (k.block _ (Nat.lt_trans h.lt h.bl))
theorem Rm.fail {w:World} {b:Nat} {ad:Addr} {cap:Nat} {e p e' p':Int} {L:List Tok} (h:Rm w b ad cap e p L):Rm ((w.setCell ⟨b,1,none⟩ (.int .i64 e')).setCell ⟨b,2,none⟩ (.int .i64 p')) b ad cap e' p' L:=by
 have hb:∀ k,(ad.add (k * 4)).block≠b:=fun k=>by rw[zaH];have:=h.lt;omega
 refine⟨?_,?_,?_,?_,?_,?_,h.le,h.lt,fun k hk=>zdn (h.tc k hk) ?_,h.wq⟩
 ·rw[zbY _ _ _ _ (by simp),zbY _ _ _ _ (by simp)];exact h.c0
 ·rw[zbY _ _ _ _ (by simp)];exact zeU _ h.c1
 ·refine zeU _ (u:= .int .i64 p) ?_;rw[zbY _ _ _ _ (by simp)];exact h.c2
 ·rw[World.frozen?_setCell,World.frozen?_setCell];exact h.f0
 ·rw[World.frozen?_setCell,World.frozen?_setCell];exact h.f1
 ·rw[World.frozen?_setCell,World.frozen?_setCell];exact h.f2
 ·rw[Below.heap_setCell _ _ _ _ (hb k),Below.heap_setCell _ _ _ _ (hb k)]
theorem Rm.next {w:World} {b:Nat} {ad:Addr} {cap:Nat} {e p:Int} {t:Tok} {r:List Tok} (h:Rm w b ad cap e p (t :: r)) (hk:t.k≠0∨t.s≠ []):Rm (w.setCell ⟨b,0,none⟩ (.slice (some ⟨ad.block,ad.off+4,none⟩) r.length (cap - 1))) b ⟨ad.block,ad.off+4,none⟩ (cap - 1) e p r∧1<cap∧r≠ []:=by
 have hw:=h.wq.cons hk;have hl:0<r.length:=List.length_pos_iff.2 hw.2;have hc:=h.le;simp only[List.length_cons]at hc;refine⟨⟨?_,?_,?_,?_,?_,?_,by omega,h.lt,fun k hk2=>?_,hw.1⟩,by omega,hw.2⟩
 ·exact zeU _ h.c0
 ·rw[zbY _ _ _ _ (by simp)];exact h.c1
 ·rw[zbY _ _ _ _ (by simp)];exact h.c2
 ·rw[World.frozen?_setCell];exact h.f0
 ·rw[World.frozen?_setCell];exact h.f1
 ·rw[World.frozen?_setCell];exact h.f2
 ·have:=h.tc (k+1) (by simp;omega);have e1:ad.add ((k+1) * 4)=(⟨ad.block,ad.off+4,none⟩:Addr).add (k * 4):=by
   rw[zaP];unfold Addr.add
   rw[if_neg (by omega)];simp only[Addr.mk.injEq,true_and,and_true];omega
  rw[e1]at this;have e2:(t :: r).getD (k+1) t0=r.getD k t0:=by simp
  rw[e2]at this;exact zdn this (by rw[zaH];exact Below.heap_setCell _ _ _ _ (by have:=h.lt;simp only;omega))
def Sr (w:World) (b:Nat) (Y:Except Er (List Tok)):Prop:=∃ ad cap e p L,Rm w b ad cap e p L∧match Y with
 | .ok r=>L=r∧e=0
 | .error x=>e=x.1∧p=x.2∧x.1≠0
theorem Sr.keep {w w':World} {b:Nat} {Y:Except Er (List Tok)} (h:Sr w b Y) (k:Keep w w'):Sr w' b Y:=by
 obtain⟨ad,cap,e,p,L,h1,h2⟩:=h;exact⟨ad,cap,e,p,L,h1.keep k,h2⟩
theorem Sr.bl {w:World} {b:Nat} {Y:Except Er (List Tok)} (h:Sr w b Y):b<w.heap.size:=by
 obtain⟨ad,cap,e,p,L,h1,h2⟩:=h;exact h1.bl
theorem Sr.far {w w':World} {b:Nat} {Y:Except Er (List Tok)} (h:Sr w b Y) (k:∀ i,i≤b→w'.heap[i]? =w.heap[i]?):Sr w' b Y:=by
 obtain⟨ad,cap,e,p,L,h1,h2⟩:=h;exact⟨ad,cap,e,p,L,h1.move (k b (Nat.le_refl _)) (k _ (Nat.le_of_lt h1.lt)),h2⟩
theorem Sr.set {w:World} {b:Nat} {Y:Except Er (List Tok)} (h:Sr w b Y) (a:Addr) (v:Value) (hb:b<a.block):Sr (w.setCell a v) b Y:=h.far (fun i hi=>Below.heap_setCell _ _ _ _ (by omega))
theorem Sr.alive {w:World} {b:Nat} {r:List Tok} (h:Sr w b (.ok r)):∃ ad cap p t r',r=t :: r'∧Rm w b ad cap 0 p (t :: r'):=by
 obtain⟨ad,cap,e,p,L,h1,rfl,rfl⟩:=h;obtain⟨t,r',rfl⟩:=h1.wq.ne;exact⟨ad,cap,p,t,r',rfl,h1⟩
theorem Sr.dead {w:World} {b:Nat} {x:Er} (h:Sr w b (.error x)):∃ ad cap t r',Rm w b ad cap x.1 x.2 (t :: r')∧x.1≠0:=by
 obtain⟨ad,cap,e,p,L,h1,rfl,rfl,h2⟩:=h;obtain⟨t,r',rfl⟩:=h1.wq.ne;exact⟨ad,cap,t,r',h1,h2⟩
theorem Sr.ne {w:World} {b:Nat} {Y:Except Er (List Tok)} (h:Sr w b Y):Y≠ .ok []:=by
 rintro rfl;obtain⟨_,_,_,t,r',e,_⟩:=h.alive;cases e
theorem Sr.front {w:World} {b:Nat} {Y:Except Er (List Tok)} (h:Sr w b Y):∃ ad cap e p t r',Rm w b ad cap e p (t :: r')∧(∀ r,Y= .ok r→r=t :: r'):=by
 cases Y with
 |error x=>obtain⟨ad,cap,t,r',h1,_⟩:=h.dead;exact⟨ad,cap,_,_,t,r',h1,fun r e=>by cases e⟩
 |ok r=>obtain⟨ad,cap,p,t,r',e,h1⟩:=h.alive;exact⟨ad,cap,0,p,t,r',h1,fun r2 e2=>by cases e2;exact e⟩
theorem zm3 {w:World} {b:Nat} {ad:Addr} {cap:Nat} {p:Int} {L:List Tok} (h:Rm w b ad cap 0 p L):Sr w b (.ok L):=⟨ad,cap,0,p,L,h,rfl,rfl⟩
theorem zm4 {w:World} {b:Nat} {ad:Addr} {cap:Nat} {x:Er} {L:List Tok} (h:Rm w b ad cap x.1 x.2 L) (hx:x.1≠0):Sr w b (.error x):=⟨ad,cap,_,_,L,h,rfl,rfl,hx⟩
def rem (w:World) (b:Nat):Nat:=match w.cell? ⟨b,1,none⟩,w.cell? ⟨b,0,none⟩with
 |some (.int .i64 0),some (.slice _ n _)=>n
 | _,_=>0
theorem zcL {w:World} {b:Nat} {r:List Tok} (h:Sr w b (.ok r)):rem w b=r.length:=by
 obtain⟨ad,cap,p,t,r',rfl,h1⟩:=h.alive;simp[rem,h1.c0,h1.c1]
theorem zgj {w:World} {b:Nat} {x:Er} (h:Sr w b (.error x)):rem w b=0:=by
 obtain⟨ad,cap,t,r',h1,h2⟩:=h.dead;simp only[rem,h1.c0,h1.c1];split
 ·rename_i e1 _
  simp at e1;exact absurd e1 h2
 ·rfl
def Did (p:Sp) (ds:List D) (b:Nat) (X:Rs) (w w':World):Prop:=Fr (fun i=>i=b) w w'∧Sr w' b (zad (bnd X p))∧Got X (bnd X p) ds
theorem zcc {w:World} {b:Nat} {X:Rs} {ad:Addr} {cap:Nat} {e p:Int} {t:Tok} {r':List Tok} (h:Sr w b (zad X)) (h1:Rm w b ad cap e p (t :: r')) (h2:∀ r,zad X= .ok r→r=t :: r'):Sr w b (zad (bnd X zct))∧Got X (bnd X zct) [dI t.p]:=by
 rcases X with x|⟨c,r⟩
 ·exact⟨h,fun c r e=>by cases e⟩
 ·have:=h2 r rfl;subst this;exact⟨h,fun c2 r2 e2=>by simp only[bnd,zct,Except.ok.injEq,Prod.mk.injEq]at e2;exact⟨c,_,rfl,e2.1.symm⟩⟩
def Bxs (w:World) (nb:Nat) (us:List Value):Prop:=∀ i u,us[i]? =some u→w.cell? ⟨nb,i,none⟩=some u∧w.frozen? ⟨nb,i,none⟩=false
theorem Bxs.move {w w':World} {nb:Nat} {us:List Value} (h:Bxs w nb us) (hb:w'.heap[nb]? =w.heap[nb]?):Bxs w' nb us:=fun i u hu=>⟨(zbv (a:=⟨nb,i,none⟩) hb).trans (h i u hu).1,(World.frozen?_of_block (a:=⟨nb,i,none⟩) hb).trans (h i u hu).2⟩
theorem Bxs.lt {w:World} {nb:Nat} {u:Value} {us:List Value} (h:Bxs w nb (u :: us)):nb<w.heap.size:=zcK (h 0 u rfl).1
theorem Bxs.fr {S:Nat→Prop} {w w':World} {nb:Nat} {u:Value} {us:List Value} (h:Bxs w nb (u :: us)) (k:Fr S w w') (hn:¬S nb):Bxs w' nb (u :: us):=h.move (k.block nb h.lt hn)
theorem Bxs.keep {w w':World} {nb:Nat} {u:Value} {us:List Value} (h:Bxs w nb (u :: us)) (k:Keep w w'):Bxs w' nb (u :: us):=h.move (k.block nb h.lt)
theorem Bxs.far {w:World} {nb:Nat} {us:List Value} (h:Bxs w nb us) (a:Addr) (v:Value) (hn:a.block≠nb):Bxs (w.setCell a v) nb us:=h.move (Below.heap_setCell _ _ _ _ (fun e=>hn e.symm))
theorem Bxs.set {w:World} {nb:Nat} {us:List Value} (h:Bxs w nb us) (j:Nat) (v:Value):Bxs (w.setCell ⟨nb,j,none⟩ v) nb (us.set j v):=by
 intro i u hu
 by_cases e:i=j
 ·subst e;rw[List.getElem?_set]at hu;simp only[if_true]at hu;split at hu
  ·rename_i hl
   simp only[Option.some.injEq]at hu;subst hu;obtain⟨h1,h2⟩:=h i us[i] (List.getElem?_eq_getElem hl);exact⟨zeU _ h1,by rw[World.frozen?_setCell];exact h2⟩
  ·cases hu
 ·rw[List.getElem?_set_ne (fun x=>e x.symm)]at hu;obtain⟨h1,h2⟩:=h i u hu;exact⟨by rw[zbY _ _ _ _ (fun x=>e (by injection x with _ x _;exact x.symm))];exact h1,by rw[World.frozen?_setCell];exact h2⟩
theorem bxs_new (w:World) (us:List Value) (t:TypeId):Bxs (w.alloc (.cells us.toArray t)) w.heap.size us:=by
 intro i u hu
 have:=heap_alloc_new w (.cells us.toArray t);refine⟨?_,?_⟩
 ·simp only[World.cell?];rw[this];simpa using hu
 ·simp only[World.frozen?];rw[this];simp
structure RO (S:Nat→Prop) (w:World) (e z:Nat) (wr:World) (L:List (List D)) (v:Value):Prop where
 fr:Fr S w wr
 row:Rd wr (.row e z L) (fun b=>w.heap.size≤b) v
theorem RO.start (S:Nat→Prop) (w:World) (e z:Nat):RO S w e z w [] (.slice none 0 0):=⟨.refl _ _,ziQ _ _ _ _⟩
theorem RO.move {S S':Nat→Prop} {w:World} {e z:Nat} {wr w':World} {L:List (List D)} {v:Value} (h:RO S w e z wr L v) (k:Fr S' wr w') (hs:∀ i,S' i→S i∧i<w.heap.size):RO S w e z w' L v:=
 ⟨h.fr.inner k (fun i _ x=>(hs i x).1),Rd.move _ _ _ v h.row (fun b hb hl=>⟨k.block b hl (fun x=>by have:=(hs b x).2;omega),hb⟩)⟩
theorem RO.keep {S:Nat→Prop} {w:World} {e z:Nat} {wr w':World} {L:List (List D)} {v:Value} (h:RO S w e z wr L v) (k:Keep wr w'):RO S w e z w' L v:=h.move (S':=fun _=>False) (.keep k) (fun i x=>x.elim)
theorem RO.set {S:Nat→Prop} {w:World} {e z:Nat} {wr:World} {L:List (List D)} {v:Value} (h:RO S w e z wr L v) (a:Addr) (u:Value) (hu:u.oneCell'=true) (ha:S a.block) (hl:a.block<w.heap.size):RO S w e z (wr.setCell a u) L v:=
 h.move (S':=fun i=>i=a.block) ((Fr.refl _ wr).set a u rfl hu) (fun i x=>x▸⟨ha,hl⟩)
theorem RO.shape {S:Nat→Prop} {w:World} {e z:Nat} {wr:World} {L:List (List D)} {v:Value} (h:RO S w e z wr L v):∃ xs,wr.ownsRow 0 e z v L.length xs∧∀ g,v.ownBlock=some g→w.heap.size≤g∧g<wr.heap.size:=by
 have:=h.row;simp only[Rd]at this;obtain⟨xs,h1,h2,_⟩:=this;exact⟨xs,h1,fun g hg=>⟨h2 g hg,(h1.lt g hg).2⟩⟩
theorem RO.app {S:Nat→Prop} {w:World} {e z:Nat} {wr wa w3:World} {L:List (List D)} {ds:List D} {v v':Value} {B:Nat} {xs vs:List Value} (h:RO S w e z wr L v) (hka:Keep wr wa) (hS:∀ b,S b→b<w.heap.size)
  (hv:∀ g,v.ownBlock=some g→g<B) (hB:w.heap.size≤B) (hd:Rds wr ds (fun b=>B≤b) vs) (hz:ds.length=z)
  (hxs:wr.ownsRow 0 e z v L.length xs) (hown:w3.ownsRow 0 e z v' (L.length+1) (xs++vs)) (hg:wa.grownBy w3 v.ownBlock) (hat:v'.ownBlock=v.ownBlock∨v'.ownBlock=some wa.heap.size):
  RO S w e z w3 (L++ [ds]) v'∧∀ b,b<w.heap.size→w3.heap[b]? =wr.heap[b]? :=by
 have P0:∀ g,v.ownBlock=some g→w.heap.size≤g:=by
  have:=h.row;simp only[Rd]at this;obtain⟨_,_,k,_⟩:=this;exact k
 have R1:Rdss wr L (fun b=>w.heap.size≤b∧v.ownBlock≠some b) z xs:=by
  have:=h.row;simp only[Rd]at this;obtain⟨ys,k1,_,k3⟩:=this;have:ys=xs:=by
   rcases k1.2 with ⟨rfl,h0⟩|⟨g,cap,cur,rfl,_,hg1,_,_,_,h5⟩
   ·have a:=k1.1;have b:=hxs.1;rw[h0]at a b;simp at a b;rw[a,b]
   ·rcases hxs.2 with ⟨h1,_⟩|⟨g',cap',cur',h1,_,hg2,_,_,_,h6⟩
    ·cases h1
    ·injection h1 with h1 _ _
     injection h1 with h1
     injection h1 with h1
     subst h1;rw[hg1]at hg2;injection hg2 with hg2
     injection hg2 with hg2
     subst hg2;rw[← h5,← h6]
  subst this;exact k3
 have hsz:=h.fr.size;have gsz:=hg.size;have asz:=hka.size;have same:∀ b,b<wr.heap.size→v.ownBlock≠some b→w3.heap[b]? =wr.heap[b]? :=fun b hb hne=>by
  rw[hg.block b (by omega) (fun e=>hne e.symm)];exact hka.block b hb
 have low:∀ b,b<w.heap.size→w3.heap[b]? =wr.heap[b]? :=fun b hb=>same b (by omega) (fun e=>by have:=P0 b e;omega)
 have pv:∀ g,v'.ownBlock=some g→w.heap.size≤g:=fun g hg'=>by
  rcases hat with e1|e1
  ·exact P0 g (e1▸hg')
  ·rw[e1]at hg';injection hg' with hg'
   omega
 have nv:∀ b,b<wr.heap.size→v.ownBlock≠some b→v'.ownBlock≠some b:=fun b hb hne e1=>by
  rcases hat with e2|e2
  ·exact hne (e2▸e1)
  ·rw[e2]at e1;injection e1 with e1
   omega
 refine⟨⟨⟨hg.os.trans (hka.os.trans h.fr.os),hg.tape.trans (hka.tape.trans h.fr.tape),hg.output.trans (hka.output.trans h.fr.output),by omega,fun b hb hn=>?_,fun b hb=>?_,fun b hb h1=>?_⟩,?_⟩,low⟩
 ·rw[low b hb];exact h.fr.block b hb hn
 ·exact(zgi (low b hb)).trans (h.fr.shape b hb)
 ·exact zea (low b hb) (h.fr.ones b hb h1)
 ·simp only[Rd];have own4:w3.ownsRow 0 e z v' (L++ [ds]).length (xs++vs):=by rw[List.length_append];exact hown
  refine⟨xs++vs,own4,pv,zdN L ds _ z xs vs (Rdss.move L _ _ z xs R1 (fun b hb hl=>⟨same b hl hb.2,hb.1,nv b hl hb.2⟩)) (Rds.move ds _ _ vs hd (fun b hb hl=>?_)) ((zc6 _ _ _ hd).trans hz)⟩;have q1:v.ownBlock≠some b:=fun e=>by have:=hv b e;omega
  exact⟨same b hl q1,by omega,nv b hl q1⟩
end Q
end Go.Proofs.YtpmaonkelkmhbaaGreat
namespace Go.Proofs.YtpmaonkelkmhbaaGreat
open Go.RowKit
set_option linter.unusedVariables false
set_option linter.unusedSimpArgs false
def ati (ad:Addr) (j:Nat):Addr:=if j=0 then ad else⟨ad.block,ad.off+j,none⟩
theorem zgk (b o j:Nat):ati ⟨b,o,none⟩ j=⟨b,o+j,none⟩:=by
 unfold ati
 split
 ·rename_i h;subst h;rfl
 ·rfl
mutual
def Rv (w:World):D→Value→Prop
 | .val v,u=>u=v
 | .row e z L,u=>∃ a cap,u= .slice a L.length cap∧L.length≤cap∧Rvss w a z L 0
def Rvs (w:World):List D→List Value→Prop
 | [],us=>us= []
 |d :: ds,us=>∃ u vs,us=u :: vs∧Rv w d u∧Rvs w ds vs
def Rvss (w:World) (a:Option Addr) (z:Nat):List (List D)→Nat→Prop
 | [],k=>True
 |ds :: L,k=>(∃ ad us,a=some ad∧ad.block<w.heap.size∧Rvs w ds us∧us.length=z∧∀ j u,us[j]? =some u→w.cell? (ati (ad.add (k * z)) j)=some u)∧Rvss w a z L (k+1)
end
mutual
theorem Rv.keep {w w':World} (h:Keep w w'):∀(d:D) (u:Value),Rv w d u→Rv w' d u
 | .val v,u,h1=>h1
 | .row e z L,u,h1=>by
  simp only[Rv]at h1 ⊢;obtain⟨a,cap,h0,hc,h2⟩:=h1;exact⟨a,cap,h0,hc,Rvss.keep h a z L 0 h2⟩
theorem Rvs.keep {w w':World} (h:Keep w w'):∀(ds:List D) (us:List Value),Rvs w ds us→Rvs w' ds us
 | [],us,h1=>h1
 |d :: ds,us,h1=>by
  simp only[Rvs]at h1 ⊢;obtain⟨u,vs,h0,h2,h3⟩:=h1;exact⟨u,vs,h0,Rv.keep h d u h2,Rvs.keep h ds vs h3⟩
theorem Rvss.keep {w w':World} (h:Keep w w') (a:Option Addr) (z:Nat):∀(L:List (List D)) (k:Nat),Rvss w a z L k→Rvss w' a z L k
 | [],k,h1=>trivial
 |ds :: L,k,h1=>by
  simp only[Rvss]at h1 ⊢;obtain⟨⟨ad,us,h0,hb,h2,h3,h4⟩,h5⟩:=h1;exact⟨⟨ad,us,h0,Nat.lt_of_lt_of_le hb h.size,Rvs.keep h ds us h2,h3,fun j u hu=>Q.kcell h (h4 j u hu)⟩,Rvss.keep h a z L (k+1) h5⟩
end
theorem zaI {w:World} {a:Option Addr} {z:Nat} :∀(L:List (List D)) (k:Nat),Rvss w a z L k→∀ i,i<L.length→∃ ad us,a=some ad∧ad.block<w.heap.size∧Rvs w (L.getD i []) us∧us.length=z∧∀ j u,us[j]? =some u→w.cell? (ati (ad.add ((k+i) * z)) j)=some u
 | [],k,h,i,hi=>by simp at hi
 |ds :: L,k,h,i,hi=>by
  simp only[Rvss]at h;cases i with
  |zero=>obtain⟨⟨ad,us,h0,hb,h2,h3,h4⟩,_⟩:=h;exact⟨ad,us,h0,hb,by simpa using h2,h3,by simpa using h4⟩
  |succ i=>
   obtain⟨ad,us,h0,hb,h2,h3,h4⟩:=zaI L (k+1) h.2 i (by simpa using hi);refine⟨ad,us,h0,hb,by simpa using h2,h3,fun j u hu=>?_⟩;rw[show k+(i+1)=k+1+i by omega];exact h4 j u hu
mutual
theorem Rd.rv {w:World} :∀(d:D) (P:Nat→Prop) (u:Value),Rd w d P u→Rv w d u
 | .val v,P,u,h=>by simp only[Rd]at h;simp only[Rv];exact h.1
 | .row e z L,P,u,h=>by
  simp only[Rd]at h;simp only[Rv];obtain⟨xs,h1,h2,h3⟩:=h;rcases h1.2 with ⟨rfl,h0⟩|⟨g,cap,cur,rfl,hb,hg,hc,hm,hs,ht⟩
  ·have:L= []:=List.eq_nil_of_length_eq_zero h0;subst this;exact⟨none,0,rfl,Nat.le_refl _,trivial⟩
  ·refine⟨some ⟨g,0,none⟩,cap,rfl,hc,Rdss.rv L _ z xs g 0 (Array.getElem?_eq_some_iff.1 hg).1 h3 (fun j u hu=>?_)⟩;rw[← ht]at hu;have hlt:j<xs.length:=by rw[← ht];exact(List.getElem?_eq_some_iff.1 hu).1
   simp only[World.cell?,hg];rw[Nat.zero_mul,Nat.zero_add];have:(cur.toList.take (L.length * z))[j]? =some u:=hu;rw[List.getElem?_take]at this;split at this
   ·simpa using this
   ·cases this
theorem Rds.rv {w:World} :∀(ds:List D) (P:Nat→Prop) (us:List Value),Rds w ds P us→Rvs w ds us
 | [],P,us,h=>by simp only[Rds]at h;simp only[Rvs];exact h
 |d :: ds,P,us,h=>by
  simp only[Rds]at h;simp only[Rvs];obtain⟨v,vs,h0,h1,h2⟩:=h;exact⟨v,vs,h0,Rd.rv d P v h1,Rds.rv ds P vs h2⟩
theorem Rdss.rv {w:World} :∀(L:List (List D)) (P:Nat→Prop) (z:Nat) (xs:List Value) (g k:Nat),g<w.heap.size→Rdss w L P z xs→(∀ j u,xs[j]? =some u→w.cell? ⟨g,k * z+j,none⟩=some u)→Rvss w (some ⟨g,0,none⟩) z L k
 | [],P,z,xs,g,k,hg,h,hx=>trivial
 |ds :: L,P,z,xs,g,k,hg,h,hx=>by
  simp only[Rdss]at h;simp only[Rvss];obtain⟨ys,zs,rfl,h1,h2,h3⟩:=h;refine⟨⟨⟨g,0,none⟩,ys,rfl,hg,Rds.rv ds P ys h2,h1,fun j u hu=>?_⟩,Rdss.rv L P z zs g (k+1) hg h3 (fun j u hu=>?_)⟩
  ·rw[zaP,zgk,Nat.zero_add];exact hx j u (by rw[List.getElem?_append_left (List.getElem?_eq_some_iff.1 hu).1];exact hu)
  ·have:=hx (z+j) u (by rw[List.getElem?_append_right (by omega),h1,Nat.add_sub_cancel_left];exact hu);rw[show(k+1) * z+j=k * z+(z+j) by rw[Nat.add_mul];omega];exact this
end
def slA (w:World) (ad:Addr):Option Addr:=match w.cell? ad with|some (.slice a _ _)=>a| _=>none
def slN (w:World) (ad:Addr):Nat:=match w.cell? ad with|some (.slice _ n _)=>n| _=>0
def slC (w:World) (ad:Addr):Nat:=match w.cell? ad with|some (.slice _ _ c)=>c| _=>0
def fS:D→ByteArray
 | .val (.string s)=>s
 | _=>⟨#[]⟩
def fI:D→Int
 | .val (.int .i64 n)=>n
 | _=>0
def fB:D→Bool
 | .val (.bool b)=>b
 | _=>false
def fL:D→List (List D)
 | .row _ _ L=>L
 | _=> []
end Go.Proofs.YtpmaonkelkmhbaaGreat
namespace Go.Proofs.YtpmaonkelkmhbaaGreat
open Go.ChangeShapes Go.WideShapes Go.ChangeAt Go.RowKit Go.Joins
open Go.WideMaps Go.WideElems
open Go.ChangeMaps (open_string shut_string)
set_option linter.unusedVariables false
set_option maxRecDepth 10000
theorem zgl {α:Type} {P:Nat→α→Prop} (z:α):∀ n,(∀ i,i<n→∃ p,P i p)→∃ L:List α,L.length=n∧∀ i,i<n→P i (L.getD i z)
 |0,_=>⟨[],rfl,fun i h=>by omega⟩
 |n+1,h=>by
  obtain⟨L,h1,h2⟩:=zgl z n (fun i hi=>h i (by omega));obtain⟨p,hp⟩:=h n (by omega);refine⟨L++ [p],by simp[h1],fun i hi=>?_⟩;by_cases hin:i<n
  ·have:=h2 i hin;rw[List.getD_eq_getElem?_getD,List.getElem?_append_left (by omega),← List.getD_eq_getElem?_getD];exact this
  ·have:i=n:=by omega
   subst this;rw[List.getD_eq_getElem?_getD,List.getElem?_append_right (by omega),h1];simpa using hp
theorem zdO {α β:Type} {f:α→Option β} {l:List α} {r:List β} (h:l.mapM f=some r) (i:Nat) (a:α) (ha:l[i]? =some a):∃ b,r[i]? =some b∧f a=some b:=Lib.mapM_at h i a ha
theorem zou (s:ByteArray):sv s.data.toList=s:=by simp[sv]
end Go.Proofs.YtpmaonkelkmhbaaGreat
