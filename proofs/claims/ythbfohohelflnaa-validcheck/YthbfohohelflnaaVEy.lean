/- Layer 7's example: its text, its tree, what Check answers of it, unchanged and changed. -/
import Derived.Test.YthbfohohelflnaaVTc
import Derived.Test.YthbfohohelflnaaQParse
import Derived.Test.YthbfohohelflnaaSRow
import Derived.Test.YthbfohohelflnaaNOpn
namespace Go.Proofs.Ythbfohohelflnaa
open Go.RowKit
set_option linter.unusedVariables false
set_option linter.unusedSimpArgs false
set_option maxRecDepth 100000
namespace V
open S
def sm7:List UInt8:= [99,121,99,108,101,32,51,48,32,116,111,32,50,48,48,32,98,121,32,49,48,59,32,112,101,97,107,32,57,47,49,48,59,32,110,111,100,101,32,97,32,123,32,104,101,97,100,32,110,32]++([118,111,108,117,109,101,32,52,48,48,32,102,108,111,119,32,49,56,48,48,32,117,115,101,32,49,47,49,32,115,112,101,101,100,32,49,53,48,48,32,103,114,97,100,101,32,48,32,119,105]++([100,116,104,32,49,56,48,48,32,108,101,110,103,116,104,32,54,48,48,32,103,114,101,101,110,32,49,48,59,32,104,101,97,100,32,101,32,118,111,108,117,109,101,32,51,48,48,32,102,108]++([111,119,32,49,55,48,48,32,117,115,101,32,49,47,49,32,115,112,101,101,100,32,49,48,48,48,32,103,114,97,100,101,32,45,50,48,32,119,105,100,116,104,32,50,48,48,48,32,108,101]++([110,103,116,104,32,54,48,48,32,103,114,101,101,110,32,56,59,32,119,97,108,107,32,119,32,119,105,116,104,32,112,32,108,111,110,103,32,51,48,48,32,112,97,99,101,32,49,50,48,32]++([108,101,97,115,116,32,53,59,32,112,104,97,115,101,32,112,58,32,110,59,32,112,104,97,115,101,32,113,58,32,101,59,32,103,114,111,117,112,32,123,32,114,105,110,103,32,102,114,101,101]++([32,112,44,32,113,59,32,125,32,102,111,101,32,110,32,101,59,32,125,32,97,114,116,101,114,121,32,123,32,115,116,111,112,32,97,32,111,117,116,32,110,32,105,110,32,110,32,97,104,101]++([97,100,32,48,32,98,97,99,107,32,48,59,32,119,101,105,103,104,116,115,32,49,32,49,59,32,125])))))))
def t7:List D:= [dI 30,dI 200,dI 10,dI 9,dI 10,.row 40 7 [[dS [97],.row 59 11 [[dS [110],dI 400,dI 1800,dI 1,dI 1,dI 1500,dI 0,dI 1800,dI 600,dI 10,dI 48],[dS [101],dI 300,dI 1700,dI 1,dI 1,dI 1000,dI (-20),dI 2000,dI 600,dI 8,dI 135]],.row 61 6 [[dS [119],dS [112],dI 300,dI 120,dI 5,dI 223]],.row 57 3 [[dS [112],.row 9 1 [[dS [110]]],dI 265],[dS [113],.row 9 1 [[dS [101]]],dI 277]],.row 64 1 [[.row 66 2 [[dB true,.row 9 1 [[dS [112]],[dS [113]]]]]]],.row 68 3 [[dS [110],dS [101],dI 313]],dI 39]],.row 43 6 [[dS [97],dS [110],dS [110],dI 0,dI 0,dI 334]],dI 1,dI 1]
def t7x:List D:= [dI 30,dI 200,dI 10,dI 9,dI 10,.row 40 7 [[dS [97],.row 59 11 [[dS [110],dI 400,dI 1800,dI 1,dI 1,dI 1500,dI 0,dI 1800,dI 600,dI 10,dI 48],[dS [101],dI 300,dI 1700,dI 1,dI 1,dI 1000,dI (-20),dI 2000,dI 600,dI 8,dI 135]],.row 61 6 [[dS [119],dS [112],dI 300,dI 120,dI 5,dI 223]],.row 57 3 [[dS [112],.row 9 1 [[dS [110]]],dI 265],[dS [113],.row 9 1 [[dS [110]]],dI 277]],.row 64 1 [[.row 66 2 [[dB true,.row 9 1 [[dS [112]],[dS [113]]]]]]],.row 68 3 [[dS [110],dS [101],dI 313]],dI 39]],.row 43 6 [[dS [97],dS [110],dS [110],dI 0,dI 0,dI 334]],dI 1,dI 1]
def t70:List D:= [dI 1,dI 1,dI 1,dI 1,dI 1,.row 40 7 [],.row 43 6 [],dI 0,dI 0]
theorem ze8:sm7.length=377:=by decide
theorem zjZ:N sm7= .ok t7:=by kernel_rfl
theorem zlj:zeX t7=(0,0):=by kernel_rfl
theorem zkV:zeX t7x=(71,277):=by kernel_rfl
theorem zkW:zeX t70=(73,0):=by kernel_rfl
theorem zj0:nI (fL (gt t7x 5)) [98]= -1:=by kernel_rfl
theorem zim (v:Value) (w:World) (h:By w v sm7):Calls Try.prog 34 #[v] w (Q.Pp (.ok t7) w):=by
 cases hT:T sm7 with
 |error x=>
  have eN:N sm7= .error (x.1,(x.2:Int)):=by unfold N;rw[hT]
  rw[zjZ]at eN;cases eN
 |ok L=>
  have eN:N sm7=Q.fstE (zf5 L):=by
   unfold N;rw[hT]
   show(match zf5 L with| .error x=>Except.error x| .ok (c,_)=>Except.ok c)=_;rcases zf5 L with x|⟨c,r⟩<;>rfl
  rw[← zjZ,eN];refine Q.parse_ok v L w (hide (Q.T_wq (by rw[ze8];decide) hT)) (hide fun w' hk=>?_);have:=zeD v sm7 w' (by rw[ze8];decide) (h.keep hk);rwa[hT]at this
end V
end Go.Proofs.Ythbfohohelflnaa
namespace Go.Proofs.Ythbfohohelflnaa
open Go.RowKit
set_option linter.unusedVariables false
set_option linter.unusedSimpArgs false
set_option maxRecDepth 10000
namespace V
open S
def fx (X:List UInt8):List (List D)→Bool
 |(.val (.string t) :: _) :: _=>t.data.toList !=X
 | _=>false
mutual
def nx (eX:Nat) (X:List UInt8):D→Bool
 | .val _=>true
 | .row e _ L=>(e !=eX || fx X L)&&zko eX X L
def nxs (eX:Nat) (X:List UInt8):List D→Bool
 | []=>true
 |d :: ds=>nx eX X d&&nxs eX X ds
def zko (eX:Nat) (X:List UInt8):List (List D)→Bool
 | []=>true
 |ds :: L=>nxs eX X ds&&zko eX X L
end
theorem zj1 {w:World} {eX e z g:Nat} {X:List UInt8} {L:List (List D)} {cur:Array Value} {u:Value} {xs:List Value} {P:Nat→Prop} (hg:w.heap[g]? =some (.cells cur eX (0,0))) (hc:cur[0]? =some (.string (sv X)))
  (h1:w.ownsRow 0 e z u L.length xs) (h3:Rdss w L P z xs) (hn:(e !=eX || fx X L)=true):u.ownBlock≠some g:=by
 intro hu
 rcases h1.2 with ⟨rfl,_⟩|⟨g',cap,cur',rfl,hb,hgg,hcap,hm,hs,ht⟩
 ·cases hu
 ·simp only[Value.ownBlock,Option.some.injEq]at hu;subst hu;rw[hg]at hgg;simp only[Option.some.injEq,Obj.cells.injEq]at hgg;obtain⟨rfl,rfl,_⟩:=hgg;simp only[bne_self_eq_false,Bool.false_or]at hn
  match L,hn with
  |(.val (.string t) :: ds) :: L',hn=>
   simp only[Rdss]at h3;obtain⟨ys,zs,rfl,e1,e2,_⟩:=h3;simp only[Rds]at e2;obtain⟨v,vs,rfl,e3,_⟩:=e2;simp only[Rd]at e3;obtain⟨rfl,_⟩:=e3;have h0:(cur.toList.take ((((D.val (.string t) :: ds) :: L').length) * z))[0]? =some (.string t):=by rw[ht];rfl
   rw[List.getElem?_take]at h0;split at h0
   ·rw[Array.getElem?_toList,hc]at h0;simp only[Option.some.injEq,Value.string.injEq]at h0;subst h0;simp[fx,sv]at hn
   ·cases h0
mutual
theorem Rd.excl {w:World} {eX g:Nat} {X:List UInt8} {cur:Array Value} (hg:w.heap[g]? =some (.cells cur eX (0,0))) (hc:cur[0]? =some (.string (sv X))):∀(d:D) (P:Nat→Prop) (u:Value),Rd w d P u→nx eX X d=true→Rd w d (fun b=>P b∧b≠g) u
 | .val v,P,u,h,hn=>h
 | .row e z L,P,u,h,hn=>by
  simp only[nx,Bool.and_eq_true]at hn;simp only[Rd]at h ⊢;obtain⟨xs,h1,h2,h3⟩:=h;have hne:=zj1 hg hc h1 h3 (by simpa using hn.1);refine⟨xs,h1,fun q hq=>⟨h2 q hq,fun e=>hne (by rw[hq,e])⟩,?_⟩;have:=Rdss.excl hg hc L _ z xs h3 hn.2;exact Rdss.move L _ _ z xs this (fun b hb _=>⟨rfl,⟨hb.1.1,hb.2⟩,hb.1.2⟩)
theorem Rds.excl {w:World} {eX g:Nat} {X:List UInt8} {cur:Array Value} (hg:w.heap[g]? =some (.cells cur eX (0,0))) (hc:cur[0]? =some (.string (sv X))):∀(ds:List D) (P:Nat→Prop) (us:List Value),Rds w ds P us→nxs eX X ds=true→Rds w ds (fun b=>P b∧b≠g) us
 | [],P,us,h,hn=>h
 |d :: ds,P,us,h,hn=>by
  simp only[nxs,Bool.and_eq_true]at hn;simp only[Rds]at h ⊢;obtain⟨u,vs,h0,h1,h2⟩:=h;exact⟨u,vs,h0,Rd.excl hg hc d P u h1 hn.1,Rds.excl hg hc ds P vs h2 hn.2⟩
theorem Rdss.excl {w:World} {eX g:Nat} {X:List UInt8} {cur:Array Value} (hg:w.heap[g]? =some (.cells cur eX (0,0))) (hc:cur[0]? =some (.string (sv X))):∀(L:List (List D)) (P:Nat→Prop) (z:Nat) (xs:List Value),Rdss w L P z xs→zko eX X L=true→Rdss w L (fun b=>P b∧b≠g) z xs
 | [],P,z,xs,h,hn=>h
 |ds :: L,P,z,xs,h,hn=>by
  simp only[zko,Bool.and_eq_true]at hn;simp only[Rdss]at h ⊢;obtain⟨ys,zs,h0,h1,h2,h3⟩:=h;exact⟨ys,zs,h0,h1,Rds.excl hg hc ds P ys h2 hn.1,Rdss.excl hg hc L P z zs h3 hn.2⟩
end
end V
namespace V
open S
def tHd:D:= .row 59 11 [[dS [110],dI 400,dI 1800,dI 1,dI 1,dI 1500,dI 0,dI 1800,dI 600,dI 10,dI 48],[dS [101],dI 300,dI 1700,dI 1,dI 1,dI 1000,dI (-20),dI 2000,dI 600,dI 8,dI 135]]
def tPd:D:= .row 61 6 [[dS [119],dS [112],dI 300,dI 120,dI 5,dI 223]]
def tGr:D:= .row 64 1 [[.row 66 2 [[dB true,.row 9 1 [[dS [112]],[dS [113]]]]]]]
def tFo:D:= .row 68 3 [[dS [110],dS [101],dI 313]]
def tSt:D:= .row 43 6 [[dS [97],dS [110],dS [110],dI 0,dI 0,dI 334]]
def tPh (x:List UInt8):D:= .row 57 3 [[dS [112],.row 9 1 [[dS [110]]],dI 265],[dS [113],.row 9 1 [[dS x]],dI 277]]
def tNd (x:List UInt8):List D:= [dS [97],tHd,tPd,tPh x,tGr,tFo,dI 39]
def tN7 (x:List UInt8):List D:= [dI 30,dI 200,dI 10,dI 9,dI 10,.row 40 7 [tNd x],tSt,dI 1,dI 1]
theorem zkX:t7=tN7 [101]:=rfl
theorem zj2:t7x=tN7 [110]:=rfl
theorem zcO {w:World} {e z:Nat} {L:List (List D)} {P:Nat→Prop} {v:Value} (h:Rd w (.row e z L) P v) (hL:0<L.length):∃ g cap cur xs,v= .slice (some ⟨g,0,none⟩) L.length cap∧L.length≤cap∧w.heap[g]? =some (.cells cur e (0,0))∧cur.toList.take (L.length * z)=xs∧Rdss w L (fun b=>P b∧some g≠some b) z xs∧P g:=by
 simp only[Rd]at h;obtain⟨xs,h1,h2,h3⟩:=h;rcases h1.2 with ⟨_,h0⟩|⟨g,cap,cur,rfl,hb,hgg,hcap,hm,hs,ht⟩
 ·omega
 ·exact⟨g,cap,cur,xs,rfl,hcap,hgg,ht,h3,h2 g rfl⟩
theorem zbB {cur:Array Value} {n j:Nat} {xs:List Value} {u:Value} (h:cur.toList.take n=xs) (hu:xs[j]? =some u):cur[j]? =some u:=by
 rw[← h,List.getElem?_take]at hu;split at hu
 ·rwa[Array.getElem?_toList]at hu
 ·cases hu
theorem zbO {w:World} {g j:Nat} {cur:Array Value} {e:Nat} {u:Value} (hg:w.heap[g]? =some (.cells cur e (0,0))) (h:cur[j]? =some u):w.cell? ⟨g,j,none⟩=some u:=by simp[World.cell?,hg,h]
theorem zef {w W:World} {g:Nat} {cur:Array Value} {d:D} {P:Nat→Prop} {u:Value} (hg:w.heap[g]? =some (.cells cur 9 (0,0))) (hc:cur[0]? =some (.string (sv [101]))) (h:Rd w d P u) (hn:nx 9 [101] d=true) (hW:∀ q,q≠g→W.heap[q]? =w.heap[q]?):Rv W d u:=
 Rd.rv d _ u (Rd.move d _ (fun _=>True) u (Rd.excl hg hc d P u h hn) (fun b hb _=>⟨hW b hb.2,trivial⟩))
theorem ze9 {w:World} {g g' e e':Nat} {c c':Array Value} (h:w.heap[g]? =some (.cells c e (0,0))) (h':w.heap[g']? =some (.cells c' e' (0,0))) (hne:e≠e'):g≠g':=by
 rintro rfl;rw[h]at h';simp only[Option.some.injEq,Obj.cells.injEq]at h';exact hne h'.2.1
theorem zfa {W:World} {e z g cap:Nat} {L:List (List D)} {cur:Array Value} (hg:W.heap[g]? =some (.cells cur e (0,0))) (hc:L.length≤cap) (h:∀ i,i<L.length→∃ us,Rvs W (L.getD i []) us∧us.length=z∧∀ j u,us[j]? =some u→cur[i * z+j]? =some u):Rv W (.row e z L) (.slice (some ⟨g,0,none⟩) L.length cap):=by
 simp only[Rv];refine⟨_,cap,rfl,hc,zdg L 0 (fun i hi=>⟨(Array.getElem?_eq_some_iff.1 hg).1,?_⟩)⟩;obtain⟨us,h1,h2,h3⟩:=h i hi;refine⟨us,h1,h2,fun j u hu=>?_⟩;have e:ati ((⟨g,0,none⟩:Addr).add ((0+i) * z)) j=⟨g,i * z+j,none⟩:=by
  rw[show(⟨g,0,none⟩:Addr).add ((0+i) * z)=⟨g,i * z,none⟩ by simp[Addr.add];intro h;exact h.symm,zc1]
 rw[e];exact zbO hg (h3 j u hu)
set_option maxHeartbeats 1000000 in
theorem zlk {w:World} {P:Nat→Prop} {u0 u1 u2 u3 u4:Int} {a5:Option Addr} {n5 c5:Nat} {a6:Option Addr} {n6 c6:Nat} {u7 u8:Int} (h:Rds w t7 P [.int .i64 u0,.int .i64 u1,.int .i64 u2,.int .i64 u3,.int .i64 u4,.slice a5 n5 c5,.slice a6 n6 c6,.int .i64 u7,.int .i64 u8]):
  ∃ gN gP cP gH cH,a5=some ⟨gN,0,none⟩∧n5=1∧gN≠gH∧gP≠gH∧gH<w.heap.size∧w.cell? ⟨gN,3,none⟩=some (.slice (some ⟨gP,0,none⟩) 2 cP)∧w.cell? ⟨gP,4,none⟩=some (.slice (some ⟨gH,0,none⟩) 1 cH)∧w.cell? ⟨gP,5,none⟩=some (.int .i64 277)
   ∧w.cell? ⟨gH,0,none⟩=some (.string (sv [101]))∧w.frozen? ⟨gH,0,none⟩=false∧P gH
   ∧∀ W:World,(∀ q,q≠gH→W.heap[q]? =w.heap[q]?)→(∀ cur t fr,w.heap[gH]? =some (.cells cur t fr)→W.heap[gH]? =some (.cells (cur.setIfInBounds 0 (.string (sv [110]))) t fr))→Rvs W t7x [.int .i64 u0,.int .i64 u1,.int .i64 u2,.int .i64 u3,.int .i64 u4,.slice a5 n5 c5,.slice a6 n6 c6,.int .i64 u7,.int .i64 u8]:=by
 rw[zkX]at h;rw[zj2];simp only[tN7,Rds]at h;obtain⟨_,_,q0,k0,_,_,q1,k1,_,_,q2,k2,_,_,q3,k3,_,_,q4,k4,_,_,q5,k5,_,_,q6,k6,_,_,q7,k7,_,_,q8,k8,q9⟩:=h;simp only[List.cons.injEq]at q0 q1 q2 q3 q4 q5 q6 q7 q8;obtain⟨rfl,rfl⟩:=q0;obtain⟨rfl,rfl⟩:=q1;obtain⟨rfl,rfl⟩:=q2;obtain⟨rfl,rfl⟩:=q3;obtain⟨rfl,rfl⟩:=q4;obtain⟨rfl,rfl⟩:=q5;obtain⟨rfl,rfl⟩:=q6;obtain⟨rfl,rfl⟩:=q7;obtain⟨rfl,rfl⟩:=q8;obtain⟨gN,capN,curN,xN,eN,hcN,hgN,htN,rN,_⟩:=zcO k5 (by decide);simp only[Value.slice.injEq]at eN;obtain⟨rfl,rfl,rfl⟩:=eN;simp only[tNd,Rdss,Rds]at rN;obtain⟨_,_,rfl,lN,⟨_,_,rfl,m0,_,_,rfl,m1,_,_,rfl,m2,v3,_,rfl,m3,_,_,rfl,m4,_,_,rfl,m5,_,_,rfl,m6,rfl⟩,rfl⟩:=rN;obtain⟨gP,capP,curP,xP,rfl,hcP,hgP,htP,rP,_⟩:=zcO m3 (by decide);simp only[Rdss,Rds]at rP;obtain⟨_,_,rfl,lP,⟨_,_,rfl,p0,_,_,rfl,p1,_,_,rfl,p2,rfl⟩,_,_,rfl,lQ,⟨_,_,rfl,p3,_,_,rfl,p4,_,_,rfl,p5,rfl⟩,rfl⟩:=rP;obtain⟨gH,capH,curH,xH,rfl,hcH,hgH,htH,rH,pH⟩:=zcO p4 (by decide);simp only[Rdss,Rds]at rH;obtain⟨_,_,rfl,lH,⟨_,_,rfl,t0,rfl⟩,rfl⟩:=rH;simp only[Rd,dS,dI]at m0 m6 p0 p2 p3 p5 t0 k0 k1 k2 k3 k4 k7 k8;obtain⟨rfl,_⟩:=m0;obtain⟨rfl,_⟩:=m6;obtain⟨rfl,_⟩:=p0;obtain⟨rfl,_⟩:=p2;obtain⟨rfl,_⟩:=p3;obtain⟨rfl,_⟩:=p5;obtain⟨rfl,_⟩:=t0;have cH0:curH[0]? =some (.string (sv [101])):=zbB htH rfl;have nNH:gN≠gH:=ze9 hgN hgH (by decide);have nPH:gP≠gH:=ze9 hgP hgH (by decide);refine⟨gN,gP,capP,gH,capH,rfl,rfl,nNH,nPH,(Array.getElem?_eq_some_iff.1 hgH).1,zbO hgN (zbB htN rfl),zbO hgP (zbB htP rfl),zbO hgP (zbB htP rfl),zbO hgH cH0,by simp[World.frozen?,hgH],pH.1.1,fun W hW hW2=>?_⟩;have hN':=(hW gN nNH).trans hgN;have hP':=(hW gP nPH).trans hgP;have hH':=hW2 _ _ _ hgH;have sz:0<curH.size:=by
  rcases Nat.lt_or_ge 0 curH.size with h|h
  ·exact h
  ·rw[Array.getElem?_eq_none h]at cH0;cases cH0
 have rvH:Rv W (.row 9 1 [[dS [110]]]) (.slice (some ⟨gH,0,none⟩) 1 capH):=zfa hH' hcH (fun i hi=>by
  have:i=0:=by simp at hi;omega
  subst this;refine⟨[.string (sv [110])],by simp only[List.getD_cons_zero,Rvs,Rv,dS];exact⟨_,_,rfl,rfl,rfl⟩,rfl,fun j u hu=>?_⟩;have hj:j=0:=by
   cases j with
   |zero=>rfl
   |succ j=>simp at hu
  subst hj;simp only[List.getElem?_cons_zero,Option.some.injEq]at hu;subst hu;simp[Array.getElem?_setIfInBounds,sz])
 have rvP:Rv W (tPh [110]) (.slice (some ⟨gP,0,none⟩) 2 capP):=zfa hP' hcP (fun i hi=>by
  have:i=0∨i=1:=by simp at hi;omega
  rcases this with rfl|rfl
  ·refine⟨_,by simp only[List.getD_cons_zero,Rvs];exact⟨_,_,rfl,rfl,_,_,rfl,zef hgH cH0 p1 (by decide) hW,_,_,rfl,rfl,rfl⟩,rfl,fun j u hu=>zbB htP ?_⟩;rw[Nat.zero_mul,Nat.zero_add,List.getElem?_append_left (by
    rcases Nat.lt_or_ge j 3 with h|h
    ·exact h
    ·rw[List.getElem?_eq_none (by simpa using h)]at hu;cases hu)]
   exact hu
  ·refine⟨_,by simp only[List.getD_cons_zero,List.getD_cons_succ,Rvs];exact⟨_,_,rfl,rfl,_,_,rfl,rvH,_,_,rfl,rfl,rfl⟩,rfl,fun j u hu=>zbB htP ?_⟩;rw[List.getElem?_append_right (by simp)];simpa using hu)
 simp only[tN7,Rvs];refine⟨_,_,rfl,k0.1,_,_,rfl,k1.1,_,_,rfl,k2.1,_,_,rfl,k3.1,_,_,rfl,k4.1,_,_,rfl,?_,_,_,rfl,zef hgH cH0 k6 (by decide) hW,_,_,rfl,k7.1,_,_,rfl,k8.1,rfl⟩;refine zfa hN' hcN (fun i hi=>?_);have:i=0:=by simp at hi;omega
 subst this;refine⟨_,by simp only[List.getD_cons_zero,tNd,Rvs];exact⟨_,_,rfl,rfl,_,_,rfl,zef hgH cH0 m1 (by decide) hW,_,_,rfl,zef hgH cH0 m2 (by decide) hW,_,_,rfl,rvP,_,_,rfl,zef hgH cH0 m4 (by decide) hW,_,_,rfl,zef hgH cH0 m5 (by decide) hW,_,_,rfl,rfl,rfl⟩,rfl,fun j u hu=>zbB htN ?_⟩;rw[Nat.zero_mul,Nat.zero_add];simpa using hu
end V
end Go.Proofs.Ythbfohohelflnaa
