/- The words of a network that is right: no more braces are open than there may be, and they are not too long. -/
import Derived.Test.YthceiikgecoimaaGreatDoorSNum
import Derived.Lib.ItoaLen
import Derived.Test.YthceiikgecoimaaGreatDoorSPrs
import Derived.Test.YthceiikgecoimaaGreatDoorLVal
import Derived.Deep.DrawnRows
import Derived.Deep.RegionHeld
namespace Go.Proofs.YthceiikgecoimaaGreatDoor
open Go.RowKit
set_option linter.unusedVariables false
set_option linter.unusedSimpArgs false
set_option maxRecDepth 10000
namespace S
def Bal (x:Int) (ws:List (List UInt8)) (y:Int):Prop:=∀ st:St,st.op=x->oks st ws/\(pss st ws).op=y
theorem za4 (x:Int):Bal x [] x:=λst h=>⟨trivial,h⟩
theorem Bal.append {x y z:Int} {a c:List (List UInt8)} (h:Bal x a y) (k:Bal y c z):Bal x (a++c) z:=λst e=>by
 obtain⟨h1,h2⟩:=h st e;obtain⟨k1,k2⟩:=k (pss st a) h2;exact⟨(zaA a c st).2 ⟨h1,k1⟩,by rw[<- zaF];exact k2⟩
def Pl (w:List UInt8):Prop:=w≠ [123]/\w≠ [125]
theorem zal {x:Int} {w:List UInt8} {ws:List (List UInt8)} {y:Int} (h0:0<=x) (h2:x<=2) (h:Pl w) (k:Bal x ws y):Bal x (w :: ws) y:=by
 have:Bal x [w] x:=λst e=>by
  have e1:op1 st.op w=x:=by unfold op1;rw[if_neg h.2,e]
  refine⟨⟨⟨by rw[e1];exact h0,by rw[e1];exact h2⟩,trivial⟩,?_⟩;show(ps st w).op=x;unfold ps
  rw[if_neg h.1];split<;>exact e1
 exact Bal.append this k
theorem zjL {x:Int} {ws:List (List UInt8)} {y:Int} (h0:0<=x) (h2:x<=2) (k:Bal (x+1) ws y):Bal x ([123] :: ws) y:=by
 have:Bal x [[123]] (x+1):=λst e=>by
  have e1:op1 st.op [123]=x:=by unfold op1;rw[if_neg (by decide),e]
  refine⟨⟨⟨by rw[e1];exact h0,by rw[e1];exact h2⟩,trivial⟩,?_⟩;show(ps st [123]).op=x+1;unfold ps
  rw[if_pos rfl,e1]
 exact Bal.append this k
theorem zgG {x:Int} {ws:List (List UInt8)} {y:Int} (h0:1<=x) (h2:x<=3) (k:Bal (x - 1) ws y):Bal x ([125] :: ws) y:=by
 have:Bal x [[125]] (x - 1):=λst e=>by
  have e1:op1 st.op [125]=x - 1:=by unfold op1;rw[if_pos rfl,e]
  refine⟨⟨⟨by rw[e1];omega,by rw[e1];omega⟩,trivial⟩,?_⟩;show(ps st [125]).op=x - 1;unfold ps
  rw[if_neg (by decide),if_pos (.inl rfl),e1]
 exact Bal.append this k
theorem zb4 {x:Int} {f:List D->List (List UInt8)} :∀(L:List (List D)),(∀ d∈L,Bal x (f d) x)->Bal x (L.flatMap f) x
 | [],_=>za4 x
 |d :: L,h=>by rw[List.flatMap_cons];exact(h d List.mem_cons_self).append (zb4 L (λy hy=>h y (List.mem_cons_of_mem _ hy)))
theorem zfG {s:List UInt8} {k n:Int} {c:UInt8} (h:Gs s k n) (hk:k≠3) (hc:kd c.toNat=7):s≠ [c]:=by
 rintro rfl;have h1:=h.2.1;simp only[one]at h1;rw[if_neg (by omega),if_neg (by omega),if_pos hc]at h1;simp only[Except.ok.injEq,Tok.mk.injEq]at h1;exact hk h1.1.symm
theorem zbh {s:List UInt8} (h:nmB s=true):Pl s:=⟨zfG (zld (ze5 h).1) (by decide) (by decide),zfG (zld (ze5 h).1) (by decide) (by decide)⟩
theorem zbb {n:Int} (h:nuB n=true):Pl (dg n):=⟨zfG (ze6 h) (by decide) (by decide),zfG (ze6 h) (by decide) (by decide)⟩
theorem zri {n:Int} (h:grB n=true):Pl (dg n):=by
 by_cases h0:n<0
 ·rw[zmi h0];exact⟨by simp,by simp⟩
 ·exact zbb (by unfold nuB;have:=of_decide_eq_true h;exact decide_eq_true ⟨by omega,by omega⟩)
theorem zbq {s:List UInt8} (h:nmB s=true):s.length<=24:=by
 have g:=zld (ze5 h).1;rcases(zcS g.2.1).2 with ⟨_,e⟩|⟨_,_,_,e1,_,e2⟩
 ·simp at e
 ·have:s.length=en s:=e1;omega
theorem zbx {n:Int} (h:grB n=true):(dg n).length<=21:=Lib.itoa_length_le n (by have:=of_decide_eq_true h;omega) (by have:=of_decide_eq_true h;omega)
theorem zcA {n:Int} (h:nuB n=true):grB n=true:=by unfold nuB at h;unfold grB;have:=of_decide_eq_true h;exact decide_eq_true ⟨by omega,by omega⟩
theorem zbc (w:List UInt8) (ws:List (List UInt8)):zbs (w :: ws)=w.length+8+zbs ws:=by simp[zbs]
theorem zbr:zbs []=0:=rfl
theorem zbL {f:List D->List (List UInt8)} {B:Nat} :∀(L:List (List D)),(∀ d∈L,zbs (f d)<=B)->zbs (L.flatMap f)<=L.length * B
 | [],_=>by simp[zbs]
 |d :: L,h=>by
  rw[List.flatMap_cons,zan,List.length_cons,Nat.succ_mul];have h1:=h d List.mem_cons_self;have h2:=zbL L (λy hy=>h y (List.mem_cons_of_mem _ hy));omega
theorem zjM:∀ {l:List (List UInt8)} {m:Nat},(∀ s∈l,nmB s=true)->l.length<=m->zbs (lw l)<=41 * m+9
 | [],m,_,_=>by simp[lw,zbs]
 |s :: l,m,h,hm=>by
  have key:∀ l:List (List UInt8),(∀ s∈l,nmB s=true)->zbs (l.flatMap (λx=> [[44],x]))<=41 * l.length:=by
   intro l
   induction l with
   |nil=>intro _;simp[zbs]
   |cons a l ih=>
    intro h
    rw[List.flatMap_cons,zan,zbc,zbc,zbr,List.length_cons];have:=zbq (h a List.mem_cons_self);have:=ih (λy hy=>h y (List.mem_cons_of_mem _ hy));simp only[List.length_cons,List.length_nil];omega
  have:=key l (λy hy=>h y (List.mem_cons_of_mem _ hy));have:=zbq (h s List.mem_cons_self);rw[lw,zbc,zan,zbc,zbr];simp only[List.length_cons,List.length_nil]at hm |-;omega
theorem zmp {x:Int} (h0:0<=x) (h2:x<=2) {l:List (List UInt8)} (h:∀ s∈l,nmB s=true):Bal x (lw l) x:=by
 cases l with
 |nil=>exact zal h0 h2 ⟨by decide,by decide⟩ (za4 x)
 |cons s l=>
  have key:∀ l:List (List UInt8),(∀ s∈l,nmB s=true)->Bal x (l.flatMap (λx=> [[44],x])) x:=by
   intro l
   induction l with
   |nil=>intro _;exact za4 x
   |cons a l ih=>
    intro h
    rw[List.flatMap_cons];exact(zal h0 h2 ⟨by decide,by decide⟩ (zal h0 h2 (zbh (h a List.mem_cons_self)) (za4 x))).append (ih (λy hy=>h y (List.mem_cons_of_mem _ hy)))
  rw[lw];exact zal h0 h2 (zbh (h s List.mem_cons_self)) ((key l (λy hy=>h y (List.mem_cons_of_mem _ hy))).append (zal h0 h2 ⟨by decide,by decide⟩ (za4 x)))
theorem zlk {ds:List D} (h:zeS ds=true):Bal 1 (zcO ds) 1:=by
 have n0:=zaH h;have v6:=zaH (zak h);have hv:=zak (zak h);obtain⟨v1,hv⟩:=zaf hv;obtain⟨v2,hv⟩:=zaf hv;obtain⟨v3,hv⟩:=zaf hv;obtain⟨v4,hv⟩:=zaf hv;obtain⟨v5,hv⟩:=zaf hv;obtain⟨v7,hv⟩:=zaf hv;obtain⟨v8,hv⟩:=zaf hv;obtain⟨v9,hv⟩:=zaf hv;exact(zal (by decide) (by decide) ⟨by decide,by decide⟩ (zal (by decide) (by decide) (zbh n0) (zal (by decide) (by decide) ⟨by decide,by decide⟩ (zal (by decide) (by decide) (zbb v1) (zal (by decide) (by decide) ⟨by decide,by decide⟩ (zal (by decide) (by decide) (zbb v2) (zal (by decide) (by decide) ⟨by decide,by decide⟩ (zal (by decide) (by decide) (zbb v3) (zal (by decide) (by decide) ⟨by decide,by decide⟩ (zal (by decide) (by decide) (zbb v4) (zal (by decide) (by decide) ⟨by decide,by decide⟩ (zal (by decide) (by decide) (zbb v5) (zal (by decide) (by decide) ⟨by decide,by decide⟩ (zal (by decide) (by decide) (zri v6) (zal (by decide) (by decide) ⟨by decide,by decide⟩ (zal (by decide) (by decide) (zbb v7) (zal (by decide) (by decide) ⟨by decide,by decide⟩ (zal (by decide) (by decide) (zbb v8) (zal (by decide) (by decide) ⟨by decide,by decide⟩ (zal (by decide) (by decide) (zbb v9) (zal (by decide) (by decide) ⟨by decide,by decide⟩ (za4 _))))))))))))))))))))))
theorem zjN {ds:List D} (h:zeS ds=true):zbs (zcO ds)<=800:=by
 have n0:=zaH h;have v6:=zaH (zak h);have hv:=zak (zak h);obtain⟨v1,hv⟩:=zaf hv;obtain⟨v2,hv⟩:=zaf hv;obtain⟨v3,hv⟩:=zaf hv;obtain⟨v4,hv⟩:=zaf hv;obtain⟨v5,hv⟩:=zaf hv;obtain⟨v7,hv⟩:=zaf hv;obtain⟨v8,hv⟩:=zaf hv;obtain⟨v9,hv⟩:=zaf hv;have a0:=zbq n0;have c1:=zbx (zcA v1);have c2:=zbx (zcA v2);have c3:=zbx (zcA v3);have c4:=zbx (zcA v4);have c5:=zbx (zcA v5);have c6:=zbx v6;have c7:=zbx (zcA v7);have c8:=zbx (zcA v8);have c9:=zbx (zcA v9);simp only[zcO,hw,zan,zbc,zbr,List.length_cons,List.length_nil];omega
theorem zll {ds:List D} (h:zfs ds=true):Bal 1 (zdW ds) 1:=by
 have n0:=zaH h;have n1:=zaH (zak h);have hv:=zak (zak h);obtain⟨v2,hv⟩:=zaf hv;obtain⟨v3,hv⟩:=zaf hv;obtain⟨v4,hv⟩:=zaf hv;exact(zal (by decide) (by decide) ⟨by decide,by decide⟩ (zal (by decide) (by decide) (zbh n0) (zal (by decide) (by decide) ⟨by decide,by decide⟩ (zal (by decide) (by decide) (zbh n1) (zal (by decide) (by decide) ⟨by decide,by decide⟩ (zal (by decide) (by decide) (zbb v2) (zal (by decide) (by decide) ⟨by decide,by decide⟩ (zal (by decide) (by decide) (zbb v3) (zal (by decide) (by decide) ⟨by decide,by decide⟩ (zal (by decide) (by decide) (zbb v4) (zal (by decide) (by decide) ⟨by decide,by decide⟩ (za4 _))))))))))))
theorem zjO {ds:List D} (h:zfs ds=true):zbs (zdW ds)<=400:=by
 have n0:=zaH h;have n1:=zaH (zak h);have hv:=zak (zak h);obtain⟨v2,hv⟩:=zaf hv;obtain⟨v3,hv⟩:=zaf hv;obtain⟨v4,hv⟩:=zaf hv;have a0:=zbq n0;have a1:=zbq n1;have c2:=zbx (zcA v2);have c3:=zbx (zcA v3);have c4:=zbx (zcA v4);simp only[zdW,zan,zbc,zbr,List.length_cons,List.length_nil];omega
theorem zoV {ds:List D} (h:zk4 ds=true):Bal 1 (zhM ds) 1:=by
 have n0:=zaH h;have n1:=zak h;exact(zal (by decide) (by decide) ⟨by decide,by decide⟩ (zal (by decide) (by decide) (zbh n0) (zal (by decide) (by decide) (zbh n1) (zal (by decide) (by decide) ⟨by decide,by decide⟩ (za4 _)))))
theorem zlm {ds:List D} (h:zk4 ds=true):zbs (zhM ds)<=160:=by
 have n0:=zaH h;have n1:=zak h;have a0:=zbq n0;have a1:=zbq n1;simp only[zhM,zan,zbc,zbr,List.length_cons,List.length_nil];omega
theorem zln {ds:List D} (h:zeU ds=true):Bal 1 (zdX ds) 1:=by
 have n0:=zaH h;have n1:=zaH (zak h);have n2:=zaH (zak (zak h));have hv:=zak (zak (zak h));obtain⟨v3,hv⟩:=zaf hv;obtain⟨v4,hv⟩:=zaf hv;exact(zal (by decide) (by decide) ⟨by decide,by decide⟩ (zal (by decide) (by decide) (zbh n0) (zal (by decide) (by decide) ⟨by decide,by decide⟩ (zal (by decide) (by decide) (zbh n1) (zal (by decide) (by decide) ⟨by decide,by decide⟩ (zal (by decide) (by decide) (zbh n2) (zal (by decide) (by decide) ⟨by decide,by decide⟩ (zal (by decide) (by decide) (zbb v3) (zal (by decide) (by decide) ⟨by decide,by decide⟩ (zal (by decide) (by decide) (zbb v4) (zal (by decide) (by decide) ⟨by decide,by decide⟩ (za4 _))))))))))))
theorem zjP {ds:List D} (h:zeU ds=true):zbs (zdX ds)<=400:=by
 have n0:=zaH h;have n1:=zaH (zak h);have n2:=zaH (zak (zak h));have hv:=zak (zak (zak h));obtain⟨v3,hv⟩:=zaf hv;obtain⟨v4,hv⟩:=zaf hv;have a0:=zbq n0;have a1:=zbq n1;have a2:=zbq n2;have c3:=zbx (zcA v3);have c4:=zbx (zcA v4);simp only[zdX,zan,zbc,zbr,List.length_cons,List.length_nil];omega
theorem zjQ {ds:List D} (h:zdx ds=true):Bal 1 (zci ds) 1:=by
 have n0:=zaH h;obtain⟨h1,h2,_⟩:=zea (by decide) (zak h);unfold zci
 exact Bal.append (zal (by decide) (by decide) ⟨by decide,by decide⟩ (zal (by decide) (by decide) (zbh n0) (zal (by decide) (by decide) ⟨by decide,by decide⟩ (za4 _)))) (zmp (by decide) (by decide) h2)
theorem zhX {ds:List D} (h:zdx ds=true):zbs (zci ds)<=800:=by
 have a0:=zbq (zaH h);obtain⟨h1,h2,h3⟩:=zea (by decide) (zak h);have:=zjM h2 h3;simp only[zci,zan,zbc,zbr,List.length_cons,List.length_nil];omega
theorem zlo {ds:List D} (h:zeT ds=true):Bal 2 (zdC ds) 2:=by
 obtain⟨h1,h2,_⟩:=zea (by decide) h;unfold zdC rw1
 refine Bal.append (zal (by decide) (by decide) ⟨by decide,by decide⟩ (za4 _)) (Bal.append ?_ (zmp (by decide) (by decide) h2));cases fB (gt ds 0)
 ·exact za4 _
 ·exact(zal (by decide) (by decide) ⟨by decide,by decide⟩ (za4 _))
theorem zjR {ds:List D} (h:zeT ds=true):zbs (zdC ds)<=300:=by
 obtain⟨h1,h2,h3⟩:=zea (by decide) h;have:=zjM h2 h3;unfold zdC rw1
 cases fB (gt ds 0)<;>simp[zan,zbc,zbr]<;>omega
theorem zjS {ds:List D} (h:zdy ds=true):Bal 1 (zbv ds) 1:=by
 obtain⟨_,h3⟩:=zao h;unfold zbv
 exact Bal.append (y:=2) (zal (by decide) (by decide) ⟨by decide,by decide⟩ (zjL (by decide) (by decide) (za4 _))) (Bal.append (zb4 _ λx hx=>zlo (h3 x hx)) (zgG (by decide) (by decide) (za4 _)))
theorem zhY {ds:List D} (h:zdy ds=true):zbs (zbv ds)<=800:=by
 obtain⟨⟨_,h2⟩,h3⟩:=zao h;have:=zbL (f:=zdC) _ λx hx=>zjR (h3 x hx)
 simp only[zbv,zan,zbc,zbr,List.length_cons,List.length_nil];omega
theorem zlp {ds:List D} (h:zeC ds=true):Bal 0 (zco ds) 0:=by
 have n0:=zaH h;obtain⟨⟨_,l1⟩,h1⟩:=zao (zaH (zak h));obtain⟨⟨_,l2⟩,h2⟩:=zao (zaH (zak (zak h)));obtain⟨⟨_,l3⟩,h3⟩:=zao (zaH (zak (zak (zak h))));obtain⟨⟨_,l4⟩,h4⟩:=zao (zaH (zak (zak (zak (zak h)))));obtain⟨⟨_,l5⟩,h5⟩:=zao (zak (zak (zak (zak (zak h)))));unfold zco
 exact Bal.append (y:=1) (zal (by decide) (by decide) ⟨by decide,by decide⟩ (zal (by decide) (by decide) (zbh n0) (zjL (by decide) (by decide) (za4 _)))) (Bal.append (zb4 _ λx hx=>zlk (h1 x hx)) (Bal.append (zb4 _ λx hx=>zll (h2 x hx)) (Bal.append (zb4 _ λx hx=>zjQ (h3 x hx)) (Bal.append (zb4 _ λx hx=>zjS (h4 x hx)) (Bal.append (zb4 _ λx hx=>zoV (h5 x hx)) (zgG (by decide) (by decide) (za4 _)))))))
theorem zjT {ds:List D} (h:zeC ds=true):zbs (zco ds)<=60000:=by
 have n0:=zaH h;obtain⟨⟨_,l1⟩,h1⟩:=zao (zaH (zak h));obtain⟨⟨_,l2⟩,h2⟩:=zao (zaH (zak (zak h)));obtain⟨⟨_,l3⟩,h3⟩:=zao (zaH (zak (zak (zak h))));obtain⟨⟨_,l4⟩,h4⟩:=zao (zaH (zak (zak (zak (zak h)))));obtain⟨⟨_,l5⟩,h5⟩:=zao (zak (zak (zak (zak (zak h)))));have a0:=zbq n0;have c1:=zbL (f:=zcO) _ λx hx=>zjN (h1 x hx)
 have c2:=zbL (f:=zdW) _ λx hx=>zjO (h2 x hx)
 have c3:=zbL (f:=zci) _ λx hx=>zhX (h3 x hx)
 have c4:=zbL (f:=zbv) _ λx hx=>zhY (h4 x hx)
 have c5:=zbL (f:=zhM) _ λx hx=>zlm (h5 x hx)
 simp only[zco,zan,zbc,zbr,List.length_cons,List.length_nil];omega
theorem zoW {ds:List D} (h:zei ds=true):Bal 0 (zeF ds) 0:=by
 have hv:=zaH h;obtain⟨v0,hv⟩:=zaf hv;obtain⟨v1,hv⟩:=zaf hv;obtain⟨v2,hv⟩:=zaf hv;obtain⟨v3,hv⟩:=zaf hv;obtain⟨v4,hv⟩:=zaf hv;obtain⟨v7,hv⟩:=zaf hv;obtain⟨v8,hv⟩:=zaf hv;obtain⟨⟨_,l5⟩,h5⟩:=zao (zaH (zak h));obtain⟨⟨_,l6⟩,h6⟩:=zao (zak (zak h));unfold zeF
 refine Bal.append (zal (by decide) (by decide) ⟨by decide,by decide⟩ (zal (by decide) (by decide) (zbb v0) (zal (by decide) (by decide) ⟨by decide,by decide⟩ (zal (by decide) (by decide) (zbb v1) (zal (by decide) (by decide) ⟨by decide,by decide⟩ (zal (by decide) (by decide) (zbb v2) (zal (by decide) (by decide) ⟨by decide,by decide⟩ (za4 _)))))))) (Bal.append (zal (by decide) (by decide) ⟨by decide,by decide⟩ (zal (by decide) (by decide) (zbb v3) (zal (by decide) (by decide) ⟨by decide,by decide⟩ (zal (by decide) (by decide) (zbb v4) (zal (by decide) (by decide) ⟨by decide,by decide⟩ (za4 _)))))) (Bal.append (zb4 _ λx hx=>zlp (h5 x hx)) ?_));split
 ·unfold zmj
  exact Bal.append (y:=1) (zal (by decide) (by decide) ⟨by decide,by decide⟩ (zjL (by decide) (by decide) (za4 _))) (Bal.append (zb4 _ λx hx=>zln (h6 x hx)) (Bal.append (zal (by decide) (by decide) ⟨by decide,by decide⟩ (zal (by decide) (by decide) (zbb v7) (zal (by decide) (by decide) (zbb v8) (zal (by decide) (by decide) ⟨by decide,by decide⟩ (za4 _))))) (zgG (by decide) (by decide) (za4 _))))
 ·exact za4 _
theorem zhp {ds:List D} (h:zei ds=true):zbs (zeF ds)<=1000000:=by
 have hv:=zaH h;obtain⟨v0,hv⟩:=zaf hv;obtain⟨v1,hv⟩:=zaf hv;obtain⟨v2,hv⟩:=zaf hv;obtain⟨v3,hv⟩:=zaf hv;obtain⟨v4,hv⟩:=zaf hv;obtain⟨v7,hv⟩:=zaf hv;obtain⟨v8,hv⟩:=zaf hv;obtain⟨⟨_,l5⟩,h5⟩:=zao (zaH (zak h));obtain⟨⟨_,l6⟩,h6⟩:=zao (zak (zak h));have c0:=zbx (zcA v0);have c1:=zbx (zcA v1);have c2:=zbx (zcA v2);have c3:=zbx (zcA v3);have c4:=zbx (zcA v4);have c7:=zbx (zcA v7);have c8:=zbx (zcA v8);have d5:=zbL (f:=zco) _ λx hx=>zjT (h5 x hx)
 have d6:=zbL (f:=zdX) _ λx hx=>zjP (h6 x hx)
 unfold zeF zmj
 simp only[zan,zbc,zbr,List.length_cons,List.length_nil];split
 ·simp only[zan,zbc,zbr,List.length_cons,List.length_nil];omega
 ·simp only[zbr];omega
theorem zjU {ds:List D} (h:zei ds=true):oks ⟨[],0,[]⟩ (zeF ds):=(zoW h ⟨[],0,[]⟩ rfl).1
theorem zjV (ds:List D):(pss ⟨[],0,[]⟩ (zeF ds)).out=txt ds:=by rw[zjj];rfl
theorem zoX {ds:List D} (h:zei ds=true):(txt ds).length<=1000000:=by
 have:=za3 (zeF ds) ⟨[],0,[]⟩ (zjU h);rw[zjV]at this;have:=zhp h;simp at *;omega
end S
namespace S
mutual
theorem z_z:∀ d:D,Z (Z d)=Z d
 | .val v=>rfl
 | .row e z L=>by simp only[Z];rw[zrj (plc z) L]
theorem zsL:∀(b:Bool) (ds:List D),Zl b (Zl b ds)=Zl b ds
 |b,[]=>by simp only[Zl]
 |b,d :: ds=>by
  have ih:=zsL b ds;have e:(Zl b ds).isEmpty=ds.isEmpty:=by cases ds<;>simp[Zl]
  simp only[Zl,ih,e];by_cases h:(b&&ds.isEmpty)=true
  ·simp only[if_pos h]
  ·simp only[if_neg h,z_z d]
theorem zrj:∀(b:Bool) (L:List (List D)),Zss b (Zss b L)=Zss b L
 |b,[]=>by simp only[Zss]
 |b,ds :: L=>by simp only[Zss,zsL b ds,zrj b L]
end
theorem zrk (ds:List D):(ds.map Z).map Z=ds.map Z:=by rw[List.map_map];exact List.map_congr_left λd _=>z_z d
theorem zlq {ds:List D} (hs:ShL zdo ds) (hB:zei ds=true) (hl:(txt ds).length<=65536):∃ cs,N (txt ds)= .ok cs/\cs.map Z=ds.map Z:=by
 obtain⟨L,e,h1,h2⟩:=zjp hB;have hT:T (txt ds)= .ok (L++ [⟨0,[],0,e⟩]):=by unfold T;rw[if_neg (by omega)];exact h1
 have hq:(L++ [(⟨0,[],0,e⟩:Tok)]).map q0=(zmk ds++ [(⟨0,[],0,0⟩:Tok)]).map q0:=by
  rw[List.map_append,List.map_append,<- h2,List.map_map];congr 1
 have hp:=zqM hq;rw[zfF hs hB]at hp;unfold N
 rw[hT];simp only;cases hx:zeg (L++ [⟨0,[],0,e⟩])with
 |error x=>rw[hx]at hp;exact hp.elim
 |ok x=>
  obtain⟨c,r⟩:=x;rw[hx]at hp;exact⟨c,rfl,hp.trans (zrk ds)⟩
theorem zhq {l:List UInt8} (hl:65536<l.length):N l= .error (4,65536):=by
 unfold N
 rw[show T l= .error (4,65536) by unfold T;rw[if_pos hl]]
 rfl
theorem zrl {L:List (List D)} {e:Nat} (h:∀ ds∈L,ShL zcd ds):nms (Z (.row e 1 L))=nms (.row e 1 L):=by
 unfold nms
 simp only[Z,fL];rw[zaT,List.map_map];apply List.map_congr_left;intro x hx
 have hs:=h x hx;simp only[ShL,Sh1,zcd]at hs;obtain⟨_,_,rfl,⟨s0,rfl,_⟩,rfl⟩:=hs;simp[gt,Zl,Z,plc,dS]
theorem zec {W:List D->List (List UInt8)} {bb:Bool} {L:List (List D)} (h:∀ ds∈L,W (Zl bb ds)=W ds):(Zss bb L).flatMap W=L.flatMap W:=by
 rw[zaT,List.flatMap_map]
 induction L with
 |nil=>rfl
 |cons d L ih=>rw[List.flatMap_cons,List.flatMap_cons,h d List.mem_cons_self,ih (λx hx=>h x (List.mem_cons_of_mem _ hx))]
theorem zoY {ds:List D} (hs:ShL zdT ds):zcO (Zl true ds)=zcO ds:=by
 simp only[ShL,Sh1,zdT]at hs;obtain⟨_,_,rfl,⟨s0,rfl,_⟩,⟨_,_,rfl,⟨v1,rfl,_,_⟩,⟨_,_,rfl,⟨v2,rfl,_,_⟩,⟨_,_,rfl,⟨v3,rfl,_,_⟩,⟨_,_,rfl,⟨v4,rfl,_,_⟩,⟨_,_,rfl,⟨v5,rfl,_,_⟩,⟨_,_,rfl,⟨v6,rfl,_,_⟩,⟨_,_,rfl,⟨v7,rfl,_,_⟩,⟨_,_,rfl,⟨v8,rfl,_,_⟩,⟨_,_,rfl,⟨v9,rfl,_,_⟩,⟨_,_,rfl,⟨v10,rfl,_,_⟩,rfl⟩⟩⟩⟩⟩⟩⟩⟩⟩⟩⟩:=hs;simp[zcO,gt,Zl,Z,dS,dI]
theorem zoZ {ds:List D} (hs:ShL zhI ds):zdW (Zl true ds)=zdW ds:=by
 simp only[ShL,Sh1,zhI]at hs;obtain⟨_,_,rfl,⟨s0,rfl,_⟩,⟨_,_,rfl,⟨s1,rfl,_⟩,⟨_,_,rfl,⟨v2,rfl,_,_⟩,⟨_,_,rfl,⟨v3,rfl,_,_⟩,⟨_,_,rfl,⟨v4,rfl,_,_⟩,⟨_,_,rfl,⟨v5,rfl,_,_⟩,rfl⟩⟩⟩⟩⟩⟩:=hs;simp[zdW,gt,Zl,Z,dS,dI]
theorem zrm {ds:List D} (hs:ShL zhJ ds):zhM (Zl true ds)=zhM ds:=by
 simp only[ShL,Sh1,zhJ]at hs;obtain⟨_,_,rfl,⟨s0,rfl,_⟩,⟨_,_,rfl,⟨s1,rfl,_⟩,⟨_,_,rfl,⟨v2,rfl,_,_⟩,rfl⟩⟩⟩:=hs;simp[zhM,gt,Zl,Z,dS,dI]
theorem zo0 {ds:List D} (hs:ShL zdz ds):zdX (Zl true ds)=zdX ds:=by
 simp only[ShL,Sh1,zdz]at hs;obtain⟨_,_,rfl,⟨s0,rfl,_⟩,⟨_,_,rfl,⟨s1,rfl,_⟩,⟨_,_,rfl,⟨s2,rfl,_⟩,⟨_,_,rfl,⟨v3,rfl,_,_⟩,⟨_,_,rfl,⟨v4,rfl,_,_⟩,⟨_,_,rfl,⟨v5,rfl,_,_⟩,rfl⟩⟩⟩⟩⟩⟩:=hs;simp[zdX,gt,Zl,Z,dS,dI]
theorem zlr {ds:List D} (hs:ShL zb9 ds):zci (Zl true ds)=zci ds:=by
 simp only[ShL,Sh1,zb9]at hs;obtain⟨_,_,rfl,⟨s0,rfl,_⟩,⟨_,_,rfl,⟨L1,rfl,_,q1⟩,⟨_,_,rfl,⟨v2,rfl,_,_⟩,rfl⟩⟩⟩:=hs;have:=zrl (e:=9) q1;simp only[zci,gt,Zl,List.isEmpty_cons,Bool.and_false,Bool.false_eq_true,if_false,List.getD_cons_zero,List.getD_cons_succ,this]
 rfl
theorem zo1 {ds:List D} (hs:ShL zfX ds):zdC (Zl false ds)=zdC ds:=by
 simp only[ShL,Sh1,zfX]at hs;obtain⟨_,_,rfl,⟨f0,rfl⟩,⟨_,_,rfl,⟨L1,rfl,_,q1⟩,rfl⟩⟩:=hs;have:=zrl (e:=9) q1;simp only[zdC,gt,Zl,Bool.false_and,Bool.false_eq_true,if_false,List.getD_cons_zero,List.getD_cons_succ,this]
 rfl
theorem zls {ds:List D} (hs:ShL zca ds):zbv (Zl false ds)=zbv ds:=by
 simp only[ShL,Sh1,zca]at hs;obtain⟨_,_,rfl,⟨L0,rfl,_,q0⟩,rfl⟩:=hs;have e:(fL (Z (.row 86 2 L0))).flatMap zdC=L0.flatMap zdC:=zec (bb:=false) (λx hx=>zo1 (q0 x hx));simp only[zbv,gt,Zl,Bool.false_and,Bool.false_eq_true,if_false,List.getD_cons_zero,e]
 rfl
theorem zo2 {ds:List D} (hs:ShL zcx ds):zco (Zl true ds)=zco ds:=by
 simp only[ShL,Sh1,zcx]at hs;obtain⟨_,_,rfl,⟨s0,rfl,_⟩,⟨_,_,rfl,⟨L1,rfl,_,q1⟩,⟨_,_,rfl,⟨L2,rfl,_,q2⟩,⟨_,_,rfl,⟨L3,rfl,_,q3⟩,⟨_,_,rfl,⟨L4,rfl,_,q4⟩,⟨_,_,rfl,⟨L5,rfl,_,q5⟩,⟨_,_,rfl,⟨v6,rfl,_,_⟩,rfl⟩⟩⟩⟩⟩⟩⟩:=hs;have e1:(fL (Z (.row 77 11 L1))).flatMap zcO=L1.flatMap zcO:=zec (bb:=true) (λx hx=>zoY (q1 x hx));have e2:(fL (Z (.row 79 6 L2))).flatMap zdW=L2.flatMap zdW:=zec (bb:=true) (λx hx=>zoZ (q2 x hx));have e3:(fL (Z (.row 81 3 L3))).flatMap zci=L3.flatMap zci:=zec (bb:=true) (λx hx=>zlr (q3 x hx));have e4:(fL (Z (.row 84 1 L4))).flatMap zbv=L4.flatMap zbv:=zec (bb:=false) (λx hx=>zls (q4 x hx));have e5:(fL (Z (.row 88 3 L5))).flatMap zhM=L5.flatMap zhM:=zec (bb:=true) (λx hx=>zrm (q5 x hx));simp only[zco,gt,Zl,List.isEmpty_cons,Bool.and_false,Bool.false_eq_true,if_false,List.getD_cons_zero,List.getD_cons_succ,e1,e2,e3,e4,e5];simp only[Z,dS,fL]
theorem zmq {ds:List D} (hs:ShL zdo ds):zeF (ds.map Z)=zeF ds:=by
 simp only[ShL,Sh1,zdo]at hs;obtain⟨_,_,rfl,⟨v0,rfl,_,_⟩,⟨_,_,rfl,⟨v1,rfl,_,_⟩,⟨_,_,rfl,⟨v2,rfl,_,_⟩,⟨_,_,rfl,⟨v3,rfl,_,_⟩,⟨_,_,rfl,⟨v4,rfl,_,_⟩,⟨_,_,rfl,⟨L5,rfl,_,q5⟩,⟨_,_,rfl,⟨L6,rfl,_,q6⟩,⟨_,_,rfl,⟨v7,rfl,_,_⟩,⟨_,_,rfl,⟨v8,rfl,_,_⟩,rfl⟩⟩⟩⟩⟩⟩⟩⟩⟩:=hs;have e5:(fL (Z (.row 45 7 L5))).flatMap zco=L5.flatMap zco:=zec (bb:=true) (λx hx=>zo2 (q5 x hx));have e6:(fL (Z (.row 48 6 L6))).flatMap zdX=L6.flatMap zdX:=zec (bb:=true) (λx hx=>zo0 (q6 x hx));have e7:(fL (Z (.row 48 6 L6))).length=L6.length:=zet _ _;unfold zeF zmj zdD
 simp only[List.map_cons,List.map_nil,gt,List.getD_cons_zero,List.getD_cons_succ,e5,e6,e7];simp only[Z,dI,fL];congr
theorem zsm {ds es:List D} (hs:ShL zdo ds) (he:ShL zdo es) (h:ds.map Z=es.map Z):txt ds=txt es:=by unfold txt;rw[<- zmq hs,h,zmq he]
theorem apart {ds es:List D} (hs:ShL zdo ds) (he:ShL zdo es) (hB:zei ds=true) (hC:zei es=true):txt ds=txt es↔ds.map Z=es.map Z:=by
 refine⟨λh=>?_,zsm hs he⟩;obtain⟨L,e,h1,h2⟩:=zjp hB;obtain⟨M,f,k1,k2⟩:=zjp hC;rw[h,k1]at h1;simp only[Except.ok.injEq]at h1;have hLM:=(List.append_inj' h1 rfl).1;subst hLM;have hK:zmk ds=zmk es:=h2.symm.trans k2;have r1:=zfF hs hB;have r2:=zfF he hC;rw[hK,r2]at r1;simp only[Except.ok.injEq,Prod.mk.injEq,and_true]at r1;exact r1.symm
theorem zdu {L:List (List D)} {hi:Nat} (hh:hi<=100000) (hl:L.length<=hi) (h:∀ ds∈L,ShL zcd ds):zcm L:=⟨by omega,λx hx=>by
 have hs:=h x hx;simp only[ShL,Sh1,zcd]at hs;obtain⟨_,_,rfl,⟨s0,rfl,_⟩,rfl⟩:=hs;exact⟨s0,rfl⟩⟩
theorem zo3 {ds:List D} (hs:ShL zcx ds) (hB:zeC ds=true):zfS ds:=by
 obtain⟨⟨_,l1⟩,h1⟩:=zao (zaH (zak hB));obtain⟨⟨_,l2⟩,h2⟩:=zao (zaH (zak (zak hB)));obtain⟨⟨_,l3⟩,h3⟩:=zao (zaH (zak (zak (zak hB))));obtain⟨⟨_,l4⟩,h4⟩:=zao (zaH (zak (zak (zak (zak hB)))));obtain⟨⟨_,l5⟩,h5⟩:=zao (zak (zak (zak (zak (zak hB)))));clear hB;simp only[ShL,Sh1,zcx]at hs;obtain⟨_,_,rfl,⟨s0,rfl,_⟩,⟨_,_,rfl,⟨L1,rfl,_,q1⟩,⟨_,_,rfl,⟨L2,rfl,_,q2⟩,⟨_,_,rfl,⟨L3,rfl,_,q3⟩,⟨_,_,rfl,⟨L4,rfl,_,q4⟩,⟨_,_,rfl,⟨L5,rfl,_,q5⟩,⟨_,_,rfl,⟨v6,rfl,_,_⟩,rfl⟩⟩⟩⟩⟩⟩⟩:=hs;simp only[gt,List.getD_cons_zero,List.getD_cons_succ,fL]at l1 l2 l3 l4 l5 h1 h2 h3 h4 h5;refine⟨s0,L1,L2,L3,L4,L5,v6,rfl,⟨by omega,λy hy=>?_⟩,⟨by omega,λy hy=>?_⟩,⟨by omega,λy hy=>?_⟩,⟨by omega,λy hy=>?_⟩,⟨by omega,λy hy=>?_⟩⟩
 ·have hs:=q1 y hy;simp only[ShL,Sh1,zdT]at hs;obtain⟨_,_,rfl,⟨s0,rfl,_⟩,⟨_,_,rfl,⟨v1,rfl,_,_⟩,⟨_,_,rfl,⟨v2,rfl,_,_⟩,⟨_,_,rfl,⟨v3,rfl,_,_⟩,⟨_,_,rfl,⟨v4,rfl,_,_⟩,⟨_,_,rfl,⟨v5,rfl,_,_⟩,⟨_,_,rfl,⟨v6,rfl,_,_⟩,⟨_,_,rfl,⟨v7,rfl,_,_⟩,⟨_,_,rfl,⟨v8,rfl,_,_⟩,⟨_,_,rfl,⟨v9,rfl,_,_⟩,⟨_,_,rfl,⟨v10,rfl,_,_⟩,rfl⟩⟩⟩⟩⟩⟩⟩⟩⟩⟩⟩:=hs;exact⟨_,_,_,_,_,_,_,_,_,_,_,rfl⟩
 ·have hs:=q2 y hy;simp only[ShL,Sh1,zhI]at hs;obtain⟨_,_,rfl,⟨s0,rfl,_⟩,⟨_,_,rfl,⟨s1,rfl,_⟩,⟨_,_,rfl,⟨v2,rfl,_,_⟩,⟨_,_,rfl,⟨v3,rfl,_,_⟩,⟨_,_,rfl,⟨v4,rfl,_,_⟩,⟨_,_,rfl,⟨v5,rfl,_,_⟩,rfl⟩⟩⟩⟩⟩⟩:=hs;exact⟨_,_,_,_,_,_,rfl⟩
 ·have hs:=q3 y hy;obtain⟨⟨_,g⟩,_⟩:=zao (zak (h3 y hy));simp only[ShL,Sh1,zb9]at hs;obtain⟨_,_,rfl,⟨s0,rfl,_⟩,⟨_,_,rfl,⟨L1,rfl,_,q1⟩,⟨_,_,rfl,⟨v2,rfl,_,_⟩,rfl⟩⟩⟩:=hs;exact⟨_,_,_,rfl,zdu (by decide) g q1⟩
 ·have hs:=q4 y hy;obtain⟨⟨_,g⟩,h6⟩:=zao (h4 y hy);simp only[ShL,Sh1,zca]at hs;obtain⟨_,_,rfl,⟨L0,rfl,_,q0⟩,rfl⟩:=hs;simp only[gt,List.getD_cons_zero,fL]at g h6;refine⟨_,rfl,by omega,λz hz=>?_⟩;have hs:=q0 z hz;obtain⟨⟨_,g'⟩,_⟩:=zao (h6 z hz);simp only[ShL,Sh1,zfX]at hs;obtain⟨_,_,rfl,⟨f0,rfl⟩,⟨_,_,rfl,⟨L1,rfl,_,q1⟩,rfl⟩⟩:=hs;exact⟨_,_,rfl,zdu (by decide) g' q1⟩
 ·have hs:=q5 y hy;simp only[ShL,Sh1,zhJ]at hs;obtain⟨_,_,rfl,⟨s0,rfl,_⟩,⟨_,_,rfl,⟨s1,rfl,_⟩,⟨_,_,rfl,⟨v2,rfl,_,_⟩,rfl⟩⟩⟩:=hs;exact⟨_,_,_,rfl⟩
theorem zrn {ds:List D} (hs:ShL zdo ds) (hB:zei ds=true):ziN ds:=by
 obtain⟨⟨_,l5⟩,h5⟩:=zao (zaH (zak hB));obtain⟨⟨_,l6⟩,h6⟩:=zao (zak (zak hB));clear hB;simp only[ShL,Sh1,zdo]at hs;obtain⟨_,_,rfl,⟨v0,rfl,_,_⟩,⟨_,_,rfl,⟨v1,rfl,_,_⟩,⟨_,_,rfl,⟨v2,rfl,_,_⟩,⟨_,_,rfl,⟨v3,rfl,_,_⟩,⟨_,_,rfl,⟨v4,rfl,_,_⟩,⟨_,_,rfl,⟨L5,rfl,_,q5⟩,⟨_,_,rfl,⟨L6,rfl,_,q6⟩,⟨_,_,rfl,⟨v7,rfl,_,_⟩,⟨_,_,rfl,⟨v8,rfl,_,_⟩,rfl⟩⟩⟩⟩⟩⟩⟩⟩⟩:=hs;simp only[gt,List.getD_cons_zero,List.getD_cons_succ,fL]at l5 l6 h5 h6;refine⟨_,_,_,_,_,_,_,_,_,rfl,⟨by omega,λy hy=>zo3 (q5 y hy) (h5 y hy)⟩,⟨by omega,λy hy=>?_⟩⟩;have hs:=q6 y hy;simp only[ShL,Sh1,zdz]at hs;obtain⟨_,_,rfl,⟨s0,rfl,_⟩,⟨_,_,rfl,⟨s1,rfl,_⟩,⟨_,_,rfl,⟨s2,rfl,_⟩,⟨_,_,rfl,⟨v3,rfl,_,_⟩,⟨_,_,rfl,⟨v4,rfl,_,_⟩,⟨_,_,rfl,⟨v5,rfl,_,_⟩,rfl⟩⟩⟩⟩⟩⟩:=hs;exact⟨_,_,_,_,_,_,rfl⟩
end S
end Go.Proofs.YthceiikgecoimaaGreatDoor
namespace Go.Proofs.YthceiikgecoimaaGreatDoor
open Go.RowKit
attribute [local go_sem ↓] Go.wp_at_zero Go.wp_at_succ
set_option linter.unusedVariables false
set_option linter.unusedSimpArgs false
set_option maxRecDepth 10000
namespace S
theorem zjW {w:World} {a:Option Addr} {L:List (List D)} {cap:Nat} (hL:∀ ds∈L,ShL zcd ds) (HA:Rvss w a 1 L 0) (hc:L.length<=cap):Rw w (.slice a L.length cap):=by
 refine⟨a,L.length,cap,λk=>sv (tS (gt (L.getD k []) 0)),rfl,hc,λk hk=>?_⟩;obtain⟨ad,us,rfl,hb,h1,h2,h3⟩:=za0 L 0 HA k hk;have hs:=hL (L.getD k []) (zcM hk);show ∃ ad',some ad=some ad'/\_/\w.cell? (ad'.add k)=some (.string (sv (tS (gt (L.getD k []) 0))));generalize L.getD k []=ds at h1 hs |-;simp only[ShL,Sh1,zcd]at hs;obtain⟨_,_,rfl,⟨s0,rfl,_⟩,rfl⟩:=hs;simp only[Rvs,Rv,dS,dI,dB]at h1;obtain⟨_,_,rfl,rfl,rfl⟩:=h1;rw[Nat.zero_add,Nat.mul_one]at h3;exact⟨ad,rfl,hb,h3 0 _ rfl⟩
set_option maxHeartbeats 4000000 in
theorem zjX {w:World} {ds:List D} {us:List Value} (hs:ShL zcx ds) (hr:Rvs w ds us):Calls Tryz.prog 11 #[.agg us.toArray] w (Ak w):=by
 simp only[ShL,Sh1,zcx]at hs;obtain⟨_,_,rfl,⟨s0,rfl,_⟩,⟨_,_,rfl,⟨L1,rfl,_,q1⟩,⟨_,_,rfl,⟨L2,rfl,_,q2⟩,⟨_,_,rfl,⟨L3,rfl,_,q3⟩,⟨_,_,rfl,⟨L4,rfl,_,q4⟩,⟨_,_,rfl,⟨L5,rfl,_,q5⟩,⟨_,_,rfl,⟨v6,rfl,_,_⟩,rfl⟩⟩⟩⟩⟩⟩⟩:=hs;simp only[Rvs,Rv,dS,dI,dB]at hr;obtain⟨_,_,rfl,rfl,⟨_,_,rfl,⟨x1,z1,rfl,y1,m1⟩,⟨_,_,rfl,⟨x2,z2,rfl,y2,m2⟩,⟨_,_,rfl,⟨x3,z3,rfl,y3,m3⟩,⟨_,_,rfl,⟨x4,z4,rfl,y4,m4⟩,⟨_,_,rfl,⟨x5,z5,rfl,y5,m5⟩,⟨_,_,rfl,rfl,rfl⟩⟩⟩⟩⟩⟩⟩:=hr;have hp:w.heap.size<=w.heap.size:=Nat.le_refl _;have hF:=Fb.refl w.heap.size w;refine zhT (sv s0) x1 L1.length z1 x2 L2.length z2 x3 L3.length z3 x4 L4.length z4 x5 L5.length z5 v6 (λk=>sv (tS (gt (L1.getD k []) 0))) (λk=>sv (tS (gt (L2.getD k []) 0))) (λk=>sv (tS (gt (L2.getD k []) 1))) (λk=>sv (tS (gt (L3.getD k []) 0))) (λk=>sv (tS (gt (L5.getD k []) 0))) (λk=>sv (tS (gt (L5.getD k []) 1))) (sA w x3 3 1) (sN w x3 3 1) (sC w x3 3 1) (sA w x4 1 0) (sN w x4 1 0) (sC w x4 1 0) (λk j=>sA w (sA w x4 1 0 k) 2 1 j) (λk j=>sN w (sA w x4 1 0 k) 2 1 j) (λk j=>sC w (sA w x4 1 0 k) 2 1 j) w (zh zhm) (zh λk hk=>?_) (zh λk hk=>?_) (zh λk hk=>?_) (zh λk hk=>?_) (zh λk hk=>?_) (zh λk hk j hj=>?_) (zh λk hk=>?_)
 ·obtain⟨ad,e,_,h0,_⟩:=zmm hp hF q1 m1 k hk;exact⟨ad,e,h0⟩
 ·obtain⟨ad,e,_,h0,h1,_⟩:=zrd hp hF q2 m2 k hk;exact⟨ad,e,h0,h1⟩
 ·obtain⟨ad,e,_,h0,h1,_⟩:=zjx hp hF q3 m3 k hk;exact⟨ad,e,h0,h1⟩
 ·obtain⟨r1,r2,r3,r4⟩:=zjy q3 m3 k hk;rw[r1];exact zjW r4 r3 r2
 ·obtain⟨ad,e,_,h0⟩:=zjz hp hF q4 m4 k hk;exact⟨ad,e,h0⟩
 ·obtain⟨r1,r2,r3,r4⟩:=zjA q4 m4 k hk;rw[r1]at hj;obtain⟨ad,e,_,_,h1⟩:=zrf hp hF r4 r3 j hj;obtain⟨t1,t2,t3,t4⟩:=zrg r4 r3 j hj;refine⟨ad,e,h1,?_⟩;show Rw w (.slice _ (sN w (sA w x4 1 0 k) 2 1 j) _);rw[t1];exact zjW t4 t3 t2
 ·obtain⟨ad,e,_,h0,h1,_⟩:=zre hp hF q5 m5 k hk;exact⟨ad,e,h0,h1⟩
set_option maxHeartbeats 16000000 in
theorem zlt (v0 v1 v2 v3 v4:Int) (a5:Option Addr) (n5 c5:Nat) (a6:Option Addr) (n6 c6:Nat) (v7 v8:Int) (S0:Nat->ByteArray) (A1:Nat->Option Addr) (N1 C1:Nat->Nat) (A2:Nat->Option Addr) (N2 C2:Nat->Nat) (A3:Nat->Option Addr) (N3 C3:Nat->Nat) (A4:Nat->Option Addr) (N4 C4:Nat->Nat) (A5:Nat->Option Addr) (N5 C5:Nat->Nat) (V6:Nat->Int) (X6 Y6 Z6:Nat->ByteArray) (w:World)
  (TS:Hid (∀ v w',Rw w' v->Calls Tryz.prog 12 #[v] w' (Ab w')))
  (TN:Hid (∀ k,k<n5->∀ w',Keep w w'->Calls Tryz.prog 11 #[.agg #[.string (S0 k),.slice (A1 k) (N1 k) (C1 k),.slice (A2 k) (N2 k) (C2 k),.slice (A3 k) (N3 k) (C3 k),.slice (A4 k) (N4 k) (C4 k),.slice (A5 k) (N5 k) (C5 k),.int .i64 (V6 k)]] w' (Ak w')))
  (HC5:Hid (∀ k,k<n5->∃ ad,a5=some ad/\w.cell? (ad.add (k * 7))=some (.string (S0 k))/\w.cell? ⟨(ad.add (k * 7)).block,(ad.add (k * 7)).off+1,none⟩=some (.slice (A1 k) (N1 k) (C1 k))/\w.cell? ⟨(ad.add (k * 7)).block,(ad.add (k * 7)).off+2,none⟩=some (.slice (A2 k) (N2 k) (C2 k))/\w.cell? ⟨(ad.add (k * 7)).block,(ad.add (k * 7)).off+3,none⟩=some (.slice (A3 k) (N3 k) (C3 k))/\w.cell? ⟨(ad.add (k * 7)).block,(ad.add (k * 7)).off+4,none⟩=some (.slice (A4 k) (N4 k) (C4 k))/\w.cell? ⟨(ad.add (k * 7)).block,(ad.add (k * 7)).off+5,none⟩=some (.slice (A5 k) (N5 k) (C5 k))/\w.cell? ⟨(ad.add (k * 7)).block,(ad.add (k * 7)).off+6,none⟩=some (.int .i64 (V6 k))))
  (HC6:Hid (∀ k,k<n6->∃ ad,a6=some ad/\w.cell? (ad.add (k * 6))=some (.string (X6 k))/\w.cell? ⟨(ad.add (k * 6)).block,(ad.add (k * 6)).off+1,none⟩=some (.string (Y6 k))/\w.cell? ⟨(ad.add (k * 6)).block,(ad.add (k * 6)).off+2,none⟩=some (.string (Z6 k)))):
  Calls Tryz.prog 5 #[.agg #[.int .i64 v0,.int .i64 v1,.int .i64 v2,.int .i64 v3,.int .i64 v4,.slice a5 n5 c5,.slice a6 n6 c6,.int .i64 v7,.int .i64 v8]] w (Ak w):=by
 have HK0:=zh ((zk w).alloc (.cells #[.int .i64 v0,.int .i64 v1,.int .i64 v2,.int .i64 v3,.int .i64 v4,.slice a5 n5 c5,.slice a6 n6 c6,.int .i64 v7,.int .i64 v8] 27));have HB0:Hid ((w.alloc (.cells #[.int .i64 v0,.int .i64 v1,.int .i64 v2,.int .i64 v3,.int .i64 v4,.slice a5 n5 c5,.slice a6 n6 c6,.int .i64 v7,.int .i64 v8] 27)).heap[w.heap.size]? =some (.cells #[.int .i64 v0,.int .i64 v1,.int .i64 v2,.int .i64 v3,.int .i64 v4,.slice a5 n5 c5,.slice a6 n6 c6,.int .i64 v7,.int .i64 v8] 27 (0,0))):=zh (heap_alloc_new w _);go_enter Tryz.func5,Tryz.ntmps5
 go_upto_region 1 with fail
 generalize w.alloc (.cells #[.int .i64 v0,.int .i64 v1,.int .i64 v2,.int .i64 v3,.int .i64 v4,.slice a5 n5 c5,.slice a6 n6 c6,.int .i64 v7,.int .i64 v8] 27)=w0 at HK0 HB0 |-;obtain⟨gb,HGB⟩:∃ gb,Hid (w.heap.size=gb):=⟨_,rfl⟩;rw[uq HGB]at HB0 |-;have z5:w0.cell? ⟨gb,5,none⟩=some (.slice a5 n5 c5):=by simp[World.cell?,uq HB0]
 have z6:w0.cell? ⟨gb,6,none⟩=some (.slice a6 n6 c6):=by simp[World.cell?,uq HB0]
 by_cases g1:(15:Int)<(n5:Int)
 ·go_wp2_with fail
  go_ret;exact⟨_,rfl,uq HK0⟩
 by_cases g2:(15:Int)<(n6:Int)
 ·go_wp2_with fail
  go_ret;exact⟨_,rfl,uq HK0⟩
 have HNN:Hid (n5<=15/\n6<=15):=zh (by omega);go_wp2_with fail
 clear g1 g2 z5 z6
 go_loopw [3] (λvi wr=>∃ k:Nat,k<=n5/\vi= .int .i64 (k:Int)/\Hid (Keep w wr)/\Hid (wr.heap[gb]? =some (.cells #[.int .i64 v0,.int .i64 v1,.int .i64 v2,.int .i64 v3,.int .i64 v4,.slice a5 n5 c5,.slice a6 n6 c6,.int .i64 v7,.int .i64 v8] 27 (0,0)))) (λvi _=>n5 - (intOf vi).toNat)
 case atStart=>exact⟨0,Nat.zero_le _,rfl,HK0,HB0⟩
 case round=>
  obtain⟨k,hk,rfl,HK,HB⟩:=hrel;have z5:wr.cell? ⟨gb,5,none⟩=some (.slice a5 n5 c5):=by simp[World.cell?,uq HB]
  by_cases hlt:k<n5
  ·have li:(k:Int)<(n5:Int):=by omega
   have hk9:k<=100:=by have:=uq HNN;omega
   have HT:=zh ((uq TN) k hlt wr (uq HK));obtain⟨ad,rfl,e0,e1,e2,e3,e4,e5,e6⟩:=(uq HC5) k hlt;have x0:=Q.kcell (uq HK) e0;have x1:=Q.kcell (uq HK) e1;have x2:=Q.kcell (uq HK) e2;have x3:=Q.kcell (uq HK) e3;have x4:=Q.kcell (uq HK) e4;have x5:=Q.kcell (uq HK) e5;have x6:=Q.kcell (uq HK) e6;clear e0 e1 e2 e3 e4 e5 e6;go_wp2_with fail
   (refine(uq HT).mono ?_;rintro e w5 ⟨b,rfl,hk5⟩;have HK5:=zh hk5;clear hk5);cases b
   ·go_wp2_with fail
    go_ret;exact⟨_,rfl,(uq HK).trans (uq HK5)⟩
   ·go_wp2_with fail
    go_roundw
    case rel=>exact⟨k+1,hlt,by go_num,zh ((uq HK).trans (uq HK5)),zh (((uq HK5).block gb (Array.getElem?_eq_some_iff.1 (uq HB)).1).trans (uq HB))⟩
    case measure=>simp[intOf];omega
  ·have li:¬(k:Int)<(n5:Int):=by omega
   clear hlt hk;go_wp2_with fail
   go_loopw [4] (λvi wr=>∃ k:Nat,k<=n6/\vi= .int .i64 (k:Int)/\Hid (Keep w wr)/\Hid (wr.heap[gb]? =some (.cells #[.int .i64 v0,.int .i64 v1,.int .i64 v2,.int .i64 v3,.int .i64 v4,.slice a5 n5 c5,.slice a6 n6 c6,.int .i64 v7,.int .i64 v8] 27 (0,0)))) (λvi _=>n6 - (intOf vi).toNat)
   case atStart=>exact⟨0,Nat.zero_le _,rfl,HK,HB⟩
   case round=>
    obtain⟨k,hk,rfl,HK,HB⟩:=hrel;have z6:wr.cell? ⟨gb,6,none⟩=some (.slice a6 n6 c6):=by simp[World.cell?,uq HB]
    by_cases hlt:k<n6
    ·have li:(k:Int)<(n6:Int):=by omega
     have hk9:k<=100:=by have:=uq HNN;omega
     obtain⟨ad,rfl,e0,e1,e2⟩:=(uq HC6) k hlt;have x0:=Q.kcell (uq HK) e0;have x1:=Q.kcell (uq HK) e1;have x2:=Q.kcell (uq HK) e2;clear e0 e1 e2;generalize X6 k=X at x0;generalize Y6 k=Y at x1;generalize Z6 k=Z at x2;have HSX:Hid (∀ w',Keep wr w'->w'.cell? ⟨gb,6,none⟩=some (.slice (some ad) n6 c6)/\w'.cell? (ad.add (k * 6))=some (.string X)/\w'.cell? ⟨(ad.add (k * 6)).block,(ad.add (k * 6)).off+1,none⟩=some (.string Y)/\w'.cell? ⟨(ad.add (k * 6)).block,(ad.add (k * 6)).off+2,none⟩=some (.string Z)):=zh (λw' k9=>⟨Q.kcell k9 z6,Q.kcell k9 x0,Q.kcell k9 x1,Q.kcell k9 x2⟩)
     go_upto_region 11 with fail
     refine wp_region_held_drew (S:=λw'=>w'.cell? ⟨gb,6,none⟩=some (.slice (some ad) n6 c6)/\w'.cell? (ad.add (k * 6))=some (.string X)/\w'.cell? ⟨(ad.add (k * 6)).block,(ad.add (k * 6)).off+1,none⟩=some (.string Y)/\w'.cell? ⟨(ad.add (k * 6)).block,(ad.add (k * 6)).off+2,none⟩=some (.string Z)) (by kernel_rfl) (by exact(uq HSX) _ (by repeat(first|apply Keep.alloc|apply Keep.drew|exact zk _))) (λzH=>?_);refine tk6 0 36 1 37 2 38 3 39 4 40 5 41 zH ?_;try simp only[Yq]
     refine tk6 6 42 7 43 8 44 9 45 10 46 11 47 zH ?_;try simp only[Yq]
     refine tk6 12 48 13 49 14 50 15 51 16 52 17 53 zH ?_;try simp only[Yq]
     refine zap 18 (λK hK=>?_);go_simp;clear zH;refine hK.out _ _ ?_ (λzH=>?_)
     ·exact(uq HSX) _ (by repeat(first|apply Keep.alloc|apply Keep.drew|exact zk _))
     clear hK K;try simp only[Yq]
     refine zap 19 (λK hK=>?_);go_simp;clear zH;(refine((uq TS) _ _ (zoU wr.drew X Y Z 9)).mono ?_;rintro e w5 ⟨b,rfl,rfl⟩);try go_wp2_with fail
     refine hK.out _ _ ?_ (λzH=>?_)
     ·exact(uq HSX) _ (by repeat(first|apply Keep.alloc|apply Keep.drew|exact zk _))
     clear hK K;try simp only[Yq]
     refine tkk 20 56 zH ?_;try simp only[Yq]
     refine wpAnyH_done (by kernel_rfl) ?_ _;clear zH;cases b
     ·go_wp2_with fail
      go_ret;exact⟨_,rfl,(by have:=uq HK;repeat(first|exact this|apply Keep.alloc|apply Keep.drew))⟩
     ·go_wp2_with fail
      go_roundw
      case rel=>exact⟨k+1,hlt,by go_num,zh (by have:=uq HK;repeat(first|exact this|apply Keep.alloc|apply Keep.drew)),zh ((heap_alloc_old wr (.cells #[.string X,.string Y,.string Z] 9) (Array.getElem?_eq_some_iff.1 (uq HB)).1).trans (uq HB))⟩
      case measure=>simp[intOf];omega
    ·have li:¬(k:Int)<(n6:Int):=by omega
     go_wp2_with fail
     go_ret;exact⟨_,rfl,uq HK⟩
theorem zo4 {w:World} {ds:List D} {us:List Value} (hs:ShL zdo ds) (hr:Rvs w ds us):Calls Tryz.prog 5 #[.agg us.toArray] w (Ak w):=by
 simp only[ShL,Sh1,zdo]at hs;obtain⟨_,_,rfl,⟨v0,rfl,_,_⟩,⟨_,_,rfl,⟨v1,rfl,_,_⟩,⟨_,_,rfl,⟨v2,rfl,_,_⟩,⟨_,_,rfl,⟨v3,rfl,_,_⟩,⟨_,_,rfl,⟨v4,rfl,_,_⟩,⟨_,_,rfl,⟨L5,rfl,_,q5⟩,⟨_,_,rfl,⟨L6,rfl,_,q6⟩,⟨_,_,rfl,⟨v7,rfl,_,_⟩,⟨_,_,rfl,⟨v8,rfl,_,_⟩,rfl⟩⟩⟩⟩⟩⟩⟩⟩⟩:=hs;simp only[Rvs,Rv,dS,dI,dB]at hr;obtain⟨_,_,rfl,rfl,⟨_,_,rfl,rfl,⟨_,_,rfl,rfl,⟨_,_,rfl,rfl,⟨_,_,rfl,rfl,⟨_,_,rfl,⟨x5,z5,rfl,y5,m5⟩,⟨_,_,rfl,⟨x6,z6,rfl,y6,m6⟩,⟨_,_,rfl,rfl,⟨_,_,rfl,rfl,rfl⟩⟩⟩⟩⟩⟩⟩⟩⟩:=hr;have hp:w.heap.size<=w.heap.size:=Nat.le_refl _;have hF:=Fb.refl w.heap.size w;refine zlt v0 v1 v2 v3 v4 x5 L5.length z5 x6 L6.length z6 v7 v8 (λk=>sv (tS (gt (L5.getD k []) 0))) (sA w x5 7 1) (sN w x5 7 1) (sC w x5 7 1) (sA w x5 7 2) (sN w x5 7 2) (sC w x5 7 2) (sA w x5 7 3) (sN w x5 7 3) (sC w x5 7 3) (sA w x5 7 4) (sN w x5 7 4) (sC w x5 7 4) (sA w x5 7 5) (sN w x5 7 5) (sC w x5 7 5) (λk=>fI (gt (L5.getD k []) 6)) (λk=>sv (tS (gt (L6.getD k []) 0))) (λk=>sv (tS (gt (L6.getD k []) 1))) (λk=>sv (tS (gt (L6.getD k []) 2))) w (zh zhm) (zh λk hk w' hw=>?_) (zh λk hk=>?_) (zh λk hk=>?_)
 ·exact zjX (q5 _ (zcM hk)) (Rvs.keep hw _ _ (zjC q5 m5 k hk))
 ·obtain⟨ad,e,_,h⟩:=zmn hp hF q5 m5 k hk;exact⟨ad,e,h⟩
 ·obtain⟨ad,e,_,h0,h1,h2,_⟩:=zmo hp hF q6 m6 k hk;exact⟨ad,e,h0,h1,h2⟩
end S
end Go.Proofs.YthceiikgecoimaaGreatDoor
