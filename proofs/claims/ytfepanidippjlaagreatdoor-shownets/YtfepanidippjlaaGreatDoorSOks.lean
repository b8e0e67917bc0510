/- The words of a network that is right: no more braces are open than there may be, and they are not too long. -/
import Derived.Test.YtfepanidippjlaaGreatDoorSWrd
import Derived.Lib.ItoaLen
namespace Go.Proofs.YtfepanidippjlaaGreatDoor
open Go.RowKit
set_option linter.unusedVariables false
set_option linter.unusedSimpArgs false
set_option maxRecDepth 10000
namespace S
def Bal (x:Int) (ws:List (List UInt8)) (y:Int):Prop:=∀ st:St,st.op=x→oks st ws∧(pss st ws).op=y
theorem zaQ (x:Int):Bal x [] x:=fun st h=>⟨trivial,h⟩
theorem Bal.append {x y z:Int} {a c:List (List UInt8)} (h:Bal x a y) (k:Bal y c z):Bal x (a++c) z:=fun st e=>by
 obtain⟨h1,h2⟩:=h st e;obtain⟨k1,k2⟩:=k (pss st a) h2;exact⟨(zaq a c st).2 ⟨h1,k1⟩,by rw[← zas];exact k2⟩
def Pl (w:List UInt8):Prop:=w≠ [123]∧w≠ [125]
theorem zaf {x:Int} {w:List UInt8} {ws:List (List UInt8)} {y:Int} (h0:0≤x) (h2:x≤2) (h:Pl w) (k:Bal x ws y):Bal x (w :: ws) y:=by
 have:Bal x [w] x:=fun st e=>by
  have e1:op1 st.op w=x:=by unfold op1;rw[if_neg h.2,e]
  refine⟨⟨⟨by rw[e1];exact h0,by rw[e1];exact h2⟩,trivial⟩,?_⟩;show(ps st w).op=x;unfold ps
  rw[if_neg h.1];split<;>exact e1
 exact Bal.append this k
theorem zh0 {x:Int} {ws:List (List UInt8)} {y:Int} (h0:0≤x) (h2:x≤2) (k:Bal (x+1) ws y):Bal x ([123] :: ws) y:=by
 have:Bal x [[123]] (x+1):=fun st e=>by
  have e1:op1 st.op [123]=x:=by unfold op1;rw[if_neg (by decide),e]
  refine⟨⟨⟨by rw[e1];exact h0,by rw[e1];exact h2⟩,trivial⟩,?_⟩;show(ps st [123]).op=x+1;unfold ps
  rw[if_pos rfl,e1]
 exact Bal.append this k
theorem zfn {x:Int} {ws:List (List UInt8)} {y:Int} (h0:1≤x) (h2:x≤3) (k:Bal (x - 1) ws y):Bal x ([125] :: ws) y:=by
 have:Bal x [[125]] (x - 1):=fun st e=>by
  have e1:op1 st.op [125]=x - 1:=by unfold op1;rw[if_pos rfl,e]
  refine⟨⟨⟨by rw[e1];omega,by rw[e1];omega⟩,trivial⟩,?_⟩;show(ps st [125]).op=x - 1;unfold ps
  rw[if_neg (by decide),if_pos (.inl rfl),e1]
 exact Bal.append this k
theorem zbN {x:Int} {f:List D→List (List UInt8)} :∀(L:List (List D)),(∀ d∈L,Bal x (f d) x)→Bal x (L.flatMap f) x
 | [],_=>zaQ x
 |d :: L,h=>by rw[List.flatMap_cons];exact(h d List.mem_cons_self).append (zbN L (fun y hy=>h y (List.mem_cons_of_mem _ hy)))
theorem zbZ {s:List UInt8} {k n:Int} {c:UInt8} (h:Gs s k n) (hk:k≠3) (hc:kd c.toNat=7):s≠ [c]:=by
 rintro rfl;have h1:=h.2.1;simp only[one]at h1;rw[if_neg (by omega),if_neg (by omega),if_pos hc]at h1;simp only[Except.ok.injEq,Tok.mk.injEq]at h1;exact hk h1.1.symm
theorem zbt {s:List UInt8} (h:nmB s=true):Pl s:=⟨zbZ (zhH (zdS h).1) (by decide) (by decide),zbZ (zhH (zdS h).1) (by decide) (by decide)⟩
theorem zbh {n:Int} (h:nuB n=true):Pl (dg n):=⟨zbZ (zdm h) (by decide) (by decide),zbZ (zdm h) (by decide) (by decide)⟩
theorem zoN {n:Int} (h:grB n=true):Pl (dg n):=by
 by_cases h0:n<0
 ·rw[zhJ h0];exact⟨by simp,by simp⟩
 ·exact zbh (by unfold nuB;have:=of_decide_eq_true h;exact decide_eq_true ⟨by omega,by omega⟩)
theorem zaA {s:List UInt8} (h:nmB s=true):s.length≤24:=by
 have g:=zhH (zdS h).1;rcases(zcm g.2.1).2 with ⟨_,e⟩|⟨_,_,_,e1,_,e2⟩
 ·simp at e
 ·have:s.length=en s:=e1;omega
theorem zav {n:Int} (h:grB n=true):(dg n).length≤21:=Lib.itoa_length_le n (by have:=of_decide_eq_true h;omega) (by have:=of_decide_eq_true h;omega)
theorem za1 {n:Int} (h:nuB n=true):grB n=true:=by unfold nuB at h;unfold grB;have:=of_decide_eq_true h;exact decide_eq_true ⟨by omega,by omega⟩
theorem zaW (w:List UInt8) (ws:List (List UInt8)):zbi (w :: ws)=w.length+8+zbi ws:=by simp[zbi]
theorem zbe:zbi []=0:=rfl
theorem zbq {f:List D→List (List UInt8)} {B:Nat} :∀(L:List (List D)),(∀ d∈L,zbi (f d)≤B)→zbi (L.flatMap f)≤L.length * B
 | [],_=>by simp[zbi]
 |d :: L,h=>by
  rw[List.flatMap_cons,zah,List.length_cons,Nat.succ_mul];have h1:=h d List.mem_cons_self;have h2:=zbq L (fun y hy=>h y (List.mem_cons_of_mem _ hy));omega
theorem zh1:∀ {l:List (List UInt8)} {m:Nat},(∀ s∈l,nmB s=true)→l.length≤m→zbi (lw l)≤41 * m+9
 | [],m,_,_=>by simp[lw,zbi]
 |s :: l,m,h,hm=>by
  have key:∀ l:List (List UInt8),(∀ s∈l,nmB s=true)→zbi (l.flatMap (fun x=> [[44],x]))≤41 * l.length:=by
   intro l
   induction l with
   |nil=>intro _;simp[zbi]
   |cons a l ih=>
    intro h
    rw[List.flatMap_cons,zah,zaW,zaW,zbe,List.length_cons];have:=zaA (h a List.mem_cons_self);have:=ih (fun y hy=>h y (List.mem_cons_of_mem _ hy));simp only[List.length_cons,List.length_nil];omega
  have:=key l (fun y hy=>h y (List.mem_cons_of_mem _ hy));have:=zaA (h s List.mem_cons_self);rw[lw,zaW,zah,zaW,zbe];simp only[List.length_cons,List.length_nil]at hm ⊢;omega
theorem zkj {x:Int} (h0:0≤x) (h2:x≤2) {l:List (List UInt8)} (h:∀ s∈l,nmB s=true):Bal x (lw l) x:=by
 cases l with
 |nil=>exact zaf h0 h2 ⟨by decide,by decide⟩ (zaQ x)
 |cons s l=>
  have key:∀ l:List (List UInt8),(∀ s∈l,nmB s=true)→Bal x (l.flatMap (fun x=> [[44],x])) x:=by
   intro l
   induction l with
   |nil=>intro _;exact zaQ x
   |cons a l ih=>
    intro h
    rw[List.flatMap_cons];exact(zaf h0 h2 ⟨by decide,by decide⟩ (zaf h0 h2 (zbt (h a List.mem_cons_self)) (zaQ x))).append (ih (fun y hy=>h y (List.mem_cons_of_mem _ hy)))
  rw[lw];exact zaf h0 h2 (zbt (h s List.mem_cons_self)) ((key l (fun y hy=>h y (List.mem_cons_of_mem _ hy))).append (zaf h0 h2 ⟨by decide,by decide⟩ (zaQ x)))
theorem zjv {ds:List D} (h:za7 ds=true):Bal 1 (zb6 ds) 1:=by
 have n0:=zal h;have v6:=zal (zac h);have hv:=zac (zac h);obtain⟨v1,hv⟩:=zaa hv;obtain⟨v2,hv⟩:=zaa hv;obtain⟨v3,hv⟩:=zaa hv;obtain⟨v4,hv⟩:=zaa hv;obtain⟨v5,hv⟩:=zaa hv;obtain⟨v7,hv⟩:=zaa hv;obtain⟨v8,hv⟩:=zaa hv;obtain⟨v9,hv⟩:=zaa hv;exact(zaf (by decide) (by decide) ⟨by decide,by decide⟩ (zaf (by decide) (by decide) (zbt n0) (zaf (by decide) (by decide) ⟨by decide,by decide⟩ (zaf (by decide) (by decide) (zbh v1) (zaf (by decide) (by decide) ⟨by decide,by decide⟩ (zaf (by decide) (by decide) (zbh v2) (zaf (by decide) (by decide) ⟨by decide,by decide⟩ (zaf (by decide) (by decide) (zbh v3) (zaf (by decide) (by decide) ⟨by decide,by decide⟩ (zaf (by decide) (by decide) (zbh v4) (zaf (by decide) (by decide) ⟨by decide,by decide⟩ (zaf (by decide) (by decide) (zbh v5) (zaf (by decide) (by decide) ⟨by decide,by decide⟩ (zaf (by decide) (by decide) (zoN v6) (zaf (by decide) (by decide) ⟨by decide,by decide⟩ (zaf (by decide) (by decide) (zbh v7) (zaf (by decide) (by decide) ⟨by decide,by decide⟩ (zaf (by decide) (by decide) (zbh v8) (zaf (by decide) (by decide) ⟨by decide,by decide⟩ (zaf (by decide) (by decide) (zbh v9) (zaf (by decide) (by decide) ⟨by decide,by decide⟩ (zaQ _))))))))))))))))))))))
theorem zh2 {ds:List D} (h:za7 ds=true):zbi (zb6 ds)≤800:=by
 have n0:=zal h;have v6:=zal (zac h);have hv:=zac (zac h);obtain⟨v1,hv⟩:=zaa hv;obtain⟨v2,hv⟩:=zaa hv;obtain⟨v3,hv⟩:=zaa hv;obtain⟨v4,hv⟩:=zaa hv;obtain⟨v5,hv⟩:=zaa hv;obtain⟨v7,hv⟩:=zaa hv;obtain⟨v8,hv⟩:=zaa hv;obtain⟨v9,hv⟩:=zaa hv;have a0:=zaA n0;have c1:=zav (za1 v1);have c2:=zav (za1 v2);have c3:=zav (za1 v3);have c4:=zav (za1 v4);have c5:=zav (za1 v5);have c6:=zav v6;have c7:=zav (za1 v7);have c8:=zav (za1 v8);have c9:=zav (za1 v9);simp only[zb6,hw,zah,zaW,zbe,List.length_cons,List.length_nil];omega
theorem zjw {ds:List D} (h:zbx ds=true):Bal 1 (zcS ds) 1:=by
 have n0:=zal h;have n1:=zal (zac h);have hv:=zac (zac h);obtain⟨v2,hv⟩:=zaa hv;obtain⟨v3,hv⟩:=zaa hv;obtain⟨v4,hv⟩:=zaa hv;exact(zaf (by decide) (by decide) ⟨by decide,by decide⟩ (zaf (by decide) (by decide) (zbt n0) (zaf (by decide) (by decide) ⟨by decide,by decide⟩ (zaf (by decide) (by decide) (zbt n1) (zaf (by decide) (by decide) ⟨by decide,by decide⟩ (zaf (by decide) (by decide) (zbh v2) (zaf (by decide) (by decide) ⟨by decide,by decide⟩ (zaf (by decide) (by decide) (zbh v3) (zaf (by decide) (by decide) ⟨by decide,by decide⟩ (zaf (by decide) (by decide) (zbh v4) (zaf (by decide) (by decide) ⟨by decide,by decide⟩ (zaQ _))))))))))))
theorem zh3 {ds:List D} (h:zbx ds=true):zbi (zcS ds)≤400:=by
 have n0:=zal h;have n1:=zal (zac h);have hv:=zac (zac h);obtain⟨v2,hv⟩:=zaa hv;obtain⟨v3,hv⟩:=zaa hv;obtain⟨v4,hv⟩:=zaa hv;have a0:=zaA n0;have a1:=zaA n1;have c2:=zav (za1 v2);have c3:=zav (za1 v3);have c4:=zav (za1 v4);simp only[zcS,zah,zaW,zbe,List.length_cons,List.length_nil];omega
theorem zmI {ds:List D} (h:zd7 ds=true):Bal 1 (zfj ds) 1:=by
 have n0:=zal h;have n1:=zac h;exact(zaf (by decide) (by decide) ⟨by decide,by decide⟩ (zaf (by decide) (by decide) (zbt n0) (zaf (by decide) (by decide) (zbt n1) (zaf (by decide) (by decide) ⟨by decide,by decide⟩ (zaQ _)))))
theorem zjx {ds:List D} (h:zd7 ds=true):zbi (zfj ds)≤160:=by
 have n0:=zal h;have n1:=zac h;have a0:=zaA n0;have a1:=zaA n1;simp only[zfj,zah,zaW,zbe,List.length_cons,List.length_nil];omega
theorem zjy {ds:List D} (h:zbv ds=true):Bal 1 (zcT ds) 1:=by
 have n0:=zal h;have n1:=zal (zac h);have n2:=zal (zac (zac h));have hv:=zac (zac (zac h));obtain⟨v3,hv⟩:=zaa hv;obtain⟨v4,hv⟩:=zaa hv;exact(zaf (by decide) (by decide) ⟨by decide,by decide⟩ (zaf (by decide) (by decide) (zbt n0) (zaf (by decide) (by decide) ⟨by decide,by decide⟩ (zaf (by decide) (by decide) (zbt n1) (zaf (by decide) (by decide) ⟨by decide,by decide⟩ (zaf (by decide) (by decide) (zbt n2) (zaf (by decide) (by decide) ⟨by decide,by decide⟩ (zaf (by decide) (by decide) (zbh v3) (zaf (by decide) (by decide) ⟨by decide,by decide⟩ (zaf (by decide) (by decide) (zbh v4) (zaf (by decide) (by decide) ⟨by decide,by decide⟩ (zaQ _))))))))))))
theorem zh4 {ds:List D} (h:zbv ds=true):zbi (zcT ds)≤400:=by
 have n0:=zal h;have n1:=zal (zac h);have n2:=zal (zac (zac h));have hv:=zac (zac (zac h));obtain⟨v3,hv⟩:=zaa hv;obtain⟨v4,hv⟩:=zaa hv;have a0:=zaA n0;have a1:=zaA n1;have a2:=zaA n2;have c3:=zav (za1 v3);have c4:=zav (za1 v4);simp only[zcT,zah,zaW,zbe,List.length_cons,List.length_nil];omega
theorem zh5 {ds:List D} (h:zbm ds=true):Bal 1 (zbF ds) 1:=by
 have n0:=zal h;obtain⟨h1,h2,_⟩:=zci (by decide) (zac h);unfold zbF
 exact Bal.append (zaf (by decide) (by decide) ⟨by decide,by decide⟩ (zaf (by decide) (by decide) (zbt n0) (zaf (by decide) (by decide) ⟨by decide,by decide⟩ (zaQ _)))) (zkj (by decide) (by decide) h2)
theorem zgq {ds:List D} (h:zbm ds=true):zbi (zbF ds)≤800:=by
 have a0:=zaA (zal h);obtain⟨h1,h2,h3⟩:=zci (by decide) (zac h);have:=zh1 h2 h3;simp only[zbF,zah,zaW,zbe,List.length_cons,List.length_nil];omega
theorem zjz {ds:List D} (h:zdq ds=true):Bal 2 (zcL ds) 2:=by
 obtain⟨h1,h2,_⟩:=zci (by decide) h;unfold zcL rw1
 refine Bal.append (zaf (by decide) (by decide) ⟨by decide,by decide⟩ (zaQ _)) (Bal.append ?_ (zkj (by decide) (by decide) h2));cases fB (gt ds 0)
 ·exact zaQ _
 ·exact(zaf (by decide) (by decide) ⟨by decide,by decide⟩ (zaQ _))
theorem zh6 {ds:List D} (h:zdq ds=true):zbi (zcL ds)≤300:=by
 obtain⟨h1,h2,h3⟩:=zci (by decide) h;have:=zh1 h2 h3;unfold zcL rw1
 cases fB (gt ds 0)<;>simp[zah,zaW,zbe]<;>omega
theorem zh7 {ds:List D} (h:zbT ds=true):Bal 1 (za9 ds) 1:=by
 obtain⟨_,h3⟩:=zag h;unfold za9
 exact Bal.append (y:=2) (zaf (by decide) (by decide) ⟨by decide,by decide⟩ (zh0 (by decide) (by decide) (zaQ _))) (Bal.append (zbN _ fun x hx=>zjz (h3 x hx)) (zfn (by decide) (by decide) (zaQ _)))
theorem zgr {ds:List D} (h:zbT ds=true):zbi (za9 ds)≤800:=by
 obtain⟨⟨_,h2⟩,h3⟩:=zag h;have:=zbq (f:=zcL) _ fun x hx=>zh6 (h3 x hx)
 simp only[za9,zah,zaW,zbe,List.length_cons,List.length_nil];omega
theorem zjA {ds:List D} (h:zbR ds=true):Bal 0 (zbM ds) 0:=by
 have n0:=zal h;obtain⟨⟨_,l1⟩,h1⟩:=zag (zal (zac h));obtain⟨⟨_,l2⟩,h2⟩:=zag (zal (zac (zac h)));obtain⟨⟨_,l3⟩,h3⟩:=zag (zal (zac (zac (zac h))));obtain⟨⟨_,l4⟩,h4⟩:=zag (zal (zac (zac (zac (zac h)))));obtain⟨⟨_,l5⟩,h5⟩:=zag (zac (zac (zac (zac (zac h)))));unfold zbM
 exact Bal.append (y:=1) (zaf (by decide) (by decide) ⟨by decide,by decide⟩ (zaf (by decide) (by decide) (zbt n0) (zh0 (by decide) (by decide) (zaQ _)))) (Bal.append (zbN _ fun x hx=>zjv (h1 x hx)) (Bal.append (zbN _ fun x hx=>zjw (h2 x hx)) (Bal.append (zbN _ fun x hx=>zh5 (h3 x hx)) (Bal.append (zbN _ fun x hx=>zh7 (h4 x hx)) (Bal.append (zbN _ fun x hx=>zmI (h5 x hx)) (zfn (by decide) (by decide) (zaQ _)))))))
theorem zh8 {ds:List D} (h:zbR ds=true):zbi (zbM ds)≤60000:=by
 have n0:=zal h;obtain⟨⟨_,l1⟩,h1⟩:=zag (zal (zac h));obtain⟨⟨_,l2⟩,h2⟩:=zag (zal (zac (zac h)));obtain⟨⟨_,l3⟩,h3⟩:=zag (zal (zac (zac (zac h))));obtain⟨⟨_,l4⟩,h4⟩:=zag (zal (zac (zac (zac (zac h)))));obtain⟨⟨_,l5⟩,h5⟩:=zag (zac (zac (zac (zac (zac h)))));have a0:=zaA n0;have c1:=zbq (f:=zb6) _ fun x hx=>zh2 (h1 x hx)
 have c2:=zbq (f:=zcS) _ fun x hx=>zh3 (h2 x hx)
 have c3:=zbq (f:=zbF) _ fun x hx=>zgq (h3 x hx)
 have c4:=zbq (f:=za9) _ fun x hx=>zgr (h4 x hx)
 have c5:=zbq (f:=zfj) _ fun x hx=>zjx (h5 x hx)
 simp only[zbM,zah,zaW,zbe,List.length_cons,List.length_nil];omega
theorem zmJ {ds:List D} (h:zcs ds=true):Bal 0 (zdB ds) 0:=by
 have hv:=zal h;obtain⟨v0,hv⟩:=zaa hv;obtain⟨v1,hv⟩:=zaa hv;obtain⟨v2,hv⟩:=zaa hv;obtain⟨v3,hv⟩:=zaa hv;obtain⟨v4,hv⟩:=zaa hv;obtain⟨v7,hv⟩:=zaa hv;obtain⟨v8,hv⟩:=zaa hv;obtain⟨⟨_,l5⟩,h5⟩:=zag (zal (zac h));obtain⟨⟨_,l6⟩,h6⟩:=zag (zac (zac h));unfold zdB
 refine Bal.append (zaf (by decide) (by decide) ⟨by decide,by decide⟩ (zaf (by decide) (by decide) (zbh v0) (zaf (by decide) (by decide) ⟨by decide,by decide⟩ (zaf (by decide) (by decide) (zbh v1) (zaf (by decide) (by decide) ⟨by decide,by decide⟩ (zaf (by decide) (by decide) (zbh v2) (zaf (by decide) (by decide) ⟨by decide,by decide⟩ (zaQ _)))))))) (Bal.append (zaf (by decide) (by decide) ⟨by decide,by decide⟩ (zaf (by decide) (by decide) (zbh v3) (zaf (by decide) (by decide) ⟨by decide,by decide⟩ (zaf (by decide) (by decide) (zbh v4) (zaf (by decide) (by decide) ⟨by decide,by decide⟩ (zaQ _)))))) (Bal.append (zbN _ fun x hx=>zjA (h5 x hx)) ?_));split
 ·unfold zhK
  exact Bal.append (y:=1) (zaf (by decide) (by decide) ⟨by decide,by decide⟩ (zh0 (by decide) (by decide) (zaQ _))) (Bal.append (zbN _ fun x hx=>zjy (h6 x hx)) (Bal.append (zaf (by decide) (by decide) ⟨by decide,by decide⟩ (zaf (by decide) (by decide) (zbh v7) (zaf (by decide) (by decide) (zbh v8) (zaf (by decide) (by decide) ⟨by decide,by decide⟩ (zaQ _))))) (zfn (by decide) (by decide) (zaQ _))))
 ·exact zaQ _
theorem zfX {ds:List D} (h:zcs ds=true):zbi (zdB ds)≤1000000:=by
 have hv:=zal h;obtain⟨v0,hv⟩:=zaa hv;obtain⟨v1,hv⟩:=zaa hv;obtain⟨v2,hv⟩:=zaa hv;obtain⟨v3,hv⟩:=zaa hv;obtain⟨v4,hv⟩:=zaa hv;obtain⟨v7,hv⟩:=zaa hv;obtain⟨v8,hv⟩:=zaa hv;obtain⟨⟨_,l5⟩,h5⟩:=zag (zal (zac h));obtain⟨⟨_,l6⟩,h6⟩:=zag (zac (zac h));have c0:=zav (za1 v0);have c1:=zav (za1 v1);have c2:=zav (za1 v2);have c3:=zav (za1 v3);have c4:=zav (za1 v4);have c7:=zav (za1 v7);have c8:=zav (za1 v8);have d5:=zbq (f:=zbM) _ fun x hx=>zh8 (h5 x hx)
 have d6:=zbq (f:=zcT) _ fun x hx=>zh4 (h6 x hx)
 unfold zdB zhK
 simp only[zah,zaW,zbe,List.length_cons,List.length_nil];split
 ·simp only[zah,zaW,zbe,List.length_cons,List.length_nil];omega
 ·simp only[zbe];omega
theorem zh9 {ds:List D} (h:zcs ds=true):oks ⟨[],0,[]⟩ (zdB ds):=(zmJ h ⟨[],0,[]⟩ rfl).1
theorem zia (ds:List D):(pss ⟨[],0,[]⟩ (zdB ds)).out=txt ds:=by rw[zhF];rfl
theorem zib {ds:List D} (h:zcs ds=true):(txt ds).length≤1000000:=by
 have:=zaO (zdB ds) ⟨[],0,[]⟩ (zh9 h);rw[zia]at this;have:=zfX h;simp at *;omega
end S
end Go.Proofs.YtfepanidippjlaaGreatDoor
