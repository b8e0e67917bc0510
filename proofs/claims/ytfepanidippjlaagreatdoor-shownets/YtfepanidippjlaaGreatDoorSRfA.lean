/- What the printer writes of a network is what the document says, line by line. No program is met here. -/
import Derived.Test.YtfepanidippjlaaGreatDoorSOks
import Derived.Test.YtfepanidippjlaaGreatDoorSRtx
import Derived.Test.YtfepanidippjlaaGreatDoorSRtN
import Derived.Test.YtfepanidippjlaaGreatDoorLNtA
import Derived.Test.YtfepanidippjlaaGreatDoorSNum
import Derived.Test.YtfepanidippjlaaGreatDoorSFew
import Derived.Test.YtfepanidippjlaaGreatDoorLRightA
import Derived.Test.YtfepanidippjlaaGreatDoorQChg
namespace Go.Proofs.YtfepanidippjlaaGreatDoor
open Go.RowKit
set_option linter.unusedVariables false
set_option linter.unusedSimpArgs false
set_option maxRecDepth 10000
namespace S
def zjI (ds:List D):List UInt8:= [32,32,104,101,97,100,32]++(tS (gt ds 0)++([32,118,111,108,117,109,101,32]++(dg (fI (gt ds 1))++([32,102,108,111,119,32]++(dg (fI (gt ds 2))++([32,117,115,101,32]++((dg (fI (gt ds 3))++(47 :: dg (fI (gt ds 4))))++([32,115,112,101,101,100,32]++(dg (fI (gt ds 5))++([32,103,114,97,100,101,32]++(dg (fI (gt ds 6))++([32,119,105,100,116,104,32]++(dg (fI (gt ds 7))++([32,108,101,110,103,116,104,32]++(dg (fI (gt ds 8))++([32,103,114,101,101,110,32]++(dg (fI (gt ds 9))++([59,10]))))))))))))))))))
def zjJ (ds:List D):List UInt8:= [32,32,119,97,108,107,32]++(tS (gt ds 0)++([32,119,105,116,104,32]++(tS (gt ds 1)++([32,108,111,110,103,32]++(dg (fI (gt ds 2))++([32,112,97,99,101,32]++(dg (fI (gt ds 3))++([32,108,101,97,115,116,32]++(dg (fI (gt ds 4))++([59,10]))))))))))
def zpF (ds:List D):List UInt8:= [32,32,102,111,101,32]++(tS (gt ds 0)++([32]++(tS (gt ds 1)++([59,10]))))
def ziv (ds:List D):List UInt8:= [32,32,115,116,111,112,32]++(tS (gt ds 0)++([32,111,117,116,32]++(tS (gt ds 1)++([32,105,110,32]++(tS (gt ds 2)++([32,97,104,101,97,100,32]++(dg (fI (gt ds 3))++([32,98,97,99,107,32]++(dg (fI (gt ds 4))++([59,10]))))))))))
def zf3 (ds:List D):List UInt8:= [32,32,112,104,97,115,101,32]++(tS (gt ds 0)++([58,32]++(ls (nms (gt ds 1))++([59,10]))))
def zjK (ds:List D):List UInt8:= [32,32,32,32,114,105,110,103,32]++((if fB (gt ds 0)then [102,114,101,101,32]else [])++(ls (nms (gt ds 1))++ [59,10]))
def zef (ds:List D):List UInt8:= [32,32,103,114,111,117,112,32,123,10]++((fL (gt ds 0)).flatMap zjK++ [32,32,125,10])
def zdZ (ds:List D):List UInt8:= [110,111,100,101,32]++(tS (gt ds 0)++([32,123,10]++((fL (gt ds 1)).flatMap zjI++((fL (gt ds 2)).flatMap zjJ++((fL (gt ds 3)).flatMap zf3++((fL (gt ds 4)).flatMap zef++((fL (gt ds 5)).flatMap zpF++([125,10]))))))))
def zoR (ds:List D):List UInt8:= [97,114,116,101,114,121,32,123,10]++((fL (gt ds 6)).flatMap ziv++([32,32,119,101,105,103,104,116,115,32]++(dg (fI (gt ds 7))++([32]++(dg (fI (gt ds 8))++([59,10,125,10]))))))
def znl (ds:List D):List UInt8:= [99,121,99,108,101,32]++(dg (fI (gt ds 0))++([32,116,111,32]++(dg (fI (gt ds 1))++([32,98,121,32]++(dg (fI (gt ds 2))++([59,10,112,101,97,107,32]++((dg (fI (gt ds 3))++(47 :: dg (fI (gt ds 4))))++([59,10]++((fL (gt ds 5)).flatMap zdZ++((if zbW ds then zoR ds else [])))))))))))
def Pw (w:List UInt8):Prop:=w≠ []∧w≠ [123]∧w≠ [125]∧w≠ [59]∧w≠ [44]∧w≠ [58]∧w≠ [47]
theorem zbf {op:Int} {w:List UInt8} {ws:List (List UInt8)} (h:Pw w):rst op [] (w :: ws)=List.replicate (2 * op.toNat) 32++(w++rst op w ws):=by
 obtain⟨h0,h1,h2,h3,h4,h5,h6⟩:=h;simp[rst,gp,op1,h1,h2,h3]
theorem zaw {op:Int} {la w:List UInt8} {ws:List (List UInt8)} (hl:la≠ []∧la≠ [47]) (h:Pw w):rst op la (w :: ws)=32 :: (w++rst op w ws):=by
 obtain⟨h0,h1,h2,h3,h4,h5,h6⟩:=h;simp[rst,gp,op1,h1,h2,h3,h4,h5,h6,hl.1,hl.2]
theorem ziw {op:Int} {w:List UInt8} {ws:List (List UInt8)} (h:Pw w):rst op [47] (w :: ws)=w++rst op w ws:=by
 obtain⟨h0,h1,h2,h3,h4,h5,h6⟩:=h;simp[rst,gp,op1,h1,h2,h3]
theorem zcw {op:Int} {la:List UInt8} {ws:List (List UInt8)} (hl:la≠ []):rst op la ([59] :: ws)=59 :: 10 :: rst op [] ws:=by
 simp only[rst,gp,op1,hl];by_cases h:la= [47]<;>simp[h]
theorem zeD {op:Int} {la:List UInt8} {c:UInt8} {ws:List (List UInt8)} (hl:la≠ []) (hc:c=44∨c=58∨c=47):rst op la ([c] :: ws)=c :: rst op [c] ws:=by
 simp only[rst,gp,op1,hl];by_cases h:la= [47]<;>rcases hc with rfl|rfl|rfl<;>simp[h]
theorem zfr {op:Int} {la:List UInt8} {ws:List (List UInt8)} (hl:la≠ []∧la≠ [47]):rst op la ([123] :: ws)=32 :: 123 :: 10 :: rst (op+1) [] ws:=by
 simp[rst,gp,op1,hl.1,hl.2]
theorem zeE {op:Int} {ws:List (List UInt8)} :rst op [] ([125] :: ws)=List.replicate (2 * (op - 1).toNat) 32++(125 :: 10 :: rst (op - 1) [] ws):=by
 simp[rst,gp,op1]
theorem zmU {s:List UInt8} {k n:Int} (h:Gs s k n) (hk:k≠3):Pw s:=by
 refine⟨?_,zbZ h hk (by decide),zbZ h hk (by decide),zbZ h hk (by decide),zbZ h hk (by decide),zbZ h hk (by decide),zbZ h hk (by decide)⟩;rintro rfl;have:=h.2.1;simp only[one,Except.ok.injEq,Tok.mk.injEq]at this;exact h.1 this.1.symm
theorem zbC {s:List UInt8} (h:nmB s=true):Pw s:=zmU (zhH (zdS h).1) (by decide)
theorem zbl {n:Int} (h:nuB n=true):Pw (dg n):=zmU (zdm h) (by decide)
theorem zoS {n:Int} (h:grB n=true):Pw (dg n):=by
 by_cases h0:n<0
 ·have hg:=zdm (n:= -n) (by unfold nuB;have:=of_decide_eq_true h;exact decide_eq_true ⟨by omega,by omega⟩);have hne:=(zmU hg (by decide)).1;rw[zhJ h0];refine⟨by simp,?_,?_,?_,?_,?_,?_⟩<;>simp
 ·exact zbl (by unfold nuB;have:=of_decide_eq_true h;exact decide_eq_true ⟨by omega,by omega⟩)
theorem Pw.la {w:List UInt8} (h:Pw w):w≠ []∧w≠ [47]:=⟨h.1,h.2.2.2.2.2.2⟩
def Ls (x y:Int) (ws:List (List UInt8)) (bs:List UInt8):Prop:=∀ r,rst x [] (ws++r)=bs++rst y [] r
theorem Ls.nil (x:Int):Ls x x [] []:=fun r=>rfl
theorem Ls.append {x y z:Int} {a c:List (List UInt8)} {p q:List UInt8} (h:Ls x y a p) (k:Ls y z c q):Ls x z (a++c) (p++q):=fun r=>by rw[List.append_assoc,h,k,List.append_assoc]
theorem Ls.flat {x:Int} {f:List D→List (List UInt8)} {g:List D→List UInt8} :∀(L:List (List D)),(∀ d∈L,Ls x x (f d) (g d))→Ls x x (L.flatMap f) (L.flatMap g)
 | [],_=>Ls.nil x
 |d :: L,h=>by rw[List.flatMap_cons,List.flatMap_cons];exact(h d List.mem_cons_self).append (Ls.flat L (fun y hy=>h y (List.mem_cons_of_mem _ hy)))
theorem zdU {op:Int} {la:List UInt8} (hl:la≠ []∧la≠ [47]):∀(l:List (List UInt8)),l≠ []→(∀ s∈l,nmB s=true)→∀ r,rst op la (lw l++r)=32 :: (ls l++(59 :: 10 :: rst op [] r))
 | [],h,_,_=>absurd rfl h
 |s :: l,_,hn,r=>by
  have key:∀(l:List (List UInt8)) (la:List UInt8),la≠ []→(∀ s∈l,nmB s=true)→rst op la (l.flatMap (fun x=> [[44],x])++([59] :: r))=l.flatMap (fun x=>44 :: 32 :: x)++(59 :: 10 :: rst op [] r):=by
   intro l
   induction l with
   |nil=>intro la h _;simp only[List.flatMap_nil,List.nil_append];exact zcw h
   |cons a l ih=>
    intro la h hn
    have ha:=zbC (hn a List.mem_cons_self);simp only[List.flatMap_cons,List.cons_append,List.nil_append];rw[zeD h (.inl rfl),zaw ⟨by simp,by simp⟩ ha,ih a ha.1 (fun x hx=>hn x (List.mem_cons_of_mem _ hx))];simp
  have hs:=zbC (hn s List.mem_cons_self);simp only[lw,List.cons_append,List.append_assoc,List.nil_append];rw[zaw hl hs,key l s hs.1 (fun x hx=>hn x (List.mem_cons_of_mem _ hx))];simp[ls]
theorem zmV {ds:List D} (h:za7 ds=true):Ls 1 1 (zb6 ds) (zjI ds):=by
 have n0:=zbC (zal h);have v6:=zoS (zal (zac h));have hv:=zac (zac h);obtain⟨w1,hv⟩:=zaa hv;have v1:=zbl w1;obtain⟨w2,hv⟩:=zaa hv;have v2:=zbl w2;obtain⟨w3,hv⟩:=zaa hv;have v3:=zbl w3;obtain⟨w4,hv⟩:=zaa hv;have v4:=zbl w4;obtain⟨w5,hv⟩:=zaa hv;have v5:=zbl w5;obtain⟨w7,hv⟩:=zaa hv;have v7:=zbl w7;obtain⟨w8,hv⟩:=zaa hv;have v8:=zbl w8;obtain⟨w9,hv⟩:=zaa hv;have v9:=zbl w9;intro r
 simp only[zb6,hw,zjI,List.cons_append,List.nil_append,List.append_assoc];rw[zbf (show Pw [104,101,97,100]from⟨by decide,by decide,by decide,by decide,by decide,by decide,by decide⟩),zaw ((show Pw [104,101,97,100]from⟨by decide,by decide,by decide,by decide,by decide,by decide,by decide⟩)).la n0,zaw (n0).la (show Pw [118,111,108,117,109,101]from⟨by decide,by decide,by decide,by decide,by decide,by decide,by decide⟩),zaw ((show Pw [118,111,108,117,109,101]from⟨by decide,by decide,by decide,by decide,by decide,by decide,by decide⟩)).la v1,zaw (v1).la (show Pw [102,108,111,119]from⟨by decide,by decide,by decide,by decide,by decide,by decide,by decide⟩),zaw ((show Pw [102,108,111,119]from⟨by decide,by decide,by decide,by decide,by decide,by decide,by decide⟩)).la v2,zaw (v2).la (show Pw [117,115,101]from⟨by decide,by decide,by decide,by decide,by decide,by decide,by decide⟩),zaw ((show Pw [117,115,101]from⟨by decide,by decide,by decide,by decide,by decide,by decide,by decide⟩)).la v3,zeD (v3).1 (.inr (.inr rfl)),ziw v4,zaw (v4).la (show Pw [115,112,101,101,100]from⟨by decide,by decide,by decide,by decide,by decide,by decide,by decide⟩),zaw ((show Pw [115,112,101,101,100]from⟨by decide,by decide,by decide,by decide,by decide,by decide,by decide⟩)).la v5,zaw (v5).la (show Pw [103,114,97,100,101]from⟨by decide,by decide,by decide,by decide,by decide,by decide,by decide⟩),zaw ((show Pw [103,114,97,100,101]from⟨by decide,by decide,by decide,by decide,by decide,by decide,by decide⟩)).la v6,zaw (v6).la (show Pw [119,105,100,116,104]from⟨by decide,by decide,by decide,by decide,by decide,by decide,by decide⟩),zaw ((show Pw [119,105,100,116,104]from⟨by decide,by decide,by decide,by decide,by decide,by decide,by decide⟩)).la v7,zaw (v7).la (show Pw [108,101,110,103,116,104]from⟨by decide,by decide,by decide,by decide,by decide,by decide,by decide⟩),zaw ((show Pw [108,101,110,103,116,104]from⟨by decide,by decide,by decide,by decide,by decide,by decide,by decide⟩)).la v8,zaw (v8).la (show Pw [103,114,101,101,110]from⟨by decide,by decide,by decide,by decide,by decide,by decide,by decide⟩),zaw ((show Pw [103,114,101,101,110]from⟨by decide,by decide,by decide,by decide,by decide,by decide,by decide⟩)).la v9,zcw (v9).1];simp
theorem zmW {ds:List D} (h:zbx ds=true):Ls 1 1 (zcS ds) (zjJ ds):=by
 have n0:=zbC (zal h);have n1:=zbC (zal (zac h));have hv:=zac (zac h);obtain⟨w2,hv⟩:=zaa hv;have v2:=zbl w2;obtain⟨w3,hv⟩:=zaa hv;have v3:=zbl w3;obtain⟨w4,hv⟩:=zaa hv;have v4:=zbl w4;intro r
 simp only[zcS,zjJ,List.cons_append,List.nil_append,List.append_assoc];rw[zbf (show Pw [119,97,108,107]from⟨by decide,by decide,by decide,by decide,by decide,by decide,by decide⟩),zaw ((show Pw [119,97,108,107]from⟨by decide,by decide,by decide,by decide,by decide,by decide,by decide⟩)).la n0,zaw (n0).la (show Pw [119,105,116,104]from⟨by decide,by decide,by decide,by decide,by decide,by decide,by decide⟩),zaw ((show Pw [119,105,116,104]from⟨by decide,by decide,by decide,by decide,by decide,by decide,by decide⟩)).la n1,zaw (n1).la (show Pw [108,111,110,103]from⟨by decide,by decide,by decide,by decide,by decide,by decide,by decide⟩),zaw ((show Pw [108,111,110,103]from⟨by decide,by decide,by decide,by decide,by decide,by decide,by decide⟩)).la v2,zaw (v2).la (show Pw [112,97,99,101]from⟨by decide,by decide,by decide,by decide,by decide,by decide,by decide⟩),zaw ((show Pw [112,97,99,101]from⟨by decide,by decide,by decide,by decide,by decide,by decide,by decide⟩)).la v3,zaw (v3).la (show Pw [108,101,97,115,116]from⟨by decide,by decide,by decide,by decide,by decide,by decide,by decide⟩),zaw ((show Pw [108,101,97,115,116]from⟨by decide,by decide,by decide,by decide,by decide,by decide,by decide⟩)).la v4,zcw (v4).1];simp
theorem zoT {ds:List D} (h:zd7 ds=true):Ls 1 1 (zfj ds) (zpF ds):=by
 have n0:=zbC (zal h);have n1:=zbC (zac h);intro r
 simp only[zfj,zpF,List.cons_append,List.nil_append,List.append_assoc];rw[zbf (show Pw [102,111,101]from⟨by decide,by decide,by decide,by decide,by decide,by decide,by decide⟩),zaw ((show Pw [102,111,101]from⟨by decide,by decide,by decide,by decide,by decide,by decide,by decide⟩)).la n0,zaw (n0).la n1,zcw (n1).1];simp
theorem zmX {ds:List D} (h:zbv ds=true):Ls 1 1 (zcT ds) (ziv ds):=by
 have n0:=zbC (zal h);have n1:=zbC (zal (zac h));have n2:=zbC (zal (zac (zac h)));have hv:=zac (zac (zac h));obtain⟨w3,hv⟩:=zaa hv;have v3:=zbl w3;obtain⟨w4,hv⟩:=zaa hv;have v4:=zbl w4;intro r
 simp only[zcT,ziv,List.cons_append,List.nil_append,List.append_assoc];rw[zbf (show Pw [115,116,111,112]from⟨by decide,by decide,by decide,by decide,by decide,by decide,by decide⟩),zaw ((show Pw [115,116,111,112]from⟨by decide,by decide,by decide,by decide,by decide,by decide,by decide⟩)).la n0,zaw (n0).la (show Pw [111,117,116]from⟨by decide,by decide,by decide,by decide,by decide,by decide,by decide⟩),zaw ((show Pw [111,117,116]from⟨by decide,by decide,by decide,by decide,by decide,by decide,by decide⟩)).la n1,zaw (n1).la (show Pw [105,110]from⟨by decide,by decide,by decide,by decide,by decide,by decide,by decide⟩),zaw ((show Pw [105,110]from⟨by decide,by decide,by decide,by decide,by decide,by decide,by decide⟩)).la n2,zaw (n2).la (show Pw [97,104,101,97,100]from⟨by decide,by decide,by decide,by decide,by decide,by decide,by decide⟩),zaw ((show Pw [97,104,101,97,100]from⟨by decide,by decide,by decide,by decide,by decide,by decide,by decide⟩)).la v3,zaw (v3).la (show Pw [98,97,99,107]from⟨by decide,by decide,by decide,by decide,by decide,by decide,by decide⟩),zaw ((show Pw [98,97,99,107]from⟨by decide,by decide,by decide,by decide,by decide,by decide,by decide⟩)).la v4,zcw (v4).1];simp
theorem zjL {ds:List D} (h:zbm ds=true):Ls 1 1 (zbF ds) (zf3 ds):=by
 have n0:=zbC (zal h);obtain⟨h1,h2,_⟩:=zci (by decide) (zac h);intro r
 simp only[zbF,zf3,List.cons_append,List.nil_append,List.append_assoc];rw[zbf (show Pw [112,104,97,115,101]from⟨by decide,by decide,by decide,by decide,by decide,by decide,by decide⟩),zaw ((show Pw [112,104,97,115,101]from⟨by decide,by decide,by decide,by decide,by decide,by decide,by decide⟩)).la n0,zeD (n0).1 (.inr (.inl rfl)),zdU ⟨by simp,by simp⟩ _ h1 h2];simp
theorem zmY {ds:List D} (h:zdq ds=true):Ls 2 2 (zcL ds) (zjK ds):=by
 obtain⟨h1,h2,_⟩:=zci (by decide) h;intro r
 unfold zcL rw1 zjK
 cases fB (gt ds 0)
 ·simp only[List.cons_append,List.nil_append,Bool.false_eq_true,if_false,List.append_assoc];rw[zbf (show Pw [114,105,110,103]from⟨by decide,by decide,by decide,by decide,by decide,by decide,by decide⟩),zdU ⟨by simp,by simp⟩ _ h1 h2];simp
 ·simp only[List.cons_append,List.nil_append,if_true,List.append_assoc];rw[zbf (show Pw [114,105,110,103]from⟨by decide,by decide,by decide,by decide,by decide,by decide,by decide⟩),zaw ⟨by simp,by simp⟩ (show Pw [102,114,101,101]from⟨by decide,by decide,by decide,by decide,by decide,by decide,by decide⟩),zdU ⟨by simp,by simp⟩ _ h1 h2];simp
theorem zjM {ds:List D} (h:zbT ds=true):Ls 1 1 (za9 ds) (zef ds):=by
 obtain⟨_,h3⟩:=zag h;unfold za9 zef
 refine Ls.append (y:=2) (fun r=>?_) (Ls.append (Ls.flat _ fun x hx=>zmY (h3 x hx)) (fun r=>?_))
 ·simp only[List.cons_append,List.nil_append];rw[zbf (show Pw [103,114,111,117,112]from⟨by decide,by decide,by decide,by decide,by decide,by decide,by decide⟩),zfr ⟨by simp,by simp⟩];simp
 ·simp only[List.cons_append,List.nil_append];rw[zeE];simp
theorem zmZ {ds:List D} (h:zbR ds=true):Ls 0 0 (zbM ds) (zdZ ds):=by
 have n0:=zbC (zal h);obtain⟨_,h1⟩:=zag (zal (zac h));obtain⟨_,h2⟩:=zag (zal (zac (zac h)));obtain⟨_,h3⟩:=zag (zal (zac (zac (zac h))));obtain⟨_,h4⟩:=zag (zal (zac (zac (zac (zac h)))));obtain⟨_,h5⟩:=zag (zac (zac (zac (zac (zac h)))));have hh:Ls 0 1 [[110,111,100,101],tS (gt ds 0),[123]] ([110,111,100,101,32]++(tS (gt ds 0)++ [32,123,10])):=fun r=>by
  simp only[List.cons_append,List.nil_append];rw[zbf (show Pw [110,111,100,101]from⟨by decide,by decide,by decide,by decide,by decide,by decide,by decide⟩),zaw ⟨by simp,by simp⟩ n0,zfr n0.la];simp
 have ht:Ls 1 0 [[125]] [125,10]:=fun r=>by
  simp only[List.cons_append,List.nil_append];rw[zeE];simp
 have:=Ls.append hh (Ls.append (Ls.flat _ fun x hx=>zmV (h1 x hx)) (Ls.append (Ls.flat _ fun x hx=>zmW (h2 x hx)) (Ls.append (Ls.flat _ fun x hx=>zjL (h3 x hx)) (Ls.append (Ls.flat _ fun x hx=>zjM (h4 x hx)) (Ls.append (Ls.flat _ fun x hx=>zoT (h5 x hx)) ht)))));unfold zbM zdZ
 simp only[List.append_assoc]at this ⊢;exact this
theorem zoU {ds:List D} (h:zcs ds=true):txt ds=znl ds:=by
 have hv:=zal h;obtain⟨w0,hv⟩:=zaa hv;obtain⟨w1,hv⟩:=zaa hv;obtain⟨w2,hv⟩:=zaa hv;obtain⟨w3,hv⟩:=zaa hv;obtain⟨w4,hv⟩:=zaa hv;obtain⟨w7,hv⟩:=zaa hv;obtain⟨w8,hv⟩:=zaa hv;have v0:=zbl w0;have v1:=zbl w1;have v2:=zbl w2;have v3:=zbl w3;have v4:=zbl w4;have v7:=zbl w7;have v8:=zbl w8;obtain⟨_,h5⟩:=zag (zal (zac h));obtain⟨_,h6⟩:=zag (zac (zac h));have ln:Ls 0 0 ((fL (gt ds 5)).flatMap zbM) ((fL (gt ds 5)).flatMap zdZ):=Ls.flat _ fun x hx=>zmZ (h5 x hx)
 have la:Ls 0 0 (zhK ds) (zoR ds):=by
  have ha:Ls 0 1 [[97,114,116,101,114,121],[123]] [97,114,116,101,114,121,32,123,10]:=fun r=>by
   simp only[List.cons_append,List.nil_append];rw[zbf (show Pw [97,114,116,101,114,121]from⟨by decide,by decide,by decide,by decide,by decide,by decide,by decide⟩),zfr ⟨by simp,by simp⟩];simp
  have hw:Ls 1 0 ([[119,101,105,103,104,116,115],dg (fI (gt ds 7)),dg (fI (gt ds 8)),[59]]++ [[125]]) ([32,32,119,101,105,103,104,116,115,32]++(dg (fI (gt ds 7))++([32]++(dg (fI (gt ds 8))++ [59,10,125,10])))):=fun r=>by
   simp only[List.cons_append,List.nil_append];rw[zbf (show Pw [119,101,105,103,104,116,115]from⟨by decide,by decide,by decide,by decide,by decide,by decide,by decide⟩),zaw ⟨by simp,by simp⟩ v7,zaw v7.la v8,zcw v8.1,zeE];simp
  have:=Ls.append ha (Ls.append (Ls.flat _ fun x hx=>zmX (h6 x hx)) hw);unfold zhK zoR
  exact this
 have lt:Ls 0 0 (if zbW ds then zhK ds else []) (if zbW ds then zoR ds else []):=by
  by_cases ha:zbW ds
  ·rw[if_pos ha,if_pos ha];exact la
  ·rw[if_neg ha,if_neg ha];exact Ls.nil 0
 have hall:=(ln.append lt) [];rw[List.append_nil]at hall;unfold txt zdB znl
 simp only[List.cons_append,List.nil_append,List.append_assoc]at hall ⊢;rw[zbf (show Pw [99,121,99,108,101]from⟨by decide,by decide,by decide,by decide,by decide,by decide,by decide⟩),zaw ((show Pw [99,121,99,108,101]from⟨by decide,by decide,by decide,by decide,by decide,by decide,by decide⟩)).la v0,zaw (v0).la (show Pw [116,111]from⟨by decide,by decide,by decide,by decide,by decide,by decide,by decide⟩),zaw ((show Pw [116,111]from⟨by decide,by decide,by decide,by decide,by decide,by decide,by decide⟩)).la v1,zaw (v1).la (show Pw [98,121]from⟨by decide,by decide,by decide,by decide,by decide,by decide,by decide⟩),zaw ((show Pw [98,121]from⟨by decide,by decide,by decide,by decide,by decide,by decide,by decide⟩)).la v2,zcw (v2).1,zbf (show Pw [112,101,97,107]from⟨by decide,by decide,by decide,by decide,by decide,by decide,by decide⟩),zaw ((show Pw [112,101,97,107]from⟨by decide,by decide,by decide,by decide,by decide,by decide,by decide⟩)).la v3,zeD (v3).1 (.inr (.inr rfl)),ziw v4,zcw (v4).1,hall];simp[rst]
end S
end Go.Proofs.YtfepanidippjlaaGreatDoor
namespace Go.Proofs.YtfepanidippjlaaGreatDoor
open Go.RowKit
attribute [local go_sem ↓] Go.wp_at_zero Go.wp_at_succ
set_option linter.unusedVariables false
set_option linter.unusedSimpArgs false
set_option maxRecDepth 10000
namespace S
theorem zgD {α:Type} {n:Nat} {f g:Nat→List α} (h:∀ k,k<n→f k=g k):(List.range n).flatMap f=(List.range n).flatMap g:=by
 have:∀ m,m≤n→(List.range m).flatMap f=(List.range m).flatMap g:=by
  intro m
  induction m with
  |zero=>intro _;rfl
  |succ m ih=>intro hm;rw[zba,zba,ih (by omega),h m (by omega)]
 exact this n (Nat.le_refl _)
theorem zkm {a b c d:List UInt8} (h:a=b) (k:c=d):a++c=b++d:=by rw[h,k]
theorem zkn:∀ {l:List (List UInt8)} {m:Nat},(∀ s∈l,nmB s=true)→l.length≤m→(ls l).length≤26 * m
 | [],m,_,_=>by simp[ls]
 |s :: l,m,h,hm=>by
  have key:∀ l:List (List UInt8),(∀ s∈l,nmB s=true)→(l.flatMap (fun x=>44 :: 32 :: x)).length≤26 * l.length:=by
   intro l
   induction l with
   |nil=>intro _;simp
   |cons a l ih=>
    intro h
    rw[List.flatMap_cons,List.length_append,List.length_cons,List.length_cons,List.length_cons];have:=zaA (h a List.mem_cons_self);have:=ih (fun y hy=>h y (List.mem_cons_of_mem _ hy));omega
  have:=key l (fun y hy=>h y (List.mem_cons_of_mem _ hy));have:=zaA (h s List.mem_cons_self);rw[ls,List.length_append];simp only[List.length_cons]at hm;omega
theorem ze0 {w:World} {a:Option Addr} {L:List (List D)} {cap lo hi:Nat} (hL:∀ ds∈L,ShL zbK ds) (HA:Rvss w a 1 L 0) (hB:zbb lo hi zc1 L=true) (hh:hi≤100):
  Calls Tryz.prog 46 #[.slice a L.length cap] w fun e w'=>e= .returned (.string (sv (ls (L.map (fun e=>tS (gt e 0))))))∧Keep w w':=by
 obtain⟨⟨_,h2⟩,h3⟩:=zag hB;rw[← zeU (fun e=>tS (gt e 0)) L];refine(zgA a L.length cap (fun k=>tS (gt (L.getD k []) 0)) w (by omega) (hide fun k hk=>?_) (hide fun k hk=>zaA (h3 _ (zaV hk)))).mono ?_
 ·obtain⟨ad,us,rfl,hb,h1,h2,h3⟩:=zaL L 0 HA k hk;have hs:=hL (L.getD k []) (zaV hk);show ∃ ad',some ad=some ad'∧w.cell? (ad'.add k)=some (.string (sv (tS (gt (L.getD k []) 0))));generalize L.getD k []=ds at h1 hs ⊢;simp only[ShL,Sh1,zbK]at hs;obtain⟨_,_,rfl,⟨s0,rfl,_⟩,rfl⟩:=hs;simp only[Rvs,Rv,dS,dI,dB]at h1;obtain⟨_,_,rfl,rfl,rfl⟩:=h1;rw[Nat.zero_add,Nat.mul_one]at h3;exact⟨ad,rfl,h3 0 _ rfl⟩
 ·rintro e w' ⟨rfl,rfl⟩;exact⟨rfl,Keep.refl _⟩
theorem td (n:Int) (h:grB n=true) (w:World):Calls Tryz.prog 19 #[.int .i64 n] w fun e w'=>e= .returned (.string (sv (dg n)))∧Keep w w':=zit n w (by have:=of_decide_eq_true h;omega) (by have:=of_decide_eq_true h;omega)
set_option maxHeartbeats 4000000 in
theorem zix {w:World} {ds:List D} {us:List Value} (hs:ShL zbL ds) (hB:zbR ds=true) (hr:Rvs w ds us):Calls Tryz.prog 21 #[.agg us.toArray] w fun e w'=>e= .returned (.string (sv (zdZ ds)))∧Keep w w':=by
 have n0:=zaA (zal hB);obtain⟨⟨_,l1⟩,h1⟩:=zag (zal (zac hB));obtain⟨⟨_,l2⟩,h2⟩:=zag (zal (zac (zac hB)));obtain⟨⟨_,l3⟩,h3⟩:=zag (zal (zac (zac (zac hB))));obtain⟨⟨_,l4⟩,h4⟩:=zag (zal (zac (zac (zac (zac hB)))));obtain⟨⟨_,l5⟩,h5⟩:=zag (zac (zac (zac (zac (zac hB)))));clear hB;simp only[ShL,Sh1,zbL]at hs;obtain⟨_,_,rfl,⟨s0,rfl,_⟩,⟨_,_,rfl,⟨L1,rfl,_,q1⟩,⟨_,_,rfl,⟨L2,rfl,_,q2⟩,⟨_,_,rfl,⟨L3,rfl,_,q3⟩,⟨_,_,rfl,⟨L4,rfl,_,q4⟩,⟨_,_,rfl,⟨L5,rfl,_,q5⟩,⟨_,_,rfl,⟨v6,rfl,_,_⟩,rfl⟩⟩⟩⟩⟩⟩⟩:=hs;simp only[Rvs,Rv,dS,dI,dB]at hr;obtain⟨_,_,rfl,rfl,⟨_,_,rfl,⟨x1,z1,rfl,y1,m1⟩,⟨_,_,rfl,⟨x2,z2,rfl,y2,m2⟩,⟨_,_,rfl,⟨x3,z3,rfl,y3,m3⟩,⟨_,_,rfl,⟨x4,z4,rfl,y4,m4⟩,⟨_,_,rfl,⟨x5,z5,rfl,y5,m5⟩,⟨_,_,rfl,rfl,rfl⟩⟩⟩⟩⟩⟩⟩:=hr;simp only[gt,List.getD_cons_zero,List.getD_cons_succ,fL,zcu]at n0 l1 l2 l3 l4 l5 h1 h2 h3 h4 h5;have hp:w.heap.size≤w.heap.size:=Nat.le_refl _;have hF:=Fb.refl w.heap.size w;have key:=zgB s0 x1 L1.length z1 x2 L2.length z2 x3 L3.length z3 x4 L4.length z4 x5 L5.length z5 v6 (fun k=>tS (gt (L1.getD k []) 0)) (fun k=>fI (gt (L1.getD k []) 1)) (fun k=>fI (gt (L1.getD k []) 2)) (fun k=>fI (gt (L1.getD k []) 3)) (fun k=>fI (gt (L1.getD k []) 4)) (fun k=>fI (gt (L1.getD k []) 5)) (fun k=>fI (gt (L1.getD k []) 6)) (fun k=>fI (gt (L1.getD k []) 7)) (fun k=>fI (gt (L1.getD k []) 8)) (fun k=>fI (gt (L1.getD k []) 9)) (fun k=>fI (gt (L1.getD k []) 10)) (fun k=>tS (gt (L2.getD k []) 0)) (fun k=>tS (gt (L2.getD k []) 1)) (fun k=>fI (gt (L2.getD k []) 2)) (fun k=>fI (gt (L2.getD k []) 3)) (fun k=>fI (gt (L2.getD k []) 4)) (fun k=>fI (gt (L2.getD k []) 5)) (fun k=>tS (gt (L3.getD k []) 0)) (sA w x3 3 1) (sN w x3 3 1) (sC w x3 3 1) (fun k=>fI (gt (L3.getD k []) 2)) (sA w x4 1 0) (sN w x4 1 0) (sC w x4 1 0) (fun k=>tS (gt (L5.getD k []) 0)) (fun k=>tS (gt (L5.getD k []) 1)) (fun k=>fI (gt (L5.getD k []) 2)) (fun k=>ls (nms (gt (L3.getD k []) 1))) (fun k j=>fB (gt ((fL (gt (L4.getD k []) 0)).getD j []) 0)) (fun k j=>sA w (sA w x4 1 0 k) 2 1 j) (fun k j=>sN w (sA w x4 1 0 k) 2 1 j) (fun k j=>sC w (sA w x4 1 0 k) 2 1 j) (fun k j=>ls (nms (gt ((fL (gt (L4.getD k []) 0)).getD j []) 1))) w ⟨l1,l2,l3,l4,l5⟩ (hide td) (hide fun a b h1 h2 w'=>ziu a b w' h1 h2) (hide fun k hk w' hw=>?_) (hide fun k hk j hj w' hw=>?_) (hide fun k hk=>?_) (hide fun k hk=>?_) (hide fun k hk=>?_) (hide fun k hk=>?_) (hide fun k hk=>?_) (hide fun k hk j hj=>?_) (hide n0) (hide fun k hk=>?_) (hide fun k hk=>?_) (hide fun k hk=>?_) (hide fun k hk=>?_) (hide fun k hk=>?_)
 rotate_left
 ·obtain⟨r1,r2,r3,r4⟩:=zey q3 m3 k hk;rw[r1];exact ze0 r4 (Rvss.keep hw _ _ _ _ r3) (zac (h3 _ (zaV hk))) (by decide)
 ·obtain⟨r1,r2,r3,r4⟩:=zbQ q4 m4 k hk;rw[r1]at hj;obtain⟨t1,t2,t3,t4⟩:=zju r4 r3 j hj;obtain⟨_,g⟩:=zag (h4 _ (zaV hk));show Calls _ _ #[.slice _ (sN w (sA w x4 1 0 k) 2 1 j) _] _ _;rw[t1];exact ze0 t4 (Rvss.keep hw _ _ _ _ t3) (g _ (zaV hj)) (by decide)
 ·obtain⟨ad,e,_,h⟩:=zfU hp hF q1 m1 k hk;exact⟨ad,e,h⟩
 ·obtain⟨ad,e,_,h⟩:=zjr hp hF q2 m2 k hk;exact⟨ad,e,h⟩
 ·obtain⟨ad,e,_,h0,h1,_⟩:=zex hp hF q3 m3 k hk;exact⟨ad,e,h0,h1⟩
 ·obtain⟨ad,e,_,h⟩:=zez hp hF q4 m4 k hk;exact⟨ad,e,h⟩
 ·obtain⟨ad,e,_,h0,h1,_⟩:=zjs hp hF q5 m5 k hk;exact⟨ad,e,h0,h1⟩
 ·obtain⟨r1,r2,r3,r4⟩:=zbQ q4 m4 k hk;rw[r1]at hj;obtain⟨ad,e,_,h0,h1⟩:=zjt hp hF r4 r3 j hj;exact⟨ad,e,h0,h1⟩
 ·have h:=h1 _ (zaV hk);have hv:=zac (zac h);obtain⟨w1,hv⟩:=zaa hv;obtain⟨w2,hv⟩:=zaa hv;obtain⟨w3,hv⟩:=zaa hv;obtain⟨w4,hv⟩:=zaa hv;obtain⟨w5,hv⟩:=zaa hv;obtain⟨w7,hv⟩:=zaa hv;obtain⟨w8,hv⟩:=zaa hv;obtain⟨w9,hv⟩:=zaa hv;exact⟨zaA (zal h),za1 w1,za1 w2,za1 w3,za1 w4,za1 w5,zal (zac h),za1 w7,za1 w8,za1 w9⟩
 ·have h:=h2 _ (zaV hk);have hv:=zac (zac h);obtain⟨w2,hv⟩:=zaa hv;obtain⟨w3,hv⟩:=zaa hv;obtain⟨w4,hv⟩:=zaa hv;exact⟨zaA (zal h),zaA (zal (zac h)),za1 w2,za1 w3,za1 w4⟩
 ·have h:=h3 _ (zaV hk);obtain⟨_,g2,g3⟩:=zci (by decide) (zac h);exact⟨zaA (zal h),Nat.le_trans (zkn g2 g3) (by decide)⟩
 ·obtain⟨r1,r2,r3,r4⟩:=zbQ q4 m4 k hk;obtain⟨⟨_,g1⟩,g⟩:=zag (h4 _ (zaV hk));rw[r1];refine⟨g1,fun j hj=>?_⟩;obtain⟨_,g2,g3⟩:=zci (by decide) (g _ (zaV hj));exact Nat.le_trans (zkn g2 g3) (by decide)
 ·have h:=h5 _ (zaV hk);exact⟨zaA (zal h),zaA (zac h)⟩
 ·refine key.mono ?_;rintro e w' ⟨rfl,hk⟩;refine⟨?_,hk⟩;congr 2;unfold zdZ
  simp only[gt,List.getD_cons_zero,List.getD_cons_succ,fL,zcu];rw[← zaE zjI L1,← zaE zjJ L2,← zaE zf3 L3,← zaE zef L4,← zaE zpF L5];congr 6;refine zkm rfl (zkm (zgD fun k hk=>?_) rfl);obtain⟨r1,r2,r3,r4⟩:=zbQ q4 m4 k hk;show _++((List.range (sN w x4 1 0 k)).flatMap _++_)=zef (L4.getD k []);rw[r1];unfold zef
  rw[← zaE zjK]
  rfl
end S
namespace S
theorem zgE (t:Tok) (w:World):Calls Tryz.prog 59 #[tv t] w fun e w'=>e= .returned (.bool (rg t))∧Keep w w':=by
 by_cases hl:t.s.length≤70000
 ·exact zge t w hl
 ·have e:T t.s= .error (4,65536):=by unfold T;rw[if_pos (by omega)]
  rw[zgd (fun x y h=>by rw[e]at h;cases h)];refine zfN _ _ _ 4 65536 0 _ w (by simp) (hide fun w' v h=>?_);have:=zhN v t.s w' h;rw[e]at this;refine this.mono ?_;rintro _ w'' ⟨u,rfl,h1,_,h3⟩;obtain⟨b,cap,rfl⟩:=h1.shape;exact⟨b,cap,rfl,h3⟩
set_option maxHeartbeats 2000000 in
theorem zgF (s:ByteArray) (x y:Bool) (w:World)
  (T1:Hid (Calls Tryz.prog 59 #[.agg #[.int .i64 1,.string s,.int .i64 0,.int .i64 0]] w fun e w'=>e= .returned (.bool x)∧Keep w w'))
  (T2:Hid (∀ w',Calls Tryz.prog 60 #[.string s] w' fun e w''=>e= .returned (.bool y)∧Keep w' w'')):
  Calls Tryz.prog 30 #[.string s] w fun e w'=>e= .returned (.bool (x&& !y))∧Keep w w':=by
 cases x with
 |false=>
  go_enter Tryz.func30,Tryz.ntmps30;go_wp2_with fail
  (refine(uq T1).mono ?_;rintro e w2 ⟨rfl,hk⟩;have HK:=hide hk;clear hk);go_wp2_with fail
  go_ret;exact⟨rfl,uq HK⟩
 |true=>
  go_enter Tryz.func30,Tryz.ntmps30;go_wp2_with fail
  (refine(uq T1).mono ?_;rintro e w2 ⟨rfl,hk⟩;have HK:=hide hk;clear hk);go_wp2_with fail
  (refine((uq T2) _).mono ?_;rintro e w3 ⟨rfl,hk⟩;have HK3:=hide ((uq HK).trans hk);clear hk);go_wp2_with fail
  go_ret;refine⟨?_,uq HK3⟩;cases y<;>rfl
theorem ze1 (s:ByteArray) (w:World):Calls Tryz.prog 30 #[.string s] w fun e w'=>e= .returned (.bool (nmB s.data.toList))∧Keep w w':=by
 refine zgF s (rg ⟨1,s.data.toList,0,0⟩) (decide (s.data.toList∈words)) w (hide ?_) (hide fun w'=>?_)
 ·have:=zgE ⟨1,s.data.toList,0,0⟩ w;simp only[tv,zhp]at this;exact this
 ·have:=zdu s w';rwa[show s.toList=s.data.toList from by have h9:=zgc s.data.toList;rwa[zhp]at h9]at this
set_option maxHeartbeats 2000000 in
theorem zeF (n:Int) (w:World):Calls Tryz.prog 27 #[.int .i64 n] w fun e w'=>e= .returned (.bool (nuB n))∧w'=w:=by
 by_cases h1:0≤n
 ·by_cases h2:n≤999999999999999999
  ·rw[show nuB n=true by unfold nuB;rw[decide_eq_true ⟨h1,h2⟩]];go_enter Tryz.func27,Tryz.ntmps27;go_wp2_with fail
   go_ret;exact⟨rfl,rfl⟩
  ·rw[show nuB n=false by unfold nuB;rw[decide_eq_false (fun x=>h2 x.2)]];go_enter Tryz.func27,Tryz.ntmps27;go_wp2_with fail
   go_ret;exact⟨rfl,rfl⟩
 ·rw[show nuB n=false by unfold nuB;rw[decide_eq_false (fun x=>h1 x.1)]];go_enter Tryz.func27,Tryz.ntmps27;go_wp2_with fail
  go_ret;exact⟨rfl,rfl⟩
set_option maxHeartbeats 2000000 in
theorem ziy (a b:Int) (x y:Bool) (w:World) (TN:Hid (∀ w',Calls Tryz.prog 27 #[.int .i64 a] w' fun e w''=>e= .returned (.bool x)∧w''=w'))
  (TM:Hid (∀ w',Calls Tryz.prog 27 #[.int .i64 b] w' fun e w''=>e= .returned (.bool y)∧w''=w')):
  Calls Tryz.prog 28 #[.agg #[.int .i64 a,.int .i64 b]] w fun e w'=>e= .returned (.bool (x&&y))∧Keep w w':=by
 go_enter Tryz.func28,Tryz.ntmps28;go_wp2_with fail
 (refine((uq TN) _).mono ?_;rintro e w2 ⟨rfl,rfl⟩);cases x
 ·go_wp2_with fail
  go_ret;exact⟨rfl,(Keep.refl w).alloc _⟩
 ·go_wp2_with fail
  (refine((uq TM) _).mono ?_;rintro e w2 ⟨rfl,rfl⟩);go_wp2_with fail
  go_ret;refine⟨?_,(Keep.refl w).alloc _⟩;cases y<;>rfl
set_option maxHeartbeats 4000000 in
theorem zfs (a:Option Addr) (n cap most:Nat) (X:Nat→ByteArray) (B:Nat→Bool) (r:Bool) (w:World) (hm:most≤100)
  (HC:Hid (∀ k,k<n→∃ ad,a=some ad∧w.cell? (ad.add k)=some (.string (X k))))
  (TN:Hid (∀ k,k<n→∀ w',Calls Tryz.prog 30 #[.string (X k)] w' fun e w''=>e= .returned (.bool (B k))∧Keep w' w''))
  (HL:Hid (¬(1≤n∧n≤most)→r=false)) (HB:Hid (∀ k,k<n→B k=false→r=false)) (HY:Hid ((1≤n∧n≤most)→(∀ k,k<n→B k=true)→r=true)):
  Calls Tryz.prog 58 #[.slice a n cap,.int .i64 (most:Int)] w fun e w'=>e= .returned (.bool r)∧Keep w w':=by
 by_cases h1:n<1
 ·have g1:(n:Int)<1:=by omega
  obtain rfl:n=0:=by omega
  rw[(uq HL) (by omega)];go_enter Tryz.func58,Tryz.ntmps58;go_wp2_with fail
  go_ret;exact⟨rfl,Keep.refl _⟩
 by_cases h2:most<n
 ·have g1:¬(n:Int)<1:=by omega
  have g2:(most:Int)<(n:Int):=by omega
  rw[(uq HL) (by omega)];go_enter Tryz.func58,Tryz.ntmps58;go_wp2_with fail
  go_ret;exact⟨rfl,Keep.refl _⟩
 have g1:¬(n:Int)<1:=by omega
 have g2:¬(most:Int)<(n:Int):=by omega
 have HNM:Hid (1≤n∧n≤most):=hide (by omega);clear h1 h2;go_enter Tryz.func58,Tryz.ntmps58;go_wp2_with fail
 clear g1 g2
 go_loopw [5] (fun vi wr=>∃ k:Nat,k≤n∧vi= .int .i64 (k:Int)∧Hid (Keep w wr)∧Hid (∀ j,j<k→B j=true)) (fun vi _=>n - (intOf vi).toNat)
 case atStart=>exact⟨0,Nat.zero_le _,rfl,hide (Keep.refl _),hide (fun j hj=>by omega)⟩
 case round=>
  obtain⟨k,hk,rfl,HK,HA⟩:=hrel;by_cases hlt:k<n
  ·have li:(k:Int)<(n:Int):=by omega
   have hk9:k≤100:=by have:=uq HNM;omega
   have HT:=hide ((uq TN) k hlt);have HBk:=hide ((uq HB) k hlt);obtain⟨ad,rfl,e0⟩:=(uq HC) k hlt;have x0:=Q.kcell (uq HK) e0;clear e0;generalize X k=Xk at x0 HT;obtain⟨b,hb⟩:∃ b,Hid (B k=b):=⟨_,hide rfl⟩;rw[uq hb]at HT HBk;go_wp2_with fail
   (refine((uq HT) _).mono ?_;rintro e w2 ⟨rfl,hk2⟩;have HK2:=hide ((uq HK).trans hk2);clear hk2);cases b
   ·have HR:=hide ((uq HBk) rfl);clear HBk;go_wp2_with fail
    go_ret;exact⟨by rw[uq HR];rfl,uq HK2⟩
   ·go_wp2_with fail
    go_roundw
    case rel=>exact⟨k+1,hlt,by go_num,HK2,hide (fun j hj=>by rcases Nat.lt_succ_iff_lt_or_eq.1 hj with h|rfl;exact(uq HA) j h;exact uq hb)⟩
    case measure=>simp[intOf];omega
  ·have li:¬(k:Int)<(n:Int):=by omega
   have e:k=n:=by omega
   subst e;go_wp2_with fail
   go_ret;exact⟨by rw[(uq HY) (uq HNM) (uq HA)];rfl,uq HK⟩
theorem zeg {w:World} {a:Option Addr} {L:List (List D)} {cap most:Nat} (hm:most≤100) (hL:∀ ds∈L,ShL zbK ds) (HA:Rvss w a 1 L 0):
  Calls Tryz.prog 58 #[.slice a L.length cap,.int .i64 (most:Int)] w fun e w'=>e= .returned (.bool (zbb 1 most zc1 L))∧Keep w w':=by
 refine zfs a L.length cap most (fun k=>sv (tS (gt (L.getD k []) 0))) (fun k=>zc1 (L.getD k [])) _ w hm (hide fun k hk=>?_) (hide fun k hk w'=>?_) (hide fun h=>za4 h) (hide fun k hk h=>zan hk h) (hide fun h1 h2=>zaR h1 h2)
 ·obtain⟨ad,us,rfl,hb,h1,h2,h3⟩:=zaL L 0 HA k hk;have hs:=hL (L.getD k []) (zaV hk);show ∃ ad',some ad=some ad'∧w.cell? (ad'.add k)=some (.string (sv (tS (gt (L.getD k []) 0))));generalize L.getD k []=ds at h1 hs ⊢;simp only[ShL,Sh1,zbK]at hs;obtain⟨_,_,rfl,⟨s0,rfl,_⟩,rfl⟩:=hs;simp only[Rvs,Rv,dS,dI,dB]at h1;obtain⟨_,_,rfl,rfl,rfl⟩:=h1;rw[Nat.zero_add,Nat.mul_one]at h3;exact⟨ad,rfl,h3 0 _ rfl⟩
 ·exact ze1 _ w'
end S
end Go.Proofs.YtfepanidippjlaaGreatDoor
