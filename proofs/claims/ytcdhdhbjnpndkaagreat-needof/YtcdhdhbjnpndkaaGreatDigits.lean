/- Package need: Of, by the network's tree. -/
import Derived.Test.YtcdhdhbjnpndkaaGreatNdR
import Derived.Test.YtcdhdhbjnpndkaaGreatVDt
import Derived.Test.YtcdhdhbjnpndkaaGreatNqO
import Derived.Test.YtcdhdhbjnpndkaaGreatNdX
import Derived.Test.YtcdhdhbjnpndkaaGreatProg
import Derived.WalkKit
import Derived.ProofKit
import Derived.Test.YtcdhdhbjnpndkaaGreatLSkip
namespace Go.Proofs.YtcdhdhbjnpndkaaGreat
open Go.RowKit
set_option linter.unusedVariables false
set_option linter.unusedSimpArgs false
set_option maxRecDepth 10000
namespace Nd
open S V
def X9 (L1:List (List D)) (pn pd:Int) (j:Nat):Int:=(W.ratF (iv L1 1 j) (iv L1 2 j) (iv L1 3 j) (iv L1 4 j) pn pd).1
def Y9 (L1:List (List D)) (pn pd:Int) (j:Nat):Int:=(W.ratF (iv L1 1 j) (iv L1 2 j) (iv L1 3 j) (iv L1 4 j) pn pd).2.1
def Z9 (L1:List (List D)) (pn pd:Int) (j:Nat):Int:=(W.ratF (iv L1 1 j) (iv L1 2 j) (iv L1 3 j) (iv L1 4 j) pn pd).2.2
theorem zpW (L1:List (List D)) (pn pd:Int) (j:Nat):In (X9 L1 pn pd j)∧In (Y9 L1 pn pd j):=by
 have h:=W.rat_ok (iv L1 1 j) (iv L1 2 j) (iv L1 3 j) (iv L1 4 j) pn pd;exact⟨⟨h.in1.1,h.in1.2⟩,h.in2.1,h.in2.2⟩
theorem znM {L1:List (List D)} (q1:∀ ds∈L1,ShL zcZ ds) {j:Nat} (hj:j<L1.length):W.i64 (iv L1 1 j)∧W.i64 (iv L1 2 j)∧W.i64 (iv L1 3 j)∧W.i64 (iv L1 4 j):=by
 have hs:=q1 _ (zaX hj);unfold iv
 generalize L1.getD j []=ds at hs ⊢;simp only[ShL,Sh1,zcZ]at hs;obtain⟨_,_,rfl,⟨s0,rfl,_⟩,⟨_,_,rfl,⟨v1,rfl,b1⟩,⟨_,_,rfl,⟨v2,rfl,b2⟩,⟨_,_,rfl,⟨v3,rfl,b3⟩,⟨_,_,rfl,⟨v4,rfl,b4⟩,_⟩⟩⟩⟩⟩:=hs;exact⟨b1,b2,b3,b4⟩
theorem zd0 (X Y:Nat→Int):∀ n,(W.cp X Y n).length=n * 2
 |0=>rfl
 |n+1=>by rw[W.cp,List.length_append,zd0 X Y n];simp;omega
theorem zpX (X Y:Nat→Int):∀ n j,j<n→(W.cp X Y n)[j * 2]? =some (.int .i64 (X j))∧(W.cp X Y n)[j * 2+1]? =some (.int .i64 (Y j))
 |0,j,h=>by omega
 |n+1,j,h=>by
  rw[W.cp];rcases Nat.lt_succ_iff_lt_or_eq.1 h with e|e
  ·obtain⟨h1,h2⟩:=zpX X Y n j e;rw[List.getElem?_append_left (by rw[zd0];omega),List.getElem?_append_left (by rw[zd0];omega)];exact⟨h1,h2⟩
  ·subst e;rw[List.getElem?_append_right (by rw[zd0];omega),List.getElem?_append_right (by rw[zd0];omega),zd0];rw[Nat.sub_self,Nat.add_sub_cancel_left];exact⟨rfl,rfl⟩
theorem zpY {w:World} {ra:Option Addr} {n rc:Nat} {X Y:Nat→Int} (h:w.ownsRow 0 23 2 (.slice ra n rc) n (W.cp X Y n)) (j:Nat) (hj:j<n):∃ rd,ra=some rd∧rd.block<w.heap.size∧w.cell? (rd.add (j * 2))=some (.int .i64 (X j))∧w.cell? ⟨(rd.add (j * 2)).block,(rd.add (j * 2)).off+1,none⟩=some (.int .i64 (Y j)):=by
 obtain⟨g,cap,e,hg,_,_,hc⟩:=zbU h (by omega);cases e
 obtain⟨h0,h1⟩:=zpX X Y n j hj;refine⟨⟨g,0,none⟩,rfl,hg,?_⟩;rw[W.add_pl];simp only[Nat.zero_add];exact⟨hc _ _ h0,hc _ _ h1⟩
theorem zht {w:World} {s:ByteArray} {x1:Option Addr} {c1:Nat} {x2:Option Addr} {n2 c2:Nat} {x3:Option Addr} {n3 c3:Nat} {x4:Option Addr} {n4 c4:Nat} {x5:Option Addr} {n5 c5:Nat} {p pn pd:Int} {L1:List (List D)} (q1:∀ ds∈L1,ShL zcZ ds) (m1:Rvss w x1 11 L1 0) (b1:L1.length≤1000) (h3:W.i64 pn) (h4:W.i64 pd):
  Calls Tryz.prog 20 #[.agg #[.string s,.slice x1 L1.length c1,.slice x2 n2 c2,.slice x3 n3 c3,.slice x4 n4 c4,.slice x5 n5 c5,.int .i64 p],.agg #[.int .i64 pn,.int .i64 pd]] w (Rp0 L1.length (X9 L1 pn pd) (Y9 L1 pn pd) (Z9 L1 pn pd) w):=by
 refine zek s x1 L1.length c1 x2 n2 c2 x3 n3 c3 x4 n4 c4 x5 n5 c5 p pn pd _ _ _ w (hide fun w' b k hb hc=>?_);obtain⟨e0,e1,e2,e3,e4,e5,e6⟩:=hc;refine W.table_core 0 0 0 pn pd (some ⟨b,0,none⟩) 1 1 none 0 0 0 0 (fun _=>s) (fun _=>x1) (fun _=>x2) (fun _=>x3) (fun _=>x4) (fun _=>x5) (fun _=>L1.length) (fun _=>c1) (fun _=>n2) (fun _=>c2) (fun _=>n3) (fun _=>c3) (fun _=>n4) (fun _=>c4) (fun _=>n5) (fun _=>c5) (fun _=>p) (fun _=>X9 L1 pn pd) (fun _=>Y9 L1 pn pd) (fun _=>Z9 L1 pn pd) w' (by omega) (hide fun i hi=>?_) (hide fun i hi w2 k2=>?_)
 ·have:i=0:=by omega
  subst this;exact⟨_,rfl,hb,by simpa [Addr.add]using e0,by simpa [Addr.add]using e1,by simpa [Addr.add]using e2,by simpa [Addr.add]using e3,by simpa [Addr.add]using e4,by simpa [Addr.add]using e5,by simpa [Addr.add]using e6⟩
 ·refine W.ratios_core s x1 L1.length c1 x2 n2 c2 x3 n3 c3 x4 n4 c4 x5 n5 c5 p pn pd (fun j=>sv (V.tn L1 j)) (iv L1 1) (iv L1 2) (iv L1 3) (iv L1 4) (iv L1 5) (iv L1 6) (iv L1 7) (iv L1 8) (iv L1 9) (iv L1 10) _ _ _ w2 b1 (hide fun j hj=>?_) (hide fun j hj w3=>?_)
  ·obtain⟨ad,e,hb,h⟩:=S.clHead (k.trans k2) q1 m1 j hj;exact⟨ad,e,Nat.lt_of_lt_of_le hb (k.trans k2).size,h⟩
  ·obtain⟨i1,i2,i3,i4⟩:=znM q1 hj;exact W.ratio_any _ _ _ _ _ _ _ i1 i2 i3 i4 h3 h4 w3
def jH (L1 L3:List (List D)) (k m:Nat):Nat:=(nI L1 (sb L3 1 k m)).toNat
def wL (L2:List (List D)) (nm:List UInt8):List (List UInt8×Int×Int):=wlk (V.tn L2) (un L2) (iv L2 4) (fun m=>fN (iv L2 2 m) (iv L2 3 m)) nm L2.length
def g1 (L1 L3:List (List D)) (k:Nat):Int:=fm (fun m=>iv L1 9 (jH L1 L3 k m)) 0 (ln L3 1 k)
def yW (L1 L3:List (List D)) (k:Nat):Int:=fm (fun m=>yN (iv L1 5 (jH L1 L3 k m)) (iv L1 6 (jH L1 L3 k m))) 0 (ln L3 1 k)
def rW (L1 L3:List (List D)) (k:Nat):Int:=fm (fun m=>rN (iv L1 7 (jH L1 L3 k m)) (iv L1 8 (jH L1 L3 k m)) (iv L1 5 (jH L1 L3 k m))) 0 (ln L3 1 k)
def xZ (L1 L3:List (List D)) (pn pd:Int) (k:Nat):Int×Int:=fx (fun m=>X9 L1 pn pd (jH L1 L3 k m)) (fun m=>Y9 L1 pn pd (jH L1 L3 k m)) (ln L3 1 k)
def wS (L:List (List UInt8×Int×Int)) (m:Nat):Int:=wrap64 ((L.getD m ([],0,0)).2.1+(L.getD m ([],0,0)).2.2)
def g2 (L1 L2 L3:List (List D)) (k:Nat):Int:=fm (wS (wL L2 (V.tn L3 k))) (g1 L1 L3 k) (wL L2 (V.tn L3 k)).length
theorem zi4 {n1 n2 n3 n4 n5:Nat} (h:cnE n1 n2 n3 n4 n5=none):n1≤16∧n2≤8∧n3≤16∧n4≤4∧n5≤64∧0<n1∧0<n3∧0<n4:=by
 unfold cnE at h
 have g0:(decide ((16:Int)<(n1:Int)) || decide ((16:Int)<(n3:Int)))=false:=by
  cases hb:(decide ((16:Int)<(n1:Int)) || decide ((16:Int)<(n3:Int)))with
  |false=>rfl
  |true=>have:=zaE h hb;cases this
 have h1:=zb4 h g0;have g1:(decide ((8:Int)<(n2:Int)) || decide ((4:Int)<(n4:Int)) || decide ((64:Int)<(n5:Int)))=false:=by
  cases hb:(decide ((8:Int)<(n2:Int)) || decide ((4:Int)<(n4:Int)) || decide ((64:Int)<(n5:Int)))with
  |false=>rfl
  |true=>have:=zaE h1 hb;cases this
 have h2:=zb4 h1 g1;have g2:((n1:Int)==0 || (n3:Int)==0 || (n4:Int)==0)=false:=by
  cases hb:((n1:Int)==0 || (n3:Int)==0 || (n4:Int)==0)with
  |false=>rfl
  |true=>have:=zaE h2 hb;cases this
 simp only[Bool.or_eq_false_iff,decide_eq_false_iff_not,beq_eq_false_iff_ne,ne_eq]at g0 g1 g2;omega
theorem zrl {L1 L2 L3 L4 L5:List (List D)} {p:Int} (h:zdt L1 L2 L3 L4 L5 p=none) {k m:Nat} (hk:k<L3.length) (hm:m<ln L3 1 k):jH L1 L3 k m<L1.length∧((jH L1 L3 k m:Nat):Int)=nI L1 (sb L3 1 k m):=by
 obtain⟨h0,h1,h2,h3,h4,h5,h6,h7⟩:=za2 h;have hh:=zgy h2 k hk m hm;have h8:¬nI L1 (sb L3 1 k m)<0:=fun e=>by rw[zhq]at e;rw[hh]at e;cases e
 unfold jH
 have h9:nI L1 (sb L3 1 k m)= -1∨(0:Int)≤nI L1 (sb L3 1 k m)∧nI L1 (sb L3 1 k m)<(0:Int)+(L1.length:Int):=zeg _ L1.length 0;omega
set_option maxHeartbeats 2000000 in
theorem zhu {w w':World} {s:ByteArray} {x1:Option Addr} {c1:Nat} {x2:Option Addr} {c2:Nat} {x3:Option Addr} {c3:Nat} {x4:Option Addr} {n4 c4:Nat} {x5:Option Addr} {n5 c5:Nat} {p pn pd:Int} {L1 L2 L3 L4 L5:List (List D)} (q1:∀ ds∈L1,ShL zcZ ds) (m1:Rvss w x1 11 L1 0) (b1:L1.length≤maxLen) (q2:∀ ds∈L2,ShL zne ds) (m2:Rvss w x2 6 L2 0) (q3:∀ ds∈L3,ShL zbs ds) (m3:Rvss w x3 3 L3 0) (hv:zdt L1 L2 L3 L4 L5 p=none) (kk:Keep w w') {ra:Option Addr} {rc:Nat} (hr:w'.ownsRow 0 23 2 (.slice ra L1.length rc) L1.length (W.cp (X9 L1 pn pd) (Y9 L1 pn pd) L1.length)) (k:Nat) (hk:k<L3.length):
  Calls Tryz.prog 21 #[.agg #[.string s,.slice x1 L1.length c1,.slice x2 L2.length c2,.slice x3 L3.length c3,.slice x4 n4 c4,.slice x5 n5 c5,.int .i64 p],.agg #[.string (sv (V.tn L3 k)),.slice (sA w x3 3 1 k) (ln L3 1 k) (sC w x3 3 1 k),.int .i64 (iv L3 2 k)],.slice ra L1.length rc] w' (Nq9 (V.tn L3 k) (g2 L1 L2 L3 k) (yW L1 L3 k) (rW L1 L3 k) (xZ L1 L3 pn pd k) (wL L2 (V.tn L3 k)) w'):=by
 obtain⟨l1,l2,l3,_⟩:=zi4 (za2 hv).1;obtain⟨r1,r2,r3,r4⟩:=za1 q3 m3 k hk;have hwl:(wL L2 (V.tn L3 k)).length≤L2.length:=zdy _ _ _ _ _ _;refine zfy s x1 L1.length c1 x2 L2.length c2 x3 L3.length c3 x4 n4 c4 x5 n5 c5 p (V.tn L3 k) (sA w x3 3 1 k) (ln L3 1 k) (sC w x3 3 1 k) (iv L3 2 k) ra rc (sb L3 1 k) (jH L1 L3 k) (fun j=>sv (V.tn L1 j)) (iv L1 1) (iv L1 2) (iv L1 3) (iv L1 4) (iv L1 5) (iv L1 6) (iv L1 7) (iv L1 8) (iv L1 9) (iv L1 10) (X9 L1 pn pd) (Y9 L1 pn pd) (fun j=>yN (iv L1 5 j) (iv L1 6 j)) (fun j=>yE (iv L1 5 j) (iv L1 6 j)) (fun j=>rN (iv L1 7 j) (iv L1 8 j) (iv L1 5 j)) (fun j=>rE (iv L1 7 j) (iv L1 8 j) (iv L1 5 j)) (wS (wL L2 (V.tn L3 k))) (wL L2 (V.tn L3 k)) (g1 L1 L3 k) _ _ _ _ w' (zcG (w:=w) (a:=x3) q3 k hk) (by omega) (by omega)
  (hide fun j hj=>?_) (hide fun m hm=>?_) (hide fun m hm=>(zrl hv hk hm).1) (hide fun j hj=>?_) (hide fun m hm w2 k2=>?_) (hide fun j hj w2=>zhj _ _ w2) (hide fun j hj w2=>znB _ _ _ w2) (hide fun w2 k2=>?_) (hide fun j hj=>rfl) (hide ⟨rfl,rfl,rfl,rfl,rfl⟩)
 ·obtain⟨ad,e,hb,h⟩:=S.clHead kk q1 m1 j hj;exact⟨ad,e,Nat.lt_of_lt_of_le hb kk.size,h⟩
 ·obtain⟨ad,e,hb,h0,_⟩:=zcS r4 (Rvss.keep kk _ _ _ _ r3) m hm;exact⟨ad,e,hb,h0⟩
 ·obtain⟨rd,e,hb,h0,h1⟩:=zpY hr j hj;obtain⟨i1,i2⟩:=zpW L1 pn pd j;exact⟨rd,e,hb,h0,h1,i1,i2⟩
 ·rw[(zrl hv hk hm).2];exact zfj _ q1 (Rvss.keep (kk.trans k2) _ _ _ _ m1) b1
 ·refine zdJ s x1 L1.length c1 x2 L2.length c2 x3 L3.length c3 x4 n4 c4 x5 n5 c5 p (V.tn L2) (un L2) (iv L2 2) (iv L2 3) (iv L2 4) (iv L2 5) (fun m=>fN (iv L2 2 m) (iv L2 3 m)) _ (V.tn L3 k) w2 (by omega) (hide fun j hj=>?_) (hide fun m hm w3=>ziG _ _ w3);obtain⟨ad,e,hb,h⟩:=S.clPed (kk.trans k2) q2 m2 j hj;exact⟨ad,e,Nat.lt_of_lt_of_le hb (kk.trans k2).size,h⟩
def ofL (a3 a4:Int) (LN:List (List D)) (c i:Int):Int:=if i<0∨(LN.length:Int)≤i then 1 else if c=0 then W.fz (Z9 (sub LN 1 i.toNat) a3 a4) 0 (sub LN 1 i.toNat).length else 1
def OfL (a3 a4:Int) (LN:List (List D)) (c i:Int) (w:World) (e:Ending) (w':World):Prop:=Oq (ofL a3 a4 LN c i) (sub LN 3 i.toNat).length (V.tn (sub LN 3 i.toNat)) (g2 (sub LN 1 i.toNat) (sub LN 2 i.toNat) (sub LN 3 i.toNat)) (yW (sub LN 1 i.toNat) (sub LN 3 i.toNat)) (rW (sub LN 1 i.toNat) (sub LN 3 i.toNat)) (xZ (sub LN 1 i.toNat) (sub LN 3 i.toNat) a3 a4) (fun k=>wL (sub LN 2 i.toNat) (V.tn (sub LN 3 i.toNat) k)) w e w'
set_option maxHeartbeats 4000000 in
theorem zll {w:World} (a0 a1 a2 a3 a4:Int) (aN:Option Addr) (cN:Nat) (aS:Option Addr) (nS cS:Nat) (a5 a6:Int) (LN:List (List D)) (c cp:Int) (bN:LN.length≤maxLen) (qN:∀ ds∈LN,ShL zbe ds) (mN:Rvss w aN 7 LN 0) (i3:W.i64 a3) (i4:W.i64 a4) (i:Int) (hv:c=0→nsE LN=none)
  (TC:∀ w',Keep w w'→Calls Tryz.prog 19 #[.agg #[.int .i64 a0,.int .i64 a1,.int .i64 a2,.int .i64 a3,.int .i64 a4,.slice aN LN.length cN,.slice aS nS cS,.int .i64 a5,.int .i64 a6]] w' fun e w''=>e= .returned (.tuple #[.int .i64 c,.int .i64 cp])∧Keep w' w''):
  Calls Tryz.prog 6 #[.agg #[.int .i64 a0,.int .i64 a1,.int .i64 a2,.int .i64 a3,.int .i64 a4,.slice aN LN.length cN,.slice aS nS cS,.int .i64 a5,.int .i64 a6],.int .i64 i] w (OfL a3 a4 LN c i w):=by
 unfold OfL
 by_cases hi:i<0∨(LN.length:Int)≤i
 ·have e:ofL a3 a4 LN c i=1:=by unfold ofL;rw[if_pos hi]
  rw[e];exact zpH a0 a1 a2 a3 a4 aN LN.length cN aS nS cS a5 a6 i _ _ _ _ _ _ _ w hi
 ·by_cases hc:c=0
  ·obtain⟨j,rfl⟩:∃ j:Nat,i=(j:Int):=⟨i.toNat,by omega⟩;have hj:j<LN.length:=by omega
   have e:ofL a3 a4 LN c (j:Int)=W.fz (Z9 (sub LN 1 j) a3 a4) 0 (sub LN 1 j).length:=by unfold ofL;rw[if_neg hi,if_pos hc,Int.toNat_natCast]
   rw[e,Int.toNat_natCast];have hnd:=zfC (hv hc) j hj;have hnl:zdt (sub LN 1 j) (sub LN 2 j) (sub LN 3 j) (sub LN 4 j) (sub LN 5 j) (iv LN 6 j)=none:=hnd;obtain⟨l1,l2,l3,_⟩:=zi4 (za2 hnl).1;obtain⟨⟨s11,s12,s13,s14⟩,⟨s21,s22,s23,s24⟩,⟨s31,s32,s33,s34⟩,⟨s41,s42,s43,s44⟩,⟨s51,s52,s53,s54⟩⟩:=zgf qN mN j hj;subst hc;have hcl:=S.clNode (Keep.refl w) qN mN j hj;rw[s11,s21,s31,s41,s51]at hcl;refine zra a0 a1 a2 a3 a4 aN LN.length cN aS nS cS a5 a6 j (sv (V.tn LN j)) (sA w aN 7 1 j) (sub LN 1 j).length (sC w aN 7 1 j) (sA w aN 7 2 j) (sub LN 2 j).length (sC w aN 7 2 j) (sA w aN 7 3 j) (sub LN 3 j).length (sC w aN 7 3 j) (sA w aN 7 4 j) (sub LN 4 j).length (sC w aN 7 4 j) (sA w aN 7 5 j) (sub LN 5 j).length (sC w aN 7 5 j) (iv LN 6 j) (sA w (sA w aN 7 3 j) 3 1) (ln (sub LN 3 j) 1) (sC w (sA w aN 7 3 j) 3 1) (iv (sub LN 3 j) 2) _ _ _ _ _ _ (X9 (sub LN 1 j) a3 a4) (Y9 (sub LN 1 j) a3 a4) _ _ w hj (by omega) (hide hcl) (hide fun k hk=>?_) (hide TC) (hide fun w' k=>zht s14 (Rvss.keep k _ _ _ _ s13) (by omega) i3 i4) (hide fun k hk w' ra rc kw ho=>zhu s14 s13 (show(sub LN 1 j).length≤maxLen by unfold maxLen;omega) s24 s23 s34 s33 hnl kw ho k hk);obtain⟨ad,e,hb,h0,h1,h2⟩:=S.clPhase (Keep.refl w) s34 s33 k hk;rw[(za1 s34 s33 k hk).1]at h1;exact⟨ad,e,hb,h0,h1,h2⟩
  ·have e:ofL a3 a4 LN c i=1:=by unfold ofL;rw[if_neg hi,if_neg hc]
   rw[e];exact zq9 a0 a1 a2 a3 a4 aN LN.length cN aS nS cS a5 a6 i _ _ _ _ _ _ _ _ _ w (by omega) (by omega) hc (hide TC)
end Nd
namespace Nd
open S V
theorem zi5 (f:Nat→Int) (a:Int):∀ n,a≤fm f a n
 |0=>Int.le_refl _
 |n+1=>by
  have:=zi5 f a n;rw[fm];split<;>omega
theorem zpZ (f:Nat→Int) (a:Int) {m:Nat} :∀ n,m<n→f m≤fm f a n
 |0,h=>by omega
 |n+1,h=>by
  rw[fm];rcases Nat.lt_succ_iff_lt_or_eq.1 h with e|e
  ·have:=zpZ f a n e;split<;>omega
  ·subst e;split<;>omega
theorem zp0 (f:Nat→Int) (a c:Int) (ha:a≤c):∀ n,(∀ m,m<n→f m≤c)→fm f a n≤c
 |0,_=>ha
 |n+1,h=>by
  have h1:=zp0 f a c ha n (fun m hm=>h m (by omega));have h2:=h n (by omega);rw[fm];split<;>omega
theorem zi6 {B:Nat→Bool} :∀ m k,0≤ix B k m→∃ j,k≤j∧j<k+m∧ix B k m=(j:Int)∧B j=true
 |0,k,h=>by simp[ix]at h
 |m+1,k,h=>by
  unfold ix at h ⊢
  by_cases hb:B k=true
  ·rw[if_pos hb];exact⟨k,Nat.le_refl _,by omega,rfl,hb⟩
  ·rw[if_neg hb]at h ⊢;obtain⟨j,h1,h2,h3,h4⟩:=zi6 m (k+1) h;exact⟨j,by omega,by omega,h3,h4⟩
theorem zgz {B:Nat→Bool} {j:Nat} (hj:B j=true):∀ m k,k≤j→j<k+m→ix B k m≤(j:Int)
 |0,k,h1,h2=>by omega
 |m+1,k,h1,h2=>by
  unfold ix
  split
  ·omega
  ·rename_i hb
   rcases Nat.eq_or_lt_of_le h1 with e|e
   ·rw[e]at hb;exact absurd hj hb
   ·exact zgz hj m (k+1) (by omega) (by omega)
theorem zi7 {L1:List (List D)} (h:hdE L1=none) {k:Nat} (hk:k<L1.length):nI L1 (V.tn L1 k)=(k:Int):=by
 have h1:=zcK _ _ h k (Nat.zero_le _) (by omega);have h2:hs (mk (V.tn L1) k) (V.tn L1 k)=false:=by
  cases hb:hs (mk (V.tn L1) k) (V.tn L1 k)with
  |false=>rfl
  |true=>unfold hdF at h1;rw[if_pos hb]at h1;cases h1
 have h3:=V.ahead (V.tn L1) hk;have h4:¬ix (fun j=>V.tn L1 j==V.tn L1 k) 0 L1.length<(k:Int):=fun e=>by rw[h3,h2]at e;cases e
 have h5:=zgz (B:=fun j=>V.tn L1 j==V.tn L1 k) (j:=k) (by simp) L1.length 0 (Nat.zero_le _) (by omega);unfold nI
 omega
end Nd
namespace Nd
open S V
theorem zlm (f:Nat→Int) (a c:Int) (n:Nat):fm f a n≤c↔a≤c∧∀ m,m<n→f m≤c:=by
 constructor
 ·intro h
  exact⟨Int.le_trans (zi5 f a n) h,fun m hm=>Int.le_trans (zpZ f a n hm) h⟩
 ·rintro⟨h1,h2⟩;exact zp0 f a c h1 n h2
theorem zfI (B:Nat→Bool) (f:Nat→Int) (a c:Int):∀ n,fmI B f a n≤c↔a≤c∧∀ m,m<n→B m=true→f m≤c
 |0=>by
  show a≤c↔_;exact⟨fun h=>⟨h,fun m hm=>absurd hm (Nat.not_lt_zero _)⟩,fun h=>h.1⟩
 |n+1=>by
  have ih:=zfI B f a c n;rw[fmI];by_cases hb:B n=true
  ·rw[if_pos hb];constructor
   ·intro h
    have h1:fmI B f a n≤c∧f n≤c:=by split at h<;>omega
    obtain⟨h2,h3⟩:=ih.1 h1.1;refine⟨h2,fun m hm hB=>?_⟩;rcases Nat.lt_succ_iff_lt_or_eq.1 hm with e|e
    ·exact h3 m e hB
    ·subst e;exact h1.2
   ·rintro⟨h1,h2⟩;have h3:=ih.2 ⟨h1,fun m hm hB=>h2 m (by omega) hB⟩;have h4:=h2 n (by omega) hb;split<;>omega
  ·rw[if_neg hb,ih];constructor
   ·rintro⟨h1,h2⟩;refine⟨h1,fun m hm hB=>?_⟩;rcases Nat.lt_succ_iff_lt_or_eq.1 hm with e|e
    ·exact h2 m e hB
    ·subst e;exact absurd hB hb
   ·rintro⟨h1,h2⟩;exact⟨h1,fun m hm hB=>h2 m (by omega) hB⟩
def Nm (B:Nat→Bool) (J:Nat→Nat) (n1 N:Nat):Prop:=(∀ m,m<N→J m<n1∧B (J m)=true)∧∀ j,j<n1→B j=true→∃ m,m<N∧J m=j
theorem zfJ {B:Nat→Bool} {J:Nat→Nat} {n1 N:Nat} (h:Nm B J n1 N) (f:Nat→Int) (a:Int):fmI B f a n1=fm (fun m=>f (J m)) a N:=by
 apply Int.le_antisymm
 ·rw[zfI];have h1:=(zlm (fun m=>f (J m)) a _ N).1 (Int.le_refl _);refine⟨h1.1,fun j hj hB=>?_⟩;obtain⟨m,hm,e⟩:=h.2 j hj hB;have:=h1.2 m hm;rw[e]at this;exact this
 ·rw[zlm];have h1:=(zfI B f a _ n1).1 (Int.le_refl _);exact⟨h1.1,fun m hm=>h1.2 (J m) (h.1 m hm).1 (h.1 m hm).2⟩
theorem zrm {a b c d:Int} (h1:Rt a b) (h2:Rt c d) (h:a * d=c * b):(a,b)=(c,d):=by
 have hd:0<d:=by have:=h2.1;omega
 have e1:=W.low_of (N:=c) (D:=d) hd h1 h;have e2:=W.low_of (N:=c) (D:=d) hd h2 rfl;rw[e1]at e2;simp only[Prod.mk.injEq]at e2;rw[e2.1,e2.2.1]
theorem zkz {n d:Int} (h:Rt n d):cn n d=n:=by
 unfold cn
 rw[if_pos (by simp only[rt,decide_eq_true_eq];exact⟨h.1,h.2.1⟩)]
theorem zkA {n d:Int} (h:Rt n d):cd n d=d:=by
 unfold cd
 rw[if_pos (by simp only[rt,decide_eq_true_eq];exact⟨h.1,h.2.1⟩)]
def ab (p q:Int×Int):Prop:=q.1 * p.2<p.1 * q.2
theorem zp1 {p q:Int×Int} (h1:Rt p.1 p.2) (h2:Rt q.1 q.2):0<AX.gt p q↔ab p q:=by
 unfold AX.gt ab
 rw[zkz h1,zkA h1,zkz h2,zkA h2];unfold cm
 split
 ·rename_i h;constructor<;>intro h3<;>omega
 ·split<;>constructor<;>intro h3<;>omega
theorem zgA {p q r:Int×Int} (h1:0<p.2) (h2:0<q.2) (h3:0<r.2) (hpq:¬ab p q) (hqr:¬ab q r):¬ab p r:=by
 unfold ab at *
 intro h
 have a1:p.1 * q.2≤q.1 * p.2:=by omega
 have a2:q.1 * r.2≤r.1 * q.2:=by omega
 have b1:p.1 * q.2 * r.2≤q.1 * p.2 * r.2:=Int.mul_le_mul_of_nonneg_right a1 (by omega);have b2:q.1 * r.2 * p.2≤r.1 * q.2 * p.2:=Int.mul_le_mul_of_nonneg_right a2 (by omega);have b3:r.1 * p.2 * q.2<p.1 * r.2 * q.2:=Int.mul_lt_mul_of_pos_right h h2;have e1:p.1 * q.2 * r.2=p.1 * r.2 * q.2:=by rw[Int.mul_assoc,Int.mul_comm q.2,← Int.mul_assoc]
 have e2:q.1 * p.2 * r.2=q.1 * r.2 * p.2:=by rw[Int.mul_assoc,Int.mul_comm p.2,← Int.mul_assoc]
 have e3:r.1 * q.2 * p.2=r.1 * p.2 * q.2:=by rw[Int.mul_assoc,Int.mul_comm q.2,← Int.mul_assoc]
 omega
theorem zr3:Rt 0 1:=by refine⟨?_,?_,?_,?_,?_⟩<;>first|decide|simp
theorem zgB {B:Nat→Bool} {X Y:Nat→Int} :∀ n,(∀ j,j<n→Rt (X j) (Y j))→Rt (fxI B X Y n).1 (fxI B X Y n).2∧¬ab (0,1) (fxI B X Y n)∧(∀ j,j<n→B j=true→¬ab (X j,Y j) (fxI B X Y n))∧(fxI B X Y n=(0,1)∨∃ j,j<n∧B j=true∧fxI B X Y n=(X j,Y j))
 |0,_=>⟨zr3,by unfold ab;simp[fxI],fun j hj=>absurd hj (Nat.not_lt_zero _),.inl rfl⟩
 |n+1,h=>by
  obtain⟨h1,h2,h3,h4⟩:=zgB (B:=B) n (fun j hj=>h j (by omega));have hn:=h n (by omega);have p1:0<(fxI B X Y n).2:=by have:=h1.1;omega
  have p2:0<Y n:=by have:=hn.1;omega
  rw[fxI];by_cases hb:B n=true
  ·rw[if_pos hb];by_cases hg:0<AX.gt (X n,Y n) (fxI B X Y n)
   ·rw[if_pos hg];have hab:=(zp1 hn h1).1 hg;have hnb:¬ab (fxI B X Y n) (X n,Y n):=by unfold ab at hab ⊢;simp only at hab ⊢;omega
    refine⟨hn,zgA (by decide) p1 p2 h2 hnb,fun j hj hB=>?_,.inr ⟨n,by omega,hb,rfl⟩⟩;rcases Nat.lt_succ_iff_lt_or_eq.1 hj with e|e
    ·exact zgA (by have:=(h j (by omega)).1;simp only;omega) p1 p2 (h3 j e hB) hnb
    ·subst e;unfold ab;simp only;omega
   ·rw[if_neg hg];refine⟨h1,h2,fun j hj hB=>?_,?_⟩
    ·rcases Nat.lt_succ_iff_lt_or_eq.1 hj with e|e
     ·exact h3 j e hB
     ·subst e;exact fun h9=>hg ((zp1 hn h1).2 h9)
    ·rcases h4 with h4|⟨j,hj,hB,e⟩
     ·exact .inl h4
     ·exact .inr ⟨j,by omega,hB,e⟩
  ·rw[if_neg hb];refine⟨h1,h2,fun j hj hB=>?_,?_⟩
   ·rcases Nat.lt_succ_iff_lt_or_eq.1 hj with e|e
    ·exact h3 j e hB
    ·subst e;exact absurd hB hb
   ·rcases h4 with h4|⟨j,hj,hB,e⟩
    ·exact .inl h4
    ·exact .inr ⟨j,by omega,hB,e⟩
theorem zrM {X Y:Nat→Int} :∀ n,(∀ j,j<n→Rt (X j) (Y j))→fx X Y n=fxI (fun _=>true) X Y n
 |0,_=>rfl
 |n+1,h=>by
  have ih:=zrM n (fun j hj=>h j (by omega));have h1:=(zgB (B:=fun _=>true) n (fun j hj=>h j (by omega))).1;have hn:=h n (by omega);rw[fx,fxI,ih,if_pos rfl];generalize fxI (fun _=>true) X Y n=t at h1 ⊢;obtain⟨t1,t2⟩:=t;simp only at h1;simp only[AX.mx2,AX.mxA,mx,zkz h1,zkA h1,zkz hn,zkA hn,AX.gt]
theorem znN {B:Nat→Bool} {J:Nat→Nat} {n1 N:Nat} (h:Nm B J n1 N) {X Y:Nat→Int} (hr:∀ j,j<n1→Rt (X j) (Y j)):fxI B X Y n1=fx (fun m=>X (J m)) (fun m=>Y (J m)) N:=by
 rw[zrM N (fun m hm=>hr (J m) (h.1 m hm).1)];obtain⟨a1,a2,a3,a4⟩:=zgB (B:=B) n1 hr;obtain⟨b1,b2,b3,b4⟩:=zgB (B:=fun _=>true) (X:=fun m=>X (J m)) (Y:=fun m=>Y (J m)) N (fun m hm=>hr (J m) (h.1 m hm).1);have c1:¬ab (fxI B X Y n1) (fxI (fun _=>true) (fun m=>X (J m)) (fun m=>Y (J m)) N):=by
  rcases a4 with e|⟨j,hj,hB,e⟩
  ·rw[e];exact b2
  ·obtain⟨m,hm,e2⟩:=h.2 j hj hB;have:=b3 m hm rfl;rw[e2]at this;rw[e];exact this
 have c2:¬ab (fxI (fun _=>true) (fun m=>X (J m)) (fun m=>Y (J m)) N) (fxI B X Y n1):=by
  rcases b4 with e|⟨m,hm,_,e⟩
  ·rw[e];exact a2
  ·rw[e];exact a3 (J m) (h.1 m hm).1 (h.1 m hm).2
 unfold ab at c1 c2
 exact zrm a1 b1 (by omega)
theorem zgC {f g:Nat→Int} {a:Int} :∀ n,(∀ m,m<n→f m=g m)→fm f a n=fm g a n
 |0,_=>rfl
 |n+1,h=>by rw[fm,fm,zgC n (fun m hm=>h m (by omega)),h n (by omega)]
theorem zi8 (T U:Nat→List UInt8) (V F:Nat→Int) (nm:List UInt8) (a:Int):∀ n,gwI U (fun m=>wrap64 (V m+F m)) nm a n=fm (wS (wlk T U V F nm n)) a (wlk T U V F nm n).length
 |0=>rfl
 |n+1=>by
  have ih:=zi8 T U V F nm a n;rw[gwI,wlk];by_cases hb:(U n==nm)=true
  ·rw[if_pos hb,if_pos hb,List.length_append];show _=fm _ a ((wlk T U V F nm n).length+1);have e1:fm (wS (wlk T U V F nm n++ [(T n,V n,F n)])) a (wlk T U V F nm n).length=fm (wS (wlk T U V F nm n)) a (wlk T U V F nm n).length:=zgC _ (fun m hm=>by unfold wS;rw[ziR hm]);have e2:wS (wlk T U V F nm n++ [(T n,V n,F n)]) (wlk T U V F nm n).length=wrap64 (V n+F n):=by unfold wS;rw[zgu (Nat.le_refl _),Nat.sub_self];rfl
   rw[fm,e1,e2,← ih]
  ·rw[if_neg hb,if_neg hb,List.append_nil];exact ih
theorem zrn {L1 L2 L3 L4 L5:List (List D)} {p:Int} (h:zdt L1 L2 L3 L4 L5 p=none) {k:Nat} (hk:k<L3.length):Nm (fun j=>cI (sub L3 1 k) (V.tn L1 j)) (jH L1 L3 k) L1.length (ln L3 1 k):=by
 obtain⟨h0,h1,h2,h3,h4,h5,h6,h7⟩:=za2 h;refine⟨fun m hm=>?_,fun j hj hB=>?_⟩
 ·obtain⟨a1,a2⟩:=zrl h hk hm;refine⟨a1,?_⟩;obtain⟨i,_,_,e,hb⟩:=zi6 L1.length 0 (show 0≤nI L1 (sb L3 1 k m) by omega);have e1:i=jH L1 L3 k m:=by have:(i:Int)=nI L1 (sb L3 1 k m):=e.symm;omega
  rw[e1]at hb;have e2:V.tn L1 (jH L1 L3 k m)=sb L3 1 k m:=by simpa using hb
  show cI (sub L3 1 k) (V.tn L1 (jH L1 L3 k m))=true;rw[e2];unfold cI
  rw[decide_eq_true_eq,za7];exact⟨m,Nat.zero_le _,by unfold ln at hm;omega,by simp[sb]⟩
 ·have hb':cI (sub L3 1 k) (V.tn L1 j)=true:=hB;unfold cI at hb'
  rw[decide_eq_true_eq]at hb';obtain⟨o,_,ho,e2,hb2⟩:=zi6 _ 0 hb';have e3:V.tn L1 j=V.tn (sub L3 1 k) o:=by simpa using hb2
  refine⟨o,by unfold ln;omega,?_⟩;have e4:sb L3 1 k o=V.tn L1 j:=e3.symm;unfold jH
  rw[e4,zi7 h1 hj,Int.toNat_natCast]
theorem zi9 {Z:Nat→Int} :∀ n k,W.fz Z k n=0→∀ j,k≤j→j<k+n→Z j=0
 |0,k,_,j,h1,h2=>by omega
 |n+1,k,h,j,h1,h2=>by
  unfold W.fz at h
  split at h
  ·rcases Nat.eq_or_lt_of_le h1 with e|e
   ·rw[← e];assumption
   ·exact zi9 n (k+1) h j (by omega) (by omega)
  ·contradiction
end Nd
set_option maxHeartbeats 400000 in
theorem zro (a b t p:Int) (w:World) (ha:0≤a) (hb:0<b) (hz:(b==0)=false) (hz2:(b== -1)=false) (e1:a.tdiv b=t) (e3:a / b=t) (e2:wrap64 (t * b)=p) (t1:0≤t) (t2:t≤4611686018427387904) (hp:p<a):
  Calls Tryz.prog 91 #[.int .i64 a,.int .i64 b] w fun e w'=>e= .returned (.int .i64 (t+1))∧w'=w:=by
 have hx1:(a== -9223372036854775808)=false:=by simp;omega
 go_enter Tryz.func91,Tryz.ntmps91;go_wp2_with fail
 go_ret;exact⟨rfl,rfl⟩
set_option maxHeartbeats 400000 in
theorem zrp (a b t p:Int) (w:World) (ha:0≤a) (hb:0<b) (hz:(b==0)=false) (hz2:(b== -1)=false) (e1:a.tdiv b=t) (e3:a / b=t) (e2:wrap64 (t * b)=p) (t1:0≤t) (t2:t≤4611686018427387904) (hp:¬p<a):
  Calls Tryz.prog 91 #[.int .i64 a,.int .i64 b] w fun e w'=>e= .returned (.int .i64 t)∧w'=w:=by
 have hx1:(a== -9223372036854775808)=false:=by simp;omega
 go_enter Tryz.func91,Tryz.ntmps91;go_wp2_with fail
 go_ret;exact⟨rfl,rfl⟩
theorem zfK (a b:Int) (w:World) (h2:a≤4611686018427387904) (ha:0≤a) (hb:0<b):
  Calls Tryz.prog 91 #[.int .i64 a,.int .i64 b] w fun e w'=>e= .returned (.int .i64 (up a b))∧w'=w:=by
 have d0:0≤a / b:=Int.ediv_nonneg ha (by omega);have d1:a / b≤a:=Int.ediv_le_self _ ha;have e1:a.tdiv b=a / b:=Int.tdiv_eq_ediv_of_nonneg ha;have h:=Int.emod_add_mul_ediv a b;have hm0:=Int.emod_nonneg a (show b≠0 by omega);have hm1:=Int.emod_lt_of_pos a hb;have hp:a / b * b=a - a % b:=by rw[Int.mul_comm];omega
 have hp0:0≤a / b * b:=Int.mul_nonneg d0 (by omega);have hw:wrap64 (a / b * b)=a / b * b:=zaB (by omega);by_cases hm:a % b=0
 ·rw[show up a b=a / b by unfold up;rw[if_pos hm];omega];exact zrp a b _ _ w ha hb (by simp;omega) (by simp;omega) e1 rfl hw d0 (by omega) (by omega)
 ·rw[show up a b=a / b+1 by unfold up;rw[if_neg hm]];exact zro a b _ _ w ha hb (by simp;omega) (by simp;omega) e1 rfl hw d0 (by omega) (by omega)
set_option maxHeartbeats 1000000 in
theorem zfL (s g:Int) (w:World):
  Calls Tryz.prog 44 #[.int .i64 s,.int .i64 g] w fun e w'=>e= .returned (.tuple #[.int .i64 (yN s g),.int .i64 (yE s g)])∧w'=w:=by
 have CU:=hide zfK;by_cases h:yK s g=true
 ·have hyN:yN s g=10+up (10000 * s) (610000+1962 * g):=by unfold yN;rw[if_pos h]
  have hyE:yE s g=0:=by unfold yE;rw[if_pos h]
  rw[hyN,hyE];have hd:1≤s∧s≤10000∧ -200≤g∧g≤200:=by simpa [yK]using h
  obtain⟨d1,d2,d3,d4⟩:=hd;clear hyN hyE h;have m1:wrap64 (1962 * g)=1962 * g:=zaB (by omega);have m2:wrap64 (610000+1962 * g)=610000+1962 * g:=zaB (by omega);have m3:wrap64 (10000 * s)=10000 * s:=zaB (by omega);have m4:wrap64 (10+up (10000 * s) (610000+1962 * g))=10+up (10000 * s) (610000+1962 * g):=by
   have a1:=zq6 (n:=10000 * s) (d:=610000+1962 * g) (by omega) (by omega);have a2:=zkk (n:=10000 * s) (d:=610000+1962 * g) (by omega) (by omega);exact zaB (by omega)
  have c1:¬s<1:=by omega
  have c2:¬10000<s:=by omega
  have c3:¬g< -200:=by omega
  have c4:¬200<g:=by omega
  go_enter Tryz.func44,Tryz.ntmps44;go_wp2_with fail
  (refine((uq CU) _ _ _ (by omega) (by omega) (by omega)).mono ?_;rintro e w3 ⟨rfl,rfl⟩);go_wp2_with fail
  go_ret2;exact⟨zdh m4 rfl,rfl⟩
 ·have hyN:yN s g=0:=by unfold yN;rw[if_neg h]
  have hyE:yE s g=1:=by unfold yE;rw[if_neg h]
  rw[hyN,hyE];have hd:s<1∨(¬s<1∧10000<s)∨(¬s<1∧¬10000<s∧g< -200)∨(¬s<1∧¬10000<s∧¬g< -200∧200<g):=by simp[yK]at h;omega
  clear hyN hyE h;go_enter Tryz.func44,Tryz.ntmps44;rcases hd with h1|⟨h1,h2⟩|⟨h1,h2,h3⟩|⟨h1,h2,h3,h4⟩<;>(go_wp2_with fail;go_ret2;exact⟨rfl,rfl⟩)
set_option maxHeartbeats 1000000 in
theorem zkB (a b s:Int) (w:World):
  Calls Tryz.prog 45 #[.int .i64 a,.int .i64 b,.int .i64 s] w fun e w'=>e= .returned (.tuple #[.int .i64 (rN a b s),.int .i64 (rE a b s)])∧w'=w:=by
 have CU:=hide zfK;by_cases h:rK a b s=true
 ·have hyN:rN a b s=up (10 * (a+b)) s:=by unfold rN;rw[if_pos h]
  have hyE:rE a b s=0:=by unfold rE;rw[if_pos h]
  rw[hyN,hyE];have hd:0≤a∧a≤100000∧0≤b∧b≤100000∧1≤s∧s≤10000:=by simpa [rK]using h
  obtain⟨d1,d2,d3,d4,d5,d6⟩:=hd;clear hyN hyE h;have m1:wrap64 (a+b)=a+b:=zaB (by omega);have m2:wrap64 (10 * (a+b))=10 * (a+b):=zaB (by omega);have c1:¬a<0:=by omega
  have c2:¬100000<a:=by omega
  have c3:¬b<0:=by omega
  have c4:¬100000<b:=by omega
  have c5:¬s<1:=by omega
  have c6:¬10000<s:=by omega
  go_enter Tryz.func45,Tryz.ntmps45;go_wp2_with fail
  (refine((uq CU) _ _ _ (by omega) (by omega) (by omega)).mono ?_;rintro e w3 ⟨rfl,rfl⟩);go_wp2_with fail
  go_ret2;exact⟨rfl,rfl⟩
 ·have hyN:rN a b s=0:=by unfold rN;rw[if_neg h]
  have hyE:rE a b s=1:=by unfold rE;rw[if_neg h]
  rw[hyN,hyE];have hd:a<0∨(¬a<0∧100000<a)∨(¬a<0∧¬100000<a∧b<0)∨(¬a<0∧¬100000<a∧¬b<0∧100000<b)∨(¬a<0∧¬100000<a∧¬b<0∧¬100000<b∧s<1)∨(¬a<0∧¬100000<a∧¬b<0∧¬100000<b∧¬s<1∧10000<s):=by simp[rK]at h;omega
  clear hyN hyE h;go_enter Tryz.func45,Tryz.ntmps45;rcases hd with h1|⟨h1,h2⟩|⟨h1,h2,h3⟩|⟨h1,h2,h3,h4⟩|⟨h1,h2,h3,h4,h5⟩|⟨h1,h2,h3,h4,h5,h6⟩<;>(go_wp2_with fail;go_ret2;exact⟨rfl,rfl⟩)
set_option maxHeartbeats 1000000 in
theorem zhv (a s:Int) (w:World):
  Calls Tryz.prog 47 #[.int .i64 a,.int .i64 s] w fun e w'=>e= .returned (.tuple #[.int .i64 (fN a s),.int .i64 (fE a s)])∧w'=w:=by
 have CU:=hide zfK;by_cases h:fK a s=true
 ·have hyN:fN a s=up (10 * a) s:=by unfold fN;rw[if_pos h]
  have hyE:fE a s=0:=by unfold fE;rw[if_pos h]
  rw[hyN,hyE];have hd:1≤a∧a≤100000∧1≤s∧s≤10000:=by simpa [fK]using h
  obtain⟨d1,d2,d5,d6⟩:=hd;clear hyN hyE h;have m2:wrap64 (10 * a)=10 * a:=zaB (by omega);have c1:¬a<1:=by omega
  have c2:¬100000<a:=by omega
  have c5:¬s<1:=by omega
  have c6:¬10000<s:=by omega
  go_enter Tryz.func47,Tryz.ntmps47;go_wp2_with fail
  (refine((uq CU) _ _ _ (by omega) (by omega) (by omega)).mono ?_;rintro e w3 ⟨rfl,rfl⟩);go_wp2_with fail
  go_ret2;exact⟨rfl,rfl⟩
 ·have hyN:fN a s=0:=by unfold fN;rw[if_neg h]
  have hyE:fE a s=1:=by unfold fE;rw[if_neg h]
  rw[hyN,hyE];have hd:a<1∨(¬a<1∧100000<a)∨(¬a<1∧¬100000<a∧s<1)∨(¬a<1∧¬100000<a∧¬s<1∧10000<s):=by simp[fK]at h;omega
  clear hyN hyE h;go_enter Tryz.func47,Tryz.ntmps47;rcases hd with h1|⟨h1,h2⟩|⟨h1,h2,h3⟩|⟨h1,h2,h3,h4⟩<;>(go_wp2_with fail;go_ret2;exact⟨rfl,rfl⟩)
end Go.Proofs.YtcdhdhbjnpndkaaGreat
namespace Go.Proofs.YtcdhdhbjnpndkaaGreat
open Go.RowKit
set_option linter.unusedVariables false
def val:List Int→Int
 | []=>0
 |d :: l=>d+65536 * val l
def Dig (l:List Int):Prop:=∀ d,d∈l→0≤d∧d<65536
def pw (k:Nat):Int:=65536 ^ k
theorem zes:pw 0=1:=rfl
theorem zbN (k:Nat):pw (k+1)=65536 * pw k:=by unfold pw;rw[Int.pow_succ];omega
theorem zp2 (i k:Nat):pw (i+k)=pw i * pw k:=by unfold pw;exact Int.pow_add _ _ _
theorem zja (k:Nat):0<pw k:=by unfold pw;exact Int.pow_pos (by omega)
theorem zfM {i k:Nat} (h:i≤k):pw i≤pw k:=by
 induction k with
 |zero=>rw[show i=0 by omega];exact Int.le_refl _
 |succ k ih=>
  by_cases he:i=k+1
  ·rw[he];exact Int.le_refl _
  ·have:=ih (by omega);have:=zja k;rw[zbN];omega
theorem zce:Dig []:=fun d h=>by simp at h
theorem zcu {l:List Int} {d:Int} (h:Dig l) (h0:0≤d) (h1:d<65536):Dig (l++ [d]):=by
 intro e he
 rcases List.mem_append.1 he with h2|h2
 ·exact h e h2
 ·simp at h2;subst h2;exact⟨h0,h1⟩
theorem zay {l:List Int} (h:Dig l) (k:Nat):0≤l.getD k 0∧l.getD k 0<65536:=by
 by_cases hk:k<l.length
 ·rw[List.getD_eq_getElem?_getD,List.getElem?_eq_getElem hk];exact h _ (List.getElem_mem hk)
 ·rw[List.getD_eq_getElem?_getD,List.getElem?_eq_none (by omega)];simp
theorem zbW (l:List Int) (d:Int):val (l++ [d])=val l+pw l.length * d:=by
 induction l with
 |nil=>simp[val,zes]
 |cons e l ih=>
  simp only[List.cons_append,val,List.length_cons];rw[ih,zbN,Int.mul_add,Int.mul_assoc];omega
theorem zjb (n:Nat):val (List.replicate n 0)=0:=by
 induction n with
 |zero=>rfl
 |succ n ih=>rw[List.replicate_succ];simp only[val];rw[ih];rfl
theorem zjc (n:Nat):Dig (List.replicate n 0):=by
 intro d hd
 have:=List.eq_of_mem_replicate hd;omega
theorem zbh {l:List Int} (h:Dig l):0≤val l∧val l<pw l.length:=by
 induction l with
 |nil=>simp[val,zes]
 |cons e l ih=>
  have h1:=h e (by simp);have h2:=ih (fun d hd=>h d (by simp[hd]));simp only[val,List.length_cons];rw[zbN];omega
theorem zdK (l:List Int) (k:Nat) (hk:k<l.length):l.take (k+1)=l.take k++ [l.getD k 0]:=by
 rw[List.take_succ_eq_append_getElem hk,List.getD_eq_getElem?_getD,List.getElem?_eq_getElem hk]
 rfl
theorem zaD (l:List Int) (k:Nat):val (l.take (k+1))=val (l.take k)+pw k * l.getD k 0:=by
 by_cases hk:k<l.length
 ·rw[zdK l k hk,zbW,List.length_take,Nat.min_eq_left (by omega)]
 ·rw[List.take_of_length_le (by omega),List.take_of_length_le (by omega),List.getD_eq_getElem?_getD,List.getElem?_eq_none (by omega)];simp
theorem zdd {l:List Int} (h:Dig l) (k:Nat):Dig (l.take k):=fun d hd=>h d (List.mem_of_mem_take hd)
theorem zkC {l:List Int} (h:Dig l) (k:Nat):Dig (l.drop k):=fun d hd=>h d (List.mem_of_mem_drop hd)
theorem za8 {l:List Int} {k:Nat} (h:l.length≤k):val (l.take k)=val l:=by rw[List.take_of_length_le h]
theorem zdz (l:List Int) (k:Nat):val l=val (l.take k)+pw k * val (l.drop k):=by
 induction k with
 |zero=>simp[val,zes]
 |succ k ih=>
  rw[zaD,zbN];have:val (l.drop k)=l.getD k 0+65536 * val (l.drop (k+1)):=by
   by_cases hk:k<l.length
   ·rw[List.drop_eq_getElem_cons hk];simp only[val];rw[List.getD_eq_getElem?_getD,List.getElem?_eq_getElem hk]
    rfl
   ·rw[List.drop_of_length_le (by omega),List.drop_of_length_le (by omega),List.getD_eq_getElem?_getD,List.getElem?_eq_none (by omega)];simp[val]
  rw[this,Int.mul_add]at ih;rw[Int.mul_comm 65536 (pw k),Int.mul_assoc];omega
theorem zbd (l:List Int) (k:Nat):val (l.drop k)=l.getD k 0+65536 * val (l.drop (k+1)):=by
 by_cases hk:k<l.length
 ·rw[List.drop_eq_getElem_cons hk];simp only[val];rw[List.getD_eq_getElem?_getD,List.getElem?_eq_getElem hk]
  rfl
 ·rw[List.drop_of_length_le (by omega),List.drop_of_length_le (by omega),List.getD_eq_getElem?_getD,List.getElem?_eq_none (by omega)];simp[val]
theorem zdA (P s:Int):P * (s % 65536)+s / 65536 * (65536 * P)=P * s:=by
 have e:s / 65536 * (65536 * P)=P * (65536 * (s / 65536)):=by rw[Int.mul_comm,Int.mul_comm 65536 P,Int.mul_assoc]
 rw[e,← Int.mul_add];congr 1;omega
def zbO (A B out:List Int) (k:Nat) (c:Int):Prop:=
 out.length=k∧Dig out∧0≤c∧c≤1∧val out+c * pw k=val (A.take k)+val (B.take k)
theorem zd1 (A B:List Int):zbO A B [] 0 0:=⟨rfl,zce,by omega,by omega,by simp[val]⟩
theorem zbv {A B out:List Int} {k:Nat} {c x y s:Int} (h:zbO A B out k c) (hA:Dig A) (hB:Dig B) (hx:x=A.getD k 0) (hy:y=B.getD k 0) (hs:s=c+x+y):
  zbO A B (out++ [s % 65536]) (k+1) (s / 65536):=by
 obtain⟨h1,h2,h3,h4,h5⟩:=h;have a:=zay hA k;have b:=zay hB k;rw[← hx]at a;rw[← hy]at b;refine⟨by simp[h1],zcu h2 (by omega) (by omega),by omega,by omega,?_⟩;rw[zbW,h1,zaD,zaD,← hx,← hy,zbN];have cn:=zdA (pw k) s;have e:pw k * s=c * pw k+pw k * x+pw k * y:=by rw[hs,Int.mul_add,Int.mul_add,Int.mul_comm (pw k) c]
 omega
theorem zgD {A B out:List Int} {k:Nat} (h:zbO A B out k 0) (ha:A.length≤k) (hb:B.length≤k):val out=val A+val B:=by
 have:=h.2.2.2.2;rw[za8 ha,za8 hb]at this;omega
def zcv (A B out:List Int) (k:Nat) (c:Int):Prop:=
 out.length=k∧Dig out∧0≤c∧c≤1∧val out=val (A.take k) - val (B.take k)+c * pw k
theorem zfN (A B:List Int):zcv A B [] 0 0:=⟨rfl,zce,by omega,by omega,by simp[val]⟩
theorem zbX {A B out:List Int} {k:Nat} {c x y d n:Int} (h:zcv A B out k c) (hA:Dig A) (hB:Dig B) (hx:x=A.getD k 0) (hy:y=B.getD k 0)
  (hn:(c+y≤x∧d=x - (c+y)∧n=0)∨(x<c+y∧d=x+65536 - (c+y)∧n=1)):
  zcv A B (out++ [d]) (k+1) n:=by
 obtain⟨h1,h2,h3,h4,h5⟩:=h;have a:=zay hA k;have b:=zay hB k;rw[← hx]at a;rw[← hy]at b;refine⟨by simp[h1],zcu h2 (by omega) (by omega),by omega,by omega,?_⟩;rw[zbW,h1,zaD,zaD,← hx,← hy,zbN];rcases hn with ⟨q1,rfl,rfl⟩|⟨q1,rfl,rfl⟩
 ·rw[Int.mul_sub,Int.mul_add,Int.mul_comm (pw k) c];omega
 ·rw[Int.mul_sub,Int.mul_add,Int.mul_add,Int.mul_comm (pw k) c];omega
theorem zjd {A B out:List Int} {k:Nat} {c:Int} (h:zcv A B out k c) (hA:Dig A) (hB:Dig B) (ha:A.length=k) (hle:val B≤val A):val out=val A - val B:=by
 obtain⟨h1,h2,h3,h4,h5⟩:=h;rw[za8 (by omega)]at h5;have bo:=zbh h2;have ba:=zbh hA;have sp:=zdz B k;have bt:=zbh (zdd hB k);have bd:=zbh (zkC hB k);rw[h1]at bo;rw[ha]at ba;have hp:=zja k;have hz:val (B.drop k)=0:=by
  by_cases hz:val (B.drop k)=0
  ·exact hz
  ·have:pw k * 1≤pw k * val (B.drop k):=Int.mul_le_mul_of_nonneg_left (by omega) (by omega);omega
 rw[hz]at sp;by_cases hc:c=0
 ·subst hc;omega
 ·have:c=1:=by omega
  subst this;omega
theorem zcw {A B:List Int} {j:Nat} (hA:Dig A) (hB:Dig B) (hd:val (A.drop (j+1))=val (B.drop (j+1))) (hx:A.getD j 0<B.getD j 0):val A<val B:=by
 rw[zdz A j,zdz B j,zbd A j,zbd B j,hd];have ha:=zbh (zdd hA j);have hb:=zbh (zdd hB j);have hl:pw (A.take j).length≤pw j:=zfM (by simp;omega);have hm:pw j * (A.getD j 0+65536 * val (B.drop (j+1))+1)≤pw j * (B.getD j 0+65536 * val (B.drop (j+1))):=Int.mul_le_mul_of_nonneg_left (by omega) (by have:=zja j;omega);rw[Int.mul_add (pw j) _ 1]at hm;omega
theorem zcL {A B:List Int} {j:Nat} (hd:val (A.drop (j+1))=val (B.drop (j+1))) (hx:A.getD j 0=B.getD j 0):val (A.drop j)=val (B.drop j):=by
 rw[zbd A j,zbd B j,hd,hx]
def zeV (Y row:List Int) (i k:Nat) (x c:Int):Prop:=
 row.length=i+k∧Dig row∧0≤c∧c<65536∧val row+c * pw (i+k)=pw i * (x * val (Y.take k))
theorem zje (Y:List Int) (i:Nat) (x:Int):zeV Y (List.replicate i 0) i 0 x 0:=
 ⟨by simp,zjc i,by omega,by omega,by rw[zjb];simp[val]⟩
theorem zgE {x y c:Int} (hx:0≤x) (hx':x<65536) (hy:0≤y) (hy':y<65536) (hc:0≤c) (hc':c<65536):0≤x * y∧x * y≤4294836225∧0≤x * y+c∧x * y+c<4294967296:=by
 have:=Int.mul_le_mul (show x≤65535 by omega) (show y≤65535 by omega) hy (by omega);have:=Int.mul_nonneg hx hy;omega
theorem zkD {Y row:List Int} {i k:Nat} {x c y t:Int} (h:zeV Y row i k x c) (hY:Dig Y) (hx:0≤x) (hx':x<65536) (hy:y=Y.getD k 0) (ht:t=x * y+c):
  zeV Y (row++ [t % 65536]) i (k+1) x (t / 65536):=by
 obtain⟨h1,h2,h3,h4,h5⟩:=h;have b:=zay hY k;rw[← hy]at b;have hp:=zgE hx hx' b.1 b.2 h3 h4;rw[← ht]at hp;refine⟨by simp[h1];omega,zcu h2 (by omega) (by omega),by omega,by omega,?_⟩;rw[zbW,h1,zaD,← hy,← Nat.add_assoc,zbN];have cn:=zdA (pw (i+k)) t;have e:pw (i+k) * t=pw (i+k) * (x * y)+c * pw (i+k):=by rw[ht,Int.mul_add,Int.mul_comm _ c]
 have e2:pw i * (x * (val (Y.take k)+pw k * y))=pw i * (x * val (Y.take k))+pw (i+k) * (x * y):=by
  rw[Int.mul_add,Int.mul_add,zp2];congr 1;rw[Int.mul_left_comm x,← Int.mul_assoc (pw i)]
 rw[e2];omega
theorem znO {Y row:List Int} {i:Nat} {x c:Int} (h:zeV Y row i Y.length x c):val (row++ [c])=pw i * (x * val Y)∧Dig (row++ [c])∧(row++ [c]).length=i+Y.length+1:=by
 obtain⟨h1,h2,h3,h4,h5⟩:=h;rw[za8 (Nat.le_refl _)]at h5;refine⟨?_,zcu h2 h3 h4,by simp[h1]⟩;rw[zbW,h1,Int.mul_comm _ c];exact h5
theorem zhw {X Y:List Int} {i:Nat} {o r:Int} (ho:o=val (X.take i) * val Y) (hr:r=pw i * (X.getD i 0 * val Y)):o+r=val (X.take (i+1)) * val Y:=by
 rw[zaD,Int.add_mul,ho,hr,Int.mul_assoc]
end Go.Proofs.YtcdhdhbjnpndkaaGreat
