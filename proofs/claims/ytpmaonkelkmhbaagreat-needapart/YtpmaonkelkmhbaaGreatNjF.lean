/- Package need: Of, by the network's tree. -/
import Derived.Test.YtpmaonkelkmhbaaGreatNqO
import Derived.Test.YtpmaonkelkmhbaaGreatVDt
import Derived.Test.YtpmaonkelkmhbaaGreatLSkip
import Derived.Deep.QuietTactic
import Derived.BigQuiet
import Derived.Maps.AppendAt
import Derived.Test.YtpmaonkelkmhbaaGreatProg
import Derived.WalkKit
import Derived.ProofKit
import Derived.OwnWalk
import Derived.Laws.OwnMore
import Derived.LoopTactic
import Derived.Test.YtpmaonkelkmhbaaGreatFracC
import Derived.Test.YtpmaonkelkmhbaaGreatFracV
import Derived.Deep.DrawnRows
import Derived.Test.YtpmaonkelkmhbaaGreatWholeQ
import Derived.Lib.ItoaNum
import Derived.Laws.IdiomStrings
import Derived.Test.YtpmaonkelkmhbaaGreatDWk
import Derived.Test.YtpmaonkelkmhbaaGreatKClr
import Derived.Deep.RegionHeld3
namespace Go.Proofs.YtpmaonkelkmhbaaGreat
open Go.RowKit
set_option linter.unusedVariables false
set_option linter.unusedSimpArgs false
set_option maxRecDepth 10000
namespace Nd
open S V
def X9 (L1:List (List D)) (pn pd:Int) (j:Nat):Int:=(W.ratF (iv L1 1 j) (iv L1 2 j) (iv L1 3 j) (iv L1 4 j) pn pd).1
def Y9 (L1:List (List D)) (pn pd:Int) (j:Nat):Int:=(W.ratF (iv L1 1 j) (iv L1 2 j) (iv L1 3 j) (iv L1 4 j) pn pd).2.1
def Z9 (L1:List (List D)) (pn pd:Int) (j:Nat):Int:=(W.ratF (iv L1 1 j) (iv L1 2 j) (iv L1 3 j) (iv L1 4 j) pn pd).2.2
theorem zoQ (L1:List (List D)) (pn pd:Int) (j:Nat):In (X9 L1 pn pd j)∧In (Y9 L1 pn pd j):=by
 have h:=W.rat_ok (iv L1 1 j) (iv L1 2 j) (iv L1 3 j) (iv L1 4 j) pn pd;exact⟨⟨h.in1.1,h.in1.2⟩,h.in2.1,h.in2.2⟩
theorem zoR {L1:List (List D)} (q1:∀ ds∈L1,ShL zcs ds) {j:Nat} (hj:j<L1.length):W.i64 (iv L1 1 j)∧W.i64 (iv L1 2 j)∧W.i64 (iv L1 3 j)∧W.i64 (iv L1 4 j):=by
 have hs:=q1 _ (zaR hj);unfold iv
 generalize L1.getD j []=ds at hs ⊢;simp only[ShL,Sh1,zcs]at hs;obtain⟨_,_,rfl,⟨s0,rfl,_⟩,⟨_,_,rfl,⟨v1,rfl,b1⟩,⟨_,_,rfl,⟨v2,rfl,b2⟩,⟨_,_,rfl,⟨v3,rfl,b3⟩,⟨_,_,rfl,⟨v4,rfl,b4⟩,_⟩⟩⟩⟩⟩:=hs;exact⟨b1,b2,b3,b4⟩
theorem zdg (X Y:Nat→Int):∀ n,(W.cp X Y n).length=n * 2
 |0=>rfl
 |n+1=>by rw[W.cp,List.length_append,zdg X Y n];simp;omega
theorem znA (X Y:Nat→Int):∀ n j,j<n→(W.cp X Y n)[j * 2]? =some (.int .i64 (X j))∧(W.cp X Y n)[j * 2+1]? =some (.int .i64 (Y j))
 |0,j,h=>by omega
 |n+1,j,h=>by
  rw[W.cp];rcases Nat.lt_succ_iff_lt_or_eq.1 h with e|e
  ·obtain⟨h1,h2⟩:=znA X Y n j e;rw[List.getElem?_append_left (by rw[zdg];omega),List.getElem?_append_left (by rw[zdg];omega)];exact⟨h1,h2⟩
  ·subst e;rw[List.getElem?_append_right (by rw[zdg];omega),List.getElem?_append_right (by rw[zdg];omega),zdg];rw[Nat.sub_self,Nat.add_sub_cancel_left];exact⟨rfl,rfl⟩
theorem znB {w:World} {ra:Option Addr} {n rc:Nat} {X Y:Nat→Int} (h:w.ownsRow 0 23 2 (.slice ra n rc) n (W.cp X Y n)) (j:Nat) (hj:j<n):∃ rd,ra=some rd∧rd.block<w.heap.size∧w.cell? (rd.add (j * 2))=some (.int .i64 (X j))∧w.cell? ⟨(rd.add (j * 2)).block,(rd.add (j * 2)).off+1,none⟩=some (.int .i64 (Y j)):=by
 obtain⟨g,cap,e,hg,_,_,hc⟩:=own_cell h (by omega);cases e
 obtain⟨h0,h1⟩:=znA X Y n j hj;refine⟨⟨g,0,none⟩,rfl,hg,?_⟩;rw[W.add_pl];simp only[Nat.zero_add];exact⟨hc _ _ h0,hc _ _ h1⟩
theorem zf0 {w:World} {s:ByteArray} {x1:Option Addr} {c1:Nat} {x2:Option Addr} {n2 c2:Nat} {x3:Option Addr} {n3 c3:Nat} {x4:Option Addr} {n4 c4:Nat} {x5:Option Addr} {n5 c5:Nat} {p pn pd:Int} {L1:List (List D)} (q1:∀ ds∈L1,ShL zcs ds) (m1:Rvss w x1 11 L1 0) (b1:L1.length≤1000) (h3:W.i64 pn) (h4:W.i64 pd):
  Calls Tryz.prog 38 #[.agg #[.string s,.slice x1 L1.length c1,.slice x2 n2 c2,.slice x3 n3 c3,.slice x4 n4 c4,.slice x5 n5 c5,.int .i64 p],.agg #[.int .i64 pn,.int .i64 pd]] w (Rp0 L1.length (X9 L1 pn pd) (Y9 L1 pn pd) (Z9 L1 pn pd) w):=by
 refine zdz s x1 L1.length c1 x2 n2 c2 x3 n3 c3 x4 n4 c4 x5 n5 c5 p pn pd _ _ _ w (hide fun w' b k hb hc=>?_);obtain⟨e0,e1,e2,e3,e4,e5,e6⟩:=hc;refine W.table_core 0 0 0 pn pd (some ⟨b,0,none⟩) 1 1 none 0 0 0 0 (fun _=>s) (fun _=>x1) (fun _=>x2) (fun _=>x3) (fun _=>x4) (fun _=>x5) (fun _=>L1.length) (fun _=>c1) (fun _=>n2) (fun _=>c2) (fun _=>n3) (fun _=>c3) (fun _=>n4) (fun _=>c4) (fun _=>n5) (fun _=>c5) (fun _=>p) (fun _=>X9 L1 pn pd) (fun _=>Y9 L1 pn pd) (fun _=>Z9 L1 pn pd) w' (by omega) (hide fun i hi=>?_) (hide fun i hi w2 k2=>?_)
 ·have:i=0:=by omega
  subst this;exact⟨_,rfl,hb,by simpa [Addr.add]using e0,by simpa [Addr.add]using e1,by simpa [Addr.add]using e2,by simpa [Addr.add]using e3,by simpa [Addr.add]using e4,by simpa [Addr.add]using e5,by simpa [Addr.add]using e6⟩
 ·refine W.ratios_core s x1 L1.length c1 x2 n2 c2 x3 n3 c3 x4 n4 c4 x5 n5 c5 p pn pd (fun j=>sv (V.tn L1 j)) (iv L1 1) (iv L1 2) (iv L1 3) (iv L1 4) (iv L1 5) (iv L1 6) (iv L1 7) (iv L1 8) (iv L1 9) (iv L1 10) _ _ _ w2 b1 (hide fun j hj=>?_) (hide fun j hj w3=>?_)
  ·obtain⟨ad,e,hb,h⟩:=S.clHead (k.trans k2) q1 m1 j hj;exact⟨ad,e,Nat.lt_of_lt_of_le hb (k.trans k2).size,h⟩
  ·obtain⟨i1,i2,i3,i4⟩:=zoR q1 hj;exact W.ratio_any _ _ _ _ _ _ _ i1 i2 i3 i4 h3 h4 w3
def jH (L1 L3:List (List D)) (k m:Nat):Nat:=(nI L1 (sb L3 1 k m)).toNat
def wL (L2:List (List D)) (nm:List UInt8):List (List UInt8×Int×Int):=wlk (V.tn L2) (un L2) (iv L2 4) (fun m=>fN (iv L2 2 m) (iv L2 3 m)) nm L2.length
def g1 (L1 L3:List (List D)) (k:Nat):Int:=fm (fun m=>iv L1 9 (jH L1 L3 k m)) 0 (ln L3 1 k)
def yW (L1 L3:List (List D)) (k:Nat):Int:=fm (fun m=>yN (iv L1 5 (jH L1 L3 k m)) (iv L1 6 (jH L1 L3 k m))) 0 (ln L3 1 k)
def rW (L1 L3:List (List D)) (k:Nat):Int:=fm (fun m=>rN (iv L1 7 (jH L1 L3 k m)) (iv L1 8 (jH L1 L3 k m)) (iv L1 5 (jH L1 L3 k m))) 0 (ln L3 1 k)
def xZ (L1 L3:List (List D)) (pn pd:Int) (k:Nat):Int×Int:=fx (fun m=>X9 L1 pn pd (jH L1 L3 k m)) (fun m=>Y9 L1 pn pd (jH L1 L3 k m)) (ln L3 1 k)
def wS (L:List (List UInt8×Int×Int)) (m:Nat):Int:=wrap64 ((L.getD m ([],0,0)).2.1+(L.getD m ([],0,0)).2.2)
def g2 (L1 L2 L3:List (List D)) (k:Nat):Int:=fm (wS (wL L2 (V.tn L3 k))) (g1 L1 L3 k) (wL L2 (V.tn L3 k)).length
theorem cn_le {n1 n2 n3 n4 n5:Nat} (h:cnE n1 n2 n3 n4 n5=none):n1≤16∧n2≤8∧n3≤16∧n4≤4∧n5≤64∧0<n1∧0<n3∧0<n4:=by
 unfold cnE at h
 have g0:(decide ((16:Int)<(n1:Int)) || decide ((16:Int)<(n3:Int)))=false:=by
  cases hb:(decide ((16:Int)<(n1:Int)) || decide ((16:Int)<(n3:Int)))with
  |false=>rfl
  |true=>have:=zaz h hb;cases this
 have h1:=zbI h g0;have g1:(decide ((8:Int)<(n2:Int)) || decide ((4:Int)<(n4:Int)) || decide ((64:Int)<(n5:Int)))=false:=by
  cases hb:(decide ((8:Int)<(n2:Int)) || decide ((4:Int)<(n4:Int)) || decide ((64:Int)<(n5:Int)))with
  |false=>rfl
  |true=>have:=zaz h1 hb;cases this
 have h2:=zbI h1 g1;have g2:((n1:Int)==0 || (n3:Int)==0 || (n4:Int)==0)=false:=by
  cases hb:((n1:Int)==0 || (n3:Int)==0 || (n4:Int)==0)with
  |false=>rfl
  |true=>have:=zaz h2 hb;cases this
 simp only[Bool.or_eq_false_iff,decide_eq_false_iff_not,beq_eq_false_iff_ne,ne_eq]at g0 g1 g2;omega
theorem j_ok {L1 L2 L3 L4 L5:List (List D)} {p:Int} (h:zb2 L1 L2 L3 L4 L5 p=none) {k m:Nat} (hk:k<L3.length) (hm:m<ln L3 1 k):jH L1 L3 k m<L1.length∧((jH L1 L3 k m:Nat):Int)=nI L1 (sb L3 1 k m):=by
 obtain⟨h0,h1,h2,h3,h4,h5,h6,h7⟩:=zaN h;have hh:=zff h2 k hk m hm;have h8:¬nI L1 (sb L3 1 k m)<0:=fun e=>by rw[zfX]at e;rw[hh]at e;cases e
 unfold jH
 have h9:nI L1 (sb L3 1 k m)= -1∨(0:Int)≤nI L1 (sb L3 1 k m)∧nI L1 (sb L3 1 k m)<(0:Int)+(L1.length:Int):=zdu _ L1.length 0;omega
set_option maxHeartbeats 2000000 in
theorem zf1 {w w':World} {s:ByteArray} {x1:Option Addr} {c1:Nat} {x2:Option Addr} {c2:Nat} {x3:Option Addr} {c3:Nat} {x4:Option Addr} {n4 c4:Nat} {x5:Option Addr} {n5 c5:Nat} {p pn pd:Int} {L1 L2 L3 L4 L5:List (List D)} (q1:∀ ds∈L1,ShL zcs ds) (m1:Rvss w x1 11 L1 0) (b1:L1.length≤maxLen) (q2:∀ ds∈L2,ShL zlL ds) (m2:Rvss w x2 6 L2 0) (q3:∀ ds∈L3,ShL zba ds) (m3:Rvss w x3 3 L3 0) (hv:zb2 L1 L2 L3 L4 L5 p=none) (kk:Keep w w') {ra:Option Addr} {rc:Nat} (hr:w'.ownsRow 0 23 2 (.slice ra L1.length rc) L1.length (W.cp (X9 L1 pn pd) (Y9 L1 pn pd) L1.length)) (k:Nat) (hk:k<L3.length):
  Calls Tryz.prog 39 #[.agg #[.string s,.slice x1 L1.length c1,.slice x2 L2.length c2,.slice x3 L3.length c3,.slice x4 n4 c4,.slice x5 n5 c5,.int .i64 p],.agg #[.string (sv (V.tn L3 k)),.slice (sA w x3 3 1 k) (ln L3 1 k) (sC w x3 3 1 k),.int .i64 (iv L3 2 k)],.slice ra L1.length rc] w' (Nq9 (V.tn L3 k) (g2 L1 L2 L3 k) (yW L1 L3 k) (rW L1 L3 k) (xZ L1 L3 pn pd k) (wL L2 (V.tn L3 k)) w'):=by
 obtain⟨l1,l2,l3,_⟩:=cn_le (zaN hv).1;obtain⟨r1,r2,r3,r4⟩:=rsPhase q3 m3 k hk;have hwl:(wL L2 (V.tn L3 k)).length≤L2.length:=zeu _ _ _ _ _ _;refine zex s x1 L1.length c1 x2 L2.length c2 x3 L3.length c3 x4 n4 c4 x5 n5 c5 p (V.tn L3 k) (sA w x3 3 1 k) (ln L3 1 k) (sC w x3 3 1 k) (iv L3 2 k) ra rc (sb L3 1 k) (jH L1 L3 k) (fun j=>sv (V.tn L1 j)) (iv L1 1) (iv L1 2) (iv L1 3) (iv L1 4) (iv L1 5) (iv L1 6) (iv L1 7) (iv L1 8) (iv L1 9) (iv L1 10) (X9 L1 pn pd) (Y9 L1 pn pd) (fun j=>yN (iv L1 5 j) (iv L1 6 j)) (fun j=>yE (iv L1 5 j) (iv L1 6 j)) (fun j=>rN (iv L1 7 j) (iv L1 8 j) (iv L1 5 j)) (fun j=>rE (iv L1 7 j) (iv L1 8 j) (iv L1 5 j)) (wS (wL L2 (V.tn L3 k))) (wL L2 (V.tn L3 k)) (g1 L1 L3 k) _ _ _ _ w' (zcR (w:=w) (a:=x3) q3 k hk) (by omega) (by omega)
  (hide fun j hj=>?_) (hide fun m hm=>?_) (hide fun m hm=>(j_ok hv hk hm).1) (hide fun j hj=>?_) (hide fun m hm w2 k2=>?_) (hide fun j hj w2=>zfQ _ _ w2) (hide fun j hj w2=>zlm _ _ _ w2) (hide fun w2 k2=>?_) (hide fun j hj=>rfl) (hide ⟨rfl,rfl,rfl,rfl,rfl⟩)
 ·obtain⟨ad,e,hb,h⟩:=S.clHead kk q1 m1 j hj;exact⟨ad,e,Nat.lt_of_lt_of_le hb kk.size,h⟩
 ·obtain⟨ad,e,hb,h0,_⟩:=clName r4 (Rvss.keep kk _ _ _ _ r3) m hm;exact⟨ad,e,hb,h0⟩
 ·obtain⟨rd,e,hb,h0,h1⟩:=znB hr j hj;obtain⟨i1,i2⟩:=zoQ L1 pn pd j;exact⟨rd,e,hb,h0,h1,i1,i2⟩
 ·rw[(j_ok hv hk hm).2];exact zdv _ q1 (Rvss.keep (kk.trans k2) _ _ _ _ m1) b1
 ·refine zc3 s x1 L1.length c1 x2 L2.length c2 x3 L3.length c3 x4 n4 c4 x5 n5 c5 p (V.tn L2) (un L2) (iv L2 2) (iv L2 3) (iv L2 4) (iv L2 5) (fun m=>fN (iv L2 2 m) (iv L2 3 m)) _ (V.tn L3 k) w2 (by omega) (hide fun j hj=>?_) (hide fun m hm w3=>zg8 _ _ w3);obtain⟨ad,e,hb,h⟩:=S.clPed (kk.trans k2) q2 m2 j hj;exact⟨ad,e,Nat.lt_of_lt_of_le hb (kk.trans k2).size,h⟩
def ofL (a3 a4:Int) (LN:List (List D)) (c i:Int):Int:=if i<0∨(LN.length:Int)≤i then 1 else if c=0 then W.fz (Z9 (sub LN 1 i.toNat) a3 a4) 0 (sub LN 1 i.toNat).length else 1
def OfL (a3 a4:Int) (LN:List (List D)) (c i:Int) (w:World) (e:Ending) (w':World):Prop:=Oq (ofL a3 a4 LN c i) (sub LN 3 i.toNat).length (V.tn (sub LN 3 i.toNat)) (g2 (sub LN 1 i.toNat) (sub LN 2 i.toNat) (sub LN 3 i.toNat)) (yW (sub LN 1 i.toNat) (sub LN 3 i.toNat)) (rW (sub LN 1 i.toNat) (sub LN 3 i.toNat)) (xZ (sub LN 1 i.toNat) (sub LN 3 i.toNat) a3 a4) (fun k=>wL (sub LN 2 i.toNat) (V.tn (sub LN 3 i.toNat) k)) w e w'
set_option maxHeartbeats 4000000 in
theorem znC {w:World} (a0 a1 a2 a3 a4:Int) (aN:Option Addr) (cN:Nat) (aS:Option Addr) (nS cS:Nat) (a5 a6:Int) (LN:List (List D)) (c cp:Int) (bN:LN.length≤maxLen) (qN:∀ ds∈LN,ShL za5 ds) (mN:Rvss w aN 7 LN 0) (i3:W.i64 a3) (i4:W.i64 a4) (i:Int) (hv:c=0→nsE LN=none)
  (TC:∀ w',Keep w w'→Calls Tryz.prog 37 #[.agg #[.int .i64 a0,.int .i64 a1,.int .i64 a2,.int .i64 a3,.int .i64 a4,.slice aN LN.length cN,.slice aS nS cS,.int .i64 a5,.int .i64 a6]] w' fun e w''=>e= .returned (.tuple #[.int .i64 c,.int .i64 cp])∧Keep w' w''):
  Calls Tryz.prog 17 #[.agg #[.int .i64 a0,.int .i64 a1,.int .i64 a2,.int .i64 a3,.int .i64 a4,.slice aN LN.length cN,.slice aS nS cS,.int .i64 a5,.int .i64 a6],.int .i64 i] w (OfL a3 a4 LN c i w):=by
 unfold OfL
 by_cases hi:i<0∨(LN.length:Int)≤i
 ·have e:ofL a3 a4 LN c i=1:=by unfold ofL;rw[if_pos hi]
  rw[e];exact znn a0 a1 a2 a3 a4 aN LN.length cN aS nS cS a5 a6 i _ _ _ _ _ _ _ w hi
 ·by_cases hc:c=0
  ·obtain⟨j,rfl⟩:∃ j:Nat,i=(j:Int):=⟨i.toNat,by omega⟩;have hj:j<LN.length:=by omega
   have e:ofL a3 a4 LN c (j:Int)=W.fz (Z9 (sub LN 1 j) a3 a4) 0 (sub LN 1 j).length:=by unfold ofL;rw[if_neg hi,if_pos hc,Int.toNat_natCast]
   rw[e,Int.toNat_natCast];have hnd:=zhs (hv hc) j hj;have hnl:zb2 (sub LN 1 j) (sub LN 2 j) (sub LN 3 j) (sub LN 4 j) (sub LN 5 j) (iv LN 6 j)=none:=hnd;obtain⟨l1,l2,l3,_⟩:=cn_le (zaN hnl).1;obtain⟨⟨s11,s12,s13,s14⟩,⟨s21,s22,s23,s24⟩,⟨s31,s32,s33,s34⟩,⟨s41,s42,s43,s44⟩,⟨s51,s52,s53,s54⟩⟩:=zeV qN mN j hj;subst hc;have hcl:=S.clNode (Keep.refl w) qN mN j hj;rw[s11,s21,s31,s41,s51]at hcl;refine zoG a0 a1 a2 a3 a4 aN LN.length cN aS nS cS a5 a6 j (sv (V.tn LN j)) (sA w aN 7 1 j) (sub LN 1 j).length (sC w aN 7 1 j) (sA w aN 7 2 j) (sub LN 2 j).length (sC w aN 7 2 j) (sA w aN 7 3 j) (sub LN 3 j).length (sC w aN 7 3 j) (sA w aN 7 4 j) (sub LN 4 j).length (sC w aN 7 4 j) (sA w aN 7 5 j) (sub LN 5 j).length (sC w aN 7 5 j) (iv LN 6 j) (sA w (sA w aN 7 3 j) 3 1) (ln (sub LN 3 j) 1) (sC w (sA w aN 7 3 j) 3 1) (iv (sub LN 3 j) 2) _ _ _ _ _ _ (X9 (sub LN 1 j) a3 a4) (Y9 (sub LN 1 j) a3 a4) _ _ w hj (by omega) (hide hcl) (hide fun k hk=>?_) (hide TC) (hide fun w' k=>zf0 s14 (Rvss.keep k _ _ _ _ s13) (by omega) i3 i4) (hide fun k hk w' ra rc kw ho=>zf1 s14 s13 (show(sub LN 1 j).length≤maxLen by unfold maxLen;omega) s24 s23 s34 s33 hnl kw ho k hk);obtain⟨ad,e,hb,h0,h1,h2⟩:=S.clPhase (Keep.refl w) s34 s33 k hk;rw[(rsPhase s34 s33 k hk).1]at h1;exact⟨ad,e,hb,h0,h1,h2⟩
  ·have e:ofL a3 a4 LN c i=1:=by unfold ofL;rw[if_neg hi,if_neg hc]
   rw[e];exact zoF a0 a1 a2 a3 a4 aN LN.length cN aS nS cS a5 a6 i _ _ _ _ _ _ _ _ _ w (by omega) (by omega) hc (hide TC)
end Nd
namespace Nd
open S V
theorem ix_hit {B:Nat→Bool} :∀ m k,0≤ix B k m→∃ j,k≤j∧j<k+m∧ix B k m=(j:Int)∧B j=true
 |0,k,h=>by simp[ix]at h
 |m+1,k,h=>by
  unfold ix at h ⊢
  by_cases hb:B k=true
  ·rw[if_pos hb];exact⟨k,Nat.le_refl _,by omega,rfl,hb⟩
  ·rw[if_neg hb]at h ⊢;obtain⟨j,h1,h2,h3,h4⟩:=ix_hit m (k+1) h;exact⟨j,by omega,by omega,h3,h4⟩
theorem ix_first {B:Nat→Bool} {j:Nat} (hj:B j=true):∀ m k,k≤j→j<k+m→ix B k m≤(j:Int)
 |0,k,h1,h2=>by omega
 |m+1,k,h1,h2=>by
  unfold ix
  split
  ·omega
  ·rename_i hb
   rcases Nat.eq_or_lt_of_le h1 with e|e
   ·rw[e]at hb;exact absurd hj hb
   ·exact ix_first hj m (k+1) (by omega) (by omega)
theorem mk_fst (T:Nat→List UInt8) (n:Nat):(mk T n).map Prod.fst=(List.range n).map T:=by simp[mk,List.map_map,Function.comp_def]
end Nd
namespace Nd
open S V
def ab (p q:Int×Int):Prop:=q.1 * p.2<p.1 * q.2
end Nd
end Go.Proofs.YtpmaonkelkmhbaaGreat
namespace Go.Proofs.YtpmaonkelkmhbaaGreat
open Go.RowKit
set_option linter.unusedVariables false
def val:List Int→Int
 | []=>0
 |d :: l=>d+65536 * val l
end Go.Proofs.YtpmaonkelkmhbaaGreat
namespace Go.Proofs.YtpmaonkelkmhbaaGreat
open Go.RowKit
set_option linter.unusedVariables false
set_option maxRecDepth 10000
def zoS:Value→Nat
 | .slice _ n _=>n
 | _=>0
theorem zeh {w:World} {B:Nat} {T:TypeId} {v:Value} {n:Nat} {xs:List Value} (h:w.ownsRow B T 1 v n xs):zoS v=n:=by
 obtain⟨_,h2⟩:=h;rcases h2 with ⟨rfl,h⟩|⟨g,cap,cur,rfl,_⟩
 ·exact h.symm
 ·rfl
def bel (a b:Int):Bool:=decide (a * b<0)
end Go.Proofs.YtpmaonkelkmhbaaGreat
namespace Go.Proofs.YtpmaonkelkmhbaaGreat
open Go.RowKit
attribute [local go_sem ↓] Go.wp_at_zero Go.wp_at_succ
set_option linter.unusedVariables false
set_option linter.unusedSimpArgs false
set_option maxRecDepth 10000
def Fa (w wc:World) (x y x2 y2:Int):Prop:=
 Keep w wc∧w.heap.size+1+1<wc.heap.size
 ∧wc.cell? ⟨w.heap.size,0,none⟩=some (.int .i64 x)∧wc.cell? ⟨w.heap.size,1,none⟩=some (.int .i64 y)∧wc.cell? ⟨w.heap.size+1,0,none⟩=some (.int .i64 x2)∧wc.cell? ⟨w.heap.size+1,1,none⟩=some (.int .i64 y2)
 ∧wc.cell? ⟨w.heap.size+1+1,0,none⟩=some (.int .i64 0)∧wc.cell? ⟨w.heap.size+1+1,1,none⟩=some (.int .i64 0)
 ∧wc.frozen? ⟨w.heap.size+1+1,0,none⟩=false∧wc.frozen? ⟨w.heap.size+1+1,1,none⟩=false
theorem Fa.keep {w wc w':World} {x y x2 y2:Int} (h:Fa w wc x y x2 y2) (hk:Keep wc w'):Fa w w' x y x2 y2:=by
 obtain⟨h1,h2,h3,h4,h5,h6,h7,h8,h9,h10⟩:=h;have hs:=Below.size hk;refine⟨h1.trans hk,by omega,?_,?_,?_,?_,?_,?_,?_,?_⟩
 ·rw[Below.cell (p:=⟨w.heap.size,0,none⟩) hk (by simp;omega)];exact h3
 ·rw[Below.cell (p:=⟨w.heap.size,1,none⟩) hk (by simp;omega)];exact h4
 ·rw[Below.cell (p:=⟨w.heap.size+1,0,none⟩) hk (by simp;omega)];exact h5
 ·rw[Below.cell (p:=⟨w.heap.size+1,1,none⟩) hk (by simp;omega)];exact h6
 ·rw[Below.cell (p:=⟨w.heap.size+1+1,0,none⟩) hk (by simp;omega)];exact h7
 ·rw[Below.cell (p:=⟨w.heap.size+1+1,1,none⟩) hk (by simp;omega)];exact h8
 ·rw[Below.frozen (p:=⟨w.heap.size+1+1,0,none⟩) hk (by simp;omega)];exact h9
 ·rw[Below.frozen (p:=⟨w.heap.size+1+1,1,none⟩) hk (by simp;omega)];exact h10
theorem Fa.cells {w wc:World} {x y x2 y2:Int} (h:Fa w wc x y x2 y2):wc.cell? ⟨w.heap.size,0,none⟩=some (.int .i64 x)∧wc.cell? ⟨w.heap.size,1,none⟩=some (.int .i64 y)∧wc.cell? ⟨w.heap.size+1,0,none⟩=some (.int .i64 x2)∧wc.cell? ⟨w.heap.size+1,1,none⟩=some (.int .i64 y2):=
 ⟨h.2.2.1,h.2.2.2.1,h.2.2.2.2.1,h.2.2.2.2.2.1⟩
theorem Fa.drew {w wc:World} {x y x2 y2:Int} (h:Fa w wc x y x2 y2):Fa w wc.drew x y x2 y2:=h.keep ((Keep.refl _).drew)
namespace Nd
def Mk9 (t:TypeId) (w:World) (T n:Nat):Prop:=∃ arr,w.heap[T]? =some (.cells arr t (0,0))∧arr.size=n
theorem Mk9.keep {t:TypeId} {w w':World} {T n:Nat} (h:Mk9 t w T n) (k:Keep w w'):Mk9 t w' T n:=by
 obtain⟨arr,h,e⟩:=h;exact⟨arr,(k.block T (Array.getElem?_eq_some_iff.1 h).1).trans h,e⟩
theorem Mk9.set {t:TypeId} {w:World} {T i n:Nat} {v:Value} (h:Mk9 t w T n):Mk9 t (w.setCell ⟨T,i,none⟩ v) T n:=by
 obtain⟨arr,h,e⟩:=h;exact⟨_,Q.set_cells h v,by simp[e]⟩
theorem Mk9.fz {t:TypeId} {w:World} {T n:Nat} (h:Mk9 t w T n) (i:Nat):w.frozen? ⟨T,i,none⟩=false:=by
 obtain⟨arr,h,e⟩:=h;simp[World.frozen?,h]
theorem Mk9.cell {t:TypeId} {w:World} {T n:Nat} (h:Mk9 t w T n) {i:Nat} (hi:i<n):∃ u,w.cell? ⟨T,i,none⟩=some u:=by
 obtain⟨arr,h,e⟩:=h;exact⟨arr[i]'(by omega),by simp[World.cell?,h,e,hi]⟩
set_option maxHeartbeats 4000000 in
theorem timesOf_core (s:ByteArray) (x1:Option Addr) (n1 c1:Nat) (x2:Option Addr) (n2 c2:Nat) (x3:Option Addr) (n3 c3:Nat) (x4:Option Addr) (n4 c4:Nat) (x5:Option Addr) (n5 c5:Nat) (p:Int) (f:Bool) (ra:Option Addr) (rn rc:Nat) (la:Option Addr) (lc:Nat) (H:Nat→List UInt8) (J LV:Nat→Int) (w:World) (hn:rn≤1000)
  (HR:Hid (∀ k,k<rn→∃ ad,ra=some ad∧ad.block<w.heap.size∧w.cell? (ad.add k)=some (.string (sv (H k)))))
  (HV:Hid (∀ k,k<n3→∃ ad,la=some ad∧ad.block<w.heap.size∧w.cell? (ad.add k)=some (.int .i64 (LV k))))
  (HJ:Hid (∀ k,k<rn→J k<(n3:Int)))
  (TP:Hid (∀ k,k<rn→∀ w',Keep w w'→Calls Tryz.prog 61 #[.agg #[.string s,.slice x1 n1 c1,.slice x2 n2 c2,.slice x3 n3 c3,.slice x4 n4 c4,.slice x5 n5 c5,.int .i64 p],.string (sv (H k))] w' fun e w''=>e= .returned (.int .i64 (J k))∧Keep w' w'')):
  Calls Tryz.prog 40 #[.agg #[.string s,.slice x1 n1 c1,.slice x2 n2 c2,.slice x3 n3 c3,.slice x4 n4 c4,.slice x5 n5 c5,.int .i64 p],.agg #[.bool f,.slice ra rn rc],.slice la n3 lc] w fun e w'=>∃ a c,e= .returned (.slice a rn c)∧Keep w w':=by
 obtain⟨i0,hi0,hz0,hz1,hz2⟩:=W.info_f infoI;obtain⟨ZZ,hZ,hmk⟩:∃ ZZ:Array Value,ZZ.size=rn * 1∧∀ w,(Instr.makeSlice 42 (.int .i64 (rn:Int)) (.int .i64 (rn:Int))).run Tryz.prog w= .ok (.slice (some ⟨w.heap.size,0,none⟩) rn rn) (w.alloc (.cells ZZ 2)):=by
  refine⟨madeCells (Value.int .i64 0).cells (rn * 1),by simp[size_madeCells],fun w=>?_⟩;have h:=run_make (P:=Tryz.prog) w 42 2 i0 _ Tryz.underlying42 hi0 hz0 .i64 .i64 (rn:Int) (rn:Int) (by omega) (by omega) (by rw[hz2];omega) (by omega);rw[hz1]at h;simpa using h
 have hx0:=heap_alloc_new w (.cells #[.string s,.slice x1 n1 c1,.slice x2 n2 c2,.slice x3 n3 c3,.slice x4 n4 c4,.slice x5 n5 c5,.int .i64 p] 39);have hx1:=heap_alloc_new (w.alloc (.cells #[.string s,.slice x1 n1 c1,.slice x2 n2 c2,.slice x3 n3 c3,.slice x4 n4 c4,.slice x5 n5 c5,.int .i64 p] 39)) (.cells #[.bool f,.slice ra rn rc] 59);have hx2:=heap_alloc_new ((w.alloc (.cells #[.string s,.slice x1 n1 c1,.slice x2 n2 c2,.slice x3 n3 c3,.slice x4 n4 c4,.slice x5 n5 c5,.int .i64 p] 39)).alloc (.cells #[.bool f,.slice ra rn rc] 59)) (.cells ZZ 2);have ke:=(Keep.refl (w.alloc (.cells #[.string s,.slice x1 n1 c1,.slice x2 n2 c2,.slice x3 n3 c3,.slice x4 n4 c4,.slice x5 n5 c5,.int .i64 p] 39))).alloc (.cells #[.bool f,.slice ra rn rc] 59);have KB:=hide ((Keep.refl w).alloc (.cells #[.string s,.slice x1 n1 c1,.slice x2 n2 c2,.slice x3 n3 c3,.slice x4 n4 c4,.slice x5 n5 c5,.int .i64 p] 39) |>.trans ke);have KZ:=hide ((Keep.refl ((w.alloc (.cells #[.string s,.slice x1 n1 c1,.slice x2 n2 c2,.slice x3 n3 c3,.slice x4 n4 c4,.slice x5 n5 c5,.int .i64 p] 39)).alloc (.cells #[.bool f,.slice ra rn rc] 59))).alloc (.cells ZZ 2));have e0:(w.alloc (.cells #[.string s,.slice x1 n1 c1,.slice x2 n2 c2,.slice x3 n3 c3,.slice x4 n4 c4,.slice x5 n5 c5,.int .i64 p] 39)).heap.size=w.heap.size+1:=by simp[go_sem]
 have e9:((w.alloc (.cells #[.string s,.slice x1 n1 c1,.slice x2 n2 c2,.slice x3 n3 c3,.slice x4 n4 c4,.slice x5 n5 c5,.int .i64 p] 39)).alloc (.cells #[.bool f,.slice ra rn rc] 59)).heap.size=w.heap.size+2:=by simp[go_sem]
 have hx3:=(ke.block w.heap.size (by omega)).trans hx0;rw[e0]at hx1;rw[e9]at hx2;clear ke hx0 e0;go_enter Tryz.func40,Tryz.ntmps40
 go_upto_region 2 with fail
 generalize (w.alloc (.cells #[.string s,.slice x1 n1 c1,.slice x2 n2 c2,.slice x3 n3 c3,.slice x4 n4 c4,.slice x5 n5 c5,.int .i64 p] 39)).alloc (.cells #[.bool f,.slice ra rn rc] 59)=wb at hx1 hx2 hx3 KB KZ e9 ⊢;have HT:Hid (wb.heap.size≤w.heap.size+2):=hide (by omega);obtain⟨q0,hq⟩:∃ q,w.heap.size=q:=⟨_,rfl⟩;have HM:Hid (Mk9 2 (wb.alloc (.cells ZZ 2)) (q0+2) rn):=hide ⟨ZZ,by rw[← hq];exact hx2,by omega⟩;rw[hq]at hx1 hx3 HT ⊢;have HX:Hid (∀ w':World,Keep wb w'→(w'.cell? ⟨q0,0,none⟩=some (.string s)∧w'.cell? ⟨q0,1,none⟩=some (.slice x1 n1 c1)∧w'.cell? ⟨q0,2,none⟩=some (.slice x2 n2 c2)∧w'.cell? ⟨q0,3,none⟩=some (.slice x3 n3 c3)∧w'.cell? ⟨q0,4,none⟩=some (.slice x4 n4 c4)∧w'.cell? ⟨q0,5,none⟩=some (.slice x5 n5 c5)∧w'.cell? ⟨q0,6,none⟩=some (.int .i64 p))∧w'.cell? ⟨q0+1,0,none⟩=some (.bool f)∧w'.cell? ⟨q0+1,1,none⟩=some (.slice ra rn rc)):=hide (fun w' k9=>by
  have h1:=k9.block q0 (Array.getElem?_eq_some_iff.1 hx3).1;have h2:=k9.block (q0+1) (Array.getElem?_eq_some_iff.1 hx1).1;rw[hx3]at h1;rw[hx1]at h2;refine⟨⟨?_,?_,?_,?_,?_,?_,?_⟩,?_,?_⟩<;>simp[World.cell?,h1,h2])
 generalize wb.alloc (.cells ZZ 2)=wz at HM KZ ⊢;clear hx1 hx2 hx3 hmk e9;obtain⟨⟨z0,z1,z2,z3,z4,z5,z6⟩,f0,f1⟩:=(uq HX) wz (uq KZ);go_wp2_with fail
 clear z0 z1 z2 z3 z4 z5 z6 f0 f1
 go_loopw [18] (fun vi wr=>∃ k:Nat,vi= .int .i64 (k:Int)∧k≤rn∧Hid (Mk9 2 wr (q0+2) rn)∧Hid (Keep wb wr)) (fun vi _=>rn - (intOf vi).toNat)
 case atStart=>exact⟨0,rfl,Nat.zero_le _,HM,KZ⟩
 case round=>
  obtain⟨k,rfl,hk,MK,KW⟩:=hrel;by_cases hlt:k<rn
  ·have li:(k:Int)<(rn:Int):=by omega
   obtain⟨ad,rfl,hb,e0⟩:=(uq HR) k hlt;have y0:=V.far_cell ((uq KB).trans (uq KW)) (by rw[V.add_block9];exact hb) e0;clear e0;obtain⟨⟨z0,z1,z2,z3,z4,z5,z6⟩,f0,f1⟩:=(uq HX) wr (uq KW);go_wp2_with fail
   (refine((uq TP) k hlt _ ((uq KB).trans (uq KW))).mono ?_;rintro e w2 ⟨rfl,hk9⟩;have K2:=hide ((uq KW).trans hk9);have M2:=hide ((uq MK).keep hk9);clear hk9);clear z0 z1 z2 z3 z4 z5 z6 f0 f1 y0;obtain⟨j,hj⟩:∃ j,J k=j:=⟨_,rfl⟩;have HJK:Hid (j<(n3:Int)):=hide (by rw[← hj];exact(uq HJ) k hlt);rw[hj];clear hj;by_cases h0:0≤j
   ·obtain⟨m,rfl⟩:∃ m:Nat,j=(m:Int):=⟨j.toNat,by omega⟩;have hm:m<n3:=by have:=uq HJK;omega
    obtain⟨ld,rfl,hb2,g0⟩:=(uq HV) m hm;have y1:=V.far_cell ((uq KB).trans (uq K2)) (by rw[V.add_block9];exact hb2) g0;clear g0;obtain⟨u,hu⟩:=(uq M2).cell hlt;have hfz:=(uq M2).fz k;have li2:(m:Int)<(n3:Int):=by omega
    go_wp2_with fail
    go_roundw
    case rel=>exact⟨k+1,by go_num,hlt,hide ((uq M2).set),hide (zax (uq K2) (uq HT))⟩
    case measure=>simp[intOf];omega
   ·have hb0:(decide (0≤j))=false:=decide_eq_false h0;go_wp2_with fail
    go_roundw
    case rel=>exact⟨k+1,by go_num,hlt,M2,K2⟩
    case measure=>simp[intOf];omega
  ·have li:¬(k:Int)<(rn:Int):=by omega
   go_wp2_with fail
   go_ret;exact⟨⟨_,_,rfl⟩,(uq KB).trans (uq KW)⟩
end Nd
namespace Nd
open V
set_option maxHeartbeats 4000000 in
theorem clFoe (t u:List UInt8) (p:Int) (ta:Option Addr) (tn tc:Nat) (ua:Option Addr) (un uc:Nat) (p1 p2 p3 p4:Bool) (c d:Nat) (w:World) (hc:w.cell? ⟨c,0,none⟩=some (.slice ta tn tc)) (hcl:c<w.heap.size) (hd:w.cell? ⟨d,0,none⟩=some (.slice ua un uc)) (hdl:d<w.heap.size)
  (T1:Hid (∀ w',Keep w w'→Calls Tryz.prog 89 #[.slice ta tn tc,.string (sv t)] w' fun e w''=>e= .returned (.bool p1)∧w''=w'))
  (T2:Hid (∀ w',Keep w w'→Calls Tryz.prog 89 #[.slice ua un uc,.string (sv u)] w' fun e w''=>e= .returned (.bool p2)∧w''=w'))
  (T3:Hid (∀ w',Keep w w'→Calls Tryz.prog 89 #[.slice ta tn tc,.string (sv u)] w' fun e w''=>e= .returned (.bool p3)∧w''=w'))
  (T4:Hid (∀ w',Keep w w'→Calls Tryz.prog 89 #[.slice ua un uc,.string (sv t)] w' fun e w''=>e= .returned (.bool p4)∧w''=w')):
  Calls Tryz.prog 88 #[.agg #[.string (sv t),.string (sv u),.int .i64 p],.pointer (some ⟨c,0,none⟩),.pointer (some ⟨d,0,none⟩)] w fun e w'=>e= .returned (.bool (p1&&p2 || p3&&p4))∧Keep w w':=by
 have K:=hide ((Keep.refl w).alloc (.cells #[.string (sv t),.string (sv u),.int .i64 p] 48));go_enter Tryz.func88,Tryz.ntmps88;go_wp2_with fail
 (refine((uq T1) _ (uq K)).mono ?_;rintro e w1 ⟨rfl,rfl⟩);cases p1
 ·go_wp2_with fail
  (refine((uq T3) _ (uq K)).mono ?_;rintro e w1 ⟨rfl,rfl⟩);cases p3
  ·go_wp2_with fail
   go_ret;exact⟨by simp,uq K⟩
  ·go_wp2_with fail
   (refine((uq T4) _ (uq K)).mono ?_;rintro e w1 ⟨rfl,rfl⟩);go_wp2_with fail
   go_ret;exact⟨by simp,uq K⟩
 ·go_wp2_with fail
  (refine((uq T2) _ (uq K)).mono ?_;rintro e w1 ⟨rfl,rfl⟩);cases p2
  ·go_wp2_with fail
   (refine((uq T3) _ (uq K)).mono ?_;rintro e w1 ⟨rfl,rfl⟩);cases p3
   ·go_wp2_with fail
    go_ret;exact⟨by simp,uq K⟩
   ·go_wp2_with fail
    (refine((uq T4) _ (uq K)).mono ?_;rintro e w1 ⟨rfl,rfl⟩);go_wp2_with fail
    go_ret;exact⟨by simp,uq K⟩
  ·go_wp2_with fail
   go_ret;exact⟨by simp,uq K⟩
set_option maxHeartbeats 2000000 in
theorem znD (a:Option Addr) (n cap c d:Nat) (T U:Nat→List UInt8) (P:Nat→Int) (B:Nat→Bool) (r:Int) (w:World) (hn:n≤9223372036854775807)
  (HC:Hid (∀ k,k<n→∃ ad,a=some ad∧ad.block<w.heap.size∧w.cell? (ad.add (k * 3))=some (.string (sv (T k)))∧w.cell? ⟨(ad.add (k * 3)).block,(ad.add (k * 3)).off+1,none⟩=some (.string (sv (U k)))∧w.cell? ⟨(ad.add (k * 3)).block,(ad.add (k * 3)).off+2,none⟩=some (.int .i64 (P k))))
  (TF:Hid (∀ k,k<n→∀ w',Keep w w'→Calls Tryz.prog 88 #[.agg #[.string (sv (T k)),.string (sv (U k)),.int .i64 (P k)],.pointer (some ⟨c,0,none⟩),.pointer (some ⟨d,0,none⟩)] w' fun e w''=>e= .returned (.bool (B k))∧Keep w' w''))
  (HI:Hid (ix B 0 n=r)):
  Calls Tryz.prog 102 #[.slice a n cap,.func (.func 88) #[] #[.pointer (some ⟨c,0,none⟩),.pointer (some ⟨d,0,none⟩)]] w fun e w'=>e= .returned (.int .i64 r)∧Keep w w':=by
 go_enter Tryz.func102,Tryz.ntmps102;go_wp2_with fail
 go_loopw [8] (fun vi wr=>∃ k:Nat,vi= .int .i64 (k:Int)∧k≤n∧Hid (Keep w wr)∧Hid (ix B k (n - k)=r)) (fun vi _=>n - (intOf vi).toNat)
 case atStart=>exact⟨0,rfl,Nat.zero_le _,hide (Keep.refl _),HI⟩
 case round=>
  obtain⟨k,rfl,hk,KW,HF⟩:=hrel;by_cases hlt:k<n
  ·have li:(k:Int)<(n:Int):=by omega
   obtain⟨ad,rfl,hb,e0,e1,e2⟩:=(uq HC) k hlt;have x0:=far_cell (uq KW) (by rw[add_block9];exact hb) e0;have x1:=far_cell (uq KW) (by show(ad.add (k * 3)).block<_;rw[add_block9];exact hb) e1;have x2:=far_cell (uq KW) (by show(ad.add (k * 3)).block<_;rw[add_block9];exact hb) e2;clear e0 e1 e2;have TK:=hide ((uq TF) k hlt _ (uq KW));cases hB:B k
   ·have HF2:=hide (zdt (uq HF) hlt hB);rw[hB]at TK;clear hB HF;go_wp2_with fail
    (refine(uq TK).mono ?_;rintro e w2 ⟨rfl,hk9⟩;have K2:=hide ((uq KW).trans hk9);clear hk9);go_wp2_with fail
    go_roundw
    case rel=>exact⟨k+1,by go_num,by omega,K2,HF2⟩
    case measure=>simp[intOf];omega
   ·have hr:=zb3 (uq HF) hlt hB;rw[hB]at TK;subst hr;clear hB HF;go_wp2_with fail
    (refine(uq TK).mono ?_;rintro e w2 ⟨rfl,hk9⟩;have K2:=hide ((uq KW).trans hk9);clear hk9);go_wp2_with fail
    go_ret;exact⟨rfl,uq K2⟩
  ·have li:¬(k:Int)<(n:Int):=by omega
   have hr:=zb4 (uq HF) (by omega);subst hr;go_wp2_with fail
   go_ret;exact⟨rfl,uq KW⟩
set_option maxHeartbeats 2000000 in
theorem areFoes_core (a:Option Addr) (n cap:Nat) (T U:Nat→List UInt8) (P:Nat→Int) (ta:Option Addr) (tn tc:Nat) (ua:Option Addr) (un uc:Nat) (p1 p2 p3 p4:Nat→Bool) (w:World) (hn:n≤9223372036854775807)
  (HC:Hid (∀ k,k<n→∃ ad,a=some ad∧ad.block<w.heap.size∧w.cell? (ad.add (k * 3))=some (.string (sv (T k)))∧w.cell? ⟨(ad.add (k * 3)).block,(ad.add (k * 3)).off+1,none⟩=some (.string (sv (U k)))∧w.cell? ⟨(ad.add (k * 3)).block,(ad.add (k * 3)).off+2,none⟩=some (.int .i64 (P k))))
  (TQ:Hid (∀ k,k<n→∀ w',Keep w w'→(Calls Tryz.prog 89 #[.slice ta tn tc,.string (sv (T k))] w' fun e w''=>e= .returned (.bool (p1 k))∧w''=w')∧(Calls Tryz.prog 89 #[.slice ua un uc,.string (sv (U k))] w' fun e w''=>e= .returned (.bool (p2 k))∧w''=w')∧(Calls Tryz.prog 89 #[.slice ta tn tc,.string (sv (U k))] w' fun e w''=>e= .returned (.bool (p3 k))∧w''=w')∧Calls Tryz.prog 89 #[.slice ua un uc,.string (sv (T k))] w' fun e w''=>e= .returned (.bool (p4 k))∧w''=w')):
  Calls Tryz.prog 63 #[.slice a n cap,.slice ta tn tc,.slice ua un uc] w fun e w'=>e= .returned (.bool (decide (0≤ix (fun k=>p1 k&&p2 k || p3 k&&p4 k) 0 n)))∧Keep w w':=by
 have hmf:∀(fn:Fn) (first cap:Array Value) (w:World),(Instr.makeFunc fn first cap).run Tryz.prog w= .ok (.func fn first cap) w:=fun _ _ _ _=>rfl
 have K:=hide (((Keep.refl w).alloc (.cells #[.slice ta tn tc] 43)).alloc (.cells #[.slice ua un uc] 43));obtain⟨r,HI⟩:∃ r,Hid (ix (fun k=>p1 k&&p2 k || p3 k&&p4 k) 0 n=r):=⟨_,hide rfl⟩;rw[uq HI];have TI:Hid (∀ w' c d,Keep w w'→c<w'.heap.size→d<w'.heap.size→w'.cell? ⟨c,0,none⟩=some (.slice ta tn tc)→w'.cell? ⟨d,0,none⟩=some (.slice ua un uc)→Calls Tryz.prog 87 #[.slice a n cap,.func (.func 88) #[] #[.pointer (some ⟨c,0,none⟩),.pointer (some ⟨d,0,none⟩)]] w' fun e w''=>e= .returned (.bool (decide (0≤r)))∧Keep w' w''):=hide (fun w' c d kw hc hd h1 h2=>by
  have T9:=hide (znD a n cap c d T U P (fun k=>p1 k&&p2 k || p3 k&&p4 k) r w' hn (hide fun k hk=>by
   obtain⟨ad,e,hb,e0,e1,e2⟩:=(uq HC) k hk;exact⟨ad,e,Nat.lt_of_lt_of_le hb kw.size,far_cell kw (by rw[add_block9];exact hb) e0,far_cell kw (by show(ad.add (k * 3)).block<_;rw[add_block9];exact hb) e1,far_cell kw (by show(ad.add (k * 3)).block<_;rw[add_block9];exact hb) e2⟩) (hide fun k hk w2 k2=>clFoe (T k) (U k) (P k) ta tn tc ua un uc (p1 k) (p2 k) (p3 k) (p4 k) c d w2 (far_cell k2 hc h1) (Nat.lt_of_lt_of_le hc k2.size) (far_cell k2 hd h2) (Nat.lt_of_lt_of_le hd k2.size) (hide fun w3 k3=>((uq TQ) k hk w3 (kw.trans (k2.trans k3))).1) (hide fun w3 k3=>((uq TQ) k hk w3 (kw.trans (k2.trans k3))).2.1) (hide fun w3 k3=>((uq TQ) k hk w3 (kw.trans (k2.trans k3))).2.2.1) (hide fun w3 k3=>((uq TQ) k hk w3 (kw.trans (k2.trans k3))).2.2.2)) HI)
  clear h1 h2;go_enter Tryz.func87,Tryz.ntmps87;go_wp2_with fail
  (refine(uq T9).mono ?_;rintro e w1 ⟨rfl,hk⟩);go_wp2_with fail
  go_ret;exact⟨rfl,hk⟩)
 go_enter Tryz.func63,Tryz.ntmps63;go_wp2_with fail
 (refine((uq TI) _ _ _ (uq K) (by first|omega|(simp;done)|(simp[go_sem];done)|(simp[go_sem];omega)|(simp;omega)) (by first|omega|(simp;done)|(simp[go_sem];done)|(simp[go_sem];omega)|(simp;omega)) (by simp[go_sem]) (by simp[go_sem])).mono ?_;rintro e w1 ⟨rfl,hk⟩);go_wp2_with fail
 go_ret;exact⟨rfl,(uq K).trans hk⟩
end Nd
end Go.Proofs.YtpmaonkelkmhbaaGreat
