/- Package need: what a phase needs. -/
import Derived.Test.YtpmaonkelkmhbaaGreatQChg
import Derived.Test.YtpmaonkelkmhbaaGreatLSkip
import Derived.Test.YtpmaonkelkmhbaaGreatQStore
import Derived.Deep.DrawnRows
import Derived.Deep.RegionHeld3
namespace Go.Proofs.YtpmaonkelkmhbaaGreat
open Go.RowKit
attribute [local go_sem ↓] Go.wp_at_zero Go.wp_at_succ
set_option linter.unusedVariables false
set_option linter.unusedSimpArgs false
set_option maxRecDepth 10000
namespace Nd
def fm (f:Nat→Int) (a:Int):Nat→Int
 |0=>a
 |k+1=>if fm f a k<f k then f k else fm f a k
def fx (X Y:Nat→Int):Nat→Int×Int
 |0=>(0,1)
 |k+1=>AX.mx2 (fx X Y k) (X k,Y k)
theorem znl {a b:Int×Int} (h1:In a.1) (h2:In a.2) (h3:In b.1) (h4:In b.2):In (AX.mx2 a b).1∧In (AX.mx2 a b).2:=by
 have h5:=AX.cn_in h1 h2;have h6:=AX.cn_in h3 h4;simp only[AX.mx2,AX.mxA,mx];split
 ·exact h6
 ·exact h5
theorem znm {X Y:Nat→Int} :∀ k,(∀ j,j<k→In (X j)∧In (Y j))→In (fx X Y k).1∧In (fx X Y k).2
 |0,_=>(show In 0∧In 1 from⟨⟨by decide,by decide⟩,by decide,by decide⟩)
 |k+1,h=>by
  obtain⟨h1,h2⟩:=znm k (fun j hj=>h j (by omega));obtain⟨h3,h4⟩:=h k (by omega);exact znl h1 h2 h3 h4
structure NB (w:World) (T:Nat) (nm:List UInt8) (g y r x z:Int) (wv:Value):Prop where
 c0:w.cell? ⟨T,0,none⟩=some (.string (sv nm))
 c1:w.cell? ⟨T,1,none⟩=some (.int .i64 g)
 c2:w.cell? ⟨T,2,none⟩=some (.int .i64 y)
 c3:w.cell? ⟨T,3,none⟩=some (.int .i64 r)
 c4:w.cell? ⟨T,4,none⟩=some (.int .i64 x)
 c5:w.cell? ⟨T,5,none⟩=some (.int .i64 z)
 c6:w.cell? ⟨T,6,none⟩=some wv
 f1:w.frozen? ⟨T,1,none⟩=false
 f2:w.frozen? ⟨T,2,none⟩=false
 f3:w.frozen? ⟨T,3,none⟩=false
 f4:w.frozen? ⟨T,4,none⟩=false
 f5:w.frozen? ⟨T,5,none⟩=false
theorem NB.keep {w w':World} {T:Nat} {nm:List UInt8} {g y r x z:Int} {wv:Value} (h:NB w T nm g y r x z wv) (k:Keep w w'):NB w' T nm g y r x z wv:=
 ⟨W.Keep.cl k h.c0,W.Keep.cl k h.c1,W.Keep.cl k h.c2,W.Keep.cl k h.c3,W.Keep.cl k h.c4,W.Keep.cl k h.c5,W.Keep.cl k h.c6,W.Keep.fz k h.c1 h.f1,W.Keep.fz k h.c2 h.f2,W.Keep.fz k h.c3 h.f3,W.Keep.fz k h.c4 h.f4,W.Keep.fz k h.c5 h.f5⟩
theorem NB.lt {w:World} {T:Nat} {nm:List UInt8} {g y r x z:Int} {wv:Value} (h:NB w T nm g y r x z wv):T<w.heap.size:=World.block_lt_of_cell? w _ h.c0
theorem NB.set1 {w:World} {T:Nat} {nm:List UInt8} {g y r x z:Int} {wv:Value} (h:NB w T nm g y r x z wv) (g2:Int):NB (w.setCell ⟨T,1,none⟩ (.int .i64 g2)) T nm g2 y r x z wv:=by
 obtain⟨h0,h1,h2,h3,h4,h5,h6,k1,k2,k3,k4,k5⟩:=h;constructor<;>simp[go_sem,h0,h1,h2,h3,h4,h5,h6,k1,k2,k3,k4,k5]
theorem NB.set3 {w:World} {T:Nat} {nm:List UInt8} {g y r x z:Int} {wv:Value} (h:NB w T nm g y r x z wv) (g2 y2 r2:Int):NB (((w.setCell ⟨T,1,none⟩ (.int .i64 g2)).setCell ⟨T,2,none⟩ (.int .i64 y2)).setCell ⟨T,3,none⟩ (.int .i64 r2)) T nm g2 y2 r2 x z wv:=by
 obtain⟨h0,h1,h2,h3,h4,h5,h6,k1,k2,k3,k4,k5⟩:=h;constructor<;>simp[go_sem,h0,h1,h2,h3,h4,h5,h6,k1,k2,k3,k4,k5]
theorem NB.set2 {w:World} {T:Nat} {nm:List UInt8} {g y r x z:Int} {wv:Value} (h:NB w T nm g y r x z wv) (x2 z2:Int):NB ((w.setCell ⟨T,4,none⟩ (.int .i64 x2)).setCell ⟨T,5,none⟩ (.int .i64 z2)) T nm g y r x2 z2 wv:=by
 obtain⟨h0,h1,h2,h3,h4,h5,h6,k1,k2,k3,k4,k5⟩:=h;constructor<;>simp[go_sem,h0,h1,h2,h3,h4,h5,h6,k1,k2,k3,k4,k5]
theorem NB.made {w:World} {T:Nat} {t:TypeId} (h:w.heap[T]? =some (.cells #[.string ⟨#[]⟩,.int .i64 0,.int .i64 0,.int .i64 0,.int .i64 0,.int .i64 0,.slice none 0 0] t (0,0))) (nm:List UInt8) (a:Option Addr) (n c:Nat):
  NB (((((((w.setCell ⟨T,0,none⟩ (.string (sv nm))).setCell ⟨T,1,none⟩ (.int .i64 0)).setCell ⟨T,2,none⟩ (.int .i64 0)).setCell ⟨T,3,none⟩ (.int .i64 0)).setCell ⟨T,4,none⟩ (.int .i64 0)).setCell ⟨T,5,none⟩ (.int .i64 1)).setCell ⟨T,6,none⟩ (.slice a n c)) T nm 0 0 0 0 1 (.slice a n c):=by
 have h7:=Q.set_cells (i:=6) (Q.set_cells (i:=5) (Q.set_cells (i:=4) (Q.set_cells (i:=3) (Q.set_cells (i:=2) (Q.set_cells (i:=1) (Q.set_cells (i:=0) h (.string (sv nm))) (.int .i64 0)) (.int .i64 0)) (.int .i64 0)) (.int .i64 0)) (.int .i64 1)) (.slice a n c);generalize ((((((w.setCell ⟨T,0,none⟩ (.string (sv nm))).setCell ⟨T,1,none⟩ (.int .i64 0)).setCell ⟨T,2,none⟩ (.int .i64 0)).setCell ⟨T,3,none⟩ (.int .i64 0)).setCell ⟨T,4,none⟩ (.int .i64 0)).setCell ⟨T,5,none⟩ (.int .i64 1)).setCell ⟨T,6,none⟩ (.slice a n c)=W at h7 ⊢;constructor<;>simp[World.cell?,World.frozen?,h7]
theorem zae {w:World} {B:Nat} {e:TypeId} {z n:Nat} {v:Value} {xs:List Value} {T i:Nat} {u:Value} (h:w.ownsRow B e z v n xs) (hT:v.ownBlock≠some T):(w.setCell ⟨T,i,none⟩ u).ownsRow B e z v n xs:=
 ziP h (fun g hg=>Below.heap_setCell _ _ _ _ (by simp only;intro e;exact hT (by rw[hg,e])))
theorem zax {a w:World} {T i:Nat} {u:Value} (h:Keep a w) (hT:a.heap.size≤T):Keep a (w.setCell ⟨T,i,none⟩ u):=Below.setCell h hT u
theorem zcg {w:World} {B:Nat} {e:TypeId} {z n:Nat} {v:Value} {xs:List Value} (h:w.ownsRow B e z v n xs):∃ a c,v= .slice a n c∧n≤c:=by
 rcases h.2 with ⟨rfl,h0⟩|⟨g,cap,cur,rfl,hb,hg,hc,hm,hs,ht⟩
 ·subst h0;exact⟨none,0,rfl,Nat.le_refl _⟩
 ·exact⟨_,_,rfl,hc⟩
theorem ziZ:∀(L:List (List UInt8×Int×Int)) (j:Nat),j<L.length→(wcs L)[j * 3]? =some (.string (sv (L.getD j ([],0,0)).1))∧(wcs L)[j * 3+1]? =some (.int .i64 (L.getD j ([],0,0)).2.1)∧(wcs L)[j * 3+2]? =some (.int .i64 (L.getD j ([],0,0)).2.2)
 | [],j,h=>by simp at h
 |x :: L,0,h=>by simp[wcs]
 |x :: L,j+1,h=>by
  have:=ziZ L j (by simpa using h);rw[show(j+1) * 3=j * 3+3 by omega];simpa [wcs]using this
theorem zlx {w:World} {B:Nat} {a:Option Addr} {c:Nat} {L:List (List UInt8×Int×Int)} (h:w.ownsRow B 137 3 (.slice a L.length c) L.length (wcs L)) (j:Nat) (hj:j<L.length):∃ ad,a=some ad∧ad.block<w.heap.size∧w.cell? (ad.add (j * 3))=some (.string (sv (L.getD j ([],0,0)).1))∧w.cell? ⟨(ad.add (j * 3)).block,(ad.add (j * 3)).off+1,none⟩=some (.int .i64 (L.getD j ([],0,0)).2.1)∧w.cell? ⟨(ad.add (j * 3)).block,(ad.add (j * 3)).off+2,none⟩=some (.int .i64 (L.getD j ([],0,0)).2.2):=by
 obtain⟨g,cap,e,hg,_,_,hc⟩:=own_cell h (by omega);cases e
 obtain⟨h0,h1,h2⟩:=ziZ L j hj;refine⟨⟨g,0,none⟩,rfl,hg,?_⟩;rw[W.add_pl];simp only[Nat.zero_add];exact⟨hc _ _ h0,hc _ _ h1,hc _ _ h2⟩
def Nq9 (nm:List UInt8) (g y r:Int) (xz:Int×Int) (WL:List (List UInt8×Int×Int)) (w:World) (e:Ending) (w':World):Prop:=∃ a c,e= .returned (.agg #[.string (sv nm),.int .i64 g,.int .i64 y,.int .i64 r,.int .i64 xz.1,.int .i64 xz.2,.slice a WL.length c])∧Keep w w'∧w'.ownsRow w.heap.size 137 3 (.slice a WL.length c) WL.length (wcs WL)
set_option maxHeartbeats 16000000 in
theorem zex (s:ByteArray) (x1:Option Addr) (n1 c1:Nat) (x2:Option Addr) (n2 c2:Nat) (x3:Option Addr) (n3 c3:Nat) (x4:Option Addr) (n4 c4:Nat) (x5:Option Addr) (n5 c5:Nat) (p:Int) (nm:List UInt8) (A:Option Addr) (N C:Nat) (pp:Int) (ra:Option Addr) (rc:Nat) (H:Nat→List UInt8) (J:Nat→Nat) (HN:Nat→ByteArray) (V1 V2 V3 V4 V5 V6 V7 V8 V9 V10 X Y Yw Ye Rw Re WS:Nat→Int) (WL:List (List UInt8×Int×Int)) (g1 y1 r1 g2:Int) (xz:Int×Int) (w:World) (hN:N≤9223372036854775807) (hn1:n1≤1000) (hWL:WL.length≤1000)
  (HC:Hid (∀ j,j<n1→∃ ad,x1=some ad∧ad.block<w.heap.size∧w.cell? (ad.add (j * 11))=some (.string (HN j))∧w.cell? ⟨(ad.add (j * 11)).block,(ad.add (j * 11)).off+1,none⟩=some (.int .i64 (V1 j))∧w.cell? ⟨(ad.add (j * 11)).block,(ad.add (j * 11)).off+2,none⟩=some (.int .i64 (V2 j))∧w.cell? ⟨(ad.add (j * 11)).block,(ad.add (j * 11)).off+3,none⟩=some (.int .i64 (V3 j))∧w.cell? ⟨(ad.add (j * 11)).block,(ad.add (j * 11)).off+4,none⟩=some (.int .i64 (V4 j))∧w.cell? ⟨(ad.add (j * 11)).block,(ad.add (j * 11)).off+5,none⟩=some (.int .i64 (V5 j))∧w.cell? ⟨(ad.add (j * 11)).block,(ad.add (j * 11)).off+6,none⟩=some (.int .i64 (V6 j))∧w.cell? ⟨(ad.add (j * 11)).block,(ad.add (j * 11)).off+7,none⟩=some (.int .i64 (V7 j))∧w.cell? ⟨(ad.add (j * 11)).block,(ad.add (j * 11)).off+8,none⟩=some (.int .i64 (V8 j))∧w.cell? ⟨(ad.add (j * 11)).block,(ad.add (j * 11)).off+9,none⟩=some (.int .i64 (V9 j))∧w.cell? ⟨(ad.add (j * 11)).block,(ad.add (j * 11)).off+10,none⟩=some (.int .i64 (V10 j))))
  (HD:Hid (∀ k,k<N→∃ bd,A=some bd∧bd.block<w.heap.size∧w.cell? (bd.add k)=some (.string (sv (H k)))))
  (HJ:Hid (∀ k,k<N→J k<n1))
  (HRT:Hid (∀ j,j<n1→∃ rd,ra=some rd∧rd.block<w.heap.size∧w.cell? (rd.add (j * 2))=some (.int .i64 (X j))∧w.cell? ⟨(rd.add (j * 2)).block,(rd.add (j * 2)).off+1,none⟩=some (.int .i64 (Y j))∧In (X j)∧In (Y j)))
  (TH:Hid (∀ k,k<N→∀ w',Keep w w'→Calls Tryz.prog 58 #[.agg #[.string s,.slice x1 n1 c1,.slice x2 n2 c2,.slice x3 n3 c3,.slice x4 n4 c4,.slice x5 n5 c5,.int .i64 p],.string (sv (H k))] w' fun e w''=>e= .returned (.int .i64 (J k:Int))∧Keep w' w''))
  (TY:Hid (∀ j,j<n1→∀ w',Calls Tryz.prog 59 #[.int .i64 (V5 j),.int .i64 (V6 j)] w' fun e w''=>e= .returned (.tuple #[.int .i64 (Yw j),.int .i64 (Ye j)])∧Keep w' w''))
  (TR:Hid (∀ j,j<n1→∀ w',Calls Tryz.prog 60 #[.int .i64 (V7 j),.int .i64 (V8 j),.int .i64 (V5 j)] w' fun e w''=>e= .returned (.tuple #[.int .i64 (Rw j),.int .i64 (Re j)])∧Keep w' w''))
  (TW:Hid (∀ w',Keep w w'→Calls Tryz.prog 57 #[.agg #[.string s,.slice x1 n1 c1,.slice x2 n2 c2,.slice x3 n3 c3,.slice x4 n4 c4,.slice x5 n5 c5,.int .i64 p],.string (sv nm)] w' (Wq WL w')))
  (HWS:Hid (∀ j,j<WL.length→wrap64 ((WL.getD j ([],0,0)).2.1+(WL.getD j ([],0,0)).2.2)=WS j))
  (HG:Hid (fm (fun k=>V9 (J k)) 0 N=g1∧fm (fun k=>Yw (J k)) 0 N=y1∧fm (fun k=>Rw (J k)) 0 N=r1∧fx (fun k=>X (J k)) (fun k=>Y (J k)) N=xz∧fm WS g1 WL.length=g2)):
  Calls Tryz.prog 39 #[.agg #[.string s,.slice x1 n1 c1,.slice x2 n2 c2,.slice x3 n3 c3,.slice x4 n4 c4,.slice x5 n5 c5,.int .i64 p],.agg #[.string (sv nm),.slice A N C,.int .i64 pp],.slice ra n1 rc] w (Nq9 nm g2 y1 r1 xz WL w):=by
 have TM:=hide AX.fmax_nil;have TM2:=hide AX.fmax_two;have K0:=hide ((((Keep.refl w).alloc (.cells #[.string s,.slice x1 n1 c1,.slice x2 n2 c2,.slice x3 n3 c3,.slice x4 n4 c4,.slice x5 n5 c5,.int .i64 p] 39)).alloc (.cells #[.string (sv nm),.slice A N C,.int .i64 pp] 45)).alloc (.cells #[.string ⟨#[]⟩,.int .i64 0,.int .i64 0,.int .i64 0,.int .i64 0,.int .i64 0,.slice none 0 0] 80));have hc0:∀ w':World,Keep (((w.alloc (.cells #[.string s,.slice x1 n1 c1,.slice x2 n2 c2,.slice x3 n3 c3,.slice x4 n4 c4,.slice x5 n5 c5,.int .i64 p] 39)).alloc (.cells #[.string (sv nm),.slice A N C,.int .i64 pp] 45)).alloc (.cells #[.string ⟨#[]⟩,.int .i64 0,.int .i64 0,.int .i64 0,.int .i64 0,.int .i64 0,.slice none 0 0] 80)) w'→((w'.cell? ⟨w.heap.size,0,none⟩=some (.string s)∧w'.cell? ⟨w.heap.size,1,none⟩=some (.slice x1 n1 c1)∧w'.cell? ⟨w.heap.size,2,none⟩=some (.slice x2 n2 c2)∧w'.cell? ⟨w.heap.size,3,none⟩=some (.slice x3 n3 c3)∧w'.cell? ⟨w.heap.size,4,none⟩=some (.slice x4 n4 c4)∧w'.cell? ⟨w.heap.size,5,none⟩=some (.slice x5 n5 c5)∧w'.cell? ⟨w.heap.size,6,none⟩=some (.int .i64 p))∧(w'.cell? ⟨w.heap.size+1,0,none⟩=some (.string (sv nm))∧w'.cell? ⟨w.heap.size+1,1,none⟩=some (.slice A N C)∧w'.cell? ⟨w.heap.size+1,2,none⟩=some (.int .i64 pp))∧(w'.cell? ⟨w.heap.size+2,0,none⟩=some (.string ⟨#[]⟩)∧w'.cell? ⟨w.heap.size+2,1,none⟩=some (.int .i64 0)∧w'.cell? ⟨w.heap.size+2,2,none⟩=some (.int .i64 0)∧w'.cell? ⟨w.heap.size+2,3,none⟩=some (.int .i64 0)∧w'.cell? ⟨w.heap.size+2,4,none⟩=some (.int .i64 0)∧w'.cell? ⟨w.heap.size+2,5,none⟩=some (.int .i64 0)∧w'.cell? ⟨w.heap.size+2,6,none⟩=some (.slice none 0 0)))∧(w'.frozen? ⟨w.heap.size+2,0,none⟩=false∧w'.frozen? ⟨w.heap.size+2,1,none⟩=false∧w'.frozen? ⟨w.heap.size+2,2,none⟩=false∧w'.frozen? ⟨w.heap.size+2,3,none⟩=false∧w'.frozen? ⟨w.heap.size+2,4,none⟩=false∧w'.frozen? ⟨w.heap.size+2,5,none⟩=false∧w'.frozen? ⟨w.heap.size+2,6,none⟩=false):=fun w' k9=>by
  refine⟨⟨⟨W.Keep.cl k9 (by simp[go_sem]),W.Keep.cl k9 (by simp[go_sem]),W.Keep.cl k9 (by simp[go_sem]),W.Keep.cl k9 (by simp[go_sem]),W.Keep.cl k9 (by simp[go_sem]),W.Keep.cl k9 (by simp[go_sem]),W.Keep.cl k9 (by simp[go_sem])⟩,⟨W.Keep.cl k9 (by simp[go_sem]),W.Keep.cl k9 (by simp[go_sem]),W.Keep.cl k9 (by simp[go_sem])⟩,⟨W.Keep.cl k9 (by simp[go_sem]),W.Keep.cl k9 (by simp[go_sem]),W.Keep.cl k9 (by simp[go_sem]),W.Keep.cl k9 (by simp[go_sem]),W.Keep.cl k9 (by simp[go_sem]),W.Keep.cl k9 (by simp[go_sem]),W.Keep.cl k9 (by simp[go_sem])⟩⟩,W.Keep.fz k9 (v:= .string ⟨#[]⟩) (by simp[go_sem]) (by simp[go_sem]),W.Keep.fz k9 (v:= .int .i64 0) (by simp[go_sem]) (by simp[go_sem]),W.Keep.fz k9 (v:= .int .i64 0) (by simp[go_sem]) (by simp[go_sem]),W.Keep.fz k9 (v:= .int .i64 0) (by simp[go_sem]) (by simp[go_sem]),W.Keep.fz k9 (v:= .int .i64 0) (by simp[go_sem]) (by simp[go_sem]),W.Keep.fz k9 (v:= .int .i64 0) (by simp[go_sem]) (by simp[go_sem]),W.Keep.fz k9 (v:= .slice none 0 0) (by simp[go_sem]) (by simp[go_sem])⟩
 have hsz0:(((w.alloc (.cells #[.string s,.slice x1 n1 c1,.slice x2 n2 c2,.slice x3 n3 c3,.slice x4 n4 c4,.slice x5 n5 c5,.int .i64 p] 39)).alloc (.cells #[.string (sv nm),.slice A N C,.int .i64 pp] 45)).alloc (.cells #[.string ⟨#[]⟩,.int .i64 0,.int .i64 0,.int .i64 0,.int .i64 0,.int .i64 0,.slice none 0 0] 80)).heap.size=w.heap.size+3:=by simp[go_sem]
 go_enter Tryz.func39,Tryz.ntmps39
 go_upto_region 1 with fail
 generalize ((w.alloc (.cells #[.string s,.slice x1 n1 c1,.slice x2 n2 c2,.slice x3 n3 c3,.slice x4 n4 c4,.slice x5 n5 c5,.int .i64 p] 39)).alloc (.cells #[.string (sv nm),.slice A N C,.int .i64 pp] 45)).alloc (.cells #[.string ⟨#[]⟩,.int .i64 0,.int .i64 0,.int .i64 0,.int .i64 0,.int .i64 0,.slice none 0 0] 80)=w0 at hc0 K0 hsz0 ⊢;obtain⟨q0,HQ0⟩:∃ q,Hid (w.heap.size=q):=⟨_,hide rfl⟩;rw[uq HQ0]at hc0 hsz0 ⊢;have HX0:=hide hc0;have HSZ:=hide hsz0;clear hc0 hsz0;obtain⟨⟨⟨z0,z1,z2,z3,z4,z5,z6⟩,⟨p0,p1,p2⟩,_⟩,_⟩:=(uq HX0) w0 (Keep.refl _);have CKH:Hid (∀ w':World,Keep w0 w'→(w'.cell? ⟨q0,0,none⟩=some (.string s)∧w'.cell? ⟨q0,1,none⟩=some (.slice x1 n1 c1)∧w'.cell? ⟨q0,2,none⟩=some (.slice x2 n2 c2)∧w'.cell? ⟨q0,3,none⟩=some (.slice x3 n3 c3)∧w'.cell? ⟨q0,4,none⟩=some (.slice x4 n4 c4)∧w'.cell? ⟨q0,5,none⟩=some (.slice x5 n5 c5)∧w'.cell? ⟨q0,6,none⟩=some (.int .i64 p))∧w'.cell? ⟨q0+1,0,none⟩=some (.string (sv nm))∧w'.cell? ⟨q0+1,1,none⟩=some (.slice A N C)∧w'.cell? ⟨q0+1,2,none⟩=some (.int .i64 pp)):=hide (fun w' k9=>⟨((uq HX0) w' k9).1.1,((uq HX0) w' k9).1.2.1⟩);clear p0 p1 p2 z0 z1 z2 z3 z4 z5 z6
 go_cut [7] (fun s7 wc=>∃ T a c,s7= .pointer (some ⟨T,0,none⟩)∧w0.heap.size≤T∧NB wc T nm 0 0 0 0 1 (.slice a WL.length c)∧Keep w0 wc∧wc.ownsRow w0.heap.size 137 3 (.slice a WL.length c) WL.length (wcs WL)∧(Value.slice a WL.length c).ownBlock≠some T)
 case first=>
  refine wp_region_held_drew (S:=(fun w'=>(w'.cell? ⟨q0,0,none⟩=some (.string s)∧w'.cell? ⟨q0,1,none⟩=some (.slice x1 n1 c1)∧w'.cell? ⟨q0,2,none⟩=some (.slice x2 n2 c2)∧w'.cell? ⟨q0,3,none⟩=some (.slice x3 n3 c3)∧w'.cell? ⟨q0,4,none⟩=some (.slice x4 n4 c4)∧w'.cell? ⟨q0,5,none⟩=some (.slice x5 n5 c5)∧w'.cell? ⟨q0,6,none⟩=some (.int .i64 p))∧w'.cell? ⟨q0+1,0,none⟩=some (.string (sv nm))∧w'.cell? ⟨q0+1,1,none⟩=some (.slice A N C)∧w'.cell? ⟨q0+1,2,none⟩=some (.int .i64 pp))) (by kernel_rfl) (by exact uq CKH _ ((Keep.refl _).drew)) (fun hHeld=>?_);refine tkk 0 18 hHeld ?_;try simp only[Act.put,Ya,Yb,Yc]
  refine tkk 1 19 hHeld ?_;try simp only[Act.put,Ya,Yb,Yc]
  refine tkk 3 21 hHeld ?_;try simp only[Act.put,Ya,Yb,Yc]
  refine tkk 4 22 hHeld ?_;try simp only[Act.put,Ya,Yb,Yc]
  refine tkk 5 23 hHeld ?_;try simp only[Act.put,Ya,Yb,Yc]
  refine wpAnyH_ready (rs:= [2,8]) (by kernel_rfl) (by simp) ?_;refine AllReadyH.cons rfl (fun K hK=>?_) (AllReadyH.cons rfl (fun K hK=>?_) AllReadyH.nil)
  ·skip
   go_simp;clear hHeld;(refine((uq TM) _ _ _).mono ?_;rintro e w2 ⟨rfl,hk2⟩;have K2:=hide (((Keep.refl w0).drew).trans hk2);have L2:=hide hk2;clear hk2);try go_wp2_with fail
   refine hK.out _ _ ?_ (fun hHeld=>?_)
   ·exact(uq CKH) _ (uq K2)
   clear hK K;try simp only[Act.put,Ya,Yb,Yc]
   refine wpAnyH_ready (rs:= [6,8]) (by kernel_rfl) (by simp) ?_;refine AllReadyH.cons rfl (fun K hK=>?_) (AllReadyH.cons rfl (fun K hK=>?_) AllReadyH.nil)
   ·skip
    go_simp;clear hHeld;(refine((uq TW) _ ((uq K0).trans (uq K2))).mono ?_;rintro e w3 ⟨v3,rfl,hk3,how3⟩;obtain⟨wa,wc9,rfl,hwc⟩:=zcg how3;have K3:=hide ((uq K2).trans hk3);have L3:=hide hk3;have HOW:=hide how3;clear hk3 how3);try go_wp2_with fail
    refine hK.out _ _ ?_ (fun hHeld=>?_)
    ·exact(uq CKH) _ (uq K3)
    clear hK K;try simp only[Act.put,Ya,Yb,Yc]
    refine tkk 7 25 hHeld ?_;try simp only[Act.put,Ya,Yb,Yc]
    refine zal 8 (fun K hK=>?_);go_simp;clear hHeld;refine hK.out _ _ ?_ (fun hHeld=>?_)
    ·exact(uq CKH) _ ((uq K3).alloc _)
    clear hK K;try simp only[Act.put,Ya,Yb,Yc]
    refine zal 9 (fun K hK=>?_);go_simp;clear hHeld;refine hK.out _ _ ?_ (fun hHeld=>?_)
    ·exact(uq CKH) _ ((uq K3).alloc _)
    clear hK K;try simp only[Act.put,Ya,Yb,Yc]
    refine wpAnyH_done (by kernel_rfl) ?_ _;clear hHeld;go_wp2_with fail
    go_meet;have hnew:=heap_alloc_new w3 (.cells #[.string (sv nm),.int .i64 0,.int .i64 0,.int .i64 0,.int .i64 0,.int .i64 1,.slice wa WL.length wc9] 80);exact⟨_,wa,wc9,rfl,Below.size (uq K3),(by clear hnew;constructor<;>simp[go_sem]),(uq K3).alloc _,(W.own_mono (uq HOW) (Below.size (uq K2))).alloc _,fun hT=>by have:=((uq HOW).lt _ hT).2;omega⟩
   ·skip
    go_simp;clear hHeld;refine hK.out _ _ ?_ (fun hHeld=>?_)
    ·exact(uq CKH) _ ((uq K2).alloc _)
    clear hK K;try simp only[Act.put,Ya,Yb,Yc]
    have HB1:=hide (heap_alloc_new w2 (.cells #[.string ⟨#[]⟩,.int .i64 0,.int .i64 0,.int .i64 0,.int .i64 0,.int .i64 0,.slice none 0 0] 80));have KZ:=hide ((uq K2).alloc (.cells #[.string ⟨#[]⟩,.int .i64 0,.int .i64 0,.int .i64 0,.int .i64 0,.int .i64 0,.slice none 0 0] 80));have HZS:Hid ((w2.alloc (.cells #[.string ⟨#[]⟩,.int .i64 0,.int .i64 0,.int .i64 0,.int .i64 0,.int .i64 0,.slice none 0 0] 80)).heap.size=w2.heap.size+1):=hide (by simp);obtain⟨T,HT⟩:∃ T,Hid (T=w2.heap.size):=⟨_,hide rfl⟩;generalize w2.alloc (.cells #[.string ⟨#[]⟩,.int .i64 0,.int .i64 0,.int .i64 0,.int .i64 0,.int .i64 0,.slice none 0 0] 80)=wz at HB1 KZ HZS hHeld ⊢;have HB2:Hid (wz.heap[T]? =some (.cells #[.string ⟨#[]⟩,.int .i64 0,.int .i64 0,.int .i64 0,.int .i64 0,.int .i64 0,.slice none 0 0] 80 (0,0))):=hide (by rw[uq HT];exact uq HB1);rw[← uq HT];clear HB1;refine zal 6 (fun K hK=>?_);go_simp;clear hHeld;(refine((uq TW) _ ((uq K0).trans (uq KZ))).mono ?_;rintro e w3 ⟨v3,rfl,hk3,how3⟩;obtain⟨wa,wc9,rfl,hwc⟩:=zcg how3;have K3:=hide ((uq KZ).trans hk3);have L3:=hide hk3;have HOW:=hide how3;clear hk3 how3);try go_wp2_with fail
    refine hK.out _ _ ?_ (fun hHeld=>?_)
    ·exact(uq CKH) _ (uq K3)
    clear hK K;try simp only[Act.put,Ya,Yb,Yc]
    refine tkk 7 25 hHeld ?_;try simp only[Act.put,Ya,Yb,Yc]
    have hb3:w3.heap[T]? =some (.cells #[.string ⟨#[]⟩,.int .i64 0,.int .i64 0,.int .i64 0,.int .i64 0,.int .i64 0,.slice none 0 0] 80 (0,0)):=((uq L3).block T (by have:=uq HZS;have:=uq HT;omega)).trans (uq HB2);have HB3:=hide hb3;have u0:w3.cell? ⟨T,0,none⟩=some (.string ⟨#[]⟩):=by simp[World.cell?,hb3]
    have u1:w3.cell? ⟨T,1,none⟩=some (.int .i64 0):=by simp[World.cell?,hb3]
    have u2:w3.cell? ⟨T,2,none⟩=some (.int .i64 0):=by simp[World.cell?,hb3]
    have u3:w3.cell? ⟨T,3,none⟩=some (.int .i64 0):=by simp[World.cell?,hb3]
    have u4:w3.cell? ⟨T,4,none⟩=some (.int .i64 0):=by simp[World.cell?,hb3]
    have u5:w3.cell? ⟨T,5,none⟩=some (.int .i64 0):=by simp[World.cell?,hb3]
    have u6:w3.cell? ⟨T,6,none⟩=some (.slice none 0 0):=by simp[World.cell?,hb3]
    have v0:w3.frozen? ⟨T,0,none⟩=false:=by simp[World.frozen?,hb3]
    have v1:w3.frozen? ⟨T,1,none⟩=false:=by simp[World.frozen?,hb3]
    have v2:w3.frozen? ⟨T,2,none⟩=false:=by simp[World.frozen?,hb3]
    have v3:w3.frozen? ⟨T,3,none⟩=false:=by simp[World.frozen?,hb3]
    have v4:w3.frozen? ⟨T,4,none⟩=false:=by simp[World.frozen?,hb3]
    have v5:w3.frozen? ⟨T,5,none⟩=false:=by simp[World.frozen?,hb3]
    have v6:w3.frozen? ⟨T,6,none⟩=false:=by simp[World.frozen?,hb3]
    have HTW:Hid (w0.heap.size≤T):=hide (by have:=uq HT;have:=(uq K2).size;omega);have hTT:(Value.slice wa WL.length wc9).ownBlock≠some T:=by intro hT;have:=((uq HOW).lt _ hT).1;have:=uq HT;have:=uq HZS;omega
    have K7:Hid (Keep w0 (((((((w3.setCell ⟨T,0,none⟩ (.string (sv nm))).setCell ⟨T,1,none⟩ (.int .i64 0)).setCell ⟨T,2,none⟩ (.int .i64 0)).setCell ⟨T,3,none⟩ (.int .i64 0)).setCell ⟨T,4,none⟩ (.int .i64 0)).setCell ⟨T,5,none⟩ (.int .i64 1)).setCell ⟨T,6,none⟩ (.slice wa WL.length wc9))):=hide (zax (zax (zax (zax (zax (zax (zax (uq K3) (uq HTW)) (uq HTW)) (uq HTW)) (uq HTW)) (uq HTW)) (uq HTW)) (uq HTW));have HTT:=hide hTT;clear hb3 hTT;refine zal 9 (fun K hK=>?_);go_simp;clear hHeld;refine hK.out _ _ ?_ (fun hHeld=>?_)
    ·exact(uq CKH) _ (uq K7)
    clear hK K;try simp only[Act.put,Ya,Yb,Yc]
    refine wpAnyH_done (by kernel_rfl) ?_ _;clear hHeld;go_wp2_with fail
    go_meet;exact⟨T,wa,wc9,rfl,uq HTW,NB.made (uq HB3) nm wa WL.length wc9,uq K7,zae (zae (zae (zae (zae (zae (zae (W.own_mono (uq HOW) (Below.size (uq KZ))) (uq HTT)) (uq HTT)) (uq HTT)) (uq HTT)) (uq HTT)) (uq HTT)) (uq HTT),uq HTT⟩
  ·skip
   go_simp;clear hHeld;refine hK.out _ _ ?_ (fun hHeld=>?_)
   ·exact(uq CKH) _ (((Keep.refl w0).alloc _).drew)
   clear hK K;try simp only[Act.put,Ya,Yb,Yc]
   have HB1:=hide (heap_alloc_new w0 (.cells #[.string ⟨#[]⟩,.int .i64 0,.int .i64 0,.int .i64 0,.int .i64 0,.int .i64 0,.slice none 0 0] 80));have KZ:=hide ((Keep.refl w0).alloc (.cells #[.string ⟨#[]⟩,.int .i64 0,.int .i64 0,.int .i64 0,.int .i64 0,.int .i64 0,.slice none 0 0] 80));have HZS:Hid ((w0.alloc (.cells #[.string ⟨#[]⟩,.int .i64 0,.int .i64 0,.int .i64 0,.int .i64 0,.int .i64 0,.slice none 0 0] 80)).heap.size=w0.heap.size+1):=hide (by simp);obtain⟨T,HT⟩:∃ T,Hid (T=w0.heap.size):=⟨_,hide rfl⟩;generalize w0.alloc (.cells #[.string ⟨#[]⟩,.int .i64 0,.int .i64 0,.int .i64 0,.int .i64 0,.int .i64 0,.slice none 0 0] 80)=wz at HB1 KZ HZS hHeld ⊢;have HB2:Hid (wz.heap[T]? =some (.cells #[.string ⟨#[]⟩,.int .i64 0,.int .i64 0,.int .i64 0,.int .i64 0,.int .i64 0,.slice none 0 0] 80 (0,0))):=hide (by rw[uq HT];exact uq HB1);rw[← uq HT];clear HB1;refine zal 2 (fun K hK=>?_);go_simp;clear hHeld;(refine((uq TM) _ _ _).mono ?_;rintro e w2 ⟨rfl,hk2⟩;have K2:=hide (((uq KZ).drew).trans hk2);have L2:=hide hk2;clear hk2);try go_wp2_with fail
   refine hK.out _ _ ?_ (fun hHeld=>?_)
   ·exact(uq CKH) _ (uq K2)
   clear hK K;try simp only[Act.put,Ya,Yb,Yc]
   refine zal 6 (fun K hK=>?_);go_simp;clear hHeld;(refine((uq TW) _ ((uq K0).trans (uq K2))).mono ?_;rintro e w3 ⟨v3,rfl,hk3,how3⟩;obtain⟨wa,wc9,rfl,hwc⟩:=zcg how3;have K3:=hide ((uq K2).trans hk3);have L3:=hide hk3;have HOW:=hide how3;clear hk3 how3);try go_wp2_with fail
   refine hK.out _ _ ?_ (fun hHeld=>?_)
   ·exact(uq CKH) _ (uq K3)
   clear hK K;try simp only[Act.put,Ya,Yb,Yc]
   refine tkk 7 25 hHeld ?_;try simp only[Act.put,Ya,Yb,Yc]
   have hb3:w3.heap[T]? =some (.cells #[.string ⟨#[]⟩,.int .i64 0,.int .i64 0,.int .i64 0,.int .i64 0,.int .i64 0,.slice none 0 0] 80 (0,0)):=((((Keep.refl wz).drew.trans (uq L2)).trans (uq L3)).block T (by have:=uq HZS;have:=uq HT;omega)).trans (uq HB2);have HB3:=hide hb3;have u0:w3.cell? ⟨T,0,none⟩=some (.string ⟨#[]⟩):=by simp[World.cell?,hb3]
   have u1:w3.cell? ⟨T,1,none⟩=some (.int .i64 0):=by simp[World.cell?,hb3]
   have u2:w3.cell? ⟨T,2,none⟩=some (.int .i64 0):=by simp[World.cell?,hb3]
   have u3:w3.cell? ⟨T,3,none⟩=some (.int .i64 0):=by simp[World.cell?,hb3]
   have u4:w3.cell? ⟨T,4,none⟩=some (.int .i64 0):=by simp[World.cell?,hb3]
   have u5:w3.cell? ⟨T,5,none⟩=some (.int .i64 0):=by simp[World.cell?,hb3]
   have u6:w3.cell? ⟨T,6,none⟩=some (.slice none 0 0):=by simp[World.cell?,hb3]
   have v0:w3.frozen? ⟨T,0,none⟩=false:=by simp[World.frozen?,hb3]
   have v1:w3.frozen? ⟨T,1,none⟩=false:=by simp[World.frozen?,hb3]
   have v2:w3.frozen? ⟨T,2,none⟩=false:=by simp[World.frozen?,hb3]
   have v3:w3.frozen? ⟨T,3,none⟩=false:=by simp[World.frozen?,hb3]
   have v4:w3.frozen? ⟨T,4,none⟩=false:=by simp[World.frozen?,hb3]
   have v5:w3.frozen? ⟨T,5,none⟩=false:=by simp[World.frozen?,hb3]
   have v6:w3.frozen? ⟨T,6,none⟩=false:=by simp[World.frozen?,hb3]
   have HTW:Hid (w0.heap.size≤T):=hide (by have:=uq HT;omega);have hTT:(Value.slice wa WL.length wc9).ownBlock≠some T:=by intro hT;have:=((uq HOW).lt _ hT).1;have:=uq HT;have:=uq HZS;have:=(uq L2).size;have:wz.drew.heap.size=wz.heap.size:=rfl;omega
   have K7:Hid (Keep w0 (((((((w3.setCell ⟨T,0,none⟩ (.string (sv nm))).setCell ⟨T,1,none⟩ (.int .i64 0)).setCell ⟨T,2,none⟩ (.int .i64 0)).setCell ⟨T,3,none⟩ (.int .i64 0)).setCell ⟨T,4,none⟩ (.int .i64 0)).setCell ⟨T,5,none⟩ (.int .i64 1)).setCell ⟨T,6,none⟩ (.slice wa WL.length wc9))):=hide (zax (zax (zax (zax (zax (zax (zax (uq K3) (uq HTW)) (uq HTW)) (uq HTW)) (uq HTW)) (uq HTW)) (uq HTW)) (uq HTW));have HTT:=hide hTT;clear hb3 hTT;refine zal 9 (fun K hK=>?_);go_simp;clear hHeld;refine hK.out _ _ ?_ (fun hHeld=>?_)
   ·exact(uq CKH) _ (uq K7)
   clear hK K;try simp only[Act.put,Ya,Yb,Yc]
   refine wpAnyH_done (by kernel_rfl) ?_ _;clear hHeld;go_wp2_with fail
   go_meet;exact⟨T,wa,wc9,rfl,uq HTW,NB.made (uq HB3) nm wa WL.length wc9,uq K7,zae (zae (zae (zae (zae (zae (zae (W.own_mono (uq HOW) (Below.size (uq K2))) (uq HTT)) (uq HTT)) (uq HTT)) (uq HTT)) (uq HTT)) (uq HTT)) (uq HTT),uq HTT⟩
 case rest=>
  obtain⟨T,wa,wc9,hs7,hT,hnb,hkc,how,hTT⟩:=hcut;subst hs7;have HT:=hide hT;have HNB:=hide hnb;have HKC:=hide hkc;have HOW:=hide how;have HTT:=hide hTT;clear hT hnb hkc how hTT;obtain⟨⟨z0,z1,z2,z3,z4,z5,z6⟩,⟨p0,p1,p2⟩,_⟩:=((uq HX0) wc (uq HKC)).1;go_wp2_with fail
  clear p0 p1 p2 z0 z1 z2 z3 z4 z5 z6
  go_loopw [29] (fun vi wr=>∃ k:Nat,vi= .int .i64 (k:Int)∧k≤N∧Hid (NB wr T nm (fm (fun k=>V9 (J k)) 0 k) (fm (fun k=>Yw (J k)) 0 k) (fm (fun k=>Rw (J k)) 0 k) (fx (fun k=>X (J k)) (fun k=>Y (J k)) k).1 (fx (fun k=>X (J k)) (fun k=>Y (J k)) k).2 (.slice wa WL.length wc9))∧Hid (Keep w0 wr)∧Hid (wr.ownsRow w0.heap.size 137 3 (.slice wa WL.length wc9) WL.length (wcs WL))) (fun vi _=>N - (intOf vi).toNat)
  case atStart=>exact⟨0,rfl,Nat.zero_le _,HNB,HKC,HOW⟩
  case round=>
   obtain⟨k,rfl,hk,NBK,KW,OWK⟩:=hrel;by_cases hlt:k<N
   ·have li:(k:Int)<(N:Int):=by omega
    obtain⟨bd,rfl,hbb,ec⟩:=(uq HD) k hlt;have xc:=V.far_cell ((uq K0).trans (uq KW)) (by rw[V.add_block9];exact hbb) ec;clear ec hbb;have hjn:=(uq HJ) k hlt;have TK:=hide ((uq TH) k hlt wr ((uq K0).trans (uq KW)));have HE:Hid ((if fm (fun k=>V9 (J k)) 0 k<V9 (J k)then V9 (J k)else fm (fun k=>V9 (J k)) 0 k)=fm (fun k=>V9 (J k)) 0 (k+1)∧(if fm (fun k=>Yw (J k)) 0 k<Yw (J k)then Yw (J k)else fm (fun k=>Yw (J k)) 0 k)=fm (fun k=>Yw (J k)) 0 (k+1)∧(if fm (fun k=>Rw (J k)) 0 k<Rw (J k)then Rw (J k)else fm (fun k=>Rw (J k)) 0 k)=fm (fun k=>Rw (J k)) 0 (k+1)∧AX.mx2 (fx (fun k=>X (J k)) (fun k=>Y (J k)) k) (X (J k),Y (J k))=fx (fun k=>X (J k)) (fun k=>Y (J k)) (k+1)):=hide ⟨rfl,rfl,rfl,rfl⟩;have HFI:Hid (In (fx (fun k=>X (J k)) (fun k=>Y (J k)) k).1∧In (fx (fun k=>X (J k)) (fun k=>Y (J k)) k).2):=hide (znm k (fun m hm=>by obtain⟨_,_,_,_,_,h1,h2⟩:=(uq HRT) (J m) ((uq HJ) m (by omega));exact⟨h1,h2⟩));obtain⟨g,hg⟩:∃ g,fm (fun k=>V9 (J k)) 0 k=g:=⟨_,rfl⟩;obtain⟨y,hy⟩:∃ g,fm (fun k=>Yw (J k)) 0 k=g:=⟨_,rfl⟩;obtain⟨r,hr⟩:∃ g,fm (fun k=>Rw (J k)) 0 k=g:=⟨_,rfl⟩;obtain⟨⟨fx1,fx2⟩,hx⟩:∃ g,fx (fun k=>X (J k)) (fun k=>Y (J k)) k=g:=⟨_,rfl⟩;rw[hg]at NBK HE;rw[hy]at NBK HE;rw[hr]at NBK HE;rw[hx]at NBK HE HFI;clear hg hy hr hx;have HJk:Hid (J k=J k):=hide rfl;obtain⟨j,hjj⟩:∃ j,J k=j:=⟨_,rfl⟩;rw[hjj]at hjn TK HE;clear hjj HJk;obtain⟨⟨z0,z1,z2,z3,z4,z5,z6⟩,_⟩:=((uq HX0) wr (uq KW)).1;have TYj:=hide ((uq TY) j hjn);have TRj:=hide ((uq TR) j hjn);go_wp2_with fail
    (refine(uq TK).mono ?_;rintro e w2 ⟨rfl,hk9⟩;have K2:=hide hk9;clear hk9);clear xc z0 z1 z2 z3 z4 z5 z6;have KW2:=hide ((uq KW).trans (uq K2));obtain⟨⟨z0,z1,z2,z3,z4,z5,z6⟩,_⟩:=((uq HX0) w2 (uq KW2)).1;obtain⟨ad,rfl,hb,e0,e1,e2,e3,e4,e5,e6,e7,e8,e9,e10⟩:=(uq HC) j hjn;have y0:=V.far_cell ((uq K0).trans (uq KW2)) (by rw[V.add_block9];exact hb) e0;have y1:=V.far_cell ((uq K0).trans (uq KW2)) (by show(ad.add (j * 11)).block<_;rw[V.add_block9];exact hb) e1;have y2:=V.far_cell ((uq K0).trans (uq KW2)) (by show(ad.add (j * 11)).block<_;rw[V.add_block9];exact hb) e2;have y3:=V.far_cell ((uq K0).trans (uq KW2)) (by show(ad.add (j * 11)).block<_;rw[V.add_block9];exact hb) e3;have y4:=V.far_cell ((uq K0).trans (uq KW2)) (by show(ad.add (j * 11)).block<_;rw[V.add_block9];exact hb) e4;have y5:=V.far_cell ((uq K0).trans (uq KW2)) (by show(ad.add (j * 11)).block<_;rw[V.add_block9];exact hb) e5;have y6:=V.far_cell ((uq K0).trans (uq KW2)) (by show(ad.add (j * 11)).block<_;rw[V.add_block9];exact hb) e6;have y7:=V.far_cell ((uq K0).trans (uq KW2)) (by show(ad.add (j * 11)).block<_;rw[V.add_block9];exact hb) e7;have y8:=V.far_cell ((uq K0).trans (uq KW2)) (by show(ad.add (j * 11)).block<_;rw[V.add_block9];exact hb) e8;have y9:=V.far_cell ((uq K0).trans (uq KW2)) (by show(ad.add (j * 11)).block<_;rw[V.add_block9];exact hb) e9;have y10:=V.far_cell ((uq K0).trans (uq KW2)) (by show(ad.add (j * 11)).block<_;rw[V.add_block9];exact hb) e10;clear e0 e1 e2 e3 e4 e5 e6 e7 e8 e9 e10;have hbx:=heap_alloc_new w2 (.cells #[.string (HN j),.int .i64 (V1 j),.int .i64 (V2 j),.int .i64 (V3 j),.int .i64 (V4 j),.int .i64 (V5 j),.int .i64 (V6 j),.int .i64 (V7 j),.int .i64 (V8 j),.int .i64 (V9 j),.int .i64 (V10 j)] 84);have KB:=hide ((Keep.refl w2).alloc (.cells #[.string (HN j),.int .i64 (V1 j),.int .i64 (V2 j),.int .i64 (V3 j),.int .i64 (V4 j),.int .i64 (V5 j),.int .i64 (V6 j),.int .i64 (V7 j),.int .i64 (V8 j),.int .i64 (V9 j),.int .i64 (V10 j)] 84))
    go_upto_region 7 with fail
    generalize w2.alloc (.cells #[.string (HN j),.int .i64 (V1 j),.int .i64 (V2 j),.int .i64 (V3 j),.int .i64 (V4 j),.int .i64 (V5 j),.int .i64 (V6 j),.int .i64 (V7 j),.int .i64 (V8 j),.int .i64 (V9 j),.int .i64 (V10 j)] 84)=wh at hbx KB ⊢;obtain⟨q,HQ⟩:∃ q,Hid (w2.heap.size=q):=⟨_,hide rfl⟩;rw[uq HQ]at hbx ⊢;have HXq:Hid (∀ w':World,Keep wh w'→w'.cell? ⟨q,0,none⟩=some (.string (HN j))∧w'.cell? ⟨q,1,none⟩=some (.int .i64 (V1 j))∧w'.cell? ⟨q,2,none⟩=some (.int .i64 (V2 j))∧w'.cell? ⟨q,3,none⟩=some (.int .i64 (V3 j))∧w'.cell? ⟨q,4,none⟩=some (.int .i64 (V4 j))∧w'.cell? ⟨q,5,none⟩=some (.int .i64 (V5 j))∧w'.cell? ⟨q,6,none⟩=some (.int .i64 (V6 j))∧w'.cell? ⟨q,7,none⟩=some (.int .i64 (V7 j))∧w'.cell? ⟨q,8,none⟩=some (.int .i64 (V8 j))∧w'.cell? ⟨q,9,none⟩=some (.int .i64 (V9 j))∧w'.cell? ⟨q,10,none⟩=some (.int .i64 (V10 j))):=hide (fun w' k9=>by
     have h1:=k9.block q (Array.getElem?_eq_some_iff.1 hbx).1;rw[hbx]at h1;refine⟨?_,?_,?_,?_,?_,?_,?_,?_,?_,?_,?_⟩<;>simp[World.cell?,h1])
    clear hbx y0 y1 y2 y3 y4 y5 y6 y7 y8 y9 y10 z0 z1 z2 z3 z4 z5 z6;obtain⟨f0,f1,f2,f3,f4,f5,f6,f7,f8,f9,f10⟩:=(uq HXq) wh (Keep.refl wh);go_wp2_with fail
    (refine((uq TYj) _).mono ?_;rintro e w3 ⟨rfl,hk9⟩;have K3:=hide hk9;clear hk9);clear f0 f1 f2 f3 f4 f5 f6 f7 f8 f9 f10;obtain⟨f0,f1,f2,f3,f4,f5,f6,f7,f8,f9,f10⟩:=(uq HXq) w3 (uq K3);go_wp2_with fail
    (refine((uq TRj) _).mono ?_;rintro e w4 ⟨rfl,hk9⟩;have K4:=hide ((uq K3).trans hk9);clear hk9);clear f0 f1 f2 f3 f4 f5 f6 f7 f8 f9 f10;obtain⟨f0,f1,f2,f3,f4,f5,f6,f7,f8,f9,f10⟩:=(uq HXq) w4 (uq K4);have KR4:=hide (((uq K2).trans (uq KB)).trans (uq K4));have NB4:=hide ((uq NBK).keep (uq KR4));have OW4:=hide (W.own_k (uq OWK) (uq KR4));have KW4:=hide ((uq KW).trans (uq KR4));obtain⟨_,c1,c2,c3,_,_,_,d1,d2,d3,_,_⟩:=uq NB4;obtain⟨h1,h2,h3,h4⟩:=uq HE;obtain⟨G2,hG2⟩:∃ x,fm (fun k=>V9 (J k)) 0 (k+1)=x:=⟨_,rfl⟩;obtain⟨Y2,hY2⟩:∃ x,fm (fun k=>Yw (J k)) 0 (k+1)=x:=⟨_,rfl⟩;obtain⟨R2,hR2⟩:∃ x,fm (fun k=>Rw (J k)) 0 (k+1)=x:=⟨_,rfl⟩;obtain⟨⟨x2,z2⟩,hF2⟩:∃ x,fx (fun k=>X (J k)) (fun k=>Y (J k)) (k+1)=x:=⟨_,rfl⟩;rw[hG2]at h1;rw[hY2]at h2;rw[hR2]at h3;rw[hF2]at h4;have HG2:=hide hG2;have HY2:=hide hY2;have HR2:=hide hR2;have HF2:=hide hF2;have H4:=hide h4;clear hG2 hY2 hR2 hF2 h4 HE
    go_upto_region 12 with fail
    have NB5:=hide ((uq NB4).set3 G2 Y2 R2);have OW5:=hide (zae (i:=3) (u:= .int .i64 R2) (zae (i:=2) (u:= .int .i64 Y2) (zae (i:=1) (u:= .int .i64 G2) (uq OW4) (uq HTT)) (uq HTT)) (uq HTT));have K5:=hide (zax (i:=3) (u:= .int .i64 R2) (zax (i:=2) (u:= .int .i64 Y2) (zax (i:=1) (u:= .int .i64 G2) (uq KW4) (uq HT)) (uq HT)) (uq HT));generalize ((w4.setCell ⟨T,1,none⟩ (.int .i64 G2)).setCell ⟨T,2,none⟩ (.int .i64 Y2)).setCell ⟨T,3,none⟩ (.int .i64 R2)=w5 at NB5 OW5 K5 ⊢;clear c1 c2 c3 d1 d2 d3 h1 h2 h3 f0 f1 f2 f3 f4 f5 f6 f7 f8 f9 f10;obtain⟨rd,rfl,hrb,er0,er1,ix1,ix2⟩:=(uq HRT) j hjn;have HR9:Hid (∀ w',Keep w0 w'→w'.cell? (rd.add (j * 2))=some (.int .i64 (X j))∧w'.cell? ⟨(rd.add (j * 2)).block,(rd.add (j * 2)).off+1,none⟩=some (.int .i64 (Y j))):=hide (fun w' k9=>⟨V.far_cell ((uq K0).trans k9) (by rw[V.add_block9];exact hrb) er0,V.far_cell ((uq K0).trans k9) (by show(rd.add (j * 2)).block<_;rw[V.add_block9];exact hrb) er1⟩);have HI1:=hide (And.intro ix1 ix2);clear er0 er1 hrb ix1 ix2;obtain⟨_,_,_,_,c4,c5,_,_,_,_,d4,d5⟩:=uq NB5;refine wp_region_held_drew (S:=(fun w'=>w'.cell? (rd.add (j * 2))=some (.int .i64 (X j))∧w'.cell? ⟨(rd.add (j * 2)).block,(rd.add (j * 2)).off+1,none⟩=some (.int .i64 (Y j)))) (by kernel_rfl) (by exact(uq HR9) _ (uq K5).drew) (fun hHeld=>?_);refine tkk 0 75 hHeld ?_;try simp only[Act.put,Ya,Yb,Yc]
    refine tkk 2 77 hHeld ?_;try simp only[Act.put,Ya,Yb,Yc]
    refine tkk 3 78 hHeld ?_;try simp only[Act.put,Ya,Yb,Yc]
    refine tkk 4 79 hHeld ?_;try simp only[Act.put,Ya,Yb,Yc]
    refine tkk 5 80 hHeld ?_;try simp only[Act.put,Ya,Yb,Yc]
    refine zal 1 (fun K hK=>?_);go_simp;clear hHeld;refine hK.out _ _ ?_ (fun hHeld=>?_)
    ·exact(uq HR9) _ (uq K5).drew
    clear hK K;try simp only[Act.put,Ya,Yb,Yc]
    refine zal 6 (fun K hK=>?_);go_simp;clear hHeld;refine hK.out _ _ ?_ (fun hHeld=>?_)
    ·exact(uq HR9) _ ((uq K5).alloc _).drew
    clear hK K;try simp only[Act.put,Ya,Yb,Yc]
    have hb4:=heap_alloc_new w5 (.cells #[.int .i64 fx1,.int .i64 fx2,.int .i64 (X j),.int .i64 (Y j)] 23);have L5:=hide ((Keep.refl w5).alloc (.cells #[.int .i64 fx1,.int .i64 fx2,.int .i64 (X j),.int .i64 (Y j)] 23));generalize w5.alloc (.cells #[.int .i64 fx1,.int .i64 fx2,.int .i64 (X j),.int .i64 (Y j)] 23)=w6 at hb4 L5 hHeld ⊢;clear c4 c5 d4 d5;have TMx:=hide ((uq TM2) w6.drew w5.heap.size fx1 fx2 (X j) (Y j) (Array.getElem?_eq_some_iff.1 hb4).1 (by have h9:=hb4;show w6.cell? _=_;simp[World.cell?,h9]) (by have h9:=hb4;show w6.cell? _=_;simp[World.cell?,h9]) (by have h9:=hb4;show w6.cell? _=_;simp[World.cell?,h9]) (by have h9:=hb4;show w6.cell? _=_;simp[World.cell?,h9]) (uq HFI).1 (uq HFI).2 (uq HI1).1 (uq HI1).2);rw[uq H4]at TMx;clear hb4;refine zal 7 (fun K hK=>?_);go_simp;clear hHeld;(refine(uq TMx).mono ?_;rintro e w7 ⟨rfl,hk9⟩;have L7:=hide ((uq L5).drew.trans hk9);clear hk9;obtain⟨_,_,_,_,c4,c5,_,_,_,_,d4,d5⟩:=(uq NB5).keep (uq L7));try go_wp2_with fail
    refine hK.out _ _ ?_ (fun hHeld=>?_)
    ·exact(uq HR9) _ ((uq K5).trans (uq L7))
    clear hK K;try simp only[Act.put,Ya,Yb,Yc]
    refine tkk 8 83 hHeld ?_;try simp only[Act.put,Ya,Yb,Yc]
    refine zal 9 (fun K hK=>?_);go_simp;clear hHeld;refine hK.out _ _ ?_ (fun hHeld=>?_)
    ·exact(uq HR9) _ (zax (zax ((uq K5).trans (uq L7)) (uq HT)) (uq HT))
    clear hK K;try simp only[Act.put,Ya,Yb,Yc]
    refine wpAnyH_done (by kernel_rfl) ?_ _;clear hHeld;go_wp2_with fail
    go_roundw
    case rel=>exact⟨k+1,by go_num,by omega,hide (by rw[uq HG2,uq HY2,uq HR2,uq HF2];exact((uq NB5).keep (uq L7)).set2 x2 z2),hide (zax (zax ((uq K5).trans (uq L7)) (uq HT)) (uq HT)),hide (zae (zae (W.own_k (uq OW5) (uq L7)) (uq HTT)) (uq HTT))⟩
    case measure=>simp[intOf];omega
   ·have li:¬(k:Int)<(N:Int):=by omega
    obtain rfl:k=N:=by omega
    obtain⟨h1,h2,h3,h4,h5⟩:=uq HG;rw[h1,h2,h3,h4]at NBK;have HG5:=hide h5;have HWL:=hide (show WL.length≤1000 from hWL);clear h1 h2 h3 h4 h5;obtain⟨_,_,_,_,_,_,c6,_,_,_,_,_⟩:=uq NBK;go_wp2_with fail
    clear c6
    go_loopw [88] (fun vi wr=>∃ m:Nat,vi= .int .i64 (m:Int)∧m≤WL.length∧Hid (NB wr T nm (fm WS g1 m) y1 r1 xz.1 xz.2 (.slice wa WL.length wc9))∧Hid (Keep w0 wr)∧Hid (wr.ownsRow w0.heap.size 137 3 (.slice wa WL.length wc9) WL.length (wcs WL))) (fun vi _=>WL.length - (intOf vi).toNat)
    case atStart=>exact⟨0,rfl,Nat.zero_le _,NBK,KW,OWK⟩
    case round=>
     obtain⟨m,rfl,hm,NBM,KM,OWM⟩:=hrel;by_cases hmt:m<WL.length
     ·have lm:(m:Int)<(WL.length:Int):=by omega
      obtain⟨ad,e9,hb,e0,e1,e2⟩:=zlx (uq OWM) m hmt;have hws:=(uq HWS) m hmt;have HE:Hid ((if fm WS g1 m<WS m then WS m else fm WS g1 m)=fm WS g1 (m+1)):=hide rfl;have HTT2:=HTT;have HOW2:=OWM;subst e9;obtain⟨v1,hv1⟩:∃ v,(WL.getD m ([],0,0)).2.1=v:=⟨_,rfl⟩;obtain⟨v2,hv2⟩:∃ v,(WL.getD m ([],0,0)).2.2=v:=⟨_,rfl⟩;obtain⟨v0,hv0⟩:∃ v,(WL.getD m ([],0,0)).1=v:=⟨_,rfl⟩;rw[hv1]at e1 hws;rw[hv2]at e2 hws;rw[hv0]at e0;clear hv0 hv1 hv2;obtain⟨sm,hsm⟩:∃ s,WS m=s:=⟨_,rfl⟩;rw[hsm]at hws HE;clear hsm;obtain⟨g,hg⟩:∃ s,fm WS g1 m=s:=⟨_,rfl⟩;rw[hg]at HE NBM;clear hg;obtain⟨G2,hG2⟩:∃ s,fm WS g1 (m+1)=s:=⟨_,rfl⟩;have h1:=uq HE;rw[hG2]at h1;have HG2:=hide hG2;clear hG2 HE;have hbx:=heap_alloc_new wr (.cells #[.string (sv v0),.int .i64 v1,.int .i64 v2] 137);have KB:=hide ((Keep.refl wr).alloc (.cells #[.string (sv v0),.int .i64 v1,.int .i64 v2] 137))
      go_upto_region 17 with fail
      generalize wr.alloc (.cells #[.string (sv v0),.int .i64 v1,.int .i64 v2] 137)=wh at hbx KB ⊢;obtain⟨q,HQ⟩:∃ q,Hid (wr.heap.size=q):=⟨_,hide rfl⟩;rw[uq HQ]at hbx ⊢;have f1:wh.cell? ⟨q,1,none⟩=some (.int .i64 v1):=by simp[World.cell?,hbx]
      have f2:wh.cell? ⟨q,2,none⟩=some (.int .i64 v2):=by simp[World.cell?,hbx]
      clear hbx e0 e1 e2;have NB4:=hide ((uq NBM).keep (uq KB));obtain⟨_,c1,_,_,_,_,_,d1,_,_,_,_⟩:=uq NB4;go_wp2_with fail
      go_roundw
      case rel=>exact⟨m+1,by go_num,by omega,hide (by rw[uq HG2];exact(uq NB4).set1 G2),hide (zax ((uq KM).trans (uq KB)) (uq HT)),hide (zae (W.own_k (uq OWM) (uq KB)) (uq HTT))⟩
      case measure=>simp[intOf];omega
     ·have lm:¬(m:Int)<(WL.length:Int):=by omega
      obtain rfl:m=WL.length:=by omega
      rw[uq HG5]at NBM;obtain⟨c0,c1,c2,c3,c4,c5,c6,_,_,_,_,_⟩:=uq NBM;obtain⟨⟨_,_,⟨t0,s1,s2,s3,s4,s5,s6⟩⟩,b0,b1,b2,b3,b4,b5,b6⟩:=(uq HX0) wr (uq KM);have hq2:(Value.slice wa WL.length wc9).ownBlock≠some (q0+2):=fun h=>by have:=((uq OWM).lt _ h).1;have:=uq HSZ;omega
      have HQ2:=hide hq2;have HW0:Hid (w.heap.size≤q0+2):=hide (by have:=uq HQ0;omega);clear hq2;go_wp2_with fail
      refine bodyPost_ret (v:= .agg #[.string (sv nm),.int .i64 g2,.int .i64 y1,.int .i64 r1,.int .i64 xz.1,.int .i64 xz.2,.slice wa WL.length wc9]) (by simp[results,Tryz.results39,go_sem,t0,s1,s2,s3,s4,s5,s6]) rfl ⟨wa,wc9,rfl,?_,?_⟩
      ·exact(zax (zax (zax (zax (zax (zax (zax ((uq K0).trans (uq KM)) (uq HW0)) (uq HW0)) (uq HW0)) (uq HW0)) (uq HW0)) (uq HW0)) (uq HW0))
      ·exact W.own_mono (zae (zae (zae (zae (zae (zae (zae (uq OWM) (uq HQ2)) (uq HQ2)) (uq HQ2)) (uq HQ2)) (uq HQ2)) (uq HQ2)) (uq HQ2)) (by have:=Below.size (uq K0);omega)
end Nd
end Go.Proofs.YtpmaonkelkmhbaaGreat
