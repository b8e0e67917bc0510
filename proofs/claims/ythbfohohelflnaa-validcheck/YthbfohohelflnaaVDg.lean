/- The document's answer for layer 7: rings. -/
import Derived.Test.YthbfohohelflnaaVDh
import Derived.Test.YthbfohohelflnaaLMath
import Derived.Test.YthbfohohelflnaaVOn
import Derived.Laws.AppendOwn
import Derived.Laws.OwnMore
import Derived.OwnWalk
import Derived.Deep.DrawnRows
import Derived.Deep.RegionHeld3
namespace Go.Proofs.Ythbfohohelflnaa
open Go.RowKit
attribute [local go_sem ↓] Go.wp_at_zero Go.wp_at_succ
set_option linter.unusedVariables false
set_option linter.unusedSimpArgs false
set_option maxRecDepth 10000
namespace V
theorem zke:(Try.prog.info? 9).map (fun i=>(i.zero,i.size,i.bytes))=some (some (.string ⟨#[]⟩),1,16):=by kernel_rfl
theorem zkf {t:TypeId} {z:Value} {a b:Nat} (h:(Try.prog.info? t).map (fun i=>(i.zero,i.size,i.bytes))=some (some z,a,b)):∃ i,Try.prog.info? t=some i∧i.zero=some z∧i.size=a∧i.bytes=b:=by
 cases hi:Try.prog.info? t with
 |none=>rw[hi]at h;cases h
 |some i=>rw[hi]at h;simp at h;exact⟨i,rfl,h.1,h.2.1,h.2.2⟩
def sS (M:List (List UInt8×Int)):List Value:=M.map (fun p=> .string (sv p.1))
def Os (B:Nat) (w:World) (v:Value) (M:List (List UInt8×Int)):Prop:=w.ownsRow B 9 1 v M.length (sS M)
theorem zk0 (M:List (List UInt8×Int)) (nm:List UInt8):decide (0≤ix (fun k=>nm==(M.getD k ([],0)).1) 0 M.length)=hs M nm:=by
 cases hb:hs M nm with
 |true=>
  rw[decide_eq_true_eq,zaY];obtain⟨p,hp,he⟩:=List.any_eq_true.1 hb;obtain⟨k,hk,hkp⟩:=List.getElem_of_mem hp;refine⟨k,Nat.zero_le _,by omega,?_⟩;rw[List.getD_eq_getElem?_getD,List.getElem?_eq_getElem hk,hkp];have:p.1=nm:=by simpa using he
  simp[this]
 |false=>
  rw[decide_eq_false_iff_not,zaY];rintro⟨k,h1,h2,h3⟩;have hk:k<M.length:=by omega
  rw[List.getD_eq_getElem?_getD,List.getElem?_eq_getElem hk]at h3;have h9:nm=(M[k]).1:=by simpa using h3
  have:hs M nm=true:=List.any_eq_true.2 ⟨M[k],List.getElem_mem hk,by simp[← h9]⟩;rw[this]at hb;cases hb
theorem zgj {B:Nat} {w:World} {v:Value} {M:List (List UInt8×Int)} (nm:List UInt8) (h:Os B w v M) (hl:M.length≤9223372036854775807):
  Calls Try.prog 48 #[.string (sv nm),v] w fun e w'=>e= .returned (.bool (hs M nm))∧w'=w:=by
 rw[← zk0];rcases h.2 with ⟨rfl,h0⟩|⟨g,cap,cur,rfl,hb,hg,hc,hm,hs,ht⟩
 ·have e:M= []:=List.eq_nil_of_length_eq_zero h0;subst e;exact zcb none 0 0 _ nm w (by omega) (hide fun k hk=>absurd hk (Nat.not_lt_zero _))
 ·refine zcb _ M.length cap _ nm w hl (hide fun k hk=>⟨_,rfl,?_⟩);have hu:(sS M)[k]? =some (.string (sv (M.getD k ([],0)).1)):=by
   rw[sS,List.getElem?_map,List.getD_eq_getElem?_getD,List.getElem?_eq_getElem hk];rfl
  rw[← ht,List.getElem?_take]at hu;rw[zaO];simp only[World.cell?,hg,Nat.zero_add];split at hu
  ·simpa using hu
  ·cases hu
theorem Os.nil (B:Nat) (w:World):Os B w (.slice none 0 0) []:=World.ownsRow_nil _ _ _ _
theorem zk1 (w:World) (a:Value) (t:TypeId):∀ j u,[a][j]? =some u→(w.alloc (.cells #[a] t)).cell? ((⟨w.heap.size,0,none⟩:Addr).add j)=some u:=by
 intro j u hj
 rw[zaO,Nat.zero_add]
 match j,hj with
 |0,hj=>simp at hj;subst hj;simp[go_sem]
 |j+1,hj=>simp at hj
theorem Os.keep {B:Nat} {w w':World} {v:Value} {M:List (List UInt8×Int)} (h:Os B w v M) (hk:Keep w w'):Os B w' v M:=
 World.ownsRow.kept (row:=none) h ⟨hk.os,hk.tape,hk.output,hk.size,fun i hi _=>hk.block i hi⟩ (by cases v.ownBlock<;>simp)
set_option maxHeartbeats 8000000 in
theorem zdw (s:ByteArray) (x1:Option Addr) (n1 c1:Nat) (x2:Option Addr) (n2 c2:Nat) (x3:Option Addr) (n3 c3:Nat) (x4:Option Addr) (n4 c4:Nat) (x5:Option Addr) (n5 c5:Nat) (p:Int) (RA:Nat→Option Addr) (NR RC:Nat→Nat) (F:Nat→Nat→Bool) (A:Nat→Nat→Option Addr) (N C:Nat→Nat→Nat) (H:Nat→Nat→Nat→List UInt8) (MP:List (List UInt8×Int)) (T3:Nat→List UInt8) (P3:Nat→Int) (pI:List UInt8→Int) (r r1:Eq2) (w:World) (hn:n4≤9223372036854775807) (hn3:n3≤9223372036854775807) (hMP:MP.length≤1000)
  (HB0:Hid (∀ i,i<n4→NR i≤9223372036854775807∧∀ j,j<NR i→N i j≤9223372036854775807))
  (HC:Hid (∀ i,i<n4→∃ ad,x4=some ad∧ad.block<w.heap.size∧w.cell? (ad.add i)=some (.slice (RA i) (NR i) (RC i))))
  (HCR:Hid (∀ i,i<n4→∀ j,j<NR i→∃ bd,RA i=some bd∧bd.block<w.heap.size∧w.cell? ⟨(bd.add (j * 2)).block,(bd.add (j * 2)).off+1,none⟩=some (.slice (A i j) (N i j) (C i j))))
  (HD:Hid (∀ i,i<n4→∀ j,j<NR i→∀ m,m<N i j→∃ cd,A i j=some cd∧cd.block<w.heap.size∧w.cell? (cd.add m)=some (.string (sv (H i j m)))))
  (HC3:Hid (∀ k,k<n3→∃ ad,x3=some ad∧ad.block<w.heap.size∧w.cell? (ad.add (k * 3))=some (.string (sv (T3 k)))∧w.cell? ⟨(ad.add (k * 3)).block,(ad.add (k * 3)).off+2,none⟩=some (.int .i64 (P3 k))))
  (TP:Hid (∀ nm w',Keep w w'→Calls Try.prog 46 #[.agg #[.string s,.slice x1 n1 c1,.slice x2 n2 c2,.slice x3 n3 c3,.slice x4 n4 c4,.slice x5 n5 c5,.int .i64 p],.string (sv nm)] w' fun e w''=>e= .returned (.int .i64 (pI nm))∧Keep w' w''))
  (HPI:Hid (∀ nm,pI nm<0↔hs MP nm=false))
  (HI:Hid (fE (grF NR N H MP p) 0 n4=r)) (HI1:Hid (fE (ltF (rgG NR N H n4) T3 74 P3) 0 n3=r1)):
  Calls Try.prog 31 #[.agg #[.string s,.slice x1 n1 c1,.slice x2 n2 c2,.slice x3 n3 c3,.slice x4 n4 c4,.slice x5 n5 c5,.int .i64 p]] w (Zq (ors [r,r1]) w):=by
 obtain⟨i0,hi0,hz0,hz1,hz2⟩:=zkf zke;have hnw:=heap_alloc_new w (.cells #[.string s,.slice x1 n1 c1,.slice x2 n2 c2,.slice x3 n3 c3,.slice x4 n4 c4,.slice x5 n5 c5,.int .i64 p] 40);have K0:=hide ((Keep.refl w).alloc (.cells #[.string s,.slice x1 n1 c1,.slice x2 n2 c2,.slice x3 n3 c3,.slice x4 n4 c4,.slice x5 n5 c5,.int .i64 p] 40));go_enter Try.func31,Try.ntmps31
 go_upto_region 1 with fail
 generalize w.alloc (.cells #[.string s,.slice x1 n1 c1,.slice x2 n2 c2,.slice x3 n3 c3,.slice x4 n4 c4,.slice x5 n5 c5,.int .i64 p] 40)=w0 at hnw K0 ⊢;obtain⟨q0,HQ0⟩:∃ q,Hid (w.heap.size=q):=⟨_,hide rfl⟩;rw[uq HQ0]at hnw ⊢;have HX0:Hid (∀ w':World,Keep w0 w'→w'.cell? ⟨q0,0,none⟩=some (.string s)∧w'.cell? ⟨q0,1,none⟩=some (.slice x1 n1 c1)∧w'.cell? ⟨q0,2,none⟩=some (.slice x2 n2 c2)∧w'.cell? ⟨q0,3,none⟩=some (.slice x3 n3 c3)∧w'.cell? ⟨q0,4,none⟩=some (.slice x4 n4 c4)∧w'.cell? ⟨q0,5,none⟩=some (.slice x5 n5 c5)∧w'.cell? ⟨q0,6,none⟩=some (.int .i64 p)):=hide (fun w' k9=>by
  have h1:=k9.block q0 (Array.getElem?_eq_some_iff.1 hnw).1;rw[hnw]at h1;refine⟨?_,?_,?_,?_,?_,?_,?_⟩<;>simp[World.cell?,h1])
 clear hnw;go_wp2_with fail
 go_loopw [4,5] (fun vs vi wr=>∃ i:Nat,vi= .int .i64 (i:Int)∧i≤n4∧Hid (Os w0.heap.size wr vs (rgG NR N H i))∧Hid (Gd MP (rgG NR N H i))∧Hid (Keep w0 wr)∧Hid (fE (grF NR N H MP p) i (n4 - i)=r)) (fun vs vi _=>n4 - (intOf vi).toNat)
 case atStart=>exact⟨0,rfl,by omega,hide (Os.nil _ _),hide (Gd.nil _),hide (Keep.refl _),HI⟩
 case round=>
  obtain⟨i,rfl,hi,OI,DI,KW,HF⟩:=hrel;obtain⟨z0,z1,z2,z3,z4,z5,z6⟩:=(uq HX0) wr (uq KW);by_cases hlt:i<n4
  ·have li:(i:Int)<(n4:Int):=by omega
   obtain⟨ad,rfl,hb,e0⟩:=(uq HC) i hlt;have y0:=zab ((uq K0).trans (uq KW)) (by rw[zaa];exact hb) e0;have HLT:=hide hlt;have HCRi:=hide ((uq HCR) i hlt);have HDi:=hide ((uq HD) i hlt);have HBi:=hide ((uq HB0) i hlt);have hNR:=((uq HB0) i hlt).1;clear e0;by_cases h1:(NR i:Int)<1
   ·have hr:=zac (uq HF) hlt (show grF NR N H MP p i=some (74,p) by unfold grF;rw[if_pos (.inl (by omega))]);subst hr;clear HF
    go_upto_region 7 with fail
    refine wp_region_held_drew (S:=(fun w'=>w'.cell? ⟨q0,6,none⟩=some (.int .i64 p))) (by kernel_rfl) (by(obtain⟨_,_,_,_,_,_,g9⟩:=(uq HX0) _ (uq KW).drew;exact g9)) (fun hHeld=>?_);refine tkk 0 32 hHeld ?_;try simp only[Act.put,Ya,Yb,Yc]
    refine tkk 1 33 hHeld ?_;try simp only[Act.put,Ya,Yb,Yc]
    refine tkk 2 2 hHeld ?_;try simp only[Act.put,Ya,Yb,Yc]
    refine tkk 3 3 hHeld ?_;try simp only[Act.put,Ya,Yb,Yc]
    refine wpAnyH_done (by kernel_rfl) ?_ _;clear hHeld;go_wp2_with fail
    go_ret2;exact⟨(uq K0).trans ((uq KW).drew),rfl⟩
   by_cases h2:2<(NR i:Int)
   ·have hr:=zac (uq HF) hlt (show grF NR N H MP p i=some (74,p) by unfold grF;rw[if_pos (.inr (by omega))]);subst hr;clear HF
    go_upto_region 7 with fail
    refine wp_region_held_drew (S:=(fun w'=>w'.cell? ⟨q0,6,none⟩=some (.int .i64 p))) (by kernel_rfl) (by(obtain⟨_,_,_,_,_,_,g9⟩:=(uq HX0) _ (uq KW).drew;exact g9)) (fun hHeld=>?_);refine tkk 0 32 hHeld ?_;try simp only[Act.put,Ya,Yb,Yc]
    refine tkk 1 33 hHeld ?_;try simp only[Act.put,Ya,Yb,Yc]
    refine tkk 2 2 hHeld ?_;try simp only[Act.put,Ya,Yb,Yc]
    refine tkk 3 3 hHeld ?_;try simp only[Act.put,Ya,Yb,Yc]
    refine wpAnyH_done (by kernel_rfl) ?_ _;clear hHeld;go_wp2_with fail
    go_ret2;exact⟨(uq K0).trans ((uq KW).drew),rfl⟩
   have HG:=hide (show grF NR N H MP p i=fE (grR NR N H MP p i) 0 (NR i) by unfold grF;rw[if_neg (by omega)]);obtain⟨r2,HR2⟩:∃ r2,Hid (fE (grR NR N H MP p i) 0 (NR i)=r2):=⟨_,hide rfl⟩;have HF1:Hid (fE (grR NR N H MP p i) 0 (NR i - 0)=r2):=HR2;have OI1:Hid (Os w0.heap.size wr u4 (rgG NR N H i++rgR N H i 0)):=hide (by rw[show rgR N H i 0= []from rfl,List.append_nil];exact uq OI);have DI1:Hid (Gd MP (rgG NR N H i++rgR N H i 0)):=hide (by rw[show rgR N H i 0= []from rfl,List.append_nil];exact uq DI);go_wp2_with fail
   clear y0 h1 h2 z0 z1 z2 z3 z4 z5 z6
   go_loopw [4,7] (fun vs vj wq=>∃ j:Nat,vj= .int .i64 (j:Int)∧j≤NR i∧Hid (Os w0.heap.size wq vs (rgG NR N H i++rgR N H i j))∧Hid (Gd MP (rgG NR N H i++rgR N H i j))∧Hid (Keep w0 wq)∧Hid (fE (grR NR N H MP p i) j (NR i - j)=r2)) (fun vs vj _=>NR i - (intOf vj).toNat)
   case atStart=>exact⟨0,rfl,Nat.zero_le _,OI1,DI1,KW,HF1⟩
   case round=>
    obtain⟨j,rfl,hj,OJ,DJ,KJ,HJ⟩:=hrel;obtain⟨z0,z1,z2,z3,z4,z5,z6⟩:=(uq HX0) wr (uq KJ);by_cases hjt:j<NR i
    ·have lj:(j:Int)<(NR i:Int):=by omega
     obtain⟨bd,hA,hbb,e1⟩:=(uq HCRi) j hjt;have HJT:=hide hjt;have HDj:=hide ((uq HDi) j hjt);have hNj:=(uq HBi).2 j hjt;have HY1:Hid (∀ w',Keep w0 w'→w'.cell? ⟨(bd.add (j * 2)).block,(bd.add (j * 2)).off+1,none⟩=some (.slice (A i j) (N i j) (C i j))):=hide (fun w' k9=>zab ((uq K0).trans k9) (by show(bd.add (j * 2)).block<_;rw[zaa];exact hbb) e1);have y1:=(uq HY1) wr (uq KJ);rw[hA]at *;clear e1 hbb hA;by_cases h1:(N i j:Int)<1
     ·have hr:=zac (uq HF) (uq HLT) ((uq HG).trans ((uq HR2).trans (zac (uq HJ) (uq HJT) (show grR NR N H MP p i j=some (74,p) by unfold grR;rw[if_pos (.inl (by omega))]))));subst hr;clear HF
      go_upto_region 12 with fail
      refine wp_region_held_drew (S:=(fun w'=>w'.cell? ⟨q0,6,none⟩=some (.int .i64 p))) (by kernel_rfl) (by(obtain⟨_,_,_,_,_,_,g9⟩:=(uq HX0) _ (uq KJ).drew;exact g9)) (fun hHeld=>?_);refine tkk 0 56 hHeld ?_;try simp only[Act.put,Ya,Yb,Yc]
      refine tkk 1 57 hHeld ?_;try simp only[Act.put,Ya,Yb,Yc]
      refine tkk 2 2 hHeld ?_;try simp only[Act.put,Ya,Yb,Yc]
      refine tkk 3 3 hHeld ?_;try simp only[Act.put,Ya,Yb,Yc]
      refine wpAnyH_done (by kernel_rfl) ?_ _;clear hHeld;go_wp2_with fail
      go_ret2;exact⟨(uq K0).trans ((uq KJ).drew),rfl⟩
     by_cases h2:4<(N i j:Int)
     ·have hr:=zac (uq HF) (uq HLT) ((uq HG).trans ((uq HR2).trans (zac (uq HJ) (uq HJT) (show grR NR N H MP p i j=some (74,p) by unfold grR;rw[if_pos (.inr (by omega))]))));subst hr;clear HF
      go_upto_region 12 with fail
      refine wp_region_held_drew (S:=(fun w'=>w'.cell? ⟨q0,6,none⟩=some (.int .i64 p))) (by kernel_rfl) (by(obtain⟨_,_,_,_,_,_,g9⟩:=(uq HX0) _ (uq KJ).drew;exact g9)) (fun hHeld=>?_);refine tkk 0 56 hHeld ?_;try simp only[Act.put,Ya,Yb,Yc]
      refine tkk 1 57 hHeld ?_;try simp only[Act.put,Ya,Yb,Yc]
      refine tkk 2 2 hHeld ?_;try simp only[Act.put,Ya,Yb,Yc]
      refine tkk 3 3 hHeld ?_;try simp only[Act.put,Ya,Yb,Yc]
      refine wpAnyH_done (by kernel_rfl) ?_ _;clear hHeld;go_wp2_with fail
      go_ret2;exact⟨(uq K0).trans ((uq KJ).drew),rfl⟩
     have HH:=hide (show grR NR N H MP p i j=fE (grM NR N H MP p i j) 0 (N i j) by unfold grR;rw[if_neg (by omega)]);obtain⟨r3,HR3⟩:∃ r3,Hid (fE (grM NR N H MP p i j) 0 (N i j)=r3):=⟨_,hide rfl⟩;have HF2:Hid (fE (grM NR N H MP p i j) 0 (N i j - 0)=r3):=HR3;have OJ1:Hid (Os w0.heap.size wr u4 (rgG NR N H i++rgR N H i j++zbJ H i j 0)):=hide (by rw[show zbJ H i j 0= []from rfl,List.append_nil];exact uq OJ);have DJ1:Hid (Gd MP (rgG NR N H i++rgR N H i j++zbJ H i j 0)):=hide (by rw[show zbJ H i j 0= []from rfl,List.append_nil];exact uq DJ);go_wp2_with fail
     clear y1 h1 h2 z0 z1 z2 z3 z4 z5 z6
     go_loopw [4,8] (fun vs vm wt=>∃ m:Nat,vm= .int .i64 (m:Int)∧m≤N i j∧Hid (Os w0.heap.size wt vs (rgG NR N H i++rgR N H i j++zbJ H i j m))∧Hid (Gd MP (rgG NR N H i++rgR N H i j++zbJ H i j m))∧Hid (Keep w0 wt)∧Hid (fE (grM NR N H MP p i j) m (N i j - m)=r3)) (fun vs vm _=>N i j - (intOf vm).toNat)
     case atStart=>exact⟨0,rfl,Nat.zero_le _,OJ1,DJ1,KJ,HF2⟩
     case round=>
      obtain⟨m,rfl,hm,OM,DM,KM,HM⟩:=hrel;obtain⟨z0,z1,z2,z3,z4,z5,z6⟩:=(uq HX0) wr (uq KM);have y1:=(uq HY1) wr (uq KM);by_cases hmt:m<N i j
      ·have lm:(m:Int)<(N i j:Int):=by omega
       obtain⟨cd,hA,hbb,ec⟩:=(uq HDj) m hmt;have yc:=zab ((uq K0).trans (uq KM)) (by rw[zaa];exact hbb) ec;rw[hA]at y1;clear ec hA hbb;obtain⟨a1,HJ1⟩:∃ jj,Hid (pI (H i j m)=jj):=⟨_,hide rfl⟩;have TK:=hide ((uq TP) (H i j m) wr ((uq K0).trans (uq KM)));have ha1:=(uq HPI) (H i j m);rw[uq HJ1]at TK ha1;go_wp2_with fail
       (refine(uq TK).mono ?_;rintro e w2 ⟨rfl,hk9⟩;have K2:=hide (hk9);clear hk9);have KM2:=hide ((uq KM).trans (uq K2));have OM2:=hide ((uq OM).keep (uq K2));clear y1 yc z0 z1 z2 z3 z4 z5 z6;cases hw:hs MP (H i j m)
       ·have hj1:a1<0:=ha1.2 hw;have hr:=zac (uq HF) (uq HLT) ((uq HG).trans ((uq HR2).trans (zac (uq HJ) (uq HJT) ((uq HH).trans ((uq HR3).trans (zac (uq HM) hmt (show grM NR N H MP p i j m=some (72,p) by unfold grM;rw[if_neg (by rw[hw];decide)])))))));subst hr;clear HF ha1 hw
        go_upto_region 18 with fail
        refine wp_region_held_drew (S:=(fun w'=>w'.cell? ⟨q0,6,none⟩=some (.int .i64 p))) (by kernel_rfl) (by(obtain⟨_,_,_,_,_,_,g9⟩:=(uq HX0) _ (uq KM2).drew;exact g9)) (fun hHeld=>?_);refine tkk 0 80 hHeld ?_;try simp only[Act.put,Ya,Yb,Yc]
        refine tkk 1 81 hHeld ?_;try simp only[Act.put,Ya,Yb,Yc]
        refine tkk 2 2 hHeld ?_;try simp only[Act.put,Ya,Yb,Yc]
        refine tkk 3 3 hHeld ?_;try simp only[Act.put,Ya,Yb,Yc]
        refine wpAnyH_done (by kernel_rfl) ?_ _;clear hHeld;go_wp2_with fail
        go_ret2;exact⟨(uq K0).trans ((uq KM2).drew),rfl⟩
       have hj1:¬a1<0:=fun h=>by have:=ha1.1 h;rw[hw]at this;cases this
       have HW:=hide hw;clear ha1 hw;have TI:=hide (zgj (H i j m) (uq OM2) (by have:=(uq DM).len;omega));go_wp2_with fail
       (refine(uq TI).mono ?_;rintro e w2 ⟨rfl,rfl⟩);cases hh:hs (rgG NR N H i++rgR N H i j++zbJ H i j m) (H i j m)
       ·have HM2:=hide (zaU (uq HM) hmt (show grM NR N H MP p i j m=none by unfold grM;rw[if_pos (uq HW),if_neg (by rw[hh];decide)]));have DM2:=hide ((uq DM).add (i:Int) (uq HW) hh);have hlen:(rgG NR N H i++rgR N H i j++zbJ H i j m).length≤1000:=by have:=(uq DM).len;omega
        have hsz:=Below.size (uq KM2);clear hh HM;obtain⟨L,HLL⟩:∃ L,Hid ((rgG NR N H i++rgR N H i j++zbJ H i j m).length=L):=⟨_,hide rfl⟩;have OM3:Hid (w2.ownsRow w0.heap.size 9 1 u4 L (sS (rgG NR N H i++rgR N H i j++zbJ H i j m))):=hide (by rw[← uq HLL];exact uq OM2);rw[uq HLL]at hlen;go_wp2_with (at_builtin;refine wpList_append_own _ rfl _ _ 44 rfl w0.heap.size 9 i0 _ 1 16 Try.underlying44 hi0 hz0 hz1 hz2 rfl (by decide) _ _ _ rfl (World.ownsRow.alloc (uq OM3) _) ⟨w2.heap.size,0,none⟩ 1 1 [.string (sv (H i j m))] rfl rfl (zk1 w2 _ _) (by simp[Value.oneCell']) (by unfold maxLen;omega) (by omega) (by simp;omega) ?_;intro v' w4 hown' hgrow hnil;have HOWN:=hide hown';have HK4:Hid (Keep w0 w4):=hide (Below.grown ((uq KM2).alloc _) hgrow (by simp;omega) (fun j ej=>((uq OM3).lt j ej).1));clear hown' hgrow hnil)
        have OM4:Hid (Os w0.heap.size w4 v' (rgG NR N H i++rgR N H i j++zbJ H i j (m+1))):=hide (by rw[zbK,← List.append_assoc];have h:=uq HOWN;rw[← uq HLL]at h;unfold Os;rw[List.length_append];simpa [sS]using h);have DM4:Hid (Gd MP (rgG NR N H i++rgR N H i j++zbJ H i j (m+1))):=hide (by rw[zbK,← List.append_assoc];exact uq DM2);go_roundw
        case rel=>exact⟨m+1,by go_num,by omega,OM4,DM4,HK4,HM2⟩
        case measure=>simp[intOf];omega
       ·have hr:=zac (uq HF) (uq HLT) ((uq HG).trans ((uq HR2).trans (zac (uq HJ) (uq HJT) ((uq HH).trans ((uq HR3).trans (zac (uq HM) hmt (show grM NR N H MP p i j m=some (71,p) by unfold grM;rw[if_pos (uq HW),if_pos hh])))))));subst hr;clear HF hh
        go_upto_region 20 with fail
        refine wp_region_held_drew (S:=(fun w'=>w'.cell? ⟨q0,6,none⟩=some (.int .i64 p))) (by kernel_rfl) (by(obtain⟨_,_,_,_,_,_,g9⟩:=(uq HX0) _ (uq KM2).drew;exact g9)) (fun hHeld=>?_);refine tkk 0 85 hHeld ?_;try simp only[Act.put,Ya,Yb,Yc]
        refine tkk 1 86 hHeld ?_;try simp only[Act.put,Ya,Yb,Yc]
        refine tkk 2 2 hHeld ?_;try simp only[Act.put,Ya,Yb,Yc]
        refine tkk 3 3 hHeld ?_;try simp only[Act.put,Ya,Yb,Yc]
        refine wpAnyH_done (by kernel_rfl) ?_ _;clear hHeld;go_wp2_with fail
        go_ret2;exact⟨(uq K0).trans ((uq KM2).drew),rfl⟩
      ·have lm:¬(m:Int)<(N i j:Int):=by omega
       obtain rfl:m=N i j:=by omega
       have hr3:=zaF (uq HM) (by omega);have HJ2:=hide (zaU (uq HJ) (uq HJT) ((uq HH).trans ((uq HR3).trans hr3)));have OM2:Hid (Os w0.heap.size wr u4 (rgG NR N H i++rgR N H i (j+1))):=hide (by rw[show rgR N H i (j+1)=rgR N H i j++zbJ H i j (N i j)from rfl,← List.append_assoc];exact uq OM);have DM2:Hid (Gd MP (rgG NR N H i++rgR N H i (j+1))):=hide (by rw[show rgR N H i (j+1)=rgR N H i j++zbJ H i j (N i j)from rfl,← List.append_assoc];exact uq DM);clear hr3;go_wp2_with fail
       go_roundw
       case rel=>exact⟨j+1,by go_num,by have:=uq HJT;omega,OM2,DM2,KM,HJ2⟩
       case measure=>have:=uq HJT;simp[intOf];omega
    ·have lj:¬(j:Int)<(NR i:Int):=by omega
     obtain rfl:j=NR i:=by omega
     have hr2:=zaF (uq HJ) (by omega);have HF2:=hide (zaU (uq HF) (uq HLT) ((uq HG).trans ((uq HR2).trans hr2)));have OJ2:Hid (Os w0.heap.size wr u4 (rgG NR N H (i+1))):=OJ;have DJ2:Hid (Gd MP (rgG NR N H (i+1))):=DJ;clear hr2;go_wp2_with fail
     go_roundw
     case rel=>exact⟨i+1,by go_num,by have:=uq HLT;omega,OJ2,DJ2,KJ,HF2⟩
     case measure=>have:=uq HLT;simp[intOf];omega
  ·have li:¬(i:Int)<(n4:Int):=by omega
   obtain rfl:i=n4:=by omega
   have hr:=zaF (uq HF) (by omega);subst hr;have HJ1:Hid (fE (ltF (rgG NR N H i) T3 74 P3) 0 (n3 - 0)=r1):=HI1;have hlen:=(uq DI).len;go_wp2_with fail
   clear z0 z1 z2 z3 z4 z5 z6
   go_loopw [10] (fun vm wq=>∃ m:Nat,vm= .int .i64 (m:Int)∧m≤n3∧Hid (Keep w0 wq)∧Hid (Os w0.heap.size wq u4 (rgG NR N H i))∧Hid (fE (ltF (rgG NR N H i) T3 74 P3) m (n3 - m)=r1)) (fun vm _=>n3 - (intOf vm).toNat)
   case atStart=>exact⟨0,rfl,Nat.zero_le _,KW,OI,HJ1⟩
   case round=>
    obtain⟨m,rfl,hm,KM,OM,HG⟩:=hrel;obtain⟨z0,z1,z2,z3,z4,z5,z6⟩:=(uq HX0) wr (uq KM);by_cases hmt:m<n3
    ·have lm:(m:Int)<(n3:Int):=by omega
     obtain⟨ad,rfl,hb,e0,e1⟩:=(uq HC3) m hmt;have HD9:Hid (∀ w',Keep wr w'→(w'.cell? ⟨q0,0,none⟩=some (.string s)∧w'.cell? ⟨q0,1,none⟩=some (.slice x1 n1 c1)∧w'.cell? ⟨q0,2,none⟩=some (.slice x2 n2 c2)∧w'.cell? ⟨q0,3,none⟩=some (.slice (some ad) n3 c3)∧w'.cell? ⟨q0,4,none⟩=some (.slice x4 i c4)∧w'.cell? ⟨q0,5,none⟩=some (.slice x5 n5 c5)∧w'.cell? ⟨q0,6,none⟩=some (.int .i64 p))∧w'.cell? (ad.add (m * 3))=some (.string (sv (T3 m)))∧w'.cell? ⟨(ad.add (m * 3)).block,(ad.add (m * 3)).off+2,none⟩=some (.int .i64 (P3 m))):=hide (fun w' k9=>⟨(uq HX0) w' ((uq KM).trans k9),zab ((uq K0).trans ((uq KM).trans k9)) (by rw[zaa];exact hb) e0,zab ((uq K0).trans ((uq KM).trans k9)) (by show(ad.add (m * 3)).block<_;rw[zaa];exact hb) e1⟩);clear e0 e1;have y0:=((uq HD9) wr (Keep.refl _)).2.1;have TI:=hide (zgj (T3 m) (uq OM) (by omega));go_wp2_with fail
     (refine(uq TI).mono ?_;rintro e w2 ⟨rfl,rfl⟩);cases hw:hs (rgG NR N H i) (T3 m)
     ·have hr:=zac (uq HG) hmt (show ltF (rgG NR N H i) T3 74 P3 m=some (74,P3 m) by unfold ltF;rw[if_neg (by rw[hw];decide)]);subst hr;clear HG hw y0 z0 z1 z2 z3 z4 z5 z6
      go_upto_region 26 with fail
      refine wp_region_held_drew (S:=(fun w'=>(w'.cell? ⟨q0,0,none⟩=some (.string s)∧w'.cell? ⟨q0,1,none⟩=some (.slice x1 n1 c1)∧w'.cell? ⟨q0,2,none⟩=some (.slice x2 n2 c2)∧w'.cell? ⟨q0,3,none⟩=some (.slice (some ad) n3 c3)∧w'.cell? ⟨q0,4,none⟩=some (.slice x4 i c4)∧w'.cell? ⟨q0,5,none⟩=some (.slice x5 n5 c5)∧w'.cell? ⟨q0,6,none⟩=some (.int .i64 p))∧w'.cell? (ad.add (m * 3))=some (.string (sv (T3 m)))∧w'.cell? ⟨(ad.add (m * 3)).block,(ad.add (m * 3)).off+2,none⟩=some (.int .i64 (P3 m)))) (by kernel_rfl) (by exact(uq HD9) _ (Keep.refl _).drew) (fun hHeld=>?_);refine tkk 0 107 hHeld ?_;try simp only[Act.put,Ya,Yb,Yc]
      refine tkk 1 108 hHeld ?_;try simp only[Act.put,Ya,Yb,Yc]
      refine tkk 2 109 hHeld ?_;try simp only[Act.put,Ya,Yb,Yc]
      refine tkk 3 110 hHeld ?_;try simp only[Act.put,Ya,Yb,Yc]
      refine tkk 4 111 hHeld ?_;try simp only[Act.put,Ya,Yb,Yc]
      refine tkk 5 112 hHeld ?_;try simp only[Act.put,Ya,Yb,Yc]
      refine tkk 6 2 hHeld ?_;try simp only[Act.put,Ya,Yb,Yc]
      refine tkk 7 3 hHeld ?_;try simp only[Act.put,Ya,Yb,Yc]
      refine wpAnyH_done (by kernel_rfl) ?_ _;clear hHeld;go_wp2_with fail
      go_ret2;exact⟨(uq K0).trans (uq KM).drew,rfl⟩
     ·have HG2:=hide (zaU (uq HG) hmt (show ltF (rgG NR N H i) T3 74 P3 m=none by unfold ltF;rw[if_pos hw]));clear HG hw;go_wp2_with fail
      go_roundw
      case rel=>exact⟨m+1,by go_num,by omega,KM,OM,HG2⟩
      case measure=>simp[intOf];omega
    ·have lm:¬(m:Int)<(n3:Int):=by omega
     have hr:=zaF (uq HG) (by omega);subst hr;go_wp2_with fail
     go_ret2;exact⟨(uq K0).trans (uq KM),rfl⟩
end V
end Go.Proofs.Ythbfohohelflnaa
