/- Package valid: in a node that may be each head is in one phase, each phase stands once in the rings, and foes are never of one phase. No program is met here. -/
import Derived.Test.YtcdhdhbjnpndkaaGreatVCt
import Derived.Test.YtcdhdhbjnpndkaaGreatVDh
import Derived.Test.YtcdhdhbjnpndkaaGreatLSkip
import Derived.Laws.AppendOwn
import Derived.Laws.OwnMore
import Derived.OwnWalk
import Derived.Deep.DrawnRows
import Derived.Deep.RegionHeld3
namespace Go.Proofs.YtcdhdhbjnpndkaaGreat
open Go.RowKit
set_option linter.unusedVariables false
set_option linter.unusedSimpArgs false
set_option maxRecDepth 10000
namespace V
open S
theorem zfD (H:Nat→Nat→List UInt8) (i k:Nat):(inn H i k).map Prod.fst=(List.range k).map (H i):=by simp[inn,List.map_map,Function.comp_def]
theorem zpQ {M:List (List UInt8×Int)} {T:Nat→List UInt8} {c:Int} {P:Nat→Int} {n:Nat} (h:fE (ltF M T c P) 0 n=none) (k:Nat) (hk:k<n):hs M (T k)=true:=by
 have h1:=zcK _ _ h k (Nat.zero_le _) (by omega);unfold ltF at h1
 split at h1
 ·assumption
 ·cases h1
theorem za7 {B:Nat→Bool} :∀(m k:Nat),0≤ix B k m↔∃ j,k≤j∧j<k+m∧B j=true
 |0,k=>by
  constructor
  ·intro h;simp[ix]at h
  ·rintro⟨j,h1,h2,_⟩;omega
 |m+1,k=>by
  unfold ix
  by_cases hb:B k=true
  ·rw[if_pos hb];exact⟨fun _=>⟨k,by omega,by omega,hb⟩,fun _=>by omega⟩
  ·rw[if_neg hb,za7 m (k+1)];constructor
   ·rintro⟨j,h1,h2,h3⟩;exact⟨j,by omega,by omega,h3⟩
   ·rintro⟨j,h1,h2,h3⟩;refine⟨j,?_,by omega,h3⟩;rcases Nat.eq_or_lt_of_le h1 with e|e
    ·rw[← e]at h3;exact absurd h3 hb
    ·omega
theorem zep {B:Nat→Bool} :∀(m k:Nat),ix B k (m+1)=if 0≤ix B k m then ix B k m else if B (k+m)then((k+m:Nat):Int)else -1
 |0,k=>by simp[ix]
 |m+1,k=>by
  rw[show ix B k (m+1+1)=if B k then(k:Int)else ix B (k+1) (m+1)from rfl,show ix B k (m+1)=if B k then(k:Int)else ix B (k+1) m from rfl];by_cases hb:B k=true
  ·simp[hb]
  ·rw[if_neg hb,if_neg hb,zep m (k+1),show k+1+m=k+(m+1) by omega]
theorem zgx (A B:List (List UInt8×Int)) (s:List UInt8):hs (A++B) s=(hs A s || hs B s):=by simp[hs]
theorem zli (A B:List (List UInt8×Int)) (s:List UInt8):lk (A++B) s=if hs A s then lk A s else lk B s:=by
 unfold lk
 rw[List.find?_append];by_cases h:hs A s=true
 ·rw[if_pos h];have:(A.find? (fun p=>p.1==s)).isSome=true:=by
   rw[List.find?_isSome];obtain⟨p,hp,he⟩:=List.any_eq_true.1 h;exact⟨p,hp,he⟩
  obtain⟨p,hp⟩:=Option.isSome_iff_exists.1 this;rw[hp];rfl
 ·rw[if_neg h];have:A.find? (fun p=>p.1==s)=none:=by
   rw[List.find?_eq_none];intro p hp he
   exact h (List.any_eq_true.2 ⟨p,hp,he⟩)
  rw[this];rfl
theorem zpR {H:Nat→Nat→List UInt8} {i k:Nat} {s:List UInt8} (h:hs (inn H i k) s=true):lk (inn H i k) s=(i:Int):=by
 unfold lk
 have:((inn H i k).find? (fun p=>p.1==s)).isSome=true:=by
  rw[List.find?_isSome];obtain⟨p,hp,he⟩:=List.any_eq_true.1 h;exact⟨p,hp,he⟩
 obtain⟨p,hp⟩:=Option.isSome_iff_exists.1 this;rw[hp];have hm:=List.mem_of_find?_eq_some hp;simp only[inn,List.mem_map]at hm;obtain⟨j,_,rfl⟩:=hm
 rfl
theorem zeq {N:Nat→Nat} {H:Nat→Nat→List UInt8} {B:Nat→Bool} {s:List UInt8} (hB:∀ m,B m=hs (inn H m (N m)) s):∀ M,(hs (hmL N H M) s=true↔0≤ix B 0 M)∧(hs (hmL N H M) s=true→lk (hmL N H M) s=ix B 0 M)
 |0=>by simp[hmL,hs,ix]
 |M+1=>by
  obtain⟨h1,h2⟩:=zeq hB M;rw[hmL,zgx,zli,zep,Nat.zero_add];by_cases h:hs (hmL N H M) s=true
  ·have h0:=h1.1 h;rw[h,if_pos h0,if_pos rfl,h2 h];exact⟨by simpa using h0,fun _=>rfl⟩
  ·have h0:¬0≤ix B 0 M:=fun k=>h (h1.2 k)
   have hf:hs (hmL N H M) s=false:=by simpa using h
   rw[hf,if_neg h0,hB M,Bool.false_or];simp only[Bool.false_eq_true,if_false];by_cases h3:hs (inn H M (N M)) s=true
   ·rw[if_pos h3];exact⟨by simp[h3],fun _=>zpR h3⟩
   ·rw[if_neg h3];exact⟨⟨fun k=>absurd k h3,fun k=>by omega⟩,fun k=>absurd k h3⟩
theorem zi1 (L:List (List D)) (m:Nat) (s:List UInt8):cI (sub L 1 m) s=hs (inn (sb L 1) m (ln L 1 m)) s:=by
 unfold cI
 cases hb:hs (inn (sb L 1) m (ln L 1 m)) s with
 |true=>
  rw[decide_eq_true_eq,za7];obtain⟨p,hp,he⟩:=List.any_eq_true.1 hb;simp only[inn,List.mem_map,List.mem_range]at hp;obtain⟨j,hj,rfl⟩:=hp;have e:sb L 1 m j=s:=by simpa using he
  exact⟨j,Nat.zero_le _,by unfold ln at hj;omega,by rw[← e];simp[sb]⟩
 |false=>
  rw[decide_eq_false_iff_not,za7];rintro⟨j,h1,h2,h3⟩;have e:s=tn (sub L 1 m) j:=by simpa using h3
  have:hs (inn (sb L 1) m (ln L 1 m)) s=true:=by
   refine List.any_eq_true.2 ⟨(sb L 1 m j,(m:Int)),?_,by simp[sb,← e]⟩;simp only[inn,List.mem_map,List.mem_range];exact⟨j,by unfold ln;omega,rfl⟩
  rw[this]at hb;cases hb
end V
end Go.Proofs.YtcdhdhbjnpndkaaGreat
namespace Go.Proofs.YtcdhdhbjnpndkaaGreat
open Go.RowKit
attribute [local go_sem ↓] Go.wp_at_zero Go.wp_at_succ
set_option linter.unusedVariables false
set_option linter.unusedSimpArgs false
set_option maxRecDepth 10000
namespace V
theorem zpS:(Tryz.prog.info? 9).map (fun i=>(i.zero,i.size,i.bytes))=some (some (.string ⟨#[]⟩),1,16):=by kernel_rfl
theorem zpT {t:TypeId} {z:Value} {a b:Nat} (h:(Tryz.prog.info? t).map (fun i=>(i.zero,i.size,i.bytes))=some (some z,a,b)):∃ i,Tryz.prog.info? t=some i∧i.zero=some z∧i.size=a∧i.bytes=b:=by
 cases hi:Tryz.prog.info? t with
 |none=>rw[hi]at h;cases h
 |some i=>rw[hi]at h;simp at h;exact⟨i,rfl,h.1,h.2.1,h.2.2⟩
def sS (M:List (List UInt8×Int)):List Value:=M.map (fun p=> .string (sv p.1))
def Os (B:Nat) (w:World) (v:Value) (M:List (List UInt8×Int)):Prop:=w.ownsRow B 9 1 v M.length (sS M)
theorem zrg (M:List (List UInt8×Int)) (nm:List UInt8):decide (0≤ix (fun k=>nm==(M.getD k ([],0)).1) 0 M.length)=hs M nm:=by
 cases hb:hs M nm with
 |true=>
  rw[decide_eq_true_eq,za7];obtain⟨p,hp,he⟩:=List.any_eq_true.1 hb;obtain⟨k,hk,hkp⟩:=List.getElem_of_mem hp;refine⟨k,Nat.zero_le _,by omega,?_⟩;rw[List.getD_eq_getElem?_getD,List.getElem?_eq_getElem hk,hkp];have:p.1=nm:=by simpa using he
  simp[this]
 |false=>
  rw[decide_eq_false_iff_not,za7];rintro⟨k,h1,h2,h3⟩;have hk:k<M.length:=by omega
  rw[List.getD_eq_getElem?_getD,List.getElem?_eq_getElem hk]at h3;have h9:nm=(M[k]).1:=by simpa using h3
  have:hs M nm=true:=List.any_eq_true.2 ⟨M[k],List.getElem_mem hk,by simp[← h9]⟩;rw[this]at hb;cases hb
theorem zlj {B:Nat} {w:World} {v:Value} {M:List (List UInt8×Int)} (nm:List UInt8) (h:Os B w v M) (hl:M.length≤9223372036854775807):
  Calls Tryz.prog 31 #[.string (sv nm),v] w fun e w'=>e= .returned (.bool (hs M nm))∧w'=w:=by
 rw[← zrg];rcases h.2 with ⟨rfl,h0⟩|⟨g,cap,cur,rfl,hb,hg,hc,hm,hs,ht⟩
 ·have e:M= []:=List.eq_nil_of_length_eq_zero h0;subst e;exact zct none 0 0 _ nm w (by omega) (hide fun k hk=>absurd hk (Nat.not_lt_zero _))
 ·refine zct _ M.length cap _ nm w hl (hide fun k hk=>⟨_,rfl,?_⟩);have hu:(sS M)[k]? =some (.string (sv (M.getD k ([],0)).1)):=by
   rw[sS,List.getElem?_map,List.getD_eq_getElem?_getD,List.getElem?_eq_getElem hk];rfl
  rw[← ht,List.getElem?_take]at hu;rw[zaV];simp only[World.cell?,hg,Nat.zero_add];split at hu
  ·simpa using hu
  ·cases hu
theorem Os.nil (B:Nat) (w:World):Os B w (.slice none 0 0) []:=World.ownsRow_nil _ _ _ _
theorem zrh (w:World) (a:Value) (t:TypeId):∀ j u,[a][j]? =some u→(w.alloc (.cells #[a] t)).cell? ((⟨w.heap.size,0,none⟩:Addr).add j)=some u:=by
 intro j u hj
 rw[zaV,Nat.zero_add]
 match j,hj with
 |0,hj=>simp at hj;subst hj;simp[go_sem]
 |j+1,hj=>simp at hj
theorem Os.keep {B:Nat} {w w':World} {v:Value} {M:List (List UInt8×Int)} (h:Os B w v M) (hk:Keep w w'):Os B w' v M:=
 World.ownsRow.kept (row:=none) h ⟨hk.os,hk.tape,hk.output,hk.size,fun i hi _=>hk.block i hi⟩ (by cases v.ownBlock<;>simp)
set_option maxHeartbeats 8000000 in
theorem zfE (s:ByteArray) (x1:Option Addr) (n1 c1:Nat) (x2:Option Addr) (n2 c2:Nat) (x3:Option Addr) (n3 c3:Nat) (x4:Option Addr) (n4 c4:Nat) (x5:Option Addr) (n5 c5:Nat) (p:Int) (RA:Nat→Option Addr) (NR RC:Nat→Nat) (F:Nat→Nat→Bool) (A:Nat→Nat→Option Addr) (N C:Nat→Nat→Nat) (H:Nat→Nat→Nat→List UInt8) (MP:List (List UInt8×Int)) (T3:Nat→List UInt8) (P3:Nat→Int) (pI:List UInt8→Int) (r r1:Eq2) (w:World) (hn:n4≤9223372036854775807) (hn3:n3≤9223372036854775807) (hMP:MP.length≤1000)
  (HB0:Hid (∀ i,i<n4→NR i≤9223372036854775807∧∀ j,j<NR i→N i j≤9223372036854775807))
  (HC:Hid (∀ i,i<n4→∃ ad,x4=some ad∧ad.block<w.heap.size∧w.cell? (ad.add i)=some (.slice (RA i) (NR i) (RC i))))
  (HCR:Hid (∀ i,i<n4→∀ j,j<NR i→∃ bd,RA i=some bd∧bd.block<w.heap.size∧w.cell? ⟨(bd.add (j * 2)).block,(bd.add (j * 2)).off+1,none⟩=some (.slice (A i j) (N i j) (C i j))))
  (HD:Hid (∀ i,i<n4→∀ j,j<NR i→∀ m,m<N i j→∃ cd,A i j=some cd∧cd.block<w.heap.size∧w.cell? (cd.add m)=some (.string (sv (H i j m)))))
  (HC3:Hid (∀ k,k<n3→∃ ad,x3=some ad∧ad.block<w.heap.size∧w.cell? (ad.add (k * 3))=some (.string (sv (T3 k)))∧w.cell? ⟨(ad.add (k * 3)).block,(ad.add (k * 3)).off+2,none⟩=some (.int .i64 (P3 k))))
  (TP:Hid (∀ nm w',Keep w w'→Calls Tryz.prog 100 #[.agg #[.string s,.slice x1 n1 c1,.slice x2 n2 c2,.slice x3 n3 c3,.slice x4 n4 c4,.slice x5 n5 c5,.int .i64 p],.string (sv nm)] w' fun e w''=>e= .returned (.int .i64 (pI nm))∧Keep w' w''))
  (HPI:Hid (∀ nm,pI nm<0↔hs MP nm=false))
  (HI:Hid (fE (grF NR N H MP p) 0 n4=r)) (HI1:Hid (fE (ltF (rgG NR N H n4) T3 74 P3) 0 n3=r1)):
  Calls Tryz.prog 61 #[.agg #[.string s,.slice x1 n1 c1,.slice x2 n2 c2,.slice x3 n3 c3,.slice x4 n4 c4,.slice x5 n5 c5,.int .i64 p]] w (Zq (ors [r,r1]) w):=by
 obtain⟨i0,hi0,hz0,hz1,hz2⟩:=zpT zpS;have hnw:=heap_alloc_new w (.cells #[.string s,.slice x1 n1 c1,.slice x2 n2 c2,.slice x3 n3 c3,.slice x4 n4 c4,.slice x5 n5 c5,.int .i64 p] 47);have K0:=hide ((Keep.refl w).alloc (.cells #[.string s,.slice x1 n1 c1,.slice x2 n2 c2,.slice x3 n3 c3,.slice x4 n4 c4,.slice x5 n5 c5,.int .i64 p] 47));go_enter Tryz.func61,Tryz.ntmps61
 go_upto_region 1 with fail
 generalize w.alloc (.cells #[.string s,.slice x1 n1 c1,.slice x2 n2 c2,.slice x3 n3 c3,.slice x4 n4 c4,.slice x5 n5 c5,.int .i64 p] 47)=w0 at hnw K0 ⊢;obtain⟨q0,HQ0⟩:∃ q,Hid (w.heap.size=q):=⟨_,hide rfl⟩;rw[uq HQ0]at hnw ⊢;have HX0:Hid (∀ w':World,Keep w0 w'→w'.cell? ⟨q0,0,none⟩=some (.string s)∧w'.cell? ⟨q0,1,none⟩=some (.slice x1 n1 c1)∧w'.cell? ⟨q0,2,none⟩=some (.slice x2 n2 c2)∧w'.cell? ⟨q0,3,none⟩=some (.slice x3 n3 c3)∧w'.cell? ⟨q0,4,none⟩=some (.slice x4 n4 c4)∧w'.cell? ⟨q0,5,none⟩=some (.slice x5 n5 c5)∧w'.cell? ⟨q0,6,none⟩=some (.int .i64 p)):=hide (fun w' k9=>by
  have h1:=k9.block q0 (Array.getElem?_eq_some_iff.1 hnw).1;rw[hnw]at h1;refine⟨?_,?_,?_,?_,?_,?_,?_⟩<;>simp[World.cell?,h1])
 clear hnw;go_wp2_with fail
 go_loopw [4,5] (fun vs vi wr=>∃ i:Nat,vi= .int .i64 (i:Int)∧i≤n4∧Hid (Os w0.heap.size wr vs (rgG NR N H i))∧Hid (Gd MP (rgG NR N H i))∧Hid (Keep w0 wr)∧Hid (fE (grF NR N H MP p) i (n4 - i)=r)) (fun vs vi _=>n4 - (intOf vi).toNat)
 case atStart=>exact⟨0,rfl,by omega,hide (Os.nil _ _),hide (Gd.nil _),hide (Keep.refl _),HI⟩
 case round=>
  obtain⟨i,rfl,hi,OI,DI,KW,HF⟩:=hrel;obtain⟨z0,z1,z2,z3,z4,z5,z6⟩:=(uq HX0) wr (uq KW);by_cases hlt:i<n4
  ·have li:(i:Int)<(n4:Int):=by omega
   obtain⟨ad,rfl,hb,e0⟩:=(uq HC) i hlt;have y0:=far_cell ((uq K0).trans (uq KW)) (by rw[add_block9];exact hb) e0;have HLT:=hide hlt;have HCRi:=hide ((uq HCR) i hlt);have HDi:=hide ((uq HD) i hlt);have HBi:=hide ((uq HB0) i hlt);have hNR:=((uq HB0) i hlt).1;clear e0;by_cases h1:(NR i:Int)<1
   ·have hr:=zab (uq HF) hlt (show grF NR N H MP p i=some (74,p) by unfold grF;rw[if_pos (.inl (by omega))]);subst hr;clear HF
    go_upto_region 7 with fail
    refine wp_region_held_drew (S:=(fun w'=>w'.cell? ⟨q0,6,none⟩=some (.int .i64 p))) (by kernel_rfl) (by(obtain⟨_,_,_,_,_,_,g9⟩:=(uq HX0) _ (uq KW).drew;exact g9)) (fun hHeld=>?_);refine tkk 0 32 hHeld ?_;try simp only[Act.put,Ya,Yb,Yc]
    refine tkk 1 33 hHeld ?_;try simp only[Act.put,Ya,Yb,Yc]
    refine tkk 2 2 hHeld ?_;try simp only[Act.put,Ya,Yb,Yc]
    refine tkk 3 3 hHeld ?_;try simp only[Act.put,Ya,Yb,Yc]
    refine wpAnyH_done (by kernel_rfl) ?_ _;clear hHeld;go_wp2_with fail
    go_ret2;exact⟨(uq K0).trans ((uq KW).drew),rfl⟩
   by_cases h2:2<(NR i:Int)
   ·have hr:=zab (uq HF) hlt (show grF NR N H MP p i=some (74,p) by unfold grF;rw[if_pos (.inr (by omega))]);subst hr;clear HF
    go_upto_region 7 with fail
    refine wp_region_held_drew (S:=(fun w'=>w'.cell? ⟨q0,6,none⟩=some (.int .i64 p))) (by kernel_rfl) (by(obtain⟨_,_,_,_,_,_,g9⟩:=(uq HX0) _ (uq KW).drew;exact g9)) (fun hHeld=>?_);refine tkk 0 32 hHeld ?_;try simp only[Act.put,Ya,Yb,Yc]
    refine tkk 1 33 hHeld ?_;try simp only[Act.put,Ya,Yb,Yc]
    refine tkk 2 2 hHeld ?_;try simp only[Act.put,Ya,Yb,Yc]
    refine tkk 3 3 hHeld ?_;try simp only[Act.put,Ya,Yb,Yc]
    refine wpAnyH_done (by kernel_rfl) ?_ _;clear hHeld;go_wp2_with fail
    go_ret2;exact⟨(uq K0).trans ((uq KW).drew),rfl⟩
   have HG:=hide (show grF NR N H MP p i=fE (grR NR N H MP p i) 0 (NR i) by unfold grF;rw[if_neg (by omega)]);obtain⟨r2,HR2⟩:∃ r2,Hid (fE (grR NR N H MP p i) 0 (NR i)=r2):=⟨_,hide rfl⟩;have HF1:Hid (fE (grR NR N H MP p i) 0 (NR i - 0)=r2):=HR2;have OI1:Hid (Os w0.heap.size wr u4 (rgG NR N H i++rgR N H i 0)):=hide (by rw[show rgR N H i 0= []from rfl,List.append_nil];exact uq OI);have DI1:Hid (Gd MP (rgG NR N H i++rgR N H i 0)):=hide (by rw[show rgR N H i 0= []from rfl,List.append_nil];exact uq DI);go_wp2_with fail
   clear y0 h1 h2 z0 z1 z2 z3 z4 z5 z6
   go_loopw [4,7] (fun vs vj wq=>∃ j:Nat,vj= .int .i64 (j:Int)∧j≤NR i∧Hid (Os w0.heap.size wq vs (rgG NR N H i++rgR N H i j))∧Hid (Gd MP (rgG NR N H i++rgR N H i j))∧Hid (Keep w0 wq)∧Hid (fE (grR NR N H MP p i) j (NR i - j)=r2)) (fun vs vj _=>NR i - (intOf vj).toNat)
   case atStart=>exact⟨0,rfl,Nat.zero_le _,OI1,DI1,KW,HF1⟩
   case round=>
    obtain⟨j,rfl,hj,OJ,DJ,KJ,HJ⟩:=hrel;obtain⟨z0,z1,z2,z3,z4,z5,z6⟩:=(uq HX0) wr (uq KJ);by_cases hjt:j<NR i
    ·have lj:(j:Int)<(NR i:Int):=by omega
     obtain⟨bd,hA,hbb,e1⟩:=(uq HCRi) j hjt;have HJT:=hide hjt;have HDj:=hide ((uq HDi) j hjt);have hNj:=(uq HBi).2 j hjt;have HY1:Hid (∀ w',Keep w0 w'→w'.cell? ⟨(bd.add (j * 2)).block,(bd.add (j * 2)).off+1,none⟩=some (.slice (A i j) (N i j) (C i j))):=hide (fun w' k9=>far_cell ((uq K0).trans k9) (by show(bd.add (j * 2)).block<_;rw[add_block9];exact hbb) e1);have y1:=(uq HY1) wr (uq KJ);rw[hA]at *;clear e1 hbb hA;by_cases h1:(N i j:Int)<1
     ·have hr:=zab (uq HF) (uq HLT) ((uq HG).trans ((uq HR2).trans (zab (uq HJ) (uq HJT) (show grR NR N H MP p i j=some (74,p) by unfold grR;rw[if_pos (.inl (by omega))]))));subst hr;clear HF
      go_upto_region 12 with fail
      refine wp_region_held_drew (S:=(fun w'=>w'.cell? ⟨q0,6,none⟩=some (.int .i64 p))) (by kernel_rfl) (by(obtain⟨_,_,_,_,_,_,g9⟩:=(uq HX0) _ (uq KJ).drew;exact g9)) (fun hHeld=>?_);refine tkk 0 56 hHeld ?_;try simp only[Act.put,Ya,Yb,Yc]
      refine tkk 1 57 hHeld ?_;try simp only[Act.put,Ya,Yb,Yc]
      refine tkk 2 2 hHeld ?_;try simp only[Act.put,Ya,Yb,Yc]
      refine tkk 3 3 hHeld ?_;try simp only[Act.put,Ya,Yb,Yc]
      refine wpAnyH_done (by kernel_rfl) ?_ _;clear hHeld;go_wp2_with fail
      go_ret2;exact⟨(uq K0).trans ((uq KJ).drew),rfl⟩
     by_cases h2:4<(N i j:Int)
     ·have hr:=zab (uq HF) (uq HLT) ((uq HG).trans ((uq HR2).trans (zab (uq HJ) (uq HJT) (show grR NR N H MP p i j=some (74,p) by unfold grR;rw[if_pos (.inr (by omega))]))));subst hr;clear HF
      go_upto_region 12 with fail
      refine wp_region_held_drew (S:=(fun w'=>w'.cell? ⟨q0,6,none⟩=some (.int .i64 p))) (by kernel_rfl) (by(obtain⟨_,_,_,_,_,_,g9⟩:=(uq HX0) _ (uq KJ).drew;exact g9)) (fun hHeld=>?_);refine tkk 0 56 hHeld ?_;try simp only[Act.put,Ya,Yb,Yc]
      refine tkk 1 57 hHeld ?_;try simp only[Act.put,Ya,Yb,Yc]
      refine tkk 2 2 hHeld ?_;try simp only[Act.put,Ya,Yb,Yc]
      refine tkk 3 3 hHeld ?_;try simp only[Act.put,Ya,Yb,Yc]
      refine wpAnyH_done (by kernel_rfl) ?_ _;clear hHeld;go_wp2_with fail
      go_ret2;exact⟨(uq K0).trans ((uq KJ).drew),rfl⟩
     have HH:=hide (show grR NR N H MP p i j=fE (grM NR N H MP p i j) 0 (N i j) by unfold grR;rw[if_neg (by omega)]);obtain⟨r3,HR3⟩:∃ r3,Hid (fE (grM NR N H MP p i j) 0 (N i j)=r3):=⟨_,hide rfl⟩;have HF2:Hid (fE (grM NR N H MP p i j) 0 (N i j - 0)=r3):=HR3;have OJ1:Hid (Os w0.heap.size wr u4 (rgG NR N H i++rgR N H i j++zco H i j 0)):=hide (by rw[show zco H i j 0= []from rfl,List.append_nil];exact uq OJ);have DJ1:Hid (Gd MP (rgG NR N H i++rgR N H i j++zco H i j 0)):=hide (by rw[show zco H i j 0= []from rfl,List.append_nil];exact uq DJ);go_wp2_with fail
     clear y1 h1 h2 z0 z1 z2 z3 z4 z5 z6
     go_loopw [4,8] (fun vs vm wt=>∃ m:Nat,vm= .int .i64 (m:Int)∧m≤N i j∧Hid (Os w0.heap.size wt vs (rgG NR N H i++rgR N H i j++zco H i j m))∧Hid (Gd MP (rgG NR N H i++rgR N H i j++zco H i j m))∧Hid (Keep w0 wt)∧Hid (fE (grM NR N H MP p i j) m (N i j - m)=r3)) (fun vs vm _=>N i j - (intOf vm).toNat)
     case atStart=>exact⟨0,rfl,Nat.zero_le _,OJ1,DJ1,KJ,HF2⟩
     case round=>
      obtain⟨m,rfl,hm,OM,DM,KM,HM⟩:=hrel;obtain⟨z0,z1,z2,z3,z4,z5,z6⟩:=(uq HX0) wr (uq KM);have y1:=(uq HY1) wr (uq KM);by_cases hmt:m<N i j
      ·have lm:(m:Int)<(N i j:Int):=by omega
       obtain⟨cd,hA,hbb,ec⟩:=(uq HDj) m hmt;have yc:=far_cell ((uq K0).trans (uq KM)) (by rw[add_block9];exact hbb) ec;rw[hA]at y1;clear ec hA hbb;obtain⟨a1,HJ1⟩:∃ jj,Hid (pI (H i j m)=jj):=⟨_,hide rfl⟩;have TK:=hide ((uq TP) (H i j m) wr ((uq K0).trans (uq KM)));have ha1:=(uq HPI) (H i j m);rw[uq HJ1]at TK ha1;go_wp2_with fail
       (refine(uq TK).mono ?_;rintro e w2 ⟨rfl,hk9⟩;have K2:=hide (hk9);clear hk9);have KM2:=hide ((uq KM).trans (uq K2));have OM2:=hide ((uq OM).keep (uq K2));clear y1 yc z0 z1 z2 z3 z4 z5 z6;cases hw:hs MP (H i j m)
       ·have hj1:a1<0:=ha1.2 hw;have hr:=zab (uq HF) (uq HLT) ((uq HG).trans ((uq HR2).trans (zab (uq HJ) (uq HJT) ((uq HH).trans ((uq HR3).trans (zab (uq HM) hmt (show grM NR N H MP p i j m=some (72,p) by unfold grM;rw[if_neg (by rw[hw];decide)])))))));subst hr;clear HF ha1 hw
        go_upto_region 18 with fail
        refine wp_region_held_drew (S:=(fun w'=>w'.cell? ⟨q0,6,none⟩=some (.int .i64 p))) (by kernel_rfl) (by(obtain⟨_,_,_,_,_,_,g9⟩:=(uq HX0) _ (uq KM2).drew;exact g9)) (fun hHeld=>?_);refine tkk 0 80 hHeld ?_;try simp only[Act.put,Ya,Yb,Yc]
        refine tkk 1 81 hHeld ?_;try simp only[Act.put,Ya,Yb,Yc]
        refine tkk 2 2 hHeld ?_;try simp only[Act.put,Ya,Yb,Yc]
        refine tkk 3 3 hHeld ?_;try simp only[Act.put,Ya,Yb,Yc]
        refine wpAnyH_done (by kernel_rfl) ?_ _;clear hHeld;go_wp2_with fail
        go_ret2;exact⟨(uq K0).trans ((uq KM2).drew),rfl⟩
       have hj1:¬a1<0:=fun h=>by have:=ha1.1 h;rw[hw]at this;cases this
       have HW:=hide hw;clear ha1 hw;have TI:=hide (zlj (H i j m) (uq OM2) (by have:=(uq DM).len;omega));go_wp2_with fail
       (refine(uq TI).mono ?_;rintro e w2 ⟨rfl,rfl⟩);cases hh:hs (rgG NR N H i++rgR N H i j++zco H i j m) (H i j m)
       ·have HM2:=hide (za6 (uq HM) hmt (show grM NR N H MP p i j m=none by unfold grM;rw[if_pos (uq HW),if_neg (by rw[hh];decide)]));have DM2:=hide ((uq DM).add (i:Int) (uq HW) hh);have hlen:(rgG NR N H i++rgR N H i j++zco H i j m).length≤1000:=by have:=(uq DM).len;omega
        have hsz:=Below.size (uq KM2);clear hh HM;obtain⟨L,HLL⟩:∃ L,Hid ((rgG NR N H i++rgR N H i j++zco H i j m).length=L):=⟨_,hide rfl⟩;have OM3:Hid (w2.ownsRow w0.heap.size 9 1 u4 L (sS (rgG NR N H i++rgR N H i j++zco H i j m))):=hide (by rw[← uq HLL];exact uq OM2);rw[uq HLL]at hlen;go_wp2_with (at_builtin;refine wpList_append_own _ rfl _ _ 50 rfl w0.heap.size 9 i0 _ 1 16 Tryz.underlying50 hi0 hz0 hz1 hz2 rfl (by decide) _ _ _ rfl (World.ownsRow.alloc (uq OM3) _) ⟨w2.heap.size,0,none⟩ 1 1 [.string (sv (H i j m))] rfl rfl (zrh w2 _ _) (by simp[Value.oneCell']) (by unfold maxLen;omega) (by omega) (by simp;omega) ?_;intro v' w4 hown' hgrow hnil;have HOWN:=hide hown';have HK4:Hid (Keep w0 w4):=hide (Below.grown ((uq KM2).alloc _) hgrow (by simp;omega) (fun j ej=>((uq OM3).lt j ej).1));clear hown' hgrow hnil)
        have OM4:Hid (Os w0.heap.size w4 v' (rgG NR N H i++rgR N H i j++zco H i j (m+1))):=hide (by rw[zcp,← List.append_assoc];have h:=uq HOWN;rw[← uq HLL]at h;unfold Os;rw[List.length_append];simpa [sS]using h);have DM4:Hid (Gd MP (rgG NR N H i++rgR N H i j++zco H i j (m+1))):=hide (by rw[zcp,← List.append_assoc];exact uq DM2);go_roundw
        case rel=>exact⟨m+1,by go_num,by omega,OM4,DM4,HK4,HM2⟩
        case measure=>simp[intOf];omega
       ·have hr:=zab (uq HF) (uq HLT) ((uq HG).trans ((uq HR2).trans (zab (uq HJ) (uq HJT) ((uq HH).trans ((uq HR3).trans (zab (uq HM) hmt (show grM NR N H MP p i j m=some (71,p) by unfold grM;rw[if_pos (uq HW),if_pos hh])))))));subst hr;clear HF hh
        go_upto_region 20 with fail
        refine wp_region_held_drew (S:=(fun w'=>w'.cell? ⟨q0,6,none⟩=some (.int .i64 p))) (by kernel_rfl) (by(obtain⟨_,_,_,_,_,_,g9⟩:=(uq HX0) _ (uq KM2).drew;exact g9)) (fun hHeld=>?_);refine tkk 0 85 hHeld ?_;try simp only[Act.put,Ya,Yb,Yc]
        refine tkk 1 86 hHeld ?_;try simp only[Act.put,Ya,Yb,Yc]
        refine tkk 2 2 hHeld ?_;try simp only[Act.put,Ya,Yb,Yc]
        refine tkk 3 3 hHeld ?_;try simp only[Act.put,Ya,Yb,Yc]
        refine wpAnyH_done (by kernel_rfl) ?_ _;clear hHeld;go_wp2_with fail
        go_ret2;exact⟨(uq K0).trans ((uq KM2).drew),rfl⟩
      ·have lm:¬(m:Int)<(N i j:Int):=by omega
       obtain rfl:m=N i j:=by omega
       have hr3:=zaM (uq HM) (by omega);have HJ2:=hide (za6 (uq HJ) (uq HJT) ((uq HH).trans ((uq HR3).trans hr3)));have OM2:Hid (Os w0.heap.size wr u4 (rgG NR N H i++rgR N H i (j+1))):=hide (by rw[show rgR N H i (j+1)=rgR N H i j++zco H i j (N i j)from rfl,← List.append_assoc];exact uq OM);have DM2:Hid (Gd MP (rgG NR N H i++rgR N H i (j+1))):=hide (by rw[show rgR N H i (j+1)=rgR N H i j++zco H i j (N i j)from rfl,← List.append_assoc];exact uq DM);clear hr3;go_wp2_with fail
       go_roundw
       case rel=>exact⟨j+1,by go_num,by have:=uq HJT;omega,OM2,DM2,KM,HJ2⟩
       case measure=>have:=uq HJT;simp[intOf];omega
    ·have lj:¬(j:Int)<(NR i:Int):=by omega
     obtain rfl:j=NR i:=by omega
     have hr2:=zaM (uq HJ) (by omega);have HF2:=hide (za6 (uq HF) (uq HLT) ((uq HG).trans ((uq HR2).trans hr2)));have OJ2:Hid (Os w0.heap.size wr u4 (rgG NR N H (i+1))):=OJ;have DJ2:Hid (Gd MP (rgG NR N H (i+1))):=DJ;clear hr2;go_wp2_with fail
     go_roundw
     case rel=>exact⟨i+1,by go_num,by have:=uq HLT;omega,OJ2,DJ2,KJ,HF2⟩
     case measure=>have:=uq HLT;simp[intOf];omega
  ·have li:¬(i:Int)<(n4:Int):=by omega
   obtain rfl:i=n4:=by omega
   have hr:=zaM (uq HF) (by omega);subst hr;have HJ1:Hid (fE (ltF (rgG NR N H i) T3 74 P3) 0 (n3 - 0)=r1):=HI1;have hlen:=(uq DI).len;go_wp2_with fail
   clear z0 z1 z2 z3 z4 z5 z6
   go_loopw [10] (fun vm wq=>∃ m:Nat,vm= .int .i64 (m:Int)∧m≤n3∧Hid (Keep w0 wq)∧Hid (Os w0.heap.size wq u4 (rgG NR N H i))∧Hid (fE (ltF (rgG NR N H i) T3 74 P3) m (n3 - m)=r1)) (fun vm _=>n3 - (intOf vm).toNat)
   case atStart=>exact⟨0,rfl,Nat.zero_le _,KW,OI,HJ1⟩
   case round=>
    obtain⟨m,rfl,hm,KM,OM,HG⟩:=hrel;obtain⟨z0,z1,z2,z3,z4,z5,z6⟩:=(uq HX0) wr (uq KM);by_cases hmt:m<n3
    ·have lm:(m:Int)<(n3:Int):=by omega
     obtain⟨ad,rfl,hb,e0,e1⟩:=(uq HC3) m hmt;have HD9:Hid (∀ w',Keep wr w'→(w'.cell? ⟨q0,0,none⟩=some (.string s)∧w'.cell? ⟨q0,1,none⟩=some (.slice x1 n1 c1)∧w'.cell? ⟨q0,2,none⟩=some (.slice x2 n2 c2)∧w'.cell? ⟨q0,3,none⟩=some (.slice (some ad) n3 c3)∧w'.cell? ⟨q0,4,none⟩=some (.slice x4 i c4)∧w'.cell? ⟨q0,5,none⟩=some (.slice x5 n5 c5)∧w'.cell? ⟨q0,6,none⟩=some (.int .i64 p))∧w'.cell? (ad.add (m * 3))=some (.string (sv (T3 m)))∧w'.cell? ⟨(ad.add (m * 3)).block,(ad.add (m * 3)).off+2,none⟩=some (.int .i64 (P3 m))):=hide (fun w' k9=>⟨(uq HX0) w' ((uq KM).trans k9),far_cell ((uq K0).trans ((uq KM).trans k9)) (by rw[add_block9];exact hb) e0,far_cell ((uq K0).trans ((uq KM).trans k9)) (by show(ad.add (m * 3)).block<_;rw[add_block9];exact hb) e1⟩);clear e0 e1;have y0:=((uq HD9) wr (Keep.refl _)).2.1;have TI:=hide (zlj (T3 m) (uq OM) (by omega));go_wp2_with fail
     (refine(uq TI).mono ?_;rintro e w2 ⟨rfl,rfl⟩);cases hw:hs (rgG NR N H i) (T3 m)
     ·have hr:=zab (uq HG) hmt (show ltF (rgG NR N H i) T3 74 P3 m=some (74,P3 m) by unfold ltF;rw[if_neg (by rw[hw];decide)]);subst hr;clear HG hw y0 z0 z1 z2 z3 z4 z5 z6
      go_upto_region 26 with fail
      refine wp_region_held_drew (S:=(fun w'=>(w'.cell? ⟨q0,0,none⟩=some (.string s)∧w'.cell? ⟨q0,1,none⟩=some (.slice x1 n1 c1)∧w'.cell? ⟨q0,2,none⟩=some (.slice x2 n2 c2)∧w'.cell? ⟨q0,3,none⟩=some (.slice (some ad) n3 c3)∧w'.cell? ⟨q0,4,none⟩=some (.slice x4 i c4)∧w'.cell? ⟨q0,5,none⟩=some (.slice x5 n5 c5)∧w'.cell? ⟨q0,6,none⟩=some (.int .i64 p))∧w'.cell? (ad.add (m * 3))=some (.string (sv (T3 m)))∧w'.cell? ⟨(ad.add (m * 3)).block,(ad.add (m * 3)).off+2,none⟩=some (.int .i64 (P3 m)))) (by kernel_rfl) (by exact(uq HD9) _ (Keep.refl _).drew) (fun hHeld=>?_);refine tkk 0 107 hHeld ?_;try simp only[Act.put,Ya,Yb,Yc]
      refine tkk 1 108 hHeld ?_;try simp only[Act.put,Ya,Yb,Yc]
      refine tkk 2 109 hHeld ?_;try simp only[Act.put,Ya,Yb,Yc]
      refine tkk 3 110 hHeld ?_;try simp only[Act.put,Ya,Yb,Yc]
      refine tkk 4 111 hHeld ?_;try simp only[Act.put,Ya,Yb,Yc]
      refine tkk 5 112 hHeld ?_;try simp only[Act.put,Ya,Yb,Yc]
      refine tkk 6 2 hHeld ?_;try simp only[Act.put,Ya,Yb,Yc]
      refine tkk 7 3 hHeld ?_;try simp only[Act.put,Ya,Yb,Yc]
      refine wpAnyH_done (by kernel_rfl) ?_ _;clear hHeld;go_wp2_with fail
      go_ret2;exact⟨(uq K0).trans (uq KM).drew,rfl⟩
     ·have HG2:=hide (za6 (uq HG) hmt (show ltF (rgG NR N H i) T3 74 P3 m=none by unfold ltF;rw[if_pos hw]));clear HG hw;go_wp2_with fail
      go_roundw
      case rel=>exact⟨m+1,by go_num,by omega,KM,OM,HG2⟩
      case measure=>simp[intOf];omega
    ·have lm:¬(m:Int)<(n3:Int):=by omega
     have hr:=zaM (uq HG) (by omega);subst hr;go_wp2_with fail
     go_ret2;exact⟨(uq K0).trans (uq KM),rfl⟩
end V
namespace V
theorem zkx (a b c d e f g h:Eq2):ors [a,b,ors [c,d],e,ors [f,g],h]=ors [a,b,c,d,e,f,g,h]:=by
 cases a<;>cases b<;>cases c<;>cases d<;>cases e<;>cases f<;>cases g<;>rfl
set_option maxHeartbeats 4000000 in
theorem zhp (s:ByteArray) (x1:Option Addr) (n1 c1:Nat) (x2:Option Addr) (n2 c2:Nat) (x3:Option Addr) (n3 c3:Nat) (x4:Option Addr) (n4 c4:Nat) (x5:Option Addr) (n5 c5:Nat) (p:Int) (e1 e2 e3 e4 e5:Eq2) (w:World) (h1:n1≤9223372036854775807) (h2:n2≤9223372036854775807) (h3:n3≤9223372036854775807) (h4:n4≤9223372036854775807) (h5:n5≤9223372036854775807)
  (Z1:Hid (Nz e1)) (Z2:Hid (Nz e2)) (Z3:Hid (Nz e3)) (Z4:Hid (Nz e4))
  (T1:Hid (∀ w',Keep w w'→Calls Tryz.prog 58 #[.agg #[.string s,.slice x1 n1 c1,.slice x2 n2 c2,.slice x3 n3 c3,.slice x4 n4 c4,.slice x5 n5 c5,.int .i64 p]] w' (Zq e1 w')))
  (T2:Hid (∀ w',Keep w w'→Calls Tryz.prog 59 #[.agg #[.string s,.slice x1 n1 c1,.slice x2 n2 c2,.slice x3 n3 c3,.slice x4 n4 c4,.slice x5 n5 c5,.int .i64 p]] w' (Zq e2 w')))
  (T3:Hid (∀ w',Keep w w'→Calls Tryz.prog 60 #[.agg #[.string s,.slice x1 n1 c1,.slice x2 n2 c2,.slice x3 n3 c3,.slice x4 n4 c4,.slice x5 n5 c5,.int .i64 p]] w' (Zq e3 w')))
  (T4:Hid (n3≤16→∀ w',Keep w w'→Calls Tryz.prog 61 #[.agg #[.string s,.slice x1 n1 c1,.slice x2 n2 c2,.slice x3 n3 c3,.slice x4 n4 c4,.slice x5 n5 c5,.int .i64 p]] w' (Zq e4 w')))
  (T5:Hid (e2=none→∀ w',Keep w w'→Calls Tryz.prog 62 #[.agg #[.string s,.slice x1 n1 c1,.slice x2 n2 c2,.slice x3 n3 c3,.slice x4 n4 c4,.slice x5 n5 c5,.int .i64 p]] w' (Zq e5 w'))) (r:Eq2) (HR:Hid (ors [(cnE n1 n2 n3 n4 n5).map (fun c=>(c,p)),e1,e2,e3,e4,e5]=r)):
  Calls Tryz.prog 28 #[.agg #[.string s,.slice x1 n1 c1,.slice x2 n2 c2,.slice x3 n3 c3,.slice x4 n4 c4,.slice x5 n5 c5,.int .i64 p]] w (Zq r w):=by
 have hnw:=heap_alloc_new w (.cells #[.string s,.slice x1 n1 c1,.slice x2 n2 c2,.slice x3 n3 c3,.slice x4 n4 c4,.slice x5 n5 c5,.int .i64 p] 47);have K0:=hide ((Keep.refl w).alloc (.cells #[.string s,.slice x1 n1 c1,.slice x2 n2 c2,.slice x3 n3 c3,.slice x4 n4 c4,.slice x5 n5 c5,.int .i64 p] 47));go_enter Tryz.func28,Tryz.ntmps28
 go_upto_region 1 with fail
 generalize w.alloc (.cells #[.string s,.slice x1 n1 c1,.slice x2 n2 c2,.slice x3 n3 c3,.slice x4 n4 c4,.slice x5 n5 c5,.int .i64 p] 47)=w0 at hnw K0 ⊢;obtain⟨q0,HQ0⟩:∃ q,Hid (w.heap.size=q):=⟨_,hide rfl⟩;rw[uq HQ0]at hnw ⊢;have HX0:Hid (∀ w':World,Keep w0 w'→w'.cell? ⟨q0,0,none⟩=some (.string s)∧w'.cell? ⟨q0,1,none⟩=some (.slice x1 n1 c1)∧w'.cell? ⟨q0,2,none⟩=some (.slice x2 n2 c2)∧w'.cell? ⟨q0,3,none⟩=some (.slice x3 n3 c3)∧w'.cell? ⟨q0,4,none⟩=some (.slice x4 n4 c4)∧w'.cell? ⟨q0,5,none⟩=some (.slice x5 n5 c5)∧w'.cell? ⟨q0,6,none⟩=some (.int .i64 p)):=hide (fun w' k9=>by
  have h1:=k9.block q0 (Array.getElem?_eq_some_iff.1 hnw).1;rw[hnw]at h1;refine⟨?_,?_,?_,?_,?_,?_,?_⟩<;>simp[World.cell?,h1])
 clear hnw;obtain⟨z0,z1,z2,z3,z4,z5,z6⟩:=(uq HX0) w0 (Keep.refl _);by_cases g0:(16:Int)<(n1:Int)
 ·have hc:cnE n1 n2 n3 n4 n5=some 4:=by
   unfold cnE
   simp only[fst];rw[if_pos (by simp;omega)]
  have hr:r=some (4,p):=by rw[← uq HR,hc];rfl
  subst hr;clear hc HR
  go_upto_region 2 with fail
  refine wp_region_held_drew (S:=(fun w'=>w'.cell? ⟨q0,6,none⟩=some (.int .i64 p))) (by kernel_rfl) (by(obtain⟨_,_,_,_,_,_,g9⟩:=(uq HX0) _ (Keep.refl w0).drew;exact g9)) (fun hHeld=>?_);refine tkk 0 34 hHeld ?_;try simp only[Act.put,Ya,Yb,Yc]
  refine tkk 1 35 hHeld ?_;try simp only[Act.put,Ya,Yb,Yc]
  refine tkk 2 2 hHeld ?_;try simp only[Act.put,Ya,Yb,Yc]
  refine tkk 3 3 hHeld ?_;try simp only[Act.put,Ya,Yb,Yc]
  refine wpAnyH_done (by kernel_rfl) ?_ _;clear hHeld;go_wp2_with fail
  go_ret2;exact⟨(uq K0).trans ((Keep.refl w0).drew),rfl⟩
 by_cases g1:(16:Int)<(n3:Int)
 ·have hc:cnE n1 n2 n3 n4 n5=some 4:=by
   unfold cnE
   simp only[fst];rw[if_pos (by simp;omega)]
  have hr:r=some (4,p):=by rw[← uq HR,hc];rfl
  subst hr;clear hc HR
  go_upto_region 2 with fail
  refine wp_region_held_drew (S:=(fun w'=>w'.cell? ⟨q0,6,none⟩=some (.int .i64 p))) (by kernel_rfl) (by(obtain⟨_,_,_,_,_,_,g9⟩:=(uq HX0) _ (Keep.refl w0).drew;exact g9)) (fun hHeld=>?_);refine tkk 0 34 hHeld ?_;try simp only[Act.put,Ya,Yb,Yc]
  refine tkk 1 35 hHeld ?_;try simp only[Act.put,Ya,Yb,Yc]
  refine tkk 2 2 hHeld ?_;try simp only[Act.put,Ya,Yb,Yc]
  refine tkk 3 3 hHeld ?_;try simp only[Act.put,Ya,Yb,Yc]
  refine wpAnyH_done (by kernel_rfl) ?_ _;clear hHeld;go_wp2_with fail
  go_ret2;exact⟨(uq K0).trans ((Keep.refl w0).drew),rfl⟩
 by_cases g2:(8:Int)<(n2:Int)
 ·have hc:cnE n1 n2 n3 n4 n5=some 4:=by
   unfold cnE
   simp only[fst];rw[if_neg (by simp;omega),if_pos (by simp;omega)]
  have hr:r=some (4,p):=by rw[← uq HR,hc];rfl
  subst hr;clear hc HR
  go_upto_region 2 with fail
  refine wp_region_held_drew (S:=(fun w'=>w'.cell? ⟨q0,6,none⟩=some (.int .i64 p))) (by kernel_rfl) (by(obtain⟨_,_,_,_,_,_,g9⟩:=(uq HX0) _ (Keep.refl w0).drew;exact g9)) (fun hHeld=>?_);refine tkk 0 34 hHeld ?_;try simp only[Act.put,Ya,Yb,Yc]
  refine tkk 1 35 hHeld ?_;try simp only[Act.put,Ya,Yb,Yc]
  refine tkk 2 2 hHeld ?_;try simp only[Act.put,Ya,Yb,Yc]
  refine tkk 3 3 hHeld ?_;try simp only[Act.put,Ya,Yb,Yc]
  refine wpAnyH_done (by kernel_rfl) ?_ _;clear hHeld;go_wp2_with fail
  go_ret2;exact⟨(uq K0).trans ((Keep.refl w0).drew),rfl⟩
 by_cases g3:(4:Int)<(n4:Int)
 ·have hc:cnE n1 n2 n3 n4 n5=some 4:=by
   unfold cnE
   simp only[fst];rw[if_neg (by simp;omega),if_pos (by simp;omega)]
  have hr:r=some (4,p):=by rw[← uq HR,hc];rfl
  subst hr;clear hc HR
  go_upto_region 2 with fail
  refine wp_region_held_drew (S:=(fun w'=>w'.cell? ⟨q0,6,none⟩=some (.int .i64 p))) (by kernel_rfl) (by(obtain⟨_,_,_,_,_,_,g9⟩:=(uq HX0) _ (Keep.refl w0).drew;exact g9)) (fun hHeld=>?_);refine tkk 0 34 hHeld ?_;try simp only[Act.put,Ya,Yb,Yc]
  refine tkk 1 35 hHeld ?_;try simp only[Act.put,Ya,Yb,Yc]
  refine tkk 2 2 hHeld ?_;try simp only[Act.put,Ya,Yb,Yc]
  refine tkk 3 3 hHeld ?_;try simp only[Act.put,Ya,Yb,Yc]
  refine wpAnyH_done (by kernel_rfl) ?_ _;clear hHeld;go_wp2_with fail
  go_ret2;exact⟨(uq K0).trans ((Keep.refl w0).drew),rfl⟩
 by_cases g4:(64:Int)<(n5:Int)
 ·have hc:cnE n1 n2 n3 n4 n5=some 4:=by
   unfold cnE
   simp only[fst];rw[if_neg (by simp;omega),if_pos (by simp;omega)]
  have hr:r=some (4,p):=by rw[← uq HR,hc];rfl
  subst hr;clear hc HR
  go_upto_region 2 with fail
  refine wp_region_held_drew (S:=(fun w'=>w'.cell? ⟨q0,6,none⟩=some (.int .i64 p))) (by kernel_rfl) (by(obtain⟨_,_,_,_,_,_,g9⟩:=(uq HX0) _ (Keep.refl w0).drew;exact g9)) (fun hHeld=>?_);refine tkk 0 34 hHeld ?_;try simp only[Act.put,Ya,Yb,Yc]
  refine tkk 1 35 hHeld ?_;try simp only[Act.put,Ya,Yb,Yc]
  refine tkk 2 2 hHeld ?_;try simp only[Act.put,Ya,Yb,Yc]
  refine tkk 3 3 hHeld ?_;try simp only[Act.put,Ya,Yb,Yc]
  refine wpAnyH_done (by kernel_rfl) ?_ _;clear hHeld;go_wp2_with fail
  go_ret2;exact⟨(uq K0).trans ((Keep.refl w0).drew),rfl⟩
 by_cases k0:((n1:Int)==0)=true
 ·have hc:cnE n1 n2 n3 n4 n5=some 73:=by
   unfold cnE
   simp only[fst];simp only[beq_iff_eq]at k0;rw[if_neg (by simp;omega),if_neg (by simp;omega),if_pos (by simp;omega)]
  have hr:r=some (73,p):=by rw[← uq HR,hc];rfl
  subst hr;clear hc HR
  go_upto_region 4 with fail
  refine wp_region_held_drew (S:=(fun w'=>w'.cell? ⟨q0,6,none⟩=some (.int .i64 p))) (by kernel_rfl) (by(obtain⟨_,_,_,_,_,_,g9⟩:=(uq HX0) _ (Keep.refl w0).drew;exact g9)) (fun hHeld=>?_);refine tkk 0 52 hHeld ?_;try simp only[Act.put,Ya,Yb,Yc]
  refine tkk 1 53 hHeld ?_;try simp only[Act.put,Ya,Yb,Yc]
  refine tkk 2 2 hHeld ?_;try simp only[Act.put,Ya,Yb,Yc]
  refine tkk 3 3 hHeld ?_;try simp only[Act.put,Ya,Yb,Yc]
  refine wpAnyH_done (by kernel_rfl) ?_ _;clear hHeld;go_wp2_with fail
  go_ret2;exact⟨(uq K0).trans ((Keep.refl w0).drew),rfl⟩
 have k0:((n1:Int)==0)=false:=by simpa using k0
 by_cases k1:((n3:Int)==0)=true
 ·have hc:cnE n1 n2 n3 n4 n5=some 73:=by
   unfold cnE
   simp only[fst];simp only[beq_iff_eq]at k1;rw[if_neg (by simp;omega),if_neg (by simp;omega),if_pos (by simp;omega)]
  have hr:r=some (73,p):=by rw[← uq HR,hc];rfl
  subst hr;clear hc HR
  go_upto_region 4 with fail
  refine wp_region_held_drew (S:=(fun w'=>w'.cell? ⟨q0,6,none⟩=some (.int .i64 p))) (by kernel_rfl) (by(obtain⟨_,_,_,_,_,_,g9⟩:=(uq HX0) _ (Keep.refl w0).drew;exact g9)) (fun hHeld=>?_);refine tkk 0 52 hHeld ?_;try simp only[Act.put,Ya,Yb,Yc]
  refine tkk 1 53 hHeld ?_;try simp only[Act.put,Ya,Yb,Yc]
  refine tkk 2 2 hHeld ?_;try simp only[Act.put,Ya,Yb,Yc]
  refine tkk 3 3 hHeld ?_;try simp only[Act.put,Ya,Yb,Yc]
  refine wpAnyH_done (by kernel_rfl) ?_ _;clear hHeld;go_wp2_with fail
  go_ret2;exact⟨(uq K0).trans ((Keep.refl w0).drew),rfl⟩
 have k1:((n3:Int)==0)=false:=by simpa using k1
 by_cases k2:((n4:Int)==0)=true
 ·have hc:cnE n1 n2 n3 n4 n5=some 73:=by
   unfold cnE
   simp only[fst];simp only[beq_iff_eq]at k2;rw[if_neg (by simp;omega),if_neg (by simp;omega),if_pos (by simp;omega)]
  have hr:r=some (73,p):=by rw[← uq HR,hc];rfl
  subst hr;clear hc HR
  go_upto_region 4 with fail
  refine wp_region_held_drew (S:=(fun w'=>w'.cell? ⟨q0,6,none⟩=some (.int .i64 p))) (by kernel_rfl) (by(obtain⟨_,_,_,_,_,_,g9⟩:=(uq HX0) _ (Keep.refl w0).drew;exact g9)) (fun hHeld=>?_);refine tkk 0 52 hHeld ?_;try simp only[Act.put,Ya,Yb,Yc]
  refine tkk 1 53 hHeld ?_;try simp only[Act.put,Ya,Yb,Yc]
  refine tkk 2 2 hHeld ?_;try simp only[Act.put,Ya,Yb,Yc]
  refine tkk 3 3 hHeld ?_;try simp only[Act.put,Ya,Yb,Yc]
  refine wpAnyH_done (by kernel_rfl) ?_ _;clear hHeld;go_wp2_with fail
  go_ret2;exact⟨(uq K0).trans ((Keep.refl w0).drew),rfl⟩
 have k2:((n4:Int)==0)=false:=by simpa using k2
 have hc:cnE n1 n2 n3 n4 n5=none:=by
  unfold cnE
  simp only[fst];simp only[beq_eq_false_iff_ne,ne_eq]at k0 k1 k2;rw[if_neg (by simp;omega),if_neg (by simp;omega),if_neg (by simp;omega)]
 have HR0:Hid (ors [e1,e2,e3,e4,e5]=r):=hide (by have:=uq HR;rw[hc]at this;exact this);have h16:n3≤16:=by omega
 replace T4:=hide ((uq T4) h16);clear hc h16 HR;have TK:=hide ((uq T1) _ ((uq K0).trans (Keep.refl w0)));rcases e1 with _|⟨c,pp⟩
 rotate_left
 ·have hc:(c==0)=false:=by have:=(uq Z1) _ rfl;simpa using this
  have hr:r=some (c,pp):=by rw[← uq HR0];rfl
  subst hr;clear HR0;go_wp2_with fail
  (refine(uq TK).mono ?_;rintro e w9 ⟨hk9,rfl⟩);simp only[ez];go_wp2_with fail
  go_ret2;exact⟨((uq K0).trans (Keep.refl w0)).trans hk9,rfl⟩
 go_wp2_with fail
 (refine(uq TK).mono ?_;rintro e w1 ⟨hk9,rfl⟩);simp only[ez];have K1:=hide ((Keep.refl w0).trans hk9);clear hk9 TK z0 z1 z2 z3 z4 z5 z6;obtain⟨z0,z1,z2,z3,z4,z5,z6⟩:=(uq HX0) w1 (uq K1);have TK:=hide ((uq T2) _ ((uq K0).trans (uq K1)));rcases e2 with _|⟨c,pp⟩
 rotate_left
 ·have hc:(c==0)=false:=by have:=(uq Z2) _ rfl;simpa using this
  have hr:r=some (c,pp):=by rw[← uq HR0];rfl
  subst hr;clear HR0;go_wp2_with fail
  (refine(uq TK).mono ?_;rintro e w9 ⟨hk9,rfl⟩);simp only[ez];go_wp2_with fail
  go_ret2;exact⟨((uq K0).trans (uq K1)).trans hk9,rfl⟩
 go_wp2_with fail
 (refine(uq TK).mono ?_;rintro e w2 ⟨hk9,rfl⟩);simp only[ez];have K2:=hide ((uq K1).trans hk9);clear hk9 TK z0 z1 z2 z3 z4 z5 z6;obtain⟨z0,z1,z2,z3,z4,z5,z6⟩:=(uq HX0) w2 (uq K2);have TK:=hide ((uq T3) _ ((uq K0).trans (uq K2)));rcases e3 with _|⟨c,pp⟩
 rotate_left
 ·have hc:(c==0)=false:=by have:=(uq Z3) _ rfl;simpa using this
  have hr:r=some (c,pp):=by rw[← uq HR0];rfl
  subst hr;clear HR0;go_wp2_with fail
  (refine(uq TK).mono ?_;rintro e w9 ⟨hk9,rfl⟩);simp only[ez];go_wp2_with fail
  go_ret2;exact⟨((uq K0).trans (uq K2)).trans hk9,rfl⟩
 go_wp2_with fail
 (refine(uq TK).mono ?_;rintro e w3 ⟨hk9,rfl⟩);simp only[ez];have K3:=hide ((uq K2).trans hk9);clear hk9 TK z0 z1 z2 z3 z4 z5 z6;obtain⟨z0,z1,z2,z3,z4,z5,z6⟩:=(uq HX0) w3 (uq K3);have TK:=hide ((uq T4) _ ((uq K0).trans (uq K3)));rcases e4 with _|⟨c,pp⟩
 rotate_left
 ·have hc:(c==0)=false:=by have:=(uq Z4) _ rfl;simpa using this
  have hr:r=some (c,pp):=by rw[← uq HR0];rfl
  subst hr;clear HR0;go_wp2_with fail
  (refine(uq TK).mono ?_;rintro e w9 ⟨hk9,rfl⟩);simp only[ez];go_wp2_with fail
  go_ret2;exact⟨((uq K0).trans (uq K3)).trans hk9,rfl⟩
 go_wp2_with fail
 (refine(uq TK).mono ?_;rintro e w4 ⟨hk9,rfl⟩);simp only[ez];have K4:=hide ((uq K3).trans hk9);clear hk9 TK z0 z1 z2 z3 z4 z5 z6;obtain⟨z0,z1,z2,z3,z4,z5,z6⟩:=(uq HX0) w4 (uq K4);replace T5:=hide ((uq T5) (by simp));have TK:=hide ((uq T5) _ ((uq K0).trans (uq K4)));go_wp2_with fail
 (refine(uq TK).mono ?_;rintro e w9 ⟨hk9,rfl⟩);go_wp2_with fail
 go_ret2;have hr:r=e5:=by rw[← uq HR0];cases e5<;>rfl
 subst hr;exact⟨((uq K0).trans (uq K4)).trans hk9,rfl⟩
end V
end Go.Proofs.YtcdhdhbjnpndkaaGreat
