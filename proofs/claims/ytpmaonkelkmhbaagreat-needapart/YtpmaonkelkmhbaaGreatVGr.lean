/- Package valid: phases. -/
import Derived.Test.YtpmaonkelkmhbaaGreatVHd
import Derived.Deep.DrawnRows
import Derived.Deep.RegionHeld3
import Derived.Maps.AppendAt
namespace Go.Proofs.YtpmaonkelkmhbaaGreat
open Go.RowKit
attribute [local go_sem ↓] Go.wp_at_zero Go.wp_at_succ
set_option linter.unusedVariables false
set_option linter.unusedSimpArgs false
set_option maxRecDepth 10000
namespace V
def inn (H:Nat→Nat→List UInt8) (i k:Nat):List (List UInt8×Int):=(List.range k).map (fun j=>(H i j,(i:Int)))
def hmL (N:Nat→Nat) (H:Nat→Nat→List UInt8):Nat→List (List UInt8×Int)
 |0=> []
 |i+1=>hmL N H i++inn H i (N i)
theorem zdq (H:Nat→Nat→List UInt8) (i k:Nat):inn H i (k+1)=inn H i k++ [(H i k,(i:Int))]:=by simp[inn,List.range_succ]
def phI (N:Nat→Nat) (H:Nat→Nat→List UInt8) (MH:List (List UInt8×Int)) (P:Nat→Int) (i k:Nat):Eq2:=
 if hs MH (H i k)then(if hs (hmL N H i++inn H i k) (H i k)then some (71,P i)else none)else some (72,P i)
def phF (T:Nat→List UInt8) (N:Nat→Nat) (H:Nat→Nat→List UInt8) (MH:List (List UInt8×Int)) (P:Nat→Int) (i:Nat):Eq2:=
 if hs (mk T i) (T i)then some (71,P i)else match fE (phI N H MH P i) 0 (N i)with|some e=>some e|none=>if N i=0 then some (73,P i)else none
theorem zdR {T:Nat→List UInt8} {N:Nat→Nat} {H:Nat→Nat→List UInt8} {MH:List (List UInt8×Int)} {P:Nat→Int} {i:Nat} {e:Int×Int} (h:hs (mk T i) (T i)=false) (he:fE (phI N H MH P i) 0 (N i)=some e):phF T N H MH P i=some e:=by
 unfold phF;rw[if_neg (by rw[h];decide),he]
theorem zm7 {T:Nat→List UInt8} {N:Nat→Nat} {H:Nat→Nat→List UInt8} {MH:List (List UInt8×Int)} {P:Nat→Int} {i:Nat} (h:hs (mk T i) (T i)=false) (he:fE (phI N H MH P i) 0 (N i)=none) (hz:N i=0):phF T N H MH P i=some (73,P i):=by
 unfold phF;rw[if_neg (by rw[h];decide),he];simp[hz]
theorem zm8 {T:Nat→List UInt8} {N:Nat→Nat} {H:Nat→Nat→List UInt8} {MH:List (List UInt8×Int)} {P:Nat→Int} {i:Nat} (h:hs (mk T i) (T i)=false) (he:fE (phI N H MH P i) 0 (N i)=none) (hz:¬N i=0):phF T N H MH P i=none:=by
 unfold phF;rw[if_neg (by rw[h];decide),he];simp[hz]
def Hq2 (r:Eq2) (M1 M2:List (List UInt8×Int)) (w:World) (e:Ending) (w':World):Prop:=Keep w w'∧match r with
 |none=>∃ b c,e= .returned (.tuple #[.map (some b),.map (some c)])∧w.heap.size≤b∧w.heap.size≤c∧b≠c∧Mp w' b M1∧Mp w' c M2
 |some x=>e= .panicked [{ v:=flt x.1 x.2,recovered:=false }]
set_option maxHeartbeats 4000000 in
theorem zef (a:Option Addr) (n cap bp:Nat) (T:Nat→List UInt8) (A:Nat→Option Addr) (N C:Nat→Nat) (H:Nat→Nat→List UInt8) (MH:List (List UInt8×Int)) (P:Nat→Int) (r:Eq2) (w:World) (hn:n≤9223372036854775807) (hMH:MH.length≤9223372036854775807) (HP:Hid (Mp w bp MH))
  (HT:Hid (∀ k,k<n→(T k).length≤maxLen)) (HL:Hid (∀ i,i<n→N i≤9223372036854775807))
  (HC:Hid (∀ k,k<n→∃ ad,a=some ad∧ad.block<w.heap.size∧w.cell? (ad.add (k * 3))=some (.string (sv (T k)))∧w.cell? ⟨(ad.add (k * 3)).block,(ad.add (k * 3)).off+1,none⟩=some (.slice (A k) (N k) (C k))∧w.cell? ⟨(ad.add (k * 3)).block,(ad.add (k * 3)).off+2,none⟩=some (.int .i64 (P k))))
  (HD:Hid (∀ i,i<n→∀ k,k<N i→∃ bd,A i=some bd∧bd.block<w.heap.size∧w.cell? (bd.add k)=some (.string (sv (H i k)))∧(H i k).length≤maxLen))
  (HI:Hid (fE (phF T N H MH P) 0 n=r)):
  Calls Tryz.prog 94 #[.slice a n cap,.map (some bp)] w (Hq2 r (mk T n) (hmL N H n) w):=by
 have RX:=hide zbD;have hmm:=@run_makeMap Tryz.prog;go_enter Tryz.func94,Tryz.ntmps94;go_wp2_with fail
 obtain⟨b,HB⟩:∃ b,Hid (b=w.heap.size):=⟨_,hide rfl⟩;obtain⟨c,HBC⟩:∃ c,Hid (c=b+1):=⟨_,hide rfl⟩;have M0:Hid (Mp ((w.alloc (.map #[] 0)).alloc (.map #[] 0)) b (mk T 0)):=hide (by rw[uq HB];exact(zbM w).keep ((Keep.refl _).alloc _));have N0:Hid (Mp ((w.alloc (.map #[] 0)).alloc (.map #[] 0)) c (hmL N H 0)):=hide (by have:=zbM (w.alloc (.map #[] 0));rw[World.size_alloc]at this;rw[uq HBC,uq HB];exact this);have K0:Hid (Keep w ((w.alloc (.map #[] 0)).alloc (.map #[] 0))):=hide (((Keep.refl w).alloc _).alloc _);rw[← uq HB,← uq HBC];generalize (w.alloc (.map #[] 0)).alloc (.map #[] 0)=w0 at M0 N0 K0 ⊢
 go_loopw [14] (fun iv wr=>∃ k:Nat,iv= .int .i64 (k:Int)∧k≤n∧Hid (Mp wr b (mk T k))∧Hid (Mp wr c (hmL N H k))∧Hid (Gd MH (hmL N H k))∧Hid (Keep w wr)∧Hid (fE (phF T N H MH P) k (n - k)=r)) (fun iv _=>n - (intOf iv).toNat)
 case atStart=>exact⟨0,rfl,by omega,M0,N0,hide (Gd.nil _),K0,HI⟩
 case round=>
  obtain⟨k,rfl,hk,MK,NK,GK,KW,HF⟩:=hrel;by_cases hlt:k<n
  ·have li:(k:Int)<(n:Int):=by omega
   obtain⟨ad,rfl,hb,e0,e1,e2⟩:=(uq HC) k hlt;have tl:=hide ((uq HT) k hlt);have HDk:=hide ((uq HD) k hlt);have HLk:=hide ((uq HL) k hlt);have hlt':=hide hlt;have x0:=far_cell (uq KW) (by rw[add_block9];exact hb) e0;have x1:=far_cell (uq KW) (by show(ad.add (k * 3)).block<_;rw[add_block9];exact hb) e1;have x2:=far_cell (uq KW) (by show(ad.add (k * 3)).block<_;rw[add_block9];exact hb) e2;clear e0 e1 e2;have hbx:=heap_alloc_new wr (.cells #[.string (sv (T k)),.slice (A k) (N k) (C k),.int .i64 (P k)] 45);have KBq:=hide ((uq KW).alloc (.cells #[.string (sv (T k)),.slice (A k) (N k) (C k),.int .i64 (P k)] 45));have KAq:=hide ((Keep.refl wr).alloc (.cells #[.string (sv (T k)),.slice (A k) (N k) (C k),.int .i64 (P k)] 45))
   go_upto_region 5 with fail
   generalize hwa:wr.alloc (.cells #[.string (sv (T k)),.slice (A k) (N k) (C k),.int .i64 (P k)] 45)=wa at hbx KBq KAq ⊢;obtain⟨q,HQq⟩:∃ q,Hid (wr.heap.size=q):=⟨_,hide rfl⟩;rw[uq HQq]at hbx ⊢;have HXq:Hid (∀ w':World,w'.heap[q]? =wa.heap[q]? →w'.cell? ⟨q,0,none⟩=some (.string (sv (T k)))∧w'.cell? ⟨q,1,none⟩=some (.slice (A k) (N k) (C k))∧w'.cell? ⟨q,2,none⟩=some (.int .i64 (P k))):=hide (fun w' h9=>by rw[hbx]at h9;refine⟨?_,?_,?_⟩<;>simp[World.cell?,h9]);have HQLq:=hide (Array.getElem?_eq_some_iff.1 hbx).1;clear hbx hwa x0 x1 x2;have HMB:=hide ((uq MK).keep (uq KAq));have HNB:=hide ((uq NK).keep (uq KAq));have HQB:Hid (q≠b):=hide (by have:=(uq MK).lt;have:=uq HQq;omega);have HQC:Hid (q≠c):=hide (by have:=(uq NK).lt;have:=uq HQq;omega);obtain⟨f0,f1,f2⟩:=(uq HXq) wa rfl;by_cases hh:hs (mk T k) (T k)=true
   ·have hr:=zab (uq HF) hlt (show phF T N H MH P k=some (71,P k) by unfold phF;rw[if_pos hh]);subst hr;clear HF;go_wp2_with fail
    (refine(zbN b (mk T k) (P k) _ (T k) _ (uq HMB) (uq tl) hh).mono ?_;rintro e w2 ⟨rfl,rfl⟩);go_wp2_with fail
    exact⟨rfl,uq KBq,rfl⟩
   have hh0:hs (mk T k) (T k)=false:=by simpa using hh
   have HH0:=hide hh0;clear hh hh0;go_wp2_with fail
   (refine(zcj b (mk T k) (P k) _ (T k) _ (uq HMB) (uq tl) (by rw[zbZ];unfold maxLen;omega) (zcQ (by omega)) (uq HH0)).mono ?_;rintro e w2 ⟨rfl,hM2,hG2⟩);have HM2:Hid (Mp w2 b (mk T (k+1))):=hide (by rw[zbO];exact hM2);have HN2:Hid (Mp w2 c (hmL N H k++inn H k 0)):=hide (by rw[show inn H k 0= []from rfl,List.append_nil];exact(uq HNB).kept hG2 (by have:=uq HBC;simp;omega));have HK2:=hide (zav (uq KBq) hG2 (by have:=uq HB;omega));have HE2:Hid (w2.heap[q]? =wa.heap[q]?):=hide (hG2.block q (uq HQLq) (by simpa using uq HQB));have HS2:Hid (q<w2.heap.size):=hide (Nat.lt_of_lt_of_le (uq HQLq) hG2.size);clear hM2 hG2 HMB HNB KBq KAq f0 f1 f2 tl;obtain⟨f0,f1,f2⟩:=(uq HXq) w2 (uq HE2);obtain⟨r2,HR2⟩:∃ r2,Hid (fE (phI N H MH P k) 0 (N k)=r2):=⟨_,hide rfl⟩;have HF0:Hid (fE (phI N H MH P k) 0 (N k - 0)=r2):=HR2;have hN:N k≤9223372036854775807:=uq HLk;go_wp2_with fail
   clear f0 f1 f2;obtain⟨wo,HWO⟩:∃ wo,Hid (wo=wr):=⟨_,hide rfl⟩
   go_loopw [29] (fun iv wq=>∃ m:Nat,iv= .int .i64 (m:Int)∧m≤N k∧Hid (Mp wq b (mk T (k+1)))∧Hid (Mp wq c (hmL N H k++inn H k m))∧Hid (Gd MH (hmL N H k++inn H k m))∧Hid (Keep w wq)∧Hid (wq.heap[q]? =wa.heap[q]? ∧q<wq.heap.size)∧Hid (fE (phI N H MH P k) m (N k - m)=r2)) (fun iv _=>N k - (intOf iv).toNat)
   case atStart=>exact⟨0,rfl,by omega,HM2,HN2,hide (by rw[show inn H k 0= []from rfl,List.append_nil];exact uq GK),HK2,hide ⟨uq HE2,uq HS2⟩,HF0⟩
   case round=>
    obtain⟨m,rfl,hm,MM,NM,GM,KM,HE,HG⟩:=hrel;obtain⟨f0,f1,f2⟩:=(uq HXq) _ (uq HE).1;by_cases hmt:m<N k
    ·have lj:(m:Int)<(N k:Int):=by omega
     obtain⟨bd,hA,hbb,ec,hl⟩:=(uq HDk) m hmt;have xc:=far_cell (uq KM) (by rw[add_block9];exact hbb) ec;have HLm:=hide hl;have HA:=hide hA;rw[hA]at f1 ⊢;clear ec hl hA hbb;have TW:=hide (zag bp MH (P k) (H k m) _ ((uq HP).keep (uq KM)) (uq HLm));cases hw:hs MH (H k m)
     ·have hr2:=zab (uq HG) hmt (show phI N H MH P k m=some (72,P k) by unfold phI;rw[if_neg (by rw[hw];decide)]);have hr:=zab (uq HF) (uq hlt') (zdR (uq HH0) ((uq HR2).trans hr2));subst hr;rw[hw]at TW;clear HF hw hr2;go_wp2_with fail
      (refine(uq TW).mono ?_;rintro e w3 ⟨rfl,rfl⟩;simp only[Bool.not_false,fl,En,if_true]);go_wp2_with fail
      exact⟨rfl,uq KM,rfl⟩
     have HW:=hide hw;rw[hw]at TW;clear hw;go_wp2_with fail
     (refine(uq TW).mono ?_;rintro e wr ⟨rfl,rfl⟩;simp only[Bool.not_true,fl,En,if_false,Bool.false_eq_true]);by_cases hh:hs (hmL N H k++inn H k m) (H k m)=true
     ·have hr2:=zab (uq HG) hmt (show phI N H MH P k m=some (71,P k) by unfold phI;rw[if_pos (uq HW),if_pos hh]);have hr:=zab (uq HF) (uq hlt') (zdR (uq HH0) ((uq HR2).trans hr2));subst hr;clear HF hr2;go_wp2_with fail
      (refine(zbN c _ (P k) _ (H k m) _ (uq NM) (uq HLm) hh).mono ?_;rintro e w3 ⟨rfl,rfl⟩);go_wp2_with fail
      exact⟨rfl,uq KM,rfl⟩
     have hh0:hs (hmL N H k++inn H k m) (H k m)=false:=by simpa using hh
     have HH1:=hide hh0;clear hh hh0;have hf:=zaY (uq HG) hmt (show phI N H MH P k m=none by unfold phI;rw[if_pos (uq HW),if_neg (by rw[uq HH1];decide)]);have HF2:=hide hf;clear hf;go_wp2_with fail
     (refine(zcj c _ (P k) _ (H k m) _ (uq NM) (uq HLm) (by have:=((uq GM).add (k:Int) (uq HW) (uq HH1)).len;rw[List.length_append]at this;unfold maxLen;simp at this ⊢;omega) (zcQ (by omega)) (uq HH1)).mono ?_;rintro e w3 ⟨rfl,hM3,hG3⟩);have HN3:Hid (Mp w3 c (hmL N H k++inn H k (m+1))):=hide (by rw[zdq,← List.append_assoc];exact hM3);have HM3:=hide ((uq MM).kept hG3 (by have:=uq HBC;simp;omega));have HK3:=hide (zav (uq KM) hG3 (by have:=uq HB;have:=uq HBC;omega));have HE3:Hid (w3.heap[q]? =wa.heap[q]? ∧q<w3.heap.size):=hide ⟨(hG3.block q (uq HE).2 (by simpa using uq HQC)).trans (uq HE).1,Nat.lt_of_lt_of_le (uq HE).2 hG3.size⟩;clear hM3 hG3;go_wp2_with fail
     go_roundw
     case rel=>exact⟨m+1,by go_num,by omega,HM3,HN3,hide (by rw[zdq,← List.append_assoc];exact(uq GM).add _ (uq HW) (uq HH1)),HK3,HE3,HF2⟩
     case measure=>simp[intOf];omega
    ·have lj:¬(m:Int)<(N k:Int):=by omega
     obtain rfl:m=N k:=by omega
     have hr2:=zaF (uq HG) (by omega);have HZ:=hide ((uq HR2).trans hr2);clear HG hr2;go_wp2_with fail
     (refine((uq RX) _ _ _ _).mono ?_;rintro e wr ⟨⟨hb9,rfl⟩|⟨hb9,rfl⟩,rfl⟩)
     ·have hr:=zab (uq HF) (uq hlt') (zm7 (uq HH0) (uq HZ) (by simp at hb9;omega));subst hr;clear HF hb9;go_wp2_with fail
      exact⟨rfl,uq KM,rfl⟩
     have hf:=zaY (uq HF) (uq hlt') (zm8 (uq HH0) (uq HZ) (by simp at hb9;omega));have HF2:=hide hf;clear hf HF hb9;go_wp2_with fail
     go_roundw
     case rel=>exact⟨k+1,by go_num,by omega,MM,NM,GM,KM,HF2⟩
     case measure=>simp[intOf];omega
  ·have li:¬(k:Int)<(n:Int):=by omega
   have hr:=zaF (uq HF) (by omega);subst hr;obtain rfl:k=n:=by omega
   go_wp2_with fail
   go_ret2;exact⟨uq KW,b,c,rfl,by have:=uq HB;omega,by have:=uq HB;have:=uq HBC;omega,by have:=uq HBC;omega,uq MK,uq NK⟩
end V
namespace V
def zb0 (H:Nat→Nat→Nat→List UInt8) (i j m:Nat):List (List UInt8×Int):=(List.range m).map (fun x=>(H i j x,(i:Int)))
def rgR (N:Nat→Nat→Nat) (H:Nat→Nat→Nat→List UInt8) (i:Nat):Nat→List (List UInt8×Int)
 |0=> []
 |j+1=>rgR N H i j++zb0 H i j (N i j)
def rgG (NR:Nat→Nat) (N:Nat→Nat→Nat) (H:Nat→Nat→Nat→List UInt8):Nat→List (List UInt8×Int)
 |0=> []
 |i+1=>rgG NR N H i++rgR N H i (NR i)
theorem zb1 (H:Nat→Nat→Nat→List UInt8) (i j m:Nat):zb0 H i j (m+1)=zb0 H i j m++ [(H i j m,(i:Int))]:=by simp[zb0,List.range_succ]
def grM (NR:Nat→Nat) (N:Nat→Nat→Nat) (H:Nat→Nat→Nat→List UInt8) (MP:List (List UInt8×Int)) (p:Int) (i j m:Nat):Eq2:=
 if hs MP (H i j m)then(if hs (rgG NR N H i++rgR N H i j++zb0 H i j m) (H i j m)then some (71,p)else none)else some (72,p)
def grR (NR:Nat→Nat) (N:Nat→Nat→Nat) (H:Nat→Nat→Nat→List UInt8) (MP:List (List UInt8×Int)) (p:Int) (i j:Nat):Eq2:=
 if N i j=0∨4<N i j then some (74,p)else fE (grM NR N H MP p i j) 0 (N i j)
def grF (NR:Nat→Nat) (N:Nat→Nat→Nat) (H:Nat→Nat→Nat→List UInt8) (MP:List (List UInt8×Int)) (p:Int) (i:Nat):Eq2:=
 if NR i=0∨2<NR i then some (74,p)else fE (grR NR N H MP p i) 0 (NR i)
set_option maxHeartbeats 4000000 in
theorem zeg (s:ByteArray) (x1:Option Addr) (n1 c1:Nat) (x2:Option Addr) (n2 c2:Nat) (x3:Option Addr) (n3 c3:Nat) (x4:Option Addr) (n4 c4:Nat) (x5:Option Addr) (n5 c5:Nat) (p:Int) (bp:Nat) (RA:Nat→Option Addr) (NR RC:Nat→Nat) (F:Nat→Nat→Bool) (A:Nat→Nat→Option Addr) (N C:Nat→Nat→Nat) (H:Nat→Nat→Nat→List UInt8) (MP:List (List UInt8×Int)) (r:Eq2) (w:World) (hn:n4≤9223372036854775807) (hMP:MP.length≤9223372036854775807) (HP:Hid (Mp w bp MP))
  (HB0:Hid (∀ i,i<n4→NR i≤9223372036854775807∧∀ j,j<NR i→N i j≤9223372036854775807))
  (HC:Hid (∀ i,i<n4→∃ ad,x4=some ad∧ad.block<w.heap.size∧w.cell? (ad.add i)=some (.slice (RA i) (NR i) (RC i))))
  (HCR:Hid (∀ i,i<n4→∀ j,j<NR i→∃ bd,RA i=some bd∧bd.block<w.heap.size∧w.cell? (bd.add (j * 2))=some (.bool (F i j))∧w.cell? ⟨(bd.add (j * 2)).block,(bd.add (j * 2)).off+1,none⟩=some (.slice (A i j) (N i j) (C i j))))
  (HD:Hid (∀ i,i<n4→∀ j,j<NR i→∀ m,m<N i j→∃ cd,A i j=some cd∧cd.block<w.heap.size∧w.cell? (cd.add m)=some (.string (sv (H i j m)))∧(H i j m).length≤maxLen))
  (HI:Hid (fE (grF NR N H MP p) 0 n4=r)):
  Calls Tryz.prog 96 #[.agg #[.string s,.slice x1 n1 c1,.slice x2 n2 c2,.slice x3 n3 c3,.slice x4 n4 c4,.slice x5 n5 c5,.int .i64 p],.map (some bp)] w (Hq r (rgG NR N H n4) w):=by
 have RX:=hide zbD;have hmm:=@run_makeMap Tryz.prog;go_enter Tryz.func96,Tryz.ntmps96;go_wp2_with fail
 obtain⟨q0,HQ0⟩:∃ q,Hid (q=w.heap.size):=⟨_,hide rfl⟩;obtain⟨b,HB⟩:∃ b,Hid (b=q0+1):=⟨_,hide rfl⟩;have Z0:Hid (((w.alloc (.cells #[.string s,.slice x1 n1 c1,.slice x2 n2 c2,.slice x3 n3 c3,.slice x4 n4 c4,.slice x5 n5 c5,.int .i64 p] 39)).alloc (.map #[] 0)).cell? ⟨q0,6,none⟩=some (.int .i64 p)):=hide (by rw[uq HQ0];simp[go_sem]);have M0:Hid (Mp ((w.alloc (.cells #[.string s,.slice x1 n1 c1,.slice x2 n2 c2,.slice x3 n3 c3,.slice x4 n4 c4,.slice x5 n5 c5,.int .i64 p] 39)).alloc (.map #[] 0)) b (rgG NR N H 0)):=hide (by have:=zbM (w.alloc (.cells #[.string s,.slice x1 n1 c1,.slice x2 n2 c2,.slice x3 n3 c3,.slice x4 n4 c4,.slice x5 n5 c5,.int .i64 p] 39));rw[World.size_alloc]at this;rw[uq HB,uq HQ0];exact this);have K0:Hid (Keep w ((w.alloc (.cells #[.string s,.slice x1 n1 c1,.slice x2 n2 c2,.slice x3 n3 c3,.slice x4 n4 c4,.slice x5 n5 c5,.int .i64 p] 39)).alloc (.map #[] 0))):=hide (((Keep.refl w).alloc _).alloc _);rw[← uq HQ0,← uq HB];generalize (w.alloc (.cells #[.string s,.slice x1 n1 c1,.slice x2 n2 c2,.slice x3 n3 c3,.slice x4 n4 c4,.slice x5 n5 c5,.int .i64 p] 39)).alloc (.map #[] 0)=w0 at Z0 M0 K0 ⊢;have HBW:Hid (w.heap.size≤b):=hide (by have:=uq HB;have:=uq HQ0;omega);have HQB:Hid (q0≠b):=hide (by have:=uq HB;omega)
 go_loopw [16] (fun iv wr=>∃ i:Nat,iv= .int .i64 (i:Int)∧i≤n4∧Hid (Mp wr b (rgG NR N H i))∧Hid (Gd MP (rgG NR N H i))∧Hid (w0.grownBy wr (some b))∧Hid (fE (grF NR N H MP p) i (n4 - i)=r)) (fun iv _=>n4 - (intOf iv).toNat)
 case atStart=>exact⟨0,rfl,by omega,M0,hide (Gd.nil _),hide (World.grownBy.refl _ _),HI⟩
 case round=>
  obtain⟨i,rfl,hi,MK,DK,G0,HF⟩:=hrel;by_cases hlt:i<n4
  ·have li:(i:Int)<(n4:Int):=by omega
   have KW:=hide (zav (uq K0) (uq G0) (uq HBW));obtain⟨ad,rfl,hb,e0⟩:=(uq HC) i hlt;have hlt':=hide hlt;have HCRi:=hide ((uq HCR) i hlt);have HDi:=hide ((uq HD) i hlt);have HBi:=hide ((uq HB0) i hlt);have x0:=far_cell (uq KW) (by rw[add_block9];exact hb) e0;clear e0;have z0:=(uq G0).cell (uq Z0) (by simpa using uq HQB);have hbx:=heap_alloc_new wr (.cells #[.slice (RA i) (NR i) (RC i)] 62);have GA:=hide (World.grownBy_alloc wr (.cells #[.slice (RA i) (NR i) (RC i)] 62) (some b));have MA:=hide ((uq MK).keep ((Keep.refl wr).alloc (.cells #[.slice (RA i) (NR i) (RC i)] 62)))
   go_upto_region 5 with fail
   generalize hwa:wr.alloc (.cells #[.slice (RA i) (NR i) (RC i)] 62)=wa at hbx GA MA ⊢;obtain⟨q1,HQ1⟩:∃ q,Hid (wr.heap.size=q):=⟨_,hide rfl⟩;rw[uq HQ1]at hbx ⊢;have HQB1:Hid (q1≠b):=hide (by have:=(uq MK).lt;have:=uq HQ1;omega);have Z1:Hid (wa.cell? ⟨q1,0,none⟩=some (.slice (RA i) (NR i) (RC i))):=hide (by simp[World.cell?,hbx]);have G1:=hide ((uq G0).trans (uq GA));have KA:=hide (zav (uq K0) (uq G1) (uq HBW));clear hbx hwa x0 z0 GA;have z0:=(uq G1).cell (uq Z0) (by simpa using uq HQB);have z1:=uq Z1;by_cases g0:((NR i:Int)==0)=true
   ·have hr:=zab (uq HF) hlt (show grF NR N H MP p i=some (74,p) by unfold grF;rw[if_pos (.inl (by simp at g0;omega))]);subst hr;clear HF;go_wp2_with fail
    (refine((uq RX) _ _ _ _).mono ?_;rintro e w9 ⟨⟨hb9,rfl⟩|⟨hb9,rfl⟩,rfl⟩)
    ·clear hb9;go_wp2_with fail
     exact⟨rfl,uq KA,rfl⟩
    ·cases hb9
   have h0:((NR i:Int)==0)=false:=by simpa using g0
   have G0N:=hide g0;clear g0;go_wp2_with fail
   (refine((uq RX) _ _ _ _).mono ?_;rintro e wa ⟨⟨hb9,rfl⟩|⟨hb9,rfl⟩,rfl⟩)
   ·have hr:=zab (uq HF) hlt (show grF NR N H MP p i=some (74,p) by unfold grF;rw[if_pos (.inr (by simp at hb9;omega))]);subst hr;clear HF hb9;go_wp2_with fail
    exact⟨rfl,uq KA,rfl⟩
   have HG:=hide (show grF NR N H MP p i=fE (grR NR N H MP p i) 0 (NR i) by unfold grF;rw[if_neg (by have:=uq G0N;simp at hb9 this;omega)]);clear hb9 h0 G0N;obtain⟨r1,HR1⟩:∃ r1,Hid (fE (grR NR N H MP p i) 0 (NR i)=r1):=⟨_,hide rfl⟩;have HF1:Hid (fE (grR NR N H MP p i) 0 (NR i - 0)=r1):=HR1;have M1:Hid (Mp wa b (rgG NR N H i++rgR N H i 0)):=hide (by rw[show rgR N H i 0= []from rfl,List.append_nil];exact uq MA);have hN1:NR i≤9223372036854775807:=(uq HBi).1;go_wp2_with fail
   clear z0 z1 KA KW MA
   go_loopw [37] (fun iv wq=>∃ j:Nat,iv= .int .i64 (j:Int)∧j≤NR i∧Hid (Mp wq b (rgG NR N H i++rgR N H i j))∧Hid (Gd MP (rgG NR N H i++rgR N H i j))∧Hid (wa.grownBy wq (some b))∧Hid (fE (grR NR N H MP p i) j (NR i - j)=r1)) (fun iv _=>NR i - (intOf iv).toNat)
   case atStart=>exact⟨0,rfl,by omega,M1,hide (by rw[show rgR N H i 0= []from rfl,List.append_nil];exact uq DK),hide (World.grownBy.refl _ _),HF1⟩
   case round=>
    obtain⟨j,rfl,hj,MJ,DJ,GJ,HJ⟩:=hrel;obtain⟨wq,HWQ⟩:∃ wq,Hid (wr=wq):=⟨_,hide rfl⟩;have G2:=hide ((uq G1).trans (uq GJ));have KJ:=hide (zav (uq K0) (uq G2) (uq HBW));have z1:=(uq GJ).cell (uq Z1) (by simpa using uq HQB1);by_cases hjt:j<NR i
    ·have lj:(j:Int)<(NR i:Int):=by omega
     obtain⟨bd,hA,hbb,e0,e1⟩:=(uq HCRi) j hjt;have hjt':=hide hjt;have HDj:=hide ((uq HDi) j hjt);have HBj:=hide ((uq HBi).2 j hjt);have x0:=far_cell (uq KJ) (by rw[add_block9];exact hbb) e0;have x1:=far_cell (uq KJ) (by show(bd.add (j * 2)).block<_;rw[add_block9];exact hbb) e1;rw[hA]at z1 ⊢;clear e0 e1 hA hbb;have hbx:=heap_alloc_new wr (.cells #[.bool (F i j),.slice (A i j) (N i j) (C i j)] 59);have GB:=hide (World.grownBy_alloc wr (.cells #[.bool (F i j),.slice (A i j) (N i j) (C i j)] 59) (some b));have MB:=hide ((uq MJ).keep ((Keep.refl wr).alloc (.cells #[.bool (F i j),.slice (A i j) (N i j) (C i j)] 59)))
     go_upto_region 9 with fail
     generalize hwb:wr.alloc (.cells #[.bool (F i j),.slice (A i j) (N i j) (C i j)] 59)=wb at hbx GB MB ⊢;obtain⟨q2,HQ2⟩:∃ q,Hid (wr.heap.size=q):=⟨_,hide rfl⟩;rw[uq HQ2]at hbx ⊢;have HQB2:Hid (q2≠b):=hide (by have:=(uq MJ).lt;have:=uq HQ2;omega);have Z2:Hid (wb.cell? ⟨q2,1,none⟩=some (.slice (A i j) (N i j) (C i j))):=hide (by simp[World.cell?,hbx]);have G3:=hide ((uq G2).trans (uq GB));have GW:=hide ((uq GJ).trans (uq GB));have KB:=hide (zav (uq K0) (uq G3) (uq HBW));clear hbx hwb x0 x1 z1 GB;have z0:=(uq G3).cell (uq Z0) (by simpa using uq HQB);have z2:=uq Z2;by_cases g0:((N i j:Int)==0)=true
     ·have hr:=zab (uq HF) (uq hlt') ((uq HG).trans ((uq HR1).trans (zab (uq HJ) (uq hjt') (show grR NR N H MP p i j=some (74,p) by unfold grR;rw[if_pos (.inl (by simp at g0;omega))]))));subst hr;clear HF;go_wp2_with fail
      (refine((uq RX) _ _ _ _).mono ?_;rintro e w9 ⟨⟨hb9,rfl⟩|⟨hb9,rfl⟩,rfl⟩)
      ·clear hb9;go_wp2_with fail
       exact⟨rfl,uq KB,rfl⟩
      ·cases hb9
     have h0:((N i j:Int)==0)=false:=by simpa using g0
     have G0N:=hide g0;clear g0;go_wp2_with fail
     (refine((uq RX) _ _ _ _).mono ?_;rintro e wb ⟨⟨hb9,rfl⟩|⟨hb9,rfl⟩,rfl⟩)
     ·have hr:=zab (uq HF) (uq hlt') ((uq HG).trans ((uq HR1).trans (zab (uq HJ) (uq hjt') (show grR NR N H MP p i j=some (74,p) by unfold grR;rw[if_pos (.inr (by simp at hb9;omega))]))));subst hr;clear HF hb9;go_wp2_with fail
      exact⟨rfl,uq KB,rfl⟩
     have HH:=hide (show grR NR N H MP p i j=fE (grM NR N H MP p i j) 0 (N i j) by unfold grR;rw[if_neg (by have:=uq G0N;simp at hb9 this;omega)]);clear hb9 h0 G0N;obtain⟨r2,HR2⟩:∃ r2,Hid (fE (grM NR N H MP p i j) 0 (N i j)=r2):=⟨_,hide rfl⟩;have HF2:Hid (fE (grM NR N H MP p i j) 0 (N i j - 0)=r2):=HR2;have M2:Hid (Mp wb b (rgG NR N H i++rgR N H i j++zb0 H i j 0)):=hide (by rw[show zb0 H i j 0= []from rfl,List.append_nil];exact uq MB);have hN2:N i j≤9223372036854775807:=uq HBj;go_wp2_with fail
     clear z0 z2 KB KJ MB
     go_loopw [57] (fun iv wt=>∃ m:Nat,iv= .int .i64 (m:Int)∧m≤N i j∧Hid (Mp wt b (rgG NR N H i++rgR N H i j++zb0 H i j m))∧Hid (Gd MP (rgG NR N H i++rgR N H i j++zb0 H i j m))∧Hid (wb.grownBy wt (some b))∧Hid (fE (grM NR N H MP p i j) m (N i j - m)=r2)) (fun iv _=>N i j - (intOf iv).toNat)
     case atStart=>exact⟨0,rfl,by omega,M2,hide (by rw[show zb0 H i j 0= []from rfl,List.append_nil];exact uq DJ),hide (World.grownBy.refl _ _),HF2⟩
     case round=>
      obtain⟨m,rfl,hm,MM,DM,GM,HM⟩:=hrel;have G4:=hide ((uq G3).trans (uq GM));have KM:=hide (zav (uq K0) (uq G4) (uq HBW));have z0:=(uq G4).cell (uq Z0) (by simpa using uq HQB);have z2:=(uq GM).cell (uq Z2) (by simpa using uq HQB2);by_cases hmt:m<N i j
      ·have lm:(m:Int)<(N i j:Int):=by omega
       obtain⟨cd,hA,hbb,ec,hl⟩:=(uq HDj) m hmt;have xc:=far_cell (uq KM) (by rw[add_block9];exact hbb) ec;have HLm:=hide hl;rw[hA]at z2 ⊢;clear ec hl hA hbb;have TW:=hide (zag bp MP p (H i j m) _ ((uq HP).keep (uq KM)) (uq HLm));cases hw:hs MP (H i j m)
       ·have hr:=zab (uq HF) (uq hlt') ((uq HG).trans ((uq HR1).trans (zab (uq HJ) (uq hjt') ((uq HH).trans ((uq HR2).trans (zab (uq HM) hmt (show grM NR N H MP p i j m=some (72,p) by unfold grM;rw[if_neg (by rw[hw];decide)])))))));subst hr;rw[hw]at TW;clear HF hw;go_wp2_with fail
        (refine(uq TW).mono ?_;rintro e w3 ⟨rfl,rfl⟩;simp only[Bool.not_false,fl,En,if_true]);go_wp2_with fail
        exact⟨rfl,uq KM,rfl⟩
       have HW:=hide hw;rw[hw]at TW;clear hw;go_wp2_with fail
       (refine(uq TW).mono ?_;rintro e wr ⟨rfl,rfl⟩;simp only[Bool.not_true,fl,En,if_false,Bool.false_eq_true]);by_cases hh:hs (rgG NR N H i++rgR N H i j++zb0 H i j m) (H i j m)=true
       ·have hr:=zab (uq HF) (uq hlt') ((uq HG).trans ((uq HR1).trans (zab (uq HJ) (uq hjt') ((uq HH).trans ((uq HR2).trans (zab (uq HM) hmt (show grM NR N H MP p i j m=some (71,p) by unfold grM;rw[if_pos (uq HW),if_pos hh])))))));subst hr;clear HF;go_wp2_with fail
        (refine(zbN b _ p _ (H i j m) _ (uq MM) (uq HLm) hh).mono ?_;rintro e w3 ⟨rfl,rfl⟩);go_wp2_with fail
        exact⟨rfl,uq KM,rfl⟩
       have hh0:hs (rgG NR N H i++rgR N H i j++zb0 H i j m) (H i j m)=false:=by simpa using hh
       have HH1:=hide hh0;clear hh hh0;have hf:=zaY (uq HM) hmt (show grM NR N H MP p i j m=none by unfold grM;rw[if_pos (uq HW),if_neg (by rw[uq HH1];decide)]);have HF3:=hide hf;clear hf;go_wp2_with fail
       (refine(zcj b _ p _ (H i j m) _ (uq MM) (uq HLm) (by have:=((uq DM).add (i:Int) (uq HW) (uq HH1)).len;rw[List.length_append]at this;unfold maxLen;simp at this ⊢;omega) (zcQ (by omega)) (uq HH1)).mono ?_;rintro e w3 ⟨rfl,hM3,hG3⟩);have HN3:Hid (Mp w3 b (rgG NR N H i++rgR N H i j++zb0 H i j (m+1))):=hide (by rw[zb1,← List.append_assoc];exact hM3);have GM3:=hide ((uq GM).trans hG3);clear hM3 hG3;go_wp2_with fail
       go_roundw
       case rel=>exact⟨m+1,by go_num,by omega,HN3,hide (by rw[zb1,← List.append_assoc];exact(uq DM).add _ (uq HW) (uq HH1)),GM3,HF3⟩
       case measure=>simp[intOf];omega
      ·have lm:¬(m:Int)<(N i j:Int):=by omega
       obtain rfl:m=N i j:=by omega
       have hr2:=zaF (uq HM) (by omega);have hf:=zaY (uq HJ) (uq hjt') ((uq HH).trans ((uq HR2).trans hr2));have HF3:=hide hf;have MM2:Hid (Mp _ b (rgG NR N H i++rgR N H i (j+1))):=hide (by rw[show rgR N H i (j+1)=rgR N H i j++zb0 H i j (N i j)from rfl,← List.append_assoc];exact uq MM);clear hf hr2;go_wp2_with fail
       go_roundw
       case rel=>exact⟨j+1,by go_num,by omega,MM2,hide (by rw[show rgR N H i (j+1)=rgR N H i j++zb0 H i j (N i j)from rfl,← List.append_assoc];exact uq DM),hide ((uq GW).trans (uq GM)),HF3⟩
       case measure=>simp[intOf];omega
    ·have lj:¬(j:Int)<(NR i:Int):=by omega
     obtain rfl:j=NR i:=by omega
     have hr1:=zaF (uq HJ) (by omega);have hf:=zaY (uq HF) (uq hlt') ((uq HG).trans ((uq HR1).trans hr1));have HF3:=hide hf;have MM2:Hid (Mp _ b (rgG NR N H (i+1))):=MJ;clear hf hr1;go_wp2_with fail
     go_roundw
     case rel=>exact⟨i+1,by go_num,by omega,MM2,DJ,G2,HF3⟩
     case measure=>simp[intOf];omega
  ·have li:¬(i:Int)<(n4:Int):=by omega
   have hr:=zaF (uq HF) (by omega);subst hr;obtain rfl:i=n4:=by omega
   go_wp2_with fail
   go_ret;exact⟨zav (uq K0) (uq G0) (uq HBW),b,rfl,uq HBW,uq MK⟩
end V
end Go.Proofs.YtpmaonkelkmhbaaGreat
