/- Layer 7's laws: how often a name stands in a node's rings. -/
import Derived.Test.YtpdcabfabghbkaaVHd
import Derived.Test.YtpdcabfabghbkaaVIx
import Derived.Deep.DrawnRows
import Derived.Deep.RegionHeld3
namespace Go.Proofs.Ytpdcabfabghbkaa
open Go.RowKit
attribute [local go_sem ↓] Go.wp_at_zero Go.wp_at_succ
set_option linter.unusedVariables false
set_option linter.unusedSimpArgs false
set_option maxRecDepth 10000
namespace V
def cq (f:Nat→Bool):Nat→Nat
 |0=>0
 |k+1=>cq f k+if f k then 1 else 0
def sm (g:Nat→Nat):Nat→Nat
 |0=>0
 |k+1=>sm g k+g k
theorem ze7 (g:Nat→Nat) {k n:Nat} (h:k≤n):sm g k≤sm g n:=by
 induction n with
 |zero=>
  have:k=0:=by omega
  subst this;exact Nat.le_refl _
 |succ n ih=>
  rcases Nat.lt_or_ge k (n+1)with h1|h1
  ·exact Nat.le_trans (ih (by omega)) (Nat.le_add_right _ _)
  ·have:k=n+1:=by omega
   subst this;exact Nat.le_refl _
theorem zif (f:Nat→Bool) {k n:Nat} (h:k≤n):cq f k≤cq f n:=by
 induction n with
 |zero=>
  have:k=0:=by omega
  subst this;exact Nat.le_refl _
 |succ n ih=>
  rcases Nat.lt_or_ge k (n+1)with h1|h1
  ·exact Nat.le_trans (ih (by omega)) (Nat.le_add_right _ _)
  ·have:k=n+1:=by omega
   subst this;exact Nat.le_refl _
theorem zj1 {G:Nat→Nat} {f:Nat→Bool} {i n a b:Nat} (hi:i<n) (hg:G i=cq f b) (ha:a≤b):sm G i+cq f a≤sm G n:=by
 have h1:=ze7 G (show i+1≤n by omega);have h2:=zif f ha;simp only[sm]at h1;omega
theorem zkQ {G:Nat→Nat} {Hf:Nat→Nat} {f:Nat→Bool} {i n j m a b:Nat} (hi:i<n) (hg:G i=sm Hf m) (hj:j<m) (hh:Hf j=cq f b) (ha:a≤b):sm G i+sm Hf j+cq f a≤sm G n:=by
 have h1:=ze7 G (show i+1≤n by omega);have h2:=zj1 (G:=Hf) hj hh ha;simp only[sm]at h1;omega
def zir (NR:Nat→Nat) (N:Nat→Nat→Nat) (H:Nat→Nat→Nat→List UInt8) (nm:List UInt8) (n:Nat):Nat:=sm (fun i=>sm (fun j=>cq (fun m=>H i j m==nm) (N i j)) (NR i)) n
set_option maxHeartbeats 8000000 in
theorem zd9 (s:ByteArray) (x1:Option Addr) (n1 c1:Nat) (x2:Option Addr) (n2 c2:Nat) (x3:Option Addr) (n3 c3:Nat) (x4:Option Addr) (n4 c4:Nat) (x5:Option Addr) (n5 c5:Nat) (p:Int) (nm:List UInt8) (RA:Nat→Option Addr) (NR RC:Nat→Nat) (F:Nat→Nat→Bool) (A:Nat→Nat→Option Addr) (N C:Nat→Nat→Nat) (H:Nat→Nat→Nat→List UInt8) (w:World) (hn:n4≤9223372036854775807)
  (HB0:Hid (∀ i,i<n4→NR i≤9223372036854775807∧∀ j,j<NR i→N i j≤9223372036854775807))
  (HC:Hid (∀ i,i<n4→∃ ad,x4=some ad∧ad.block<w.heap.size∧w.cell? (ad.add i)=some (.slice (RA i) (NR i) (RC i))))
  (HCR:Hid (∀ i,i<n4→∀ j,j<NR i→∃ bd,RA i=some bd∧bd.block<w.heap.size∧w.cell? (bd.add (j * 2))=some (.bool (F i j))∧w.cell? ⟨(bd.add (j * 2)).block,(bd.add (j * 2)).off+1,none⟩=some (.slice (A i j) (N i j) (C i j))))
  (HD:Hid (∀ i,i<n4→∀ j,j<NR i→∀ m,m<N i j→∃ cd,A i j=some cd∧cd.block<w.heap.size∧w.cell? (cd.add m)=some (.string (sv (H i j m)))∧(H i j m).length≤maxLen))
  (HT:Hid (zir NR N H nm n4≤1000)):
  Calls Try.prog 19 #[.agg #[.string s,.slice x1 n1 c1,.slice x2 n2 c2,.slice x3 n3 c3,.slice x4 n4 c4,.slice x5 n5 c5,.int .i64 p],.string (sv nm)] w fun e w'=>e= .returned (.int .i64 (zir NR N H nm n4:Nat))∧Keep w w':=by
 have hnw:=heap_alloc_new w (.cells #[.string s,.slice x1 n1 c1,.slice x2 n2 c2,.slice x3 n3 c3,.slice x4 n4 c4,.slice x5 n5 c5,.int .i64 p] 40);have K1:=hide ((Keep.refl w).alloc (.cells #[.string s,.slice x1 n1 c1,.slice x2 n2 c2,.slice x3 n3 c3,.slice x4 n4 c4,.slice x5 n5 c5,.int .i64 p] 40));go_enter Try.func19,Try.ntmps19
 go_upto_region 1 with fail
 generalize w.alloc (.cells #[.string s,.slice x1 n1 c1,.slice x2 n2 c2,.slice x3 n3 c3,.slice x4 n4 c4,.slice x5 n5 c5,.int .i64 p] 40)=wb at hnw K1 ⊢;obtain⟨x,HXX⟩:∃ x,Hid (w.heap.size=x):=⟨_,hide rfl⟩;rw[uq HXX]at hnw ⊢;have f4:wb.cell? ⟨x,4,none⟩=some (.slice x4 n4 c4):=by simp[World.cell?,hnw]
 clear hnw;obtain⟨G,HG⟩:∃ G:Nat→Nat,Hid (G=fun i=>sm (fun j=>cq (fun m=>H i j m==nm) (N i j)) (NR i)):=⟨_,hide rfl⟩;have HTT:Hid (zir NR N H nm n4=sm G n4):=hide (by rw[uq HG];rfl);have HGI:Hid (∀ i,G i=sm (fun j=>cq (fun m=>H i j m==nm) (N i j)) (NR i)):=hide (fun i=>by rw[uq HG]);clear HG;go_wp2_with fail
 go_loopw [5,6] (fun nv iv wr=>∃ i:Nat,i≤n4∧iv= .int .i64 (i:Int)∧nv= .int .i64 ((sm G i:Nat):Int)∧wr=wb) (fun _ iv _=>n4 - (intOf iv).toNat)
 case atStart=>exact⟨0,Nat.zero_le _,rfl,rfl,rfl⟩
 case round=>
  obtain⟨i,hi,rfl,rfl,rfl⟩:=hrel;by_cases hlt:i<n4
  ·have li:(i:Int)<(n4:Int):=by omega
   obtain⟨ad,hA,hb,e0⟩:=(uq HC) i hlt;have y0:=zab (uq K1) (by rw[zaa];exact hb) e0;have f4':=f4;rw[hA]at f4';have hb0:=((uq HB0) i hlt).1;clear hA e0 f4;obtain⟨Hf,HHF⟩:∃ g:Nat→Nat,Hid (g=fun j=>cq (fun m=>H i j m==nm) (N i j)):=⟨_,hide rfl⟩;have HHI:Hid (∀ j,Hf j=cq (fun m=>H i j m==nm) (N i j)):=hide (fun j=>by rw[uq HHF]);have HGi:Hid (G i=sm Hf (NR i)):=hide (by rw[uq HGI,uq HHF]);clear HHF;go_wp2_with fail
   go_loopw [5,7] (fun nv jv wq=>∃ j:Nat,j≤NR i∧jv= .int .i64 (j:Int)∧nv= .int .i64 ((sm G i+sm Hf j:Nat):Int)∧wq=wr) (fun _ jv _=>NR i - (intOf jv).toNat)
   case atStart=>exact⟨0,Nat.zero_le _,rfl,rfl,rfl⟩
   case round=>
    obtain⟨j,hj,rfl,rfl,rfl⟩:=hrel;by_cases hlj:j<NR i
    ·have lj:(j:Int)<(NR i:Int):=by omega
     obtain⟨bd,hR,hbb,_,r1⟩:=(uq HCR) i hlt j hlj;have z1:=zab (uq K1) (by show(bd.add (j * 2)).block<_;rw[zaa];exact hbb) r1;have y1:=y0;rw[hR]at y1;have hbj:=((uq HB0) i hlt).2 j hlj;have HHj:Hid (Hf j=cq (fun m=>H i j m==nm) (N i j)):=hide ((uq HHI) j);clear hR r1 y0;go_wp2_with fail
     go_loopw [5,8] (fun nv mv wq=>∃ m:Nat,m≤N i j∧mv= .int .i64 (m:Int)∧nv= .int .i64 ((sm G i+sm Hf j+cq (fun m=>H i j m==nm) m:Nat):Int)∧wq=wr) (fun _ mv _=>N i j - (intOf mv).toNat)
     case atStart=>exact⟨0,Nat.zero_le _,rfl,rfl,rfl⟩
     case round=>
      obtain⟨m,hm,rfl,rfl,rfl⟩:=hrel;by_cases hlm:m<N i j
      ·have lm:(m:Int)<(N i j:Int):=by omega
       obtain⟨cd,hQ,hbc,t0,_⟩:=(uq HD) i hlt j hlj m hlm;have u1:=zab (uq K1) (by rw[zaa];exact hbc) t0;have z2:=z1;rw[hQ]at z2;have hpart:=zkQ hlt (uq HGi) hlj (uq HHj) (show m+1≤N i j from hlm);have htot:=uq HT;rw[uq HTT]at htot;have hsucc:cq (fun m=>H i j m==nm) (m+1)=cq (fun m=>H i j m==nm) m+if(H i j m==nm)then 1 else 0:=rfl
       rw[hsucc]at hpart;clear hQ t0 hsucc z1;cases hq:(H i j m==nm)with
       |true=>
        rw[hq]at hpart;have hsq:((sv (H i j m)).toList==(sv nm).toList)=true:=by rw[zbW];exact hq
        have HQ:=hide hq;simp only[if_true]at hpart;have HPT:=hide hpart;have hbd:((sm G i+sm Hf j+cq (fun m=>H i j m==nm) m:Nat):Int)≤1000:=by omega
        obtain⟨V,hV⟩:∃ V:Nat,sm G i+sm Hf j+cq (fun m=>H i j m==nm) m=V:=⟨_,rfl⟩;rw[hV]at hbd ⊢;have HV:=hide hV;clear hq hpart htot hV;go_wp2_with fail
        go_roundw
        case rel=>exact⟨m+1,hlm,by go_num,by rw[show cq (fun m=>H i j m==nm) (m+1)=cq (fun m=>H i j m==nm) m+1 by show _+(if(H i j m==nm)then 1 else 0)=_;rw[uq HQ];rfl,← Nat.add_assoc,uq HV];go_num,trivial⟩
        case measure=>simp[intOf];omega
       |false=>
        have hsq:((sv (H i j m)).toList==(sv nm).toList)=false:=by rw[zbW];exact hq
        have HQ:=hide hq;clear hq hpart htot;obtain⟨V,hV⟩:∃ V:Nat,sm G i+sm Hf j+cq (fun m=>H i j m==nm) m=V:=⟨_,rfl⟩;rw[hV];have HV:=hide hV;clear hV;go_wp2_with fail
        go_roundw
        case rel=>exact⟨m+1,hlm,by go_num,by rw[show cq (fun m=>H i j m==nm) (m+1)=cq (fun m=>H i j m==nm) m by show _+(if(H i j m==nm)then 1 else 0)=_;rw[uq HQ];rfl,uq HV],trivial⟩
        case measure=>simp[intOf];omega
      ·have lm:¬(m:Int)<(N i j:Int):=by omega
       have hmm:m=N i j:=by omega
       subst hmm;go_wp2_with fail
       go_roundw
       case rel=>exact⟨j+1,hlj,by go_num,by rw[show sm Hf (j+1)=sm Hf j+Hf j from rfl,uq HHj,Nat.add_assoc],trivial⟩
       case measure=>simp[intOf];omega
    ·have lj:¬(j:Int)<(NR i:Int):=by omega
     have hjj:j=NR i:=by omega
     subst hjj;go_wp2_with fail
     go_roundw
     case rel=>exact⟨i+1,hlt,by go_num,by rw[show sm G (i+1)=sm G i+G i from rfl,uq HGi],trivial⟩
     case measure=>simp[intOf];omega
  ·have li:¬(i:Int)<(n4:Int):=by omega
   have hii:i=n4:=by omega
   subst hii;go_wp2_with fail
   go_ret;exact⟨by rw[uq HTT];rfl,uq K1⟩
end V
end Go.Proofs.Ytpdcabfabghbkaa
