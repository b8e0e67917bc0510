/- The document's answer for layer 7: where a name stands. -/
import Derived.Test.YtpmaonkelkmhbaaGreatVTc
import Derived.Deep.DrawnRows
import Derived.Deep.RegionHeld3
import Derived.Test.YtpmaonkelkmhbaaGreatLSkip
namespace Go.Proofs.YtpmaonkelkmhbaaGreat
open Go.RowKit
attribute [local go_sem ↓] Go.wp_at_zero Go.wp_at_succ
set_option linter.unusedVariables false
set_option linter.unusedSimpArgs false
set_option maxRecDepth 10000
namespace V
set_option maxHeartbeats 2000000 in
theorem zhl (a0 a1 a2 a3 a4:Int) (aN:Option Addr) (nN cN:Nat) (aS:Option Addr) (nS cS:Nat) (a5 a6:Int) (nm:List UInt8) (T:Nat→List UInt8) (r:Int) (w:World) (hn:nN≤9223372036854775807)
  (HC:Hid (∀ k,k<nN→∃ ad,aN=some ad∧ad.block<w.heap.size∧w.cell? (ad.add (k * 7))=some (.string (sv (T k))))) (HI:Hid (ix (fun k=>T k==nm) 0 nN=r)):
  Calls Tryz.prog 11 #[.agg #[.int .i64 a0,.int .i64 a1,.int .i64 a2,.int .i64 a3,.int .i64 a4,.slice aN nN cN,.slice aS nS cS,.int .i64 a5,.int .i64 a6],.string (sv nm)] w fun e w'=>e= .returned (.int .i64 r)∧Keep w w':=by
 have K:=hide ((Keep.refl w).alloc (.cells #[.int .i64 a0,.int .i64 a1,.int .i64 a2,.int .i64 a3,.int .i64 a4,.slice aN nN cN,.slice aS nS cS,.int .i64 a5,.int .i64 a6] 27));go_enter Tryz.func11,Tryz.ntmps11;go_wp2_with fail
 go_loop [5] (fun vi=>∃ k:Nat,k≤nN∧vi= .int .i64 (k:Int)∧Hid (ix (fun k=>T k==nm) k (nN - k)=r)) (fun vi=>nN - (intOf vi).toNat)
 case atStart=>exact⟨0,Nat.zero_le _,rfl,HI⟩
 case round=>
  obtain⟨k,hk,rfl,HF⟩:=hrel;by_cases hlt:k<nN
  ·have li:(k:Int)<(nN:Int):=by omega
   obtain⟨ad,rfl,hb,ck⟩:=(uq HC) k hlt;have hb':(ad.add (k * 7)).block<w.heap.size:=by rw[add_block9];exact hb
   have ck':=far_cell (uq K) hb' ck;have e:=sv_beq (T k) nm;clear ck;cases hB:(T k==nm)
   ·have HF2:=hide (zdt (uq HF) hlt hB);rw[hB]at e;clear hB HF;go_wp2_with fail
    exact⟨⟨k+1,hlt,by go_num,HF2⟩,by simp[intOf];omega⟩
   ·have hr:=zb3 (uq HF) hlt hB;rw[hB]at e;subst hr;clear hB HF;go_wp2_with fail
    go_ret;exact⟨rfl,uq K⟩
  ·have li:¬(k:Int)<(nN:Int):=by omega
   have hr:=zb4 (uq HF) (by omega);subst hr;go_wp2_with fail
   go_ret;exact⟨rfl,uq K⟩
set_option maxHeartbeats 2000000 in
theorem zhm (s:ByteArray) (x1:Option Addr) (n1 c1:Nat) (x2:Option Addr) (n2 c2:Nat) (x3:Option Addr) (n3 c3:Nat) (x4:Option Addr) (n4 c4:Nat) (x5:Option Addr) (n5 c5:Nat) (p:Int) (nm:List UInt8) (T:Nat→List UInt8) (r:Int) (w:World) (hn:n1≤9223372036854775807)
  (HC:Hid (∀ k,k<n1→∃ ad,x1=some ad∧ad.block<w.heap.size∧w.cell? (ad.add (k * 11))=some (.string (sv (T k))))) (HI:Hid (ix (fun k=>T k==nm) 0 n1=r)):
  Calls Tryz.prog 26 #[.agg #[.string s,.slice x1 n1 c1,.slice x2 n2 c2,.slice x3 n3 c3,.slice x4 n4 c4,.slice x5 n5 c5,.int .i64 p],.string (sv nm)] w fun e w'=>e= .returned (.int .i64 r)∧Keep w w':=by
 have K:=hide ((Keep.refl w).alloc (.cells #[.string s,.slice x1 n1 c1,.slice x2 n2 c2,.slice x3 n3 c3,.slice x4 n4 c4,.slice x5 n5 c5,.int .i64 p] 39));go_enter Tryz.func26,Tryz.ntmps26;go_wp2_with fail
 go_loop [5] (fun vi=>∃ k:Nat,k≤n1∧vi= .int .i64 (k:Int)∧Hid (ix (fun k=>T k==nm) k (n1 - k)=r)) (fun vi=>n1 - (intOf vi).toNat)
 case atStart=>exact⟨0,Nat.zero_le _,rfl,HI⟩
 case round=>
  obtain⟨k,hk,rfl,HF⟩:=hrel;by_cases hlt:k<n1
  ·have li:(k:Int)<(n1:Int):=by omega
   obtain⟨ad,rfl,hb,ck⟩:=(uq HC) k hlt;have hb':(ad.add (k * 11)).block<w.heap.size:=by rw[add_block9];exact hb
   have ck':=far_cell (uq K) hb' ck;have e:=sv_beq (T k) nm;clear ck;cases hB:(T k==nm)
   ·have HF2:=hide (zdt (uq HF) hlt hB);rw[hB]at e;clear hB HF;go_wp2_with fail
    exact⟨⟨k+1,hlt,by go_num,HF2⟩,by simp[intOf];omega⟩
   ·have hr:=zb3 (uq HF) hlt hB;rw[hB]at e;subst hr;clear hB HF;go_wp2_with fail
    go_ret;exact⟨rfl,uq K⟩
  ·have li:¬(k:Int)<(n1:Int):=by omega
   have hr:=zb4 (uq HF) (by omega);subst hr;go_wp2_with fail
   go_ret;exact⟨rfl,uq K⟩
set_option maxHeartbeats 2000000 in
theorem zfU (s:ByteArray) (x1:Option Addr) (n1 c1:Nat) (x2:Option Addr) (n2 c2:Nat) (x3:Option Addr) (n3 c3:Nat) (x4:Option Addr) (n4 c4:Nat) (x5:Option Addr) (n5 c5:Nat) (p:Int) (nm:List UInt8) (T:Nat→List UInt8) (r:Int) (w:World) (hn:n3≤9223372036854775807)
  (HC:Hid (∀ k,k<n3→∃ ad,x3=some ad∧ad.block<w.heap.size∧w.cell? (ad.add (k * 3))=some (.string (sv (T k))))) (HI:Hid (ix (fun k=>T k==nm) 0 n3=r)):
  Calls Tryz.prog 43 #[.agg #[.string s,.slice x1 n1 c1,.slice x2 n2 c2,.slice x3 n3 c3,.slice x4 n4 c4,.slice x5 n5 c5,.int .i64 p],.string (sv nm)] w fun e w'=>e= .returned (.int .i64 r)∧Keep w w':=by
 have K:=hide ((Keep.refl w).alloc (.cells #[.string s,.slice x1 n1 c1,.slice x2 n2 c2,.slice x3 n3 c3,.slice x4 n4 c4,.slice x5 n5 c5,.int .i64 p] 39));go_enter Tryz.func43,Tryz.ntmps43;go_wp2_with fail
 go_loop [5] (fun vi=>∃ k:Nat,k≤n3∧vi= .int .i64 (k:Int)∧Hid (ix (fun k=>T k==nm) k (n3 - k)=r)) (fun vi=>n3 - (intOf vi).toNat)
 case atStart=>exact⟨0,Nat.zero_le _,rfl,HI⟩
 case round=>
  obtain⟨k,hk,rfl,HF⟩:=hrel;by_cases hlt:k<n3
  ·have li:(k:Int)<(n3:Int):=by omega
   obtain⟨ad,rfl,hb,ck⟩:=(uq HC) k hlt;have hb':(ad.add (k * 3)).block<w.heap.size:=by rw[add_block9];exact hb
   have ck':=far_cell (uq K) hb' ck;have e:=sv_beq (T k) nm;clear ck;cases hB:(T k==nm)
   ·have HF2:=hide (zdt (uq HF) hlt hB);rw[hB]at e;clear hB HF;go_wp2_with fail
    exact⟨⟨k+1,hlt,by go_num,HF2⟩,by simp[intOf];omega⟩
   ·have hr:=zb3 (uq HF) hlt hB;rw[hB]at e;subst hr;clear hB HF;go_wp2_with fail
    go_ret;exact⟨rfl,uq K⟩
  ·have li:¬(k:Int)<(n3:Int):=by omega
   have hr:=zb4 (uq HF) (by omega);subst hr;go_wp2_with fail
   go_ret;exact⟨rfl,uq K⟩
set_option maxHeartbeats 1000000 in
theorem zcC (a:Option Addr) (n cap:Nat) (H:Nat→List UInt8) (nm:List UInt8) (w:World) (hn:n≤9223372036854775807)
  (HC:Hid (∀ k,k<n→∃ ad,a=some ad∧w.cell? (ad.add k)=some (.string (sv (H k))))):
  Calls Tryz.prog 20 #[.string (sv nm),.slice a n cap] w fun e w'=>e= .returned (.bool (decide (0≤ix (fun k=>nm==H k) 0 n)))∧w'=w:=by
 obtain⟨r,HI⟩:∃ r,Hid (ix (fun k=>nm==H k) 0 n=r):=⟨_,hide rfl⟩;rw[uq HI];have HI0:Hid (ix (fun k=>nm==H k) 0 (n - 0)=r):=HI;go_enter Tryz.func20,Tryz.ntmps20;go_wp2_with fail
 go_loop [5] (fun vi=>∃ k:Nat,k≤n∧vi= .int .i64 (k:Int)∧Hid (ix (fun k=>nm==H k) k (n - k)=r)) (fun vi=>n - (intOf vi).toNat)
 case atStart=>exact⟨0,Nat.zero_le _,rfl,HI0⟩
 case round=>
  obtain⟨k,hk,rfl,HF⟩:=hrel;by_cases hlt:k<n
  ·have li:(k:Int)<(n:Int):=by omega
   obtain⟨ad,rfl,ck⟩:=(uq HC) k hlt;have e:=sv_beq (H k) nm;rw[show(H k==nm)=(nm==H k) by rw[Bool.eq_iff_iff,beq_iff_eq,beq_iff_eq];exact eq_comm]at e;cases hB:(nm==H k)
   ·have HF2:=hide (zdt (uq HF) hlt hB);rw[hB]at e;clear hB HF;go_wp2_with fail
    exact⟨⟨k+1,hlt,by go_num,HF2⟩,by simp[intOf];omega⟩
   ·have hr:=zb3 (uq HF) hlt hB;rw[hB]at e;subst hr;clear hB HF;go_wp2_with fail
    go_ret;exact⟨by simp,rfl⟩
  ·have li:¬(k:Int)<(n:Int):=by omega
   have hr:=zb4 (uq HF) (by omega);subst hr;go_wp2_with fail
   go_ret;exact⟨rfl,rfl⟩
set_option maxHeartbeats 2000000 in
theorem zhn (s:ByteArray) (x1:Option Addr) (n1 c1:Nat) (x2:Option Addr) (n2 c2:Nat) (x3:Option Addr) (n3 c3:Nat) (x4:Option Addr) (n4 c4:Nat) (x5:Option Addr) (n5 c5:Nat) (p:Int) (nm:List UInt8) (A:Nat→Option Addr) (N C:Nat→Nat) (B:Nat→Bool) (r:Int) (w:World) (hn:n3≤9223372036854775807)
  (HC:Hid (∀ k,k<n3→∃ ad,x3=some ad∧ad.block<w.heap.size∧w.cell? ⟨(ad.add (k * 3)).block,(ad.add (k * 3)).off+1,none⟩=some (.slice (A k) (N k) (C k))))
  (TI:Hid (∀ k,k<n3→∀ w',Keep w w'→Calls Tryz.prog 20 #[.string (sv nm),.slice (A k) (N k) (C k)] w' fun e w''=>e= .returned (.bool (B k))∧w''=w')) (HI:Hid (ix B 0 n3=r)):
  Calls Tryz.prog 8 #[.agg #[.string s,.slice x1 n1 c1,.slice x2 n2 c2,.slice x3 n3 c3,.slice x4 n4 c4,.slice x5 n5 c5,.int .i64 p],.string (sv nm)] w fun e w'=>e= .returned (.int .i64 r)∧Keep w w':=by
 have K:=hide ((Keep.refl w).alloc (.cells #[.string s,.slice x1 n1 c1,.slice x2 n2 c2,.slice x3 n3 c3,.slice x4 n4 c4,.slice x5 n5 c5,.int .i64 p] 39));go_enter Tryz.func8,Tryz.ntmps8;go_wp2_with fail
 go_loop [5] (fun vi=>∃ k:Nat,k≤n3∧vi= .int .i64 (k:Int)∧Hid (ix B k (n3 - k)=r)) (fun vi=>n3 - (intOf vi).toNat)
 case atStart=>exact⟨0,Nat.zero_le _,rfl,HI⟩
 case round=>
  obtain⟨k,hk,rfl,HF⟩:=hrel;by_cases hlt:k<n3
  ·have li:(k:Int)<(n3:Int):=by omega
   obtain⟨ad,rfl,hb,ck⟩:=(uq HC) k hlt;have hb':(ad.add (k * 3)).block<w.heap.size:=by rw[add_block9];exact hb
   have ck':=far_cell (a:=⟨(ad.add (k * 3)).block,(ad.add (k * 3)).off+1,none⟩) (uq K) hb' ck;have TK:=hide ((uq TI) k hlt _ (uq K));clear ck;cases hB:B k
   ·have HF2:=hide (zdt (uq HF) hlt hB);rw[hB]at TK;clear hB HF;go_wp2_with fail
    (refine(uq TK).mono ?_;rintro e w2 ⟨rfl,rfl⟩);go_wp2_with fail
    exact⟨⟨k+1,hlt,by go_num,HF2⟩,by simp[intOf];omega⟩
   ·have hr:=zb3 (uq HF) hlt hB;rw[hB]at TK;subst hr;clear hB HF;go_wp2_with fail
    (refine(uq TK).mono ?_;rintro e w2 ⟨rfl,rfl⟩);go_wp2_with fail
    go_ret;exact⟨rfl,uq K⟩
  ·have li:¬(k:Int)<(n3:Int):=by omega
   have hr:=zb4 (uq HF) (by omega);subst hr;go_wp2_with fail
   go_ret;exact⟨rfl,uq K⟩
open S
theorem ziu {w:World} {a0 a1 a2 a3 a4:Int} {aN:Option Addr} {cN:Nat} {aS:Option Addr} {nS cS:Nat} {a5 a6:Int} {LN:List (List D)} (nm:List UInt8) (hL:∀ ds∈LN,ShL za5 ds) (HA:Rvss w aN 7 LN 0) (hn:LN.length≤maxLen):
  Calls Tryz.prog 11 #[.agg #[.int .i64 a0,.int .i64 a1,.int .i64 a2,.int .i64 a3,.int .i64 a4,.slice aN LN.length cN,.slice aS nS cS,.int .i64 a5,.int .i64 a6],.string (sv nm)] w fun e w'=>e= .returned (.int .i64 (nI LN nm))∧Keep w w':=
 zhl a0 a1 a2 a3 a4 aN LN.length cN aS nS cS a5 a6 nm (tn LN) _ w hn (hide fun k hk=>by obtain⟨ad,e,hb,h,_⟩:=S.clNode (Keep.refl w) hL HA k hk;exact⟨ad,e,hb,h⟩) (hide rfl)
theorem zfa {w:World} {s:ByteArray} {x1:Option Addr} {c1:Nat} {x2:Option Addr} {n2 c2:Nat} {x3:Option Addr} {n3 c3:Nat} {x4:Option Addr} {n4 c4:Nat} {x5:Option Addr} {n5 c5:Nat} {p:Int} {L:List (List D)} (nm:List UInt8)
  (hL:∀ ds∈L,ShL zcs ds) (HA:Rvss w x1 11 L 0) (hn:L.length≤maxLen):Calls Tryz.prog 26 #[.agg #[.string s,.slice x1 L.length c1,.slice x2 n2 c2,.slice x3 n3 c3,.slice x4 n4 c4,.slice x5 n5 c5,.int .i64 p],.string (sv nm)] w fun e w'=>e= .returned (.int .i64 (nI L nm))∧Keep w w':=
 zhm s x1 L.length c1 x2 n2 c2 x3 n3 c3 x4 n4 c4 x5 n5 c5 p nm (tn L) _ w hn (hide fun k hk=>by obtain⟨ad,e,hb,h,_⟩:=S.clHead (Keep.refl w) hL HA k hk;exact⟨ad,e,hb,h⟩) (hide rfl)
theorem zho {w:World} {s:ByteArray} {x1:Option Addr} {n1 c1:Nat} {x2:Option Addr} {n2 c2:Nat} {x3:Option Addr} {c3:Nat} {x4:Option Addr} {n4 c4:Nat} {x5:Option Addr} {n5 c5:Nat} {p:Int} {L:List (List D)} (nm:List UInt8)
  (hL:∀ ds∈L,ShL zba ds) (HA:Rvss w x3 3 L 0) (hn:L.length≤maxLen):Calls Tryz.prog 43 #[.agg #[.string s,.slice x1 n1 c1,.slice x2 n2 c2,.slice x3 L.length c3,.slice x4 n4 c4,.slice x5 n5 c5,.int .i64 p],.string (sv nm)] w fun e w'=>e= .returned (.int .i64 (nI L nm))∧Keep w w':=
 zfU s x1 n1 c1 x2 n2 c2 x3 L.length c3 x4 n4 c4 x5 n5 c5 p nm (tn L) _ w hn (hide fun k hk=>by obtain⟨ad,e,hb,h,_⟩:=S.clPhase (Keep.refl w) hL HA k hk;exact⟨ad,e,hb,h⟩) (hide rfl)
theorem zdE {w:World} {s:ByteArray} {x1:Option Addr} {n1 c1:Nat} {x2:Option Addr} {n2 c2:Nat} {x3:Option Addr} {c3:Nat} {x4:Option Addr} {n4 c4:Nat} {x5:Option Addr} {n5 c5:Nat} {p:Int} {L:List (List D)} (nm:List UInt8)
  (hL:∀ ds∈L,ShL zba ds) (HA:Rvss w x3 3 L 0) (hn:L.length≤maxLen):Calls Tryz.prog 8 #[.agg #[.string s,.slice x1 n1 c1,.slice x2 n2 c2,.slice x3 L.length c3,.slice x4 n4 c4,.slice x5 n5 c5,.int .i64 p],.string (sv nm)] w fun e w'=>e= .returned (.int .i64 (hI L nm))∧Keep w w':=
 zhn s x1 n1 c1 x2 n2 c2 x3 L.length c3 x4 n4 c4 x5 n5 c5 p nm (sA w x3 3 1) (ln L 1) (sC w x3 3 1) (fun k=>cI (sub L 1 k) nm) _ w hn
  (hide fun k hk=>by
   obtain⟨ad,e,hb,h0,h1,h2⟩:=S.clPhase (Keep.refl w) hL HA k hk;rw[(rsPhase hL HA k hk).1]at h1;exact⟨ad,e,hb,h1⟩)
  (hide fun j hj w' k=>by
   obtain⟨r1,r2,r3,r4⟩:=rsPhase hL HA j hj;exact zcC _ (ln L 1 j) _ (sb L 1 j) nm w' (zcR (w:=w) (a:=x3) hL j hj) (hide fun m hm=>by
    obtain⟨ad,e,hb,h0,hl⟩:=clName r4 (Rvss.keep k _ _ _ _ r3) m hm;exact⟨ad,e,h0⟩)) (hide rfl)
end V
namespace V
def ez:Eq2→Int×Int
 |none=>(0,0)
 |some x=>x
def Zq (r:Eq2) (w:World) (e:Ending) (w':World):Prop:=Keep w w'∧e= .returned (.tuple #[.int .i64 (ez r).1,.int .i64 (ez r).2])
theorem zcD (n a b:Int) (w:World):Calls Tryz.prog 10 #[.int .i64 n,.int .i64 a,.int .i64 b] w fun e w'=>e= .returned (.bool (btw a n b))∧w'=w:=by
 unfold btw
 go_enter Tryz.func10,Tryz.ntmps10;by_cases h1:a≤n
 ·by_cases h2:n≤b
  ·go_wp2_with fail
   go_ret;exact⟨by simp[h1,h2],rfl⟩
  ·go_wp2_with fail
   go_ret;exact⟨by simp[h1,h2],rfl⟩
 ·go_wp2_with fail
  go_ret;exact⟨by simp;omega,rfl⟩
theorem ahead (T:Nat→List UInt8) {k n:Nat} (hk:k<n):ix (fun j=>T j==T k) 0 n<(k:Int)↔hs (mk T k) (T k)=true:=by
 have h1:∀(m k0:Nat),k0≤k→k<k0+m→(ix (fun j=>T j==T k) k0 m<(k:Int)↔∃ j,k0≤j∧j<k∧T j=T k):=by
  intro m
  induction m with
  |zero=>intro k0 h1 h2;omega
  |succ m ih=>
   intro k0 h1 h2
   unfold ix
   by_cases hb:T k0=T k
   ·rw[if_pos (by simp[hb])];constructor
    ·intro h;exact⟨k0,Nat.le_refl _,by omega,hb⟩
    ·rintro⟨j,h3,h4,h5⟩;omega
   ·rw[if_neg (by simp[hb])];have hne:k0≠k:=fun e=>hb (by rw[e])
    rw[ih (k0+1) (by omega) (by omega)];constructor
    ·rintro⟨j,h3,h4,h5⟩;exact⟨j,by omega,h4,h5⟩
    ·rintro⟨j,h3,h4,h5⟩;rcases Nat.eq_or_lt_of_le h3 with e|e
     ·subst e;exact absurd h5 hb
     ·exact⟨j,e,h4,h5⟩
 rw[h1 n 0 (Nat.zero_le _) (by omega),zbb];simp only[mk,List.map_map,List.mem_map,List.mem_range,Function.comp];constructor
 ·rintro⟨j,_,h4,h5⟩;exact⟨j,h4,h5⟩
 ·rintro⟨j,h4,h5⟩;exact⟨j,Nat.zero_le _,h4,h5⟩
set_option maxHeartbeats 4000000 in
theorem zey (s:ByteArray) (x1:Option Addr) (n1 c1:Nat) (x2:Option Addr) (n2 c2:Nat) (x3:Option Addr) (n3 c3:Nat) (x4:Option Addr) (n4 c4:Nat) (x5:Option Addr) (n5 c5:Nat) (p:Int) (T:Nat→List UInt8) (V1 V2 V3 V4 V5 V6 V7 V8 V9 P:Nat→Int) (r:Eq2) (w:World) (hn:n1≤9223372036854775807)
  (HC:Hid (∀ k,k<n1→∃ ad,x1=some ad∧ad.block<w.heap.size∧w.cell? (ad.add (k * 11))=some (.string (sv (T k)))∧w.cell? ⟨(ad.add (k * 11)).block,(ad.add (k * 11)).off+1,none⟩=some (.int .i64 (V1 k))∧w.cell? ⟨(ad.add (k * 11)).block,(ad.add (k * 11)).off+2,none⟩=some (.int .i64 (V2 k))∧w.cell? ⟨(ad.add (k * 11)).block,(ad.add (k * 11)).off+3,none⟩=some (.int .i64 (V3 k))∧w.cell? ⟨(ad.add (k * 11)).block,(ad.add (k * 11)).off+4,none⟩=some (.int .i64 (V4 k))∧w.cell? ⟨(ad.add (k * 11)).block,(ad.add (k * 11)).off+5,none⟩=some (.int .i64 (V5 k))∧w.cell? ⟨(ad.add (k * 11)).block,(ad.add (k * 11)).off+6,none⟩=some (.int .i64 (V6 k))∧w.cell? ⟨(ad.add (k * 11)).block,(ad.add (k * 11)).off+7,none⟩=some (.int .i64 (V7 k))∧w.cell? ⟨(ad.add (k * 11)).block,(ad.add (k * 11)).off+8,none⟩=some (.int .i64 (V8 k))∧w.cell? ⟨(ad.add (k * 11)).block,(ad.add (k * 11)).off+9,none⟩=some (.int .i64 (V9 k))∧w.cell? ⟨(ad.add (k * 11)).block,(ad.add (k * 11)).off+10,none⟩=some (.int .i64 (P k))))
  (TH:Hid (∀ nm w',Keep w w'→Calls Tryz.prog 26 #[.agg #[.string s,.slice x1 n1 c1,.slice x2 n2 c2,.slice x3 n3 c3,.slice x4 n4 c4,.slice x5 n5 c5,.int .i64 p],.string (sv nm)] w' fun e w''=>e= .returned (.int .i64 (ix (fun k=>T k==nm) 0 n1))∧Keep w' w''))
  (HI:Hid (fE (hdF T (fun k=>zbs (V1 k) (V2 k) (V3 k) (V4 k) (V5 k) (V6 k) (V7 k) (V8 k) (V9 k)) P) 0 n1=r)):
  Calls Tryz.prog 21 #[.agg #[.string s,.slice x1 n1 c1,.slice x2 n2 c2,.slice x3 n3 c3,.slice x4 n4 c4,.slice x5 n5 c5,.int .i64 p]] w (Zq r w):=by
 have TB:=hide zcD;have hnw:=heap_alloc_new w (.cells #[.string s,.slice x1 n1 c1,.slice x2 n2 c2,.slice x3 n3 c3,.slice x4 n4 c4,.slice x5 n5 c5,.int .i64 p] 39);have K0:=hide ((Keep.refl w).alloc (.cells #[.string s,.slice x1 n1 c1,.slice x2 n2 c2,.slice x3 n3 c3,.slice x4 n4 c4,.slice x5 n5 c5,.int .i64 p] 39));go_enter Tryz.func21,Tryz.ntmps21
 go_upto_region 1 with fail
 generalize w.alloc (.cells #[.string s,.slice x1 n1 c1,.slice x2 n2 c2,.slice x3 n3 c3,.slice x4 n4 c4,.slice x5 n5 c5,.int .i64 p] 39)=w0 at hnw K0 ⊢;obtain⟨q0,HQ0⟩:∃ q,Hid (w.heap.size=q):=⟨_,hide rfl⟩;rw[uq HQ0]at hnw ⊢;have HX0:Hid (∀ w':World,Keep w0 w'→w'.cell? ⟨q0,0,none⟩=some (.string s)∧w'.cell? ⟨q0,1,none⟩=some (.slice x1 n1 c1)∧w'.cell? ⟨q0,2,none⟩=some (.slice x2 n2 c2)∧w'.cell? ⟨q0,3,none⟩=some (.slice x3 n3 c3)∧w'.cell? ⟨q0,4,none⟩=some (.slice x4 n4 c4)∧w'.cell? ⟨q0,5,none⟩=some (.slice x5 n5 c5)∧w'.cell? ⟨q0,6,none⟩=some (.int .i64 p)):=hide (fun w' k9=>by
  have h1:=k9.block q0 (Array.getElem?_eq_some_iff.1 hnw).1;rw[hnw]at h1;refine⟨?_,?_,?_,?_,?_,?_,?_⟩<;>simp[World.cell?,h1])
 clear hnw;go_wp2_with fail
 go_loopw [4] (fun vi wr=>∃ k:Nat,vi= .int .i64 (k:Int)∧k≤n1∧Hid (Keep w0 wr)∧Hid (fE (hdF T (fun k=>zbs (V1 k) (V2 k) (V3 k) (V4 k) (V5 k) (V6 k) (V7 k) (V8 k) (V9 k)) P) k (n1 - k)=r)) (fun vi _=>n1 - (intOf vi).toNat)
 case atStart=>exact⟨0,rfl,by omega,hide (Keep.refl _),HI⟩
 case round=>
  obtain⟨k,rfl,hk,KW,HF⟩:=hrel;obtain⟨z0,z1,z2,z3,z4,z5,z6⟩:=(uq HX0) wr (uq KW);by_cases hlt:k<n1
  ·have li:(k:Int)<(n1:Int):=by omega
   have KWW:=hide ((uq K0).trans (uq KW));obtain⟨ad,rfl,hb,e0,e1,e2,e3,e4,e5,e6,e7,e8,e9,e10⟩:=(uq HC) k hlt;have y0:=far_cell (uq KWW) (by rw[add_block9];exact hb) e0;have y1:=far_cell (uq KWW) (by show(ad.add (k * 11)).block<_;rw[add_block9];exact hb) e1;have y2:=far_cell (uq KWW) (by show(ad.add (k * 11)).block<_;rw[add_block9];exact hb) e2;have y3:=far_cell (uq KWW) (by show(ad.add (k * 11)).block<_;rw[add_block9];exact hb) e3;have y4:=far_cell (uq KWW) (by show(ad.add (k * 11)).block<_;rw[add_block9];exact hb) e4;have y5:=far_cell (uq KWW) (by show(ad.add (k * 11)).block<_;rw[add_block9];exact hb) e5;have y6:=far_cell (uq KWW) (by show(ad.add (k * 11)).block<_;rw[add_block9];exact hb) e6;have y7:=far_cell (uq KWW) (by show(ad.add (k * 11)).block<_;rw[add_block9];exact hb) e7;have y8:=far_cell (uq KWW) (by show(ad.add (k * 11)).block<_;rw[add_block9];exact hb) e8;have y9:=far_cell (uq KWW) (by show(ad.add (k * 11)).block<_;rw[add_block9];exact hb) e9;have y10:=far_cell (uq KWW) (by show(ad.add (k * 11)).block<_;rw[add_block9];exact hb) e10;clear e0 e1 e2 e3 e4 e5 e6 e7 e8 e9 e10;have hbx:=heap_alloc_new wr (.cells #[.string (sv (T k)),.int .i64 (V1 k),.int .i64 (V2 k),.int .i64 (V3 k),.int .i64 (V4 k),.int .i64 (V5 k),.int .i64 (V6 k),.int .i64 (V7 k),.int .i64 (V8 k),.int .i64 (V9 k),.int .i64 (P k)] 84);have KB:=hide ((uq KW).alloc (.cells #[.string (sv (T k)),.int .i64 (V1 k),.int .i64 (V2 k),.int .i64 (V3 k),.int .i64 (V4 k),.int .i64 (V5 k),.int .i64 (V6 k),.int .i64 (V7 k),.int .i64 (V8 k),.int .i64 (V9 k),.int .i64 (P k)] 84))
   go_upto_region 5 with fail
   generalize wr.alloc (.cells #[.string (sv (T k)),.int .i64 (V1 k),.int .i64 (V2 k),.int .i64 (V3 k),.int .i64 (V4 k),.int .i64 (V5 k),.int .i64 (V6 k),.int .i64 (V7 k),.int .i64 (V8 k),.int .i64 (V9 k),.int .i64 (P k)] 84)=wa at hbx KB ⊢;obtain⟨q,HQ⟩:∃ q,Hid (wr.heap.size=q):=⟨_,hide rfl⟩;rw[uq HQ]at hbx ⊢;have HXX:Hid (∀ w':World,Keep wa w'→(w'.cell? ⟨q0,0,none⟩=some (.string s)∧w'.cell? ⟨q0,1,none⟩=some (.slice (some ad) n1 c1)∧w'.cell? ⟨q0,2,none⟩=some (.slice x2 n2 c2)∧w'.cell? ⟨q0,3,none⟩=some (.slice x3 n3 c3)∧w'.cell? ⟨q0,4,none⟩=some (.slice x4 n4 c4)∧w'.cell? ⟨q0,5,none⟩=some (.slice x5 n5 c5)∧w'.cell? ⟨q0,6,none⟩=some (.int .i64 p))∧w'.cell? ⟨q,0,none⟩=some (.string (sv (T k)))∧w'.cell? ⟨q,1,none⟩=some (.int .i64 (V1 k))∧w'.cell? ⟨q,2,none⟩=some (.int .i64 (V2 k))∧w'.cell? ⟨q,3,none⟩=some (.int .i64 (V3 k))∧w'.cell? ⟨q,4,none⟩=some (.int .i64 (V4 k))∧w'.cell? ⟨q,5,none⟩=some (.int .i64 (V5 k))∧w'.cell? ⟨q,6,none⟩=some (.int .i64 (V6 k))∧w'.cell? ⟨q,7,none⟩=some (.int .i64 (V7 k))∧w'.cell? ⟨q,8,none⟩=some (.int .i64 (V8 k))∧w'.cell? ⟨q,9,none⟩=some (.int .i64 (V9 k))∧w'.cell? ⟨q,10,none⟩=some (.int .i64 (P k))):=hide (fun w' k9=>by
    have h1:=k9.block q (Array.getElem?_eq_some_iff.1 hbx).1;rw[hbx]at h1;refine⟨(uq HX0) w' ((uq KB).trans k9),?_,?_,?_,?_,?_,?_,?_,?_,?_,?_,?_⟩<;>simp[World.cell?,h1])
   clear hbx y0 y1 y2 y3 y4 y5 y6 y7 y8 y9 y10 z0 z1 z2 z3 z4 z5 z6;obtain⟨⟨z0,z1,z2,z3,z4,z5,z6⟩,f0,f1,f2,f3,f4,f5,f6,f7,f8,f9,f10⟩:=(uq HXX) wa (Keep.refl wa);obtain⟨j,HJ⟩:∃ j,Hid (ix (fun m=>T m==T k) 0 n1=j):=⟨_,hide rfl⟩;have TK:=hide ((uq TH) (T k) wa ((uq K0).trans (uq KB)));rw[uq HJ]at TK;have hja:=ahead T hlt;rw[uq HJ]at hja;go_wp2_with fail
   (refine(uq TK).mono ?_;rintro e w2 ⟨rfl,hk9⟩;have K2:=hide (hk9);clear hk9);obtain⟨⟨z0,z1,z2,z3,z4,z5,z6⟩,f0,f1,f2,f3,f4,f5,f6,f7,f8,f9,f10⟩:=(uq HXX) w2 (uq K2);by_cases hh:hs (mk T k) (T k)=true
   ·have hj:j<(k:Int):=hja.2 hh;have hr:=zab (uq HF) hlt (show hdF T _ P k=some (71,P k) by unfold hdF;rw[if_pos hh]);subst hr;clear HF hja hh
    go_upto_region 6 with fail
    refine wp_region_held_drew (S:=(fun w'=>w'.cell? ⟨q,10,none⟩=some (.int .i64 (P k)))) (by kernel_rfl) (by(obtain⟨⟨_,_,_,_,_,_,_⟩,_,_,_,_,_,_,_,_,_,_,g9⟩:=(uq HXX) _ (uq K2).drew;exact g9)) (fun hHeld=>?_);refine tkk 0 24 hHeld ?_;try simp only[Act.put,Ya,Yb,Yc]
    refine tkk 1 25 hHeld ?_;try simp only[Act.put,Ya,Yb,Yc]
    refine tkk 2 2 hHeld ?_;try simp only[Act.put,Ya,Yb,Yc]
    refine tkk 3 3 hHeld ?_;try simp only[Act.put,Ya,Yb,Yc]
    refine wpAnyH_done (by kernel_rfl) ?_ _;clear hHeld;go_wp2_with fail
    go_ret2;exact⟨(uq K0).trans ((uq KB).trans ((uq K2).drew)),rfl⟩
   have hj:¬j<(k:Int):=fun h=>hh (hja.1 h)
   have hh0:hs (mk T k) (T k)=false:=by simpa using hh
   have HH0:=hide hh0;clear hja hh hh0;go_wp2_with fail
   (refine((uq TB) _ _ _ _).mono ?_;rintro e w2 ⟨rfl,rfl⟩);cases hB1:btw 0 (V1 k) 1000000000
   ·have hR:(zbs (V1 k) (V2 k) (V3 k) (V4 k) (V5 k) (V6 k) (V7 k) (V8 k) (V9 k))=false:=by simp only[zbs,zcY,hB1,Bool.false_and,Bool.true_and,Bool.and_false]
    have hr:=zab (uq HF) hlt (show hdF T _ P k=some (70,P k) by unfold hdF;rw[if_neg (by rw[uq HH0];decide),if_neg (fun h=>by have h2:(zbs (V1 k) (V2 k) (V3 k) (V4 k) (V5 k) (V6 k) (V7 k) (V8 k) (V9 k))=true:=h;rw[hR]at h2;cases h2)]);subst hr;clear HF hR
    go_upto_region 8 with fail
    refine wp_region_held_drew (S:=(fun w'=>w'.cell? ⟨q,10,none⟩=some (.int .i64 (P k)))) (by kernel_rfl) (by(obtain⟨⟨_,_,_,_,_,_,_⟩,_,_,_,_,_,_,_,_,_,_,g9⟩:=(uq HXX) _ (uq K2).drew;exact g9)) (fun hHeld=>?_);refine tkk 0 80 hHeld ?_;try simp only[Act.put,Ya,Yb,Yc]
    refine tkk 1 81 hHeld ?_;try simp only[Act.put,Ya,Yb,Yc]
    refine tkk 2 2 hHeld ?_;try simp only[Act.put,Ya,Yb,Yc]
    refine tkk 3 3 hHeld ?_;try simp only[Act.put,Ya,Yb,Yc]
    refine wpAnyH_done (by kernel_rfl) ?_ _;clear hHeld;go_wp2_with fail
    go_ret2;exact⟨(uq K0).trans ((uq KB).trans ((uq K2).drew)),rfl⟩
   go_wp2_with fail
   (refine((uq TB) _ _ _ _).mono ?_;rintro e w2 ⟨rfl,rfl⟩);cases hB2:btw 1 (V2 k) 1000000000
   ·have hR:(zbs (V1 k) (V2 k) (V3 k) (V4 k) (V5 k) (V6 k) (V7 k) (V8 k) (V9 k))=false:=by simp only[zbs,zcY,hB1,hB2,Bool.false_and,Bool.true_and,Bool.and_false]
    have hr:=zab (uq HF) hlt (show hdF T _ P k=some (70,P k) by unfold hdF;rw[if_neg (by rw[uq HH0];decide),if_neg (fun h=>by have h2:(zbs (V1 k) (V2 k) (V3 k) (V4 k) (V5 k) (V6 k) (V7 k) (V8 k) (V9 k))=true:=h;rw[hR]at h2;cases h2)]);subst hr;clear HF hR
    go_upto_region 8 with fail
    refine wp_region_held_drew (S:=(fun w'=>w'.cell? ⟨q,10,none⟩=some (.int .i64 (P k)))) (by kernel_rfl) (by(obtain⟨⟨_,_,_,_,_,_,_⟩,_,_,_,_,_,_,_,_,_,_,g9⟩:=(uq HXX) _ (uq K2).drew;exact g9)) (fun hHeld=>?_);refine tkk 0 80 hHeld ?_;try simp only[Act.put,Ya,Yb,Yc]
    refine tkk 1 81 hHeld ?_;try simp only[Act.put,Ya,Yb,Yc]
    refine tkk 2 2 hHeld ?_;try simp only[Act.put,Ya,Yb,Yc]
    refine tkk 3 3 hHeld ?_;try simp only[Act.put,Ya,Yb,Yc]
    refine wpAnyH_done (by kernel_rfl) ?_ _;clear hHeld;go_wp2_with fail
    go_ret2;exact⟨(uq K0).trans ((uq KB).trans ((uq K2).drew)),rfl⟩
   go_wp2_with fail
   (refine((uq TB) _ _ _ _).mono ?_;rintro e w2 ⟨rfl,rfl⟩);cases hB3:btw 1 (V3 k) 1000000000
   ·have hR:(zbs (V1 k) (V2 k) (V3 k) (V4 k) (V5 k) (V6 k) (V7 k) (V8 k) (V9 k))=false:=by simp only[zbs,zcY,hB1,hB2,hB3,Bool.false_and,Bool.true_and,Bool.and_false]
    have hr:=zab (uq HF) hlt (show hdF T _ P k=some (70,P k) by unfold hdF;rw[if_neg (by rw[uq HH0];decide),if_neg (fun h=>by have h2:(zbs (V1 k) (V2 k) (V3 k) (V4 k) (V5 k) (V6 k) (V7 k) (V8 k) (V9 k))=true:=h;rw[hR]at h2;cases h2)]);subst hr;clear HF hR
    go_upto_region 8 with fail
    refine wp_region_held_drew (S:=(fun w'=>w'.cell? ⟨q,10,none⟩=some (.int .i64 (P k)))) (by kernel_rfl) (by(obtain⟨⟨_,_,_,_,_,_,_⟩,_,_,_,_,_,_,_,_,_,_,g9⟩:=(uq HXX) _ (uq K2).drew;exact g9)) (fun hHeld=>?_);refine tkk 0 80 hHeld ?_;try simp only[Act.put,Ya,Yb,Yc]
    refine tkk 1 81 hHeld ?_;try simp only[Act.put,Ya,Yb,Yc]
    refine tkk 2 2 hHeld ?_;try simp only[Act.put,Ya,Yb,Yc]
    refine tkk 3 3 hHeld ?_;try simp only[Act.put,Ya,Yb,Yc]
    refine wpAnyH_done (by kernel_rfl) ?_ _;clear hHeld;go_wp2_with fail
    go_ret2;exact⟨(uq K0).trans ((uq KB).trans ((uq K2).drew)),rfl⟩
   go_wp2_with fail
   (refine((uq TB) _ _ _ _).mono ?_;rintro e w2 ⟨rfl,rfl⟩);cases hB4:btw 1 (V4 k) 1000000000
   ·have hR:(zbs (V1 k) (V2 k) (V3 k) (V4 k) (V5 k) (V6 k) (V7 k) (V8 k) (V9 k))=false:=by simp only[zbs,zcY,hB1,hB2,hB3,hB4,Bool.false_and,Bool.true_and,Bool.and_false]
    have hr:=zab (uq HF) hlt (show hdF T _ P k=some (70,P k) by unfold hdF;rw[if_neg (by rw[uq HH0];decide),if_neg (fun h=>by have h2:(zbs (V1 k) (V2 k) (V3 k) (V4 k) (V5 k) (V6 k) (V7 k) (V8 k) (V9 k))=true:=h;rw[hR]at h2;cases h2)]);subst hr;clear HF hR
    go_upto_region 8 with fail
    refine wp_region_held_drew (S:=(fun w'=>w'.cell? ⟨q,10,none⟩=some (.int .i64 (P k)))) (by kernel_rfl) (by(obtain⟨⟨_,_,_,_,_,_,_⟩,_,_,_,_,_,_,_,_,_,_,g9⟩:=(uq HXX) _ (uq K2).drew;exact g9)) (fun hHeld=>?_);refine tkk 0 80 hHeld ?_;try simp only[Act.put,Ya,Yb,Yc]
    refine tkk 1 81 hHeld ?_;try simp only[Act.put,Ya,Yb,Yc]
    refine tkk 2 2 hHeld ?_;try simp only[Act.put,Ya,Yb,Yc]
    refine tkk 3 3 hHeld ?_;try simp only[Act.put,Ya,Yb,Yc]
    refine wpAnyH_done (by kernel_rfl) ?_ _;clear hHeld;go_wp2_with fail
    go_ret2;exact⟨(uq K0).trans ((uq KB).trans ((uq K2).drew)),rfl⟩
   go_wp2_with fail
   (refine((uq TB) _ _ _ _).mono ?_;rintro e w2 ⟨rfl,rfl⟩);cases hB5:btw 1 (V5 k) 10000
   ·have hR:(zbs (V1 k) (V2 k) (V3 k) (V4 k) (V5 k) (V6 k) (V7 k) (V8 k) (V9 k))=false:=by simp only[zbs,zcY,hB1,hB2,hB3,hB4,hB5,Bool.false_and,Bool.true_and,Bool.and_false]
    have hr:=zab (uq HF) hlt (show hdF T _ P k=some (70,P k) by unfold hdF;rw[if_neg (by rw[uq HH0];decide),if_neg (fun h=>by have h2:(zbs (V1 k) (V2 k) (V3 k) (V4 k) (V5 k) (V6 k) (V7 k) (V8 k) (V9 k))=true:=h;rw[hR]at h2;cases h2)]);subst hr;clear HF hR
    go_upto_region 8 with fail
    refine wp_region_held_drew (S:=(fun w'=>w'.cell? ⟨q,10,none⟩=some (.int .i64 (P k)))) (by kernel_rfl) (by(obtain⟨⟨_,_,_,_,_,_,_⟩,_,_,_,_,_,_,_,_,_,_,g9⟩:=(uq HXX) _ (uq K2).drew;exact g9)) (fun hHeld=>?_);refine tkk 0 80 hHeld ?_;try simp only[Act.put,Ya,Yb,Yc]
    refine tkk 1 81 hHeld ?_;try simp only[Act.put,Ya,Yb,Yc]
    refine tkk 2 2 hHeld ?_;try simp only[Act.put,Ya,Yb,Yc]
    refine tkk 3 3 hHeld ?_;try simp only[Act.put,Ya,Yb,Yc]
    refine wpAnyH_done (by kernel_rfl) ?_ _;clear hHeld;go_wp2_with fail
    go_ret2;exact⟨(uq K0).trans ((uq KB).trans ((uq K2).drew)),rfl⟩
   go_wp2_with fail
   (refine((uq TB) _ _ _ _).mono ?_;rintro e w2 ⟨rfl,rfl⟩);cases hB6:btw (-200) (V6 k) 200
   ·have hR:(zbs (V1 k) (V2 k) (V3 k) (V4 k) (V5 k) (V6 k) (V7 k) (V8 k) (V9 k))=false:=by simp only[zbs,zcY,hB1,hB2,hB3,hB4,hB5,hB6,Bool.false_and,Bool.true_and,Bool.and_false]
    have hr:=zab (uq HF) hlt (show hdF T _ P k=some (70,P k) by unfold hdF;rw[if_neg (by rw[uq HH0];decide),if_neg (fun h=>by have h2:(zbs (V1 k) (V2 k) (V3 k) (V4 k) (V5 k) (V6 k) (V7 k) (V8 k) (V9 k))=true:=h;rw[hR]at h2;cases h2)]);subst hr;clear HF hR
    go_upto_region 8 with fail
    refine wp_region_held_drew (S:=(fun w'=>w'.cell? ⟨q,10,none⟩=some (.int .i64 (P k)))) (by kernel_rfl) (by(obtain⟨⟨_,_,_,_,_,_,_⟩,_,_,_,_,_,_,_,_,_,_,g9⟩:=(uq HXX) _ (uq K2).drew;exact g9)) (fun hHeld=>?_);refine tkk 0 80 hHeld ?_;try simp only[Act.put,Ya,Yb,Yc]
    refine tkk 1 81 hHeld ?_;try simp only[Act.put,Ya,Yb,Yc]
    refine tkk 2 2 hHeld ?_;try simp only[Act.put,Ya,Yb,Yc]
    refine tkk 3 3 hHeld ?_;try simp only[Act.put,Ya,Yb,Yc]
    refine wpAnyH_done (by kernel_rfl) ?_ _;clear hHeld;go_wp2_with fail
    go_ret2;exact⟨(uq K0).trans ((uq KB).trans ((uq K2).drew)),rfl⟩
   go_wp2_with fail
   (refine((uq TB) _ _ _ _).mono ?_;rintro e w2 ⟨rfl,rfl⟩);cases hB7:btw 0 (V7 k) 100000
   ·have hR:(zbs (V1 k) (V2 k) (V3 k) (V4 k) (V5 k) (V6 k) (V7 k) (V8 k) (V9 k))=false:=by simp only[zbs,zcY,hB1,hB2,hB3,hB4,hB5,hB6,hB7,Bool.false_and,Bool.true_and,Bool.and_false]
    have hr:=zab (uq HF) hlt (show hdF T _ P k=some (70,P k) by unfold hdF;rw[if_neg (by rw[uq HH0];decide),if_neg (fun h=>by have h2:(zbs (V1 k) (V2 k) (V3 k) (V4 k) (V5 k) (V6 k) (V7 k) (V8 k) (V9 k))=true:=h;rw[hR]at h2;cases h2)]);subst hr;clear HF hR
    go_upto_region 8 with fail
    refine wp_region_held_drew (S:=(fun w'=>w'.cell? ⟨q,10,none⟩=some (.int .i64 (P k)))) (by kernel_rfl) (by(obtain⟨⟨_,_,_,_,_,_,_⟩,_,_,_,_,_,_,_,_,_,_,g9⟩:=(uq HXX) _ (uq K2).drew;exact g9)) (fun hHeld=>?_);refine tkk 0 80 hHeld ?_;try simp only[Act.put,Ya,Yb,Yc]
    refine tkk 1 81 hHeld ?_;try simp only[Act.put,Ya,Yb,Yc]
    refine tkk 2 2 hHeld ?_;try simp only[Act.put,Ya,Yb,Yc]
    refine tkk 3 3 hHeld ?_;try simp only[Act.put,Ya,Yb,Yc]
    refine wpAnyH_done (by kernel_rfl) ?_ _;clear hHeld;go_wp2_with fail
    go_ret2;exact⟨(uq K0).trans ((uq KB).trans ((uq K2).drew)),rfl⟩
   go_wp2_with fail
   (refine((uq TB) _ _ _ _).mono ?_;rintro e w2 ⟨rfl,rfl⟩);cases hB8:btw 0 (V8 k) 100000
   ·have hR:(zbs (V1 k) (V2 k) (V3 k) (V4 k) (V5 k) (V6 k) (V7 k) (V8 k) (V9 k))=false:=by simp only[zbs,zcY,hB1,hB2,hB3,hB4,hB5,hB6,hB7,hB8,Bool.false_and,Bool.true_and,Bool.and_false]
    have hr:=zab (uq HF) hlt (show hdF T _ P k=some (70,P k) by unfold hdF;rw[if_neg (by rw[uq HH0];decide),if_neg (fun h=>by have h2:(zbs (V1 k) (V2 k) (V3 k) (V4 k) (V5 k) (V6 k) (V7 k) (V8 k) (V9 k))=true:=h;rw[hR]at h2;cases h2)]);subst hr;clear HF hR
    go_upto_region 8 with fail
    refine wp_region_held_drew (S:=(fun w'=>w'.cell? ⟨q,10,none⟩=some (.int .i64 (P k)))) (by kernel_rfl) (by(obtain⟨⟨_,_,_,_,_,_,_⟩,_,_,_,_,_,_,_,_,_,_,g9⟩:=(uq HXX) _ (uq K2).drew;exact g9)) (fun hHeld=>?_);refine tkk 0 80 hHeld ?_;try simp only[Act.put,Ya,Yb,Yc]
    refine tkk 1 81 hHeld ?_;try simp only[Act.put,Ya,Yb,Yc]
    refine tkk 2 2 hHeld ?_;try simp only[Act.put,Ya,Yb,Yc]
    refine tkk 3 3 hHeld ?_;try simp only[Act.put,Ya,Yb,Yc]
    refine wpAnyH_done (by kernel_rfl) ?_ _;clear hHeld;go_wp2_with fail
    go_ret2;exact⟨(uq K0).trans ((uq KB).trans ((uq K2).drew)),rfl⟩
   go_wp2_with fail
   (refine((uq TB) _ _ _ _).mono ?_;rintro e w2 ⟨rfl,rfl⟩);cases hB9:btw 1 (V9 k) 6000
   ·have hR:(zbs (V1 k) (V2 k) (V3 k) (V4 k) (V5 k) (V6 k) (V7 k) (V8 k) (V9 k))=false:=by simp only[zbs,zcY,hB1,hB2,hB3,hB4,hB5,hB6,hB7,hB8,hB9,Bool.false_and,Bool.true_and,Bool.and_false]
    have hr:=zab (uq HF) hlt (show hdF T _ P k=some (70,P k) by unfold hdF;rw[if_neg (by rw[uq HH0];decide),if_neg (fun h=>by have h2:(zbs (V1 k) (V2 k) (V3 k) (V4 k) (V5 k) (V6 k) (V7 k) (V8 k) (V9 k))=true:=h;rw[hR]at h2;cases h2)]);subst hr;clear HF hR
    go_upto_region 8 with fail
    refine wp_region_held_drew (S:=(fun w'=>w'.cell? ⟨q,10,none⟩=some (.int .i64 (P k)))) (by kernel_rfl) (by(obtain⟨⟨_,_,_,_,_,_,_⟩,_,_,_,_,_,_,_,_,_,_,g9⟩:=(uq HXX) _ (uq K2).drew;exact g9)) (fun hHeld=>?_);refine tkk 0 80 hHeld ?_;try simp only[Act.put,Ya,Yb,Yc]
    refine tkk 1 81 hHeld ?_;try simp only[Act.put,Ya,Yb,Yc]
    refine tkk 2 2 hHeld ?_;try simp only[Act.put,Ya,Yb,Yc]
    refine tkk 3 3 hHeld ?_;try simp only[Act.put,Ya,Yb,Yc]
    refine wpAnyH_done (by kernel_rfl) ?_ _;clear hHeld;go_wp2_with fail
    go_ret2;exact⟨(uq K0).trans ((uq KB).trans ((uq K2).drew)),rfl⟩
   have hR:(zbs (V1 k) (V2 k) (V3 k) (V4 k) (V5 k) (V6 k) (V7 k) (V8 k) (V9 k))=true:=by simp only[zbs,zcY,hB1,hB2,hB3,hB4,hB5,hB6,hB7,hB8,hB9,Bool.and_self]
   have HF2:=hide (zaY (uq HF) hlt (show hdF T _ P k=none by unfold hdF;rw[if_neg (by rw[uq HH0];decide),if_pos hR]));clear HF hR;go_wp2_with fail
   go_roundw
   case rel=>exact⟨k+1,by go_num,by omega,hide ((uq KB).trans (uq K2)),HF2⟩
   case measure=>simp[intOf];omega
  ·have li:¬(k:Int)<(n1:Int):=by omega
   have hr:=zaF (uq HF) (by omega);subst hr;go_wp2_with fail
   go_ret2;exact⟨(uq K0).trans (uq KW),rfl⟩
end V
end Go.Proofs.YtpmaonkelkmhbaaGreat
