/- The document's answer for layer 7: where a name stands. -/
import Derived.Test.YthbfohohelflnaaVTc
import Derived.Deep.DrawnRows
import Derived.Deep.RegionHeld3
namespace Go.Proofs.Ythbfohohelflnaa
open Go.RowKit
attribute [local go_sem ↓] Go.wp_at_zero Go.wp_at_succ
set_option linter.unusedVariables false
set_option linter.unusedSimpArgs false
set_option maxRecDepth 10000
namespace V
set_option maxHeartbeats 2000000 in
theorem zfj (a0 a1 a2 a3 a4:Int) (aN:Option Addr) (nN cN:Nat) (aS:Option Addr) (nS cS:Nat) (a5 a6:Int) (nm:List UInt8) (T:Nat→List UInt8) (r:Int) (w:World) (hn:nN≤9223372036854775807)
  (HC:Hid (∀ k,k<nN→∃ ad,aN=some ad∧ad.block<w.heap.size∧w.cell? (ad.add (k * 7))=some (.string (sv (T k))))) (HI:Hid (ix (fun k=>T k==nm) 0 nN=r)):
  Calls Try.prog 15 #[.agg #[.int .i64 a0,.int .i64 a1,.int .i64 a2,.int .i64 a3,.int .i64 a4,.slice aN nN cN,.slice aS nS cS,.int .i64 a5,.int .i64 a6],.string (sv nm)] w fun e w'=>e= .returned (.int .i64 r)∧Keep w w':=by
 have K:=hide ((Keep.refl w).alloc (.cells #[.int .i64 a0,.int .i64 a1,.int .i64 a2,.int .i64 a3,.int .i64 a4,.slice aN nN cN,.slice aS nS cS,.int .i64 a5,.int .i64 a6] 27));go_enter Try.func15,Try.ntmps15;go_wp2_with fail
 go_loop [5] (fun vi=>∃ k:Nat,k≤nN∧vi= .int .i64 (k:Int)∧Hid (ix (fun k=>T k==nm) k (nN - k)=r)) (fun vi=>nN - (intOf vi).toNat)
 case atStart=>exact⟨0,Nat.zero_le _,rfl,HI⟩
 case round=>
  obtain⟨k,hk,rfl,HF⟩:=hrel;by_cases hlt:k<nN
  ·have li:(k:Int)<(nN:Int):=by omega
   obtain⟨ad,rfl,hb,ck⟩:=(uq HC) k hlt;have hb':(ad.add (k * 7)).block<w.heap.size:=by rw[zaa];exact hb
   have ck':=zab (uq K) hb' ck;have e:=zbL (T k) nm;clear ck;cases hB:(T k==nm)
   ·have HF2:=hide (zdo (uq HF) hlt hB);rw[hB]at e;clear hB HF;go_wp2_with fail
    exact⟨⟨k+1,hlt,by go_num,HF2⟩,by simp[intOf];omega⟩
   ·have hr:=zco (uq HF) hlt hB;rw[hB]at e;subst hr;clear hB HF;go_wp2_with fail
    go_ret;exact⟨rfl,uq K⟩
  ·have li:¬(k:Int)<(nN:Int):=by omega
   have hr:=zcp (uq HF) (by omega);subst hr;go_wp2_with fail
   go_ret;exact⟨rfl,uq K⟩
set_option maxHeartbeats 2000000 in
theorem zfk (s:ByteArray) (x1:Option Addr) (n1 c1:Nat) (x2:Option Addr) (n2 c2:Nat) (x3:Option Addr) (n3 c3:Nat) (x4:Option Addr) (n4 c4:Nat) (x5:Option Addr) (n5 c5:Nat) (p:Int) (nm:List UInt8) (T:Nat→List UInt8) (r:Int) (w:World) (hn:n1≤9223372036854775807)
  (HC:Hid (∀ k,k<n1→∃ ad,x1=some ad∧ad.block<w.heap.size∧w.cell? (ad.add (k * 11))=some (.string (sv (T k))))) (HI:Hid (ix (fun k=>T k==nm) 0 n1=r)):
  Calls Try.prog 33 #[.agg #[.string s,.slice x1 n1 c1,.slice x2 n2 c2,.slice x3 n3 c3,.slice x4 n4 c4,.slice x5 n5 c5,.int .i64 p],.string (sv nm)] w fun e w'=>e= .returned (.int .i64 r)∧Keep w w':=by
 have K:=hide ((Keep.refl w).alloc (.cells #[.string s,.slice x1 n1 c1,.slice x2 n2 c2,.slice x3 n3 c3,.slice x4 n4 c4,.slice x5 n5 c5,.int .i64 p] 40));go_enter Try.func33,Try.ntmps33;go_wp2_with fail
 go_loop [5] (fun vi=>∃ k:Nat,k≤n1∧vi= .int .i64 (k:Int)∧Hid (ix (fun k=>T k==nm) k (n1 - k)=r)) (fun vi=>n1 - (intOf vi).toNat)
 case atStart=>exact⟨0,Nat.zero_le _,rfl,HI⟩
 case round=>
  obtain⟨k,hk,rfl,HF⟩:=hrel;by_cases hlt:k<n1
  ·have li:(k:Int)<(n1:Int):=by omega
   obtain⟨ad,rfl,hb,ck⟩:=(uq HC) k hlt;have hb':(ad.add (k * 11)).block<w.heap.size:=by rw[zaa];exact hb
   have ck':=zab (uq K) hb' ck;have e:=zbL (T k) nm;clear ck;cases hB:(T k==nm)
   ·have HF2:=hide (zdo (uq HF) hlt hB);rw[hB]at e;clear hB HF;go_wp2_with fail
    exact⟨⟨k+1,hlt,by go_num,HF2⟩,by simp[intOf];omega⟩
   ·have hr:=zco (uq HF) hlt hB;rw[hB]at e;subst hr;clear hB HF;go_wp2_with fail
    go_ret;exact⟨rfl,uq K⟩
  ·have li:¬(k:Int)<(n1:Int):=by omega
   have hr:=zcp (uq HF) (by omega);subst hr;go_wp2_with fail
   go_ret;exact⟨rfl,uq K⟩
set_option maxHeartbeats 2000000 in
theorem zeh (s:ByteArray) (x1:Option Addr) (n1 c1:Nat) (x2:Option Addr) (n2 c2:Nat) (x3:Option Addr) (n3 c3:Nat) (x4:Option Addr) (n4 c4:Nat) (x5:Option Addr) (n5 c5:Nat) (p:Int) (nm:List UInt8) (T:Nat→List UInt8) (r:Int) (w:World) (hn:n3≤9223372036854775807)
  (HC:Hid (∀ k,k<n3→∃ ad,x3=some ad∧ad.block<w.heap.size∧w.cell? (ad.add (k * 3))=some (.string (sv (T k))))) (HI:Hid (ix (fun k=>T k==nm) 0 n3=r)):
  Calls Try.prog 46 #[.agg #[.string s,.slice x1 n1 c1,.slice x2 n2 c2,.slice x3 n3 c3,.slice x4 n4 c4,.slice x5 n5 c5,.int .i64 p],.string (sv nm)] w fun e w'=>e= .returned (.int .i64 r)∧Keep w w':=by
 have K:=hide ((Keep.refl w).alloc (.cells #[.string s,.slice x1 n1 c1,.slice x2 n2 c2,.slice x3 n3 c3,.slice x4 n4 c4,.slice x5 n5 c5,.int .i64 p] 40));go_enter Try.func46,Try.ntmps46;go_wp2_with fail
 go_loop [5] (fun vi=>∃ k:Nat,k≤n3∧vi= .int .i64 (k:Int)∧Hid (ix (fun k=>T k==nm) k (n3 - k)=r)) (fun vi=>n3 - (intOf vi).toNat)
 case atStart=>exact⟨0,Nat.zero_le _,rfl,HI⟩
 case round=>
  obtain⟨k,hk,rfl,HF⟩:=hrel;by_cases hlt:k<n3
  ·have li:(k:Int)<(n3:Int):=by omega
   obtain⟨ad,rfl,hb,ck⟩:=(uq HC) k hlt;have hb':(ad.add (k * 3)).block<w.heap.size:=by rw[zaa];exact hb
   have ck':=zab (uq K) hb' ck;have e:=zbL (T k) nm;clear ck;cases hB:(T k==nm)
   ·have HF2:=hide (zdo (uq HF) hlt hB);rw[hB]at e;clear hB HF;go_wp2_with fail
    exact⟨⟨k+1,hlt,by go_num,HF2⟩,by simp[intOf];omega⟩
   ·have hr:=zco (uq HF) hlt hB;rw[hB]at e;subst hr;clear hB HF;go_wp2_with fail
    go_ret;exact⟨rfl,uq K⟩
  ·have li:¬(k:Int)<(n3:Int):=by omega
   have hr:=zcp (uq HF) (by omega);subst hr;go_wp2_with fail
   go_ret;exact⟨rfl,uq K⟩
set_option maxHeartbeats 1000000 in
theorem zcb (a:Option Addr) (n cap:Nat) (H:Nat→List UInt8) (nm:List UInt8) (w:World) (hn:n≤9223372036854775807)
  (HC:Hid (∀ k,k<n→∃ ad,a=some ad∧w.cell? (ad.add k)=some (.string (sv (H k))))):
  Calls Try.prog 48 #[.string (sv nm),.slice a n cap] w fun e w'=>e= .returned (.bool (decide (0≤ix (fun k=>nm==H k) 0 n)))∧w'=w:=by
 obtain⟨r,HI⟩:∃ r,Hid (ix (fun k=>nm==H k) 0 n=r):=⟨_,hide rfl⟩;rw[uq HI];have HI0:Hid (ix (fun k=>nm==H k) 0 (n - 0)=r):=HI;go_enter Try.func48,Try.ntmps48;go_wp2_with fail
 go_loop [5] (fun vi=>∃ k:Nat,k≤n∧vi= .int .i64 (k:Int)∧Hid (ix (fun k=>nm==H k) k (n - k)=r)) (fun vi=>n - (intOf vi).toNat)
 case atStart=>exact⟨0,Nat.zero_le _,rfl,HI0⟩
 case round=>
  obtain⟨k,hk,rfl,HF⟩:=hrel;by_cases hlt:k<n
  ·have li:(k:Int)<(n:Int):=by omega
   obtain⟨ad,rfl,ck⟩:=(uq HC) k hlt;have e:=zbL (H k) nm;rw[show(H k==nm)=(nm==H k) by rw[Bool.eq_iff_iff,beq_iff_eq,beq_iff_eq];exact eq_comm]at e;cases hB:(nm==H k)
   ·have HF2:=hide (zdo (uq HF) hlt hB);rw[hB]at e;clear hB HF;go_wp2_with fail
    exact⟨⟨k+1,hlt,by go_num,HF2⟩,by simp[intOf];omega⟩
   ·have hr:=zco (uq HF) hlt hB;rw[hB]at e;subst hr;clear hB HF;go_wp2_with fail
    go_ret;exact⟨by simp,rfl⟩
  ·have li:¬(k:Int)<(n:Int):=by omega
   have hr:=zcp (uq HF) (by omega);subst hr;go_wp2_with fail
   go_ret;exact⟨rfl,rfl⟩
set_option maxHeartbeats 2000000 in
theorem zfl (s:ByteArray) (x1:Option Addr) (n1 c1:Nat) (x2:Option Addr) (n2 c2:Nat) (x3:Option Addr) (n3 c3:Nat) (x4:Option Addr) (n4 c4:Nat) (x5:Option Addr) (n5 c5:Nat) (p:Int) (nm:List UInt8) (A:Nat→Option Addr) (N C:Nat→Nat) (B:Nat→Bool) (r:Int) (w:World) (hn:n3≤9223372036854775807)
  (HC:Hid (∀ k,k<n3→∃ ad,x3=some ad∧ad.block<w.heap.size∧w.cell? ⟨(ad.add (k * 3)).block,(ad.add (k * 3)).off+1,none⟩=some (.slice (A k) (N k) (C k))))
  (TI:Hid (∀ k,k<n3→∀ w',Keep w w'→Calls Try.prog 48 #[.string (sv nm),.slice (A k) (N k) (C k)] w' fun e w''=>e= .returned (.bool (B k))∧w''=w')) (HI:Hid (ix B 0 n3=r)):
  Calls Try.prog 47 #[.agg #[.string s,.slice x1 n1 c1,.slice x2 n2 c2,.slice x3 n3 c3,.slice x4 n4 c4,.slice x5 n5 c5,.int .i64 p],.string (sv nm)] w fun e w'=>e= .returned (.int .i64 r)∧Keep w w':=by
 have K:=hide ((Keep.refl w).alloc (.cells #[.string s,.slice x1 n1 c1,.slice x2 n2 c2,.slice x3 n3 c3,.slice x4 n4 c4,.slice x5 n5 c5,.int .i64 p] 40));go_enter Try.func47,Try.ntmps47;go_wp2_with fail
 go_loop [5] (fun vi=>∃ k:Nat,k≤n3∧vi= .int .i64 (k:Int)∧Hid (ix B k (n3 - k)=r)) (fun vi=>n3 - (intOf vi).toNat)
 case atStart=>exact⟨0,Nat.zero_le _,rfl,HI⟩
 case round=>
  obtain⟨k,hk,rfl,HF⟩:=hrel;by_cases hlt:k<n3
  ·have li:(k:Int)<(n3:Int):=by omega
   obtain⟨ad,rfl,hb,ck⟩:=(uq HC) k hlt;have hb':(ad.add (k * 3)).block<w.heap.size:=by rw[zaa];exact hb
   have ck':=zab (a:=⟨(ad.add (k * 3)).block,(ad.add (k * 3)).off+1,none⟩) (uq K) hb' ck;have TK:=hide ((uq TI) k hlt _ (uq K));clear ck;cases hB:B k
   ·have HF2:=hide (zdo (uq HF) hlt hB);rw[hB]at TK;clear hB HF;go_wp2_with fail
    (refine(uq TK).mono ?_;rintro e w2 ⟨rfl,rfl⟩);go_wp2_with fail
    exact⟨⟨k+1,hlt,by go_num,HF2⟩,by simp[intOf];omega⟩
   ·have hr:=zco (uq HF) hlt hB;rw[hB]at TK;subst hr;clear hB HF;go_wp2_with fail
    (refine(uq TK).mono ?_;rintro e w2 ⟨rfl,rfl⟩);go_wp2_with fail
    go_ret;exact⟨rfl,uq K⟩
  ·have li:¬(k:Int)<(n3:Int):=by omega
   have hr:=zcp (uq HF) (by omega);subst hr;go_wp2_with fail
   go_ret;exact⟨rfl,uq K⟩
open S
theorem zfX {w:World} {a0 a1 a2 a3 a4:Int} {aN:Option Addr} {cN:Nat} {aS:Option Addr} {nS cS:Nat} {a5 a6:Int} {LN:List (List D)} (nm:List UInt8) (hL:∀ ds∈LN,ShL za6 ds) (HA:Rvss w aN 7 LN 0) (hn:LN.length≤maxLen):
  Calls Try.prog 15 #[.agg #[.int .i64 a0,.int .i64 a1,.int .i64 a2,.int .i64 a3,.int .i64 a4,.slice aN LN.length cN,.slice aS nS cS,.int .i64 a5,.int .i64 a6],.string (sv nm)] w fun e w'=>e= .returned (.int .i64 (nI LN nm))∧Keep w w':=
 zfj a0 a1 a2 a3 a4 aN LN.length cN aS nS cS a5 a6 nm (tn LN) _ w hn (hide fun k hk=>by obtain⟨ad,e,hb,h,_⟩:=S.clNode (Keep.refl w) hL HA k hk;exact⟨ad,e,hb,h⟩) (hide rfl)
theorem zdT {w:World} {s:ByteArray} {x1:Option Addr} {c1:Nat} {x2:Option Addr} {n2 c2:Nat} {x3:Option Addr} {n3 c3:Nat} {x4:Option Addr} {n4 c4:Nat} {x5:Option Addr} {n5 c5:Nat} {p:Int} {L:List (List D)} (nm:List UInt8)
  (hL:∀ ds∈L,ShL zdi ds) (HA:Rvss w x1 11 L 0) (hn:L.length≤maxLen):Calls Try.prog 33 #[.agg #[.string s,.slice x1 L.length c1,.slice x2 n2 c2,.slice x3 n3 c3,.slice x4 n4 c4,.slice x5 n5 c5,.int .i64 p],.string (sv nm)] w fun e w'=>e= .returned (.int .i64 (nI L nm))∧Keep w w':=
 zfk s x1 L.length c1 x2 n2 c2 x3 n3 c3 x4 n4 c4 x5 n5 c5 p nm (tn L) _ w hn (hide fun k hk=>by obtain⟨ad,e,hb,h,_⟩:=S.clHead (Keep.refl w) hL HA k hk;exact⟨ad,e,hb,h⟩) (hide rfl)
theorem zfm {w:World} {s:ByteArray} {x1:Option Addr} {n1 c1:Nat} {x2:Option Addr} {n2 c2:Nat} {x3:Option Addr} {c3:Nat} {x4:Option Addr} {n4 c4:Nat} {x5:Option Addr} {n5 c5:Nat} {p:Int} {L:List (List D)} (nm:List UInt8)
  (hL:∀ ds∈L,ShL zbo ds) (HA:Rvss w x3 3 L 0) (hn:L.length≤maxLen):Calls Try.prog 46 #[.agg #[.string s,.slice x1 n1 c1,.slice x2 n2 c2,.slice x3 L.length c3,.slice x4 n4 c4,.slice x5 n5 c5,.int .i64 p],.string (sv nm)] w fun e w'=>e= .returned (.int .i64 (nI L nm))∧Keep w w':=
 zeh s x1 n1 c1 x2 n2 c2 x3 L.length c3 x4 n4 c4 x5 n5 c5 p nm (tn L) _ w hn (hide fun k hk=>by obtain⟨ad,e,hb,h,_⟩:=S.clPhase (Keep.refl w) hL HA k hk;exact⟨ad,e,hb,h⟩) (hide rfl)
theorem zfY {w:World} {s:ByteArray} {x1:Option Addr} {n1 c1:Nat} {x2:Option Addr} {n2 c2:Nat} {x3:Option Addr} {c3:Nat} {x4:Option Addr} {n4 c4:Nat} {x5:Option Addr} {n5 c5:Nat} {p:Int} {L:List (List D)} (nm:List UInt8)
  (hL:∀ ds∈L,ShL zbo ds) (HA:Rvss w x3 3 L 0) (hn:L.length≤maxLen):Calls Try.prog 47 #[.agg #[.string s,.slice x1 n1 c1,.slice x2 n2 c2,.slice x3 L.length c3,.slice x4 n4 c4,.slice x5 n5 c5,.int .i64 p],.string (sv nm)] w fun e w'=>e= .returned (.int .i64 (hI L nm))∧Keep w w':=
 zfl s x1 n1 c1 x2 n2 c2 x3 L.length c3 x4 n4 c4 x5 n5 c5 p nm (sA w x3 3 1) (ln L 1) (sC w x3 3 1) (fun k=>cI (sub L 1 k) nm) _ w hn
  (hide fun k hk=>by
   obtain⟨ad,e,hb,h0,h1,h2⟩:=S.clPhase (Keep.refl w) hL HA k hk;rw[(zbg hL HA k hk).1]at h1;exact⟨ad,e,hb,h1⟩)
  (hide fun j hj w' k=>by
   obtain⟨r1,r2,r3,r4⟩:=zbg hL HA j hj;exact zcb _ (ln L 1 j) _ (sb L 1 j) nm w' (zcI (w:=w) (a:=x3) hL j hj) (hide fun m hm=>by
    obtain⟨ad,e,hb,h0,hl⟩:=zcA r4 (Rvss.keep k _ _ _ _ r3) m hm;exact⟨ad,e,h0⟩)) (hide rfl)
end V
end Go.Proofs.Ythbfohohelflnaa
