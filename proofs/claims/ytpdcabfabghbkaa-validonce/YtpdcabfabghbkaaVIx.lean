/- Package valid: where a name stands. -/
import Derived.Test.YtpdcabfabghbkaaVHd
import Derived.LoopTactic
import Derived.Test.YtpdcabfabghbkaaLIn
namespace Go.Proofs.Ytpdcabfabghbkaa
open Go.RowKit
set_option linter.unusedVariables false
set_option linter.unusedSimpArgs false
set_option maxRecDepth 10000
namespace V
def ix (B:Nat→Bool):Nat→Nat→Int
 | _,0=> -1
 |k,m+1=>if B k then(k:Int)else ix B (k+1) m
theorem zdy {B:Nat→Bool} {k n:Nat} {r:Int} (h:ix B k (n - k)=r) (hk:k<n) (hb:B k=true):r=(k:Int):=by
 rw[show n - k=(n - (k+1))+1 by omega,ix,if_pos hb]at h;exact h.symm
theorem zfr {B:Nat→Bool} {k n:Nat} {r:Int} (h:ix B k (n - k)=r) (hk:k<n) (hb:B k=false):ix B (k+1) (n - (k+1))=r:=by
 rw[show n - k=(n - (k+1))+1 by omega,ix,if_neg (by rw[hb];decide)]at h;exact h
theorem zdz {B:Nat→Bool} {k n:Nat} {r:Int} (h:ix B k (n - k)=r) (hk:n≤k):r= -1:=by
 rw[show n - k=0 by omega]at h;exact h.symm
theorem zbW (a b:List UInt8):((sv a).toList==(sv b).toList)=(a==b):=by rw[zdh,zdh]
set_option maxHeartbeats 1000000 in
theorem clNode (t nm:List UInt8) (u1 u2 u3 u4 u5 u6:Value) (c:Nat) (w:World) (hc:w.cell? ⟨c,0,none⟩=some (.string (sv nm))) (hcl:c<w.heap.size):
  Calls Try.prog 31 #[.agg #[.string (sv t),u1,u2,u3,u4,u5,u6],.pointer (some ⟨c,0,none⟩)] w fun e w'=>e= .returned (.bool (t==nm))∧Keep w w':=by
 rw[← zbW];go_enter Try.func31,Try.ntmps31;go_wp2_with fail
 go_ret;exact⟨rfl,(Keep.refl w).alloc _⟩
set_option maxHeartbeats 1000000 in
theorem clHead (t nm:List UInt8) (u1 u2 u3 u4 u5 u6 u7 u8 u9 u10:Value) (c:Nat) (w:World) (hc:w.cell? ⟨c,0,none⟩=some (.string (sv nm))) (hcl:c<w.heap.size):
  Calls Try.prog 33 #[.agg #[.string (sv t),u1,u2,u3,u4,u5,u6,u7,u8,u9,u10],.pointer (some ⟨c,0,none⟩)] w fun e w'=>e= .returned (.bool (t==nm))∧Keep w w':=by
 rw[← zbW];go_enter Try.func33,Try.ntmps33;go_wp2_with fail
 go_ret;exact⟨rfl,(Keep.refl w).alloc _⟩
set_option maxHeartbeats 1000000 in
theorem clPhase (t nm:List UInt8) (u1 u2:Value) (c:Nat) (w:World) (hc:w.cell? ⟨c,0,none⟩=some (.string (sv nm))) (hcl:c<w.heap.size):
  Calls Try.prog 35 #[.agg #[.string (sv t),u1,u2],.pointer (some ⟨c,0,none⟩)] w fun e w'=>e= .returned (.bool (t==nm))∧Keep w w':=by
 rw[← zbW];go_enter Try.func35,Try.ntmps35;go_wp2_with fail
 go_ret;exact⟨rfl,(Keep.refl w).alloc _⟩
set_option maxHeartbeats 1000000 in
theorem zd3 (a:Option Addr) (n cap:Nat) (H:Nat→List UInt8) (nm:List UInt8) (r:Int) (w:World) (hn:n≤9223372036854775807)
  (HC:Hid (∀ k,k<n→∃ ad,a=some ad∧w.cell? (ad.add k)=some (.string (sv (H k))))) (HI:Hid (ix (fun k=>nm==H k) 0 n=r)):
  Calls Try.prog 52 #[.slice a n cap,.string (sv nm)] w fun e w'=>e= .returned (.int .i64 r)∧w'=w:=by
 go_enter Try.func52,Try.ntmps52;go_wp2_with fail
 go_loop [8] (fun vi=>∃ k:Nat,k≤n∧vi= .int .i64 (k:Int)∧Hid (ix (fun k=>nm==H k) k (n - k)=r)) (fun vi=>n - (intOf vi).toNat)
 case atStart=>exact⟨0,Nat.zero_le _,rfl,HI⟩
 case round=>
  obtain⟨k,hk,rfl,HF⟩:=hrel;by_cases hlt:k<n
  ·have li:(k:Int)<(n:Int):=by omega
   obtain⟨ad,rfl,ck⟩:=(uq HC) k hlt;have e:=zbW nm (H k);cases hb:(nm==H k)
   ·have HF2:=hide (zfr (uq HF) hlt hb);rw[hb]at e;clear hb HF;go_wp2_with fail
    exact⟨⟨k+1,hlt,by go_num,HF2⟩,by simp[intOf];omega⟩
   ·have hr:=zdy (uq HF) hlt hb;rw[hb]at e;subst hr;clear hb HF;go_wp2_with fail
    go_ret;exact⟨rfl,rfl⟩
  ·have li:¬(k:Int)<(n:Int):=by omega
   have hr:=zdz (uq HF) (by omega);subst hr;go_wp2_with fail
   go_ret;exact⟨rfl,rfl⟩
set_option maxHeartbeats 1000000 in
theorem zcI (a:Option Addr) (n cap:Nat) (H:Nat→List UInt8) (nm:List UInt8) (w:World) (hn:n≤9223372036854775807)
  (HC:Hid (∀ k,k<n→∃ ad,a=some ad∧w.cell? (ad.add k)=some (.string (sv (H k))))):
  Calls Try.prog 37 #[.slice a n cap,.string (sv nm)] w fun e w'=>e= .returned (.bool (decide (0≤ix (fun k=>nm==H k) 0 n)))∧w'=w:=by
 have T:=hide (zd3 a n cap H nm _ w hn HC (hide rfl));generalize ix (fun k=>nm==H k) 0 n=r at T ⊢;go_enter Try.func37,Try.ntmps37;go_wp2_with fail
 (refine(uq T).mono ?_;rintro e w1 ⟨rfl,rfl⟩);go_wp2_with fail
 go_ret;exact⟨rfl,rfl⟩
set_option maxHeartbeats 1000000 in
theorem zjM (t:ByteArray) (a:Option Addr) (n cap:Nat) (p:Int) (nm:List UInt8) (r:Bool) (c:Nat) (w:World) (hc:w.cell? ⟨c,0,none⟩=some (.string (sv nm))) (hcl:c<w.heap.size)
  (T:Hid (∀ w',Keep w w'→Calls Try.prog 37 #[.slice a n cap,.string (sv nm)] w' fun e w''=>e= .returned (.bool r)∧w''=w')):
  Calls Try.prog 36 #[.agg #[.string t,.slice a n cap,.int .i64 p],.pointer (some ⟨c,0,none⟩)] w fun e w'=>e= .returned (.bool r)∧Keep w w':=by
 go_enter Try.func36,Try.ntmps36;go_wp2_with fail
 (refine((uq T) _ ((Keep.refl w).alloc _)).mono ?_;rintro e w1 ⟨rfl,rfl⟩);go_wp2_with fail
 go_ret;exact⟨rfl,(Keep.refl w).alloc _⟩
set_option maxHeartbeats 2000000 in
theorem zhU (a:Option Addr) (n cap c:Nat) (T:Nat→List UInt8) (X1 X2 X3 X4 X5:Nat→Option Addr) (N1 C1 N2 C2 N3 C3 N4 C4 N5 C5:Nat→Nat) (P:Nat→Int) (B:Nat→Bool) (r:Int) (w:World) (hn:n≤9223372036854775807)
  (HC:Hid (∀ k,k<n→∃ ad,a=some ad∧ad.block<w.heap.size∧w.cell? (ad.add (k * 7))=some (.string (sv (T k)))∧w.cell? ⟨(ad.add (k * 7)).block,(ad.add (k * 7)).off+1,none⟩=some (.slice (X1 k) (N1 k) (C1 k))∧w.cell? ⟨(ad.add (k * 7)).block,(ad.add (k * 7)).off+2,none⟩=some (.slice (X2 k) (N2 k) (C2 k))∧w.cell? ⟨(ad.add (k * 7)).block,(ad.add (k * 7)).off+3,none⟩=some (.slice (X3 k) (N3 k) (C3 k))∧w.cell? ⟨(ad.add (k * 7)).block,(ad.add (k * 7)).off+4,none⟩=some (.slice (X4 k) (N4 k) (C4 k))∧w.cell? ⟨(ad.add (k * 7)).block,(ad.add (k * 7)).off+5,none⟩=some (.slice (X5 k) (N5 k) (C5 k))∧w.cell? ⟨(ad.add (k * 7)).block,(ad.add (k * 7)).off+6,none⟩=some (.int .i64 (P k))))
  (TF:Hid (∀ k,k<n→∀ w',Keep w w'→Calls Try.prog 31 #[.agg #[.string (sv (T k)),.slice (X1 k) (N1 k) (C1 k),.slice (X2 k) (N2 k) (C2 k),.slice (X3 k) (N3 k) (C3 k),.slice (X4 k) (N4 k) (C4 k),.slice (X5 k) (N5 k) (C5 k),.int .i64 (P k)],.pointer (some ⟨c,0,none⟩)] w' fun e w''=>e= .returned (.bool (B k))∧Keep w' w''))
  (HI:Hid (ix B 0 n=r)):
  Calls Try.prog 30 #[.slice a n cap,.func (.func 31) #[] #[.pointer (some ⟨c,0,none⟩)]] w fun e w'=>e= .returned (.int .i64 r)∧Keep w w':=by
 go_enter Try.func30,Try.ntmps30;go_wp2_with fail
 go_loopw [8] (fun vi wr=>∃ k:Nat,vi= .int .i64 (k:Int)∧k≤n∧Hid (Keep w wr)∧Hid (ix B k (n - k)=r)) (fun vi _=>n - (intOf vi).toNat)
 case atStart=>exact⟨0,rfl,Nat.zero_le _,hide (Keep.refl _),HI⟩
 case round=>
  obtain⟨k,rfl,hk,KW,HF⟩:=hrel;by_cases hlt:k<n
  ·have li:(k:Int)<(n:Int):=by omega
   obtain⟨ad,rfl,hb,e0,e1,e2,e3,e4,e5,e6⟩:=(uq HC) k hlt;have x0:=zab (uq KW) (by rw[zaa];exact hb) e0;have x1:=zab (uq KW) (by show(ad.add (k * 7)).block<_;rw[zaa];exact hb) e1;have x2:=zab (uq KW) (by show(ad.add (k * 7)).block<_;rw[zaa];exact hb) e2;have x3:=zab (uq KW) (by show(ad.add (k * 7)).block<_;rw[zaa];exact hb) e3;have x4:=zab (uq KW) (by show(ad.add (k * 7)).block<_;rw[zaa];exact hb) e4;have x5:=zab (uq KW) (by show(ad.add (k * 7)).block<_;rw[zaa];exact hb) e5;have x6:=zab (uq KW) (by show(ad.add (k * 7)).block<_;rw[zaa];exact hb) e6;clear e0 e1 e2 e3 e4 e5 e6;have TK:=hide ((uq TF) k hlt _ (uq KW));cases hB:B k
   ·have HF2:=hide (zfr (uq HF) hlt hB);rw[hB]at TK;clear hB HF;go_wp2_with fail
    (refine(uq TK).mono ?_;rintro e w2 ⟨rfl,hk9⟩;have K2:=hide ((uq KW).trans hk9);clear hk9);go_wp2_with fail
    go_roundw
    case rel=>exact⟨k+1,by go_num,by omega,K2,HF2⟩
    case measure=>simp[intOf];omega
   ·have hr:=zdy (uq HF) hlt hB;rw[hB]at TK;subst hr;clear hB HF;go_wp2_with fail
    (refine(uq TK).mono ?_;rintro e w2 ⟨rfl,hk9⟩;have K2:=hide ((uq KW).trans hk9);clear hk9);go_wp2_with fail
    go_ret;exact⟨rfl,uq K2⟩
  ·have li:¬(k:Int)<(n:Int):=by omega
   have hr:=zdz (uq HF) (by omega);subst hr;go_wp2_with fail
   go_ret;exact⟨rfl,uq KW⟩
set_option maxHeartbeats 2000000 in
theorem zfs (a0 a1 a2 a3 a4:Int) (aN:Option Addr) (nN cN:Nat) (aS:Option Addr) (nS cS:Nat) (a5 a6:Int) (nm:List UInt8) (r:Int) (w:World)
  (TI:Hid (∀ w' c,Keep w w'→c<w'.heap.size→w'.cell? ⟨c,0,none⟩=some (.string (sv nm))→Calls Try.prog 30 #[.slice aN nN cN,.func (.func 31) #[] #[.pointer (some ⟨c,0,none⟩)]] w' fun e w''=>e= .returned (.int .i64 r)∧Keep w' w'')):
  Calls Try.prog 11 #[.agg #[.int .i64 a0,.int .i64 a1,.int .i64 a2,.int .i64 a3,.int .i64 a4,.slice aN nN cN,.slice aS nS cS,.int .i64 a5,.int .i64 a6],.string (sv nm)] w fun e w'=>e= .returned (.int .i64 r)∧Keep w w':=by
 have hmf:∀(fn:Fn) (first cap:Array Value) (w:World),(Instr.makeFunc fn first cap).run Try.prog w= .ok (.func fn first cap) w:=fun _ _ _ _=>rfl
 have K:=hide (((Keep.refl w).alloc (.cells #[.int .i64 a0,.int .i64 a1,.int .i64 a2,.int .i64 a3,.int .i64 a4,.slice aN nN cN,.slice aS nS cS,.int .i64 a5,.int .i64 a6] 27)).alloc (.cells #[.string (sv nm)] 9));go_enter Try.func11,Try.ntmps11;go_wp2_with fail
 (refine((uq TI) _ _ (uq K) (by simp) (by simp[go_sem])).mono ?_;rintro e w1 ⟨rfl,hk⟩);go_wp2_with fail
 go_ret;exact⟨rfl,(uq K).trans hk⟩
set_option maxHeartbeats 2000000 in
theorem zhV (a:Option Addr) (n cap c:Nat) (T:Nat→List UInt8) (V1 V2 V3 V4 V5 V6 V7 V8 V9 V10:Nat→Int) (B:Nat→Bool) (r:Int) (w:World) (hn:n≤9223372036854775807)
  (HC:Hid (∀ k,k<n→∃ ad,a=some ad∧ad.block<w.heap.size∧w.cell? (ad.add (k * 11))=some (.string (sv (T k)))∧w.cell? ⟨(ad.add (k * 11)).block,(ad.add (k * 11)).off+1,none⟩=some (.int .i64 (V1 k))∧w.cell? ⟨(ad.add (k * 11)).block,(ad.add (k * 11)).off+2,none⟩=some (.int .i64 (V2 k))∧w.cell? ⟨(ad.add (k * 11)).block,(ad.add (k * 11)).off+3,none⟩=some (.int .i64 (V3 k))∧w.cell? ⟨(ad.add (k * 11)).block,(ad.add (k * 11)).off+4,none⟩=some (.int .i64 (V4 k))∧w.cell? ⟨(ad.add (k * 11)).block,(ad.add (k * 11)).off+5,none⟩=some (.int .i64 (V5 k))∧w.cell? ⟨(ad.add (k * 11)).block,(ad.add (k * 11)).off+6,none⟩=some (.int .i64 (V6 k))∧w.cell? ⟨(ad.add (k * 11)).block,(ad.add (k * 11)).off+7,none⟩=some (.int .i64 (V7 k))∧w.cell? ⟨(ad.add (k * 11)).block,(ad.add (k * 11)).off+8,none⟩=some (.int .i64 (V8 k))∧w.cell? ⟨(ad.add (k * 11)).block,(ad.add (k * 11)).off+9,none⟩=some (.int .i64 (V9 k))∧w.cell? ⟨(ad.add (k * 11)).block,(ad.add (k * 11)).off+10,none⟩=some (.int .i64 (V10 k))))
  (TF:Hid (∀ k,k<n→∀ w',Keep w w'→Calls Try.prog 33 #[.agg #[.string (sv (T k)),.int .i64 (V1 k),.int .i64 (V2 k),.int .i64 (V3 k),.int .i64 (V4 k),.int .i64 (V5 k),.int .i64 (V6 k),.int .i64 (V7 k),.int .i64 (V8 k),.int .i64 (V9 k),.int .i64 (V10 k)],.pointer (some ⟨c,0,none⟩)] w' fun e w''=>e= .returned (.bool (B k))∧Keep w' w''))
  (HI:Hid (ix B 0 n=r)):
  Calls Try.prog 32 #[.slice a n cap,.func (.func 33) #[] #[.pointer (some ⟨c,0,none⟩)]] w fun e w'=>e= .returned (.int .i64 r)∧Keep w w':=by
 go_enter Try.func32,Try.ntmps32;go_wp2_with fail
 go_loopw [8] (fun vi wr=>∃ k:Nat,vi= .int .i64 (k:Int)∧k≤n∧Hid (Keep w wr)∧Hid (ix B k (n - k)=r)) (fun vi _=>n - (intOf vi).toNat)
 case atStart=>exact⟨0,rfl,Nat.zero_le _,hide (Keep.refl _),HI⟩
 case round=>
  obtain⟨k,rfl,hk,KW,HF⟩:=hrel;by_cases hlt:k<n
  ·have li:(k:Int)<(n:Int):=by omega
   obtain⟨ad,rfl,hb,e0,e1,e2,e3,e4,e5,e6,e7,e8,e9,e10⟩:=(uq HC) k hlt;have x0:=zab (uq KW) (by rw[zaa];exact hb) e0;have x1:=zab (uq KW) (by show(ad.add (k * 11)).block<_;rw[zaa];exact hb) e1;have x2:=zab (uq KW) (by show(ad.add (k * 11)).block<_;rw[zaa];exact hb) e2;have x3:=zab (uq KW) (by show(ad.add (k * 11)).block<_;rw[zaa];exact hb) e3;have x4:=zab (uq KW) (by show(ad.add (k * 11)).block<_;rw[zaa];exact hb) e4;have x5:=zab (uq KW) (by show(ad.add (k * 11)).block<_;rw[zaa];exact hb) e5;have x6:=zab (uq KW) (by show(ad.add (k * 11)).block<_;rw[zaa];exact hb) e6;have x7:=zab (uq KW) (by show(ad.add (k * 11)).block<_;rw[zaa];exact hb) e7;have x8:=zab (uq KW) (by show(ad.add (k * 11)).block<_;rw[zaa];exact hb) e8;have x9:=zab (uq KW) (by show(ad.add (k * 11)).block<_;rw[zaa];exact hb) e9;have x10:=zab (uq KW) (by show(ad.add (k * 11)).block<_;rw[zaa];exact hb) e10;clear e0 e1 e2 e3 e4 e5 e6 e7 e8 e9 e10;have TK:=hide ((uq TF) k hlt _ (uq KW));cases hB:B k
   ·have HF2:=hide (zfr (uq HF) hlt hB);rw[hB]at TK;clear hB HF;go_wp2_with fail
    (refine(uq TK).mono ?_;rintro e w2 ⟨rfl,hk9⟩;have K2:=hide ((uq KW).trans hk9);clear hk9);go_wp2_with fail
    go_roundw
    case rel=>exact⟨k+1,by go_num,by omega,K2,HF2⟩
    case measure=>simp[intOf];omega
   ·have hr:=zdy (uq HF) hlt hB;rw[hB]at TK;subst hr;clear hB HF;go_wp2_with fail
    (refine(uq TK).mono ?_;rintro e w2 ⟨rfl,hk9⟩;have K2:=hide ((uq KW).trans hk9);clear hk9);go_wp2_with fail
    go_ret;exact⟨rfl,uq K2⟩
  ·have li:¬(k:Int)<(n:Int):=by omega
   have hr:=zdz (uq HF) (by omega);subst hr;go_wp2_with fail
   go_ret;exact⟨rfl,uq KW⟩
set_option maxHeartbeats 2000000 in
theorem zft (s:ByteArray) (x1:Option Addr) (n1 c1:Nat) (x2:Option Addr) (n2 c2:Nat) (x3:Option Addr) (n3 c3:Nat) (x4:Option Addr) (n4 c4:Nat) (x5:Option Addr) (n5 c5:Nat) (p:Int) (nm:List UInt8) (r:Int) (w:World)
  (TI:Hid (∀ w' c,Keep w w'→c<w'.heap.size→w'.cell? ⟨c,0,none⟩=some (.string (sv nm))→Calls Try.prog 32 #[.slice x1 n1 c1,.func (.func 33) #[] #[.pointer (some ⟨c,0,none⟩)]] w' fun e w''=>e= .returned (.int .i64 r)∧Keep w' w'')):
  Calls Try.prog 13 #[.agg #[.string s,.slice x1 n1 c1,.slice x2 n2 c2,.slice x3 n3 c3,.slice x4 n4 c4,.slice x5 n5 c5,.int .i64 p],.string (sv nm)] w fun e w'=>e= .returned (.int .i64 r)∧Keep w w':=by
 have hmf:∀(fn:Fn) (first cap:Array Value) (w:World),(Instr.makeFunc fn first cap).run Try.prog w= .ok (.func fn first cap) w:=fun _ _ _ _=>rfl
 have K:=hide (((Keep.refl w).alloc (.cells #[.string s,.slice x1 n1 c1,.slice x2 n2 c2,.slice x3 n3 c3,.slice x4 n4 c4,.slice x5 n5 c5,.int .i64 p] 40)).alloc (.cells #[.string (sv nm)] 9));go_enter Try.func13,Try.ntmps13;go_wp2_with fail
 (refine((uq TI) _ _ (uq K) (by simp) (by simp[go_sem])).mono ?_;rintro e w1 ⟨rfl,hk⟩);go_wp2_with fail
 go_ret;exact⟨rfl,(uq K).trans hk⟩
set_option maxHeartbeats 2000000 in
theorem zhW (a:Option Addr) (n cap c:Nat) (T:Nat→List UInt8) (A:Nat→Option Addr) (N C:Nat→Nat) (P:Nat→Int) (B:Nat→Bool) (r:Int) (w:World) (hn:n≤9223372036854775807)
  (HC:Hid (∀ k,k<n→∃ ad,a=some ad∧ad.block<w.heap.size∧w.cell? (ad.add (k * 3))=some (.string (sv (T k)))∧w.cell? ⟨(ad.add (k * 3)).block,(ad.add (k * 3)).off+1,none⟩=some (.slice (A k) (N k) (C k))∧w.cell? ⟨(ad.add (k * 3)).block,(ad.add (k * 3)).off+2,none⟩=some (.int .i64 (P k))))
  (TF:Hid (∀ k,k<n→∀ w',Keep w w'→Calls Try.prog 36 #[.agg #[.string (sv (T k)),.slice (A k) (N k) (C k),.int .i64 (P k)],.pointer (some ⟨c,0,none⟩)] w' fun e w''=>e= .returned (.bool (B k))∧Keep w' w''))
  (HI:Hid (ix B 0 n=r)):
  Calls Try.prog 34 #[.slice a n cap,.func (.func 36) #[] #[.pointer (some ⟨c,0,none⟩)]] w fun e w'=>e= .returned (.int .i64 r)∧Keep w w':=by
 go_enter Try.func34,Try.ntmps34;go_wp2_with fail
 go_loopw [8] (fun vi wr=>∃ k:Nat,vi= .int .i64 (k:Int)∧k≤n∧Hid (Keep w wr)∧Hid (ix B k (n - k)=r)) (fun vi _=>n - (intOf vi).toNat)
 case atStart=>exact⟨0,rfl,Nat.zero_le _,hide (Keep.refl _),HI⟩
 case round=>
  obtain⟨k,rfl,hk,KW,HF⟩:=hrel;by_cases hlt:k<n
  ·have li:(k:Int)<(n:Int):=by omega
   obtain⟨ad,rfl,hb,e0,e1,e2⟩:=(uq HC) k hlt;have x0:=zab (uq KW) (by rw[zaa];exact hb) e0;have x1:=zab (uq KW) (by show(ad.add (k * 3)).block<_;rw[zaa];exact hb) e1;have x2:=zab (uq KW) (by show(ad.add (k * 3)).block<_;rw[zaa];exact hb) e2;clear e0 e1 e2;have TK:=hide ((uq TF) k hlt _ (uq KW));cases hB:B k
   ·have HF2:=hide (zfr (uq HF) hlt hB);rw[hB]at TK;clear hB HF;go_wp2_with fail
    (refine(uq TK).mono ?_;rintro e w2 ⟨rfl,hk9⟩;have K2:=hide ((uq KW).trans hk9);clear hk9);go_wp2_with fail
    go_roundw
    case rel=>exact⟨k+1,by go_num,by omega,K2,HF2⟩
    case measure=>simp[intOf];omega
   ·have hr:=zdy (uq HF) hlt hB;rw[hB]at TK;subst hr;clear hB HF;go_wp2_with fail
    (refine(uq TK).mono ?_;rintro e w2 ⟨rfl,hk9⟩;have K2:=hide ((uq KW).trans hk9);clear hk9);go_wp2_with fail
    go_ret;exact⟨rfl,uq K2⟩
  ·have li:¬(k:Int)<(n:Int):=by omega
   have hr:=zdz (uq HF) (by omega);subst hr;go_wp2_with fail
   go_ret;exact⟨rfl,uq KW⟩
set_option maxHeartbeats 2000000 in
theorem zfu (s:ByteArray) (x1:Option Addr) (n1 c1:Nat) (x2:Option Addr) (n2 c2:Nat) (x3:Option Addr) (n3 c3:Nat) (x4:Option Addr) (n4 c4:Nat) (x5:Option Addr) (n5 c5:Nat) (p:Int) (nm:List UInt8) (r:Int) (w:World)
  (TI:Hid (∀ w' c,Keep w w'→c<w'.heap.size→w'.cell? ⟨c,0,none⟩=some (.string (sv nm))→Calls Try.prog 34 #[.slice x3 n3 c3,.func (.func 36) #[] #[.pointer (some ⟨c,0,none⟩)]] w' fun e w''=>e= .returned (.int .i64 r)∧Keep w' w'')):
  Calls Try.prog 17 #[.agg #[.string s,.slice x1 n1 c1,.slice x2 n2 c2,.slice x3 n3 c3,.slice x4 n4 c4,.slice x5 n5 c5,.int .i64 p],.string (sv nm)] w fun e w'=>e= .returned (.int .i64 r)∧Keep w w':=by
 have hmf:∀(fn:Fn) (first cap:Array Value) (w:World),(Instr.makeFunc fn first cap).run Try.prog w= .ok (.func fn first cap) w:=fun _ _ _ _=>rfl
 have K:=hide (((Keep.refl w).alloc (.cells #[.string s,.slice x1 n1 c1,.slice x2 n2 c2,.slice x3 n3 c3,.slice x4 n4 c4,.slice x5 n5 c5,.int .i64 p] 40)).alloc (.cells #[.string (sv nm)] 9));go_enter Try.func17,Try.ntmps17;go_wp2_with fail
 (refine((uq TI) _ _ (uq K) (by simp) (by simp[go_sem])).mono ?_;rintro e w1 ⟨rfl,hk⟩);go_wp2_with fail
 go_ret;exact⟨rfl,(uq K).trans hk⟩
end V
end Go.Proofs.Ytpdcabfabghbkaa
