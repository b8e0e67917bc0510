/- Products compared: the document's answer. -/
import Derived.Test.YtcdhdhbjnpndkaaGreatRefC
import Derived.Test.YtcdhdhbjnpndkaaGreatFracC
import Derived.Test.YtcdhdhbjnpndkaaGreatRefL
import Derived.Test.YtcdhdhbjnpndkaaGreatWholeQ
import Derived.Lib.ItoaNum
import Derived.Laws.IdiomStrings
import Derived.Test.YtcdhdhbjnpndkaaGreatNqF
import Derived.Test.YtcdhdhbjnpndkaaGreatDigits
import Derived.Test.YtcdhdhbjnpndkaaGreatDRfV
namespace Go.Proofs.YtcdhdhbjnpndkaaGreat
open Go.RowKit
set_option linter.unusedVariables false
set_option maxRecDepth 10000
def sn (x:Int):Int:=if x=0 then 0 else if x<0 then -1 else 1
set_option maxHeartbeats 400000 in
theorem zcz (a:Int) (w:World) (h1: -9223372036854775808≤a) (h2:a≤9223372036854775807):
  Calls Tryz.prog 89 #[.int .i64 a] w fun e w'=>e= .returned (.int .u64 (a.natAbs:Int))∧w'=w:=by
 by_cases ha:a<0
 ·go_enter Tryz.func89,Tryz.ntmps89;go_wp2;go_ret;exact⟨zaA (by rw[IntKind.wrap_u64,IntKind.wrap_u64];omega),rfl⟩
 ·go_enter Tryz.func89,Tryz.ntmps89;go_wp2;go_ret;exact⟨zaA (by omega),rfl⟩
theorem zd4 (a b:Int):((a.natAbs:Int) * (b.natAbs:Int))=((a * b).natAbs:Int):=by rw[Int.natAbs_mul,Int.natCast_mul]
theorem zde {a:Int} (h1: -9223372036854775808≤a) (h2:a≤9223372036854775807):0≤(a.natAbs:Int)∧(a.natAbs:Int)<18446744073709551616:=by omega
theorem zrz {a b:Int} (ha:a<0) (hb:b<0):sn (a * b)=1:=by have:=Int.mul_pos_of_neg_of_neg ha hb;unfold sn;rw[if_neg (by omega),if_neg (by omega)]
theorem zrA {a b:Int} (ha:a<0) (hb:0<b):sn (a * b)= -1:=by have:=Int.mul_neg_of_neg_of_pos ha hb;unfold sn;rw[if_neg (by omega),if_pos (by omega)]
theorem zrB {a b:Int} (ha:0<a) (hb:b<0):sn (a * b)= -1:=by have:=Int.mul_neg_of_pos_of_neg ha hb;unfold sn;rw[if_neg (by omega),if_pos (by omega)]
theorem zrC {a b:Int} (ha:0<a) (hb:0<b):sn (a * b)=1:=by have:=Int.mul_pos ha hb;unfold sn;rw[if_neg (by omega),if_neg (by omega)]
theorem znT (b:Int):sn (0 * b)=0:=by simp[sn]
theorem zqg (a:Int):sn (a * 0)=0:=by simp[sn]
set_option maxHeartbeats 1000000 in
theorem ze2 (a b:Int) (w:World):
  Calls Tryz.prog 123 #[.int .i64 a,.int .i64 b] w fun e w'=>e= .returned (.int .i64 (sn (a * b)))∧w'=w:=by
 rcases Int.lt_trichotomy a 0 with ha|ha|ha<;>rcases Int.lt_trichotomy b 0 with hb|hb|hb
 ·have han:(a !=0)=true:=by simp;omega
  have had:decide (a<0)=true:=by simp;omega
  have hae:(a==0)=false:=by simp;omega
  have hbn:(b !=0)=true:=by simp;omega
  have hbd:decide (b<0)=true:=by simp;omega
  have hbe:(b==0)=false:=by simp;omega
  rw[zrz ha hb];go_enter Tryz.func123,Tryz.ntmps123;go_wp2;go_ret;exact⟨rfl,rfl⟩
 ·have han:(a !=0)=true:=by simp;omega
  have had:decide (a<0)=true:=by simp;omega
  have hae:(a==0)=false:=by simp;omega
  subst hb;rw[zqg _];go_enter Tryz.func123,Tryz.ntmps123;go_wp2;go_ret;exact⟨rfl,rfl⟩
 ·have han:(a !=0)=true:=by simp;omega
  have had:decide (a<0)=true:=by simp;omega
  have hae:(a==0)=false:=by simp;omega
  have hbn:(b !=0)=true:=by simp;omega
  have hbd:decide (b<0)=false:=by simp;omega
  have hbe:(b==0)=false:=by simp;omega
  rw[zrA ha hb];go_enter Tryz.func123,Tryz.ntmps123;go_wp2;go_ret;exact⟨rfl,rfl⟩
 ·subst ha;have hbn:(b !=0)=true:=by simp;omega
  have hbd:decide (b<0)=true:=by simp;omega
  have hbe:(b==0)=false:=by simp;omega
  rw[znT _];go_enter Tryz.func123,Tryz.ntmps123;go_wp2;go_ret;exact⟨rfl,rfl⟩
 ·subst ha;subst hb;rw[znT _];go_enter Tryz.func123,Tryz.ntmps123;go_wp2;go_ret;exact⟨rfl,rfl⟩
 ·subst ha;have hbn:(b !=0)=true:=by simp;omega
  have hbd:decide (b<0)=false:=by simp;omega
  have hbe:(b==0)=false:=by simp;omega
  rw[znT _];go_enter Tryz.func123,Tryz.ntmps123;go_wp2;go_ret;exact⟨rfl,rfl⟩
 ·have han:(a !=0)=true:=by simp;omega
  have had:decide (a<0)=false:=by simp;omega
  have hae:(a==0)=false:=by simp;omega
  have hbn:(b !=0)=true:=by simp;omega
  have hbd:decide (b<0)=true:=by simp;omega
  have hbe:(b==0)=false:=by simp;omega
  rw[zrB ha hb];go_enter Tryz.func123,Tryz.ntmps123;go_wp2;go_ret;exact⟨rfl,rfl⟩
 ·have han:(a !=0)=true:=by simp;omega
  have had:decide (a<0)=false:=by simp;omega
  have hae:(a==0)=false:=by simp;omega
  subst hb;rw[zqg _];go_enter Tryz.func123,Tryz.ntmps123;go_wp2;go_ret;exact⟨rfl,rfl⟩
 ·have han:(a !=0)=true:=by simp;omega
  have had:decide (a<0)=false:=by simp;omega
  have hae:(a==0)=false:=by simp;omega
  have hbn:(b !=0)=true:=by simp;omega
  have hbd:decide (b<0)=false:=by simp;omega
  have hbe:(b==0)=false:=by simp;omega
  rw[zrC ha hb];go_enter Tryz.func123,Tryz.ntmps123;go_wp2;go_ret;exact⟨rfl,rfl⟩
set_option maxHeartbeats 400000 in
theorem zfW (a b c d s t:Int) (w:World) (h:s<t)
  (SG1:Hid (∀ w,Calls Tryz.prog 123 #[.int .i64 a,.int .i64 b] w fun e w'=>e= .returned (.int .i64 s)∧w'=w))
  (SG2:Hid (∀ w,Calls Tryz.prog 123 #[.int .i64 c,.int .i64 d] w fun e w'=>e= .returned (.int .i64 t)∧w'=w)):
  Calls Tryz.prog 92 #[.int .i64 a,.int .i64 b,.int .i64 c,.int .i64 d] w fun e w'=>e= .returned (.int .i64 (-1))∧Keep w w':=by
 go_enter Tryz.func92,Tryz.ntmps92;go_wp2_with fail
 refine(uq SG1 _).mono ?_;rintro e w1 ⟨rfl,rfl⟩;go_wp2_with fail
 refine(uq SG2 _).mono ?_;rintro e w1 ⟨rfl,rfl⟩;go_wp2_with fail
 go_ret;exact⟨rfl,Keep.refl _⟩
set_option maxHeartbeats 400000 in
theorem zfX (a b c d s t:Int) (w:World) (h:t<s)
  (SG1:Hid (∀ w,Calls Tryz.prog 123 #[.int .i64 a,.int .i64 b] w fun e w'=>e= .returned (.int .i64 s)∧w'=w))
  (SG2:Hid (∀ w,Calls Tryz.prog 123 #[.int .i64 c,.int .i64 d] w fun e w'=>e= .returned (.int .i64 t)∧w'=w)):
  Calls Tryz.prog 92 #[.int .i64 a,.int .i64 b,.int .i64 c,.int .i64 d] w fun e w'=>e= .returned (.int .i64 1)∧Keep w w':=by
 go_enter Tryz.func92,Tryz.ntmps92;go_wp2_with fail
 refine(uq SG1 _).mono ?_;rintro e w1 ⟨rfl,rfl⟩;go_wp2_with fail
 refine(uq SG2 _).mono ?_;rintro e w1 ⟨rfl,rfl⟩;go_wp2_with fail
 go_ret;exact⟨rfl,Keep.refl _⟩
set_option maxHeartbeats 1000000 in
theorem ze3 (a b c d s ua ub uc ud m1 m2:Int) (w:World) (ha:ua<2147483648) (hb:ub<2147483648) (hc:uc<2147483648) (hd:ud<2147483648) (e1:wrap64 (a * b)=m1) (e2:wrap64 (c * d)=m2) (h:m1<m2)
  (SG1:Hid (∀ w,Calls Tryz.prog 123 #[.int .i64 a,.int .i64 b] w fun e w'=>e= .returned (.int .i64 s)∧w'=w))
  (SG2:Hid (∀ w,Calls Tryz.prog 123 #[.int .i64 c,.int .i64 d] w fun e w'=>e= .returned (.int .i64 s)∧w'=w))
  (ZA:Hid (∀ w,Calls Tryz.prog 89 #[.int .i64 a] w fun e w'=>e= .returned (.int .u64 ua)∧w'=w))
  (ZB:Hid (∀ w,Calls Tryz.prog 89 #[.int .i64 b] w fun e w'=>e= .returned (.int .u64 ub)∧w'=w))
  (ZC:Hid (∀ w,Calls Tryz.prog 89 #[.int .i64 c] w fun e w'=>e= .returned (.int .u64 uc)∧w'=w))
  (ZD:Hid (∀ w,Calls Tryz.prog 89 #[.int .i64 d] w fun e w'=>e= .returned (.int .u64 ud)∧w'=w)):
  Calls Tryz.prog 92 #[.int .i64 a,.int .i64 b,.int .i64 c,.int .i64 d] w fun e w'=>e= .returned (.int .i64 (-1))∧Keep w w':=by
 go_enter Tryz.func92,Tryz.ntmps92;go_wp2_with fail
 refine(uq SG1 _).mono ?_;rintro e w1 ⟨rfl,rfl⟩;go_wp2_with fail
 refine(uq SG2 _).mono ?_;rintro e w1 ⟨rfl,rfl⟩;go_wp2_with fail
 refine(uq ZA _).mono ?_;rintro e w1 ⟨rfl,rfl⟩;go_wp2_with fail
 refine(uq ZB _).mono ?_;rintro e w1 ⟨rfl,rfl⟩;go_wp2_with fail
 refine(uq ZC _).mono ?_;rintro e w1 ⟨rfl,rfl⟩;go_wp2_with fail
 refine(uq ZD _).mono ?_;rintro e w1 ⟨rfl,rfl⟩;go_wp2_with fail
 go_ret;exact⟨rfl,Keep.refl _⟩
set_option maxHeartbeats 1000000 in
theorem ze4 (a b c d s ua ub uc ud m1 m2:Int) (w:World) (ha:ua<2147483648) (hb:ub<2147483648) (hc:uc<2147483648) (hd:ud<2147483648) (e1:wrap64 (a * b)=m1) (e2:wrap64 (c * d)=m2) (h:m2<m1)
  (SG1:Hid (∀ w,Calls Tryz.prog 123 #[.int .i64 a,.int .i64 b] w fun e w'=>e= .returned (.int .i64 s)∧w'=w))
  (SG2:Hid (∀ w,Calls Tryz.prog 123 #[.int .i64 c,.int .i64 d] w fun e w'=>e= .returned (.int .i64 s)∧w'=w))
  (ZA:Hid (∀ w,Calls Tryz.prog 89 #[.int .i64 a] w fun e w'=>e= .returned (.int .u64 ua)∧w'=w))
  (ZB:Hid (∀ w,Calls Tryz.prog 89 #[.int .i64 b] w fun e w'=>e= .returned (.int .u64 ub)∧w'=w))
  (ZC:Hid (∀ w,Calls Tryz.prog 89 #[.int .i64 c] w fun e w'=>e= .returned (.int .u64 uc)∧w'=w))
  (ZD:Hid (∀ w,Calls Tryz.prog 89 #[.int .i64 d] w fun e w'=>e= .returned (.int .u64 ud)∧w'=w)):
  Calls Tryz.prog 92 #[.int .i64 a,.int .i64 b,.int .i64 c,.int .i64 d] w fun e w'=>e= .returned (.int .i64 1)∧Keep w w':=by
 go_enter Tryz.func92,Tryz.ntmps92;go_wp2_with fail
 refine(uq SG1 _).mono ?_;rintro e w1 ⟨rfl,rfl⟩;go_wp2_with fail
 refine(uq SG2 _).mono ?_;rintro e w1 ⟨rfl,rfl⟩;go_wp2_with fail
 refine(uq ZA _).mono ?_;rintro e w1 ⟨rfl,rfl⟩;go_wp2_with fail
 refine(uq ZB _).mono ?_;rintro e w1 ⟨rfl,rfl⟩;go_wp2_with fail
 refine(uq ZC _).mono ?_;rintro e w1 ⟨rfl,rfl⟩;go_wp2_with fail
 refine(uq ZD _).mono ?_;rintro e w1 ⟨rfl,rfl⟩;go_wp2_with fail
 go_ret;exact⟨rfl,Keep.refl _⟩
set_option maxHeartbeats 1000000 in
theorem ze5 (a b c d s ua ub uc ud m1 m2:Int) (w:World) (ha:ua<2147483648) (hb:ub<2147483648) (hc:uc<2147483648) (hd:ud<2147483648) (e1:wrap64 (a * b)=m1) (e2:wrap64 (c * d)=m2) (h:m1=m2)
  (SG1:Hid (∀ w,Calls Tryz.prog 123 #[.int .i64 a,.int .i64 b] w fun e w'=>e= .returned (.int .i64 s)∧w'=w))
  (SG2:Hid (∀ w,Calls Tryz.prog 123 #[.int .i64 c,.int .i64 d] w fun e w'=>e= .returned (.int .i64 s)∧w'=w))
  (ZA:Hid (∀ w,Calls Tryz.prog 89 #[.int .i64 a] w fun e w'=>e= .returned (.int .u64 ua)∧w'=w))
  (ZB:Hid (∀ w,Calls Tryz.prog 89 #[.int .i64 b] w fun e w'=>e= .returned (.int .u64 ub)∧w'=w))
  (ZC:Hid (∀ w,Calls Tryz.prog 89 #[.int .i64 c] w fun e w'=>e= .returned (.int .u64 uc)∧w'=w))
  (ZD:Hid (∀ w,Calls Tryz.prog 89 #[.int .i64 d] w fun e w'=>e= .returned (.int .u64 ud)∧w'=w)):
  Calls Tryz.prog 92 #[.int .i64 a,.int .i64 b,.int .i64 c,.int .i64 d] w fun e w'=>e= .returned (.int .i64 0)∧Keep w w':=by
 subst h;go_enter Tryz.func92,Tryz.ntmps92;go_wp2_with fail
 refine(uq SG1 _).mono ?_;rintro e w1 ⟨rfl,rfl⟩;go_wp2_with fail
 refine(uq SG2 _).mono ?_;rintro e w1 ⟨rfl,rfl⟩;go_wp2_with fail
 refine(uq ZA _).mono ?_;rintro e w1 ⟨rfl,rfl⟩;go_wp2_with fail
 refine(uq ZB _).mono ?_;rintro e w1 ⟨rfl,rfl⟩;go_wp2_with fail
 refine(uq ZC _).mono ?_;rintro e w1 ⟨rfl,rfl⟩;go_wp2_with fail
 refine(uq ZD _).mono ?_;rintro e w1 ⟨rfl,rfl⟩;go_wp2_with fail
 go_ret;exact⟨rfl,Keep.refl _⟩
set_option maxHeartbeats 1000000 in
theorem zfY (a b c d s ua ub uc ud cv r:Int) (w:World) (ha:¬ua<2147483648) (ua0:0≤ua) (ua1:ua<18446744073709551616) (ub0:0≤ub) (ub1:ub<18446744073709551616) (uc0:0≤uc) (uc1:uc<18446744073709551616) (ud0:0≤ud) (ud1:ud<18446744073709551616) (HCV:Hid (cm (ua * ub) (uc * ud)=cv)) (eR:wrap64 (s * cv)=r)
  (SG1:Hid (∀ w,Calls Tryz.prog 123 #[.int .i64 a,.int .i64 b] w fun e w'=>e= .returned (.int .i64 s)∧w'=w))
  (SG2:Hid (∀ w,Calls Tryz.prog 123 #[.int .i64 c,.int .i64 d] w fun e w'=>e= .returned (.int .i64 s)∧w'=w))
  (ZA:Hid (∀ w,Calls Tryz.prog 89 #[.int .i64 a] w fun e w'=>e= .returned (.int .u64 ua)∧w'=w))
  (ZB:Hid (∀ w,Calls Tryz.prog 89 #[.int .i64 b] w fun e w'=>e= .returned (.int .u64 ub)∧w'=w))
  (ZC:Hid (∀ w,Calls Tryz.prog 89 #[.int .i64 c] w fun e w'=>e= .returned (.int .u64 uc)∧w'=w))
  (ZD:Hid (∀ w,Calls Tryz.prog 89 #[.int .i64 d] w fun e w'=>e= .returned (.int .u64 ud)∧w'=w)):
  Calls Tryz.prog 92 #[.int .i64 a,.int .i64 b,.int .i64 c,.int .i64 d] w fun e w'=>e= .returned (.int .i64 r)∧Keep w w':=by
 go_enter Tryz.func92,Tryz.ntmps92;go_wp2_with fail
 refine(uq SG1 _).mono ?_;rintro e w1 ⟨rfl,rfl⟩;go_wp2_with fail
 refine(uq SG2 _).mono ?_;rintro e w1 ⟨rfl,rfl⟩;go_wp2_with fail
 refine(uq ZA _).mono ?_;rintro e w1 ⟨rfl,rfl⟩;go_wp2_with fail
 refine(uq ZA _).mono ?_;rintro e w1 ⟨rfl,rfl⟩;go_wp2_with fail
 refine(uq ZB _).mono ?_;rintro e w1 ⟨rfl,rfl⟩;go_wp2_with fail
 refine(zaL ua ub _ ua0 ua1 ub0 ub1).mono ?_;rintro e w2 ⟨v2,l2,rfl,r2,d2,⟨n0,n1,n2⟩,bb2⟩;have kb2:Keep _ w2:=bb2;have N2:=hide n2;clear n2 bb2;go_wp2_with fail
 refine(uq ZC _).mono ?_;rintro e w1 ⟨rfl,rfl⟩;go_wp2_with fail
 refine(uq ZD _).mono ?_;rintro e w1 ⟨rfl,rfl⟩;go_wp2_with fail
 refine(zaL uc ud _ uc0 uc1 ud0 ud1).mono ?_;rintro e w3 ⟨v3,l3,rfl,r3,d3,⟨m0,m1,m2⟩,bb3⟩;have kb3:Keep _ w3:=bb3;have O1:=hide (zcx v2 v3 l2 l3 _ _ w3 (r2.keep kb3) r3 d2 d3 n0 m0 (by omega) (by omega));rw[uq N2,m2,uq HCV]at O1;clear r2 r3 m2 bb3 d2 d3;go_wp2_with fail
 refine(uq O1).mono ?_;rintro e w4 ⟨rfl,rfl⟩;go_wp2_with fail
 go_ret;exact⟨zaA eR,kb2.trans kb3⟩
set_option maxHeartbeats 1000000 in
theorem zfZ (a b c d s ua ub uc ud cv r:Int) (w:World) (ha:ua<2147483648) (hb:¬ub<2147483648) (ua0:0≤ua) (ua1:ua<18446744073709551616) (ub0:0≤ub) (ub1:ub<18446744073709551616) (uc0:0≤uc) (uc1:uc<18446744073709551616) (ud0:0≤ud) (ud1:ud<18446744073709551616) (HCV:Hid (cm (ua * ub) (uc * ud)=cv)) (eR:wrap64 (s * cv)=r)
  (SG1:Hid (∀ w,Calls Tryz.prog 123 #[.int .i64 a,.int .i64 b] w fun e w'=>e= .returned (.int .i64 s)∧w'=w))
  (SG2:Hid (∀ w,Calls Tryz.prog 123 #[.int .i64 c,.int .i64 d] w fun e w'=>e= .returned (.int .i64 s)∧w'=w))
  (ZA:Hid (∀ w,Calls Tryz.prog 89 #[.int .i64 a] w fun e w'=>e= .returned (.int .u64 ua)∧w'=w))
  (ZB:Hid (∀ w,Calls Tryz.prog 89 #[.int .i64 b] w fun e w'=>e= .returned (.int .u64 ub)∧w'=w))
  (ZC:Hid (∀ w,Calls Tryz.prog 89 #[.int .i64 c] w fun e w'=>e= .returned (.int .u64 uc)∧w'=w))
  (ZD:Hid (∀ w,Calls Tryz.prog 89 #[.int .i64 d] w fun e w'=>e= .returned (.int .u64 ud)∧w'=w)):
  Calls Tryz.prog 92 #[.int .i64 a,.int .i64 b,.int .i64 c,.int .i64 d] w fun e w'=>e= .returned (.int .i64 r)∧Keep w w':=by
 go_enter Tryz.func92,Tryz.ntmps92;go_wp2_with fail
 refine(uq SG1 _).mono ?_;rintro e w1 ⟨rfl,rfl⟩;go_wp2_with fail
 refine(uq SG2 _).mono ?_;rintro e w1 ⟨rfl,rfl⟩;go_wp2_with fail
 refine(uq ZA _).mono ?_;rintro e w1 ⟨rfl,rfl⟩;go_wp2_with fail
 refine(uq ZB _).mono ?_;rintro e w1 ⟨rfl,rfl⟩;go_wp2_with fail
 refine(uq ZA _).mono ?_;rintro e w1 ⟨rfl,rfl⟩;go_wp2_with fail
 refine(uq ZB _).mono ?_;rintro e w1 ⟨rfl,rfl⟩;go_wp2_with fail
 refine(zaL ua ub _ ua0 ua1 ub0 ub1).mono ?_;rintro e w2 ⟨v2,l2,rfl,r2,d2,⟨n0,n1,n2⟩,bb2⟩;have kb2:Keep _ w2:=bb2;have N2:=hide n2;clear n2 bb2;go_wp2_with fail
 refine(uq ZC _).mono ?_;rintro e w1 ⟨rfl,rfl⟩;go_wp2_with fail
 refine(uq ZD _).mono ?_;rintro e w1 ⟨rfl,rfl⟩;go_wp2_with fail
 refine(zaL uc ud _ uc0 uc1 ud0 ud1).mono ?_;rintro e w3 ⟨v3,l3,rfl,r3,d3,⟨m0,m1,m2⟩,bb3⟩;have kb3:Keep _ w3:=bb3;have O1:=hide (zcx v2 v3 l2 l3 _ _ w3 (r2.keep kb3) r3 d2 d3 n0 m0 (by omega) (by omega));rw[uq N2,m2,uq HCV]at O1;clear r2 r3 m2 bb3 d2 d3;go_wp2_with fail
 refine(uq O1).mono ?_;rintro e w4 ⟨rfl,rfl⟩;go_wp2_with fail
 go_ret;exact⟨zaA eR,kb2.trans kb3⟩
set_option maxHeartbeats 1000000 in
theorem zf0 (a b c d s ua ub uc ud cv r:Int) (w:World) (ha:ua<2147483648) (hb:ub<2147483648) (hc:¬uc<2147483648) (ua0:0≤ua) (ua1:ua<18446744073709551616) (ub0:0≤ub) (ub1:ub<18446744073709551616) (uc0:0≤uc) (uc1:uc<18446744073709551616) (ud0:0≤ud) (ud1:ud<18446744073709551616) (HCV:Hid (cm (ua * ub) (uc * ud)=cv)) (eR:wrap64 (s * cv)=r)
  (SG1:Hid (∀ w,Calls Tryz.prog 123 #[.int .i64 a,.int .i64 b] w fun e w'=>e= .returned (.int .i64 s)∧w'=w))
  (SG2:Hid (∀ w,Calls Tryz.prog 123 #[.int .i64 c,.int .i64 d] w fun e w'=>e= .returned (.int .i64 s)∧w'=w))
  (ZA:Hid (∀ w,Calls Tryz.prog 89 #[.int .i64 a] w fun e w'=>e= .returned (.int .u64 ua)∧w'=w))
  (ZB:Hid (∀ w,Calls Tryz.prog 89 #[.int .i64 b] w fun e w'=>e= .returned (.int .u64 ub)∧w'=w))
  (ZC:Hid (∀ w,Calls Tryz.prog 89 #[.int .i64 c] w fun e w'=>e= .returned (.int .u64 uc)∧w'=w))
  (ZD:Hid (∀ w,Calls Tryz.prog 89 #[.int .i64 d] w fun e w'=>e= .returned (.int .u64 ud)∧w'=w)):
  Calls Tryz.prog 92 #[.int .i64 a,.int .i64 b,.int .i64 c,.int .i64 d] w fun e w'=>e= .returned (.int .i64 r)∧Keep w w':=by
 go_enter Tryz.func92,Tryz.ntmps92;go_wp2_with fail
 refine(uq SG1 _).mono ?_;rintro e w1 ⟨rfl,rfl⟩;go_wp2_with fail
 refine(uq SG2 _).mono ?_;rintro e w1 ⟨rfl,rfl⟩;go_wp2_with fail
 refine(uq ZA _).mono ?_;rintro e w1 ⟨rfl,rfl⟩;go_wp2_with fail
 refine(uq ZB _).mono ?_;rintro e w1 ⟨rfl,rfl⟩;go_wp2_with fail
 refine(uq ZC _).mono ?_;rintro e w1 ⟨rfl,rfl⟩;go_wp2_with fail
 refine(uq ZA _).mono ?_;rintro e w1 ⟨rfl,rfl⟩;go_wp2_with fail
 refine(uq ZB _).mono ?_;rintro e w1 ⟨rfl,rfl⟩;go_wp2_with fail
 refine(zaL ua ub _ ua0 ua1 ub0 ub1).mono ?_;rintro e w2 ⟨v2,l2,rfl,r2,d2,⟨n0,n1,n2⟩,bb2⟩;have kb2:Keep _ w2:=bb2;have N2:=hide n2;clear n2 bb2;go_wp2_with fail
 refine(uq ZC _).mono ?_;rintro e w1 ⟨rfl,rfl⟩;go_wp2_with fail
 refine(uq ZD _).mono ?_;rintro e w1 ⟨rfl,rfl⟩;go_wp2_with fail
 refine(zaL uc ud _ uc0 uc1 ud0 ud1).mono ?_;rintro e w3 ⟨v3,l3,rfl,r3,d3,⟨m0,m1,m2⟩,bb3⟩;have kb3:Keep _ w3:=bb3;have O1:=hide (zcx v2 v3 l2 l3 _ _ w3 (r2.keep kb3) r3 d2 d3 n0 m0 (by omega) (by omega));rw[uq N2,m2,uq HCV]at O1;clear r2 r3 m2 bb3 d2 d3;go_wp2_with fail
 refine(uq O1).mono ?_;rintro e w4 ⟨rfl,rfl⟩;go_wp2_with fail
 go_ret;exact⟨zaA eR,kb2.trans kb3⟩
set_option maxHeartbeats 1000000 in
theorem zf1 (a b c d s ua ub uc ud cv r:Int) (w:World) (ha:ua<2147483648) (hb:ub<2147483648) (hc:uc<2147483648) (hd:¬ud<2147483648) (ua0:0≤ua) (ua1:ua<18446744073709551616) (ub0:0≤ub) (ub1:ub<18446744073709551616) (uc0:0≤uc) (uc1:uc<18446744073709551616) (ud0:0≤ud) (ud1:ud<18446744073709551616) (HCV:Hid (cm (ua * ub) (uc * ud)=cv)) (eR:wrap64 (s * cv)=r)
  (SG1:Hid (∀ w,Calls Tryz.prog 123 #[.int .i64 a,.int .i64 b] w fun e w'=>e= .returned (.int .i64 s)∧w'=w))
  (SG2:Hid (∀ w,Calls Tryz.prog 123 #[.int .i64 c,.int .i64 d] w fun e w'=>e= .returned (.int .i64 s)∧w'=w))
  (ZA:Hid (∀ w,Calls Tryz.prog 89 #[.int .i64 a] w fun e w'=>e= .returned (.int .u64 ua)∧w'=w))
  (ZB:Hid (∀ w,Calls Tryz.prog 89 #[.int .i64 b] w fun e w'=>e= .returned (.int .u64 ub)∧w'=w))
  (ZC:Hid (∀ w,Calls Tryz.prog 89 #[.int .i64 c] w fun e w'=>e= .returned (.int .u64 uc)∧w'=w))
  (ZD:Hid (∀ w,Calls Tryz.prog 89 #[.int .i64 d] w fun e w'=>e= .returned (.int .u64 ud)∧w'=w)):
  Calls Tryz.prog 92 #[.int .i64 a,.int .i64 b,.int .i64 c,.int .i64 d] w fun e w'=>e= .returned (.int .i64 r)∧Keep w w':=by
 go_enter Tryz.func92,Tryz.ntmps92;go_wp2_with fail
 refine(uq SG1 _).mono ?_;rintro e w1 ⟨rfl,rfl⟩;go_wp2_with fail
 refine(uq SG2 _).mono ?_;rintro e w1 ⟨rfl,rfl⟩;go_wp2_with fail
 refine(uq ZA _).mono ?_;rintro e w1 ⟨rfl,rfl⟩;go_wp2_with fail
 refine(uq ZB _).mono ?_;rintro e w1 ⟨rfl,rfl⟩;go_wp2_with fail
 refine(uq ZC _).mono ?_;rintro e w1 ⟨rfl,rfl⟩;go_wp2_with fail
 refine(uq ZD _).mono ?_;rintro e w1 ⟨rfl,rfl⟩;go_wp2_with fail
 refine(uq ZA _).mono ?_;rintro e w1 ⟨rfl,rfl⟩;go_wp2_with fail
 refine(uq ZB _).mono ?_;rintro e w1 ⟨rfl,rfl⟩;go_wp2_with fail
 refine(zaL ua ub _ ua0 ua1 ub0 ub1).mono ?_;rintro e w2 ⟨v2,l2,rfl,r2,d2,⟨n0,n1,n2⟩,bb2⟩;have kb2:Keep _ w2:=bb2;have N2:=hide n2;clear n2 bb2;go_wp2_with fail
 refine(uq ZC _).mono ?_;rintro e w1 ⟨rfl,rfl⟩;go_wp2_with fail
 refine(uq ZD _).mono ?_;rintro e w1 ⟨rfl,rfl⟩;go_wp2_with fail
 refine(zaL uc ud _ uc0 uc1 ud0 ud1).mono ?_;rintro e w3 ⟨v3,l3,rfl,r3,d3,⟨m0,m1,m2⟩,bb3⟩;have kb3:Keep _ w3:=bb3;have O1:=hide (zcx v2 v3 l2 l3 _ _ w3 (r2.keep kb3) r3 d2 d3 n0 m0 (by omega) (by omega));rw[uq N2,m2,uq HCV]at O1;clear r2 r3 m2 bb3 d2 d3;go_wp2_with fail
 refine(uq O1).mono ?_;rintro e w4 ⟨rfl,rfl⟩;go_wp2_with fail
 go_ret;exact⟨zaA eR,kb2.trans kb3⟩
theorem zrD (x y:Int): -1≤cm x y∧cm x y≤1:=by unfold cm;split<;>(try split)<;>omega
theorem zkQ {x y:Int} (h:sn x<sn y):cm x y= -1:=by
 have:x<y:=by unfold sn at h;split at h<;>split at h<;>(try split at h)<;>(try split at h)<;>omega
 unfold cm;rw[if_neg (by omega),if_pos this]
theorem zkR {x y:Int} (h:sn y<sn x):cm x y=1:=by
 have:y<x:=by unfold sn at h;split at h<;>split at h<;>(try split at h)<;>(try split at h)<;>omega
 unfold cm;rw[if_neg (by omega),if_neg (by omega)]
theorem znU {x y:Int} (h:sn x=sn y):sn x * cm (x.natAbs:Int) (y.natAbs:Int)=cm x y:=by
 rcases Int.lt_trichotomy x 0 with hx|hx|hx
 ·have e:sn x= -1:=by unfold sn;rw[if_neg (by omega),if_pos hx]
  have hy:y<0:=by rw[e]at h;unfold sn at h;split at h<;>(try split at h)<;>omega
  rw[e];unfold cm
  by_cases h1:x=y
  ·rw[if_pos (by omega),if_pos h1];rfl
  ·by_cases h2:x<y
   ·rw[if_neg (by omega),if_neg (by omega),if_neg h1,if_pos h2];rfl
   ·rw[if_neg (by omega),if_pos (by omega),if_neg h1,if_neg h2];rfl
 ·subst hx;have hy:y=0:=by unfold sn at h;simp at h;split at h<;>(try split at h)<;>simp_all
  subst hy
  rfl
 ·have e:sn x=1:=by unfold sn;rw[if_neg (by omega),if_neg (by omega)]
  have hy:0<y:=by rw[e]at h;unfold sn at h;split at h<;>(try split at h)<;>omega
  rw[e,Int.one_mul,show(x.natAbs:Int)=x by omega,show(y.natAbs:Int)=y by omega]
theorem zd5 {a b:Int} (ha:(a.natAbs:Int)<2147483648) (hb:(b.natAbs:Int)<2147483648):wrap64 (a * b)=a * b:=by
 have e:=Int.natAbs_mul a b;have m:a.natAbs * b.natAbs≤2147483647 * 2147483647:=Nat.mul_le_mul (by omega) (by omega);generalize a.natAbs * b.natAbs=u at e m;unfold wrap64
 omega
theorem ze6 (a b c d:Int) (w:World) (h1: -9223372036854775808≤a) (h2:a≤9223372036854775807) (h3: -9223372036854775808≤b) (h4:b≤9223372036854775807)
  (k1: -9223372036854775808≤c) (k2:c≤9223372036854775807) (k3: -9223372036854775808≤d) (k4:d≤9223372036854775807):
  Calls Tryz.prog 92 #[.int .i64 a,.int .i64 b,.int .i64 c,.int .i64 d] w fun e w'=>e= .returned (.int .i64 (cm (a * b) (c * d)))∧Keep w w':=by
 have SG1:Hid (∀ w,_):=fun w=>ze2 a b w
 have SG2:Hid (∀ w,_):=fun w=>ze2 c d w
 rcases Int.lt_trichotomy (sn (a * b)) (sn (c * d))with hs|hs|hs
 ·rw[zkQ hs];exact zfW a b c d _ _ w hs SG1 SG2
 ·have ZA:Hid (∀ w,_):=fun w=>zcz a w h1 h2
  have ZB:Hid (∀ w,_):=fun w=>zcz b w h3 h4
  have ZC:Hid (∀ w,_):=fun w=>zcz c w k1 k2
  have ZD:Hid (∀ w,_):=fun w=>zcz d w k3 k4
  have ba:=zde h1 h2;have bb:=zde h3 h4;have bc:=zde k1 k2;have bd:=zde k3 k4;rw[← hs]at SG2;have key:wrap64 (sn (a * b) * cm ((a.natAbs:Int) * (b.natAbs:Int)) ((c.natAbs:Int) * (d.natAbs:Int)))=cm (a * b) (c * d):=by
   rw[zd4,zd4,znU hs];have:=zrD (a * b) (c * d);unfold wrap64;omega
  by_cases qa:(a.natAbs:Int)<2147483648
  ·by_cases qb:(b.natAbs:Int)<2147483648
   ·by_cases qc:(c.natAbs:Int)<2147483648
    ·by_cases qd:(d.natAbs:Int)<2147483648
     ·have e1:=zd5 qa qb;have e2:=zd5 qc qd;rcases Int.lt_trichotomy (a * b) (c * d)with hm|hm|hm
      ·rw[show cm (a * b) (c * d)= -1 by unfold cm;rw[if_neg (by omega),if_pos hm]];exact ze3 a b c d _ _ _ _ _ _ _ w qa qb qc qd e1 e2 hm SG1 SG2 ZA ZB ZC ZD
      ·rw[show cm (a * b) (c * d)=0 by unfold cm;rw[if_pos hm]];exact ze5 a b c d _ _ _ _ _ _ _ w qa qb qc qd e1 e2 hm SG1 SG2 ZA ZB ZC ZD
      ·rw[show cm (a * b) (c * d)=1 by unfold cm;rw[if_neg (by omega),if_neg (by omega)]];exact ze4 a b c d _ _ _ _ _ _ _ w qa qb qc qd e1 e2 hm SG1 SG2 ZA ZB ZC ZD
     ·exact zf1 a b c d _ _ _ _ _ _ _ w qa qb qc qd ba.1 ba.2 bb.1 bb.2 bc.1 bc.2 bd.1 bd.2 (hide rfl) key SG1 SG2 ZA ZB ZC ZD
    ·exact zf0 a b c d _ _ _ _ _ _ _ w qa qb qc ba.1 ba.2 bb.1 bb.2 bc.1 bc.2 bd.1 bd.2 (hide rfl) key SG1 SG2 ZA ZB ZC ZD
   ·exact zfZ a b c d _ _ _ _ _ _ _ w qa qb ba.1 ba.2 bb.1 bb.2 bc.1 bc.2 bd.1 bd.2 (hide rfl) key SG1 SG2 ZA ZB ZC ZD
  ·exact zfY a b c d _ _ _ _ _ _ _ w qa ba.1 ba.2 bb.1 bb.2 bc.1 bc.2 bd.1 bd.2 (hide rfl) key SG1 SG2 ZA ZB ZC ZD
 ·rw[zkR hs];exact zfX a b c d _ _ w hs SG1 SG2
end Go.Proofs.YtcdhdhbjnpndkaaGreat
namespace Go.Proofs.YtcdhdhbjnpndkaaGreat
open Go.RowKit
attribute [local go_sem ↓] Go.wp_at_zero Go.wp_at_succ
set_option linter.unusedVariables false
set_option linter.unusedSimpArgs false
set_option maxRecDepth 10000
set_option maxHeartbeats 400000 in
theorem zjC (n d n2 d2 x y x2 y2 v:Int) (w:World) (Cn:Int→Int→Int→Int→Prop) (K1:Cn n d x y) (K2:Cn n2 d2 x2 y2)
  (N1:Hid (∀(n d x y:Int),Cn n d x y→∀ w,Calls Tryz.prog 85 #[.agg #[.int .i64 n,.int .i64 d]] w fun e w'=>e= .returned (.agg #[.int .i64 x,.int .i64 y])∧Keep w w'))
  (T2:Hid (∀ w,Calls Tryz.prog 92 #[.int .i64 x,.int .i64 y2,.int .i64 x2,.int .i64 y] w fun e w'=>e= .returned (.int .i64 v)∧Keep w w')):
  Calls Tryz.prog 46 #[.agg #[.int .i64 n,.int .i64 d],.agg #[.int .i64 n2,.int .i64 d2]] w fun e w'=>e= .returned (.int .i64 v)∧Keep w w':=by
 go_enter Tryz.func46,Tryz.ntmps46;go_wp2_with fail
 (refine((uq N1) _ _ _ _ K1 _).mono ?_;rintro e w2 ⟨rfl,hk⟩;obtain⟨o1,k1,rfl⟩:=hk.ext;clear hk);go_wp2_with fail
 (refine((uq N1) _ _ _ _ K2 _).mono ?_;rintro e w2 ⟨rfl,hk⟩;obtain⟨o2,k2,rfl⟩:=hk.ext;clear hk);go_wp2_with fail
 (refine((uq T2) _).mono ?_;rintro e w2 ⟨rfl,hk⟩;obtain⟨o3,k3,rfl⟩:=hk.ext;clear hk);go_wp2_with fail
 go_ret;exact⟨rfl,by repeat(first|apply zaa|apply Keep.alloc|apply Keep.drew|exact Keep.refl _)⟩
theorem zjD (n d n2 d2:Int) (w:World) (h1: -9223372036854775808≤n) (h2:n≤9223372036854775807) (h3: -9223372036854775808≤d) (h4:d≤9223372036854775807) (k1: -9223372036854775808≤n2) (k2:n2≤9223372036854775807) (k3: -9223372036854775808≤d2) (k4:d2≤9223372036854775807):
  Calls Tryz.prog 46 #[.agg #[.int .i64 n,.int .i64 d],.agg #[.int .i64 n2,.int .i64 d2]] w fun e w'=>e= .returned (.int .i64 (cm (cn n d * cd n2 d2) (cn n2 d2 * cd n d)))∧Keep w w':=by
 obtain⟨r1,r2,r3,r4,r5⟩:=zaG n d h1 h2 h4;obtain⟨s1,s2,s3,s4,s5⟩:=zaG n2 d2 k1 k2 k4;exact zjC n d n2 d2 _ _ _ _ _ w (fun n d x y=>∀ w,Calls Tryz.prog 85 #[.agg #[.int .i64 n,.int .i64 d]] w fun e w'=>e= .returned (.agg #[.int .i64 x,.int .i64 y])∧Keep w w')
  (fun w=>zbn n d w h1 h2 h3 h4) (fun w=>zbn n2 d2 w k1 k2 k3 k4) (hide fun n d x y h=>h) (hide fun w=>ze6 _ _ _ _ w r3 r4 (by omega) s5 s3 s4 (by omega) r5)
end Go.Proofs.YtcdhdhbjnpndkaaGreat
namespace Go.Proofs.YtcdhdhbjnpndkaaGreat
open Go.RowKit
set_option linter.unusedVariables false
set_option linter.unusedSimpArgs false
set_option maxRecDepth 10000
namespace Nd
open S V
theorem zqh {L1:List (List D)} {pn pd:Int} (hz:W.fz (Z9 L1 pn pd) 0 L1.length=0):∀ j,j<L1.length→Rt (X9 L1 pn pd j) (Y9 L1 pn pd j):=fun j hj=>by
 have h:=zi9 L1.length 0 hz j (Nat.zero_le _) (by omega);exact W.rt_of (W.rat_ok _ _ _ _ _ _) h
set_option maxHeartbeats 4000000 in
theorem ze9 {w w':World} (a0 a1 a2 a3 a4:Int) (aN:Option Addr) (nN cN:Nat) (aS:Option Addr) (nS cS:Nat) (a5 a6:Int) {s:ByteArray} {x1:Option Addr} {c1:Nat} {x2:Option Addr} {c2:Nat} {x3:Option Addr} {c3:Nat} {x4:Option Addr} {n4 c4:Nat} {x5:Option Addr} {n5 c5:Nat} {p:Int} {L1 L2 L3 L4 L5:List (List D)} (q1:∀ ds∈L1,ShL zcZ ds) (m1:Rvss w x1 11 L1 0) (q2:∀ ds∈L2,ShL zne ds) (m2:Rvss w x2 6 L2 0) (q3:∀ ds∈L3,ShL zbs ds) (m3:Rvss w x3 3 L3 0) (hv:zdt L1 L2 L3 L4 L5 p=none) (kk:Keep w w') (i3:W.i64 a3) (i4:W.i64 a4) (hz:W.fz (Z9 L1 a3 a4) 0 L1.length=0) (k:Nat) (hk:k<L3.length):
  Calls Tryz.prog 23 #[.agg #[.int .i64 a0,.int .i64 a1,.int .i64 a2,.int .i64 a3,.int .i64 a4,.slice aN nN cN,.slice aS nS cS,.int .i64 a5,.int .i64 a6],.agg #[.string s,.slice x1 L1.length c1,.slice x2 L2.length c2,.slice x3 L3.length c3,.slice x4 n4 c4,.slice x5 n5 c5,.int .i64 p],.agg #[.string (sv (V.tn L3 k)),.slice (sA w x3 3 1 k) (ln L3 1 k) (sC w x3 3 1 k),.int .i64 (iv L3 2 k)]] w' (Rq9 (V.tn L3 k) (g2 L1 L2 L3 k) (yW L1 L3 k) (rW L1 L3 k) (xZ L1 L3 a3 a4 k) (wL L2 (V.tn L3 k)) w'):=by
 obtain⟨l1,l2,l3,_⟩:=zi4 (za2 hv).1;obtain⟨r1,r2,r3,r4⟩:=za1 q3 m3 k hk;have hN:=zrn hv hk;refine zku a0 a1 a2 a3 a4 aN nN cN aS nS cS a5 a6 s x1 L1.length c1 x2 L2.length c2 x3 L3.length c3 x4 n4 c4 x5 n5 c5 p (V.tn L3 k) (sA w x3 3 1 k) (ln L3 1 k) (sC w x3 3 1 k) (iv L3 2 k) (V.tn L1) (iv L1 1) (iv L1 2) (iv L1 3) (iv L1 4) (iv L1 5) (iv L1 6) (iv L1 7) (iv L1 8) (iv L1 9) (iv L1 10) (X9 L1 a3 a4) (Y9 L1 a3 a4) (Z9 L1 a3 a4) (fun j=>yN (iv L1 5 j) (iv L1 6 j)) (fun j=>yE (iv L1 5 j) (iv L1 6 j)) (fun j=>rN (iv L1 7 j) (iv L1 8 j) (iv L1 5 j)) (fun j=>rE (iv L1 7 j) (iv L1 8 j) (iv L1 5 j)) (fun j=>cI (sub L3 1 k) (V.tn L1 j)) (V.tn L2) (un L2) (iv L2 2) (iv L2 3) (iv L2 4) (iv L2 5) (fun m=>fN (iv L2 2 m) (iv L2 3 m)) _ (fun m=>wrap64 (iv L2 4 m+fN (iv L2 2 m) (iv L2 3 m))) (g1 L1 L3 k) _ _ _ _ w' (by omega) (by omega)
  (hide fun j hj=>?_) (hide fun j hj=>?_) (hide fun j hj=>zpW L1 a3 a4 j) (hide fun j hj=>zi9 L1.length 0 hz j (Nat.zero_le _) (by omega)) (hide fun j hj w2 k2=>?_) (hide fun j hj w2=>(zfL _ _ w2).mono fun e w3 h=>⟨h.1,h.2▸Keep.refl _⟩) (hide fun j hj w2=>(zkB _ _ _ w2).mono fun e w3 h=>⟨h.1,h.2▸Keep.refl _⟩) (hide fun j hj w2=>?_) (hide fun f t h1 h2 h3 h4 w2=>zjD _ _ _ _ w2 h1.1 h1.2 h2.1 h2.2 h3.1 h3.2 h4.1 h4.2) (hide fun j hj w2=>(zhv _ _ w2).mono fun e w3 h=>⟨h.1,h.2▸Keep.refl _⟩) (hide fun m hm=>rfl)
  (hide ⟨zfJ hN _ 0,zfJ hN _ 0,zfJ hN _ 0,znN hN (zqh hz),zi8 (V.tn L2) (un L2) (iv L2 4) _ _ _ _⟩)
 ·obtain⟨ad,e,hb,h⟩:=S.clHead kk q1 m1 j hj;exact⟨ad,e,Nat.lt_of_lt_of_le hb kk.size,h⟩
 ·obtain⟨ad,e,hb,h⟩:=S.clPed kk q2 m2 j hj;exact⟨ad,e,Nat.lt_of_lt_of_le hb kk.size,h⟩
 ·exact zct _ (ln L3 1 k) _ (sb L3 1 k) (V.tn L1 j) w2 (zcG (w:=w) (a:=x3) q3 k hk) (hide fun m hm=>by
   obtain⟨ad,e,hb,h0,hl⟩:=zcS r4 (Rvss.keep (kk.trans k2) _ _ _ _ r3) m hm;exact⟨ad,e,h0⟩)
 ·obtain⟨j1,j2,j3,j4⟩:=znM q1 hj;exact W.rratio_any _ _ _ _ _ _ _ j1 j2 j3 j4 i3 i4 w2
set_option maxHeartbeats 4000000 in
theorem znV {w:World} (a0 a1 a2 a3 a4:Int) (aN:Option Addr) (cN:Nat) (aS:Option Addr) (nS cS:Nat) (a5 a6:Int) (LN:List (List D)) (c cp:Int) (qN:∀ ds∈LN,ShL zbe ds) (mN:Rvss w aN 7 LN 0) (i3:W.i64 a3) (i4:W.i64 a4) (i:Int) (hv:c=0→nsE LN=none)
  (TC:∀ w',Keep w w'→Calls Tryz.prog 13 #[.agg #[.int .i64 a0,.int .i64 a1,.int .i64 a2,.int .i64 a3,.int .i64 a4,.slice aN LN.length cN,.slice aS nS cS,.int .i64 a5,.int .i64 a6]] w' fun e w''=>e= .returned (.tuple #[.int .i64 c,.int .i64 cp])∧Keep w' w''):
  Calls Tryz.prog 7 #[.agg #[.int .i64 a0,.int .i64 a1,.int .i64 a2,.int .i64 a3,.int .i64 a4,.slice aN LN.length cN,.slice aS nS cS,.int .i64 a5,.int .i64 a6],.int .i64 i] w (OfL a3 a4 LN c i w):=by
 unfold OfL
 by_cases hi:i<0∨(LN.length:Int)≤i∨¬c=0
 ·have e:ofL a3 a4 LN c i=1:=by
   unfold ofL
   by_cases h1:i<0∨(LN.length:Int)≤i
   ·rw[if_pos h1]
   ·rw[if_neg h1,if_neg (by omega)]
  rw[e];exact zpJ a0 a1 a2 a3 a4 aN LN.length cN aS nS cS a5 a6 i _ _ _ _ _ _ _ c cp w hi (hide TC)
 ·obtain⟨j,rfl⟩:∃ j:Nat,i=(j:Int):=⟨i.toNat,by omega⟩;have hc:c=0:=by omega
  have hj:j<LN.length:=by omega
  have e:ofL a3 a4 LN c (j:Int)=W.fz (Z9 (sub LN 1 j) a3 a4) 0 (sub LN 1 j).length:=by unfold ofL;rw[if_neg (by omega),if_pos hc,Int.toNat_natCast]
  rw[e,Int.toNat_natCast];have hnl:zdt (sub LN 1 j) (sub LN 2 j) (sub LN 3 j) (sub LN 4 j) (sub LN 5 j) (iv LN 6 j)=none:=zfC (hv hc) j hj;obtain⟨l1,l2,l3,_⟩:=zi4 (za2 hnl).1;obtain⟨⟨s11,s12,s13,s14⟩,⟨s21,s22,s23,s24⟩,⟨s31,s32,s33,s34⟩,⟨s41,s42,s43,s44⟩,⟨s51,s52,s53,s54⟩⟩:=zgf qN mN j hj;subst hc;have hcl:=S.clNode (Keep.refl w) qN mN j hj;rw[s11,s21,s31,s41,s51]at hcl;refine zpK a0 a1 a2 a3 a4 aN LN.length cN aS nS cS a5 a6 j (sv (V.tn LN j)) (sA w aN 7 1 j) (sub LN 1 j).length (sC w aN 7 1 j) (sA w aN 7 2 j) (sub LN 2 j).length (sC w aN 7 2 j) (sA w aN 7 3 j) (sub LN 3 j).length (sC w aN 7 3 j) (sA w aN 7 4 j) (sub LN 4 j).length (sC w aN 7 4 j) (sA w aN 7 5 j) (sub LN 5 j).length (sC w aN 7 5 j) (iv LN 6 j) (sA w (sA w aN 7 3 j) 3 1) (ln (sub LN 3 j) 1) (sC w (sA w aN 7 3 j) 3 1) (iv (sub LN 3 j) 2) _ _ _ _ _ _ (V.tn (sub LN 1 j)) (iv (sub LN 1 j) 1) (iv (sub LN 1 j) 2) (iv (sub LN 1 j) 3) (iv (sub LN 1 j) 4) (iv (sub LN 1 j) 5) (iv (sub LN 1 j) 6) (iv (sub LN 1 j) 7) (iv (sub LN 1 j) 8) (iv (sub LN 1 j) 9) (iv (sub LN 1 j) 10) (X9 (sub LN 1 j) a3 a4) (Y9 (sub LN 1 j) a3 a4) (Z9 (sub LN 1 j) a3 a4) cp w hj (by omega) (by omega) (hide hcl) (hide fun k hk=>S.clHead (Keep.refl w) s14 s13 k hk) (hide fun k hk=>?_) (hide TC) (hide fun k hk w'=>?_) (hide fun hz k hk w' kw=>ze9 a0 a1 a2 a3 a4 aN LN.length cN aS nS cS a5 a6 s14 s13 s24 s23 s34 s33 hnl kw i3 i4 hz k hk)
  ·obtain⟨ad,e,hb,h0,h1,h2⟩:=S.clPhase (Keep.refl w) s34 s33 k hk;rw[(za1 s34 s33 k hk).1]at h1;exact⟨ad,e,hb,h0,h1,h2⟩
  ·obtain⟨j1,j2,j3,j4⟩:=znM s14 hk;exact W.rratio_any _ _ _ _ _ _ _ j1 j2 j3 j4 i3 i4 w'
end Nd
end Go.Proofs.YtcdhdhbjnpndkaaGreat
