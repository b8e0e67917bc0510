/- Plain numbers: volumes as they count, and flow ratios, step by step; fractions rounded. No program is met here. -/
import Derived.Test.YtpmaonkelkmhbaaGreatFracC
import Derived.Deep.DeepCutAuto
namespace Go.Proofs.YtpmaonkelkmhbaaGreat
open Go.RowKit
set_option linter.unusedVariables false
set_option linter.unusedSimpArgs false
namespace W
abbrev A3:=Int×Int×Int
def i64 (n:Int):Prop:= -9223372036854775808≤n∧n≤9223372036854775807
def low (N D:Int):A3:=(pN (rn N D) (rd N D),pD (rn N D) (rd N D),pE (rn N D) (rd N D))
def ofF (n d:Int):A3:=if d=0 then(0,0,3)else low (sgn (decide (d<0)) n) (d.natAbs:Int)
def zda (a b c d:Int):A3:=low (cn a b * cn c d) (cd a b * cd c d)
def zfN (a b c d:Int):A3:=if cn c d=0 then(0,0,3)else low (cn a b * sgn (decide (cn c d<0)) (cd c d)) (cd a b * ((cn c d).natAbs:Int))
def zgX (op:Int→Int→Int→Int→A3) (a b n d:Int):A3:=if(ofF n d).2.2=0 then op a b (ofF n d).1 (ofF n d).2.1 else(0,0,(ofF n d).2.2)
def zcw (op:Int→Int→Int→Int→A3) (s:A3) (n d:Int):A3:=if s.2.2=0 then zgX op s.1 s.2.1 n d else s
def zd5 (v un ud pn pd:Int):A3:=zcw zfN (zcw zda (zcw zda (1,1,0) un ud) v 1) pn pd
def ratF (v s un ud pn pd:Int):A3:=zcw zfN (zd5 v un ud pn pd) s 1
def Ok (a:A3):Prop:=(a.2.2=0∧Rt a.1 a.2.1)∨(¬a.2.2=0∧a.1=0∧a.2.1=0∧0≤a.2.2∧a.2.2≤3)
theorem Ok.in1 {a:A3} (h:Ok a):i64 a.1:=by
 rcases h with ⟨_,h⟩|⟨_,h,_⟩
 ·exact⟨h.2.2.1,h.2.2.2.1⟩
 ·rw[h];constructor<;>omega
theorem Ok.in2 {a:A3} (h:Ok a):i64 a.2.1:=by
 rcases h with ⟨_,h⟩|⟨_,_,h,_⟩
 ·exact⟨by have:=h.1;omega,h.2.2.2.2⟩
 ·rw[h];constructor<;>omega
theorem Ok.zero {a:A3} (h:Ok a) (he:¬a.2.2=0):a=(0,0,a.2.2):=by
 rcases h with ⟨h,_⟩|⟨_,h1,h2,_⟩
 ·exact absurd h he
 ·obtain⟨x,y,z⟩:=a;simp only at h1 h2 ⊢;rw[h1,h2]
theorem ze1 {N D:Int} (hD:0<D):Ok (low N D):=by
 obtain⟨s1,s2,s3⟩:=zeZ (N:=N) hD;unfold Ok low
 by_cases h:fit (rn N D)=true∧fit (rd N D)=true
 ·obtain⟨e1,e2,e3⟩:=zb6 h.1 h.2;have f1:=h.1;have f2:=h.2;simp only[fit,decide_eq_true_eq]at f1 f2;exact .inl ⟨e3,by show Rt (pN _ _) (pD _ _);rw[e1,e2];exact⟨by omega,s2,f1.1,f1.2,f2.2⟩⟩
 ·have h':fit (rn N D)=false∨fit (rd N D)=false:=by
   cases h1:fit (rn N D)<;>cases h2:fit (rd N D)<;>simp_all
  obtain⟨e1,e2,e3⟩:=zbx h';refine .inr ⟨?_,e1,e2,?_,?_⟩
  ·show ¬pE _ _=0;omega
  ·show 0≤pE _ _;omega
  ·show pE _ _≤3;omega
theorem zk9 {N D:Int} (hD:0<D) (h:(low N D).2.2=0):(low N D).1 * D=N * (low N D).2.1:=by
 obtain⟨s1,s2,s3⟩:=zeZ (N:=N) hD;unfold low at h ⊢
 simp only at h ⊢;by_cases hf:fit (rn N D)=true∧fit (rd N D)=true
 ·obtain⟨e1,e2,e3⟩:=zb6 hf.1 hf.2;rw[e1,e2];exact s3
 ·have h':fit (rn N D)=false∨fit (rd N D)=false:=by
   cases h1:fit (rn N D)<;>cases h2:fit (rd N D)<;>simp_all
  obtain⟨e1,e2,e3⟩:=zbx h';rw[e3]at h;omega
theorem zgY {N D n d:Int} (hD:0<D) (hr:Rt n d) (h:n * D=N * d):low N D=(n,d,0):=by
 obtain⟨e1,e2⟩:=zgO (n:=n) (d:=d) (by have:=hr.1;omega) hD hr.2.1 h;unfold low
 rw[e1,e2];obtain⟨r1,r2,r3,r4,r5⟩:=hr;obtain⟨a,b,c⟩:=zb6 (n:=n) (d:=d) (zbJ r3 r4) (zbJ (by omega) r5);rw[a,b,c]
theorem zcn (n d:Int):Ok (ofF n d):=by
 unfold ofF
 split
 ·exact .inr ⟨by simp,rfl,rfl,by simp,by simp⟩
 ·exact ze1 (by omega)
theorem zgZ (n d:Int):1≤cd n d:=by
 unfold cd
 by_cases h:rt n d=true
 ·rw[if_pos h];simp only[rt,decide_eq_true_eq]at h;exact h.1
 ·rw[if_neg h];omega
theorem ze2 {a b:Int} (h1:1≤a) (h2:1≤b):0<a * b:=Int.mul_pos (by omega) (by omega)
theorem zbP (a b c d:Int):Ok (zda a b c d):=ze1 (ze2 (zgZ _ _) (zgZ _ _))
theorem zeq (a b c d:Int):Ok (zfN a b c d):=by
 unfold zfN
 split
 ·exact .inr ⟨by simp,rfl,rfl,by simp,by simp⟩
 ·exact ze1 (ze2 (zgZ _ _) (by omega))
theorem znb {op:Int→Int→Int→Int→A3} (ho:∀ a b c d,Ok (op a b c d)) (a b n d:Int):Ok (zgX op a b n d):=by
 unfold zgX
 split
 ·exact ho _ _ _ _
 ·rename_i h
  rw[← (zcn n d).zero h];exact zcn n d
theorem zdb {op:Int→Int→Int→Int→A3} (ho:∀ a b c d,Ok (op a b c d)) {s:A3} (hs:Ok s) (n d:Int):Ok (zcw op s n d):=by
 unfold zcw
 split
 ·exact znb ho _ _ _ _
 ·exact hs
theorem zbS:Ok (1,1,0):= .inl ⟨rfl,by simp,by decide,by simp,by simp,by simp⟩
theorem ze3 (v un ud pn pd:Int):Ok (zd5 v un ud pn pd):=zdb zeq (zdb zbP (zdb zbP zbS _ _) _ _) _ _
theorem rat_ok (v s un ud pn pd:Int):Ok (ratF v s un ud pn pd):=zdb zeq (ze3 _ _ _ _ _) _ _
theorem zg0 {v:Int} (h:i64 v):Rt v 1:=⟨by omega,by simp,h.1,h.2,by omega⟩
theorem ziT {v:Int} (h:i64 v):ofF v 1=(v,1,0):=by
 unfold ofF
 rw[if_neg (by omega)];exact zgY (by omega) (zg0 h) (by simp[sgn])
theorem mul_one {b d:Int} (h:Rt b d):zda 1 1 b d=(b,d,0):=by
 have r1:Rt 1 1:=⟨by omega,by decide,by omega,by omega,by omega⟩;unfold zda
 rw[r1.cn,r1.cd,h.cn,h.cd,Int.one_mul,Int.one_mul];exact zgY (by have:=h.1;omega) h rfl
def zc2 (v un ud pn pd:Int):A3:=
 if ¬(ofF un ud).2.2=0 then(0,0,(ofF un ud).2.2)else
 if ¬(zda (ofF un ud).1 (ofF un ud).2.1 v 1).2.2=0 then(0,0,(zda (ofF un ud).1 (ofF un ud).2.1 v 1).2.2)else
 if ¬(ofF pn pd).2.2=0 then(0,0,(ofF pn pd).2.2)else
 zfN (zda (ofF un ud).1 (ofF un ud).2.1 v 1).1 (zda (ofF un ud).1 (ofF un ud).2.1 v 1).2.1 (ofF pn pd).1 (ofF pn pd).2.1
def zla (v s un ud pn pd:Int):A3:=if ¬(zc2 v un ud pn pd).2.2=0 then(0,0,(zc2 v un ud pn pd).2.2)else zfN (zc2 v un ud pn pd).1 (zc2 v un ud pn pd).2.1 s 1
theorem zia (un ud:Int):zcw zda (1,1,0) un ud=ofF un ud:=by
 unfold zcw zgX
 simp only[if_true];split
 ·rename_i h
  rcases zcn un ud with ⟨h0,hr⟩|⟨h0,_⟩
  ·rw[mul_one hr];generalize ofF un ud=q at *;obtain⟨x,y,z⟩:=q;simp only at h ⊢;rw[h]
  ·exact absurd h h0
 ·rename_i h
  exact((zcn un ud).zero h).symm
theorem zdw {v un ud pn pd:Int} (hv:i64 v):zd5 v un ud pn pd=zc2 v un ud pn pd:=by
 unfold zd5 zc2
 rw[zia];by_cases h1:(ofF un ud).2.2=0
 ·rw[if_neg (by simpa using h1)];have e:zcw zda (ofF un ud) v 1=zda (ofF un ud).1 (ofF un ud).2.1 v 1:=by
   unfold zcw zgX
   rw[if_pos h1,ziT hv];simp
  rw[e];have hm:=zbP (ofF un ud).1 (ofF un ud).2.1 v 1;generalize zda (ofF un ud).1 (ofF un ud).2.1 v 1=m at *;by_cases h2:m.2.2=0
  ·rw[if_neg (by simpa using h2)];unfold zcw zgX
   rw[if_pos h2];by_cases h3:(ofF pn pd).2.2=0
   ·rw[if_pos h3,if_neg (by simpa using h3)]
   ·rw[if_neg h3,if_pos h3]
  ·rw[if_pos h2];unfold zcw
   rw[if_neg h2];exact hm.zero h2
 ·rw[if_pos h1];have z:=(zcn un ud).zero h1;have e:zcw zda (ofF un ud) v 1=ofF un ud:=by unfold zcw;rw[if_neg h1]
  rw[e];unfold zcw
  rw[if_neg h1];exact z
theorem zlb {v s un ud pn pd:Int} (hv:i64 v) (hs:i64 s):ratF v s un ud pn pd=zla v s un ud pn pd:=by
 unfold ratF zla
 rw[zdw hv];have hm:Ok (zc2 v un ud pn pd):=by rw[← zdw hv];exact ze3 _ _ _ _ _
 generalize zc2 v un ud pn pd=m at *;by_cases h:m.2.2=0
 ·rw[if_neg (by simpa using h)];unfold zcw zgX
  rw[if_pos h,ziT hs];simp
 ·rw[if_pos h];unfold zcw
  rw[if_neg h];exact hm.zero h
def Q (x y N D:Int):Prop:=0<y∧0<D∧x * D=N * y
theorem Q.mul {x y x1 y1 x2 y2 N1 D1 N2 D2:Int} (h:Q x y (x1 * x2) (y1 * y2)) (h1:Q x1 y1 N1 D1) (h2:Q x2 y2 N2 D2):Q x y (N1 * N2) (D1 * D2):=by
 obtain⟨a,b,c⟩:=h;obtain⟨a1,b1,c1⟩:=h1;obtain⟨a2,b2,c2⟩:=h2;refine⟨a,Int.mul_pos b1 b2,?_⟩;have e:x * (D1 * D2) * (y1 * y2)=N1 * N2 * y * (y1 * y2):=by
  calc x * (D1 * D2) * (y1 * y2)=(x * (y1 * y2)) * (D1 * D2):=by simp only[Int.mul_assoc,Int.mul_comm,Int.mul_left_comm]
   _=(x1 * x2 * y) * (D1 * D2):=by rw[c]
   _=(x1 * D1) * (x2 * D2) * y:=by simp only[Int.mul_assoc,Int.mul_comm,Int.mul_left_comm]
   _=(N1 * y1) * (N2 * y2) * y:=by rw[c1,c2]
   _=N1 * N2 * y * (y1 * y2):=by simp only[Int.mul_assoc,Int.mul_comm,Int.mul_left_comm]
 exact Int.eq_of_mul_eq_mul_right (by omega) e
theorem Q.le {x y x2 y2 N D N2 D2:Int} (h:Q x y N D) (h2:Q x2 y2 N2 D2) (hl:N * D2≤N2 * D):x * y2≤x2 * y:=by
 obtain⟨a,b,c⟩:=h;obtain⟨a2,b2,c2⟩:=h2;have hp:0<D * D2:=Int.mul_pos b b2;refine Int.le_of_mul_le_mul_right (a:=D * D2) ?_ hp
 calc x * y2 * (D * D2)=(x * D) * (D2 * y2):=by simp only[Int.mul_assoc,Int.mul_comm,Int.mul_left_comm]
  _=(N * y) * (D2 * y2):=by rw[c]
  _=(N * D2) * (y * y2):=by simp only[Int.mul_assoc,Int.mul_comm,Int.mul_left_comm]
  _≤(N2 * D) * (y * y2):=Int.mul_le_mul_of_nonneg_right hl (Int.le_of_lt (Int.mul_pos a a2))
  _=(N2 * y2) * (y * D):=by simp only[Int.mul_assoc,Int.mul_comm,Int.mul_left_comm]
  _=(x2 * D2) * (y * D):=by rw[c2]
  _=x2 * y * (D * D2):=by simp only[Int.mul_assoc,Int.mul_comm,Int.mul_left_comm]
theorem Q.eq {x y x2 y2 N D:Int} (h:Q x y N D) (h2:Q x2 y2 N D):x * y2=x2 * y:=by
 have e1:=h.le h2 (Int.le_refl _);have e2:=h2.le h (Int.le_refl _);omega
theorem Q.inv {x y N D:Int} (h:Q x y N D) (hx:¬x=0):Q (sgn (decide (x<0)) y) (x.natAbs:Int) (sgn (decide (N<0)) D) (N.natAbs:Int):=by
 obtain⟨a,b,c⟩:=h;have hN:¬N=0:=by
  intro h0
  rw[h0,Int.zero_mul]at c;rcases Int.mul_eq_zero.1 c with h|h<;>omega
 have hs:x<0↔N<0:=by
  constructor
  ·intro hx0
   rcases Int.lt_trichotomy N 0 with h|h|h
   ·exact h
   ·omega
   ·have e1:=Int.mul_pos h a;have e2:=Int.mul_neg_of_neg_of_pos hx0 b;omega
  ·intro hn0
   rcases Int.lt_trichotomy x 0 with h|h|h
   ·exact h
   ·omega
   ·have e1:=Int.mul_pos h b;have e2:=Int.mul_neg_of_neg_of_pos hn0 a;omega
 refine⟨by omega,by omega,?_⟩;by_cases h:x<0
 ·have h':=hs.1 h;simp only[h,h',decide_true,sgn,if_true];rw[show((N.natAbs:Nat):Int)= -N by omega,show((x.natAbs:Nat):Int)= -x by omega];rw[Int.neg_mul,Int.mul_neg,Int.neg_mul,Int.mul_neg,Int.mul_comm y N,← c,Int.mul_comm x D]
 ·have h':¬N<0:=fun k=>h (hs.2 k)
  simp only[h,h',decide_false,sgn,if_false,Bool.false_eq_true];rw[show((N.natAbs:Nat):Int)=N by omega,show((x.natAbs:Nat):Int)=x by omega,Int.mul_comm y N,← c,Int.mul_comm x D]
theorem zlc {N D:Int} (hD:0<D) (h:(low N D).2.2=0):Q (low N D).1 (low N D).2.1 N D:=by
 refine⟨?_,hD,zk9 hD h⟩;rcases ze1 (N:=N) hD with ⟨_,hr⟩|⟨h0,_⟩
 ·have:=hr.1;omega
 ·exact absurd h h0
theorem zo5 {n d:Int} (h:(ofF n d).2.2=0):¬d=0∧Q (ofF n d).1 (ofF n d).2.1 (sgn (decide (d<0)) n) (d.natAbs:Int):=by
 unfold ofF at h ⊢
 by_cases hd:d=0
 ·rw[if_pos hd]at h;simp at h
 ·rw[if_neg hd]at h ⊢;exact⟨hd,zlc (by omega) h⟩
theorem zg1 {a:A3} (h:Ok a) (h0:a.2.2=0):Rt a.1 a.2.1:=by
 rcases h with ⟨_,h⟩|⟨h,_⟩
 ·exact h
 ·exact absurd h0 h
theorem zox {a b c d N1 D1 N2 D2:Int} (r1:Rt a b) (r2:Rt c d) (q1:Q a b N1 D1) (q2:Q c d N2 D2) (h:(zda a b c d).2.2=0):Q (zda a b c d).1 (zda a b c d).2.1 (N1 * N2) (D1 * D2):=by
 unfold zda at h ⊢
 rw[r1.cn,r1.cd,r2.cn,r2.cd]at h ⊢;exact(zlc (Int.mul_pos q1.1 q2.1) h).mul q1 q2
theorem znc {a b c d N1 D1 N2 D2:Int} (r1:Rt a b) (r2:Rt c d) (q1:Q a b N1 D1) (q2:Q c d N2 D2) (h:(zfN a b c d).2.2=0):Q (zfN a b c d).1 (zfN a b c d).2.1 (N1 * sgn (decide (N2<0)) D2) (D1 * (N2.natAbs:Int)):=by
 unfold zfN at h ⊢
 rw[r1.cn,r1.cd,r2.cn,r2.cd]at h ⊢;by_cases hc:c=0
 ·rw[if_pos hc]at h;simp at h
 ·rw[if_neg hc]at h ⊢;exact(zlc (Int.mul_pos q1.1 (by omega)) h).mul q1 (q2.inv hc)
theorem znd (v:Int):Q v 1 v 1:=⟨by omega,by omega,rfl⟩
def KN (un ud pn pd:Int):Int:=sgn (decide (ud<0)) un * sgn (decide (sgn (decide (pd<0)) pn<0)) (pd.natAbs:Int)
def KD (ud pn pd:Int):Int:=(ud.natAbs:Int) * ((sgn (decide (pd<0)) pn).natAbs:Int)
theorem zoy {v un ud pn pd:Int} (hv:i64 v) (h:(zd5 v un ud pn pd).2.2=0):Q (zd5 v un ud pn pd).1 (zd5 v un ud pn pd).2.1 (KN un ud pn pd * v) (KD ud pn pd):=by
 rw[zdw hv]at h ⊢;unfold zc2 at h ⊢
 by_cases h1:(ofF un ud).2.2=0
 ·rw[if_neg (by simpa using h1)]at h ⊢;by_cases h2:(zda (ofF un ud).1 (ofF un ud).2.1 v 1).2.2=0
  ·rw[if_neg (by simpa using h2)]at h ⊢;by_cases h3:(ofF pn pd).2.2=0
   ·rw[if_neg (by simpa using h3)]at h ⊢;obtain⟨d1,q1⟩:=zo5 h1;obtain⟨d3,q3⟩:=zo5 h3;have r1:=zg1 (zcn un ud) h1;have r3:=zg1 (zcn pn pd) h3;have q2:=zox r1 (zg0 hv) q1 (znd v) h2;have r2:=zg1 (zbP _ _ _ _) h2;have q4:=znc r2 r3 q2 q3 h;have e1:KN un ud pn pd * v=sgn (decide (ud<0)) un * v * sgn (decide (sgn (decide (pd<0)) pn<0)) (pd.natAbs:Int):=by unfold KN;rw[Int.mul_right_comm]
    have e2:KD ud pn pd=(ud.natAbs:Int) * 1 * ((sgn (decide (pd<0)) pn).natAbs:Int):=by unfold KD;rw[Int.mul_one]
    rw[e1,e2];exact q4
   ·rw[if_pos h3]at h;exact absurd h h3
  ·rw[if_pos h2]at h;exact absurd h h2
 ·rw[if_pos h1]at h;exact absurd h h1
theorem zld {v s un ud pn pd:Int} (hv:i64 v) (hs:i64 s) (h:(ratF v s un ud pn pd).2.2=0):(zd5 v un ud pn pd).2.2=0∧ratF v s un ud pn pd=zfN (zd5 v un ud pn pd).1 (zd5 v un ud pn pd).2.1 s 1:=by
 rw[zlb hv hs]at h ⊢;rw[zdw hv];unfold zla at h ⊢
 by_cases h1:(zc2 v un ud pn pd).2.2=0
 ·rw[if_neg (by simpa using h1)];exact⟨h1,rfl⟩
 ·rw[if_pos h1]at h;exact absurd h h1
theorem zib {v s un ud pn pd:Int} (hv:i64 v) (hs:i64 s) (h:(ratF v s un ud pn pd).2.2=0):Q (ratF v s un ud pn pd).1 (ratF v s un ud pn pd).2.1 (KN un ud pn pd * v * sgn (decide (s<0)) 1) (KD ud pn pd * (s.natAbs:Int)):=by
 obtain⟨h1,e⟩:=zld hv hs h;rw[e]at h ⊢;exact znc (zg1 (ze3 _ _ _ _ _) h1) (zg0 hs) (zoy hv h1) (znd s) h
theorem zne {un ud pn pd:Int} (h1:1≤un) (h2:1≤ud) (h3:1≤pn) (h4:1≤pd):0≤KN un ud pn pd:=by
 unfold KN
 have e1:sgn (decide (ud<0)) un=un:=by simp[sgn];omega
 have e2:sgn (decide (pd<0)) pn=pn:=by simp[sgn];omega
 rw[e1,e2];have e3:sgn (decide (pn<0)) (pd.natAbs:Int)=pd:=by simp[sgn];omega
 rw[e3];exact Int.mul_nonneg (by omega) (by omega)
theorem zle {s:Int} (h:1≤s):sgn (decide (s<0)) 1=1:=by simp[sgn];omega
theorem zpe {v s un ud pn pd:Int} (hv:i64 v) (hv2:i64 (v+1)) (hs:i64 s) (h1:1≤un) (h2:1≤ud) (h3:1≤pn) (h4:1≤pd) (h5:1≤s) (ha:(ratF v s un ud pn pd).2.2=0) (hb:(ratF (v+1) s un ud pn pd).2.2=0):
  (ratF v s un ud pn pd).1 * (ratF (v+1) s un ud pn pd).2.1≤(ratF (v+1) s un ud pn pd).1 * (ratF v s un ud pn pd).2.1:=by
 have qa:=zib hv hs ha;have qb:=zib hv2 hs hb;refine qa.le qb ?_;have hk:=zne h1 h2 h3 h4;have hd:=qa.2.1;rw[zle h5,Int.mul_one,Int.mul_one];refine Int.mul_le_mul_of_nonneg_right ?_ (Int.le_of_lt hd);exact Int.mul_le_mul_of_nonneg_left (by omega) hk
theorem zpf {v s un ud pn pd:Int} (hv:i64 v) (hv2:i64 (2 * v)) (hs:i64 s) (ha:(ratF v s un ud pn pd).2.2=0) (hb:(ratF (2 * v) s un ud pn pd).2.2=0):
  low ((ratF v s un ud pn pd).1 * (ratF v s un ud pn pd).2.1+(ratF v s un ud pn pd).1 * (ratF v s un ud pn pd).2.1) ((ratF v s un ud pn pd).2.1 * (ratF v s un ud pn pd).2.1)=ratF (2 * v) s un ud pn pd:=by
 have qa:=zib hv hs ha;have qb:=zib hv2 hs hb;have rb:=zg1 (rat_ok (2 * v) s un ud pn pd) hb;have e:ratF (2 * v) s un ud pn pd=((ratF (2 * v) s un ud pn pd).1,(ratF (2 * v) s un ud pn pd).2.1,0):=by
  generalize ratF (2 * v) s un ud pn pd=q at *;obtain⟨x,y,z⟩:=q;simp only at hb ⊢;rw[hb]
 rw[e];have ea:(KN un ud pn pd * (2 * v) * sgn (decide (s<0)) 1)=2 * (KN un ud pn pd * v * sgn (decide (s<0)) 1):=by
  rw[Int.mul_left_comm,Int.mul_assoc]
 rw[ea]at qb;generalize KN un ud pn pd * v * sgn (decide (s<0)) 1=N at *;generalize KD ud pn pd * (s.natAbs:Int)=D at *;generalize ratF v s un ud pn pd=a at *;generalize ratF (2 * v) s un ud pn pd=b at *;obtain⟨x,y,z⟩:=a;obtain⟨x2,y2,z2⟩:=b;simp only at *;refine zgY (Int.mul_pos qa.1 qa.1) rb ?_;have q2:Q (2 * x) y (2 * N) D:=⟨qa.1,qa.2.1,by rw[Int.mul_assoc,qa.2.2,Int.mul_assoc]⟩;have e1:=q2.eq qb;have e2:x2 * (y * y)=(x2 * y) * y:=by rw[Int.mul_assoc]
 rw[e2,← e1];have e3:x * y+x * y=2 * x * y:=by rw[Int.mul_assoc];omega
 rw[e3,Int.mul_right_comm]
end W
end Go.Proofs.YtpmaonkelkmhbaaGreat
namespace Go.Proofs.YtpmaonkelkmhbaaGreat
open Go.RowKit
set_option linter.unusedVariables false
set_option maxRecDepth 10000
set_option maxHeartbeats 1000000 in
theorem zer (bp bq:Bool) (pn pd qn qd f s a c d g NH NL DH DL:Int) (w:World) (hf:¬f=0) (hs:¬s=0) (e1:pn.tdiv f=a) (e2:qn.tdiv s=c) (e3:pd.tdiv s=d) (e4:qd.tdiv f=g) (w1:IntKind.u64.wrap a=a) (w2:IntKind.u64.wrap c=c) (w3:IntKind.u64.wrap d=d) (w4:IntKind.u64.wrap g=g)
  (Dv:Int→Int→Int→Prop) (D1:Dv pn qd f) (D2:Dv qn pd s)
  (T1:Hid (∀(a b f:Int),Dv a b f→∀ w,Calls Tryz.prog 122 #[.int .u64 a,.int .u64 b] w fun e w'=>e= .returned (.int .u64 f)∧Keep w w'))
  (Pr:Int→Int→Int→Int→Prop) (P1:Pr a c NH NL) (P2:Pr d g DH DL)
  (T3:Hid (∀(a b H L:Int),Pr a b H L→∀ w,Calls Tryz.prog 123 #[.int .u64 a,.int .u64 b] w fun e w'=>e= .returned (.agg #[.int .u64 H,.int .u64 L])∧Keep w w'))
  (x y z:Int)
  (T5:Hid (∀ w,Calls Tryz.prog 124 #[.bool (!(bp==bq)),.agg #[.int .u64 NH,.int .u64 NL],.agg #[.int .u64 DH,.int .u64 DL]] w fun e w'=>e= .returned (.tuple #[.agg #[.int .i64 x,.int .i64 y],.int .i64 z])∧Keep w w')):
  Calls Tryz.prog 116 #[.agg #[.bool bp,.int .u64 pn,.int .u64 pd],.agg #[.bool bq,.int .u64 qn,.int .u64 qd]] w fun e w'=>e= .returned (.tuple #[.agg #[.int .i64 x,.int .i64 y],.int .i64 z])∧Keep w w':=by
 go_enter Tryz.func116,Tryz.ntmps116;go_wp2_with fail
 go_region_held3 (fun w'=>w'.cell? ⟨w.heap.size,1,none⟩=some (.int .u64 pn)∧w'.cell? ⟨w.heap.size,2,none⟩=some (.int .u64 pd)∧w'.cell? ⟨w.heap.size+1,1,none⟩=some (.int .u64 qn)∧w'.cell? ⟨w.heap.size+1,2,none⟩=some (.int .u64 qd)) (simp[go_sem]) (first|(go_at_call 122;refine((uq T1) _ _ _ (by assumption) _).mono ?_;rintro e w2 ⟨rfl,hk⟩;obtain⟨o1,k1,rfl⟩:=hk.ext;clear hk))
 all_goals go_wp2_with fail
 all_goals go_region_held3 (fun w'=>w'.cell? ⟨w.heap.size,0,none⟩=some (.bool bp)∧w'.cell? ⟨w.heap.size,1,none⟩=some (.int .u64 pn)∧w'.cell? ⟨w.heap.size,2,none⟩=some (.int .u64 pd)∧w'.cell? ⟨w.heap.size+1,0,none⟩=some (.bool bq)∧w'.cell? ⟨w.heap.size+1,1,none⟩=some (.int .u64 qn)∧w'.cell? ⟨w.heap.size+1,2,none⟩=some (.int .u64 qd)) (simp[go_sem]) (first|(go_at_call 123;refine((uq T3) _ _ _ _ (by assumption) _).mono ?_;rintro e w2 ⟨rfl,hk⟩;obtain⟨o2,k2,rfl⟩:=hk.ext;clear hk))
 all_goals go_wp2_with fail
 all_goals go_region_held3 (fun w'=>w'.cell? ⟨w.heap.size,0,none⟩=some (.bool bp)∧w'.cell? ⟨w.heap.size,1,none⟩=some (.int .u64 pn)∧w'.cell? ⟨w.heap.size,2,none⟩=some (.int .u64 pd)∧w'.cell? ⟨w.heap.size+1,0,none⟩=some (.bool bq)∧w'.cell? ⟨w.heap.size+1,1,none⟩=some (.int .u64 qn)∧w'.cell? ⟨w.heap.size+1,2,none⟩=some (.int .u64 qd)) (simp[go_sem]) (first|(go_at_call 123;refine((uq T3) _ _ _ _ (by assumption) _).mono ?_;rintro e w2 ⟨rfl,hk⟩;obtain⟨o3,k3,rfl⟩:=hk.ext;clear hk))
 all_goals go_wp2_with fail
 all_goals
  refine((uq T5) _).mono ?_;rintro e w2 ⟨rfl,hk⟩;obtain⟨o4,k4,rfl⟩:=hk.ext;clear hk;go_wp2_with fail
  exact bodyPost_ret (v:= .tuple #[.agg #[.int .i64 x,.int .i64 y],.int .i64 z]) (by simp[results,Tryz.results116,go_sem]) rfl ⟨rfl,by repeat(first|apply zaa|apply Keep.alloc|apply Keep.drew|exact Keep.refl _)⟩
theorem zdc (bp bq:Bool) (pn pd qn qd:Nat) (w:World) (h1:pn≤9223372036854775808) (h2:pd≤9223372036854775808) (h3:qn≤9223372036854775808) (h4:qd≤9223372036854775808) (p0:0<pd) (q0:0<qd)
  (hp:Nat.gcd pn pd=1) (hq:Nat.gcd qn qd=1):
  Calls Tryz.prog 116 #[.agg #[.bool bp,.int .u64 (pn:Int),.int .u64 (pd:Int)],.agg #[.bool bq,.int .u64 (qn:Int),.int .u64 (qd:Int)]] w fun e w'=>
   e= .returned (fv (rn (sgn (!(bp==bq)) ((pn:Int) * qn)) ((pd:Int) * qd)) (rd (sgn (!(bp==bq)) ((pn:Int) * qn)) ((pd:Int) * qd)))∧Keep w w':=by
 obtain⟨t1,t2,t3⟩:=zgP hp hq p0 q0;have f0:0<Nat.gcd pn qd:=Nat.gcd_pos_of_pos_right _ q0;have s0:0<Nat.gcd qn pd:=Nat.gcd_pos_of_pos_right _ p0;have la:pn / Nat.gcd pn qd≤pn:=Nat.div_le_self _ _;have lc:qn / Nat.gcd qn pd≤qn:=Nat.div_le_self _ _;have ld:pd / Nat.gcd qn pd≤pd:=Nat.div_le_self _ _;have lg:qd / Nat.gcd pn qd≤qd:=Nat.div_le_self _ _;have D1:=fun w=>zcS pn qd w h1 h4 (.inr q0)
 have D2:=fun w=>zcS qn pd w h3 h2 (.inr p0)
 generalize Nat.gcd pn qd=f at *;generalize Nat.gcd qn pd=s at *;have eA:(pn:Int).tdiv f=(pn / f:Nat):=by rw[Int.tdiv_eq_ediv_of_nonneg (by omega)];rfl
 have eC:(qn:Int).tdiv s=(qn / s:Nat):=by rw[Int.tdiv_eq_ediv_of_nonneg (by omega)];rfl
 have eD:(pd:Int).tdiv s=(pd / s:Nat):=by rw[Int.tdiv_eq_ediv_of_nonneg (by omega)];rfl
 have eG:(qd:Int).tdiv f=(qd / f:Nat):=by rw[Int.tdiv_eq_ediv_of_nonneg (by omega)];rfl
 generalize pn / f=A at *;generalize qn / s=C at *;generalize pd / s=D at *;generalize qd / f=G at *;have mU:A * C≤9223372036854775808 * 9223372036854775808:=Nat.mul_le_mul (by omega) (by omega);have mV:D * G≤9223372036854775808 * 9223372036854775808:=Nat.mul_le_mul (by omega) (by omega);obtain⟨U,hU⟩:∃ U,U=A * C:=⟨_,rfl⟩;obtain⟨V,hV⟩:∃ V,V=D * G:=⟨_,rfl⟩;rw[← hU,← hV]at t1 t2;rw[← hV]at t3 mV;rw[← hU]at mU;have low:rn (sgn (!(bp==bq)) ((pn:Int) * qn)) ((pd:Int) * qd)=sgn (!(bp==bq)) U∧rd (sgn (!(bp==bq)) ((pn:Int) * qn)) ((pd:Int) * qd)=V:=by
  have hD:(0:Int)<(pd:Int) * qd:=by rw[← Int.natCast_mul];have:=Nat.mul_pos p0 q0;omega
  have t2':(U:Int) * ((pd:Int) * qd)=(pn:Int) * qn * V:=by
   rw[← Int.natCast_mul,← Int.natCast_mul,← Int.natCast_mul,← Int.natCast_mul,t2]
  refine zgO (by omega) hD ?_ ?_
  ·unfold sgn Int.gcd
   split
   ·rw[Int.natAbs_neg];exact t1
   ·exact t1
  ·unfold sgn
   split
   ·rw[Int.neg_mul,Int.neg_mul,t2']
   ·exact t2'
 rw[low.1,low.2];refine zer bp bq pn pd qn qd f s A C D G (zbt U) (zbF U) (zbt V) (zbF V) w (by omega) (by omega)
  eA eC eD eG
  (by rw[IntKind.wrap_u64];omega) (by rw[IntKind.wrap_u64];omega) (by rw[IntKind.wrap_u64];omega) (by rw[IntKind.wrap_u64];omega)
  (fun a b g=>∀ w,Calls Tryz.prog 122 #[.int .u64 a,.int .u64 b] w fun e w'=>e= .returned (.int .u64 g)∧Keep w w') D1 D2 (hide fun a b g h=>h)
  (fun a b H L=>∀ w,Calls Tryz.prog 123 #[.int .u64 a,.int .u64 b] w fun e w'=>e= .returned (.agg #[.int .u64 H,.int .u64 L])∧Keep w w') ?_ ?_ (hide fun a b H L h=>h) _ _ _
  (hide fun w=>zk8 (!(bp==bq)) U V w (by omega) (by omega) (by omega) (by omega))
 ·have k:=fun w=>zcT A C w (by omega) (by omega) (by omega) (by omega)
  rw[← Int.natCast_mul,← hU]at k;exact k
 ·have k:=fun w=>zcT D G w (by omega) (by omega) (by omega) (by omega)
  rw[← Int.natCast_mul,← hV]at k;exact k
end Go.Proofs.YtpmaonkelkmhbaaGreat
namespace Go.Proofs.YtpmaonkelkmhbaaGreat
open Go.RowKit
set_option linter.unusedVariables false
theorem zic {a w:World} (n i:Nat) (v:Value) (hn:a.heap.size≤n) (h:Keep a w):Keep a (w.setCell ⟨n,i,none⟩ v):=Below.setCell h hn v
end Go.Proofs.YtpmaonkelkmhbaaGreat
namespace Go.Proofs.YtpmaonkelkmhbaaGreat
open Go.RowKit
set_option linter.unusedVariables false
set_option maxRecDepth 10000
theorem zdx (n d:Int) (h1: -9223372036854775808≤n) (h2:n≤9223372036854775807) (h3: -9223372036854775808≤d) (h4:d≤9223372036854775807):
  ∃ u v:Nat,(u:Int)=(cn n d).natAbs∧(v:Int)=cd n d∧u≤9223372036854775808∧v≤9223372036854775808∧0<v∧Nat.gcd u v=1∧sgn (decide (cn n d<0)) u=cn n d:=by
 obtain⟨r1,r2,r3,r4,r5⟩:=zbi n d h1 h2 h4;refine⟨(cn n d).natAbs,(cd n d).natAbs,rfl,by omega,by omega,by omega,by omega,r2,?_⟩;unfold sgn
 by_cases h:cn n d<0
 ·simp only[h,decide_true,if_true];omega
 ·simp only[h,decide_false,Bool.false_eq_true,if_false];omega
theorem zg2 (b c:Bool) (u v:Int):sgn (!(b==c)) (u * v)=sgn b u * sgn c v:=by cases b<;>cases c<;>simp[sgn,Int.neg_mul,Int.mul_neg]
set_option maxHeartbeats 1000000 in
theorem zid (n d n2 d2:Int) (b b2:Bool) (x y x2 y2 X Y Z:Int) (w:World) (Tk:Int→Int→Bool→Int→Int→Prop) (K1:Tk n d b x y) (K2:Tk n2 d2 b2 x2 y2)
  (T1:Hid (∀(n d:Int) (b:Bool) (x y:Int),Tk n d b x y→∀ w,Calls Tryz.prog 115 #[.agg #[.int .i64 n,.int .i64 d]] w fun e w'=>e= .returned (.agg #[.bool b,.int .u64 x,.int .u64 y])∧Keep w w'))
  (T3:Hid (∀ w,Calls Tryz.prog 116 #[.agg #[.bool b,.int .u64 x,.int .u64 y],.agg #[.bool b2,.int .u64 x2,.int .u64 y2]] w fun e w'=>e= .returned (.tuple #[.agg #[.int .i64 X,.int .i64 Y],.int .i64 Z])∧Keep w w')):
  Calls Tryz.prog 114 #[.agg #[.int .i64 n,.int .i64 d],.agg #[.int .i64 n2,.int .i64 d2]] w fun e w'=>e= .returned (.tuple #[.agg #[.int .i64 X,.int .i64 Y],.int .i64 Z])∧Keep w w':=by
 go_enter Tryz.func114,Tryz.ntmps114;go_wp2_with fail
 go_region_held3 (fun w'=>w'.cell? ⟨w.heap.size,0,none⟩=some (.int .i64 n)∧w'.cell? ⟨w.heap.size,1,none⟩=some (.int .i64 d)∧w'.cell? ⟨w.heap.size+1,0,none⟩=some (.int .i64 n2)∧w'.cell? ⟨w.heap.size+1,1,none⟩=some (.int .i64 d2)) (simp[go_sem]) (first|(go_at_call 115;refine((uq T1) _ _ _ _ _ (by assumption) _).mono ?_;rintro e w2 ⟨rfl,hk⟩;obtain⟨o1,k1,rfl⟩:=hk.ext;clear hk)|(go_at_call 116;refine((uq T3) _).mono ?_;rintro e w2 ⟨rfl,hk⟩;obtain⟨o3,k3,rfl⟩:=hk.ext;clear hk))
 all_goals go_wp2_with fail
 all_goals exact bodyPost_ret (v:= .tuple #[.agg #[.int .i64 X,.int .i64 Y],.int .i64 Z]) (by simp[results,Tryz.results114,go_sem]) rfl ⟨rfl,by repeat(first|apply zaa|apply Keep.alloc|apply Keep.drew|exact Keep.refl _)⟩
theorem zie (n d n2 d2:Int) (w:World) (h1: -9223372036854775808≤n) (h2:n≤9223372036854775807) (h3: -9223372036854775808≤d) (h4:d≤9223372036854775807) (k1: -9223372036854775808≤n2) (k2:n2≤9223372036854775807) (k3: -9223372036854775808≤d2) (k4:d2≤9223372036854775807):
  Calls Tryz.prog 114 #[.agg #[.int .i64 n,.int .i64 d],.agg #[.int .i64 n2,.int .i64 d2]] w fun e w'=>e= .returned (fv (rn (cn n d * cn n2 d2) (cd n d * cd n2 d2)) (rd (cn n d * cn n2 d2) (cd n d * cd n2 d2)))∧Keep w w':=by
 obtain⟨u,v,e1,e2,u1,v1,v0,g,s⟩:=zdx n d h1 h2 h3 h4;obtain⟨u',v',e1',e2',u1',v1',v0',g',s'⟩:=zdx n2 d2 k1 k2 k3 k4;have A:=fun w=>zb5 n d w h1 h2 h3 h4
 have B:=fun w=>zb5 n2 d2 w k1 k2 k3 k4
 rw[← e1,← e2]at A;rw[← e1',← e2']at B;have P:=fun w=>zdc (decide (cn n d<0)) (decide (cn n2 d2<0)) u v u' v' w u1 v1 u1' v1' v0 v0' g g'
 rw[zg2,s,s',e2,e2']at P;rw[e2]at A;rw[e2']at B;exact zid n d n2 d2 _ _ _ _ _ _ _ _ _ w (fun n d b x y=>∀ w,Calls Tryz.prog 115 #[.agg #[.int .i64 n,.int .i64 d]] w fun e w'=>e= .returned (.agg #[.bool b,.int .u64 x,.int .u64 y])∧Keep w w') A B (hide fun n d b x y h=>h) (hide P)
set_option maxHeartbeats 1000000 in
theorem zif (n d n2 d2:Int) (b2:Bool) (y2:Int) (w:World)
  (T1:Hid (∀ w,Calls Tryz.prog 115 #[.agg #[.int .i64 n2,.int .i64 d2]] w fun e w'=>e= .returned (.agg #[.bool b2,.int .u64 0,.int .u64 y2])∧Keep w w')):
  Calls Tryz.prog 107 #[.agg #[.int .i64 n,.int .i64 d],.agg #[.int .i64 n2,.int .i64 d2]] w fun e w'=>e= .returned (.tuple #[.agg #[.int .i64 0,.int .i64 0],.int .i64 3])∧Keep w w':=by
 go_enter Tryz.func107,Tryz.ntmps107;go_wp2_with fail
 (refine((uq T1) _).mono ?_;rintro e w2 ⟨rfl,hk⟩;obtain⟨o1,k1,rfl⟩:=hk.ext;clear hk);go_wp2_with fail
 exact bodyPost_ret (v:= .tuple #[.agg #[.int .i64 0,.int .i64 0],.int .i64 3]) (by simp[results,Tryz.results107,go_sem]) rfl ⟨rfl,by repeat(first|apply zaa|apply Keep.alloc|apply Keep.drew|exact Keep.refl _)⟩
set_option maxHeartbeats 2000000 in
theorem zig (n d n2 d2:Int) (b b2:Bool) (x y x2 y2 X Y Z:Int) (w:World) (hx:¬x2=0) (Tk:Int→Int→Bool→Int→Int→Prop) (K1:Tk n d b x y) (K2:Tk n2 d2 b2 x2 y2)
  (T1:Hid (∀(n d:Int) (b:Bool) (x y:Int),Tk n d b x y→∀ w,Calls Tryz.prog 115 #[.agg #[.int .i64 n,.int .i64 d]] w fun e w'=>e= .returned (.agg #[.bool b,.int .u64 x,.int .u64 y])∧Keep w w'))
  (T2:Hid (∀ w,Calls Tryz.prog 117 #[.agg #[.bool b2,.int .u64 x2,.int .u64 y2]] w fun e w'=>e= .returned (.agg #[.bool b2,.int .u64 y2,.int .u64 x2])∧Keep w w'))
  (T3:Hid (∀ w,Calls Tryz.prog 116 #[.agg #[.bool b,.int .u64 x,.int .u64 y],.agg #[.bool b2,.int .u64 y2,.int .u64 x2]] w fun e w'=>e= .returned (.tuple #[.agg #[.int .i64 X,.int .i64 Y],.int .i64 Z])∧Keep w w')):
  Calls Tryz.prog 107 #[.agg #[.int .i64 n,.int .i64 d],.agg #[.int .i64 n2,.int .i64 d2]] w fun e w'=>e= .returned (.tuple #[.agg #[.int .i64 X,.int .i64 Y],.int .i64 Z])∧Keep w w':=by
 have hx':(x2==0)=false:=by simpa using hx
 go_enter Tryz.func107,Tryz.ntmps107;go_wp2_with fail
 (refine((uq T1) _ _ _ _ _ (by assumption) _).mono ?_;rintro e w2 ⟨rfl,hk⟩;obtain⟨o9,k9,rfl⟩:=hk.ext;clear hk);go_wp2_with fail
 go_region_held3 (fun w'=>w'.cell? ⟨w.heap.size,0,none⟩=some (.int .i64 n)∧w'.cell? ⟨w.heap.size,1,none⟩=some (.int .i64 d)∧w'.cell? ⟨w.heap.size+1+1+1+o9.size,0,none⟩=some (.bool b2)∧w'.cell? ⟨w.heap.size+1+1+1+o9.size,1,none⟩=some (.int .u64 x2)∧w'.cell? ⟨w.heap.size+1+1+1+o9.size,2,none⟩=some (.int .u64 y2)) (simp[go_sem]) (first|(go_at_call 115;refine((uq T1) _ _ _ _ _ (by assumption) _).mono ?_;rintro e w2 ⟨rfl,hk⟩;obtain⟨o1,k1,rfl⟩:=hk.ext;clear hk)|(go_at_call 117;refine((uq T2) _).mono ?_;rintro e w2 ⟨rfl,hk⟩;obtain⟨o2,k2,rfl⟩:=hk.ext;clear hk)|(go_at_call 116;refine((uq T3) _).mono ?_;rintro e w2 ⟨rfl,hk⟩;obtain⟨o3,k3,rfl⟩:=hk.ext;clear hk))
 all_goals go_wp2_with fail
 all_goals exact bodyPost_ret (v:= .tuple #[.agg #[.int .i64 X,.int .i64 Y],.int .i64 Z]) (by simp[results,Tryz.results107,go_sem]) rfl ⟨rfl,by repeat(first|apply zaa|apply Keep.alloc|apply Keep.drew|exact Keep.refl _)⟩
theorem zdW (n d n2 d2:Int) (w:World) (h1: -9223372036854775808≤n) (h2:n≤9223372036854775807) (h3: -9223372036854775808≤d) (h4:d≤9223372036854775807) (k1: -9223372036854775808≤n2) (k2:n2≤9223372036854775807) (k3: -9223372036854775808≤d2) (k4:d2≤9223372036854775807) (hz:cn n2 d2=0):
  Calls Tryz.prog 107 #[.agg #[.int .i64 n,.int .i64 d],.agg #[.int .i64 n2,.int .i64 d2]] w fun e w'=>e= .returned (.tuple #[.agg #[.int .i64 0,.int .i64 0],.int .i64 3])∧Keep w w':=by
 refine zif n d n2 d2 (decide (cn n2 d2<0)) (cd n2 d2) w (hide fun w=>?_)
 ·have B:=zb5 n2 d2 w k1 k2 k3 k4;rw[show((cn n2 d2).natAbs:Int)=0 by omega]at B;exact B
theorem ze4 (n d n2 d2:Int) (w:World) (h1: -9223372036854775808≤n) (h2:n≤9223372036854775807) (h3: -9223372036854775808≤d) (h4:d≤9223372036854775807) (k1: -9223372036854775808≤n2) (k2:n2≤9223372036854775807) (k3: -9223372036854775808≤d2) (k4:d2≤9223372036854775807) (hz:¬cn n2 d2=0):
  Calls Tryz.prog 107 #[.agg #[.int .i64 n,.int .i64 d],.agg #[.int .i64 n2,.int .i64 d2]] w fun e w'=>e= .returned (fv (rn (cn n d * sgn (decide (cn n2 d2<0)) (cd n2 d2)) (cd n d * ((cn n2 d2).natAbs:Int))) (rd (cn n d * sgn (decide (cn n2 d2<0)) (cd n2 d2)) (cd n d * ((cn n2 d2).natAbs:Int))))∧Keep w w':=by
 obtain⟨u,v,e1,e2,u1,v1,v0,g,s⟩:=zdx n d h1 h2 h3 h4;obtain⟨u',v',e1',e2',u1',v1',v0',g',s'⟩:=zdx n2 d2 k1 k2 k3 k4;have A:=fun w=>zb5 n d w h1 h2 h3 h4
 have B:=fun w=>zb5 n2 d2 w k1 k2 k3 k4
 rw[← e1,← e2]at A;rw[← e1',← e2']at B;have P:=fun w=>zdc (decide (cn n d<0)) (decide (cn n2 d2<0)) u v v' u' w u1 v1 v1' u1' v0 (by omega) g (by rw[Nat.gcd_comm];exact g')
 rw[zg2,s,e2,e2',e1']at P;rw[e2]at A;rw[e2',e1']at B;exact zig n d n2 d2 _ _ _ _ _ _ _ _ _ w (by omega) (fun n d b x y=>∀ w,Calls Tryz.prog 115 #[.agg #[.int .i64 n,.int .i64 d]] w fun e w'=>e= .returned (.agg #[.bool b,.int .u64 x,.int .u64 y])∧Keep w w') A B (hide fun n d b x y h=>h) (hide fun w=>zfI _ _ _ w) (hide P)
set_option maxHeartbeats 400000 in
theorem zg3 (n d X Y Z:Int) (w:World) (T:Hid (∀ w,Calls Tryz.prog 107 #[.agg #[.int .i64 n,.int .i64 1],.agg #[.int .i64 d,.int .i64 1]] w fun e w'=>e= .returned (.tuple #[.agg #[.int .i64 X,.int .i64 Y],.int .i64 Z])∧Keep w w')):
  Calls Tryz.prog 120 #[.int .i64 n,.int .i64 d] w fun e w'=>e= .returned (.tuple #[.agg #[.int .i64 X,.int .i64 Y],.int .i64 Z])∧Keep w w':=by
 go_enter Tryz.func120,Tryz.ntmps120;go_wp2_with fail
 (refine((uq T) _).mono ?_;rintro e w2 ⟨rfl,hk⟩;obtain⟨o1,k1,rfl⟩:=hk.ext;clear hk);go_wp2_with fail
 exact bodyPost_ret (v:= .tuple #[.agg #[.int .i64 X,.int .i64 Y],.int .i64 Z]) (by simp[results,Tryz.results120,go_sem]) rfl ⟨rfl,by repeat(first|apply zaa|apply Keep.alloc|apply Keep.drew|exact Keep.refl _)⟩
theorem zih (n:Int) (w:World) (h1: -9223372036854775808≤n) (h2:n≤9223372036854775807):
  Calls Tryz.prog 120 #[.int .i64 n,.int .i64 0] w fun e w'=>e= .returned (.tuple #[.agg #[.int .i64 0,.int .i64 0],.int .i64 3])∧Keep w w':=
 zg3 n 0 _ _ _ w (hide fun w=>zdW n 1 0 1 w h1 h2 (by omega) (by omega) (by omega) (by omega) (by omega) (by omega) (by decide))
theorem zlf (n d:Int) (w:World) (h1: -9223372036854775808≤n) (h2:n≤9223372036854775807) (h3: -9223372036854775808≤d) (h4:d≤9223372036854775807) (hz:¬d=0):
  Calls Tryz.prog 120 #[.int .i64 n,.int .i64 d] w fun e w'=>e= .returned (fv (rn (sgn (decide (d<0)) n) (d.natAbs:Int)) (rd (sgn (decide (d<0)) n) (d.natAbs:Int)))∧Keep w w':=by
 have r1:Rt n 1:=⟨by omega,by simp,h1,h2,by omega⟩;have r2:Rt d 1:=⟨by omega,by simp,h3,h4,by omega⟩;have D:=fun w=>ze4 n 1 d 1 w h1 h2 (by omega) (by omega) h3 h4 (by omega) (by omega) (by rw[r2.cn];exact hz)
 rw[r1.cn,r1.cd,r2.cn,r2.cd,show n * sgn (decide (d<0)) 1=sgn (decide (d<0)) n by unfold sgn;split<;>omega,Int.one_mul]at D;exact zg3 n d _ _ _ w (hide D)
end Go.Proofs.YtpmaonkelkmhbaaGreat
