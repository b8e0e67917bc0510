/- Plain numbers: volumes as they count, and flow ratios, step by step; fractions rounded. No program is met here. -/
import Derived.Test.YtnegcifbbbmlnaaGreatDoorFracC
namespace Go.Proofs.YtnegcifbbbmlnaaGreatDoor
open Go.RowKit
set_option linter.unusedVariables false
set_option linter.unusedSimpArgs false
namespace W
abbrev A3:=Int×Int×Int
def i64 (n:Int):Prop:= -9223372036854775808≤n∧n≤9223372036854775807
def low (N D:Int):A3:=(pN (rn N D) (rd N D),pD (rn N D) (rd N D),pE (rn N D) (rd N D))
def ofF (n d:Int):A3:=if d=0 then(0,0,3)else low (sgn (decide (d<0)) n) (d.natAbs:Int)
def zbj (a b c d:Int):A3:=low (cn a b * cn c d) (cd a b * cd c d)
def zce (a b c d:Int):A3:=if cn c d=0 then(0,0,3)else low (cn a b * sgn (decide (cn c d<0)) (cd c d)) (cd a b * ((cn c d).natAbs:Int))
def zew (op:Int→Int→Int→Int→A3) (a b n d:Int):A3:=if(ofF n d).2.2=0 then op a b (ofF n d).1 (ofF n d).2.1 else(0,0,(ofF n d).2.2)
def zbk (op:Int→Int→Int→Int→A3) (s:A3) (n d:Int):A3:=if s.2.2=0 then zew op s.1 s.2.1 n d else s
def zbl (v un ud pn pd:Int):A3:=zbk zce (zbk zbj (zbk zbj (1,1,0) un ud) v 1) pn pd
def ratF (v s un ud pn pd:Int):A3:=zbk zce (zbl v un ud pn pd) s 1
def Ok (a:A3):Prop:=(a.2.2=0∧Rt a.1 a.2.1)∨(¬a.2.2=0∧a.1=0∧a.2.1=0∧0≤a.2.2∧a.2.2≤3)
theorem Ok.in1 {a:A3} (h:Ok a):i64 a.1:=by
 rcases h with ⟨_,h⟩|⟨_,h,_⟩
 ·exact⟨h.2.2.1,h.2.2.2.1⟩
 ·rw[h];constructor<;>omega
theorem Ok.in2 {a:A3} (h:Ok a):i64 a.2.1:=by
 rcases h with ⟨_,h⟩|⟨_,_,h,_⟩
 ·exact⟨by have:=h.1;omega,h.2.2.2.2⟩
 ·rw[h];constructor<;>omega
theorem Ok.zero {a:A3} (h:Ok a) (he:¬a.2.2=0):a=(0,0,a.2.2):=by
 rcases h with ⟨h,_⟩|⟨_,h1,h2,_⟩
 ·exact absurd h he
 ·obtain⟨x,y,z⟩:=a;simp only at h1 h2 ⊢;rw[h1,h2]
theorem zc8 {N D:Int} (hD:0<D):Ok (low N D):=by
 obtain⟨s1,s2,s3⟩:=zc3 (N:=N) hD;unfold Ok low
 by_cases h:fit (rn N D)=true∧fit (rd N D)=true
 ·obtain⟨e1,e2,e3⟩:=zaL h.1 h.2;have f1:=h.1;have f2:=h.2;simp only[fit,decide_eq_true_eq]at f1 f2;exact .inl ⟨e3,by show Rt (pN _ _) (pD _ _);rw[e1,e2];exact⟨by omega,s2,f1.1,f1.2,f2.2⟩⟩
 ·have h':fit (rn N D)=false∨fit (rd N D)=false:=by
   cases h1:fit (rn N D)<;>cases h2:fit (rd N D)<;>simp_all
  obtain⟨e1,e2,e3⟩:=zau h';refine .inr ⟨?_,e1,e2,?_,?_⟩
  ·show ¬pE _ _=0;omega
  ·show 0≤pE _ _;omega
  ·show pE _ _≤3;omega
theorem zit {N D:Int} (hD:0<D) (h:(low N D).2.2=0):(low N D).1 * D=N * (low N D).2.1:=by
 obtain⟨s1,s2,s3⟩:=zc3 (N:=N) hD;unfold low at h ⊢
 simp only at h ⊢;by_cases hf:fit (rn N D)=true∧fit (rd N D)=true
 ·obtain⟨e1,e2,e3⟩:=zaL hf.1 hf.2;rw[e1,e2];exact s3
 ·have h':fit (rn N D)=false∨fit (rd N D)=false:=by
   cases h1:fit (rn N D)<;>cases h2:fit (rd N D)<;>simp_all
  obtain⟨e1,e2,e3⟩:=zau h';rw[e3]at h;omega
theorem zgn {N D n d:Int} (hD:0<D) (hr:Rt n d) (h:n * D=N * d):low N D=(n,d,0):=by
 obtain⟨e1,e2⟩:=zcy (n:=n) (d:=d) (by have:=hr.1;omega) hD hr.2.1 h;unfold low
 rw[e1,e2];obtain⟨r1,r2,r3,r4,r5⟩:=hr;obtain⟨a,b,c⟩:=zaL (n:=n) (d:=d) (zaV r3 r4) (zaV (by omega) r5);rw[a,b,c]
theorem zaU (n d:Int):Ok (ofF n d):=by
 unfold ofF
 split
 ·exact .inr ⟨by simp,rfl,rfl,by simp,by simp⟩
 ·exact zc8 (by omega)
theorem zex (n d:Int):1≤cd n d:=by
 unfold cd
 by_cases h:rt n d=true
 ·rw[if_pos h];simp only[rt,decide_eq_true_eq]at h;exact h.1
 ·rw[if_neg h];omega
theorem zc9 {a b:Int} (h1:1≤a) (h2:1≤b):0<a * b:=Int.mul_pos (by omega) (by omega)
theorem zaG (a b c d:Int):Ok (zbj a b c d):=zc8 (zc9 (zex _ _) (zex _ _))
theorem zey (a b c d:Int):Ok (zce a b c d):=by
 unfold zce
 split
 ·exact .inr ⟨by simp,rfl,rfl,by simp,by simp⟩
 ·exact zc8 (zc9 (zex _ _) (by omega))
theorem zj8 {op:Int→Int→Int→Int→A3} (ho:∀ a b c d,Ok (op a b c d)) (a b n d:Int):Ok (zew op a b n d):=by
 unfold zew
 split
 ·exact ho _ _ _ _
 ·rename_i h
  rw[← (zaU n d).zero h];exact zaU n d
theorem zcf {op:Int→Int→Int→Int→A3} (ho:∀ a b c d,Ok (op a b c d)) {s:A3} (hs:Ok s) (n d:Int):Ok (zbk op s n d):=by
 unfold zbk
 split
 ·exact zj8 ho _ _ _ _
 ·exact hs
theorem zda:Ok (1,1,0):= .inl ⟨rfl,by simp,by decide,by simp,by simp,by simp⟩
theorem zdb (v un ud pn pd:Int):Ok (zbl v un ud pn pd):=zcf zey (zcf zaG (zcf zaG zda _ _) _ _) _ _
theorem zez {v:Int} (h:i64 v):Rt v 1:=⟨by omega,by simp,h.1,h.2,by omega⟩
theorem zgo {v:Int} (h:i64 v):ofF v 1=(v,1,0):=by
 unfold ofF
 rw[if_neg (by omega)];exact zgn (by omega) (zez h) (by simp[sgn])
theorem mul_one {b d:Int} (h:Rt b d):zbj 1 1 b d=(b,d,0):=by
 have r1:Rt 1 1:=⟨by omega,by decide,by omega,by omega,by omega⟩;unfold zbj
 rw[r1.cn,r1.cd,h.cn,h.cd,Int.one_mul,Int.one_mul];exact zgn (by have:=h.1;omega) h rfl
def zbs (v un ud pn pd:Int):A3:=
 if ¬(ofF un ud).2.2=0 then(0,0,(ofF un ud).2.2)else
 if ¬(zbj (ofF un ud).1 (ofF un ud).2.1 v 1).2.2=0 then(0,0,(zbj (ofF un ud).1 (ofF un ud).2.1 v 1).2.2)else
 if ¬(ofF pn pd).2.2=0 then(0,0,(ofF pn pd).2.2)else
 zce (zbj (ofF un ud).1 (ofF un ud).2.1 v 1).1 (zbj (ofF un ud).1 (ofF un ud).2.1 v 1).2.1 (ofF pn pd).1 (ofF pn pd).2.1
def zfI (v s un ud pn pd:Int):A3:=if ¬(zbs v un ud pn pd).2.2=0 then(0,0,(zbs v un ud pn pd).2.2)else zce (zbs v un ud pn pd).1 (zbs v un ud pn pd).2.1 s 1
theorem zfJ (un ud:Int):zbk zbj (1,1,0) un ud=ofF un ud:=by
 unfold zbk zew
 simp only[if_true];split
 ·rename_i h
  rcases zaU un ud with ⟨h0,hr⟩|⟨h0,_⟩
  ·rw[mul_one hr];generalize ofF un ud=q at *;obtain⟨x,y,z⟩:=q;simp only at h ⊢;rw[h]
  ·exact absurd h h0
 ·rename_i h
  exact((zaU un ud).zero h).symm
theorem zba {v un ud pn pd:Int} (hv:i64 v):zbl v un ud pn pd=zbs v un ud pn pd:=by
 unfold zbl zbs
 rw[zfJ];by_cases h1:(ofF un ud).2.2=0
 ·rw[if_neg (by simpa using h1)];have e:zbk zbj (ofF un ud) v 1=zbj (ofF un ud).1 (ofF un ud).2.1 v 1:=by
   unfold zbk zew
   rw[if_pos h1,zgo hv];simp
  rw[e];have hm:=zaG (ofF un ud).1 (ofF un ud).2.1 v 1;generalize zbj (ofF un ud).1 (ofF un ud).2.1 v 1=m at *;by_cases h2:m.2.2=0
  ·rw[if_neg (by simpa using h2)];unfold zbk zew
   rw[if_pos h2];by_cases h3:(ofF pn pd).2.2=0
   ·rw[if_pos h3,if_neg (by simpa using h3)]
   ·rw[if_neg h3,if_pos h3]
  ·rw[if_pos h2];unfold zbk
   rw[if_neg h2];exact hm.zero h2
 ·rw[if_pos h1];have z:=(zaU un ud).zero h1;have e:zbk zbj (ofF un ud) v 1=ofF un ud:=by unfold zbk;rw[if_neg h1]
  rw[e];unfold zbk
  rw[if_neg h1];exact z
theorem zeA {v s un ud pn pd:Int} (hv:i64 v) (hs:i64 s):ratF v s un ud pn pd=zfI v s un ud pn pd:=by
 unfold ratF zfI
 rw[zba hv];have hm:Ok (zbs v un ud pn pd):=by rw[← zba hv];exact zdb _ _ _ _ _
 generalize zbs v un ud pn pd=m at *;by_cases h:m.2.2=0
 ·rw[if_neg (by simpa using h)];unfold zbk zew
  rw[if_pos h,zgo hs];simp
 ·rw[if_pos h];unfold zbk
  rw[if_neg h];exact hm.zero h
def Q (x y N D:Int):Prop:=0<y∧0<D∧x * D=N * y
theorem Q.mul {x y x1 y1 x2 y2 N1 D1 N2 D2:Int} (h:Q x y (x1 * x2) (y1 * y2)) (h1:Q x1 y1 N1 D1) (h2:Q x2 y2 N2 D2):Q x y (N1 * N2) (D1 * D2):=by
 obtain⟨a,b,c⟩:=h;obtain⟨a1,b1,c1⟩:=h1;obtain⟨a2,b2,c2⟩:=h2;refine⟨a,Int.mul_pos b1 b2,?_⟩;have e:x * (D1 * D2) * (y1 * y2)=N1 * N2 * y * (y1 * y2):=by
  calc x * (D1 * D2) * (y1 * y2)=(x * (y1 * y2)) * (D1 * D2):=by simp only[Int.mul_assoc,Int.mul_comm,Int.mul_left_comm]
   _=(x1 * x2 * y) * (D1 * D2):=by rw[c]
   _=(x1 * D1) * (x2 * D2) * y:=by simp only[Int.mul_assoc,Int.mul_comm,Int.mul_left_comm]
   _=(N1 * y1) * (N2 * y2) * y:=by rw[c1,c2]
   _=N1 * N2 * y * (y1 * y2):=by simp only[Int.mul_assoc,Int.mul_comm,Int.mul_left_comm]
 exact Int.eq_of_mul_eq_mul_right (by omega) e
theorem Q.le {x y x2 y2 N D N2 D2:Int} (h:Q x y N D) (h2:Q x2 y2 N2 D2) (hl:N * D2≤N2 * D):x * y2≤x2 * y:=by
 obtain⟨a,b,c⟩:=h;obtain⟨a2,b2,c2⟩:=h2;have hp:0<D * D2:=Int.mul_pos b b2;refine Int.le_of_mul_le_mul_right (a:=D * D2) ?_ hp
 calc x * y2 * (D * D2)=(x * D) * (D2 * y2):=by simp only[Int.mul_assoc,Int.mul_comm,Int.mul_left_comm]
  _=(N * y) * (D2 * y2):=by rw[c]
  _=(N * D2) * (y * y2):=by simp only[Int.mul_assoc,Int.mul_comm,Int.mul_left_comm]
  _≤(N2 * D) * (y * y2):=Int.mul_le_mul_of_nonneg_right hl (Int.le_of_lt (Int.mul_pos a a2))
  _=(N2 * y2) * (y * D):=by simp only[Int.mul_assoc,Int.mul_comm,Int.mul_left_comm]
  _=(x2 * D2) * (y * D):=by rw[c2]
  _=x2 * y * (D * D2):=by simp only[Int.mul_assoc,Int.mul_comm,Int.mul_left_comm]
theorem Q.eq {x y x2 y2 N D:Int} (h:Q x y N D) (h2:Q x2 y2 N D):x * y2=x2 * y:=by
 have e1:=h.le h2 (Int.le_refl _);have e2:=h2.le h (Int.le_refl _);omega
theorem Q.inv {x y N D:Int} (h:Q x y N D) (hx:¬x=0):Q (sgn (decide (x<0)) y) (x.natAbs:Int) (sgn (decide (N<0)) D) (N.natAbs:Int):=by
 obtain⟨a,b,c⟩:=h;have hN:¬N=0:=by
  intro h0
  rw[h0,Int.zero_mul]at c;rcases Int.mul_eq_zero.1 c with h|h<;>omega
 have hs:x<0↔N<0:=by
  constructor
  ·intro hx0
   rcases Int.lt_trichotomy N 0 with h|h|h
   ·exact h
   ·omega
   ·have e1:=Int.mul_pos h a;have e2:=Int.mul_neg_of_neg_of_pos hx0 b;omega
  ·intro hn0
   rcases Int.lt_trichotomy x 0 with h|h|h
   ·exact h
   ·omega
   ·have e1:=Int.mul_pos h b;have e2:=Int.mul_neg_of_neg_of_pos hn0 a;omega
 refine⟨by omega,by omega,?_⟩;by_cases h:x<0
 ·have h':=hs.1 h;simp only[h,h',decide_true,sgn,if_true];rw[show((N.natAbs:Nat):Int)= -N by omega,show((x.natAbs:Nat):Int)= -x by omega];rw[Int.neg_mul,Int.mul_neg,Int.neg_mul,Int.mul_neg,Int.mul_comm y N,← c,Int.mul_comm x D]
 ·have h':¬N<0:=fun k=>h (hs.2 k)
  simp only[h,h',decide_false,sgn,if_false,Bool.false_eq_true];rw[show((N.natAbs:Nat):Int)=N by omega,show((x.natAbs:Nat):Int)=x by omega,Int.mul_comm y N,← c,Int.mul_comm x D]
theorem ziu {N D:Int} (hD:0<D) (h:(low N D).2.2=0):Q (low N D).1 (low N D).2.1 N D:=by
 refine⟨?_,hD,zit hD h⟩;rcases zc8 (N:=N) hD with ⟨_,hr⟩|⟨h0,_⟩
 ·have:=hr.1;omega
 ·exact absurd h h0
theorem zl4 {n d:Int} (h:(ofF n d).2.2=0):¬d=0∧Q (ofF n d).1 (ofF n d).2.1 (sgn (decide (d<0)) n) (d.natAbs:Int):=by
 unfold ofF at h ⊢
 by_cases hd:d=0
 ·rw[if_pos hd]at h;simp at h
 ·rw[if_neg hd]at h ⊢;exact⟨hd,ziu (by omega) h⟩
theorem zfK {a:A3} (h:Ok a) (h0:a.2.2=0):Rt a.1 a.2.1:=by
 rcases h with ⟨_,h⟩|⟨h,_⟩
 ·exact h
 ·exact absurd h0 h
theorem zll {a b c d N1 D1 N2 D2:Int} (r1:Rt a b) (r2:Rt c d) (q1:Q a b N1 D1) (q2:Q c d N2 D2) (h:(zbj a b c d).2.2=0):Q (zbj a b c d).1 (zbj a b c d).2.1 (N1 * N2) (D1 * D2):=by
 unfold zbj at h ⊢
 rw[r1.cn,r1.cd,r2.cn,r2.cd]at h ⊢;exact(ziu (Int.mul_pos q1.1 q2.1) h).mul q1 q2
theorem zj9 {a b c d N1 D1 N2 D2:Int} (r1:Rt a b) (r2:Rt c d) (q1:Q a b N1 D1) (q2:Q c d N2 D2) (h:(zce a b c d).2.2=0):Q (zce a b c d).1 (zce a b c d).2.1 (N1 * sgn (decide (N2<0)) D2) (D1 * (N2.natAbs:Int)):=by
 unfold zce at h ⊢
 rw[r1.cn,r1.cd,r2.cn,r2.cd]at h ⊢;by_cases hc:c=0
 ·rw[if_pos hc]at h;simp at h
 ·rw[if_neg hc]at h ⊢;exact(ziu (Int.mul_pos q1.1 (by omega)) h).mul q1 (q2.inv hc)
theorem zka (v:Int):Q v 1 v 1:=⟨by omega,by omega,rfl⟩
def KN (un ud pn pd:Int):Int:=sgn (decide (ud<0)) un * sgn (decide (sgn (decide (pd<0)) pn<0)) (pd.natAbs:Int)
def KD (ud pn pd:Int):Int:=(ud.natAbs:Int) * ((sgn (decide (pd<0)) pn).natAbs:Int)
theorem zlm {v un ud pn pd:Int} (hv:i64 v) (h:(zbl v un ud pn pd).2.2=0):Q (zbl v un ud pn pd).1 (zbl v un ud pn pd).2.1 (KN un ud pn pd * v) (KD ud pn pd):=by
 rw[zba hv]at h ⊢;unfold zbs at h ⊢
 by_cases h1:(ofF un ud).2.2=0
 ·rw[if_neg (by simpa using h1)]at h ⊢;by_cases h2:(zbj (ofF un ud).1 (ofF un ud).2.1 v 1).2.2=0
  ·rw[if_neg (by simpa using h2)]at h ⊢;by_cases h3:(ofF pn pd).2.2=0
   ·rw[if_neg (by simpa using h3)]at h ⊢;obtain⟨d1,q1⟩:=zl4 h1;obtain⟨d3,q3⟩:=zl4 h3;have r1:=zfK (zaU un ud) h1;have r3:=zfK (zaU pn pd) h3;have q2:=zll r1 (zez hv) q1 (zka v) h2;have r2:=zfK (zaG _ _ _ _) h2;have q4:=zj9 r2 r3 q2 q3 h;have e1:KN un ud pn pd * v=sgn (decide (ud<0)) un * v * sgn (decide (sgn (decide (pd<0)) pn<0)) (pd.natAbs:Int):=by unfold KN;rw[Int.mul_right_comm]
    have e2:KD ud pn pd=(ud.natAbs:Int) * 1 * ((sgn (decide (pd<0)) pn).natAbs:Int):=by unfold KD;rw[Int.mul_one]
    rw[e1,e2];exact q4
   ·rw[if_pos h3]at h;exact absurd h h3
  ·rw[if_pos h2]at h;exact absurd h h2
 ·rw[if_pos h1]at h;exact absurd h h1
theorem ziv {v s un ud pn pd:Int} (hv:i64 v) (hs:i64 s) (h:(ratF v s un ud pn pd).2.2=0):(zbl v un ud pn pd).2.2=0∧ratF v s un ud pn pd=zce (zbl v un ud pn pd).1 (zbl v un ud pn pd).2.1 s 1:=by
 rw[zeA hv hs]at h ⊢;rw[zba hv];unfold zfI at h ⊢
 by_cases h1:(zbs v un ud pn pd).2.2=0
 ·rw[if_neg (by simpa using h1)];exact⟨h1,rfl⟩
 ·rw[if_pos h1]at h;exact absurd h h1
theorem zkb {v s un ud pn pd:Int} (hv:i64 v) (hs:i64 s) (h:(ratF v s un ud pn pd).2.2=0):Q (ratF v s un ud pn pd).1 (ratF v s un ud pn pd).2.1 (KN un ud pn pd * v * sgn (decide (s<0)) 1) (KD ud pn pd * (s.natAbs:Int)):=by
 obtain⟨h1,e⟩:=ziv hv hs h;rw[e]at h ⊢;exact zj9 (zfK (zdb _ _ _ _ _) h1) (zez hs) (zlm hv h1) (zka s) h
theorem zkc {un ud pn pd:Int} (h1:1≤un) (h2:1≤ud) (h3:1≤pn) (h4:1≤pd):0≤KN un ud pn pd:=by
 unfold KN
 have e1:sgn (decide (ud<0)) un=un:=by simp[sgn];omega
 have e2:sgn (decide (pd<0)) pn=pn:=by simp[sgn];omega
 rw[e1,e2];have e3:sgn (decide (pn<0)) (pd.natAbs:Int)=pd:=by simp[sgn];omega
 rw[e3];exact Int.mul_nonneg (by omega) (by omega)
theorem ziw {s:Int} (h:1≤s):sgn (decide (s<0)) 1=1:=by simp[sgn];omega
theorem zmb {v s un ud pn pd:Int} (hv:i64 v) (hv2:i64 (v+1)) (hs:i64 s) (h1:1≤un) (h2:1≤ud) (h3:1≤pn) (h4:1≤pd) (h5:1≤s) (ha:(ratF v s un ud pn pd).2.2=0) (hb:(ratF (v+1) s un ud pn pd).2.2=0):
  (ratF v s un ud pn pd).1 * (ratF (v+1) s un ud pn pd).2.1≤(ratF (v+1) s un ud pn pd).1 * (ratF v s un ud pn pd).2.1:=by
 have qa:=zkb hv hs ha;have qb:=zkb hv2 hs hb;refine qa.le qb ?_;have hk:=zkc h1 h2 h3 h4;have hd:=qa.2.1;rw[ziw h5,Int.mul_one,Int.mul_one];refine Int.mul_le_mul_of_nonneg_right ?_ (Int.le_of_lt hd);exact Int.mul_le_mul_of_nonneg_left (by omega) hk
end W
end Go.Proofs.YtnegcifbbbmlnaaGreatDoor
