/- Plain numbers: fractions in lowest terms; sums and products of fractions. No program is met here. -/
import Derived.Test.YtpmaonkelkmhbaaGreatLSkip
import Derived.Test.YtpmaonkelkmhbaaGreatProg
import Derived.WalkKit
import Derived.ProofKit
namespace Go.Proofs.YtpmaonkelkmhbaaGreat
open Go.RowKit
set_option linter.unusedVariables false
def rt (n d:Int):Bool:=decide (1≤d∧Int.gcd n d=1)
def cn (n d:Int):Int:=if rt n d then n else 0
def cd (n d:Int):Int:=if rt n d then d else 1
def Rt (n d:Int):Prop:=1≤d∧Int.gcd n d=1∧ -9223372036854775808≤n∧n≤9223372036854775807∧d≤9223372036854775807
theorem zbi (n d:Int) (h1: -9223372036854775808≤n) (h2:n≤9223372036854775807) (h4:d≤9223372036854775807):Rt (cn n d) (cd n d):=by
 unfold cn cd
 by_cases h:rt n d=true
 ·have h':=h;simp only[rt,decide_eq_true_eq]at h';simp only[h,if_true];exact⟨h'.1,h'.2,h1,h2,h4⟩
 ·simp only[h,if_false,Bool.false_eq_true];exact⟨by omega,by simp,by omega,by omega,by omega⟩
theorem Rt.rt {n d:Int} (h:Rt n d):rt n d=true:=by simp only[Proofs.YtpmaonkelkmhbaaGreat.rt,decide_eq_true_eq];exact⟨h.1,h.2.1⟩
theorem Rt.cn {n d:Int} (h:Rt n d):cn n d=n:=by simp[Proofs.YtpmaonkelkmhbaaGreat.cn,h.rt]
theorem Rt.cd {n d:Int} (h:Rt n d):cd n d=d:=by simp[Proofs.YtpmaonkelkmhbaaGreat.cd,h.rt]
def rn (N D:Int):Int:=N / (Int.gcd N D:Int)
def rd (N D:Int):Int:=D / (Int.gcd N D:Int)
def pN (n d:Int):Int:=if fit n&&fit d then n else 0
def pD (n d:Int):Int:=if fit n&&fit d then d else 0
def pE (n d:Int):Int:=if fit n&&fit d then 0 else 2
def fr (n d:Int):Value:= .agg #[.int .i64 n,.int .i64 d]
def fv (n d:Int):Value:= .tuple #[.agg #[.int .i64 (pN n d),.int .i64 (pD n d)],.int .i64 (pE n d)]
theorem zk6 {n d N D:Nat} (hd:0<d) (hD:0<D) (hg:Nat.gcd n d=1) (h:n * D=N * d):∃ k,0<k∧N=n * k∧D=d * k∧Nat.gcd N D=k:=by
 have h1:d ∣ n * D:=⟨N,by rw[h,Nat.mul_comm]⟩;have h2:d ∣ D:=Nat.Coprime.dvd_of_dvd_mul_left (Nat.Coprime.symm hg) h1;obtain⟨k,rfl⟩:=h2;have hk:0<k:=Nat.pos_of_mul_pos_left hD;have e:N=n * k:=by
  have:N * d=(n * k) * d:=by rw[← h,Nat.mul_assoc,Nat.mul_comm d k]
  exact Nat.eq_of_mul_eq_mul_right hd this
 subst e;refine⟨k,hk,rfl,rfl,?_⟩;rw[Nat.gcd_mul_right,hg,Nat.one_mul]
theorem zk7 {n d N D:Int} (hd:0<d) (hD:0<D) (hg:Int.gcd n d=1) (h:n * D=N * d):∃ k:Int,0<k∧N=n * k∧D=d * k∧(Int.gcd N D:Int)=k:=by
 have e:n.natAbs * D.natAbs=N.natAbs * d.natAbs:=by rw[← Int.natAbs_mul,← Int.natAbs_mul,h]
 obtain⟨k,hk,e1,e2,e3⟩:=zk6 (n:=n.natAbs) (d:=d.natAbs) (N:=N.natAbs) (D:=D.natAbs) (by omega) (by omega) hg e;have eD:D=d * k:=by
  have:=congrArg (Nat.cast (R:=Int)) e2;rw[Int.natCast_mul,Int.natAbs_of_nonneg (by omega),Int.natAbs_of_nonneg (by omega)]at this;exact this
 refine⟨k,by omega,?_,eD,by rw[Int.gcd];omega⟩;rw[eD,Int.mul_comm d,← Int.mul_assoc]at h;exact(Int.eq_of_mul_eq_mul_right (by omega) h).symm
theorem zgO {n d N D:Int} (hd:0<d) (hD:0<D) (hg:Int.gcd n d=1) (h:n * D=N * d):rn N D=n∧rd N D=d:=by
 obtain⟨k,hk,e1,e2,e3⟩:=zk7 hd hD hg h;unfold rn rd
 rw[e3,e1,e2];exact⟨Int.mul_ediv_cancel _ (by omega),Int.mul_ediv_cancel _ (by omega)⟩
theorem zeZ {N D:Int} (hD:0<D):0<rd N D∧Int.gcd (rn N D) (rd N D)=1∧rn N D * D=N * rd N D:=by
 have hg:0<Int.gcd N D:=Int.gcd_pos_of_ne_zero_right _ (by omega);obtain⟨a,ha⟩:=Int.gcd_dvd_left N D;obtain⟨b,hb⟩:=Int.gcd_dvd_right N D;obtain⟨g,eg⟩:∃ g:Int,g=(Int.gcd N D:Int):=⟨_,rfl⟩;have hg':0<g:=by omega
 rw[← eg]at ha hb;have e1:rn N D=a:=by
  unfold rn
  rw[← eg]
  conv=>lhs;rw[ha]
  exact Int.mul_ediv_cancel_left _ (by omega)
 have e2:rd N D=b:=by
  unfold rd
  rw[← eg]
  conv=>lhs;rw[hb]
  exact Int.mul_ediv_cancel_left _ (by omega)
 rw[e1,e2];refine⟨?_,?_,?_⟩
 ·rcases Int.lt_trichotomy b 0 with h|h|h
  ·have:=Int.mul_neg_of_pos_of_neg hg' h;omega
  ·rw[h,Int.mul_zero]at hb;omega
  ·exact h
 ·have h3:Int.gcd (g * a) (g * b)=g.natAbs * Int.gcd a b:=Int.gcd_mul_left ..;rw[← ha,← hb]at h3;have h4:g.natAbs * 1=g.natAbs * Int.gcd a b:=by rw[← h3];omega
  exact(Nat.eq_of_mul_eq_mul_left (by omega) h4).symm
 ·conv=>lhs;rw[hb]
  conv=>rhs;rw[ha]
  rw[Int.mul_left_comm,Int.mul_assoc]
theorem zgP {pn pd qn qd:Nat} (hp:Nat.gcd pn pd=1) (hq:Nat.gcd qn qd=1) (h1:0<pd) (h2:0<qd):
  Nat.gcd ((pn / Nat.gcd pn qd) * (qn / Nat.gcd qn pd)) ((pd / Nat.gcd qn pd) * (qd / Nat.gcd pn qd))=1
  ∧(pn / Nat.gcd pn qd) * (qn / Nat.gcd qn pd) * (pd * qd)=pn * qn * ((pd / Nat.gcd qn pd) * (qd / Nat.gcd pn qd))
  ∧0<(pd / Nat.gcd qn pd) * (qd / Nat.gcd pn qd):=by
 have f0:0<Nat.gcd pn qd:=Nat.gcd_pos_of_pos_right _ h2;have s0:0<Nat.gcd qn pd:=Nat.gcd_pos_of_pos_right _ h1;have fa:=Nat.gcd_dvd_left pn qd;have fb:=Nat.gcd_dvd_right pn qd;have sa:=Nat.gcd_dvd_left qn pd;have sb:=Nat.gcd_dvd_right qn pd;have c1:Nat.gcd (pn / Nat.gcd pn qd) (qd / Nat.gcd pn qd)=1:=Nat.coprime_div_gcd_div_gcd f0;have c2:Nat.gcd (qn / Nat.gcd qn pd) (pd / Nat.gcd qn pd)=1:=Nat.coprime_div_gcd_div_gcd s0;generalize Nat.gcd pn qd=f at *;generalize Nat.gcd qn pd=s at *;obtain⟨a,rfl⟩:=fa;obtain⟨b,rfl⟩:=fb;obtain⟨c,rfl⟩:=sa;obtain⟨d,rfl⟩:=sb;rw[Nat.mul_div_cancel_left _ f0,Nat.mul_div_cancel_left _ f0,Nat.mul_div_cancel_left _ s0,Nat.mul_div_cancel_left _ s0]at *;have c3:Nat.gcd a d=1:=Nat.Coprime.coprime_mul_left (k:=f) (Nat.Coprime.coprime_mul_left_right (k:=s) hp);have c4:Nat.gcd c b=1:=Nat.Coprime.coprime_mul_left (k:=s) (Nat.Coprime.coprime_mul_left_right (k:=f) hq);refine⟨Nat.Coprime.mul_left (Nat.Coprime.mul_right c3 c1) (Nat.Coprime.mul_right c2 c4),?_,Nat.mul_pos (Nat.pos_of_mul_pos_left h1) (Nat.pos_of_mul_pos_left h2)⟩;simp only[Nat.mul_left_comm,Nat.mul_comm]
def fl (a b:Int):Int:=if 0<b then a / b else(-a) / (-b)
def ce (a b:Int):Int:= -(fl (-a) b)
end Go.Proofs.YtpmaonkelkmhbaaGreat
