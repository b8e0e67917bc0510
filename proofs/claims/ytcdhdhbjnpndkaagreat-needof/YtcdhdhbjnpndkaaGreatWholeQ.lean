/- Package valid: where a name stands, and Check, by the network's tree. -/
import Derived.Test.YtcdhdhbjnpndkaaGreatVTn
import Derived.Test.YtcdhdhbjnpndkaaGreatVCk
import Derived.Test.YtcdhdhbjnpndkaaGreatLSkip
import Derived.Test.YtcdhdhbjnpndkaaGreatProg
import Derived.WalkKit
import Derived.ProofKit
namespace Go.Proofs.YtcdhdhbjnpndkaaGreat
open Go.RowKit
set_option linter.unusedVariables false
set_option linter.unusedSimpArgs false
set_option maxRecDepth 10000
namespace V
open S
theorem zee {w0:World} {a:Option Addr} {L:List (List D)} (hL:∀ ds∈L,ShL zbe ds) (HA:Rvss w0 a 7 L 0) (k:Nat) (hk:k<L.length):Rvs w0 (L.getD k []) [.string (sv (tS (gt (L.getD k []) 0))),.slice (sA w0 a 7 1 k) (sN w0 a 7 1 k) (sC w0 a 7 1 k),.slice (sA w0 a 7 2 k) (sN w0 a 7 2 k) (sC w0 a 7 2 k),.slice (sA w0 a 7 3 k) (sN w0 a 7 3 k) (sC w0 a 7 3 k),.slice (sA w0 a 7 4 k) (sN w0 a 7 4 k) (sC w0 a 7 4 k),.slice (sA w0 a 7 5 k) (sN w0 a 7 5 k) (sC w0 a 7 5 k),.int .i64 (fI (gt (L.getD k []) 6))]:=by
 obtain⟨ad,us,rfl,hb,h1,h2,h3⟩:=zaP L 0 HA k hk;have hs:=hL (L.getD k []) (zaX hk);generalize L.getD k []=ds at h1 hs ⊢;simp only[ShL,Sh1,zbe]at hs;obtain⟨_,_,rfl,⟨s0,rfl,_⟩,⟨_,_,rfl,⟨L1,rfl,_,q1⟩,⟨_,_,rfl,⟨L2,rfl,_,q2⟩,⟨_,_,rfl,⟨L3,rfl,_,q3⟩,⟨_,_,rfl,⟨L4,rfl,_,q4⟩,⟨_,_,rfl,⟨L5,rfl,_,q5⟩,⟨_,_,rfl,⟨v6,rfl,_,_⟩,rfl⟩⟩⟩⟩⟩⟩⟩:=hs;have hr:=h1;simp only[Rvs,Rv,dS,dI,dB]at h1;obtain⟨_,_,rfl,rfl,⟨_,_,rfl,⟨x1,z1,rfl,y1,m1⟩,⟨_,_,rfl,⟨x2,z2,rfl,y2,m2⟩,⟨_,_,rfl,⟨x3,z3,rfl,y3,m3⟩,⟨_,_,rfl,⟨x4,z4,rfl,y4,m4⟩,⟨_,_,rfl,⟨x5,z5,rfl,y5,m5⟩,⟨_,_,rfl,rfl,rfl⟩⟩⟩⟩⟩⟩⟩:=h1;rw[Nat.zero_add]at h3;have e1:=h3 1 _ rfl;have g1:(.slice (sA w0 (some ad) 7 1 k) (sN w0 (some ad) 7 1 k) (sC w0 (some ad) 7 1 k):Value)= .slice x1 L1.length z1:=by have e:=e1;simp only[sA,sN,sC,slA,slN,slC,adO,Option.getD_some,e]
 have e2:=h3 2 _ rfl;have g2:(.slice (sA w0 (some ad) 7 2 k) (sN w0 (some ad) 7 2 k) (sC w0 (some ad) 7 2 k):Value)= .slice x2 L2.length z2:=by have e:=e2;simp only[sA,sN,sC,slA,slN,slC,adO,Option.getD_some,e]
 have e3:=h3 3 _ rfl;have g3:(.slice (sA w0 (some ad) 7 3 k) (sN w0 (some ad) 7 3 k) (sC w0 (some ad) 7 3 k):Value)= .slice x3 L3.length z3:=by have e:=e3;simp only[sA,sN,sC,slA,slN,slC,adO,Option.getD_some,e]
 have e4:=h3 4 _ rfl;have g4:(.slice (sA w0 (some ad) 7 4 k) (sN w0 (some ad) 7 4 k) (sC w0 (some ad) 7 4 k):Value)= .slice x4 L4.length z4:=by have e:=e4;simp only[sA,sN,sC,slA,slN,slC,adO,Option.getD_some,e]
 have e5:=h3 5 _ rfl;have g5:(.slice (sA w0 (some ad) 7 5 k) (sN w0 (some ad) 7 5 k) (sC w0 (some ad) 7 5 k):Value)= .slice x5 L5.length z5:=by have e:=e5;simp only[sA,sN,sC,slA,slN,slC,adO,Option.getD_some,e]
 rw[g1,g2,g3,g4,g5];exact hr
def nI (L:List (List D)) (nm:List UInt8):Int:=ix (fun k=>tn L k==nm) 0 L.length
def cI (L:List (List D)) (nm:List UInt8):Bool:=decide (0≤ix (fun k=>nm==tn L k) 0 L.length)
def hI (L:List (List D)) (nm:List UInt8):Int:=ix (fun k=>cI (sub L 1 k) nm) 0 L.length
theorem zfj {w:World} {s:ByteArray} {x1:Option Addr} {c1:Nat} {x2:Option Addr} {n2 c2:Nat} {x3:Option Addr} {n3 c3:Nat} {x4:Option Addr} {n4 c4:Nat} {x5:Option Addr} {n5 c5:Nat} {p:Int} {L:List (List D)} (nm:List UInt8)
  (hL:∀ ds∈L,ShL zcZ ds) (HA:Rvss w x1 11 L 0) (hn:L.length≤maxLen):Calls Tryz.prog 39 #[.agg #[.string s,.slice x1 L.length c1,.slice x2 n2 c2,.slice x3 n3 c3,.slice x4 n4 c4,.slice x5 n5 c5,.int .i64 p],.string (sv nm)] w fun e w'=>e= .returned (.int .i64 (nI L nm))∧Keep w w':=
 zj0 s x1 L.length c1 x2 n2 c2 x3 n3 c3 x4 n4 c4 x5 n5 c5 p nm _ w (hide fun w' c k hc hcell=>znj x1 L.length c1 c (tn L) (iv L 1) (iv L 2) (iv L 3) (iv L 4) (iv L 5) (iv L 6) (iv L 7) (iv L 8) (iv L 9) (iv L 10) (fun k=>tn L k==nm) _ w' hn
  (hide fun j hj=>S.clHead (Keep.refl w') hL (Rvss.keep k _ _ _ _ HA) j hj)
  (hide fun j hj w'' k'=>V.clHead (tn L j) nm _ _ _ _ _ _ _ _ _ _ c w'' (by rw[Below.cell (p:=⟨c,0,none⟩) k' hc];exact hcell) (Nat.lt_of_lt_of_le hc k'.size)) (hide rfl))
end V
namespace V
open S
def nsE (LN:List (List D)):Eq2:=fE (nsF (tn LN) (fun k=>zfh (LN.getD k [])) (iv LN 6)) 0 LN.length
theorem zin {w:World} {aN:Option Addr} {cN:Nat} {LN:List (List D)} (hL:∀ ds∈LN,ShL zbe ds) (HA:Rvss w aN 7 LN 0) (hn:LN.length≤maxLen):Calls Tryz.prog 35 #[.slice aN LN.length cN] w (Hq (nsE LN) (mk (tn LN) LN.length) w):=
 zg0 aN LN.length cN (tn LN) (sA w aN 7 1) (sA w aN 7 2) (sA w aN 7 3) (sA w aN 7 4) (sA w aN 7 5) (sN w aN 7 1) (sC w aN 7 1) (sN w aN 7 2) (sC w aN 7 2) (sN w aN 7 3) (sC w aN 7 3) (sN w aN 7 4) (sC w aN 7 4) (sN w aN 7 5) (sC w aN 7 5) (iv LN 6) (fun k=>zfh (LN.getD k [])) _ w hn (hide fun k hk=>nm0 (hL _ (zaX hk))) (hide fun k hk=>S.clNode (Keep.refl w) hL HA k hk)
  (hide fun k hk w' kw=>zc3 (hL _ (zaX hk)) (Rvs.keep kw _ _ (zee hL HA k hk))) (hide rfl)
def hdj (LN:List (List D)) (j:Int) (nm:List UInt8):Int:=nI (sub LN 1 j.toNat) nm
def s2 (L:List (List D)) (k:Nat):List UInt8:=tS (gt (L.getD k []) 2)
def stE (LN LS:List (List D)):Eq2:=fE (stF (mk (tn LN) LN.length) (tn LS) (un LS) (s2 LS) (hdj LN) (iv LS 3) (iv LS 4) (iv LS 5)) 0 LS.length
theorem znl {T:Nat→List UInt8} {s:List UInt8} :∀ n,hs (mk T n) s=true→∃ j:Nat,j<n∧lk (mk T n) s=(j:Int)
 |0,h=>by simp[mk,hs]at h
 |n+1,h=>by
  rw[zcb]at h ⊢;by_cases h':hs (mk T n) s=true
  ·obtain⟨j,h1,h2⟩:=znl n h';refine⟨j,by omega,?_⟩;rw[← h2];unfold lk
   rw[List.find?_append];have:((mk T n).find? (fun p=>p.1==s)).isSome=true:=by
    rw[List.find?_isSome];obtain⟨p,hp,he⟩:=List.any_eq_true.1 h';exact⟨p,hp,he⟩
   obtain⟨p,hp⟩:=Option.isSome_iff_exists.1 this;rw[hp];rfl
  ·refine⟨n,by omega,?_⟩;have h0:hs (mk T n) s=false:=by simpa using h'
   have h1:(T n==s)=true:=by rw[zia,h0]at h;simpa using h
   have h2:T n=s:=by simpa using h1
   subst h2;rw[zla _ _ h0,if_pos rfl]
theorem zio {w:World} {a0 a1 a2 a3 a4:Int} {aN:Option Addr} {cN:Nat} {aS:Option Addr} {cS:Nat} {a5 a6:Int} {bn:Nat} {LN LS:List (List D)} (hL:∀ ds∈LN,ShL zbe ds) (HA:Rvss w aN 7 LN 0) (hn:LN.length≤maxLen) (hLS:∀ ds∈LS,ShL zjV ds) (HS:Rvss w aS 6 LS 0) (hnS:LS.length≤maxLen) (hM:Mp w bn (mk (tn LN) LN.length)):
  Calls Tryz.prog 34 #[.agg #[.int .i64 a0,.int .i64 a1,.int .i64 a2,.int .i64 a3,.int .i64 a4,.slice aN LN.length cN,.slice aS LS.length cS,.int .i64 a5,.int .i64 a6],.map (some bn)] w (Nq (stE LN LS) w):=by
 refine zg1 a0 a1 a2 a3 a4 aN LN.length cN aS LS.length cS a5 a6 bn (mk (tn LN) LN.length) (tn LN) (sA w aN 7 1) (sA w aN 7 2) (sA w aN 7 3) (sA w aN 7 4) (sA w aN 7 5) (sN w aN 7 1) (sC w aN 7 1) (sN w aN 7 2) (sC w aN 7 2) (sN w aN 7 3) (sC w aN 7 3) (sN w aN 7 4) (sC w aN 7 4) (sN w aN 7 5) (sC w aN 7 5) (iv LN 6) (tn LS) (un LS) (s2 LS) (iv LS 3) (iv LS 4) (iv LS 5) (hdj LN) _ w hnS hn (hide hM) (hide fun k hk=>nm0 (hLS _ (zaX hk))) (hide fun k hk h=>znl _ h) (hide fun k hk=>S.clStop (Keep.refl w) hLS HS k hk) (hide fun j hj=>S.clNode (Keep.refl w) hL HA j hj) (hide fun j hj k hk w' kw=>?_) (hide rfl);obtain⟨⟨r1,r2,r3,r4⟩,_⟩:=zgf hL HA j hj;have hl:(sub LN 1 j).length≤maxLen:=by
  have hs:=hL _ (zaX hj);unfold sub
  generalize LN.getD j []=ds at hs ⊢;simp only[ShL,Sh1,zbe]at hs;obtain⟨_,_,rfl,_,⟨_,_,rfl,⟨L1,rfl,hl,_⟩,_⟩⟩:=hs;exact hl
 rw[r1];have e:∀ nm,hdj LN (j:Int) nm=nI (sub LN 1 j) nm:=fun nm=>by unfold hdj;rw[Int.toNat_natCast]
 rw[e,e];exact⟨zfj _ r4 (Rvss.keep kw _ _ _ _ r3) hl,zfj _ r4 (Rvss.keep kw _ _ _ _ r3) hl⟩
def zjK (a0 a1 a2 a3 a4:Int) (LN LS:List (List D)) (a5 a6:Int):Int×Int:=match whE a0 a1 a2 a3 a4 LN.length LS.length a5 a6 with
 |some c=>(c,0)
 |none=>match nsE LN with
  |some x=>x
  |none=>match stE LN LS with
   |some x=>x
   |none=>(0,0)
def zj5 (ds:List D):Int×Int:=zjK (fI (gt ds 0)) (fI (gt ds 1)) (fI (gt ds 2)) (fI (gt ds 3)) (fI (gt ds 4)) (fL (gt ds 5)) (fL (gt ds 6)) (fI (gt ds 7)) (fI (gt ds 8))
set_option maxHeartbeats 1000000 in
theorem zeJ {w:World} {ds:List D} {us:List Value} (hs:ShL zh1 ds) (hr:Rvs w ds us):Calls Tryz.prog 19 #[.agg us.toArray] w fun e w'=>e= .returned (.tuple #[.int .i64 (zj5 ds).1,.int .i64 (zj5 ds).2])∧Keep w w':=by
 simp only[ShL,Sh1,zh1]at hs;obtain⟨_,_,rfl,⟨a0,rfl,_,_⟩,⟨_,_,rfl,⟨a1,rfl,_,_⟩,⟨_,_,rfl,⟨a2,rfl,_,_⟩,⟨_,_,rfl,⟨a3,rfl,_,_⟩,⟨_,_,rfl,⟨a4,rfl,_,_⟩,⟨_,_,rfl,⟨LN,rfl,bN,qN⟩,⟨_,_,rfl,⟨LS,rfl,bS,qS⟩,⟨_,_,rfl,⟨a5,rfl,_,_⟩,⟨_,_,rfl,⟨a6,rfl,_,_⟩,rfl⟩⟩⟩⟩⟩⟩⟩⟩⟩:=hs;simp only[Rvs,Rv,dS,dI,dB]at hr;obtain⟨_,_,rfl,rfl,⟨_,_,rfl,rfl,⟨_,_,rfl,rfl,⟨_,_,rfl,rfl,⟨_,_,rfl,rfl,⟨_,_,rfl,⟨aN,cN,rfl,yN,mN⟩,⟨_,_,rfl,⟨aS,cS,rfl,yS,mS⟩,⟨_,_,rfl,rfl,⟨_,_,rfl,rfl,rfl⟩⟩⟩⟩⟩⟩⟩⟩⟩:=hr;show Calls _ _ #[.agg #[.int .i64 a0,.int .i64 a1,.int .i64 a2,.int .i64 a3,.int .i64 a4,.slice aN LN.length cN,.slice aS LS.length cS,.int .i64 a5,.int .i64 a6]] w fun e w'=>e= .returned (.tuple #[.int .i64 (zjK a0 a1 a2 a3 a4 LN LS a5 a6).1,.int .i64 (zjK a0 a1 a2 a3 a4 LN LS a5 a6).2])∧Keep w w'
 have TW:∀ w',Keep w w'→Calls Tryz.prog 33 #[.agg #[.int .i64 a0,.int .i64 a1,.int .i64 a2,.int .i64 a3,.int .i64 a4,.slice aN LN.length cN,.slice aS LS.length cS,.int .i64 a5,.int .i64 a6]] w' fun e w''=>e=En ((whE a0 a1 a2 a3 a4 LN.length LS.length a5 a6).map ern) (.tuple #[])∧Keep w' w'':=fun w' k=>zgX a0 a1 a2 a3 a4 aN LN.length cN aS LS.length cS a5 a6 w' _ (hide rfl)
 have TN:∀ w',Keep w w'→Calls Tryz.prog 35 #[.slice aN LN.length cN] w' (Hq (nsE LN) (mk (tn LN) LN.length) w'):=fun w' k=>zin qN (Rvss.keep k _ _ _ _ mN) bN
 have TS:∀ w' b,Keep w w'→Mp w' b (mk (tn LN) LN.length)→Calls Tryz.prog 34 #[.agg #[.int .i64 a0,.int .i64 a1,.int .i64 a2,.int .i64 a3,.int .i64 a4,.slice aN LN.length cN,.slice aS LS.length cS,.int .i64 a5,.int .i64 a6],.map (some b)] w' (Nq (stE LN LS) w'):=fun w' b k hM=>zio qN (Rvss.keep k _ _ _ _ mN) bN qS (Rvss.keep k _ _ _ _ mS) bS hM
 unfold zjK
 cases h0:whE a0 a1 a2 a3 a4 LN.length LS.length a5 a6 with
 |some c=>rw[h0]at TW;exact zj1 a0 a1 a2 a3 a4 aN LN.length cN aS LS.length cS a5 a6 c w (hide TW)
 |none=>
  rw[h0]at TW;cases h1:nsE LN with
  |some x=>rw[h1]at TN;exact zj2 a0 a1 a2 a3 a4 aN LN.length cN aS LS.length cS a5 a6 x _ w (hide TW) (hide TN)
  |none=>
   rw[h1]at TN;cases h2:stE LN LS with
   |some x=>rw[h2]at TS;exact zj3 a0 a1 a2 a3 a4 aN LN.length cN aS LS.length cS a5 a6 x _ w (hide TW) (hide TN) (hide TS)
   |none=>rw[h2]at TS;exact zj4 a0 a1 a2 a3 a4 aN LN.length cN aS LS.length cS a5 a6 _ w (hide TW) (hide TN) (hide TS)
end V
end Go.Proofs.YtcdhdhbjnpndkaaGreat
namespace Go.Proofs.YtcdhdhbjnpndkaaGreat
open Go.RowKit
set_option linter.unusedVariables false
def rt (n d:Int):Bool:=decide (1≤d∧Int.gcd n d=1)
def cn (n d:Int):Int:=if rt n d then n else 0
def cd (n d:Int):Int:=if rt n d then d else 1
def Rt (n d:Int):Prop:=1≤d∧Int.gcd n d=1∧ -9223372036854775808≤n∧n≤9223372036854775807∧d≤9223372036854775807
theorem zaG (n d:Int) (h1: -9223372036854775808≤n) (h2:n≤9223372036854775807) (h4:d≤9223372036854775807):Rt (cn n d) (cd n d):=by
 unfold cn cd
 by_cases h:rt n d=true
 ·have h':=h;simp only[rt,decide_eq_true_eq]at h';simp only[h,if_true];exact⟨h'.1,h'.2,h1,h2,h4⟩
 ·simp only[h,if_false,Bool.false_eq_true];exact⟨by omega,by simp,by omega,by omega,by omega⟩
theorem Rt.rt {n d:Int} (h:Rt n d):rt n d=true:=by simp only[Proofs.YtcdhdhbjnpndkaaGreat.rt,decide_eq_true_eq];exact⟨h.1,h.2.1⟩
theorem Rt.cn {n d:Int} (h:Rt n d):cn n d=n:=by simp[Proofs.YtcdhdhbjnpndkaaGreat.cn,h.rt]
theorem Rt.cd {n d:Int} (h:Rt n d):cd n d=d:=by simp[Proofs.YtcdhdhbjnpndkaaGreat.cd,h.rt]
def rn (N D:Int):Int:=N / (Int.gcd N D:Int)
def rd (N D:Int):Int:=D / (Int.gcd N D:Int)
def pN (n d:Int):Int:=if fit n&&fit d then n else 0
def pD (n d:Int):Int:=if fit n&&fit d then d else 0
def pE (n d:Int):Int:=if fit n&&fit d then 0 else 2
def fr (n d:Int):Value:= .agg #[.int .i64 n,.int .i64 d]
def fv (n d:Int):Value:= .tuple #[.agg #[.int .i64 (pN n d),.int .i64 (pD n d)],.int .i64 (pE n d)]
theorem znm {n d N D:Nat} (hd:0<d) (hD:0<D) (hg:Nat.gcd n d=1) (h:n * D=N * d):∃ k,0<k∧N=n * k∧D=d * k∧Nat.gcd N D=k:=by
 have h1:d ∣ n * D:=⟨N,by rw[h,Nat.mul_comm]⟩;have h2:d ∣ D:=Nat.Coprime.dvd_of_dvd_mul_left (Nat.Coprime.symm hg) h1;obtain⟨k,rfl⟩:=h2;have hk:0<k:=Nat.pos_of_mul_pos_left hD;have e:N=n * k:=by
  have:N * d=(n * k) * d:=by rw[← h,Nat.mul_assoc,Nat.mul_comm d k]
  exact Nat.eq_of_mul_eq_mul_right hd this
 subst e;refine⟨k,hk,rfl,rfl,?_⟩;rw[Nat.gcd_mul_right,hg,Nat.one_mul]
theorem znn {n d N D:Int} (hd:0<d) (hD:0<D) (hg:Int.gcd n d=1) (h:n * D=N * d):∃ k:Int,0<k∧N=n * k∧D=d * k∧(Int.gcd N D:Int)=k:=by
 have e:n.natAbs * D.natAbs=N.natAbs * d.natAbs:=by rw[← Int.natAbs_mul,← Int.natAbs_mul,h]
 obtain⟨k,hk,e1,e2,e3⟩:=znm (n:=n.natAbs) (d:=d.natAbs) (N:=N.natAbs) (D:=D.natAbs) (by omega) (by omega) hg e;have eD:D=d * k:=by
  have:=congrArg (Nat.cast (R:=Int)) e2;rw[Int.natCast_mul,Int.natAbs_of_nonneg (by omega),Int.natAbs_of_nonneg (by omega)]at this;exact this
 refine⟨k,by omega,?_,eD,by rw[Int.gcd];omega⟩;rw[eD,Int.mul_comm d,← Int.mul_assoc]at h;exact(Int.eq_of_mul_eq_mul_right (by omega) h).symm
theorem zfk {n d N D:Int} (hd:0<d) (hD:0<D) (hg:Int.gcd n d=1) (h:n * D=N * d):rn N D=n∧rd N D=d:=by
 obtain⟨k,hk,e1,e2,e3⟩:=znn hd hD hg h;unfold rn rd
 rw[e3,e1,e2];exact⟨Int.mul_ediv_cancel _ (by omega),Int.mul_ediv_cancel _ (by omega)⟩
theorem zgk {N D:Int} (hD:0<D):0<rd N D∧Int.gcd (rn N D) (rd N D)=1∧rn N D * D=N * rd N D:=by
 have hg:0<Int.gcd N D:=Int.gcd_pos_of_ne_zero_right _ (by omega);obtain⟨a,ha⟩:=Int.gcd_dvd_left N D;obtain⟨b,hb⟩:=Int.gcd_dvd_right N D;obtain⟨g,eg⟩:∃ g:Int,g=(Int.gcd N D:Int):=⟨_,rfl⟩;have hg':0<g:=by omega
 rw[← eg]at ha hb;have e1:rn N D=a:=by
  unfold rn
  rw[← eg]
  conv=>lhs;rw[ha]
  exact Int.mul_ediv_cancel_left _ (by omega)
 have e2:rd N D=b:=by
  unfold rd
  rw[← eg]
  conv=>lhs;rw[hb]
  exact Int.mul_ediv_cancel_left _ (by omega)
 rw[e1,e2];refine⟨?_,?_,?_⟩
 ·rcases Int.lt_trichotomy b 0 with h|h|h
  ·have:=Int.mul_neg_of_pos_of_neg hg' h;omega
  ·rw[h,Int.mul_zero]at hb;omega
  ·exact h
 ·have h3:Int.gcd (g * a) (g * b)=g.natAbs * Int.gcd a b:=Int.gcd_mul_left ..;rw[← ha,← hb]at h3;have h4:g.natAbs * 1=g.natAbs * Int.gcd a b:=by rw[← h3];omega
  exact(Nat.eq_of_mul_eq_mul_left (by omega) h4).symm
 ·conv=>lhs;rw[hb]
  conv=>rhs;rw[ha]
  rw[Int.mul_left_comm,Int.mul_assoc]
theorem zip {pn pd qn qd:Nat} (hp:Nat.gcd pn pd=1) (hq:Nat.gcd qn qd=1) (h1:0<pd) (h2:0<qd):
  Nat.gcd ((pn / Nat.gcd pn qd) * (qn / Nat.gcd qn pd)) ((pd / Nat.gcd qn pd) * (qd / Nat.gcd pn qd))=1
  ∧(pn / Nat.gcd pn qd) * (qn / Nat.gcd qn pd) * (pd * qd)=pn * qn * ((pd / Nat.gcd qn pd) * (qd / Nat.gcd pn qd))
  ∧0<(pd / Nat.gcd qn pd) * (qd / Nat.gcd pn qd):=by
 have f0:0<Nat.gcd pn qd:=Nat.gcd_pos_of_pos_right _ h2;have s0:0<Nat.gcd qn pd:=Nat.gcd_pos_of_pos_right _ h1;have fa:=Nat.gcd_dvd_left pn qd;have fb:=Nat.gcd_dvd_right pn qd;have sa:=Nat.gcd_dvd_left qn pd;have sb:=Nat.gcd_dvd_right qn pd;have c1:Nat.gcd (pn / Nat.gcd pn qd) (qd / Nat.gcd pn qd)=1:=Nat.coprime_div_gcd_div_gcd f0;have c2:Nat.gcd (qn / Nat.gcd qn pd) (pd / Nat.gcd qn pd)=1:=Nat.coprime_div_gcd_div_gcd s0;generalize Nat.gcd pn qd=f at *;generalize Nat.gcd qn pd=s at *;obtain⟨a,rfl⟩:=fa;obtain⟨b,rfl⟩:=fb;obtain⟨c,rfl⟩:=sa;obtain⟨d,rfl⟩:=sb;rw[Nat.mul_div_cancel_left _ f0,Nat.mul_div_cancel_left _ f0,Nat.mul_div_cancel_left _ s0,Nat.mul_div_cancel_left _ s0]at *;have c3:Nat.gcd a d=1:=Nat.Coprime.coprime_mul_left (k:=f) (Nat.Coprime.coprime_mul_left_right (k:=s) hp);have c4:Nat.gcd c b=1:=Nat.Coprime.coprime_mul_left (k:=s) (Nat.Coprime.coprime_mul_left_right (k:=f) hq);refine⟨Nat.Coprime.mul_left (Nat.Coprime.mul_right c3 c1) (Nat.Coprime.mul_right c2 c4),?_,Nat.mul_pos (Nat.pos_of_mul_pos_left h1) (Nat.pos_of_mul_pos_left h2)⟩;simp only[Nat.mul_left_comm,Nat.mul_comm]
def fl (a b:Int):Int:=if 0<b then a / b else(-a) / (-b)
def ce (a b:Int):Int:= -(fl (-a) b)
end Go.Proofs.YtcdhdhbjnpndkaaGreat
