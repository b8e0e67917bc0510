/- Proved: for every network (greater networks than the law's Few lets in are let by) the program's Check answers the document's error and place. -/
import Derived.Test.YthbfohohelflnaaVDw
import Derived.Test.YthbfohohelflnaaVDp
import Derived.Test.YthbfohohelflnaaVDs
import Derived.Test.YthbfohohelflnaaVDc
import Derived.Test.YthbfohohelflnaaRows
import Derived.Test.YthbfohohelflnaaLVkA
import Derived.WalkKit
import Derived.ProofKit
import Derived.OpenShut
import Derived.ShutString
import Derived.ChangeOld
import Derived.ChangeMaps5
import Derived.Below
namespace Go.Proofs.Ythbfohohelflnaa
open Go.RowKit
set_option linter.unusedVariables false
set_option linter.unusedSimpArgs false
set_option maxRecDepth 10000
namespace V
open S
theorem zk2 {B:Nat→Bool} {n:Nat} :ix B 0 n<0↔¬0≤ix B 0 n:=by omega
theorem zcU {T:Nat→List UInt8} {s:List UInt8} :∀ n,(0≤ix (fun k=>T k==s) 0 n↔hs (mk T n) s=true)∧(hs (mk T n) s=true→ix (fun k=>T k==s) 0 n=lk (mk T n) s)
 |0=>by simp[mk,hs,ix]
 |n+1=>by
  obtain⟨h1,h2⟩:=zcU (T:=T) (s:=s) n;rw[zcS,zbA,zdV,zgi,Nat.zero_add];by_cases h:hs (mk T n) s=true
  ·have h0:=h1.2 h;rw[if_pos h0,h,if_pos rfl];exact⟨by simpa using h0,fun _=>h2 h⟩
  ·have h0:¬0≤ix (fun k=>T k==s) 0 n:=fun k=>h (h1.1 k)
   have hf:hs (mk T n) s=false:=by simpa using h
   rw[if_neg h0,hf];by_cases h3:(T n==s)=true
   ·rw[if_pos h3];have e:T n=s:=by simpa using h3
    refine⟨by simp[hs,e],fun _=>?_⟩;simp[lk,e]
   ·rw[if_neg h3];have e:¬T n=s:=by simpa using h3
    refine⟨by simp[hs,e],fun k=>?_⟩;simp[hs,e]at k
theorem zfp {L:List (List D)} (nm:List UInt8):nI L nm<0↔hs (mk (tn L) L.length) nm=false:=by
 unfold nI
 rw[zk2,(zcU (T:=tn L) (s:=nm) L.length).1];simp
theorem zk3 {L:List (List D)} {nm:List UInt8} (h:hs (mk (tn L) L.length) nm=true):nI L nm=lk (mk (tn L) L.length) nm:=(zcU (T:=tn L) (s:=nm) L.length).2 h
theorem zkg {L:List (List D)} (nm:List UInt8):0≤hI L nm↔hs (hmL (ln L 1) (sb L 1) L.length) nm=true:=by
 unfold hI
 exact(zcT (N:=ln L 1) (H:=sb L 1) (B:=fun k=>cI (sub L 1 k) nm) (s:=nm) (fun m=>zfo L m nm) L.length).1.symm
theorem zk4 {L:List (List D)} {nm:List UInt8} (h:hs (hmL (ln L 1) (sb L 1) L.length) nm=true):hI L nm=lk (hmL (ln L 1) (sb L 1) L.length) nm:=by
 unfold hI
 exact((zcT (N:=ln L 1) (H:=sb L 1) (B:=fun k=>cI (sub L 1 k) nm) (s:=nm) (fun m=>zfo L m nm) L.length).2 h).symm
theorem zf0 {B:Nat→Bool} {i:Nat} :∀(n:Nat),i≤n→(0≤ix B 0 n)→(ix B 0 n<(i:Int)↔0≤ix B 0 i):=by
 intro n
 induction n with
 |zero=>
  intro hi h
  have e:i=0:=by omega
  subst e;simp[ix]at h
 |succ n ih=>
  intro hi h
  rcases Nat.eq_or_lt_of_le hi with e|e
  ·subst e;refine⟨fun _=>h,fun _=>?_⟩;rcases zdN B (n+1) 0 with h1|⟨h1,h2⟩
   ·omega
   ·omega
  ·rw[zcS,Nat.zero_add]at h ⊢;by_cases h0:0≤ix B 0 n
   ·rw[if_pos h0];exact ih (by omega) h0
   ·rw[if_neg h0]at h ⊢;by_cases hb:B n=true
    ·rw[if_pos hb];constructor
     ·intro h9;omega
     ·intro h9
      exfalso;apply h0;rw[zaY]at h9 ⊢;obtain⟨j,h1,h2,h3⟩:=h9;exact⟨j,h1,by omega,h3⟩
    ·rw[if_neg hb]at h;omega
theorem zek {L:List (List D)} {i k:Nat} (hi:i<L.length) (hk:k<ln L 1 i) (BI:Bool) (hB:BI=decide (0≤ix (fun m=>sb L 1 i k==sb L 1 i m) 0 k)):
  (hI L (sb L 1 i k)<(i:Int)∨BI=true)↔hs (hmL (ln L 1) (sb L 1) i++inn (sb L 1) i k) (sb L 1 i k)=true:=by
 have h0:0≤hI L (sb L 1 i k):=by
  rw[zkg,zbl];have:∀ M,i<M→sb L 1 i k∈(hmL (ln L 1) (sb L 1) M).map Prod.fst:=by
   intro M
   induction M with
   |zero=>intro h;omega
   |succ M ih=>
    intro h
    rw[hmL,List.map_append,List.mem_append];rcases Nat.lt_succ_iff_lt_or_eq.1 h with e|e
    ·exact .inl (ih e)
    ·subst e;right;rw[zdv];exact List.mem_map.2 ⟨k,List.mem_range.2 hk,rfl⟩
  exact this _ hi
 have h1:=zf0 (B:=fun m=>cI (sub L 1 m) (sb L 1 i k)) L.length (Nat.le_of_lt hi) h0;have h2:=(zcT (N:=ln L 1) (H:=sb L 1) (B:=fun m=>cI (sub L 1 m) (sb L 1 i k)) (s:=sb L 1 i k) (fun m=>zfo L m _) i).1;unfold hI
 rw[h1,← h2,zdV,Bool.or_eq_true_iff,hB];have h3:(decide (0≤ix (fun m=>sb L 1 i k==sb L 1 i m) 0 k)=true)↔hs (inn (sb L 1) i k) (sb L 1 i k)=true:=by
  rw[decide_eq_true_eq,zaY,zbl,zdv,List.mem_map];constructor
  ·rintro⟨j,_,h2,h3⟩;have h4:sb L 1 i k=sb L 1 i j:=by simpa using h3
   exact⟨j,List.mem_range.2 (by omega),h4.symm⟩
  ·rintro⟨j,h2,h3⟩;exact⟨j,Nat.zero_le _,by have:=List.mem_range.1 h2;omega,by simp[h3]⟩
 rw[h3]
theorem zf1 {L:List (List D)} {MH:List (List UInt8×Int)} (h:phE L MH=none):∀ m,m<L.length→∀ o,o<ln L 1 m→hs MH (sb L 1 m o)=true:=by
 intro m hm o ho
 have h1:=zcQ _ _ h m (Nat.zero_le _) (by omega);unfold phF at h1
 split at h1
 ·cases h1
 ·cases h2:fE (phI (ln L 1) (sb L 1) MH (iv L 2) m) 0 (ln L 1 m)with
  |some e=>rw[h2]at h1;cases h1
  |none=>
   have h3:=zcQ _ _ h2 o (Nat.zero_le _) (by omega);unfold phI at h3
   split at h3
   ·assumption
   ·cases h3
theorem zgk {N:Nat→Nat} {H:Nat→Nat→List UInt8} {MH:List (List UInt8×Int)} :∀ M,(∀ m,m<M→∀ o,o<N m→hs MH (H m o)=true)→∀ s,hs (hmL N H M) s=true→hs MH s=true
 |0,_,s,h=>by simp[hmL,hs]at h
 |M+1,ho,s,h=>by
  rw[hmL,zdV]at h;rcases Bool.or_eq_true_iff.1 h with h|h
  ·exact zgk M (fun m hm=>ho m (by omega)) s h
  ·have:=zbl.1 h;rw[zdv,List.mem_map]at this;obtain⟨o,h1,rfl⟩:=this;exact ho M (by omega) o (List.mem_range.1 h1)
theorem zdz {L1 L3:List (List D)} (h2:phE L3 (mk (tn L1) L1.length)=none) (h3:fE (ltF (hmL (ln L3 1) (sb L3 1) L3.length) (tn L1) 73 (iv L1 10)) 0 L1.length=none) (s:List UInt8):hs (mk (tn L1) L1.length) s=hs (hmL (ln L3 1) (sb L3 1) L3.length) s:=by
 rw[Bool.eq_iff_iff];constructor
 ·intro h
  have:=zbl.1 h;simp only[mk,List.map_map,List.mem_map,List.mem_range,Function.comp]at this;obtain⟨k,hk,rfl⟩:=this;exact zkc h3 k hk
 ·exact zgk _ (zf1 h2) s
theorem zfq {a b:Eq2} (ha:Nz a) (hb:Nz b):Nz (ors [a,b]):=zfn _ (by intro x hx;simp at hx;rcases hx with rfl|rfl<;>assumption)
theorem zln {a b:Eq2} (h:ors [a,b]=none):a=none∧b=none:=⟨zcR _ h _ (by simp),zcR _ h _ (by simp)⟩
set_option maxHeartbeats 2000000 in
theorem zfr {w:World} {ds:List D} {us:List Value} (hs0:ShL za6 ds) (hr:Rvs w ds us):Calls Try.prog 16 #[.agg us.toArray] w (Zq (zeb ds) w):=by
 simp only[ShL,Sh1,za6]at hs0;obtain⟨_,_,rfl,⟨s0,rfl,_⟩,⟨_,_,rfl,⟨L1,rfl,b1,q1⟩,⟨_,_,rfl,⟨L2,rfl,b2,q2⟩,⟨_,_,rfl,⟨L3,rfl,b3,q3⟩,⟨_,_,rfl,⟨L4,rfl,b4,q4⟩,⟨_,_,rfl,⟨L5,rfl,b5,q5⟩,⟨_,_,rfl,⟨v6,rfl,_,_⟩,rfl⟩⟩⟩⟩⟩⟩⟩:=hs0;simp only[Rvs,Rv,dS,dI,dB]at hr;obtain⟨_,_,rfl,rfl,⟨_,_,rfl,⟨x1,z1,rfl,y1,m1⟩,⟨_,_,rfl,⟨x2,z2,rfl,y2,m2⟩,⟨_,_,rfl,⟨x3,z3,rfl,y3,m3⟩,⟨_,_,rfl,⟨x4,z4,rfl,y4,m4⟩,⟨_,_,rfl,⟨x5,z5,rfl,y5,m5⟩,⟨_,_,rfl,rfl,rfl⟩⟩⟩⟩⟩⟩⟩:=hr;show Calls _ _ #[.agg #[.string (sv s0),.slice x1 L1.length z1,.slice x2 L2.length z2,.slice x3 L3.length z3,.slice x4 L4.length z4,.slice x5 L5.length z5,.int .i64 v6]] w (Zq (zh4 L1 L2 L3 L4 L5 v6) w);have TH:∀(w1:World),Keep w w1→∀ nm w',Keep w1 w'→Calls Try.prog 33 #[.agg #[.string (sv s0),.slice x1 L1.length z1,.slice x2 L2.length z2,.slice x3 L3.length z3,.slice x4 L4.length z4,.slice x5 L5.length z5,.int .i64 v6],.string (sv nm)] w' fun e w''=>e= .returned (.int .i64 (nI L1 nm))∧Keep w' w'':=fun w1 k1 nm w' k=>zdT nm q1 (Rvss.keep (k1.trans k) _ _ _ _ m1) b1
 have TP:∀(w1:World),Keep w w1→∀ nm w',Keep w1 w'→Calls Try.prog 46 #[.agg #[.string (sv s0),.slice x1 L1.length z1,.slice x2 L2.length z2,.slice x3 L3.length z3,.slice x4 L4.length z4,.slice x5 L5.length z5,.int .i64 v6],.string (sv nm)] w' fun e w''=>e= .returned (.int .i64 (nI L3 nm))∧Keep w' w'':=fun w1 k1 nm w' k=>zfm nm q3 (Rvss.keep (k1.trans k) _ _ _ _ m3) b3
 have TO:∀(w1:World),Keep w w1→∀ nm w',Keep w1 w'→Calls Try.prog 47 #[.agg #[.string (sv s0),.slice x1 L1.length z1,.slice x2 L2.length z2,.slice x3 L3.length z3,.slice x4 L4.length z4,.slice x5 L5.length z5,.int .i64 v6],.string (sv nm)] w' fun e w''=>e= .returned (.int .i64 (hI L3 nm))∧Keep w' w'':=fun w1 k1 nm w' k=>zfY nm q3 (Rvss.keep (k1.trans k) _ _ _ _ m3) b3
 refine zej (sv s0) x1 L1.length z1 x2 L2.length z2 x3 L3.length z3 x4 L4.length z4 x5 L5.length z5 v6 (hdE L1) (ors [phE L3 (mk (tn L1) L1.length),fE (ltF (hmL (ln L3 1) (sb L3 1) L3.length) (tn L1) 73 (iv L1 10)) 0 L1.length]) (wkE L2 (mk (tn L3) L3.length)) (ors [grE L4 (mk (tn L3) L3.length) v6,fE (ltF (rgG (ln L4 0) (gN L4) (gH L4) L4.length) (tn L3) 74 (iv L3 2)) 0 L3.length]) (foE L5 (hmL (ln L3 1) (sb L3 1) L3.length)) w b1 b2 b3 b4 b5
  (hide (zj8 L1)) (hide (zfq (zj9 L3 _) (zbU (fun j=>zdU (by decide) j) _ _))) (hide (zka L2 _)) (hide (zfq (zkb L4 _ _) (zbU (fun j=>zdU (by decide) j) _ _)))
  (hide fun w1 k1=>?_) (hide fun w1 k1=>?_) (hide fun w1 k1=>?_) (hide fun h16 w1 k1=>?_) (hide fun h2n w1 k1=>?_) _ (hide (zfZ _ _ _ _ _ _ _ _))
 ·exact zdt _ _ _ _ _ _ _ _ _ _ _ _ _ _ _ _ _ (tn L1) (iv L1 1) (iv L1 2) (iv L1 3) (iv L1 4) (iv L1 5) (iv L1 6) (iv L1 7) (iv L1 8) (iv L1 9) (iv L1 10) _ w1 b1 (hide fun k hk=>S.clHead (Keep.refl w1) q1 (Rvss.keep k1 _ _ _ _ m1) k hk) (hide (TH w1 k1)) (hide rfl)
 ·have M1:=Rvss.keep k1 _ _ _ _ m1;have M3:=Rvss.keep k1 _ _ _ _ m3;refine zdb _ _ _ _ _ _ _ _ _ _ _ _ _ _ _ _ _ (tn L3) (sA w1 x3 3 1) (ln L3 1) (sC w1 x3 3 1) (sb L3 1) (mk (tn L1) L1.length) (iv L3 2) (tn L1) (iv L1 10) (nI L3) (nI L1) (hI L3) (fun i k=>decide (0≤ix (fun m=>sb L3 1 i k==sb L3 1 i m) 0 k)) _ _ w1 b3 b1
   (hide fun i hi=>⟨?_,zcI (w:=w1) (a:=x3) q3 i hi⟩) (hide fun k hk=>?_) (hide fun i hi k hk=>?_) (hide fun k hk=>?_) (hide (TP w1 k1)) (hide (TH w1 k1)) (hide (TO w1 k1)) (hide fun i hi k hk w' kw=>?_) (hide fun k hk=>zir (tn L3) hk) (hide fun nm=>zfp nm) (hide fun i hi k hk=>zek hi hk _ rfl) (hide fun k hk=>?_) (hide rfl) (hide rfl)
  ·obtain⟨r1,r2,r3,r4⟩:=zbg q3 M3 i hi;exact r2
  ·obtain⟨ad,e,hb,h0,h1,h2⟩:=S.clPhase (Keep.refl w1) q3 M3 k hk;rw[(zbg q3 M3 k hk).1]at h1;exact⟨ad,e,hb,h0,h1,h2⟩
  ·obtain⟨r1,r2,r3,r4⟩:=zbg q3 M3 i hi;obtain⟨ad,e,hb,h0,_⟩:=zcA r4 r3 k hk;exact⟨ad,e,hb,h0⟩
  ·obtain⟨ad,e,hb,h0,h1,h2,h3,h4,h5,h6,h7,h8,h9,h10⟩:=S.clHead (Keep.refl w1) q1 M1 k hk;exact⟨ad,e,hb,h0,h10⟩
  ·obtain⟨r1,r2,r3,r4⟩:=zbg q3 M3 i hi;exact zcb _ k _ (sb L3 1 i) (sb L3 1 i k) w' (by have:=zcI (w:=w1) (a:=x3) q3 i hi;unfold maxLen at this;omega) (hide fun m hm=>by
    obtain⟨ad,e,hb,h0,_⟩:=zcA r4 (Rvss.keep kw _ _ _ _ r3) m (by unfold ln sub at hk;omega);exact⟨ad,e,h0⟩)
  ·have:=zkg (L:=L3) (tn L1 k);rw[← Bool.not_eq_true,← this];omega
 ·exact zdu _ _ _ _ _ _ _ _ _ _ _ _ _ _ _ _ _ (tn L2) (un L2) (mk (tn L3) L3.length) (nI L3) (iv L2 2) (iv L2 3) (iv L2 4) (iv L2 5) _ w1 b2 (hide fun k hk=>S.clPed (Keep.refl w1) q2 (Rvss.keep k1 _ _ _ _ m2) k hk) (hide (TP w1 k1)) (hide fun nm=>zfp nm) (hide rfl)
 ·have M3:=Rvss.keep k1 _ _ _ _ m3;have M4:=Rvss.keep k1 _ _ _ _ m4;refine zdw _ _ _ _ _ _ _ _ _ _ _ _ _ _ _ _ _ (sA w1 x4 1 0) (ln L4 0) (sC w1 x4 1 0) (fun _ _=>false) (fun i j=>sA w1 (sA w1 x4 1 0 i) 2 1 j) (gN L4) (fun i j=>sC w1 (sA w1 x4 1 0 i) 2 1 j) (gH L4) (mk (tn L3) L3.length) (tn L3) (iv L3 2) (nI L3) _ _ w1 b4 b3 (by rw[zbZ];omega)
   (hide fun i hi=>⟨zeP q4 i hi,fun j hj=>?_⟩) (hide fun i hi=>?_) (hide fun i hi j hj=>?_) (hide fun i hi j hj m hm=>?_) (hide fun k hk=>?_) (hide (TP w1 k1)) (hide fun nm=>zfp nm) (hide rfl) (hide rfl)
  ·obtain⟨r1,r2,r3,r4⟩:=zbh q4 M4 i hi;exact zeQ r4 j hj
  ·obtain⟨ad,e,hb,h0⟩:=S.clGroup (Keep.refl w1) q4 M4 i hi;rw[(zbh q4 M4 i hi).1]at h0;exact⟨ad,e,hb,h0⟩
  ·obtain⟨r1,r2,r3,r4⟩:=zbh q4 M4 i hi;obtain⟨ad,e,hb,h0,h1⟩:=S.clRow (Keep.refl w1) r4 r3 j hj;rw[(zeF r4 r3 j hj).1]at h1;exact⟨ad,e,hb,h1⟩
  ·obtain⟨r1,r2,r3,r4⟩:=zbh q4 M4 i hi;obtain⟨t1,t2,t3,t4⟩:=zeF r4 r3 j hj;obtain⟨ad,e,hb,h0,_⟩:=zcA t4 t3 m hm;exact⟨ad,e,hb,h0⟩
  ·obtain⟨ad,e,hb,h0,h1,h2⟩:=S.clPhase (Keep.refl w1) q3 M3 k hk;exact⟨ad,e,hb,h0,h2⟩
 ·obtain⟨g2,g3⟩:=zln h2n;exact zei _ _ _ _ _ _ _ _ _ _ _ _ _ _ _ _ _ (tn L5) (un L5) (hmL (ln L3 1) (sb L3 1) L3.length) (nI L1) (hI L3) (iv L5 2) _ w1 b5 (hide fun k hk=>S.clFoe (Keep.refl w1) q5 (Rvss.keep k1 _ _ _ _ m5) k hk) (hide (TH w1 k1)) (hide (TO w1 k1)) (hide fun nm=>by rw[zfp,zdz g2 g3]) (hide fun nm h=>zk4 h) (hide rfl)
theorem zkh {a0 a1 a2 a3 a4:Int} {LN LS:List (List D)} {a5 a6:Int} :ez (ors [(whE a0 a1 a2 a3 a4 LN.length LS.length a5 a6).map (fun c=>(c,0)),nsE LN,stE LN LS])=zge a0 a1 a2 a3 a4 LN LS a5 a6:=by
 unfold zge
 cases whE a0 a1 a2 a3 a4 LN.length LS.length a5 a6 with
 |some c=>rfl
 |none=>
  cases nsE LN with
  |some x=>rfl
  |none=>cases stE LN LS<;>rfl
set_option maxHeartbeats 2000000 in
theorem zel {w:World} {ds:List D} {us:List Value} (hs:ShL zdK ds) (hr:Rvs w ds us):Calls Try.prog 6 #[.agg us.toArray] w fun e w'=>e= .returned (.tuple #[.int .i64 (zeX ds).1,.int .i64 (zeX ds).2])∧Keep w w':=by
 simp only[ShL,Sh1,zdK]at hs;obtain⟨_,_,rfl,⟨a0,rfl,_,_⟩,⟨_,_,rfl,⟨a1,rfl,_,_⟩,⟨_,_,rfl,⟨a2,rfl,_,_⟩,⟨_,_,rfl,⟨a3,rfl,_,_⟩,⟨_,_,rfl,⟨a4,rfl,_,_⟩,⟨_,_,rfl,⟨LN,rfl,bN,qN⟩,⟨_,_,rfl,⟨LS,rfl,bS,qS⟩,⟨_,_,rfl,⟨a5,rfl,_,_⟩,⟨_,_,rfl,⟨a6,rfl,_,_⟩,rfl⟩⟩⟩⟩⟩⟩⟩⟩⟩:=hs;simp only[Rvs,Rv,dS,dI,dB]at hr;obtain⟨_,_,rfl,rfl,⟨_,_,rfl,rfl,⟨_,_,rfl,rfl,⟨_,_,rfl,rfl,⟨_,_,rfl,rfl,⟨_,_,rfl,⟨aN,cN,rfl,yN,mN⟩,⟨_,_,rfl,⟨aS,cS,rfl,yS,mS⟩,⟨_,_,rfl,rfl,⟨_,_,rfl,rfl,rfl⟩⟩⟩⟩⟩⟩⟩⟩⟩:=hr;show Calls _ _ #[.agg #[.int .i64 a0,.int .i64 a1,.int .i64 a2,.int .i64 a3,.int .i64 a4,.slice aN LN.length cN,.slice aS LS.length cS,.int .i64 a5,.int .i64 a6]] w fun e w'=>e= .returned (.tuple #[.int .i64 (zge a0 a1 a2 a3 a4 LN LS a5 a6).1,.int .i64 (zge a0 a1 a2 a3 a4 LN LS a5 a6).2])∧Keep w w'
 rw[← zkh];have TN:∀(w1:World),Keep w w1→∀ nm w',Keep w1 w'→Calls Try.prog 15 #[.agg #[.int .i64 a0,.int .i64 a1,.int .i64 a2,.int .i64 a3,.int .i64 a4,.slice aN LN.length cN,.slice aS LS.length cS,.int .i64 a5,.int .i64 a6],.string (sv nm)] w' fun e w''=>e= .returned (.int .i64 (nI LN nm))∧Keep w' w'':=fun w1 k1 nm w' k=>zfX nm qN (Rvss.keep (k1.trans k) _ _ _ _ mN) bN
 refine(zdy a0 a1 a2 a3 a4 aN LN.length cN aS LS.length cS a5 a6 (fun k=>sv (tn LN k)) (sA w aN 7 1) (sA w aN 7 2) (sA w aN 7 3) (sA w aN 7 4) (sA w aN 7 5) (sN w aN 7 1) (sC w aN 7 1) (sN w aN 7 2) (sC w aN 7 2) (sN w aN 7 3) (sC w aN 7 3) (sN w aN 7 4) (sC w aN 7 4) (sN w aN 7 5) (sC w aN 7 5) (iv LN 6) (nI LN) (tn LN) (fun k=>zeb (LN.getD k [])) (stE LN LS) _ w bS bN
  (hide fun k hk=>S.clNode (Keep.refl w) qN mN k hk) (hide fun k hk=>rfl) (hide (TN w (Keep.refl w))) (hide fun _ k hk w' kw=>zfr (qN _ (zaQ hk)) (Rvs.keep kw _ _ (zcK qN mN k hk)))
  (hide fun w1 k1=>?_) (hide fun k hk=>zir (tn LN) hk) (hide fun k=>zis _) (hide rfl)).mono fun e w' h=>⟨h.2,h.1⟩
 have MN:=Rvss.keep k1 _ _ _ _ mN;refine zdx a0 a1 a2 a3 a4 aN LN.length cN aS LS.length cS a5 a6 (fun k=>sv (tn LN k)) (sA w1 aN 7 1) (sA w1 aN 7 2) (sA w1 aN 7 3) (sA w1 aN 7 4) (sA w1 aN 7 5) (sN w1 aN 7 1) (sC w1 aN 7 1) (sN w1 aN 7 2) (sC w1 aN 7 2) (sN w1 aN 7 3) (sC w1 aN 7 3) (sN w1 aN 7 4) (sC w1 aN 7 4) (sN w1 aN 7 5) (sC w1 aN 7 5) (iv LN 6) (mk (tn LN) LN.length) (nI LN) (tn LS) (un LS) (s2 LS) (iv LS 3) (iv LS 4) (iv LS 5) (hdj LN) _ w1 bS bN
  (hide fun k hk=>S.clStop (Keep.refl w1) qS (Rvss.keep k1 _ _ _ _ mS) k hk) (hide fun j hj=>S.clNode (Keep.refl w1) qN MN j hj) (hide (TN w1 k1)) (hide fun j hj nm w' kw=>?_) (hide fun nm=>zfp nm) (hide fun nm h=>?_) (hide rfl)
 ·obtain⟨⟨r1,r2,r3,r4⟩,_⟩:=zgc qN MN j hj;have hl:(sub LN 1 j).length≤maxLen:=by
   have hs:=qN _ (zaQ hj);unfold sub
   generalize LN.getD j []=ds at hs ⊢;simp only[ShL,Sh1,za6]at hs;obtain⟨_,_,rfl,_,⟨_,_,rfl,⟨L1,rfl,hl,_⟩,_⟩⟩:=hs;exact hl
  have e:hdj LN (j:Int) nm=nI (sub LN 1 j) nm:=by unfold hdj;rw[Int.toNat_natCast]
  rw[e,r1];exact zdT nm r4 (Rvss.keep kw _ _ _ _ r3) hl
 ·obtain⟨j,h1,h2⟩:=zia _ h;exact⟨j,h1,by rw[zk3 h];exact h2,h2⟩
end V
end Go.Proofs.Ythbfohohelflnaa
namespace Go.Proofs.Ythbfohohelflnaa.vck
open Go.ChangeShapes Go.WideShapes Go.ChangeAt Go.RowKit Go.Joins
open Go.WideMaps Go.WideElems
open Go.ChangeMaps (open_string)
set_option linter.unusedVariables false
set_option linter.unusedSimpArgs false
set_option maxRecDepth 10000
open S V
theorem zk5 {w:World} {ds:List D} {us:List Value} (hs:ShL zdK ds) (hr:Rvs w ds us):Calls Try.prog 3 #[.agg us.toArray] w fun e w'=>e= .returned (.bool true)∧Below w.heap.size w w':=by
 have TF:∀ w',Keep w w'→Calls Try.prog 4 #[.agg us.toArray] w' (Ak w'):=fun w' k=>ziq hs (Rvs.keep k _ _ hr)
 have TC:∀ w',Keep w w'→Calls Try.prog 5 #[.agg us.toArray] w' fun e w''=>e= .returned (.tuple #[.int .i64 (zeX ds).1,.int .i64 (zeX ds).2])∧Keep w' w'':=fun w' k=>zbM hs (Rvs.keep k _ _ hr)
 have TD:∀ w',Keep w w'→Calls Try.prog 6 #[.agg us.toArray] w' fun e w''=>e= .returned (.tuple #[.int .i64 (zeX ds).1,.int .i64 (zeX ds).2])∧Keep w' w'':=fun w' k=>zel hs (Rvs.keep k _ _ hr)
 simp only[ShL,Sh1,zdK]at hs;obtain⟨_,_,rfl,⟨a0,rfl,_,_⟩,⟨_,_,rfl,⟨a1,rfl,_,_⟩,⟨_,_,rfl,⟨a2,rfl,_,_⟩,⟨_,_,rfl,⟨a3,rfl,_,_⟩,⟨_,_,rfl,⟨a4,rfl,_,_⟩,⟨_,_,rfl,⟨LN,rfl,bN,qN⟩,⟨_,_,rfl,⟨LS,rfl,bS,qS⟩,⟨_,_,rfl,⟨a5,rfl,_,_⟩,⟨_,_,rfl,⟨a6,rfl,_,_⟩,rfl⟩⟩⟩⟩⟩⟩⟩⟩⟩:=hs;simp only[Rvs,Rv,dS,dI,dB]at hr;obtain⟨_,_,rfl,rfl,⟨_,_,rfl,rfl,⟨_,_,rfl,rfl,⟨_,_,rfl,rfl,⟨_,_,rfl,rfl,⟨_,_,rfl,⟨aN,cN,rfl,yN,mN⟩,⟨_,_,rfl,⟨aS,cS,rfl,yS,mS⟩,⟨_,_,rfl,rfl,⟨_,_,rfl,rfl,rfl⟩⟩⟩⟩⟩⟩⟩⟩⟩:=hr;exact zds a0 a1 a2 a3 a4 aN LN.length cN aS LS.length cS a5 a6 _ _ w (hide TF) (hide TC) (hide TD) (hide zj6)
theorem zit:laidOutB Try.prog=true:=by kernel_rfl
theorem own:ownKnob Try.prog.godebug=none:=by kernel_rfl
set_option maxHeartbeats 400000 in
set_option maxRecDepth 100000 in
theorem zki (os:Os) (started:os.Started) (H:Type) (enc:TypeId×Value→H):
  ReturnsInHanded {} Try.checked os 3 .any (Rows.validCheckSpec.pre6 enc Try.prog Try.f3 Rows.validCheckRow.domain false) (Rows.validCheckSpec.post enc Try.prog Try.f3 false true false false):=by
 refine returnsInHanded_of_change (C:=Try.checked) own started (by kernel_rfl) Try.func3
  (ChangeSpec.witness6 (enc:=enc) (C:=Try.checked) false ⟨#[],#[.agg #[.int .i64 0,.int .i64 0,.int .i64 0,.int .i64 0,.int .i64 0,.slice none 0 0,.slice none 0 0,.int .i64 0,.int .i64 0]],[]⟩ 8 (by kernel_rfl) (by kernel_rfl) (by kernel_rfl) (by kernel_rfl)) ?_
 intro W base args ds gs before hval0 hW hcnd _
 have hval:∀(j:Nat) t v,Try.f3.params[j]? =some t→args[j]? =some v→Value.okWide Try.prog W .any base t v:=hval0;have hW':=hW;obtain⟨p,q,hA0,hV,rfl,hfz,hnd⟩:=hW;have hA:DataW.TrodAll enc Try.prog W 0 (fun _=>true) true Try.f3.params.toList args.toList ds p:=hA0;rw[Try.params3]at hA hval;obtain⟨v0,vs0,d0,ds0,p0,q0,hargs,rfl,rfl,h0,r0⟩:=trodAll_cons hA;obtain⟨rfl,rfl,rfl⟩:=trodAll_nil r0;obtain rfl:args=#[v0]:=by cases args;simp_all
 obtain⟨rfl,rfl⟩:=trodVars_none hV;have k0:=h0;have lt0:∀ x∈p0,x.block<W.heap.size:=by obtain⟨m,hm⟩:=k0;exact DataW.trod_lt m _ _ _ hm
 obtain⟨es0,us0,rfl,s0,x0⟩:=zdh Try.underlying27 S.net_desc (hval 0 27 v0 rfl rfl) h0;clear h0;clear hA0 hval0;refine(zk5 s0 x0).mono fun e W' ⟨he,bel⟩=>?_
 subst he;exact⟨_,rfl,_,_,_,[],_,[],hW',trodAll_mk1 (shut_bool Try.underlying4 _),(trodAll_cons_mk (Below.trod zit (by kernel_rfl) (of_decide_eq_true (by kernel_rfl)) k0 bel lt0) trodAll_mk0),rfl,bel.frame _,fun h=>by cases h⟩
theorem over:Rows.validCheckRow.holds Try.pinned (OpenSpec.ofChange Rows.validCheckSpec):=
 OpenClaim.holds_of_wide 3 Try.f3 rfl rfl rfl rfl rfl rfl rfl ⟨rfl,rfl,rfl,rfl,rfl⟩ rfl rfl rfl rfl rfl (by kernel_rfl) Try.func3 (by kernel_rfl)
  (of_decide_eq_true (by kernel_rfl)) (by unfold Func.isWrapper;first|(rw[if_pos (by decide+kernel)];kernel_rfl)|(rw[if_neg (by decide+kernel)];exact⟨rfl,rfl⟩))
  (fun os started H enc _=>zki os started H enc)
end Go.Proofs.Ythbfohohelflnaa.vck
namespace Go.Proofs.Ythbfohohelflnaa
theorem ValidCheck_holds:Rows.ValidCheckSaid:=vck.over
end Go.Proofs.Ythbfohohelflnaa
