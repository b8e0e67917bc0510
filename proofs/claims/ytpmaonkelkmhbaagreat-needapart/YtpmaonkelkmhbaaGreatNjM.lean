/- Foes in a node that may be: what their phases' pairs are. No program is walked here. -/
import Derived.Test.YtpmaonkelkmhbaaGreatNjE
import Derived.Test.YtpmaonkelkmhbaaGreatNjF
import Derived.Test.YtpmaonkelkmhbaaGreatVDg
import Derived.Test.YtpmaonkelkmhbaaGreatVTc
namespace Go.Proofs.YtpmaonkelkmhbaaGreat
open Go.RowKit
set_option linter.unusedVariables false
set_option linter.unusedSimpArgs false
set_option maxRecDepth 10000
namespace Nj
open S V
theorem zhE {L3:List (List D)} {MH:List (List UInt8×Int)} (h:phE L3 MH=none) {k:Nat} (hk:k<L3.length):nI L3 (V.tn L3 k)=(k:Int):=by
 have h1:=zaS _ _ h k (Nat.zero_le _) (by omega);have h2:hs (mk (V.tn L3) k) (V.tn L3 k)=false:=by
  cases hb:hs (mk (V.tn L3) k) (V.tn L3 k)with
  |false=>rfl
  |true=>unfold phF at h1;rw[if_pos hb]at h1;cases h1
 have h3:=V.ahead (V.tn L3) hk;have h4:¬ix (fun j=>V.tn L3 j==V.tn L3 k) 0 L3.length<(k:Int):=fun e=>by rw[h3,h2]at e;cases e
 have h5:=Nd.ix_first (B:=fun j=>V.tn L3 j==V.tn L3 k) (j:=k) (by simp) L3.length 0 (Nat.zero_le _) (by omega);unfold nI
 omega
theorem ring_parts {L1 L2 L3 L4 L5:List (List D)} {p:Int} (h:zb2 L1 L2 L3 L4 L5 p=none) {i:Nat} (hi:i<L4.length):ln L4 0 i≤2∧∀ j,j<ln L4 0 i→gN L4 i j≤4∧∀ m,m<gN L4 i j→∃ k,k<L3.length∧gH L4 i j m=V.tn L3 k∧nI L3 (gH L4 i j m)=(k:Int):=by
 obtain⟨h0,h1,h2,h3,h4,h5,h6,h7⟩:=zaN h;have g1:=zaS _ _ h5 i (Nat.zero_le _) (by omega);unfold grF at g1
 split at g1
 ·cases g1
 ·rename_i hc
  refine⟨by omega,fun j hj=>?_⟩;have g2:=zaS _ _ g1 j (Nat.zero_le _) (by omega);unfold grR at g2
  split at g2
  ·cases g2
  ·rename_i hc2
   refine⟨by omega,fun m hm=>?_⟩;have g3:=zaS _ _ g2 m (Nat.zero_le _) (by omega);unfold grM at g3
   split at g3
   ·rename_i hc3
    have:=zbb.1 hc3;rw[Nd.mk_fst,List.mem_map]at this;obtain⟨k,hk,e⟩:=this;rw[List.mem_range]at hk;exact⟨k,hk,e.symm,by rw[← e];exact zhE h2 hk⟩
   ·cases g3
theorem zcX {L1 L2 L3 L4 L5:List (List D)} {p:Int} (h:zb2 L1 L2 L3 L4 L5 p=none) {m:Nat} (hm:m<L3.length):ln L3 1 m≤1000:=by
 obtain⟨h0,h1,h2,h3,h4,h5,h6,h7⟩:=zaN h;have l1:=(Nd.cn_le h0).1;have hn:=zfc (N:=ln L3 1) (H:=sb L3 1) (m+1) (fun k hk=>ziv h2 k (by omega));rw[hmL,List.map_append]at hn;have hn2:=(List.nodup_append.1 hn).2.1;have hg:Gd (mk (V.tn L1) L1.length) (inn (sb L3 1) m (ln L3 1 m)):=by
  refine⟨fun s hs1=>?_,hn2⟩;obtain⟨q,hq,he⟩:=List.any_eq_true.1 hs1;simp only[inn,List.mem_map,List.mem_range]at hq;obtain⟨o,ho,rfl⟩:=hq;have e:sb L3 1 m o=s:=by simpa using he
  have g1:=zaS _ _ h2 m (Nat.zero_le _) (by omega);unfold phF at g1
  split at g1
  ·cases g1
  ·cases g2:V.fE (phI (ln L3 1) (sb L3 1) (mk (V.tn L1) L1.length) (iv L3 2) m) 0 (ln L3 1 m)with
   |some e=>rw[g2]at g1;cases g1
   |none=>
    have g3:=zaS _ _ g2 o (Nat.zero_le _) (by omega);unfold phI at g3
    split at g3
    ·rename_i hc;rw[← e];exact hc
    ·cases g3
 have:=hg.len;rw[zbZ]at this;have hl:(inn (sb L3 1) m (ln L3 1 m)).length=ln L3 1 m:=by simp[inn]
 omega
theorem foe_home {L1 L2 L3 L4 L5:List (List D)} {p:Int} (h:zb2 L1 L2 L3 L4 L5 p=none) {f:Nat} (hf:f<L5.length):(∃ m:Nat,hI L3 (V.tn L5 f)=(m:Int)∧m<L3.length∧cI (sub L3 1 m) (V.tn L5 f)=true)∧∃ m:Nat,hI L3 (un L5 f)=(m:Int)∧m<L3.length∧cI (sub L3 1 m) (un L5 f)=true:=by
 obtain⟨h0,h1,h2,h3,h4,h5,h6,h7⟩:=zaN h;have h8:=zaS _ _ h7 f (Nat.zero_le _) (by omega);have key:∀ s:List UInt8,hs (hmL (ln L3 1) (sb L3 1) L3.length) s=true→∃ m:Nat,hI L3 s=(m:Int)∧m<L3.length∧cI (sub L3 1 m) s=true:=fun s hs1=>by
  have r1:=(zcV (N:=ln L3 1) (H:=sb L3 1) (B:=fun k=>cI (sub L3 1 k) s) (s:=s) (fun m=>zfe L3 m _) L3.length).1.1 hs1;obtain⟨j,_,hj,e,hb⟩:=Nd.ix_hit L3.length 0 r1;exact⟨j,e,by omega,hb⟩
 unfold foF at h8
 split at h8
 ·rename_i a1
  split at h8
  ·rename_i a2
   exact⟨key _ a1,key _ a2⟩
  ·cases h8
 ·cases h8
def jR (L3 L4:List (List D)) (g r a:Nat):Nat:=(nI L3 (gH L4 g r a)).toNat
def fZ (L3 L5:List (List D)) (x y:Nat):Bool:=decide (0≤ix (fun k=>cI (sub L3 1 x) (V.tn L5 k)&&cI (sub L3 1 y) (un L5 k) || cI (sub L3 1 x) (un L5 k)&&cI (sub L3 1 y) (V.tn L5 k)) 0 L5.length)
def fP (L3 L4 L5:List (List D)) (g:Nat):List (Nat×Nat):=if ln L4 0 g=2 then zp (fun a b=>fZ L3 L5 (jR L3 L4 g 0 a) (jR L3 L4 g 1 b)) (prA (gN L4 g 1) (gN L4 g 0))else []
theorem zi9 {L3 L4 L5:List (List D)} {g xa xb:Nat} :(xa,xb)∈fP L3 L4 L5 g↔ln L4 0 g=2∧xa<gN L4 g 0∧xb<gN L4 g 1∧fZ L3 L5 (jR L3 L4 g 0 xa) (jR L3 L4 g 1 xb)=true:=by
 unfold fP
 split
 ·rename_i h
  unfold zp
  rw[List.mem_filter,zhx];constructor
  ·rintro⟨⟨h1,h2⟩,h3⟩;exact⟨h,h1,h2,h3⟩
  ·rintro⟨_,h1,h2,h3⟩;exact⟨⟨h1,h2⟩,h3⟩
 ·rename_i h
  constructor
  ·intro h1;cases h1
  ·rintro⟨h1,_⟩;exact absurd h1 h
theorem fP_at {L3 L4 L5:List (List D)} {g k:Nat} (hk:k<(fP L3 L4 L5 g).length) {xa xb:Nat} (he:(fP L3 L4 L5 g).getD k (0,0)=(xa,xb)):ln L4 0 g=2∧xa<gN L4 g 0∧xb<gN L4 g 1:=by
 have:(xa,xb)∈fP L3 L4 L5 g:=by
  rw[← he,List.getD_eq_getElem?_getD,List.getElem?_eq_getElem hk];exact List.getElem_mem hk
 obtain⟨h1,h2,h3,_⟩:=zi9.1 this;exact⟨h1,h2,h3⟩
theorem fP_few {L1 L2 L3 L4 L5:List (List D)} {p:Int} (h:zb2 L1 L2 L3 L4 L5 p=none) {g:Nat} (hg:g<L4.length):(fP L3 L4 L5 g).length≤1000000:=by
 unfold fP
 split
 ·rename_i h2
  obtain⟨_,hr⟩:=ring_parts h hg;have h3:=(hr 0 (by omega)).1;have h4:=(hr 1 (by omega)).1;have h5:=zi6 (fun a b=>fZ L3 L5 (jR L3 L4 g 0 a) (jR L3 L4 g 1 b)) (prA (gN L4 g 1) (gN L4 g 0));rw[zcW]at h5;have:gN L4 g 0 * gN L4 g 1≤4 * 4:=Nat.mul_le_mul h3 h4;omega
 ·simp
theorem fP_found {L1 L2 L3 L4 L5:List (List D)} {p:Int} (h:zb2 L1 L2 L3 L4 L5 p=none) {f:Nat} (hf:f<L5.length) {g:Nat} (hg:g<L4.length) (h2:ln L4 0 g=2) {a b:Nat} (ha:a<gN L4 g 0) (hb:b<gN L4 g 1):
  (gH L4 g 0 a=V.tn L3 (hI L3 (V.tn L5 f)).toNat→gH L4 g 1 b=V.tn L3 (hI L3 (un L5 f)).toNat→anB (eF (gH L4 g 0) (gH L4 g 1) (fP L3 L4 L5 g) (V.tn L3 (hI L3 (V.tn L5 f)).toNat) (V.tn L3 (hI L3 (un L5 f)).toNat)) (fP L3 L4 L5 g).length=true)∧
  (gH L4 g 0 a=V.tn L3 (hI L3 (un L5 f)).toNat→gH L4 g 1 b=V.tn L3 (hI L3 (V.tn L5 f)).toNat→anB (eF (gH L4 g 0) (gH L4 g 1) (fP L3 L4 L5 g) (V.tn L3 (hI L3 (un L5 f)).toNat) (V.tn L3 (hI L3 (V.tn L5 f)).toNat)) (fP L3 L4 L5 g).length=true):=by
 obtain⟨⟨m1,e1,l1,c1⟩,m2,e2,l2,c2⟩:=foe_home h hf;have hp:=(zaN h).2.2.1;rw[e1,e2,Int.toNat_natCast,Int.toNat_natCast];have key:∀ P Q:List UInt8,gH L4 g 0 a=P→gH L4 g 1 b=Q→fZ L3 L5 (jR L3 L4 g 0 a) (jR L3 L4 g 1 b)=true→anB (eF (gH L4 g 0) (gH L4 g 1) (fP L3 L4 L5 g) P Q) (fP L3 L4 L5 g).length=true:=fun P Q hP hQ hz=>by
  obtain⟨k,hk,he⟩:=List.getElem_of_mem (zi9.2 ⟨h2,ha,hb,hz⟩);refine zi7 (j:=k) ?_ _ hk;unfold eF
  rw[List.getD_eq_getElem?_getD,List.getElem?_eq_getElem hk,he];simp[hP,hQ]
 have jr:∀ r c k,gH L4 g r c=V.tn L3 k→k<L3.length→jR L3 L4 g r c=k:=fun r c k e hk=>by
  unfold jR
  rw[e,zhE hp hk,Int.toNat_natCast]
 refine⟨fun hA hB=>key _ _ hA hB ?_,fun hA hB=>key _ _ hA hB ?_⟩
 ·rw[jr 0 a m1 hA l1,jr 1 b m2 hB l2];unfold fZ
  rw[decide_eq_true_eq,zaU];exact⟨f,Nat.zero_le _,by omega,by rw[c1,c2];rfl⟩
 ·rw[jr 0 a m2 hA l2,jr 1 b m1 hB l1];unfold fZ
  rw[decide_eq_true_eq,zaU];exact⟨f,Nat.zero_le _,by omega,by rw[c1,c2];simp⟩
end Nj
namespace Nj
open S V
def vA:Value→Option Addr
 | .slice a _ _=>a
 | _=>none
def vC:Value→Nat
 | .slice _ _ c=>c
 | _=>0
theorem znZ {w:World} {B:Nat} {e:TypeId} {z n:Nat} {v:Value} {xs:List Value} (h:w.ownsRow B e z v n xs):v= .slice (vA v) n (vC v):=by
 obtain⟨a,c,rfl⟩:=zbA h
 rfl
theorem zcF {w:World} {B n:Nat} {a:Option Addr} {c:Nat} {G:Nat→List UInt8} (h:w.ownsRow B 9 1 (.slice a n c) n (ss G n)):∀ k,k<n→∃ ad,a=some ad∧w.cell? (ad.add k)=some (.string (sv (G k))):=fun k hk=>by
 obtain⟨g,cap,e,hg,hb,hc,hx⟩:=Nd.own_cell h (by omega);injection e with e1 e2 e3
 subst e1;exact⟨_,rfl,by rw[W.add_pl,Nat.zero_add];exact hx _ _ (zoW G hk)⟩
theorem zdr {w:World} {x5:Option Addr} {c5:Nat} {L5:List (List D)} (q5:∀ ds∈L5,ShL zkW ds) (m5:Rvss w x5 3 L5 0) (b5:L5.length≤maxLen) {B B' n n':Nat} {u u':Value} {G G':Nat→List UInt8} (hn:n≤1000) (hn':n'≤1000) (h:w.ownsRow B 9 1 u n (ss G n)) (h':w.ownsRow B' 9 1 u' n' (ss G' n')):
  Calls Tryz.prog 63 #[.slice x5 L5.length c5,.slice (vA u) n (vC u),.slice (vA u') n' (vC u')] w fun e w'=>e= .returned (.bool (decide (0≤ix (fun k=>decide (0≤ix (fun j=>V.tn L5 k==G j) 0 n)&&decide (0≤ix (fun j=>un L5 k==G' j) 0 n') || decide (0≤ix (fun j=>un L5 k==G j) 0 n)&&decide (0≤ix (fun j=>V.tn L5 k==G' j) 0 n')) 0 L5.length)))∧Keep w w':=by
 rw[znZ h]at h;rw[znZ h']at h';have b5':L5.length≤9223372036854775807:=b5;exact Nd.areFoes_core x5 L5.length c5 (V.tn L5) (un L5) (iv L5 2) (vA u) n (vC u) (vA u') n' (vC u') _ _ _ _ w b5' (hide fun k hk=>S.clFoe (Keep.refl w) q5 m5 k hk) (hide fun k hk w' kw=>
  ⟨za2 _ _ _ G _ w' (by omega) (hide (zcF (own_k h kw))),za2 _ _ _ G' _ w' (by omega) (hide (zcF (own_k h' kw))),za2 _ _ _ G _ w' (by omega) (hide (zcF (own_k h kw))),za2 _ _ _ G' _ w' (by omega) (hide (zcF (own_k h' kw)))⟩)
set_option maxHeartbeats 1000000 in
theorem jobs_tree {w:World} {s:ByteArray} {x1:Option Addr} {c1:Nat} {x2:Option Addr} {n2 c2:Nat} {x3:Option Addr} {c3:Nat} {x4:Option Addr} {c4:Nat} {x5:Option Addr} {c5:Nat} {p pp:Int} {L1 L2 L3 L4 L5:List (List D)} (q1:∀ ds∈L1,ShL zcs ds) (m1:Rvss w x1 11 L1 0) (q3:∀ ds∈L3,ShL zba ds) (m3:Rvss w x3 3 L3 0) (q4:∀ ds∈L4,ShL zbH ds) (m4:Rvss w x4 1 L4 0) (q5:∀ ds∈L5,ShL zkW ds) (m5:Rvss w x5 3 L5 0) (h:zb2 L1 L2 L3 L4 L5 pp=none) (q:Nat)
  (hz:∀ k,k<L3.length→q<w.heap.size∧w.cell? ⟨q,k,none⟩=some (.int .i64 0)):
  Calls Tryz.prog 7 #[.agg #[.string s,.slice x1 L1.length c1,.slice x2 n2 c2,.slice x3 L3.length c3,.slice x4 L4.length c4,.slice x5 L5.length c5,.int .i64 p],.slice (some ⟨q,0,none⟩) L3.length L3.length] w (Jsq L4.length (fP L3 L4 L5) w):=by
 obtain⟨l1,l2,l3,l4,l5,_⟩:=Nd.cn_le (zaN h).1;have b1:L1.length≤maxLen:=by unfold maxLen;omega
 have b3:L3.length≤maxLen:=by unfold maxLen;omega
 have b5:L5.length≤maxLen:=by unfold maxLen;omega
 refine zhC s x1 L1.length c1 x2 n2 c2 x3 L3.length c3 x4 L4.length c4 x5 L5.length c5 p (some ⟨q,0,none⟩) L3.length (sA w x4 1 0) (ln L4 0) (sC w x4 1 0) (fP L3 L4 L5) w (by omega) (hide fun g hg=>?_) (hide fun g hg w1 k1=>?_)
 ·obtain⟨ad,e,hb,h0⟩:=S.clGroup (Keep.refl w) q4 m4 g hg;rw[(S.rsGroup q4 m4 g hg).1]at h0;exact⟨ad,e,hb,h0⟩
 obtain⟨gr2,hring⟩:=ring_parts h hg;obtain⟨r1,r2,r3,r4⟩:=S.rsGroup q4 m4 g hg;have nms:∀ w',Keep w w'→∀ r,r<ln L4 0 g→∀ k,k<gN L4 g r→∃ ad,sA w (sA w x4 1 0 g) 2 1 r=some ad∧ad.block<w'.heap.size∧w'.cell? (ad.add k)=some (.string (sv (gH L4 g r k))):=fun w' kw r hr k hk=>by
  obtain⟨t1,t2,t3,t4⟩:=S.rsRow r4 r3 r hr;obtain⟨ad,e,hb,h0,_⟩:=V.clName t4 t3 k hk;exact⟨ad,e,Nat.lt_of_lt_of_le hb kw.size,V.far_cell kw (by rw[V.add_block9];exact hb) h0⟩
 have hjr:∀ r,r<ln L4 0 g→∀ k,k<gN L4 g r→jR L3 L4 g r k<L3.length∧((jR L3 L4 g r k:Nat):Int)=nI L3 (gH L4 g r k):=fun r hr k hk=>by
  obtain⟨j,hj,_,e⟩:=(hring r hr).2 k hk;unfold jR
  rw[e,Int.toNat_natCast];exact⟨hj,rfl⟩
 have tph:∀ w',Keep w w'→∀ r,r<ln L4 0 g→∀ k,k<gN L4 g r→Calls Tryz.prog 61 #[.agg #[.string s,.slice x1 L1.length c1,.slice x2 n2 c2,.slice x3 L3.length c3,.slice x4 L4.length c4,.slice x5 L5.length c5,.int .i64 p],.string (sv (gH L4 g r k))] w' fun e w''=>e= .returned (.int .i64 (jR L3 L4 g r k:Int))∧Keep w' w'':=fun w' kw r hr k hk=>by
  rw[(hjr r hr k hk).2];exact zh6 _ q3 (Rvss.keep kw _ _ _ _ m3) b3
 refine zf3 s x1 L1.length c1 x2 n2 c2 x3 L3.length c3 x4 L4.length c4 x5 L5.length c5 p (sA w x4 1 0 g) (ln L4 0 g) (sC w x4 1 0 g) (some ⟨q,0,none⟩) L3.length (fun r=>fB (S.gt ((sub L4 0 g).getD r []) 0)) (fun r=>sA w (sA w x4 1 0 g) 2 1 r) (gN L4 g) (fun r=>sC w (sA w x4 1 0 g) 2 1 r) (fun r a=>ln L3 1 (jR L3 L4 g r a)) (fun r a=>sb L3 1 (jR L3 L4 g r a)) (fP L3 L4 L5 g) w1 (by omega) (hide fun r hr=>?_) (hide fun r hr w2 k2=>?_) (hide fun r hr w2 k2=>?_) (hide fun h2 w2 T1 T2 k2 hs1 hs2=>?_) (hide fun h2=>by unfold fP;exact if_neg h2)
 ·obtain⟨ad,e,hb,h0,h1⟩:=S.clRow k1 r4 r3 r hr;rw[(S.rsRow r4 r3 r hr).1]at h1;exact⟨ad,e,Nat.lt_of_lt_of_le hb k1.size,h0,h1⟩
 ·have kw:=k1.trans k2;exact Nd.timesOf_core s x1 L1.length c1 x2 n2 c2 x3 L3.length c3 x4 L4.length c4 x5 L5.length c5 p _ _ (gN L4 g r) _ (some ⟨q,0,none⟩) L3.length (gH L4 g r) (fun k=>(jR L3 L4 g r k:Int)) (fun _=>0) w2 (by have:=(hring r hr).1;omega) (hide fun k hk=>nms w2 kw r hr k hk) (hide fun k hk=>⟨⟨q,0,none⟩,rfl,Nat.lt_of_lt_of_le (hz k hk).1 kw.size,by rw[W.add_pl,Nat.zero_add];exact V.far_cell kw (hz k hk).1 (hz k hk).2⟩) (hide fun k hk=>by have:=(hjr r hr k hk).1;omega) (hide fun k hk w3 k3=>tph w3 (kw.trans k3) r hr k hk)
 ·have kw:=k1.trans k2;exact zd3 s x1 L1.length c1 x2 n2 c2 x3 L3.length c3 x4 L4.length c4 x5 L5.length c5 p _ _ (gN L4 g r) _ (gH L4 g r) (jR L3 L4 g r) (sA w x3 3 1) (ln L3 1) (sC w x3 3 1) (V.tn L3) (iv L3 2) (sb L3 1) (fun m o=>nI L1 (sb L3 1 m o)) w2 (by have:=(hring r hr).1;omega) (hide fun k hk=>nms w2 kw r hr k hk) (hide fun k hk=>(hjr r hr k hk).1)
   (hide fun m hm=>by
    obtain⟨ad,e,hb,h0,h1,h2⟩:=S.clPhase kw q3 m3 m hm;rw[(S.rsPhase q3 m3 m hm).1]at h1;exact⟨ad,e,Nat.lt_of_lt_of_le hb kw.size,h0,h1,h2⟩)
   (hide fun m hm=>zcX h hm)
   (hide fun m hm o ho=>by
    obtain⟨t1,t2,t3,t4⟩:=S.rsPhase q3 m3 m hm;obtain⟨ad,e,hb,h0,_⟩:=V.clName t4 t3 o ho;exact⟨ad,e,Nat.lt_of_lt_of_le hb kw.size,V.far_cell kw (by rw[V.add_block9];exact hb) h0⟩)
   (hide fun k hk w3 k3=>tph w3 (kw.trans k3) r hr k hk)
   (hide fun m hm o ho=>⟨by have:=(Nd.j_ok h hm ho).2;omega,fun w3 k3=>zdv _ q1 (Rvss.keep (kw.trans k3) _ _ _ _ m1) b1⟩)
 ·have kw:=k1.trans k2;obtain⟨us,hl,hT,hr⟩:=hs1;obtain⟨us',hl',hT',hr'⟩:=hs2;have e:fP L3 L4 L5 g=zp (fun a b=>fZ L3 L5 (jR L3 L4 g 0 a) (jR L3 L4 g 1 b)) (prA (gN L4 g 1) (gN L4 g 0)):=if_pos h2;rw[e];have n0:=(hring 0 (by omega)).1;have n1:=(hring 1 (by omega)).1;exact zf2 x5 L5.length c5 T1 T2 (gN L4 g 0) (gN L4 g 1) (fun a=>vA (us.getD a undef)) (fun b=>vA (us'.getD b undef)) (fun a=>ln L3 1 (jR L3 L4 g 0 a)) (fun a=>vC (us.getD a undef)) (fun b=>ln L3 1 (jR L3 L4 g 1 b)) (fun b=>vC (us'.getD b undef)) (fun a b=>fZ L3 L5 (jR L3 L4 g 0 a) (jR L3 L4 g 1 b)) w2 (by omega) (by omega)
   (hide ⟨hT.lt,fun a ha=>(hT.cell (by omega)).trans (by rw[← znZ (hr a ha)])⟩) (hide ⟨hT'.lt,fun b hb=>(hT'.cell (by omega)).trans (by rw[← znZ (hr' b hb)])⟩)
   (hide fun a ha b hb w3 k3=>zdr q5 (Rvss.keep (kw.trans k3) _ _ _ _ m5) b5 (zcX h (hjr 0 (by omega) a ha).1) (zcX h (hjr 1 (by omega) b hb).1) (own_k (hr a ha) k3) (own_k (hr' b hb) k3))
end Nj
end Go.Proofs.YtpmaonkelkmhbaaGreat
