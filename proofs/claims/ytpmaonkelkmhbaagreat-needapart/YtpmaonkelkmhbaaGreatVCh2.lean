/- Package valid: a node, by its tree. -/
import Derived.Test.YtpmaonkelkmhbaaGreatVFew
import Derived.Test.YtpmaonkelkmhbaaGreatVNs
import Derived.Test.YtpmaonkelkmhbaaGreatVSt
import Derived.Test.YtpmaonkelkmhbaaGreatLFact
import Derived.Test.YtpmaonkelkmhbaaGreatLOpn
import Derived.Test.YtpmaonkelkmhbaaGreatVHd
import Derived.LoopTactic
import Derived.Defers
import Derived.Recover
import Derived.Deep.DrawnRows
import Derived.Deep.RegionHeld3
import Derived.Test.YtpmaonkelkmhbaaGreatLSkip
namespace Go.Proofs.YtpmaonkelkmhbaaGreat
open Go.RowKit
set_option linter.unusedVariables false
set_option linter.unusedSimpArgs false
set_option maxRecDepth 10000
namespace V
open S
def tn (L:List (List D)) (k:Nat):List UInt8:=tS (S.gt (L.getD k []) 0)
def un (L:List (List D)) (k:Nat):List UInt8:=tS (S.gt (L.getD k []) 1)
def iv (L:List (List D)) (j k:Nat):Int:=fI (S.gt (L.getD k []) j)
def sub (L:List (List D)) (j k:Nat):List (List D):=fL (S.gt (L.getD k []) j)
def ln (L:List (List D)) (j k:Nat):Nat:=(sub L j k).length
def sb (L:List (List D)) (j k m:Nat):List UInt8:=tn (sub L j k) m
theorem zaR {L:List (List D)} {k:Nat} (hk:k<L.length):L.getD k []∈L:=by rw[List.getD_eq_getElem?_getD,List.getElem?_eq_getElem hk];exact List.getElem_mem hk
theorem nm0 {ts:List Ty} {ds:List D} (h:ShL (.s :: ts) ds):(tS (gt ds 0)).length≤maxLen:=by
 simp only[ShL,Sh1]at h;obtain⟨_,_,rfl,⟨l,rfl,hl⟩,_⟩:=h;exact hl
theorem nm1 {t:Ty} {ts:List Ty} {ds:List D} (h:ShL (t :: .s :: ts) ds):(tS (gt ds 1)).length≤maxLen:=by
 simp only[ShL,Sh1]at h;obtain⟨_,_,rfl,_,⟨_,_,rfl,⟨l,rfl,hl⟩,_⟩⟩:=h;exact hl
theorem clName {w:World} {a:Option Addr} {L:List (List D)} (hL:∀ ds∈L,ShL zdP ds) (HA:Rvss w a 1 L 0) (k:Nat) (hk:k<L.length):∃ ad,a=some ad∧ad.block<w.heap.size∧w.cell? (ad.add k)=some (.string (sv (tn L k)))∧(tn L k).length≤maxLen:=by
 obtain⟨ad,us,rfl,hb,h1,h2,h3⟩:=zaI L 0 HA k hk;have hs:=hL _ (zaR hk);unfold tn
 generalize L.getD k []=ds at h1 hs ⊢;simp only[ShL,Sh1,zdP]at hs;obtain⟨_,_,rfl,⟨s0,rfl,hl⟩,rfl⟩:=hs;simp only[Rvs,Rv,dS]at h1;obtain⟨_,_,rfl,rfl,rfl⟩:=h1;have:=h3 0 _ rfl;rw[Nat.zero_add,Nat.mul_one]at this;exact⟨ad,rfl,hb,this,hl⟩
def hdE (L:List (List D)):Eq2:=fE (hdF (tn L) (fun k=>zbs (iv L 1 k) (iv L 2 k) (iv L 3 k) (iv L 4 k) (iv L 5 k) (iv L 6 k) (iv L 7 k) (iv L 8 k) (iv L 9 k)) (iv L 10)) 0 L.length
theorem zgE {w:World} {a:Option Addr} {cap:Nat} {L:List (List D)} (hL:∀ ds∈L,ShL zcs ds) (HA:Rvss w a 11 L 0) (hn:L.length≤maxLen):Calls Tryz.prog 93 #[.slice a L.length cap] w (Hq (hdE L) (mk (tn L) L.length) w):=
 zfu a L.length cap (tn L) (iv L 1) (iv L 2) (iv L 3) (iv L 4) (iv L 5) (iv L 6) (iv L 7) (iv L 8) (iv L 9) (iv L 10) _ w hn (hide fun k hk=>nm0 (hL _ (zaR hk))) (hide fun k hk=>clHead (Keep.refl w) hL HA k hk) (hide rfl)
def wkE (L:List (List D)) (MP:List (List UInt8×Int)):Eq2:=fE (wkF (tn L) (un L) MP (iv L 2) (iv L 3) (iv L 4) (iv L 5)) 0 L.length
theorem zgF {w:World} {a:Option Addr} {cap bp:Nat} {L:List (List D)} {MP:List (List UInt8×Int)} (hL:∀ ds∈L,ShL zlL ds) (HA:Rvss w a 6 L 0) (hn:L.length≤maxLen) (hM:Mp w bp MP):Calls Tryz.prog 95 #[.slice a L.length cap,.map (some bp)] w (Nq (wkE L MP) w):=
 zfv a L.length cap bp (tn L) (un L) MP (iv L 2) (iv L 3) (iv L 4) (iv L 5) _ w hn (hide hM) (hide fun k hk=>⟨nm0 (hL _ (zaR hk)),nm1 (hL _ (zaR hk))⟩) (hide fun k hk=>clPed (Keep.refl w) hL HA k hk) (hide rfl)
def foE (L:List (List D)) (M:List (List UInt8×Int)):Eq2:=fE (foF (tn L) (un L) M (iv L 2)) 0 L.length
theorem zdr {w:World} {a:Option Addr} {cap bp:Nat} {L:List (List D)} {M:List (List UInt8×Int)} (hL:∀ ds∈L,ShL zkW ds) (HA:Rvss w a 3 L 0) (hn:L.length≤maxLen) (hM:Mp w bp M):Calls Tryz.prog 97 #[.slice a L.length cap,.map (some bp)] w (Nq (foE L M) w):=
 zgC a L.length cap bp (tn L) (un L) M (iv L 2) _ w hn (hide hM) (hide fun k hk=>⟨nm0 (hL _ (zaR hk)),nm1 (hL _ (zaR hk))⟩) (hide fun k hk=>clFoe (Keep.refl w) hL HA k hk) (hide rfl)
theorem zcR {w:World} {a:Option Addr} {L:List (List D)} (hL:∀ ds∈L,ShL zba ds) (k:Nat) (hk:k<L.length):ln L 1 k≤maxLen:=by
 have hs:=hL _ (zaR hk);unfold ln sub
 generalize L.getD k []=ds at hs ⊢;simp only[ShL,Sh1,zba]at hs;obtain⟨_,_,rfl,_,⟨_,_,rfl,⟨L1,rfl,hl,_⟩,_⟩⟩:=hs;exact hl
def phE (L:List (List D)) (MH:List (List UInt8×Int)):Eq2:=fE (phF (tn L) (ln L 1) (sb L 1) MH (iv L 2)) 0 L.length
theorem zfy {w:World} {a:Option Addr} {cap bp:Nat} {L:List (List D)} {MH:List (List UInt8×Int)} (hL:∀ ds∈L,ShL zba ds) (HA:Rvss w a 3 L 0) (hn:L.length≤maxLen) (hMH:MH.length≤maxLen) (hM:Mp w bp MH):
  Calls Tryz.prog 94 #[.slice a L.length cap,.map (some bp)] w (Hq2 (phE L MH) (mk (tn L) L.length) (hmL (ln L 1) (sb L 1) L.length) w):=by
 refine zef a L.length cap bp (tn L) (sA w a 3 1) (ln L 1) (sC w a 3 1) (sb L 1) MH (iv L 2) _ w hn hMH (hide hM) (hide fun k hk=>nm0 (hL _ (zaR hk))) (hide fun k hk=>zcR (w:=w) (a:=a) hL k hk) (hide fun k hk=>?_) (hide fun i hi k hk=>?_) (hide rfl)
 ·obtain⟨ad,e,hb,h0,h1,h2⟩:=clPhase (Keep.refl w) hL HA k hk;rw[(rsPhase hL HA k hk).1]at h1;exact⟨ad,e,hb,h0,h1,h2⟩
 ·obtain⟨r1,r2,r3,r4⟩:=rsPhase hL HA i hi;exact clName r4 r3 k hk
end V
namespace V
open S
def gN (L:List (List D)) (i j:Nat):Nat:=ln (sub L 0 i) 1 j
def gH (L:List (List D)) (i j m:Nat):List UInt8:=sb (sub L 0 i) 1 j m
theorem zgG {L:List (List D)} (hL:∀ ds∈L,ShL zbH ds) (k:Nat) (hk:k<L.length):ln L 0 k≤maxLen:=by
 have hs:=hL _ (zaR hk);unfold ln sub
 generalize L.getD k []=ds at hs ⊢;simp only[ShL,Sh1,zbH]at hs;obtain⟨_,_,rfl,⟨L1,rfl,hl,_⟩,_⟩:=hs;exact hl
theorem zeh {L:List (List D)} (hL:∀ ds∈L,ShL ziR ds) (k:Nat) (hk:k<L.length):ln L 1 k≤maxLen:=by
 have hs:=hL _ (zaR hk);unfold ln sub
 generalize L.getD k []=ds at hs ⊢;simp only[ShL,Sh1,ziR]at hs;obtain⟨_,_,rfl,_,⟨_,_,rfl,⟨L1,rfl,hl,_⟩,_⟩⟩:=hs;exact hl
def grE (L:List (List D)) (MP:List (List UInt8×Int)) (p:Int):Eq2:=fE (grF (ln L 0) (gN L) (gH L) MP p) 0 L.length
theorem zfz {w:World} {s:ByteArray} {x1:Option Addr} {n1 c1:Nat} {x2:Option Addr} {n2 c2:Nat} {x3:Option Addr} {n3 c3:Nat} {a:Option Addr} {c4:Nat} {x5:Option Addr} {n5 c5:Nat} {p:Int} {bp:Nat} {L:List (List D)} {MP:List (List UInt8×Int)}
  (hL:∀ ds∈L,ShL zbH ds) (HA:Rvss w a 1 L 0) (hn:L.length≤maxLen) (hMP:MP.length≤maxLen) (hM:Mp w bp MP):
  Calls Tryz.prog 96 #[.agg #[.string s,.slice x1 n1 c1,.slice x2 n2 c2,.slice x3 n3 c3,.slice a L.length c4,.slice x5 n5 c5,.int .i64 p],.map (some bp)] w (Hq (grE L MP p) (rgG (ln L 0) (gN L) (gH L) L.length) w):=by
 refine zeg s x1 n1 c1 x2 n2 c2 x3 n3 c3 a L.length c4 x5 n5 c5 p bp (sA w a 1 0) (ln L 0) (sC w a 1 0) (fun i j=>fB (S.gt ((sub L 0 i).getD j []) 0)) (fun i j=>sA w (sA w a 1 0 i) 2 1 j) (gN L) (fun i j=>sC w (sA w a 1 0 i) 2 1 j) (gH L) MP _ w hn hMP (hide hM) (hide fun i hi=>⟨zgG hL i hi,fun j hj=>?_⟩) (hide fun i hi=>?_) (hide fun i hi j hj=>?_) (hide fun i hi j hj m hm=>?_) (hide rfl)
 ·obtain⟨r1,r2,r3,r4⟩:=rsGroup hL HA i hi;exact zeh r4 j hj
 ·obtain⟨ad,e,hb,h0⟩:=clGroup (Keep.refl w) hL HA i hi;rw[(rsGroup hL HA i hi).1]at h0;exact⟨ad,e,hb,h0⟩
 ·obtain⟨r1,r2,r3,r4⟩:=rsGroup hL HA i hi;obtain⟨ad,e,hb,h0,h1⟩:=clRow (Keep.refl w) r4 r3 j hj;rw[(rsRow r4 r3 j hj).1]at h1;exact⟨ad,e,hb,h0,h1⟩
 ·obtain⟨r1,r2,r3,r4⟩:=rsGroup hL HA i hi;obtain⟨t1,t2,t3,t4⟩:=rsRow r4 r3 j hj;exact clName t4 t3 m hm
def zb2 (L1 L2 L3 L4 L5:List (List D)) (p:Int):Eq2:=
 ors [(cnE L1.length L2.length L3.length L4.length L5.length).map (fun c=>(c,p)),hdE L1,phE L3 (mk (tn L1) L1.length),fE (ltF (hmL (ln L3 1) (sb L3 1) L3.length) (tn L1) 73 (iv L1 10)) 0 L1.length,
  wkE L2 (mk (tn L3) L3.length),grE L4 (mk (tn L3) L3.length) p,fE (ltF (rgG (ln L4 0) (gN L4) (gH L4) L4.length) (tn L3) 74 (iv L3 2)) 0 L3.length,foE L5 (hmL (ln L3 1) (sb L3 1) L3.length)]
def zei (ds:List D):Eq2:=zb2 (fL (gt ds 1)) (fL (gt ds 2)) (fL (gt ds 3)) (fL (gt ds 4)) (fL (gt ds 5)) (fI (gt ds 6))
set_option maxHeartbeats 1000000 in
theorem zcv {w:World} {ds:List D} {us:List Value} (hs:ShL za5 ds) (hr:Rvs w ds us):Calls Tryz.prog 74 #[.agg us.toArray] w (Nq (zei ds) w):=by
 simp only[ShL,Sh1,za5]at hs;obtain⟨_,_,rfl,⟨s0,rfl,_⟩,⟨_,_,rfl,⟨L1,rfl,b1,q1⟩,⟨_,_,rfl,⟨L2,rfl,b2,q2⟩,⟨_,_,rfl,⟨L3,rfl,b3,q3⟩,⟨_,_,rfl,⟨L4,rfl,b4,q4⟩,⟨_,_,rfl,⟨L5,rfl,b5,q5⟩,⟨_,_,rfl,⟨v6,rfl,_,_⟩,rfl⟩⟩⟩⟩⟩⟩⟩:=hs;simp only[Rvs,Rv,dS,dI,dB]at hr;obtain⟨_,_,rfl,rfl,⟨_,_,rfl,⟨x1,z1,rfl,y1,m1⟩,⟨_,_,rfl,⟨x2,z2,rfl,y2,m2⟩,⟨_,_,rfl,⟨x3,z3,rfl,y3,m3⟩,⟨_,_,rfl,⟨x4,z4,rfl,y4,m4⟩,⟨_,_,rfl,⟨x5,z5,rfl,y5,m5⟩,⟨_,_,rfl,rfl,rfl⟩⟩⟩⟩⟩⟩⟩:=hr;show Calls _ _ #[.agg #[.string (sv s0),.slice x1 L1.length z1,.slice x2 L2.length z2,.slice x3 L3.length z3,.slice x4 L4.length z4,.slice x5 L5.length z5,.int .i64 v6]] w (Nq (zb2 L1 L2 L3 L4 L5 v6) w);refine zgD (sv s0) x1 L1.length z1 x2 L2.length z2 x3 L3.length z3 x4 L4.length z4 x5 L5.length z5 v6 (tn L1) (iv L1 1) (iv L1 2) (iv L1 3) (iv L1 4) (iv L1 5) (iv L1 6) (iv L1 7) (iv L1 8) (iv L1 9) (iv L1 10) (tn L3) (sA w x3 3 1) (sN w x3 3 1) (sC w x3 3 1) (iv L3 2)
  (mk (tn L1) L1.length) (mk (tn L3) L3.length) (hmL (ln L3 1) (sb L3 1) L3.length) (rgG (ln L4 0) (gN L4) (gH L4) L4.length) (cnE L1.length L2.length L3.length L4.length L5.length) (hdE L1) (phE L3 (mk (tn L1) L1.length)) (wkE L2 (mk (tn L3) L3.length)) (grE L4 (mk (tn L3) L3.length) v6) (foE L5 (hmL (ln L3 1) (sb L3 1) L3.length)) _ w
  b1 b3 (hide fun k hk=>nm0 (q1 _ (zaR hk))) (hide fun k hk=>nm0 (q3 _ (zaR hk))) (hide fun k hk=>clHead (Keep.refl w) q1 m1 k hk) (hide fun k hk=>clPhase (Keep.refl w) q3 m3 k hk)
  (hide fun w' k=>zee _ _ _ _ _ _ _ _ _ _ _ _ _ _ _ _ _ w' _ (hide rfl)) (hide fun w' k=>zgE q1 (Rvss.keep k _ _ _ _ m1) b1) (hide fun w' b k hM=>zfy q3 (Rvss.keep k _ _ _ _ m3) b3 (by rw[zbZ];exact b1) hM)
  (hide fun w' b k hM=>zgF q2 (Rvss.keep k _ _ _ _ m2) b2 hM) (hide fun w' b k hM=>zfz q4 (Rvss.keep k _ _ _ _ m4) b4 (by rw[zbZ];exact b3) hM) (hide fun w' b k hM=>zdr q5 (Rvss.keep k _ _ _ _ m5) b5 hM) (hide rfl)
end V
end Go.Proofs.YtpmaonkelkmhbaaGreat
namespace Go.Proofs.YtpmaonkelkmhbaaGreat
open Go.RowKit
attribute [local go_sem ↓] Go.wp_at_zero Go.wp_at_succ
set_option linter.unusedVariables false
set_option linter.unusedSimpArgs false
set_option maxRecDepth 10000
set_option maxHeartbeats 4000000 in
theorem zgH (w:World):Calls Tryz.prog 90 #[] w fun e w'=>e= .returned (.slice (some ⟨w.heap.size,0,none⟩) 42 42)∧w'=w.alloc (.cells ((words.map fun x=>Value.string (sv x)).toArray) 9):=by
 go_enter Tryz.func90,Tryz.ntmps90;go_wp2_with fail
 go_ret;exact⟨rfl,rfl⟩
set_option maxHeartbeats 4000000 in
theorem zk1 (s:ByteArray) (ad:Addr) (n cap:Nat) (X:Nat→ByteArray) (B:Nat→Bool) (r:Bool) (w:World) (hn:n≤100000)
  (HC:Hid (∀ k,k<n→w.cell? (ad.add k)=some (.string (X k))))
  (HB:Hid (∀ k,k<n→((X k).toList==s.toList)=B k))
  (H1:Hid (∀ k,k<n→B k=true→r=true))
  (H2:Hid ((∀ k,k<n→B k=false)→r=false)):
  Calls Tryz.prog 20 #[.string s,.slice (some ad) n cap] w fun e w'=>e= .returned (.bool r)∧w'=w:=by
 go_enter Tryz.func20,Tryz.ntmps20;go_wp2_with fail
 go_loop [5] (fun vi=>∃ k:Nat,k≤n∧vi= .int .i64 (k:Int)∧Hid (∀ j,j<k→B j=false)) (fun vi=>n - (intOf vi).toNat)
 case atStart=>exact⟨0,Nat.zero_le _,rfl,hide fun j hj=>by omega⟩
 case round=>
  obtain⟨k,hk,rfl,HN⟩:=hrel;by_cases hlt:k<n
  ·have li:(k:Int)<(n:Int):=by omega
   have ck:=(uq HC) k hlt;have hb:=(uq HB) k hlt;have HQ:=hide ((uq H1) k hlt);generalize X k=x at *;obtain⟨b,hbk⟩:∃ b,B k=b:=⟨_,rfl⟩;rw[hbk]at hb;have HBK:=hide hbk;clear hbk;cases b with
   |true=>
    have hr:=(uq HQ) (uq HBK);subst hr;go_wp2_with fail
    go_ret;exact⟨rfl,rfl⟩
   |false=>
    go_wp2_with fail
    exact⟨⟨k+1,hlt,by go_num,hide fun j hj=>(Nat.lt_succ_iff_lt_or_eq.1 hj).elim ((uq HN) j) (fun e=>e▸uq HBK)⟩,by simp[intOf];omega⟩
  ·have hr:=(uq H2) (fun j hj=>(uq HN) j (by omega));subst hr;go_wp2_with fail
   go_ret;exact⟨rfl,rfl⟩
theorem zej (l:List UInt8):(sv l).toList=l:=ByteArray.toList_mk l
theorem zhZ (s:ByteArray) (g:Nat) (w:World) (HC:∀ k,k<42→w.cell? ⟨g,k,none⟩=some (.string (sv (words.getD k [])))):
  Calls Tryz.prog 20 #[.string s,.slice (some ⟨g,0,none⟩) 42 42] w fun e w'=>e= .returned (.bool (decide (s.toList∈words)))∧w'=w:=by
 refine zk1 s ⟨g,0,none⟩ 42 42 (fun k=>sv (words.getD k [])) (fun k=>words.getD k []==s.toList) _ w (by decide) (hide fun k hk=>?_) (hide fun k hk=>by rw[zej]) (hide fun k hk hb=>?_) (hide fun h=>?_)
 ·rw[zaP,Nat.zero_add];exact HC k hk
 ·rw[decide_eq_true_iff,← eq_of_beq hb,List.getD_eq_getElem?_getD,List.getElem?_eq_getElem (show k<words.length from hk)];exact List.getElem_mem _
 ·rw[decide_eq_false_iff_not];intro hm
  obtain⟨k,hk,e⟩:=List.getElem_of_mem hm;have:=h k hk;rw[List.getD_eq_getElem?_getD,List.getElem?_eq_getElem hk,Option.getD_some,e]at this;simp at this
set_option maxHeartbeats 4000000 in
theorem zgI (s:ByteArray) (r:Bool) (w:World) (o:Obj)
  (T1:Hid (∀ w:World,Calls Tryz.prog 90 #[] w fun e w'=>e= .returned (.slice (some ⟨w.heap.size,0,none⟩) 42 42)∧w'=w.alloc o))
  (T2:Hid (∀ w:World,Calls Tryz.prog 20 #[.string s,.slice (some ⟨w.heap.size,0,none⟩) 42 42] (w.alloc o) fun e w'=>e= .returned (.bool r)∧w'=w.alloc o)):
  Calls Tryz.prog 67 #[.string s] w fun e w'=>e= .returned (.bool r)∧Keep w w':=by
 go_enter Tryz.func67,Tryz.ntmps67;go_wp2_with fail
 (refine((uq T1) _).mono ?_;rintro e w2 ⟨rfl,rfl⟩);go_wp2_with fail
 (refine((uq T2) _).mono ?_;rintro e w2 ⟨rfl,rfl⟩);go_wp2_with fail
 go_ret;exact⟨rfl,(Keep.refl w).alloc _⟩
theorem zds (s:ByteArray) (w:World):Calls Tryz.prog 67 #[.string s] w fun e w'=>e= .returned (.bool (decide (s.toList∈words)))∧Keep w w':=by
 refine zgI s _ w _ (hide fun w=>zgH w) (hide fun w=>zhZ s w.heap.size _ fun k hk=>?_);rw[World.cell?_alloc_mark,List.getElem?_toArray,List.getElem?_map,List.getD_eq_getElem?_getD,List.getElem?_eq_getElem (show k<words.length from hk)]
 rfl
end Go.Proofs.YtpmaonkelkmhbaaGreat
namespace Go.Proofs.YtpmaonkelkmhbaaGreat
open Go.RowKit
set_option linter.unusedVariables false
set_option linter.unusedSimpArgs false
set_option maxRecDepth 10000
namespace V
def ix (B:Nat→Bool):Nat→Nat→Int
 | _,0=> -1
 |k,m+1=>if B k then(k:Int)else ix B (k+1) m
theorem zb3 {B:Nat→Bool} {k n:Nat} {r:Int} (h:ix B k (n - k)=r) (hk:k<n) (hb:B k=true):r=(k:Int):=by
 rw[show n - k=(n - (k+1))+1 by omega,ix,if_pos hb]at h;exact h.symm
theorem zdt {B:Nat→Bool} {k n:Nat} {r:Int} (h:ix B k (n - k)=r) (hk:k<n) (hb:B k=false):ix B (k+1) (n - (k+1))=r:=by
 rw[show n - k=(n - (k+1))+1 by omega,ix,if_neg (by rw[hb];decide)]at h;exact h
theorem zb4 {B:Nat→Bool} {k n:Nat} {r:Int} (h:ix B k (n - k)=r) (hk:n≤k):r= -1:=by
 rw[show n - k=0 by omega]at h;exact h.symm
theorem sv_beq (a b:List UInt8):((sv a).toList==(sv b).toList)=(a==b):=by rw[zej,zej]
set_option maxHeartbeats 1000000 in
theorem clHead (t nm:List UInt8) (u1 u2 u3 u4 u5 u6 u7 u8 u9 u10:Value) (c:Nat) (w:World) (hc:w.cell? ⟨c,0,none⟩=some (.string (sv nm))) (hcl:c<w.heap.size):
  Calls Tryz.prog 81 #[.agg #[.string (sv t),u1,u2,u3,u4,u5,u6,u7,u8,u9,u10],.pointer (some ⟨c,0,none⟩)] w fun e w'=>e= .returned (.bool (t==nm))∧Keep w w':=by
 rw[← sv_beq];go_enter Tryz.func81,Tryz.ntmps81;go_wp2_with fail
 go_ret;exact⟨rfl,(Keep.refl w).alloc _⟩
set_option maxHeartbeats 1000000 in
theorem clPhase (t nm:List UInt8) (u1 u2:Value) (c:Nat) (w:World) (hc:w.cell? ⟨c,0,none⟩=some (.string (sv nm))) (hcl:c<w.heap.size):
  Calls Tryz.prog 85 #[.agg #[.string (sv t),u1,u2],.pointer (some ⟨c,0,none⟩)] w fun e w'=>e= .returned (.bool (t==nm))∧Keep w w':=by
 rw[← sv_beq];go_enter Tryz.func85,Tryz.ntmps85;go_wp2_with fail
 go_ret;exact⟨rfl,(Keep.refl w).alloc _⟩
set_option maxHeartbeats 1000000 in
theorem zfA (a:Option Addr) (n cap:Nat) (H:Nat→List UInt8) (nm:List UInt8) (r:Int) (w:World) (hn:n≤9223372036854775807)
  (HC:Hid (∀ k,k<n→∃ ad,a=some ad∧w.cell? (ad.add k)=some (.string (sv (H k))))) (HI:Hid (ix (fun k=>nm==H k) 0 n=r)):
  Calls Tryz.prog 103 #[.slice a n cap,.string (sv nm)] w fun e w'=>e= .returned (.int .i64 r)∧w'=w:=by
 go_enter Tryz.func103,Tryz.ntmps103;go_wp2_with fail
 go_loop [8] (fun vi=>∃ k:Nat,k≤n∧vi= .int .i64 (k:Int)∧Hid (ix (fun k=>nm==H k) k (n - k)=r)) (fun vi=>n - (intOf vi).toNat)
 case atStart=>exact⟨0,Nat.zero_le _,rfl,HI⟩
 case round=>
  obtain⟨k,hk,rfl,HF⟩:=hrel;by_cases hlt:k<n
  ·have li:(k:Int)<(n:Int):=by omega
   obtain⟨ad,rfl,ck⟩:=(uq HC) k hlt;have e:=sv_beq nm (H k);cases hb:(nm==H k)
   ·have HF2:=hide (zdt (uq HF) hlt hb);rw[hb]at e;clear hb HF;go_wp2_with fail
    exact⟨⟨k+1,hlt,by go_num,HF2⟩,by simp[intOf];omega⟩
   ·have hr:=zb3 (uq HF) hlt hb;rw[hb]at e;subst hr;clear hb HF;go_wp2_with fail
    go_ret;exact⟨rfl,rfl⟩
  ·have li:¬(k:Int)<(n:Int):=by omega
   have hr:=zb4 (uq HF) (by omega);subst hr;go_wp2_with fail
   go_ret;exact⟨rfl,rfl⟩
theorem zdu (B:Nat→Bool):∀ m k,ix B k m= -1∨(k:Int)≤ix B k m∧ix B k m<(k:Int)+(m:Int)
 |0,k=> .inl rfl
 |m+1,k=>by
  unfold ix
  split
  ·right;omega
  ·rcases zdu B m (k+1)with h|⟨h1,h2⟩
   ·exact .inl h
   ·right;omega
set_option maxHeartbeats 1000000 in
theorem za2 (a:Option Addr) (n cap:Nat) (H:Nat→List UInt8) (nm:List UInt8) (w:World) (hn:n≤9223372036854775807)
  (HC:Hid (∀ k,k<n→∃ ad,a=some ad∧w.cell? (ad.add k)=some (.string (sv (H k))))):
  Calls Tryz.prog 89 #[.slice a n cap,.string (sv nm)] w fun e w'=>e= .returned (.bool (decide (0≤ix (fun k=>nm==H k) 0 n)))∧w'=w:=by
 have T:=hide (zfA a n cap H nm _ w hn HC (hide rfl));generalize ix (fun k=>nm==H k) 0 n=r at T ⊢;go_enter Tryz.func89,Tryz.ntmps89;go_wp2_with fail
 (refine(uq T).mono ?_;rintro e w1 ⟨rfl,rfl⟩);go_wp2_with fail
 go_ret;exact⟨rfl,rfl⟩
set_option maxHeartbeats 2000000 in
theorem zk2 (a:Option Addr) (n cap c:Nat) (T:Nat→List UInt8) (V1 V2 V3 V4 V5 V6 V7 V8 V9 V10:Nat→Int) (B:Nat→Bool) (r:Int) (w:World) (hn:n≤9223372036854775807)
  (HC:Hid (∀ k,k<n→∃ ad,a=some ad∧ad.block<w.heap.size∧w.cell? (ad.add (k * 11))=some (.string (sv (T k)))∧w.cell? ⟨(ad.add (k * 11)).block,(ad.add (k * 11)).off+1,none⟩=some (.int .i64 (V1 k))∧w.cell? ⟨(ad.add (k * 11)).block,(ad.add (k * 11)).off+2,none⟩=some (.int .i64 (V2 k))∧w.cell? ⟨(ad.add (k * 11)).block,(ad.add (k * 11)).off+3,none⟩=some (.int .i64 (V3 k))∧w.cell? ⟨(ad.add (k * 11)).block,(ad.add (k * 11)).off+4,none⟩=some (.int .i64 (V4 k))∧w.cell? ⟨(ad.add (k * 11)).block,(ad.add (k * 11)).off+5,none⟩=some (.int .i64 (V5 k))∧w.cell? ⟨(ad.add (k * 11)).block,(ad.add (k * 11)).off+6,none⟩=some (.int .i64 (V6 k))∧w.cell? ⟨(ad.add (k * 11)).block,(ad.add (k * 11)).off+7,none⟩=some (.int .i64 (V7 k))∧w.cell? ⟨(ad.add (k * 11)).block,(ad.add (k * 11)).off+8,none⟩=some (.int .i64 (V8 k))∧w.cell? ⟨(ad.add (k * 11)).block,(ad.add (k * 11)).off+9,none⟩=some (.int .i64 (V9 k))∧w.cell? ⟨(ad.add (k * 11)).block,(ad.add (k * 11)).off+10,none⟩=some (.int .i64 (V10 k))))
  (TF:Hid (∀ k,k<n→∀ w',Keep w w'→Calls Tryz.prog 81 #[.agg #[.string (sv (T k)),.int .i64 (V1 k),.int .i64 (V2 k),.int .i64 (V3 k),.int .i64 (V4 k),.int .i64 (V5 k),.int .i64 (V6 k),.int .i64 (V7 k),.int .i64 (V8 k),.int .i64 (V9 k),.int .i64 (V10 k)],.pointer (some ⟨c,0,none⟩)] w' fun e w''=>e= .returned (.bool (B k))∧Keep w' w''))
  (HI:Hid (ix B 0 n=r)):
  Calls Tryz.prog 80 #[.slice a n cap,.func (.func 81) #[] #[.pointer (some ⟨c,0,none⟩)]] w fun e w'=>e= .returned (.int .i64 r)∧Keep w w':=by
 go_enter Tryz.func80,Tryz.ntmps80;go_wp2_with fail
 go_loopw [8] (fun vi wr=>∃ k:Nat,vi= .int .i64 (k:Int)∧k≤n∧Hid (Keep w wr)∧Hid (ix B k (n - k)=r)) (fun vi _=>n - (intOf vi).toNat)
 case atStart=>exact⟨0,rfl,Nat.zero_le _,hide (Keep.refl _),HI⟩
 case round=>
  obtain⟨k,rfl,hk,KW,HF⟩:=hrel;by_cases hlt:k<n
  ·have li:(k:Int)<(n:Int):=by omega
   obtain⟨ad,rfl,hb,e0,e1,e2,e3,e4,e5,e6,e7,e8,e9,e10⟩:=(uq HC) k hlt;have x0:=far_cell (uq KW) (by rw[add_block9];exact hb) e0;have x1:=far_cell (uq KW) (by show(ad.add (k * 11)).block<_;rw[add_block9];exact hb) e1;have x2:=far_cell (uq KW) (by show(ad.add (k * 11)).block<_;rw[add_block9];exact hb) e2;have x3:=far_cell (uq KW) (by show(ad.add (k * 11)).block<_;rw[add_block9];exact hb) e3;have x4:=far_cell (uq KW) (by show(ad.add (k * 11)).block<_;rw[add_block9];exact hb) e4;have x5:=far_cell (uq KW) (by show(ad.add (k * 11)).block<_;rw[add_block9];exact hb) e5;have x6:=far_cell (uq KW) (by show(ad.add (k * 11)).block<_;rw[add_block9];exact hb) e6;have x7:=far_cell (uq KW) (by show(ad.add (k * 11)).block<_;rw[add_block9];exact hb) e7;have x8:=far_cell (uq KW) (by show(ad.add (k * 11)).block<_;rw[add_block9];exact hb) e8;have x9:=far_cell (uq KW) (by show(ad.add (k * 11)).block<_;rw[add_block9];exact hb) e9;have x10:=far_cell (uq KW) (by show(ad.add (k * 11)).block<_;rw[add_block9];exact hb) e10;clear e0 e1 e2 e3 e4 e5 e6 e7 e8 e9 e10;have TK:=hide ((uq TF) k hlt _ (uq KW));cases hB:B k
   ·have HF2:=hide (zdt (uq HF) hlt hB);rw[hB]at TK;clear hB HF;go_wp2_with fail
    (refine(uq TK).mono ?_;rintro e w2 ⟨rfl,hk9⟩;have K2:=hide ((uq KW).trans hk9);clear hk9);go_wp2_with fail
    go_roundw
    case rel=>exact⟨k+1,by go_num,by omega,K2,HF2⟩
    case measure=>simp[intOf];omega
   ·have hr:=zb3 (uq HF) hlt hB;rw[hB]at TK;subst hr;clear hB HF;go_wp2_with fail
    (refine(uq TK).mono ?_;rintro e w2 ⟨rfl,hk9⟩;have K2:=hide ((uq KW).trans hk9);clear hk9);go_wp2_with fail
    go_ret;exact⟨rfl,uq K2⟩
  ·have li:¬(k:Int)<(n:Int):=by omega
   have hr:=zb4 (uq HF) (by omega);subst hr;go_wp2_with fail
   go_ret;exact⟨rfl,uq KW⟩
set_option maxHeartbeats 2000000 in
theorem zh0 (s:ByteArray) (x1:Option Addr) (n1 c1:Nat) (x2:Option Addr) (n2 c2:Nat) (x3:Option Addr) (n3 c3:Nat) (x4:Option Addr) (n4 c4:Nat) (x5:Option Addr) (n5 c5:Nat) (p:Int) (nm:List UInt8) (r:Int) (w:World)
  (TI:Hid (∀ w' c,Keep w w'→c<w'.heap.size→w'.cell? ⟨c,0,none⟩=some (.string (sv nm))→Calls Tryz.prog 80 #[.slice x1 n1 c1,.func (.func 81) #[] #[.pointer (some ⟨c,0,none⟩)]] w' fun e w''=>e= .returned (.int .i64 r)∧Keep w' w'')):
  Calls Tryz.prog 58 #[.agg #[.string s,.slice x1 n1 c1,.slice x2 n2 c2,.slice x3 n3 c3,.slice x4 n4 c4,.slice x5 n5 c5,.int .i64 p],.string (sv nm)] w fun e w'=>e= .returned (.int .i64 r)∧Keep w w':=by
 have hmf:∀(fn:Fn) (first cap:Array Value) (w:World),(Instr.makeFunc fn first cap).run Tryz.prog w= .ok (.func fn first cap) w:=fun _ _ _ _=>rfl
 have K:=hide (((Keep.refl w).alloc (.cells #[.string s,.slice x1 n1 c1,.slice x2 n2 c2,.slice x3 n3 c3,.slice x4 n4 c4,.slice x5 n5 c5,.int .i64 p] 39)).alloc (.cells #[.string (sv nm)] 9));go_enter Tryz.func58,Tryz.ntmps58;go_wp2_with fail
 (refine((uq TI) _ _ (uq K) (by simp) (by simp[go_sem])).mono ?_;rintro e w1 ⟨rfl,hk⟩);go_wp2_with fail
 go_ret;exact⟨rfl,(uq K).trans hk⟩
set_option maxHeartbeats 2000000 in
theorem zh1 (a:Option Addr) (n cap c:Nat) (T:Nat→List UInt8) (A:Nat→Option Addr) (N C:Nat→Nat) (P:Nat→Int) (B:Nat→Bool) (r:Int) (w:World) (hn:n≤9223372036854775807)
  (HC:Hid (∀ k,k<n→∃ ad,a=some ad∧ad.block<w.heap.size∧w.cell? (ad.add (k * 3))=some (.string (sv (T k)))∧w.cell? ⟨(ad.add (k * 3)).block,(ad.add (k * 3)).off+1,none⟩=some (.slice (A k) (N k) (C k))∧w.cell? ⟨(ad.add (k * 3)).block,(ad.add (k * 3)).off+2,none⟩=some (.int .i64 (P k))))
  (TF:Hid (∀ k,k<n→∀ w',Keep w w'→Calls Tryz.prog 85 #[.agg #[.string (sv (T k)),.slice (A k) (N k) (C k),.int .i64 (P k)],.pointer (some ⟨c,0,none⟩)] w' fun e w''=>e= .returned (.bool (B k))∧Keep w' w''))
  (HI:Hid (ix B 0 n=r)):
  Calls Tryz.prog 84 #[.slice a n cap,.func (.func 85) #[] #[.pointer (some ⟨c,0,none⟩)]] w fun e w'=>e= .returned (.int .i64 r)∧Keep w w':=by
 go_enter Tryz.func84,Tryz.ntmps84;go_wp2_with fail
 go_loopw [8] (fun vi wr=>∃ k:Nat,vi= .int .i64 (k:Int)∧k≤n∧Hid (Keep w wr)∧Hid (ix B k (n - k)=r)) (fun vi _=>n - (intOf vi).toNat)
 case atStart=>exact⟨0,rfl,Nat.zero_le _,hide (Keep.refl _),HI⟩
 case round=>
  obtain⟨k,rfl,hk,KW,HF⟩:=hrel;by_cases hlt:k<n
  ·have li:(k:Int)<(n:Int):=by omega
   obtain⟨ad,rfl,hb,e0,e1,e2⟩:=(uq HC) k hlt;have x0:=far_cell (uq KW) (by rw[add_block9];exact hb) e0;have x1:=far_cell (uq KW) (by show(ad.add (k * 3)).block<_;rw[add_block9];exact hb) e1;have x2:=far_cell (uq KW) (by show(ad.add (k * 3)).block<_;rw[add_block9];exact hb) e2;clear e0 e1 e2;have TK:=hide ((uq TF) k hlt _ (uq KW));cases hB:B k
   ·have HF2:=hide (zdt (uq HF) hlt hB);rw[hB]at TK;clear hB HF;go_wp2_with fail
    (refine(uq TK).mono ?_;rintro e w2 ⟨rfl,hk9⟩;have K2:=hide ((uq KW).trans hk9);clear hk9);go_wp2_with fail
    go_roundw
    case rel=>exact⟨k+1,by go_num,by omega,K2,HF2⟩
    case measure=>simp[intOf];omega
   ·have hr:=zb3 (uq HF) hlt hB;rw[hB]at TK;subst hr;clear hB HF;go_wp2_with fail
    (refine(uq TK).mono ?_;rintro e w2 ⟨rfl,hk9⟩;have K2:=hide ((uq KW).trans hk9);clear hk9);go_wp2_with fail
    go_ret;exact⟨rfl,uq K2⟩
  ·have li:¬(k:Int)<(n:Int):=by omega
   have hr:=zb4 (uq HF) (by omega);subst hr;go_wp2_with fail
   go_ret;exact⟨rfl,uq KW⟩
set_option maxHeartbeats 2000000 in
theorem zgJ (s:ByteArray) (x1:Option Addr) (n1 c1:Nat) (x2:Option Addr) (n2 c2:Nat) (x3:Option Addr) (n3 c3:Nat) (x4:Option Addr) (n4 c4:Nat) (x5:Option Addr) (n5 c5:Nat) (p:Int) (nm:List UInt8) (r:Int) (w:World)
  (TI:Hid (∀ w' c,Keep w w'→c<w'.heap.size→w'.cell? ⟨c,0,none⟩=some (.string (sv nm))→Calls Tryz.prog 84 #[.slice x3 n3 c3,.func (.func 85) #[] #[.pointer (some ⟨c,0,none⟩)]] w' fun e w''=>e= .returned (.int .i64 r)∧Keep w' w'')):
  Calls Tryz.prog 61 #[.agg #[.string s,.slice x1 n1 c1,.slice x2 n2 c2,.slice x3 n3 c3,.slice x4 n4 c4,.slice x5 n5 c5,.int .i64 p],.string (sv nm)] w fun e w'=>e= .returned (.int .i64 r)∧Keep w w':=by
 have hmf:∀(fn:Fn) (first cap:Array Value) (w:World),(Instr.makeFunc fn first cap).run Tryz.prog w= .ok (.func fn first cap) w:=fun _ _ _ _=>rfl
 have K:=hide (((Keep.refl w).alloc (.cells #[.string s,.slice x1 n1 c1,.slice x2 n2 c2,.slice x3 n3 c3,.slice x4 n4 c4,.slice x5 n5 c5,.int .i64 p] 39)).alloc (.cells #[.string (sv nm)] 9));go_enter Tryz.func61,Tryz.ntmps61;go_wp2_with fail
 (refine((uq TI) _ _ (uq K) (by simp) (by simp[go_sem])).mono ?_;rintro e w1 ⟨rfl,hk⟩);go_wp2_with fail
 go_ret;exact⟨rfl,(uq K).trans hk⟩
end V
end Go.Proofs.YtpmaonkelkmhbaaGreat
namespace Go.Proofs.YtpmaonkelkmhbaaGreat
open Go.RowKit
attribute [local go_sem ↓] Go.wp_at_zero Go.wp_at_succ
set_option linter.unusedVariables false
set_option linter.unusedSimpArgs false
set_option maxRecDepth 10000
namespace V
theorem zm9 (c:Int) (w:World):(Instr.typeAssert (.iface 28 (.int .i64 c)) 20 28 true).run Tryz.prog w= .ok (.tuple #[.int .i64 c,.bool true]) w:=by kernel_rfl
theorem zna (c p:Int) (w:World):(Instr.typeAssert (.iface 122 (.agg #[.int .i64 c,.int .i64 p])) 20 28 true).run Tryz.prog w= .ok (.tuple #[.int .i64 0,.bool false]) w:=by kernel_rfl
theorem zk3 (c p:Int) (w:World):(Instr.typeAssert (.iface 122 (.agg #[.int .i64 c,.int .i64 p])) 20 122 true).run Tryz.prog w= .ok (.tuple #[.agg #[.int .i64 c,.int .i64 p],.bool true]) w:=by kernel_rfl
set_option maxHeartbeats 2000000 in
theorem zfB (p q:Addr) (w:World):
  CallsD Tryz.prog 51 #[.pointer (some p),.pointer (some q)] .returning w fun e u' w'=>e= .returned (.tuple #[])∧u'= .returning∧w'=w:=by
 refine callsD_of_wpS Tryz.func51 rfl fun c₀ cs hu=>?_
 apply wpS_seq;apply wpS_region;simp[wpOpsS,go_sem,recoverD,hu,Tryz.ntmps51,Exit.thenS];rw[show #[Value.pointer (some p),Value.pointer (some q)]++(Array.replicate 18 undef).setIfInBounds 4 Value.nilIface=#[.pointer (some p),.pointer (some q),undef,undef,undef,undef,Value.nilIface,undef,undef,undef,undef,undef,undef,undef,undef,undef,undef,undef,undef,undef]from rfl];refine wpS_of_wp ?_;refine(?_:∀ Q:Exit→Act→World→Prop,(∀ t,Q Exit.normal ⟨t,[]⟩ w)→Code.wp Tryz.prog _ Q _ w) _ ?_
 ·clear hu;intro Q hQ
  have HQ:=hide hQ;clear hQ;go_wp2_with fail
  exact(uq HQ) _
 ·intro t
  cases c₀
  simp_all [bodyPostS,results,Tryz.results51]
set_option maxHeartbeats 2000000 in
theorem zgK (b g:Nat) (c:Int) (v:Value) (w:World) (hc:w.cell? ⟨b,0,none⟩=some v) (hz:w.frozen? ⟨b,0,none⟩=false):
  CallsD Tryz.prog 51 #[.pointer (some ⟨b,0,none⟩),.pointer (some ⟨g,0,none⟩)] (.panicking [{ v:=ern c,recovered:=false }]) w fun e u' w'=>e= .returned (.tuple #[])∧u'= .panicking [{ v:=ern c,recovered:=true }]∧w'=w.setCell ⟨b,0,none⟩ (.int .i64 c):=by
 refine callsD_of_wpS Tryz.func51 rfl fun c₀ cs hu=>?_
 apply wpS_seq;apply wpS_region;simp[wpOpsS,go_sem,recoverD,hu,Tryz.ntmps51,Exit.thenS];rw[show #[Value.pointer (some ⟨b,0,none⟩),Value.pointer (some ⟨g,0,none⟩)]++(Array.replicate 18 undef).setIfInBounds 4 (ern c)=#[.pointer (some ⟨b,0,none⟩),.pointer (some ⟨g,0,none⟩),undef,undef,undef,undef,(ern c),undef,undef,undef,undef,undef,undef,undef,undef,undef,undef,undef,undef,undef]from rfl];refine wpS_of_wp ?_;refine(?_:∀ Q:Exit→Act→World→Prop,(∀ t,Q Exit.normal ⟨t,[]⟩ (w.setCell ⟨b,0,none⟩ (.int .i64 c)))→Code.wp Tryz.prog _ Q _ w) _ ?_
 ·clear hu;intro Q hQ
  have HQ:=hide hQ;clear hQ;have h1:=zm9;unfold ern
  go_wp2_with fail
  exact(uq HQ) _
 ·intro t
  simp[bodyPostS,results,Tryz.results51,hu]
end V
namespace V
def Fq (b g:Nat) (c p:Int) (w:World) (e:Exit) (a:Act) (W:World):Prop:=match e with
 | .normal=>a.defers= []∧W.cell? ⟨b,0,none⟩=some (.int .i64 c)∧W.cell? ⟨g,0,none⟩=some (.int .i64 p)∧∀ B,B≤b→B≤g→Below B w W
 | _=>False
set_option maxHeartbeats 2000000 in
theorem zdS (b g:Nat) (c p:Int) (v v2:Value) (w:World) (hbg:¬b=g) (hgb:¬g=b) (hb:b<w.heap.size) (hg:g<w.heap.size) (hc:w.cell? ⟨b,0,none⟩=some v) (hz:w.frozen? ⟨b,0,none⟩=false) (hc2:w.cell? ⟨g,0,none⟩=some v2) (hz2:w.frozen? ⟨g,0,none⟩=false):
  CallsD Tryz.prog 51 #[.pointer (some ⟨b,0,none⟩),.pointer (some ⟨g,0,none⟩)] (.panicking [{ v:=flt c p,recovered:=false }]) w fun e u' w'=>e= .returned (.tuple #[])∧u'= .panicking [{ v:=flt c p,recovered:=true }]∧(w'.cell? ⟨b,0,none⟩=some (.int .i64 c)∧w'.cell? ⟨g,0,none⟩=some (.int .i64 p)∧∀ B,B≤b→B≤g→Below B w w'):=by
 refine callsD_of_wpS Tryz.func51 rfl fun c₀ cs hu=>?_
 apply wpS_seq;apply wpS_region;simp[wpOpsS,go_sem,recoverD,hu,Tryz.ntmps51,Exit.thenS];rw[show #[Value.pointer (some ⟨b,0,none⟩),Value.pointer (some ⟨g,0,none⟩)]++(Array.replicate 18 undef).setIfInBounds 4 (flt c p)=#[.pointer (some ⟨b,0,none⟩),.pointer (some ⟨g,0,none⟩),undef,undef,undef,undef,(flt c p),undef,undef,undef,undef,undef,undef,undef,undef,undef,undef,undef,undef,undef]from rfl];refine wpS_of_wp ?_;refine wp_mono (Q:=Fq b g c p w) ?_ ?_
 ·clear hu;have h1:=zna;have h2:=zk3;unfold flt
  have nb:¬b=w.heap.size:=by omega
  have ng:¬g=w.heap.size:=by omega
  have nb':¬w.heap.size=b:=by omega
  have ng':¬w.heap.size=g:=by omega
  go_upto_region 10 with fail
  refine wp_region_held_drew (S:=(fun w'=>w'.cell? ⟨w.heap.size,0,none⟩=some (.int .i64 c)∧w'.cell? ⟨w.heap.size,1,none⟩=some (.int .i64 p))) (by kernel_rfl) (by simp[go_sem]) (fun hHeld=>?_);refine tkk 0 16 hHeld ?_;try simp only[Act.put,Ya,Yb,Yc]
  refine tkk 1 17 hHeld ?_;try simp only[Act.put,Ya,Yb,Yc]
  refine tkk 2 18 hHeld ?_;try simp only[Act.put,Ya,Yb,Yc]
  refine tkk 3 19 hHeld ?_;try simp only[Act.put,Ya,Yb,Yc]
  refine zal 4 (fun K hK=>?_);go_simp;clear hHeld;refine hK.out _ _ ?_ (fun hHeld=>?_)
  ·simp[go_sem,nb,ng,nb',ng',hb,hg]
  clear hK K;try simp only[Act.put,Ya,Yb,Yc]
  refine zal 5 (fun K hK=>?_);go_simp;clear hHeld;refine hK.out _ _ ?_ (fun hHeld=>?_)
  ·simp[go_sem,nb,ng,nb',ng',hb,hg]
  clear hK K;try simp only[Act.put,Ya,Yb,Yc]
  refine wpAnyH_done (by kernel_rfl) ?_ _;clear hHeld;go_wp2_with fail
  refine⟨rfl,?_,?_,?_⟩
  ·simp[go_sem,hbg,hgb,hb,hg,hc,hz,hc2,hz2]
  ·simp[go_sem,hbg,hgb,hb,hg,hc,hz,hc2,hz2]
  ·intro B h3 h4
   repeat(first|exact Below.refl _ _|(refine Below.setCell ?_ (by first|exact h3|exact h4) _)|apply Below.drew|(refine Below.alloc ?_ (by simp;omega) _))
 ·intro e a W hq
  cases e with
  |normal=>
   obtain⟨q0,q1,q2,q3⟩:=hq;obtain⟨t,d⟩:=a;simp only at q0;subst q0;simp[bodyPostS,results,Tryz.results51,hu,q1,q2];exact q3
  | _=>exact hq.elim
end V
end Go.Proofs.YtpmaonkelkmhbaaGreat
