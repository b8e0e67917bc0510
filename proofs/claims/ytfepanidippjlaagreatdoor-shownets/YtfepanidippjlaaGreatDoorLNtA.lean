/- A text is its network: what is shown is read again; two texts are one just where the networks are, their places aside. -/
import Derived.Test.YtfepanidippjlaaGreatDoorSOks
import Derived.Test.YtfepanidippjlaaGreatDoorSFwN
import Derived.Test.YtfepanidippjlaaGreatDoorLEnd
import Derived.Deep.DrawnRows
import Derived.Deep.RegionHeld
import Derived.Test.YtfepanidippjlaaGreatDoorNVal
import Derived.Test.YtfepanidippjlaaGreatDoorLOneA
import Derived.Test.YtfepanidippjlaaGreatDoorSFew
import Derived.Test.YtfepanidippjlaaGreatDoorNOpn
namespace Go.Proofs.YtfepanidippjlaaGreatDoor
open Go.RowKit
set_option linter.unusedVariables false
set_option linter.unusedSimpArgs false
set_option maxRecDepth 10000
namespace S
theorem zoP {L:List (List D)} {e:Nat} (h:∀ ds∈L,ShL zbK ds):nms (Z (.row e 1 L))=nms (.row e 1 L):=by
 unfold nms
 simp only[Z,fL];rw[zcd,List.map_map];apply List.map_congr_left;intro x hx
 have hs:=h x hx;simp only[ShL,Sh1,zbK]at hs;obtain⟨_,_,rfl,⟨s0,rfl,_⟩,rfl⟩:=hs;simp[gt,Zl,Z,plc,dS]
theorem zdo {W:List D→List (List UInt8)} {bb:Bool} {L:List (List D)} (h:∀ ds∈L,W (Zl bb ds)=W ds):(Zss bb L).flatMap W=L.flatMap W:=by
 rw[zcd,List.flatMap_map]
 induction L with
 |nil=>rfl
 |cons d L ih=>rw[List.flatMap_cons,List.flatMap_cons,h d List.mem_cons_self,ih (fun x hx=>h x (List.mem_cons_of_mem _ hx))]
theorem zmM {ds:List D} (hs:ShL zc2 ds):zb6 (Zl true ds)=zb6 ds:=by
 simp only[ShL,Sh1,zc2]at hs;obtain⟨_,_,rfl,⟨s0,rfl,_⟩,⟨_,_,rfl,⟨v1,rfl,_,_⟩,⟨_,_,rfl,⟨v2,rfl,_,_⟩,⟨_,_,rfl,⟨v3,rfl,_,_⟩,⟨_,_,rfl,⟨v4,rfl,_,_⟩,⟨_,_,rfl,⟨v5,rfl,_,_⟩,⟨_,_,rfl,⟨v6,rfl,_,_⟩,⟨_,_,rfl,⟨v7,rfl,_,_⟩,⟨_,_,rfl,⟨v8,rfl,_,_⟩,⟨_,_,rfl,⟨v9,rfl,_,_⟩,⟨_,_,rfl,⟨v10,rfl,_,_⟩,rfl⟩⟩⟩⟩⟩⟩⟩⟩⟩⟩⟩:=hs;simp[zb6,gt,Zl,Z,dS,dI]
theorem zmN {ds:List D} (hs:ShL zfO ds):zcS (Zl true ds)=zcS ds:=by
 simp only[ShL,Sh1,zfO]at hs;obtain⟨_,_,rfl,⟨s0,rfl,_⟩,⟨_,_,rfl,⟨s1,rfl,_⟩,⟨_,_,rfl,⟨v2,rfl,_,_⟩,⟨_,_,rfl,⟨v3,rfl,_,_⟩,⟨_,_,rfl,⟨v4,rfl,_,_⟩,⟨_,_,rfl,⟨v5,rfl,_,_⟩,rfl⟩⟩⟩⟩⟩⟩:=hs;simp[zcS,gt,Zl,Z,dS,dI]
theorem zoQ {ds:List D} (hs:ShL zfP ds):zfj (Zl true ds)=zfj ds:=by
 simp only[ShL,Sh1,zfP]at hs;obtain⟨_,_,rfl,⟨s0,rfl,_⟩,⟨_,_,rfl,⟨s1,rfl,_⟩,⟨_,_,rfl,⟨v2,rfl,_,_⟩,rfl⟩⟩⟩:=hs;simp[zfj,gt,Zl,Z,dS,dI]
theorem zmO {ds:List D} (hs:ShL zcR ds):zcT (Zl true ds)=zcT ds:=by
 simp only[ShL,Sh1,zcR]at hs;obtain⟨_,_,rfl,⟨s0,rfl,_⟩,⟨_,_,rfl,⟨s1,rfl,_⟩,⟨_,_,rfl,⟨s2,rfl,_⟩,⟨_,_,rfl,⟨v3,rfl,_,_⟩,⟨_,_,rfl,⟨v4,rfl,_,_⟩,⟨_,_,rfl,⟨v5,rfl,_,_⟩,rfl⟩⟩⟩⟩⟩⟩:=hs;simp[zcT,gt,Zl,Z,dS,dI]
theorem zjC {ds:List D} (hs:ShL zbD ds):zbF (Zl true ds)=zbF ds:=by
 simp only[ShL,Sh1,zbD]at hs;obtain⟨_,_,rfl,⟨s0,rfl,_⟩,⟨_,_,rfl,⟨L1,rfl,_,q1⟩,⟨_,_,rfl,⟨v2,rfl,_,_⟩,rfl⟩⟩⟩:=hs;have:=zoP (e:=9) q1;simp only[zbF,gt,Zl,List.isEmpty_cons,Bool.and_false,Bool.false_eq_true,if_false,List.getD_cons_zero,List.getD_cons_succ,this]
 rfl
theorem zmP {ds:List D} (hs:ShL zeG ds):zcL (Zl false ds)=zcL ds:=by
 simp only[ShL,Sh1,zeG]at hs;obtain⟨_,_,rfl,⟨f0,rfl⟩,⟨_,_,rfl,⟨L1,rfl,_,q1⟩,rfl⟩⟩:=hs;have:=zoP (e:=9) q1;simp only[zcL,gt,Zl,Bool.false_and,Bool.false_eq_true,if_false,List.getD_cons_zero,List.getD_cons_succ,this]
 rfl
theorem zjD {ds:List D} (hs:ShL zbE ds):za9 (Zl false ds)=za9 ds:=by
 simp only[ShL,Sh1,zbE]at hs;obtain⟨_,_,rfl,⟨L0,rfl,_,q0⟩,rfl⟩:=hs;have e:(fL (Z (.row 93 2 L0))).flatMap zcL=L0.flatMap zcL:=zdo (bb:=false) (fun x hx=>zmP (q0 x hx));simp only[za9,gt,Zl,Bool.false_and,Bool.false_eq_true,if_false,List.getD_cons_zero,e]
 rfl
theorem zmQ {ds:List D} (hs:ShL zbL ds):zbM (Zl true ds)=zbM ds:=by
 simp only[ShL,Sh1,zbL]at hs;obtain⟨_,_,rfl,⟨s0,rfl,_⟩,⟨_,_,rfl,⟨L1,rfl,_,q1⟩,⟨_,_,rfl,⟨L2,rfl,_,q2⟩,⟨_,_,rfl,⟨L3,rfl,_,q3⟩,⟨_,_,rfl,⟨L4,rfl,_,q4⟩,⟨_,_,rfl,⟨L5,rfl,_,q5⟩,⟨_,_,rfl,⟨v6,rfl,_,_⟩,rfl⟩⟩⟩⟩⟩⟩⟩:=hs;have e1:(fL (Z (.row 84 11 L1))).flatMap zb6=L1.flatMap zb6:=zdo (bb:=true) (fun x hx=>zmM (q1 x hx));have e2:(fL (Z (.row 86 6 L2))).flatMap zcS=L2.flatMap zcS:=zdo (bb:=true) (fun x hx=>zmN (q2 x hx));have e3:(fL (Z (.row 88 3 L3))).flatMap zbF=L3.flatMap zbF:=zdo (bb:=true) (fun x hx=>zjC (q3 x hx));have e4:(fL (Z (.row 91 1 L4))).flatMap za9=L4.flatMap za9:=zdo (bb:=false) (fun x hx=>zjD (q4 x hx));have e5:(fL (Z (.row 95 3 L5))).flatMap zfj=L5.flatMap zfj:=zdo (bb:=true) (fun x hx=>zoQ (q5 x hx));simp only[zbM,gt,Zl,List.isEmpty_cons,Bool.and_false,Bool.false_eq_true,if_false,List.getD_cons_zero,List.getD_cons_succ,e1,e2,e3,e4,e5];simp only[Z,dS,fL]
theorem zkk {ds:List D} (hs:ShL zct ds):zdB (ds.map Z)=zdB ds:=by
 simp only[ShL,Sh1,zct]at hs;obtain⟨_,_,rfl,⟨v0,rfl,_,_⟩,⟨_,_,rfl,⟨v1,rfl,_,_⟩,⟨_,_,rfl,⟨v2,rfl,_,_⟩,⟨_,_,rfl,⟨v3,rfl,_,_⟩,⟨_,_,rfl,⟨v4,rfl,_,_⟩,⟨_,_,rfl,⟨L5,rfl,_,q5⟩,⟨_,_,rfl,⟨L6,rfl,_,q6⟩,⟨_,_,rfl,⟨v7,rfl,_,_⟩,⟨_,_,rfl,⟨v8,rfl,_,_⟩,rfl⟩⟩⟩⟩⟩⟩⟩⟩⟩:=hs;have e5:(fL (Z (.row 46 7 L5))).flatMap zbM=L5.flatMap zbM:=zdo (bb:=true) (fun x hx=>zmQ (q5 x hx));have e6:(fL (Z (.row 49 6 L6))).flatMap zcT=L6.flatMap zcT:=zdo (bb:=true) (fun x hx=>zmO (q6 x hx));have e7:(fL (Z (.row 49 6 L6))).length=L6.length:=zl1 _ _;unfold zdB zhK zbW
 simp only[List.map_cons,List.map_nil,gt,List.getD_cons_zero,List.getD_cons_succ,e5,e6,e7];simp only[Z,dI,fL];congr
theorem zqd {ds es:List D} (hs:ShL zct ds) (he:ShL zct es) (h:ds.map Z=es.map Z):txt ds=txt es:=by unfold txt;rw[← zkk hs,h,zkk he]
theorem apart {ds es:List D} (hs:ShL zct ds) (he:ShL zct es) (hB:zcs ds=true) (hC:zcs es=true):txt ds=txt es↔ds.map Z=es.map Z:=by
 refine⟨fun h=>?_,zqd hs he⟩;obtain⟨L,e,h1,h2⟩:=zki hB;obtain⟨M,f,k1,k2⟩:=zki hC;rw[h,k1]at h1;simp only[Except.ok.injEq]at h1;have hLM:=(List.append_inj' h1 rfl).1;subst hLM;have hK:zmz ds=zmz es:=h2.symm.trans k2;have r1:=zf0 hs hB;have r2:=zf0 he hC;rw[hK,r2]at r1;simp only[Except.ok.injEq,Prod.mk.injEq,and_true]at r1;exact r1.symm
end S
end Go.Proofs.YtfepanidippjlaaGreatDoor
namespace Go.Proofs.YtfepanidippjlaaGreatDoor
open Go.RowKit
attribute [local go_sem ↓] Go.wp_at_zero Go.wp_at_succ
set_option linter.unusedVariables false
set_option linter.unusedSimpArgs false
set_option maxRecDepth 10000
namespace S
theorem zil {w:World} {a:Option Addr} {L:List (List D)} {cap:Nat} (hL:∀ ds∈L,ShL zbK ds) (HA:Rvss w a 1 L 0) (hc:L.length≤cap):Rw w (.slice a L.length cap):=by
 refine⟨a,L.length,cap,fun k=>sv (tS (gt (L.getD k []) 0)),rfl,hc,fun k hk=>?_⟩;obtain⟨ad,us,rfl,hb,h1,h2,h3⟩:=zaL L 0 HA k hk;have hs:=hL (L.getD k []) (zaV hk);show ∃ ad',some ad=some ad'∧_∧w.cell? (ad'.add k)=some (.string (sv (tS (gt (L.getD k []) 0))));generalize L.getD k []=ds at h1 hs ⊢;simp only[ShL,Sh1,zbK]at hs;obtain⟨_,_,rfl,⟨s0,rfl,_⟩,rfl⟩:=hs;simp only[Rvs,Rv,dS,dI,dB]at h1;obtain⟨_,_,rfl,rfl,rfl⟩:=h1;rw[Nat.zero_add,Nat.mul_one]at h3;exact⟨ad,rfl,hb,h3 0 _ rfl⟩
set_option maxHeartbeats 4000000 in
theorem zim {w:World} {ds:List D} {us:List Value} (hs:ShL zbL ds) (hr:Rvs w ds us):Calls Tryz.prog 15 #[.agg us.toArray] w (Ak w):=by
 simp only[ShL,Sh1,zbL]at hs;obtain⟨_,_,rfl,⟨s0,rfl,_⟩,⟨_,_,rfl,⟨L1,rfl,_,q1⟩,⟨_,_,rfl,⟨L2,rfl,_,q2⟩,⟨_,_,rfl,⟨L3,rfl,_,q3⟩,⟨_,_,rfl,⟨L4,rfl,_,q4⟩,⟨_,_,rfl,⟨L5,rfl,_,q5⟩,⟨_,_,rfl,⟨v6,rfl,_,_⟩,rfl⟩⟩⟩⟩⟩⟩⟩:=hs;simp only[Rvs,Rv,dS,dI,dB]at hr;obtain⟨_,_,rfl,rfl,⟨_,_,rfl,⟨x1,z1,rfl,y1,m1⟩,⟨_,_,rfl,⟨x2,z2,rfl,y2,m2⟩,⟨_,_,rfl,⟨x3,z3,rfl,y3,m3⟩,⟨_,_,rfl,⟨x4,z4,rfl,y4,m4⟩,⟨_,_,rfl,⟨x5,z5,rfl,y5,m5⟩,⟨_,_,rfl,rfl,rfl⟩⟩⟩⟩⟩⟩⟩:=hr;have hp:w.heap.size≤w.heap.size:=Nat.le_refl _;have hF:=Fb.refl w.heap.size w;refine zgq (sv s0) x1 L1.length z1 x2 L2.length z2 x3 L3.length z3 x4 L4.length z4 x5 L5.length z5 v6 (fun k=>sv (tS (gt (L1.getD k []) 0))) (fun k=>sv (tS (gt (L2.getD k []) 0))) (fun k=>sv (tS (gt (L2.getD k []) 1))) (fun k=>sv (tS (gt (L3.getD k []) 0))) (fun k=>sv (tS (gt (L5.getD k []) 0))) (fun k=>sv (tS (gt (L5.getD k []) 1))) (sA w x3 3 1) (sN w x3 3 1) (sC w x3 3 1) (sA w x4 1 0) (sN w x4 1 0) (sC w x4 1 0) (fun k j=>sA w (sA w x4 1 0 k) 2 1 j) (fun k j=>sN w (sA w x4 1 0 k) 2 1 j) (fun k j=>sC w (sA w x4 1 0 k) 2 1 j) w (hide zfX) (hide fun k hk=>?_) (hide fun k hk=>?_) (hide fun k hk=>?_) (hide fun k hk=>?_) (hide fun k hk=>?_) (hide fun k hk j hj=>?_) (hide fun k hk=>?_)
 ·obtain⟨ad,e,_,h0,_⟩:=zfU hp hF q1 m1 k hk;exact⟨ad,e,h0⟩
 ·obtain⟨ad,e,_,h0,h1,_⟩:=zjr hp hF q2 m2 k hk;exact⟨ad,e,h0,h1⟩
 ·obtain⟨ad,e,_,h0,h1,_⟩:=zex hp hF q3 m3 k hk;exact⟨ad,e,h0,h1⟩
 ·obtain⟨r1,r2,r3,r4⟩:=zey q3 m3 k hk;rw[r1];exact zil r4 r3 r2
 ·obtain⟨ad,e,_,h0⟩:=zez hp hF q4 m4 k hk;exact⟨ad,e,h0⟩
 ·obtain⟨r1,r2,r3,r4⟩:=zbQ q4 m4 k hk;rw[r1]at hj;obtain⟨ad,e,_,_,h1⟩:=zjt hp hF r4 r3 j hj;obtain⟨t1,t2,t3,t4⟩:=zju r4 r3 j hj;refine⟨ad,e,h1,?_⟩;show Rw w (.slice _ (sN w (sA w x4 1 0 k) 2 1 j) _);rw[t1];exact zil t4 t3 t2
 ·obtain⟨ad,e,_,h0,h1,_⟩:=zjs hp hF q5 m5 k hk;exact⟨ad,e,h0,h1⟩
set_option maxHeartbeats 16000000 in
theorem zjE (v0 v1 v2 v3 v4:Int) (a5:Option Addr) (n5 c5:Nat) (a6:Option Addr) (n6 c6:Nat) (v7 v8:Int) (S0:Nat→ByteArray) (A1:Nat→Option Addr) (N1 C1:Nat→Nat) (A2:Nat→Option Addr) (N2 C2:Nat→Nat) (A3:Nat→Option Addr) (N3 C3:Nat→Nat) (A4:Nat→Option Addr) (N4 C4:Nat→Nat) (A5:Nat→Option Addr) (N5 C5:Nat→Nat) (V6:Nat→Int) (X6 Y6 Z6:Nat→ByteArray) (w:World)
  (TS:Hid (∀ v w',Rw w' v→Calls Tryz.prog 16 #[v] w' (Ab w')))
  (TN:Hid (∀ k,k<n5→∀ w',Keep w w'→Calls Tryz.prog 15 #[.agg #[.string (S0 k),.slice (A1 k) (N1 k) (C1 k),.slice (A2 k) (N2 k) (C2 k),.slice (A3 k) (N3 k) (C3 k),.slice (A4 k) (N4 k) (C4 k),.slice (A5 k) (N5 k) (C5 k),.int .i64 (V6 k)]] w' (Ak w')))
  (HC5:Hid (∀ k,k<n5→∃ ad,a5=some ad∧w.cell? (ad.add (k * 7))=some (.string (S0 k))∧w.cell? ⟨(ad.add (k * 7)).block,(ad.add (k * 7)).off+1,none⟩=some (.slice (A1 k) (N1 k) (C1 k))∧w.cell? ⟨(ad.add (k * 7)).block,(ad.add (k * 7)).off+2,none⟩=some (.slice (A2 k) (N2 k) (C2 k))∧w.cell? ⟨(ad.add (k * 7)).block,(ad.add (k * 7)).off+3,none⟩=some (.slice (A3 k) (N3 k) (C3 k))∧w.cell? ⟨(ad.add (k * 7)).block,(ad.add (k * 7)).off+4,none⟩=some (.slice (A4 k) (N4 k) (C4 k))∧w.cell? ⟨(ad.add (k * 7)).block,(ad.add (k * 7)).off+5,none⟩=some (.slice (A5 k) (N5 k) (C5 k))∧w.cell? ⟨(ad.add (k * 7)).block,(ad.add (k * 7)).off+6,none⟩=some (.int .i64 (V6 k))))
  (HC6:Hid (∀ k,k<n6→∃ ad,a6=some ad∧w.cell? (ad.add (k * 6))=some (.string (X6 k))∧w.cell? ⟨(ad.add (k * 6)).block,(ad.add (k * 6)).off+1,none⟩=some (.string (Y6 k))∧w.cell? ⟨(ad.add (k * 6)).block,(ad.add (k * 6)).off+2,none⟩=some (.string (Z6 k)))):
  Calls Tryz.prog 7 #[.agg #[.int .i64 v0,.int .i64 v1,.int .i64 v2,.int .i64 v3,.int .i64 v4,.slice a5 n5 c5,.slice a6 n6 c6,.int .i64 v7,.int .i64 v8]] w (Ak w):=by
 have HK0:=hide ((Keep.refl w).alloc (.cells #[.int .i64 v0,.int .i64 v1,.int .i64 v2,.int .i64 v3,.int .i64 v4,.slice a5 n5 c5,.slice a6 n6 c6,.int .i64 v7,.int .i64 v8] 27));have HB0:Hid ((w.alloc (.cells #[.int .i64 v0,.int .i64 v1,.int .i64 v2,.int .i64 v3,.int .i64 v4,.slice a5 n5 c5,.slice a6 n6 c6,.int .i64 v7,.int .i64 v8] 27)).heap[w.heap.size]? =some (.cells #[.int .i64 v0,.int .i64 v1,.int .i64 v2,.int .i64 v3,.int .i64 v4,.slice a5 n5 c5,.slice a6 n6 c6,.int .i64 v7,.int .i64 v8] 27 (0,0))):=hide (heap_alloc_new w _);go_enter Tryz.func7,Tryz.ntmps7
 go_upto_region 1 with fail
 generalize w.alloc (.cells #[.int .i64 v0,.int .i64 v1,.int .i64 v2,.int .i64 v3,.int .i64 v4,.slice a5 n5 c5,.slice a6 n6 c6,.int .i64 v7,.int .i64 v8] 27)=w0 at HK0 HB0 ⊢;obtain⟨gb,HGB⟩:∃ gb,Hid (w.heap.size=gb):=⟨_,rfl⟩;rw[uq HGB]at HB0 ⊢;have z5:w0.cell? ⟨gb,5,none⟩=some (.slice a5 n5 c5):=by simp[World.cell?,uq HB0]
 have z6:w0.cell? ⟨gb,6,none⟩=some (.slice a6 n6 c6):=by simp[World.cell?,uq HB0]
 by_cases g1:(15:Int)<(n5:Int)
 ·go_wp2_with fail
  go_ret;exact⟨_,rfl,uq HK0⟩
 by_cases g2:(15:Int)<(n6:Int)
 ·go_wp2_with fail
  go_ret;exact⟨_,rfl,uq HK0⟩
 have HNN:Hid (n5≤15∧n6≤15):=hide (by omega);go_wp2_with fail
 clear g1 g2 z5 z6
 go_loopw [3] (fun vi wr=>∃ k:Nat,k≤n5∧vi= .int .i64 (k:Int)∧Hid (Keep w wr)∧Hid (wr.heap[gb]? =some (.cells #[.int .i64 v0,.int .i64 v1,.int .i64 v2,.int .i64 v3,.int .i64 v4,.slice a5 n5 c5,.slice a6 n6 c6,.int .i64 v7,.int .i64 v8] 27 (0,0)))) (fun vi _=>n5 - (intOf vi).toNat)
 case atStart=>exact⟨0,Nat.zero_le _,rfl,HK0,HB0⟩
 case round=>
  obtain⟨k,hk,rfl,HK,HB⟩:=hrel;have z5:wr.cell? ⟨gb,5,none⟩=some (.slice a5 n5 c5):=by simp[World.cell?,uq HB]
  by_cases hlt:k<n5
  ·have li:(k:Int)<(n5:Int):=by omega
   have hk9:k≤100:=by have:=uq HNN;omega
   have HT:=hide ((uq TN) k hlt wr (uq HK));obtain⟨ad,rfl,e0,e1,e2,e3,e4,e5,e6⟩:=(uq HC5) k hlt;have x0:=Q.kcell (uq HK) e0;have x1:=Q.kcell (uq HK) e1;have x2:=Q.kcell (uq HK) e2;have x3:=Q.kcell (uq HK) e3;have x4:=Q.kcell (uq HK) e4;have x5:=Q.kcell (uq HK) e5;have x6:=Q.kcell (uq HK) e6;clear e0 e1 e2 e3 e4 e5 e6;go_wp2_with fail
   (refine(uq HT).mono ?_;rintro e w5 ⟨b,rfl,hk5⟩;have HK5:=hide hk5;clear hk5);cases b
   ·go_wp2_with fail
    go_ret;exact⟨_,rfl,(uq HK).trans (uq HK5)⟩
   ·go_wp2_with fail
    go_roundw
    case rel=>exact⟨k+1,hlt,by go_num,hide ((uq HK).trans (uq HK5)),hide (((uq HK5).block gb (Array.getElem?_eq_some_iff.1 (uq HB)).1).trans (uq HB))⟩
    case measure=>simp[intOf];omega
  ·have li:¬(k:Int)<(n5:Int):=by omega
   clear hlt hk;go_wp2_with fail
   go_loopw [4] (fun vi wr=>∃ k:Nat,k≤n6∧vi= .int .i64 (k:Int)∧Hid (Keep w wr)∧Hid (wr.heap[gb]? =some (.cells #[.int .i64 v0,.int .i64 v1,.int .i64 v2,.int .i64 v3,.int .i64 v4,.slice a5 n5 c5,.slice a6 n6 c6,.int .i64 v7,.int .i64 v8] 27 (0,0)))) (fun vi _=>n6 - (intOf vi).toNat)
   case atStart=>exact⟨0,Nat.zero_le _,rfl,HK,HB⟩
   case round=>
    obtain⟨k,hk,rfl,HK,HB⟩:=hrel;have z6:wr.cell? ⟨gb,6,none⟩=some (.slice a6 n6 c6):=by simp[World.cell?,uq HB]
    by_cases hlt:k<n6
    ·have li:(k:Int)<(n6:Int):=by omega
     have hk9:k≤100:=by have:=uq HNN;omega
     obtain⟨ad,rfl,e0,e1,e2⟩:=(uq HC6) k hlt;have x0:=Q.kcell (uq HK) e0;have x1:=Q.kcell (uq HK) e1;have x2:=Q.kcell (uq HK) e2;clear e0 e1 e2;generalize X6 k=X at x0;generalize Y6 k=Y at x1;generalize Z6 k=Z at x2;have HSX:Hid (∀ w',Keep wr w'→w'.cell? ⟨gb,6,none⟩=some (.slice (some ad) n6 c6)∧w'.cell? (ad.add (k * 6))=some (.string X)∧w'.cell? ⟨(ad.add (k * 6)).block,(ad.add (k * 6)).off+1,none⟩=some (.string Y)∧w'.cell? ⟨(ad.add (k * 6)).block,(ad.add (k * 6)).off+2,none⟩=some (.string Z)):=hide (fun w' k9=>⟨Q.kcell k9 z6,Q.kcell k9 x0,Q.kcell k9 x1,Q.kcell k9 x2⟩)
     go_upto_region 11 with fail
     refine wp_region_held_drew (S:=fun w'=>w'.cell? ⟨gb,6,none⟩=some (.slice (some ad) n6 c6)∧w'.cell? (ad.add (k * 6))=some (.string X)∧w'.cell? ⟨(ad.add (k * 6)).block,(ad.add (k * 6)).off+1,none⟩=some (.string Y)∧w'.cell? ⟨(ad.add (k * 6)).block,(ad.add (k * 6)).off+2,none⟩=some (.string Z)) (by kernel_rfl) (by exact(uq HSX) _ (by repeat(first|apply Keep.alloc|apply Keep.drew|exact Keep.refl _))) (fun hHeld=>?_);refine tkk 0 36 hHeld ?_;try simp only[Act.put,Ya,Yb,Yc]
     refine tkk 1 37 hHeld ?_;try simp only[Act.put,Ya,Yb,Yc]
     refine tkk 2 38 hHeld ?_;try simp only[Act.put,Ya,Yb,Yc]
     refine tkk 3 39 hHeld ?_;try simp only[Act.put,Ya,Yb,Yc]
     refine tkk 4 40 hHeld ?_;try simp only[Act.put,Ya,Yb,Yc]
     refine tkk 5 41 hHeld ?_;try simp only[Act.put,Ya,Yb,Yc]
     refine tkk 6 42 hHeld ?_;try simp only[Act.put,Ya,Yb,Yc]
     refine tkk 7 43 hHeld ?_;try simp only[Act.put,Ya,Yb,Yc]
     refine tkk 8 44 hHeld ?_;try simp only[Act.put,Ya,Yb,Yc]
     refine tkk 9 45 hHeld ?_;try simp only[Act.put,Ya,Yb,Yc]
     refine tkk 10 46 hHeld ?_;try simp only[Act.put,Ya,Yb,Yc]
     refine tkk 11 47 hHeld ?_;try simp only[Act.put,Ya,Yb,Yc]
     refine tkk 12 48 hHeld ?_;try simp only[Act.put,Ya,Yb,Yc]
     refine tkk 13 49 hHeld ?_;try simp only[Act.put,Ya,Yb,Yc]
     refine tkk 14 50 hHeld ?_;try simp only[Act.put,Ya,Yb,Yc]
     refine tkk 15 51 hHeld ?_;try simp only[Act.put,Ya,Yb,Yc]
     refine tkk 16 52 hHeld ?_;try simp only[Act.put,Ya,Yb,Yc]
     refine tkk 17 53 hHeld ?_;try simp only[Act.put,Ya,Yb,Yc]
     refine zaC 18 (fun K hK=>?_);go_simp;clear hHeld;refine hK.out _ _ ?_ (fun hHeld=>?_)
     ·exact(uq HSX) _ (by repeat(first|apply Keep.alloc|apply Keep.drew|exact Keep.refl _))
     clear hK K;try simp only[Act.put,Ya,Yb,Yc]
     refine zaC 19 (fun K hK=>?_);go_simp;clear hHeld;(refine((uq TS) _ _ (zmJ wr.drew X Y Z 9)).mono ?_;rintro e w5 ⟨b,rfl,rfl⟩);try go_wp2_with fail
     refine hK.out _ _ ?_ (fun hHeld=>?_)
     ·exact(uq HSX) _ (by repeat(first|apply Keep.alloc|apply Keep.drew|exact Keep.refl _))
     clear hK K;try simp only[Act.put,Ya,Yb,Yc]
     refine tkk 20 56 hHeld ?_;try simp only[Act.put,Ya,Yb,Yc]
     refine wpAnyH_done (by kernel_rfl) ?_ _;clear hHeld;cases b
     ·go_wp2_with fail
      go_ret;exact⟨_,rfl,(by have:=uq HK;repeat(first|exact this|apply Keep.alloc|apply Keep.drew))⟩
     ·go_wp2_with fail
      go_roundw
      case rel=>exact⟨k+1,hlt,by go_num,hide (by have:=uq HK;repeat(first|exact this|apply Keep.alloc|apply Keep.drew)),hide ((heap_alloc_old wr (.cells #[.string X,.string Y,.string Z] 9) (Array.getElem?_eq_some_iff.1 (uq HB)).1).trans (uq HB))⟩
      case measure=>simp[intOf];omega
    ·have li:¬(k:Int)<(n6:Int):=by omega
     go_wp2_with fail
     go_ret;exact⟨_,rfl,uq HK⟩
theorem zmR {w:World} {ds:List D} {us:List Value} (hs:ShL zct ds) (hr:Rvs w ds us):Calls Tryz.prog 7 #[.agg us.toArray] w (Ak w):=by
 simp only[ShL,Sh1,zct]at hs;obtain⟨_,_,rfl,⟨v0,rfl,_,_⟩,⟨_,_,rfl,⟨v1,rfl,_,_⟩,⟨_,_,rfl,⟨v2,rfl,_,_⟩,⟨_,_,rfl,⟨v3,rfl,_,_⟩,⟨_,_,rfl,⟨v4,rfl,_,_⟩,⟨_,_,rfl,⟨L5,rfl,_,q5⟩,⟨_,_,rfl,⟨L6,rfl,_,q6⟩,⟨_,_,rfl,⟨v7,rfl,_,_⟩,⟨_,_,rfl,⟨v8,rfl,_,_⟩,rfl⟩⟩⟩⟩⟩⟩⟩⟩⟩:=hs;simp only[Rvs,Rv,dS,dI,dB]at hr;obtain⟨_,_,rfl,rfl,⟨_,_,rfl,rfl,⟨_,_,rfl,rfl,⟨_,_,rfl,rfl,⟨_,_,rfl,rfl,⟨_,_,rfl,⟨x5,z5,rfl,y5,m5⟩,⟨_,_,rfl,⟨x6,z6,rfl,y6,m6⟩,⟨_,_,rfl,rfl,⟨_,_,rfl,rfl,rfl⟩⟩⟩⟩⟩⟩⟩⟩⟩:=hr;have hp:w.heap.size≤w.heap.size:=Nat.le_refl _;have hF:=Fb.refl w.heap.size w;refine zjE v0 v1 v2 v3 v4 x5 L5.length z5 x6 L6.length z6 v7 v8 (fun k=>sv (tS (gt (L5.getD k []) 0))) (sA w x5 7 1) (sN w x5 7 1) (sC w x5 7 1) (sA w x5 7 2) (sN w x5 7 2) (sC w x5 7 2) (sA w x5 7 3) (sN w x5 7 3) (sC w x5 7 3) (sA w x5 7 4) (sN w x5 7 4) (sC w x5 7 4) (sA w x5 7 5) (sN w x5 7 5) (sC w x5 7 5) (fun k=>fI (gt (L5.getD k []) 6)) (fun k=>sv (tS (gt (L6.getD k []) 0))) (fun k=>sv (tS (gt (L6.getD k []) 1))) (fun k=>sv (tS (gt (L6.getD k []) 2))) w (hide zfX) (hide fun k hk w' hw=>?_) (hide fun k hk=>?_) (hide fun k hk=>?_)
 ·exact zim (q5 _ (zaV hk)) (Rvs.keep hw _ _ (zeA q5 m5 k hk))
 ·obtain⟨ad,e,_,h⟩:=zfV hp hF q5 m5 k hk;exact⟨ad,e,h⟩
 ·obtain⟨ad,e,_,h0,h1,h2,_⟩:=zfW hp hF q6 m6 k hk;exact⟨ad,e,h0,h1,h2⟩
end S
end Go.Proofs.YtfepanidippjlaaGreatDoor
namespace Go.Proofs.YtfepanidippjlaaGreatDoor
open Go.RowKit
set_option linter.unusedVariables false
set_option linter.unusedSimpArgs false
set_option maxRecDepth 10000
theorem zec (w:World) (s:ByteArray):∃ cap o k,(∀ src dst,Tryz.prog.underlying src=some .string→Tryz.prog.underlying dst=some (.slice 5)→(convert src dst (.string s)).run Tryz.prog w= .ok (.slice (some ⟨w.heap.size,0,none⟩) s.size cap) (ext w #[o] k))∧By (ext w #[o] k) (.slice (some ⟨w.heap.size,0,none⟩) s.size cap) s.data.toList:=by
 refine⟨grownCap w s.size 0 5,.cells (bytesRow s (grownCap w s.size 0 5)) 5 ((bytesRow s (grownCap w s.size 0 5)).size,(bytesRow s (grownCap w s.size 0 5)).size+1),w.drew.drawn,fun src dst hs hd=>?_,?_⟩
 ·rw[run_bytes_of_string (P:=Tryz.prog) w src dst 5 s hs hd Tryz.underlying5];congr 1
 ·refine⟨_,_,rfl,grownCap_ge _ _ _ _,fun k hk=>⟨_,rfl,by simp,?_⟩⟩;rw[zbo,Nat.zero_add];have hk':k<s.data.size:=by simpa using hk
  have h1:(ext w #[Obj.cells (bytesRow s (grownCap w s.size 0 5)) 5 ((bytesRow s (grownCap w s.size 0 5)).size,(bytesRow s (grownCap w s.size 0 5)).size+1)] w.drew.drawn).cell? ⟨w.heap.size,k,none⟩=(bytesRow s (grownCap w s.size 0 5))[k]? :=by
   unfold World.cell? ext
   simp
  rw[h1,bytesRow_at s _ k hk'];congr 3;rw[List.getD_eq_getElem?_getD,List.getElem?_eq_getElem (by simpa using hk')];simp
theorem zin {w:World} {v:Value} {l:List UInt8} (h:By w v l) {t u:TypeId} (hs:Tryz.prog.underlying t=some (.slice 5)) (hu:Tryz.prog.underlying u=some .string):(convert t u v).run Tryz.prog w= .ok (.string (sv l)) w:=by
 obtain⟨a,cap,rfl,_,h⟩:=h;cases a with
 |none=>
  have:l= []:=by
   cases l with
   |nil=>rfl
   |cons c r=>obtain⟨ad,e,_⟩:=h 0 (by simp);cases e
  subst this;exact run_convert_bytes_nil w t 5 hs Tryz.underlying5 _ _ u hu
 |some ad=>
  refine run_convert_bytes_back (P:=Tryz.prog) w t u 5 ad cap l hs Tryz.underlying5 hu (fun j hj=>?_);obtain⟨ad',e,_,hc⟩:=h j hj;injection e with e
  subst e;rw[hc,List.getD_eq_getElem?_getD,List.getElem?_eq_getElem hj]
  rfl
theorem zed (a b:List UInt8):sv a++sv b=sv (a++b):=by
 apply ByteArray.ext;simp[sv]
theorem zdh (l:List UInt8):(sv l).data.toList=l:=by simp[sv]
end Go.Proofs.YtfepanidippjlaaGreatDoor
namespace Go.Proofs.YtfepanidippjlaaGreatDoor.nts
open Go.ChangeShapes Go.WideShapes Go.ChangeAt Go.RowKit
attribute [local go_sem ↓] Go.wp_at_zero Go.wp_at_succ
set_option linter.unusedVariables false
set_option linter.unusedSimpArgs false
set_option maxRecDepth 10000
open S
def ShQ (E:Int) (o:List UInt8) (w:World) (e:Ending) (w':World):Prop:=∃ a n c,e= .returned (.tuple #[.slice a n c,.int .i64 E])∧n=o.length∧By w' (.slice a n c) o∧Keep w w'
set_option maxHeartbeats 8000000 in
theorem all (a0 a1 a2 a3 a4:Int) (aN:Option Addr) (nN cN:Nat) (aS:Option Addr) (nS cS:Nat) (a5 a6:Int) (E:Int) (o:List UInt8) (r:Bool) (w:World)
  (TF1:Hid (∀ w',Keep w w'→Calls Tryz.prog 7 #[.agg #[.int .i64 a0,.int .i64 a1,.int .i64 a2,.int .i64 a3,.int .i64 a4,.slice aN nN cN,.slice aS nS cS,.int .i64 a5,.int .i64 a6]] w' (Ak w')))
  (TS1:Hid (∀ w',Keep w w'→Calls Tryz.prog 8 #[.agg #[.int .i64 a0,.int .i64 a1,.int .i64 a2,.int .i64 a3,.int .i64 a4,.slice aN nN cN,.slice aS nS cS,.int .i64 a5,.int .i64 a6]] w' (ShQ E o w')))
  (TS2:Hid (∀ w',Keep w w'→Calls Tryz.prog 9 #[.agg #[.int .i64 a0,.int .i64 a1,.int .i64 a2,.int .i64 a3,.int .i64 a4,.slice aN nN cN,.slice aS nS cS,.int .i64 a5,.int .i64 a6]] w' (ShQ E o w')))
  (TR1:Hid (∀ w',Keep w w'→Calls Tryz.prog 10 #[.agg #[.int .i64 a0,.int .i64 a1,.int .i64 a2,.int .i64 a3,.int .i64 a4,.slice aN nN cN,.slice aS nS cS,.int .i64 a5,.int .i64 a6]] w' fun e w''=>e= .returned (.bool r)∧Keep w' w''))
  (TR2:Hid (∀ w',Keep w w'→Calls Tryz.prog 11 #[.agg #[.int .i64 a0,.int .i64 a1,.int .i64 a2,.int .i64 a3,.int .i64 a4,.slice aN nN cN,.slice aS nS cS,.int .i64 a5,.int .i64 a6]] w' fun e w''=>e= .returned (.bool r)∧Keep w' w''))
  (TA:Hid (∀ w',Keep w w'→Calls Tryz.prog 12 #[] w' fun e w''=>e= .returned (.bool true)∧Keep w' w'')):
  Calls Tryz.prog 3 #[.agg #[.int .i64 a0,.int .i64 a1,.int .i64 a2,.int .i64 a3,.int .i64 a4,.slice aN nN cN,.slice aS nS cS,.int .i64 a5,.int .i64 a6]] w fun e w'=>e= .returned (.bool true)∧Keep w w':=by
 go_enter Tryz.func3,Tryz.ntmps3
 go_upto_region 1 with fail
 have HK1:=hide ((Keep.refl w).alloc (.cells #[.int .i64 a0,.int .i64 a1,.int .i64 a2,.int .i64 a3,.int .i64 a4,.slice aN nN cN,.slice aS nS cS,.int .i64 a5,.int .i64 a6] 27));have hx:=heap_alloc_new w (.cells #[.int .i64 a0,.int .i64 a1,.int .i64 a2,.int .i64 a3,.int .i64 a4,.slice aN nN cN,.slice aS nS cS,.int .i64 a5,.int .i64 a6] 27);generalize w.alloc (.cells #[.int .i64 a0,.int .i64 a1,.int .i64 a2,.int .i64 a3,.int .i64 a4,.slice aN nN cN,.slice aS nS cS,.int .i64 a5,.int .i64 a6] 27)=w1 at HK1 hx ⊢;generalize w.heap.size=xb at hx ⊢;have HX:Hid (∀ w',Keep w1 w'→w'.cell? ⟨xb,0,none⟩=some (.int .i64 a0)∧w'.cell? ⟨xb,1,none⟩=some (.int .i64 a1)∧w'.cell? ⟨xb,2,none⟩=some (.int .i64 a2)∧w'.cell? ⟨xb,3,none⟩=some (.int .i64 a3)∧w'.cell? ⟨xb,4,none⟩=some (.int .i64 a4)∧w'.cell? ⟨xb,5,none⟩=some (.slice aN nN cN)∧w'.cell? ⟨xb,6,none⟩=some (.slice aS nS cS)∧w'.cell? ⟨xb,7,none⟩=some (.int .i64 a5)∧w'.cell? ⟨xb,8,none⟩=some (.int .i64 a6)):=hide (fun w' k9=>by have h:=k9.block xb (Array.getElem?_eq_some_iff.1 hx).1;rw[hx]at h;refine⟨?_,?_,?_,?_,?_,?_,?_,?_,?_⟩<;>simp[World.cell?,h]);clear hx;obtain⟨p0,p1,p2,p3,p4,p5,p6,p7,p8⟩:=(uq HX) w1 (Keep.refl _);go_wp2_with fail
 (refine((uq TF1) _ (uq HK1)).mono ?_;rintro e w2 ⟨b,rfl,hk⟩;have HL2:=hide hk;have HK2:=hide ((uq HK1).trans hk);clear hk);clear p0 p1 p2 p3 p4 p5 p6 p7 p8;cases b
 ·go_wp2_with fail
  go_ret;exact⟨rfl,uq HK2⟩
 obtain⟨p0,p1,p2,p3,p4,p5,p6,p7,p8⟩:=(uq HX) w2 (uq HL2);go_wp2_with fail
 (refine((uq TS1) _ (uq HK2)).mono ?_;rintro e w4 ⟨s1,l1,c1,rfl,hn,hb,hk⟩;have HB4:=hide hb;have HM4:=hide hk;have HL4:=hide ((uq HL2).trans hk);have HK4:=hide ((uq HK2).trans hk);clear hk hb hn);clear p0 p1 p2 p3 p4 p5 p6 p7 p8;obtain⟨p0,p1,p2,p3,p4,p5,p6,p7,p8⟩:=(uq HX) w4 (uq HL4);go_wp2_with fail
 (refine((uq TS2) _ (uq HK4)).mono ?_;rintro e w5 ⟨s2,l2,c2,rfl,hn,hb,hk⟩;have HB5:=hide hb;have HM5:=hide hk;have HL5:=hide ((uq HL4).trans hk);have HK5:=hide ((uq HK4).trans hk);clear hk hb hn);clear p0 p1 p2 p3 p4 p5 p6 p7 p8;obtain⟨SS,HSS⟩:∃ S,Hid (sv o=S):=⟨_,hide rfl⟩;have HSX:Hid (∀ w',Keep w5 w'→w'.cell? ⟨xb,0,none⟩=some (.int .i64 a0)∧w'.cell? ⟨xb,1,none⟩=some (.int .i64 a1)∧w'.cell? ⟨xb,2,none⟩=some (.int .i64 a2)∧w'.cell? ⟨xb,3,none⟩=some (.int .i64 a3)∧w'.cell? ⟨xb,4,none⟩=some (.int .i64 a4)∧w'.cell? ⟨xb,5,none⟩=some (.slice aN nN cN)∧w'.cell? ⟨xb,6,none⟩=some (.slice aS nS cS)∧w'.cell? ⟨xb,7,none⟩=some (.int .i64 a5)∧w'.cell? ⟨xb,8,none⟩=some (.int .i64 a6)∧(convert 29 9 (.slice s1 l1 c1)).run Tryz.prog w'= .ok (.string SS) w'∧(convert 29 9 (.slice s2 l2 c2)).run Tryz.prog w'= .ok (.string SS) w'):=hide (fun w' k9=>by
   obtain⟨p0,p1,p2,p3,p4,p5,p6,p7,p8⟩:=(uq HX) w' ((uq HL5).trans k9);refine⟨p0,p1,p2,p3,p4,p5,p6,p7,p8,?_,?_⟩
   ·have:=zin ((uq HB4).keep ((uq HM5).trans k9)) (t:=29) (u:=9) Tryz.underlying29 Tryz.underlying9;rwa[uq HSS]at this
   ·have:=zin ((uq HB5).keep k9) (t:=29) (u:=9) Tryz.underlying29 Tryz.underlying9;rwa[uq HSS]at this)
 go_upto_region 5 with fail
 refine wp_region_held_drew (S:=fun w'=>w'.cell? ⟨xb,0,none⟩=some (.int .i64 a0)∧w'.cell? ⟨xb,1,none⟩=some (.int .i64 a1)∧w'.cell? ⟨xb,2,none⟩=some (.int .i64 a2)∧w'.cell? ⟨xb,3,none⟩=some (.int .i64 a3)∧w'.cell? ⟨xb,4,none⟩=some (.int .i64 a4)∧w'.cell? ⟨xb,5,none⟩=some (.slice aN nN cN)∧w'.cell? ⟨xb,6,none⟩=some (.slice aS nS cS)∧w'.cell? ⟨xb,7,none⟩=some (.int .i64 a5)∧w'.cell? ⟨xb,8,none⟩=some (.int .i64 a6)∧(convert 29 9 (.slice s1 l1 c1)).run Tryz.prog w'= .ok (.string SS) w'∧(convert 29 9 (.slice s2 l2 c2)).run Tryz.prog w'= .ok (.string SS) w') (by kernel_rfl) (by exact(uq HSX) _ (Keep.refl w5).drew) (fun hHeld=>?_);refine tkk 0 20 hHeld ?_;try simp only[Act.put,Ya,Yb,Yc]
 refine tkk 1 21 hHeld ?_;try simp only[Act.put,Ya,Yb,Yc]
 refine tkk 2 22 hHeld ?_;try simp only[Act.put,Ya,Yb,Yc]
 refine tkk 3 23 hHeld ?_;try simp only[Act.put,Ya,Yb,Yc]
 refine tkk 4 24 hHeld ?_;try simp only[Act.put,Ya,Yb,Yc]
 refine tkk 5 25 hHeld ?_;try simp only[Act.put,Ya,Yb,Yc]
 refine tkk 6 26 hHeld ?_;try simp only[Act.put,Ya,Yb,Yc]
 refine tkk 7 27 hHeld ?_;try simp only[Act.put,Ya,Yb,Yc]
 refine tkk 8 28 hHeld ?_;try simp only[Act.put,Ya,Yb,Yc]
 refine tkk 9 29 hHeld ?_;try simp only[Act.put,Ya,Yb,Yc]
 refine tkk 10 30 hHeld ?_;try simp only[Act.put,Ya,Yb,Yc]
 refine tkk 11 31 hHeld ?_;try simp only[Act.put,Ya,Yb,Yc]
 refine tkk 13 33 hHeld ?_;try simp only[Act.put,Ya,Yb,Yc]
 refine zaC 12 (fun K hK=>?_);go_simp;clear hHeld;(refine((uq TR1) _ (uq HK5).drew).mono ?_;rintro e w6 ⟨rfl,hk⟩;have HX6:=hide (((Keep.refl w5).drew).trans hk);clear hk);try go_wp2_with fail
 refine hK.out _ _ ?_ (fun hHeld=>?_)
 ·exact(uq HSX) _ (uq HX6)
 clear hK K;try simp only[Act.put,Ya,Yb,Yc]
 refine zaC 14 (fun K hK=>?_);go_simp;clear hHeld;(refine((uq TR2) _ ((uq HK5).trans (uq HX6))).mono ?_;rintro e w7 ⟨rfl,hk⟩;have HX7:=hide ((uq HX6).trans hk);clear hk);try go_wp2_with fail
 refine hK.out _ _ ?_ (fun hHeld=>?_)
 ·exact(uq HSX) _ (uq HX7)
 clear hK K;try simp only[Act.put,Ya,Yb,Yc]
 refine tkk 15 35 hHeld ?_;try simp only[Act.put,Ya,Yb,Yc]
 refine tkk 16 36 hHeld ?_;try simp only[Act.put,Ya,Yb,Yc]
 refine tkk 17 37 hHeld ?_;try simp only[Act.put,Ya,Yb,Yc]
 refine zaC 18 (fun K hK=>?_);go_simp;clear hHeld;(refine((uq TA) _ ((uq HK5).trans (uq HX7))).mono ?_;rintro e w8 ⟨rfl,hk⟩;have HX8:=hide ((uq HX7).trans hk);clear hk);try go_wp2_with fail
 refine hK.out _ _ ?_ (fun hHeld=>?_)
 ·exact(uq HSX) _ (uq HX8)
 clear hK K;try simp only[Act.put,Ya,Yb,Yc]
 refine tkk 19 39 hHeld ?_;try simp only[Act.put,Ya,Yb,Yc]
 refine tkk 20 2 hHeld ?_;try simp only[Act.put,Ya,Yb,Yc]
 refine wpAnyH_done (by kernel_rfl) ?_ _;clear hHeld;go_wp2_with fail
 go_ret;exact⟨rfl,(uq HK5).trans (uq HX8)⟩
end Go.Proofs.YtfepanidippjlaaGreatDoor.nts
