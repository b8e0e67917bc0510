/- The document's Same: two networks held against one another. -/
import Derived.Test.YthceiikgecoimaaGreatDoorMSa
import Derived.Test.YthceiikgecoimaaGreatDoorLVal
import Derived.Deep.DrawnRows
import Derived.Deep.RegionHeld3
namespace Go.Proofs.YthceiikgecoimaaGreatDoor
open Go.RowKit
attribute [local go_sem ↓] Go.wp_at_zero Go.wp_at_succ
set_option linter.unusedVariables false
set_option linter.unusedSimpArgs false
set_option maxRecDepth 10000
set_option maxHeartbeats 16000000 in
theorem zis (a0 a1 a2 a3 a4 a5 a6 b0 b1 b2 b3 b4 b5 b6:Int) (aN aS bN bS:Option Addr) (nN nS mN mS ac ad bc bd:Nat) (X Y:Nat->ByteArray) (PP QQ:Nat->Int) (SA TA:Nat->Nat->Option Addr) (SN SC TN TC:Nat->Nat->Nat) (RS:Bool) (R:Nat->Nat->Bool) (E:Nat->Bool) (C r:Bool) (w:World) (hn:nN<=100000) (hm:mN<=100000)
  (TS:Hid (∀ w',Keep w w'->Calls Tryz.prog 24 #[.slice aS nS ad,.slice bS mS bd,.bool false] w' λe w''=>e= .returned (.bool RS)/\Keep w' w''))
  (HA:Hid (∀ k,k<nN->∃ ad,aN=some ad/\w.cell? (ad.add (k * 7))=some (.string (X k))/\w.cell? ⟨(ad.add (k * 7)).block,(ad.add (k * 7)).off+1,none⟩=some (.slice (SA 1 k) (SN 1 k) (SC 1 k))/\w.cell? ⟨(ad.add (k * 7)).block,(ad.add (k * 7)).off+2,none⟩=some (.slice (SA 2 k) (SN 2 k) (SC 2 k))/\w.cell? ⟨(ad.add (k * 7)).block,(ad.add (k * 7)).off+3,none⟩=some (.slice (SA 3 k) (SN 3 k) (SC 3 k))/\w.cell? ⟨(ad.add (k * 7)).block,(ad.add (k * 7)).off+4,none⟩=some (.slice (SA 4 k) (SN 4 k) (SC 4 k))/\w.cell? ⟨(ad.add (k * 7)).block,(ad.add (k * 7)).off+5,none⟩=some (.slice (SA 5 k) (SN 5 k) (SC 5 k))/\w.cell? ⟨(ad.add (k * 7)).block,(ad.add (k * 7)).off+6,none⟩=some (.int .i64 (PP k))))
  (HB:Hid (∀ k,k<mN->∃ ad,bN=some ad/\w.cell? (ad.add (k * 7))=some (.string (Y k))/\w.cell? ⟨(ad.add (k * 7)).block,(ad.add (k * 7)).off+1,none⟩=some (.slice (TA 1 k) (TN 1 k) (TC 1 k))/\w.cell? ⟨(ad.add (k * 7)).block,(ad.add (k * 7)).off+2,none⟩=some (.slice (TA 2 k) (TN 2 k) (TC 2 k))/\w.cell? ⟨(ad.add (k * 7)).block,(ad.add (k * 7)).off+3,none⟩=some (.slice (TA 3 k) (TN 3 k) (TC 3 k))/\w.cell? ⟨(ad.add (k * 7)).block,(ad.add (k * 7)).off+4,none⟩=some (.slice (TA 4 k) (TN 4 k) (TC 4 k))/\w.cell? ⟨(ad.add (k * 7)).block,(ad.add (k * 7)).off+5,none⟩=some (.slice (TA 5 k) (TN 5 k) (TC 5 k))/\w.cell? ⟨(ad.add (k * 7)).block,(ad.add (k * 7)).off+6,none⟩=some (.int .i64 (QQ k))))
  (T1:Hid (∀ k,k<nN->k<mN->∀ w',Keep w w'->Calls Tryz.prog 25 #[.slice (SA 1 k) (SN 1 k) (SC 1 k),.slice (TA 1 k) (TN 1 k) (TC 1 k),.bool false] w' λe w''=>e= .returned (.bool (R 1 k))/\Keep w' w''))
  (T2:Hid (∀ k,k<nN->k<mN->∀ w',Keep w w'->Calls Tryz.prog 26 #[.slice (SA 2 k) (SN 2 k) (SC 2 k),.slice (TA 2 k) (TN 2 k) (TC 2 k),.bool false] w' λe w''=>e= .returned (.bool (R 2 k))/\Keep w' w''))
  (T3:Hid (∀ k,k<nN->k<mN->∀ w',Keep w w'->Calls Tryz.prog 27 #[.slice (SA 3 k) (SN 3 k) (SC 3 k),.slice (TA 3 k) (TN 3 k) (TC 3 k),.bool false] w' λe w''=>e= .returned (.bool (R 3 k))/\Keep w' w''))
  (T4:Hid (∀ k,k<nN->k<mN->∀ w',Keep w w'->Calls Tryz.prog 28 #[.slice (SA 4 k) (SN 4 k) (SC 4 k),.slice (TA 4 k) (TN 4 k) (TC 4 k)] w' λe w''=>e= .returned (.bool (R 4 k))/\Keep w' w''))
  (T5:Hid (∀ k,k<nN->k<mN->∀ w',Keep w w'->Calls Tryz.prog 29 #[.slice (SA 5 k) (SN 5 k) (SC 5 k),.slice (TA 5 k) (TN 5 k) (TC 5 k),.bool false] w' λe w''=>e= .returned (.bool (R 5 k))/\Keep w' w''))
  (HE:Hid (∀ k,((X k).toList==(Y k).toList&&(true&&(R 1 k&&(R 2 k&&(R 3 k&&(R 4 k&&R 5 k))))))=E k))
  (HC:Hid ((a0==b0&&(a1==b1&&(a2==b2&&(a3==b3&&(a4==b4&&(a5==b5&&(a6==b6&&(nN==mN&&RS))))))))=C))
  (H0:Hid (C=false->r=false)) (H1:Hid (C=true->∀ k,k<nN->E k=false->r=false)) (H2:Hid (C=true->(∀ k,k<nN->E k=true)->r=true)):
  Calls Tryz.prog 10 #[.agg #[.int .i64 a0,.int .i64 a1,.int .i64 a2,.int .i64 a3,.int .i64 a4,.slice aN nN ac,.slice aS nS ad,.int .i64 a5,.int .i64 a6],.agg #[.int .i64 b0,.int .i64 b1,.int .i64 b2,.int .i64 b3,.int .i64 b4,.slice bN mN bc,.slice bS mS bd,.int .i64 b5,.int .i64 b6],.bool false] w λe w'=>e= .returned (.bool r)/\Keep w w':=by
 have HK0:=zh (((zk w).alloc (.cells #[.int .i64 a0,.int .i64 a1,.int .i64 a2,.int .i64 a3,.int .i64 a4,.slice aN nN ac,.slice aS nS ad,.int .i64 a5,.int .i64 a6] 27)).alloc (.cells #[.int .i64 b0,.int .i64 b1,.int .i64 b2,.int .i64 b3,.int .i64 b4,.slice bN mN bc,.slice bS mS bd,.int .i64 b5,.int .i64 b6] 27));have hb1:=zcb w (.cells #[.int .i64 a0,.int .i64 a1,.int .i64 a2,.int .i64 a3,.int .i64 a4,.slice aN nN ac,.slice aS nS ad,.int .i64 a5,.int .i64 a6] 27) (.cells #[.int .i64 b0,.int .i64 b1,.int .i64 b2,.int .i64 b3,.int .i64 b4,.slice bN mN bc,.slice bS mS bd,.int .i64 b5,.int .i64 b6] 27);have hb2:=bxs_new w (.cells #[.int .i64 a0,.int .i64 a1,.int .i64 a2,.int .i64 a3,.int .i64 a4,.slice aN nN ac,.slice aS nS ad,.int .i64 a5,.int .i64 a6] 27) (.cells #[.int .i64 b0,.int .i64 b1,.int .i64 b2,.int .i64 b3,.int .i64 b4,.slice bN mN bc,.slice bS mS bd,.int .i64 b5,.int .i64 b6] 27);have HB1:Hid (Bxs ((w.alloc (.cells #[.int .i64 a0,.int .i64 a1,.int .i64 a2,.int .i64 a3,.int .i64 a4,.slice aN nN ac,.slice aS nS ad,.int .i64 a5,.int .i64 a6] 27)).alloc (.cells #[.int .i64 b0,.int .i64 b1,.int .i64 b2,.int .i64 b3,.int .i64 b4,.slice bN mN bc,.slice bS mS bd,.int .i64 b5,.int .i64 b6] 27)) w.heap.size #[.int .i64 a0,.int .i64 a1,.int .i64 a2,.int .i64 a3,.int .i64 a4,.slice aN nN ac,.slice aS nS ad,.int .i64 a5,.int .i64 a6] 27):=zh hb1;have HB2:Hid (Bxs ((w.alloc (.cells #[.int .i64 a0,.int .i64 a1,.int .i64 a2,.int .i64 a3,.int .i64 a4,.slice aN nN ac,.slice aS nS ad,.int .i64 a5,.int .i64 a6] 27)).alloc (.cells #[.int .i64 b0,.int .i64 b1,.int .i64 b2,.int .i64 b3,.int .i64 b4,.slice bN mN bc,.slice bS mS bd,.int .i64 b5,.int .i64 b6] 27)) (w.heap.size+1) #[.int .i64 b0,.int .i64 b1,.int .i64 b2,.int .i64 b3,.int .i64 b4,.slice bN mN bc,.slice bS mS bd,.int .i64 b5,.int .i64 b6] 27):=zh hb2;clear hb1 hb2;have HPQ:=zh (Nat.le_refl w.heap.size);go_enter Tryz.func10,Tryz.ntmps10
 go_upto_region 1 with fail
 generalize (w.alloc (.cells #[.int .i64 a0,.int .i64 a1,.int .i64 a2,.int .i64 a3,.int .i64 a4,.slice aN nN ac,.slice aS nS ad,.int .i64 a5,.int .i64 a6] 27)).alloc (.cells #[.int .i64 b0,.int .i64 b1,.int .i64 b2,.int .i64 b3,.int .i64 b4,.slice bN mN bc,.slice bS mS bd,.int .i64 b5,.int .i64 b6] 27)=w1 at HK0 HB1 HB2 |-;generalize w.heap.size+1=yb at HB2 |-;generalize hxb:w.heap.size=xb at HB1 |-;clear hxb;have ca0:w1.cell? ⟨xb,0,none⟩=some (.int .i64 a0):=by have h:=uq HB1;unfold Bxs at h;simp[World.cell?,h]
 have cb0:w1.cell? ⟨yb,0,none⟩=some (.int .i64 b0):=by have h:=uq HB2;unfold Bxs at h;simp[World.cell?,h]
 have ca1:w1.cell? ⟨xb,1,none⟩=some (.int .i64 a1):=by have h:=uq HB1;unfold Bxs at h;simp[World.cell?,h]
 have cb1:w1.cell? ⟨yb,1,none⟩=some (.int .i64 b1):=by have h:=uq HB2;unfold Bxs at h;simp[World.cell?,h]
 have ca2:w1.cell? ⟨xb,2,none⟩=some (.int .i64 a2):=by have h:=uq HB1;unfold Bxs at h;simp[World.cell?,h]
 have cb2:w1.cell? ⟨yb,2,none⟩=some (.int .i64 b2):=by have h:=uq HB2;unfold Bxs at h;simp[World.cell?,h]
 have ca3:w1.cell? ⟨xb,3,none⟩=some (.int .i64 a3):=by have h:=uq HB1;unfold Bxs at h;simp[World.cell?,h]
 have cb3:w1.cell? ⟨yb,3,none⟩=some (.int .i64 b3):=by have h:=uq HB2;unfold Bxs at h;simp[World.cell?,h]
 have ca4:w1.cell? ⟨xb,4,none⟩=some (.int .i64 a4):=by have h:=uq HB1;unfold Bxs at h;simp[World.cell?,h]
 have cb4:w1.cell? ⟨yb,4,none⟩=some (.int .i64 b4):=by have h:=uq HB2;unfold Bxs at h;simp[World.cell?,h]
 have ca5:w1.cell? ⟨xb,5,none⟩=some (.slice aN nN ac):=by have h:=uq HB1;unfold Bxs at h;simp[World.cell?,h]
 have cb5:w1.cell? ⟨yb,5,none⟩=some (.slice bN mN bc):=by have h:=uq HB2;unfold Bxs at h;simp[World.cell?,h]
 have ca6:w1.cell? ⟨xb,6,none⟩=some (.slice aS nS ad):=by have h:=uq HB1;unfold Bxs at h;simp[World.cell?,h]
 have cb6:w1.cell? ⟨yb,6,none⟩=some (.slice bS mS bd):=by have h:=uq HB2;unfold Bxs at h;simp[World.cell?,h]
 have ca7:w1.cell? ⟨xb,7,none⟩=some (.int .i64 a5):=by have h:=uq HB1;unfold Bxs at h;simp[World.cell?,h]
 have cb7:w1.cell? ⟨yb,7,none⟩=some (.int .i64 b5):=by have h:=uq HB2;unfold Bxs at h;simp[World.cell?,h]
 have ca8:w1.cell? ⟨xb,8,none⟩=some (.int .i64 a6):=by have h:=uq HB1;unfold Bxs at h;simp[World.cell?,h]
 have cb8:w1.cell? ⟨yb,8,none⟩=some (.int .i64 b6):=by have h:=uq HB2;unfold Bxs at h;simp[World.cell?,h]
 have CA5:=zh ca5;have CB5:=zh cb5;clear HB1 HB2;by_cases e0:a0=b0
 rotate_left
 ·have d0:(a0 !=b0)=true:=by simpa using e0
  have g0:(a0==b0)=false:=by simpa using e0
  have hC:C=false:=by rw[<- uq HC];simp[*]
  have hr:=(uq H0) hC;subst hr;go_wp2_with fail
  go_ret;exact⟨rfl,uq HK0⟩
 have d0:(a0 !=b0)=false:=by simpa using e0
 have g0:(a0==b0)=true:=by simpa using e0
 by_cases e1:a1=b1
 rotate_left
 ·have d1:(a1 !=b1)=true:=by simpa using e1
  have g1:(a1==b1)=false:=by simpa using e1
  have hC:C=false:=by rw[<- uq HC];simp[*]
  have hr:=(uq H0) hC;subst hr;go_wp2_with fail
  go_ret;exact⟨rfl,uq HK0⟩
 have d1:(a1 !=b1)=false:=by simpa using e1
 have g1:(a1==b1)=true:=by simpa using e1
 by_cases e2:a2=b2
 rotate_left
 ·have d2:(a2 !=b2)=true:=by simpa using e2
  have g2:(a2==b2)=false:=by simpa using e2
  have hC:C=false:=by rw[<- uq HC];simp[*]
  have hr:=(uq H0) hC;subst hr;go_wp2_with fail
  go_ret;exact⟨rfl,uq HK0⟩
 have d2:(a2 !=b2)=false:=by simpa using e2
 have g2:(a2==b2)=true:=by simpa using e2
 by_cases e3:a3=b3
 rotate_left
 ·have d3:(a3 !=b3)=true:=by simpa using e3
  have g3:(a3==b3)=false:=by simpa using e3
  have hC:C=false:=by rw[<- uq HC];simp[*]
  have hr:=(uq H0) hC;subst hr;go_wp2_with fail
  go_ret;exact⟨rfl,uq HK0⟩
 have d3:(a3 !=b3)=false:=by simpa using e3
 have g3:(a3==b3)=true:=by simpa using e3
 by_cases e4:a4=b4
 rotate_left
 ·have d4:(a4 !=b4)=true:=by simpa using e4
  have g4:(a4==b4)=false:=by simpa using e4
  have hC:C=false:=by rw[<- uq HC];simp[*]
  have hr:=(uq H0) hC;subst hr;go_wp2_with fail
  go_ret;exact⟨rfl,uq HK0⟩
 have d4:(a4 !=b4)=false:=by simpa using e4
 have g4:(a4==b4)=true:=by simpa using e4
 by_cases e5:a5=b5
 rotate_left
 ·have d5:(a5 !=b5)=true:=by simpa using e5
  have g5:(a5==b5)=false:=by simpa using e5
  have hC:C=false:=by rw[<- uq HC];simp[*]
  have hr:=(uq H0) hC;subst hr;go_wp2_with fail
  go_ret;exact⟨rfl,uq HK0⟩
 have d5:(a5 !=b5)=false:=by simpa using e5
 have g5:(a5==b5)=true:=by simpa using e5
 by_cases e6:a6=b6
 rotate_left
 ·have d6:(a6 !=b6)=true:=by simpa using e6
  have g6:(a6==b6)=false:=by simpa using e6
  have hC:C=false:=by rw[<- uq HC];simp[*]
  have hr:=(uq H0) hC;subst hr;go_wp2_with fail
  go_ret;exact⟨rfl,uq HK0⟩
 have d6:(a6 !=b6)=false:=by simpa using e6
 have g6:(a6==b6)=true:=by simpa using e6
 by_cases e7:nN=mN
 rotate_left
 ·have d7:((nN:Int) !=(mN:Int))=true:=by simp;omega
  have g7:((nN:Int)==(mN:Int))=false:=by simp;omega
  have f7:¬(nN:Int)=(mN:Int):=by omega
  have hC:C=false:=by rw[<- uq HC];simp[*]
  have hr:=(uq H0) hC;subst hr;go_wp2_with fail
  go_ret;exact⟨rfl,uq HK0⟩
 subst e0 e1 e2 e3 e4 e5 e6 e7;clear d0 g0 d1 g1 d2 g2 d3 g3 d4 g4 d5 g5 d6 g6;cases RS with
 |false=>
  have hC:C=false:=by rw[<- uq HC];simp[*]
  have hr:=(uq H0) hC;subst hr;go_wp2_with fail
  (refine((uq TS) _ (uq HK0)).mono ?_;rintro e w2 ⟨rfl,hk2⟩;replace HK0:=zh ((uq HK0).trans hk2);clear hk2);go_wp2_with fail
  go_ret;exact⟨rfl,uq HK0⟩
 |true=>
  have hC:C=true:=by rw[<- uq HC];simp
  replace H1:=zh ((uq H1) hC);replace H2:=zh ((uq H2) hC);clear hC HC H0;go_wp2_with fail
  (refine((uq TS) _ (uq HK0)).mono ?_;rintro e w2 ⟨rfl,hk2⟩;have HK2:=zh ((uq HK0).trans hk2);replace CA5:=zh (Keep.cell' hk2 (uq CA5));replace CB5:=zh (Keep.cell' hk2 (uq CB5));clear hk2);clear ca0 cb0 ca1 cb1 ca2 cb2 ca3 cb3 ca4 cb4 ca5 cb5 ca6 cb6 ca7 cb7 ca8 cb8 HK0;have ca5:=uq CA5;have cb5:=uq CB5;go_wp2_with fail
  go_loopw [7] (λv7 wr=>∃ k:Nat,k<=nN/\v7= .int .i64 (k:Int)/\Hid (Keep w2 wr)/\Hid (∀ j,j<k->E j=true)) (λv7 _=>nN - (intOf v7).toNat)
  case atStart=>exact⟨0,Nat.zero_le _,rfl,zh (zk _),zh λj hj=>by omega⟩
  case round=>
   obtain⟨k,hk,rfl,HK,HI⟩:=hrel;replace ca5:=Keep.cell' (uq HK) (uq CA5);replace cb5:=Keep.cell' (uq HK) (uq CB5);by_cases hlt:k<nN
   ·have li:(k:Int)<(nN:Int):=by omega
    have lz:(0:Int)<=(k:Int):=by omega
    obtain⟨xd,rfl,p0,p1,p2,p3,p4,p5,p6⟩:=(uq HA) k hlt;obtain⟨yd,rfl,q0,q1,q2,q3,q4,q5,q6⟩:=(uq HB) k hlt;have he:=(uq HE) k;have HF:=zh ((uq H1) k hlt);have U1:=zh ((uq T1) k hlt hlt);have U2:=zh ((uq T2) k hlt hlt);have U3:=zh ((uq T3) k hlt hlt);have U4:=zh ((uq T4) k hlt hlt);have U5:=zh ((uq T5) k hlt hlt);generalize hE:E k=ek at he HF;have HEK:=zh hE;clear hE;generalize X k=x0 at p0 he;generalize Y k=y0 at q0 he;generalize PP k=p at p6;generalize QQ k=q at q6;generalize SA 1 k=s1a at p1 U1;generalize SN 1 k=s1n at p1 U1;generalize SC 1 k=s1c at p1 U1;generalize TA 1 k=t1a at q1 U1;generalize TN 1 k=t1n at q1 U1;generalize TC 1 k=t1c at q1 U1;generalize R 1 k=r1 at U1 he;generalize SA 2 k=s2a at p2 U2;generalize SN 2 k=s2n at p2 U2;generalize SC 2 k=s2c at p2 U2;generalize TA 2 k=t2a at q2 U2;generalize TN 2 k=t2n at q2 U2;generalize TC 2 k=t2c at q2 U2;generalize R 2 k=r2 at U2 he;generalize SA 3 k=s3a at p3 U3;generalize SN 3 k=s3n at p3 U3;generalize SC 3 k=s3c at p3 U3;generalize TA 3 k=t3a at q3 U3;generalize TN 3 k=t3n at q3 U3;generalize TC 3 k=t3c at q3 U3;generalize R 3 k=r3 at U3 he;generalize SA 4 k=s4a at p4 U4;generalize SN 4 k=s4n at p4 U4;generalize SC 4 k=s4c at p4 U4;generalize TA 4 k=t4a at q4 U4;generalize TN 4 k=t4n at q4 U4;generalize TC 4 k=t4c at q4 U4;generalize R 4 k=r4 at U4 he;generalize SA 5 k=s5a at p5 U5;generalize SN 5 k=s5n at p5 U5;generalize SC 5 k=s5c at p5 U5;generalize TA 5 k=t5a at q5 U5;generalize TN 5 k=t5n at q5 U5;generalize TC 5 k=t5c at q5 U5;generalize R 5 k=r5 at U5 he;have HC:Hid (∀ w',Keep w2 w'->w'.cell? (xd.add (k * 7))=some (.string x0)/\w'.cell? ⟨(xd.add (k * 7)).block,(xd.add (k * 7)).off+1,none⟩=some (.slice s1a s1n s1c)/\w'.cell? ⟨(xd.add (k * 7)).block,(xd.add (k * 7)).off+2,none⟩=some (.slice s2a s2n s2c)/\w'.cell? ⟨(xd.add (k * 7)).block,(xd.add (k * 7)).off+3,none⟩=some (.slice s3a s3n s3c)/\w'.cell? ⟨(xd.add (k * 7)).block,(xd.add (k * 7)).off+4,none⟩=some (.slice s4a s4n s4c)/\w'.cell? ⟨(xd.add (k * 7)).block,(xd.add (k * 7)).off+5,none⟩=some (.slice s5a s5n s5c)/\w'.cell? ⟨(xd.add (k * 7)).block,(xd.add (k * 7)).off+6,none⟩=some (.int .i64 p)/\w'.cell? (yd.add (k * 7))=some (.string y0)/\w'.cell? ⟨(yd.add (k * 7)).block,(yd.add (k * 7)).off+1,none⟩=some (.slice t1a t1n t1c)/\w'.cell? ⟨(yd.add (k * 7)).block,(yd.add (k * 7)).off+2,none⟩=some (.slice t2a t2n t2c)/\w'.cell? ⟨(yd.add (k * 7)).block,(yd.add (k * 7)).off+3,none⟩=some (.slice t3a t3n t3c)/\w'.cell? ⟨(yd.add (k * 7)).block,(yd.add (k * 7)).off+4,none⟩=some (.slice t4a t4n t4c)/\w'.cell? ⟨(yd.add (k * 7)).block,(yd.add (k * 7)).off+5,none⟩=some (.slice t5a t5n t5c)/\w'.cell? ⟨(yd.add (k * 7)).block,(yd.add (k * 7)).off+6,none⟩=some (.int .i64 q)/\w'.cell? ⟨xb,5,none⟩=some (.slice (some xd) nN ac)/\w'.cell? ⟨yb,5,none⟩=some (.slice (some yd) nN bc)):=λw' hk=>⟨Keep.cell' ((uq HK2).trans hk) p0,Keep.cell' ((uq HK2).trans hk) p1,Keep.cell' ((uq HK2).trans hk) p2,Keep.cell' ((uq HK2).trans hk) p3,Keep.cell' ((uq HK2).trans hk) p4,Keep.cell' ((uq HK2).trans hk) p5,Keep.cell' ((uq HK2).trans hk) p6,Keep.cell' ((uq HK2).trans hk) q0,Keep.cell' ((uq HK2).trans hk) q1,Keep.cell' ((uq HK2).trans hk) q2,Keep.cell' ((uq HK2).trans hk) q3,Keep.cell' ((uq HK2).trans hk) q4,Keep.cell' ((uq HK2).trans hk) q5,Keep.cell' ((uq HK2).trans hk) q6,Keep.cell' hk (uq CA5),Keep.cell' hk (uq CB5)⟩
    clear p0 q0 p1 q1 p2 q2 p3 q3 p4 q4 p5 q5 p6 q6;have HEQ:=zh he;clear he
    go_upto_region 6 with fail
    clear ca5 cb5
    go_cut [8,9] (λs8 s9 wc=>∃ pb qb,s8= .pointer (some ⟨pb,0,none⟩)/\s9= .pointer (some ⟨qb,0,none⟩)/\Bxs wc pb #[.string x0,.slice s1a s1n s1c,.slice s2a s2n s2c,.slice s3a s3n s3c,.slice s4a s4n s4c,.slice s5a s5n s5c,.int .i64 p] 45/\Bxs wc qb #[.string y0,.slice t1a t1n t1c,.slice t2a t2n t2c,.slice t3a t3n t3c,.slice t4a t4n t4c,.slice t5a t5n t5c,.int .i64 q] 45/\Keep w2 wc)
    case first=>
     refine wp_region_held_drew (S:=(λw'=>w'.cell? (xd.add (k * 7))=some (.string x0)/\w'.cell? ⟨(xd.add (k * 7)).block,(xd.add (k * 7)).off+1,none⟩=some (.slice s1a s1n s1c)/\w'.cell? ⟨(xd.add (k * 7)).block,(xd.add (k * 7)).off+2,none⟩=some (.slice s2a s2n s2c)/\w'.cell? ⟨(xd.add (k * 7)).block,(xd.add (k * 7)).off+3,none⟩=some (.slice s3a s3n s3c)/\w'.cell? ⟨(xd.add (k * 7)).block,(xd.add (k * 7)).off+4,none⟩=some (.slice s4a s4n s4c)/\w'.cell? ⟨(xd.add (k * 7)).block,(xd.add (k * 7)).off+5,none⟩=some (.slice s5a s5n s5c)/\w'.cell? ⟨(xd.add (k * 7)).block,(xd.add (k * 7)).off+6,none⟩=some (.int .i64 p)/\w'.cell? (yd.add (k * 7))=some (.string y0)/\w'.cell? ⟨(yd.add (k * 7)).block,(yd.add (k * 7)).off+1,none⟩=some (.slice t1a t1n t1c)/\w'.cell? ⟨(yd.add (k * 7)).block,(yd.add (k * 7)).off+2,none⟩=some (.slice t2a t2n t2c)/\w'.cell? ⟨(yd.add (k * 7)).block,(yd.add (k * 7)).off+3,none⟩=some (.slice t3a t3n t3c)/\w'.cell? ⟨(yd.add (k * 7)).block,(yd.add (k * 7)).off+4,none⟩=some (.slice t4a t4n t4c)/\w'.cell? ⟨(yd.add (k * 7)).block,(yd.add (k * 7)).off+5,none⟩=some (.slice t5a t5n t5c)/\w'.cell? ⟨(yd.add (k * 7)).block,(yd.add (k * 7)).off+6,none⟩=some (.int .i64 q)/\w'.cell? ⟨xb,5,none⟩=some (.slice (some xd) nN ac)/\w'.cell? ⟨yb,5,none⟩=some (.slice (some yd) nN bc))) (by kernel_rfl) (by exact uq HC _ ((uq HK).trans ((zk _).drew))) (λzH=>?_);refine tk6 0 75 1 76 2 77 3 78 4 79 5 80 zH ?_;try simp only[Yq]
     refine tk4 6 81 7 82 8 83 9 84 zH ?_;try simp only[Yq]
     refine wpAnyH_ready (rs:= [10,11]) (by kernel_rfl) (by simp) ?_;refine AllReadyH.cons rfl (λK hK=>?_) (AllReadyH.cons rfl (λK hK=>?_) AllReadyH.nil)
     ·skip
      go_simp;clear zH;refine hK.out _ _ ?_ (λzH=>?_)
      ·exact uq HC _ ((uq HK).trans (by repeat(first|(refine Below.setCell ?_ (by simp) _)|apply zaa|apply Keep.alloc|apply Keep.drew|exact zk _)))
      clear hK K;try simp only[Yq]
      refine zaq 11 (λK hK=>?_);go_simp;clear zH;refine hK.out _ _ ?_ (λzH=>?_)
      ·exact uq HC _ ((uq HK).trans (by repeat(first|(refine Below.setCell ?_ (by simp) _)|apply zaa|apply Keep.alloc|apply Keep.drew|exact zk _)))
      clear hK K;try simp only[Yq]
      refine zaq 12 (λK hK=>?_);go_simp;clear zH;refine hK.out _ _ ?_ (λzH=>?_)
      ·exact uq HC _ ((uq HK).trans (by repeat(first|(refine Below.setCell ?_ (by simp) _)|apply zaa|apply Keep.alloc|apply Keep.drew|exact zk _)))
      clear hK K;try simp only[Yq]
      refine zaq 13 (λK hK=>?_);go_simp;clear zH;refine hK.out _ _ ?_ (λzH=>?_)
      ·exact uq HC _ ((uq HK).trans (by repeat(first|(refine Below.setCell ?_ (by simp) _)|apply zaa|apply Keep.alloc|apply Keep.drew|exact zk _)))
      clear hK K;try simp only[Yq]
      refine wpAnyH_done (by kernel_rfl) ?_ _;clear zH;go_wp2_with fail
      go_meet;exact⟨_,_,rfl,rfl,zcb _ _ _,bxs_new _ _ _,(uq HK).trans (by repeat(first|apply Keep.drew|apply Keep.alloc|exact zk _))⟩
     ·skip
      go_simp;clear zH;refine hK.out _ _ ?_ (λzH=>?_)
      ·exact uq HC _ ((uq HK).trans (by repeat(first|(refine Below.setCell ?_ (by simp) _)|apply zaa|apply Keep.alloc|apply Keep.drew|exact zk _)))
      clear hK K;try simp only[Yq]
      refine zaq 10 (λK hK=>?_);go_simp;clear zH;refine hK.out _ _ ?_ (λzH=>?_)
      ·exact uq HC _ ((uq HK).trans (by repeat(first|(refine Below.setCell ?_ (by simp) _)|apply zaa|apply Keep.alloc|apply Keep.drew|exact zk _)))
      clear hK K;try simp only[Yq]
      refine zaq 12 (λK hK=>?_);go_simp;clear zH;refine hK.out _ _ ?_ (λzH=>?_)
      ·exact uq HC _ ((uq HK).trans (by repeat(first|(refine Below.setCell ?_ (by simp) _)|apply zaa|apply Keep.alloc|apply Keep.drew|exact zk _)))
      clear hK K;try simp only[Yq]
      refine zaq 13 (λK hK=>?_);go_simp;clear zH;refine hK.out _ _ ?_ (λzH=>?_)
      ·exact uq HC _ ((uq HK).trans (by repeat(first|(refine Below.setCell ?_ (by simp) _)|apply zaa|apply Keep.alloc|apply Keep.drew|exact zk _)))
      clear hK K;try simp only[Yq]
      refine wpAnyH_done (by kernel_rfl) ?_ _;clear zH;go_wp2_with fail
      go_meet;exact⟨_,_,rfl,rfl,bxs_new _ _ _,zcb _ _ _,(uq HK).trans (by repeat(first|apply Keep.drew|apply Keep.alloc|exact zk _))⟩
    case rest=>
     obtain⟨pb,qb,rfl,rfl,bp,bq,hkc⟩:=hcut;have HKC:=zh hkc;have HWC:=zh ((uq HK2).trans hkc);have cx0:wc.cell? ⟨pb,0,none⟩=some (.string x0):=by unfold Bxs at bp;simp[World.cell?,bp]
     have cy0:wc.cell? ⟨qb,0,none⟩=some (.string y0):=by unfold Bxs at bq;simp[World.cell?,bq]
     have cx1:wc.cell? ⟨pb,1,none⟩=some (.slice s1a s1n s1c):=by unfold Bxs at bp;simp[World.cell?,bp]
     have cy1:wc.cell? ⟨qb,1,none⟩=some (.slice t1a t1n t1c):=by unfold Bxs at bq;simp[World.cell?,bq]
     have cx2:wc.cell? ⟨pb,2,none⟩=some (.slice s2a s2n s2c):=by unfold Bxs at bp;simp[World.cell?,bp]
     have cy2:wc.cell? ⟨qb,2,none⟩=some (.slice t2a t2n t2c):=by unfold Bxs at bq;simp[World.cell?,bq]
     have cx3:wc.cell? ⟨pb,3,none⟩=some (.slice s3a s3n s3c):=by unfold Bxs at bp;simp[World.cell?,bp]
     have cy3:wc.cell? ⟨qb,3,none⟩=some (.slice t3a t3n t3c):=by unfold Bxs at bq;simp[World.cell?,bq]
     have cx4:wc.cell? ⟨pb,4,none⟩=some (.slice s4a s4n s4c):=by unfold Bxs at bp;simp[World.cell?,bp]
     have cy4:wc.cell? ⟨qb,4,none⟩=some (.slice t4a t4n t4c):=by unfold Bxs at bq;simp[World.cell?,bq]
     have cx5:wc.cell? ⟨pb,5,none⟩=some (.slice s5a s5n s5c):=by unfold Bxs at bp;simp[World.cell?,bp]
     have cy5:wc.cell? ⟨qb,5,none⟩=some (.slice t5a t5n t5c):=by unfold Bxs at bq;simp[World.cell?,bq]
     have cx6:wc.cell? ⟨pb,6,none⟩=some (.int .i64 p):=by unfold Bxs at bp;simp[World.cell?,bp]
     have cy6:wc.cell? ⟨qb,6,none⟩=some (.int .i64 q):=by unfold Bxs at bq;simp[World.cell?,bq]
     clear bp bq hkc HK;by_cases h0:x0.toList=y0.toList
     rotate_left
     ·have h1:(x0.toList==y0.toList)=false:=by simpa using h0
      have h2:(x0.toList !=y0.toList)=true:=by simpa using h0
      have hek:ek=false:=by rw[<- uq HEQ];simp[*]
      have hr:=(uq HF) hek;subst hr;go_wp2_with fail
      go_ret;exact⟨rfl,uq HWC⟩
     have h1:(x0.toList==y0.toList)=true:=by simpa using h0
     have h2:(x0.toList !=y0.toList)=false:=by simpa using h0
     cases r1 with
     |false=>
      have hek:ek=false:=by rw[<- uq HEQ];simp[*]
      have hr:=(uq HF) hek;subst hr;go_wp2_with fail
      (refine((uq U1) _ (uq HWC)).mono ?_;rintro e w3 ⟨rfl,hk2⟩;replace HWC:=zh ((uq HWC).trans hk2);replace HKC:=zh ((uq HKC).trans hk2)
       replace cx0:=Keep.cell' hk2 cx0;replace cy0:=Keep.cell' hk2 cy0;replace cx1:=Keep.cell' hk2 cx1;replace cy1:=Keep.cell' hk2 cy1;replace cx2:=Keep.cell' hk2 cx2;replace cy2:=Keep.cell' hk2 cy2;replace cx3:=Keep.cell' hk2 cx3;replace cy3:=Keep.cell' hk2 cy3;replace cx4:=Keep.cell' hk2 cx4;replace cy4:=Keep.cell' hk2 cy4;replace cx5:=Keep.cell' hk2 cx5;replace cy5:=Keep.cell' hk2 cy5;replace cx6:=Keep.cell' hk2 cx6;replace cy6:=Keep.cell' hk2 cy6;clear hk2)
      go_wp2_with fail
      go_ret;exact⟨rfl,uq HWC⟩
     |true=>
      cases r2 with
      |false=>
       have hek:ek=false:=by rw[<- uq HEQ];simp[*]
       have hr:=(uq HF) hek;subst hr;go_wp2_with fail
       (refine((uq U1) _ (uq HWC)).mono ?_;rintro e w3 ⟨rfl,hk2⟩;replace HWC:=zh ((uq HWC).trans hk2);replace HKC:=zh ((uq HKC).trans hk2)
        replace cx0:=Keep.cell' hk2 cx0;replace cy0:=Keep.cell' hk2 cy0;replace cx1:=Keep.cell' hk2 cx1;replace cy1:=Keep.cell' hk2 cy1;replace cx2:=Keep.cell' hk2 cx2;replace cy2:=Keep.cell' hk2 cy2;replace cx3:=Keep.cell' hk2 cx3;replace cy3:=Keep.cell' hk2 cy3;replace cx4:=Keep.cell' hk2 cx4;replace cy4:=Keep.cell' hk2 cy4;replace cx5:=Keep.cell' hk2 cx5;replace cy5:=Keep.cell' hk2 cy5;replace cx6:=Keep.cell' hk2 cx6;replace cy6:=Keep.cell' hk2 cy6;clear hk2)
       go_wp2_with fail
       (refine((uq U2) _ (uq HWC)).mono ?_;rintro e w4 ⟨rfl,hk2⟩;replace HWC:=zh ((uq HWC).trans hk2);replace HKC:=zh ((uq HKC).trans hk2)
        replace cx0:=Keep.cell' hk2 cx0;replace cy0:=Keep.cell' hk2 cy0;replace cx1:=Keep.cell' hk2 cx1;replace cy1:=Keep.cell' hk2 cy1;replace cx2:=Keep.cell' hk2 cx2;replace cy2:=Keep.cell' hk2 cy2;replace cx3:=Keep.cell' hk2 cx3;replace cy3:=Keep.cell' hk2 cy3;replace cx4:=Keep.cell' hk2 cx4;replace cy4:=Keep.cell' hk2 cy4;replace cx5:=Keep.cell' hk2 cx5;replace cy5:=Keep.cell' hk2 cy5;replace cx6:=Keep.cell' hk2 cx6;replace cy6:=Keep.cell' hk2 cy6;clear hk2)
       go_wp2_with fail
       go_ret;exact⟨rfl,uq HWC⟩
      |true=>
       cases r3 with
       |false=>
        have hek:ek=false:=by rw[<- uq HEQ];simp[*]
        have hr:=(uq HF) hek;subst hr;go_wp2_with fail
        (refine((uq U1) _ (uq HWC)).mono ?_;rintro e w3 ⟨rfl,hk2⟩;replace HWC:=zh ((uq HWC).trans hk2);replace HKC:=zh ((uq HKC).trans hk2)
         replace cx0:=Keep.cell' hk2 cx0;replace cy0:=Keep.cell' hk2 cy0;replace cx1:=Keep.cell' hk2 cx1;replace cy1:=Keep.cell' hk2 cy1;replace cx2:=Keep.cell' hk2 cx2;replace cy2:=Keep.cell' hk2 cy2;replace cx3:=Keep.cell' hk2 cx3;replace cy3:=Keep.cell' hk2 cy3;replace cx4:=Keep.cell' hk2 cx4;replace cy4:=Keep.cell' hk2 cy4;replace cx5:=Keep.cell' hk2 cx5;replace cy5:=Keep.cell' hk2 cy5;replace cx6:=Keep.cell' hk2 cx6;replace cy6:=Keep.cell' hk2 cy6;clear hk2)
        go_wp2_with fail
        (refine((uq U2) _ (uq HWC)).mono ?_;rintro e w4 ⟨rfl,hk2⟩;replace HWC:=zh ((uq HWC).trans hk2);replace HKC:=zh ((uq HKC).trans hk2)
         replace cx0:=Keep.cell' hk2 cx0;replace cy0:=Keep.cell' hk2 cy0;replace cx1:=Keep.cell' hk2 cx1;replace cy1:=Keep.cell' hk2 cy1;replace cx2:=Keep.cell' hk2 cx2;replace cy2:=Keep.cell' hk2 cy2;replace cx3:=Keep.cell' hk2 cx3;replace cy3:=Keep.cell' hk2 cy3;replace cx4:=Keep.cell' hk2 cx4;replace cy4:=Keep.cell' hk2 cy4;replace cx5:=Keep.cell' hk2 cx5;replace cy5:=Keep.cell' hk2 cy5;replace cx6:=Keep.cell' hk2 cx6;replace cy6:=Keep.cell' hk2 cy6;clear hk2)
        go_wp2_with fail
        (refine((uq U3) _ (uq HWC)).mono ?_;rintro e w5 ⟨rfl,hk2⟩;replace HWC:=zh ((uq HWC).trans hk2);replace HKC:=zh ((uq HKC).trans hk2)
         replace cx0:=Keep.cell' hk2 cx0;replace cy0:=Keep.cell' hk2 cy0;replace cx1:=Keep.cell' hk2 cx1;replace cy1:=Keep.cell' hk2 cy1;replace cx2:=Keep.cell' hk2 cx2;replace cy2:=Keep.cell' hk2 cy2;replace cx3:=Keep.cell' hk2 cx3;replace cy3:=Keep.cell' hk2 cy3;replace cx4:=Keep.cell' hk2 cx4;replace cy4:=Keep.cell' hk2 cy4;replace cx5:=Keep.cell' hk2 cx5;replace cy5:=Keep.cell' hk2 cy5;replace cx6:=Keep.cell' hk2 cx6;replace cy6:=Keep.cell' hk2 cy6;clear hk2)
        go_wp2_with fail
        go_ret;exact⟨rfl,uq HWC⟩
       |true=>
        cases r4 with
        |false=>
         have hek:ek=false:=by rw[<- uq HEQ];simp[*]
         have hr:=(uq HF) hek;subst hr;go_wp2_with fail
         (refine((uq U1) _ (uq HWC)).mono ?_;rintro e w3 ⟨rfl,hk2⟩;replace HWC:=zh ((uq HWC).trans hk2);replace HKC:=zh ((uq HKC).trans hk2)
          replace cx0:=Keep.cell' hk2 cx0;replace cy0:=Keep.cell' hk2 cy0;replace cx1:=Keep.cell' hk2 cx1;replace cy1:=Keep.cell' hk2 cy1;replace cx2:=Keep.cell' hk2 cx2;replace cy2:=Keep.cell' hk2 cy2;replace cx3:=Keep.cell' hk2 cx3;replace cy3:=Keep.cell' hk2 cy3;replace cx4:=Keep.cell' hk2 cx4;replace cy4:=Keep.cell' hk2 cy4;replace cx5:=Keep.cell' hk2 cx5;replace cy5:=Keep.cell' hk2 cy5;replace cx6:=Keep.cell' hk2 cx6;replace cy6:=Keep.cell' hk2 cy6;clear hk2)
         go_wp2_with fail
         (refine((uq U2) _ (uq HWC)).mono ?_;rintro e w4 ⟨rfl,hk2⟩;replace HWC:=zh ((uq HWC).trans hk2);replace HKC:=zh ((uq HKC).trans hk2)
          replace cx0:=Keep.cell' hk2 cx0;replace cy0:=Keep.cell' hk2 cy0;replace cx1:=Keep.cell' hk2 cx1;replace cy1:=Keep.cell' hk2 cy1;replace cx2:=Keep.cell' hk2 cx2;replace cy2:=Keep.cell' hk2 cy2;replace cx3:=Keep.cell' hk2 cx3;replace cy3:=Keep.cell' hk2 cy3;replace cx4:=Keep.cell' hk2 cx4;replace cy4:=Keep.cell' hk2 cy4;replace cx5:=Keep.cell' hk2 cx5;replace cy5:=Keep.cell' hk2 cy5;replace cx6:=Keep.cell' hk2 cx6;replace cy6:=Keep.cell' hk2 cy6;clear hk2)
         go_wp2_with fail
         (refine((uq U3) _ (uq HWC)).mono ?_;rintro e w5 ⟨rfl,hk2⟩;replace HWC:=zh ((uq HWC).trans hk2);replace HKC:=zh ((uq HKC).trans hk2)
          replace cx0:=Keep.cell' hk2 cx0;replace cy0:=Keep.cell' hk2 cy0;replace cx1:=Keep.cell' hk2 cx1;replace cy1:=Keep.cell' hk2 cy1;replace cx2:=Keep.cell' hk2 cx2;replace cy2:=Keep.cell' hk2 cy2;replace cx3:=Keep.cell' hk2 cx3;replace cy3:=Keep.cell' hk2 cy3;replace cx4:=Keep.cell' hk2 cx4;replace cy4:=Keep.cell' hk2 cy4;replace cx5:=Keep.cell' hk2 cx5;replace cy5:=Keep.cell' hk2 cy5;replace cx6:=Keep.cell' hk2 cx6;replace cy6:=Keep.cell' hk2 cy6;clear hk2)
         go_wp2_with fail
         (refine((uq U4) _ (uq HWC)).mono ?_;rintro e w6 ⟨rfl,hk2⟩;replace HWC:=zh ((uq HWC).trans hk2);replace HKC:=zh ((uq HKC).trans hk2)
          replace cx0:=Keep.cell' hk2 cx0;replace cy0:=Keep.cell' hk2 cy0;replace cx1:=Keep.cell' hk2 cx1;replace cy1:=Keep.cell' hk2 cy1;replace cx2:=Keep.cell' hk2 cx2;replace cy2:=Keep.cell' hk2 cy2;replace cx3:=Keep.cell' hk2 cx3;replace cy3:=Keep.cell' hk2 cy3;replace cx4:=Keep.cell' hk2 cx4;replace cy4:=Keep.cell' hk2 cy4;replace cx5:=Keep.cell' hk2 cx5;replace cy5:=Keep.cell' hk2 cy5;replace cx6:=Keep.cell' hk2 cx6;replace cy6:=Keep.cell' hk2 cy6;clear hk2)
         go_wp2_with fail
         go_ret;exact⟨rfl,uq HWC⟩
        |true=>
         cases r5 with
         |false=>
          have hek:ek=false:=by rw[<- uq HEQ];simp[*]
          have hr:=(uq HF) hek;subst hr;go_wp2_with fail
          (refine((uq U1) _ (uq HWC)).mono ?_;rintro e w3 ⟨rfl,hk2⟩;replace HWC:=zh ((uq HWC).trans hk2);replace HKC:=zh ((uq HKC).trans hk2)
           replace cx0:=Keep.cell' hk2 cx0;replace cy0:=Keep.cell' hk2 cy0;replace cx1:=Keep.cell' hk2 cx1;replace cy1:=Keep.cell' hk2 cy1;replace cx2:=Keep.cell' hk2 cx2;replace cy2:=Keep.cell' hk2 cy2;replace cx3:=Keep.cell' hk2 cx3;replace cy3:=Keep.cell' hk2 cy3;replace cx4:=Keep.cell' hk2 cx4;replace cy4:=Keep.cell' hk2 cy4;replace cx5:=Keep.cell' hk2 cx5;replace cy5:=Keep.cell' hk2 cy5;replace cx6:=Keep.cell' hk2 cx6;replace cy6:=Keep.cell' hk2 cy6;clear hk2)
          go_wp2_with fail
          (refine((uq U2) _ (uq HWC)).mono ?_;rintro e w4 ⟨rfl,hk2⟩;replace HWC:=zh ((uq HWC).trans hk2);replace HKC:=zh ((uq HKC).trans hk2)
           replace cx0:=Keep.cell' hk2 cx0;replace cy0:=Keep.cell' hk2 cy0;replace cx1:=Keep.cell' hk2 cx1;replace cy1:=Keep.cell' hk2 cy1;replace cx2:=Keep.cell' hk2 cx2;replace cy2:=Keep.cell' hk2 cy2;replace cx3:=Keep.cell' hk2 cx3;replace cy3:=Keep.cell' hk2 cy3;replace cx4:=Keep.cell' hk2 cx4;replace cy4:=Keep.cell' hk2 cy4;replace cx5:=Keep.cell' hk2 cx5;replace cy5:=Keep.cell' hk2 cy5;replace cx6:=Keep.cell' hk2 cx6;replace cy6:=Keep.cell' hk2 cy6;clear hk2)
          go_wp2_with fail
          (refine((uq U3) _ (uq HWC)).mono ?_;rintro e w5 ⟨rfl,hk2⟩;replace HWC:=zh ((uq HWC).trans hk2);replace HKC:=zh ((uq HKC).trans hk2)
           replace cx0:=Keep.cell' hk2 cx0;replace cy0:=Keep.cell' hk2 cy0;replace cx1:=Keep.cell' hk2 cx1;replace cy1:=Keep.cell' hk2 cy1;replace cx2:=Keep.cell' hk2 cx2;replace cy2:=Keep.cell' hk2 cy2;replace cx3:=Keep.cell' hk2 cx3;replace cy3:=Keep.cell' hk2 cy3;replace cx4:=Keep.cell' hk2 cx4;replace cy4:=Keep.cell' hk2 cy4;replace cx5:=Keep.cell' hk2 cx5;replace cy5:=Keep.cell' hk2 cy5;replace cx6:=Keep.cell' hk2 cx6;replace cy6:=Keep.cell' hk2 cy6;clear hk2)
          go_wp2_with fail
          (refine((uq U4) _ (uq HWC)).mono ?_;rintro e w6 ⟨rfl,hk2⟩;replace HWC:=zh ((uq HWC).trans hk2);replace HKC:=zh ((uq HKC).trans hk2)
           replace cx0:=Keep.cell' hk2 cx0;replace cy0:=Keep.cell' hk2 cy0;replace cx1:=Keep.cell' hk2 cx1;replace cy1:=Keep.cell' hk2 cy1;replace cx2:=Keep.cell' hk2 cx2;replace cy2:=Keep.cell' hk2 cy2;replace cx3:=Keep.cell' hk2 cx3;replace cy3:=Keep.cell' hk2 cy3;replace cx4:=Keep.cell' hk2 cx4;replace cy4:=Keep.cell' hk2 cy4;replace cx5:=Keep.cell' hk2 cx5;replace cy5:=Keep.cell' hk2 cy5;replace cx6:=Keep.cell' hk2 cx6;replace cy6:=Keep.cell' hk2 cy6;clear hk2)
          go_wp2_with fail
          (refine((uq U5) _ (uq HWC)).mono ?_;rintro e w7 ⟨rfl,hk2⟩;replace HWC:=zh ((uq HWC).trans hk2);replace HKC:=zh ((uq HKC).trans hk2)
           replace cx0:=Keep.cell' hk2 cx0;replace cy0:=Keep.cell' hk2 cy0;replace cx1:=Keep.cell' hk2 cx1;replace cy1:=Keep.cell' hk2 cy1;replace cx2:=Keep.cell' hk2 cx2;replace cy2:=Keep.cell' hk2 cy2;replace cx3:=Keep.cell' hk2 cx3;replace cy3:=Keep.cell' hk2 cy3;replace cx4:=Keep.cell' hk2 cx4;replace cy4:=Keep.cell' hk2 cy4;replace cx5:=Keep.cell' hk2 cx5;replace cy5:=Keep.cell' hk2 cy5;replace cx6:=Keep.cell' hk2 cx6;replace cy6:=Keep.cell' hk2 cy6;clear hk2)
          go_wp2_with fail
          go_ret;exact⟨rfl,uq HWC⟩
         |true=>
          have hek:ek=true:=by rw[<- uq HEQ];simp[*]
          subst hek;go_wp2_with fail
          (refine((uq U1) _ (uq HWC)).mono ?_;rintro e w3 ⟨rfl,hk2⟩;replace HWC:=zh ((uq HWC).trans hk2);replace HKC:=zh ((uq HKC).trans hk2)
           replace cx0:=Keep.cell' hk2 cx0;replace cy0:=Keep.cell' hk2 cy0;replace cx1:=Keep.cell' hk2 cx1;replace cy1:=Keep.cell' hk2 cy1;replace cx2:=Keep.cell' hk2 cx2;replace cy2:=Keep.cell' hk2 cy2;replace cx3:=Keep.cell' hk2 cx3;replace cy3:=Keep.cell' hk2 cy3;replace cx4:=Keep.cell' hk2 cx4;replace cy4:=Keep.cell' hk2 cy4;replace cx5:=Keep.cell' hk2 cx5;replace cy5:=Keep.cell' hk2 cy5;replace cx6:=Keep.cell' hk2 cx6;replace cy6:=Keep.cell' hk2 cy6;clear hk2)
          go_wp2_with fail
          (refine((uq U2) _ (uq HWC)).mono ?_;rintro e w4 ⟨rfl,hk2⟩;replace HWC:=zh ((uq HWC).trans hk2);replace HKC:=zh ((uq HKC).trans hk2)
           replace cx0:=Keep.cell' hk2 cx0;replace cy0:=Keep.cell' hk2 cy0;replace cx1:=Keep.cell' hk2 cx1;replace cy1:=Keep.cell' hk2 cy1;replace cx2:=Keep.cell' hk2 cx2;replace cy2:=Keep.cell' hk2 cy2;replace cx3:=Keep.cell' hk2 cx3;replace cy3:=Keep.cell' hk2 cy3;replace cx4:=Keep.cell' hk2 cx4;replace cy4:=Keep.cell' hk2 cy4;replace cx5:=Keep.cell' hk2 cx5;replace cy5:=Keep.cell' hk2 cy5;replace cx6:=Keep.cell' hk2 cx6;replace cy6:=Keep.cell' hk2 cy6;clear hk2)
          go_wp2_with fail
          (refine((uq U3) _ (uq HWC)).mono ?_;rintro e w5 ⟨rfl,hk2⟩;replace HWC:=zh ((uq HWC).trans hk2);replace HKC:=zh ((uq HKC).trans hk2)
           replace cx0:=Keep.cell' hk2 cx0;replace cy0:=Keep.cell' hk2 cy0;replace cx1:=Keep.cell' hk2 cx1;replace cy1:=Keep.cell' hk2 cy1;replace cx2:=Keep.cell' hk2 cx2;replace cy2:=Keep.cell' hk2 cy2;replace cx3:=Keep.cell' hk2 cx3;replace cy3:=Keep.cell' hk2 cy3;replace cx4:=Keep.cell' hk2 cx4;replace cy4:=Keep.cell' hk2 cy4;replace cx5:=Keep.cell' hk2 cx5;replace cy5:=Keep.cell' hk2 cy5;replace cx6:=Keep.cell' hk2 cx6;replace cy6:=Keep.cell' hk2 cy6;clear hk2)
          go_wp2_with fail
          (refine((uq U4) _ (uq HWC)).mono ?_;rintro e w6 ⟨rfl,hk2⟩;replace HWC:=zh ((uq HWC).trans hk2);replace HKC:=zh ((uq HKC).trans hk2)
           replace cx0:=Keep.cell' hk2 cx0;replace cy0:=Keep.cell' hk2 cy0;replace cx1:=Keep.cell' hk2 cx1;replace cy1:=Keep.cell' hk2 cy1;replace cx2:=Keep.cell' hk2 cx2;replace cy2:=Keep.cell' hk2 cy2;replace cx3:=Keep.cell' hk2 cx3;replace cy3:=Keep.cell' hk2 cy3;replace cx4:=Keep.cell' hk2 cx4;replace cy4:=Keep.cell' hk2 cy4;replace cx5:=Keep.cell' hk2 cx5;replace cy5:=Keep.cell' hk2 cy5;replace cx6:=Keep.cell' hk2 cx6;replace cy6:=Keep.cell' hk2 cy6;clear hk2)
          go_wp2_with fail
          (refine((uq U5) _ (uq HWC)).mono ?_;rintro e w7 ⟨rfl,hk2⟩;replace HWC:=zh ((uq HWC).trans hk2);replace HKC:=zh ((uq HKC).trans hk2)
           replace cx0:=Keep.cell' hk2 cx0;replace cy0:=Keep.cell' hk2 cy0;replace cx1:=Keep.cell' hk2 cx1;replace cy1:=Keep.cell' hk2 cy1;replace cx2:=Keep.cell' hk2 cx2;replace cy2:=Keep.cell' hk2 cy2;replace cx3:=Keep.cell' hk2 cx3;replace cy3:=Keep.cell' hk2 cy3;replace cx4:=Keep.cell' hk2 cx4;replace cy4:=Keep.cell' hk2 cy4;replace cx5:=Keep.cell' hk2 cx5;replace cy5:=Keep.cell' hk2 cy5;replace cx6:=Keep.cell' hk2 cx6;replace cy6:=Keep.cell' hk2 cy6;clear hk2)
          go_wp2_with fail
          go_roundw
          case rel=>exact⟨k+1,hlt,by go_num,HKC,zh λj hj=>(Nat.lt_succ_iff_lt_or_eq.1 hj).elim ((uq HI) j) (λe=>e▸uq HEK)⟩
          case measure=>simp[intOf];omega
   ·have:k=nN:=by omega
    subst this;have hr:=(uq H2) (uq HI);subst hr;go_wp2_with fail
    go_ret;exact⟨rfl,(uq HK2).trans (uq HK)⟩
end Go.Proofs.YthceiikgecoimaaGreatDoor
