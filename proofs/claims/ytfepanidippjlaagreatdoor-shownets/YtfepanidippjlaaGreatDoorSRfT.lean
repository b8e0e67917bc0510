/- The document's answer for layer 6: which networks have a text, over trees. -/
import Derived.Test.YtfepanidippjlaaGreatDoorSRfN
namespace Go.Proofs.YtfepanidippjlaaGreatDoor
open Go.RowKit
attribute [local go_sem ↓] Go.wp_at_zero Go.wp_at_succ
set_option linter.unusedVariables false
set_option linter.unusedSimpArgs false
set_option maxRecDepth 10000
namespace S
def nB (x:ByteArray):Bool:=nmB x.data.toList
def fB2 (a b:Int):Bool:=nuB a&&nuB b
theorem zbz (l:List UInt8):nB (sv l)=nmB l:=rfl
theorem tnm (x:ByteArray) (w:World):Calls Tryz.prog 30 #[.string x] w fun e w'=>e= .returned (.bool (nB x))∧Keep w w':=ze1 x w
theorem tnu (n:Int) (w:World):Calls Tryz.prog 27 #[.int .i64 n] w fun e w'=>e= .returned (.bool (nuB n))∧Keep w w':=by
 refine(zeF n w).mono ?_;rintro e w' ⟨rfl,rfl⟩;exact⟨rfl,Keep.refl _⟩
theorem tfr (a b:Int) (w:World):Calls Tryz.prog 28 #[.agg #[.int .i64 a,.int .i64 b]] w fun e w'=>e= .returned (.bool (fB2 a b))∧Keep w w':=ziy a b (nuB a) (nuB b) w (hide fun w'=>zeF a w') (hide fun w'=>zeF b w')
theorem zcI {ds:List D} (k:Nat) (h:(k=0∧nmB (tS (gt ds 0))=false)∨(k=1∧zbb 0 16 za7 (fL (gt ds 1))=false)∨(k=2∧zbb 0 8 zbx (fL (gt ds 2))=false)∨(k=3∧zbb 0 16 zbm (fL (gt ds 3))=false)∨(k=4∧zbb 0 4 zbT (fL (gt ds 4))=false)∨(k=5∧zbb 0 64 zd7 (fL (gt ds 5))=false)):zbR ds=false:=by
 unfold zbR
 rcases h with ⟨_,h⟩|⟨_,h⟩|⟨_,h⟩|⟨_,h⟩|⟨_,h⟩|⟨_,h⟩<;>simp[h]
theorem zoV {ds:List D} (h:nB (sv (tS (gt ds 0)))=false):za7 ds=false:=by
 (try simp only[zbz,fB2]at h);simp[za7,zbs,h]
theorem zoW {ds:List D} (h:nuB (fI (gt ds 1))=false):za7 ds=false:=by
 (try simp only[zbz,fB2]at h);simp[za7,zbs,h]
theorem zoX {ds:List D} (h:nuB (fI (gt ds 2))=false):za7 ds=false:=by
 (try simp only[zbz,fB2]at h);simp[za7,zbs,h]
theorem zoY {ds:List D} (h:fB2 (fI (gt ds 3)) (fI (gt ds 4))=false):za7 ds=false:=by
 unfold fB2 at h
 rw[Bool.and_eq_false_iff]at h;rcases h with h|h<;>simp[za7,zbs,h]
theorem zoZ {ds:List D} (h:nuB (fI (gt ds 5))=false):za7 ds=false:=by
 (try simp only[zbz,fB2]at h);simp[za7,zbs,h]
theorem zo0 {ds:List D} (h:fI (gt ds 6)< -999999999999999999∨999999999999999999<fI (gt ds 6)):za7 ds=false:=by
 have h:grB (fI (gt ds 6))=false:=by unfold grB;exact decide_eq_false (by omega)
 simp[za7,h]
theorem zo1 {ds:List D} (h:nuB (fI (gt ds 7))=false):za7 ds=false:=by
 (try simp only[zbz,fB2]at h);simp[za7,zbs,h]
theorem zo2 {ds:List D} (h:nuB (fI (gt ds 8))=false):za7 ds=false:=by
 (try simp only[zbz,fB2]at h);simp[za7,zbs,h]
theorem zo3 {ds:List D} (h:nuB (fI (gt ds 9))=false):za7 ds=false:=by
 (try simp only[zbz,fB2]at h);simp[za7,zbs,h]
theorem zo4 {ds:List D} (h0:nB (sv (tS (gt ds 0)))=true) (h1:nuB (fI (gt ds 1))=true) (h2:nuB (fI (gt ds 2))=true) (h3:fB2 (fI (gt ds 3)) (fI (gt ds 4))=true) (h4:nuB (fI (gt ds 5))=true) (h5: -999999999999999999≤fI (gt ds 6)∧fI (gt ds 6)≤999999999999999999) (h6:nuB (fI (gt ds 7))=true) (h7:nuB (fI (gt ds 8))=true) (h8:nuB (fI (gt ds 9))=true):za7 ds=true:=by
 (try simp only[zbz,fB2]at *);have h5:grB (fI (gt ds 6))=true:=by unfold grB;exact decide_eq_true h5
 rw[Bool.and_eq_true]at h3;obtain⟨ha,hb⟩:=h3;simp[za7,zbs,h0,h1,h2,ha,hb,h4,h5,h6,h7,h8]
theorem zo5 {ds:List D} (h:nB (sv (tS (gt ds 0)))=false):zbx ds=false:=by
 (try simp only[zbz,fB2]at h);simp[zbx,zbs,h]
theorem zo6 {ds:List D} (h:nB (sv (tS (gt ds 1)))=false):zbx ds=false:=by
 (try simp only[zbz,fB2]at h);simp[zbx,zbs,h]
theorem zo7 {ds:List D} (h:nuB (fI (gt ds 2))=false):zbx ds=false:=by
 (try simp only[zbz,fB2]at h);simp[zbx,zbs,h]
theorem zo8 {ds:List D} (h:nuB (fI (gt ds 3))=false):zbx ds=false:=by
 (try simp only[zbz,fB2]at h);simp[zbx,zbs,h]
theorem zo9 {ds:List D} (h:nuB (fI (gt ds 4))=false):zbx ds=false:=by
 (try simp only[zbz,fB2]at h);simp[zbx,zbs,h]
theorem zpa {ds:List D} (h0:nB (sv (tS (gt ds 0)))=true) (h1:nB (sv (tS (gt ds 1)))=true) (h2:nuB (fI (gt ds 2))=true) (h3:nuB (fI (gt ds 3))=true) (h4:nuB (fI (gt ds 4))=true):zbx ds=true:=by
 (try simp only[zbz,fB2]at *);simp[zbx,zbs,h0,h1,h2,h3,h4]
theorem zm0 {ds:List D} (h:nB (sv (tS (gt ds 0)))=false):zbm ds=false:=by
 (try simp only[zbz,fB2]at h);simp[zbm,zbs,h]
theorem zm1 {ds:List D} (h:zbb 1 16 zc1 (fL (gt ds 1))=false):zbm ds=false:=by
 (try simp only[zbz,fB2]at h);simp[zbm,zbs,h]
theorem zm2 {ds:List D} (h0:nB (sv (tS (gt ds 0)))=true) (h1:zbb 1 16 zc1 (fL (gt ds 1))=true):zbm ds=true:=by
 (try simp only[zbz,fB2]at *);simp[zbm,zbs,h0,h1]
theorem zqe {ds:List D} (h:nB (sv (tS (gt ds 0)))=false):zd7 ds=false:=by
 (try simp only[zbz,fB2]at h);simp[zd7,zbs,h]
theorem zqf {ds:List D} (h:nB (sv (tS (gt ds 1)))=false):zd7 ds=false:=by
 (try simp only[zbz,fB2]at h);simp[zd7,zbs,h]
theorem zqg {ds:List D} (h0:nB (sv (tS (gt ds 0)))=true) (h1:nB (sv (tS (gt ds 1)))=true):zd7 ds=true:=by
 (try simp only[zbz,fB2]at *);simp[zd7,zbs,h0,h1]
theorem zpb {ds:List D} (h:nB (sv (tS (gt ds 0)))=false):zbv ds=false:=by
 (try simp only[zbz,fB2]at h);simp[zbv,zbs,h]
theorem zpc {ds:List D} (h:nB (sv (tS (gt ds 1)))=false):zbv ds=false:=by
 (try simp only[zbz,fB2]at h);simp[zbv,zbs,h]
theorem zpd {ds:List D} (h:nB (sv (tS (gt ds 2)))=false):zbv ds=false:=by
 (try simp only[zbz,fB2]at h);simp[zbv,zbs,h]
theorem zpe {ds:List D} (h:nuB (fI (gt ds 3))=false):zbv ds=false:=by
 (try simp only[zbz,fB2]at h);simp[zbv,zbs,h]
theorem zpf {ds:List D} (h:nuB (fI (gt ds 4))=false):zbv ds=false:=by
 (try simp only[zbz,fB2]at h);simp[zbv,zbs,h]
theorem zpg {ds:List D} (h0:nB (sv (tS (gt ds 0)))=true) (h1:nB (sv (tS (gt ds 1)))=true) (h2:nB (sv (tS (gt ds 2)))=true) (h3:nuB (fI (gt ds 3))=true) (h4:nuB (fI (gt ds 4))=true):zbv ds=true:=by
 (try simp only[zbz,fB2]at *);simp[zbv,zbs,h0,h1,h2,h3,h4]
set_option maxHeartbeats 4000000 in
theorem ziz {w:World} {ds:List D} {us:List Value} (hs:ShL zbL ds) (hr:Rvs w ds us):Calls Tryz.prog 29 #[.agg us.toArray] w fun e w'=>e= .returned (.bool (zbR ds))∧Keep w w':=by
 obtain⟨r,hR⟩:∃ r,zbR ds=r:=⟨_,rfl⟩;have B0:nmB (tS (gt ds 0))=false→r=false:=fun h=>hR▸zcI 0 (.inl ⟨rfl,h⟩)
 have B1:zbb 0 16 za7 (fL (gt ds 1))=false→r=false:=fun h=>hR▸zcI 1 (.inr (.inl ⟨rfl,h⟩))
 have B2:zbb 0 8 zbx (fL (gt ds 2))=false→r=false:=fun h=>hR▸zcI 2 (.inr (.inr (.inl ⟨rfl,h⟩)))
 have B3:zbb 0 16 zbm (fL (gt ds 3))=false→r=false:=fun h=>hR▸zcI 3 (.inr (.inr (.inr (.inl ⟨rfl,h⟩))))
 have B4:zbb 0 4 zbT (fL (gt ds 4))=false→r=false:=fun h=>hR▸zcI 4 (.inr (.inr (.inr (.inr (.inl ⟨rfl,h⟩)))))
 have B5:zbb 0 64 zd7 (fL (gt ds 5))=false→r=false:=fun h=>hR▸zcI 5 (.inr (.inr (.inr (.inr (.inr ⟨rfl,h⟩)))))
 have BY:nmB (tS (gt ds 0))=true→zbb 0 16 za7 (fL (gt ds 1))=true→zbb 0 8 zbx (fL (gt ds 2))=true→zbb 0 16 zbm (fL (gt ds 3))=true→zbb 0 4 zbT (fL (gt ds 4))=true→zbb 0 64 zd7 (fL (gt ds 5))=true→r=true:=fun h0 h1 h2 h3 h4 h5=>by rw[← hR];unfold zbR;simp[h0,h1,h2,h3,h4,h5]
 rw[hR];clear hR;simp only[ShL,Sh1,zbL]at hs;obtain⟨_,_,rfl,⟨s0,rfl,_⟩,⟨_,_,rfl,⟨L1,rfl,_,q1⟩,⟨_,_,rfl,⟨L2,rfl,_,q2⟩,⟨_,_,rfl,⟨L3,rfl,_,q3⟩,⟨_,_,rfl,⟨L4,rfl,_,q4⟩,⟨_,_,rfl,⟨L5,rfl,_,q5⟩,⟨_,_,rfl,⟨v6,rfl,_,_⟩,rfl⟩⟩⟩⟩⟩⟩⟩:=hs;simp only[Rvs,Rv,dS,dI,dB]at hr;obtain⟨_,_,rfl,rfl,⟨_,_,rfl,⟨x1,z1,rfl,y1,m1⟩,⟨_,_,rfl,⟨x2,z2,rfl,y2,m2⟩,⟨_,_,rfl,⟨x3,z3,rfl,y3,m3⟩,⟨_,_,rfl,⟨x4,z4,rfl,y4,m4⟩,⟨_,_,rfl,⟨x5,z5,rfl,y5,m5⟩,⟨_,_,rfl,rfl,rfl⟩⟩⟩⟩⟩⟩⟩:=hr;simp only[gt,List.getD_cons_zero,List.getD_cons_succ,fL,zcu]at B0 B1 B2 B3 B4 B5 BY;have hp:w.heap.size≤w.heap.size:=Nat.le_refl _;have hF:=Fb.refl w.heap.size w;refine zgG nB nuB fB2 (sv s0) x1 L1.length z1 x2 L2.length z2 x3 L3.length z3 x4 L4.length z4 x5 L5.length z5 v6 (fun k=>sv (tS (gt (L1.getD k []) 0))) (fun k=>fI (gt (L1.getD k []) 1)) (fun k=>fI (gt (L1.getD k []) 2)) (fun k=>fI (gt (L1.getD k []) 3)) (fun k=>fI (gt (L1.getD k []) 4)) (fun k=>fI (gt (L1.getD k []) 5)) (fun k=>fI (gt (L1.getD k []) 6)) (fun k=>fI (gt (L1.getD k []) 7)) (fun k=>fI (gt (L1.getD k []) 8)) (fun k=>fI (gt (L1.getD k []) 9)) (fun k=>fI (gt (L1.getD k []) 10)) (fun k=>sv (tS (gt (L2.getD k []) 0))) (fun k=>sv (tS (gt (L2.getD k []) 1))) (fun k=>fI (gt (L2.getD k []) 2)) (fun k=>fI (gt (L2.getD k []) 3)) (fun k=>fI (gt (L2.getD k []) 4)) (fun k=>fI (gt (L2.getD k []) 5)) (fun k=>sv (tS (gt (L3.getD k []) 0))) (sA w x3 3 1) (sN w x3 3 1) (sC w x3 3 1) (fun k=>fI (gt (L3.getD k []) 2)) (sA w x4 1 0) (sN w x4 1 0) (sC w x4 1 0) (fun k=>sv (tS (gt (L5.getD k []) 0))) (fun k=>sv (tS (gt (L5.getD k []) 1))) (fun k=>fI (gt (L5.getD k []) 2)) (fun k j=>sA w (sA w x4 1 0 k) 2 1 j) (fun k j=>sN w (sA w x4 1 0 k) 2 1 j) (fun k j=>sC w (sA w x4 1 0 k) 2 1 j) (fun k=>zbb 1 16 zc1 (fL (gt (L3.getD k []) 1))) (fun k j=>zdq ((fL (gt (L4.getD k []) 0)).getD j [])) (fun k=>za7 (L1.getD k [])=true) (fun k=>zbx (L2.getD k [])=true) (fun k=>zbm (L3.getD k [])=true) (fun k=>zbT (L4.getD k [])=true) (fun k=>zd7 (L5.getD k [])=true) r w (hide tnm) (hide tnu) (hide tfr) (hide fun k hk w' hw=>?_) (hide fun k hk j hj w' hw=>?_) (hide fun k hk=>?_) (hide fun k hk=>?_) (hide fun k hk=>?_) (hide fun k hk=>?_) (hide fun k hk=>?_) (hide fun k hk j hj=>?_) (hide B0) (hide fun h=>?_) (hide fun k hk h=>B1 (zan hk (zoV h))) (hide fun k hk h=>B1 (zan hk (zoW h))) (hide fun k hk h=>B1 (zan hk (zoX h))) (hide fun k hk h=>B1 (zan hk (zoY h))) (hide fun k hk h=>B1 (zan hk (zoZ h))) (hide fun k hk h=>B1 (zan hk (zo0 h))) (hide fun k hk h=>B1 (zan hk (zo1 h))) (hide fun k hk h=>B1 (zan hk (zo2 h))) (hide fun k hk h=>B1 (zan hk (zo3 h))) (hide fun k hk h0 h1 h2 h3 h4 h5 h6 h7 h8=>zo4 h0 h1 h2 h3 h4 h5 h6 h7 h8) (hide fun k hk h=>B2 (zan hk (zo5 h))) (hide fun k hk h=>B2 (zan hk (zo6 h))) (hide fun k hk h=>B2 (zan hk (zo7 h))) (hide fun k hk h=>B2 (zan hk (zo8 h))) (hide fun k hk h=>B2 (zan hk (zo9 h))) (hide fun k hk h0 h1 h2 h3 h4=>zpa h0 h1 h2 h3 h4) (hide fun k hk h=>B3 (zan hk (zm0 h))) (hide fun k hk h=>B3 (zan hk (zm1 h))) (hide fun k hk h0 h1=>zm2 h0 h1) (hide fun k hk h=>B5 (zan hk (zqe h))) (hide fun k hk h=>B5 (zan hk (zqf h))) (hide fun k hk h0 h1=>zqg h0 h1) (hide fun k hk h=>?_) (hide fun k hk j hj h=>?_) (hide fun k hk h1 h2=>?_) (hide fun h0 hN h1 h2 h3 h4 h5=>BY h0 (zaR ⟨Nat.zero_le _,hN.1⟩ h1) (zaR ⟨Nat.zero_le _,hN.2.1⟩ h2) (zaR ⟨Nat.zero_le _,hN.2.2.1⟩ h3) (zaR ⟨Nat.zero_le _,hN.2.2.2.1⟩ h4) (zaR ⟨Nat.zero_le _,hN.2.2.2.2⟩ h5))
 ·obtain⟨r1,r2,r3,r4⟩:=zey q3 m3 k hk;rw[r1];exact zeg (most:=16) (by decide) r4 (Rvss.keep hw _ _ _ _ r3)
 ·obtain⟨r1,r2,r3,r4⟩:=zbQ q4 m4 k hk;rw[r1]at hj;obtain⟨t1,t2,t3,t4⟩:=zju r4 r3 j hj;show Calls _ _ #[.slice _ (sN w (sA w x4 1 0 k) 2 1 j) _,_] _ _;rw[t1];exact zeg (most:=4) (by decide) t4 (Rvss.keep hw _ _ _ _ t3)
 ·obtain⟨ad,e,_,h⟩:=zfU hp hF q1 m1 k hk;exact⟨ad,e,h⟩
 ·obtain⟨ad,e,_,h⟩:=zjr hp hF q2 m2 k hk;exact⟨ad,e,h⟩
 ·obtain⟨ad,e,_,h0,h1,_⟩:=zex hp hF q3 m3 k hk;exact⟨ad,e,h0,h1⟩
 ·obtain⟨ad,e,_,h⟩:=zez hp hF q4 m4 k hk;exact⟨ad,e,h⟩
 ·obtain⟨ad,e,_,h0,h1,_⟩:=zjs hp hF q5 m5 k hk;exact⟨ad,e,h0,h1⟩
 ·obtain⟨r1,r2,r3,r4⟩:=zbQ q4 m4 k hk;rw[r1]at hj;obtain⟨ad,e,_,_,h1⟩:=zjt hp hF r4 r3 j hj;exact⟨ad,e,h1⟩
 ·rcases h with h|h|h|h|h
  ·exact B1 (za4 (by omega))
  ·exact B2 (za4 (by omega))
  ·exact B3 (za4 (by omega))
  ·exact B4 (za4 (by omega))
  ·exact B5 (za4 (by omega))
 ·obtain⟨r1,r2,r3,r4⟩:=zbQ q4 m4 k hk;rw[r1]at h;exact B4 (zan hk (za4 h))
 ·obtain⟨r1,r2,r3,r4⟩:=zbQ q4 m4 k hk;rw[r1]at hj;exact B4 (zan hk (zan hj h))
 ·obtain⟨r1,r2,r3,r4⟩:=zbQ q4 m4 k hk;rw[r1]at h1 h2;exact zaR h1 h2
set_option maxHeartbeats 32000000 in
theorem zft (NB:ByteArray→Bool) (UB:Int→Bool) (FB:Int→Int→Bool) (v0 v1 v2 v3 v4:Int) (a5:Option Addr) (n5 c5:Nat) (a6:Option Addr) (n6 c6:Nat) (v7 v8:Int) (S7_0:Nat→ByteArray) (A7_1:Nat→Option Addr) (N7_1 C7_1:Nat→Nat) (A7_2:Nat→Option Addr) (N7_2 C7_2:Nat→Nat) (A7_3:Nat→Option Addr) (N7_3 C7_3:Nat→Nat) (A7_4:Nat→Option Addr) (N7_4 C7_4:Nat→Nat) (A7_5:Nat→Option Addr) (N7_5 C7_5:Nat→Nat) (V7_6:Nat→Int) (S6_0:Nat→ByteArray) (S6_1:Nat→ByteArray) (S6_2:Nat→ByteArray) (V6_3:Nat→Int) (V6_4:Nat→Int) (V6_5:Nat→Int) (P7:Nat→Bool) (OK6 OK7:Nat→Prop) (r:Bool) (w:World)
  (TNm:Hid (∀(s:ByteArray) w',Calls Tryz.prog 30 #[.string s] w' fun e w''=>e= .returned (.bool (NB s))∧Keep w' w''))
  (TNu:Hid (∀(n:Int) w',Calls Tryz.prog 27 #[.int .i64 n] w' fun e w''=>e= .returned (.bool (UB n))∧Keep w' w''))
  (TFr:Hid (∀(a b:Int) w',Calls Tryz.prog 28 #[.agg #[.int .i64 a,.int .i64 b]] w' fun e w''=>e= .returned (.bool (FB a b))∧Keep w' w''))
  (TN7:Hid (∀ k,k<n5→∀ w',Keep w w'→Calls Tryz.prog 29 #[.agg #[.string (S7_0 k),.slice (A7_1 k) (N7_1 k) (C7_1 k),.slice (A7_2 k) (N7_2 k) (C7_2 k),.slice (A7_3 k) (N7_3 k) (C7_3 k),.slice (A7_4 k) (N7_4 k) (C7_4 k),.slice (A7_5 k) (N7_5 k) (C7_5 k),.int .i64 (V7_6 k)]] w' fun e w''=>e= .returned (.bool (P7 k))∧Keep w' w''))
  (HC7:Hid (∀ k,k<n5→∃ ad,a5=some ad∧w.cell? (ad.add (k * 7))=some (.string (S7_0 k))∧w.cell? ⟨(ad.add (k * 7)).block,(ad.add (k * 7)).off+1,none⟩=some (.slice (A7_1 k) (N7_1 k) (C7_1 k))∧w.cell? ⟨(ad.add (k * 7)).block,(ad.add (k * 7)).off+2,none⟩=some (.slice (A7_2 k) (N7_2 k) (C7_2 k))∧w.cell? ⟨(ad.add (k * 7)).block,(ad.add (k * 7)).off+3,none⟩=some (.slice (A7_3 k) (N7_3 k) (C7_3 k))∧w.cell? ⟨(ad.add (k * 7)).block,(ad.add (k * 7)).off+4,none⟩=some (.slice (A7_4 k) (N7_4 k) (C7_4 k))∧w.cell? ⟨(ad.add (k * 7)).block,(ad.add (k * 7)).off+5,none⟩=some (.slice (A7_5 k) (N7_5 k) (C7_5 k))∧w.cell? ⟨(ad.add (k * 7)).block,(ad.add (k * 7)).off+6,none⟩=some (.int .i64 (V7_6 k))))
  (HC6:Hid (∀ k,k<n6→∃ ad,a6=some ad∧w.cell? (ad.add (k * 6))=some (.string (S6_0 k))∧w.cell? ⟨(ad.add (k * 6)).block,(ad.add (k * 6)).off+1,none⟩=some (.string (S6_1 k))∧w.cell? ⟨(ad.add (k * 6)).block,(ad.add (k * 6)).off+2,none⟩=some (.string (S6_2 k))∧w.cell? ⟨(ad.add (k * 6)).block,(ad.add (k * 6)).off+3,none⟩=some (.int .i64 (V6_3 k))∧w.cell? ⟨(ad.add (k * 6)).block,(ad.add (k * 6)).off+4,none⟩=some (.int .i64 (V6_4 k))∧w.cell? ⟨(ad.add (k * 6)).block,(ad.add (k * 6)).off+5,none⟩=some (.int .i64 (V6_5 k))))
  (HV0:Hid (UB v0=false→r=false))
  (HV1:Hid (UB v1=false→r=false))
  (HV2:Hid (UB v2=false→r=false))
  (HV3:Hid (FB v3 v4=false→r=false))
  (HV4:Hid (UB v7=false→r=false))
  (HV5:Hid (UB v8=false→r=false))
  (HL:Hid ((12<n5∨12<n6)→r=false)) (HB7:Hid (∀ k,k<n5→P7 k=false→r=false)) (HO7:Hid (∀ k,k<n5→P7 k=true→OK7 k))
  (HB6_0:Hid (∀ k,k<n6→NB (S6_0 k)=false→r=false))
  (HB6_1:Hid (∀ k,k<n6→NB (S6_1 k)=false→r=false))
  (HB6_2:Hid (∀ k,k<n6→NB (S6_2 k)=false→r=false))
  (HB6_3:Hid (∀ k,k<n6→UB (V6_3 k)=false→r=false))
  (HB6_4:Hid (∀ k,k<n6→UB (V6_4 k)=false→r=false))
  (HO6:Hid (∀ k,k<n6→NB (S6_0 k)=true→NB (S6_1 k)=true→NB (S6_2 k)=true→UB (V6_3 k)=true→UB (V6_4 k)=true→OK6 k))
  (HY:Hid (UB v0=true→UB v1=true→UB v2=true→FB v3 v4=true→UB v7=true→UB v8=true→(n5≤12∧n6≤12)→(∀ k,k<n5→OK7 k)→(∀ k,k<n6→OK6 k)→r=true)):
  Calls Tryz.prog 11 #[.agg #[.int .i64 v0,.int .i64 v1,.int .i64 v2,.int .i64 v3,.int .i64 v4,.slice a5 n5 c5,.slice a6 n6 c6,.int .i64 v7,.int .i64 v8]] w fun e w'=>e= .returned (.bool r)∧Keep w w':=by
 have HK:=hide ((Keep.refl w).alloc (.cells #[.int .i64 v0,.int .i64 v1,.int .i64 v2,.int .i64 v3,.int .i64 v4,.slice a5 n5 c5,.slice a6 n6 c6,.int .i64 v7,.int .i64 v8] 27));have hx:=heap_alloc_new w (.cells #[.int .i64 v0,.int .i64 v1,.int .i64 v2,.int .i64 v3,.int .i64 v4,.slice a5 n5 c5,.slice a6 n6 c6,.int .i64 v7,.int .i64 v8] 27);go_enter Tryz.func11,Tryz.ntmps11
 go_upto_region 1 with fail
 generalize w.alloc (.cells #[.int .i64 v0,.int .i64 v1,.int .i64 v2,.int .i64 v3,.int .i64 v4,.slice a5 n5 c5,.slice a6 n6 c6,.int .i64 v7,.int .i64 v8] 27)=w0 at HK hx ⊢;obtain⟨gb,HGB⟩:∃ gb,Hid (w.heap.size=gb):=⟨_,hide rfl⟩;rw[uq HGB]at hx ⊢;have HX:Hid (∀ w',Keep w0 w'→w'.cell? ⟨gb,0,none⟩=some (.int .i64 v0)∧w'.cell? ⟨gb,1,none⟩=some (.int .i64 v1)∧w'.cell? ⟨gb,2,none⟩=some (.int .i64 v2)∧w'.cell? ⟨gb,3,none⟩=some (.int .i64 v3)∧w'.cell? ⟨gb,4,none⟩=some (.int .i64 v4)∧w'.cell? ⟨gb,5,none⟩=some (.slice a5 n5 c5)∧w'.cell? ⟨gb,6,none⟩=some (.slice a6 n6 c6)∧w'.cell? ⟨gb,7,none⟩=some (.int .i64 v7)∧w'.cell? ⟨gb,8,none⟩=some (.int .i64 v8)):=hide (fun w' k9=>by have h:=k9.block gb (Array.getElem?_eq_some_iff.1 hx).1;rw[hx]at h;refine⟨?_,?_,?_,?_,?_,?_,?_,?_,?_⟩<;>simp[World.cell?,h]);have HB0:=hide hx;clear hx;have HM0:=hide (Keep.refl w0);have HK0:=HK;obtain⟨u0,hu0⟩:∃ u0,u0=w0:=⟨_,rfl⟩;subst hu0;obtain⟨f0,f1,f2,f3,f4,f5,f6,f7,f8⟩:=(uq HX) _ (uq HM0);obtain⟨b0,hb0⟩:∃ b,Hid (UB v0=b):=⟨_,hide rfl⟩;have C0:=hide ((uq TNu) v0);rw[uq hb0]at C0;go_wp2_with fail
 (refine((uq C0) _).mono ?_;rintro e u1 ⟨rfl,hk9⟩;have HK1:=hide ((uq HK0).trans hk9);have HM1:=hide ((uq HM0).trans hk9);clear hk9);clear f0 f1 f2 f3 f4 f5 f6 f7 f8;cases b0
 ·have HR:=hide ((uq HV0) (uq hb0));go_wp2_with fail
  go_ret;exact⟨by rw[uq HR];rfl,uq HK1⟩
 obtain⟨f0,f1,f2,f3,f4,f5,f6,f7,f8⟩:=(uq HX) _ (uq HM1);obtain⟨b1,hb1⟩:∃ b,Hid (UB v1=b):=⟨_,hide rfl⟩;have C1:=hide ((uq TNu) v1);rw[uq hb1]at C1;go_wp2_with fail
 (refine((uq C1) _).mono ?_;rintro e u2 ⟨rfl,hk9⟩;have HK2:=hide ((uq HK1).trans hk9);have HM2:=hide ((uq HM1).trans hk9);clear hk9);clear f0 f1 f2 f3 f4 f5 f6 f7 f8;cases b1
 ·have HR:=hide ((uq HV1) (uq hb1));go_wp2_with fail
  go_ret;exact⟨by rw[uq HR];rfl,uq HK2⟩
 obtain⟨f0,f1,f2,f3,f4,f5,f6,f7,f8⟩:=(uq HX) _ (uq HM2);obtain⟨b2,hb2⟩:∃ b,Hid (UB v2=b):=⟨_,hide rfl⟩;have C2:=hide ((uq TNu) v2);rw[uq hb2]at C2;go_wp2_with fail
 (refine((uq C2) _).mono ?_;rintro e u3 ⟨rfl,hk9⟩;have HK3:=hide ((uq HK2).trans hk9);have HM3:=hide ((uq HM2).trans hk9);clear hk9);clear f0 f1 f2 f3 f4 f5 f6 f7 f8;cases b2
 ·have HR:=hide ((uq HV2) (uq hb2));go_wp2_with fail
  go_ret;exact⟨by rw[uq HR];rfl,uq HK3⟩
 obtain⟨f0,f1,f2,f3,f4,f5,f6,f7,f8⟩:=(uq HX) _ (uq HM3);obtain⟨b3,hb3⟩:∃ b,Hid (FB v3 v4=b):=⟨_,hide rfl⟩;have C3:=hide ((uq TFr) v3 v4);rw[uq hb3]at C3;go_wp2_with fail
 (refine((uq C3) _).mono ?_;rintro e u4 ⟨rfl,hk9⟩;have HK4:=hide ((uq HK3).trans hk9);have HM4:=hide ((uq HM3).trans hk9);clear hk9);clear f0 f1 f2 f3 f4 f5 f6 f7 f8;cases b3
 ·have HR:=hide ((uq HV3) (uq hb3));go_wp2_with fail
  go_ret;exact⟨by rw[uq HR];rfl,uq HK4⟩
 obtain⟨f0,f1,f2,f3,f4,f5,f6,f7,f8⟩:=(uq HX) _ (uq HM4);obtain⟨b4,hb4⟩:∃ b,Hid (UB v7=b):=⟨_,hide rfl⟩;have C4:=hide ((uq TNu) v7);rw[uq hb4]at C4;go_wp2_with fail
 (refine((uq C4) _).mono ?_;rintro e u5 ⟨rfl,hk9⟩;have HK5:=hide ((uq HK4).trans hk9);have HM5:=hide ((uq HM4).trans hk9);clear hk9);clear f0 f1 f2 f3 f4 f5 f6 f7 f8;cases b4
 ·have HR:=hide ((uq HV4) (uq hb4));go_wp2_with fail
  go_ret;exact⟨by rw[uq HR];rfl,uq HK5⟩
 obtain⟨f0,f1,f2,f3,f4,f5,f6,f7,f8⟩:=(uq HX) _ (uq HM5);obtain⟨b5,hb5⟩:∃ b,Hid (UB v8=b):=⟨_,hide rfl⟩;have C5:=hide ((uq TNu) v8);rw[uq hb5]at C5;go_wp2_with fail
 (refine((uq C5) _).mono ?_;rintro e u6 ⟨rfl,hk9⟩;have HK6:=hide ((uq HK5).trans hk9);have HM6:=hide ((uq HM5).trans hk9);clear hk9);clear f0 f1 f2 f3 f4 f5 f6 f7 f8;cases b5
 ·have HR:=hide ((uq HV5) (uq hb5));go_wp2_with fail
  go_ret;exact⟨by rw[uq HR];rfl,uq HK6⟩
 obtain⟨f0,f1,f2,f3,f4,f5,f6,f7,f8⟩:=(uq HX) _ (uq HM6);by_cases g5:(12:Int)<(n5:Int)
 ·have HR:=hide ((uq HL) (by omega));go_wp2_with fail
  go_ret;exact⟨by rw[uq HR];rfl,uq HK6⟩
 by_cases g6:(12:Int)<(n6:Int)
 ·have HR:=hide ((uq HL) (by omega));go_wp2_with fail
  go_ret;exact⟨by rw[uq HR];rfl,uq HK6⟩
 have HNN:Hid (n5≤12∧n6≤12):=hide (by omega);replace HK:=HK6;have HB:=hide (((uq HM6).block gb (Array.getElem?_eq_some_iff.1 (uq HB0)).1).trans (uq HB0));go_wp2_with fail
 clear g5 g6 f0 f1 f2 f3 f4 f5 f6 f7 f8
 go_loopw [3] (fun vi wr=>∃ k:Nat,k≤n5∧vi= .int .i64 (k:Int)∧Hid (Keep w wr)∧Hid (wr.heap[gb]? =some (.cells #[.int .i64 v0,.int .i64 v1,.int .i64 v2,.int .i64 v3,.int .i64 v4,.slice a5 n5 c5,.slice a6 n6 c6,.int .i64 v7,.int .i64 v8] 27 (0,0)))∧Hid (∀ j,j<k→OK7 j)) (fun vi _=>n5 - (intOf vi).toNat)
 case atStart=>exact⟨0,Nat.zero_le _,rfl,HK,HB,hide (fun j hj=>by omega)⟩
 case round=>
  obtain⟨k,hk,rfl,HK,HB,HA⟩:=hrel;have zz:wr.cell? ⟨gb,5,none⟩=some (.slice a5 n5 c5):=by simp[World.cell?,uq HB]
  by_cases hlt:k<n5
  ·have li:(k:Int)<(n5:Int):=by omega
   have hk9:k≤100:=by have:=uq HNN;omega
   have CT:=hide ((uq TN7) k hlt wr (uq HK));have HQ:=hide ((uq HB7) k hlt);obtain⟨b,hb⟩:∃ b,Hid (P7 k=b):=⟨_,hide rfl⟩;rw[uq hb]at CT HQ;obtain⟨ad,rfl,e0,e1,e2,e3,e4,e5,e6⟩:=(uq HC7) k hlt;have x0:=Q.kcell (uq HK) e0;have x1:=Q.kcell (uq HK) e1;have x2:=Q.kcell (uq HK) e2;have x3:=Q.kcell (uq HK) e3;have x4:=Q.kcell (uq HK) e4;have x5:=Q.kcell (uq HK) e5;have x6:=Q.kcell (uq HK) e6;clear e0 e1 e2 e3 e4 e5 e6;go_wp2_with fail
   (refine(uq CT).mono ?_;rintro e u9 ⟨rfl,hk9⟩;have HKu:=hide ((uq HK).trans hk9);have HMu:=hide hk9;clear hk9);cases b
   ·have HR:=hide ((uq HQ) rfl);clear HQ;go_wp2_with fail
    go_ret;exact⟨by rw[uq HR];rfl,uq HKu⟩
   clear HQ;go_wp2_with fail
   go_roundw
   case rel=>exact⟨k+1,hlt,by go_num,HKu,hide (((uq HMu).block gb (Array.getElem?_eq_some_iff.1 (uq HB)).1).trans (uq HB)),hide (fun j hj=>by rcases Nat.lt_succ_iff_lt_or_eq.1 hj with h|rfl;exact(uq HA) j h;exact(uq HO7) _ hlt (uq hb))⟩
   case measure=>simp[intOf];omega
  ·have li:¬(k:Int)<(n5:Int):=by omega
   have e7:k=n5:=by omega
   have HA7:Hid (∀ j,j<n5→OK7 j):=hide (by rw[← e7];exact uq HA);clear hlt hk e7 HA;go_wp2_with fail
   go_loopw [4] (fun vi wr=>∃ k:Nat,k≤n6∧vi= .int .i64 (k:Int)∧Hid (Keep w wr)∧Hid (wr.heap[gb]? =some (.cells #[.int .i64 v0,.int .i64 v1,.int .i64 v2,.int .i64 v3,.int .i64 v4,.slice a5 n5 c5,.slice a6 n6 c6,.int .i64 v7,.int .i64 v8] 27 (0,0)))∧Hid (∀ j,j<k→OK6 j)) (fun vi _=>n6 - (intOf vi).toNat)
   case atStart=>exact⟨0,Nat.zero_le _,rfl,HK,HB,hide (fun j hj=>by omega)⟩
   case round=>
    obtain⟨k,hk,rfl,HK,HB,HA⟩:=hrel;have zz:wr.cell? ⟨gb,6,none⟩=some (.slice a6 n6 c6):=by simp[World.cell?,uq HB]
    by_cases hlt:k<n6
    ·have li:(k:Int)<(n6:Int):=by omega
     have hk9:k≤100:=by have:=uq HNN;omega
     obtain⟨ad,rfl,e0,e1,e2,e3,e4,e5⟩:=(uq HC6) k hlt;have x0:=Q.kcell (uq HK) e0;have x1:=Q.kcell (uq HK) e1;have x2:=Q.kcell (uq HK) e2;have x3:=Q.kcell (uq HK) e3;have x4:=Q.kcell (uq HK) e4;have x5:=Q.kcell (uq HK) e5;clear e0 e1 e2 e3 e4 e5;have HK0:=hide ((uq HK).alloc (.cells #[.string (S6_0 k),.string (S6_1 k),.string (S6_2 k),.int .i64 (V6_3 k),.int .i64 (V6_4 k),.int .i64 (V6_5 k)] 49));have hxa:=heap_alloc_new wr (.cells #[.string (S6_0 k),.string (S6_1 k),.string (S6_2 k),.int .i64 (V6_3 k),.int .i64 (V6_4 k),.int .i64 (V6_5 k)] 49);have HM0:=hide ((Keep.refl wr).alloc (.cells #[.string (S6_0 k),.string (S6_1 k),.string (S6_2 k),.int .i64 (V6_3 k),.int .i64 (V6_4 k),.int .i64 (V6_5 k)] 49))
     go_upto_region 12 with fail
     generalize hwa:wr.alloc (.cells #[.string (S6_0 k),.string (S6_1 k),.string (S6_2 k),.int .i64 (V6_3 k),.int .i64 (V6_4 k),.int .i64 (V6_5 k)] 49)=wa at HK0 hxa HM0 ⊢;clear hwa;obtain⟨qb,HQB⟩:∃ qb,Hid (wr.heap.size=qb):=⟨_,hide rfl⟩;rw[uq HQB]at hxa ⊢;have HXH:Hid (∀ w',Keep wa w'→w'.cell? ⟨qb,0,none⟩=some (.string (S6_0 k))∧w'.cell? ⟨qb,1,none⟩=some (.string (S6_1 k))∧w'.cell? ⟨qb,2,none⟩=some (.string (S6_2 k))∧w'.cell? ⟨qb,3,none⟩=some (.int .i64 (V6_3 k))∧w'.cell? ⟨qb,4,none⟩=some (.int .i64 (V6_4 k))∧w'.cell? ⟨qb,5,none⟩=some (.int .i64 (V6_5 k))):=hide (fun w' k9=>by have h:=k9.block qb (Array.getElem?_eq_some_iff.1 hxa).1;rw[hxa]at h;refine⟨?_,?_,?_,?_,?_,?_⟩<;>simp[World.cell?,h]);clear hxa zz x0 x1 x2 x3 x4 x5;have HN0:=hide (Keep.refl wa);obtain⟨f0,f1,f2,f3,f4,f5⟩:=(uq HXH) wa (uq HN0);clear f1 f2 f3 f4 f5;obtain⟨b0,hb0⟩:∃ b,Hid (NB (S6_0 k)=b):=⟨_,hide rfl⟩;have C0:=hide ((uq TNm) (S6_0 k));rw[uq hb0]at C0;have HQ0:=hide ((uq HB6_0) k hlt);go_wp2_with fail
     (refine((uq C0) _).mono ?_;rintro e u1 ⟨rfl,hk9⟩;have HK1:=hide ((uq HK0).trans hk9);have HM1:=hide ((uq HM0).trans hk9);have HN1:=hide ((uq HN0).trans hk9);clear hk9);cases b0
     ·have HR:=hide ((uq HQ0) (uq hb0));go_wp2_with fail
      go_ret;exact⟨by rw[uq HR];rfl,uq HK1⟩
     clear HQ0;obtain⟨f0,f1,f2,f3,f4,f5⟩:=(uq HXH) u1 (uq HN1);clear f0 f2 f3 f4 f5;obtain⟨b1,hb1⟩:∃ b,Hid (NB (S6_1 k)=b):=⟨_,hide rfl⟩;have C1:=hide ((uq TNm) (S6_1 k));rw[uq hb1]at C1;have HQ1:=hide ((uq HB6_1) k hlt);go_wp2_with fail
     (refine((uq C1) _).mono ?_;rintro e u2 ⟨rfl,hk9⟩;have HK2:=hide ((uq HK1).trans hk9);have HM2:=hide ((uq HM1).trans hk9);have HN2:=hide ((uq HN1).trans hk9);clear hk9);cases b1
     ·have HR:=hide ((uq HQ1) (uq hb1));go_wp2_with fail
      go_ret;exact⟨by rw[uq HR];rfl,uq HK2⟩
     clear HQ1;obtain⟨f0,f1,f2,f3,f4,f5⟩:=(uq HXH) u2 (uq HN2);clear f0 f1 f3 f4 f5;obtain⟨b2,hb2⟩:∃ b,Hid (NB (S6_2 k)=b):=⟨_,hide rfl⟩;have C2:=hide ((uq TNm) (S6_2 k));rw[uq hb2]at C2;have HQ2:=hide ((uq HB6_2) k hlt);go_wp2_with fail
     (refine((uq C2) _).mono ?_;rintro e u3 ⟨rfl,hk9⟩;have HK3:=hide ((uq HK2).trans hk9);have HM3:=hide ((uq HM2).trans hk9);have HN3:=hide ((uq HN2).trans hk9);clear hk9);cases b2
     ·have HR:=hide ((uq HQ2) (uq hb2));go_wp2_with fail
      go_ret;exact⟨by rw[uq HR];rfl,uq HK3⟩
     clear HQ2;obtain⟨f0,f1,f2,f3,f4,f5⟩:=(uq HXH) u3 (uq HN3);clear f0 f1 f2 f4 f5;obtain⟨b3,hb3⟩:∃ b,Hid (UB (V6_3 k)=b):=⟨_,hide rfl⟩;have C3:=hide ((uq TNu) (V6_3 k));rw[uq hb3]at C3;have HQ3:=hide ((uq HB6_3) k hlt);go_wp2_with fail
     (refine((uq C3) _).mono ?_;rintro e u4 ⟨rfl,hk9⟩;have HK4:=hide ((uq HK3).trans hk9);have HM4:=hide ((uq HM3).trans hk9);have HN4:=hide ((uq HN3).trans hk9);clear hk9);cases b3
     ·have HR:=hide ((uq HQ3) (uq hb3));go_wp2_with fail
      go_ret;exact⟨by rw[uq HR];rfl,uq HK4⟩
     clear HQ3;obtain⟨f0,f1,f2,f3,f4,f5⟩:=(uq HXH) u4 (uq HN4);clear f0 f1 f2 f3 f5;obtain⟨b4,hb4⟩:∃ b,Hid (UB (V6_4 k)=b):=⟨_,hide rfl⟩;have C4:=hide ((uq TNu) (V6_4 k));rw[uq hb4]at C4;have HQ4:=hide ((uq HB6_4) k hlt);go_wp2_with fail
     (refine((uq C4) _).mono ?_;rintro e u5 ⟨rfl,hk9⟩;have HK5:=hide ((uq HK4).trans hk9);have HM5:=hide ((uq HM4).trans hk9);have HN5:=hide ((uq HN4).trans hk9);clear hk9);cases b4
     ·have HR:=hide ((uq HQ4) (uq hb4));go_wp2_with fail
      go_ret;exact⟨by rw[uq HR];rfl,uq HK5⟩
     clear HQ4;go_wp2_with fail
     go_roundw
     case rel=>exact⟨k+1,hlt,by go_num,HK5,hide (((uq HM5).block gb (Array.getElem?_eq_some_iff.1 (uq HB)).1).trans (uq HB)),hide (fun j hj=>by rcases Nat.lt_succ_iff_lt_or_eq.1 hj with h|rfl;exact(uq HA) j h;exact(uq HO6) _ hlt (uq hb0) (uq hb1) (uq hb2) (uq hb3) (uq hb4))⟩
     case measure=>simp[intOf];omega
    ·have li:¬(k:Int)<(n6:Int):=by omega
     have e6:k=n6:=by omega
     have HA6:Hid (∀ j,j<n6→OK6 j):=hide (by rw[← e6];exact uq HA);clear hlt hk e6 HA;have HR:=hide ((uq HY) (uq hb0) (uq hb1) (uq hb2) (uq hb3) (uq hb4) (uq hb5) (uq HNN) (uq HA7) (uq HA6));go_wp2_with fail
     go_ret;exact⟨by rw[uq HR];rfl,uq HK⟩
theorem zcV {w:World} {ds:List D} {us:List Value} (hs:ShL zct ds) (hr:Rvs w ds us):Calls Tryz.prog 11 #[.agg us.toArray] w fun e w'=>e= .returned (.bool (zcs ds))∧Keep w w':=by
 obtain⟨r,hR⟩:∃ r,zcs ds=r:=⟨_,rfl⟩;have BV:zbs [fI (gt ds 0),fI (gt ds 1),fI (gt ds 2),fI (gt ds 3),fI (gt ds 4),fI (gt ds 7),fI (gt ds 8)]=false→r=false:=fun h=>by rw[← hR];unfold zcs;simp[h]
 have B5:zbb 0 12 zbR (fL (gt ds 5))=false→r=false:=fun h=>by rw[← hR];unfold zcs;simp[h]
 have B6:zbb 0 12 zbv (fL (gt ds 6))=false→r=false:=fun h=>by rw[← hR];unfold zcs;simp[h]
 have BY:zbs [fI (gt ds 0),fI (gt ds 1),fI (gt ds 2),fI (gt ds 3),fI (gt ds 4),fI (gt ds 7),fI (gt ds 8)]=true→zbb 0 12 zbR (fL (gt ds 5))=true→zbb 0 12 zbv (fL (gt ds 6))=true→r=true:=fun h1 h2 h3=>by rw[← hR];unfold zcs;simp[h1,h2,h3]
 rw[hR];clear hR;simp only[ShL,Sh1,zct]at hs;obtain⟨_,_,rfl,⟨v0,rfl,_,_⟩,⟨_,_,rfl,⟨v1,rfl,_,_⟩,⟨_,_,rfl,⟨v2,rfl,_,_⟩,⟨_,_,rfl,⟨v3,rfl,_,_⟩,⟨_,_,rfl,⟨v4,rfl,_,_⟩,⟨_,_,rfl,⟨L5,rfl,_,q5⟩,⟨_,_,rfl,⟨L6,rfl,_,q6⟩,⟨_,_,rfl,⟨v7,rfl,_,_⟩,⟨_,_,rfl,⟨v8,rfl,_,_⟩,rfl⟩⟩⟩⟩⟩⟩⟩⟩⟩:=hs;simp only[Rvs,Rv,dS,dI,dB]at hr;obtain⟨_,_,rfl,rfl,⟨_,_,rfl,rfl,⟨_,_,rfl,rfl,⟨_,_,rfl,rfl,⟨_,_,rfl,rfl,⟨_,_,rfl,⟨x5,z5,rfl,y5,m5⟩,⟨_,_,rfl,⟨x6,z6,rfl,y6,m6⟩,⟨_,_,rfl,rfl,⟨_,_,rfl,rfl,rfl⟩⟩⟩⟩⟩⟩⟩⟩⟩:=hr;simp only[gt,List.getD_cons_zero,List.getD_cons_succ,fL,fI,dI]at BV B5 B6 BY;have hp:w.heap.size≤w.heap.size:=Nat.le_refl _;have hF:=Fb.refl w.heap.size w;refine zft nB nuB fB2 v0 v1 v2 v3 v4 x5 L5.length z5 x6 L6.length z6 v7 v8 (fun k=>sv (tS (gt (L5.getD k []) 0))) (sA w x5 7 1) (sN w x5 7 1) (sC w x5 7 1) (sA w x5 7 2) (sN w x5 7 2) (sC w x5 7 2) (sA w x5 7 3) (sN w x5 7 3) (sC w x5 7 3) (sA w x5 7 4) (sN w x5 7 4) (sC w x5 7 4) (sA w x5 7 5) (sN w x5 7 5) (sC w x5 7 5) (fun k=>fI (gt (L5.getD k []) 6)) (fun k=>sv (tS (gt (L6.getD k []) 0))) (fun k=>sv (tS (gt (L6.getD k []) 1))) (fun k=>sv (tS (gt (L6.getD k []) 2))) (fun k=>fI (gt (L6.getD k []) 3)) (fun k=>fI (gt (L6.getD k []) 4)) (fun k=>fI (gt (L6.getD k []) 5)) (fun k=>zbR (L5.getD k [])) (fun k=>zbv (L6.getD k [])=true) (fun k=>zbR (L5.getD k [])=true) r w (hide tnm) (hide tnu) (hide tfr) (hide fun k hk w' hw=>ziz (q5 _ (zaV hk)) (Rvs.keep hw _ _ (zeA q5 m5 k hk))) (hide fun k hk=>?_) (hide fun k hk=>?_) (hide fun h=>BV (by simp[zbs,h])) (hide fun h=>BV (by simp[zbs,h])) (hide fun h=>BV (by simp[zbs,h])) (hide fun h=>BV (by unfold fB2 at h;rw[Bool.and_eq_false_iff]at h;rcases h with h|h<;>simp[zbs,h])) (hide fun h=>BV (by simp[zbs,h])) (hide fun h=>BV (by simp[zbs,h])) (hide fun h=>?_) (hide fun k hk h=>B5 (zan hk h)) (hide fun k hk h=>h) (hide fun k hk h=>B6 (zan hk (zpb h))) (hide fun k hk h=>B6 (zan hk (zpc h))) (hide fun k hk h=>B6 (zan hk (zpd h))) (hide fun k hk h=>B6 (zan hk (zpe h))) (hide fun k hk h=>B6 (zan hk (zpf h))) (hide fun k hk h0 h1 h2 h3 h4=>zpg h0 h1 h2 h3 h4) (hide fun h0 h1 h2 h3 h4 h5 hN g5 g6=>BY (by unfold fB2 at h3;rw[Bool.and_eq_true]at h3;simp[zbs,h0,h1,h2,h3.1,h3.2,h4,h5]) (zaR ⟨Nat.zero_le _,hN.1⟩ g5) (zaR ⟨Nat.zero_le _,hN.2⟩ g6))
 ·obtain⟨ad,e,_,h⟩:=zfV hp hF q5 m5 k hk;exact⟨ad,e,h⟩
 ·obtain⟨ad,e,_,h⟩:=zfW hp hF q6 m6 k hk;exact⟨ad,e,h⟩
 ·rcases h with h|h
  ·exact B5 (za4 (by omega))
  ·exact B6 (za4 (by omega))
end S
end Go.Proofs.YtfepanidippjlaaGreatDoor
