/- The document's answer for layer 6: has a node a text? -/
import Derived.Test.YtfepanidippjlaaGreatDoorSRfA
import Derived.Test.YtfepanidippjlaaGreatDoorLNtA
namespace Go.Proofs.YtfepanidippjlaaGreatDoor
open Go.RowKit
attribute [local go_sem ↓] Go.wp_at_zero Go.wp_at_succ
set_option linter.unusedVariables false
set_option linter.unusedSimpArgs false
set_option maxRecDepth 10000
namespace S
set_option maxHeartbeats 32000000 in
theorem zgG (NB:ByteArray→Bool) (UB:Int→Bool) (FB:Int→Int→Bool) (S0:ByteArray) (a1:Option Addr) (n1 c1:Nat) (a2:Option Addr) (n2 c2:Nat) (a3:Option Addr) (n3 c3:Nat) (a4:Option Addr) (n4 c4:Nat) (a5:Option Addr) (n5 c5:Nat) (v6:Int) (S1_0:Nat→ByteArray) (V1_1:Nat→Int) (V1_2:Nat→Int) (V1_3:Nat→Int) (V1_4:Nat→Int) (V1_5:Nat→Int) (V1_6:Nat→Int) (V1_7:Nat→Int) (V1_8:Nat→Int) (V1_9:Nat→Int) (V1_10:Nat→Int) (S2_0:Nat→ByteArray) (S2_1:Nat→ByteArray) (V2_2:Nat→Int) (V2_3:Nat→Int) (V2_4:Nat→Int) (V2_5:Nat→Int) (S3_0:Nat→ByteArray) (A3_1:Nat→Option Addr) (N3_1 C3_1:Nat→Nat) (V3_2:Nat→Int) (A4_0:Nat→Option Addr) (N4_0 C4_0:Nat→Nat) (S5_0:Nat→ByteArray) (S5_1:Nat→ByteArray) (V5_2:Nat→Int) (AA:Nat→Nat→Option Addr) (NA CA:Nat→Nat→Nat) (P3:Nat→Bool) (PR:Nat→Nat→Bool) (OK1 OK2 OK3 OK4 OK5:Nat→Prop) (r:Bool) (w:World)
  (TNm:Hid (∀(s:ByteArray) w',Calls Tryz.prog 30 #[.string s] w' fun e w''=>e= .returned (.bool (NB s))∧Keep w' w''))
  (TNu:Hid (∀(n:Int) w',Calls Tryz.prog 27 #[.int .i64 n] w' fun e w''=>e= .returned (.bool (UB n))∧Keep w' w''))
  (TFr:Hid (∀(a b:Int) w',Calls Tryz.prog 28 #[.agg #[.int .i64 a,.int .i64 b]] w' fun e w''=>e= .returned (.bool (FB a b))∧Keep w' w''))
  (TL3:Hid (∀ k,k<n3→∀ w',Keep w w'→Calls Tryz.prog 58 #[.slice (A3_1 k) (N3_1 k) (C3_1 k),.int .i64 16] w' fun e w''=>e= .returned (.bool (P3 k))∧Keep w' w''))
  (TR:Hid (∀ k,k<n4→∀ j,j<N4_0 k→∀ w',Keep w w'→Calls Tryz.prog 58 #[.slice (AA k j) (NA k j) (CA k j),.int .i64 4] w' fun e w''=>e= .returned (.bool (PR k j))∧Keep w' w''))
  (HC1:Hid (∀ k,k<n1→∃ ad,a1=some ad∧w.cell? (ad.add (k * 11))=some (.string (S1_0 k))∧w.cell? ⟨(ad.add (k * 11)).block,(ad.add (k * 11)).off+1,none⟩=some (.int .i64 (V1_1 k))∧w.cell? ⟨(ad.add (k * 11)).block,(ad.add (k * 11)).off+2,none⟩=some (.int .i64 (V1_2 k))∧w.cell? ⟨(ad.add (k * 11)).block,(ad.add (k * 11)).off+3,none⟩=some (.int .i64 (V1_3 k))∧w.cell? ⟨(ad.add (k * 11)).block,(ad.add (k * 11)).off+4,none⟩=some (.int .i64 (V1_4 k))∧w.cell? ⟨(ad.add (k * 11)).block,(ad.add (k * 11)).off+5,none⟩=some (.int .i64 (V1_5 k))∧w.cell? ⟨(ad.add (k * 11)).block,(ad.add (k * 11)).off+6,none⟩=some (.int .i64 (V1_6 k))∧w.cell? ⟨(ad.add (k * 11)).block,(ad.add (k * 11)).off+7,none⟩=some (.int .i64 (V1_7 k))∧w.cell? ⟨(ad.add (k * 11)).block,(ad.add (k * 11)).off+8,none⟩=some (.int .i64 (V1_8 k))∧w.cell? ⟨(ad.add (k * 11)).block,(ad.add (k * 11)).off+9,none⟩=some (.int .i64 (V1_9 k))∧w.cell? ⟨(ad.add (k * 11)).block,(ad.add (k * 11)).off+10,none⟩=some (.int .i64 (V1_10 k))))
  (HC2:Hid (∀ k,k<n2→∃ ad,a2=some ad∧w.cell? (ad.add (k * 6))=some (.string (S2_0 k))∧w.cell? ⟨(ad.add (k * 6)).block,(ad.add (k * 6)).off+1,none⟩=some (.string (S2_1 k))∧w.cell? ⟨(ad.add (k * 6)).block,(ad.add (k * 6)).off+2,none⟩=some (.int .i64 (V2_2 k))∧w.cell? ⟨(ad.add (k * 6)).block,(ad.add (k * 6)).off+3,none⟩=some (.int .i64 (V2_3 k))∧w.cell? ⟨(ad.add (k * 6)).block,(ad.add (k * 6)).off+4,none⟩=some (.int .i64 (V2_4 k))∧w.cell? ⟨(ad.add (k * 6)).block,(ad.add (k * 6)).off+5,none⟩=some (.int .i64 (V2_5 k))))
  (HC3:Hid (∀ k,k<n3→∃ ad,a3=some ad∧w.cell? (ad.add (k * 3))=some (.string (S3_0 k))∧w.cell? ⟨(ad.add (k * 3)).block,(ad.add (k * 3)).off+1,none⟩=some (.slice (A3_1 k) (N3_1 k) (C3_1 k))))
  (HC4:Hid (∀ k,k<n4→∃ ad,a4=some ad∧w.cell? (ad.add k)=some (.slice (A4_0 k) (N4_0 k) (C4_0 k))))
  (HC5:Hid (∀ k,k<n5→∃ ad,a5=some ad∧w.cell? (ad.add (k * 3))=some (.string (S5_0 k))∧w.cell? ⟨(ad.add (k * 3)).block,(ad.add (k * 3)).off+1,none⟩=some (.string (S5_1 k))))
  (HCR:Hid (∀ k,k<n4→∀ j,j<N4_0 k→∃ bd,A4_0 k=some bd∧w.cell? ⟨(bd.add (j * 2)).block,(bd.add (j * 2)).off+1,none⟩=some (.slice (AA k j) (NA k j) (CA k j))))
  (HB0:Hid (NB S0=false→r=false)) (HL:Hid ((16<n1∨8<n2∨16<n3∨4<n4∨64<n5)→r=false))
  (HB1_0:Hid (∀ k,k<n1→NB (S1_0 k)=false→r=false))
  (HB1_1:Hid (∀ k,k<n1→UB (V1_1 k)=false→r=false))
  (HB1_2:Hid (∀ k,k<n1→UB (V1_2 k)=false→r=false))
  (HB1_3:Hid (∀ k,k<n1→FB (V1_3 k) (V1_4 k)=false→r=false))
  (HB1_4:Hid (∀ k,k<n1→UB (V1_5 k)=false→r=false))
  (HG1:Hid (∀ k,k<n1→(V1_6 k< -999999999999999999∨999999999999999999<V1_6 k)→r=false))
  (HB1_6:Hid (∀ k,k<n1→UB (V1_7 k)=false→r=false))
  (HB1_7:Hid (∀ k,k<n1→UB (V1_8 k)=false→r=false))
  (HB1_8:Hid (∀ k,k<n1→UB (V1_9 k)=false→r=false))
  (HO1:Hid (∀ k,k<n1→NB (S1_0 k)=true→UB (V1_1 k)=true→UB (V1_2 k)=true→FB (V1_3 k) (V1_4 k)=true→UB (V1_5 k)=true→(-999999999999999999≤V1_6 k∧V1_6 k≤999999999999999999)→UB (V1_7 k)=true→UB (V1_8 k)=true→UB (V1_9 k)=true→OK1 k))
  (HB2_0:Hid (∀ k,k<n2→NB (S2_0 k)=false→r=false))
  (HB2_1:Hid (∀ k,k<n2→NB (S2_1 k)=false→r=false))
  (HB2_2:Hid (∀ k,k<n2→UB (V2_2 k)=false→r=false))
  (HB2_3:Hid (∀ k,k<n2→UB (V2_3 k)=false→r=false))
  (HB2_4:Hid (∀ k,k<n2→UB (V2_4 k)=false→r=false))
  (HO2:Hid (∀ k,k<n2→NB (S2_0 k)=true→NB (S2_1 k)=true→UB (V2_2 k)=true→UB (V2_3 k)=true→UB (V2_4 k)=true→OK2 k))
  (HB3_0:Hid (∀ k,k<n3→NB (S3_0 k)=false→r=false))
  (HB3_1:Hid (∀ k,k<n3→P3 k=false→r=false))
  (HO3:Hid (∀ k,k<n3→NB (S3_0 k)=true→P3 k=true→OK3 k))
  (HB5_0:Hid (∀ k,k<n5→NB (S5_0 k)=false→r=false))
  (HB5_1:Hid (∀ k,k<n5→NB (S5_1 k)=false→r=false))
  (HO5:Hid (∀ k,k<n5→NB (S5_0 k)=true→NB (S5_1 k)=true→OK5 k))
  (HL4:Hid (∀ k,k<n4→¬(1≤N4_0 k∧N4_0 k≤2)→r=false)) (HB4:Hid (∀ k,k<n4→∀ j,j<N4_0 k→PR k j=false→r=false)) (HO4:Hid (∀ k,k<n4→(1≤N4_0 k∧N4_0 k≤2)→(∀ j,j<N4_0 k→PR k j=true)→OK4 k))
  (HY:Hid (NB S0=true→(n1≤16∧n2≤8∧n3≤16∧n4≤4∧n5≤64)→(∀ k,k<n1→OK1 k)→(∀ k,k<n2→OK2 k)→(∀ k,k<n3→OK3 k)→(∀ k,k<n4→OK4 k)→(∀ k,k<n5→OK5 k)→r=true)):
  Calls Tryz.prog 29 #[.agg #[.string S0,.slice a1 n1 c1,.slice a2 n2 c2,.slice a3 n3 c3,.slice a4 n4 c4,.slice a5 n5 c5,.int .i64 v6]] w fun e w'=>e= .returned (.bool r)∧Keep w w':=by
 have HK:=hide ((Keep.refl w).alloc (.cells #[.string S0,.slice a1 n1 c1,.slice a2 n2 c2,.slice a3 n3 c3,.slice a4 n4 c4,.slice a5 n5 c5,.int .i64 v6] 46));have HB:Hid ((w.alloc (.cells #[.string S0,.slice a1 n1 c1,.slice a2 n2 c2,.slice a3 n3 c3,.slice a4 n4 c4,.slice a5 n5 c5,.int .i64 v6] 46)).heap[w.heap.size]? =some (.cells #[.string S0,.slice a1 n1 c1,.slice a2 n2 c2,.slice a3 n3 c3,.slice a4 n4 c4,.slice a5 n5 c5,.int .i64 v6] 46 (0,0))):=hide (heap_alloc_new w _);go_enter Tryz.func29,Tryz.ntmps29
 go_upto_region 1 with fail
 generalize w.alloc (.cells #[.string S0,.slice a1 n1 c1,.slice a2 n2 c2,.slice a3 n3 c3,.slice a4 n4 c4,.slice a5 n5 c5,.int .i64 v6] 46)=w0 at HK HB ⊢;obtain⟨gb,HGB⟩:∃ gb,Hid (w.heap.size=gb):=⟨_,hide rfl⟩;rw[uq HGB]at HB ⊢;have z0:w0.cell? ⟨gb,0,none⟩=some (.string S0):=by simp[World.cell?,uq HB]
 obtain⟨b,hb⟩:∃ b,Hid (NB S0=b):=⟨_,hide rfl⟩;have C:=hide ((uq TNm) S0);rw[uq hb]at C;go_wp2_with fail
 (refine((uq C) _).mono ?_;rintro e w1 ⟨rfl,hk9⟩;have HM:=hide hk9;clear hk9);clear z0;replace HB:=hide (((uq HM).block gb (Array.getElem?_eq_some_iff.1 (uq HB)).1).trans (uq HB));replace HK:=hide ((uq HK).trans (uq HM));cases b
 ·have HR:=hide ((uq HB0) (uq hb));go_wp2_with fail
  go_ret;exact⟨by rw[uq HR];rfl,uq HK⟩
 have z1:w1.cell? ⟨gb,1,none⟩=some (.slice a1 n1 c1):=by simp[World.cell?,uq HB]
 have z2:w1.cell? ⟨gb,2,none⟩=some (.slice a2 n2 c2):=by simp[World.cell?,uq HB]
 have z3:w1.cell? ⟨gb,3,none⟩=some (.slice a3 n3 c3):=by simp[World.cell?,uq HB]
 have z4:w1.cell? ⟨gb,4,none⟩=some (.slice a4 n4 c4):=by simp[World.cell?,uq HB]
 have z5:w1.cell? ⟨gb,5,none⟩=some (.slice a5 n5 c5):=by simp[World.cell?,uq HB]
 by_cases g1:(16:Int)<(n1:Int)
 ·have HR:=hide ((uq HL) (by omega));go_wp2_with fail
  go_ret;exact⟨by rw[uq HR];rfl,uq HK⟩
 by_cases g2:(8:Int)<(n2:Int)
 ·have HR:=hide ((uq HL) (by omega));go_wp2_with fail
  go_ret;exact⟨by rw[uq HR];rfl,uq HK⟩
 by_cases g3:(16:Int)<(n3:Int)
 ·have HR:=hide ((uq HL) (by omega));go_wp2_with fail
  go_ret;exact⟨by rw[uq HR];rfl,uq HK⟩
 by_cases g4:(4:Int)<(n4:Int)
 ·have HR:=hide ((uq HL) (by omega));go_wp2_with fail
  go_ret;exact⟨by rw[uq HR];rfl,uq HK⟩
 by_cases g5:(64:Int)<(n5:Int)
 ·have HR:=hide ((uq HL) (by omega));go_wp2_with fail
  go_ret;exact⟨by rw[uq HR];rfl,uq HK⟩
 have HNN:Hid (n1≤16∧n2≤8∧n3≤16∧n4≤4∧n5≤64):=hide (by omega);go_wp2_with fail
 clear g1 g2 g3 g4 g5 z1 z2 z3 z4 z5
 go_loopw [3] (fun vi wr=>∃ k:Nat,k≤n1∧vi= .int .i64 (k:Int)∧Hid (Keep w wr)∧Hid (wr.heap[gb]? =some (.cells #[.string S0,.slice a1 n1 c1,.slice a2 n2 c2,.slice a3 n3 c3,.slice a4 n4 c4,.slice a5 n5 c5,.int .i64 v6] 46 (0,0)))∧Hid (∀ j,j<k→OK1 j)) (fun vi _=>n1 - (intOf vi).toNat)
 case atStart=>exact⟨0,Nat.zero_le _,rfl,HK,HB,hide (fun j hj=>by omega)⟩
 case round=>
  obtain⟨k,hk,rfl,HK,HB,HA⟩:=hrel;have zz:wr.cell? ⟨gb,1,none⟩=some (.slice a1 n1 c1):=by simp[World.cell?,uq HB]
  by_cases hlt:k<n1
  ·have li:(k:Int)<(n1:Int):=by omega
   have hk9:k≤100:=by have:=uq HNN;omega
   obtain⟨ad,rfl,e0,e1,e2,e3,e4,e5,e6,e7,e8,e9,e10⟩:=(uq HC1) k hlt;have x0:=Q.kcell (uq HK) e0;have x1:=Q.kcell (uq HK) e1;have x2:=Q.kcell (uq HK) e2;have x3:=Q.kcell (uq HK) e3;have x4:=Q.kcell (uq HK) e4;have x5:=Q.kcell (uq HK) e5;have x6:=Q.kcell (uq HK) e6;have x7:=Q.kcell (uq HK) e7;have x8:=Q.kcell (uq HK) e8;have x9:=Q.kcell (uq HK) e9;have x10:=Q.kcell (uq HK) e10;clear e0 e1 e2 e3 e4 e5 e6 e7 e8 e9 e10;have HK0:=hide ((uq HK).alloc (.cells #[.string (S1_0 k),.int .i64 (V1_1 k),.int .i64 (V1_2 k),.int .i64 (V1_3 k),.int .i64 (V1_4 k),.int .i64 (V1_5 k),.int .i64 (V1_6 k),.int .i64 (V1_7 k),.int .i64 (V1_8 k),.int .i64 (V1_9 k),.int .i64 (V1_10 k)] 84));have hxa:=heap_alloc_new wr (.cells #[.string (S1_0 k),.int .i64 (V1_1 k),.int .i64 (V1_2 k),.int .i64 (V1_3 k),.int .i64 (V1_4 k),.int .i64 (V1_5 k),.int .i64 (V1_6 k),.int .i64 (V1_7 k),.int .i64 (V1_8 k),.int .i64 (V1_9 k),.int .i64 (V1_10 k)] 84);have HM0:=hide ((Keep.refl wr).alloc (.cells #[.string (S1_0 k),.int .i64 (V1_1 k),.int .i64 (V1_2 k),.int .i64 (V1_3 k),.int .i64 (V1_4 k),.int .i64 (V1_5 k),.int .i64 (V1_6 k),.int .i64 (V1_7 k),.int .i64 (V1_8 k),.int .i64 (V1_9 k),.int .i64 (V1_10 k)] 84))
   go_upto_region 7 with fail
   generalize hwa:wr.alloc (.cells #[.string (S1_0 k),.int .i64 (V1_1 k),.int .i64 (V1_2 k),.int .i64 (V1_3 k),.int .i64 (V1_4 k),.int .i64 (V1_5 k),.int .i64 (V1_6 k),.int .i64 (V1_7 k),.int .i64 (V1_8 k),.int .i64 (V1_9 k),.int .i64 (V1_10 k)] 84)=wa at HK0 hxa HM0 ⊢;clear hwa;obtain⟨qb,HQB⟩:∃ qb,Hid (wr.heap.size=qb):=⟨_,hide rfl⟩;rw[uq HQB]at hxa ⊢;have HXH:Hid (∀ w',Keep wa w'→w'.cell? ⟨qb,0,none⟩=some (.string (S1_0 k))∧w'.cell? ⟨qb,1,none⟩=some (.int .i64 (V1_1 k))∧w'.cell? ⟨qb,2,none⟩=some (.int .i64 (V1_2 k))∧w'.cell? ⟨qb,3,none⟩=some (.int .i64 (V1_3 k))∧w'.cell? ⟨qb,4,none⟩=some (.int .i64 (V1_4 k))∧w'.cell? ⟨qb,5,none⟩=some (.int .i64 (V1_5 k))∧w'.cell? ⟨qb,6,none⟩=some (.int .i64 (V1_6 k))∧w'.cell? ⟨qb,7,none⟩=some (.int .i64 (V1_7 k))∧w'.cell? ⟨qb,8,none⟩=some (.int .i64 (V1_8 k))∧w'.cell? ⟨qb,9,none⟩=some (.int .i64 (V1_9 k))∧w'.cell? ⟨qb,10,none⟩=some (.int .i64 (V1_10 k))):=hide (fun w' k9=>by have h:=k9.block qb (Array.getElem?_eq_some_iff.1 hxa).1;rw[hxa]at h;refine⟨?_,?_,?_,?_,?_,?_,?_,?_,?_,?_,?_⟩<;>simp[World.cell?,h]);clear hxa zz x0 x1 x2 x3 x4 x5 x6 x7 x8 x9 x10;have HN0:=hide (Keep.refl wa);obtain⟨f0,f1,f2,f3,f4,f5,f6,f7,f8,f9,f10⟩:=(uq HXH) wa (uq HN0);clear f1 f2 f3 f4 f5 f6 f7 f8 f9 f10;obtain⟨b0,hb0⟩:∃ b,Hid (NB (S1_0 k)=b):=⟨_,hide rfl⟩;have C0:=hide ((uq TNm) (S1_0 k));rw[uq hb0]at C0;have HQ0:=hide ((uq HB1_0) k hlt);go_wp2_with fail
   (refine((uq C0) _).mono ?_;rintro e u1 ⟨rfl,hk9⟩;have HK1:=hide ((uq HK0).trans hk9);have HM1:=hide ((uq HM0).trans hk9);have HN1:=hide ((uq HN0).trans hk9);clear hk9);cases b0
   ·have HR:=hide ((uq HQ0) (uq hb0));go_wp2_with fail
    go_ret;exact⟨by rw[uq HR];rfl,uq HK1⟩
   clear HQ0;obtain⟨f0,f1,f2,f3,f4,f5,f6,f7,f8,f9,f10⟩:=(uq HXH) u1 (uq HN1);clear f0 f2 f3 f4 f5 f6 f7 f8 f9 f10;obtain⟨b1,hb1⟩:∃ b,Hid (UB (V1_1 k)=b):=⟨_,hide rfl⟩;have C1:=hide ((uq TNu) (V1_1 k));rw[uq hb1]at C1;have HQ1:=hide ((uq HB1_1) k hlt);go_wp2_with fail
   (refine((uq C1) _).mono ?_;rintro e u2 ⟨rfl,hk9⟩;have HK2:=hide ((uq HK1).trans hk9);have HM2:=hide ((uq HM1).trans hk9);have HN2:=hide ((uq HN1).trans hk9);clear hk9);cases b1
   ·have HR:=hide ((uq HQ1) (uq hb1));go_wp2_with fail
    go_ret;exact⟨by rw[uq HR];rfl,uq HK2⟩
   clear HQ1;obtain⟨f0,f1,f2,f3,f4,f5,f6,f7,f8,f9,f10⟩:=(uq HXH) u2 (uq HN2);clear f0 f1 f3 f4 f5 f6 f7 f8 f9 f10;obtain⟨b2,hb2⟩:∃ b,Hid (UB (V1_2 k)=b):=⟨_,hide rfl⟩;have C2:=hide ((uq TNu) (V1_2 k));rw[uq hb2]at C2;have HQ2:=hide ((uq HB1_2) k hlt);go_wp2_with fail
   (refine((uq C2) _).mono ?_;rintro e u3 ⟨rfl,hk9⟩;have HK3:=hide ((uq HK2).trans hk9);have HM3:=hide ((uq HM2).trans hk9);have HN3:=hide ((uq HN2).trans hk9);clear hk9);cases b2
   ·have HR:=hide ((uq HQ2) (uq hb2));go_wp2_with fail
    go_ret;exact⟨by rw[uq HR];rfl,uq HK3⟩
   clear HQ2;obtain⟨f0,f1,f2,f3,f4,f5,f6,f7,f8,f9,f10⟩:=(uq HXH) u3 (uq HN3);clear f0 f1 f2 f5 f6 f7 f8 f9 f10;obtain⟨b3,hb3⟩:∃ b,Hid (FB (V1_3 k) (V1_4 k)=b):=⟨_,hide rfl⟩;have C3:=hide ((uq TFr) (V1_3 k) (V1_4 k));rw[uq hb3]at C3;have HQ3:=hide ((uq HB1_3) k hlt);go_wp2_with fail
   (refine((uq C3) _).mono ?_;rintro e u4 ⟨rfl,hk9⟩;have HK4:=hide ((uq HK3).trans hk9);have HM4:=hide ((uq HM3).trans hk9);have HN4:=hide ((uq HN3).trans hk9);clear hk9);cases b3
   ·have HR:=hide ((uq HQ3) (uq hb3));go_wp2_with fail
    go_ret;exact⟨by rw[uq HR];rfl,uq HK4⟩
   clear HQ3;obtain⟨f0,f1,f2,f3,f4,f5,f6,f7,f8,f9,f10⟩:=(uq HXH) u4 (uq HN4);clear f0 f1 f2 f3 f4 f6 f7 f8 f9 f10;obtain⟨b4,hb4⟩:∃ b,Hid (UB (V1_5 k)=b):=⟨_,hide rfl⟩;have C4:=hide ((uq TNu) (V1_5 k));rw[uq hb4]at C4;have HQ4:=hide ((uq HB1_4) k hlt);go_wp2_with fail
   (refine((uq C4) _).mono ?_;rintro e u5 ⟨rfl,hk9⟩;have HK5:=hide ((uq HK4).trans hk9);have HM5:=hide ((uq HM4).trans hk9);have HN5:=hide ((uq HN4).trans hk9);clear hk9);cases b4
   ·have HR:=hide ((uq HQ4) (uq hb4));go_wp2_with fail
    go_ret;exact⟨by rw[uq HR];rfl,uq HK5⟩
   clear HQ4;obtain⟨f0,f1,f2,f3,f4,f5,f6,f7,f8,f9,f10⟩:=(uq HXH) u5 (uq HN5);clear f0 f1 f2 f3 f4 f5 f7 f8 f9 f10;by_cases gA:V1_6 k< -999999999999999999
   ·have HR:=hide ((uq HG1) k hlt (.inl gA));go_wp2_with fail
    go_ret;exact⟨by rw[uq HR];rfl,uq HK5⟩
   by_cases gB:999999999999999999<V1_6 k
   ·have HR:=hide ((uq HG1) k hlt (.inr gB));go_wp2_with fail
    go_ret;exact⟨by rw[uq HR];rfl,uq HK5⟩
   have HGG:Hid (-999999999999999999≤V1_6 k∧V1_6 k≤999999999999999999):=hide (by omega);obtain⟨f0,f1,f2,f3,f4,f5,f6,f7,f8,f9,f10⟩:=(uq HXH) u5 (uq HN5);clear f0 f1 f2 f3 f4 f5 f6 f8 f9 f10;obtain⟨b6,hb6⟩:∃ b,Hid (UB (V1_7 k)=b):=⟨_,hide rfl⟩;have C6:=hide ((uq TNu) (V1_7 k));rw[uq hb6]at C6;have HQ6:=hide ((uq HB1_6) k hlt);go_wp2_with fail
   (refine((uq C6) _).mono ?_;rintro e u6 ⟨rfl,hk9⟩;have HK6:=hide ((uq HK5).trans hk9);have HM6:=hide ((uq HM5).trans hk9);have HN6:=hide ((uq HN5).trans hk9);clear hk9);cases b6
   ·have HR:=hide ((uq HQ6) (uq hb6));go_wp2_with fail
    go_ret;exact⟨by rw[uq HR];rfl,uq HK6⟩
   clear HQ6;obtain⟨f0,f1,f2,f3,f4,f5,f6,f7,f8,f9,f10⟩:=(uq HXH) u6 (uq HN6);clear f0 f1 f2 f3 f4 f5 f6 f7 f9 f10;obtain⟨b7,hb7⟩:∃ b,Hid (UB (V1_8 k)=b):=⟨_,hide rfl⟩;have C7:=hide ((uq TNu) (V1_8 k));rw[uq hb7]at C7;have HQ7:=hide ((uq HB1_7) k hlt);go_wp2_with fail
   (refine((uq C7) _).mono ?_;rintro e u7 ⟨rfl,hk9⟩;have HK7:=hide ((uq HK6).trans hk9);have HM7:=hide ((uq HM6).trans hk9);have HN7:=hide ((uq HN6).trans hk9);clear hk9);cases b7
   ·have HR:=hide ((uq HQ7) (uq hb7));go_wp2_with fail
    go_ret;exact⟨by rw[uq HR];rfl,uq HK7⟩
   clear HQ7;obtain⟨f0,f1,f2,f3,f4,f5,f6,f7,f8,f9,f10⟩:=(uq HXH) u7 (uq HN7);clear f0 f1 f2 f3 f4 f5 f6 f7 f8 f10;obtain⟨b8,hb8⟩:∃ b,Hid (UB (V1_9 k)=b):=⟨_,hide rfl⟩;have C8:=hide ((uq TNu) (V1_9 k));rw[uq hb8]at C8;have HQ8:=hide ((uq HB1_8) k hlt);go_wp2_with fail
   (refine((uq C8) _).mono ?_;rintro e u8 ⟨rfl,hk9⟩;have HK8:=hide ((uq HK7).trans hk9);have HM8:=hide ((uq HM7).trans hk9);have HN8:=hide ((uq HN7).trans hk9);clear hk9);cases b8
   ·have HR:=hide ((uq HQ8) (uq hb8));go_wp2_with fail
    go_ret;exact⟨by rw[uq HR];rfl,uq HK8⟩
   clear HQ8;go_wp2_with fail
   go_roundw
   case rel=>exact⟨k+1,hlt,by go_num,HK8,hide (((uq HM8).block gb (Array.getElem?_eq_some_iff.1 (uq HB)).1).trans (uq HB)),hide (fun j hj=>by rcases Nat.lt_succ_iff_lt_or_eq.1 hj with h|rfl;exact(uq HA) j h;exact(uq HO1) _ hlt (uq hb0) (uq hb1) (uq hb2) (uq hb3) (uq hb4) (uq HGG) (uq hb6) (uq hb7) (uq hb8))⟩
   case measure=>simp[intOf];omega
  ·have li:¬(k:Int)<(n1:Int):=by omega
   have e1:k=n1:=by omega
   have HA1:Hid (∀ j,j<n1→OK1 j):=hide (by rw[← e1];exact uq HA);clear hlt hk e1 HA;go_wp2_with fail
   go_loopw [5] (fun vi wr=>∃ k:Nat,k≤n2∧vi= .int .i64 (k:Int)∧Hid (Keep w wr)∧Hid (wr.heap[gb]? =some (.cells #[.string S0,.slice a1 n1 c1,.slice a2 n2 c2,.slice a3 n3 c3,.slice a4 n4 c4,.slice a5 n5 c5,.int .i64 v6] 46 (0,0)))∧Hid (∀ j,j<k→OK2 j)) (fun vi _=>n2 - (intOf vi).toNat)
   case atStart=>exact⟨0,Nat.zero_le _,rfl,HK,HB,hide (fun j hj=>by omega)⟩
   case round=>
    obtain⟨k,hk,rfl,HK,HB,HA⟩:=hrel;have zz:wr.cell? ⟨gb,2,none⟩=some (.slice a2 n2 c2):=by simp[World.cell?,uq HB]
    by_cases hlt:k<n2
    ·have li:(k:Int)<(n2:Int):=by omega
     have hk9:k≤100:=by have:=uq HNN;omega
     obtain⟨ad,rfl,e0,e1,e2,e3,e4,e5⟩:=(uq HC2) k hlt;have x0:=Q.kcell (uq HK) e0;have x1:=Q.kcell (uq HK) e1;have x2:=Q.kcell (uq HK) e2;have x3:=Q.kcell (uq HK) e3;have x4:=Q.kcell (uq HK) e4;have x5:=Q.kcell (uq HK) e5;clear e0 e1 e2 e3 e4 e5;have HK0:=hide ((uq HK).alloc (.cells #[.string (S2_0 k),.string (S2_1 k),.int .i64 (V2_2 k),.int .i64 (V2_3 k),.int .i64 (V2_4 k),.int .i64 (V2_5 k)] 86));have hxa:=heap_alloc_new wr (.cells #[.string (S2_0 k),.string (S2_1 k),.int .i64 (V2_2 k),.int .i64 (V2_3 k),.int .i64 (V2_4 k),.int .i64 (V2_5 k)] 86);have HM0:=hide ((Keep.refl wr).alloc (.cells #[.string (S2_0 k),.string (S2_1 k),.int .i64 (V2_2 k),.int .i64 (V2_3 k),.int .i64 (V2_4 k),.int .i64 (V2_5 k)] 86))
     go_upto_region 13 with fail
     generalize hwa:wr.alloc (.cells #[.string (S2_0 k),.string (S2_1 k),.int .i64 (V2_2 k),.int .i64 (V2_3 k),.int .i64 (V2_4 k),.int .i64 (V2_5 k)] 86)=wa at HK0 hxa HM0 ⊢;clear hwa;obtain⟨qb,HQB⟩:∃ qb,Hid (wr.heap.size=qb):=⟨_,hide rfl⟩;rw[uq HQB]at hxa ⊢;have HXH:Hid (∀ w',Keep wa w'→w'.cell? ⟨qb,0,none⟩=some (.string (S2_0 k))∧w'.cell? ⟨qb,1,none⟩=some (.string (S2_1 k))∧w'.cell? ⟨qb,2,none⟩=some (.int .i64 (V2_2 k))∧w'.cell? ⟨qb,3,none⟩=some (.int .i64 (V2_3 k))∧w'.cell? ⟨qb,4,none⟩=some (.int .i64 (V2_4 k))∧w'.cell? ⟨qb,5,none⟩=some (.int .i64 (V2_5 k))):=hide (fun w' k9=>by have h:=k9.block qb (Array.getElem?_eq_some_iff.1 hxa).1;rw[hxa]at h;refine⟨?_,?_,?_,?_,?_,?_⟩<;>simp[World.cell?,h]);clear hxa zz x0 x1 x2 x3 x4 x5;have HN0:=hide (Keep.refl wa);obtain⟨f0,f1,f2,f3,f4,f5⟩:=(uq HXH) wa (uq HN0);clear f1 f2 f3 f4 f5;obtain⟨b0,hb0⟩:∃ b,Hid (NB (S2_0 k)=b):=⟨_,hide rfl⟩;have C0:=hide ((uq TNm) (S2_0 k));rw[uq hb0]at C0;have HQ0:=hide ((uq HB2_0) k hlt);go_wp2_with fail
     (refine((uq C0) _).mono ?_;rintro e u1 ⟨rfl,hk9⟩;have HK1:=hide ((uq HK0).trans hk9);have HM1:=hide ((uq HM0).trans hk9);have HN1:=hide ((uq HN0).trans hk9);clear hk9);cases b0
     ·have HR:=hide ((uq HQ0) (uq hb0));go_wp2_with fail
      go_ret;exact⟨by rw[uq HR];rfl,uq HK1⟩
     clear HQ0;obtain⟨f0,f1,f2,f3,f4,f5⟩:=(uq HXH) u1 (uq HN1);clear f0 f2 f3 f4 f5;obtain⟨b1,hb1⟩:∃ b,Hid (NB (S2_1 k)=b):=⟨_,hide rfl⟩;have C1:=hide ((uq TNm) (S2_1 k));rw[uq hb1]at C1;have HQ1:=hide ((uq HB2_1) k hlt);go_wp2_with fail
     (refine((uq C1) _).mono ?_;rintro e u2 ⟨rfl,hk9⟩;have HK2:=hide ((uq HK1).trans hk9);have HM2:=hide ((uq HM1).trans hk9);have HN2:=hide ((uq HN1).trans hk9);clear hk9);cases b1
     ·have HR:=hide ((uq HQ1) (uq hb1));go_wp2_with fail
      go_ret;exact⟨by rw[uq HR];rfl,uq HK2⟩
     clear HQ1;obtain⟨f0,f1,f2,f3,f4,f5⟩:=(uq HXH) u2 (uq HN2);clear f0 f1 f3 f4 f5;obtain⟨b2,hb2⟩:∃ b,Hid (UB (V2_2 k)=b):=⟨_,hide rfl⟩;have C2:=hide ((uq TNu) (V2_2 k));rw[uq hb2]at C2;have HQ2:=hide ((uq HB2_2) k hlt);go_wp2_with fail
     (refine((uq C2) _).mono ?_;rintro e u3 ⟨rfl,hk9⟩;have HK3:=hide ((uq HK2).trans hk9);have HM3:=hide ((uq HM2).trans hk9);have HN3:=hide ((uq HN2).trans hk9);clear hk9);cases b2
     ·have HR:=hide ((uq HQ2) (uq hb2));go_wp2_with fail
      go_ret;exact⟨by rw[uq HR];rfl,uq HK3⟩
     clear HQ2;obtain⟨f0,f1,f2,f3,f4,f5⟩:=(uq HXH) u3 (uq HN3);clear f0 f1 f2 f4 f5;obtain⟨b3,hb3⟩:∃ b,Hid (UB (V2_3 k)=b):=⟨_,hide rfl⟩;have C3:=hide ((uq TNu) (V2_3 k));rw[uq hb3]at C3;have HQ3:=hide ((uq HB2_3) k hlt);go_wp2_with fail
     (refine((uq C3) _).mono ?_;rintro e u4 ⟨rfl,hk9⟩;have HK4:=hide ((uq HK3).trans hk9);have HM4:=hide ((uq HM3).trans hk9);have HN4:=hide ((uq HN3).trans hk9);clear hk9);cases b3
     ·have HR:=hide ((uq HQ3) (uq hb3));go_wp2_with fail
      go_ret;exact⟨by rw[uq HR];rfl,uq HK4⟩
     clear HQ3;obtain⟨f0,f1,f2,f3,f4,f5⟩:=(uq HXH) u4 (uq HN4);clear f0 f1 f2 f3 f5;obtain⟨b4,hb4⟩:∃ b,Hid (UB (V2_4 k)=b):=⟨_,hide rfl⟩;have C4:=hide ((uq TNu) (V2_4 k));rw[uq hb4]at C4;have HQ4:=hide ((uq HB2_4) k hlt);go_wp2_with fail
     (refine((uq C4) _).mono ?_;rintro e u5 ⟨rfl,hk9⟩;have HK5:=hide ((uq HK4).trans hk9);have HM5:=hide ((uq HM4).trans hk9);have HN5:=hide ((uq HN4).trans hk9);clear hk9);cases b4
     ·have HR:=hide ((uq HQ4) (uq hb4));go_wp2_with fail
      go_ret;exact⟨by rw[uq HR];rfl,uq HK5⟩
     clear HQ4;go_wp2_with fail
     go_roundw
     case rel=>exact⟨k+1,hlt,by go_num,HK5,hide (((uq HM5).block gb (Array.getElem?_eq_some_iff.1 (uq HB)).1).trans (uq HB)),hide (fun j hj=>by rcases Nat.lt_succ_iff_lt_or_eq.1 hj with h|rfl;exact(uq HA) j h;exact(uq HO2) _ hlt (uq hb0) (uq hb1) (uq hb2) (uq hb3) (uq hb4))⟩
     case measure=>simp[intOf];omega
    ·have li:¬(k:Int)<(n2:Int):=by omega
     have e2:k=n2:=by omega
     have HA2:Hid (∀ j,j<n2→OK2 j):=hide (by rw[← e2];exact uq HA);clear hlt hk e2 HA;go_wp2_with fail
     go_loopw [7] (fun vi wr=>∃ k:Nat,k≤n3∧vi= .int .i64 (k:Int)∧Hid (Keep w wr)∧Hid (wr.heap[gb]? =some (.cells #[.string S0,.slice a1 n1 c1,.slice a2 n2 c2,.slice a3 n3 c3,.slice a4 n4 c4,.slice a5 n5 c5,.int .i64 v6] 46 (0,0)))∧Hid (∀ j,j<k→OK3 j)) (fun vi _=>n3 - (intOf vi).toNat)
     case atStart=>exact⟨0,Nat.zero_le _,rfl,HK,HB,hide (fun j hj=>by omega)⟩
     case round=>
      obtain⟨k,hk,rfl,HK,HB,HA⟩:=hrel;have zz:wr.cell? ⟨gb,3,none⟩=some (.slice a3 n3 c3):=by simp[World.cell?,uq HB]
      by_cases hlt:k<n3
      ·have li:(k:Int)<(n3:Int):=by omega
       have hk9:k≤100:=by have:=uq HNN;omega
       obtain⟨ad,rfl,e0,e1⟩:=(uq HC3) k hlt;have x0:=Q.kcell (uq HK) e0;have x1:=Q.kcell (uq HK) e1;clear e0 e1;have HK0:=HK;have HM0:=hide (Keep.refl wr);have HXH:Hid (∀ w',Keep wr w'→w'.cell? ⟨gb,3,none⟩=some (.slice (some ad) n3 c3)∧w'.cell? (ad.add (k * 3))=some (.string (S3_0 k))∧w'.cell? ⟨(ad.add (k * 3)).block,(ad.add (k * 3)).off+1,none⟩=some (.slice (A3_1 k) (N3_1 k) (C3_1 k))):=hide (fun w' k9=>⟨Q.kcell k9 zz,Q.kcell k9 x0,Q.kcell k9 x1⟩);clear zz x0 x1;obtain⟨zz,f0,f1⟩:=(uq HXH) wr (uq HM0);obtain⟨b0,hb0⟩:∃ b,Hid (NB (S3_0 k)=b):=⟨_,hide rfl⟩;have C0:=hide ((uq TNm) (S3_0 k));rw[uq hb0]at C0;have HQ0:=hide ((uq HB3_0) k hlt);go_wp2_with fail
       (refine((uq C0) _).mono ?_;rintro e u1 ⟨rfl,hk9⟩;have HK1:=hide ((uq HK0).trans hk9);have HM1:=hide ((uq HM0).trans hk9);clear hk9);cases b0
       ·have HR:=hide ((uq HQ0) (uq hb0));go_wp2_with fail
        go_ret;exact⟨by rw[uq HR];rfl,uq HK1⟩
       clear HQ0;obtain⟨zz,f0,f1⟩:=(uq HXH) u1 (uq HM1);obtain⟨b1,hb1⟩:∃ b,Hid (P3 k=b):=⟨_,hide rfl⟩;have C1:=hide ((uq TL3) k hlt _ (uq HK1));rw[uq hb1]at C1;have HQ1:=hide ((uq HB3_1) k hlt);go_wp2_with fail
       (refine(uq C1).mono ?_;rintro e u2 ⟨rfl,hk9⟩;have HK2:=hide ((uq HK1).trans hk9);have HM2:=hide ((uq HM1).trans hk9);clear hk9);cases b1
       ·have HR:=hide ((uq HQ1) (uq hb1));go_wp2_with fail
        go_ret;exact⟨by rw[uq HR];rfl,uq HK2⟩
       clear HQ1;go_wp2_with fail
       go_roundw
       case rel=>exact⟨k+1,hlt,by go_num,HK2,hide (((uq HM2).block gb (Array.getElem?_eq_some_iff.1 (uq HB)).1).trans (uq HB)),hide (fun j hj=>by rcases Nat.lt_succ_iff_lt_or_eq.1 hj with h|rfl;exact(uq HA) j h;exact(uq HO3) _ hlt (uq hb0) (uq hb1))⟩
       case measure=>simp[intOf];omega
      ·have li:¬(k:Int)<(n3:Int):=by omega
       have e3:k=n3:=by omega
       have HA3:Hid (∀ j,j<n3→OK3 j):=hide (by rw[← e3];exact uq HA);clear hlt hk e3 HA;go_wp2_with fail
       go_loopw [8] (fun vi wr=>∃ k:Nat,k≤n4∧vi= .int .i64 (k:Int)∧Hid (Keep w wr)∧Hid (wr.heap[gb]? =some (.cells #[.string S0,.slice a1 n1 c1,.slice a2 n2 c2,.slice a3 n3 c3,.slice a4 n4 c4,.slice a5 n5 c5,.int .i64 v6] 46 (0,0)))∧Hid (∀ j,j<k→OK4 j)) (fun vi _=>n4 - (intOf vi).toNat)
       case atStart=>exact⟨0,Nat.zero_le _,rfl,HK,HB,hide (fun j hj=>by omega)⟩
       case round=>
        obtain⟨k,hk,rfl,HK,HB,HA⟩:=hrel;have zz:wr.cell? ⟨gb,4,none⟩=some (.slice a4 n4 c4):=by simp[World.cell?,uq HB]
        by_cases hlt:k<n4
        ·have li:(k:Int)<(n4:Int):=by omega
         have hk9:k≤100:=by have:=uq HNN;omega
         obtain⟨ad,rfl,e0⟩:=(uq HC4) k hlt;have x0:=Q.kcell (uq HK) e0;clear e0;have HR4:=hide ((uq HCR) k hlt);have HTR:=hide ((uq TR) k hlt);have HLB:=hide ((uq HL4) k hlt);have HBR:=hide ((uq HB4) k hlt);have HOR:=hide ((uq HO4) k hlt);obtain⟨Nk,hNk⟩:∃ Nk,Hid (N4_0 k=Nk):=⟨_,hide rfl⟩;rw[uq hNk]at x0 HR4 HTR HLB HBR HOR;by_cases g1:Nk<1
         ·have HR:=hide ((uq HLB) (by omega));have g1i:(Nk:Int)<1:=by omega
          obtain rfl:Nk=0:=by omega
          go_wp2_with fail
          go_ret;exact⟨by rw[uq HR];rfl,uq HK⟩
         by_cases g2:2<Nk
         ·have HR:=hide ((uq HLB) (by omega));have g1i:¬(Nk:Int)<1:=by omega
          have g2i:(2:Int)<(Nk:Int):=by omega
          go_wp2_with fail
          go_ret;exact⟨by rw[uq HR];rfl,uq HK⟩
         have g1i:¬(Nk:Int)<1:=by omega
         have g2i:¬(2:Int)<(Nk:Int):=by omega
         have HN12:Hid (1≤Nk∧Nk≤2):=hide (by omega);clear g1 g2;go_wp2_with fail
         clear g1i g2i
         go_loopw [10] (fun vi wi=>∃ j:Nat,j≤Nk∧vi= .int .i64 (j:Int)∧Hid (Keep wr wi)∧Hid (∀ i,i<j→PR k i=true)) (fun vi _=>Nk - (intOf vi).toNat)
         case atStart=>exact⟨0,Nat.zero_le _,rfl,hide (Keep.refl _),hide (fun i hi=>by omega)⟩
         case round=>
          obtain⟨j,hj,rfl,HKi,HAi⟩:=hrel;by_cases hjl:j<Nk
          ·have lj:(j:Int)<(Nk:Int):=by omega
           have hj9:j≤100:=by have:=uq HN12;omega
           obtain⟨bd,eb,f1⟩:=(uq HR4) j hjl;have HKw:=hide ((uq HK).trans (uq HKi));have y1:=Q.kcell (uq HKw) f1;clear f1;have CT:=hide ((uq HTR) j hjl _ (uq HKw));have HQR:=hide ((uq HBR) j hjl);obtain⟨b,hb⟩:∃ b,Hid (PR k j=b):=⟨_,hide rfl⟩;rw[uq hb]at CT HQR;generalize A4_0 k=Ak at *;subst eb;generalize AA k j=Aj at y1 CT;generalize NA k j=Nj at y1 CT;generalize CA k j=Cj at y1 CT;go_wp2_with fail
           (refine(uq CT).mono ?_;rintro e u1 ⟨rfl,hk9⟩;have HKu:=hide ((uq HKi).trans hk9);clear hk9);cases b
           ·have HR:=hide ((uq HQR) rfl);clear HQR;go_wp2_with fail
            go_ret;exact⟨by rw[uq HR];rfl,(uq HK).trans (uq HKu)⟩
           ·clear HQR;go_wp2_with fail
            go_roundw
            case rel=>exact⟨j+1,hjl,by go_num,HKu,hide (fun i hi=>by rcases Nat.lt_succ_iff_lt_or_eq.1 hi with h|rfl;exact(uq HAi) i h;exact uq hb)⟩
            case measure=>simp[intOf];omega
          ·have lj:¬(j:Int)<(Nk:Int):=by omega
           have ej:j=Nk:=by omega
           subst ej;go_wp2_with fail
           go_roundw
           case rel=>exact⟨k+1,hlt,by go_num,hide ((uq HK).trans (uq HKi)),hide (((uq HKi).block gb (Array.getElem?_eq_some_iff.1 (uq HB)).1).trans (uq HB)),hide (fun i hi=>by rcases Nat.lt_succ_iff_lt_or_eq.1 hi with h|rfl;exact(uq HA) i h;exact(uq HOR) (uq HN12) (uq HAi))⟩
           case measure=>simp[intOf];omega
        ·have li:¬(k:Int)<(n4:Int):=by omega
         have e4:k=n4:=by omega
         have HA4:Hid (∀ j,j<n4→OK4 j):=hide (by rw[← e4];exact uq HA);clear hlt hk e4 HA;go_wp2_with fail
         go_loopw [11] (fun vi wr=>∃ k:Nat,k≤n5∧vi= .int .i64 (k:Int)∧Hid (Keep w wr)∧Hid (wr.heap[gb]? =some (.cells #[.string S0,.slice a1 n1 c1,.slice a2 n2 c2,.slice a3 n3 c3,.slice a4 n4 c4,.slice a5 n5 c5,.int .i64 v6] 46 (0,0)))∧Hid (∀ j,j<k→OK5 j)) (fun vi _=>n5 - (intOf vi).toNat)
         case atStart=>exact⟨0,Nat.zero_le _,rfl,HK,HB,hide (fun j hj=>by omega)⟩
         case round=>
          obtain⟨k,hk,rfl,HK,HB,HA⟩:=hrel;have zz:wr.cell? ⟨gb,5,none⟩=some (.slice a5 n5 c5):=by simp[World.cell?,uq HB]
          by_cases hlt:k<n5
          ·have li:(k:Int)<(n5:Int):=by omega
           have hk9:k≤100:=by have:=uq HNN;omega
           obtain⟨ad,rfl,e0,e1⟩:=(uq HC5) k hlt;have x0:=Q.kcell (uq HK) e0;have x1:=Q.kcell (uq HK) e1;clear e0 e1;have HK0:=HK;have HM0:=hide (Keep.refl wr);have HXH:Hid (∀ w',Keep wr w'→w'.cell? ⟨gb,5,none⟩=some (.slice (some ad) n5 c5)∧w'.cell? (ad.add (k * 3))=some (.string (S5_0 k))∧w'.cell? ⟨(ad.add (k * 3)).block,(ad.add (k * 3)).off+1,none⟩=some (.string (S5_1 k))):=hide (fun w' k9=>⟨Q.kcell k9 zz,Q.kcell k9 x0,Q.kcell k9 x1⟩);clear zz x0 x1;obtain⟨zz,f0,f1⟩:=(uq HXH) wr (uq HM0);obtain⟨b0,hb0⟩:∃ b,Hid (NB (S5_0 k)=b):=⟨_,hide rfl⟩;have C0:=hide ((uq TNm) (S5_0 k));rw[uq hb0]at C0;have HQ0:=hide ((uq HB5_0) k hlt);go_wp2_with fail
           (refine((uq C0) _).mono ?_;rintro e u1 ⟨rfl,hk9⟩;have HK1:=hide ((uq HK0).trans hk9);have HM1:=hide ((uq HM0).trans hk9);clear hk9);cases b0
           ·have HR:=hide ((uq HQ0) (uq hb0));go_wp2_with fail
            go_ret;exact⟨by rw[uq HR];rfl,uq HK1⟩
           clear HQ0;obtain⟨zz,f0,f1⟩:=(uq HXH) u1 (uq HM1);obtain⟨b1,hb1⟩:∃ b,Hid (NB (S5_1 k)=b):=⟨_,hide rfl⟩;have C1:=hide ((uq TNm) (S5_1 k));rw[uq hb1]at C1;have HQ1:=hide ((uq HB5_1) k hlt);go_wp2_with fail
           (refine((uq C1) _).mono ?_;rintro e u2 ⟨rfl,hk9⟩;have HK2:=hide ((uq HK1).trans hk9);have HM2:=hide ((uq HM1).trans hk9);clear hk9);cases b1
           ·have HR:=hide ((uq HQ1) (uq hb1));go_wp2_with fail
            go_ret;exact⟨by rw[uq HR];rfl,uq HK2⟩
           clear HQ1;go_wp2_with fail
           go_roundw
           case rel=>exact⟨k+1,hlt,by go_num,HK2,hide (((uq HM2).block gb (Array.getElem?_eq_some_iff.1 (uq HB)).1).trans (uq HB)),hide (fun j hj=>by rcases Nat.lt_succ_iff_lt_or_eq.1 hj with h|rfl;exact(uq HA) j h;exact(uq HO5) _ hlt (uq hb0) (uq hb1))⟩
           case measure=>simp[intOf];omega
          ·have li:¬(k:Int)<(n5:Int):=by omega
           have e5:k=n5:=by omega
           have HA5:Hid (∀ j,j<n5→OK5 j):=hide (by rw[← e5];exact uq HA);clear hlt hk e5 HA;have HR:=hide ((uq HY) (uq hb) (uq HNN) (uq HA1) (uq HA2) (uq HA3) (uq HA4) (uq HA5));go_wp2_with fail
           go_ret;exact⟨by rw[uq HR];rfl,uq HK⟩
end S
end Go.Proofs.YtfepanidippjlaaGreatDoor
