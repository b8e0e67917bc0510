/- The document's answer for layer 6: a node's text. -/
import Derived.Test.YtfepanidippjlaaGreatDoorSRtx
import Derived.Test.YtfepanidippjlaaGreatDoorLEnd
import Derived.Test.YtfepanidippjlaaGreatDoorSOks
import Derived.Deep.DrawnRows
import Derived.Deep.RegionHeld
namespace Go.Proofs.YtfepanidippjlaaGreatDoor
open Go.RowKit
attribute [local go_sem ↓] Go.wp_at_zero Go.wp_at_succ
set_option linter.unusedVariables false
set_option linter.unusedSimpArgs false
set_option maxRecDepth 10000
namespace S
theorem cat {a b:List UInt8} {A B:ByteArray} (h:sv a=A) (k:sv b=B):sv (a++b)=A++B:=by rw[← h,← k,zed]
theorem zao {a b:List UInt8} {m n:Nat} (h:a.length≤m) (k:b.length≤n):(a++b).length≤m+n:=by rw[List.length_append];omega
theorem zba {α:Type} (f:Nat→List α) (k:Nat):(List.range (k+1)).flatMap f=(List.range k).flatMap f++f k:=by rw[List.range_succ,List.flatMap_append];simp
set_option maxHeartbeats 32000000 in
theorem zgB (S0:List UInt8) (a1:Option Addr) (n1 c1:Nat) (a2:Option Addr) (n2 c2:Nat) (a3:Option Addr) (n3 c3:Nat) (a4:Option Addr) (n4 c4:Nat) (a5:Option Addr) (n5 c5:Nat) (v6:Int) (S1_0:Nat→List UInt8) (V1_1:Nat→Int) (V1_2:Nat→Int) (V1_3:Nat→Int) (V1_4:Nat→Int) (V1_5:Nat→Int) (V1_6:Nat→Int) (V1_7:Nat→Int) (V1_8:Nat→Int) (V1_9:Nat→Int) (V1_10:Nat→Int) (S2_0:Nat→List UInt8) (S2_1:Nat→List UInt8) (V2_2:Nat→Int) (V2_3:Nat→Int) (V2_4:Nat→Int) (V2_5:Nat→Int) (S3_0:Nat→List UInt8) (A3_1:Nat→Option Addr) (N3_1 C3_1:Nat→Nat) (V3_2:Nat→Int) (A4_0:Nat→Option Addr) (N4_0 C4_0:Nat→Nat) (S5_0:Nat→List UInt8) (S5_1:Nat→List UInt8) (V5_2:Nat→Int) (NL:Nat→List UInt8) (FR:Nat→Nat→Bool) (AA:Nat→Nat→Option Addr) (NA CA:Nat→Nat→Nat) (RL:Nat→Nat→List UInt8) (w:World) (hn:n1≤16∧n2≤8∧n3≤16∧n4≤4∧n5≤64)
  (TD:Hid (∀(n:Int),grB n=true→∀ w',Calls Tryz.prog 19 #[.int .i64 n] w' fun e w''=>e= .returned (.string (sv (dg n)))∧Keep w' w''))
  (TF:Hid (∀(a b:Int),grB a=true→grB b=true→∀ w',Calls Tryz.prog 20 #[.agg #[.int .i64 a,.int .i64 b]] w' fun e w''=>e= .returned (.string (sv (dg a++(47 :: dg b))))∧Keep w' w''))
  (TL:Hid (∀ k,k<n3→∀ w',Keep w w'→Calls Tryz.prog 46 #[.slice (A3_1 k) (N3_1 k) (C3_1 k)] w' fun e w''=>e= .returned (.string (sv (NL k)))∧Keep w' w''))
  (TR:Hid (∀ k,k<n4→∀ j,j<N4_0 k→∀ w',Keep w w'→Calls Tryz.prog 46 #[.slice (AA k j) (NA k j) (CA k j)] w' fun e w''=>e= .returned (.string (sv (RL k j)))∧Keep w' w''))
  (HC1:Hid (∀ k,k<n1→∃ ad,a1=some ad∧w.cell? (ad.add (k * 11))=some (.string (sv (S1_0 k)))∧w.cell? ⟨(ad.add (k * 11)).block,(ad.add (k * 11)).off+1,none⟩=some (.int .i64 (V1_1 k))∧w.cell? ⟨(ad.add (k * 11)).block,(ad.add (k * 11)).off+2,none⟩=some (.int .i64 (V1_2 k))∧w.cell? ⟨(ad.add (k * 11)).block,(ad.add (k * 11)).off+3,none⟩=some (.int .i64 (V1_3 k))∧w.cell? ⟨(ad.add (k * 11)).block,(ad.add (k * 11)).off+4,none⟩=some (.int .i64 (V1_4 k))∧w.cell? ⟨(ad.add (k * 11)).block,(ad.add (k * 11)).off+5,none⟩=some (.int .i64 (V1_5 k))∧w.cell? ⟨(ad.add (k * 11)).block,(ad.add (k * 11)).off+6,none⟩=some (.int .i64 (V1_6 k))∧w.cell? ⟨(ad.add (k * 11)).block,(ad.add (k * 11)).off+7,none⟩=some (.int .i64 (V1_7 k))∧w.cell? ⟨(ad.add (k * 11)).block,(ad.add (k * 11)).off+8,none⟩=some (.int .i64 (V1_8 k))∧w.cell? ⟨(ad.add (k * 11)).block,(ad.add (k * 11)).off+9,none⟩=some (.int .i64 (V1_9 k))∧w.cell? ⟨(ad.add (k * 11)).block,(ad.add (k * 11)).off+10,none⟩=some (.int .i64 (V1_10 k))))
  (HC2:Hid (∀ k,k<n2→∃ ad,a2=some ad∧w.cell? (ad.add (k * 6))=some (.string (sv (S2_0 k)))∧w.cell? ⟨(ad.add (k * 6)).block,(ad.add (k * 6)).off+1,none⟩=some (.string (sv (S2_1 k)))∧w.cell? ⟨(ad.add (k * 6)).block,(ad.add (k * 6)).off+2,none⟩=some (.int .i64 (V2_2 k))∧w.cell? ⟨(ad.add (k * 6)).block,(ad.add (k * 6)).off+3,none⟩=some (.int .i64 (V2_3 k))∧w.cell? ⟨(ad.add (k * 6)).block,(ad.add (k * 6)).off+4,none⟩=some (.int .i64 (V2_4 k))∧w.cell? ⟨(ad.add (k * 6)).block,(ad.add (k * 6)).off+5,none⟩=some (.int .i64 (V2_5 k))))
  (HC3:Hid (∀ k,k<n3→∃ ad,a3=some ad∧w.cell? (ad.add (k * 3))=some (.string (sv (S3_0 k)))∧w.cell? ⟨(ad.add (k * 3)).block,(ad.add (k * 3)).off+1,none⟩=some (.slice (A3_1 k) (N3_1 k) (C3_1 k))))
  (HC4:Hid (∀ k,k<n4→∃ ad,a4=some ad∧w.cell? (ad.add k)=some (.slice (A4_0 k) (N4_0 k) (C4_0 k))))
  (HC5:Hid (∀ k,k<n5→∃ ad,a5=some ad∧w.cell? (ad.add (k * 3))=some (.string (sv (S5_0 k)))∧w.cell? ⟨(ad.add (k * 3)).block,(ad.add (k * 3)).off+1,none⟩=some (.string (sv (S5_1 k)))))
  (HCR:Hid (∀ k,k<n4→∀ j,j<N4_0 k→∃ bd,A4_0 k=some bd∧w.cell? (bd.add (j * 2))=some (.bool (FR k j))∧w.cell? ⟨(bd.add (j * 2)).block,(bd.add (j * 2)).off+1,none⟩=some (.slice (AA k j) (NA k j) (CA k j))))
  (HZ0:Hid (S0.length≤24)) (HG1:Hid (∀ k,k<n1→(S1_0 k).length≤24∧grB (V1_1 k)=true∧grB (V1_2 k)=true∧grB (V1_3 k)=true∧grB (V1_4 k)=true∧grB (V1_5 k)=true∧grB (V1_6 k)=true∧grB (V1_7 k)=true∧grB (V1_8 k)=true∧grB (V1_9 k)=true)) (HG2:Hid (∀ k,k<n2→(S2_0 k).length≤24∧(S2_1 k).length≤24∧grB (V2_2 k)=true∧grB (V2_3 k)=true∧grB (V2_4 k)=true)) (HG3:Hid (∀ k,k<n3→(S3_0 k).length≤24∧(NL k).length≤600)) (HG4:Hid (∀ k,k<n4→N4_0 k≤2∧∀ j,j<N4_0 k→(RL k j).length≤600)) (HG5:Hid (∀ k,k<n5→(S5_0 k).length≤24∧(S5_1 k).length≤24)):
  Calls Tryz.prog 21 #[.agg #[.string (sv S0),.slice a1 n1 c1,.slice a2 n2 c2,.slice a3 n3 c3,.slice a4 n4 c4,.slice a5 n5 c5,.int .i64 v6]] w fun e w'=>e= .returned (.string (sv ([110,111,100,101,32]++(S0++([32,123,10]++((List.range n1).flatMap (fun k=> [32,32,104,101,97,100,32]++(S1_0 k++([32,118,111,108,117,109,101,32]++(dg (V1_1 k)++([32,102,108,111,119,32]++(dg (V1_2 k)++([32,117,115,101,32]++((dg (V1_3 k)++(47 :: dg (V1_4 k)))++([32,115,112,101,101,100,32]++(dg (V1_5 k)++([32,103,114,97,100,101,32]++(dg (V1_6 k)++([32,119,105,100,116,104,32]++(dg (V1_7 k)++([32,108,101,110,103,116,104,32]++(dg (V1_8 k)++([32,103,114,101,101,110,32]++(dg (V1_9 k)++([59,10])))))))))))))))))))++((List.range n2).flatMap (fun k=> [32,32,119,97,108,107,32]++(S2_0 k++([32,119,105,116,104,32]++(S2_1 k++([32,108,111,110,103,32]++(dg (V2_2 k)++([32,112,97,99,101,32]++(dg (V2_3 k)++([32,108,101,97,115,116,32]++(dg (V2_4 k)++([59,10])))))))))))++((List.range n3).flatMap (fun k=> [32,32,112,104,97,115,101,32]++(S3_0 k++([58,32]++(NL k++([59,10])))))++((List.range n4).flatMap (fun k=> [32,32,103,114,111,117,112,32,123,10]++((List.range (N4_0 k)).flatMap (fun j=> [32,32,32,32,114,105,110,103,32]++((if FR k j then [102,114,101,101,32]else [])++(RL k j++ [59,10])))++ [32,32,125,10]))++((List.range n5).flatMap (fun k=> [32,32,102,111,101,32]++(S5_0 k++([32]++(S5_1 k++([59,10])))))++ [125,10]))))))))))∧Keep w w':=by
 obtain⟨X0,HX0⟩:∃ X,Hid (sv S0=X):=⟨_,hide rfl⟩;rw[uq HX0];have HNN:=hide hn;have hX0:X0.size≤24:=by rw[← uq HX0,zad];exact uq HZ0
 obtain⟨fin,HFin⟩:∃ fin,Hid (sv ([110,111,100,101,32]++(S0++([32,123,10]++((List.range n1).flatMap (fun k=> [32,32,104,101,97,100,32]++(S1_0 k++([32,118,111,108,117,109,101,32]++(dg (V1_1 k)++([32,102,108,111,119,32]++(dg (V1_2 k)++([32,117,115,101,32]++((dg (V1_3 k)++(47 :: dg (V1_4 k)))++([32,115,112,101,101,100,32]++(dg (V1_5 k)++([32,103,114,97,100,101,32]++(dg (V1_6 k)++([32,119,105,100,116,104,32]++(dg (V1_7 k)++([32,108,101,110,103,116,104,32]++(dg (V1_8 k)++([32,103,114,101,101,110,32]++(dg (V1_9 k)++([59,10])))))))))))))))))))++((List.range n2).flatMap (fun k=> [32,32,119,97,108,107,32]++(S2_0 k++([32,119,105,116,104,32]++(S2_1 k++([32,108,111,110,103,32]++(dg (V2_2 k)++([32,112,97,99,101,32]++(dg (V2_3 k)++([32,108,101,97,115,116,32]++(dg (V2_4 k)++([59,10])))))))))))++((List.range n3).flatMap (fun k=> [32,32,112,104,97,115,101,32]++(S3_0 k++([58,32]++(NL k++([59,10])))))++((List.range n4).flatMap (fun k=> [32,32,103,114,111,117,112,32,123,10]++((List.range (N4_0 k)).flatMap (fun j=> [32,32,32,32,114,105,110,103,32]++((if FR k j then [102,114,101,101,32]else [])++(RL k j++ [59,10])))++ [32,32,125,10]))++((List.range n5).flatMap (fun k=> [32,32,102,111,101,32]++(S5_0 k++([32]++(S5_1 k++([59,10])))))++ [125,10]))))))))=fin):=⟨_,hide rfl⟩;rw[uq HFin];clear hn;have HK:=hide ((Keep.refl w).alloc (.cells #[.string X0,.slice a1 n1 c1,.slice a2 n2 c2,.slice a3 n3 c3,.slice a4 n4 c4,.slice a5 n5 c5,.int .i64 v6] 46));have HB:Hid ((w.alloc (.cells #[.string X0,.slice a1 n1 c1,.slice a2 n2 c2,.slice a3 n3 c3,.slice a4 n4 c4,.slice a5 n5 c5,.int .i64 v6] 46)).heap[w.heap.size]? =some (.cells #[.string X0,.slice a1 n1 c1,.slice a2 n2 c2,.slice a3 n3 c3,.slice a4 n4 c4,.slice a5 n5 c5,.int .i64 v6] 46 (0,0))):=hide (heap_alloc_new w _);have m0:¬9223372036854775807<5+X0.size:=by omega
 have m1:¬9223372036854775807<5+X0.size+3:=by omega
 go_enter Tryz.func21,Tryz.ntmps21
 go_upto_region 1 with fail
 generalize w.alloc (.cells #[.string X0,.slice a1 n1 c1,.slice a2 n2 c2,.slice a3 n3 c3,.slice a4 n4 c4,.slice a5 n5 c5,.int .i64 v6] 46)=w0 at HK HB ⊢;obtain⟨gb,HGB⟩:∃ gb,Hid (w.heap.size=gb):=⟨_,hide rfl⟩;rw[uq HGB]at HB ⊢;have z0:w0.cell? ⟨gb,0,none⟩=some (.string X0):=by simp[World.cell?,uq HB]
 go_wp2_with fail
 clear z0 m0 m1 hX0;have HS0:Hid (sv ([110,111,100,101,32]++S0++ [32,123,10])=(⟨#[110,111,100,101,32]⟩:ByteArray)++X0++⟨#[32,123,10]⟩):=hide (cat (cat rfl (uq HX0)) rfl)
 go_loopw [3,4] (fun vs vi wr=>∃(k:Nat) (o:List UInt8) (S:ByteArray),k≤n1∧vi= .int .i64 (k:Int)∧vs= .string S∧Hid (sv o=S)∧Hid (o=([110,111,100,101,32]++S0++ [32,123,10])++(List.range k).flatMap (fun k=> [32,32,104,101,97,100,32]++(S1_0 k++([32,118,111,108,117,109,101,32]++(dg (V1_1 k)++([32,102,108,111,119,32]++(dg (V1_2 k)++([32,117,115,101,32]++((dg (V1_3 k)++(47 :: dg (V1_4 k)))++([32,115,112,101,101,100,32]++(dg (V1_5 k)++([32,103,114,97,100,101,32]++(dg (V1_6 k)++([32,119,105,100,116,104,32]++(dg (V1_7 k)++([32,108,101,110,103,116,104,32]++(dg (V1_8 k)++([32,103,114,101,101,110,32]++(dg (V1_9 k)++([59,10]))))))))))))))))))))∧Hid (o.length≤100+400 * k)∧Hid (Keep w wr)∧Hid (wr.heap[gb]? =some (.cells #[.string X0,.slice a1 n1 c1,.slice a2 n2 c2,.slice a3 n3 c3,.slice a4 n4 c4,.slice a5 n5 c5,.int .i64 v6] 46 (0,0)))) (fun vs vi _=>n1 - (intOf vi).toNat)
 case atStart=>exact⟨0,([110,111,100,101,32]++S0++ [32,123,10]),_,Nat.zero_le _,rfl,rfl,HS0,hide (by simp),hide (by have:=uq HZ0;simp;omega),HK,HB⟩
 case round=>
  obtain⟨k,o,S,hk,rfl,rfl,HS,HO,HLn,HK,HB⟩:=hrel;have zz:wr.cell? ⟨gb,1,none⟩=some (.slice a1 n1 c1):=by simp[World.cell?,uq HB]
  by_cases hlt:k<n1
  ·have li:(k:Int)<(n1:Int):=by omega
   have hk9:k≤100:=by have:=uq HNN;omega
   have hS:S.size≤250000:=by rw[← uq HS,zad];have:=uq HLn;have:=uq HNN;omega
   have HGk:=hide ((uq HG1) k hlt);obtain⟨D0,HD0⟩:∃ D,Hid (sv (S1_0 k)=D):=⟨_,hide rfl⟩;obtain⟨D1,HD1⟩:∃ D,Hid (sv (dg (V1_1 k))=D):=⟨_,hide rfl⟩;obtain⟨D2,HD2⟩:∃ D,Hid (sv (dg (V1_2 k))=D):=⟨_,hide rfl⟩;obtain⟨D3,HD3⟩:∃ D,Hid (sv ((dg (V1_3 k)++(47 :: dg (V1_4 k))))=D):=⟨_,hide rfl⟩;obtain⟨D4,HD4⟩:∃ D,Hid (sv (dg (V1_5 k))=D):=⟨_,hide rfl⟩;obtain⟨D5,HD5⟩:∃ D,Hid (sv (dg (V1_6 k))=D):=⟨_,hide rfl⟩;obtain⟨D6,HD6⟩:∃ D,Hid (sv (dg (V1_7 k))=D):=⟨_,hide rfl⟩;obtain⟨D7,HD7⟩:∃ D,Hid (sv (dg (V1_8 k))=D):=⟨_,hide rfl⟩;obtain⟨D8,HD8⟩:∃ D,Hid (sv (dg (V1_9 k))=D):=⟨_,hide rfl⟩;have s0:D0.size≤24:=by rw[← uq HD0,zad];have:=uq HGk;omega
   have s1:D1.size≤21:=by rw[← uq HD1,zad];exact zav (by have:=uq HGk;simp only[this])
   have s2:D2.size≤21:=by rw[← uq HD2,zad];exact zav (by have:=uq HGk;simp only[this])
   have s3:D3.size≤43:=by rw[← uq HD3,zad];have e1:=zav (n:=V1_3 k) (by have:=uq HGk;simp only[this]);have e2:=zav (n:=V1_4 k) (by have:=uq HGk;simp only[this]);simp;omega
   have s4:D4.size≤21:=by rw[← uq HD4,zad];exact zav (by have:=uq HGk;simp only[this])
   have s5:D5.size≤21:=by rw[← uq HD5,zad];exact zav (by have:=uq HGk;simp only[this])
   have s6:D6.size≤21:=by rw[← uq HD6,zad];exact zav (by have:=uq HGk;simp only[this])
   have s7:D7.size≤21:=by rw[← uq HD7,zad];exact zav (by have:=uq HGk;simp only[this])
   have s8:D8.size≤21:=by rw[← uq HD8,zad];exact zav (by have:=uq HGk;simp only[this])
   have HLine:Hid (([32,32,104,101,97,100,32]++(S1_0 k++([32,118,111,108,117,109,101,32]++(dg (V1_1 k)++([32,102,108,111,119,32]++(dg (V1_2 k)++([32,117,115,101,32]++((dg (V1_3 k)++(47 :: dg (V1_4 k)))++([32,115,112,101,101,100,32]++(dg (V1_5 k)++([32,103,114,97,100,101,32]++(dg (V1_6 k)++([32,119,105,100,116,104,32]++(dg (V1_7 k)++([32,108,101,110,103,116,104,32]++(dg (V1_8 k)++([32,103,114,101,101,110,32]++(dg (V1_9 k)++([59,10]))))))))))))))))))).length≤278):=hide (Nat.le_trans (zao (show([32,32,104,101,97,100,32]:List UInt8).length≤7 from Nat.le_refl _) (zao (show(S1_0 k).length≤24 from(by rw[← zad,uq HD0];exact s0)) (zao (show([32,118,111,108,117,109,101,32]:List UInt8).length≤8 from Nat.le_refl _) (zao (show(dg (V1_1 k)).length≤21 from(by rw[← zad,uq HD1];exact s1)) (zao (show([32,102,108,111,119,32]:List UInt8).length≤6 from Nat.le_refl _) (zao (show(dg (V1_2 k)).length≤21 from(by rw[← zad,uq HD2];exact s2)) (zao (show([32,117,115,101,32]:List UInt8).length≤5 from Nat.le_refl _) (zao (show((dg (V1_3 k)++(47 :: dg (V1_4 k)))).length≤43 from(by rw[← zad,uq HD3];exact s3)) (zao (show([32,115,112,101,101,100,32]:List UInt8).length≤7 from Nat.le_refl _) (zao (show(dg (V1_5 k)).length≤21 from(by rw[← zad,uq HD4];exact s4)) (zao (show([32,103,114,97,100,101,32]:List UInt8).length≤7 from Nat.le_refl _) (zao (show(dg (V1_6 k)).length≤21 from(by rw[← zad,uq HD5];exact s5)) (zao (show([32,119,105,100,116,104,32]:List UInt8).length≤7 from Nat.le_refl _) (zao (show(dg (V1_7 k)).length≤21 from(by rw[← zad,uq HD6];exact s6)) (zao (show([32,108,101,110,103,116,104,32]:List UInt8).length≤8 from Nat.le_refl _) (zao (show(dg (V1_8 k)).length≤21 from(by rw[← zad,uq HD7];exact s7)) (zao (show([32,103,114,101,101,110,32]:List UInt8).length≤7 from Nat.le_refl _) (zao (show(dg (V1_9 k)).length≤21 from(by rw[← zad,uq HD8];exact s8)) (show([59,10]:List UInt8).length≤2 from Nat.le_refl _))))))))))))))))))) (by decide));obtain⟨nf0,nf1,nf2,nf3,nf4,nf5,nf6,nf7,nf8,nf9,nf10,nf11,nf12,nf13,nf14,nf15,nf16,nf17,nf18⟩:¬9223372036854775807<S.size+7∧¬9223372036854775807<S.size+7+D0.size∧¬9223372036854775807<S.size+7+D0.size+8∧¬9223372036854775807<S.size+7+D0.size+8+D1.size∧¬9223372036854775807<S.size+7+D0.size+8+D1.size+6∧¬9223372036854775807<S.size+7+D0.size+8+D1.size+6+D2.size∧¬9223372036854775807<S.size+7+D0.size+8+D1.size+6+D2.size+5∧¬9223372036854775807<S.size+7+D0.size+8+D1.size+6+D2.size+5+D3.size∧¬9223372036854775807<S.size+7+D0.size+8+D1.size+6+D2.size+5+D3.size+7∧¬9223372036854775807<S.size+7+D0.size+8+D1.size+6+D2.size+5+D3.size+7+D4.size∧¬9223372036854775807<S.size+7+D0.size+8+D1.size+6+D2.size+5+D3.size+7+D4.size+7∧¬9223372036854775807<S.size+7+D0.size+8+D1.size+6+D2.size+5+D3.size+7+D4.size+7+D5.size∧¬9223372036854775807<S.size+7+D0.size+8+D1.size+6+D2.size+5+D3.size+7+D4.size+7+D5.size+7∧¬9223372036854775807<S.size+7+D0.size+8+D1.size+6+D2.size+5+D3.size+7+D4.size+7+D5.size+7+D6.size∧¬9223372036854775807<S.size+7+D0.size+8+D1.size+6+D2.size+5+D3.size+7+D4.size+7+D5.size+7+D6.size+8∧¬9223372036854775807<S.size+7+D0.size+8+D1.size+6+D2.size+5+D3.size+7+D4.size+7+D5.size+7+D6.size+8+D7.size∧¬9223372036854775807<S.size+7+D0.size+8+D1.size+6+D2.size+5+D3.size+7+D4.size+7+D5.size+7+D6.size+8+D7.size+7∧¬9223372036854775807<S.size+7+D0.size+8+D1.size+6+D2.size+5+D3.size+7+D4.size+7+D5.size+7+D6.size+8+D7.size+7+D8.size∧¬9223372036854775807<S.size+7+D0.size+8+D1.size+6+D2.size+5+D3.size+7+D4.size+7+D5.size+7+D6.size+8+D7.size+7+D8.size+2:=by refine⟨?_,?_,?_,?_,?_,?_,?_,?_,?_,?_,?_,?_,?_,?_,?_,?_,?_,?_,?_⟩<;>omega
   obtain⟨ad,rfl,e0,e1,e2,e3,e4,e5,e6,e7,e8,e9,e10⟩:=(uq HC1) k hlt;have x0:=Q.kcell (uq HK) e0;have x1:=Q.kcell (uq HK) e1;have x2:=Q.kcell (uq HK) e2;have x3:=Q.kcell (uq HK) e3;have x4:=Q.kcell (uq HK) e4;have x5:=Q.kcell (uq HK) e5;have x6:=Q.kcell (uq HK) e6;have x7:=Q.kcell (uq HK) e7;have x8:=Q.kcell (uq HK) e8;have x9:=Q.kcell (uq HK) e9;have x10:=Q.kcell (uq HK) e10;clear e0 e1 e2 e3 e4 e5 e6 e7 e8 e9 e10;rw[uq HD0]at x0;have KD1:=hide ((uq TD) (V1_1 k) (by have:=uq HGk;simp only[this]));rw[uq HD1]at KD1;have KD2:=hide ((uq TD) (V1_2 k) (by have:=uq HGk;simp only[this]));rw[uq HD2]at KD2;have KD3:=hide ((uq TF) (V1_3 k) (V1_4 k) (by have:=uq HGk;simp only[this]) (by have:=uq HGk;simp only[this]));rw[uq HD3]at KD3;have KD4:=hide ((uq TD) (V1_5 k) (by have:=uq HGk;simp only[this]));rw[uq HD4]at KD4;have KD5:=hide ((uq TD) (V1_6 k) (by have:=uq HGk;simp only[this]));rw[uq HD5]at KD5;have KD6:=hide ((uq TD) (V1_7 k) (by have:=uq HGk;simp only[this]));rw[uq HD6]at KD6;have KD7:=hide ((uq TD) (V1_8 k) (by have:=uq HGk;simp only[this]));rw[uq HD7]at KD7;have KD8:=hide ((uq TD) (V1_9 k) (by have:=uq HGk;simp only[this]));rw[uq HD8]at KD8;clear hS s0 s1 s2 s3 s4 s5 s6 s7 s8;have HKa:=hide ((uq HK).alloc (.cells #[.string D0,.int .i64 (V1_1 k),.int .i64 (V1_2 k),.int .i64 (V1_3 k),.int .i64 (V1_4 k),.int .i64 (V1_5 k),.int .i64 (V1_6 k),.int .i64 (V1_7 k),.int .i64 (V1_8 k),.int .i64 (V1_9 k),.int .i64 (V1_10 k)] 84));have hxa:=heap_alloc_new wr (.cells #[.string D0,.int .i64 (V1_1 k),.int .i64 (V1_2 k),.int .i64 (V1_3 k),.int .i64 (V1_4 k),.int .i64 (V1_5 k),.int .i64 (V1_6 k),.int .i64 (V1_7 k),.int .i64 (V1_8 k),.int .i64 (V1_9 k),.int .i64 (V1_10 k)] 84);have HMa:=hide ((Keep.refl wr).alloc (.cells #[.string D0,.int .i64 (V1_1 k),.int .i64 (V1_2 k),.int .i64 (V1_3 k),.int .i64 (V1_4 k),.int .i64 (V1_5 k),.int .i64 (V1_6 k),.int .i64 (V1_7 k),.int .i64 (V1_8 k),.int .i64 (V1_9 k),.int .i64 (V1_10 k)] 84))
   go_upto_region 6 with fail
   generalize hwa:wr.alloc (.cells #[.string D0,.int .i64 (V1_1 k),.int .i64 (V1_2 k),.int .i64 (V1_3 k),.int .i64 (V1_4 k),.int .i64 (V1_5 k),.int .i64 (V1_6 k),.int .i64 (V1_7 k),.int .i64 (V1_8 k),.int .i64 (V1_9 k),.int .i64 (V1_10 k)] 84)=wa at HKa hxa HMa ⊢;clear hwa;obtain⟨qb,HQB⟩:∃ qb,Hid (wr.heap.size=qb):=⟨_,hide rfl⟩;rw[uq HQB]at hxa ⊢;have HSX:Hid (∀ w',Keep wa w'→w'.cell? ⟨qb,0,none⟩=some (.string D0)∧w'.cell? ⟨qb,1,none⟩=some (.int .i64 (V1_1 k))∧w'.cell? ⟨qb,2,none⟩=some (.int .i64 (V1_2 k))∧w'.cell? ⟨qb,3,none⟩=some (.int .i64 (V1_3 k))∧w'.cell? ⟨qb,4,none⟩=some (.int .i64 (V1_4 k))∧w'.cell? ⟨qb,5,none⟩=some (.int .i64 (V1_5 k))∧w'.cell? ⟨qb,6,none⟩=some (.int .i64 (V1_6 k))∧w'.cell? ⟨qb,7,none⟩=some (.int .i64 (V1_7 k))∧w'.cell? ⟨qb,8,none⟩=some (.int .i64 (V1_8 k))∧w'.cell? ⟨qb,9,none⟩=some (.int .i64 (V1_9 k))∧w'.cell? ⟨qb,10,none⟩=some (.int .i64 (V1_10 k))):=hide (fun w' k9=>by have h:=k9.block qb (Array.getElem?_eq_some_iff.1 hxa).1;rw[hxa]at h;refine⟨?_,?_,?_,?_,?_,?_,?_,?_,?_,?_,?_⟩<;>simp[World.cell?,h]);clear hxa zz x0 x1 x2 x3 x4 x5 x6 x7 x8 x9 x10;refine wp_region_held_drew (S:=fun w'=>w'.cell? ⟨qb,0,none⟩=some (.string D0)∧w'.cell? ⟨qb,1,none⟩=some (.int .i64 (V1_1 k))∧w'.cell? ⟨qb,2,none⟩=some (.int .i64 (V1_2 k))∧w'.cell? ⟨qb,3,none⟩=some (.int .i64 (V1_3 k))∧w'.cell? ⟨qb,4,none⟩=some (.int .i64 (V1_4 k))∧w'.cell? ⟨qb,5,none⟩=some (.int .i64 (V1_5 k))∧w'.cell? ⟨qb,6,none⟩=some (.int .i64 (V1_6 k))∧w'.cell? ⟨qb,7,none⟩=some (.int .i64 (V1_7 k))∧w'.cell? ⟨qb,8,none⟩=some (.int .i64 (V1_8 k))∧w'.cell? ⟨qb,9,none⟩=some (.int .i64 (V1_9 k))∧w'.cell? ⟨qb,10,none⟩=some (.int .i64 (V1_10 k))) (by kernel_rfl) (by exact(uq HSX) _ (Keep.refl wa).drew) (fun hHeld=>?_);refine tkk 0 29 hHeld ?_;try simp only[Act.put,Ya,Yb,Yc]
   refine tkk 1 30 hHeld ?_;try simp only[Act.put,Ya,Yb,Yc]
   refine tkk 2 31 hHeld ?_;try simp only[Act.put,Ya,Yb,Yc]
   refine tkk 3 32 hHeld ?_;try simp only[Act.put,Ya,Yb,Yc]
   refine tkk 4 33 hHeld ?_;try simp only[Act.put,Ya,Yb,Yc]
   refine tkk 5 34 hHeld ?_;try simp only[Act.put,Ya,Yb,Yc]
   refine tkk 6 35 hHeld ?_;try simp only[Act.put,Ya,Yb,Yc]
   refine tkk 7 36 hHeld ?_;try simp only[Act.put,Ya,Yb,Yc]
   refine tkk 11 40 hHeld ?_;try simp only[Act.put,Ya,Yb,Yc]
   refine tkk 12 41 hHeld ?_;try simp only[Act.put,Ya,Yb,Yc]
   refine tkk 16 45 hHeld ?_;try simp only[Act.put,Ya,Yb,Yc]
   refine tkk 17 46 hHeld ?_;try simp only[Act.put,Ya,Yb,Yc]
   refine tkk 21 50 hHeld ?_;try simp only[Act.put,Ya,Yb,Yc]
   refine tkk 22 51 hHeld ?_;try simp only[Act.put,Ya,Yb,Yc]
   refine tkk 26 55 hHeld ?_;try simp only[Act.put,Ya,Yb,Yc]
   refine tkk 27 56 hHeld ?_;try simp only[Act.put,Ya,Yb,Yc]
   refine tkk 31 60 hHeld ?_;try simp only[Act.put,Ya,Yb,Yc]
   refine tkk 32 61 hHeld ?_;try simp only[Act.put,Ya,Yb,Yc]
   refine tkk 36 65 hHeld ?_;try simp only[Act.put,Ya,Yb,Yc]
   refine tkk 37 66 hHeld ?_;try simp only[Act.put,Ya,Yb,Yc]
   refine tkk 41 70 hHeld ?_;try simp only[Act.put,Ya,Yb,Yc]
   refine tkk 42 71 hHeld ?_;try simp only[Act.put,Ya,Yb,Yc]
   refine zaC 8 (fun K hK=>?_);go_simp;clear hHeld;(refine((uq KD1) _).mono ?_;rintro e y1 ⟨rfl,hk9⟩;have HY1:=hide (((Keep.refl wa).drew).trans hk9);clear hk9);try go_wp2_with fail
   refine hK.out _ _ ?_ (fun hHeld=>?_)
   ·exact(uq HSX) _ (uq HY1)
   clear hK K;try simp only[Act.put,Ya,Yb,Yc]
   refine tkk 9 38 hHeld ?_;try simp only[Act.put,Ya,Yb,Yc]
   refine tkk 10 39 hHeld ?_;try simp only[Act.put,Ya,Yb,Yc]
   refine zaC 13 (fun K hK=>?_);go_simp;clear hHeld;(refine((uq KD2) _).mono ?_;rintro e y2 ⟨rfl,hk9⟩;have HY2:=hide ((uq HY1).trans hk9);clear hk9);try go_wp2_with fail
   refine hK.out _ _ ?_ (fun hHeld=>?_)
   ·exact(uq HSX) _ (uq HY2)
   clear hK K;try simp only[Act.put,Ya,Yb,Yc]
   refine tkk 14 43 hHeld ?_;try simp only[Act.put,Ya,Yb,Yc]
   refine tkk 15 44 hHeld ?_;try simp only[Act.put,Ya,Yb,Yc]
   refine zaC 18 (fun K hK=>?_);go_simp;clear hHeld;(refine((uq KD3) _).mono ?_;rintro e y3 ⟨rfl,hk9⟩;have HY3:=hide ((uq HY2).trans hk9);clear hk9);try go_wp2_with fail
   refine hK.out _ _ ?_ (fun hHeld=>?_)
   ·exact(uq HSX) _ (uq HY3)
   clear hK K;try simp only[Act.put,Ya,Yb,Yc]
   refine tkk 19 48 hHeld ?_;try simp only[Act.put,Ya,Yb,Yc]
   refine tkk 20 49 hHeld ?_;try simp only[Act.put,Ya,Yb,Yc]
   refine zaC 23 (fun K hK=>?_);go_simp;clear hHeld;(refine((uq KD4) _).mono ?_;rintro e y4 ⟨rfl,hk9⟩;have HY4:=hide ((uq HY3).trans hk9);clear hk9);try go_wp2_with fail
   refine hK.out _ _ ?_ (fun hHeld=>?_)
   ·exact(uq HSX) _ (uq HY4)
   clear hK K;try simp only[Act.put,Ya,Yb,Yc]
   refine tkk 24 53 hHeld ?_;try simp only[Act.put,Ya,Yb,Yc]
   refine tkk 25 54 hHeld ?_;try simp only[Act.put,Ya,Yb,Yc]
   refine zaC 28 (fun K hK=>?_);go_simp;clear hHeld;(refine((uq KD5) _).mono ?_;rintro e y5 ⟨rfl,hk9⟩;have HY5:=hide ((uq HY4).trans hk9);clear hk9);try go_wp2_with fail
   refine hK.out _ _ ?_ (fun hHeld=>?_)
   ·exact(uq HSX) _ (uq HY5)
   clear hK K;try simp only[Act.put,Ya,Yb,Yc]
   refine tkk 29 58 hHeld ?_;try simp only[Act.put,Ya,Yb,Yc]
   refine tkk 30 59 hHeld ?_;try simp only[Act.put,Ya,Yb,Yc]
   refine zaC 33 (fun K hK=>?_);go_simp;clear hHeld;(refine((uq KD6) _).mono ?_;rintro e y6 ⟨rfl,hk9⟩;have HY6:=hide ((uq HY5).trans hk9);clear hk9);try go_wp2_with fail
   refine hK.out _ _ ?_ (fun hHeld=>?_)
   ·exact(uq HSX) _ (uq HY6)
   clear hK K;try simp only[Act.put,Ya,Yb,Yc]
   refine tkk 34 63 hHeld ?_;try simp only[Act.put,Ya,Yb,Yc]
   refine tkk 35 64 hHeld ?_;try simp only[Act.put,Ya,Yb,Yc]
   refine zaC 38 (fun K hK=>?_);go_simp;clear hHeld;(refine((uq KD7) _).mono ?_;rintro e y7 ⟨rfl,hk9⟩;have HY7:=hide ((uq HY6).trans hk9);clear hk9);try go_wp2_with fail
   refine hK.out _ _ ?_ (fun hHeld=>?_)
   ·exact(uq HSX) _ (uq HY7)
   clear hK K;try simp only[Act.put,Ya,Yb,Yc]
   refine tkk 39 68 hHeld ?_;try simp only[Act.put,Ya,Yb,Yc]
   refine tkk 40 69 hHeld ?_;try simp only[Act.put,Ya,Yb,Yc]
   refine zaC 43 (fun K hK=>?_);go_simp;clear hHeld;(refine((uq KD8) _).mono ?_;rintro e y8 ⟨rfl,hk9⟩;have HY8:=hide ((uq HY7).trans hk9);clear hk9);try go_wp2_with fail
   refine hK.out _ _ ?_ (fun hHeld=>?_)
   ·exact(uq HSX) _ (uq HY8)
   clear hK K;try simp only[Act.put,Ya,Yb,Yc]
   refine tkk 44 73 hHeld ?_;try simp only[Act.put,Ya,Yb,Yc]
   refine tkk 45 74 hHeld ?_;try simp only[Act.put,Ya,Yb,Yc]
   refine tkk 46 3 hHeld ?_;try simp only[Act.put,Ya,Yb,Yc]
   refine wpAnyH_done (by kernel_rfl) ?_ _;clear hHeld;clear nf0 nf1 nf2 nf3 nf4 nf5 nf6 nf7 nf8 nf9 nf10 nf11 nf12 nf13 nf14 nf15 nf16 nf17 nf18;have HE2:Hid ((((((((((((((((((((o++ [32,32,104,101,97,100,32])++(S1_0 k))++ [32,118,111,108,117,109,101,32])++(dg (V1_1 k)))++ [32,102,108,111,119,32])++(dg (V1_2 k)))++ [32,117,115,101,32])++(dg (V1_3 k)++(47 :: dg (V1_4 k))))++ [32,115,112,101,101,100,32])++(dg (V1_5 k)))++ [32,103,114,97,100,101,32])++(dg (V1_6 k)))++ [32,119,105,100,116,104,32])++(dg (V1_7 k)))++ [32,108,101,110,103,116,104,32])++(dg (V1_8 k)))++ [32,103,114,101,101,110,32])++(dg (V1_9 k)))++ [59,10])=o++([32,32,104,101,97,100,32]++(S1_0 k++([32,118,111,108,117,109,101,32]++(dg (V1_1 k)++([32,102,108,111,119,32]++(dg (V1_2 k)++([32,117,115,101,32]++((dg (V1_3 k)++(47 :: dg (V1_4 k)))++([32,115,112,101,101,100,32]++(dg (V1_5 k)++([32,103,114,97,100,101,32]++(dg (V1_6 k)++([32,119,105,100,116,104,32]++(dg (V1_7 k)++([32,108,101,110,103,116,104,32]++(dg (V1_8 k)++([32,103,114,101,101,110,32]++(dg (V1_9 k)++([59,10])))))))))))))))))))):=hide (by simp only[List.append_assoc]);go_wp2_with fail
   go_roundw
   case rel=>
    refine⟨k+1,(((((((((((((((((((o++ [32,32,104,101,97,100,32])++(S1_0 k))++ [32,118,111,108,117,109,101,32])++(dg (V1_1 k)))++ [32,102,108,111,119,32])++(dg (V1_2 k)))++ [32,117,115,101,32])++(dg (V1_3 k)++(47 :: dg (V1_4 k))))++ [32,115,112,101,101,100,32])++(dg (V1_5 k)))++ [32,103,114,97,100,101,32])++(dg (V1_6 k)))++ [32,119,105,100,116,104,32])++(dg (V1_7 k)))++ [32,108,101,110,103,116,104,32])++(dg (V1_8 k)))++ [32,103,114,101,101,110,32])++(dg (V1_9 k)))++ [59,10]),_,hlt,by go_num,rfl,hide (cat (cat (cat (cat (cat (cat (cat (cat (cat (cat (cat (cat (cat (cat (cat (cat (cat (cat (cat (uq HS) (show sv [32,32,104,101,97,100,32]=⟨#[32,32,104,101,97,100,32]⟩from rfl)) (uq HD0)) (show sv [32,118,111,108,117,109,101,32]=⟨#[32,118,111,108,117,109,101,32]⟩from rfl)) (uq HD1)) (show sv [32,102,108,111,119,32]=⟨#[32,102,108,111,119,32]⟩from rfl)) (uq HD2)) (show sv [32,117,115,101,32]=⟨#[32,117,115,101,32]⟩from rfl)) (uq HD3)) (show sv [32,115,112,101,101,100,32]=⟨#[32,115,112,101,101,100,32]⟩from rfl)) (uq HD4)) (show sv [32,103,114,97,100,101,32]=⟨#[32,103,114,97,100,101,32]⟩from rfl)) (uq HD5)) (show sv [32,119,105,100,116,104,32]=⟨#[32,119,105,100,116,104,32]⟩from rfl)) (uq HD6)) (show sv [32,108,101,110,103,116,104,32]=⟨#[32,108,101,110,103,116,104,32]⟩from rfl)) (uq HD7)) (show sv [32,103,114,101,101,110,32]=⟨#[32,103,114,101,101,110,32]⟩from rfl)) (uq HD8)) (show sv [59,10]=⟨#[59,10]⟩from rfl)),hide ?_,hide ?_,hide ((uq HKa).trans (uq HY8)),hide ((((uq HMa).trans (uq HY8)).block gb (Array.getElem?_eq_some_iff.1 (uq HB)).1).trans (uq HB))⟩
    ·rw[zba];exact(uq HE2).trans ((congrArg (fun z=>z++([32,32,104,101,97,100,32]++(S1_0 k++([32,118,111,108,117,109,101,32]++(dg (V1_1 k)++([32,102,108,111,119,32]++(dg (V1_2 k)++([32,117,115,101,32]++((dg (V1_3 k)++(47 :: dg (V1_4 k)))++([32,115,112,101,101,100,32]++(dg (V1_5 k)++([32,103,114,97,100,101,32]++(dg (V1_6 k)++([32,119,105,100,116,104,32]++(dg (V1_7 k)++([32,108,101,110,103,116,104,32]++(dg (V1_8 k)++([32,103,114,101,101,110,32]++(dg (V1_9 k)++([59,10])))))))))))))))))))) (uq HO)).trans (List.append_assoc _ _ _))
    ·rw[uq HE2,List.length_append];have h1:=uq HLn;have h2:=uq HLine;omega
   case measure=>simp[intOf];omega
  ·have li:¬(k:Int)<(n1:Int):=by omega
   have ek:n1=k:=by omega
   have HO1:Hid (o=([110,111,100,101,32]++S0++ [32,123,10])++(List.range n1).flatMap (fun k=> [32,32,104,101,97,100,32]++(S1_0 k++([32,118,111,108,117,109,101,32]++(dg (V1_1 k)++([32,102,108,111,119,32]++(dg (V1_2 k)++([32,117,115,101,32]++((dg (V1_3 k)++(47 :: dg (V1_4 k)))++([32,115,112,101,101,100,32]++(dg (V1_5 k)++([32,103,114,97,100,101,32]++(dg (V1_6 k)++([32,119,105,100,116,104,32]++(dg (V1_7 k)++([32,108,101,110,103,116,104,32]++(dg (V1_8 k)++([32,103,114,101,101,110,32]++(dg (V1_9 k)++([59,10])))))))))))))))))))):=hide (by rw[ek];exact uq HO);have HLn1:Hid (o.length≤7000):=hide (by have:=uq HLn;have:=uq HNN;omega);clear hlt hk HO HLn ek;obtain⟨o1,HOo1⟩:∃ o1,o1=o:=⟨_,rfl⟩;subst HOo1;go_wp2_with fail
   go_loopw [3,6] (fun vs vi wr=>∃(k:Nat) (o:List UInt8) (S:ByteArray),k≤n2∧vi= .int .i64 (k:Int)∧vs= .string S∧Hid (sv o=S)∧Hid (o=o1++(List.range k).flatMap (fun k=> [32,32,119,97,108,107,32]++(S2_0 k++([32,119,105,116,104,32]++(S2_1 k++([32,108,111,110,103,32]++(dg (V2_2 k)++([32,112,97,99,101,32]++(dg (V2_3 k)++([32,108,101,97,115,116,32]++(dg (V2_4 k)++([59,10]))))))))))))∧Hid (o.length≤7000+200 * k)∧Hid (Keep w wr)∧Hid (wr.heap[gb]? =some (.cells #[.string X0,.slice a1 n1 c1,.slice a2 n2 c2,.slice a3 n3 c3,.slice a4 n4 c4,.slice a5 n5 c5,.int .i64 v6] 46 (0,0)))) (fun vs vi _=>n2 - (intOf vi).toNat)
   case atStart=>exact⟨0,o1,_,Nat.zero_le _,rfl,rfl,HS,hide (by simp),hide (by have:=uq HLn1;omega),HK,HB⟩
   case round=>
    obtain⟨k,o,S,hk,rfl,rfl,HS,HO,HLn,HK,HB⟩:=hrel;have zz:wr.cell? ⟨gb,2,none⟩=some (.slice a2 n2 c2):=by simp[World.cell?,uq HB]
    by_cases hlt:k<n2
    ·have li:(k:Int)<(n2:Int):=by omega
     have hk9:k≤100:=by have:=uq HNN;omega
     have hS:S.size≤250000:=by rw[← uq HS,zad];have:=uq HLn;have:=uq HNN;omega
     have HGk:=hide ((uq HG2) k hlt);obtain⟨D0,HD0⟩:∃ D,Hid (sv (S2_0 k)=D):=⟨_,hide rfl⟩;obtain⟨D1,HD1⟩:∃ D,Hid (sv (S2_1 k)=D):=⟨_,hide rfl⟩;obtain⟨D2,HD2⟩:∃ D,Hid (sv (dg (V2_2 k))=D):=⟨_,hide rfl⟩;obtain⟨D3,HD3⟩:∃ D,Hid (sv (dg (V2_3 k))=D):=⟨_,hide rfl⟩;obtain⟨D4,HD4⟩:∃ D,Hid (sv (dg (V2_4 k))=D):=⟨_,hide rfl⟩;have s0:D0.size≤24:=by rw[← uq HD0,zad];have:=uq HGk;omega
     have s1:D1.size≤24:=by rw[← uq HD1,zad];have:=uq HGk;omega
     have s2:D2.size≤21:=by rw[← uq HD2,zad];exact zav (by have:=uq HGk;simp only[this])
     have s3:D3.size≤21:=by rw[← uq HD3,zad];exact zav (by have:=uq HGk;simp only[this])
     have s4:D4.size≤21:=by rw[← uq HD4,zad];exact zav (by have:=uq HGk;simp only[this])
     have HLine:Hid (([32,32,119,97,108,107,32]++(S2_0 k++([32,119,105,116,104,32]++(S2_1 k++([32,108,111,110,103,32]++(dg (V2_2 k)++([32,112,97,99,101,32]++(dg (V2_3 k)++([32,108,101,97,115,116,32]++(dg (V2_4 k)++([59,10]))))))))))).length≤145):=hide (Nat.le_trans (zao (show([32,32,119,97,108,107,32]:List UInt8).length≤7 from Nat.le_refl _) (zao (show(S2_0 k).length≤24 from(by rw[← zad,uq HD0];exact s0)) (zao (show([32,119,105,116,104,32]:List UInt8).length≤6 from Nat.le_refl _) (zao (show(S2_1 k).length≤24 from(by rw[← zad,uq HD1];exact s1)) (zao (show([32,108,111,110,103,32]:List UInt8).length≤6 from Nat.le_refl _) (zao (show(dg (V2_2 k)).length≤21 from(by rw[← zad,uq HD2];exact s2)) (zao (show([32,112,97,99,101,32]:List UInt8).length≤6 from Nat.le_refl _) (zao (show(dg (V2_3 k)).length≤21 from(by rw[← zad,uq HD3];exact s3)) (zao (show([32,108,101,97,115,116,32]:List UInt8).length≤7 from Nat.le_refl _) (zao (show(dg (V2_4 k)).length≤21 from(by rw[← zad,uq HD4];exact s4)) (show([59,10]:List UInt8).length≤2 from Nat.le_refl _))))))))))) (by decide));obtain⟨nf0,nf1,nf2,nf3,nf4,nf5,nf6,nf7,nf8,nf9,nf10⟩:¬9223372036854775807<S.size+7∧¬9223372036854775807<S.size+7+D0.size∧¬9223372036854775807<S.size+7+D0.size+6∧¬9223372036854775807<S.size+7+D0.size+6+D1.size∧¬9223372036854775807<S.size+7+D0.size+6+D1.size+6∧¬9223372036854775807<S.size+7+D0.size+6+D1.size+6+D2.size∧¬9223372036854775807<S.size+7+D0.size+6+D1.size+6+D2.size+6∧¬9223372036854775807<S.size+7+D0.size+6+D1.size+6+D2.size+6+D3.size∧¬9223372036854775807<S.size+7+D0.size+6+D1.size+6+D2.size+6+D3.size+7∧¬9223372036854775807<S.size+7+D0.size+6+D1.size+6+D2.size+6+D3.size+7+D4.size∧¬9223372036854775807<S.size+7+D0.size+6+D1.size+6+D2.size+6+D3.size+7+D4.size+2:=by refine⟨?_,?_,?_,?_,?_,?_,?_,?_,?_,?_,?_⟩<;>omega
     obtain⟨ad,rfl,e0,e1,e2,e3,e4,e5⟩:=(uq HC2) k hlt;have x0:=Q.kcell (uq HK) e0;have x1:=Q.kcell (uq HK) e1;have x2:=Q.kcell (uq HK) e2;have x3:=Q.kcell (uq HK) e3;have x4:=Q.kcell (uq HK) e4;have x5:=Q.kcell (uq HK) e5;clear e0 e1 e2 e3 e4 e5;rw[uq HD0]at x0;rw[uq HD1]at x1;have KD2:=hide ((uq TD) (V2_2 k) (by have:=uq HGk;simp only[this]));rw[uq HD2]at KD2;have KD3:=hide ((uq TD) (V2_3 k) (by have:=uq HGk;simp only[this]));rw[uq HD3]at KD3;have KD4:=hide ((uq TD) (V2_4 k) (by have:=uq HGk;simp only[this]));rw[uq HD4]at KD4;clear hS s0 s1 s2 s3 s4;have HKa:=hide ((uq HK).alloc (.cells #[.string D0,.string D1,.int .i64 (V2_2 k),.int .i64 (V2_3 k),.int .i64 (V2_4 k),.int .i64 (V2_5 k)] 86));have hxa:=heap_alloc_new wr (.cells #[.string D0,.string D1,.int .i64 (V2_2 k),.int .i64 (V2_3 k),.int .i64 (V2_4 k),.int .i64 (V2_5 k)] 86);have HMa:=hide ((Keep.refl wr).alloc (.cells #[.string D0,.string D1,.int .i64 (V2_2 k),.int .i64 (V2_3 k),.int .i64 (V2_4 k),.int .i64 (V2_5 k)] 86))
     go_upto_region 11 with fail
     generalize hwa:wr.alloc (.cells #[.string D0,.string D1,.int .i64 (V2_2 k),.int .i64 (V2_3 k),.int .i64 (V2_4 k),.int .i64 (V2_5 k)] 86)=wa at HKa hxa HMa ⊢;clear hwa;obtain⟨qb,HQB⟩:∃ qb,Hid (wr.heap.size=qb):=⟨_,hide rfl⟩;rw[uq HQB]at hxa ⊢;have HSX:Hid (∀ w',Keep wa w'→w'.cell? ⟨qb,0,none⟩=some (.string D0)∧w'.cell? ⟨qb,1,none⟩=some (.string D1)∧w'.cell? ⟨qb,2,none⟩=some (.int .i64 (V2_2 k))∧w'.cell? ⟨qb,3,none⟩=some (.int .i64 (V2_3 k))∧w'.cell? ⟨qb,4,none⟩=some (.int .i64 (V2_4 k))∧w'.cell? ⟨qb,5,none⟩=some (.int .i64 (V2_5 k))):=hide (fun w' k9=>by have h:=k9.block qb (Array.getElem?_eq_some_iff.1 hxa).1;rw[hxa]at h;refine⟨?_,?_,?_,?_,?_,?_⟩<;>simp[World.cell?,h]);clear hxa zz x0 x1 x2 x3 x4 x5;refine wp_region_held_drew (S:=fun w'=>w'.cell? ⟨qb,0,none⟩=some (.string D0)∧w'.cell? ⟨qb,1,none⟩=some (.string D1)∧w'.cell? ⟨qb,2,none⟩=some (.int .i64 (V2_2 k))∧w'.cell? ⟨qb,3,none⟩=some (.int .i64 (V2_3 k))∧w'.cell? ⟨qb,4,none⟩=some (.int .i64 (V2_4 k))∧w'.cell? ⟨qb,5,none⟩=some (.int .i64 (V2_5 k))) (by kernel_rfl) (by exact(uq HSX) _ (Keep.refl wa).drew) (fun hHeld=>?_);refine tkk 0 87 hHeld ?_;try simp only[Act.put,Ya,Yb,Yc]
     refine tkk 1 88 hHeld ?_;try simp only[Act.put,Ya,Yb,Yc]
     refine tkk 2 89 hHeld ?_;try simp only[Act.put,Ya,Yb,Yc]
     refine tkk 3 90 hHeld ?_;try simp only[Act.put,Ya,Yb,Yc]
     refine tkk 4 91 hHeld ?_;try simp only[Act.put,Ya,Yb,Yc]
     refine tkk 5 92 hHeld ?_;try simp only[Act.put,Ya,Yb,Yc]
     refine tkk 6 93 hHeld ?_;try simp only[Act.put,Ya,Yb,Yc]
     refine tkk 7 94 hHeld ?_;try simp only[Act.put,Ya,Yb,Yc]
     refine tkk 8 95 hHeld ?_;try simp only[Act.put,Ya,Yb,Yc]
     refine tkk 9 96 hHeld ?_;try simp only[Act.put,Ya,Yb,Yc]
     refine tkk 10 97 hHeld ?_;try simp only[Act.put,Ya,Yb,Yc]
     refine tkk 11 98 hHeld ?_;try simp only[Act.put,Ya,Yb,Yc]
     refine tkk 15 102 hHeld ?_;try simp only[Act.put,Ya,Yb,Yc]
     refine tkk 16 103 hHeld ?_;try simp only[Act.put,Ya,Yb,Yc]
     refine tkk 20 107 hHeld ?_;try simp only[Act.put,Ya,Yb,Yc]
     refine tkk 21 108 hHeld ?_;try simp only[Act.put,Ya,Yb,Yc]
     refine zaC 12 (fun K hK=>?_);go_simp;clear hHeld;(refine((uq KD2) _).mono ?_;rintro e y1 ⟨rfl,hk9⟩;have HY1:=hide (((Keep.refl wa).drew).trans hk9);clear hk9);try go_wp2_with fail
     refine hK.out _ _ ?_ (fun hHeld=>?_)
     ·exact(uq HSX) _ (uq HY1)
     clear hK K;try simp only[Act.put,Ya,Yb,Yc]
     refine tkk 13 100 hHeld ?_;try simp only[Act.put,Ya,Yb,Yc]
     refine tkk 14 101 hHeld ?_;try simp only[Act.put,Ya,Yb,Yc]
     refine zaC 17 (fun K hK=>?_);go_simp;clear hHeld;(refine((uq KD3) _).mono ?_;rintro e y2 ⟨rfl,hk9⟩;have HY2:=hide ((uq HY1).trans hk9);clear hk9);try go_wp2_with fail
     refine hK.out _ _ ?_ (fun hHeld=>?_)
     ·exact(uq HSX) _ (uq HY2)
     clear hK K;try simp only[Act.put,Ya,Yb,Yc]
     refine tkk 18 105 hHeld ?_;try simp only[Act.put,Ya,Yb,Yc]
     refine tkk 19 106 hHeld ?_;try simp only[Act.put,Ya,Yb,Yc]
     refine zaC 22 (fun K hK=>?_);go_simp;clear hHeld;(refine((uq KD4) _).mono ?_;rintro e y3 ⟨rfl,hk9⟩;have HY3:=hide ((uq HY2).trans hk9);clear hk9);try go_wp2_with fail
     refine hK.out _ _ ?_ (fun hHeld=>?_)
     ·exact(uq HSX) _ (uq HY3)
     clear hK K;try simp only[Act.put,Ya,Yb,Yc]
     refine tkk 23 110 hHeld ?_;try simp only[Act.put,Ya,Yb,Yc]
     refine tkk 24 111 hHeld ?_;try simp only[Act.put,Ya,Yb,Yc]
     refine tkk 25 3 hHeld ?_;try simp only[Act.put,Ya,Yb,Yc]
     refine wpAnyH_done (by kernel_rfl) ?_ _;clear hHeld;clear nf0 nf1 nf2 nf3 nf4 nf5 nf6 nf7 nf8 nf9 nf10;have HE2:Hid ((((((((((((o++ [32,32,119,97,108,107,32])++(S2_0 k))++ [32,119,105,116,104,32])++(S2_1 k))++ [32,108,111,110,103,32])++(dg (V2_2 k)))++ [32,112,97,99,101,32])++(dg (V2_3 k)))++ [32,108,101,97,115,116,32])++(dg (V2_4 k)))++ [59,10])=o++([32,32,119,97,108,107,32]++(S2_0 k++([32,119,105,116,104,32]++(S2_1 k++([32,108,111,110,103,32]++(dg (V2_2 k)++([32,112,97,99,101,32]++(dg (V2_3 k)++([32,108,101,97,115,116,32]++(dg (V2_4 k)++([59,10])))))))))))):=hide (by simp only[List.append_assoc]);go_wp2_with fail
     go_roundw
     case rel=>
      refine⟨k+1,(((((((((((o++ [32,32,119,97,108,107,32])++(S2_0 k))++ [32,119,105,116,104,32])++(S2_1 k))++ [32,108,111,110,103,32])++(dg (V2_2 k)))++ [32,112,97,99,101,32])++(dg (V2_3 k)))++ [32,108,101,97,115,116,32])++(dg (V2_4 k)))++ [59,10]),_,hlt,by go_num,rfl,hide (cat (cat (cat (cat (cat (cat (cat (cat (cat (cat (cat (uq HS) (show sv [32,32,119,97,108,107,32]=⟨#[32,32,119,97,108,107,32]⟩from rfl)) (uq HD0)) (show sv [32,119,105,116,104,32]=⟨#[32,119,105,116,104,32]⟩from rfl)) (uq HD1)) (show sv [32,108,111,110,103,32]=⟨#[32,108,111,110,103,32]⟩from rfl)) (uq HD2)) (show sv [32,112,97,99,101,32]=⟨#[32,112,97,99,101,32]⟩from rfl)) (uq HD3)) (show sv [32,108,101,97,115,116,32]=⟨#[32,108,101,97,115,116,32]⟩from rfl)) (uq HD4)) (show sv [59,10]=⟨#[59,10]⟩from rfl)),hide ?_,hide ?_,hide ((uq HKa).trans (uq HY3)),hide ((((uq HMa).trans (uq HY3)).block gb (Array.getElem?_eq_some_iff.1 (uq HB)).1).trans (uq HB))⟩
      ·rw[zba];exact(uq HE2).trans ((congrArg (fun z=>z++([32,32,119,97,108,107,32]++(S2_0 k++([32,119,105,116,104,32]++(S2_1 k++([32,108,111,110,103,32]++(dg (V2_2 k)++([32,112,97,99,101,32]++(dg (V2_3 k)++([32,108,101,97,115,116,32]++(dg (V2_4 k)++([59,10])))))))))))) (uq HO)).trans (List.append_assoc _ _ _))
      ·rw[uq HE2,List.length_append];have h1:=uq HLn;have h2:=uq HLine;omega
     case measure=>simp[intOf];omega
    ·have li:¬(k:Int)<(n2:Int):=by omega
     have ek:n2=k:=by omega
     have HO2:Hid (o=o1++(List.range n2).flatMap (fun k=> [32,32,119,97,108,107,32]++(S2_0 k++([32,119,105,116,104,32]++(S2_1 k++([32,108,111,110,103,32]++(dg (V2_2 k)++([32,112,97,99,101,32]++(dg (V2_3 k)++([32,108,101,97,115,116,32]++(dg (V2_4 k)++([59,10])))))))))))):=hide (by rw[ek];exact uq HO);have HLn2:Hid (o.length≤9000):=hide (by have:=uq HLn;have:=uq HNN;omega);clear hlt hk HO HLn ek;obtain⟨o2,HOo2⟩:∃ o2,o2=o:=⟨_,rfl⟩;subst HOo2;go_wp2_with fail
     go_loopw [3,8] (fun vs vi wr=>∃(k:Nat) (o:List UInt8) (S:ByteArray),k≤n3∧vi= .int .i64 (k:Int)∧vs= .string S∧Hid (sv o=S)∧Hid (o=o2++(List.range k).flatMap (fun k=> [32,32,112,104,97,115,101,32]++(S3_0 k++([58,32]++(NL k++([59,10]))))))∧Hid (o.length≤9000+660 * k)∧Hid (Keep w wr)∧Hid (wr.heap[gb]? =some (.cells #[.string X0,.slice a1 n1 c1,.slice a2 n2 c2,.slice a3 n3 c3,.slice a4 n4 c4,.slice a5 n5 c5,.int .i64 v6] 46 (0,0)))) (fun vs vi _=>n3 - (intOf vi).toNat)
     case atStart=>exact⟨0,o2,_,Nat.zero_le _,rfl,rfl,HS,hide (by simp),hide (by have:=uq HLn2;omega),HK,HB⟩
     case round=>
      obtain⟨k,o,S,hk,rfl,rfl,HS,HO,HLn,HK,HB⟩:=hrel;have zz:wr.cell? ⟨gb,3,none⟩=some (.slice a3 n3 c3):=by simp[World.cell?,uq HB]
      by_cases hlt:k<n3
      ·have li:(k:Int)<(n3:Int):=by omega
       have hk9:k≤100:=by have:=uq HNN;omega
       have hS:S.size≤250000:=by rw[← uq HS,zad];have:=uq HLn;have:=uq HNN;omega
       have HGk:=hide ((uq HG3) k hlt);obtain⟨D0,HD0⟩:∃ D,Hid (sv (S3_0 k)=D):=⟨_,hide rfl⟩;obtain⟨D1,HD1⟩:∃ D,Hid (sv (NL k)=D):=⟨_,hide rfl⟩;have s0:D0.size≤24:=by rw[← uq HD0,zad];have:=uq HGk;omega
       have s1:D1.size≤600:=by rw[← uq HD1,zad];have:=uq HGk;omega
       have HLine:Hid (([32,32,112,104,97,115,101,32]++(S3_0 k++([58,32]++(NL k++([59,10]))))).length≤636):=hide (Nat.le_trans (zao (show([32,32,112,104,97,115,101,32]:List UInt8).length≤8 from Nat.le_refl _) (zao (show(S3_0 k).length≤24 from(by rw[← zad,uq HD0];exact s0)) (zao (show([58,32]:List UInt8).length≤2 from Nat.le_refl _) (zao (show(NL k).length≤600 from(by rw[← zad,uq HD1];exact s1)) (show([59,10]:List UInt8).length≤2 from Nat.le_refl _))))) (by decide));obtain⟨nf0,nf1,nf2,nf3,nf4⟩:¬9223372036854775807<S.size+8∧¬9223372036854775807<S.size+8+D0.size∧¬9223372036854775807<S.size+8+D0.size+2∧¬9223372036854775807<S.size+8+D0.size+2+D1.size∧¬9223372036854775807<S.size+8+D0.size+2+D1.size+2:=by refine⟨?_,?_,?_,?_,?_⟩<;>omega
       obtain⟨ad,rfl,e0,e1⟩:=(uq HC3) k hlt;have x0:=Q.kcell (uq HK) e0;have x1:=Q.kcell (uq HK) e1;clear e0 e1;rw[uq HD0]at x0;have KL1:=hide ((uq TL) k hlt);rw[uq HD1]at KL1;clear hS s0 s1;have HSX:Hid (∀ w',Keep wr w'→w'.cell? ⟨gb,3,none⟩=some (.slice (some ad) n3 c3)∧w'.cell? (ad.add (k * 3))=some (.string D0)∧w'.cell? ⟨(ad.add (k * 3)).block,(ad.add (k * 3)).off+1,none⟩=some (.slice (A3_1 k) (N3_1 k) (C3_1 k))):=hide (fun w' k9=>⟨Q.kcell k9 zz,Q.kcell k9 x0,Q.kcell k9 x1⟩);have HKa:=HK;have HMa:=hide (Keep.refl wr)
       go_upto_region 15 with fail
       refine wp_region_held_drew (S:=fun w'=>w'.cell? ⟨gb,3,none⟩=some (.slice (some ad) n3 c3)∧w'.cell? (ad.add (k * 3))=some (.string D0)∧w'.cell? ⟨(ad.add (k * 3)).block,(ad.add (k * 3)).off+1,none⟩=some (.slice (A3_1 k) (N3_1 k) (C3_1 k))) (by kernel_rfl) (by exact(uq HSX) _ (Keep.refl wr).drew) (fun hHeld=>?_);refine tkk 0 119 hHeld ?_;try simp only[Act.put,Ya,Yb,Yc]
       refine tkk 1 120 hHeld ?_;try simp only[Act.put,Ya,Yb,Yc]
       refine tkk 2 121 hHeld ?_;try simp only[Act.put,Ya,Yb,Yc]
       refine tkk 3 122 hHeld ?_;try simp only[Act.put,Ya,Yb,Yc]
       refine tkk 4 123 hHeld ?_;try simp only[Act.put,Ya,Yb,Yc]
       refine tkk 5 124 hHeld ?_;try simp only[Act.put,Ya,Yb,Yc]
       refine tkk 6 125 hHeld ?_;try simp only[Act.put,Ya,Yb,Yc]
       refine tkk 7 126 hHeld ?_;try simp only[Act.put,Ya,Yb,Yc]
       refine tkk 8 127 hHeld ?_;try simp only[Act.put,Ya,Yb,Yc]
       refine tkk 9 128 hHeld ?_;try simp only[Act.put,Ya,Yb,Yc]
       refine tkk 10 129 hHeld ?_;try simp only[Act.put,Ya,Yb,Yc]
       refine tkk 11 130 hHeld ?_;try simp only[Act.put,Ya,Yb,Yc]
       refine tkk 12 131 hHeld ?_;try simp only[Act.put,Ya,Yb,Yc]
       refine tkk 13 132 hHeld ?_;try simp only[Act.put,Ya,Yb,Yc]
       refine tkk 14 133 hHeld ?_;try simp only[Act.put,Ya,Yb,Yc]
       refine tkk 15 134 hHeld ?_;try simp only[Act.put,Ya,Yb,Yc]
       refine zaC 16 (fun K hK=>?_);go_simp;clear hHeld;(refine((uq KL1) _ ((uq HKa).trans (Keep.refl wr).drew)).mono ?_;rintro e y1 ⟨rfl,hk9⟩;have HY1:=hide (((Keep.refl wr).drew).trans hk9);clear hk9);try go_wp2_with fail
       refine hK.out _ _ ?_ (fun hHeld=>?_)
       ·exact(uq HSX) _ (uq HY1)
       clear hK K;try simp only[Act.put,Ya,Yb,Yc]
       refine tkk 17 136 hHeld ?_;try simp only[Act.put,Ya,Yb,Yc]
       refine tkk 18 137 hHeld ?_;try simp only[Act.put,Ya,Yb,Yc]
       refine tkk 19 3 hHeld ?_;try simp only[Act.put,Ya,Yb,Yc]
       refine wpAnyH_done (by kernel_rfl) ?_ _;clear hHeld;clear nf0 nf1 nf2 nf3 nf4;have HE2:Hid ((((((o++ [32,32,112,104,97,115,101,32])++(S3_0 k))++ [58,32])++(NL k))++ [59,10])=o++([32,32,112,104,97,115,101,32]++(S3_0 k++([58,32]++(NL k++([59,10])))))):=hide (by simp only[List.append_assoc]);go_wp2_with fail
       go_roundw
       case rel=>
        refine⟨k+1,(((((o++ [32,32,112,104,97,115,101,32])++(S3_0 k))++ [58,32])++(NL k))++ [59,10]),_,hlt,by go_num,rfl,hide (cat (cat (cat (cat (cat (uq HS) (show sv [32,32,112,104,97,115,101,32]=⟨#[32,32,112,104,97,115,101,32]⟩from rfl)) (uq HD0)) (show sv [58,32]=⟨#[58,32]⟩from rfl)) (uq HD1)) (show sv [59,10]=⟨#[59,10]⟩from rfl)),hide ?_,hide ?_,hide ((uq HKa).trans (uq HY1)),hide ((((uq HMa).trans (uq HY1)).block gb (Array.getElem?_eq_some_iff.1 (uq HB)).1).trans (uq HB))⟩
        ·rw[zba];exact(uq HE2).trans ((congrArg (fun z=>z++([32,32,112,104,97,115,101,32]++(S3_0 k++([58,32]++(NL k++([59,10])))))) (uq HO)).trans (List.append_assoc _ _ _))
        ·rw[uq HE2,List.length_append];have h1:=uq HLn;have h2:=uq HLine;omega
       case measure=>simp[intOf];omega
      ·have li:¬(k:Int)<(n3:Int):=by omega
       have ek:n3=k:=by omega
       have HO3:Hid (o=o2++(List.range n3).flatMap (fun k=> [32,32,112,104,97,115,101,32]++(S3_0 k++([58,32]++(NL k++([59,10])))))):=hide (by rw[ek];exact uq HO);have HLn3:Hid (o.length≤20000):=hide (by have:=uq HLn;have:=uq HNN;omega);clear hlt hk HO HLn ek;obtain⟨o3,HOo3⟩:∃ o3,o3=o:=⟨_,rfl⟩;subst HOo3;go_wp2_with fail
       go_loopw [3,9] (fun vs vi wr=>∃(k:Nat) (o:List UInt8) (S:ByteArray),k≤n4∧vi= .int .i64 (k:Int)∧vs= .string S∧Hid (sv o=S)∧Hid (o=o3++(List.range k).flatMap (fun k=> [32,32,103,114,111,117,112,32,123,10]++((List.range (N4_0 k)).flatMap (fun j=> [32,32,32,32,114,105,110,103,32]++((if FR k j then [102,114,101,101,32]else [])++(RL k j++ [59,10])))++ [32,32,125,10])))∧Hid (o.length≤20000+3000 * k)∧Hid (Keep w wr)∧Hid (wr.heap[gb]? =some (.cells #[.string X0,.slice a1 n1 c1,.slice a2 n2 c2,.slice a3 n3 c3,.slice a4 n4 c4,.slice a5 n5 c5,.int .i64 v6] 46 (0,0)))) (fun vs vi _=>n4 - (intOf vi).toNat)
       case atStart=>exact⟨0,o3,_,Nat.zero_le _,rfl,rfl,HS,hide (by simp),hide (by have:=uq HLn3;omega),HK,HB⟩
       case round=>
        obtain⟨k,o,S,hk,rfl,rfl,HS,HO,HLn,HK,HB⟩:=hrel;have zz:wr.cell? ⟨gb,4,none⟩=some (.slice a4 n4 c4):=by simp[World.cell?,uq HB]
        by_cases hlt:k<n4
        ·have li:(k:Int)<(n4:Int):=by omega
         have hk9:k≤100:=by have:=uq HNN;omega
         have hS:S.size≤250000:=by rw[← uq HS,zad];have:=uq HLn;have:=uq HNN;omega
         have HGk:=hide ((uq HG4) k hlt);have HTk:=hide ((uq TR) k hlt);have HCk:=hide ((uq HCR) k hlt);obtain⟨ad,rfl,e0⟩:=(uq HC4) k hlt;have x0:=Q.kcell (uq HK) e0;clear e0;obtain⟨Nk,hNk⟩:∃ Nk,Hid (N4_0 k=Nk):=⟨_,hide rfl⟩;rw[uq hNk]at x0 HGk HTk HCk;obtain⟨Ak,hAk⟩:∃ Ak,Hid (A4_0 k=Ak):=⟨_,hide rfl⟩;rw[uq hAk]at x0 HCk;have nf0:¬9223372036854775807<S.size+10:=by omega
         clear hS;go_wp2_with fail
         have HS1:=hide (cat (uq HS) (show sv [32,32,103,114,111,117,112,32,123,10]=⟨#[32,32,103,114,111,117,112,32,123,10]⟩from rfl));clear nf0
         go_loopw [3,10] (fun vs vi wi=>∃(j:Nat) (q:List UInt8) (S:ByteArray),j≤Nk∧vi= .int .i64 (j:Int)∧vs= .string S∧Hid (sv q=S)∧Hid (q=o++ [32,32,103,114,111,117,112,32,123,10]++(List.range j).flatMap (fun j=> [32,32,32,32,114,105,110,103,32]++((if FR k j then [102,114,101,101,32]else [])++(RL k j++ [59,10]))))∧Hid (q.length≤o.length+20+700 * j)∧Hid (Keep wr wi)) (fun vs vi _=>Nk - (intOf vi).toNat)
         case atStart=>exact⟨0,o++ [32,32,103,114,111,117,112,32,123,10],_,Nat.zero_le _,rfl,rfl,HS1,hide (by simp),hide (by simp),hide (Keep.refl _)⟩
         case round=>
          obtain⟨j,q,Sq,hj,rfl,rfl,HSq,HOq,HLq,HKq⟩:=hrel;have HKw:=hide ((uq HK).trans (uq HKq));have zq:=Q.kcell (uq HKq) zz;have xq:=Q.kcell (uq HKq) x0;by_cases hjl:j<Nk
          ·have lj:(j:Int)<(Nk:Int):=by omega
           have hj9:j≤100:=by have:=(uq HGk).1;omega
           obtain⟨bd,eb,f0,f1⟩:=(uq HCk) j hjl;have CT:=hide ((uq HTk) j hjl);obtain⟨D0,HD0⟩:∃ D,Hid (sv (RL k j)=D):=⟨_,hide rfl⟩;rw[uq HD0]at CT;have y0:=Q.kcell (uq HKw) f0;have y1:=Q.kcell (uq HKw) f1;clear f0 f1;have hSq:Sq.size≤300000:=by rw[← uq HSq,zad];have:=uq HLq;have:=uq HLn;have:=uq HNN;have:=(uq HGk).1;omega
           have hD0:D0.size≤600:=by rw[← uq HD0,zad];exact(uq HGk).2 j hjl
           obtain⟨fr,hfr⟩:∃ fr,Hid (FR k j=fr):=⟨_,hide rfl⟩;rw[uq hfr]at y0;subst eb;generalize AA k j=Aj at y1 CT;generalize NA k j=Nj at y1 CT;generalize CA k j=Cj at y1 CT;cases fr
           ·have nf0:¬9223372036854775807<Sq.size+9:=by omega
            have nf2:¬9223372036854775807<Sq.size+9+D0.size:=by omega
            have nf3:¬9223372036854775807<Sq.size+9+D0.size+2:=by omega
            clear hSq hD0;have HKb:=hide ((uq HKw).alloc (.cells #[.bool false,.slice Aj Nj Cj] 93));have HKi:=hide ((uq HKq).alloc (.cells #[.bool false,.slice Aj Nj Cj] 93));go_wp2_with fail
            (refine((uq CT) _ (uq HKb)).mono ?_;rintro e y1 ⟨rfl,hk9⟩;have HKy:=hide ((uq HKi).trans hk9);clear hk9);go_wp2_with fail
            go_roundw
            case rel=>
             refine⟨j+1,(((q++ [32,32,32,32,114,105,110,103,32])++RL k j)++ [59,10]),_,hjl,by go_num,rfl,hide (cat (cat (cat (uq HSq) (show sv [32,32,32,32,114,105,110,103,32]=⟨#[32,32,32,32,114,105,110,103,32]⟩from rfl)) (uq HD0)) (show sv [59,10]=⟨#[59,10]⟩from rfl)),hide ?_,hide ?_,HKy⟩
             ·rw[zba,uq hfr];have h1:=uq HOq;rw[h1];simp
             ·have h1:=uq HLq;have h2:=(uq HGk).2 j hjl;simp only[List.length_append,List.length_cons,List.length_nil];omega
            case measure=>simp[intOf];omega
           ·have nf0:¬9223372036854775807<Sq.size+9:=by omega
            have nf1:¬9223372036854775807<Sq.size+9+5:=by omega
            have nf2:¬9223372036854775807<Sq.size+9+5+D0.size:=by omega
            have nf3:¬9223372036854775807<Sq.size+9+5+D0.size+2:=by omega
            clear hSq hD0;have HKb:=hide ((uq HKw).alloc (.cells #[.bool true,.slice Aj Nj Cj] 93));have HKi:=hide ((uq HKq).alloc (.cells #[.bool true,.slice Aj Nj Cj] 93));go_wp2_with fail
            (refine((uq CT) _ (uq HKb)).mono ?_;rintro e y1 ⟨rfl,hk9⟩;have HKy:=hide ((uq HKi).trans hk9);clear hk9);go_wp2_with fail
            go_roundw
            case rel=>
             refine⟨j+1,((((q++ [32,32,32,32,114,105,110,103,32])++ [102,114,101,101,32])++RL k j)++ [59,10]),_,hjl,by go_num,rfl,hide (cat (cat (cat (cat (uq HSq) (show sv [32,32,32,32,114,105,110,103,32]=⟨#[32,32,32,32,114,105,110,103,32]⟩from rfl)) (show sv [102,114,101,101,32]=⟨#[102,114,101,101,32]⟩from rfl)) (uq HD0)) (show sv [59,10]=⟨#[59,10]⟩from rfl)),hide ?_,hide ?_,HKy⟩
             ·rw[zba,uq hfr];have h1:=uq HOq;rw[h1];simp
             ·have h1:=uq HLq;have h2:=(uq HGk).2 j hjl;simp only[List.length_append,List.length_cons,List.length_nil];omega
            case measure=>simp[intOf];omega
          ·have lj:¬(j:Int)<(Nk:Int):=by omega
           have ej:Nk=j:=by omega
           subst ej;have nf0:¬9223372036854775807<Sq.size+4:=by rw[← uq HSq,zad];have:=uq HLq;have:=uq HLn;have:=uq HNN;have:=(uq HGk).1;omega
           go_wp2_with fail
           go_roundw
           case rel=>
            refine⟨k+1,q++ [32,32,125,10],_,hlt,by go_num,rfl,hide (cat (uq HSq) (show sv [32,32,125,10]=⟨#[32,32,125,10]⟩from rfl)),hide ?_,hide ?_,HKw,hide (((uq HKq).block gb (Array.getElem?_eq_some_iff.1 (uq HB)).1).trans (uq HB))⟩
            ·rw[zba,uq hNk];have h1:=uq HOq;have h2:=uq HO;rw[h1,h2];simp only[List.append_assoc]
            ·have h1:=uq HLq;have h2:=uq HLn;have h3:=(uq HGk).1;simp only[List.length_append,List.length_cons,List.length_nil];omega
           case measure=>simp[intOf];omega
        ·have li:¬(k:Int)<(n4:Int):=by omega
         have ek:n4=k:=by omega
         have HO4:Hid (o=o3++(List.range n4).flatMap (fun k=> [32,32,103,114,111,117,112,32,123,10]++((List.range (N4_0 k)).flatMap (fun j=> [32,32,32,32,114,105,110,103,32]++((if FR k j then [102,114,101,101,32]else [])++(RL k j++ [59,10])))++ [32,32,125,10]))):=hide (by rw[ek];exact uq HO);have HLn4:Hid (o.length≤33000):=hide (by have:=uq HLn;have:=uq HNN;omega);clear hlt hk HO HLn ek;obtain⟨o4,HOo4⟩:∃ o4,o4=o:=⟨_,rfl⟩;subst HOo4;go_wp2_with fail
         go_loopw [3,12] (fun vs vi wr=>∃(k:Nat) (o:List UInt8) (S:ByteArray),k≤n5∧vi= .int .i64 (k:Int)∧vs= .string S∧Hid (sv o=S)∧Hid (o=o4++(List.range k).flatMap (fun k=> [32,32,102,111,101,32]++(S5_0 k++([32]++(S5_1 k++([59,10]))))))∧Hid (o.length≤33000+60 * k)∧Hid (Keep w wr)∧Hid (wr.heap[gb]? =some (.cells #[.string X0,.slice a1 n1 c1,.slice a2 n2 c2,.slice a3 n3 c3,.slice a4 n4 c4,.slice a5 n5 c5,.int .i64 v6] 46 (0,0)))) (fun vs vi _=>n5 - (intOf vi).toNat)
         case atStart=>exact⟨0,o4,_,Nat.zero_le _,rfl,rfl,HS,hide (by simp),hide (by have:=uq HLn4;omega),HK,HB⟩
         case round=>
          obtain⟨k,o,S,hk,rfl,rfl,HS,HO,HLn,HK,HB⟩:=hrel;have zz:wr.cell? ⟨gb,5,none⟩=some (.slice a5 n5 c5):=by simp[World.cell?,uq HB]
          by_cases hlt:k<n5
          ·have li:(k:Int)<(n5:Int):=by omega
           have hk9:k≤100:=by have:=uq HNN;omega
           have hS:S.size≤250000:=by rw[← uq HS,zad];have:=uq HLn;have:=uq HNN;omega
           have HGk:=hide ((uq HG5) k hlt);obtain⟨D0,HD0⟩:∃ D,Hid (sv (S5_0 k)=D):=⟨_,hide rfl⟩;obtain⟨D1,HD1⟩:∃ D,Hid (sv (S5_1 k)=D):=⟨_,hide rfl⟩;have s0:D0.size≤24:=by rw[← uq HD0,zad];have:=uq HGk;omega
           have s1:D1.size≤24:=by rw[← uq HD1,zad];have:=uq HGk;omega
           have HLine:Hid (([32,32,102,111,101,32]++(S5_0 k++([32]++(S5_1 k++([59,10]))))).length≤57):=hide (Nat.le_trans (zao (show([32,32,102,111,101,32]:List UInt8).length≤6 from Nat.le_refl _) (zao (show(S5_0 k).length≤24 from(by rw[← zad,uq HD0];exact s0)) (zao (show([32]:List UInt8).length≤1 from Nat.le_refl _) (zao (show(S5_1 k).length≤24 from(by rw[← zad,uq HD1];exact s1)) (show([59,10]:List UInt8).length≤2 from Nat.le_refl _))))) (by decide));obtain⟨nf0,nf1,nf2,nf3,nf4⟩:¬9223372036854775807<S.size+6∧¬9223372036854775807<S.size+6+D0.size∧¬9223372036854775807<S.size+6+D0.size+1∧¬9223372036854775807<S.size+6+D0.size+1+D1.size∧¬9223372036854775807<S.size+6+D0.size+1+D1.size+2:=by refine⟨?_,?_,?_,?_,?_⟩<;>omega
           obtain⟨ad,rfl,e0,e1⟩:=(uq HC5) k hlt;have x0:=Q.kcell (uq HK) e0;have x1:=Q.kcell (uq HK) e1;clear e0 e1;rw[uq HD0]at x0;rw[uq HD1]at x1;clear hS s0 s1;have HSX:Hid (∀ w',Keep wr w'→w'.cell? ⟨gb,5,none⟩=some (.slice (some ad) n5 c5)∧w'.cell? (ad.add (k * 3))=some (.string D0)∧w'.cell? ⟨(ad.add (k * 3)).block,(ad.add (k * 3)).off+1,none⟩=some (.string D1)):=hide (fun w' k9=>⟨Q.kcell k9 zz,Q.kcell k9 x0,Q.kcell k9 x1⟩);have HKa:=HK;have HMa:=hide (Keep.refl wr)
           go_upto_region 32 with fail
           refine wp_region_held_drew (S:=fun w'=>w'.cell? ⟨gb,5,none⟩=some (.slice (some ad) n5 c5)∧w'.cell? (ad.add (k * 3))=some (.string D0)∧w'.cell? ⟨(ad.add (k * 3)).block,(ad.add (k * 3)).off+1,none⟩=some (.string D1)) (by kernel_rfl) (by exact(uq HSX) _ (Keep.refl wr).drew) (fun hHeld=>?_);refine tkk 0 188 hHeld ?_;try simp only[Act.put,Ya,Yb,Yc]
           refine tkk 1 189 hHeld ?_;try simp only[Act.put,Ya,Yb,Yc]
           refine tkk 2 190 hHeld ?_;try simp only[Act.put,Ya,Yb,Yc]
           refine tkk 3 191 hHeld ?_;try simp only[Act.put,Ya,Yb,Yc]
           refine tkk 4 192 hHeld ?_;try simp only[Act.put,Ya,Yb,Yc]
           refine tkk 5 193 hHeld ?_;try simp only[Act.put,Ya,Yb,Yc]
           refine tkk 6 194 hHeld ?_;try simp only[Act.put,Ya,Yb,Yc]
           refine tkk 7 195 hHeld ?_;try simp only[Act.put,Ya,Yb,Yc]
           refine tkk 8 196 hHeld ?_;try simp only[Act.put,Ya,Yb,Yc]
           refine tkk 9 197 hHeld ?_;try simp only[Act.put,Ya,Yb,Yc]
           refine tkk 10 198 hHeld ?_;try simp only[Act.put,Ya,Yb,Yc]
           refine tkk 11 199 hHeld ?_;try simp only[Act.put,Ya,Yb,Yc]
           refine tkk 12 200 hHeld ?_;try simp only[Act.put,Ya,Yb,Yc]
           refine tkk 13 201 hHeld ?_;try simp only[Act.put,Ya,Yb,Yc]
           refine tkk 14 202 hHeld ?_;try simp only[Act.put,Ya,Yb,Yc]
           refine tkk 15 203 hHeld ?_;try simp only[Act.put,Ya,Yb,Yc]
           refine tkk 16 204 hHeld ?_;try simp only[Act.put,Ya,Yb,Yc]
           refine tkk 17 205 hHeld ?_;try simp only[Act.put,Ya,Yb,Yc]
           refine tkk 18 3 hHeld ?_;try simp only[Act.put,Ya,Yb,Yc]
           refine wpAnyH_done (by kernel_rfl) ?_ _;clear hHeld;clear nf0 nf1 nf2 nf3 nf4;have HE2:Hid ((((((o++ [32,32,102,111,101,32])++(S5_0 k))++ [32])++(S5_1 k))++ [59,10])=o++([32,32,102,111,101,32]++(S5_0 k++([32]++(S5_1 k++([59,10])))))):=hide (by simp only[List.append_assoc]);go_wp2_with fail
           go_roundw
           case rel=>
            refine⟨k+1,(((((o++ [32,32,102,111,101,32])++(S5_0 k))++ [32])++(S5_1 k))++ [59,10]),_,hlt,by go_num,rfl,hide (cat (cat (cat (cat (cat (uq HS) (show sv [32,32,102,111,101,32]=⟨#[32,32,102,111,101,32]⟩from rfl)) (uq HD0)) (show sv [32]=⟨#[32]⟩from rfl)) (uq HD1)) (show sv [59,10]=⟨#[59,10]⟩from rfl)),hide ?_,hide ?_,hide ((uq HKa).trans ((Keep.refl wr).drew)),hide ((((uq HMa).trans ((Keep.refl wr).drew)).block gb (Array.getElem?_eq_some_iff.1 (uq HB)).1).trans (uq HB))⟩
            ·rw[zba];exact(uq HE2).trans ((congrArg (fun z=>z++([32,32,102,111,101,32]++(S5_0 k++([32]++(S5_1 k++([59,10])))))) (uq HO)).trans (List.append_assoc _ _ _))
            ·rw[uq HE2,List.length_append];have h1:=uq HLn;have h2:=uq HLine;omega
           case measure=>simp[intOf];omega
          ·have li:¬(k:Int)<(n5:Int):=by omega
           have ek:n5=k:=by omega
           have HO5:Hid (o=o4++(List.range n5).flatMap (fun k=> [32,32,102,111,101,32]++(S5_0 k++([32]++(S5_1 k++([59,10])))))):=hide (by rw[ek];exact uq HO);have HLn5:Hid (o.length≤40000):=hide (by have:=uq HLn;have:=uq HNN;omega);clear hlt hk HO HLn ek;have nf0:¬9223372036854775807<S.size+2:=by rw[← uq HS,zad];have:=uq HLn5;omega
           go_wp2_with fail
           go_ret;refine⟨?_,uq HK⟩;have hf:=uq HFin;rw[← hf];have h1:=uq HO5;have h2:=uq HO4;have h3:=uq HO3;have h4:=uq HO2;have h5:=uq HO1;have hc:=cat (uq HS) (show sv [125,10]=⟨#[125,10]⟩from rfl);have e:(o++ [125,10]:List UInt8)= [110,111,100,101,32]++(S0++([32,123,10]++((List.range n1).flatMap (fun k=> [32,32,104,101,97,100,32]++(S1_0 k++([32,118,111,108,117,109,101,32]++(dg (V1_1 k)++([32,102,108,111,119,32]++(dg (V1_2 k)++([32,117,115,101,32]++((dg (V1_3 k)++(47 :: dg (V1_4 k)))++([32,115,112,101,101,100,32]++(dg (V1_5 k)++([32,103,114,97,100,101,32]++(dg (V1_6 k)++([32,119,105,100,116,104,32]++(dg (V1_7 k)++([32,108,101,110,103,116,104,32]++(dg (V1_8 k)++([32,103,114,101,101,110,32]++(dg (V1_9 k)++([59,10])))))))))))))))))))++((List.range n2).flatMap (fun k=> [32,32,119,97,108,107,32]++(S2_0 k++([32,119,105,116,104,32]++(S2_1 k++([32,108,111,110,103,32]++(dg (V2_2 k)++([32,112,97,99,101,32]++(dg (V2_3 k)++([32,108,101,97,115,116,32]++(dg (V2_4 k)++([59,10])))))))))))++((List.range n3).flatMap (fun k=> [32,32,112,104,97,115,101,32]++(S3_0 k++([58,32]++(NL k++([59,10])))))++((List.range n4).flatMap (fun k=> [32,32,103,114,111,117,112,32,123,10]++((List.range (N4_0 k)).flatMap (fun j=> [32,32,32,32,114,105,110,103,32]++((if FR k j then [102,114,101,101,32]else [])++(RL k j++ [59,10])))++ [32,32,125,10]))++((List.range n5).flatMap (fun k=> [32,32,102,111,101,32]++(S5_0 k++([32]++(S5_1 k++([59,10])))))++ [125,10]))))))):=by rw[h1,h2,h3,h4,h5];simp only[List.append_assoc]
           rw[e]at hc;rw[hc]
           rfl
end S
end Go.Proofs.YtfepanidippjlaaGreatDoor
