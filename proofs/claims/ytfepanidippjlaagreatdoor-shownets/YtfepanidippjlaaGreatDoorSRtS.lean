/- The document's answer for layer 6: Show, over letters. -/
import Derived.Test.YtfepanidippjlaaGreatDoorSRtN
import Derived.Test.YtfepanidippjlaaGreatDoorLEnd
import Derived.Test.YtfepanidippjlaaGreatDoorLNtA
namespace Go.Proofs.YtfepanidippjlaaGreatDoor
open Go.RowKit
attribute [local go_sem ↓] Go.wp_at_zero Go.wp_at_succ
set_option linter.unusedVariables false
set_option linter.unusedSimpArgs false
set_option maxRecDepth 10000
namespace S
theorem zjH (v0 v1 v2 v3 v4:Int) (a5:Option Addr) (n5 c5:Nat) (a6:Option Addr) (n6 c6:Nat) (v7 v8:Int) (w:World) (TQ:Hid (∀ w',Keep w w'→Calls Tryz.prog 11 #[.agg #[.int .i64 v0,.int .i64 v1,.int .i64 v2,.int .i64 v3,.int .i64 v4,.slice a5 n5 c5,.slice a6 n6 c6,.int .i64 v7,.int .i64 v8]] w' fun e w''=>e= .returned (.bool false)∧Keep w' w'')):
  Calls Tryz.prog 9 #[.agg #[.int .i64 v0,.int .i64 v1,.int .i64 v2,.int .i64 v3,.int .i64 v4,.slice a5 n5 c5,.slice a6 n6 c6,.int .i64 v7,.int .i64 v8]] w fun e w'=>e= .returned (.tuple #[.slice none 0 0,.int .i64 1])∧Keep w w':=by
 have HK:=hide ((Keep.refl w).alloc (.cells #[.int .i64 v0,.int .i64 v1,.int .i64 v2,.int .i64 v3,.int .i64 v4,.slice a5 n5 c5,.slice a6 n6 c6,.int .i64 v7,.int .i64 v8] 27));have hx:=heap_alloc_new w (.cells #[.int .i64 v0,.int .i64 v1,.int .i64 v2,.int .i64 v3,.int .i64 v4,.slice a5 n5 c5,.slice a6 n6 c6,.int .i64 v7,.int .i64 v8] 27);go_enter Tryz.func9,Tryz.ntmps9
 go_upto_region 1 with fail
 generalize w.alloc (.cells #[.int .i64 v0,.int .i64 v1,.int .i64 v2,.int .i64 v3,.int .i64 v4,.slice a5 n5 c5,.slice a6 n6 c6,.int .i64 v7,.int .i64 v8] 27)=w0 at HK hx ⊢;obtain⟨gb,HGB⟩:∃ gb,Hid (w.heap.size=gb):=⟨_,hide rfl⟩;rw[uq HGB]at hx ⊢;have HX:Hid (∀ w',Keep w0 w'→w'.cell? ⟨gb,0,none⟩=some (.int .i64 v0)∧w'.cell? ⟨gb,1,none⟩=some (.int .i64 v1)∧w'.cell? ⟨gb,2,none⟩=some (.int .i64 v2)∧w'.cell? ⟨gb,3,none⟩=some (.int .i64 v3)∧w'.cell? ⟨gb,4,none⟩=some (.int .i64 v4)∧w'.cell? ⟨gb,5,none⟩=some (.slice a5 n5 c5)∧w'.cell? ⟨gb,6,none⟩=some (.slice a6 n6 c6)∧w'.cell? ⟨gb,7,none⟩=some (.int .i64 v7)∧w'.cell? ⟨gb,8,none⟩=some (.int .i64 v8)):=hide (fun w' k9=>by have h:=k9.block gb (Array.getElem?_eq_some_iff.1 hx).1;rw[hx]at h;refine⟨?_,?_,?_,?_,?_,?_,?_,?_,?_⟩<;>simp[World.cell?,h]);have HB0:=hide hx;clear hx;have CQ:=hide ((uq TQ) w0 (uq HK));obtain⟨f0,f1,f2,f3,f4,f5,f6,f7,f8⟩:=(uq HX) _ (Keep.refl w0);go_wp2_with fail
 (refine(uq CQ).mono ?_;rintro e w1 ⟨rfl,hk9⟩;have HK1:=hide ((uq HK).trans hk9);have HM1:=hide hk9;clear hk9);clear f0 f1 f2 f3 f4 f5 f6 f7 f8;go_wp2_with fail
 go_ret2;exact⟨rfl,uq HK1⟩
set_option maxHeartbeats 32000000 in
theorem zgC (v0 v1 v2 v3 v4:Int) (a5:Option Addr) (n5 c5:Nat) (a6:Option Addr) (n6 c6:Nat) (v7 v8:Int) (S7_0:Nat→ByteArray) (A7_1:Nat→Option Addr) (N7_1 C7_1:Nat→Nat) (A7_2:Nat→Option Addr) (N7_2 C7_2:Nat→Nat) (A7_3:Nat→Option Addr) (N7_3 C7_3:Nat→Nat) (A7_4:Nat→Option Addr) (N7_4 C7_4:Nat→Nat) (A7_5:Nat→Option Addr) (N7_5 C7_5:Nat→Nat) (V7_6:Nat→Int) (S6_0:Nat→List UInt8) (S6_1:Nat→List UInt8) (S6_2:Nat→List UInt8) (V6_3:Nat→Int) (V6_4:Nat→Int) (V6_5:Nat→Int) (NT:Nat→List UInt8) (art:Bool) (w:World) (hn:n5≤12∧n6≤12) (TQ:Hid (∀ w',Keep w w'→Calls Tryz.prog 11 #[.agg #[.int .i64 v0,.int .i64 v1,.int .i64 v2,.int .i64 v3,.int .i64 v4,.slice a5 n5 c5,.slice a6 n6 c6,.int .i64 v7,.int .i64 v8]] w' fun e w''=>e= .returned (.bool true)∧Keep w' w''))
  (TD:Hid (∀(n:Int),grB n=true→∀ w',Calls Tryz.prog 19 #[.int .i64 n] w' fun e w''=>e= .returned (.string (sv (dg n)))∧Keep w' w''))
  (TF:Hid (∀(a b:Int),grB a=true→grB b=true→∀ w',Calls Tryz.prog 20 #[.agg #[.int .i64 a,.int .i64 b]] w' fun e w''=>e= .returned (.string (sv (dg a++(47 :: dg b))))∧Keep w' w''))
  (TT:Hid (∀ k,k<n5→∀ w',Keep w w'→Calls Tryz.prog 21 #[.agg #[.string (S7_0 k),.slice (A7_1 k) (N7_1 k) (C7_1 k),.slice (A7_2 k) (N7_2 k) (C7_2 k),.slice (A7_3 k) (N7_3 k) (C7_3 k),.slice (A7_4 k) (N7_4 k) (C7_4 k),.slice (A7_5 k) (N7_5 k) (C7_5 k),.int .i64 (V7_6 k)]] w' fun e w''=>e= .returned (.string (sv (NT k)))∧Keep w' w''))
  (HC7:Hid (∀ k,k<n5→∃ ad,a5=some ad∧w.cell? (ad.add (k * 7))=some (.string (S7_0 k))∧w.cell? ⟨(ad.add (k * 7)).block,(ad.add (k * 7)).off+1,none⟩=some (.slice (A7_1 k) (N7_1 k) (C7_1 k))∧w.cell? ⟨(ad.add (k * 7)).block,(ad.add (k * 7)).off+2,none⟩=some (.slice (A7_2 k) (N7_2 k) (C7_2 k))∧w.cell? ⟨(ad.add (k * 7)).block,(ad.add (k * 7)).off+3,none⟩=some (.slice (A7_3 k) (N7_3 k) (C7_3 k))∧w.cell? ⟨(ad.add (k * 7)).block,(ad.add (k * 7)).off+4,none⟩=some (.slice (A7_4 k) (N7_4 k) (C7_4 k))∧w.cell? ⟨(ad.add (k * 7)).block,(ad.add (k * 7)).off+5,none⟩=some (.slice (A7_5 k) (N7_5 k) (C7_5 k))∧w.cell? ⟨(ad.add (k * 7)).block,(ad.add (k * 7)).off+6,none⟩=some (.int .i64 (V7_6 k))))
  (HC6:Hid (∀ k,k<n6→∃ ad,a6=some ad∧w.cell? (ad.add (k * 6))=some (.string (sv (S6_0 k)))∧w.cell? ⟨(ad.add (k * 6)).block,(ad.add (k * 6)).off+1,none⟩=some (.string (sv (S6_1 k)))∧w.cell? ⟨(ad.add (k * 6)).block,(ad.add (k * 6)).off+2,none⟩=some (.string (sv (S6_2 k)))∧w.cell? ⟨(ad.add (k * 6)).block,(ad.add (k * 6)).off+3,none⟩=some (.int .i64 (V6_3 k))∧w.cell? ⟨(ad.add (k * 6)).block,(ad.add (k * 6)).off+4,none⟩=some (.int .i64 (V6_4 k))∧w.cell? ⟨(ad.add (k * 6)).block,(ad.add (k * 6)).off+5,none⟩=some (.int .i64 (V6_5 k))))
  (HGv:Hid (grB v0=true∧grB v1=true∧grB v2=true∧grB v3=true∧grB v4=true∧grB v7=true∧grB v8=true)) (HG7:Hid (∀ k,k<n5→(NT k).length≤1000000)) (HG6:Hid (∀ k,k<n6→(S6_0 k).length≤24∧(S6_1 k).length≤24∧(S6_2 k).length≤24∧grB (V6_3 k)=true∧grB (V6_4 k)=true))
  (HAr:Hid (if art then(0<n6∨(n6=0∧v7≠0)∨(n6=0∧v7=0∧v8≠0))else(n6=0∧v7=0∧v8=0))):
  Calls Tryz.prog 9 #[.agg #[.int .i64 v0,.int .i64 v1,.int .i64 v2,.int .i64 v3,.int .i64 v4,.slice a5 n5 c5,.slice a6 n6 c6,.int .i64 v7,.int .i64 v8]] w fun e w'=>∃ v,e= .returned (.tuple #[v,.int .i64 0])∧By w' v (([99,121,99,108,101,32]++(dg v0++([32,116,111,32]++(dg v1++([32,98,121,32]++(dg v2++([59,10,112,101,97,107,32]++((dg v3++(47 :: dg v4))++([59,10])))))))))++((List.range n5).flatMap NT++(if art then [97,114,116,101,114,121,32,123,10]++((List.range n6).flatMap (fun k=> [32,32,115,116,111,112,32]++(S6_0 k++([32,111,117,116,32]++(S6_1 k++([32,105,110,32]++(S6_2 k++([32,97,104,101,97,100,32]++(dg (V6_3 k)++([32,98,97,99,107,32]++(dg (V6_4 k)++([59,10])))))))))))++([32,32,119,101,105,103,104,116,115,32]++(dg v7++([32]++(dg v8++ [59,10,125,10])))))else [])))∧Keep w w':=by
 obtain⟨fin,HFin⟩:∃ fin,Hid (([99,121,99,108,101,32]++(dg v0++([32,116,111,32]++(dg v1++([32,98,121,32]++(dg v2++([59,10,112,101,97,107,32]++((dg v3++(47 :: dg v4))++([59,10])))))))))++((List.range n5).flatMap NT++(if art then [97,114,116,101,114,121,32,123,10]++((List.range n6).flatMap (fun k=> [32,32,115,116,111,112,32]++(S6_0 k++([32,111,117,116,32]++(S6_1 k++([32,105,110,32]++(S6_2 k++([32,97,104,101,97,100,32]++(dg (V6_3 k)++([32,98,97,99,107,32]++(dg (V6_4 k)++([59,10])))))))))))++([32,32,119,101,105,103,104,116,115,32]++(dg v7++([32]++(dg v8++ [59,10,125,10])))))else []))=fin):=⟨_,hide rfl⟩;rw[uq HFin];have HNN:=hide hn;clear hn;have HK:=hide ((Keep.refl w).alloc (.cells #[.int .i64 v0,.int .i64 v1,.int .i64 v2,.int .i64 v3,.int .i64 v4,.slice a5 n5 c5,.slice a6 n6 c6,.int .i64 v7,.int .i64 v8] 27));have hx:=heap_alloc_new w (.cells #[.int .i64 v0,.int .i64 v1,.int .i64 v2,.int .i64 v3,.int .i64 v4,.slice a5 n5 c5,.slice a6 n6 c6,.int .i64 v7,.int .i64 v8] 27);go_enter Tryz.func9,Tryz.ntmps9
 go_upto_region 1 with fail
 generalize w.alloc (.cells #[.int .i64 v0,.int .i64 v1,.int .i64 v2,.int .i64 v3,.int .i64 v4,.slice a5 n5 c5,.slice a6 n6 c6,.int .i64 v7,.int .i64 v8] 27)=w0 at HK hx ⊢;obtain⟨gb,HGB⟩:∃ gb,Hid (w.heap.size=gb):=⟨_,hide rfl⟩;rw[uq HGB]at hx ⊢;have HX:Hid (∀ w',Keep w0 w'→w'.cell? ⟨gb,0,none⟩=some (.int .i64 v0)∧w'.cell? ⟨gb,1,none⟩=some (.int .i64 v1)∧w'.cell? ⟨gb,2,none⟩=some (.int .i64 v2)∧w'.cell? ⟨gb,3,none⟩=some (.int .i64 v3)∧w'.cell? ⟨gb,4,none⟩=some (.int .i64 v4)∧w'.cell? ⟨gb,5,none⟩=some (.slice a5 n5 c5)∧w'.cell? ⟨gb,6,none⟩=some (.slice a6 n6 c6)∧w'.cell? ⟨gb,7,none⟩=some (.int .i64 v7)∧w'.cell? ⟨gb,8,none⟩=some (.int .i64 v8)):=hide (fun w' k9=>by have h:=k9.block gb (Array.getElem?_eq_some_iff.1 hx).1;rw[hx]at h;refine⟨?_,?_,?_,?_,?_,?_,?_,?_,?_⟩<;>simp[World.cell?,h]);have HB0:=hide hx;clear hx;have CQ:=hide ((uq TQ) w0 (uq HK));obtain⟨f0,f1,f2,f3,f4,f5,f6,f7,f8⟩:=(uq HX) _ (Keep.refl w0);go_wp2_with fail
 (refine(uq CQ).mono ?_;rintro e w1 ⟨rfl,hk9⟩;have HK1:=hide ((uq HK).trans hk9);have HM1:=hide hk9;clear hk9);clear f0 f1 f2 f3 f4 f5 f6 f7 f8;obtain⟨D0,HD0⟩:∃ D,Hid (sv (dg v0)=D):=⟨_,hide rfl⟩;obtain⟨D1,HD1⟩:∃ D,Hid (sv (dg v1)=D):=⟨_,hide rfl⟩;obtain⟨D2,HD2⟩:∃ D,Hid (sv (dg v2)=D):=⟨_,hide rfl⟩;obtain⟨D3,HD3⟩:∃ D,Hid (sv ((dg v3++(47 :: dg v4)))=D):=⟨_,hide rfl⟩;have s0:D0.size≤21:=by rw[← uq HD0,zad];exact zav (uq HGv).1
 have KD0:=hide ((uq TD) v0 (uq HGv).1);rw[uq HD0]at KD0;have s1:D1.size≤21:=by rw[← uq HD1,zad];exact zav (uq HGv).2.1
 have KD1:=hide ((uq TD) v1 (uq HGv).2.1);rw[uq HD1]at KD1;have s2:D2.size≤21:=by rw[← uq HD2,zad];exact zav (uq HGv).2.2.1
 have KD2:=hide ((uq TD) v2 (uq HGv).2.2.1);rw[uq HD2]at KD2;have s3:D3.size≤43:=by rw[← uq HD3,zad];have e1:=zav (uq HGv).2.2.2.1;have e2:=zav (uq HGv).2.2.2.2.1;simp;omega
 have KD3:=hide ((uq TF) v3 v4 (uq HGv).2.2.2.1 (uq HGv).2.2.2.2.1);rw[uq HD3]at KD3;obtain⟨nf0,nf1,nf2,nf3,nf4,nf5,nf6,nf7⟩:¬9223372036854775807<6+D0.size∧¬9223372036854775807<6+D0.size+4∧¬9223372036854775807<6+D0.size+4+D1.size∧¬9223372036854775807<6+D0.size+4+D1.size+4∧¬9223372036854775807<6+D0.size+4+D1.size+4+D2.size∧¬9223372036854775807<6+D0.size+4+D1.size+4+D2.size+7∧¬9223372036854775807<6+D0.size+4+D1.size+4+D2.size+7+D3.size∧¬9223372036854775807<6+D0.size+4+D1.size+4+D2.size+7+D3.size+2:=by refine⟨?_,?_,?_,?_,?_,?_,?_,?_⟩<;>omega
 have HSX:Hid (∀ w',Keep w1 w'→w'.cell? ⟨gb,0,none⟩=some (.int .i64 v0)∧w'.cell? ⟨gb,1,none⟩=some (.int .i64 v1)∧w'.cell? ⟨gb,2,none⟩=some (.int .i64 v2)∧w'.cell? ⟨gb,3,none⟩=some (.int .i64 v3)∧w'.cell? ⟨gb,4,none⟩=some (.int .i64 v4)):=hide (fun w' k9=>by obtain⟨f0,f1,f2,f3,f4,f5,f6,f7,f8⟩:=(uq HX) w' ((uq HM1).trans k9);exact⟨f0,f1,f2,f3,f4⟩);clear s0 s1 s2 s3
 go_upto_region 3 with fail
 refine wp_region_held_drew (S:=fun w'=>w'.cell? ⟨gb,0,none⟩=some (.int .i64 v0)∧w'.cell? ⟨gb,1,none⟩=some (.int .i64 v1)∧w'.cell? ⟨gb,2,none⟩=some (.int .i64 v2)∧w'.cell? ⟨gb,3,none⟩=some (.int .i64 v3)∧w'.cell? ⟨gb,4,none⟩=some (.int .i64 v4)) (by kernel_rfl) (by exact(uq HSX) _ (Keep.refl w1).drew) (fun hHeld=>?_);refine tkk 0 11 hHeld ?_;try simp only[Act.put,Ya,Yb,Yc]
 refine tkk 1 12 hHeld ?_;try simp only[Act.put,Ya,Yb,Yc]
 refine tkk 5 16 hHeld ?_;try simp only[Act.put,Ya,Yb,Yc]
 refine tkk 6 17 hHeld ?_;try simp only[Act.put,Ya,Yb,Yc]
 refine tkk 10 21 hHeld ?_;try simp only[Act.put,Ya,Yb,Yc]
 refine tkk 11 22 hHeld ?_;try simp only[Act.put,Ya,Yb,Yc]
 refine tkk 15 26 hHeld ?_;try simp only[Act.put,Ya,Yb,Yc]
 refine tkk 16 27 hHeld ?_;try simp only[Act.put,Ya,Yb,Yc]
 refine zaC 2 (fun K hK=>?_);go_simp;clear hHeld;(refine((uq KD0) _).mono ?_;rintro e y1 ⟨rfl,hk9⟩;have HY1:=hide (((Keep.refl w1).drew).trans hk9);clear hk9);try go_wp2_with fail
 refine hK.out _ _ ?_ (fun hHeld=>?_)
 ·exact(uq HSX) _ (uq HY1)
 clear hK K;try simp only[Act.put,Ya,Yb,Yc]
 refine tkk 3 14 hHeld ?_;try simp only[Act.put,Ya,Yb,Yc]
 refine tkk 4 15 hHeld ?_;try simp only[Act.put,Ya,Yb,Yc]
 refine zaC 7 (fun K hK=>?_);go_simp;clear hHeld;(refine((uq KD1) _).mono ?_;rintro e y2 ⟨rfl,hk9⟩;have HY2:=hide ((uq HY1).trans hk9);clear hk9);try go_wp2_with fail
 refine hK.out _ _ ?_ (fun hHeld=>?_)
 ·exact(uq HSX) _ (uq HY2)
 clear hK K;try simp only[Act.put,Ya,Yb,Yc]
 refine tkk 8 19 hHeld ?_;try simp only[Act.put,Ya,Yb,Yc]
 refine tkk 9 20 hHeld ?_;try simp only[Act.put,Ya,Yb,Yc]
 refine zaC 12 (fun K hK=>?_);go_simp;clear hHeld;(refine((uq KD2) _).mono ?_;rintro e y3 ⟨rfl,hk9⟩;have HY3:=hide ((uq HY2).trans hk9);clear hk9);try go_wp2_with fail
 refine hK.out _ _ ?_ (fun hHeld=>?_)
 ·exact(uq HSX) _ (uq HY3)
 clear hK K;try simp only[Act.put,Ya,Yb,Yc]
 refine tkk 13 24 hHeld ?_;try simp only[Act.put,Ya,Yb,Yc]
 refine tkk 14 25 hHeld ?_;try simp only[Act.put,Ya,Yb,Yc]
 refine zaC 17 (fun K hK=>?_);go_simp;clear hHeld;(refine((uq KD3) _).mono ?_;rintro e y4 ⟨rfl,hk9⟩;have HY4:=hide ((uq HY3).trans hk9);clear hk9);try go_wp2_with fail
 refine hK.out _ _ ?_ (fun hHeld=>?_)
 ·exact(uq HSX) _ (uq HY4)
 clear hK K;try simp only[Act.put,Ya,Yb,Yc]
 refine tkk 18 29 hHeld ?_;try simp only[Act.put,Ya,Yb,Yc]
 refine tkk 19 30 hHeld ?_;try simp only[Act.put,Ya,Yb,Yc]
 refine tkk 20 4 hHeld ?_;try simp only[Act.put,Ya,Yb,Yc]
 refine wpAnyH_done (by kernel_rfl) ?_ _;clear hHeld;clear nf0 nf1 nf2 nf3 nf4 nf5 nf6 nf7;have HS0:=hide (cat (cat (cat (cat (cat (cat (cat (cat (show sv [99,121,99,108,101,32]=⟨#[99,121,99,108,101,32]⟩from rfl) (uq HD0)) (show sv [32,116,111,32]=⟨#[32,116,111,32]⟩from rfl)) (uq HD1)) (show sv [32,98,121,32]=⟨#[32,98,121,32]⟩from rfl)) (uq HD2)) (show sv [59,10,112,101,97,107,32]=⟨#[59,10,112,101,97,107,32]⟩from rfl)) (uq HD3)) (show sv [59,10]=⟨#[59,10]⟩from rfl));obtain⟨B0,HB00⟩:∃ B,Hid ([99,121,99,108,101,32]++(dg v0++([32,116,111,32]++(dg v1++([32,98,121,32]++(dg v2++([59,10,112,101,97,107,32]++((dg v3++(47 :: dg v4))++([59,10]))))))))=B):=⟨_,hide rfl⟩;have HLB:Hid (B0.length≤300):=hide (by rw[← uq HB00];have e0:=zav (uq HGv).1;have e1:=zav (uq HGv).2.1;have e2:=zav (uq HGv).2.2.1;have e3:=zav (uq HGv).2.2.2.1;have e4:=zav (uq HGv).2.2.2.2.1;simp only[List.length_append,List.length_cons,List.length_nil];omega);replace HS0:=hide ((congrArg sv ((uq HB00).symm.trans (by simp only[List.append_assoc]))).trans (uq HS0));have HK4:=hide ((uq HK1).trans (uq HY4));have HB4:=hide ((((uq HM1).trans (uq HY4)).block gb (Array.getElem?_eq_some_iff.1 (uq HB0)).1).trans (uq HB0));go_wp2_with fail
 go_loopw [4,5] (fun vs vi wr=>∃(k:Nat) (o:List UInt8) (S:ByteArray),k≤n5∧vi= .int .i64 (k:Int)∧vs= .string S∧Hid (sv o=S)∧Hid (o=B0++(List.range k).flatMap NT)∧Hid (o.length≤300+1000000 * k)∧Hid (Keep w wr)∧Hid (wr.heap[gb]? =some (.cells #[.int .i64 v0,.int .i64 v1,.int .i64 v2,.int .i64 v3,.int .i64 v4,.slice a5 n5 c5,.slice a6 n6 c6,.int .i64 v7,.int .i64 v8] 27 (0,0)))) (fun vs vi _=>n5 - (intOf vi).toNat)
 case atStart=>exact⟨0,B0,_,Nat.zero_le _,rfl,rfl,HS0,hide (by simp),hide (by have:=uq HLB;omega),HK4,HB4⟩
 case round=>
  obtain⟨k,o,S,hk,rfl,rfl,HS,HO,HLn,HK,HB⟩:=hrel;have zz:wr.cell? ⟨gb,5,none⟩=some (.slice a5 n5 c5):=by simp[World.cell?,uq HB]
  by_cases hlt:k<n5
  ·have li:(k:Int)<(n5:Int):=by omega
   have hk9:k≤100:=by have:=uq HNN;omega
   obtain⟨D9,HD9⟩:∃ D,Hid (sv (NT k)=D):=⟨_,hide rfl⟩;have CT:=hide ((uq TT) k hlt wr (uq HK));rw[uq HD9]at CT;have nf0:¬9223372036854775807<S.size+D9.size:=by rw[← uq HS,← uq HD9,zad,zad];have:=uq HLn;have:=uq HNN;have:=(uq HG7) k hlt;omega
   obtain⟨ad,rfl,e0,e1,e2,e3,e4,e5,e6⟩:=(uq HC7) k hlt;have x0:=Q.kcell (uq HK) e0;have x1:=Q.kcell (uq HK) e1;have x2:=Q.kcell (uq HK) e2;have x3:=Q.kcell (uq HK) e3;have x4:=Q.kcell (uq HK) e4;have x5:=Q.kcell (uq HK) e5;have x6:=Q.kcell (uq HK) e6;clear e0 e1 e2 e3 e4 e5 e6;go_wp2_with fail
   (refine(uq CT).mono ?_;rintro e u9 ⟨rfl,hk9⟩;have HKu:=hide ((uq HK).trans hk9);have HMu:=hide hk9;clear hk9);go_wp2_with fail
   go_roundw
   case rel=>
    refine⟨k+1,o++NT k,_,hlt,by go_num,rfl,hide (cat (uq HS) (uq HD9)),hide ?_,hide ?_,HKu,hide (((uq HMu).block gb (Array.getElem?_eq_some_iff.1 (uq HB)).1).trans (uq HB))⟩
    ·rw[zba,uq HO,List.append_assoc]
    ·have:=uq HLn;have:=(uq HG7) k hlt;rw[List.length_append];omega
   case measure=>simp[intOf];omega
  ·have li:¬(k:Int)<(n5:Int):=by omega
   have ek:n5=k:=by omega
   have HO1:Hid (o=B0++(List.range n5).flatMap NT):=hide (by rw[ek];exact uq HO);have HL1:Hid (o.length≤13000000):=hide (by have:=uq HLn;have:=uq HNN;omega);clear hlt hk HO HLn ek;have z6:wr.cell? ⟨gb,6,none⟩=some (.slice a6 n6 c6):=by simp[World.cell?,uq HB]
   have z7:wr.cell? ⟨gb,7,none⟩=some (.int .i64 v7):=by simp[World.cell?,uq HB]
   have z8:wr.cell? ⟨gb,8,none⟩=some (.int .i64 v8):=by simp[World.cell?,uq HB]
   cases art
   ·have hA:=uq HAr;obtain⟨g6,g7,g8⟩:=(show n6=0∧v7=0∧v8=0 by simpa using hA);clear hA;subst g6;subst g7;subst g8;obtain⟨cp,oo,kk,hcv,hby⟩:=zec wr S;have cv:=hcv 9 29 Tryz.underlying9 Tryz.underlying29;have HBY:=hide hby;have HX6:=hide (zab (Keep.refl wr) #[oo] kk);clear hcv hby;go_wp2_with fail
    go_ret2;refine⟨_,rfl,?_,(uq HK).trans (uq HX6)⟩;have h:=uq HBY;have hS:=uq HS;have hf:=uq HFin;have ho:=uq HO1;have hb:=uq HB00;rw[← hf,hb];have e9:S.data.toList=B0++(List.range n5).flatMap NT:=by rw[← hS,zdh,ho]
    rw[e9]at h;simpa using h
   ·have hA:(0:Int)<(n6:Int)∨(n6=0∧¬v7=0)∨(n6=0∧v7=0∧¬v8=0):=by have h:0<n6∨(n6=0∧v7≠0)∨(n6=0∧v7=0∧v8≠0):=(by simpa using uq HAr);omega
    have nfa:¬9223372036854775807<S.size+9:=by rw[← uq HS,zad];have:=uq HL1;omega
    have HS1:=hide (cat (uq HS) (show sv [97,114,116,101,114,121,32,123,10]=⟨#[97,114,116,101,114,121,32,123,10]⟩from rfl));have HL2:Hid ((o++ [97,114,116,101,114,121,32,123,10]).length≤13000100):=hide (by have:=uq HL1;simp only[List.length_append,List.length_cons,List.length_nil];omega);obtain⟨o1,HOo⟩:∃ o1,Hid (o++ [97,114,116,101,114,121,32,123,10]=o1):=⟨_,hide rfl⟩;rw[uq HOo]at HS1 HL2;rcases hA with g6|⟨g6,g7⟩|⟨g6,g7,g8⟩
    ·go_wp2_with fail
     clear nfa z6 z7 z8
     go_loopw [4,6] (fun vs vi wr=>∃(k:Nat) (o:List UInt8) (S:ByteArray),k≤n6∧vi= .int .i64 (k:Int)∧vs= .string S∧Hid (sv o=S)∧Hid (o=o1++(List.range k).flatMap (fun k=> [32,32,115,116,111,112,32]++(S6_0 k++([32,111,117,116,32]++(S6_1 k++([32,105,110,32]++(S6_2 k++([32,97,104,101,97,100,32]++(dg (V6_3 k)++([32,98,97,99,107,32]++(dg (V6_4 k)++([59,10]))))))))))))∧Hid (o.length≤13000100+400 * k)∧Hid (Keep w wr)∧Hid (wr.heap[gb]? =some (.cells #[.int .i64 v0,.int .i64 v1,.int .i64 v2,.int .i64 v3,.int .i64 v4,.slice a5 n5 c5,.slice a6 n6 c6,.int .i64 v7,.int .i64 v8] 27 (0,0)))) (fun vs vi _=>n6 - (intOf vi).toNat)
     case atStart=>exact⟨0,o1,_,Nat.zero_le _,rfl,rfl,HS1,hide (by simp),hide (by have:=uq HL2;omega),HK,HB⟩
     case round=>
      obtain⟨k,o,S,hk,rfl,rfl,HS,HO,HLn,HK,HB⟩:=hrel;have zz:wr.cell? ⟨gb,6,none⟩=some (.slice a6 n6 c6):=by simp[World.cell?,uq HB]
      by_cases hlt:k<n6
      ·have li:(k:Int)<(n6:Int):=by omega
       have hk9:k≤100:=by have:=uq HNN;omega
       have hS:S.size≤20000000:=by rw[← uq HS,zad];have:=uq HLn;have:=uq HNN;omega
       have HGk:=hide ((uq HG6) k hlt);obtain⟨D0,HD0⟩:∃ D,Hid (sv (S6_0 k)=D):=⟨_,hide rfl⟩;obtain⟨D1,HD1⟩:∃ D,Hid (sv (S6_1 k)=D):=⟨_,hide rfl⟩;obtain⟨D2,HD2⟩:∃ D,Hid (sv (S6_2 k)=D):=⟨_,hide rfl⟩;obtain⟨D3,HD3⟩:∃ D,Hid (sv (dg (V6_3 k))=D):=⟨_,hide rfl⟩;obtain⟨D4,HD4⟩:∃ D,Hid (sv (dg (V6_4 k))=D):=⟨_,hide rfl⟩;have s0:D0.size≤24:=by rw[← uq HD0,zad];have:=uq HGk;omega
       have s1:D1.size≤24:=by rw[← uq HD1,zad];have:=uq HGk;omega
       have s2:D2.size≤24:=by rw[← uq HD2,zad];have:=uq HGk;omega
       have s3:D3.size≤21:=by rw[← uq HD3,zad];exact zav (by have:=uq HGk;simp only[this])
       have s4:D4.size≤21:=by rw[← uq HD4,zad];exact zav (by have:=uq HGk;simp only[this])
       have HLine:Hid (([32,32,115,116,111,112,32]++(S6_0 k++([32,111,117,116,32]++(S6_1 k++([32,105,110,32]++(S6_2 k++([32,97,104,101,97,100,32]++(dg (V6_3 k)++([32,98,97,99,107,32]++(dg (V6_4 k)++([59,10]))))))))))).length≤145):=hide (Nat.le_trans (zao (show([32,32,115,116,111,112,32]:List UInt8).length≤7 from Nat.le_refl _) (zao (show(S6_0 k).length≤24 from(by rw[← zad,uq HD0];exact s0)) (zao (show([32,111,117,116,32]:List UInt8).length≤5 from Nat.le_refl _) (zao (show(S6_1 k).length≤24 from(by rw[← zad,uq HD1];exact s1)) (zao (show([32,105,110,32]:List UInt8).length≤4 from Nat.le_refl _) (zao (show(S6_2 k).length≤24 from(by rw[← zad,uq HD2];exact s2)) (zao (show([32,97,104,101,97,100,32]:List UInt8).length≤7 from Nat.le_refl _) (zao (show(dg (V6_3 k)).length≤21 from(by rw[← zad,uq HD3];exact s3)) (zao (show([32,98,97,99,107,32]:List UInt8).length≤6 from Nat.le_refl _) (zao (show(dg (V6_4 k)).length≤21 from(by rw[← zad,uq HD4];exact s4)) (show([59,10]:List UInt8).length≤2 from Nat.le_refl _))))))))))) (by decide));obtain⟨nf0,nf1,nf2,nf3,nf4,nf5,nf6,nf7,nf8,nf9,nf10⟩:¬9223372036854775807<S.size+7∧¬9223372036854775807<S.size+7+D0.size∧¬9223372036854775807<S.size+7+D0.size+5∧¬9223372036854775807<S.size+7+D0.size+5+D1.size∧¬9223372036854775807<S.size+7+D0.size+5+D1.size+4∧¬9223372036854775807<S.size+7+D0.size+5+D1.size+4+D2.size∧¬9223372036854775807<S.size+7+D0.size+5+D1.size+4+D2.size+7∧¬9223372036854775807<S.size+7+D0.size+5+D1.size+4+D2.size+7+D3.size∧¬9223372036854775807<S.size+7+D0.size+5+D1.size+4+D2.size+7+D3.size+6∧¬9223372036854775807<S.size+7+D0.size+5+D1.size+4+D2.size+7+D3.size+6+D4.size∧¬9223372036854775807<S.size+7+D0.size+5+D1.size+4+D2.size+7+D3.size+6+D4.size+2:=by refine⟨?_,?_,?_,?_,?_,?_,?_,?_,?_,?_,?_⟩<;>omega
       obtain⟨ad,rfl,e0,e1,e2,e3,e4,e5⟩:=(uq HC6) k hlt;have x0:=Q.kcell (uq HK) e0;have x1:=Q.kcell (uq HK) e1;have x2:=Q.kcell (uq HK) e2;have x3:=Q.kcell (uq HK) e3;have x4:=Q.kcell (uq HK) e4;have x5:=Q.kcell (uq HK) e5;clear e0 e1 e2 e3 e4 e5;rw[uq HD0]at x0;rw[uq HD1]at x1;rw[uq HD2]at x2;have KD3:=hide ((uq TD) (V6_3 k) (by have:=uq HGk;simp only[this]));rw[uq HD3]at KD3;have KD4:=hide ((uq TD) (V6_4 k) (by have:=uq HGk;simp only[this]));rw[uq HD4]at KD4;clear hS s0 s1 s2 s3 s4;have HKa:=hide ((uq HK).alloc (.cells #[.string D0,.string D1,.string D2,.int .i64 (V6_3 k),.int .i64 (V6_4 k),.int .i64 (V6_5 k)] 49));have hxa:=heap_alloc_new wr (.cells #[.string D0,.string D1,.string D2,.int .i64 (V6_3 k),.int .i64 (V6_4 k),.int .i64 (V6_5 k)] 49);have HMa:=hide ((Keep.refl wr).alloc (.cells #[.string D0,.string D1,.string D2,.int .i64 (V6_3 k),.int .i64 (V6_4 k),.int .i64 (V6_5 k)] 49))
       go_upto_region 14 with fail
       generalize hwa:wr.alloc (.cells #[.string D0,.string D1,.string D2,.int .i64 (V6_3 k),.int .i64 (V6_4 k),.int .i64 (V6_5 k)] 49)=wa at HKa hxa HMa ⊢;clear hwa;obtain⟨qb,HQB⟩:∃ qb,Hid (wr.heap.size=qb):=⟨_,hide rfl⟩;rw[uq HQB]at hxa ⊢;have HSX:Hid (∀ w',Keep wa w'→w'.cell? ⟨qb,0,none⟩=some (.string D0)∧w'.cell? ⟨qb,1,none⟩=some (.string D1)∧w'.cell? ⟨qb,2,none⟩=some (.string D2)∧w'.cell? ⟨qb,3,none⟩=some (.int .i64 (V6_3 k))∧w'.cell? ⟨qb,4,none⟩=some (.int .i64 (V6_4 k))∧w'.cell? ⟨qb,5,none⟩=some (.int .i64 (V6_5 k))):=hide (fun w' k9=>by have h:=k9.block qb (Array.getElem?_eq_some_iff.1 hxa).1;rw[hxa]at h;refine⟨?_,?_,?_,?_,?_,?_⟩<;>simp[World.cell?,h]);clear hxa zz x0 x1 x2 x3 x4 x5;refine wp_region_held_drew (S:=fun w'=>w'.cell? ⟨qb,0,none⟩=some (.string D0)∧w'.cell? ⟨qb,1,none⟩=some (.string D1)∧w'.cell? ⟨qb,2,none⟩=some (.string D2)∧w'.cell? ⟨qb,3,none⟩=some (.int .i64 (V6_3 k))∧w'.cell? ⟨qb,4,none⟩=some (.int .i64 (V6_4 k))∧w'.cell? ⟨qb,5,none⟩=some (.int .i64 (V6_5 k))) (by kernel_rfl) (by exact(uq HSX) _ (Keep.refl wa).drew) (fun hHeld=>?_);refine tkk 0 74 hHeld ?_;try simp only[Act.put,Ya,Yb,Yc]
       refine tkk 1 75 hHeld ?_;try simp only[Act.put,Ya,Yb,Yc]
       refine tkk 2 76 hHeld ?_;try simp only[Act.put,Ya,Yb,Yc]
       refine tkk 3 77 hHeld ?_;try simp only[Act.put,Ya,Yb,Yc]
       refine tkk 4 78 hHeld ?_;try simp only[Act.put,Ya,Yb,Yc]
       refine tkk 5 79 hHeld ?_;try simp only[Act.put,Ya,Yb,Yc]
       refine tkk 6 80 hHeld ?_;try simp only[Act.put,Ya,Yb,Yc]
       refine tkk 7 81 hHeld ?_;try simp only[Act.put,Ya,Yb,Yc]
       refine tkk 8 82 hHeld ?_;try simp only[Act.put,Ya,Yb,Yc]
       refine tkk 9 83 hHeld ?_;try simp only[Act.put,Ya,Yb,Yc]
       refine tkk 10 84 hHeld ?_;try simp only[Act.put,Ya,Yb,Yc]
       refine tkk 11 85 hHeld ?_;try simp only[Act.put,Ya,Yb,Yc]
       refine tkk 12 86 hHeld ?_;try simp only[Act.put,Ya,Yb,Yc]
       refine tkk 13 87 hHeld ?_;try simp only[Act.put,Ya,Yb,Yc]
       refine tkk 14 88 hHeld ?_;try simp only[Act.put,Ya,Yb,Yc]
       refine tkk 15 89 hHeld ?_;try simp only[Act.put,Ya,Yb,Yc]
       refine tkk 19 93 hHeld ?_;try simp only[Act.put,Ya,Yb,Yc]
       refine tkk 20 94 hHeld ?_;try simp only[Act.put,Ya,Yb,Yc]
       refine zaC 16 (fun K hK=>?_);go_simp;clear hHeld;(refine((uq KD3) _).mono ?_;rintro e y1 ⟨rfl,hk9⟩;have HY1:=hide (((Keep.refl wa).drew).trans hk9);clear hk9);try go_wp2_with fail
       refine hK.out _ _ ?_ (fun hHeld=>?_)
       ·exact(uq HSX) _ (uq HY1)
       clear hK K;try simp only[Act.put,Ya,Yb,Yc]
       refine tkk 17 91 hHeld ?_;try simp only[Act.put,Ya,Yb,Yc]
       refine tkk 18 92 hHeld ?_;try simp only[Act.put,Ya,Yb,Yc]
       refine zaC 21 (fun K hK=>?_);go_simp;clear hHeld;(refine((uq KD4) _).mono ?_;rintro e y2 ⟨rfl,hk9⟩;have HY2:=hide ((uq HY1).trans hk9);clear hk9);try go_wp2_with fail
       refine hK.out _ _ ?_ (fun hHeld=>?_)
       ·exact(uq HSX) _ (uq HY2)
       clear hK K;try simp only[Act.put,Ya,Yb,Yc]
       refine tkk 22 96 hHeld ?_;try simp only[Act.put,Ya,Yb,Yc]
       refine tkk 23 97 hHeld ?_;try simp only[Act.put,Ya,Yb,Yc]
       refine tkk 24 4 hHeld ?_;try simp only[Act.put,Ya,Yb,Yc]
       refine wpAnyH_done (by kernel_rfl) ?_ _;clear hHeld;clear nf0 nf1 nf2 nf3 nf4 nf5 nf6 nf7 nf8 nf9 nf10;have HE2:Hid ((((((((((((o++ [32,32,115,116,111,112,32])++(S6_0 k))++ [32,111,117,116,32])++(S6_1 k))++ [32,105,110,32])++(S6_2 k))++ [32,97,104,101,97,100,32])++(dg (V6_3 k)))++ [32,98,97,99,107,32])++(dg (V6_4 k)))++ [59,10])=o++([32,32,115,116,111,112,32]++(S6_0 k++([32,111,117,116,32]++(S6_1 k++([32,105,110,32]++(S6_2 k++([32,97,104,101,97,100,32]++(dg (V6_3 k)++([32,98,97,99,107,32]++(dg (V6_4 k)++([59,10])))))))))))):=hide (by simp only[List.append_assoc]);go_wp2_with fail
       go_roundw
       case rel=>
        refine⟨k+1,(((((((((((o++ [32,32,115,116,111,112,32])++(S6_0 k))++ [32,111,117,116,32])++(S6_1 k))++ [32,105,110,32])++(S6_2 k))++ [32,97,104,101,97,100,32])++(dg (V6_3 k)))++ [32,98,97,99,107,32])++(dg (V6_4 k)))++ [59,10]),_,hlt,by go_num,rfl,hide (cat (cat (cat (cat (cat (cat (cat (cat (cat (cat (cat (uq HS) (show sv [32,32,115,116,111,112,32]=⟨#[32,32,115,116,111,112,32]⟩from rfl)) (uq HD0)) (show sv [32,111,117,116,32]=⟨#[32,111,117,116,32]⟩from rfl)) (uq HD1)) (show sv [32,105,110,32]=⟨#[32,105,110,32]⟩from rfl)) (uq HD2)) (show sv [32,97,104,101,97,100,32]=⟨#[32,97,104,101,97,100,32]⟩from rfl)) (uq HD3)) (show sv [32,98,97,99,107,32]=⟨#[32,98,97,99,107,32]⟩from rfl)) (uq HD4)) (show sv [59,10]=⟨#[59,10]⟩from rfl)),hide ?_,hide ?_,hide ((uq HKa).trans (uq HY2)),hide ((((uq HMa).trans (uq HY2)).block gb (Array.getElem?_eq_some_iff.1 (uq HB)).1).trans (uq HB))⟩
        ·rw[zba];exact(uq HE2).trans ((congrArg (fun z=>z++([32,32,115,116,111,112,32]++(S6_0 k++([32,111,117,116,32]++(S6_1 k++([32,105,110,32]++(S6_2 k++([32,97,104,101,97,100,32]++(dg (V6_3 k)++([32,98,97,99,107,32]++(dg (V6_4 k)++([59,10])))))))))))) (uq HO)).trans (List.append_assoc _ _ _))
        ·rw[uq HE2,List.length_append];have h1:=uq HLn;have h2:=uq HLine;omega
       case measure=>simp[intOf];omega
      ·have li:¬(k:Int)<(n6:Int):=by omega
       have ek:n6=k:=by omega
       have HO6:Hid (o=o1++(List.range n6).flatMap (fun k=> [32,32,115,116,111,112,32]++(S6_0 k++([32,111,117,116,32]++(S6_1 k++([32,105,110,32]++(S6_2 k++([32,97,104,101,97,100,32]++(dg (V6_3 k)++([32,98,97,99,107,32]++(dg (V6_4 k)++([59,10])))))))))))):=hide (by rw[ek];exact uq HO);have hS:S.size≤20000000:=by rw[← uq HS,zad];have:=uq HLn;have:=uq HNN;omega
       clear hlt hk HO HLn ek;obtain⟨D7,HD7⟩:∃ D,Hid (sv (dg v7)=D):=⟨_,hide rfl⟩;have s7:D7.size≤21:=by rw[← uq HD7,zad];exact zav (uq HGv).2.2.2.2.2.1
       have KD7:=hide ((uq TD) v7 (uq HGv).2.2.2.2.2.1);rw[uq HD7]at KD7;obtain⟨D8,HD8⟩:∃ D,Hid (sv (dg v8)=D):=⟨_,hide rfl⟩;have s8:D8.size≤21:=by rw[← uq HD8,zad];exact zav (uq HGv).2.2.2.2.2.2
       have KD8:=hide ((uq TD) v8 (uq HGv).2.2.2.2.2.2);rw[uq HD8]at KD8;obtain⟨nf0,nf1,nf2,nf3,nf4⟩:¬9223372036854775807<S.size+10∧¬9223372036854775807<S.size+10+D7.size∧¬9223372036854775807<S.size+10+D7.size+1∧¬9223372036854775807<S.size+10+D7.size+1+D8.size∧¬9223372036854775807<S.size+10+D7.size+1+D8.size+4:=by refine⟨?_,?_,?_,?_,?_⟩<;>omega
       have HSX:Hid (∀ w',Keep wr w'→w'.cell? ⟨gb,7,none⟩=some (.int .i64 v7)∧w'.cell? ⟨gb,8,none⟩=some (.int .i64 v8)):=hide (fun w' k9=>by have h:=(k9.block gb (Array.getElem?_eq_some_iff.1 (uq HB)).1).trans (uq HB);refine⟨?_,?_⟩<;>simp[World.cell?,h]);clear hS s7 s8
       go_upto_region 15 with fail
       clear zz;refine wp_region_held_drew (S:=fun w'=>w'.cell? ⟨gb,7,none⟩=some (.int .i64 v7)∧w'.cell? ⟨gb,8,none⟩=some (.int .i64 v8)) (by kernel_rfl) (by exact(uq HSX) _ (Keep.refl wr).drew) (fun hHeld=>?_);refine tkk 0 98 hHeld ?_;try simp only[Act.put,Ya,Yb,Yc]
       refine tkk 1 99 hHeld ?_;try simp only[Act.put,Ya,Yb,Yc]
       refine tkk 2 100 hHeld ?_;try simp only[Act.put,Ya,Yb,Yc]
       refine tkk 3 101 hHeld ?_;try simp only[Act.put,Ya,Yb,Yc]
       refine tkk 7 105 hHeld ?_;try simp only[Act.put,Ya,Yb,Yc]
       refine tkk 8 106 hHeld ?_;try simp only[Act.put,Ya,Yb,Yc]
       refine zaC 4 (fun K hK=>?_);go_simp;clear hHeld;(refine((uq KD7) _).mono ?_;rintro e y1 ⟨rfl,hk9⟩;have HY1:=hide (((Keep.refl wr).drew).trans hk9);clear hk9);try go_wp2_with fail
       refine hK.out _ _ ?_ (fun hHeld=>?_)
       ·exact(uq HSX) _ (uq HY1)
       clear hK K;try simp only[Act.put,Ya,Yb,Yc]
       refine tkk 5 103 hHeld ?_;try simp only[Act.put,Ya,Yb,Yc]
       refine tkk 6 104 hHeld ?_;try simp only[Act.put,Ya,Yb,Yc]
       refine zaC 9 (fun K hK=>?_);go_simp;clear hHeld;(refine((uq KD8) _).mono ?_;rintro e y2 ⟨rfl,hk9⟩;have HY2:=hide ((uq HY1).trans hk9);clear hk9);try go_wp2_with fail
       refine hK.out _ _ ?_ (fun hHeld=>?_)
       ·exact(uq HSX) _ (uq HY2)
       clear hK K;try simp only[Act.put,Ya,Yb,Yc]
       refine tkk 10 108 hHeld ?_;try simp only[Act.put,Ya,Yb,Yc]
       refine tkk 11 109 hHeld ?_;try simp only[Act.put,Ya,Yb,Yc]
       refine tkk 12 4 hHeld ?_;try simp only[Act.put,Ya,Yb,Yc]
       refine wpAnyH_done (by kernel_rfl) ?_ _;clear hHeld;clear nf0 nf1 nf2 nf3 nf4;have HSe:=hide (cat (cat (cat (cat (cat (uq HS) (show sv [32,32,119,101,105,103,104,116,115,32]=⟨#[32,32,119,101,105,103,104,116,115,32]⟩from rfl)) (uq HD7)) (show sv [32]=⟨#[32]⟩from rfl)) (uq HD8)) (show sv [59,10,125,10]=⟨#[59,10,125,10]⟩from rfl));generalize hSS:S++(⟨#[32,32,119,101,105,103,104,116,115,32]⟩:ByteArray)++D7++⟨#[32]⟩++D8++⟨#[59,10,125,10]⟩=SS at HSe ⊢;clear hSS;obtain⟨cp,oo,kk,hcv,hby⟩:=zec y2 SS;have cv:=hcv 9 29 Tryz.underlying9 Tryz.underlying29;have HBY:=hide hby;have HX6:=hide (zab (Keep.refl y2) #[oo] kk);clear hcv hby;go_wp2_with fail
       go_ret2;refine⟨_,rfl,?_,((uq HK).trans (uq HY2)).trans (uq HX6)⟩;have h:=uq HBY;have hS:=uq HSe;have hf:=uq HFin;have h1:=uq HO1;have h2:=uq HOo;have h3:=uq HO6;have hb:=uq HB00;rw[← hf,hb];have e9:_=SS.data.toList:=(zdh _).symm.trans (congrArg (fun s:ByteArray=>s.data.toList) hS);rw[← e9,h3,← h2,h1]at h;simpa using h
    ·subst g6;go_wp2_with fail
     clear nfa z6 z7 z8
     go_loopw [4,6] (fun vs vi wr=>∃(k:Nat) (o:List UInt8) (S:ByteArray),k≤0∧vi= .int .i64 (k:Int)∧vs= .string S∧Hid (sv o=S)∧Hid (o=o1++(List.range k).flatMap (fun k=> [32,32,115,116,111,112,32]++(S6_0 k++([32,111,117,116,32]++(S6_1 k++([32,105,110,32]++(S6_2 k++([32,97,104,101,97,100,32]++(dg (V6_3 k)++([32,98,97,99,107,32]++(dg (V6_4 k)++([59,10]))))))))))))∧Hid (o.length≤13000100+400 * k)∧Hid (Keep w wr)∧Hid (wr.heap[gb]? =some (.cells #[.int .i64 v0,.int .i64 v1,.int .i64 v2,.int .i64 v3,.int .i64 v4,.slice a5 n5 c5,.slice a6 0 c6,.int .i64 v7,.int .i64 v8] 27 (0,0)))) (fun vs vi _=>0 - (intOf vi).toNat)
     case atStart=>exact⟨0,o1,_,Nat.zero_le _,rfl,rfl,HS1,hide (by simp),hide (by have:=uq HL2;omega),HK,HB⟩
     case round=>
      obtain⟨k,o,S,hk,rfl,rfl,HS,HO,HLn,HK,HB⟩:=hrel;have zz:wr.cell? ⟨gb,6,none⟩=some (.slice a6 0 c6):=by simp[World.cell?,uq HB]
      have ek:k=0:=by omega
      subst ek;have HO6:Hid (o=o1++(List.range 0).flatMap (fun k=> [32,32,115,116,111,112,32]++(S6_0 k++([32,111,117,116,32]++(S6_1 k++([32,105,110,32]++(S6_2 k++([32,97,104,101,97,100,32]++(dg (V6_3 k)++([32,98,97,99,107,32]++(dg (V6_4 k)++([59,10])))))))))))):=hide (uq HO);have hS:S.size≤20000000:=by rw[← uq HS,zad];have:=uq HLn;omega
      clear hk HO HLn;obtain⟨D7,HD7⟩:∃ D,Hid (sv (dg v7)=D):=⟨_,hide rfl⟩;have s7:D7.size≤21:=by rw[← uq HD7,zad];exact zav (uq HGv).2.2.2.2.2.1
      have KD7:=hide ((uq TD) v7 (uq HGv).2.2.2.2.2.1);rw[uq HD7]at KD7;obtain⟨D8,HD8⟩:∃ D,Hid (sv (dg v8)=D):=⟨_,hide rfl⟩;have s8:D8.size≤21:=by rw[← uq HD8,zad];exact zav (uq HGv).2.2.2.2.2.2
      have KD8:=hide ((uq TD) v8 (uq HGv).2.2.2.2.2.2);rw[uq HD8]at KD8;obtain⟨nf0,nf1,nf2,nf3,nf4⟩:¬9223372036854775807<S.size+10∧¬9223372036854775807<S.size+10+D7.size∧¬9223372036854775807<S.size+10+D7.size+1∧¬9223372036854775807<S.size+10+D7.size+1+D8.size∧¬9223372036854775807<S.size+10+D7.size+1+D8.size+4:=by refine⟨?_,?_,?_,?_,?_⟩<;>omega
      have HSX:Hid (∀ w',Keep wr w'→w'.cell? ⟨gb,7,none⟩=some (.int .i64 v7)∧w'.cell? ⟨gb,8,none⟩=some (.int .i64 v8)):=hide (fun w' k9=>by have h:=(k9.block gb (Array.getElem?_eq_some_iff.1 (uq HB)).1).trans (uq HB);refine⟨?_,?_⟩<;>simp[World.cell?,h]);clear hS s7 s8
      go_upto_region 15 with fail
      clear zz;refine wp_region_held_drew (S:=fun w'=>w'.cell? ⟨gb,7,none⟩=some (.int .i64 v7)∧w'.cell? ⟨gb,8,none⟩=some (.int .i64 v8)) (by kernel_rfl) (by exact(uq HSX) _ (Keep.refl wr).drew) (fun hHeld=>?_);refine tkk 0 98 hHeld ?_;try simp only[Act.put,Ya,Yb,Yc]
      refine tkk 1 99 hHeld ?_;try simp only[Act.put,Ya,Yb,Yc]
      refine tkk 2 100 hHeld ?_;try simp only[Act.put,Ya,Yb,Yc]
      refine tkk 3 101 hHeld ?_;try simp only[Act.put,Ya,Yb,Yc]
      refine tkk 7 105 hHeld ?_;try simp only[Act.put,Ya,Yb,Yc]
      refine tkk 8 106 hHeld ?_;try simp only[Act.put,Ya,Yb,Yc]
      refine zaC 4 (fun K hK=>?_);go_simp;clear hHeld;(refine((uq KD7) _).mono ?_;rintro e y1 ⟨rfl,hk9⟩;have HY1:=hide (((Keep.refl wr).drew).trans hk9);clear hk9);try go_wp2_with fail
      refine hK.out _ _ ?_ (fun hHeld=>?_)
      ·exact(uq HSX) _ (uq HY1)
      clear hK K;try simp only[Act.put,Ya,Yb,Yc]
      refine tkk 5 103 hHeld ?_;try simp only[Act.put,Ya,Yb,Yc]
      refine tkk 6 104 hHeld ?_;try simp only[Act.put,Ya,Yb,Yc]
      refine zaC 9 (fun K hK=>?_);go_simp;clear hHeld;(refine((uq KD8) _).mono ?_;rintro e y2 ⟨rfl,hk9⟩;have HY2:=hide ((uq HY1).trans hk9);clear hk9);try go_wp2_with fail
      refine hK.out _ _ ?_ (fun hHeld=>?_)
      ·exact(uq HSX) _ (uq HY2)
      clear hK K;try simp only[Act.put,Ya,Yb,Yc]
      refine tkk 10 108 hHeld ?_;try simp only[Act.put,Ya,Yb,Yc]
      refine tkk 11 109 hHeld ?_;try simp only[Act.put,Ya,Yb,Yc]
      refine tkk 12 4 hHeld ?_;try simp only[Act.put,Ya,Yb,Yc]
      refine wpAnyH_done (by kernel_rfl) ?_ _;clear hHeld;clear nf0 nf1 nf2 nf3 nf4;have HSe:=hide (cat (cat (cat (cat (cat (uq HS) (show sv [32,32,119,101,105,103,104,116,115,32]=⟨#[32,32,119,101,105,103,104,116,115,32]⟩from rfl)) (uq HD7)) (show sv [32]=⟨#[32]⟩from rfl)) (uq HD8)) (show sv [59,10,125,10]=⟨#[59,10,125,10]⟩from rfl));generalize hSS:S++(⟨#[32,32,119,101,105,103,104,116,115,32]⟩:ByteArray)++D7++⟨#[32]⟩++D8++⟨#[59,10,125,10]⟩=SS at HSe ⊢;clear hSS;obtain⟨cp,oo,kk,hcv,hby⟩:=zec y2 SS;have cv:=hcv 9 29 Tryz.underlying9 Tryz.underlying29;have HBY:=hide hby;have HX6:=hide (zab (Keep.refl y2) #[oo] kk);clear hcv hby;go_wp2_with fail
      go_ret2;refine⟨_,rfl,?_,((uq HK).trans (uq HY2)).trans (uq HX6)⟩;have h:=uq HBY;have hS:=uq HSe;have hf:=uq HFin;have h1:=uq HO1;have h2:=uq HOo;have h3:=uq HO6;have hb:=uq HB00;rw[← hf,hb];have e9:_=SS.data.toList:=(zdh _).symm.trans (congrArg (fun s:ByteArray=>s.data.toList) hS);rw[← e9,h3,← h2,h1]at h;simpa using h
    ·subst g6;subst g7;go_wp2_with fail
     clear nfa z6 z7 z8
     go_loopw [4,6] (fun vs vi wr=>∃(k:Nat) (o:List UInt8) (S:ByteArray),k≤0∧vi= .int .i64 (k:Int)∧vs= .string S∧Hid (sv o=S)∧Hid (o=o1++(List.range k).flatMap (fun k=> [32,32,115,116,111,112,32]++(S6_0 k++([32,111,117,116,32]++(S6_1 k++([32,105,110,32]++(S6_2 k++([32,97,104,101,97,100,32]++(dg (V6_3 k)++([32,98,97,99,107,32]++(dg (V6_4 k)++([59,10]))))))))))))∧Hid (o.length≤13000100+400 * k)∧Hid (Keep w wr)∧Hid (wr.heap[gb]? =some (.cells #[.int .i64 v0,.int .i64 v1,.int .i64 v2,.int .i64 v3,.int .i64 v4,.slice a5 n5 c5,.slice a6 0 c6,.int .i64 0,.int .i64 v8] 27 (0,0)))) (fun vs vi _=>0 - (intOf vi).toNat)
     case atStart=>exact⟨0,o1,_,Nat.zero_le _,rfl,rfl,HS1,hide (by simp),hide (by have:=uq HL2;omega),HK,HB⟩
     case round=>
      obtain⟨k,o,S,hk,rfl,rfl,HS,HO,HLn,HK,HB⟩:=hrel;have zz:wr.cell? ⟨gb,6,none⟩=some (.slice a6 0 c6):=by simp[World.cell?,uq HB]
      have ek:k=0:=by omega
      subst ek;have HO6:Hid (o=o1++(List.range 0).flatMap (fun k=> [32,32,115,116,111,112,32]++(S6_0 k++([32,111,117,116,32]++(S6_1 k++([32,105,110,32]++(S6_2 k++([32,97,104,101,97,100,32]++(dg (V6_3 k)++([32,98,97,99,107,32]++(dg (V6_4 k)++([59,10])))))))))))):=hide (uq HO);have hS:S.size≤20000000:=by rw[← uq HS,zad];have:=uq HLn;omega
      clear hk HO HLn;obtain⟨D7,HD7⟩:∃ D,Hid (sv (dg 0)=D):=⟨_,hide rfl⟩;have s7:D7.size≤21:=by rw[← uq HD7,zad];exact zav (uq HGv).2.2.2.2.2.1
      have KD7:=hide ((uq TD) 0 (uq HGv).2.2.2.2.2.1);rw[uq HD7]at KD7;obtain⟨D8,HD8⟩:∃ D,Hid (sv (dg v8)=D):=⟨_,hide rfl⟩;have s8:D8.size≤21:=by rw[← uq HD8,zad];exact zav (uq HGv).2.2.2.2.2.2
      have KD8:=hide ((uq TD) v8 (uq HGv).2.2.2.2.2.2);rw[uq HD8]at KD8;obtain⟨nf0,nf1,nf2,nf3,nf4⟩:¬9223372036854775807<S.size+10∧¬9223372036854775807<S.size+10+D7.size∧¬9223372036854775807<S.size+10+D7.size+1∧¬9223372036854775807<S.size+10+D7.size+1+D8.size∧¬9223372036854775807<S.size+10+D7.size+1+D8.size+4:=by refine⟨?_,?_,?_,?_,?_⟩<;>omega
      have HSX:Hid (∀ w',Keep wr w'→w'.cell? ⟨gb,7,none⟩=some (.int .i64 0)∧w'.cell? ⟨gb,8,none⟩=some (.int .i64 v8)):=hide (fun w' k9=>by have h:=(k9.block gb (Array.getElem?_eq_some_iff.1 (uq HB)).1).trans (uq HB);refine⟨?_,?_⟩<;>simp[World.cell?,h]);clear hS s7 s8
      go_upto_region 15 with fail
      clear zz;refine wp_region_held_drew (S:=fun w'=>w'.cell? ⟨gb,7,none⟩=some (.int .i64 0)∧w'.cell? ⟨gb,8,none⟩=some (.int .i64 v8)) (by kernel_rfl) (by exact(uq HSX) _ (Keep.refl wr).drew) (fun hHeld=>?_);refine tkk 0 98 hHeld ?_;try simp only[Act.put,Ya,Yb,Yc]
      refine tkk 1 99 hHeld ?_;try simp only[Act.put,Ya,Yb,Yc]
      refine tkk 2 100 hHeld ?_;try simp only[Act.put,Ya,Yb,Yc]
      refine tkk 3 101 hHeld ?_;try simp only[Act.put,Ya,Yb,Yc]
      refine tkk 7 105 hHeld ?_;try simp only[Act.put,Ya,Yb,Yc]
      refine tkk 8 106 hHeld ?_;try simp only[Act.put,Ya,Yb,Yc]
      refine zaC 4 (fun K hK=>?_);go_simp;clear hHeld;(refine((uq KD7) _).mono ?_;rintro e y1 ⟨rfl,hk9⟩;have HY1:=hide (((Keep.refl wr).drew).trans hk9);clear hk9);try go_wp2_with fail
      refine hK.out _ _ ?_ (fun hHeld=>?_)
      ·exact(uq HSX) _ (uq HY1)
      clear hK K;try simp only[Act.put,Ya,Yb,Yc]
      refine tkk 5 103 hHeld ?_;try simp only[Act.put,Ya,Yb,Yc]
      refine tkk 6 104 hHeld ?_;try simp only[Act.put,Ya,Yb,Yc]
      refine zaC 9 (fun K hK=>?_);go_simp;clear hHeld;(refine((uq KD8) _).mono ?_;rintro e y2 ⟨rfl,hk9⟩;have HY2:=hide ((uq HY1).trans hk9);clear hk9);try go_wp2_with fail
      refine hK.out _ _ ?_ (fun hHeld=>?_)
      ·exact(uq HSX) _ (uq HY2)
      clear hK K;try simp only[Act.put,Ya,Yb,Yc]
      refine tkk 10 108 hHeld ?_;try simp only[Act.put,Ya,Yb,Yc]
      refine tkk 11 109 hHeld ?_;try simp only[Act.put,Ya,Yb,Yc]
      refine tkk 12 4 hHeld ?_;try simp only[Act.put,Ya,Yb,Yc]
      refine wpAnyH_done (by kernel_rfl) ?_ _;clear hHeld;clear nf0 nf1 nf2 nf3 nf4;have HSe:=hide (cat (cat (cat (cat (cat (uq HS) (show sv [32,32,119,101,105,103,104,116,115,32]=⟨#[32,32,119,101,105,103,104,116,115,32]⟩from rfl)) (uq HD7)) (show sv [32]=⟨#[32]⟩from rfl)) (uq HD8)) (show sv [59,10,125,10]=⟨#[59,10,125,10]⟩from rfl));generalize hSS:S++(⟨#[32,32,119,101,105,103,104,116,115,32]⟩:ByteArray)++D7++⟨#[32]⟩++D8++⟨#[59,10,125,10]⟩=SS at HSe ⊢;clear hSS;obtain⟨cp,oo,kk,hcv,hby⟩:=zec y2 SS;have cv:=hcv 9 29 Tryz.underlying9 Tryz.underlying29;have HBY:=hide hby;have HX6:=hide (zab (Keep.refl y2) #[oo] kk);clear hcv hby;go_wp2_with fail
      go_ret2;refine⟨_,rfl,?_,((uq HK).trans (uq HY2)).trans (uq HX6)⟩;have h:=uq HBY;have hS:=uq HSe;have hf:=uq HFin;have h1:=uq HO1;have h2:=uq HOo;have h3:=uq HO6;have hb:=uq HB00;rw[← hf,hb];have e9:_=SS.data.toList:=(zdh _).symm.trans (congrArg (fun s:ByteArray=>s.data.toList) hS);rw[← e9,h3,← h2,h1]at h;simpa using h
end S
end Go.Proofs.YtfepanidippjlaaGreatDoor
