/- The law's node and Few answer some truth value: over trees. -/
import Derived.Test.YtfepanidippjlaaGreatDoorSFwN
import Derived.Test.YtfepanidippjlaaGreatDoorLKind
import Derived.Test.YtfepanidippjlaaGreatDoorSSho
import Derived.Deep.DrawnRows
import Derived.Deep.RegionHeld
import Derived.Test.YtfepanidippjlaaGreatDoorSHead
import Derived.Lib.ItoaNum
import Derived.Laws.IdiomStrings
import Derived.Test.YtfepanidippjlaaGreatDoorSWrd
import Derived.Test.YtfepanidippjlaaGreatDoorSFew
import Derived.Test.YtfepanidippjlaaGreatDoorLStr
import Derived.Lib.ItoaLen
namespace Go.Proofs.YtfepanidippjlaaGreatDoor
open Go.RowKit
attribute [local go_sem ↓] Go.wp_at_zero Go.wp_at_succ
set_option linter.unusedVariables false
set_option linter.unusedSimpArgs false
set_option maxRecDepth 10000
namespace S
theorem ziy {w:World} {a:Option Addr} {L:List (List D)} {cap:Nat} (hL:∀ ds∈L,ShL zbK ds) (HA:Rvss w a 1 L 0) (hc:L.length≤cap):Rw w (.slice a L.length cap):=by
 refine⟨a,L.length,cap,fun k=>sv (tS (gt (L.getD k []) 0)),rfl,hc,fun k hk=>?_⟩;obtain⟨ad,us,rfl,hb,h1,h2,h3⟩:=zaL L 0 HA k hk;have hs:=hL (L.getD k []) (zaV hk);show ∃ ad',some ad=some ad'∧_∧w.cell? (ad'.add k)=some (.string (sv (tS (gt (L.getD k []) 0))));generalize L.getD k []=ds at h1 hs ⊢;simp only[ShL,Sh1,zbK]at hs;obtain⟨_,_,rfl,⟨s0,rfl,_⟩,rfl⟩:=hs;simp only[Rvs,Rv,dS,dI,dB]at h1;obtain⟨_,_,rfl,rfl,rfl⟩:=h1;rw[Nat.zero_add,Nat.mul_one]at h3;exact⟨ad,rfl,hb,h3 0 _ rfl⟩
set_option maxHeartbeats 4000000 in
theorem ziz {w:World} {ds:List D} {us:List Value} (hs:ShL zbL ds) (hr:Rvs w ds us):Calls Tryz.prog 15 #[.agg us.toArray] w (Ak w):=by
 simp only[ShL,Sh1,zbL]at hs;obtain⟨_,_,rfl,⟨s0,rfl,_⟩,⟨_,_,rfl,⟨L1,rfl,_,q1⟩,⟨_,_,rfl,⟨L2,rfl,_,q2⟩,⟨_,_,rfl,⟨L3,rfl,_,q3⟩,⟨_,_,rfl,⟨L4,rfl,_,q4⟩,⟨_,_,rfl,⟨L5,rfl,_,q5⟩,⟨_,_,rfl,⟨v6,rfl,_,_⟩,rfl⟩⟩⟩⟩⟩⟩⟩:=hs;simp only[Rvs,Rv,dS,dI,dB]at hr;obtain⟨_,_,rfl,rfl,⟨_,_,rfl,⟨x1,z1,rfl,y1,m1⟩,⟨_,_,rfl,⟨x2,z2,rfl,y2,m2⟩,⟨_,_,rfl,⟨x3,z3,rfl,y3,m3⟩,⟨_,_,rfl,⟨x4,z4,rfl,y4,m4⟩,⟨_,_,rfl,⟨x5,z5,rfl,y5,m5⟩,⟨_,_,rfl,rfl,rfl⟩⟩⟩⟩⟩⟩⟩:=hr;have hp:w.heap.size≤w.heap.size:=Nat.le_refl _;have hF:=Fb.refl w.heap.size w;refine zgJ (sv s0) x1 L1.length z1 x2 L2.length z2 x3 L3.length z3 x4 L4.length z4 x5 L5.length z5 v6 (fun k=>sv (tS (gt (L1.getD k []) 0))) (fun k=>sv (tS (gt (L2.getD k []) 0))) (fun k=>sv (tS (gt (L2.getD k []) 1))) (fun k=>sv (tS (gt (L3.getD k []) 0))) (fun k=>sv (tS (gt (L5.getD k []) 0))) (fun k=>sv (tS (gt (L5.getD k []) 1))) (sA w x3 3 1) (sN w x3 3 1) (sC w x3 3 1) (sA w x4 1 0) (sN w x4 1 0) (sC w x4 1 0) (fun k j=>sA w (sA w x4 1 0 k) 2 1 j) (fun k j=>sN w (sA w x4 1 0 k) 2 1 j) (fun k j=>sC w (sA w x4 1 0 k) 2 1 j) w (hide zf4) (hide fun k hk=>?_) (hide fun k hk=>?_) (hide fun k hk=>?_) (hide fun k hk=>?_) (hide fun k hk=>?_) (hide fun k hk j hj=>?_) (hide fun k hk=>?_)
 ·obtain⟨ad,e,_,h0,_⟩:=zfU hp hF q1 m1 k hk;exact⟨ad,e,h0⟩
 ·obtain⟨ad,e,_,h0,h1,_⟩:=zjr hp hF q2 m2 k hk;exact⟨ad,e,h0,h1⟩
 ·obtain⟨ad,e,_,h0,h1,_⟩:=zex hp hF q3 m3 k hk;exact⟨ad,e,h0,h1⟩
 ·obtain⟨r1,r2,r3,r4⟩:=zey q3 m3 k hk;rw[r1];exact ziy r4 r3 r2
 ·obtain⟨ad,e,_,h0⟩:=zez hp hF q4 m4 k hk;exact⟨ad,e,h0⟩
 ·obtain⟨r1,r2,r3,r4⟩:=zbQ q4 m4 k hk;rw[r1]at hj;obtain⟨ad,e,_,_,h1⟩:=zjt hp hF r4 r3 j hj;obtain⟨t1,t2,t3,t4⟩:=zju r4 r3 j hj;refine⟨ad,e,h1,?_⟩;show Rw w (.slice _ (sN w (sA w x4 1 0 k) 2 1 j) _);rw[t1];exact ziy t4 t3 t2
 ·obtain⟨ad,e,_,h0,h1,_⟩:=zjs hp hF q5 m5 k hk;exact⟨ad,e,h0,h1⟩
set_option maxHeartbeats 16000000 in
theorem zjP (v0 v1 v2 v3 v4:Int) (a5:Option Addr) (n5 c5:Nat) (a6:Option Addr) (n6 c6:Nat) (v7 v8:Int) (S0:Nat→ByteArray) (A1:Nat→Option Addr) (N1 C1:Nat→Nat) (A2:Nat→Option Addr) (N2 C2:Nat→Nat) (A3:Nat→Option Addr) (N3 C3:Nat→Nat) (A4:Nat→Option Addr) (N4 C4:Nat→Nat) (A5:Nat→Option Addr) (N5 C5:Nat→Nat) (V6:Nat→Int) (X6 Y6 Z6:Nat→ByteArray) (w:World)
  (TS:Hid (∀ v w',Rw w' v→Calls Tryz.prog 16 #[v] w' (Ab w')))
  (TN:Hid (∀ k,k<n5→∀ w',Keep w w'→Calls Tryz.prog 15 #[.agg #[.string (S0 k),.slice (A1 k) (N1 k) (C1 k),.slice (A2 k) (N2 k) (C2 k),.slice (A3 k) (N3 k) (C3 k),.slice (A4 k) (N4 k) (C4 k),.slice (A5 k) (N5 k) (C5 k),.int .i64 (V6 k)]] w' (Ak w')))
  (HC5:Hid (∀ k,k<n5→∃ ad,a5=some ad∧w.cell? (ad.add (k * 7))=some (.string (S0 k))∧w.cell? ⟨(ad.add (k * 7)).block,(ad.add (k * 7)).off+1,none⟩=some (.slice (A1 k) (N1 k) (C1 k))∧w.cell? ⟨(ad.add (k * 7)).block,(ad.add (k * 7)).off+2,none⟩=some (.slice (A2 k) (N2 k) (C2 k))∧w.cell? ⟨(ad.add (k * 7)).block,(ad.add (k * 7)).off+3,none⟩=some (.slice (A3 k) (N3 k) (C3 k))∧w.cell? ⟨(ad.add (k * 7)).block,(ad.add (k * 7)).off+4,none⟩=some (.slice (A4 k) (N4 k) (C4 k))∧w.cell? ⟨(ad.add (k * 7)).block,(ad.add (k * 7)).off+5,none⟩=some (.slice (A5 k) (N5 k) (C5 k))∧w.cell? ⟨(ad.add (k * 7)).block,(ad.add (k * 7)).off+6,none⟩=some (.int .i64 (V6 k))))
  (HC6:Hid (∀ k,k<n6→∃ ad,a6=some ad∧w.cell? (ad.add (k * 6))=some (.string (X6 k))∧w.cell? ⟨(ad.add (k * 6)).block,(ad.add (k * 6)).off+1,none⟩=some (.string (Y6 k))∧w.cell? ⟨(ad.add (k * 6)).block,(ad.add (k * 6)).off+2,none⟩=some (.string (Z6 k)))):
  Calls Tryz.prog 7 #[.agg #[.int .i64 v0,.int .i64 v1,.int .i64 v2,.int .i64 v3,.int .i64 v4,.slice a5 n5 c5,.slice a6 n6 c6,.int .i64 v7,.int .i64 v8]] w (Ak w):=by
 have HK0:=hide ((Keep.refl w).alloc (.cells #[.int .i64 v0,.int .i64 v1,.int .i64 v2,.int .i64 v3,.int .i64 v4,.slice a5 n5 c5,.slice a6 n6 c6,.int .i64 v7,.int .i64 v8] 27));have HB0:Hid ((w.alloc (.cells #[.int .i64 v0,.int .i64 v1,.int .i64 v2,.int .i64 v3,.int .i64 v4,.slice a5 n5 c5,.slice a6 n6 c6,.int .i64 v7,.int .i64 v8] 27)).heap[w.heap.size]? =some (.cells #[.int .i64 v0,.int .i64 v1,.int .i64 v2,.int .i64 v3,.int .i64 v4,.slice a5 n5 c5,.slice a6 n6 c6,.int .i64 v7,.int .i64 v8] 27 (0,0))):=hide (heap_alloc_new w _);go_enter Tryz.func7,Tryz.ntmps7
 go_upto_region 1 with fail
 generalize w.alloc (.cells #[.int .i64 v0,.int .i64 v1,.int .i64 v2,.int .i64 v3,.int .i64 v4,.slice a5 n5 c5,.slice a6 n6 c6,.int .i64 v7,.int .i64 v8] 27)=w0 at HK0 HB0 ⊢;obtain⟨gb,HGB⟩:∃ gb,Hid (w.heap.size=gb):=⟨_,rfl⟩;rw[uq HGB]at HB0 ⊢;have z5:w0.cell? ⟨gb,5,none⟩=some (.slice a5 n5 c5):=by simp[World.cell?,uq HB0]
 have z6:w0.cell? ⟨gb,6,none⟩=some (.slice a6 n6 c6):=by simp[World.cell?,uq HB0]
 by_cases g1:(15:Int)<(n5:Int)
 ·go_wp2_with fail
  go_ret;exact⟨_,rfl,uq HK0⟩
 by_cases g2:(15:Int)<(n6:Int)
 ·go_wp2_with fail
  go_ret;exact⟨_,rfl,uq HK0⟩
 have HNN:Hid (n5≤15∧n6≤15):=hide (by omega);go_wp2_with fail
 clear g1 g2 z5 z6
 go_loopw [3] (fun vi wr=>∃ k:Nat,k≤n5∧vi= .int .i64 (k:Int)∧Hid (Keep w wr)∧Hid (wr.heap[gb]? =some (.cells #[.int .i64 v0,.int .i64 v1,.int .i64 v2,.int .i64 v3,.int .i64 v4,.slice a5 n5 c5,.slice a6 n6 c6,.int .i64 v7,.int .i64 v8] 27 (0,0)))) (fun vi _=>n5 - (intOf vi).toNat)
 case atStart=>exact⟨0,Nat.zero_le _,rfl,HK0,HB0⟩
 case round=>
  obtain⟨k,hk,rfl,HK,HB⟩:=hrel;have z5:wr.cell? ⟨gb,5,none⟩=some (.slice a5 n5 c5):=by simp[World.cell?,uq HB]
  by_cases hlt:k<n5
  ·have li:(k:Int)<(n5:Int):=by omega
   have hk9:k≤100:=by have:=uq HNN;omega
   have HT:=hide ((uq TN) k hlt wr (uq HK));obtain⟨ad,rfl,e0,e1,e2,e3,e4,e5,e6⟩:=(uq HC5) k hlt;have x0:=Q.kcell (uq HK) e0;have x1:=Q.kcell (uq HK) e1;have x2:=Q.kcell (uq HK) e2;have x3:=Q.kcell (uq HK) e3;have x4:=Q.kcell (uq HK) e4;have x5:=Q.kcell (uq HK) e5;have x6:=Q.kcell (uq HK) e6;clear e0 e1 e2 e3 e4 e5 e6;go_wp2_with fail
   (refine(uq HT).mono ?_;rintro e w5 ⟨b,rfl,hk5⟩;have HK5:=hide hk5;clear hk5);cases b
   ·go_wp2_with fail
    go_ret;exact⟨_,rfl,(uq HK).trans (uq HK5)⟩
   ·go_wp2_with fail
    go_roundw
    case rel=>exact⟨k+1,hlt,by go_num,hide ((uq HK).trans (uq HK5)),hide (((uq HK5).block gb (Array.getElem?_eq_some_iff.1 (uq HB)).1).trans (uq HB))⟩
    case measure=>simp[intOf];omega
  ·have li:¬(k:Int)<(n5:Int):=by omega
   clear hlt hk;go_wp2_with fail
   go_loopw [4] (fun vi wr=>∃ k:Nat,k≤n6∧vi= .int .i64 (k:Int)∧Hid (Keep w wr)∧Hid (wr.heap[gb]? =some (.cells #[.int .i64 v0,.int .i64 v1,.int .i64 v2,.int .i64 v3,.int .i64 v4,.slice a5 n5 c5,.slice a6 n6 c6,.int .i64 v7,.int .i64 v8] 27 (0,0)))) (fun vi _=>n6 - (intOf vi).toNat)
   case atStart=>exact⟨0,Nat.zero_le _,rfl,HK,HB⟩
   case round=>
    obtain⟨k,hk,rfl,HK,HB⟩:=hrel;have z6:wr.cell? ⟨gb,6,none⟩=some (.slice a6 n6 c6):=by simp[World.cell?,uq HB]
    by_cases hlt:k<n6
    ·have li:(k:Int)<(n6:Int):=by omega
     have hk9:k≤100:=by have:=uq HNN;omega
     obtain⟨ad,rfl,e0,e1,e2⟩:=(uq HC6) k hlt;have x0:=Q.kcell (uq HK) e0;have x1:=Q.kcell (uq HK) e1;have x2:=Q.kcell (uq HK) e2;clear e0 e1 e2;generalize X6 k=X at x0;generalize Y6 k=Y at x1;generalize Z6 k=Z at x2;have HSX:Hid (∀ w',Keep wr w'→w'.cell? ⟨gb,6,none⟩=some (.slice (some ad) n6 c6)∧w'.cell? (ad.add (k * 6))=some (.string X)∧w'.cell? ⟨(ad.add (k * 6)).block,(ad.add (k * 6)).off+1,none⟩=some (.string Y)∧w'.cell? ⟨(ad.add (k * 6)).block,(ad.add (k * 6)).off+2,none⟩=some (.string Z)):=hide (fun w' k9=>⟨Q.kcell k9 z6,Q.kcell k9 x0,Q.kcell k9 x1,Q.kcell k9 x2⟩)
     go_upto_region 11 with fail
     refine wp_region_held_drew (S:=fun w'=>w'.cell? ⟨gb,6,none⟩=some (.slice (some ad) n6 c6)∧w'.cell? (ad.add (k * 6))=some (.string X)∧w'.cell? ⟨(ad.add (k * 6)).block,(ad.add (k * 6)).off+1,none⟩=some (.string Y)∧w'.cell? ⟨(ad.add (k * 6)).block,(ad.add (k * 6)).off+2,none⟩=some (.string Z)) (by kernel_rfl) (by exact(uq HSX) _ (by repeat(first|apply Keep.alloc|apply Keep.drew|exact Keep.refl _))) (fun hHeld=>?_);refine tkk 0 36 hHeld ?_;try simp only[Act.put,Ya,Yb,Yc]
     refine tkk 1 37 hHeld ?_;try simp only[Act.put,Ya,Yb,Yc]
     refine tkk 2 38 hHeld ?_;try simp only[Act.put,Ya,Yb,Yc]
     refine tkk 3 39 hHeld ?_;try simp only[Act.put,Ya,Yb,Yc]
     refine tkk 4 40 hHeld ?_;try simp only[Act.put,Ya,Yb,Yc]
     refine tkk 5 41 hHeld ?_;try simp only[Act.put,Ya,Yb,Yc]
     refine tkk 6 42 hHeld ?_;try simp only[Act.put,Ya,Yb,Yc]
     refine tkk 7 43 hHeld ?_;try simp only[Act.put,Ya,Yb,Yc]
     refine tkk 8 44 hHeld ?_;try simp only[Act.put,Ya,Yb,Yc]
     refine tkk 9 45 hHeld ?_;try simp only[Act.put,Ya,Yb,Yc]
     refine tkk 10 46 hHeld ?_;try simp only[Act.put,Ya,Yb,Yc]
     refine tkk 11 47 hHeld ?_;try simp only[Act.put,Ya,Yb,Yc]
     refine tkk 12 48 hHeld ?_;try simp only[Act.put,Ya,Yb,Yc]
     refine tkk 13 49 hHeld ?_;try simp only[Act.put,Ya,Yb,Yc]
     refine tkk 14 50 hHeld ?_;try simp only[Act.put,Ya,Yb,Yc]
     refine tkk 15 51 hHeld ?_;try simp only[Act.put,Ya,Yb,Yc]
     refine tkk 16 52 hHeld ?_;try simp only[Act.put,Ya,Yb,Yc]
     refine tkk 17 53 hHeld ?_;try simp only[Act.put,Ya,Yb,Yc]
     refine zaC 18 (fun K hK=>?_);go_simp;clear hHeld;refine hK.out _ _ ?_ (fun hHeld=>?_)
     ·exact(uq HSX) _ (by repeat(first|apply Keep.alloc|apply Keep.drew|exact Keep.refl _))
     clear hK K;try simp only[Act.put,Ya,Yb,Yc]
     refine zaC 19 (fun K hK=>?_);go_simp;clear hHeld;(refine((uq TS) _ _ (zm2 wr.drew X Y Z 9)).mono ?_;rintro e w5 ⟨b,rfl,rfl⟩);try go_wp2_with fail
     refine hK.out _ _ ?_ (fun hHeld=>?_)
     ·exact(uq HSX) _ (by repeat(first|apply Keep.alloc|apply Keep.drew|exact Keep.refl _))
     clear hK K;try simp only[Act.put,Ya,Yb,Yc]
     refine tkk 20 56 hHeld ?_;try simp only[Act.put,Ya,Yb,Yc]
     refine wpAnyH_done (by kernel_rfl) ?_ _;clear hHeld;cases b
     ·go_wp2_with fail
      go_ret;exact⟨_,rfl,(by have:=uq HK;repeat(first|exact this|apply Keep.alloc|apply Keep.drew))⟩
     ·go_wp2_with fail
      go_roundw
      case rel=>exact⟨k+1,hlt,by go_num,hide (by have:=uq HK;repeat(first|exact this|apply Keep.alloc|apply Keep.drew)),hide ((heap_alloc_old wr (.cells #[.string X,.string Y,.string Z] 9) (Array.getElem?_eq_some_iff.1 (uq HB)).1).trans (uq HB))⟩
      case measure=>simp[intOf];omega
    ·have li:¬(k:Int)<(n6:Int):=by omega
     go_wp2_with fail
     go_ret;exact⟨_,rfl,uq HK⟩
theorem zm3 {w:World} {ds:List D} {us:List Value} (hs:ShL zct ds) (hr:Rvs w ds us):Calls Tryz.prog 7 #[.agg us.toArray] w (Ak w):=by
 simp only[ShL,Sh1,zct]at hs;obtain⟨_,_,rfl,⟨v0,rfl,_,_⟩,⟨_,_,rfl,⟨v1,rfl,_,_⟩,⟨_,_,rfl,⟨v2,rfl,_,_⟩,⟨_,_,rfl,⟨v3,rfl,_,_⟩,⟨_,_,rfl,⟨v4,rfl,_,_⟩,⟨_,_,rfl,⟨L5,rfl,_,q5⟩,⟨_,_,rfl,⟨L6,rfl,_,q6⟩,⟨_,_,rfl,⟨v7,rfl,_,_⟩,⟨_,_,rfl,⟨v8,rfl,_,_⟩,rfl⟩⟩⟩⟩⟩⟩⟩⟩⟩:=hs;simp only[Rvs,Rv,dS,dI,dB]at hr;obtain⟨_,_,rfl,rfl,⟨_,_,rfl,rfl,⟨_,_,rfl,rfl,⟨_,_,rfl,rfl,⟨_,_,rfl,rfl,⟨_,_,rfl,⟨x5,z5,rfl,y5,m5⟩,⟨_,_,rfl,⟨x6,z6,rfl,y6,m6⟩,⟨_,_,rfl,rfl,⟨_,_,rfl,rfl,rfl⟩⟩⟩⟩⟩⟩⟩⟩⟩:=hr;have hp:w.heap.size≤w.heap.size:=Nat.le_refl _;have hF:=Fb.refl w.heap.size w;refine zjP v0 v1 v2 v3 v4 x5 L5.length z5 x6 L6.length z6 v7 v8 (fun k=>sv (tS (gt (L5.getD k []) 0))) (sA w x5 7 1) (sN w x5 7 1) (sC w x5 7 1) (sA w x5 7 2) (sN w x5 7 2) (sC w x5 7 2) (sA w x5 7 3) (sN w x5 7 3) (sC w x5 7 3) (sA w x5 7 4) (sN w x5 7 4) (sC w x5 7 4) (sA w x5 7 5) (sN w x5 7 5) (sC w x5 7 5) (fun k=>fI (gt (L5.getD k []) 6)) (fun k=>sv (tS (gt (L6.getD k []) 0))) (fun k=>sv (tS (gt (L6.getD k []) 1))) (fun k=>sv (tS (gt (L6.getD k []) 2))) w (hide zf4) (hide fun k hk w' hw=>?_) (hide fun k hk=>?_) (hide fun k hk=>?_)
 ·exact ziz (q5 _ (zaV hk)) (Rvs.keep hw _ _ (zeA q5 m5 k hk))
 ·obtain⟨ad,e,_,h⟩:=zfV hp hF q5 m5 k hk;exact⟨ad,e,h⟩
 ·obtain⟨ad,e,_,h0,h1,h2,_⟩:=zfW hp hF q6 m6 k hk;exact⟨ad,e,h0,h1,h2⟩
end S
namespace S
set_option maxHeartbeats 400000 in
theorem ziA (a:Int) (w:World) (h1: -9223372036854775808≤a) (h2:a≤9223372036854775807):
  Calls Tryz.prog 85 #[.int .i64 a] w fun e w'=>e= .returned (.int .u64 (a.natAbs:Int))∧w'=w:=by
 by_cases ha:a<0
 ·go_enter Tryz.func85,Tryz.ntmps85;go_wp2;go_ret;exact⟨ze7 (by rw[IntKind.wrap_u64,IntKind.wrap_u64];omega),rfl⟩
 ·go_enter Tryz.func85,Tryz.ntmps85;go_wp2;go_ret;exact⟨ze7 (by omega),rfl⟩
theorem ze3 (u:Nat) (W:World):∃ d:ByteArray,d.data.toList= [UInt8.ofNat (48+u % 10)]∧d.size=1∧(convert 29 9 (.slice (some ⟨W.heap.size,0,none⟩) 1 1)).run Tryz.prog (W.alloc (.cells #[.int .u8 (48+(u:Int) % 10)] 5))= .ok (.string d) (W.alloc (.cells #[.int .u8 (48+(u:Int) % 10)] 5)):=by
 refine⟨⟨#[UInt8.ofNat (48+u % 10)]⟩,rfl,rfl,?_⟩;have h:=run_convert_bytes_back (P:=Tryz.prog) (W.alloc (.cells #[.int .u8 (48+(u:Int) % 10)] 5)) 29 9 5 ⟨W.heap.size,0,none⟩ 1 [UInt8.ofNat (48+u % 10)] Tryz.underlying29 Tryz.underlying5 Tryz.underlying9 (fun j hj=>by
  have:j=0:=by simpa using hj
  subst this;have e:((UInt8.ofNat (48+u % 10)).toNat:Int)=48+(u:Int) % 10:=by
   rw[UInt8.toNat_ofNat'];omega
  rw[List.getElem_cons_zero,e];simp[Addr.add,go_sem])
 exact h
def zeh (N u:Nat) (l:List UInt8):Prop:=(l= []∧u=N)∨(l≠ []∧Lib.decDigits N=if u=0 then l else Lib.decDigits u++l)
theorem zf6 {N u:Nat} {l:List UInt8} (h:zeh N u l) (hu:l= []∨¬u=0):zeh N (u / 10) (UInt8.ofNat (48+u % 10) :: l):=by
 refine .inr ⟨by simp,?_⟩;have key:∀ v,Lib.decDigits v=if v / 10=0 then [UInt8.ofNat (48+v % 10)]else Lib.decDigits (v / 10)++ [UInt8.ofNat (48+v % 10)]:=by
  intro v
  rw[Lib.decDigits];by_cases hv:v<10
  ·rw[dif_pos hv,if_pos (by omega),Nat.mod_eq_of_lt hv]
  ·rw[dif_neg hv,if_neg (by omega)]
 rcases h with ⟨rfl,rfl⟩|⟨h1,h2⟩
 ·exact key u
 ·have hu':¬u=0:=by rcases hu with h|h;exact absurd h h1;exact h
  rw[h2,if_neg hu',key u];by_cases h10:u / 10=0
  ·simp[h10]
  ·simp[h10]
theorem zjQ {N:Nat} {l:List UInt8} (h:zeh N 0 l) (hl:l≠ []):l=Lib.decDigits N:=by
 rcases h with ⟨h1,_⟩|⟨_,h2⟩
 ·exact absurd h1 hl
 ·rw[h2];simp
theorem zeC {s:ByteArray} {l:List UInt8} (h:s.data.toList=l):s=⟨l.toArray⟩:=by
 obtain⟨a⟩:=s;simp at h;rw[← h]
theorem zdU (a b:ByteArray):(a++b).data.toList=a.data.toList++b.data.toList:=by simp
theorem ziB {s t:ByteArray} (h:s=t):Ending.returned (.string s)= .returned (.string t):=by rw[h]
def zcU:Value→Nat
 | .string s=>if s.size=0 then 1 else 0
 | _=>0
theorem ziC (bs:ByteArray) (i:Nat) (r:List UInt8) (h:bs.size≤i):ByteArray.toList.loop bs i r=r.reverse:=by
 unfold ByteArray.toList.loop
 rw[if_neg (by omega)]
theorem zgK {s:ByteArray} (h:s.size=0):s.toList.isEmpty=true:=by
 unfold ByteArray.toList
 rw[ziC s 0 [] (by omega)]
 rfl
theorem zkp (bs:ByteArray):∀(k i:Nat) (r:List UInt8),bs.size - i=k→r≠ []→ByteArray.toList.loop bs i r≠ []
 |0,i,r,h,hr=>by
  rw[ziC bs i r (by omega)];simpa using hr
 |k+1,i,r,h,hr=>by
  unfold ByteArray.toList.loop
  rw[if_pos (by omega)];exact zkp bs k (i+1) _ (by omega) (by simp)
theorem zgL {s:ByteArray} (h:1≤s.size):s.toList.isEmpty=false:=by
 have h2:s.toList≠ []:=by
  unfold ByteArray.toList ByteArray.toList.loop
  rw[if_pos (by omega)];exact zkp s (s.size - 1) 1 _ rfl (by simp)
 cases hh:s.toList with
 |nil=>exact absurd hh h2
 |cons a b=>rfl
theorem zdi {s:ByteArray} (h:1≤s.size):zcU (.string s)=0:=by
 show(if s.size=0 then 1 else 0)=0;rw[if_neg (by omega)]
theorem zfy {s:ByteArray} (h:s.size=0):zcU (.string s)=1:=by
 show(if s.size=0 then 1 else 0)=1;rw[if_pos h]
theorem zgM {s:ByteArray} (h:s=⟨#[]⟩):s.data.toList= []:=by rw[h]
theorem zgN {s:ByteArray} (h:¬s=⟨#[]⟩):s.data.toList≠ []∧1≤s.size:=by
 have h1:s.data.toList≠ []:=fun h2=>h (by rw[zeC h2])
 refine⟨h1,?_⟩;rcases Nat.eq_zero_or_pos s.size with h2|h2
 ·refine absurd (List.length_eq_zero_iff.1 ?_) h1;rw[Array.length_toList];exact h2
 ·exact h2
theorem ziD {P:Program} {t:TypeId} {s:ByteArray} (hs:2 * s.size≤9223372036854775810) (W:World):(binOp .add t (.string ⟨#[45]⟩) (.string s)).run P W= .ok (.string (⟨#[45]⟩++s)) W:=by
 have e:(⟨#[45]⟩:ByteArray).size=1:=rfl;obtain⟨m,hm⟩:∃ m:ByteArray,m=⟨#[45]⟩:=⟨_,rfl⟩;rw[← hm]at e ⊢;have:¬m.size+s.size > 9223372036854775807:=by omega
 simp[go_sem,this]
set_option maxHeartbeats 1000000 in
theorem ze4 (n:Int) (N:Nat) (w:World) (hN:N≤9223372036854775808)
  (HT:Hid (Lib.itoa n=if n<0 then 45 :: Lib.decDigits N else Lib.decDigits N))
  (T:Hid (∀ w,Calls Tryz.prog 85 #[.int .i64 n] w fun e w'=>e= .returned (.int .u64 (N:Int))∧w'=w)):
  Calls Tryz.prog 45 #[.int .i64 n] w fun e w'=>e= .returned (.string ⟨(Lib.itoa n).toArray⟩)∧Keep w w':=by
 go_enter Tryz.func45,Tryz.ntmps45;go_wp2_with fail
 (refine((uq T) _).mono ?_;rintro e w ⟨rfl,rfl⟩);go_wp2_with fail
 go_loopw [3,4] (fun uv sv wr=>∃(u:Nat) (s:ByteArray),uv= .int .u64 (u:Int)∧sv= .string s∧u≤9223372036854775808∧(1≤u→2 * s.size+u≤N)∧2 * s.size≤N+2∧Hid (zeh N u s.data.toList)∧Keep w wr) (fun uv sv _=>2 * (intOf uv).toNat+zcU sv)
 case atStart=>exact⟨N,⟨#[]⟩,rfl,rfl,hN,fun _=>by simp[ByteArray.size],by simp[ByteArray.size],hide (.inl ⟨rfl,rfl⟩),Keep.refl _⟩
 case round=>
  obtain⟨u,s,rfl,rfl,hu,hb1,hb2,HI,hk⟩:=hrel;by_cases h0:s=⟨#[]⟩
  ·obtain⟨d,hd1,hd2,hcv⟩:=ze3 u wr;have HD1:=hide hd1;have HS0:=hide h0;have hs0:s.size=0:=by rw[h0];rfl
   have hse:=zgK hs0;have HIN:Hid (zeh N (u / 10) (d++s).data.toList):=by
    rw[zdU,hd1];exact hide (zf6 (uq HI) (.inl (zgM h0)))
   have hsz:(d++s).size=d.size+s.size:=ByteArray.size_append;have HSZ:=hide hsz;clear h0 hd1 HI hsz;go_wp2;go_roundw
   case rel=>exact⟨u / 10,d++s,by go_num,rfl,by omega,fun h=>by rw[uq HSZ];have:=hb1 (by omega);omega,by rw[uq HSZ];omega,HIN,hk.alloc _⟩
   case measure=>
    have h1:=uq HSZ;have:zcU (.string (d++s))=0:=zdi (by omega);have h2:zcU (.string s)=1:=zfy hs0;simp[intOf,this,h2]<;>omega
  ·obtain⟨hne,hs1⟩:=zgN h0;have hse:=zgL hs1;have HNE:=hide hne;clear h0 hne;by_cases hu0:u=0
   ·subst hu0;have hfin:=zjQ (uq HI) (uq HNE);have HFIN:=hide hfin;clear hfin HI;by_cases hneg:n<0
    ·have hlast:(⟨#[45]⟩++s:ByteArray)=⟨(Lib.itoa n).toArray⟩:=by
      refine zeC ?_;rw[zdU,uq HFIN,uq HT,if_pos hneg]
      rfl
     have HL:=hide hlast;clear hlast;have hadd:=ziD (P:=Tryz.prog) (t:=9) (s:=s) (by omega);go_wp2;go_ret;exact⟨ziB (uq HL),hk⟩
    ·have hlast:s=⟨(Lib.itoa n).toArray⟩:=by
      refine zeC ?_;rw[uq HFIN,uq HT,if_neg hneg]
     have HL:=hide hlast;clear hlast;go_wp2;go_ret;exact⟨ziB (uq HL),hk⟩
   ·obtain⟨d,hd1,hd2,hcv⟩:=ze3 u wr;have hu1:1≤u:=by omega
    have hb1':=hb1 hu1;have hug:(0:Int)<(u:Int):=by omega
    have HIN:Hid (zeh N (u / 10) (d++s).data.toList):=by
     rw[zdU,hd1];exact hide (zf6 (uq HI) (.inr hu0))
    have hsz:(d++s).size=d.size+s.size:=ByteArray.size_append;have HSZ:=hide hsz;clear hd1 HI hsz;go_wp2;go_roundw
    case rel=>exact⟨u / 10,d++s,by go_num,rfl,by omega,fun h=>by rw[uq HSZ];omega,by rw[uq HSZ];omega,HIN,hk.alloc _⟩
    case measure=>
     have h1:=uq HSZ;have:zcU (.string (d++s))=0:=zdi (by omega);have h2:zcU (.string s)=0:=zdi hs1;simp[intOf,this,h2]<;>omega
theorem ziE (n:Int):Lib.itoa n=if n<0 then 45 :: Lib.decDigits n.natAbs else Lib.decDigits n.natAbs:=by
 unfold Lib.itoa
 by_cases h:n<0
 ·rw[if_pos h,if_pos h]
 ·rw[if_neg h,if_neg h,show n.toNat=n.natAbs by omega]
theorem zfz (n:Int) (w:World) (h1: -9223372036854775808≤n) (h2:n≤9223372036854775807):
  Calls Tryz.prog 45 #[.int .i64 n] w fun e w'=>e= .returned (.string ⟨(Lib.itoa n).toArray⟩)∧Keep w w':=
 ze4 n n.natAbs w (by omega) (hide (ziE n)) (hide fun w=>ziA n w h1 h2)
end S
namespace S
set_option maxHeartbeats 1000000 in
theorem zm4 (n:Int) (s:ByteArray) (w:World) (T1:Hid (Calls Tryz.prog 45 #[.int .i64 n] w fun e w'=>e= .returned (.string s)∧Keep w w')):
  Calls Tryz.prog 19 #[.int .i64 n] w fun e w'=>e= .returned (.string s)∧Keep w w':=by
 go_enter Tryz.func19,Tryz.ntmps19;go_wp2_with fail
 (refine(uq T1).mono ?_;rintro e w2 ⟨rfl,hk⟩;have HK:=hide hk;clear hk);go_wp2_with fail
 go_ret;exact⟨rfl,uq HK⟩
theorem ziF (n:Int) (w:World) (h1: -9223372036854775808≤n) (h2:n≤9223372036854775807):Calls Tryz.prog 19 #[.int .i64 n] w fun e w'=>e= .returned (.string (sv (dg n)))∧Keep w w':=zm4 n _ w (hide (zfz n w h1 h2))
set_option maxHeartbeats 2000000 in
theorem zjR (a b:Int) (s1 s2:ByteArray) (w:World) (z1:s1.size≤100) (z2:s2.size≤100)
  (T1:Hid (∀ w',Calls Tryz.prog 19 #[.int .i64 a] w' fun e w''=>e= .returned (.string s1)∧Keep w' w''))
  (T2:Hid (∀ w',Calls Tryz.prog 19 #[.int .i64 b] w' fun e w''=>e= .returned (.string s2)∧Keep w' w'')):
  Calls Tryz.prog 20 #[.agg #[.int .i64 a,.int .i64 b]] w fun e w'=>e= .returned (.string ((s1++⟨#[47]⟩)++s2))∧Keep w w':=by
 have hno1:¬9223372036854775807<s1.size+1:=by omega
 have hno2:¬9223372036854775807<s1.size+1+s2.size:=by omega
 have hx:=heap_alloc_new w (.cells #[.int .i64 a,.int .i64 b] 23);have HK0:=hide ((Keep.refl w).alloc (.cells #[.int .i64 a,.int .i64 b] 23));go_enter Tryz.func20,Tryz.ntmps20
 go_upto_region 1 with fail
 generalize w.alloc (.cells #[.int .i64 a,.int .i64 b] 23)=w0 at hx HK0 ⊢;generalize w.heap.size=gb at hx ⊢;have HSX:Hid (∀ w',Keep w0 w'→w'.cell? ⟨gb,0,none⟩=some (.int .i64 a)∧w'.cell? ⟨gb,1,none⟩=some (.int .i64 b)):=hide (fun w' k9=>by have h:=k9.block gb (Array.getElem?_eq_some_iff.1 hx).1;rw[hx]at h;refine⟨?_,?_⟩<;>simp[World.cell?,h]);clear hx;refine wp_region_held_drew (S:=fun w'=>w'.cell? ⟨gb,0,none⟩=some (.int .i64 a)∧w'.cell? ⟨gb,1,none⟩=some (.int .i64 b)) (by kernel_rfl) (by exact(uq HSX) _ (Keep.refl w0).drew) (fun hHeld=>?_);refine tkk 0 3 hHeld ?_;try simp only[Act.put,Ya,Yb,Yc]
 refine tkk 1 4 hHeld ?_;try simp only[Act.put,Ya,Yb,Yc]
 refine tkk 4 7 hHeld ?_;try simp only[Act.put,Ya,Yb,Yc]
 refine tkk 5 8 hHeld ?_;try simp only[Act.put,Ya,Yb,Yc]
 refine zaC 2 (fun K hK=>?_);go_simp;clear hHeld;(refine((uq T1) _).mono ?_;rintro e w2 ⟨rfl,hk⟩;have HX1:=hide ((Keep.refl w0).drew.trans hk);clear hk);try go_wp2_with fail
 refine hK.out _ _ ?_ (fun hHeld=>?_)
 ·exact(uq HSX) _ (uq HX1)
 clear hK K;try simp only[Act.put,Ya,Yb,Yc]
 refine tkk 3 6 hHeld ?_;try simp only[Act.put,Ya,Yb,Yc]
 refine zaC 6 (fun K hK=>?_);go_simp;clear hHeld;(refine((uq T2) _).mono ?_;rintro e w3 ⟨rfl,hk⟩;have HX2:=hide ((uq HX1).trans hk);clear hk);try go_wp2_with fail
 refine hK.out _ _ ?_ (fun hHeld=>?_)
 ·exact(uq HSX) _ (uq HX2)
 clear hK K;try simp only[Act.put,Ya,Yb,Yc]
 refine tkk 7 10 hHeld ?_;try simp only[Act.put,Ya,Yb,Yc]
 refine tkk 8 2 hHeld ?_;try simp only[Act.put,Ya,Yb,Yc]
 refine wpAnyH_done (by kernel_rfl) ?_ _;clear hHeld;go_wp2_with fail
 go_ret;exact⟨rfl,(uq HK0).trans (uq HX2)⟩
theorem ziG (a b:Int) (w:World) (h1:grB a=true) (h2:grB b=true):Calls Tryz.prog 20 #[.agg #[.int .i64 a,.int .i64 b]] w fun e w'=>e= .returned (.string (sv (dg a++(47 :: dg b))))∧Keep w w':=by
 have k1:=Lib.itoa_length_le a (by have:=of_decide_eq_true h1;omega) (by have:=of_decide_eq_true h1;omega);have k2:=Lib.itoa_length_le b (by have:=of_decide_eq_true h2;omega) (by have:=of_decide_eq_true h2;omega);have g1:=of_decide_eq_true h1;have g2:=of_decide_eq_true h2;have e:sv (dg a++(47 :: dg b))=(sv (dg a)++⟨#[47]⟩)++sv (dg b):=by
  have:(⟨#[47]⟩:ByteArray)=sv [47]:=rfl;rw[this,zec,zec];simp
 rw[e];have sz:∀ l:List UInt8,(sv l).size=l.length:=fun l=>by simp[sv,ByteArray.size]
 exact zjR a b (sv (dg a)) (sv (dg b)) w (by rw[sz];unfold dg;omega) (by rw[sz];unfold dg;omega) (hide fun w'=>ziF a w' (by omega) (by omega)) (hide fun w'=>ziF b w' (by omega) (by omega))
def ls:List (List UInt8)→List UInt8
 | []=> []
 |s :: l=>s++l.flatMap (fun x=>44 :: 32 :: x)
theorem zm5 (l:List (List UInt8)) (x:List UInt8):ls (l++ [x])=if l= []then x else ls l++(44 :: 32 :: x):=by
 cases l with
 |nil=>simp[ls]
 |cons s l=>simp[ls]
theorem zad (l:List UInt8):(sv l).size=l.length:=by simp[sv,ByteArray.size]
set_option maxHeartbeats 4000000 in
theorem zgO (a:Option Addr) (n cap:Nat) (X:Nat→List UInt8) (w:World) (hn:n≤1000)
  (HC:Hid (∀ k,k<n→∃ ad,a=some ad∧w.cell? (ad.add k)=some (.string (sv (X k))))) (HZ:Hid (∀ k,k<n→(X k).length≤24)):
  Calls Tryz.prog 46 #[.slice a n cap] w fun e w'=>e= .returned (.string (sv (ls ((List.range n).map X))))∧w'=w:=by
 go_enter Tryz.func46,Tryz.ntmps46;go_wp2_with fail
 go_loopw [3,4] (fun vs vi wr=>∃(k:Nat) (o:List UInt8) (S:ByteArray),k≤n∧vi= .int .i64 (k:Int)∧vs= .string S∧Hid (sv o=S)∧wr=w∧Hid (o=ls ((List.range k).map X))∧Hid (o.length≤26 * k)) (fun vs vi _=>n - (intOf vi).toNat)
 case atStart=>exact⟨0,[],_,Nat.zero_le _,rfl,rfl,hide rfl,rfl,hide rfl,hide (Nat.zero_le _)⟩
 case round=>
  obtain⟨k,o,S,hk,rfl,rfl,HS,rfl,HO,HLn⟩:=hrel;by_cases hlt:k<n
  ·have li:(k:Int)<(n:Int):=by omega
   have hz:=(uq HZ) k hlt;have hl:=uq HLn;have hS:S.size≤26000:=by rw[← uq HS,zad];omega
   obtain⟨ad,rfl,e0⟩:=(uq HC) k hlt;obtain⟨Y,HY⟩:∃ Y,Hid (sv (X k)=Y):=⟨_,hide rfl⟩;have hY:Y.size≤24:=by rw[← uq HY,zad];exact hz
   rw[uq HY]at e0;have HO2:=hide (zm5 ((List.range k).map X) (X k));have HR:Hid ((List.range (k+1)).map X=(List.range k).map X++ [X k]):=hide (by rw[List.range_succ,List.map_append];rfl);have HLX:=hide hz;clear hl hz;by_cases h0:k=0
   ·subst h0;have e00:ad.add 0=ad:=by simp[Addr.add]
    rw[e00]at e0;have n1:¬9223372036854775807<S.size+Y.size:=by omega
    clear hS hY;go_wp2_with fail
    go_roundw
    case rel=>exact⟨1,o++X 0,_,hlt,by go_num,rfl,hide (by rw[← zec,uq HS,uq HY]),by first|rfl|trivial,hide (by have h1:=uq HO;have h2:=uq HO2;have h3:=uq HR;rw[h3,h2];simp[h1,ls]),hide (by have h1:=uq HO;have:=uq HLX;rw[h1];simp[ls];omega)⟩
    case measure=>simp[intOf];omega
   ·have g0:(0:Int)<(k:Int):=by omega
    have n1:¬9223372036854775807<S.size+2:=by omega
    have n2:¬9223372036854775807<S.size+2+Y.size:=by omega
    clear hS hY;go_wp2_with fail
    go_roundw
    case rel=>
     refine⟨k+1,o++(44 :: 32 :: X k),_,hlt,by go_num,rfl,hide ?_,by first|rfl|trivial,hide ?_,hide ?_⟩
     ·have:(⟨#[44,32]⟩:ByteArray)=sv [44,32]:=rfl;rw[this,← uq HS,← uq HY,zec,zec];simp
     ·have h1:=uq HO;have h2:=uq HO2;have h3:=uq HR;rw[h3,h2,if_neg (by simp;omega),h1]
     ·have:=uq HLn;have:=uq HLX;simp;omega
    case measure=>simp[intOf];omega
  ·have li:¬(k:Int)<(n:Int):=by omega
   have e:k=n:=by omega
   subst e;go_wp2_with fail
   go_ret;refine⟨?_,rfl⟩;rw[← uq HO,uq HS]
   rfl
end S
end Go.Proofs.YtfepanidippjlaaGreatDoor
