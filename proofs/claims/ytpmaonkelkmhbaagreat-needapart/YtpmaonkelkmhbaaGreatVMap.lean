/- The law's node and Few answer some truth value: over trees. -/
import Derived.Test.YtpmaonkelkmhbaaGreatVFwN
import Derived.Test.YtpmaonkelkmhbaaGreatLSkip
import Derived.Deep.DrawnRows
import Derived.Deep.RegionHeld
import Derived.Test.YtpmaonkelkmhbaaGreatProg
import Derived.Test.YtpmaonkelkmhbaaGreatLFact
import Derived.Maps.OwnSet
import Derived.WalkKit
import Derived.ProofKit
namespace Go.Proofs.YtpmaonkelkmhbaaGreat
open Go.RowKit
attribute [local go_sem ↓] Go.wp_at_zero Go.wp_at_succ
set_option linter.unusedVariables false
set_option linter.unusedSimpArgs false
set_option maxRecDepth 10000
namespace S
theorem zgu {L:List (List D)} {k:Nat} (hk:k<L.length):L.getD k []∈L:=by rw[List.getD_eq_getElem?_getD,List.getElem?_eq_getElem hk];exact List.getElem_mem hk
theorem zdp {w0:World} {a:Option Addr} {L:List (List D)} (hL:∀ ds∈L,ShL za5 ds) (HA:Rvss w0 a 7 L 0) (k:Nat) (hk:k<L.length):Rvs w0 (L.getD k []) [.string (sv (tS (gt (L.getD k []) 0))),.slice (sA w0 a 7 1 k) (sN w0 a 7 1 k) (sC w0 a 7 1 k),.slice (sA w0 a 7 2 k) (sN w0 a 7 2 k) (sC w0 a 7 2 k),.slice (sA w0 a 7 3 k) (sN w0 a 7 3 k) (sC w0 a 7 3 k),.slice (sA w0 a 7 4 k) (sN w0 a 7 4 k) (sC w0 a 7 4 k),.slice (sA w0 a 7 5 k) (sN w0 a 7 5 k) (sC w0 a 7 5 k),.int .i64 (fI (gt (L.getD k []) 6))]:=by
 obtain⟨ad,us,rfl,hb,h1,h2,h3⟩:=zaI L 0 HA k hk;have hs:=hL (L.getD k []) (zgu hk);generalize L.getD k []=ds at h1 hs ⊢;simp only[ShL,Sh1,za5]at hs;obtain⟨_,_,rfl,⟨s0,rfl,_⟩,⟨_,_,rfl,⟨L1,rfl,_,q1⟩,⟨_,_,rfl,⟨L2,rfl,_,q2⟩,⟨_,_,rfl,⟨L3,rfl,_,q3⟩,⟨_,_,rfl,⟨L4,rfl,_,q4⟩,⟨_,_,rfl,⟨L5,rfl,_,q5⟩,⟨_,_,rfl,⟨v6,rfl,_,_⟩,rfl⟩⟩⟩⟩⟩⟩⟩:=hs;have hr:=h1;simp only[Rvs,Rv,dS,dI,dB]at h1;obtain⟨_,_,rfl,rfl,⟨_,_,rfl,⟨x1,z1,rfl,y1,m1⟩,⟨_,_,rfl,⟨x2,z2,rfl,y2,m2⟩,⟨_,_,rfl,⟨x3,z3,rfl,y3,m3⟩,⟨_,_,rfl,⟨x4,z4,rfl,y4,m4⟩,⟨_,_,rfl,⟨x5,z5,rfl,y5,m5⟩,⟨_,_,rfl,rfl,rfl⟩⟩⟩⟩⟩⟩⟩:=h1;rw[Nat.zero_add]at h3;have e1:=h3 1 _ rfl;have g1:(.slice (sA w0 (some ad) 7 1 k) (sN w0 (some ad) 7 1 k) (sC w0 (some ad) 7 1 k):Value)= .slice x1 L1.length z1:=by have e:=e1;simp only[sA,sN,sC,slA,slN,slC,adO,Option.getD_some,e]
 have e2:=h3 2 _ rfl;have g2:(.slice (sA w0 (some ad) 7 2 k) (sN w0 (some ad) 7 2 k) (sC w0 (some ad) 7 2 k):Value)= .slice x2 L2.length z2:=by have e:=e2;simp only[sA,sN,sC,slA,slN,slC,adO,Option.getD_some,e]
 have e3:=h3 3 _ rfl;have g3:(.slice (sA w0 (some ad) 7 3 k) (sN w0 (some ad) 7 3 k) (sC w0 (some ad) 7 3 k):Value)= .slice x3 L3.length z3:=by have e:=e3;simp only[sA,sN,sC,slA,slN,slC,adO,Option.getD_some,e]
 have e4:=h3 4 _ rfl;have g4:(.slice (sA w0 (some ad) 7 4 k) (sN w0 (some ad) 7 4 k) (sC w0 (some ad) 7 4 k):Value)= .slice x4 L4.length z4:=by have e:=e4;simp only[sA,sN,sC,slA,slN,slC,adO,Option.getD_some,e]
 have e5:=h3 5 _ rfl;have g5:(.slice (sA w0 (some ad) 7 5 k) (sN w0 (some ad) 7 5 k) (sC w0 (some ad) 7 5 k):Value)= .slice x5 L5.length z5:=by have e:=e5;simp only[sA,sN,sC,slA,slN,slC,adO,Option.getD_some,e]
 rw[g1,g2,g3,g4,g5];exact hr
theorem zgv {w:World} {a:Option Addr} {L:List (List D)} {cap:Nat} (hL:∀ ds∈L,ShL zdP ds) (HA:Rvss w a 1 L 0) (hc:L.length≤cap):Rw w (.slice a L.length cap):=by
 refine⟨a,L.length,cap,fun k=>sv (tS (gt (L.getD k []) 0)),rfl,hc,fun k hk=>?_⟩;obtain⟨ad,us,rfl,hb,h1,h2,h3⟩:=zaI L 0 HA k hk;have hs:=hL (L.getD k []) (zgu hk);show ∃ ad',some ad=some ad'∧_∧w.cell? (ad'.add k)=some (.string (sv (tS (gt (L.getD k []) 0))));generalize L.getD k []=ds at h1 hs ⊢;simp only[ShL,Sh1,zdP]at hs;obtain⟨_,_,rfl,⟨s0,rfl,_⟩,rfl⟩:=hs;simp only[Rvs,Rv,dS,dI,dB]at h1;obtain⟨_,_,rfl,rfl,rfl⟩:=h1;rw[Nat.zero_add,Nat.mul_one]at h3;exact⟨ad,rfl,hb,h3 0 _ rfl⟩
set_option maxHeartbeats 4000000 in
theorem zgw {w:World} {ds:List D} {us:List Value} (hs:ShL za5 ds) (hr:Rvs w ds us):Calls Tryz.prog 14 #[.agg us.toArray] w (Ak w):=by
 simp only[ShL,Sh1,za5]at hs;obtain⟨_,_,rfl,⟨s0,rfl,_⟩,⟨_,_,rfl,⟨L1,rfl,_,q1⟩,⟨_,_,rfl,⟨L2,rfl,_,q2⟩,⟨_,_,rfl,⟨L3,rfl,_,q3⟩,⟨_,_,rfl,⟨L4,rfl,_,q4⟩,⟨_,_,rfl,⟨L5,rfl,_,q5⟩,⟨_,_,rfl,⟨v6,rfl,_,_⟩,rfl⟩⟩⟩⟩⟩⟩⟩:=hs;simp only[Rvs,Rv,dS,dI,dB]at hr;obtain⟨_,_,rfl,rfl,⟨_,_,rfl,⟨x1,z1,rfl,y1,m1⟩,⟨_,_,rfl,⟨x2,z2,rfl,y2,m2⟩,⟨_,_,rfl,⟨x3,z3,rfl,y3,m3⟩,⟨_,_,rfl,⟨x4,z4,rfl,y4,m4⟩,⟨_,_,rfl,⟨x5,z5,rfl,y5,m5⟩,⟨_,_,rfl,rfl,rfl⟩⟩⟩⟩⟩⟩⟩:=hr;have hp:w.heap.size≤w.heap.size:=Nat.le_refl _;have hF:=Keep.refl w;refine zfq (sv s0) x1 L1.length z1 x2 L2.length z2 x3 L3.length z3 x4 L4.length z4 x5 L5.length z5 v6 (fun k=>sv (tS (gt (L1.getD k []) 0))) (fun k=>sv (tS (gt (L2.getD k []) 0))) (fun k=>sv (tS (gt (L2.getD k []) 1))) (fun k=>sv (tS (gt (L3.getD k []) 0))) (fun k=>sv (tS (gt (L5.getD k []) 0))) (fun k=>sv (tS (gt (L5.getD k []) 1))) (sA w x3 3 1) (sN w x3 3 1) (sC w x3 3 1) (sA w x4 1 0) (sN w x4 1 0) (sC w x4 1 0) (fun k j=>sA w (sA w x4 1 0 k) 2 1 j) (fun k j=>sN w (sA w x4 1 0 k) 2 1 j) (fun k j=>sC w (sA w x4 1 0 k) 2 1 j) w (hide zeW) (hide fun k hk=>?_) (hide fun k hk=>?_) (hide fun k hk=>?_) (hide fun k hk=>?_) (hide fun k hk=>?_) (hide fun k hk j hj=>?_) (hide fun k hk=>?_)
 ·obtain⟨ad,e,_,h0,_⟩:=clHead hF q1 m1 k hk;exact⟨ad,e,h0⟩
 ·obtain⟨ad,e,_,h0,h1,_⟩:=clPed hF q2 m2 k hk;exact⟨ad,e,h0,h1⟩
 ·obtain⟨ad,e,_,h0,h1,_⟩:=clPhase hF q3 m3 k hk;exact⟨ad,e,h0,h1⟩
 ·obtain⟨r1,r2,r3,r4⟩:=rsPhase q3 m3 k hk;rw[r1];exact zgv r4 r3 r2
 ·obtain⟨ad,e,_,h0⟩:=clGroup hF q4 m4 k hk;exact⟨ad,e,h0⟩
 ·obtain⟨r1,r2,r3,r4⟩:=rsGroup q4 m4 k hk;rw[r1]at hj;obtain⟨ad,e,_,_,h1⟩:=clRow hF r4 r3 j hj;obtain⟨t1,t2,t3,t4⟩:=rsRow r4 r3 j hj;refine⟨ad,e,h1,?_⟩;show Rw w (.slice _ (sN w (sA w x4 1 0 k) 2 1 j) _);rw[t1];exact zgv t4 t3 t2
 ·obtain⟨ad,e,_,h0,h1,_⟩:=clFoe hF q5 m5 k hk;exact⟨ad,e,h0,h1⟩
set_option maxHeartbeats 16000000 in
theorem zhX (v0 v1 v2 v3 v4:Int) (a5:Option Addr) (n5 c5:Nat) (a6:Option Addr) (n6 c6:Nat) (v7 v8:Int) (S0:Nat→ByteArray) (A1:Nat→Option Addr) (N1 C1:Nat→Nat) (A2:Nat→Option Addr) (N2 C2:Nat→Nat) (A3:Nat→Option Addr) (N3 C3:Nat→Nat) (A4:Nat→Option Addr) (N4 C4:Nat→Nat) (A5:Nat→Option Addr) (N5 C5:Nat→Nat) (V6:Nat→Int) (X6 Y6 Z6:Nat→ByteArray) (w:World)
  (TS:Hid (∀ v w',Rw w' v→Calls Tryz.prog 15 #[v] w' (Ab w')))
  (TN:Hid (∀ k,k<n5→∀ w',Keep w w'→Calls Tryz.prog 14 #[.agg #[.string (S0 k),.slice (A1 k) (N1 k) (C1 k),.slice (A2 k) (N2 k) (C2 k),.slice (A3 k) (N3 k) (C3 k),.slice (A4 k) (N4 k) (C4 k),.slice (A5 k) (N5 k) (C5 k),.int .i64 (V6 k)]] w' (Ak w')))
  (HC5:Hid (∀ k,k<n5→∃ ad,a5=some ad∧w.cell? (ad.add (k * 7))=some (.string (S0 k))∧w.cell? ⟨(ad.add (k * 7)).block,(ad.add (k * 7)).off+1,none⟩=some (.slice (A1 k) (N1 k) (C1 k))∧w.cell? ⟨(ad.add (k * 7)).block,(ad.add (k * 7)).off+2,none⟩=some (.slice (A2 k) (N2 k) (C2 k))∧w.cell? ⟨(ad.add (k * 7)).block,(ad.add (k * 7)).off+3,none⟩=some (.slice (A3 k) (N3 k) (C3 k))∧w.cell? ⟨(ad.add (k * 7)).block,(ad.add (k * 7)).off+4,none⟩=some (.slice (A4 k) (N4 k) (C4 k))∧w.cell? ⟨(ad.add (k * 7)).block,(ad.add (k * 7)).off+5,none⟩=some (.slice (A5 k) (N5 k) (C5 k))∧w.cell? ⟨(ad.add (k * 7)).block,(ad.add (k * 7)).off+6,none⟩=some (.int .i64 (V6 k))))
  (HC6:Hid (∀ k,k<n6→∃ ad,a6=some ad∧w.cell? (ad.add (k * 6))=some (.string (X6 k))∧w.cell? ⟨(ad.add (k * 6)).block,(ad.add (k * 6)).off+1,none⟩=some (.string (Y6 k))∧w.cell? ⟨(ad.add (k * 6)).block,(ad.add (k * 6)).off+2,none⟩=some (.string (Z6 k)))):
  Calls Tryz.prog 5 #[.agg #[.int .i64 v0,.int .i64 v1,.int .i64 v2,.int .i64 v3,.int .i64 v4,.slice a5 n5 c5,.slice a6 n6 c6,.int .i64 v7,.int .i64 v8]] w (Ak w):=by
 have HK0:=hide ((Keep.refl w).alloc (.cells #[.int .i64 v0,.int .i64 v1,.int .i64 v2,.int .i64 v3,.int .i64 v4,.slice a5 n5 c5,.slice a6 n6 c6,.int .i64 v7,.int .i64 v8] 27));have HB0:Hid ((w.alloc (.cells #[.int .i64 v0,.int .i64 v1,.int .i64 v2,.int .i64 v3,.int .i64 v4,.slice a5 n5 c5,.slice a6 n6 c6,.int .i64 v7,.int .i64 v8] 27)).heap[w.heap.size]? =some (.cells #[.int .i64 v0,.int .i64 v1,.int .i64 v2,.int .i64 v3,.int .i64 v4,.slice a5 n5 c5,.slice a6 n6 c6,.int .i64 v7,.int .i64 v8] 27 (0,0))):=hide (heap_alloc_new w _);go_enter Tryz.func5,Tryz.ntmps5
 go_upto_region 1 with fail
 generalize w.alloc (.cells #[.int .i64 v0,.int .i64 v1,.int .i64 v2,.int .i64 v3,.int .i64 v4,.slice a5 n5 c5,.slice a6 n6 c6,.int .i64 v7,.int .i64 v8] 27)=w0 at HK0 HB0 ⊢;obtain⟨gb,HGB⟩:∃ gb,Hid (w.heap.size=gb):=⟨_,rfl⟩;rw[uq HGB]at HB0 ⊢;have z5:w0.cell? ⟨gb,5,none⟩=some (.slice a5 n5 c5):=by simp[World.cell?,uq HB0]
 have z6:w0.cell? ⟨gb,6,none⟩=some (.slice a6 n6 c6):=by simp[World.cell?,uq HB0]
 by_cases g1:(15:Int)<(n5:Int)
 ·go_wp2_with fail
  go_ret;exact⟨_,rfl,uq HK0⟩
 by_cases g2:(15:Int)<(n6:Int)
 ·go_wp2_with fail
  go_ret;exact⟨_,rfl,uq HK0⟩
 have HNN:Hid (n5≤15∧n6≤15):=hide (by omega);go_wp2_with fail
 clear g1 g2 z5 z6
 go_loopw [3] (fun vi wr=>∃ k:Nat,k≤n5∧vi= .int .i64 (k:Int)∧Hid (Keep w wr)∧Hid (wr.heap[gb]? =some (.cells #[.int .i64 v0,.int .i64 v1,.int .i64 v2,.int .i64 v3,.int .i64 v4,.slice a5 n5 c5,.slice a6 n6 c6,.int .i64 v7,.int .i64 v8] 27 (0,0)))) (fun vi _=>n5 - (intOf vi).toNat)
 case atStart=>exact⟨0,Nat.zero_le _,rfl,HK0,HB0⟩
 case round=>
  obtain⟨k,hk,rfl,HK,HB⟩:=hrel;have z5:wr.cell? ⟨gb,5,none⟩=some (.slice a5 n5 c5):=by simp[World.cell?,uq HB]
  by_cases hlt:k<n5
  ·have li:(k:Int)<(n5:Int):=by omega
   have hk9:k≤100:=by have:=uq HNN;omega
   have HT:=hide ((uq TN) k hlt wr (uq HK));obtain⟨ad,rfl,e0,e1,e2,e3,e4,e5,e6⟩:=(uq HC5) k hlt;have x0:=Q.kcell (uq HK) e0;have x1:=Q.kcell (uq HK) e1;have x2:=Q.kcell (uq HK) e2;have x3:=Q.kcell (uq HK) e3;have x4:=Q.kcell (uq HK) e4;have x5:=Q.kcell (uq HK) e5;have x6:=Q.kcell (uq HK) e6;clear e0 e1 e2 e3 e4 e5 e6;go_wp2_with fail
   (refine(uq HT).mono ?_;rintro e w5 ⟨b,rfl,hk5⟩;have HK5:=hide hk5;clear hk5);cases b
   ·go_wp2_with fail
    go_ret;exact⟨_,rfl,(uq HK).trans (uq HK5)⟩
   ·go_wp2_with fail
    go_roundw
    case rel=>exact⟨k+1,hlt,by go_num,hide ((uq HK).trans (uq HK5)),hide (((uq HK5).block gb (Array.getElem?_eq_some_iff.1 (uq HB)).1).trans (uq HB))⟩
    case measure=>simp[intOf];omega
  ·have li:¬(k:Int)<(n5:Int):=by omega
   clear hlt hk;go_wp2_with fail
   go_loopw [4] (fun vi wr=>∃ k:Nat,k≤n6∧vi= .int .i64 (k:Int)∧Hid (Keep w wr)∧Hid (wr.heap[gb]? =some (.cells #[.int .i64 v0,.int .i64 v1,.int .i64 v2,.int .i64 v3,.int .i64 v4,.slice a5 n5 c5,.slice a6 n6 c6,.int .i64 v7,.int .i64 v8] 27 (0,0)))) (fun vi _=>n6 - (intOf vi).toNat)
   case atStart=>exact⟨0,Nat.zero_le _,rfl,HK,HB⟩
   case round=>
    obtain⟨k,hk,rfl,HK,HB⟩:=hrel;have z6:wr.cell? ⟨gb,6,none⟩=some (.slice a6 n6 c6):=by simp[World.cell?,uq HB]
    by_cases hlt:k<n6
    ·have li:(k:Int)<(n6:Int):=by omega
     have hk9:k≤100:=by have:=uq HNN;omega
     obtain⟨ad,rfl,e0,e1,e2⟩:=(uq HC6) k hlt;have x0:=Q.kcell (uq HK) e0;have x1:=Q.kcell (uq HK) e1;have x2:=Q.kcell (uq HK) e2;clear e0 e1 e2;generalize X6 k=X at x0;generalize Y6 k=Y at x1;generalize Z6 k=Z at x2;have HSX:Hid (∀ w',Keep wr w'→w'.cell? ⟨gb,6,none⟩=some (.slice (some ad) n6 c6)∧w'.cell? (ad.add (k * 6))=some (.string X)∧w'.cell? ⟨(ad.add (k * 6)).block,(ad.add (k * 6)).off+1,none⟩=some (.string Y)∧w'.cell? ⟨(ad.add (k * 6)).block,(ad.add (k * 6)).off+2,none⟩=some (.string Z)):=hide (fun w' k9=>⟨Q.kcell k9 z6,Q.kcell k9 x0,Q.kcell k9 x1,Q.kcell k9 x2⟩)
     go_upto_region 11 with fail
     refine wp_region_held_drew (S:=fun w'=>w'.cell? ⟨gb,6,none⟩=some (.slice (some ad) n6 c6)∧w'.cell? (ad.add (k * 6))=some (.string X)∧w'.cell? ⟨(ad.add (k * 6)).block,(ad.add (k * 6)).off+1,none⟩=some (.string Y)∧w'.cell? ⟨(ad.add (k * 6)).block,(ad.add (k * 6)).off+2,none⟩=some (.string Z)) (by kernel_rfl) (by exact(uq HSX) _ (by repeat(first|apply Keep.alloc|apply Keep.drew|exact Keep.refl _))) (fun hHeld=>?_);refine tkk 0 36 hHeld ?_;try simp only[Act.put,Ya,Yb,Yc]
     refine tkk 1 37 hHeld ?_;try simp only[Act.put,Ya,Yb,Yc]
     refine tkk 2 38 hHeld ?_;try simp only[Act.put,Ya,Yb,Yc]
     refine tkk 3 39 hHeld ?_;try simp only[Act.put,Ya,Yb,Yc]
     refine tkk 4 40 hHeld ?_;try simp only[Act.put,Ya,Yb,Yc]
     refine tkk 5 41 hHeld ?_;try simp only[Act.put,Ya,Yb,Yc]
     refine tkk 6 42 hHeld ?_;try simp only[Act.put,Ya,Yb,Yc]
     refine tkk 7 43 hHeld ?_;try simp only[Act.put,Ya,Yb,Yc]
     refine tkk 8 44 hHeld ?_;try simp only[Act.put,Ya,Yb,Yc]
     refine tkk 9 45 hHeld ?_;try simp only[Act.put,Ya,Yb,Yc]
     refine tkk 10 46 hHeld ?_;try simp only[Act.put,Ya,Yb,Yc]
     refine tkk 11 47 hHeld ?_;try simp only[Act.put,Ya,Yb,Yc]
     refine tkk 12 48 hHeld ?_;try simp only[Act.put,Ya,Yb,Yc]
     refine tkk 13 49 hHeld ?_;try simp only[Act.put,Ya,Yb,Yc]
     refine tkk 14 50 hHeld ?_;try simp only[Act.put,Ya,Yb,Yc]
     refine tkk 15 51 hHeld ?_;try simp only[Act.put,Ya,Yb,Yc]
     refine tkk 16 52 hHeld ?_;try simp only[Act.put,Ya,Yb,Yc]
     refine tkk 17 53 hHeld ?_;try simp only[Act.put,Ya,Yb,Yc]
     refine zal 18 (fun K hK=>?_);go_simp;clear hHeld;refine hK.out _ _ ?_ (fun hHeld=>?_)
     ·exact(uq HSX) _ (by repeat(first|apply Keep.alloc|apply Keep.drew|exact Keep.refl _))
     clear hK K;try simp only[Act.put,Ya,Yb,Yc]
     refine zal 19 (fun K hK=>?_);go_simp;clear hHeld;(refine((uq TS) _ _ (zkY wr.drew X Y Z 9)).mono ?_;rintro e w5 ⟨b,rfl,rfl⟩);try go_wp2_with fail
     refine hK.out _ _ ?_ (fun hHeld=>?_)
     ·exact(uq HSX) _ (by repeat(first|apply Keep.alloc|apply Keep.drew|exact Keep.refl _))
     clear hK K;try simp only[Act.put,Ya,Yb,Yc]
     refine tkk 20 56 hHeld ?_;try simp only[Act.put,Ya,Yb,Yc]
     refine wpAnyH_done (by kernel_rfl) ?_ _;clear hHeld;cases b
     ·go_wp2_with fail
      go_ret;exact⟨_,rfl,(by have:=uq HK;repeat(first|exact this|apply Keep.alloc|apply Keep.drew))⟩
     ·go_wp2_with fail
      go_roundw
      case rel=>exact⟨k+1,hlt,by go_num,hide (by have:=uq HK;repeat(first|exact this|apply Keep.alloc|apply Keep.drew)),hide ((heap_alloc_old wr (.cells #[.string X,.string Y,.string Z] 9) (Array.getElem?_eq_some_iff.1 (uq HB)).1).trans (uq HB))⟩
      case measure=>simp[intOf];omega
    ·have li:¬(k:Int)<(n6:Int):=by omega
     go_wp2_with fail
     go_ret;exact⟨_,rfl,uq HK⟩
theorem zkZ {w:World} {ds:List D} {us:List Value} (hs:ShL zgo ds) (hr:Rvs w ds us):Calls Tryz.prog 5 #[.agg us.toArray] w (Ak w):=by
 simp only[ShL,Sh1,zgo]at hs;obtain⟨_,_,rfl,⟨v0,rfl,_,_⟩,⟨_,_,rfl,⟨v1,rfl,_,_⟩,⟨_,_,rfl,⟨v2,rfl,_,_⟩,⟨_,_,rfl,⟨v3,rfl,_,_⟩,⟨_,_,rfl,⟨v4,rfl,_,_⟩,⟨_,_,rfl,⟨L5,rfl,_,q5⟩,⟨_,_,rfl,⟨L6,rfl,_,q6⟩,⟨_,_,rfl,⟨v7,rfl,_,_⟩,⟨_,_,rfl,⟨v8,rfl,_,_⟩,rfl⟩⟩⟩⟩⟩⟩⟩⟩⟩:=hs;simp only[Rvs,Rv,dS,dI,dB]at hr;obtain⟨_,_,rfl,rfl,⟨_,_,rfl,rfl,⟨_,_,rfl,rfl,⟨_,_,rfl,rfl,⟨_,_,rfl,rfl,⟨_,_,rfl,⟨x5,z5,rfl,y5,m5⟩,⟨_,_,rfl,⟨x6,z6,rfl,y6,m6⟩,⟨_,_,rfl,rfl,⟨_,_,rfl,rfl,rfl⟩⟩⟩⟩⟩⟩⟩⟩⟩:=hr;have hp:w.heap.size≤w.heap.size:=Nat.le_refl _;have hF:=Keep.refl w;refine zhX v0 v1 v2 v3 v4 x5 L5.length z5 x6 L6.length z6 v7 v8 (fun k=>sv (tS (gt (L5.getD k []) 0))) (sA w x5 7 1) (sN w x5 7 1) (sC w x5 7 1) (sA w x5 7 2) (sN w x5 7 2) (sC w x5 7 2) (sA w x5 7 3) (sN w x5 7 3) (sC w x5 7 3) (sA w x5 7 4) (sN w x5 7 4) (sC w x5 7 4) (sA w x5 7 5) (sN w x5 7 5) (sC w x5 7 5) (fun k=>fI (gt (L5.getD k []) 6)) (fun k=>sv (tS (gt (L6.getD k []) 0))) (fun k=>sv (tS (gt (L6.getD k []) 1))) (fun k=>sv (tS (gt (L6.getD k []) 2))) w (hide zeW) (hide fun k hk w' hw=>?_) (hide fun k hk=>?_) (hide fun k hk=>?_)
 ·exact zgw (q5 _ (zgu hk)) (Rvs.keep hw _ _ (zdp q5 m5 k hk))
 ·obtain⟨ad,e,_,h⟩:=clNode hF q5 m5 k hk;exact⟨ad,e,h⟩
 ·obtain⟨ad,e,_,h0,h1,h2,_⟩:=clStop hF q6 m6 k hk;exact⟨ad,e,h0,h1,h2⟩
end S
end Go.Proofs.YtpmaonkelkmhbaaGreat
namespace Go.Proofs.YtpmaonkelkmhbaaGreat
open Go.RowKit Go.Maps
set_option linter.unusedVariables false
set_option linter.unusedSimpArgs false
set_option maxRecDepth 10000
namespace V
theorem law:Keyed Tryz.prog 9:=string_keyed Tryz.underlying9
theorem zk0 (w:World):(zeroValue 3).run Tryz.prog w= .ok (.int .i64 0) w:=by kernel_rfl
def lk (M:List (List UInt8×Int)) (s:List UInt8):Int:=match M.find? (fun p=>p.1==s)with|some p=>p.2|none=>0
def hs (M:List (List UInt8×Int)) (s:List UInt8):Bool:=M.any (fun p=>p.1==s)
def Mp (w:World) (b:Nat) (M:List (List UInt8×Int)):Prop:=∃ D:DataW Unit,w.ownsMap Tryz.prog 9 (plainElem Tryz.prog 3) b M.length D
 ∧(∀ s:List UInt8,Maps.has D (.string s)=hs M s)∧(∀ s:List UInt8,D.atKey (.string s) (.lit (.int .i64 0))= .lit (.int .i64 (lk M s)))
theorem Mp.kept {w w':World} {b:Nat} {M:List (List UInt8×Int)} {row:Option Nat} (h:Mp w b M) (hg:w.grownBy w' row) (hne:some b≠row):Mp w' b M:=by
 obtain⟨D,h1,h2⟩:=h;exact⟨D,h1.kept hg hne,h2⟩
theorem zfr {w w':World} (h:Keep w w'):w.grownBy w' none:=⟨h.os,h.tape,h.output,h.size,fun k hk _=>h.block k hk⟩
theorem Mp.keep {w w':World} {b:Nat} {M:List (List UInt8×Int)} (h:Mp w b M) (hk:Keep w w'):Mp w' b M:=h.kept (zfr hk) (by simp)
theorem Mp.lt {w:World} {b:Nat} {M:List (List UInt8×Int)} (h:Mp w b M):b<w.heap.size:=by obtain⟨D,h1,h2⟩:=h;exact h1.lt
theorem zbM (w:World):Mp (w.alloc (.map #[] 0)) w.heap.size []:=⟨_,World.ownsMap_made _ _ _ _,fun s=>rfl,fun s=>rfl⟩
theorem ziS {M:List (List UInt8×Int)} {s:List UInt8} (n:Int) (t:List UInt8) (h:hs M s=false):lk (M++ [(s,n)]) t=if s=t then n else lk M t:=by
 unfold lk
 rw[List.find?_append];by_cases e:s=t
 ·subst e;have:M.find? (fun p=>p.1==s)=none:=by
   rw[List.find?_eq_none];intro p hp
   have:=List.any_eq_false.1 h p hp;simpa using this
  simp[this]
 ·have e2:(s==t)=false:=by simpa using e
  simp[e,e2]
theorem zgx (M:List (List UInt8×Int)) (s:List UInt8) (n:Int) (t:List UInt8):hs (M++ [(s,n)]) t=(hs M t || s==t):=by simp[hs]
theorem zdQ {s:List UInt8} (hl:s.length≤maxLen):keyOf Tryz.prog 9 (.string (sv s))=some (.string s):=Go.WideMaps.keyOf_string_mk Tryz.underlying9 (s:=sv s) (by rw[zf8];exact hl)
set_option maxHeartbeats 1000000 in
theorem zcO (b:Nat) (M:List (List UInt8×Int)) (s:List UInt8) (w:World) (hM:Mp w b M) (hl:s.length≤maxLen):
  Calls Tryz.prog 91 #[.map (some b),.string (sv s)] w fun e w'=>e= .returned (.bool (hs M s))∧w'=w:=by
 obtain⟨D,hown,h1,h2⟩:=hM;have hkey:=zdQ hl;have H1:=hide h1;clear h1 h2;go_enter Tryz.func91,Tryz.ntmps91;go_wp2_with (first
  |(at_lookup;refine wpList_lookup_own_ok_int _ rfl _ _ 126 rfl 9 3 .i64 law Tryz.underlying126 Tryz.underlying3 (zk0 _) b _ D rfl hown _ _ rfl hkey ?_;intro c hat hwc)
  |fail)
 go_ret;first|exact⟨rfl,rfl⟩|exact⟨by rw[← (uq H1) s];rfl,rfl⟩
def flt (c p:Int):Value:= .iface 122 (.agg #[.int .i64 c,.int .i64 p])
theorem pan (t:TypeId) (v:Value) (w:World):(Instr.panic (.iface t v)).run Tryz.prog w= .halt (.panic (.iface t v)) w:=rfl
theorem zaQ (p c:Int) (w:World):Calls Tryz.prog 73 #[.int .i64 p,.int .i64 c,.bool false] w fun e w'=>e= .returned (.tuple #[])∧w'=w:=by
 have hp:=pan;go_enter Tryz.func73,Tryz.ntmps73;go_wp2_with fail
 go_end0
 exact⟨rfl,rfl⟩
theorem zaJ (p c:Int) (w:World):Calls Tryz.prog 73 #[.int .i64 p,.int .i64 c,.bool true] w fun e w'=>e= .panicked [{ v:=flt c p,recovered:=false }]∧w'=w:=by
 have hp:=pan;go_enter Tryz.func73,Tryz.ntmps73;go_wp2_with fail
 exact⟨rfl,rfl,rfl⟩
def ern (c:Int):Value:= .iface 28 (.int .i64 c)
theorem zgy (c:Int) (w:World):Calls Tryz.prog 68 #[.int .i64 c,.bool false] w fun e w'=>e= .returned (.tuple #[])∧w'=w:=by
 have hp:=pan;go_enter Tryz.func68,Tryz.ntmps68;go_wp2_with fail
 go_end0
 exact⟨rfl,rfl⟩
theorem zfs (c:Int) (w:World):Calls Tryz.prog 68 #[.int .i64 c,.bool true] w fun e w'=>e= .panicked [{ v:=ern c,recovered:=false }]∧w'=w:=by
 have hp:=pan;go_enter Tryz.func68,Tryz.ntmps68;go_wp2_with fail
 exact⟨rfl,rfl,rfl⟩
def En (r:Option Value) (v:Value):Ending:=match r with|none=> .returned v|some x=> .panicked [{ v:=x,recovered:=false }]
def fl (b:Bool) (c p:Int):Option Value:=if b then some (flt c p)else none
set_option maxHeartbeats 1000000 in
theorem zcP (b:Nat) (p:Int) (s:ByteArray) (r:Bool) (w:World) (TH:Hid (∀ w',w'=w→Calls Tryz.prog 91 #[.map (some b),.string s] w' fun e w''=>e= .returned (.bool r)∧w''=w')):
  Calls Tryz.prog 71 #[.map (some b),.int .i64 p,.string s] w fun e w'=>e=En (fl (!r) 72 p) (.tuple #[])∧w'=w:=by
 have TN:=hide zaQ;have TY:=hide zaJ;go_enter Tryz.func71,Tryz.ntmps71;go_wp2_with fail
 (refine((uq TH) _ rfl).mono ?_;rintro e w1 ⟨rfl,rfl⟩);cases r
 ·go_wp2_with fail
  (refine((uq TY) _ _ _).mono ?_;rintro e w2 ⟨rfl,rfl⟩);go_wp2_with fail
  exact⟨rfl,rfl,rfl⟩
 ·go_wp2_with fail
  (refine((uq TN) _ _ _).mono ?_;rintro e w2 ⟨rfl,rfl⟩);go_wp2_with fail
  go_end0
  exact⟨rfl,rfl⟩
theorem zag (b:Nat) (M:List (List UInt8×Int)) (p:Int) (s:List UInt8) (w:World) (hM:Mp w b M) (hl:s.length≤maxLen):
  Calls Tryz.prog 71 #[.map (some b),.int .i64 p,.string (sv s)] w fun e w'=>e=En (fl (!hs M s) 72 p) (.tuple #[])∧w'=w:=
 zcP b p (sv s) (hs M s) w (hide fun w' h=>by subst h;exact zcO b M s _ hM hl)
set_option maxHeartbeats 1000000 in
theorem zcj (b:Nat) (M:List (List UInt8×Int)) (p n:Int) (s:List UInt8) (w:World) (hM:Mp w b M) (hl:s.length≤maxLen) (hn:M.length<maxLen) (hw:(Lit.int .i64 n).wf=true) (hh:hs M s=false):
  Calls Tryz.prog 72 #[.map (some b),.int .i64 p,.string (sv s),.int .i64 n] w fun e w'=>e= .returned (.tuple #[])∧Mp w' b (M++ [(s,n)])∧w.grownBy w' (some b):=by
 have TH:=hide (zcO b M s w hM hl);rw[hh]at TH;have TN:=hide zaQ;obtain⟨D,hown,h1,h2⟩:=hM;have hkey:=zdQ hl;have H1:=hide h1;have H2:=hide h2;have HH:=hide hh;clear h1 h2 hh;generalize sv s=x at TH hkey ⊢;go_enter Tryz.func72,Tryz.ntmps72;go_wp2_with fail
 (refine(uq TH).mono ?_;rintro e w1 ⟨rfl,rfl⟩);go_wp2_with fail
 (refine((uq TN) _ _ _).mono ?_;rintro e w2 ⟨rfl,rfl⟩);go_wp2_with (first|(at_mapUpdate;refine wpList_mapUpdate_own _ rfl _ _ _ 126 rfl 9 3 law Tryz.underlying126 _ b _ D rfl hown hn _ _ _ rfl rfl hkey _ [] (plainElem_int Tryz.underlying3 hw) ?_;intro w3 hown3 hgrow3)|fail)
 go_end0
 refine⟨rfl,⟨_,by rw[List.length_append];exact hown3,fun t=>?_,fun t=>?_⟩,hgrow3⟩
 ·have hD:IsMap D:=(hown.tidy law).isMap;rw[zgx];by_cases e:t=s
  ·subst e;rw[has_put_same hD (show WideAt.IsKeyLit (.string t)from trivial)];simp
  ·rw[has_put_other (by simpa using e),(uq H1) t];have:(s==t)=false:=by simpa using fun h=>e h.symm
   simp[this]
 ·have hD:IsMap D:=(hown.tidy law).isMap;rw[ziS n t (uq HH)];by_cases e:t=s
  ·subst e;rw[atKey_put_same hD (show WideAt.IsKeyLit (.string t)from trivial)];simp
  ·rw[atKey_put_other (by simpa using e),(uq H2) t,if_neg (fun h=>e h.symm)]
set_option maxHeartbeats 1000000 in
theorem zbN (b:Nat) (M:List (List UInt8×Int)) (p n:Int) (s:List UInt8) (w:World) (hM:Mp w b M) (hl:s.length≤maxLen) (hh:hs M s=true):
  Calls Tryz.prog 72 #[.map (some b),.int .i64 p,.string (sv s),.int .i64 n] w fun e w'=>e= .panicked [{ v:=flt 71 p,recovered:=false }]∧w'=w:=by
 have TH:=hide (zcO b M s w hM hl);rw[hh]at TH;have TN:=hide zaJ;clear hM hh;generalize sv s=x at TH ⊢;go_enter Tryz.func72,Tryz.ntmps72;go_wp2_with fail
 (refine(uq TH).mono ?_;rintro e w1 ⟨rfl,rfl⟩);go_wp2_with fail
 (refine((uq TN) _ _ _).mono ?_;rintro e w2 ⟨rfl,rfl⟩);go_wp2_with fail
 exact⟨rfl,rfl,rfl⟩
theorem zed (a n b:Int) (w:World):Calls Tryz.prog 70 #[.int .i64 a,.int .i64 n,.int .i64 b] w fun e w'=>e= .returned (.bool (decide (a≤n∧n≤b)))∧w'=w:=by
 by_cases h1:a≤n
 ·by_cases h2:n≤b
  ·rw[decide_eq_true ⟨h1,h2⟩];go_enter Tryz.func70,Tryz.ntmps70;go_wp2_with fail
   go_ret;exact⟨rfl,rfl⟩
  ·rw[decide_eq_false (fun h=>h2 h.2)];go_enter Tryz.func70,Tryz.ntmps70;go_wp2_with fail
   go_ret;exact⟨rfl,rfl⟩
 ·rw[decide_eq_false (fun h=>h1 h.1)];go_enter Tryz.func70,Tryz.ntmps70;go_wp2_with fail
  go_ret;exact⟨rfl,rfl⟩
end V
end Go.Proofs.YtpmaonkelkmhbaaGreat
