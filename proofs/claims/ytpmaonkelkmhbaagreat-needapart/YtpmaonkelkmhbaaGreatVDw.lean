/- The document's answer for layer 7: walks, foes. -/
import Derived.Test.YtpmaonkelkmhbaaGreatVDh
import Derived.Test.YtpmaonkelkmhbaaGreatLSkip
import Derived.Deep.DrawnRows
import Derived.Deep.RegionHeld3
namespace Go.Proofs.YtpmaonkelkmhbaaGreat
open Go.RowKit
attribute [local go_sem ↓] Go.wp_at_zero Go.wp_at_succ
set_option linter.unusedVariables false
set_option linter.unusedSimpArgs false
set_option maxRecDepth 10000
namespace V
set_option maxHeartbeats 4000000 in
theorem zez (s:ByteArray) (x1:Option Addr) (n1 c1:Nat) (x2:Option Addr) (n2 c2:Nat) (x3:Option Addr) (n3 c3:Nat) (x4:Option Addr) (n4 c4:Nat) (x5:Option Addr) (n5 c5:Nat) (p:Int) (T U:Nat→List UInt8) (MP:List (List UInt8×Int)) (pI:List UInt8→Int) (V2 V3 V4 P:Nat→Int) (r:Eq2) (w:World) (hn:n2≤9223372036854775807)
  (HC:Hid (∀ k,k<n2→∃ ad,x2=some ad∧ad.block<w.heap.size∧w.cell? (ad.add (k * 6))=some (.string (sv (T k)))∧w.cell? ⟨(ad.add (k * 6)).block,(ad.add (k * 6)).off+1,none⟩=some (.string (sv (U k)))∧w.cell? ⟨(ad.add (k * 6)).block,(ad.add (k * 6)).off+2,none⟩=some (.int .i64 (V2 k))∧w.cell? ⟨(ad.add (k * 6)).block,(ad.add (k * 6)).off+3,none⟩=some (.int .i64 (V3 k))∧w.cell? ⟨(ad.add (k * 6)).block,(ad.add (k * 6)).off+4,none⟩=some (.int .i64 (V4 k))∧w.cell? ⟨(ad.add (k * 6)).block,(ad.add (k * 6)).off+5,none⟩=some (.int .i64 (P k))))
  (TP:Hid (∀ nm w',Keep w w'→Calls Tryz.prog 43 #[.agg #[.string s,.slice x1 n1 c1,.slice x2 n2 c2,.slice x3 n3 c3,.slice x4 n4 c4,.slice x5 n5 c5,.int .i64 p],.string (sv nm)] w' fun e w''=>e= .returned (.int .i64 (pI nm))∧Keep w' w''))
  (HPI:Hid (∀ nm,pI nm<0↔hs MP nm=false)) (HI:Hid (fE (wkF T U MP V2 V3 V4 P) 0 n2=r)):
  Calls Tryz.prog 23 #[.agg #[.string s,.slice x1 n1 c1,.slice x2 n2 c2,.slice x3 n3 c3,.slice x4 n4 c4,.slice x5 n5 c5,.int .i64 p]] w (Zq r w):=by
 have TB:=hide zcD;have hnw:=heap_alloc_new w (.cells #[.string s,.slice x1 n1 c1,.slice x2 n2 c2,.slice x3 n3 c3,.slice x4 n4 c4,.slice x5 n5 c5,.int .i64 p] 39);have K0:=hide ((Keep.refl w).alloc (.cells #[.string s,.slice x1 n1 c1,.slice x2 n2 c2,.slice x3 n3 c3,.slice x4 n4 c4,.slice x5 n5 c5,.int .i64 p] 39));go_enter Tryz.func23,Tryz.ntmps23
 go_upto_region 1 with fail
 generalize w.alloc (.cells #[.string s,.slice x1 n1 c1,.slice x2 n2 c2,.slice x3 n3 c3,.slice x4 n4 c4,.slice x5 n5 c5,.int .i64 p] 39)=w0 at hnw K0 ⊢;obtain⟨q0,HQ0⟩:∃ q,Hid (w.heap.size=q):=⟨_,hide rfl⟩;rw[uq HQ0]at hnw ⊢;have HX0:Hid (∀ w':World,Keep w0 w'→w'.cell? ⟨q0,0,none⟩=some (.string s)∧w'.cell? ⟨q0,1,none⟩=some (.slice x1 n1 c1)∧w'.cell? ⟨q0,2,none⟩=some (.slice x2 n2 c2)∧w'.cell? ⟨q0,3,none⟩=some (.slice x3 n3 c3)∧w'.cell? ⟨q0,4,none⟩=some (.slice x4 n4 c4)∧w'.cell? ⟨q0,5,none⟩=some (.slice x5 n5 c5)∧w'.cell? ⟨q0,6,none⟩=some (.int .i64 p)):=hide (fun w' k9=>by
  have h1:=k9.block q0 (Array.getElem?_eq_some_iff.1 hnw).1;rw[hnw]at h1;refine⟨?_,?_,?_,?_,?_,?_,?_⟩<;>simp[World.cell?,h1])
 clear hnw;go_wp2_with fail
 go_loopw [4] (fun vi wr=>∃ k:Nat,vi= .int .i64 (k:Int)∧k≤n2∧Hid (Keep w0 wr)∧Hid (fE (wkF T U MP V2 V3 V4 P) k (n2 - k)=r)) (fun vi _=>n2 - (intOf vi).toNat)
 case atStart=>exact⟨0,rfl,by omega,hide (Keep.refl _),HI⟩
 case round=>
  obtain⟨k,rfl,hk,KW,HF⟩:=hrel;obtain⟨z0,z1,z2,z3,z4,z5,z6⟩:=(uq HX0) wr (uq KW);by_cases hlt:k<n2
  ·have li:(k:Int)<(n2:Int):=by omega
   have KWW:=hide ((uq K0).trans (uq KW));have HCk:=(uq HC) k hlt;obtain⟨ad,rfl,hb,e0,e1,e2,e3,e4,e5⟩:=HCk;have y0:=far_cell (uq KWW) (by rw[add_block9];exact hb) e0;have y1:=far_cell (uq KWW) (by show(ad.add (k * 6)).block<_;rw[add_block9];exact hb) e1;have y2:=far_cell (uq KWW) (by show(ad.add (k * 6)).block<_;rw[add_block9];exact hb) e2;have y3:=far_cell (uq KWW) (by show(ad.add (k * 6)).block<_;rw[add_block9];exact hb) e3;have y4:=far_cell (uq KWW) (by show(ad.add (k * 6)).block<_;rw[add_block9];exact hb) e4;have y5:=far_cell (uq KWW) (by show(ad.add (k * 6)).block<_;rw[add_block9];exact hb) e5;clear e0 e1 e2 e3 e4 e5;have hbx:=heap_alloc_new wr (.cells #[.string (sv (T k)),.string (sv (U k)),.int .i64 (V2 k),.int .i64 (V3 k),.int .i64 (V4 k),.int .i64 (P k)] 86);have KB:=hide ((uq KW).alloc (.cells #[.string (sv (T k)),.string (sv (U k)),.int .i64 (V2 k),.int .i64 (V3 k),.int .i64 (V4 k),.int .i64 (P k)] 86))
   go_upto_region 5 with fail
   generalize wr.alloc (.cells #[.string (sv (T k)),.string (sv (U k)),.int .i64 (V2 k),.int .i64 (V3 k),.int .i64 (V4 k),.int .i64 (P k)] 86)=wa at hbx KB ⊢;obtain⟨q,HQ⟩:∃ q,Hid (wr.heap.size=q):=⟨_,hide rfl⟩;rw[uq HQ]at hbx ⊢;have HXX:Hid (∀ w':World,Keep wa w'→(w'.cell? ⟨q0,0,none⟩=some (.string s)∧w'.cell? ⟨q0,1,none⟩=some (.slice x1 n1 c1)∧w'.cell? ⟨q0,2,none⟩=some (.slice (some ad) n2 c2)∧w'.cell? ⟨q0,3,none⟩=some (.slice x3 n3 c3)∧w'.cell? ⟨q0,4,none⟩=some (.slice x4 n4 c4)∧w'.cell? ⟨q0,5,none⟩=some (.slice x5 n5 c5)∧w'.cell? ⟨q0,6,none⟩=some (.int .i64 p))∧w'.cell? ⟨q,0,none⟩=some (.string (sv (T k)))∧w'.cell? ⟨q,1,none⟩=some (.string (sv (U k)))∧w'.cell? ⟨q,2,none⟩=some (.int .i64 (V2 k))∧w'.cell? ⟨q,3,none⟩=some (.int .i64 (V3 k))∧w'.cell? ⟨q,4,none⟩=some (.int .i64 (V4 k))∧w'.cell? ⟨q,5,none⟩=some (.int .i64 (P k))):=hide (fun w' k9=>by
    have h1:=k9.block q (Array.getElem?_eq_some_iff.1 hbx).1;rw[hbx]at h1;refine⟨(uq HX0) w' ((uq KB).trans k9),?_,?_,?_,?_,?_,?_⟩<;>simp[World.cell?,h1])
   clear hbx y0 y1 y2 y3 y4 y5 z0 z1 z2 z3 z4 z5 z6;obtain⟨⟨z0,z1,z2,z3,z4,z5,z6⟩,f0,f1,f2,f3,f4,f5⟩:=(uq HXX) wa (Keep.refl wa);go_wp2_with fail
   clear z0 z1 z2 z3 z4 z5 z6 f0 f1 f2 f3 f4 f5;have HLT:=hide hlt;have HKN:=hide hk
   go_loopw [6] (fun vm wq=>∃ m:Nat,vm= .int .i64 (m:Int)∧m≤k∧Hid (Keep wa wq)∧Hid (∀ j,j<m→¬T j=T k)) (fun vm _=>k - (intOf vm).toNat)
   case atStart=>exact⟨0,rfl,Nat.zero_le _,hide (Keep.refl _),hide (fun j hj=>absurd hj (Nat.not_lt_zero _))⟩
   case round=>
    obtain⟨m,rfl,hm,KM,HN⟩:=hrel;obtain⟨⟨z0,z1,z2,z3,z4,z5,z6⟩,f0,f1,f2,f3,f4,f5⟩:=(uq HXX) wr (uq KM);by_cases hmt:m<k
    ·have lm:(m:Int)<(k:Int):=by omega
     have hmn:m<n2:=by omega
     obtain⟨ad2,hA,_,e0,_⟩:=(uq HC) m (by omega);cases hA
     have y0:=far_cell ((uq K0).trans ((uq KB).trans (uq KM))) (by rw[add_block9];exact hb) e0;clear e0;have HD9:Hid (∀ w',Keep wr w'→w'.cell? ⟨q0,2,none⟩=some (.slice (some ad) n2 c2)∧w'.cell? (ad.add (m * 6))=some (.string (sv (T m)))∧w'.cell? ⟨q,0,none⟩=some (.string (sv (T k)))):=hide (fun w' k9=>by obtain⟨⟨_,_,g2,_⟩,g0,_⟩:=(uq HXX) w' ((uq KM).trans k9);exact⟨g2,far_cell k9 (by have:=Below.size ((uq K0).trans ((uq KB).trans (uq KM)));rw[add_block9];omega) y0,g0⟩);have e9:=sv_beq (T m) (T k);cases hB:(T m==T k)
     ·rw[hB]at e9;have HN2:Hid (∀ j,j<m+1→¬T j=T k):=hide (fun j hj=>(Nat.lt_succ_iff_lt_or_eq.1 hj).elim (fun h=>(uq HN) j h) (fun h=>by subst h;simpa using hB));clear HN hB
      go_upto_region 8 with fail
      refine wp_region_held_drew (S:=(fun w'=>w'.cell? ⟨q0,2,none⟩=some (.slice (some ad) n2 c2)∧w'.cell? (ad.add (m * 6))=some (.string (sv (T m)))∧w'.cell? ⟨q,0,none⟩=some (.string (sv (T k))))) (by kernel_rfl) (by exact(uq HD9) _ (Keep.refl wr).drew) (fun hHeld=>?_);refine tkk 0 24 hHeld ?_;try simp only[Act.put,Ya,Yb,Yc]
      refine tkk 1 25 hHeld ?_;try simp only[Act.put,Ya,Yb,Yc]
      refine tkk 2 26 hHeld ?_;try simp only[Act.put,Ya,Yb,Yc]
      refine tkk 3 27 hHeld ?_;try simp only[Act.put,Ya,Yb,Yc]
      refine tkk 4 28 hHeld ?_;try simp only[Act.put,Ya,Yb,Yc]
      refine tkk 5 29 hHeld ?_;try simp only[Act.put,Ya,Yb,Yc]
      refine tkk 6 30 hHeld ?_;try simp only[Act.put,Ya,Yb,Yc]
      refine tkk 7 31 hHeld ?_;try simp only[Act.put,Ya,Yb,Yc]
      refine tkk 8 32 hHeld ?_;try simp only[Act.put,Ya,Yb,Yc]
      refine wpAnyH_done (by kernel_rfl) ?_ _;clear hHeld;go_wp2_with fail
      go_roundw
      case rel=>exact⟨m+1,by go_num,by omega,hide ((uq KM).drew),HN2⟩
      case measure=>simp[intOf];omega
     ·rw[hB]at e9;have hh:hs (mk T k) (T k)=true:=zbb.2 (by simp only[mk,List.map_map,List.mem_map,List.mem_range,Function.comp];exact⟨m,hmt,by simpa using hB⟩);have hr:=zab (uq HF) (uq HLT) (show wkF T U MP V2 V3 V4 P k=some (71,P k) by unfold wkF;rw[if_pos hh]);subst hr;clear HF HN hB hh
      go_upto_region 8 with fail
      refine wp_region_held_drew (S:=(fun w'=>w'.cell? ⟨q0,2,none⟩=some (.slice (some ad) n2 c2)∧w'.cell? (ad.add (m * 6))=some (.string (sv (T m)))∧w'.cell? ⟨q,0,none⟩=some (.string (sv (T k))))) (by kernel_rfl) (by exact(uq HD9) _ (Keep.refl wr).drew) (fun hHeld=>?_);refine tkk 0 24 hHeld ?_;try simp only[Act.put,Ya,Yb,Yc]
      refine tkk 1 25 hHeld ?_;try simp only[Act.put,Ya,Yb,Yc]
      refine tkk 2 26 hHeld ?_;try simp only[Act.put,Ya,Yb,Yc]
      refine tkk 3 27 hHeld ?_;try simp only[Act.put,Ya,Yb,Yc]
      refine tkk 4 28 hHeld ?_;try simp only[Act.put,Ya,Yb,Yc]
      refine tkk 5 29 hHeld ?_;try simp only[Act.put,Ya,Yb,Yc]
      refine tkk 6 30 hHeld ?_;try simp only[Act.put,Ya,Yb,Yc]
      refine tkk 7 31 hHeld ?_;try simp only[Act.put,Ya,Yb,Yc]
      refine tkk 8 32 hHeld ?_;try simp only[Act.put,Ya,Yb,Yc]
      refine wpAnyH_done (by kernel_rfl) ?_ _;clear hHeld
      go_upto_region 9 with fail
      refine wp_region_held_drew (S:=(fun w'=>w'.cell? ⟨q,5,none⟩=some (.int .i64 (P k)))) (by kernel_rfl) (by(obtain⟨⟨_,_,_,_,_,_,_⟩,_,_,_,_,_,g9⟩:=(uq HXX) _ ((uq KM).drew).drew;exact g9)) (fun hHeld=>?_);refine tkk 0 33 hHeld ?_;try simp only[Act.put,Ya,Yb,Yc]
      refine tkk 1 34 hHeld ?_;try simp only[Act.put,Ya,Yb,Yc]
      refine tkk 2 2 hHeld ?_;try simp only[Act.put,Ya,Yb,Yc]
      refine tkk 3 3 hHeld ?_;try simp only[Act.put,Ya,Yb,Yc]
      refine wpAnyH_done (by kernel_rfl) ?_ _;clear hHeld;go_wp2_with fail
      go_ret2;exact⟨(uq K0).trans ((uq KB).trans (((uq KM).drew).drew)),rfl⟩
    ·have lm:¬(m:Int)<(k:Int):=by omega
     obtain rfl:m=k:=by omega
     have hh0:hs (mk T m) (T m)=false:=by
      cases h:hs (mk T m) (T m)with
      |false=>rfl
      |true=>have h2:=zbb.1 h;simp only[mk,List.map_map,List.mem_map,List.mem_range,Function.comp]at h2;obtain⟨j,h3,h4⟩:=h2;exact absurd h4 ((uq HN) j h3)
     have HH0:=hide hh0;clear HN hh0;obtain⟨j,HJ⟩:∃ j,Hid (pI (U m)=j):=⟨_,hide rfl⟩;have TK:=hide ((uq TP) (U m) wr ((uq K0).trans ((uq KB).trans (uq KM))));have hjp:=(uq HPI) (U m);rw[uq HJ]at TK hjp;go_wp2_with fail
     (refine(uq TK).mono ?_;rintro e w2 ⟨rfl,hk9⟩;have K2:=hide ((uq KM).trans hk9);clear hk9);obtain⟨⟨z0,z1,z2,z3,z4,z5,z6⟩,f0,f1,f2,f3,f4,f5⟩:=(uq HXX) w2 (uq K2);cases hw:hs MP (U m)
     ·have hj:j<0:=hjp.2 hw;have hr:=zab (uq HF) (uq HLT) (show wkF T U MP V2 V3 V4 P m=some (72,P m) by unfold wkF;rw[if_neg (by rw[uq HH0];decide),if_neg (by rw[hw];decide)]);subst hr;clear HF hjp hw
      go_upto_region 11 with fail
      refine wp_region_held_drew (S:=(fun w'=>w'.cell? ⟨q,5,none⟩=some (.int .i64 (P m)))) (by kernel_rfl) (by(obtain⟨⟨_,_,_,_,_,_,_⟩,_,_,_,_,_,g9⟩:=(uq HXX) _ (uq K2).drew;exact g9)) (fun hHeld=>?_);refine tkk 0 40 hHeld ?_;try simp only[Act.put,Ya,Yb,Yc]
      refine tkk 1 41 hHeld ?_;try simp only[Act.put,Ya,Yb,Yc]
      refine tkk 2 2 hHeld ?_;try simp only[Act.put,Ya,Yb,Yc]
      refine tkk 3 3 hHeld ?_;try simp only[Act.put,Ya,Yb,Yc]
      refine wpAnyH_done (by kernel_rfl) ?_ _;clear hHeld;go_wp2_with fail
      go_ret2;exact⟨(uq K0).trans ((uq KB).trans ((uq K2).drew)),rfl⟩
     have hj:¬j<0:=fun h=>by have:=hjp.1 h;rw[hw]at this;cases this
     have HW:=hide hw;clear hjp hw;go_wp2_with fail
     (refine((uq TB) _ _ _ _).mono ?_;rintro e w2 ⟨rfl,rfl⟩);cases hB2:btw 1 (V2 m) 100000
     ·have hr:=zab (uq HF) (uq HLT) (show wkF T U MP V2 V3 V4 P m=some (70,P m) by unfold wkF;rw[if_neg (by rw[uq HH0];decide),if_pos (uq HW),if_neg (by rw[hB2];decide)]);subst hr;clear HF
      go_upto_region 13 with fail
      refine wp_region_held_drew (S:=(fun w'=>w'.cell? ⟨q,5,none⟩=some (.int .i64 (P m)))) (by kernel_rfl) (by(obtain⟨⟨_,_,_,_,_,_,_⟩,_,_,_,_,_,g9⟩:=(uq HXX) _ (uq K2).drew;exact g9)) (fun hHeld=>?_);refine tkk 0 58 hHeld ?_;try simp only[Act.put,Ya,Yb,Yc]
      refine tkk 1 59 hHeld ?_;try simp only[Act.put,Ya,Yb,Yc]
      refine tkk 2 2 hHeld ?_;try simp only[Act.put,Ya,Yb,Yc]
      refine tkk 3 3 hHeld ?_;try simp only[Act.put,Ya,Yb,Yc]
      refine wpAnyH_done (by kernel_rfl) ?_ _;clear hHeld;go_wp2_with fail
      go_ret2;exact⟨(uq K0).trans ((uq KB).trans ((uq K2).drew)),rfl⟩
     go_wp2_with fail
     (refine((uq TB) _ _ _ _).mono ?_;rintro e w2 ⟨rfl,rfl⟩);cases hB3:btw 1 (V3 m) 10000
     ·have hr:=zab (uq HF) (uq HLT) (show wkF T U MP V2 V3 V4 P m=some (70,P m) by unfold wkF;rw[if_neg (by rw[uq HH0];decide),if_pos (uq HW),if_pos hB2,if_neg (by rw[hB3];decide)]);subst hr;clear HF
      go_upto_region 13 with fail
      refine wp_region_held_drew (S:=(fun w'=>w'.cell? ⟨q,5,none⟩=some (.int .i64 (P m)))) (by kernel_rfl) (by(obtain⟨⟨_,_,_,_,_,_,_⟩,_,_,_,_,_,g9⟩:=(uq HXX) _ (uq K2).drew;exact g9)) (fun hHeld=>?_);refine tkk 0 58 hHeld ?_;try simp only[Act.put,Ya,Yb,Yc]
      refine tkk 1 59 hHeld ?_;try simp only[Act.put,Ya,Yb,Yc]
      refine tkk 2 2 hHeld ?_;try simp only[Act.put,Ya,Yb,Yc]
      refine tkk 3 3 hHeld ?_;try simp only[Act.put,Ya,Yb,Yc]
      refine wpAnyH_done (by kernel_rfl) ?_ _;clear hHeld;go_wp2_with fail
      go_ret2;exact⟨(uq K0).trans ((uq KB).trans ((uq K2).drew)),rfl⟩
     go_wp2_with fail
     (refine((uq TB) _ _ _ _).mono ?_;rintro e w2 ⟨rfl,rfl⟩);cases hB4:btw 1 (V4 m) 6000
     ·have hr:=zab (uq HF) (uq HLT) (show wkF T U MP V2 V3 V4 P m=some (70,P m) by unfold wkF;rw[if_neg (by rw[uq HH0];decide),if_pos (uq HW),if_pos hB2,if_pos hB3,if_neg (by rw[hB4];decide)]);subst hr;clear HF
      go_upto_region 13 with fail
      refine wp_region_held_drew (S:=(fun w'=>w'.cell? ⟨q,5,none⟩=some (.int .i64 (P m)))) (by kernel_rfl) (by(obtain⟨⟨_,_,_,_,_,_,_⟩,_,_,_,_,_,g9⟩:=(uq HXX) _ (uq K2).drew;exact g9)) (fun hHeld=>?_);refine tkk 0 58 hHeld ?_;try simp only[Act.put,Ya,Yb,Yc]
      refine tkk 1 59 hHeld ?_;try simp only[Act.put,Ya,Yb,Yc]
      refine tkk 2 2 hHeld ?_;try simp only[Act.put,Ya,Yb,Yc]
      refine tkk 3 3 hHeld ?_;try simp only[Act.put,Ya,Yb,Yc]
      refine wpAnyH_done (by kernel_rfl) ?_ _;clear hHeld;go_wp2_with fail
      go_ret2;exact⟨(uq K0).trans ((uq KB).trans ((uq K2).drew)),rfl⟩
     have HF2:=hide (zaY (uq HF) (uq HLT) (show wkF T U MP V2 V3 V4 P m=none by unfold wkF;rw[if_neg (by rw[uq HH0];decide),if_pos (uq HW),if_pos hB2,if_pos hB3,if_pos hB4]));clear HF;go_wp2_with fail
     go_roundw
     case rel=>exact⟨m+1,by go_num,by have:=uq HLT;omega,hide ((uq KB).trans (uq K2)),HF2⟩
     case measure=>have:=uq HLT;simp[intOf];omega
  ·have li:¬(k:Int)<(n2:Int):=by omega
   have hr:=zaF (uq HF) (by omega);subst hr;go_wp2_with fail
   go_ret2;exact⟨(uq K0).trans (uq KW),rfl⟩
set_option maxHeartbeats 4000000 in
theorem zfV (s:ByteArray) (x1:Option Addr) (n1 c1:Nat) (x2:Option Addr) (n2 c2:Nat) (x3:Option Addr) (n3 c3:Nat) (x4:Option Addr) (n4 c4:Nat) (x5:Option Addr) (n5 c5:Nat) (p:Int) (T U:Nat→List UInt8) (M:List (List UInt8×Int)) (hH hO:List UInt8→Int) (P:Nat→Int) (r:Eq2) (w:World) (hn:n5≤9223372036854775807)
  (HC:Hid (∀ k,k<n5→∃ ad,x5=some ad∧ad.block<w.heap.size∧w.cell? (ad.add (k * 3))=some (.string (sv (T k)))∧w.cell? ⟨(ad.add (k * 3)).block,(ad.add (k * 3)).off+1,none⟩=some (.string (sv (U k)))∧w.cell? ⟨(ad.add (k * 3)).block,(ad.add (k * 3)).off+2,none⟩=some (.int .i64 (P k))))
  (TH:Hid (∀ nm w',Keep w w'→Calls Tryz.prog 26 #[.agg #[.string s,.slice x1 n1 c1,.slice x2 n2 c2,.slice x3 n3 c3,.slice x4 n4 c4,.slice x5 n5 c5,.int .i64 p],.string (sv nm)] w' fun e w''=>e= .returned (.int .i64 (hH nm))∧Keep w' w''))
  (TO:Hid (∀ nm w',Keep w w'→Calls Tryz.prog 8 #[.agg #[.string s,.slice x1 n1 c1,.slice x2 n2 c2,.slice x3 n3 c3,.slice x4 n4 c4,.slice x5 n5 c5,.int .i64 p],.string (sv nm)] w' fun e w''=>e= .returned (.int .i64 (hO nm))∧Keep w' w''))
  (HHI:Hid (∀ nm,hH nm<0↔hs M nm=false)) (HOI:Hid (∀ nm,hs M nm=true→hO nm=lk M nm)) (HI:Hid (fE (foF T U M P) 0 n5=r)):
  Calls Tryz.prog 25 #[.agg #[.string s,.slice x1 n1 c1,.slice x2 n2 c2,.slice x3 n3 c3,.slice x4 n4 c4,.slice x5 n5 c5,.int .i64 p]] w (Zq r w):=by
 have hnw:=heap_alloc_new w (.cells #[.string s,.slice x1 n1 c1,.slice x2 n2 c2,.slice x3 n3 c3,.slice x4 n4 c4,.slice x5 n5 c5,.int .i64 p] 39);have K0:=hide ((Keep.refl w).alloc (.cells #[.string s,.slice x1 n1 c1,.slice x2 n2 c2,.slice x3 n3 c3,.slice x4 n4 c4,.slice x5 n5 c5,.int .i64 p] 39));go_enter Tryz.func25,Tryz.ntmps25
 go_upto_region 1 with fail
 generalize w.alloc (.cells #[.string s,.slice x1 n1 c1,.slice x2 n2 c2,.slice x3 n3 c3,.slice x4 n4 c4,.slice x5 n5 c5,.int .i64 p] 39)=w0 at hnw K0 ⊢;obtain⟨q0,HQ0⟩:∃ q,Hid (w.heap.size=q):=⟨_,hide rfl⟩;rw[uq HQ0]at hnw ⊢;have HX0:Hid (∀ w':World,Keep w0 w'→w'.cell? ⟨q0,0,none⟩=some (.string s)∧w'.cell? ⟨q0,1,none⟩=some (.slice x1 n1 c1)∧w'.cell? ⟨q0,2,none⟩=some (.slice x2 n2 c2)∧w'.cell? ⟨q0,3,none⟩=some (.slice x3 n3 c3)∧w'.cell? ⟨q0,4,none⟩=some (.slice x4 n4 c4)∧w'.cell? ⟨q0,5,none⟩=some (.slice x5 n5 c5)∧w'.cell? ⟨q0,6,none⟩=some (.int .i64 p)):=hide (fun w' k9=>by
  have h1:=k9.block q0 (Array.getElem?_eq_some_iff.1 hnw).1;rw[hnw]at h1;refine⟨?_,?_,?_,?_,?_,?_,?_⟩<;>simp[World.cell?,h1])
 clear hnw;go_wp2_with fail
 go_loopw [4] (fun vi wr=>∃ k:Nat,vi= .int .i64 (k:Int)∧k≤n5∧Hid (Keep w0 wr)∧Hid (fE (foF T U M P) k (n5 - k)=r)) (fun vi _=>n5 - (intOf vi).toNat)
 case atStart=>exact⟨0,rfl,by omega,hide (Keep.refl _),HI⟩
 case round=>
  obtain⟨k,rfl,hk,KW,HF⟩:=hrel;obtain⟨z0,z1,z2,z3,z4,z5,z6⟩:=(uq HX0) wr (uq KW);by_cases hlt:k<n5
  ·have li:(k:Int)<(n5:Int):=by omega
   have KWW:=hide ((uq K0).trans (uq KW));obtain⟨ad,rfl,hb,e0,e1,e2⟩:=(uq HC) k hlt;have y0:=far_cell (uq KWW) (by rw[add_block9];exact hb) e0;have y1:=far_cell (uq KWW) (by show(ad.add (k * 3)).block<_;rw[add_block9];exact hb) e1;have y2:=far_cell (uq KWW) (by show(ad.add (k * 3)).block<_;rw[add_block9];exact hb) e2;clear e0 e1 e2;have hbx:=heap_alloc_new wr (.cells #[.string (sv (T k)),.string (sv (U k)),.int .i64 (P k)] 48);have KB:=hide ((uq KW).alloc (.cells #[.string (sv (T k)),.string (sv (U k)),.int .i64 (P k)] 48))
   go_upto_region 5 with fail
   generalize wr.alloc (.cells #[.string (sv (T k)),.string (sv (U k)),.int .i64 (P k)] 48)=wa at hbx KB ⊢;obtain⟨q,HQ⟩:∃ q,Hid (wr.heap.size=q):=⟨_,hide rfl⟩;rw[uq HQ]at hbx ⊢;have HXX:Hid (∀ w':World,Keep wa w'→(w'.cell? ⟨q0,0,none⟩=some (.string s)∧w'.cell? ⟨q0,1,none⟩=some (.slice x1 n1 c1)∧w'.cell? ⟨q0,2,none⟩=some (.slice x2 n2 c2)∧w'.cell? ⟨q0,3,none⟩=some (.slice x3 n3 c3)∧w'.cell? ⟨q0,4,none⟩=some (.slice x4 n4 c4)∧w'.cell? ⟨q0,5,none⟩=some (.slice (some ad) n5 c5)∧w'.cell? ⟨q0,6,none⟩=some (.int .i64 p))∧w'.cell? ⟨q,0,none⟩=some (.string (sv (T k)))∧w'.cell? ⟨q,1,none⟩=some (.string (sv (U k)))∧w'.cell? ⟨q,2,none⟩=some (.int .i64 (P k))):=hide (fun w' k9=>by
    have h1:=k9.block q (Array.getElem?_eq_some_iff.1 hbx).1;rw[hbx]at h1;refine⟨(uq HX0) w' ((uq KB).trans k9),?_,?_,?_⟩<;>simp[World.cell?,h1])
   clear hbx y0 y1 y2 z0 z1 z2 z3 z4 z5 z6;obtain⟨⟨z0,z1,z2,z3,z4,z5,z6⟩,f0,f1,f2⟩:=(uq HXX) wa (Keep.refl wa);obtain⟨j,HJ⟩:∃ j,Hid (hH (T k)=j):=⟨_,hide rfl⟩;obtain⟨j2,HJ2⟩:∃ j,Hid (hH (U k)=j):=⟨_,hide rfl⟩;have TK:=hide ((uq TH) (T k) wa ((uq K0).trans (uq KB)));have hj1:=(uq HHI) (T k);have hj2:=(uq HHI) (U k);rw[uq HJ]at TK hj1;rw[uq HJ2]at hj2;go_wp2_with fail
   (refine(uq TK).mono ?_;rintro e w2 ⟨rfl,hk9⟩;have K2:=hide (hk9);clear hk9);obtain⟨⟨z0,z1,z2,z3,z4,z5,z6⟩,f0,f1,f2⟩:=(uq HXX) w2 (uq K2);cases hw:hs M (T k)
   ·have hj:j<0:=hj1.2 hw;have hr:=zab (uq HF) hlt (show foF T U M P k=some (72,P k) by unfold foF;rw[if_neg (by rw[hw];decide)]);subst hr;clear HF hj1 hj2 hw
    go_upto_region 6 with fail
    refine wp_region_held_drew (S:=(fun w'=>w'.cell? ⟨q,2,none⟩=some (.int .i64 (P k)))) (by kernel_rfl) (by(obtain⟨⟨_,_,_,_,_,_,_⟩,_,_,g9⟩:=(uq HXX) _ (uq K2).drew;exact g9)) (fun hHeld=>?_);refine tkk 0 30 hHeld ?_;try simp only[Act.put,Ya,Yb,Yc]
    refine tkk 1 31 hHeld ?_;try simp only[Act.put,Ya,Yb,Yc]
    refine tkk 2 2 hHeld ?_;try simp only[Act.put,Ya,Yb,Yc]
    refine tkk 3 3 hHeld ?_;try simp only[Act.put,Ya,Yb,Yc]
    refine wpAnyH_done (by kernel_rfl) ?_ _;clear hHeld;go_wp2_with fail
    go_ret2;exact⟨(uq K0).trans ((uq KB).trans ((uq K2).drew)),rfl⟩
   have hj:¬j<0:=fun h=>by have:=hj1.1 h;rw[hw]at this;cases this
   have HW:=hide hw;clear hj1 hw;have TK2:=hide ((uq TH) (U k) w2 ((uq K0).trans ((uq KB).trans (uq K2))));rw[uq HJ2]at TK2;go_wp2_with fail
   (refine(uq TK2).mono ?_;rintro e w3 ⟨rfl,hk9⟩;have K3:=hide ((uq K2).trans hk9);clear hk9);clear z0 z1 z2 z3 z4 z5 z6 f0 f1 f2;obtain⟨⟨z0,z1,z2,z3,z4,z5,z6⟩,f0,f1,f2⟩:=(uq HXX) w3 (uq K3);cases hw:hs M (U k)
   ·have hj:j2<0:=hj2.2 hw;have hr:=zab (uq HF) hlt (show foF T U M P k=some (72,P k) by unfold foF;rw[if_pos (uq HW),if_neg (by rw[hw];decide)]);subst hr;clear HF hj2 hw
    go_upto_region 6 with fail
    refine wp_region_held_drew (S:=(fun w'=>w'.cell? ⟨q,2,none⟩=some (.int .i64 (P k)))) (by kernel_rfl) (by(obtain⟨⟨_,_,_,_,_,_,_⟩,_,_,g9⟩:=(uq HXX) _ (uq K3).drew;exact g9)) (fun hHeld=>?_);refine tkk 0 30 hHeld ?_;try simp only[Act.put,Ya,Yb,Yc]
    refine tkk 1 31 hHeld ?_;try simp only[Act.put,Ya,Yb,Yc]
    refine tkk 2 2 hHeld ?_;try simp only[Act.put,Ya,Yb,Yc]
    refine tkk 3 3 hHeld ?_;try simp only[Act.put,Ya,Yb,Yc]
    refine wpAnyH_done (by kernel_rfl) ?_ _;clear hHeld;go_wp2_with fail
    go_ret2;exact⟨(uq K0).trans ((uq KB).trans ((uq K3).drew)),rfl⟩
   have hjj:¬j2<0:=fun h=>by have:=hj2.1 h;rw[hw]at this;cases this
   have HV:=hide hw;clear hj2 hw;have e9:=sv_beq (T k) (U k);cases hB:(T k==U k)
   ·rw[hB]at e9;have l1:=(uq HOI) (T k) (uq HW);have l2:=(uq HOI) (U k) (uq HV);have TO1:=hide (fun w'=>(uq TO) (T k) w');have TO2:=hide (fun w'=>(uq TO) (U k) w');obtain⟨i1,h1⟩:∃ i,hO (T k)=i:=⟨_,rfl⟩;obtain⟨i2,h2⟩:∃ i,hO (U k)=i:=⟨_,rfl⟩;rw[h1]at TO1 l1;rw[h2]at TO2 l2;have L1:=hide l1;have L2:=hide l2;clear h1 h2 l1 l2 hB;by_cases hi:i1=i2
    ·have hi2:(i1==i2)=true:=by simp[hi]
     have hr:=zab (uq HF) hlt (show foF T U M P k=some (75,P k) by unfold foF;rw[if_pos (uq HW),if_pos (uq HV),if_pos (by rw[← uq L1,← uq L2];exact hi)]);subst hr;clear HF hi
     go_upto_region 7 with fail
     refine wp_region_held_drew (S:=(fun w'=>(w'.cell? ⟨q0,0,none⟩=some (.string s)∧w'.cell? ⟨q0,1,none⟩=some (.slice x1 n1 c1)∧w'.cell? ⟨q0,2,none⟩=some (.slice x2 n2 c2)∧w'.cell? ⟨q0,3,none⟩=some (.slice x3 n3 c3)∧w'.cell? ⟨q0,4,none⟩=some (.slice x4 n4 c4)∧w'.cell? ⟨q0,5,none⟩=some (.slice (some ad) n5 c5)∧w'.cell? ⟨q0,6,none⟩=some (.int .i64 p))∧w'.cell? ⟨q,0,none⟩=some (.string (sv (T k)))∧w'.cell? ⟨q,1,none⟩=some (.string (sv (U k)))∧w'.cell? ⟨q,2,none⟩=some (.int .i64 (P k)))) (by kernel_rfl) (by exact(uq HXX) _ (uq K3).drew) (fun hHeld=>?_);refine tkk 0 32 hHeld ?_;try simp only[Act.put,Ya,Yb,Yc]
     refine tkk 1 33 hHeld ?_;try simp only[Act.put,Ya,Yb,Yc]
     refine tkk 2 34 hHeld ?_;try simp only[Act.put,Ya,Yb,Yc]
     refine tkk 3 35 hHeld ?_;try simp only[Act.put,Ya,Yb,Yc]
     refine tkk 4 36 hHeld ?_;try simp only[Act.put,Ya,Yb,Yc]
     refine tkk 5 37 hHeld ?_;try simp only[Act.put,Ya,Yb,Yc]
     refine tkk 6 38 hHeld ?_;try simp only[Act.put,Ya,Yb,Yc]
     refine tkk 7 39 hHeld ?_;try simp only[Act.put,Ya,Yb,Yc]
     refine tkk 8 40 hHeld ?_;try simp only[Act.put,Ya,Yb,Yc]
     refine tkk 10 42 hHeld ?_;try simp only[Act.put,Ya,Yb,Yc]
     refine tkk 11 43 hHeld ?_;try simp only[Act.put,Ya,Yb,Yc]
     refine tkk 12 44 hHeld ?_;try simp only[Act.put,Ya,Yb,Yc]
     refine zal 9 (fun K hK=>?_);go_simp;clear hHeld;(refine((uq TO1) _ ((uq K0).trans ((uq KB).trans (uq K3).drew))).mono ?_;rintro e w4 ⟨rfl,hk9⟩;have K4:=hide ((uq K3).drew.trans hk9);clear hk9);try go_wp2_with fail
     refine hK.out _ _ ?_ (fun hHeld=>?_)
     ·exact(uq HXX) _ (uq K4)
     clear hK K;try simp only[Act.put,Ya,Yb,Yc]
     refine zal 13 (fun K hK=>?_);go_simp;clear hHeld;(refine((uq TO2) _ ((uq K0).trans ((uq KB).trans (uq K4)))).mono ?_;rintro e w5 ⟨rfl,hk9⟩;have K5:=hide ((uq K4).trans hk9);clear hk9);try go_wp2_with fail
     refine hK.out _ _ ?_ (fun hHeld=>?_)
     ·exact(uq HXX) _ (uq K5)
     clear hK K;try simp only[Act.put,Ya,Yb,Yc]
     refine tkk 14 46 hHeld ?_;try simp only[Act.put,Ya,Yb,Yc]
     refine tkk 15 47 hHeld ?_;try simp only[Act.put,Ya,Yb,Yc]
     refine wpAnyH_done (by kernel_rfl) ?_ _;clear hHeld;obtain⟨⟨z0,z1,z2,z3,z4,z5,z6⟩,f0,f1,f2⟩:=(uq HXX) w5 (uq K5)
     go_upto_region 8 with fail
     refine wp_region_held_drew (S:=(fun w'=>w'.cell? ⟨q,2,none⟩=some (.int .i64 (P k)))) (by kernel_rfl) (by(obtain⟨⟨_,_,_,_,_,_,_⟩,_,_,g9⟩:=(uq HXX) _ (uq K5).drew;exact g9)) (fun hHeld=>?_);refine tkk 0 48 hHeld ?_;try simp only[Act.put,Ya,Yb,Yc]
     refine tkk 1 49 hHeld ?_;try simp only[Act.put,Ya,Yb,Yc]
     refine tkk 2 2 hHeld ?_;try simp only[Act.put,Ya,Yb,Yc]
     refine tkk 3 3 hHeld ?_;try simp only[Act.put,Ya,Yb,Yc]
     refine wpAnyH_done (by kernel_rfl) ?_ _;clear hHeld;go_wp2_with fail
     go_ret2;exact⟨(uq K0).trans ((uq KB).trans ((uq K5).drew)),rfl⟩
    ·have hi2:(i1==i2)=false:=by simp[hi]
     have HF2:=hide (zaY (uq HF) hlt (show foF T U M P k=none by unfold foF;rw[if_pos (uq HW),if_pos (uq HV),if_neg (by rw[← uq L1,← uq L2];exact hi)]));clear HF hi
     go_upto_region 7 with fail
     refine wp_region_held_drew (S:=(fun w'=>(w'.cell? ⟨q0,0,none⟩=some (.string s)∧w'.cell? ⟨q0,1,none⟩=some (.slice x1 n1 c1)∧w'.cell? ⟨q0,2,none⟩=some (.slice x2 n2 c2)∧w'.cell? ⟨q0,3,none⟩=some (.slice x3 n3 c3)∧w'.cell? ⟨q0,4,none⟩=some (.slice x4 n4 c4)∧w'.cell? ⟨q0,5,none⟩=some (.slice (some ad) n5 c5)∧w'.cell? ⟨q0,6,none⟩=some (.int .i64 p))∧w'.cell? ⟨q,0,none⟩=some (.string (sv (T k)))∧w'.cell? ⟨q,1,none⟩=some (.string (sv (U k)))∧w'.cell? ⟨q,2,none⟩=some (.int .i64 (P k)))) (by kernel_rfl) (by exact(uq HXX) _ (uq K3).drew) (fun hHeld=>?_);refine tkk 0 32 hHeld ?_;try simp only[Act.put,Ya,Yb,Yc]
     refine tkk 1 33 hHeld ?_;try simp only[Act.put,Ya,Yb,Yc]
     refine tkk 2 34 hHeld ?_;try simp only[Act.put,Ya,Yb,Yc]
     refine tkk 3 35 hHeld ?_;try simp only[Act.put,Ya,Yb,Yc]
     refine tkk 4 36 hHeld ?_;try simp only[Act.put,Ya,Yb,Yc]
     refine tkk 5 37 hHeld ?_;try simp only[Act.put,Ya,Yb,Yc]
     refine tkk 6 38 hHeld ?_;try simp only[Act.put,Ya,Yb,Yc]
     refine tkk 7 39 hHeld ?_;try simp only[Act.put,Ya,Yb,Yc]
     refine tkk 8 40 hHeld ?_;try simp only[Act.put,Ya,Yb,Yc]
     refine tkk 10 42 hHeld ?_;try simp only[Act.put,Ya,Yb,Yc]
     refine tkk 11 43 hHeld ?_;try simp only[Act.put,Ya,Yb,Yc]
     refine tkk 12 44 hHeld ?_;try simp only[Act.put,Ya,Yb,Yc]
     refine zal 9 (fun K hK=>?_);go_simp;clear hHeld;(refine((uq TO1) _ ((uq K0).trans ((uq KB).trans (uq K3).drew))).mono ?_;rintro e w4 ⟨rfl,hk9⟩;have K4:=hide ((uq K3).drew.trans hk9);clear hk9);try go_wp2_with fail
     refine hK.out _ _ ?_ (fun hHeld=>?_)
     ·exact(uq HXX) _ (uq K4)
     clear hK K;try simp only[Act.put,Ya,Yb,Yc]
     refine zal 13 (fun K hK=>?_);go_simp;clear hHeld;(refine((uq TO2) _ ((uq K0).trans ((uq KB).trans (uq K4)))).mono ?_;rintro e w5 ⟨rfl,hk9⟩;have K5:=hide ((uq K4).trans hk9);clear hk9);try go_wp2_with fail
     refine hK.out _ _ ?_ (fun hHeld=>?_)
     ·exact(uq HXX) _ (uq K5)
     clear hK K;try simp only[Act.put,Ya,Yb,Yc]
     refine tkk 14 46 hHeld ?_;try simp only[Act.put,Ya,Yb,Yc]
     refine tkk 15 47 hHeld ?_;try simp only[Act.put,Ya,Yb,Yc]
     refine wpAnyH_done (by kernel_rfl) ?_ _;clear hHeld;obtain⟨⟨z0,z1,z2,z3,z4,z5,z6⟩,f0,f1,f2⟩:=(uq HXX) w5 (uq K5);go_wp2_with fail
     go_roundw
     case rel=>exact⟨k+1,by go_num,by omega,hide ((uq KB).trans (uq K5)),HF2⟩
     case measure=>simp[intOf];omega
   ·rw[hB]at e9;have hr:=zab (uq HF) hlt (show foF T U M P k=some (75,P k) by unfold foF;rw[if_pos (uq HW),if_pos (uq HV),if_pos (by rw[show T k=U k from by simpa using hB])]);subst hr;clear HF hB
    go_upto_region 7 with fail
    refine wp_region_held_drew (S:=(fun w'=>(w'.cell? ⟨q0,0,none⟩=some (.string s)∧w'.cell? ⟨q0,1,none⟩=some (.slice x1 n1 c1)∧w'.cell? ⟨q0,2,none⟩=some (.slice x2 n2 c2)∧w'.cell? ⟨q0,3,none⟩=some (.slice x3 n3 c3)∧w'.cell? ⟨q0,4,none⟩=some (.slice x4 n4 c4)∧w'.cell? ⟨q0,5,none⟩=some (.slice (some ad) n5 c5)∧w'.cell? ⟨q0,6,none⟩=some (.int .i64 p))∧w'.cell? ⟨q,0,none⟩=some (.string (sv (T k)))∧w'.cell? ⟨q,1,none⟩=some (.string (sv (U k)))∧w'.cell? ⟨q,2,none⟩=some (.int .i64 (P k)))) (by kernel_rfl) (by exact(uq HXX) _ (uq K3).drew) (fun hHeld=>?_);refine tkk 0 32 hHeld ?_;try simp only[Act.put,Ya,Yb,Yc]
    refine tkk 1 33 hHeld ?_;try simp only[Act.put,Ya,Yb,Yc]
    refine tkk 2 34 hHeld ?_;try simp only[Act.put,Ya,Yb,Yc]
    refine tkk 3 35 hHeld ?_;try simp only[Act.put,Ya,Yb,Yc]
    refine tkk 4 36 hHeld ?_;try simp only[Act.put,Ya,Yb,Yc]
    refine tkk 5 37 hHeld ?_;try simp only[Act.put,Ya,Yb,Yc]
    refine wpAnyH_take (i:=6) (v:=undef) rfl (by kernel_rfl) (by kernel_rfl) (by kernel_rfl) (fun _ _ _ h=>h) (Or.inr ⟨by rfl,rfl⟩) hHeld ?_;show wpAnyH _ _ _ _ _ _ _ (Act.put _ (some 38) _) _;try simp only[Act.put,Ya,Yb,Yc]
    refine wpAnyH_take (i:=7) (v:=undef) rfl (by kernel_rfl) (by kernel_rfl) (by kernel_rfl) (fun _ _ _ h=>h) (Or.inr ⟨by rfl,rfl⟩) hHeld ?_;show wpAnyH _ _ _ _ _ _ _ (Act.put _ (some 39) _) _;try simp only[Act.put,Ya,Yb,Yc]
    refine wpAnyH_take (i:=8) (v:=undef) rfl (by kernel_rfl) (by kernel_rfl) (by kernel_rfl) (fun _ _ _ h=>h) (Or.inr ⟨by rfl,rfl⟩) hHeld ?_;show wpAnyH _ _ _ _ _ _ _ (Act.put _ (some 40) _) _;try simp only[Act.put,Ya,Yb,Yc]
    refine wpAnyH_take (i:=9) (v:=undef) rfl (by kernel_rfl) (by kernel_rfl) (by kernel_rfl) (fun _ _ _ h=>h) (Or.inr ⟨by rfl,rfl⟩) hHeld ?_;show wpAnyH _ _ _ _ _ _ _ (Act.put _ (some 41) _) _;try simp only[Act.put,Ya,Yb,Yc]
    refine wpAnyH_take (i:=10) (v:=undef) rfl (by kernel_rfl) (by kernel_rfl) (by kernel_rfl) (fun _ _ _ h=>h) (Or.inr ⟨by rfl,rfl⟩) hHeld ?_;show wpAnyH _ _ _ _ _ _ _ (Act.put _ (some 42) _) _;try simp only[Act.put,Ya,Yb,Yc]
    refine wpAnyH_take (i:=11) (v:=undef) rfl (by kernel_rfl) (by kernel_rfl) (by kernel_rfl) (fun _ _ _ h=>h) (Or.inr ⟨by rfl,rfl⟩) hHeld ?_;show wpAnyH _ _ _ _ _ _ _ (Act.put _ (some 43) _) _;try simp only[Act.put,Ya,Yb,Yc]
    refine wpAnyH_take (i:=12) (v:=undef) rfl (by kernel_rfl) (by kernel_rfl) (by kernel_rfl) (fun _ _ _ h=>h) (Or.inr ⟨by rfl,rfl⟩) hHeld ?_;show wpAnyH _ _ _ _ _ _ _ (Act.put _ (some 44) _) _;try simp only[Act.put,Ya,Yb,Yc]
    refine wpAnyH_take (i:=13) (v:=undef) rfl (by kernel_rfl) (by kernel_rfl) (by kernel_rfl) (fun _ _ _ h=>h) (Or.inr ⟨by rfl,rfl⟩) hHeld ?_;show wpAnyH _ _ _ _ _ _ _ (Act.put _ (some 45) _) _;try simp only[Act.put,Ya,Yb,Yc]
    refine wpAnyH_take (i:=14) (v:=undef) rfl (by kernel_rfl) (by kernel_rfl) (by kernel_rfl) (fun _ _ _ h=>h) (Or.inr ⟨by rfl,rfl⟩) hHeld ?_;show wpAnyH _ _ _ _ _ _ _ (Act.put _ (some 46) _) _;try simp only[Act.put,Ya,Yb,Yc]
    refine tkk 15 47 hHeld ?_;try simp only[Act.put,Ya,Yb,Yc]
    refine wpAnyH_done (by kernel_rfl) ?_ _;clear hHeld
    go_upto_region 8 with fail
    refine wp_region_held_drew (S:=(fun w'=>w'.cell? ⟨q,2,none⟩=some (.int .i64 (P k)))) (by kernel_rfl) (by(obtain⟨⟨_,_,_,_,_,_,_⟩,_,_,g9⟩:=(uq HXX) _ ((uq K3).drew).drew;exact g9)) (fun hHeld=>?_);refine tkk 0 48 hHeld ?_;try simp only[Act.put,Ya,Yb,Yc]
    refine tkk 1 49 hHeld ?_;try simp only[Act.put,Ya,Yb,Yc]
    refine tkk 2 2 hHeld ?_;try simp only[Act.put,Ya,Yb,Yc]
    refine tkk 3 3 hHeld ?_;try simp only[Act.put,Ya,Yb,Yc]
    refine wpAnyH_done (by kernel_rfl) ?_ _;clear hHeld;go_wp2_with fail
    go_ret2;exact⟨(uq K0).trans ((uq KB).trans (((uq K3).drew).drew)),rfl⟩
  ·have li:¬(k:Int)<(n5:Int):=by omega
   have hr:=zaF (uq HF) (by omega);subst hr;go_wp2_with fail
   go_ret2;exact⟨(uq K0).trans (uq KW),rfl⟩
end V
end Go.Proofs.YtpmaonkelkmhbaaGreat
