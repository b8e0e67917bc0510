/- The document's answer for layer 7: phases. -/
import Derived.Test.YtpmaonkelkmhbaaGreatVDh
import Derived.Test.YtpmaonkelkmhbaaGreatLSkip
import Derived.Deep.DrawnRows
import Derived.Deep.RegionHeld3
namespace Go.Proofs.YtpmaonkelkmhbaaGreat
open Go.RowKit
attribute [local go_sem ↓] Go.wp_at_zero Go.wp_at_succ
set_option linter.unusedVariables false
set_option linter.unusedSimpArgs false
set_option maxRecDepth 10000
namespace V
set_option maxHeartbeats 8000000 in
theorem zd1 (s:ByteArray) (x1:Option Addr) (n1 c1:Nat) (x2:Option Addr) (n2 c2:Nat) (x3:Option Addr) (n3 c3:Nat) (x4:Option Addr) (n4 c4:Nat) (x5:Option Addr) (n5 c5:Nat) (p:Int) (T:Nat→List UInt8) (A:Nat→Option Addr) (N C:Nat→Nat) (H:Nat→Nat→List UInt8) (MH:List (List UInt8×Int)) (P:Nat→Int) (T1:Nat→List UInt8) (P1:Nat→Int) (pI hH hO:List UInt8→Int) (BI:Nat→Nat→Bool) (r r1:Eq2) (w:World) (hn:n3≤9223372036854775807) (hn1:n1≤9223372036854775807)
  (HL:Hid (∀ i,i<n3→N i≤C i∧N i≤9223372036854775807))
  (HC:Hid (∀ k,k<n3→∃ ad,x3=some ad∧ad.block<w.heap.size∧w.cell? (ad.add (k * 3))=some (.string (sv (T k)))∧w.cell? ⟨(ad.add (k * 3)).block,(ad.add (k * 3)).off+1,none⟩=some (.slice (A k) (N k) (C k))∧w.cell? ⟨(ad.add (k * 3)).block,(ad.add (k * 3)).off+2,none⟩=some (.int .i64 (P k))))
  (HD:Hid (∀ i,i<n3→∀ k,k<N i→∃ bd,A i=some bd∧bd.block<w.heap.size∧w.cell? (bd.add k)=some (.string (sv (H i k)))))
  (HC1:Hid (∀ k,k<n1→∃ ad,x1=some ad∧ad.block<w.heap.size∧w.cell? (ad.add (k * 11))=some (.string (sv (T1 k)))∧w.cell? ⟨(ad.add (k * 11)).block,(ad.add (k * 11)).off+10,none⟩=some (.int .i64 (P1 k))))
  (TP:Hid (∀ nm w',Keep w w'→Calls Tryz.prog 43 #[.agg #[.string s,.slice x1 n1 c1,.slice x2 n2 c2,.slice x3 n3 c3,.slice x4 n4 c4,.slice x5 n5 c5,.int .i64 p],.string (sv nm)] w' fun e w''=>e= .returned (.int .i64 (pI nm))∧Keep w' w''))
  (TH:Hid (∀ nm w',Keep w w'→Calls Tryz.prog 26 #[.agg #[.string s,.slice x1 n1 c1,.slice x2 n2 c2,.slice x3 n3 c3,.slice x4 n4 c4,.slice x5 n5 c5,.int .i64 p],.string (sv nm)] w' fun e w''=>e= .returned (.int .i64 (hH nm))∧Keep w' w''))
  (TO:Hid (∀ nm w',Keep w w'→Calls Tryz.prog 8 #[.agg #[.string s,.slice x1 n1 c1,.slice x2 n2 c2,.slice x3 n3 c3,.slice x4 n4 c4,.slice x5 n5 c5,.int .i64 p],.string (sv nm)] w' fun e w''=>e= .returned (.int .i64 (hO nm))∧Keep w' w''))
  (TI:Hid (∀ i,i<n3→∀ k,k<N i→∀ w',Keep w w'→Calls Tryz.prog 20 #[.string (sv (H i k)),.slice (A i) k (C i)] w' fun e w''=>e= .returned (.bool (BI i k))∧w''=w'))
  (HPI:Hid (∀ k,k<n3→(pI (T k)<(k:Int)↔hs (mk T k) (T k)=true))) (HHI:Hid (∀ nm,hH nm<0↔hs MH nm=false))
  (HOI:Hid (∀ i,i<n3→∀ k,k<N i→((hO (H i k)<(i:Int)∨BI i k=true)↔hs (hmL N H i++inn H i k) (H i k)=true))) (HOL:Hid (∀ k,k<n1→(hO (T1 k)<0↔hs (hmL N H n3) (T1 k)=false)))
  (HI:Hid (fE (phF T N H MH P) 0 n3=r)) (HI1:Hid (fE (ltF (hmL N H n3) T1 73 P1) 0 n1=r1)):
  Calls Tryz.prog 22 #[.agg #[.string s,.slice x1 n1 c1,.slice x2 n2 c2,.slice x3 n3 c3,.slice x4 n4 c4,.slice x5 n5 c5,.int .i64 p]] w (Zq (ors [r,r1]) w):=by
 have hnw:=heap_alloc_new w (.cells #[.string s,.slice x1 n1 c1,.slice x2 n2 c2,.slice x3 n3 c3,.slice x4 n4 c4,.slice x5 n5 c5,.int .i64 p] 39);have K0:=hide ((Keep.refl w).alloc (.cells #[.string s,.slice x1 n1 c1,.slice x2 n2 c2,.slice x3 n3 c3,.slice x4 n4 c4,.slice x5 n5 c5,.int .i64 p] 39));go_enter Tryz.func22,Tryz.ntmps22
 go_upto_region 1 with fail
 generalize w.alloc (.cells #[.string s,.slice x1 n1 c1,.slice x2 n2 c2,.slice x3 n3 c3,.slice x4 n4 c4,.slice x5 n5 c5,.int .i64 p] 39)=w0 at hnw K0 ⊢;obtain⟨q0,HQ0⟩:∃ q,Hid (w.heap.size=q):=⟨_,hide rfl⟩;rw[uq HQ0]at hnw ⊢;have HX0:Hid (∀ w':World,Keep w0 w'→w'.cell? ⟨q0,0,none⟩=some (.string s)∧w'.cell? ⟨q0,1,none⟩=some (.slice x1 n1 c1)∧w'.cell? ⟨q0,2,none⟩=some (.slice x2 n2 c2)∧w'.cell? ⟨q0,3,none⟩=some (.slice x3 n3 c3)∧w'.cell? ⟨q0,4,none⟩=some (.slice x4 n4 c4)∧w'.cell? ⟨q0,5,none⟩=some (.slice x5 n5 c5)∧w'.cell? ⟨q0,6,none⟩=some (.int .i64 p)):=hide (fun w' k9=>by
  have h1:=k9.block q0 (Array.getElem?_eq_some_iff.1 hnw).1;rw[hnw]at h1;refine⟨?_,?_,?_,?_,?_,?_,?_⟩<;>simp[World.cell?,h1])
 clear hnw;go_wp2_with fail
 go_loopw [4] (fun vi wr=>∃ k:Nat,vi= .int .i64 (k:Int)∧k≤n3∧Hid (Keep w0 wr)∧Hid (fE (phF T N H MH P) k (n3 - k)=r)) (fun vi _=>n3 - (intOf vi).toNat)
 case atStart=>exact⟨0,rfl,by omega,hide (Keep.refl _),HI⟩
 case round=>
  obtain⟨k,rfl,hk,KW,HF⟩:=hrel;obtain⟨z0,z1,z2,z3,z4,z5,z6⟩:=(uq HX0) wr (uq KW);by_cases hlt:k<n3
  ·have li:(k:Int)<(n3:Int):=by omega
   have KWW:=hide ((uq K0).trans (uq KW));obtain⟨ad,rfl,hb,e0,e1,e2⟩:=(uq HC) k hlt;have y0:=far_cell (uq KWW) (by rw[add_block9];exact hb) e0;have y1:=far_cell (uq KWW) (by show(ad.add (k * 3)).block<_;rw[add_block9];exact hb) e1;have y2:=far_cell (uq KWW) (by show(ad.add (k * 3)).block<_;rw[add_block9];exact hb) e2;clear e0 e1 e2;have hbx:=heap_alloc_new wr (.cells #[.string (sv (T k)),.slice (A k) (N k) (C k),.int .i64 (P k)] 45);have KB:=hide ((uq KW).alloc (.cells #[.string (sv (T k)),.slice (A k) (N k) (C k),.int .i64 (P k)] 45))
   go_upto_region 5 with fail
   generalize wr.alloc (.cells #[.string (sv (T k)),.slice (A k) (N k) (C k),.int .i64 (P k)] 45)=wa at hbx KB ⊢;obtain⟨q,HQ⟩:∃ q,Hid (wr.heap.size=q):=⟨_,hide rfl⟩;rw[uq HQ]at hbx ⊢;have HXX:Hid (∀ w':World,Keep wa w'→(w'.cell? ⟨q0,0,none⟩=some (.string s)∧w'.cell? ⟨q0,1,none⟩=some (.slice x1 n1 c1)∧w'.cell? ⟨q0,2,none⟩=some (.slice x2 n2 c2)∧w'.cell? ⟨q0,3,none⟩=some (.slice (some ad) n3 c3)∧w'.cell? ⟨q0,4,none⟩=some (.slice x4 n4 c4)∧w'.cell? ⟨q0,5,none⟩=some (.slice x5 n5 c5)∧w'.cell? ⟨q0,6,none⟩=some (.int .i64 p))∧w'.cell? ⟨q,0,none⟩=some (.string (sv (T k)))∧w'.cell? ⟨q,1,none⟩=some (.slice (A k) (N k) (C k))∧w'.cell? ⟨q,2,none⟩=some (.int .i64 (P k))):=hide (fun w' k9=>by
    have h1:=k9.block q (Array.getElem?_eq_some_iff.1 hbx).1;rw[hbx]at h1;refine⟨(uq HX0) w' ((uq KB).trans k9),?_,?_,?_⟩<;>simp[World.cell?,h1])
   clear hbx y0 y1 y2 z0 z1 z2 z3 z4 z5 z6;obtain⟨⟨z0,z1,z2,z3,z4,z5,z6⟩,f0,f1,f2⟩:=(uq HXX) wa (Keep.refl wa);obtain⟨j,HJ⟩:∃ j,Hid (pI (T k)=j):=⟨_,hide rfl⟩;have TK:=hide ((uq TP) (T k) wa ((uq K0).trans (uq KB)));have hjp:=(uq HPI) k hlt;rw[uq HJ]at TK hjp;go_wp2_with fail
   (refine(uq TK).mono ?_;rintro e w2 ⟨rfl,hk9⟩;have K2:=hide (hk9);clear hk9);clear z0 z1 z2 z3 z4 z5 z6 f0 f1 f2;obtain⟨⟨z0,z1,z2,z3,z4,z5,z6⟩,f0,f1,f2⟩:=(uq HXX) w2 (uq K2);by_cases hh:hs (mk T k) (T k)=true
   ·have hj:j<(k:Int):=hjp.2 hh;have hr:=zab (uq HF) hlt (show phF T N H MH P k=some (71,P k) by unfold phF;rw[if_pos hh]);subst hr;clear HF hjp hh
    go_upto_region 6 with fail
    refine wp_region_held_drew (S:=(fun w'=>w'.cell? ⟨q,2,none⟩=some (.int .i64 (P k)))) (by kernel_rfl) (by(obtain⟨⟨_,_,_,_,_,_,_⟩,_,_,g9⟩:=(uq HXX) _ (uq K2).drew;exact g9)) (fun hHeld=>?_);refine tkk 0 26 hHeld ?_;try simp only[Act.put,Ya,Yb,Yc]
    refine tkk 1 27 hHeld ?_;try simp only[Act.put,Ya,Yb,Yc]
    refine tkk 2 2 hHeld ?_;try simp only[Act.put,Ya,Yb,Yc]
    refine tkk 3 3 hHeld ?_;try simp only[Act.put,Ya,Yb,Yc]
    refine wpAnyH_done (by kernel_rfl) ?_ _;clear hHeld;go_wp2_with fail
    go_ret2;exact⟨(uq K0).trans ((uq KB).trans ((uq K2).drew)),rfl⟩
   have hj:¬j<(k:Int):=fun h=>hh (hjp.1 h)
   have hh0:hs (mk T k) (T k)=false:=by simpa using hh
   have HH0:=hide hh0;clear hjp hh hh0;obtain⟨r2,HR2⟩:∃ r2,Hid (fE (phI N H MH P k) 0 (N k)=r2):=⟨_,hide rfl⟩;have HF0:Hid (fE (phI N H MH P k) 0 (N k - 0)=r2):=HR2;have HLT:=hide hlt;have hN:=((uq HL) k hlt).2;have hNC:=((uq HL) k hlt).1;have HDk:=hide ((uq HD) k hlt);have TIk:=hide ((uq TI) k hlt);have HOk:=hide ((uq HOI) k hlt);have HHN:=hide hN;have HNC:=hide hNC;obtain⟨Nk,HNk⟩:∃ n,Hid (N k=n):=⟨_,hide rfl⟩;obtain⟨Ck,HCk⟩:∃ n,Hid (C k=n):=⟨_,hide rfl⟩;obtain⟨Ak,HAk⟩:∃ n,Hid (A k=n):=⟨_,hide rfl⟩;go_wp2_with fail
   clear z0 z1 z2 z3 z4 z5 z6 f0 f1 f2
   go_loopw [6] (fun vm wq=>∃ m:Nat,vm= .int .i64 (m:Int)∧m≤N k∧Hid (Keep wa wq)∧Hid (fE (phI N H MH P k) m (N k - m)=r2)) (fun vm _=>N k - (intOf vm).toNat)
   case atStart=>exact⟨0,rfl,Nat.zero_le _,K2,HF0⟩
   case round=>
    obtain⟨m,rfl,hm,KM,HG⟩:=hrel;obtain⟨⟨z0,z1,z2,z3,z4,z5,z6⟩,f0,f1,f2⟩:=(uq HXX) wr (uq KM);by_cases hmt:m<N k
    ·have lm:(m:Int)<(N k:Int):=by omega
     obtain⟨bd,hA,hbb,ec⟩:=(uq HDk) m hmt;have TIm:=hide ((uq TIk) m hmt);have HOm:=(uq HOk) m hmt;rw[hA]at f1 TIm;have HA:=hide hA;clear hA;have HD9:Hid (∀ w',Keep wr w'→(w'.cell? ⟨q0,0,none⟩=some (.string s)∧w'.cell? ⟨q0,1,none⟩=some (.slice x1 n1 c1)∧w'.cell? ⟨q0,2,none⟩=some (.slice x2 n2 c2)∧w'.cell? ⟨q0,3,none⟩=some (.slice (some ad) n3 c3)∧w'.cell? ⟨q0,4,none⟩=some (.slice x4 n4 c4)∧w'.cell? ⟨q0,5,none⟩=some (.slice x5 n5 c5)∧w'.cell? ⟨q0,6,none⟩=some (.int .i64 p))∧w'.cell? ⟨q,1,none⟩=some (.slice (some bd) (N k) (C k))∧w'.cell? (bd.add m)=some (.string (sv (H k m)))):=hide (fun w' k9=>by obtain⟨g,g0,g1,g2⟩:=(uq HXX) w' ((uq KM).trans k9);exact⟨g,by rw[uq HA]at g1;exact g1,far_cell ((uq K0).trans ((uq KB).trans ((uq KM).trans k9))) (by rw[add_block9];exact hbb) ec⟩);clear ec hbb;obtain⟨j1,HJ1⟩:∃ j,Hid (hH (H k m)=j):=⟨_,hide rfl⟩;obtain⟨j2,HJ2⟩:∃ j,Hid (hO (H k m)=j):=⟨_,hide rfl⟩;obtain⟨b2,HB2⟩:∃ j,Hid (BI k m=j):=⟨_,hide rfl⟩;have TK:=hide (fun w'=>(uq TH) (H k m) w');have TKO:=hide (fun w'=>(uq TO) (H k m) w');have hj1:=(uq HHI) (H k m);rw[uq HJ1]at TK hj1;rw[uq HJ2]at TKO HOm;rw[uq HB2]at TIm HOm;replace HOm:=hide HOm;cases hw:hs MH (H k m)
     ·have hj:decide (j1<0)=true:=decide_eq_true (hj1.2 hw);have hr:=zab (uq HF) (uq HLT) (zdR (uq HH0) ((uq HR2).trans (zab (uq HG) hmt (show phI N H MH P k m=some (72,P k) by unfold phI;rw[if_neg (by rw[hw];decide)]))));subst hr;clear HF hj1 hw HOm HG
      go_upto_region 10 with fail
      clear z0 z1 z2 z3 z4 z5 z6 f0 f1 f2;refine wp_region_held_drew (S:=(fun w'=>(w'.cell? ⟨q0,0,none⟩=some (.string s)∧w'.cell? ⟨q0,1,none⟩=some (.slice x1 n1 c1)∧w'.cell? ⟨q0,2,none⟩=some (.slice x2 n2 c2)∧w'.cell? ⟨q0,3,none⟩=some (.slice (some ad) n3 c3)∧w'.cell? ⟨q0,4,none⟩=some (.slice x4 n4 c4)∧w'.cell? ⟨q0,5,none⟩=some (.slice x5 n5 c5)∧w'.cell? ⟨q0,6,none⟩=some (.int .i64 p))∧w'.cell? ⟨q,1,none⟩=some (.slice (some bd) (N k) (C k))∧w'.cell? (bd.add m)=some (.string (sv (H k m))))) (by kernel_rfl) (by exact(uq HD9) _ (Keep.refl wr).drew) (fun hHeld=>?_);refine tkk 0 35 hHeld ?_;try simp only[Act.put,Ya,Yb,Yc]
      refine tkk 1 36 hHeld ?_;try simp only[Act.put,Ya,Yb,Yc]
      refine tkk 2 37 hHeld ?_;try simp only[Act.put,Ya,Yb,Yc]
      refine tkk 3 38 hHeld ?_;try simp only[Act.put,Ya,Yb,Yc]
      refine tkk 4 39 hHeld ?_;try simp only[Act.put,Ya,Yb,Yc]
      refine tkk 5 40 hHeld ?_;try simp only[Act.put,Ya,Yb,Yc]
      refine zal 6 (fun K hK=>?_);go_simp;clear hHeld;(refine((uq TK) _ ((uq K0).trans ((uq KB).trans ((uq KM).drew)))).mono ?_;rintro e w3 ⟨rfl,hk9⟩;have K3:=hide ((Keep.refl wr).drew.trans hk9);clear hk9);try go_wp2_with fail
      refine hK.out _ _ ?_ (fun hHeld=>?_)
      ·exact(uq HD9) _ (uq K3)
      clear hK K;try simp only[Act.put,Ya,Yb,Yc]
      refine tkk 7 42 hHeld ?_;try simp only[Act.put,Ya,Yb,Yc]
      refine wpAnyH_done (by kernel_rfl) ?_ _;clear hHeld;obtain⟨⟨z0,z1,z2,z3,z4,z5,z6⟩,f0,f1,f2⟩:=(uq HXX) w3 ((uq KM).trans (uq K3))
      go_upto_region 11 with fail
      refine wp_region_held_drew (S:=(fun w'=>w'.cell? ⟨q,2,none⟩=some (.int .i64 (P k)))) (by kernel_rfl) (by(obtain⟨⟨_,_,_,_,_,_,_⟩,_,_,g9⟩:=(uq HXX) _ ((uq KM).trans (uq K3)).drew;exact g9)) (fun hHeld=>?_);refine tkk 0 43 hHeld ?_;try simp only[Act.put,Ya,Yb,Yc]
      refine tkk 1 44 hHeld ?_;try simp only[Act.put,Ya,Yb,Yc]
      refine tkk 2 2 hHeld ?_;try simp only[Act.put,Ya,Yb,Yc]
      refine tkk 3 3 hHeld ?_;try simp only[Act.put,Ya,Yb,Yc]
      refine wpAnyH_done (by kernel_rfl) ?_ _;clear hHeld;go_wp2_with fail
      go_ret2;exact⟨(uq K0).trans ((uq KB).trans (((uq KM).trans (uq K3)).drew)),rfl⟩
     have hj:decide (j1<0)=false:=decide_eq_false (fun h=>by have:=hj1.1 h;rw[hw]at this;cases this);have HW:=hide hw;clear hj1 hw
     go_upto_region 10 with fail
     clear z0 z1 z2 z3 z4 z5 z6 f0 f1 f2;refine wp_region_held_drew (S:=(fun w'=>(w'.cell? ⟨q0,0,none⟩=some (.string s)∧w'.cell? ⟨q0,1,none⟩=some (.slice x1 n1 c1)∧w'.cell? ⟨q0,2,none⟩=some (.slice x2 n2 c2)∧w'.cell? ⟨q0,3,none⟩=some (.slice (some ad) n3 c3)∧w'.cell? ⟨q0,4,none⟩=some (.slice x4 n4 c4)∧w'.cell? ⟨q0,5,none⟩=some (.slice x5 n5 c5)∧w'.cell? ⟨q0,6,none⟩=some (.int .i64 p))∧w'.cell? ⟨q,1,none⟩=some (.slice (some bd) (N k) (C k))∧w'.cell? (bd.add m)=some (.string (sv (H k m))))) (by kernel_rfl) (by exact(uq HD9) _ (Keep.refl wr).drew) (fun hHeld=>?_);refine tkk 0 35 hHeld ?_;try simp only[Act.put,Ya,Yb,Yc]
     refine tkk 1 36 hHeld ?_;try simp only[Act.put,Ya,Yb,Yc]
     refine tkk 2 37 hHeld ?_;try simp only[Act.put,Ya,Yb,Yc]
     refine tkk 3 38 hHeld ?_;try simp only[Act.put,Ya,Yb,Yc]
     refine tkk 4 39 hHeld ?_;try simp only[Act.put,Ya,Yb,Yc]
     refine tkk 5 40 hHeld ?_;try simp only[Act.put,Ya,Yb,Yc]
     refine zal 6 (fun K hK=>?_);go_simp;clear hHeld;(refine((uq TK) _ ((uq K0).trans ((uq KB).trans ((uq KM).drew)))).mono ?_;rintro e w3 ⟨rfl,hk9⟩;have K3:=hide ((Keep.refl wr).drew.trans hk9);clear hk9);try go_wp2_with fail
     refine hK.out _ _ ?_ (fun hHeld=>?_)
     ·exact(uq HD9) _ (uq K3)
     clear hK K;try simp only[Act.put,Ya,Yb,Yc]
     refine tkk 7 42 hHeld ?_;try simp only[Act.put,Ya,Yb,Yc]
     refine wpAnyH_done (by kernel_rfl) ?_ _;clear hHeld;have HD3:Hid (∀ w',Keep w3 w'→(w'.cell? ⟨q0,0,none⟩=some (.string s)∧w'.cell? ⟨q0,1,none⟩=some (.slice x1 n1 c1)∧w'.cell? ⟨q0,2,none⟩=some (.slice x2 n2 c2)∧w'.cell? ⟨q0,3,none⟩=some (.slice (some ad) n3 c3)∧w'.cell? ⟨q0,4,none⟩=some (.slice x4 n4 c4)∧w'.cell? ⟨q0,5,none⟩=some (.slice x5 n5 c5)∧w'.cell? ⟨q0,6,none⟩=some (.int .i64 p))∧w'.cell? ⟨q,1,none⟩=some (.slice (some bd) (N k) (C k))∧w'.cell? (bd.add m)=some (.string (sv (H k m)))):=hide (fun w' k9=>(uq HD9) w' ((uq K3).trans k9));clear hj;by_cases hj:j2<(k:Int)
     ·have hj9:decide (j2<(k:Int))=true:=decide_eq_true hj;have hr:=zab (uq HF) (uq HLT) (zdR (uq HH0) ((uq HR2).trans (zab (uq HG) hmt (show phI N H MH P k m=some (71,P k) by unfold phI;rw[if_pos (uq HW),if_pos ((uq HOm).1 (.inl hj))]))));subst hr;clear HF HG hj HOm
      go_upto_region 12 with fail
      refine wp_region_held_drew (S:=(fun w'=>(w'.cell? ⟨q0,0,none⟩=some (.string s)∧w'.cell? ⟨q0,1,none⟩=some (.slice x1 n1 c1)∧w'.cell? ⟨q0,2,none⟩=some (.slice x2 n2 c2)∧w'.cell? ⟨q0,3,none⟩=some (.slice (some ad) n3 c3)∧w'.cell? ⟨q0,4,none⟩=some (.slice x4 n4 c4)∧w'.cell? ⟨q0,5,none⟩=some (.slice x5 n5 c5)∧w'.cell? ⟨q0,6,none⟩=some (.int .i64 p))∧w'.cell? ⟨q,1,none⟩=some (.slice (some bd) (N k) (C k))∧w'.cell? (bd.add m)=some (.string (sv (H k m))))) (by kernel_rfl) (by exact(uq HD3) _ (Keep.refl w3).drew) (fun hHeld=>?_);refine tkk 0 45 hHeld ?_;try simp only[Act.put,Ya,Yb,Yc]
      refine tkk 1 46 hHeld ?_;try simp only[Act.put,Ya,Yb,Yc]
      refine tkk 2 47 hHeld ?_;try simp only[Act.put,Ya,Yb,Yc]
      refine tkk 3 48 hHeld ?_;try simp only[Act.put,Ya,Yb,Yc]
      refine tkk 4 49 hHeld ?_;try simp only[Act.put,Ya,Yb,Yc]
      refine tkk 5 50 hHeld ?_;try simp only[Act.put,Ya,Yb,Yc]
      refine tkk 7 52 hHeld ?_;try simp only[Act.put,Ya,Yb,Yc]
      refine zal 6 (fun K hK=>?_);go_simp;clear hHeld;(refine((uq TKO) _ ((uq K0).trans ((uq KB).trans (((uq KM).trans (uq K3)).drew)))).mono ?_;rintro e w4 ⟨rfl,hk9⟩;have K4:=hide ((Keep.refl w3).drew.trans hk9);clear hk9);try go_wp2_with fail
      refine hK.out _ _ ?_ (fun hHeld=>?_)
      ·exact(uq HD3) _ (uq K4)
      clear hK K;try simp only[Act.put,Ya,Yb,Yc]
      refine tkk 8 53 hHeld ?_;try simp only[Act.put,Ya,Yb,Yc]
      refine tkk 9 54 hHeld ?_;try simp only[Act.put,Ya,Yb,Yc]
      refine wpAnyH_take (i:=10) (v:=undef) rfl (by kernel_rfl) (by kernel_rfl) (by kernel_rfl) (fun _ _ _ h=>h) (Or.inr ⟨by rfl,rfl⟩) hHeld ?_;show wpAnyH _ _ _ _ _ _ _ (Act.put _ (some 55) _) _;try simp only[Act.put,Ya,Yb,Yc]
      refine wpAnyH_take (i:=11) (v:=undef) rfl (by kernel_rfl) (by kernel_rfl) (by kernel_rfl) (fun _ _ _ h=>h) (Or.inr ⟨by rfl,rfl⟩) hHeld ?_;show wpAnyH _ _ _ _ _ _ _ (Act.put _ (some 56) _) _;try simp only[Act.put,Ya,Yb,Yc]
      refine wpAnyH_take (i:=12) (v:=undef) rfl (by kernel_rfl) (by kernel_rfl) (by kernel_rfl) (fun _ _ _ h=>h) (Or.inr ⟨by rfl,rfl⟩) hHeld ?_;show wpAnyH _ _ _ _ _ _ _ (Act.put _ (some 57) _) _;try simp only[Act.put,Ya,Yb,Yc]
      refine wpAnyH_take (i:=13) (v:=undef) rfl (by kernel_rfl) (by kernel_rfl) (by kernel_rfl) (fun _ _ _ h=>h) (Or.inr ⟨by rfl,rfl⟩) hHeld ?_;show wpAnyH _ _ _ _ _ _ _ (Act.put _ (some 58) _) _;try simp only[Act.put,Ya,Yb,Yc]
      refine wpAnyH_take (i:=14) (v:=undef) rfl (by kernel_rfl) (by kernel_rfl) (by kernel_rfl) (fun _ _ _ h=>h) (Or.inr ⟨by rfl,rfl⟩) hHeld ?_;show wpAnyH _ _ _ _ _ _ _ (Act.put _ (some 59) _) _;try simp only[Act.put,Ya,Yb,Yc]
      refine wpAnyH_take (i:=15) (v:=undef) rfl (by kernel_rfl) (by kernel_rfl) (by kernel_rfl) (fun _ _ _ h=>h) (Or.inr ⟨by rfl,rfl⟩) hHeld ?_;show wpAnyH _ _ _ _ _ _ _ (Act.put _ (some 60) _) _;try simp only[Act.put,Ya,Yb,Yc]
      refine wpAnyH_take (i:=16) (v:=undef) rfl (by kernel_rfl) (by kernel_rfl) (by kernel_rfl) (fun _ _ _ h=>h) (Or.inr ⟨by rfl,rfl⟩) hHeld ?_;show wpAnyH _ _ _ _ _ _ _ (Act.put _ (some 61) _) _;try simp only[Act.put,Ya,Yb,Yc]
      refine wpAnyH_take (i:=17) (v:=undef) rfl (by kernel_rfl) (by kernel_rfl) (by kernel_rfl) (fun _ _ _ h=>h) (Or.inr ⟨by rfl,rfl⟩) hHeld ?_;show wpAnyH _ _ _ _ _ _ _ (Act.put _ (some 62) _) _;try simp only[Act.put,Ya,Yb,Yc]
      refine wpAnyH_take (i:=18) (v:=undef) rfl (by kernel_rfl) (by kernel_rfl) (by kernel_rfl) (fun _ _ _ h=>h) (Or.inr ⟨by rfl,rfl⟩) hHeld ?_;show wpAnyH _ _ _ _ _ _ _ (Act.put _ (some 63) _) _;try simp only[Act.put,Ya,Yb,Yc]
      refine wpAnyH_take (i:=19) (v:=undef) rfl (by kernel_rfl) (by kernel_rfl) (by kernel_rfl) (fun _ _ _ h=>h) (Or.inr ⟨by rfl,rfl⟩) hHeld ?_;show wpAnyH _ _ _ _ _ _ _ (Act.put _ (some 64) _) _;try simp only[Act.put,Ya,Yb,Yc]
      refine tkk 20 65 hHeld ?_;try simp only[Act.put,Ya,Yb,Yc]
      refine wpAnyH_done (by kernel_rfl) ?_ _;clear hHeld;obtain⟨⟨z0,z1,z2,z3,z4,z5,z6⟩,f0,f1,f2⟩:=(uq HXX) w4 (((uq KM).trans (uq K3)).trans (uq K4))
      go_upto_region 13 with fail
      refine wp_region_held_drew (S:=(fun w'=>w'.cell? ⟨q,2,none⟩=some (.int .i64 (P k)))) (by kernel_rfl) (by(obtain⟨⟨_,_,_,_,_,_,_⟩,_,_,g9⟩:=(uq HXX) _ (((uq KM).trans (uq K3)).trans (uq K4)).drew;exact g9)) (fun hHeld=>?_);refine tkk 0 66 hHeld ?_;try simp only[Act.put,Ya,Yb,Yc]
      refine tkk 1 67 hHeld ?_;try simp only[Act.put,Ya,Yb,Yc]
      refine tkk 2 2 hHeld ?_;try simp only[Act.put,Ya,Yb,Yc]
      refine tkk 3 3 hHeld ?_;try simp only[Act.put,Ya,Yb,Yc]
      refine wpAnyH_done (by kernel_rfl) ?_ _;clear hHeld;go_wp2_with fail
      go_ret2;exact⟨(uq K0).trans ((uq KB).trans ((((uq KM).trans (uq K3)).trans (uq K4)).drew)),rfl⟩
     have hj9:decide (j2<(k:Int))=false:=decide_eq_false hj;have hmc:m≤C k:=by have:=uq HNC;omega
     have HJN:=hide hj;clear hj;cases b2
     ·have HG2:=hide (zaY (uq HG) hmt (show phI N H MH P k m=none by unfold phI;rw[if_pos (uq HW),if_neg (fun h=>by rcases(uq HOm).2 h with h|h;exact uq HJN h;cases h)]));clear HG HOm
      go_upto_region 12 with fail
      refine wp_region_held_drew (S:=(fun w'=>(w'.cell? ⟨q0,0,none⟩=some (.string s)∧w'.cell? ⟨q0,1,none⟩=some (.slice x1 n1 c1)∧w'.cell? ⟨q0,2,none⟩=some (.slice x2 n2 c2)∧w'.cell? ⟨q0,3,none⟩=some (.slice (some ad) n3 c3)∧w'.cell? ⟨q0,4,none⟩=some (.slice x4 n4 c4)∧w'.cell? ⟨q0,5,none⟩=some (.slice x5 n5 c5)∧w'.cell? ⟨q0,6,none⟩=some (.int .i64 p))∧w'.cell? ⟨q,1,none⟩=some (.slice (some bd) (N k) (C k))∧w'.cell? (bd.add m)=some (.string (sv (H k m))))) (by kernel_rfl) (by exact(uq HD3) _ (Keep.refl w3).drew) (fun hHeld=>?_);refine tkk 0 45 hHeld ?_;try simp only[Act.put,Ya,Yb,Yc]
      refine tkk 1 46 hHeld ?_;try simp only[Act.put,Ya,Yb,Yc]
      refine tkk 2 47 hHeld ?_;try simp only[Act.put,Ya,Yb,Yc]
      refine tkk 3 48 hHeld ?_;try simp only[Act.put,Ya,Yb,Yc]
      refine tkk 4 49 hHeld ?_;try simp only[Act.put,Ya,Yb,Yc]
      refine tkk 5 50 hHeld ?_;try simp only[Act.put,Ya,Yb,Yc]
      refine tkk 7 52 hHeld ?_;try simp only[Act.put,Ya,Yb,Yc]
      refine zal 6 (fun K hK=>?_);go_simp;clear hHeld;(refine((uq TKO) _ ((uq K0).trans ((uq KB).trans (((uq KM).trans (uq K3)).drew)))).mono ?_;rintro e w4 ⟨rfl,hk9⟩;have K4:=hide ((Keep.refl w3).drew.trans hk9);clear hk9);try go_wp2_with fail
      refine hK.out _ _ ?_ (fun hHeld=>?_)
      ·exact(uq HD3) _ (uq K4)
      clear hK K;try simp only[Act.put,Ya,Yb,Yc]
      refine tkk 8 53 hHeld ?_;try simp only[Act.put,Ya,Yb,Yc]
      refine tkk 9 54 hHeld ?_;try simp only[Act.put,Ya,Yb,Yc]
      refine tkk 10 55 hHeld ?_;try simp only[Act.put,Ya,Yb,Yc]
      refine tkk 11 56 hHeld ?_;try simp only[Act.put,Ya,Yb,Yc]
      refine tkk 12 57 hHeld ?_;try simp only[Act.put,Ya,Yb,Yc]
      refine tkk 13 58 hHeld ?_;try simp only[Act.put,Ya,Yb,Yc]
      refine tkk 14 59 hHeld ?_;try simp only[Act.put,Ya,Yb,Yc]
      refine tkk 15 60 hHeld ?_;try simp only[Act.put,Ya,Yb,Yc]
      refine tkk 16 61 hHeld ?_;try simp only[Act.put,Ya,Yb,Yc]
      refine tkk 17 62 hHeld ?_;try simp only[Act.put,Ya,Yb,Yc]
      refine tkk 18 63 hHeld ?_;try simp only[Act.put,Ya,Yb,Yc]
      refine zal 19 (fun K hK=>?_);go_simp;clear hHeld;(refine((uq TIm) _ ((uq K0).trans ((uq KB).trans (((uq KM).trans (uq K3)).trans (uq K4))))).mono ?_;rintro e w4 ⟨rfl,rfl⟩);try go_wp2_with fail
      refine hK.out _ _ ?_ (fun hHeld=>?_)
      ·exact(uq HD3) _ (uq K4)
      clear hK K;try simp only[Act.put,Ya,Yb,Yc]
      refine tkk 20 65 hHeld ?_;try simp only[Act.put,Ya,Yb,Yc]
      refine wpAnyH_done (by kernel_rfl) ?_ _;clear hHeld;obtain⟨⟨z0,z1,z2,z3,z4,z5,z6⟩,f0,f1,f2⟩:=(uq HXX) w4 (((uq KM).trans (uq K3)).trans (uq K4));go_wp2_with fail
      go_roundw
      case rel=>exact⟨m+1,by go_num,by omega,hide (((uq KM).trans (uq K3)).trans (uq K4)),HG2⟩
      case measure=>simp[intOf];omega
     ·have hr:=zab (uq HF) (uq HLT) (zdR (uq HH0) ((uq HR2).trans (zab (uq HG) hmt (show phI N H MH P k m=some (71,P k) by unfold phI;rw[if_pos (uq HW),if_pos ((uq HOm).1 (.inr rfl))]))));subst hr;clear HF HG HOm
      go_upto_region 12 with fail
      refine wp_region_held_drew (S:=(fun w'=>(w'.cell? ⟨q0,0,none⟩=some (.string s)∧w'.cell? ⟨q0,1,none⟩=some (.slice x1 n1 c1)∧w'.cell? ⟨q0,2,none⟩=some (.slice x2 n2 c2)∧w'.cell? ⟨q0,3,none⟩=some (.slice (some ad) n3 c3)∧w'.cell? ⟨q0,4,none⟩=some (.slice x4 n4 c4)∧w'.cell? ⟨q0,5,none⟩=some (.slice x5 n5 c5)∧w'.cell? ⟨q0,6,none⟩=some (.int .i64 p))∧w'.cell? ⟨q,1,none⟩=some (.slice (some bd) (N k) (C k))∧w'.cell? (bd.add m)=some (.string (sv (H k m))))) (by kernel_rfl) (by exact(uq HD3) _ (Keep.refl w3).drew) (fun hHeld=>?_);refine tkk 0 45 hHeld ?_;try simp only[Act.put,Ya,Yb,Yc]
      refine tkk 1 46 hHeld ?_;try simp only[Act.put,Ya,Yb,Yc]
      refine tkk 2 47 hHeld ?_;try simp only[Act.put,Ya,Yb,Yc]
      refine tkk 3 48 hHeld ?_;try simp only[Act.put,Ya,Yb,Yc]
      refine tkk 4 49 hHeld ?_;try simp only[Act.put,Ya,Yb,Yc]
      refine tkk 5 50 hHeld ?_;try simp only[Act.put,Ya,Yb,Yc]
      refine tkk 7 52 hHeld ?_;try simp only[Act.put,Ya,Yb,Yc]
      refine zal 6 (fun K hK=>?_);go_simp;clear hHeld;(refine((uq TKO) _ ((uq K0).trans ((uq KB).trans (((uq KM).trans (uq K3)).drew)))).mono ?_;rintro e w4 ⟨rfl,hk9⟩;have K4:=hide ((Keep.refl w3).drew.trans hk9);clear hk9);try go_wp2_with fail
      refine hK.out _ _ ?_ (fun hHeld=>?_)
      ·exact(uq HD3) _ (uq K4)
      clear hK K;try simp only[Act.put,Ya,Yb,Yc]
      refine tkk 8 53 hHeld ?_;try simp only[Act.put,Ya,Yb,Yc]
      refine tkk 9 54 hHeld ?_;try simp only[Act.put,Ya,Yb,Yc]
      refine tkk 10 55 hHeld ?_;try simp only[Act.put,Ya,Yb,Yc]
      refine tkk 11 56 hHeld ?_;try simp only[Act.put,Ya,Yb,Yc]
      refine tkk 12 57 hHeld ?_;try simp only[Act.put,Ya,Yb,Yc]
      refine tkk 13 58 hHeld ?_;try simp only[Act.put,Ya,Yb,Yc]
      refine tkk 14 59 hHeld ?_;try simp only[Act.put,Ya,Yb,Yc]
      refine tkk 15 60 hHeld ?_;try simp only[Act.put,Ya,Yb,Yc]
      refine tkk 16 61 hHeld ?_;try simp only[Act.put,Ya,Yb,Yc]
      refine tkk 17 62 hHeld ?_;try simp only[Act.put,Ya,Yb,Yc]
      refine tkk 18 63 hHeld ?_;try simp only[Act.put,Ya,Yb,Yc]
      refine zal 19 (fun K hK=>?_);go_simp;clear hHeld;(refine((uq TIm) _ ((uq K0).trans ((uq KB).trans (((uq KM).trans (uq K3)).trans (uq K4))))).mono ?_;rintro e w4 ⟨rfl,rfl⟩);try go_wp2_with fail
      refine hK.out _ _ ?_ (fun hHeld=>?_)
      ·exact(uq HD3) _ (uq K4)
      clear hK K;try simp only[Act.put,Ya,Yb,Yc]
      refine tkk 20 65 hHeld ?_;try simp only[Act.put,Ya,Yb,Yc]
      refine wpAnyH_done (by kernel_rfl) ?_ _;clear hHeld;obtain⟨⟨z0,z1,z2,z3,z4,z5,z6⟩,f0,f1,f2⟩:=(uq HXX) w4 (((uq KM).trans (uq K3)).trans (uq K4))
      go_upto_region 13 with fail
      refine wp_region_held_drew (S:=(fun w'=>w'.cell? ⟨q,2,none⟩=some (.int .i64 (P k)))) (by kernel_rfl) (by(obtain⟨⟨_,_,_,_,_,_,_⟩,_,_,g9⟩:=(uq HXX) _ (((uq KM).trans (uq K3)).trans (uq K4)).drew;exact g9)) (fun hHeld=>?_);refine tkk 0 66 hHeld ?_;try simp only[Act.put,Ya,Yb,Yc]
      refine tkk 1 67 hHeld ?_;try simp only[Act.put,Ya,Yb,Yc]
      refine tkk 2 2 hHeld ?_;try simp only[Act.put,Ya,Yb,Yc]
      refine tkk 3 3 hHeld ?_;try simp only[Act.put,Ya,Yb,Yc]
      refine wpAnyH_done (by kernel_rfl) ?_ _;clear hHeld;go_wp2_with fail
      go_ret2;exact⟨(uq K0).trans ((uq KB).trans ((((uq KM).trans (uq K3)).trans (uq K4)).drew)),rfl⟩
    ·have lm:¬(m:Int)<(N k:Int):=by omega
     obtain rfl:m=N k:=by omega
     have hr2:=zaF (uq HG) (by omega);have HZ:=hide ((uq HR2).trans hr2);clear HG hr2;by_cases hz:N k=0
     ·have hz9:((N k:Int)==0)=true:=by simp[hz]
      have hr:=zab (uq HF) (uq HLT) (zm7 (uq HH0) (uq HZ) hz);subst hr;clear HF hz
      go_upto_region 15 with fail
      refine wp_region_held_drew (S:=(fun w'=>w'.cell? ⟨q,2,none⟩=some (.int .i64 (P k)))) (by kernel_rfl) (by(obtain⟨⟨_,_,_,_,_,_,_⟩,_,_,g9⟩:=(uq HXX) _ (uq KM).drew;exact g9)) (fun hHeld=>?_);refine tkk 0 72 hHeld ?_;try simp only[Act.put,Ya,Yb,Yc]
      refine tkk 1 73 hHeld ?_;try simp only[Act.put,Ya,Yb,Yc]
      refine tkk 2 2 hHeld ?_;try simp only[Act.put,Ya,Yb,Yc]
      refine tkk 3 3 hHeld ?_;try simp only[Act.put,Ya,Yb,Yc]
      refine wpAnyH_done (by kernel_rfl) ?_ _;clear hHeld;go_wp2_with fail
      go_ret2;exact⟨(uq K0).trans ((uq KB).trans ((uq KM).drew)),rfl⟩
     ·have hz9:((N k:Int)==0)=false:=by simp[hz]
      have HF2:=hide (zaY (uq HF) (uq HLT) (zm8 (uq HH0) (uq HZ) hz));clear HF hz;go_wp2_with fail
      go_roundw
      case rel=>exact⟨k+1,by go_num,by have:=uq HLT;omega,hide ((uq KB).trans (uq KM)),HF2⟩
      case measure=>have:=uq HLT;simp[intOf];omega
  ·have li:¬(k:Int)<(n3:Int):=by omega
   have hr:=zaF (uq HF) (by omega);subst hr;have HJ1:Hid (fE (ltF (hmL N H n3) T1 73 P1) 0 (n1 - 0)=r1):=HI1;go_wp2_with fail
   clear z0 z1 z2 z3 z4 z5 z6
   go_loopw [7] (fun vm wq=>∃ m:Nat,vm= .int .i64 (m:Int)∧m≤n1∧Hid (Keep w0 wq)∧Hid (fE (ltF (hmL N H n3) T1 73 P1) m (n1 - m)=r1)) (fun vm _=>n1 - (intOf vm).toNat)
   case atStart=>exact⟨0,rfl,Nat.zero_le _,KW,HJ1⟩
   case round=>
    obtain⟨m,rfl,hm,KM,HG⟩:=hrel;obtain⟨z0,z1,z2,z3,z4,z5,z6⟩:=(uq HX0) wr (uq KM);by_cases hmt:m<n1
    ·have lm:(m:Int)<(n1:Int):=by omega
     obtain⟨ad,rfl,hb,e0,e1⟩:=(uq HC1) m hmt;have HD9:Hid (∀ w',Keep wr w'→(w'.cell? ⟨q0,0,none⟩=some (.string s)∧w'.cell? ⟨q0,1,none⟩=some (.slice (some ad) n1 c1)∧w'.cell? ⟨q0,2,none⟩=some (.slice x2 n2 c2)∧w'.cell? ⟨q0,3,none⟩=some (.slice x3 n3 c3)∧w'.cell? ⟨q0,4,none⟩=some (.slice x4 n4 c4)∧w'.cell? ⟨q0,5,none⟩=some (.slice x5 n5 c5)∧w'.cell? ⟨q0,6,none⟩=some (.int .i64 p))∧w'.cell? (ad.add (m * 11))=some (.string (sv (T1 m)))∧w'.cell? ⟨(ad.add (m * 11)).block,(ad.add (m * 11)).off+10,none⟩=some (.int .i64 (P1 m))):=hide (fun w' k9=>⟨(uq HX0) w' ((uq KM).trans k9),far_cell ((uq K0).trans ((uq KM).trans k9)) (by rw[add_block9];exact hb) e0,far_cell ((uq K0).trans ((uq KM).trans k9)) (by show(ad.add (m * 11)).block<_;rw[add_block9];exact hb) e1⟩);clear e0 e1;obtain⟨j2,HJ2⟩:∃ j,Hid (hO (T1 m)=j):=⟨_,hide rfl⟩;have TKO:=hide (fun w'=>(uq TO) (T1 m) w');have hj2:=(uq HOL) m hmt;rw[uq HJ2]at TKO hj2;cases hw:hs (hmL N H n3) (T1 m)
     ·have hj:decide (j2<0)=true:=decide_eq_true (hj2.2 hw);have hr:=zab (uq HG) hmt (show ltF (hmL N H n3) T1 73 P1 m=some (73,P1 m) by unfold ltF;rw[if_neg (by rw[hw];decide)]);subst hr;clear HG hj2 hw
      go_upto_region 19 with fail
      clear z0 z1 z2 z3 z4 z5 z6;refine wp_region_held_drew (S:=(fun w'=>(w'.cell? ⟨q0,0,none⟩=some (.string s)∧w'.cell? ⟨q0,1,none⟩=some (.slice (some ad) n1 c1)∧w'.cell? ⟨q0,2,none⟩=some (.slice x2 n2 c2)∧w'.cell? ⟨q0,3,none⟩=some (.slice x3 n3 c3)∧w'.cell? ⟨q0,4,none⟩=some (.slice x4 n4 c4)∧w'.cell? ⟨q0,5,none⟩=some (.slice x5 n5 c5)∧w'.cell? ⟨q0,6,none⟩=some (.int .i64 p))∧w'.cell? (ad.add (m * 11))=some (.string (sv (T1 m)))∧w'.cell? ⟨(ad.add (m * 11)).block,(ad.add (m * 11)).off+10,none⟩=some (.int .i64 (P1 m)))) (by kernel_rfl) (by exact(uq HD9) _ (Keep.refl wr).drew) (fun hHeld=>?_);refine tkk 0 81 hHeld ?_;try simp only[Act.put,Ya,Yb,Yc]
      refine tkk 1 82 hHeld ?_;try simp only[Act.put,Ya,Yb,Yc]
      refine tkk 2 83 hHeld ?_;try simp only[Act.put,Ya,Yb,Yc]
      refine tkk 3 84 hHeld ?_;try simp only[Act.put,Ya,Yb,Yc]
      refine tkk 4 85 hHeld ?_;try simp only[Act.put,Ya,Yb,Yc]
      refine tkk 5 86 hHeld ?_;try simp only[Act.put,Ya,Yb,Yc]
      refine tkk 6 87 hHeld ?_;try simp only[Act.put,Ya,Yb,Yc]
      refine zal 7 (fun K hK=>?_);go_simp;clear hHeld;(refine((uq TKO) _ ((uq K0).trans (uq KM).drew)).mono ?_;rintro e w3 ⟨rfl,hk9⟩;have K3:=hide ((Keep.refl wr).drew.trans hk9);clear hk9);try go_wp2_with fail
      refine hK.out _ _ ?_ (fun hHeld=>?_)
      ·exact(uq HD9) _ (uq K3)
      clear hK K;try simp only[Act.put,Ya,Yb,Yc]
      refine tkk 8 89 hHeld ?_;try simp only[Act.put,Ya,Yb,Yc]
      refine wpAnyH_done (by kernel_rfl) ?_ _;clear hHeld
      go_upto_region 20 with fail
      refine wp_region_held_drew (S:=(fun w'=>(w'.cell? ⟨q0,0,none⟩=some (.string s)∧w'.cell? ⟨q0,1,none⟩=some (.slice (some ad) n1 c1)∧w'.cell? ⟨q0,2,none⟩=some (.slice x2 n2 c2)∧w'.cell? ⟨q0,3,none⟩=some (.slice x3 n3 c3)∧w'.cell? ⟨q0,4,none⟩=some (.slice x4 n4 c4)∧w'.cell? ⟨q0,5,none⟩=some (.slice x5 n5 c5)∧w'.cell? ⟨q0,6,none⟩=some (.int .i64 p))∧w'.cell? (ad.add (m * 11))=some (.string (sv (T1 m)))∧w'.cell? ⟨(ad.add (m * 11)).block,(ad.add (m * 11)).off+10,none⟩=some (.int .i64 (P1 m)))) (by kernel_rfl) (by exact(uq HD9) _ (uq K3).drew) (fun hHeld=>?_);refine tkk 0 90 hHeld ?_;try simp only[Act.put,Ya,Yb,Yc]
      refine tkk 1 91 hHeld ?_;try simp only[Act.put,Ya,Yb,Yc]
      refine tkk 2 92 hHeld ?_;try simp only[Act.put,Ya,Yb,Yc]
      refine tkk 3 93 hHeld ?_;try simp only[Act.put,Ya,Yb,Yc]
      refine tkk 4 94 hHeld ?_;try simp only[Act.put,Ya,Yb,Yc]
      refine tkk 5 95 hHeld ?_;try simp only[Act.put,Ya,Yb,Yc]
      refine tkk 6 2 hHeld ?_;try simp only[Act.put,Ya,Yb,Yc]
      refine tkk 7 3 hHeld ?_;try simp only[Act.put,Ya,Yb,Yc]
      refine wpAnyH_done (by kernel_rfl) ?_ _;clear hHeld;go_wp2_with fail
      go_ret2;exact⟨(uq K0).trans ((uq KM).trans (uq K3).drew),rfl⟩
     ·have hj:decide (j2<0)=false:=decide_eq_false (fun h=>by have:=hj2.1 h;rw[hw]at this;cases this);have HG2:=hide (zaY (uq HG) hmt (show ltF (hmL N H n3) T1 73 P1 m=none by unfold ltF;rw[if_pos hw]));clear HG hj2 hw
      go_upto_region 19 with fail
      clear z0 z1 z2 z3 z4 z5 z6;refine wp_region_held_drew (S:=(fun w'=>(w'.cell? ⟨q0,0,none⟩=some (.string s)∧w'.cell? ⟨q0,1,none⟩=some (.slice (some ad) n1 c1)∧w'.cell? ⟨q0,2,none⟩=some (.slice x2 n2 c2)∧w'.cell? ⟨q0,3,none⟩=some (.slice x3 n3 c3)∧w'.cell? ⟨q0,4,none⟩=some (.slice x4 n4 c4)∧w'.cell? ⟨q0,5,none⟩=some (.slice x5 n5 c5)∧w'.cell? ⟨q0,6,none⟩=some (.int .i64 p))∧w'.cell? (ad.add (m * 11))=some (.string (sv (T1 m)))∧w'.cell? ⟨(ad.add (m * 11)).block,(ad.add (m * 11)).off+10,none⟩=some (.int .i64 (P1 m)))) (by kernel_rfl) (by exact(uq HD9) _ (Keep.refl wr).drew) (fun hHeld=>?_);refine tkk 0 81 hHeld ?_;try simp only[Act.put,Ya,Yb,Yc]
      refine tkk 1 82 hHeld ?_;try simp only[Act.put,Ya,Yb,Yc]
      refine tkk 2 83 hHeld ?_;try simp only[Act.put,Ya,Yb,Yc]
      refine tkk 3 84 hHeld ?_;try simp only[Act.put,Ya,Yb,Yc]
      refine tkk 4 85 hHeld ?_;try simp only[Act.put,Ya,Yb,Yc]
      refine tkk 5 86 hHeld ?_;try simp only[Act.put,Ya,Yb,Yc]
      refine tkk 6 87 hHeld ?_;try simp only[Act.put,Ya,Yb,Yc]
      refine zal 7 (fun K hK=>?_);go_simp;clear hHeld;(refine((uq TKO) _ ((uq K0).trans (uq KM).drew)).mono ?_;rintro e w3 ⟨rfl,hk9⟩;have K3:=hide ((Keep.refl wr).drew.trans hk9);clear hk9);try go_wp2_with fail
      refine hK.out _ _ ?_ (fun hHeld=>?_)
      ·exact(uq HD9) _ (uq K3)
      clear hK K;try simp only[Act.put,Ya,Yb,Yc]
      refine tkk 8 89 hHeld ?_;try simp only[Act.put,Ya,Yb,Yc]
      refine wpAnyH_done (by kernel_rfl) ?_ _;clear hHeld;go_wp2_with fail
      go_roundw
      case rel=>exact⟨m+1,by go_num,by omega,hide ((uq KM).trans (uq K3)),HG2⟩
      case measure=>simp[intOf];omega
    ·have lm:¬(m:Int)<(n1:Int):=by omega
     have hr:=zaF (uq HG) (by omega);subst hr;go_wp2_with fail
     go_ret2;exact⟨(uq K0).trans (uq KM),rfl⟩
end V
end Go.Proofs.YtpmaonkelkmhbaaGreat
