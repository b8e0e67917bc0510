/- Package valid: walks. -/
import Derived.Test.YtpmaonkelkmhbaaGreatVHd
import Derived.Test.YtpmaonkelkmhbaaGreatLSkip
import Derived.Deep.DrawnRows
import Derived.Deep.RegionHeld3
import Derived.Maps.OwnOps
namespace Go.Proofs.YtpmaonkelkmhbaaGreat
open Go.RowKit
attribute [local go_sem ↓] Go.wp_at_zero Go.wp_at_succ
set_option linter.unusedVariables false
set_option linter.unusedSimpArgs false
set_option maxRecDepth 10000
namespace V
def wkF (T U:Nat→List UInt8) (MP:List (List UInt8×Int)) (V2 V3 V4 P:Nat→Int) (k:Nat):Eq2:=if hs (mk T k) (T k)then some (71,P k)else if hs MP (U k)then
 (if btw 1 (V2 k) 100000 then(if btw 1 (V3 k) 10000 then(if btw 1 (V4 k) 6000 then none else some (70,P k))else some (70,P k))else some (70,P k))else some (72,P k)
set_option maxHeartbeats 4000000 in
theorem zfv (a:Option Addr) (n cap bp:Nat) (T U:Nat→List UInt8) (MP:List (List UInt8×Int)) (V2 V3 V4 P:Nat→Int) (r:Eq2) (w:World) (hn:n≤9223372036854775807) (HP:Hid (Mp w bp MP))
  (HT:Hid (∀ k,k<n→(T k).length≤maxLen∧(U k).length≤maxLen))
  (HC:Hid (∀ k,k<n→∃ ad,a=some ad∧ad.block<w.heap.size∧w.cell? (ad.add (k * 6))=some (.string (sv (T k)))∧w.cell? ⟨(ad.add (k * 6)).block,(ad.add (k * 6)).off+1,none⟩=some (.string (sv (U k)))∧w.cell? ⟨(ad.add (k * 6)).block,(ad.add (k * 6)).off+2,none⟩=some (.int .i64 (V2 k))∧w.cell? ⟨(ad.add (k * 6)).block,(ad.add (k * 6)).off+3,none⟩=some (.int .i64 (V3 k))∧w.cell? ⟨(ad.add (k * 6)).block,(ad.add (k * 6)).off+4,none⟩=some (.int .i64 (V4 k))∧w.cell? ⟨(ad.add (k * 6)).block,(ad.add (k * 6)).off+5,none⟩=some (.int .i64 (P k))))
  (HI:Hid (fE (wkF T U MP V2 V3 V4 P) 0 n=r)):
  Calls Tryz.prog 95 #[.slice a n cap,.map (some bp)] w (Nq r w):=by
 have RX:=hide zaJ;have RN:=hide zaQ;have hmm:=@run_makeMap Tryz.prog;go_enter Tryz.func95,Tryz.ntmps95;go_wp2_with fail
 obtain⟨b,HB⟩:∃ b,Hid (b=w.heap.size):=⟨_,hide rfl⟩;have M0:Hid (Mp (w.alloc (.map #[] 0)) b (mk T 0)):=hide (by rw[uq HB];exact zbM w);have K0:Hid (Keep w (w.alloc (.map #[] 0))):=hide ((Keep.refl w).alloc _);rw[← uq HB];generalize w.alloc (.map #[] 0)=w0 at M0 K0 ⊢
 go_loopw [10] (fun iv wr=>∃ k:Nat,iv= .int .i64 (k:Int)∧k≤n∧Hid (Mp wr b (mk T k))∧Hid (Keep w wr)∧Hid (fE (wkF T U MP V2 V3 V4 P) k (n - k)=r)) (fun iv _=>n - (intOf iv).toNat)
 case atStart=>exact⟨0,rfl,by omega,M0,K0,HI⟩
 case round=>
  obtain⟨k,rfl,hk,MK,KW,HF⟩:=hrel;by_cases hlt:k<n
  ·have li:(k:Int)<(n:Int):=by omega
   obtain⟨ad,rfl,hb,e0,e1,e2,e3,e4,e5⟩:=(uq HC) k hlt;obtain⟨tl,ul⟩:=(uq HT) k hlt;replace tl:=hide tl;replace ul:=hide ul;have x0:=far_cell (uq KW) (by rw[add_block9];exact hb) e0;have x1:=far_cell (uq KW) (by show(ad.add (k * 6)).block<_;rw[add_block9];exact hb) e1;have x2:=far_cell (uq KW) (by show(ad.add (k * 6)).block<_;rw[add_block9];exact hb) e2;have x3:=far_cell (uq KW) (by show(ad.add (k * 6)).block<_;rw[add_block9];exact hb) e3;have x4:=far_cell (uq KW) (by show(ad.add (k * 6)).block<_;rw[add_block9];exact hb) e4;have x5:=far_cell (uq KW) (by show(ad.add (k * 6)).block<_;rw[add_block9];exact hb) e5;clear e0 e1 e2 e3 e4 e5;have hbx:=heap_alloc_new wr (.cells #[.string (sv (T k)),.string (sv (U k)),.int .i64 (V2 k),.int .i64 (V3 k),.int .i64 (V4 k),.int .i64 (P k)] 86);have KBq:=hide ((uq KW).alloc (.cells #[.string (sv (T k)),.string (sv (U k)),.int .i64 (V2 k),.int .i64 (V3 k),.int .i64 (V4 k),.int .i64 (P k)] 86));have KAq:=hide ((Keep.refl wr).alloc (.cells #[.string (sv (T k)),.string (sv (U k)),.int .i64 (V2 k),.int .i64 (V3 k),.int .i64 (V4 k),.int .i64 (P k)] 86))
   go_upto_region 4 with fail
   generalize hwa:wr.alloc (.cells #[.string (sv (T k)),.string (sv (U k)),.int .i64 (V2 k),.int .i64 (V3 k),.int .i64 (V4 k),.int .i64 (P k)] 86)=wa at hbx KBq KAq ⊢;obtain⟨q,HQq⟩:∃ q,Hid (wr.heap.size=q):=⟨_,hide rfl⟩;rw[uq HQq]at hbx ⊢;have HXq:Hid (∀ w':World,w'.heap[q]? =wa.heap[q]? →w'.cell? ⟨q,0,none⟩=some (.string (sv (T k)))∧w'.cell? ⟨q,1,none⟩=some (.string (sv (U k)))∧w'.cell? ⟨q,2,none⟩=some (.int .i64 (V2 k))∧w'.cell? ⟨q,3,none⟩=some (.int .i64 (V3 k))∧w'.cell? ⟨q,4,none⟩=some (.int .i64 (V4 k))∧w'.cell? ⟨q,5,none⟩=some (.int .i64 (P k))):=hide (fun w' h9=>by rw[hbx]at h9;refine⟨?_,?_,?_,?_,?_,?_⟩<;>simp[World.cell?,h9]);have HQLq:=hide (Array.getElem?_eq_some_iff.1 hbx).1;clear hbx hwa x0 x1 x2 x3 x4 x5;have HMB:=hide ((uq MK).keep (uq KAq));have HQB:Hid (q≠b):=hide (by have:=(uq MK).lt;have:=uq HQq;omega);obtain⟨f0,f1,f2,f3,f4,f5⟩:=(uq HXq) wa rfl;by_cases hh:hs (mk T k) (T k)=true
   ·have hr:=zab (uq HF) hlt (show wkF T U MP V2 V3 V4 P k=some (71,P k) by unfold wkF;rw[if_pos hh]);subst hr;clear HF;go_wp2_with fail
    (refine(zbN b (mk T k) (P k) _ (T k) _ (uq HMB) (uq tl) hh).mono ?_;rintro e w2 ⟨rfl,rfl⟩);go_wp2_with fail
    exact⟨rfl,uq KBq,rfl⟩
   have hh0:hs (mk T k) (T k)=false:=by simpa using hh
   have HH0:=hide hh0;clear hh hh0;go_wp2_with fail
   (refine(zcj b (mk T k) (P k) _ (T k) _ (uq HMB) (uq tl) (by rw[zbZ];unfold maxLen;omega) (zcQ (by omega)) (uq HH0)).mono ?_;rintro e w2 ⟨rfl,hM2,hG2⟩);have HM2:Hid (Mp w2 b (mk T (k+1))):=hide (by rw[zbO];exact hM2);have HK2:=hide (zav (uq KBq) hG2 (by have:=uq HB;omega));have HX2:Hid (∀ w':World,Keep w2 w'→w'.cell? ⟨q,0,none⟩=some (.string (sv (T k)))∧w'.cell? ⟨q,1,none⟩=some (.string (sv (U k)))∧w'.cell? ⟨q,2,none⟩=some (.int .i64 (V2 k))∧w'.cell? ⟨q,3,none⟩=some (.int .i64 (V3 k))∧w'.cell? ⟨q,4,none⟩=some (.int .i64 (V4 k))∧w'.cell? ⟨q,5,none⟩=some (.int .i64 (P k))):=hide (fun w' k9=>(uq HXq) w' ((k9.block q (Nat.lt_of_lt_of_le (uq HQLq) hG2.size)).trans (hG2.block q (uq HQLq) (by simpa using uq HQB))));have HP2:=hide ((uq HP).keep (uq HK2));clear hM2 hG2 HMB HQB KBq KAq HXq f0 f1 f2 f3 f4 f5;obtain⟨f0,f1,f2,f3,f4,f5⟩:=(uq HX2) w2 (Keep.refl w2);have TW:=hide (zag bp MP (P k) (U k) w2 (uq HP2) (uq ul));cases hw:hs MP (U k)
   ·have hr:=zab (uq HF) hlt (show wkF T U MP V2 V3 V4 P k=some (72,P k) by unfold wkF;rw[if_neg (by rw[uq HH0];decide),if_neg (by rw[hw];decide)]);subst hr;rw[hw]at TW;clear HF hw;go_wp2_with fail
    (refine(uq TW).mono ?_;rintro e w3 ⟨rfl,rfl⟩;simp only[Bool.not_false,fl,En,if_true]);go_wp2_with fail
    exact⟨rfl,uq HK2,rfl⟩
   have HW:=hide hw;rw[hw]at TW;clear hw;go_wp2_with fail
   (refine(uq TW).mono ?_;rintro e w2 ⟨rfl,rfl⟩;simp only[Bool.not_true,fl,En,if_false,Bool.false_eq_true]);clear f0 f1 f2 f3 f4 f5;have KC0:=hide (Keep.refl w2);have TB:=hide (zaO 1 (V2 k) 100000);cases hB0:btw 1 (V2 k) 100000
   ·have hr:=zab (uq HF) hlt (show wkF T U MP V2 V3 V4 P k=some (70,P k) by unfold wkF;rw[if_neg (by rw[uq HH0];decide),if_pos (uq HW),if_neg (by rw[hB0];decide)]);subst hr;rw[hB0]at TB;clear HF hB0
    go_upto_region 6 with fail
    refine wp_region_held_drew (S:=(fun w'=>w'.cell? ⟨q,0,none⟩=some (.string (sv (T k)))∧w'.cell? ⟨q,1,none⟩=some (.string (sv (U k)))∧w'.cell? ⟨q,2,none⟩=some (.int .i64 (V2 k))∧w'.cell? ⟨q,3,none⟩=some (.int .i64 (V3 k))∧w'.cell? ⟨q,4,none⟩=some (.int .i64 (V4 k))∧w'.cell? ⟨q,5,none⟩=some (.int .i64 (P k)))) (by kernel_rfl) (by exact(uq HX2) _ (uq KC0).drew) (fun hHeld=>?_);refine tkk 0 28 hHeld ?_;try simp only[Act.put,Ya,Yb,Yc]
    refine tkk 1 29 hHeld ?_;try simp only[Act.put,Ya,Yb,Yc]
    refine tkk 2 30 hHeld ?_;try simp only[Act.put,Ya,Yb,Yc]
    refine tkk 3 31 hHeld ?_;try simp only[Act.put,Ya,Yb,Yc]
    refine zal 4 (fun K hK=>?_);go_simp;clear hHeld;(refine((uq TB) _).mono ?_;rintro e w4 ⟨rfl,rfl⟩);try go_wp2_with fail
    refine hK.out _ _ ?_ (fun hHeld=>?_)
    ·exact(uq HX2) _ (uq KC0).drew
    clear hK K;try simp only[Act.put,Ya,Yb,Yc]
    refine tkk 5 33 hHeld ?_;try simp only[Act.put,Ya,Yb,Yc]
    refine wpAnyH_ready (rs:= [6]) (by kernel_rfl) (by simp) ?_;refine AllReadyH.cons rfl (fun K hK=>?_) AllReadyH.nil;go_simp;clear hHeld;(refine((uq RX) _ _ _).mono ?_;rintro e w5 ⟨rfl,rfl⟩);try go_wp2_with fail
    exact⟨rfl,((uq HK2).trans (uq KC0)).drew,rfl⟩
   rw[hB0]at TB;have HB0:=hide hB0;clear hB0
   go_upto_region 6 with fail
   refine wp_region_held_drew (S:=(fun w'=>w'.cell? ⟨q,0,none⟩=some (.string (sv (T k)))∧w'.cell? ⟨q,1,none⟩=some (.string (sv (U k)))∧w'.cell? ⟨q,2,none⟩=some (.int .i64 (V2 k))∧w'.cell? ⟨q,3,none⟩=some (.int .i64 (V3 k))∧w'.cell? ⟨q,4,none⟩=some (.int .i64 (V4 k))∧w'.cell? ⟨q,5,none⟩=some (.int .i64 (P k)))) (by kernel_rfl) (by exact(uq HX2) _ (uq KC0).drew) (fun hHeld=>?_);refine tkk 0 28 hHeld ?_;try simp only[Act.put,Ya,Yb,Yc]
   refine tkk 1 29 hHeld ?_;try simp only[Act.put,Ya,Yb,Yc]
   refine tkk 2 30 hHeld ?_;try simp only[Act.put,Ya,Yb,Yc]
   refine tkk 3 31 hHeld ?_;try simp only[Act.put,Ya,Yb,Yc]
   refine zal 4 (fun K hK=>?_);go_simp;clear hHeld;(refine((uq TB) _).mono ?_;rintro e w4 ⟨rfl,rfl⟩);try go_wp2_with fail
   refine hK.out _ _ ?_ (fun hHeld=>?_)
   ·exact(uq HX2) _ (uq KC0).drew
   clear hK K;try simp only[Act.put,Ya,Yb,Yc]
   refine tkk 5 33 hHeld ?_;try simp only[Act.put,Ya,Yb,Yc]
   refine zal 6 (fun K hK=>?_);go_simp;clear hHeld;(refine((uq RN) _ _ _).mono ?_;rintro e w5 ⟨rfl,rfl⟩);try go_wp2_with fail
   refine hK.out _ _ ?_ (fun hHeld=>?_)
   ·exact(uq HX2) _ (uq KC0).drew
   clear hK K;try simp only[Act.put,Ya,Yb,Yc]
   refine wpAnyH_done (by kernel_rfl) ?_ _;clear hHeld;have KC1:=hide (uq KC0).drew;clear TB;have TB:=hide (zaO 1 (V3 k) 10000);cases hB1:btw 1 (V3 k) 10000
   ·have hr:=zab (uq HF) hlt (show wkF T U MP V2 V3 V4 P k=some (70,P k) by unfold wkF;rw[if_neg (by rw[uq HH0];decide),if_pos (uq HW),if_pos (uq HB0),if_neg (by rw[hB1];decide)]);subst hr;rw[hB1]at TB;clear HF hB1
    go_upto_region 7 with fail
    refine wp_region_held_drew (S:=(fun w'=>w'.cell? ⟨q,0,none⟩=some (.string (sv (T k)))∧w'.cell? ⟨q,1,none⟩=some (.string (sv (U k)))∧w'.cell? ⟨q,2,none⟩=some (.int .i64 (V2 k))∧w'.cell? ⟨q,3,none⟩=some (.int .i64 (V3 k))∧w'.cell? ⟨q,4,none⟩=some (.int .i64 (V4 k))∧w'.cell? ⟨q,5,none⟩=some (.int .i64 (P k)))) (by kernel_rfl) (by exact(uq HX2) _ (uq KC1).drew) (fun hHeld=>?_);refine tkk 0 35 hHeld ?_;try simp only[Act.put,Ya,Yb,Yc]
    refine tkk 1 36 hHeld ?_;try simp only[Act.put,Ya,Yb,Yc]
    refine tkk 2 37 hHeld ?_;try simp only[Act.put,Ya,Yb,Yc]
    refine tkk 3 38 hHeld ?_;try simp only[Act.put,Ya,Yb,Yc]
    refine zal 4 (fun K hK=>?_);go_simp;clear hHeld;(refine((uq TB) _).mono ?_;rintro e w4 ⟨rfl,rfl⟩);try go_wp2_with fail
    refine hK.out _ _ ?_ (fun hHeld=>?_)
    ·exact(uq HX2) _ (uq KC1).drew
    clear hK K;try simp only[Act.put,Ya,Yb,Yc]
    refine tkk 5 40 hHeld ?_;try simp only[Act.put,Ya,Yb,Yc]
    refine wpAnyH_ready (rs:= [6]) (by kernel_rfl) (by simp) ?_;refine AllReadyH.cons rfl (fun K hK=>?_) AllReadyH.nil;go_simp;clear hHeld;(refine((uq RX) _ _ _).mono ?_;rintro e w5 ⟨rfl,rfl⟩);try go_wp2_with fail
    exact⟨rfl,((uq HK2).trans (uq KC1)).drew,rfl⟩
   rw[hB1]at TB;have HB1:=hide hB1;clear hB1
   go_upto_region 7 with fail
   refine wp_region_held_drew (S:=(fun w'=>w'.cell? ⟨q,0,none⟩=some (.string (sv (T k)))∧w'.cell? ⟨q,1,none⟩=some (.string (sv (U k)))∧w'.cell? ⟨q,2,none⟩=some (.int .i64 (V2 k))∧w'.cell? ⟨q,3,none⟩=some (.int .i64 (V3 k))∧w'.cell? ⟨q,4,none⟩=some (.int .i64 (V4 k))∧w'.cell? ⟨q,5,none⟩=some (.int .i64 (P k)))) (by kernel_rfl) (by exact(uq HX2) _ (uq KC1).drew) (fun hHeld=>?_);refine tkk 0 35 hHeld ?_;try simp only[Act.put,Ya,Yb,Yc]
   refine tkk 1 36 hHeld ?_;try simp only[Act.put,Ya,Yb,Yc]
   refine tkk 2 37 hHeld ?_;try simp only[Act.put,Ya,Yb,Yc]
   refine tkk 3 38 hHeld ?_;try simp only[Act.put,Ya,Yb,Yc]
   refine zal 4 (fun K hK=>?_);go_simp;clear hHeld;(refine((uq TB) _).mono ?_;rintro e w4 ⟨rfl,rfl⟩);try go_wp2_with fail
   refine hK.out _ _ ?_ (fun hHeld=>?_)
   ·exact(uq HX2) _ (uq KC1).drew
   clear hK K;try simp only[Act.put,Ya,Yb,Yc]
   refine tkk 5 40 hHeld ?_;try simp only[Act.put,Ya,Yb,Yc]
   refine zal 6 (fun K hK=>?_);go_simp;clear hHeld;(refine((uq RN) _ _ _).mono ?_;rintro e w5 ⟨rfl,rfl⟩);try go_wp2_with fail
   refine hK.out _ _ ?_ (fun hHeld=>?_)
   ·exact(uq HX2) _ (uq KC1).drew
   clear hK K;try simp only[Act.put,Ya,Yb,Yc]
   refine wpAnyH_done (by kernel_rfl) ?_ _;clear hHeld;have KC2:=hide (uq KC1).drew;clear TB;have TB:=hide (zaO 1 (V4 k) 6000);cases hB2:btw 1 (V4 k) 6000
   ·have hr:=zab (uq HF) hlt (show wkF T U MP V2 V3 V4 P k=some (70,P k) by unfold wkF;rw[if_neg (by rw[uq HH0];decide),if_pos (uq HW),if_pos (uq HB0),if_pos (uq HB1),if_neg (by rw[hB2];decide)]);subst hr;rw[hB2]at TB;clear HF hB2
    go_upto_region 8 with fail
    refine wp_region_held_drew (S:=(fun w'=>w'.cell? ⟨q,0,none⟩=some (.string (sv (T k)))∧w'.cell? ⟨q,1,none⟩=some (.string (sv (U k)))∧w'.cell? ⟨q,2,none⟩=some (.int .i64 (V2 k))∧w'.cell? ⟨q,3,none⟩=some (.int .i64 (V3 k))∧w'.cell? ⟨q,4,none⟩=some (.int .i64 (V4 k))∧w'.cell? ⟨q,5,none⟩=some (.int .i64 (P k)))) (by kernel_rfl) (by exact(uq HX2) _ (uq KC2).drew) (fun hHeld=>?_);refine tkk 0 42 hHeld ?_;try simp only[Act.put,Ya,Yb,Yc]
    refine tkk 1 43 hHeld ?_;try simp only[Act.put,Ya,Yb,Yc]
    refine tkk 2 44 hHeld ?_;try simp only[Act.put,Ya,Yb,Yc]
    refine tkk 3 45 hHeld ?_;try simp only[Act.put,Ya,Yb,Yc]
    refine zal 4 (fun K hK=>?_);go_simp;clear hHeld;(refine((uq TB) _).mono ?_;rintro e w4 ⟨rfl,rfl⟩);try go_wp2_with fail
    refine hK.out _ _ ?_ (fun hHeld=>?_)
    ·exact(uq HX2) _ (uq KC2).drew
    clear hK K;try simp only[Act.put,Ya,Yb,Yc]
    refine tkk 5 47 hHeld ?_;try simp only[Act.put,Ya,Yb,Yc]
    refine wpAnyH_ready (rs:= [6]) (by kernel_rfl) (by simp) ?_;refine AllReadyH.cons rfl (fun K hK=>?_) AllReadyH.nil;go_simp;clear hHeld;(refine((uq RX) _ _ _).mono ?_;rintro e w5 ⟨rfl,rfl⟩);try go_wp2_with fail
    exact⟨rfl,((uq HK2).trans (uq KC2)).drew,rfl⟩
   rw[hB2]at TB;have HB2:=hide hB2;clear hB2
   go_upto_region 8 with fail
   refine wp_region_held_drew (S:=(fun w'=>w'.cell? ⟨q,0,none⟩=some (.string (sv (T k)))∧w'.cell? ⟨q,1,none⟩=some (.string (sv (U k)))∧w'.cell? ⟨q,2,none⟩=some (.int .i64 (V2 k))∧w'.cell? ⟨q,3,none⟩=some (.int .i64 (V3 k))∧w'.cell? ⟨q,4,none⟩=some (.int .i64 (V4 k))∧w'.cell? ⟨q,5,none⟩=some (.int .i64 (P k)))) (by kernel_rfl) (by exact(uq HX2) _ (uq KC2).drew) (fun hHeld=>?_);refine tkk 0 42 hHeld ?_;try simp only[Act.put,Ya,Yb,Yc]
   refine tkk 1 43 hHeld ?_;try simp only[Act.put,Ya,Yb,Yc]
   refine tkk 2 44 hHeld ?_;try simp only[Act.put,Ya,Yb,Yc]
   refine tkk 3 45 hHeld ?_;try simp only[Act.put,Ya,Yb,Yc]
   refine zal 4 (fun K hK=>?_);go_simp;clear hHeld;(refine((uq TB) _).mono ?_;rintro e w4 ⟨rfl,rfl⟩);try go_wp2_with fail
   refine hK.out _ _ ?_ (fun hHeld=>?_)
   ·exact(uq HX2) _ (uq KC2).drew
   clear hK K;try simp only[Act.put,Ya,Yb,Yc]
   refine tkk 5 47 hHeld ?_;try simp only[Act.put,Ya,Yb,Yc]
   refine zal 6 (fun K hK=>?_);go_simp;clear hHeld;(refine((uq RN) _ _ _).mono ?_;rintro e w5 ⟨rfl,rfl⟩);try go_wp2_with fail
   refine hK.out _ _ ?_ (fun hHeld=>?_)
   ·exact(uq HX2) _ (uq KC2).drew
   clear hK K;try simp only[Act.put,Ya,Yb,Yc]
   refine wpAnyH_done (by kernel_rfl) ?_ _;clear hHeld;have KC3:=hide (uq KC2).drew;clear TB;have hf:=zaY (uq HF) hlt (show wkF T U MP V2 V3 V4 P k=none by unfold wkF;rw[if_neg (by rw[uq HH0];decide),if_pos (uq HW),if_pos (uq HB0),if_pos (uq HB1),if_pos (uq HB2)]);have HF2:=hide hf;clear hf HF;go_wp2_with fail
   go_roundw
   case rel=>exact⟨k+1,by go_num,by omega,hide ((uq HM2).keep (uq KC3)),hide ((uq HK2).trans (uq KC3)),HF2⟩
   case measure=>simp[intOf];omega
  ·have li:¬(k:Int)<(n:Int):=by omega
   have hr:=zaF (uq HF) (by omega);subst hr;go_wp2_with fail
   go_end0
   exact⟨uq KW,rfl⟩
end V
end Go.Proofs.YtpmaonkelkmhbaaGreat
namespace Go.Proofs.YtpmaonkelkmhbaaGreat
open Go.RowKit Go.Maps
attribute [local go_sem ↓] Go.wp_at_zero Go.wp_at_succ
set_option linter.unusedVariables false
set_option linter.unusedSimpArgs false
set_option maxRecDepth 10000
namespace V
def foF (T U:Nat→List UInt8) (M:List (List UInt8×Int)) (P:Nat→Int) (k:Nat):Eq2:=if hs M (T k)then(if hs M (U k)then(if lk M (T k)=lk M (U k)then some (75,P k)else none)else some (72,P k))else some (72,P k)
theorem Mp.own {w:World} {b:Nat} {M:List (List UInt8×Int)} (h:Mp w b M):∃ D:DataW Unit,w.ownsMap Tryz.prog 9 (plainElem Tryz.prog 3) b M.length D∧∀(s:List UInt8) (c:Int),D.atKey (.string s) (.lit (.int .i64 0))= .lit (.int .i64 c)→c=lk M s:=by
 obtain⟨D,h1,h2,h3⟩:=h;exact⟨D,h1,fun s c hc=>by rw[h3 s]at hc;simp at hc;exact hc.symm⟩
set_option maxHeartbeats 4000000 in
theorem zgC (a:Option Addr) (n cap bp:Nat) (T U:Nat→List UInt8) (M:List (List UInt8×Int)) (P:Nat→Int) (r:Eq2) (w:World) (hn:n≤9223372036854775807) (HP:Hid (Mp w bp M))
  (HT:Hid (∀ k,k<n→(T k).length≤maxLen∧(U k).length≤maxLen))
  (HC:Hid (∀ k,k<n→∃ ad,a=some ad∧ad.block<w.heap.size∧w.cell? (ad.add (k * 3))=some (.string (sv (T k)))∧w.cell? ⟨(ad.add (k * 3)).block,(ad.add (k * 3)).off+1,none⟩=some (.string (sv (U k)))∧w.cell? ⟨(ad.add (k * 3)).block,(ad.add (k * 3)).off+2,none⟩=some (.int .i64 (P k))))
  (HI:Hid (fE (foF T U M P) 0 n=r)):
  Calls Tryz.prog 97 #[.slice a n cap,.map (some bp)] w (Nq r w):=by
 have RX:=hide zbD;go_enter Tryz.func97,Tryz.ntmps97;go_wp2_with fail
 go_loopw [8] (fun iv wr=>∃ k:Nat,iv= .int .i64 (k:Int)∧k≤n∧Hid (Keep w wr)∧Hid (fE (foF T U M P) k (n - k)=r)) (fun iv _=>n - (intOf iv).toNat)
 case atStart=>exact⟨0,rfl,by omega,hide (Keep.refl _),HI⟩
 case round=>
  obtain⟨k,rfl,hk,KW,HF⟩:=hrel;by_cases hlt:k<n
  ·have li:(k:Int)<(n:Int):=by omega
   obtain⟨ad,rfl,hb,e0,e1,e2⟩:=(uq HC) k hlt;obtain⟨tl,ul⟩:=(uq HT) k hlt;replace tl:=hide tl;replace ul:=hide ul;have x0:=far_cell (uq KW) (by rw[add_block9];exact hb) e0;have x1:=far_cell (uq KW) (by show(ad.add (k * 3)).block<_;rw[add_block9];exact hb) e1;have x2:=far_cell (uq KW) (by show(ad.add (k * 3)).block<_;rw[add_block9];exact hb) e2;clear e0 e1 e2;have hbx:=heap_alloc_new wr (.cells #[.string (sv (T k)),.string (sv (U k)),.int .i64 (P k)] 48);have KBq:=hide ((uq KW).alloc (.cells #[.string (sv (T k)),.string (sv (U k)),.int .i64 (P k)] 48));have KAq:=hide ((Keep.refl wr).alloc (.cells #[.string (sv (T k)),.string (sv (U k)),.int .i64 (P k)] 48))
   go_upto_region 3 with fail
   generalize hwa:wr.alloc (.cells #[.string (sv (T k)),.string (sv (U k)),.int .i64 (P k)] 48)=wa at hbx KBq KAq ⊢;obtain⟨q,HQq⟩:∃ q,Hid (wr.heap.size=q):=⟨_,hide rfl⟩;rw[uq HQq]at hbx ⊢;have HXq:Hid (∀ w':World,w'.heap[q]? =wa.heap[q]? →w'.cell? ⟨q,0,none⟩=some (.string (sv (T k)))∧w'.cell? ⟨q,1,none⟩=some (.string (sv (U k)))∧w'.cell? ⟨q,2,none⟩=some (.int .i64 (P k))):=hide (fun w' h9=>by rw[hbx]at h9;refine⟨?_,?_,?_⟩<;>simp[World.cell?,h9]);have HQLq:=hide (Array.getElem?_eq_some_iff.1 hbx).1;clear hbx hwa x0 x1 x2;have HMB:=hide ((uq HP).keep (uq KBq));obtain⟨f0,f1,f2⟩:=(uq HXq) wa rfl;have TW:=hide (zag bp M (P k) (T k) wa (uq HMB) (uq tl));have TV:=hide (zag bp M (P k) (U k) wa (uq HMB) (uq ul));cases hw:hs M (T k)
   ·have hr:=zab (uq HF) hlt (show foF T U M P k=some (72,P k) by unfold foF;rw[if_neg (by rw[hw];decide)]);subst hr;rw[hw]at TW;clear HF hw;go_wp2_with fail
    (refine(uq TW).mono ?_;rintro e w3 ⟨rfl,rfl⟩;simp only[Bool.not_false,fl,En,if_true]);go_wp2_with fail
    exact⟨rfl,uq KBq,rfl⟩
   have HW:=hide hw;rw[hw]at TW;clear hw;go_wp2_with fail
   (refine(uq TW).mono ?_;rintro e wa ⟨rfl,rfl⟩;simp only[Bool.not_true,fl,En,if_false,Bool.false_eq_true]);cases hw:hs M (U k)
   ·have hr:=zab (uq HF) hlt (show foF T U M P k=some (72,P k) by unfold foF;rw[if_pos (uq HW),if_neg (by rw[hw];decide)]);subst hr;rw[hw]at TV;clear HF hw;go_wp2_with fail
    (refine(uq TV).mono ?_;rintro e w3 ⟨rfl,rfl⟩;simp only[Bool.not_false,fl,En,if_true]);go_wp2_with fail
    exact⟨rfl,uq KBq,rfl⟩
   have HV:=hide hw;rw[hw]at TV;clear hw;go_wp2_with fail
   (refine(uq TV).mono ?_;rintro e wa ⟨rfl,rfl⟩;simp only[Bool.not_true,fl,En,if_false,Bool.false_eq_true]);obtain⟨D,hown,HD⟩:=(uq HMB).own;replace HD:=hide HD;have k1:=zdQ (uq tl);have k2:=zdQ (uq ul);generalize sv (T k)=sT at f0 k1;generalize sv (U k)=sU at f1 k2
   go_upto_region 5 with fail
   go_wp2_with (first|(at_lookup;refine wpList_lookup_own_int _ rfl _ _ 126 rfl 9 3 .i64 law Tryz.underlying126 Tryz.underlying3 (zk0 _) bp _ D rfl hown _ _ rfl (by first|exact k1|exact k2) ?_;intro c hat hwc;replace hat:=hide ((uq HD) _ _ hat))|fail)
   rename_i c1 hwc1 hat1 _ _
   (refine((uq RX) _ _ _ _).mono ?_;rintro e wa ⟨⟨hb9,rfl⟩|⟨hb9,rfl⟩,rfl⟩)
   ·have hr:=zab (uq HF) hlt (show foF T U M P k=some (75,P k) by unfold foF;rw[if_pos (uq HW),if_pos (uq HV),if_pos (by rw[← uq hat1,← uq hat];simpa using hb9)]);subst hr;clear HF hb9;go_wp2_with fail
    exact⟨rfl,uq KBq,rfl⟩
   have hf:=zaY (uq HF) hlt (show foF T U M P k=none by unfold foF;rw[if_pos (uq HW),if_pos (uq HV),if_neg (by rw[← uq hat1,← uq hat];simpa using hb9)]);have HF2:=hide hf;clear hf HF hb9;go_wp2_with fail
   go_roundw
   case rel=>exact⟨k+1,by go_num,by omega,KBq,HF2⟩
   case measure=>simp[intOf];omega
  ·have li:¬(k:Int)<(n:Int):=by omega
   have hr:=zaF (uq HF) (by omega);subst hr;go_wp2_with fail
   go_end0
   exact⟨uq KW,rfl⟩
end V
end Go.Proofs.YtpmaonkelkmhbaaGreat
