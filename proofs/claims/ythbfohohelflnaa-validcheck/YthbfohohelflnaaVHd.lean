/- Package valid: heads. -/
import Derived.Test.YthbfohohelflnaaVMath
import Derived.Test.YthbfohohelflnaaLMath
import Derived.Deep.DrawnRows
import Derived.Deep.RegionHeld3
namespace Go.Proofs.Ythbfohohelflnaa
open Go.RowKit
attribute [local go_sem ↓] Go.wp_at_zero Go.wp_at_succ
set_option linter.unusedVariables false
set_option linter.unusedSimpArgs false
set_option maxRecDepth 10000
namespace V
theorem zaa (ad:Addr) (n:Nat):(ad.add n).block=ad.block:=by unfold Addr.add;split<;>rfl
theorem zab {w W:World} {a:Addr} {v:Value} (h:Keep w W) (hb:a.block<w.heap.size) (hc:w.cell? a=some v):W.cell? a=some v:=by rw[Below.cell h hb];exact hc
set_option maxHeartbeats 4000000 in
theorem zd5 (a:Option Addr) (n cap:Nat) (T:Nat→List UInt8) (V1 V2 V3 V4 V5 V6 V7 V8 V9 P:Nat→Int) (r:Eq2) (w:World) (hn:n≤9223372036854775807)
  (HT:Hid (∀ k,k<n→(T k).length≤maxLen))
  (HC:Hid (∀ k,k<n→∃ ad,a=some ad∧ad.block<w.heap.size∧w.cell? (ad.add (k * 11))=some (.string (sv (T k)))∧w.cell? ⟨(ad.add (k * 11)).block,(ad.add (k * 11)).off+1,none⟩=some (.int .i64 (V1 k))∧w.cell? ⟨(ad.add (k * 11)).block,(ad.add (k * 11)).off+2,none⟩=some (.int .i64 (V2 k))∧w.cell? ⟨(ad.add (k * 11)).block,(ad.add (k * 11)).off+3,none⟩=some (.int .i64 (V3 k))∧w.cell? ⟨(ad.add (k * 11)).block,(ad.add (k * 11)).off+4,none⟩=some (.int .i64 (V4 k))∧w.cell? ⟨(ad.add (k * 11)).block,(ad.add (k * 11)).off+5,none⟩=some (.int .i64 (V5 k))∧w.cell? ⟨(ad.add (k * 11)).block,(ad.add (k * 11)).off+6,none⟩=some (.int .i64 (V6 k))∧w.cell? ⟨(ad.add (k * 11)).block,(ad.add (k * 11)).off+7,none⟩=some (.int .i64 (V7 k))∧w.cell? ⟨(ad.add (k * 11)).block,(ad.add (k * 11)).off+8,none⟩=some (.int .i64 (V8 k))∧w.cell? ⟨(ad.add (k * 11)).block,(ad.add (k * 11)).off+9,none⟩=some (.int .i64 (V9 k))∧w.cell? ⟨(ad.add (k * 11)).block,(ad.add (k * 11)).off+10,none⟩=some (.int .i64 (P k))))
  (HI:Hid (fE (hdF T (fun k=>zbk (V1 k) (V2 k) (V3 k) (V4 k) (V5 k) (V6 k) (V7 k) (V8 k) (V9 k)) P) 0 n=r)):
  Calls Try.prog 41 #[.slice a n cap] w (Hq r (mk T n) w):=by
 have RX:=hide zaJ;have RN:=hide zaP;have hmm:=@run_makeMap Try.prog;go_enter Try.func41,Try.ntmps41;go_wp2_with fail
 obtain⟨b,HB⟩:∃ b,Hid (b=w.heap.size):=⟨_,hide rfl⟩;have M0:Hid (Mp (w.alloc (.map #[] 0)) b (mk T 0)):=hide (by rw[uq HB];exact zby w);have K0:Hid (Keep w (w.alloc (.map #[] 0))):=hide ((Keep.refl w).alloc _);rw[← uq HB];generalize w.alloc (.map #[] 0)=w0 at M0 K0 ⊢
 go_loopw [9] (fun iv wr=>∃ k:Nat,iv= .int .i64 (k:Int)∧k≤n∧Hid (Mp wr b (mk T k))∧Hid (Keep w wr)∧Hid (fE (hdF T (fun k=>zbk (V1 k) (V2 k) (V3 k) (V4 k) (V5 k) (V6 k) (V7 k) (V8 k) (V9 k)) P) k (n - k)=r)) (fun iv _=>n - (intOf iv).toNat)
 case atStart=>exact⟨0,rfl,by omega,M0,K0,HI⟩
 case round=>
  obtain⟨k,rfl,hk,MK,KW,HF⟩:=hrel;by_cases hlt:k<n
  ·have li:(k:Int)<(n:Int):=by omega
   obtain⟨ad,rfl,hb,e0,e1,e2,e3,e4,e5,e6,e7,e8,e9,e10⟩:=(uq HC) k hlt;have tl:=hide ((uq HT) k hlt);have x0:=zab (uq KW) (by rw[zaa];exact hb) e0;have x1:=zab (uq KW) (by show(ad.add (k * 11)).block<_;rw[zaa];exact hb) e1;have x2:=zab (uq KW) (by show(ad.add (k * 11)).block<_;rw[zaa];exact hb) e2;have x3:=zab (uq KW) (by show(ad.add (k * 11)).block<_;rw[zaa];exact hb) e3;have x4:=zab (uq KW) (by show(ad.add (k * 11)).block<_;rw[zaa];exact hb) e4;have x5:=zab (uq KW) (by show(ad.add (k * 11)).block<_;rw[zaa];exact hb) e5;have x6:=zab (uq KW) (by show(ad.add (k * 11)).block<_;rw[zaa];exact hb) e6;have x7:=zab (uq KW) (by show(ad.add (k * 11)).block<_;rw[zaa];exact hb) e7;have x8:=zab (uq KW) (by show(ad.add (k * 11)).block<_;rw[zaa];exact hb) e8;have x9:=zab (uq KW) (by show(ad.add (k * 11)).block<_;rw[zaa];exact hb) e9;have x10:=zab (uq KW) (by show(ad.add (k * 11)).block<_;rw[zaa];exact hb) e10;clear e0 e1 e2 e3 e4 e5 e6 e7 e8 e9 e10;have hbx:=heap_alloc_new wr (.cells #[.string (sv (T k)),.int .i64 (V1 k),.int .i64 (V2 k),.int .i64 (V3 k),.int .i64 (V4 k),.int .i64 (V5 k),.int .i64 (V6 k),.int .i64 (V7 k),.int .i64 (V8 k),.int .i64 (V9 k),.int .i64 (P k)] 59);have HKB:=hide ((uq KW).alloc (.cells #[.string (sv (T k)),.int .i64 (V1 k),.int .i64 (V2 k),.int .i64 (V3 k),.int .i64 (V4 k),.int .i64 (V5 k),.int .i64 (V6 k),.int .i64 (V7 k),.int .i64 (V8 k),.int .i64 (V9 k),.int .i64 (P k)] 59));have HMB:=hide ((uq MK).keep ((Keep.refl wr).alloc (.cells #[.string (sv (T k)),.int .i64 (V1 k),.int .i64 (V2 k),.int .i64 (V3 k),.int .i64 (V4 k),.int .i64 (V5 k),.int .i64 (V6 k),.int .i64 (V7 k),.int .i64 (V8 k),.int .i64 (V9 k),.int .i64 (P k)] 59)))
   go_upto_region 5 with fail
   generalize hwa:wr.alloc (.cells #[.string (sv (T k)),.int .i64 (V1 k),.int .i64 (V2 k),.int .i64 (V3 k),.int .i64 (V4 k),.int .i64 (V5 k),.int .i64 (V6 k),.int .i64 (V7 k),.int .i64 (V8 k),.int .i64 (V9 k),.int .i64 (P k)] 59)=wa at hbx HKB HMB ⊢;obtain⟨q,HQ⟩:∃ q,Hid (wr.heap.size=q):=⟨_,hide rfl⟩;rw[uq HQ]at hbx ⊢;have HX:Hid (∀ w':World,w'.heap[q]? =wa.heap[q]? →w'.cell? ⟨q,0,none⟩=some (.string (sv (T k)))∧w'.cell? ⟨q,1,none⟩=some (.int .i64 (V1 k))∧w'.cell? ⟨q,2,none⟩=some (.int .i64 (V2 k))∧w'.cell? ⟨q,3,none⟩=some (.int .i64 (V3 k))∧w'.cell? ⟨q,4,none⟩=some (.int .i64 (V4 k))∧w'.cell? ⟨q,5,none⟩=some (.int .i64 (V5 k))∧w'.cell? ⟨q,6,none⟩=some (.int .i64 (V6 k))∧w'.cell? ⟨q,7,none⟩=some (.int .i64 (V7 k))∧w'.cell? ⟨q,8,none⟩=some (.int .i64 (V8 k))∧w'.cell? ⟨q,9,none⟩=some (.int .i64 (V9 k))∧w'.cell? ⟨q,10,none⟩=some (.int .i64 (P k))):=hide (fun w' h9=>by rw[hbx]at h9;refine⟨?_,?_,?_,?_,?_,?_,?_,?_,?_,?_,?_⟩<;>simp[World.cell?,h9]);have hql:q<wa.heap.size:=(Array.getElem?_eq_some_iff.1 hbx).1;have HQL:=hide hql;have hqb:q≠b:=by have:=(uq MK).lt;have:=uq HQ;omega
   have HQB:=hide hqb;clear hbx hwa hqb hql x0 x1 x2 x3 x4 x5 x6 x7 x8 x9 x10;obtain⟨f0,f1,f2,f3,f4,f5,f6,f7,f8,f9,f10⟩:=(uq HX) wa rfl;by_cases hh:hs (mk T k) (T k)=true
   ·have hr:=zac (uq HF) hlt (show hdF T _ P k=some (71,P k) by unfold hdF;rw[if_pos hh]);subst hr;clear HF;go_wp2_with fail
    (refine(zbz b (mk T k) (P k) _ (T k) _ (uq HMB) (uq tl) hh).mono ?_;rintro e w2 ⟨rfl,rfl⟩);go_wp2_with fail
    exact⟨rfl,uq HKB,rfl⟩
   ·have hh0:hs (mk T k) (T k)=false:=by simpa using hh
    have HH0:=hide hh0;clear hh hh0;go_wp2_with fail
    (refine(zbV b (mk T k) (P k) _ (T k) _ (uq HMB) (uq tl) (by rw[zbZ];unfold maxLen;omega) (zcn (by omega)) (uq HH0)).mono ?_;rintro e w2 ⟨rfl,hM2,hG2⟩);have HM2:Hid (Mp w2 b (mk T (k+1))):=hide (by rw[zbA];exact hM2);have HK2:=hide (zau (uq HKB) hG2 (by have:=uq HB;omega));have HX2:Hid (∀ w':World,Keep w2 w'→w'.cell? ⟨q,0,none⟩=some (.string (sv (T k)))∧w'.cell? ⟨q,1,none⟩=some (.int .i64 (V1 k))∧w'.cell? ⟨q,2,none⟩=some (.int .i64 (V2 k))∧w'.cell? ⟨q,3,none⟩=some (.int .i64 (V3 k))∧w'.cell? ⟨q,4,none⟩=some (.int .i64 (V4 k))∧w'.cell? ⟨q,5,none⟩=some (.int .i64 (V5 k))∧w'.cell? ⟨q,6,none⟩=some (.int .i64 (V6 k))∧w'.cell? ⟨q,7,none⟩=some (.int .i64 (V7 k))∧w'.cell? ⟨q,8,none⟩=some (.int .i64 (V8 k))∧w'.cell? ⟨q,9,none⟩=some (.int .i64 (V9 k))∧w'.cell? ⟨q,10,none⟩=some (.int .i64 (P k))):=hide (fun w' k9=>(uq HX) w' ((k9.block q (Nat.lt_of_lt_of_le (uq HQL) hG2.size)).trans (hG2.block q (uq HQL) (by simpa using uq HQB))));clear hM2 hG2 f0 f1 f2 f3 f4 f5 f6 f7 f8 f9 f10;by_cases hR:(zbk (V1 k) (V2 k) (V3 k) (V4 k) (V5 k) (V6 k) (V7 k) (V8 k) (V9 k))=true
    ·have hf:=zaU (uq HF) hlt (show hdF T _ P k=none by unfold hdF;rw[if_neg (by rw[uq HH0];decide),if_pos hR]);have HF2:=hide hf;have TR:=hide (zeJ (sv (T k)) (V1 k) (V2 k) (V3 k) (V4 k) (V5 k) (V6 k) (V7 k) (V8 k) (V9 k) (P k));rw[hR]at TR;clear hf hR HF
     go_upto_region 6 with fail
     refine wp_region_held_drew (S:=(fun w'=>w'.cell? ⟨q,0,none⟩=some (.string (sv (T k)))∧w'.cell? ⟨q,1,none⟩=some (.int .i64 (V1 k))∧w'.cell? ⟨q,2,none⟩=some (.int .i64 (V2 k))∧w'.cell? ⟨q,3,none⟩=some (.int .i64 (V3 k))∧w'.cell? ⟨q,4,none⟩=some (.int .i64 (V4 k))∧w'.cell? ⟨q,5,none⟩=some (.int .i64 (V5 k))∧w'.cell? ⟨q,6,none⟩=some (.int .i64 (V6 k))∧w'.cell? ⟨q,7,none⟩=some (.int .i64 (V7 k))∧w'.cell? ⟨q,8,none⟩=some (.int .i64 (V8 k))∧w'.cell? ⟨q,9,none⟩=some (.int .i64 (V9 k))∧w'.cell? ⟨q,10,none⟩=some (.int .i64 (P k)))) (by kernel_rfl) (by exact(uq HX2) _ (Keep.refl w2).drew) (fun hHeld=>?_);refine tkk 0 21 hHeld ?_;try simp only[Act.put,Ya,Yb,Yc]
     refine tkk 1 22 hHeld ?_;try simp only[Act.put,Ya,Yb,Yc]
     refine tkk 2 23 hHeld ?_;try simp only[Act.put,Ya,Yb,Yc]
     refine zat 3 (fun K hK=>?_);go_simp;clear hHeld;(refine((uq TR) _).mono ?_;rintro e w3 ⟨rfl,hk9⟩;have K3:=hide (((Keep.refl w2).drew).trans hk9);clear hk9);try go_wp2_with fail
     refine hK.out _ _ ?_ (fun hHeld=>?_)
     ·exact(uq HX2) _ (uq K3)
     clear hK K;try simp only[Act.put,Ya,Yb,Yc]
     refine tkk 4 25 hHeld ?_;try simp only[Act.put,Ya,Yb,Yc]
     refine zat 5 (fun K hK=>?_);go_simp;clear hHeld;(refine((uq RN) _ _ _).mono ?_;rintro e w4 ⟨rfl,rfl⟩);try go_wp2_with fail
     refine hK.out _ _ ?_ (fun hHeld=>?_)
     ·exact(uq HX2) _ (uq K3)
     clear hK K;try simp only[Act.put,Ya,Yb,Yc]
     refine wpAnyH_done (by kernel_rfl) ?_ _;clear hHeld;go_wp2_with fail
     go_roundw
     case rel=>exact⟨k+1,by go_num,by omega,hide ((uq HM2).keep (uq K3)),hide ((uq HK2).trans (uq K3)),HF2⟩
     case measure=>simp[intOf];omega
    ·have hR0:(zbk (V1 k) (V2 k) (V3 k) (V4 k) (V5 k) (V6 k) (V7 k) (V8 k) (V9 k))=false:=by simpa using hR
     have hr:=zac (uq HF) hlt (show hdF T _ P k=some (70,P k) by unfold hdF;rw[if_neg (by rw[uq HH0];decide),if_neg hR]);subst hr;have TR:=hide (zeJ (sv (T k)) (V1 k) (V2 k) (V3 k) (V4 k) (V5 k) (V6 k) (V7 k) (V8 k) (V9 k) (P k));rw[hR0]at TR;clear hR hR0 HF
     go_upto_region 6 with fail
     refine wp_region_held_drew (S:=(fun w'=>w'.cell? ⟨q,0,none⟩=some (.string (sv (T k)))∧w'.cell? ⟨q,1,none⟩=some (.int .i64 (V1 k))∧w'.cell? ⟨q,2,none⟩=some (.int .i64 (V2 k))∧w'.cell? ⟨q,3,none⟩=some (.int .i64 (V3 k))∧w'.cell? ⟨q,4,none⟩=some (.int .i64 (V4 k))∧w'.cell? ⟨q,5,none⟩=some (.int .i64 (V5 k))∧w'.cell? ⟨q,6,none⟩=some (.int .i64 (V6 k))∧w'.cell? ⟨q,7,none⟩=some (.int .i64 (V7 k))∧w'.cell? ⟨q,8,none⟩=some (.int .i64 (V8 k))∧w'.cell? ⟨q,9,none⟩=some (.int .i64 (V9 k))∧w'.cell? ⟨q,10,none⟩=some (.int .i64 (P k)))) (by kernel_rfl) (by exact(uq HX2) _ (Keep.refl w2).drew) (fun hHeld=>?_);refine tkk 0 21 hHeld ?_;try simp only[Act.put,Ya,Yb,Yc]
     refine tkk 1 22 hHeld ?_;try simp only[Act.put,Ya,Yb,Yc]
     refine tkk 2 23 hHeld ?_;try simp only[Act.put,Ya,Yb,Yc]
     refine zat 3 (fun K hK=>?_);go_simp;clear hHeld;(refine((uq TR) _).mono ?_;rintro e w3 ⟨rfl,hk9⟩;have K3:=hide (((Keep.refl w2).drew).trans hk9);clear hk9);try go_wp2_with fail
     refine hK.out _ _ ?_ (fun hHeld=>?_)
     ·exact(uq HX2) _ (uq K3)
     clear hK K;try simp only[Act.put,Ya,Yb,Yc]
     refine tkk 4 25 hHeld ?_;try simp only[Act.put,Ya,Yb,Yc]
     refine wpAnyH_ready (rs:= [5]) (by kernel_rfl) (by simp) ?_;refine AllReadyH.cons rfl (fun K hK=>?_) AllReadyH.nil;go_simp;clear hHeld;(refine((uq RX) _ _ _).mono ?_;rintro e w4 ⟨rfl,rfl⟩);try go_wp2_with fail
     exact⟨rfl,(uq HK2).trans (uq K3),rfl⟩
  ·have li:¬(k:Int)<(n:Int):=by omega
   have hr:=zaF (uq HF) (by omega);subst hr;obtain rfl:k=n:=by omega
   go_wp2_with fail
   go_ret;exact⟨uq KW,b,rfl,by have:=uq HB;omega,uq MK⟩
end V
end Go.Proofs.Ythbfohohelflnaa
