/- The document's answer for layer 10: rows held against one another. -/
import Derived.Test.YtcdhdhbjnpndkaaGreatNdR
import Derived.Test.YtcdhdhbjnpndkaaGreatLSkip
import Derived.Deep.DrawnRows
import Derived.Deep.RegionHeld3
import Derived.Test.YtcdhdhbjnpndkaaGreatNqT
namespace Go.Proofs.YtcdhdhbjnpndkaaGreat
open Go.RowKit
attribute [local go_sem ↓] Go.wp_at_zero Go.wp_at_succ
set_option linter.unusedVariables false
set_option linter.unusedSimpArgs false
set_option maxRecDepth 10000
namespace Nd
set_option maxHeartbeats 4000000 in
theorem zhE (a b:Option Addr) (n ca cb:Nat) (S9:Nat→Int) (w:World) (hn:n≤9223372036854775807)
  (HA:Hid (∀ k,k<n→∃ ad,a=some ad∧ad.block<w.heap.size∧w.cell? (ad.add k)=some (.int .i64 (S9 k))))
  (HB:Hid (∀ k,k<n→∃ ad,b=some ad∧ad.block<w.heap.size∧w.cell? (ad.add k)=some (.int .i64 (S9 k)))):
  Calls Tryz.prog 9 #[.slice a n ca,.slice b n cb] w fun e w'=>e= .returned (.bool true)∧Keep w w':=by
 have e1:((n:Int) !=(n:Int))=false:=by simp
 go_enter Tryz.func9,Tryz.ntmps9;go_wp2_with fail
 go_loopw [5] (fun vi wr=>∃ k:Nat,vi= .int .i64 (k:Int)∧k≤n∧Hid (Keep w wr)) (fun vi _=>n - (intOf vi).toNat)
 case atStart=>exact⟨0,rfl,Nat.zero_le _,hide (Keep.refl _)⟩
 case round=>
  obtain⟨k,rfl,hk,KW⟩:=hrel;by_cases hlt:k<n
  ·have li:(k:Int)<(n:Int):=by omega
   obtain⟨ad,rfl,hb1,e0⟩:=(uq HA) k hlt;obtain⟨bd,rfl,hb2,g0⟩:=(uq HB) k hlt;have HD9:Hid (∀ w',Keep w w'→(w'.cell? (ad.add k)=some (.int .i64 (S9 k)))∧w'.cell? (bd.add k)=some (.int .i64 (S9 k))):=hide (fun w' k9=>⟨W.Keep.cl k9 e0,W.Keep.cl k9 g0⟩);clear e0 g0
   go_upto_region 6 with fail
   refine wp_region_held_drew (S:=(fun w'=>(w'.cell? (ad.add k)=some (.int .i64 (S9 k)))∧w'.cell? (bd.add k)=some (.int .i64 (S9 k)))) (by kernel_rfl) (by exact(uq HD9) _ (uq KW).drew) (fun hHeld=>?_);refine tkk 0 17 hHeld ?_;try simp only[Act.put,Ya,Yb,Yc]
   refine tkk 1 18 hHeld ?_;try simp only[Act.put,Ya,Yb,Yc]
   refine tkk 2 19 hHeld ?_;try simp only[Act.put,Ya,Yb,Yc]
   refine tkk 3 20 hHeld ?_;try simp only[Act.put,Ya,Yb,Yc]
   refine tkk 4 21 hHeld ?_;try simp only[Act.put,Ya,Yb,Yc]
   refine tkk 5 22 hHeld ?_;try simp only[Act.put,Ya,Yb,Yc]
   refine tkk 6 23 hHeld ?_;try simp only[Act.put,Ya,Yb,Yc]
   refine tkk 7 24 hHeld ?_;try simp only[Act.put,Ya,Yb,Yc]
   refine tkk 8 25 hHeld ?_;try simp only[Act.put,Ya,Yb,Yc]
   refine wpAnyH_done (by kernel_rfl) ?_ _;clear hHeld;go_wp2_with fail
   go_roundw
   case rel=>exact⟨k+1,by go_num,by omega,hide (uq KW).drew⟩
   case measure=>simp[intOf];omega
  ·have li:¬(k:Int)<(n:Int):=by omega
   go_wp2_with fail
   go_ret;exact⟨rfl,uq KW⟩
set_option maxHeartbeats 4000000 in
theorem zhF (a b:Option Addr) (n ca cb:Nat) (P:Nat→List UInt8) (v1 v2:Nat→Int) (w:World) (hn:n≤9223372036854775807)
  (HA:Hid (∀ k,k<n→∃ ad,a=some ad∧ad.block<w.heap.size∧w.cell? (ad.add (k * 3))=some (.string (sv (P k)))∧w.cell? ⟨(ad.add (k * 3)).block,(ad.add (k * 3)).off+1,none⟩=some (.int .i64 (v1 k))∧w.cell? ⟨(ad.add (k * 3)).block,(ad.add (k * 3)).off+2,none⟩=some (.int .i64 (v2 k))))
  (HB:Hid (∀ k,k<n→∃ ad,b=some ad∧ad.block<w.heap.size∧w.cell? (ad.add (k * 3))=some (.string (sv (P k)))∧w.cell? ⟨(ad.add (k * 3)).block,(ad.add (k * 3)).off+1,none⟩=some (.int .i64 (v1 k))∧w.cell? ⟨(ad.add (k * 3)).block,(ad.add (k * 3)).off+2,none⟩=some (.int .i64 (v2 k)))):
  Calls Tryz.prog 24 #[.slice a n ca,.slice b n cb] w fun e w'=>e= .returned (.bool true)∧Keep w w':=by
 have e1:((n:Int) !=(n:Int))=false:=by simp
 go_enter Tryz.func24,Tryz.ntmps24;go_wp2_with fail
 go_loopw [5] (fun vi wr=>∃ k:Nat,vi= .int .i64 (k:Int)∧k≤n∧Hid (Keep w wr)) (fun vi _=>n - (intOf vi).toNat)
 case atStart=>exact⟨0,rfl,Nat.zero_le _,hide (Keep.refl _)⟩
 case round=>
  obtain⟨k,rfl,hk,KW⟩:=hrel;by_cases hlt:k<n
  ·have li:(k:Int)<(n:Int):=by omega
   obtain⟨ad,rfl,hb1,e0,e1,e2⟩:=(uq HA) k hlt;obtain⟨bd,rfl,hb2,g0,g1,g2⟩:=(uq HB) k hlt;have HD9:Hid (∀ w',Keep w w'→(w'.cell? (ad.add (k * 3))=some (.string (sv (P k)))∧w'.cell? ⟨(ad.add (k * 3)).block,(ad.add (k * 3)).off+1,none⟩=some (.int .i64 (v1 k))∧w'.cell? ⟨(ad.add (k * 3)).block,(ad.add (k * 3)).off+2,none⟩=some (.int .i64 (v2 k)))∧w'.cell? (bd.add (k * 3))=some (.string (sv (P k)))∧w'.cell? ⟨(bd.add (k * 3)).block,(bd.add (k * 3)).off+1,none⟩=some (.int .i64 (v1 k))∧w'.cell? ⟨(bd.add (k * 3)).block,(bd.add (k * 3)).off+2,none⟩=some (.int .i64 (v2 k))):=hide (fun w' k9=>⟨⟨W.Keep.cl k9 e0,W.Keep.cl k9 e1,W.Keep.cl k9 e2⟩,W.Keep.cl k9 g0,W.Keep.cl k9 g1,W.Keep.cl k9 g2⟩);clear e0 e1 e2 g0 g1 g2
   go_upto_region 6 with fail
   refine wp_region_held_drew (S:=(fun w'=>(w'.cell? (ad.add (k * 3))=some (.string (sv (P k)))∧w'.cell? ⟨(ad.add (k * 3)).block,(ad.add (k * 3)).off+1,none⟩=some (.int .i64 (v1 k))∧w'.cell? ⟨(ad.add (k * 3)).block,(ad.add (k * 3)).off+2,none⟩=some (.int .i64 (v2 k)))∧w'.cell? (bd.add (k * 3))=some (.string (sv (P k)))∧w'.cell? ⟨(bd.add (k * 3)).block,(bd.add (k * 3)).off+1,none⟩=some (.int .i64 (v1 k))∧w'.cell? ⟨(bd.add (k * 3)).block,(bd.add (k * 3)).off+2,none⟩=some (.int .i64 (v2 k)))) (by kernel_rfl) (by exact(uq HD9) _ (uq KW).drew) (fun hHeld=>?_);refine tkk 0 17 hHeld ?_;try simp only[Act.put,Ya,Yb,Yc]
   refine tkk 1 18 hHeld ?_;try simp only[Act.put,Ya,Yb,Yc]
   refine tkk 2 19 hHeld ?_;try simp only[Act.put,Ya,Yb,Yc]
   refine tkk 3 20 hHeld ?_;try simp only[Act.put,Ya,Yb,Yc]
   refine tkk 4 21 hHeld ?_;try simp only[Act.put,Ya,Yb,Yc]
   refine tkk 5 22 hHeld ?_;try simp only[Act.put,Ya,Yb,Yc]
   refine tkk 6 23 hHeld ?_;try simp only[Act.put,Ya,Yb,Yc]
   refine tkk 7 24 hHeld ?_;try simp only[Act.put,Ya,Yb,Yc]
   refine tkk 8 25 hHeld ?_;try simp only[Act.put,Ya,Yb,Yc]
   refine wpAnyH_done (by kernel_rfl) ?_ _;clear hHeld;go_wp2_with fail
   go_roundw
   case rel=>exact⟨k+1,by go_num,by omega,hide (uq KW).drew⟩
   case measure=>simp[intOf];omega
  ·have li:¬(k:Int)<(n:Int):=by omega
   go_wp2_with fail
   go_ret;exact⟨rfl,uq KW⟩
set_option maxHeartbeats 8000000 in
theorem zjE (a b:Option Addr) (n ca cb:Nat) (P:Nat→List UInt8) (G Y R X Z:Nat→Int) (WA UA:Nat→Option Addr) (WN WC UC:Nat→Nat) (w:World) (hn:n≤9223372036854775807)
  (HA:Hid (∀ k,k<n→∃ ad,a=some ad∧ad.block<w.heap.size∧w.cell? (ad.add (k * 7))=some (.string (sv (P k)))∧w.cell? ⟨(ad.add (k * 7)).block,(ad.add (k * 7)).off+1,none⟩=some (.int .i64 (G k))∧w.cell? ⟨(ad.add (k * 7)).block,(ad.add (k * 7)).off+2,none⟩=some (.int .i64 (Y k))∧w.cell? ⟨(ad.add (k * 7)).block,(ad.add (k * 7)).off+3,none⟩=some (.int .i64 (R k))∧w.cell? ⟨(ad.add (k * 7)).block,(ad.add (k * 7)).off+4,none⟩=some (.int .i64 (X k))∧w.cell? ⟨(ad.add (k * 7)).block,(ad.add (k * 7)).off+5,none⟩=some (.int .i64 (Z k))∧w.cell? ⟨(ad.add (k * 7)).block,(ad.add (k * 7)).off+6,none⟩=some (.slice (WA k) (WN k) (WC k))))
  (HB:Hid (∀ k,k<n→∃ ad,b=some ad∧ad.block<w.heap.size∧w.cell? (ad.add (k * 7))=some (.string (sv (P k)))∧w.cell? ⟨(ad.add (k * 7)).block,(ad.add (k * 7)).off+1,none⟩=some (.int .i64 (G k))∧w.cell? ⟨(ad.add (k * 7)).block,(ad.add (k * 7)).off+2,none⟩=some (.int .i64 (Y k))∧w.cell? ⟨(ad.add (k * 7)).block,(ad.add (k * 7)).off+3,none⟩=some (.int .i64 (R k))∧w.cell? ⟨(ad.add (k * 7)).block,(ad.add (k * 7)).off+4,none⟩=some (.int .i64 (X k))∧w.cell? ⟨(ad.add (k * 7)).block,(ad.add (k * 7)).off+5,none⟩=some (.int .i64 (Z k))∧w.cell? ⟨(ad.add (k * 7)).block,(ad.add (k * 7)).off+6,none⟩=some (.slice (UA k) (WN k) (UC k))))
  (TW:Hid (∀ k,k<n→∀ w',Keep w w'→Calls Tryz.prog 24 #[.slice (WA k) (WN k) (WC k),.slice (UA k) (WN k) (UC k)] w' fun e w''=>e= .returned (.bool true)∧Keep w' w'')):
  Calls Tryz.prog 8 #[.slice a n ca,.slice b n cb] w fun e w'=>e= .returned (.bool true)∧Keep w w':=by
 have e1:((n:Int) !=(n:Int))=false:=by simp
 go_enter Tryz.func8,Tryz.ntmps8;go_wp2_with fail
 go_loopw [5] (fun vi wr=>∃ k:Nat,vi= .int .i64 (k:Int)∧k≤n∧Hid (Keep w wr)) (fun vi _=>n - (intOf vi).toNat)
 case atStart=>exact⟨0,rfl,Nat.zero_le _,hide (Keep.refl _)⟩
 case round=>
  obtain⟨k,rfl,hk,KW⟩:=hrel;by_cases hlt:k<n
  ·have li:(k:Int)<(n:Int):=by omega
   obtain⟨ad,rfl,hb1,e0,e1,e2,e3,e4,e5,e6⟩:=(uq HA) k hlt;obtain⟨bd,rfl,hb2,g0,g1,g2,g3,g4,g5,g6⟩:=(uq HB) k hlt;have HD9:Hid (∀ w',Keep w w'→(w'.cell? (ad.add (k * 7))=some (.string (sv (P k)))∧w'.cell? ⟨(ad.add (k * 7)).block,(ad.add (k * 7)).off+1,none⟩=some (.int .i64 (G k))∧w'.cell? ⟨(ad.add (k * 7)).block,(ad.add (k * 7)).off+2,none⟩=some (.int .i64 (Y k))∧w'.cell? ⟨(ad.add (k * 7)).block,(ad.add (k * 7)).off+3,none⟩=some (.int .i64 (R k))∧w'.cell? ⟨(ad.add (k * 7)).block,(ad.add (k * 7)).off+4,none⟩=some (.int .i64 (X k))∧w'.cell? ⟨(ad.add (k * 7)).block,(ad.add (k * 7)).off+5,none⟩=some (.int .i64 (Z k))∧w'.cell? ⟨(ad.add (k * 7)).block,(ad.add (k * 7)).off+6,none⟩=some (.slice (WA k) (WN k) (WC k)))∧w'.cell? (bd.add (k * 7))=some (.string (sv (P k)))∧w'.cell? ⟨(bd.add (k * 7)).block,(bd.add (k * 7)).off+1,none⟩=some (.int .i64 (G k))∧w'.cell? ⟨(bd.add (k * 7)).block,(bd.add (k * 7)).off+2,none⟩=some (.int .i64 (Y k))∧w'.cell? ⟨(bd.add (k * 7)).block,(bd.add (k * 7)).off+3,none⟩=some (.int .i64 (R k))∧w'.cell? ⟨(bd.add (k * 7)).block,(bd.add (k * 7)).off+4,none⟩=some (.int .i64 (X k))∧w'.cell? ⟨(bd.add (k * 7)).block,(bd.add (k * 7)).off+5,none⟩=some (.int .i64 (Z k))∧w'.cell? ⟨(bd.add (k * 7)).block,(bd.add (k * 7)).off+6,none⟩=some (.slice (UA k) (WN k) (UC k))):=hide (fun w' k9=>⟨⟨W.Keep.cl k9 e0,W.Keep.cl k9 e1,W.Keep.cl k9 e2,W.Keep.cl k9 e3,W.Keep.cl k9 e4,W.Keep.cl k9 e5,W.Keep.cl k9 e6⟩,W.Keep.cl k9 g0,W.Keep.cl k9 g1,W.Keep.cl k9 g2,W.Keep.cl k9 g3,W.Keep.cl k9 g4,W.Keep.cl k9 g5,W.Keep.cl k9 g6⟩);have TK:=hide ((uq TW) k hlt);clear e0 e1 e2 e3 e4 e5 e6 g0 g1 g2 g3 g4 g5 g6;generalize P k=pk at *;generalize G k=gk at *;generalize Y k=yk at *;generalize R k=rk at *;generalize X k=xk at *;generalize Z k=zk at *;generalize WA k=wak at *;generalize UA k=uak at *;generalize WN k=wnk at *;generalize WC k=wck at *;generalize UC k=uck at *
   go_upto_region 6 with fail
   go_cut [6,7] (fun s6 s7 wc=>∃ p q,s6= .pointer (some ⟨p,0,none⟩)∧s7= .pointer (some ⟨q,0,none⟩)∧(wc.cell? ⟨p,0,none⟩=some (.string (sv pk))∧wc.cell? ⟨p,1,none⟩=some (.int .i64 gk)∧wc.cell? ⟨p,2,none⟩=some (.int .i64 yk)∧wc.cell? ⟨p,3,none⟩=some (.int .i64 rk)∧wc.cell? ⟨p,4,none⟩=some (.int .i64 xk)∧wc.cell? ⟨p,5,none⟩=some (.int .i64 zk)∧wc.cell? ⟨p,6,none⟩=some (.slice wak wnk wck))∧(wc.cell? ⟨q,0,none⟩=some (.string (sv pk))∧wc.cell? ⟨q,1,none⟩=some (.int .i64 gk)∧wc.cell? ⟨q,2,none⟩=some (.int .i64 yk)∧wc.cell? ⟨q,3,none⟩=some (.int .i64 rk)∧wc.cell? ⟨q,4,none⟩=some (.int .i64 xk)∧wc.cell? ⟨q,5,none⟩=some (.int .i64 zk)∧wc.cell? ⟨q,6,none⟩=some (.slice uak wnk uck))∧Keep w wc)
   case first=>
    refine wp_region_held_drew (S:=(fun w'=>(w'.cell? (ad.add (k * 7))=some (.string (sv pk))∧w'.cell? ⟨(ad.add (k * 7)).block,(ad.add (k * 7)).off+1,none⟩=some (.int .i64 gk)∧w'.cell? ⟨(ad.add (k * 7)).block,(ad.add (k * 7)).off+2,none⟩=some (.int .i64 yk)∧w'.cell? ⟨(ad.add (k * 7)).block,(ad.add (k * 7)).off+3,none⟩=some (.int .i64 rk)∧w'.cell? ⟨(ad.add (k * 7)).block,(ad.add (k * 7)).off+4,none⟩=some (.int .i64 xk)∧w'.cell? ⟨(ad.add (k * 7)).block,(ad.add (k * 7)).off+5,none⟩=some (.int .i64 zk)∧w'.cell? ⟨(ad.add (k * 7)).block,(ad.add (k * 7)).off+6,none⟩=some (.slice wak wnk wck))∧w'.cell? (bd.add (k * 7))=some (.string (sv pk))∧w'.cell? ⟨(bd.add (k * 7)).block,(bd.add (k * 7)).off+1,none⟩=some (.int .i64 gk)∧w'.cell? ⟨(bd.add (k * 7)).block,(bd.add (k * 7)).off+2,none⟩=some (.int .i64 yk)∧w'.cell? ⟨(bd.add (k * 7)).block,(bd.add (k * 7)).off+3,none⟩=some (.int .i64 rk)∧w'.cell? ⟨(bd.add (k * 7)).block,(bd.add (k * 7)).off+4,none⟩=some (.int .i64 xk)∧w'.cell? ⟨(bd.add (k * 7)).block,(bd.add (k * 7)).off+5,none⟩=some (.int .i64 zk)∧w'.cell? ⟨(bd.add (k * 7)).block,(bd.add (k * 7)).off+6,none⟩=some (.slice uak wnk uck))) (by kernel_rfl) (by exact(uq HD9) _ (uq KW).drew) (fun hHeld=>?_);refine tkk 0 19 hHeld ?_;try simp only[Act.put,Ya,Yb,Yc]
    refine tkk 1 20 hHeld ?_;try simp only[Act.put,Ya,Yb,Yc]
    refine tkk 2 21 hHeld ?_;try simp only[Act.put,Ya,Yb,Yc]
    refine tkk 3 22 hHeld ?_;try simp only[Act.put,Ya,Yb,Yc]
    refine tkk 4 23 hHeld ?_;try simp only[Act.put,Ya,Yb,Yc]
    refine tkk 5 24 hHeld ?_;try simp only[Act.put,Ya,Yb,Yc]
    refine tkk 6 25 hHeld ?_;try simp only[Act.put,Ya,Yb,Yc]
    refine tkk 7 26 hHeld ?_;try simp only[Act.put,Ya,Yb,Yc]
    refine wpAnyH_ready (rs:= [8,9]) (by kernel_rfl) (by simp) ?_;refine AllReadyH.cons rfl (fun K hK=>?_) (AllReadyH.cons rfl (fun K hK=>?_) AllReadyH.nil)
    ·skip
     go_simp;clear hHeld;refine hK.out _ _ ?_ (fun hHeld=>?_)
     ·exact(uq HD9) _ ((uq KW).trans (by repeat(first|(with_reducible exact Keep.refl _)|apply zaa|apply Keep.alloc|apply Keep.drew)))
     clear hK K;try simp only[Act.put,Ya,Yb,Yc]
     refine zak 9 (fun K hK=>?_);go_simp;clear hHeld;refine hK.out _ _ ?_ (fun hHeld=>?_)
     ·exact(uq HD9) _ ((uq KW).trans (by repeat(first|(with_reducible exact Keep.refl _)|apply zaa|apply Keep.alloc|apply Keep.drew)))
     clear hK K;try simp only[Act.put,Ya,Yb,Yc]
     refine zak 10 (fun K hK=>?_);go_simp;clear hHeld;refine hK.out _ _ ?_ (fun hHeld=>?_)
     ·exact(uq HD9) _ ((uq KW).trans (by repeat(first|(with_reducible exact Keep.refl _)|apply zaa|apply Keep.alloc|apply Keep.drew)))
     clear hK K;try simp only[Act.put,Ya,Yb,Yc]
     refine zak 11 (fun K hK=>?_);go_simp;clear hHeld;refine hK.out _ _ ?_ (fun hHeld=>?_)
     ·exact(uq HD9) _ ((uq KW).trans (by repeat(first|(with_reducible exact Keep.refl _)|apply zaa|apply Keep.alloc|apply Keep.drew)))
     clear hK K;try simp only[Act.put,Ya,Yb,Yc]
     refine wpAnyH_done (by kernel_rfl) ?_ _;clear hHeld;go_wp2_with fail
     go_meet;exact⟨_,_,rfl,rfl,by simp[go_sem],by simp[go_sem],(uq KW).trans (by repeat(first|(with_reducible exact Keep.refl _)|apply zaa|apply Keep.alloc|apply Keep.drew))⟩
    ·skip
     go_simp;clear hHeld;refine hK.out _ _ ?_ (fun hHeld=>?_)
     ·exact(uq HD9) _ ((uq KW).trans (by repeat(first|(with_reducible exact Keep.refl _)|apply zaa|apply Keep.alloc|apply Keep.drew)))
     clear hK K;try simp only[Act.put,Ya,Yb,Yc]
     refine zak 8 (fun K hK=>?_);go_simp;clear hHeld;refine hK.out _ _ ?_ (fun hHeld=>?_)
     ·exact(uq HD9) _ ((uq KW).trans (by repeat(first|(with_reducible exact Keep.refl _)|apply zaa|apply Keep.alloc|apply Keep.drew)))
     clear hK K;try simp only[Act.put,Ya,Yb,Yc]
     refine zak 10 (fun K hK=>?_);go_simp;clear hHeld;refine hK.out _ _ ?_ (fun hHeld=>?_)
     ·exact(uq HD9) _ ((uq KW).trans (by repeat(first|(with_reducible exact Keep.refl _)|apply zaa|apply Keep.alloc|apply Keep.drew)))
     clear hK K;try simp only[Act.put,Ya,Yb,Yc]
     refine zak 11 (fun K hK=>?_);go_simp;clear hHeld;refine hK.out _ _ ?_ (fun hHeld=>?_)
     ·exact(uq HD9) _ ((uq KW).trans (by repeat(first|(with_reducible exact Keep.refl _)|apply zaa|apply Keep.alloc|apply Keep.drew)))
     clear hK K;try simp only[Act.put,Ya,Yb,Yc]
     refine wpAnyH_done (by kernel_rfl) ?_ _;clear hHeld;go_wp2_with fail
     go_meet;exact⟨_,_,rfl,rfl,by simp[go_sem],by simp[go_sem],(uq KW).trans (by repeat(first|(with_reducible exact Keep.refl _)|apply zaa|apply Keep.alloc|apply Keep.drew))⟩
   case rest=>
    obtain⟨p,q,rfl,rfl,⟨e0,e1,e2,e3,e4,e5,e6⟩,⟨g0,g1,g2,g3,g4,g5,g6⟩,hkc⟩:=hcut;have HKC:=hide hkc;clear hkc;have TK2:=hide ((uq TK) wc (uq HKC));go_wp2_with fail
    (refine(uq TK2).mono ?_;rintro e w2 ⟨rfl,hk9⟩;have K2:=hide ((uq HKC).trans hk9);clear hk9);go_wp2_with fail
    go_roundw
    case rel=>exact⟨k+1,by go_num,by omega,K2⟩
    case measure=>simp[intOf];omega
  ·have li:¬(k:Int)<(n:Int):=by omega
   go_wp2_with fail
   go_ret;exact⟨rfl,uq KW⟩
set_option maxHeartbeats 4000000 in
theorem zf2 (la:Option Addr) (n lc:Nat) (G Y R:Nat→Int) (s1 s2:Nat→Int) (w:World) (hn:n≤1000)
  (HC:Hid (∀ k,k<n→∃ ad,la=some ad∧ad.block<w.heap.size∧w.cell? ⟨(ad.add (k * 7)).block,(ad.add (k * 7)).off+1,none⟩=some (.int .i64 (G k))∧w.cell? ⟨(ad.add (k * 7)).block,(ad.add (k * 7)).off+2,none⟩=some (.int .i64 (Y k))∧w.cell? ⟨(ad.add (k * 7)).block,(ad.add (k * 7)).off+3,none⟩=some (.int .i64 (R k))))
  (HS:Hid (∀ k,k<n→IntKind.i64.wrap (G k+Y k)=s1 k∧IntKind.i64.wrap (s1 k+R k)=s2 k)):
  Calls Tryz.prog 11 #[.slice la n lc] w fun e w'=>∃ v,e= .returned v∧Keep w w'∧w'.ownsRow w.heap.size 2 1 v n (ics s2 n):=by
 obtain⟨i0,hi0,hz0,hz1,hz2⟩:=W.info_f zpI;go_enter Tryz.func11,Tryz.ntmps11;go_wp2_with fail
 go_loopw [3,4] (fun va vi wr=>∃ k:Nat,k≤n∧vi= .int .i64 (k:Int)∧Hid (wr.ownsRow w.heap.size 2 1 va k (ics s2 k))∧Hid (Keep w wr)) (fun va vi _=>n - (intOf vi).toNat)
 case atStart=>exact⟨0,Nat.zero_le _,rfl,hide (World.ownsRow_nil _ _ _ _),hide (Keep.refl _)⟩
 case round=>
  obtain⟨k,hk,rfl,OWK,KW⟩:=hrel;by_cases hlt:k<n
  ·have li:(k:Int)<(n:Int):=by omega
   obtain⟨ad,rfl,hb,e0,e1,e2⟩:=(uq HC) k hlt;obtain⟨h1,h2⟩:=(uq HS) k hlt;have HD9:Hid (∀ w',Keep w w'→w'.cell? ⟨(ad.add (k * 7)).block,(ad.add (k * 7)).off+1,none⟩=some (.int .i64 (G k))∧w'.cell? ⟨(ad.add (k * 7)).block,(ad.add (k * 7)).off+2,none⟩=some (.int .i64 (Y k))∧w'.cell? ⟨(ad.add (k * 7)).block,(ad.add (k * 7)).off+3,none⟩=some (.int .i64 (R k))):=hide (fun w' k9=>⟨W.Keep.cl k9 e0,W.Keep.cl k9 e1,W.Keep.cl k9 e2⟩);have hsz:=Below.size (uq KW);clear e0 e1 e2
   go_upto_region 5 with fail
   ·skip
    refine wp_region_held_drew (S:=(fun w'=>w'.cell? ⟨(ad.add (k * 7)).block,(ad.add (k * 7)).off+1,none⟩=some (.int .i64 (G k))∧w'.cell? ⟨(ad.add (k * 7)).block,(ad.add (k * 7)).off+2,none⟩=some (.int .i64 (Y k))∧w'.cell? ⟨(ad.add (k * 7)).block,(ad.add (k * 7)).off+3,none⟩=some (.int .i64 (R k)))) (by kernel_rfl) (by exact(uq HD9) _ (uq KW).drew) (fun hHeld=>?_);refine tkk 0 11 hHeld ?_;try simp only[Act.put,Ya,Yb,Yc]
    refine tkk 1 12 hHeld ?_;try simp only[Act.put,Ya,Yb,Yc]
    refine tkk 2 13 hHeld ?_;try simp only[Act.put,Ya,Yb,Yc]
    refine tkk 3 14 hHeld ?_;try simp only[Act.put,Ya,Yb,Yc]
    refine tkk 4 15 hHeld ?_;try simp only[Act.put,Ya,Yb,Yc]
    refine tkk 5 16 hHeld ?_;try simp only[Act.put,Ya,Yb,Yc]
    refine tkk 6 17 hHeld ?_;try simp only[Act.put,Ya,Yb,Yc]
    refine tkk 7 18 hHeld ?_;try simp only[Act.put,Ya,Yb,Yc]
    refine tkk 8 19 hHeld ?_;try simp only[Act.put,Ya,Yb,Yc]
    refine tkk 9 20 hHeld ?_;try simp only[Act.put,Ya,Yb,Yc]
    refine tkk 10 21 hHeld ?_;try simp only[Act.put,Ya,Yb,Yc]
    refine tkk 11 22 hHeld ?_;try simp only[Act.put,Ya,Yb,Yc]
    refine tkk 12 23 hHeld ?_;try simp only[Act.put,Ya,Yb,Yc]
    refine tkk 13 24 hHeld ?_;try simp only[Act.put,Ya,Yb,Yc]
    refine tkk 14 25 hHeld ?_;try simp only[Act.put,Ya,Yb,Yc]
    refine tkk 15 26 hHeld ?_;try simp only[Act.put,Ya,Yb,Yc]
    refine tkk 16 27 hHeld ?_;try simp only[Act.put,Ya,Yb,Yc]
    refine tkk 17 28 hHeld ?_;try simp only[Act.put,Ya,Yb,Yc]
    refine zak 18 (fun K hK=>?_);go_simp;clear hHeld;refine hK.out _ _ ?_ (fun hHeld=>?_)
    ·exact(uq HD9) _ ((uq KW).alloc _).drew
    clear hK K;try simp only[Act.put,Ya,Yb,Yc]
    refine wpAnyH_ready (rs:= [19]) (by kernel_rfl) (by simp) ?_;refine AllReadyH.cons rfl (fun K hK=>?_) AllReadyH.nil;refine wp_append_own _ _ _ 35 rfl w.heap.size 2 i0 _ 1 8 Tryz.underlying35 hi0 hz0 hz1 hz2 rfl (by decide) _ _ _ rfl (W.own_k (uq OWK) ((Keep.refl wr).alloc (.cells #[.int .i64 (s2 k)] 2)).drew) ⟨wr.heap.size,0,none⟩ 1 1 [.int .i64 (s2 k)] rfl rfl (fun j u hu=>zhk wr [.int .i64 (s2 k)] _ j u hu) (by simp[Value.oneCell']) (by unfold maxLen;omega) (by omega) (by simp[go_sem];omega) ?_;intro v' w4 hown' hgrow hnil
    have HOWN:=hide hown';have HK4:Hid (Keep w w4):=hide (Below.grown (((uq KW).alloc _).drew) hgrow (by simp[go_sem];omega) (fun j ej=>((uq OWK).lt j ej).1));clear hown' hgrow hnil hHeld;refine hK.out _ _ ?_ (fun hHeld=>?_)
    ·exact(uq HD9) _ (uq HK4)
    clear hK K;try simp only[Act.put,List.setIfInBounds_toArray,List.set_cons_zero,List.set_cons_succ]
    refine tkk 20 3 hHeld ?_;try simp only[Act.put,Ya,Yb,Yc]
    refine wpAnyH_done (by kernel_rfl) ?_ _;clear hHeld;go_wp2_with fail
    go_roundw
    case rel=>exact⟨k+1,hlt,by go_num,HOWN,HK4⟩
    case measure=>simp[intOf];omega
  ·have li:¬(k:Int)<(n:Int):=by omega
   obtain rfl:k=n:=by omega
   go_wp2_with fail
   go_ret;exact⟨_,rfl,uq KW,uq OWK⟩
end Nd
namespace Nd
set_option maxHeartbeats 4000000 in
theorem zkS (a0 a1 a2 a3 a4:Int) (aN:Option Addr) (nN cN:Nat) (aS:Option Addr) (nS cS:Nat) (a5 a6:Int) (i r:Int) (n:Nat) (P Q:World→Option Addr→Prop) (w:World)
  (TF:Hid (∀ w',Keep w w'→Calls Tryz.prog 5 #[.agg #[.int .i64 a0,.int .i64 a1,.int .i64 a2,.int .i64 a3,.int .i64 a4,.slice aN nN cN,.slice aS nS cS,.int .i64 a5,.int .i64 a6]] w' (S.Ak w')))
  (TO:Hid (∀ w',Keep w w'→Calls Tryz.prog 6 #[.agg #[.int .i64 a0,.int .i64 a1,.int .i64 a2,.int .i64 a3,.int .i64 a4,.slice aN nN cN,.slice aS nS cS,.int .i64 a5,.int .i64 a6],.int .i64 i] w' fun e w''=>∃ a c,e= .returned (.tuple #[.slice a n c,.int .i64 r])∧Keep w' w''∧P w'' a))
  (TR:Hid (∀ w',Keep w w'→Calls Tryz.prog 7 #[.agg #[.int .i64 a0,.int .i64 a1,.int .i64 a2,.int .i64 a3,.int .i64 a4,.slice aN nN cN,.slice aS nS cS,.int .i64 a5,.int .i64 a6],.int .i64 i] w' fun e w''=>∃ a c,e= .returned (.tuple #[.slice a n c,.int .i64 r])∧Keep w' w''∧P w'' a))
  (HP:Hid (∀ w1 w2 a,P w1 a→Keep w1 w2→P w2 a)) (HQ:Hid (∀ w1 w2 a,Q w1 a→Keep w1 w2→Q w2 a))
  (TS:Hid (∀ w' a b ca cb,P w' a→P w' b→Calls Tryz.prog 8 #[.slice a n ca,.slice b n cb] w' fun e w''=>e= .returned (.bool true)∧Keep w' w''))
  (TL:Hid (∀ w' a ca,P w' a→Calls Tryz.prog 10 #[.slice a n ca] w' fun e w''=>∃ l c,e= .returned (.slice l n c)∧Keep w' w''∧Q w'' l))
  (TM:Hid (∀ w' a ca,P w' a→Calls Tryz.prog 11 #[.slice a n ca] w' fun e w''=>∃ l c,e= .returned (.slice l n c)∧Keep w' w''∧Q w'' l))
  (TG:Hid (∀ w' a b ca cb,Q w' a→Q w' b→Calls Tryz.prog 9 #[.slice a n ca,.slice b n cb] w' fun e w''=>e= .returned (.bool true)∧Keep w' w''))
  (TA:Hid (∀ w',Calls Tryz.prog 12 #[] w' fun e w''=>e= .returned (.bool true)∧Keep w' w'')):
  Calls Tryz.prog 3 #[.agg #[.int .i64 a0,.int .i64 a1,.int .i64 a2,.int .i64 a3,.int .i64 a4,.slice aN nN cN,.slice aS nS cS,.int .i64 a5,.int .i64 a6],.int .i64 i] w fun e w'=>e= .returned (.bool true)∧Keep w w':=by
 have e1:(r==r)=true:=by simp
 go_enter Tryz.func3,Tryz.ntmps3;have hnw0:=heap_alloc_new w (.cells #[.int .i64 a0,.int .i64 a1,.int .i64 a2,.int .i64 a3,.int .i64 a4,.slice aN nN cN,.slice aS nS cS,.int .i64 a5,.int .i64 a6] 27);have K0:=hide ((Keep.refl w).alloc (.cells #[.int .i64 a0,.int .i64 a1,.int .i64 a2,.int .i64 a3,.int .i64 a4,.slice aN nN cN,.slice aS nS cS,.int .i64 a5,.int .i64 a6] 27))
 go_upto_region 1 with fail
 generalize w.alloc (.cells #[.int .i64 a0,.int .i64 a1,.int .i64 a2,.int .i64 a3,.int .i64 a4,.slice aN nN cN,.slice aS nS cS,.int .i64 a5,.int .i64 a6] 27)=w0 at hnw0 K0 ⊢;obtain⟨q0,HQ0⟩:∃ q,Hid (w.heap.size=q):=⟨_,hide rfl⟩;rw[uq HQ0]at hnw0 ⊢;have HX0:Hid (∀ w':World,Keep w0 w'→w'.cell? ⟨q0,0,none⟩=some (.int .i64 a0)∧w'.cell? ⟨q0,1,none⟩=some (.int .i64 a1)∧w'.cell? ⟨q0,2,none⟩=some (.int .i64 a2)∧w'.cell? ⟨q0,3,none⟩=some (.int .i64 a3)∧w'.cell? ⟨q0,4,none⟩=some (.int .i64 a4)∧w'.cell? ⟨q0,5,none⟩=some (.slice aN nN cN)∧w'.cell? ⟨q0,6,none⟩=some (.slice aS nS cS)∧w'.cell? ⟨q0,7,none⟩=some (.int .i64 a5)∧w'.cell? ⟨q0,8,none⟩=some (.int .i64 a6)):=hide (fun w' k9=>by
  have h1:=k9.block q0 (Array.getElem?_eq_some_iff.1 hnw0).1;rw[hnw0]at h1;refine⟨?_,?_,?_,?_,?_,?_,?_,?_,?_⟩<;>simp[World.cell?,h1])
 clear hnw0;obtain⟨z0,z1,z2,z3,z4,z5,z6,z7,z8⟩:=(uq HX0) w0 (Keep.refl _);go_wp2_with fail
 (refine((uq TF) _ (uq K0)).mono ?_;rintro e w2 ⟨b,rfl,hk⟩;have K2:=hide hk;clear hk);clear z0 z1 z2 z3 z4 z5 z6 z7 z8;cases b
 ·go_wp2_with fail
  go_ret;exact⟨rfl,(uq K0).trans (uq K2)⟩
 obtain⟨z0,z1,z2,z3,z4,z5,z6,z7,z8⟩:=(uq HX0) w2 (uq K2);go_wp2_with fail
 (refine((uq TO) _ ((uq K0).trans (uq K2))).mono ?_;rintro e w3 ⟨a,c,rfl,hk,hp⟩;have K3:=hide ((uq K2).trans hk);have PA:=hide hp;clear hk hp);clear z0 z1 z2 z3 z4 z5 z6 z7 z8;obtain⟨z0,z1,z2,z3,z4,z5,z6,z7,z8⟩:=(uq HX0) w3 (uq K3);go_wp2_with fail
 (refine((uq TR) _ ((uq K0).trans (uq K3))).mono ?_;rintro e w4 ⟨b,d,rfl,hk,hp⟩;have K4:=hide ((uq K3).trans hk);replace PA:=hide ((uq HP) _ _ _ (uq PA) hk);have PB:=hide hp;clear hk hp);clear z0 z1 z2 z3 z4 z5 z6 z7 z8;go_wp2_with fail
 (refine((uq TS) _ _ _ _ _ (uq PA) (uq PB)).mono ?_;rintro e w5 ⟨rfl,hk⟩;have K5:=hide ((uq K4).trans hk);replace PA:=hide ((uq HP) _ _ _ (uq PA) hk);replace PB:=hide ((uq HP) _ _ _ (uq PB) hk);clear hk);go_wp2_with fail
 (refine((uq TL) _ _ _ (uq PA)).mono ?_;rintro e w6 ⟨l,lc,rfl,hk,hq⟩;have K6:=hide ((uq K5).trans hk);replace PB:=hide ((uq HP) _ _ _ (uq PB) hk);have QA:=hide hq;clear hk hq);go_wp2_with fail
 (refine((uq TM) _ _ _ (uq PB)).mono ?_;rintro e w7 ⟨m,mc,rfl,hk,hq⟩;have K7:=hide ((uq K6).trans hk);replace QA:=hide ((uq HQ) _ _ _ (uq QA) hk);have QB:=hide hq;clear hk hq);go_wp2_with fail
 (refine((uq TG) _ _ _ _ _ (uq QA) (uq QB)).mono ?_;rintro e w8 ⟨rfl,hk⟩;have K8:=hide ((uq K7).trans hk);clear hk);go_wp2_with fail
 (refine((uq TA) _).mono ?_;rintro e w9 ⟨rfl,hk⟩;have K9:=hide ((uq K8).trans hk);clear hk);go_wp2_with fail
 go_ret;exact⟨rfl,(uq K0).trans (uq K9)⟩
end Nd
end Go.Proofs.YtcdhdhbjnpndkaaGreat
namespace Go.Proofs.YtcdhdhbjnpndkaaGreat
open Go.RowKit
set_option linter.unusedVariables false
set_option linter.unusedSimpArgs false
set_option maxRecDepth 10000
namespace Nd
open S V
theorem zrE {α β:Type} [Inhabited α] [Inhabited β] {n:Nat} {R:Nat→α→β→Prop} (h:∀ k,k<n→∃ x y,R k x y):∃(X:Nat→α) (Y:Nat→β),∀ k,k<n→R k (X k) (Y k):=by
 classical
 refine⟨fun k=>if hk:k<n then(h k hk).choose else default,fun k=>if hk:k<n then(h k hk).choose_spec.choose else default,fun k hk=>?_⟩;simp only[dif_pos hk];exact(h k hk).choose_spec.choose_spec
def Pn (n:Nat) (P:Nat→List UInt8) (G Y R:Nat→Int) (XZ:Nat→Int×Int) (WL:Nat→List (List UInt8×Int×Int)) (w:World) (a:Option Addr):Prop:=∀ k,k<n→∃ x c ad,a=some ad∧ad.block<w.heap.size∧(w.cell? (ad.add (k * 7))=some (.string (sv (P k)))∧w.cell? ⟨(ad.add (k * 7)).block,(ad.add (k * 7)).off+1,none⟩=some (.int .i64 (G k))∧w.cell? ⟨(ad.add (k * 7)).block,(ad.add (k * 7)).off+2,none⟩=some (.int .i64 (Y k))∧w.cell? ⟨(ad.add (k * 7)).block,(ad.add (k * 7)).off+3,none⟩=some (.int .i64 (R k))∧w.cell? ⟨(ad.add (k * 7)).block,(ad.add (k * 7)).off+4,none⟩=some (.int .i64 (XZ k).1)∧w.cell? ⟨(ad.add (k * 7)).block,(ad.add (k * 7)).off+5,none⟩=some (.int .i64 (XZ k).2)∧w.cell? ⟨(ad.add (k * 7)).block,(ad.add (k * 7)).off+6,none⟩=some (.slice x (WL k).length c))∧w.ownsRow 0 114 3 (.slice x (WL k).length c) (WL k).length (wcs (WL k))
theorem Pn.keep {n:Nat} {P:Nat→List UInt8} {G Y R:Nat→Int} {XZ:Nat→Int×Int} {WL:Nat→List (List UInt8×Int×Int)} {w w':World} {a:Option Addr} (h:Pn n P G Y R XZ WL w a) (hk:Keep w w'):Pn n P G Y R XZ WL w' a:=fun k hlt=>by
 obtain⟨x,c,ad,e,hb,⟨h0,h1,h2,h3,h4,h5,h6⟩,ho⟩:=h k hlt;exact⟨x,c,ad,e,Nat.lt_of_lt_of_le hb hk.size,⟨W.Keep.cl hk h0,W.Keep.cl hk h1,W.Keep.cl hk h2,W.Keep.cl hk h3,W.Keep.cl hk h4,W.Keep.cl hk h5,W.Keep.cl hk h6⟩,W.own_k ho hk⟩
def Qn (n:Nat) (S:Nat→Int) (w:World) (a:Option Addr):Prop:=∀ k,k<n→∃ ad,a=some ad∧ad.block<w.heap.size∧w.cell? (ad.add k)=some (.int .i64 (S k))
theorem Qn.keep {n:Nat} {S:Nat→Int} {w w':World} {a:Option Addr} (h:Qn n S w a) (hk:Keep w w'):Qn n S w' a:=fun k hlt=>by
 obtain⟨ad,e,hb,h0⟩:=h k hlt;exact⟨ad,e,Nat.lt_of_lt_of_le hb hk.size,W.Keep.cl hk h0⟩
theorem zex (S:Nat→Int):∀ n,(ics S n).length=n
 |0=>rfl
 |n+1=>by rw[ics,List.length_append,zex S n];rfl
theorem zls (S:Nat→Int):∀ n k,k<n→(ics S n)[k]? =some (.int .i64 (S k))
 |0,k,h=>absurd h (Nat.not_lt_zero _)
 |n+1,k,h=>by
  rw[ics];rcases Nat.lt_succ_iff_lt_or_eq.1 h with e|e
  ·rw[List.getElem?_append_left (by rw[zex];exact e)];exact zls S n k e
  ·subst e;rw[List.getElem?_append_right (by rw[zex];exact Nat.le_refl _),zex,Nat.sub_self]
   rfl
theorem zrN {n:Nat} {S:Nat→Int} {w:World} {B:Nat} {v:Value} (h:w.ownsRow B 2 1 v n (ics S n)):∃ l c,v= .slice l n c∧Qn n S w l:=by
 obtain⟨l,c,rfl,_⟩:=zbM h;refine⟨l,c,rfl,fun k hk=>?_⟩;obtain⟨g,cap,e,hg,_,_,hc⟩:=zbU h (by omega);cases e
 exact⟨⟨g,0,none⟩,rfl,hg,by rw[W.add_pl,Nat.zero_add];exact hc k _ (zls S n k hk)⟩
def lst (G Y R:Nat→Int) (k:Nat):Int:=wrap64 (wrap64 (G k+Y k)+R k)
theorem zqi {n:Nat} {P:Nat→List UInt8} {G Y R:Nat→Int} {XZ:Nat→Int×Int} {WL:Nat→List (List UInt8×Int×Int)} (hn:n≤1000) (hW:∀ k,k<n→(WL k).length≤1000) (w:World) (a b:Option Addr) (ca cb:Nat) (ha:Pn n P G Y R XZ WL w a) (hb:Pn n P G Y R XZ WL w b):Calls Tryz.prog 8 #[.slice a n ca,.slice b n cb] w fun e w'=>e= .returned (.bool true)∧Keep w w':=by
 obtain⟨XA,CA,HA⟩:=zrE ha;obtain⟨XB,CB,HB⟩:=zrE hb;refine zjE a b n ca cb P G Y R (fun k=>(XZ k).1) (fun k=>(XZ k).2) XA XB (fun k=>(WL k).length) CA CB w (by omega) (hide fun k hk=>?_) (hide fun k hk=>?_) (hide fun k hk w' kw=>?_)
 ·obtain⟨ad,e,hb,h,_⟩:=HA k hk;exact⟨ad,e,hb,h⟩
 ·obtain⟨ad,e,hb,h,_⟩:=HB k hk;exact⟨ad,e,hb,h⟩
 ·obtain⟨_,_,_,_,o1⟩:=HA k hk;obtain⟨_,_,_,_,o2⟩:=HB k hk;have h9:=hW k hk;exact zhF _ _ _ _ _ _ _ _ w' (by omega) (hide fun m hm=>zfx (W.own_k o1 kw) m hm) (hide fun m hm=>zfx (W.own_k o2 kw) m hm)
theorem znW {n:Nat} {P:Nat→List UInt8} {G Y R:Nat→Int} {XZ:Nat→Int×Int} {WL:Nat→List (List UInt8×Int×Int)} (hn:n≤1000) (w:World) (a:Option Addr) (ca:Nat) (ha:Pn n P G Y R XZ WL w a):Calls Tryz.prog 10 #[.slice a n ca] w fun e w'=>∃ l c,e= .returned (.slice l n c)∧Keep w w'∧Qn n (lst G Y R) w' l:=by
 obtain⟨XA,CA,HA⟩:=zrE ha;refine(zdZ a n ca P G Y R XZ XA (fun k=>(WL k).length) CA (fun k=>wrap64 (G k+Y k)) (lst G Y R) w hn (hide fun k hk=>?_) (hide fun k hk=>⟨rfl,rfl⟩)).mono ?_
 ·obtain⟨ad,e,hb,h,_⟩:=HA k hk;exact⟨ad,e,hb,h⟩
 ·rintro e w' ⟨v,rfl,hk,ho⟩;obtain⟨l,c,rfl,hq⟩:=zrN ho;exact⟨l,c,rfl,hk,hq⟩
theorem zkT {n:Nat} {P:Nat→List UInt8} {G Y R:Nat→Int} {XZ:Nat→Int×Int} {WL:Nat→List (List UInt8×Int×Int)} (hn:n≤1000) (w:World) (a:Option Addr) (ca:Nat) (ha:Pn n P G Y R XZ WL w a):Calls Tryz.prog 11 #[.slice a n ca] w fun e w'=>∃ l c,e= .returned (.slice l n c)∧Keep w w'∧Qn n (lst G Y R) w' l:=by
 refine(zf2 a n ca G Y R (fun k=>wrap64 (G k+Y k)) (lst G Y R) w hn (hide fun k hk=>?_) (hide fun k hk=>?_)).mono ?_
 ·obtain⟨x,c,ad,e,hb,⟨h0,h1,h2,h3,_⟩,_⟩:=ha k hk;exact⟨ad,e,hb,h1,h2,h3⟩
 ·unfold lst wrap64
  exact⟨IntKind.wrap_i64 _,IntKind.wrap_i64 _⟩
 ·rintro e w' ⟨v,rfl,hk,ho⟩;obtain⟨l,c,rfl,hq⟩:=zrN ho;exact⟨l,c,rfl,hk,hq⟩
theorem zrO {r:Int} {n:Nat} {P:Nat→List UInt8} {G Y R:Nat→Int} {XZ:Nat→Int×Int} {WL:Nat→List (List UInt8×Int×Int)} {w w':World} {e:Ending} (h:Oq r n P G Y R XZ WL w e w'):∃ a c,e= .returned (.tuple #[.slice a (if r=0 then n else 0) c,.int .i64 r])∧Keep w w'∧Pn (if r=0 then n else 0) P G Y R XZ WL w' a:=by
 obtain⟨v,rfl,hk,hno,hok⟩:=h;by_cases h0:r=0
 ·obtain⟨vs,ho,hw⟩:=hok h0;obtain⟨la,lc,rfl,hc⟩:=ziS ho hw;rw[if_pos h0];refine⟨la,lc,rfl,hk,fun k hlt=>?_⟩;obtain⟨ad,x,c,e1,hb,h0,h1,h2,h3,h4,h5,h6,ho⟩:=hc k hlt;exact⟨x,c,ad,e1,hb,⟨h0,h1,h2,h3,h4,h5,h6⟩,ho⟩
 ·rw[hno h0,if_neg h0];exact⟨none,0,rfl,hk,fun k hlt=>absurd hlt (Nat.not_lt_zero _)⟩
end Nd
end Go.Proofs.YtcdhdhbjnpndkaaGreat
