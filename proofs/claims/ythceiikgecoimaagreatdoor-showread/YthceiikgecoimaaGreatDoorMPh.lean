/- Rows of structs held against one another: the document's. -/
import Derived.Test.YthceiikgecoimaaGreatDoorMSa
import Derived.Test.YthceiikgecoimaaGreatDoorLVal
import Derived.Deep.DrawnRows
import Derived.Deep.RegionHeld3
import Derived.Test.YthceiikgecoimaaGreatDoorNThe
namespace Go.Proofs.YthceiikgecoimaaGreatDoor
open Go.RowKit
attribute [local go_sem ↓] Go.wp_at_zero Go.wp_at_succ
set_option linter.unusedVariables false
set_option linter.unusedSimpArgs false
set_option maxRecDepth 10000
set_option maxHeartbeats 8000000 in
theorem zg1 (a b:Option Addr) (n m ca cb:Nat) (X0 Y0:Nat->ByteArray) (X1 Y1:Nat->Int) (X2 Y2:Nat->Int) (X3 Y3:Nat->Int) (X4 Y4:Nat->Int) (X5 Y5:Nat->Int) (X6 Y6:Nat->Int) (X7 Y7:Nat->Int) (X8 Y8:Nat->Int) (X9 Y9:Nat->Int) (X10 Y10:Nat->Int) (E:Nat->Bool) (r:Bool) (w:World) (hn:n<=100000) (hm:m<=100000)
  (HA:Hid (∀ k,k<n->∃ ad,a=some ad/\w.cell? (ad.add (k * 11))=some (.string (X0 k))/\w.cell? ⟨(ad.add (k * 11)).block,(ad.add (k * 11)).off+1,none⟩=some (.int .i64 (X1 k))/\w.cell? ⟨(ad.add (k * 11)).block,(ad.add (k * 11)).off+2,none⟩=some (.int .i64 (X2 k))/\w.cell? ⟨(ad.add (k * 11)).block,(ad.add (k * 11)).off+3,none⟩=some (.int .i64 (X3 k))/\w.cell? ⟨(ad.add (k * 11)).block,(ad.add (k * 11)).off+4,none⟩=some (.int .i64 (X4 k))/\w.cell? ⟨(ad.add (k * 11)).block,(ad.add (k * 11)).off+5,none⟩=some (.int .i64 (X5 k))/\w.cell? ⟨(ad.add (k * 11)).block,(ad.add (k * 11)).off+6,none⟩=some (.int .i64 (X6 k))/\w.cell? ⟨(ad.add (k * 11)).block,(ad.add (k * 11)).off+7,none⟩=some (.int .i64 (X7 k))/\w.cell? ⟨(ad.add (k * 11)).block,(ad.add (k * 11)).off+8,none⟩=some (.int .i64 (X8 k))/\w.cell? ⟨(ad.add (k * 11)).block,(ad.add (k * 11)).off+9,none⟩=some (.int .i64 (X9 k))/\w.cell? ⟨(ad.add (k * 11)).block,(ad.add (k * 11)).off+10,none⟩=some (.int .i64 (X10 k))))
  (HB:Hid (∀ k,k<m->∃ ad,b=some ad/\w.cell? (ad.add (k * 11))=some (.string (Y0 k))/\w.cell? ⟨(ad.add (k * 11)).block,(ad.add (k * 11)).off+1,none⟩=some (.int .i64 (Y1 k))/\w.cell? ⟨(ad.add (k * 11)).block,(ad.add (k * 11)).off+2,none⟩=some (.int .i64 (Y2 k))/\w.cell? ⟨(ad.add (k * 11)).block,(ad.add (k * 11)).off+3,none⟩=some (.int .i64 (Y3 k))/\w.cell? ⟨(ad.add (k * 11)).block,(ad.add (k * 11)).off+4,none⟩=some (.int .i64 (Y4 k))/\w.cell? ⟨(ad.add (k * 11)).block,(ad.add (k * 11)).off+5,none⟩=some (.int .i64 (Y5 k))/\w.cell? ⟨(ad.add (k * 11)).block,(ad.add (k * 11)).off+6,none⟩=some (.int .i64 (Y6 k))/\w.cell? ⟨(ad.add (k * 11)).block,(ad.add (k * 11)).off+7,none⟩=some (.int .i64 (Y7 k))/\w.cell? ⟨(ad.add (k * 11)).block,(ad.add (k * 11)).off+8,none⟩=some (.int .i64 (Y8 k))/\w.cell? ⟨(ad.add (k * 11)).block,(ad.add (k * 11)).off+9,none⟩=some (.int .i64 (Y9 k))/\w.cell? ⟨(ad.add (k * 11)).block,(ad.add (k * 11)).off+10,none⟩=some (.int .i64 (Y10 k))))
  (HE:Hid (∀ k,(((X0 k).toList==(Y0 k).toList)&&((X1 k==Y1 k)&&((X2 k==Y2 k)&&((X3 k==Y3 k)&&((X4 k==Y4 k)&&((X5 k==Y5 k)&&((X6 k==Y6 k)&&((X7 k==Y7 k)&&((X8 k==Y8 k)&&((X9 k==Y9 k)&&true))))))))))=E k))
  (H0:Hid (n≠m->r=false)) (H1:Hid (n=m->∀ k,k<n->E k=false->r=false)) (H2:Hid (n=m->(∀ k,k<n->E k=true)->r=true)):
  Calls Tryz.prog 25 #[.slice a n ca,.slice b m cb,.bool false] w λe w'=>e= .returned (.bool r)/\Keep w w':=by
 by_cases hnm:n=m
 ·subst hnm;replace H1:=zh ((uq H1) rfl);replace H2:=zh ((uq H2) rfl);go_enter Tryz.func25,Tryz.ntmps25;go_wp2_with fail
  go_loopw [7] (λv7 wr=>∃ k:Nat,k<=n/\v7= .int .i64 (k:Int)/\Hid (Keep w wr)/\Hid (∀ j,j<k->E j=true)) (λv7 _=>n - (intOf v7).toNat)
  case atStart=>exact⟨0,Nat.zero_le _,rfl,zh (zk _),zh λj hj=>by omega⟩
  case round=>
   obtain⟨k,hk,rfl,HK,HI⟩:=hrel;by_cases hlt:k<n
   ·have li:(k:Int)<(n:Int):=by omega
    have lz:(0:Int)<=(k:Int):=by omega
    obtain⟨ad,rfl,p0,p1,p2,p3,p4,p5,p6,p7,p8,p9,p10⟩:=(uq HA) k hlt;obtain⟨bd,rfl,q0,q1,q2,q3,q4,q5,q6,q7,q8,q9,q10⟩:=(uq HB) k hlt;have he:=(uq HE) k;have HF:=zh ((uq H1) k hlt);generalize hE:E k=ek at he HF;have HEK:=zh hE;clear hE;generalize X0 k=x0 at p0 he;generalize Y0 k=y0 at q0 he;generalize X1 k=x1 at p1 he;generalize Y1 k=y1 at q1 he;generalize X2 k=x2 at p2 he;generalize Y2 k=y2 at q2 he;generalize X3 k=x3 at p3 he;generalize Y3 k=y3 at q3 he;generalize X4 k=x4 at p4 he;generalize Y4 k=y4 at q4 he;generalize X5 k=x5 at p5 he;generalize Y5 k=y5 at q5 he;generalize X6 k=x6 at p6 he;generalize Y6 k=y6 at q6 he;generalize X7 k=x7 at p7 he;generalize Y7 k=y7 at q7 he;generalize X8 k=x8 at p8 he;generalize Y8 k=y8 at q8 he;generalize X9 k=x9 at p9 he;generalize Y9 k=y9 at q9 he;generalize X10 k=x10 at p10;generalize Y10 k=y10 at q10;have HC:Hid (∀ w',Keep w w'->w'.cell? (ad.add (k * 11))=some (.string (x0))/\w'.cell? ⟨(ad.add (k * 11)).block,(ad.add (k * 11)).off+1,none⟩=some (.int .i64 (x1))/\w'.cell? ⟨(ad.add (k * 11)).block,(ad.add (k * 11)).off+2,none⟩=some (.int .i64 (x2))/\w'.cell? ⟨(ad.add (k * 11)).block,(ad.add (k * 11)).off+3,none⟩=some (.int .i64 (x3))/\w'.cell? ⟨(ad.add (k * 11)).block,(ad.add (k * 11)).off+4,none⟩=some (.int .i64 (x4))/\w'.cell? ⟨(ad.add (k * 11)).block,(ad.add (k * 11)).off+5,none⟩=some (.int .i64 (x5))/\w'.cell? ⟨(ad.add (k * 11)).block,(ad.add (k * 11)).off+6,none⟩=some (.int .i64 (x6))/\w'.cell? ⟨(ad.add (k * 11)).block,(ad.add (k * 11)).off+7,none⟩=some (.int .i64 (x7))/\w'.cell? ⟨(ad.add (k * 11)).block,(ad.add (k * 11)).off+8,none⟩=some (.int .i64 (x8))/\w'.cell? ⟨(ad.add (k * 11)).block,(ad.add (k * 11)).off+9,none⟩=some (.int .i64 (x9))/\w'.cell? ⟨(ad.add (k * 11)).block,(ad.add (k * 11)).off+10,none⟩=some (.int .i64 (x10))/\w'.cell? (bd.add (k * 11))=some (.string (y0))/\w'.cell? ⟨(bd.add (k * 11)).block,(bd.add (k * 11)).off+1,none⟩=some (.int .i64 (y1))/\w'.cell? ⟨(bd.add (k * 11)).block,(bd.add (k * 11)).off+2,none⟩=some (.int .i64 (y2))/\w'.cell? ⟨(bd.add (k * 11)).block,(bd.add (k * 11)).off+3,none⟩=some (.int .i64 (y3))/\w'.cell? ⟨(bd.add (k * 11)).block,(bd.add (k * 11)).off+4,none⟩=some (.int .i64 (y4))/\w'.cell? ⟨(bd.add (k * 11)).block,(bd.add (k * 11)).off+5,none⟩=some (.int .i64 (y5))/\w'.cell? ⟨(bd.add (k * 11)).block,(bd.add (k * 11)).off+6,none⟩=some (.int .i64 (y6))/\w'.cell? ⟨(bd.add (k * 11)).block,(bd.add (k * 11)).off+7,none⟩=some (.int .i64 (y7))/\w'.cell? ⟨(bd.add (k * 11)).block,(bd.add (k * 11)).off+8,none⟩=some (.int .i64 (y8))/\w'.cell? ⟨(bd.add (k * 11)).block,(bd.add (k * 11)).off+9,none⟩=some (.int .i64 (y9))/\w'.cell? ⟨(bd.add (k * 11)).block,(bd.add (k * 11)).off+10,none⟩=some (.int .i64 (y10))):=λw' hk=>⟨Keep.cell' hk p0,Keep.cell' hk p1,Keep.cell' hk p2,Keep.cell' hk p3,Keep.cell' hk p4,Keep.cell' hk p5,Keep.cell' hk p6,Keep.cell' hk p7,Keep.cell' hk p8,Keep.cell' hk p9,Keep.cell' hk p10,Keep.cell' hk q0,Keep.cell' hk q1,Keep.cell' hk q2,Keep.cell' hk q3,Keep.cell' hk q4,Keep.cell' hk q5,Keep.cell' hk q6,Keep.cell' hk q7,Keep.cell' hk q8,Keep.cell' hk q9,Keep.cell' hk q10⟩
    clear p0 q0 p1 q1 p2 q2 p3 q3 p4 q4 p5 q5 p6 q6 p7 q7 p8 q8 p9 q9 p10 q10;have HEQ:=zh he;clear he
    go_upto_region 6 with fail
    go_cut [8,9] (λs8 s9 wc=>∃ p q,s8= .pointer (some ⟨p,0,none⟩)/\s9= .pointer (some ⟨q,0,none⟩)/\p≠q/\w.heap.size<=p/\Bxs wc p #[.string x0,.int .i64 x1,.int .i64 x2,.int .i64 x3,.int .i64 x4,.int .i64 x5,.int .i64 x6,.int .i64 x7,.int .i64 x8,.int .i64 x9,.int .i64 x10] 77/\Bxs wc q #[.string y0,.int .i64 y1,.int .i64 y2,.int .i64 y3,.int .i64 y4,.int .i64 y5,.int .i64 y6,.int .i64 y7,.int .i64 y8,.int .i64 y9,.int .i64 y10] 77/\Keep w wc)
    case first=>
     refine wp_region_held_drew (S:=(λw'=>w'.cell? (ad.add (k * 11))=some (.string (x0))/\w'.cell? ⟨(ad.add (k * 11)).block,(ad.add (k * 11)).off+1,none⟩=some (.int .i64 (x1))/\w'.cell? ⟨(ad.add (k * 11)).block,(ad.add (k * 11)).off+2,none⟩=some (.int .i64 (x2))/\w'.cell? ⟨(ad.add (k * 11)).block,(ad.add (k * 11)).off+3,none⟩=some (.int .i64 (x3))/\w'.cell? ⟨(ad.add (k * 11)).block,(ad.add (k * 11)).off+4,none⟩=some (.int .i64 (x4))/\w'.cell? ⟨(ad.add (k * 11)).block,(ad.add (k * 11)).off+5,none⟩=some (.int .i64 (x5))/\w'.cell? ⟨(ad.add (k * 11)).block,(ad.add (k * 11)).off+6,none⟩=some (.int .i64 (x6))/\w'.cell? ⟨(ad.add (k * 11)).block,(ad.add (k * 11)).off+7,none⟩=some (.int .i64 (x7))/\w'.cell? ⟨(ad.add (k * 11)).block,(ad.add (k * 11)).off+8,none⟩=some (.int .i64 (x8))/\w'.cell? ⟨(ad.add (k * 11)).block,(ad.add (k * 11)).off+9,none⟩=some (.int .i64 (x9))/\w'.cell? ⟨(ad.add (k * 11)).block,(ad.add (k * 11)).off+10,none⟩=some (.int .i64 (x10))/\w'.cell? (bd.add (k * 11))=some (.string (y0))/\w'.cell? ⟨(bd.add (k * 11)).block,(bd.add (k * 11)).off+1,none⟩=some (.int .i64 (y1))/\w'.cell? ⟨(bd.add (k * 11)).block,(bd.add (k * 11)).off+2,none⟩=some (.int .i64 (y2))/\w'.cell? ⟨(bd.add (k * 11)).block,(bd.add (k * 11)).off+3,none⟩=some (.int .i64 (y3))/\w'.cell? ⟨(bd.add (k * 11)).block,(bd.add (k * 11)).off+4,none⟩=some (.int .i64 (y4))/\w'.cell? ⟨(bd.add (k * 11)).block,(bd.add (k * 11)).off+5,none⟩=some (.int .i64 (y5))/\w'.cell? ⟨(bd.add (k * 11)).block,(bd.add (k * 11)).off+6,none⟩=some (.int .i64 (y6))/\w'.cell? ⟨(bd.add (k * 11)).block,(bd.add (k * 11)).off+7,none⟩=some (.int .i64 (y7))/\w'.cell? ⟨(bd.add (k * 11)).block,(bd.add (k * 11)).off+8,none⟩=some (.int .i64 (y8))/\w'.cell? ⟨(bd.add (k * 11)).block,(bd.add (k * 11)).off+9,none⟩=some (.int .i64 (y9))/\w'.cell? ⟨(bd.add (k * 11)).block,(bd.add (k * 11)).off+10,none⟩=some (.int .i64 (y10)))) (by kernel_rfl) (by exact uq HC _ ((uq HK).trans ((zk _).drew))) (λzH=>?_);refine tk6 0 21 1 22 2 23 3 24 4 25 5 26 zH ?_;try simp only[Yq]
     refine tk2 6 27 7 28 zH ?_;try simp only[Yq]
     refine wpAnyH_ready (rs:= [8,9]) (by kernel_rfl) (by simp) ?_;refine AllReadyH.cons rfl (λK hK=>?_) (AllReadyH.cons rfl (λK hK=>?_) AllReadyH.nil)
     ·skip
      go_simp;clear zH;refine hK.out _ _ ?_ (λzH=>?_)
      ·exact uq HC _ ((uq HK).trans (by repeat(first|(refine Below.setCell ?_ (by simp) _)|apply zaa|apply Keep.alloc|apply Keep.drew|exact zk _)))
      clear hK K;try simp only[Yq]
      refine zaq 9 (λK hK=>?_);go_simp;clear zH;refine hK.out _ _ ?_ (λzH=>?_)
      ·exact uq HC _ ((uq HK).trans (by repeat(first|(refine Below.setCell ?_ (by simp) _)|apply zaa|apply Keep.alloc|apply Keep.drew|exact zk _)))
      clear hK K;try simp only[Yq]
      refine zaq 10 (λK hK=>?_);go_simp;clear zH;refine hK.out _ _ ?_ (λzH=>?_)
      ·exact uq HC _ ((uq HK).trans (by repeat(first|(refine Below.setCell ?_ (by simp) _)|apply zaa|apply Keep.alloc|apply Keep.drew|exact zk _)))
      clear hK K;try simp only[Yq]
      refine zaq 11 (λK hK=>?_);go_simp;clear zH;refine hK.out _ _ ?_ (λzH=>?_)
      ·exact uq HC _ ((uq HK).trans (by repeat(first|(refine Below.setCell ?_ (by simp) _)|apply zaa|apply Keep.alloc|apply Keep.drew|exact zk _)))
      clear hK K;try simp only[Yq]
      refine wpAnyH_done (by kernel_rfl) ?_ _;clear zH;go_wp2_with fail
      go_meet;exact⟨_,_,rfl,rfl,by omega,(uq HK).size,zcb _ _ _,bxs_new _ _ _,(uq HK).trans (by repeat(first|apply Keep.drew|apply Keep.alloc|exact zk _))⟩
     ·skip
      go_simp;clear zH;refine hK.out _ _ ?_ (λzH=>?_)
      ·exact uq HC _ ((uq HK).trans (by repeat(first|(refine Below.setCell ?_ (by simp) _)|apply zaa|apply Keep.alloc|apply Keep.drew|exact zk _)))
      clear hK K;try simp only[Yq]
      refine zaq 8 (λK hK=>?_);go_simp;clear zH;refine hK.out _ _ ?_ (λzH=>?_)
      ·exact uq HC _ ((uq HK).trans (by repeat(first|(refine Below.setCell ?_ (by simp) _)|apply zaa|apply Keep.alloc|apply Keep.drew|exact zk _)))
      clear hK K;try simp only[Yq]
      refine zaq 10 (λK hK=>?_);go_simp;clear zH;refine hK.out _ _ ?_ (λzH=>?_)
      ·exact uq HC _ ((uq HK).trans (by repeat(first|(refine Below.setCell ?_ (by simp) _)|apply zaa|apply Keep.alloc|apply Keep.drew|exact zk _)))
      clear hK K;try simp only[Yq]
      refine zaq 11 (λK hK=>?_);go_simp;clear zH;refine hK.out _ _ ?_ (λzH=>?_)
      ·exact uq HC _ ((uq HK).trans (by repeat(first|(refine Below.setCell ?_ (by simp) _)|apply zaa|apply Keep.alloc|apply Keep.drew|exact zk _)))
      clear hK K;try simp only[Yq]
      refine wpAnyH_done (by kernel_rfl) ?_ _;clear zH;go_wp2_with fail
      go_meet;exact⟨_,_,rfl,rfl,by omega,Nat.le_succ_of_le (uq HK).size,bxs_new _ _ _,zcb _ _ _,(uq HK).trans (by repeat(first|apply Keep.drew|apply Keep.alloc|exact zk _))⟩
    case rest=>
     obtain⟨p,q,rfl,rfl,hpq,hp,bp,bq,hkc⟩:=hcut;have HKC:=zh hkc;have hpq2:¬q=p:=λe=>hpq e.symm
     have cx0:wc.cell? ⟨p,0,none⟩=some (.string x0):=by unfold Bxs at bp;simp[World.cell?,bp]
     have cy0:wc.cell? ⟨q,0,none⟩=some (.string y0):=by unfold Bxs at bq;simp[World.cell?,bq]
     have cx1:wc.cell? ⟨p,1,none⟩=some (.int .i64 x1):=by unfold Bxs at bp;simp[World.cell?,bp]
     have cy1:wc.cell? ⟨q,1,none⟩=some (.int .i64 y1):=by unfold Bxs at bq;simp[World.cell?,bq]
     have cx2:wc.cell? ⟨p,2,none⟩=some (.int .i64 x2):=by unfold Bxs at bp;simp[World.cell?,bp]
     have cy2:wc.cell? ⟨q,2,none⟩=some (.int .i64 y2):=by unfold Bxs at bq;simp[World.cell?,bq]
     have cx3:wc.cell? ⟨p,3,none⟩=some (.int .i64 x3):=by unfold Bxs at bp;simp[World.cell?,bp]
     have cy3:wc.cell? ⟨q,3,none⟩=some (.int .i64 y3):=by unfold Bxs at bq;simp[World.cell?,bq]
     have cx4:wc.cell? ⟨p,4,none⟩=some (.int .i64 x4):=by unfold Bxs at bp;simp[World.cell?,bp]
     have cy4:wc.cell? ⟨q,4,none⟩=some (.int .i64 y4):=by unfold Bxs at bq;simp[World.cell?,bq]
     have cx5:wc.cell? ⟨p,5,none⟩=some (.int .i64 x5):=by unfold Bxs at bp;simp[World.cell?,bp]
     have cy5:wc.cell? ⟨q,5,none⟩=some (.int .i64 y5):=by unfold Bxs at bq;simp[World.cell?,bq]
     have cx6:wc.cell? ⟨p,6,none⟩=some (.int .i64 x6):=by unfold Bxs at bp;simp[World.cell?,bp]
     have cy6:wc.cell? ⟨q,6,none⟩=some (.int .i64 y6):=by unfold Bxs at bq;simp[World.cell?,bq]
     have cx7:wc.cell? ⟨p,7,none⟩=some (.int .i64 x7):=by unfold Bxs at bp;simp[World.cell?,bp]
     have cy7:wc.cell? ⟨q,7,none⟩=some (.int .i64 y7):=by unfold Bxs at bq;simp[World.cell?,bq]
     have cx8:wc.cell? ⟨p,8,none⟩=some (.int .i64 x8):=by unfold Bxs at bp;simp[World.cell?,bp]
     have cy8:wc.cell? ⟨q,8,none⟩=some (.int .i64 y8):=by unfold Bxs at bq;simp[World.cell?,bq]
     have cx9:wc.cell? ⟨p,9,none⟩=some (.int .i64 x9):=by unfold Bxs at bp;simp[World.cell?,bp]
     have cy9:wc.cell? ⟨q,9,none⟩=some (.int .i64 y9):=by unfold Bxs at bq;simp[World.cell?,bq]
     have cx10:wc.cell? ⟨p,10,none⟩=some (.int .i64 x10):=by unfold Bxs at bp;simp[World.cell?,bp]
     have cy10:wc.cell? ⟨q,10,none⟩=some (.int .i64 y10):=by unfold Bxs at bq;simp[World.cell?,bq]
     have fz:wc.frozen? ⟨p,10,none⟩=false:=by unfold Bxs at bp;simp[World.frozen?,bp]
     replace HKC:Hid (Keep w (wc.setCell ⟨p,10,none⟩ (.int .i64 y10))):=zh (Below.setCell (uq HKC) (by exact hp) _);clear bp bq hkc;cases ek with
     |false=>
      have hr:=(uq HF) rfl;subst hr;go_wp2_with fail
      all_goals first
       |(go_ret;exact⟨rfl,uq HKC⟩)
       |(exfalso;have he:=uq HEQ;simp[*]at he)
     |true=>
      have he:=uq HEQ;simp only[Bool.and_eq_true,beq_iff_eq,and_true]at he;obtain⟨e0,e1,e2,e3,e4,e5,e6,e7,e8,e9⟩:=he;go_wp2_with fail
      go_roundw
      case rel=>exact⟨k+1,hlt,by go_num,HKC,zh λj hj=>(Nat.lt_succ_iff_lt_or_eq.1 hj).elim ((uq HI) j) (λe=>e▸uq HEK)⟩
      case measure=>simp[intOf];omega
   ·have:k=n:=by omega
    subst this;have hr:=(uq H2) (uq HI);subst hr;go_wp2_with fail
    go_ret;exact⟨rfl,uq HK⟩
 ·have hr:=(uq H0) hnm;subst hr;have hne:((n:Int) !=(m:Int))=true:=by simp;omega
  have hne2:((n:Int)==(m:Int))=false:=by simp;omega
  have hne3:¬(n:Int)=(m:Int):=by omega
  have hne4:¬n=m:=hnm;go_enter Tryz.func25,Tryz.ntmps25;go_wp2_with fail
  go_ret;exact⟨rfl,zk _⟩
set_option maxHeartbeats 8000000 in
theorem zit (a b:Option Addr) (n m ca cb:Nat) (X Y:Nat->ByteArray) (E:Nat->Bool) (r:Bool) (w:World) (hn:n<=100000) (hm:m<=100000)
  (HA:Hid (∀ k,k<n->∃ ad,a=some ad/\w.cell? (ad.add k)=some (.string (X k))))
  (HB:Hid (∀ k,k<m->∃ ad,b=some ad/\w.cell? (ad.add k)=some (.string (Y k))))
  (HE:Hid (∀ k,((X k).toList==(Y k).toList)=E k))
  (H0:Hid (n≠m->r=false)) (H1:Hid (n=m->∀ k,k<n->E k=false->r=false)) (H2:Hid (n=m->(∀ k,k<n->E k=true)->r=true)):
  Calls Tryz.prog 61 #[.slice a n ca,.slice b m cb] w λe w'=>e= .returned (.bool r)/\Keep w w':=by
 by_cases hnm:n=m
 ·subst hnm;replace H1:=zh ((uq H1) rfl);replace H2:=zh ((uq H2) rfl);go_enter Tryz.func61,Tryz.ntmps61;go_wp2_with fail
  go_loopw [5] (λv5 wr=>∃ k:Nat,k<=n/\v5= .int .i64 (k:Int)/\Hid (Keep w wr)/\Hid (∀ j,j<k->E j=true)) (λv5 _=>n - (intOf v5).toNat)
  case atStart=>exact⟨0,Nat.zero_le _,rfl,zh (zk _),zh λj hj=>by omega⟩
  case round=>
   obtain⟨k,hk,rfl,HK,HI⟩:=hrel;by_cases hlt:k<n
   ·have li:(k:Int)<(n:Int):=by omega
    have lz:(0:Int)<=(k:Int):=by omega
    obtain⟨ad,rfl,p0⟩:=(uq HA) k hlt;obtain⟨bd,rfl,q0⟩:=(uq HB) k hlt;have he:=(uq HE) k;have HF:=zh ((uq H1) k hlt);generalize hE:E k=ek at he HF;have HEK:=zh hE;clear hE;generalize X k=x0 at p0 he;generalize Y k=y0 at q0 he;have HC:Hid (∀ w',Keep w w'->w'.cell? (ad.add k)=some (.string x0)/\w'.cell? (bd.add k)=some (.string y0)):=λw' hk=>⟨Keep.cell' hk p0,Keep.cell' hk q0⟩
    clear p0 q0;have he2:(x0.toList !=y0.toList)= !ek:=by rw[<- he];rfl
    go_upto_region 6 with fail
    cases ek with
    |false=>
     have hr:=(uq HF) rfl;subst hr;have he3:(x0.toList !=y0.toList)=true:=he2;have he4:¬x0.toList=y0.toList:=by simpa using he
     clear he2;refine wp_region_held_drew (S:=(λw'=>w'.cell? (ad.add k)=some (.string x0)/\w'.cell? (bd.add k)=some (.string y0))) (by kernel_rfl) (by exact uq HC _ ((uq HK).trans ((zk _).drew))) (λzH=>?_);refine tk6 0 17 1 18 2 19 3 20 4 21 5 22 zH ?_;try simp only[Yq]
     refine tk3 6 23 7 24 8 25 zH ?_;try simp only[Yq]
     refine wpAnyH_done (by kernel_rfl) ?_ _;clear zH;go_wp2_with fail
     go_ret;exact⟨rfl,(uq HK).drew⟩
    |true=>
     have he3:(x0.toList !=y0.toList)=false:=he2;have he4:x0.toList=y0.toList:=by simpa using he
     clear he2;refine wp_region_held_drew (S:=(λw'=>w'.cell? (ad.add k)=some (.string x0)/\w'.cell? (bd.add k)=some (.string y0))) (by kernel_rfl) (by exact uq HC _ ((uq HK).trans ((zk _).drew))) (λzH=>?_);refine tk6 0 17 1 18 2 19 3 20 4 21 5 22 zH ?_;try simp only[Yq]
     refine tk3 6 23 7 24 8 25 zH ?_;try simp only[Yq]
     refine wpAnyH_done (by kernel_rfl) ?_ _;clear zH;go_wp2_with fail
     go_roundw
     case rel=>exact⟨k+1,hlt,by go_num,zh (uq HK).drew,zh λj hj=>(Nat.lt_succ_iff_lt_or_eq.1 hj).elim ((uq HI) j) (λe=>e▸uq HEK)⟩
     case measure=>simp[intOf];omega
   ·have:k=n:=by omega
    subst this;have hr:=(uq H2) (uq HI);subst hr;go_wp2_with fail
    go_ret;exact⟨rfl,uq HK⟩
 ·have hr:=(uq H0) hnm;subst hr;have hne:((n:Int) !=(m:Int))=true:=by simp;omega
  have hne2:((n:Int)==(m:Int))=false:=by simp;omega
  have hne3:¬(n:Int)=(m:Int):=by omega
  have hne4:¬n=m:=hnm;go_enter Tryz.func61,Tryz.ntmps61;go_wp2_with fail
  go_ret;exact⟨rfl,zk _⟩
set_option maxHeartbeats 8000000 in
theorem zgq (a b:Option Addr) (n m ca cb:Nat) (X Y:Nat->ByteArray) (UA VA:Nat->Option Addr) (UN UC VN VC:Nat->Nat) (PP QQ:Nat->Int) (B E:Nat->Bool) (r:Bool) (w:World) (hn:n<=100000) (hm:m<=100000)
  (HA:Hid (∀ k,k<n->∃ ad,a=some ad/\w.cell? (ad.add (k * 3))=some (.string (X k))/\w.cell? ⟨(ad.add (k * 3)).block,(ad.add (k * 3)).off+1,none⟩=some (.slice (UA k) (UN k) (UC k))/\w.cell? ⟨(ad.add (k * 3)).block,(ad.add (k * 3)).off+2,none⟩=some (.int .i64 (PP k))))
  (HB:Hid (∀ k,k<m->∃ ad,b=some ad/\w.cell? (ad.add (k * 3))=some (.string (Y k))/\w.cell? ⟨(ad.add (k * 3)).block,(ad.add (k * 3)).off+1,none⟩=some (.slice (VA k) (VN k) (VC k))/\w.cell? ⟨(ad.add (k * 3)).block,(ad.add (k * 3)).off+2,none⟩=some (.int .i64 (QQ k))))
  (HN:Hid (∀ k,k<n->k<m->∀ w',Keep w w'->Calls Tryz.prog 61 #[.slice (UA k) (UN k) (UC k),.slice (VA k) (VN k) (VC k)] w' λe w''=>e= .returned (.bool (B k))/\Keep w' w''))
  (HE:Hid (∀ k,((X k).toList==(Y k).toList&&(B k&&true))=E k))
  (H0:Hid (n≠m->r=false)) (H1:Hid (n=m->∀ k,k<n->E k=false->r=false)) (H2:Hid (n=m->(∀ k,k<n->E k=true)->r=true)):
  Calls Tryz.prog 27 #[.slice a n ca,.slice b m cb,.bool false] w λe w'=>e= .returned (.bool r)/\Keep w w':=by
 by_cases hnm:n=m
 ·subst hnm;replace H1:=zh ((uq H1) rfl);replace H2:=zh ((uq H2) rfl);go_enter Tryz.func27,Tryz.ntmps27;go_wp2_with fail
  go_loopw [7] (λv7 wr=>∃ k:Nat,k<=n/\v7= .int .i64 (k:Int)/\Hid (Keep w wr)/\Hid (∀ j,j<k->E j=true)) (λv7 _=>n - (intOf v7).toNat)
  case atStart=>exact⟨0,Nat.zero_le _,rfl,zh (zk _),zh λj hj=>by omega⟩
  case round=>
   obtain⟨k,hk,rfl,HK,HI⟩:=hrel;by_cases hlt:k<n
   ·have li:(k:Int)<(n:Int):=by omega
    have lz:(0:Int)<=(k:Int):=by omega
    obtain⟨ad,rfl,p0,p1,p2⟩:=(uq HA) k hlt;obtain⟨bd,rfl,q0,q1,q2⟩:=(uq HB) k hlt;have he:=(uq HE) k;have HNk:=zh ((uq HN) k hlt hlt);have HF:=zh ((uq H1) k hlt);generalize hE:E k=ek at he HF;have HEK:=zh hE;clear hE;generalize X k=x0 at p0 he;generalize Y k=y0 at q0 he;generalize PP k=p at p2 he;generalize QQ k=q at q2 he;generalize UA k=ua at p1 HNk;generalize UN k=un at p1 HNk;generalize UC k=uc at p1 HNk;generalize VA k=va at q1 HNk;generalize VN k=vn at q1 HNk;generalize VC k=vc at q1 HNk;generalize B k=bk at he HNk;have HC:Hid (∀ w',Keep w w'->w'.cell? (ad.add (k * 3))=some (.string x0)/\w'.cell? ⟨(ad.add (k * 3)).block,(ad.add (k * 3)).off+1,none⟩=some (.slice ua un uc)/\w'.cell? ⟨(ad.add (k * 3)).block,(ad.add (k * 3)).off+2,none⟩=some (.int .i64 p)/\w'.cell? (bd.add (k * 3))=some (.string y0)/\w'.cell? ⟨(bd.add (k * 3)).block,(bd.add (k * 3)).off+1,none⟩=some (.slice va vn vc)/\w'.cell? ⟨(bd.add (k * 3)).block,(bd.add (k * 3)).off+2,none⟩=some (.int .i64 q)):=λw' hk=>⟨Keep.cell' hk p0,Keep.cell' hk p1,Keep.cell' hk p2,Keep.cell' hk q0,Keep.cell' hk q1,Keep.cell' hk q2⟩
    clear p0 p1 p2 q0 q1 q2;have HEQ:=zh he;clear he
    go_upto_region 6 with fail
    by_cases he0:x0.toList=y0.toList
    ·have he1:(x0.toList==y0.toList)=true:=by simpa using he0
     have he2:(x0.toList !=y0.toList)=false:=by simpa using he0
     cases bk with
     |false=>
      have hek:ek=false:=by rw[<- uq HEQ];simp
      have hr:=(uq HF) hek;subst hr;refine wp_region_held_drew (S:=(λw'=>w'.cell? (ad.add (k * 3))=some (.string x0)/\w'.cell? ⟨(ad.add (k * 3)).block,(ad.add (k * 3)).off+1,none⟩=some (.slice ua un uc)/\w'.cell? ⟨(ad.add (k * 3)).block,(ad.add (k * 3)).off+2,none⟩=some (.int .i64 p)/\w'.cell? (bd.add (k * 3))=some (.string y0)/\w'.cell? ⟨(bd.add (k * 3)).block,(bd.add (k * 3)).off+1,none⟩=some (.slice va vn vc)/\w'.cell? ⟨(bd.add (k * 3)).block,(bd.add (k * 3)).off+2,none⟩=some (.int .i64 q))) (by kernel_rfl) (by exact uq HC _ ((uq HK).trans ((zk _).drew))) (λzH=>?_);refine tk6 0 19 1 20 2 21 3 22 4 23 5 24 zH ?_;try simp only[Yq]
      refine tk6 6 25 7 26 8 27 9 28 10 29 11 30 zH ?_;try simp only[Yq]
      refine tk6 12 31 13 32 14 33 15 34 16 35 17 36 zH ?_;try simp only[Yq]
      refine tk4 18 37 19 38 20 39 21 40 zH ?_;try simp only[Yq]
      refine zaq 22 (λK hK=>?_);go_simp;clear zH;(refine((uq HNk) _ ((uq HK).trans ((zk _).drew))).mono ?_;rintro e w2 ⟨rfl,hk2⟩);try go_wp2_with fail
      refine hK.out _ _ ?_ (λzH=>?_)
      ·exact uq HC _ ((uq HK).trans (((zk _).drew).trans hk2))
      clear hK K;try simp only[Yq]
      refine tk3 23 42 24 43 25 44 zH ?_;try simp only[Yq]
      refine wpAnyH_take (i:=26) (v:=undef) rfl (by kernel_rfl) (by kernel_rfl) (by kernel_rfl) (λ_ _ _ h=>h) (Or.inr ⟨by rfl,rfl⟩) zH ?_;show wpAnyH _ _ _ _ _ _ _ (Act.put _ (some 45) _) _;try simp only[Yq]
      refine wpAnyH_take (i:=27) (v:=undef) rfl (by kernel_rfl) (by kernel_rfl) (by kernel_rfl) (λ_ _ _ h=>h) (Or.inr ⟨by rfl,rfl⟩) zH ?_;show wpAnyH _ _ _ _ _ _ _ (Act.put _ (some 46) _) _;try simp only[Yq]
      refine wpAnyH_take (i:=28) (v:=undef) rfl (by kernel_rfl) (by kernel_rfl) (by kernel_rfl) (λ_ _ _ h=>h) (Or.inr ⟨by rfl,rfl⟩) zH ?_;show wpAnyH _ _ _ _ _ _ _ (Act.put _ (some 47) _) _;try simp only[Yq]
      refine wpAnyH_take (i:=29) (v:=undef) rfl (by kernel_rfl) (by kernel_rfl) (by kernel_rfl) (λ_ _ _ h=>h) (Or.inr ⟨by rfl,rfl⟩) zH ?_;show wpAnyH _ _ _ _ _ _ _ (Act.put _ (some 48) _) _;try simp only[Yq]
      refine wpAnyH_take (i:=30) (v:=undef) rfl (by kernel_rfl) (by kernel_rfl) (by kernel_rfl) (λ_ _ _ h=>h) (Or.inr ⟨by rfl,rfl⟩) zH ?_;show wpAnyH _ _ _ _ _ _ _ (Act.put _ (some 49) _) _;try simp only[Yq]
      refine wpAnyH_take (i:=31) (v:=undef) rfl (by kernel_rfl) (by kernel_rfl) (by kernel_rfl) (λ_ _ _ h=>h) (Or.inr ⟨by rfl,rfl⟩) zH ?_;show wpAnyH _ _ _ _ _ _ _ (Act.put _ (some 50) _) _;try simp only[Yq]
      refine wpAnyH_take (i:=32) (v:=undef) rfl (by kernel_rfl) (by kernel_rfl) (by kernel_rfl) (λ_ _ _ h=>h) (Or.inr ⟨by rfl,rfl⟩) zH ?_;show wpAnyH _ _ _ _ _ _ _ (Act.put _ (some 51) _) _;try simp only[Yq]
      refine wpAnyH_take (i:=33) (v:=undef) rfl (by kernel_rfl) (by kernel_rfl) (by kernel_rfl) (λ_ _ _ h=>h) (Or.inr ⟨by rfl,rfl⟩) zH ?_;show wpAnyH _ _ _ _ _ _ _ (Act.put _ (some 52) _) _;try simp only[Yq]
      refine wpAnyH_take (i:=34) (v:=undef) rfl (by kernel_rfl) (by kernel_rfl) (by kernel_rfl) (λ_ _ _ h=>h) (Or.inr ⟨by rfl,rfl⟩) zH ?_;show wpAnyH _ _ _ _ _ _ _ (Act.put _ (some 53) _) _;try simp only[Yq]
      refine wpAnyH_take (i:=35) (v:=undef) rfl (by kernel_rfl) (by kernel_rfl) (by kernel_rfl) (λ_ _ _ h=>h) (Or.inr ⟨by rfl,rfl⟩) zH ?_;show wpAnyH _ _ _ _ _ _ _ (Act.put _ (some 54) _) _;try simp only[Yq]
      refine wpAnyH_take (i:=36) (v:=undef) rfl (by kernel_rfl) (by kernel_rfl) (by kernel_rfl) (λ_ _ _ h=>h) (Or.inr ⟨by rfl,rfl⟩) zH ?_;show wpAnyH _ _ _ _ _ _ _ (Act.put _ (some 55) _) _;try simp only[Yq]
      refine wpAnyH_take (i:=37) (v:=undef) rfl (by kernel_rfl) (by kernel_rfl) (by kernel_rfl) (λ_ _ _ h=>h) (Or.inr ⟨by rfl,rfl⟩) zH ?_;show wpAnyH _ _ _ _ _ _ _ (Act.put _ (some 56) _) _;try simp only[Yq]
      refine wpAnyH_take (i:=38) (v:=undef) rfl (by kernel_rfl) (by kernel_rfl) (by kernel_rfl) (λ_ _ _ h=>h) (Or.inr ⟨by rfl,rfl⟩) zH ?_;show wpAnyH _ _ _ _ _ _ _ (Act.put _ (some 57) _) _;try simp only[Yq]
      refine wpAnyH_take (i:=39) (v:=undef) rfl (by kernel_rfl) (by kernel_rfl) (by kernel_rfl) (λ_ _ _ h=>h) (Or.inr ⟨by rfl,rfl⟩) zH ?_;show wpAnyH _ _ _ _ _ _ _ (Act.put _ (some 58) _) _;try simp only[Yq]
      refine tkk 40 59 zH ?_;try simp only[Yq]
      refine wpAnyH_done (by kernel_rfl) ?_ _;clear zH;go_wp2_with fail
      go_ret;exact⟨rfl,((uq HK).drew).trans hk2⟩
     |true=>
      have hek:ek=true:=by rw[<- uq HEQ];simp[he0]
      subst hek;refine wp_region_held_drew (S:=(λw'=>w'.cell? (ad.add (k * 3))=some (.string x0)/\w'.cell? ⟨(ad.add (k * 3)).block,(ad.add (k * 3)).off+1,none⟩=some (.slice ua un uc)/\w'.cell? ⟨(ad.add (k * 3)).block,(ad.add (k * 3)).off+2,none⟩=some (.int .i64 p)/\w'.cell? (bd.add (k * 3))=some (.string y0)/\w'.cell? ⟨(bd.add (k * 3)).block,(bd.add (k * 3)).off+1,none⟩=some (.slice va vn vc)/\w'.cell? ⟨(bd.add (k * 3)).block,(bd.add (k * 3)).off+2,none⟩=some (.int .i64 q))) (by kernel_rfl) (by exact uq HC _ ((uq HK).trans ((zk _).drew))) (λzH=>?_);refine tk6 0 19 1 20 2 21 3 22 4 23 5 24 zH ?_;try simp only[Yq]
      refine tk6 6 25 7 26 8 27 9 28 10 29 11 30 zH ?_;try simp only[Yq]
      refine tk6 12 31 13 32 14 33 15 34 16 35 17 36 zH ?_;try simp only[Yq]
      refine tk4 18 37 19 38 20 39 21 40 zH ?_;try simp only[Yq]
      refine zaq 22 (λK hK=>?_);go_simp;clear zH;(refine((uq HNk) _ ((uq HK).trans ((zk _).drew))).mono ?_;rintro e w2 ⟨rfl,hk2⟩);try go_wp2_with fail
      refine hK.out _ _ ?_ (λzH=>?_)
      ·exact uq HC _ ((uq HK).trans (((zk _).drew).trans hk2))
      clear hK K;try simp only[Yq]
      refine tk4 23 42 24 43 25 44 26 45 zH ?_;try simp only[Yq]
      refine tkk 27 46 zH ?_;try simp only[Yq]
      refine wpAnyH_take (i:=28) (v:=undef) rfl (by kernel_rfl) (by kernel_rfl) (by kernel_rfl) (λ_ _ _ h=>h) (Or.inr ⟨by rfl,rfl⟩) zH ?_;show wpAnyH _ _ _ _ _ _ _ (Act.put _ (some 47) _) _;try simp only[Yq]
      refine wpAnyH_take (i:=29) (v:=undef) rfl (by kernel_rfl) (by kernel_rfl) (by kernel_rfl) (λ_ _ _ h=>h) (Or.inr ⟨by rfl,rfl⟩) zH ?_;show wpAnyH _ _ _ _ _ _ _ (Act.put _ (some 48) _) _;try simp only[Yq]
      refine wpAnyH_take (i:=30) (v:=undef) rfl (by kernel_rfl) (by kernel_rfl) (by kernel_rfl) (λ_ _ _ h=>h) (Or.inr ⟨by rfl,rfl⟩) zH ?_;show wpAnyH _ _ _ _ _ _ _ (Act.put _ (some 49) _) _;try simp only[Yq]
      refine wpAnyH_take (i:=31) (v:=undef) rfl (by kernel_rfl) (by kernel_rfl) (by kernel_rfl) (λ_ _ _ h=>h) (Or.inr ⟨by rfl,rfl⟩) zH ?_;show wpAnyH _ _ _ _ _ _ _ (Act.put _ (some 50) _) _;try simp only[Yq]
      refine wpAnyH_take (i:=32) (v:=undef) rfl (by kernel_rfl) (by kernel_rfl) (by kernel_rfl) (λ_ _ _ h=>h) (Or.inr ⟨by rfl,rfl⟩) zH ?_;show wpAnyH _ _ _ _ _ _ _ (Act.put _ (some 51) _) _;try simp only[Yq]
      refine wpAnyH_take (i:=33) (v:=undef) rfl (by kernel_rfl) (by kernel_rfl) (by kernel_rfl) (λ_ _ _ h=>h) (Or.inr ⟨by rfl,rfl⟩) zH ?_;show wpAnyH _ _ _ _ _ _ _ (Act.put _ (some 52) _) _;try simp only[Yq]
      refine wpAnyH_take (i:=34) (v:=undef) rfl (by kernel_rfl) (by kernel_rfl) (by kernel_rfl) (λ_ _ _ h=>h) (Or.inr ⟨by rfl,rfl⟩) zH ?_;show wpAnyH _ _ _ _ _ _ _ (Act.put _ (some 53) _) _;try simp only[Yq]
      refine wpAnyH_take (i:=35) (v:=undef) rfl (by kernel_rfl) (by kernel_rfl) (by kernel_rfl) (λ_ _ _ h=>h) (Or.inr ⟨by rfl,rfl⟩) zH ?_;show wpAnyH _ _ _ _ _ _ _ (Act.put _ (some 54) _) _;try simp only[Yq]
      refine wpAnyH_take (i:=36) (v:=undef) rfl (by kernel_rfl) (by kernel_rfl) (by kernel_rfl) (λ_ _ _ h=>h) (Or.inr ⟨by rfl,rfl⟩) zH ?_;show wpAnyH _ _ _ _ _ _ _ (Act.put _ (some 55) _) _;try simp only[Yq]
      refine wpAnyH_take (i:=37) (v:=undef) rfl (by kernel_rfl) (by kernel_rfl) (by kernel_rfl) (λ_ _ _ h=>h) (Or.inr ⟨by rfl,rfl⟩) zH ?_;show wpAnyH _ _ _ _ _ _ _ (Act.put _ (some 56) _) _;try simp only[Yq]
      refine wpAnyH_take (i:=38) (v:=undef) rfl (by kernel_rfl) (by kernel_rfl) (by kernel_rfl) (λ_ _ _ h=>h) (Or.inr ⟨by rfl,rfl⟩) zH ?_;show wpAnyH _ _ _ _ _ _ _ (Act.put _ (some 57) _) _;try simp only[Yq]
      refine tk2 39 58 40 59 zH ?_;try simp only[Yq]
      refine wpAnyH_done (by kernel_rfl) ?_ _;clear zH;go_wp2_with fail
      go_roundw
      case rel=>exact⟨k+1,hlt,by go_num,zh (((uq HK).drew).trans hk2),zh λj hj=>(Nat.lt_succ_iff_lt_or_eq.1 hj).elim ((uq HI) j) (λe=>e▸uq HEK)⟩
      case measure=>simp[intOf];omega
    ·have he1:(x0.toList==y0.toList)=false:=by simpa using he0
     have he2:(x0.toList !=y0.toList)=true:=by simpa using he0
     have hek:ek=false:=by rw[<- uq HEQ];simp[he0]
     have hr:=(uq HF) hek;subst hr;refine wp_region_held_drew (S:=(λw'=>w'.cell? (ad.add (k * 3))=some (.string x0)/\w'.cell? ⟨(ad.add (k * 3)).block,(ad.add (k * 3)).off+1,none⟩=some (.slice ua un uc)/\w'.cell? ⟨(ad.add (k * 3)).block,(ad.add (k * 3)).off+2,none⟩=some (.int .i64 p)/\w'.cell? (bd.add (k * 3))=some (.string y0)/\w'.cell? ⟨(bd.add (k * 3)).block,(bd.add (k * 3)).off+1,none⟩=some (.slice va vn vc)/\w'.cell? ⟨(bd.add (k * 3)).block,(bd.add (k * 3)).off+2,none⟩=some (.int .i64 q))) (by kernel_rfl) (by exact uq HC _ ((uq HK).trans ((zk _).drew))) (λzH=>?_);refine tk6 0 19 1 20 2 21 3 22 4 23 5 24 zH ?_;try simp only[Yq]
     refine tk6 6 25 7 26 8 27 9 28 10 29 11 30 zH ?_;try simp only[Yq]
     refine wpAnyH_take (i:=12) (v:=undef) rfl (by kernel_rfl) (by kernel_rfl) (by kernel_rfl) (λ_ _ _ h=>h) (Or.inr ⟨by rfl,rfl⟩) zH ?_;show wpAnyH _ _ _ _ _ _ _ (Act.put _ (some 31) _) _;try simp only[Yq]
     refine wpAnyH_take (i:=13) (v:=undef) rfl (by kernel_rfl) (by kernel_rfl) (by kernel_rfl) (λ_ _ _ h=>h) (Or.inr ⟨by rfl,rfl⟩) zH ?_;show wpAnyH _ _ _ _ _ _ _ (Act.put _ (some 32) _) _;try simp only[Yq]
     refine wpAnyH_take (i:=14) (v:=undef) rfl (by kernel_rfl) (by kernel_rfl) (by kernel_rfl) (λ_ _ _ h=>h) (Or.inr ⟨by rfl,rfl⟩) zH ?_;show wpAnyH _ _ _ _ _ _ _ (Act.put _ (some 33) _) _;try simp only[Yq]
     refine wpAnyH_take (i:=15) (v:=undef) rfl (by kernel_rfl) (by kernel_rfl) (by kernel_rfl) (λ_ _ _ h=>h) (Or.inr ⟨by rfl,rfl⟩) zH ?_;show wpAnyH _ _ _ _ _ _ _ (Act.put _ (some 34) _) _;try simp only[Yq]
     refine wpAnyH_take (i:=16) (v:=undef) rfl (by kernel_rfl) (by kernel_rfl) (by kernel_rfl) (λ_ _ _ h=>h) (Or.inr ⟨by rfl,rfl⟩) zH ?_;show wpAnyH _ _ _ _ _ _ _ (Act.put _ (some 35) _) _;try simp only[Yq]
     refine wpAnyH_take (i:=17) (v:=undef) rfl (by kernel_rfl) (by kernel_rfl) (by kernel_rfl) (λ_ _ _ h=>h) (Or.inr ⟨by rfl,rfl⟩) zH ?_;show wpAnyH _ _ _ _ _ _ _ (Act.put _ (some 36) _) _;try simp only[Yq]
     refine wpAnyH_take (i:=18) (v:=undef) rfl (by kernel_rfl) (by kernel_rfl) (by kernel_rfl) (λ_ _ _ h=>h) (Or.inr ⟨by rfl,rfl⟩) zH ?_;show wpAnyH _ _ _ _ _ _ _ (Act.put _ (some 37) _) _;try simp only[Yq]
     refine wpAnyH_take (i:=19) (v:=undef) rfl (by kernel_rfl) (by kernel_rfl) (by kernel_rfl) (λ_ _ _ h=>h) (Or.inr ⟨by rfl,rfl⟩) zH ?_;show wpAnyH _ _ _ _ _ _ _ (Act.put _ (some 38) _) _;try simp only[Yq]
     refine wpAnyH_take (i:=20) (v:=undef) rfl (by kernel_rfl) (by kernel_rfl) (by kernel_rfl) (λ_ _ _ h=>h) (Or.inr ⟨by rfl,rfl⟩) zH ?_;show wpAnyH _ _ _ _ _ _ _ (Act.put _ (some 39) _) _;try simp only[Yq]
     refine wpAnyH_take (i:=21) (v:=undef) rfl (by kernel_rfl) (by kernel_rfl) (by kernel_rfl) (λ_ _ _ h=>h) (Or.inr ⟨by rfl,rfl⟩) zH ?_;show wpAnyH _ _ _ _ _ _ _ (Act.put _ (some 40) _) _;try simp only[Yq]
     refine wpAnyH_take (i:=22) (v:=undef) rfl (by kernel_rfl) (by kernel_rfl) (by kernel_rfl) (λ_ _ _ h=>h) (Or.inr ⟨by rfl,rfl⟩) zH ?_;show wpAnyH _ _ _ _ _ _ _ (Act.put _ (some 41) _) _;try simp only[Yq]
     refine wpAnyH_take (i:=23) (v:=undef) rfl (by kernel_rfl) (by kernel_rfl) (by kernel_rfl) (λ_ _ _ h=>h) (Or.inr ⟨by rfl,rfl⟩) zH ?_;show wpAnyH _ _ _ _ _ _ _ (Act.put _ (some 42) _) _;try simp only[Yq]
     refine tk2 24 43 25 44 zH ?_;try simp only[Yq]
     refine wpAnyH_take (i:=26) (v:=undef) rfl (by kernel_rfl) (by kernel_rfl) (by kernel_rfl) (λ_ _ _ h=>h) (Or.inr ⟨by rfl,rfl⟩) zH ?_;show wpAnyH _ _ _ _ _ _ _ (Act.put _ (some 45) _) _;try simp only[Yq]
     refine wpAnyH_take (i:=27) (v:=undef) rfl (by kernel_rfl) (by kernel_rfl) (by kernel_rfl) (λ_ _ _ h=>h) (Or.inr ⟨by rfl,rfl⟩) zH ?_;show wpAnyH _ _ _ _ _ _ _ (Act.put _ (some 46) _) _;try simp only[Yq]
     refine wpAnyH_take (i:=28) (v:=undef) rfl (by kernel_rfl) (by kernel_rfl) (by kernel_rfl) (λ_ _ _ h=>h) (Or.inr ⟨by rfl,rfl⟩) zH ?_;show wpAnyH _ _ _ _ _ _ _ (Act.put _ (some 47) _) _;try simp only[Yq]
     refine wpAnyH_take (i:=29) (v:=undef) rfl (by kernel_rfl) (by kernel_rfl) (by kernel_rfl) (λ_ _ _ h=>h) (Or.inr ⟨by rfl,rfl⟩) zH ?_;show wpAnyH _ _ _ _ _ _ _ (Act.put _ (some 48) _) _;try simp only[Yq]
     refine wpAnyH_take (i:=30) (v:=undef) rfl (by kernel_rfl) (by kernel_rfl) (by kernel_rfl) (λ_ _ _ h=>h) (Or.inr ⟨by rfl,rfl⟩) zH ?_;show wpAnyH _ _ _ _ _ _ _ (Act.put _ (some 49) _) _;try simp only[Yq]
     refine wpAnyH_take (i:=31) (v:=undef) rfl (by kernel_rfl) (by kernel_rfl) (by kernel_rfl) (λ_ _ _ h=>h) (Or.inr ⟨by rfl,rfl⟩) zH ?_;show wpAnyH _ _ _ _ _ _ _ (Act.put _ (some 50) _) _;try simp only[Yq]
     refine wpAnyH_take (i:=32) (v:=undef) rfl (by kernel_rfl) (by kernel_rfl) (by kernel_rfl) (λ_ _ _ h=>h) (Or.inr ⟨by rfl,rfl⟩) zH ?_;show wpAnyH _ _ _ _ _ _ _ (Act.put _ (some 51) _) _;try simp only[Yq]
     refine wpAnyH_take (i:=33) (v:=undef) rfl (by kernel_rfl) (by kernel_rfl) (by kernel_rfl) (λ_ _ _ h=>h) (Or.inr ⟨by rfl,rfl⟩) zH ?_;show wpAnyH _ _ _ _ _ _ _ (Act.put _ (some 52) _) _;try simp only[Yq]
     refine wpAnyH_take (i:=34) (v:=undef) rfl (by kernel_rfl) (by kernel_rfl) (by kernel_rfl) (λ_ _ _ h=>h) (Or.inr ⟨by rfl,rfl⟩) zH ?_;show wpAnyH _ _ _ _ _ _ _ (Act.put _ (some 53) _) _;try simp only[Yq]
     refine wpAnyH_take (i:=35) (v:=undef) rfl (by kernel_rfl) (by kernel_rfl) (by kernel_rfl) (λ_ _ _ h=>h) (Or.inr ⟨by rfl,rfl⟩) zH ?_;show wpAnyH _ _ _ _ _ _ _ (Act.put _ (some 54) _) _;try simp only[Yq]
     refine wpAnyH_take (i:=36) (v:=undef) rfl (by kernel_rfl) (by kernel_rfl) (by kernel_rfl) (λ_ _ _ h=>h) (Or.inr ⟨by rfl,rfl⟩) zH ?_;show wpAnyH _ _ _ _ _ _ _ (Act.put _ (some 55) _) _;try simp only[Yq]
     refine wpAnyH_take (i:=37) (v:=undef) rfl (by kernel_rfl) (by kernel_rfl) (by kernel_rfl) (λ_ _ _ h=>h) (Or.inr ⟨by rfl,rfl⟩) zH ?_;show wpAnyH _ _ _ _ _ _ _ (Act.put _ (some 56) _) _;try simp only[Yq]
     refine wpAnyH_take (i:=38) (v:=undef) rfl (by kernel_rfl) (by kernel_rfl) (by kernel_rfl) (λ_ _ _ h=>h) (Or.inr ⟨by rfl,rfl⟩) zH ?_;show wpAnyH _ _ _ _ _ _ _ (Act.put _ (some 57) _) _;try simp only[Yq]
     refine wpAnyH_take (i:=39) (v:=undef) rfl (by kernel_rfl) (by kernel_rfl) (by kernel_rfl) (λ_ _ _ h=>h) (Or.inr ⟨by rfl,rfl⟩) zH ?_;show wpAnyH _ _ _ _ _ _ _ (Act.put _ (some 58) _) _;try simp only[Yq]
     refine tkk 40 59 zH ?_;try simp only[Yq]
     refine wpAnyH_done (by kernel_rfl) ?_ _;clear zH;go_wp2_with fail
     go_ret;exact⟨rfl,(uq HK).drew⟩
   ·have:k=n:=by omega
    subst this;have hr:=(uq H2) (uq HI);subst hr;go_wp2_with fail
    go_ret;exact⟨rfl,uq HK⟩
 ·have hr:=(uq H0) hnm;subst hr;have hne:((n:Int) !=(m:Int))=true:=by simp;omega
  have hne2:((n:Int)==(m:Int))=false:=by simp;omega
  have hne3:¬(n:Int)=(m:Int):=by omega
  have hne4:¬n=m:=hnm;go_enter Tryz.func27,Tryz.ntmps27;go_wp2_with fail
  go_ret;exact⟨rfl,zk _⟩
end Go.Proofs.YthceiikgecoimaaGreatDoor
