/- Rows of structs held against one another: the document's. -/
import Derived.Test.YthceiikgecoimaaGreatDoorNThe
import Derived.Test.YthceiikgecoimaaGreatDoorLVal
import Derived.Deep.DrawnRows
import Derived.Deep.RegionHeld3
namespace Go.Proofs.YthceiikgecoimaaGreatDoor
open Go.RowKit
attribute [local go_sem ↓] Go.wp_at_zero Go.wp_at_succ
set_option linter.unusedVariables false
set_option linter.unusedSimpArgs false
set_option maxRecDepth 10000
def Bxs (w:World) (p:Nat) (xs:Array Value) (t:TypeId):Prop:=w.heap[p]? =some (.cells xs t (0,0))
theorem zcc (w:World) (o:Obj) {xs:Array Value} {t:TypeId} (o2:Obj) (h:o= .cells xs t (0,0):=by rfl):Bxs ((w.alloc o).alloc o2).drew w.heap.size xs t:=by
 subst h;show((w.heap.push (.cells xs t (0,0))).push o2)[w.heap.size]? =some (.cells xs t (0,0));rw[Array.getElem?_push,if_neg (by simp),Array.getElem?_push,if_pos rfl]
theorem bxs_new (w:World) (o:Obj) {xs:Array Value} {t:TypeId} (o2:Obj) (h:o2= .cells xs t (0,0):=by rfl):Bxs ((w.alloc o).alloc o2).drew (w.heap.size+1) xs t:=by
 subst h;show((w.heap.push o).push (.cells xs t (0,0)))[w.heap.size+1]? =some (.cells xs t (0,0));rw[Array.getElem?_push,if_pos (by simp)]
set_option maxHeartbeats 8000000 in
theorem ziq (a b:Option Addr) (n m ca cb:Nat) (X0 Y0:Nat->ByteArray) (X1 Y1:Nat->ByteArray) (X2 Y2:Nat->Int) (E:Nat->Bool) (r:Bool) (w:World) (hn:n<=100000) (hm:m<=100000)
  (HA:Hid (∀ k,k<n->∃ ad,a=some ad/\w.cell? (ad.add (k * 3))=some (.string (X0 k))/\w.cell? ⟨(ad.add (k * 3)).block,(ad.add (k * 3)).off+1,none⟩=some (.string (X1 k))/\w.cell? ⟨(ad.add (k * 3)).block,(ad.add (k * 3)).off+2,none⟩=some (.int .i64 (X2 k))))
  (HB:Hid (∀ k,k<m->∃ ad,b=some ad/\w.cell? (ad.add (k * 3))=some (.string (Y0 k))/\w.cell? ⟨(ad.add (k * 3)).block,(ad.add (k * 3)).off+1,none⟩=some (.string (Y1 k))/\w.cell? ⟨(ad.add (k * 3)).block,(ad.add (k * 3)).off+2,none⟩=some (.int .i64 (Y2 k))))
  (HE:Hid (∀ k,(((X0 k).toList==(Y0 k).toList)&&(((X1 k).toList==(Y1 k).toList)&&true))=E k))
  (H0:Hid (n≠m->r=false)) (H1:Hid (n=m->∀ k,k<n->E k=false->r=false)) (H2:Hid (n=m->(∀ k,k<n->E k=true)->r=true)):
  Calls Tryz.prog 29 #[.slice a n ca,.slice b m cb,.bool false] w λe w'=>e= .returned (.bool r)/\Keep w w':=by
 by_cases hnm:n=m
 ·subst hnm;replace H1:=zh ((uq H1) rfl);replace H2:=zh ((uq H2) rfl);go_enter Tryz.func29,Tryz.ntmps29;go_wp2_with fail
  go_loopw [7] (λv7 wr=>∃ k:Nat,k<=n/\v7= .int .i64 (k:Int)/\Hid (Keep w wr)/\Hid (∀ j,j<k->E j=true)) (λv7 _=>n - (intOf v7).toNat)
  case atStart=>exact⟨0,Nat.zero_le _,rfl,zh (zk _),zh λj hj=>by omega⟩
  case round=>
   obtain⟨k,hk,rfl,HK,HI⟩:=hrel;by_cases hlt:k<n
   ·have li:(k:Int)<(n:Int):=by omega
    have lz:(0:Int)<=(k:Int):=by omega
    obtain⟨ad,rfl,p0,p1,p2⟩:=(uq HA) k hlt;obtain⟨bd,rfl,q0,q1,q2⟩:=(uq HB) k hlt;have he:=(uq HE) k;have HF:=zh ((uq H1) k hlt);generalize hE:E k=ek at he HF;have HEK:=zh hE;clear hE;generalize X0 k=x0 at p0 he;generalize Y0 k=y0 at q0 he;generalize X1 k=x1 at p1 he;generalize Y1 k=y1 at q1 he;generalize X2 k=x2 at p2;generalize Y2 k=y2 at q2;have HC:Hid (∀ w',Keep w w'->w'.cell? (ad.add (k * 3))=some (.string (x0))/\w'.cell? ⟨(ad.add (k * 3)).block,(ad.add (k * 3)).off+1,none⟩=some (.string (x1))/\w'.cell? ⟨(ad.add (k * 3)).block,(ad.add (k * 3)).off+2,none⟩=some (.int .i64 (x2))/\w'.cell? (bd.add (k * 3))=some (.string (y0))/\w'.cell? ⟨(bd.add (k * 3)).block,(bd.add (k * 3)).off+1,none⟩=some (.string (y1))/\w'.cell? ⟨(bd.add (k * 3)).block,(bd.add (k * 3)).off+2,none⟩=some (.int .i64 (y2))):=λw' hk=>⟨Keep.cell' hk p0,Keep.cell' hk p1,Keep.cell' hk p2,Keep.cell' hk q0,Keep.cell' hk q1,Keep.cell' hk q2⟩
    clear p0 q0 p1 q1 p2 q2;have HEQ:=zh he;clear he
    go_upto_region 6 with fail
    go_cut [8,9] (λs8 s9 wc=>∃ p q,s8= .pointer (some ⟨p,0,none⟩)/\s9= .pointer (some ⟨q,0,none⟩)/\p≠q/\w.heap.size<=p/\Bxs wc p #[.string x0,.string x1,.int .i64 x2] 88/\Bxs wc q #[.string y0,.string y1,.int .i64 y2] 88/\Keep w wc)
    case first=>
     refine wp_region_held_drew (S:=(λw'=>w'.cell? (ad.add (k * 3))=some (.string (x0))/\w'.cell? ⟨(ad.add (k * 3)).block,(ad.add (k * 3)).off+1,none⟩=some (.string (x1))/\w'.cell? ⟨(ad.add (k * 3)).block,(ad.add (k * 3)).off+2,none⟩=some (.int .i64 (x2))/\w'.cell? (bd.add (k * 3))=some (.string (y0))/\w'.cell? ⟨(bd.add (k * 3)).block,(bd.add (k * 3)).off+1,none⟩=some (.string (y1))/\w'.cell? ⟨(bd.add (k * 3)).block,(bd.add (k * 3)).off+2,none⟩=some (.int .i64 (y2)))) (by kernel_rfl) (by exact uq HC _ ((uq HK).trans ((zk _).drew))) (λzH=>?_);refine tk6 0 21 1 22 2 23 3 24 4 25 5 26 zH ?_;try simp only[Yq]
     refine tk2 6 27 7 28 zH ?_;try simp only[Yq]
     refine wpAnyH_ready (rs:= [8,9]) (by kernel_rfl) (by simp) ?_;refine AllReadyH.cons rfl (λK hK=>?_) (AllReadyH.cons rfl (λK hK=>?_) AllReadyH.nil)
     ·skip
      go_simp;clear zH;refine hK.out _ _ ?_ (λzH=>?_)
      ·exact uq HC _ ((uq HK).trans (by repeat(first|(refine Below.setCell ?_ (by simp) _)|apply zaa|apply Keep.alloc|apply Keep.drew|exact zk _)))
      clear hK K;try simp only[Yq]
      refine zap 9 (λK hK=>?_);go_simp;clear zH;refine hK.out _ _ ?_ (λzH=>?_)
      ·exact uq HC _ ((uq HK).trans (by repeat(first|(refine Below.setCell ?_ (by simp) _)|apply zaa|apply Keep.alloc|apply Keep.drew|exact zk _)))
      clear hK K;try simp only[Yq]
      refine zap 10 (λK hK=>?_);go_simp;clear zH;refine hK.out _ _ ?_ (λzH=>?_)
      ·exact uq HC _ ((uq HK).trans (by repeat(first|(refine Below.setCell ?_ (by simp) _)|apply zaa|apply Keep.alloc|apply Keep.drew|exact zk _)))
      clear hK K;try simp only[Yq]
      refine zap 11 (λK hK=>?_);go_simp;clear zH;refine hK.out _ _ ?_ (λzH=>?_)
      ·exact uq HC _ ((uq HK).trans (by repeat(first|(refine Below.setCell ?_ (by simp) _)|apply zaa|apply Keep.alloc|apply Keep.drew|exact zk _)))
      clear hK K;try simp only[Yq]
      refine wpAnyH_done (by kernel_rfl) ?_ _;clear zH;go_wp2_with fail
      go_meet;exact⟨_,_,rfl,rfl,by omega,(uq HK).size,zcc _ _ _,bxs_new _ _ _,(uq HK).trans (by repeat(first|apply Keep.drew|apply Keep.alloc|exact zk _))⟩
     ·skip
      go_simp;clear zH;refine hK.out _ _ ?_ (λzH=>?_)
      ·exact uq HC _ ((uq HK).trans (by repeat(first|(refine Below.setCell ?_ (by simp) _)|apply zaa|apply Keep.alloc|apply Keep.drew|exact zk _)))
      clear hK K;try simp only[Yq]
      refine zap 8 (λK hK=>?_);go_simp;clear zH;refine hK.out _ _ ?_ (λzH=>?_)
      ·exact uq HC _ ((uq HK).trans (by repeat(first|(refine Below.setCell ?_ (by simp) _)|apply zaa|apply Keep.alloc|apply Keep.drew|exact zk _)))
      clear hK K;try simp only[Yq]
      refine zap 10 (λK hK=>?_);go_simp;clear zH;refine hK.out _ _ ?_ (λzH=>?_)
      ·exact uq HC _ ((uq HK).trans (by repeat(first|(refine Below.setCell ?_ (by simp) _)|apply zaa|apply Keep.alloc|apply Keep.drew|exact zk _)))
      clear hK K;try simp only[Yq]
      refine zap 11 (λK hK=>?_);go_simp;clear zH;refine hK.out _ _ ?_ (λzH=>?_)
      ·exact uq HC _ ((uq HK).trans (by repeat(first|(refine Below.setCell ?_ (by simp) _)|apply zaa|apply Keep.alloc|apply Keep.drew|exact zk _)))
      clear hK K;try simp only[Yq]
      refine wpAnyH_done (by kernel_rfl) ?_ _;clear zH;go_wp2_with fail
      go_meet;exact⟨_,_,rfl,rfl,by omega,Nat.le_succ_of_le (uq HK).size,bxs_new _ _ _,zcc _ _ _,(uq HK).trans (by repeat(first|apply Keep.drew|apply Keep.alloc|exact zk _))⟩
    case rest=>
     obtain⟨p,q,rfl,rfl,hpq,hp,bp,bq,hkc⟩:=hcut;have HKC:=zh hkc;have hpq2:¬q=p:=λe=>hpq e.symm
     have cx0:wc.cell? ⟨p,0,none⟩=some (.string x0):=by unfold Bxs at bp;simp[World.cell?,bp]
     have cy0:wc.cell? ⟨q,0,none⟩=some (.string y0):=by unfold Bxs at bq;simp[World.cell?,bq]
     have cx1:wc.cell? ⟨p,1,none⟩=some (.string x1):=by unfold Bxs at bp;simp[World.cell?,bp]
     have cy1:wc.cell? ⟨q,1,none⟩=some (.string y1):=by unfold Bxs at bq;simp[World.cell?,bq]
     have cx2:wc.cell? ⟨p,2,none⟩=some (.int .i64 x2):=by unfold Bxs at bp;simp[World.cell?,bp]
     have cy2:wc.cell? ⟨q,2,none⟩=some (.int .i64 y2):=by unfold Bxs at bq;simp[World.cell?,bq]
     have fz:wc.frozen? ⟨p,2,none⟩=false:=by unfold Bxs at bp;simp[World.frozen?,bp]
     replace HKC:Hid (Keep w (wc.setCell ⟨p,2,none⟩ (.int .i64 y2))):=zh (Below.setCell (uq HKC) (by exact hp) _);clear bp bq hkc;cases ek with
     |false=>
      have hr:=(uq HF) rfl;subst hr;go_wp2_with fail
      all_goals first
       |(go_ret;exact⟨rfl,uq HKC⟩)
       |(exfalso;have he:=uq HEQ;simp[*]at he)
     |true=>
      have he:=uq HEQ;simp only[Bool.and_eq_true,beq_iff_eq,and_true]at he;obtain⟨e0,e1⟩:=he;go_wp2_with fail
      go_roundw
      case rel=>exact⟨k+1,hlt,by go_num,HKC,zh λj hj=>(Nat.lt_succ_iff_lt_or_eq.1 hj).elim ((uq HI) j) (λe=>e▸uq HEK)⟩
      case measure=>simp[intOf];omega
   ·have:k=n:=by omega
    subst this;have hr:=(uq H2) (uq HI);subst hr;go_wp2_with fail
    go_ret;exact⟨rfl,uq HK⟩
 ·have hr:=(uq H0) hnm;subst hr;have hne:((n:Int) !=(m:Int))=true:=by simp;omega
  have hne2:((n:Int)==(m:Int))=false:=by simp;omega
  have hne3:¬(n:Int)=(m:Int):=by omega
  have hne4:¬n=m:=hnm;go_enter Tryz.func29,Tryz.ntmps29;go_wp2_with fail
  go_ret;exact⟨rfl,zk _⟩
set_option maxHeartbeats 8000000 in
theorem zir (a b:Option Addr) (n m ca cb:Nat) (X0 Y0:Nat->ByteArray) (X1 Y1:Nat->ByteArray) (X2 Y2:Nat->Int) (X3 Y3:Nat->Int) (X4 Y4:Nat->Int) (X5 Y5:Nat->Int) (E:Nat->Bool) (r:Bool) (w:World) (hn:n<=100000) (hm:m<=100000)
  (HA:Hid (∀ k,k<n->∃ ad,a=some ad/\w.cell? (ad.add (k * 6))=some (.string (X0 k))/\w.cell? ⟨(ad.add (k * 6)).block,(ad.add (k * 6)).off+1,none⟩=some (.string (X1 k))/\w.cell? ⟨(ad.add (k * 6)).block,(ad.add (k * 6)).off+2,none⟩=some (.int .i64 (X2 k))/\w.cell? ⟨(ad.add (k * 6)).block,(ad.add (k * 6)).off+3,none⟩=some (.int .i64 (X3 k))/\w.cell? ⟨(ad.add (k * 6)).block,(ad.add (k * 6)).off+4,none⟩=some (.int .i64 (X4 k))/\w.cell? ⟨(ad.add (k * 6)).block,(ad.add (k * 6)).off+5,none⟩=some (.int .i64 (X5 k))))
  (HB:Hid (∀ k,k<m->∃ ad,b=some ad/\w.cell? (ad.add (k * 6))=some (.string (Y0 k))/\w.cell? ⟨(ad.add (k * 6)).block,(ad.add (k * 6)).off+1,none⟩=some (.string (Y1 k))/\w.cell? ⟨(ad.add (k * 6)).block,(ad.add (k * 6)).off+2,none⟩=some (.int .i64 (Y2 k))/\w.cell? ⟨(ad.add (k * 6)).block,(ad.add (k * 6)).off+3,none⟩=some (.int .i64 (Y3 k))/\w.cell? ⟨(ad.add (k * 6)).block,(ad.add (k * 6)).off+4,none⟩=some (.int .i64 (Y4 k))/\w.cell? ⟨(ad.add (k * 6)).block,(ad.add (k * 6)).off+5,none⟩=some (.int .i64 (Y5 k))))
  (HE:Hid (∀ k,(((X0 k).toList==(Y0 k).toList)&&(((X1 k).toList==(Y1 k).toList)&&((X2 k==Y2 k)&&((X3 k==Y3 k)&&((X4 k==Y4 k)&&true)))))=E k))
  (H0:Hid (n≠m->r=false)) (H1:Hid (n=m->∀ k,k<n->E k=false->r=false)) (H2:Hid (n=m->(∀ k,k<n->E k=true)->r=true)):
  Calls Tryz.prog 26 #[.slice a n ca,.slice b m cb,.bool false] w λe w'=>e= .returned (.bool r)/\Keep w w':=by
 by_cases hnm:n=m
 ·subst hnm;replace H1:=zh ((uq H1) rfl);replace H2:=zh ((uq H2) rfl);go_enter Tryz.func26,Tryz.ntmps26;go_wp2_with fail
  go_loopw [7] (λv7 wr=>∃ k:Nat,k<=n/\v7= .int .i64 (k:Int)/\Hid (Keep w wr)/\Hid (∀ j,j<k->E j=true)) (λv7 _=>n - (intOf v7).toNat)
  case atStart=>exact⟨0,Nat.zero_le _,rfl,zh (zk _),zh λj hj=>by omega⟩
  case round=>
   obtain⟨k,hk,rfl,HK,HI⟩:=hrel;by_cases hlt:k<n
   ·have li:(k:Int)<(n:Int):=by omega
    have lz:(0:Int)<=(k:Int):=by omega
    obtain⟨ad,rfl,p0,p1,p2,p3,p4,p5⟩:=(uq HA) k hlt;obtain⟨bd,rfl,q0,q1,q2,q3,q4,q5⟩:=(uq HB) k hlt;have he:=(uq HE) k;have HF:=zh ((uq H1) k hlt);generalize hE:E k=ek at he HF;have HEK:=zh hE;clear hE;generalize X0 k=x0 at p0 he;generalize Y0 k=y0 at q0 he;generalize X1 k=x1 at p1 he;generalize Y1 k=y1 at q1 he;generalize X2 k=x2 at p2 he;generalize Y2 k=y2 at q2 he;generalize X3 k=x3 at p3 he;generalize Y3 k=y3 at q3 he;generalize X4 k=x4 at p4 he;generalize Y4 k=y4 at q4 he;generalize X5 k=x5 at p5;generalize Y5 k=y5 at q5;have HC:Hid (∀ w',Keep w w'->w'.cell? (ad.add (k * 6))=some (.string (x0))/\w'.cell? ⟨(ad.add (k * 6)).block,(ad.add (k * 6)).off+1,none⟩=some (.string (x1))/\w'.cell? ⟨(ad.add (k * 6)).block,(ad.add (k * 6)).off+2,none⟩=some (.int .i64 (x2))/\w'.cell? ⟨(ad.add (k * 6)).block,(ad.add (k * 6)).off+3,none⟩=some (.int .i64 (x3))/\w'.cell? ⟨(ad.add (k * 6)).block,(ad.add (k * 6)).off+4,none⟩=some (.int .i64 (x4))/\w'.cell? ⟨(ad.add (k * 6)).block,(ad.add (k * 6)).off+5,none⟩=some (.int .i64 (x5))/\w'.cell? (bd.add (k * 6))=some (.string (y0))/\w'.cell? ⟨(bd.add (k * 6)).block,(bd.add (k * 6)).off+1,none⟩=some (.string (y1))/\w'.cell? ⟨(bd.add (k * 6)).block,(bd.add (k * 6)).off+2,none⟩=some (.int .i64 (y2))/\w'.cell? ⟨(bd.add (k * 6)).block,(bd.add (k * 6)).off+3,none⟩=some (.int .i64 (y3))/\w'.cell? ⟨(bd.add (k * 6)).block,(bd.add (k * 6)).off+4,none⟩=some (.int .i64 (y4))/\w'.cell? ⟨(bd.add (k * 6)).block,(bd.add (k * 6)).off+5,none⟩=some (.int .i64 (y5))):=λw' hk=>⟨Keep.cell' hk p0,Keep.cell' hk p1,Keep.cell' hk p2,Keep.cell' hk p3,Keep.cell' hk p4,Keep.cell' hk p5,Keep.cell' hk q0,Keep.cell' hk q1,Keep.cell' hk q2,Keep.cell' hk q3,Keep.cell' hk q4,Keep.cell' hk q5⟩
    clear p0 q0 p1 q1 p2 q2 p3 q3 p4 q4 p5 q5;have HEQ:=zh he;clear he
    go_upto_region 6 with fail
    go_cut [8,9] (λs8 s9 wc=>∃ p q,s8= .pointer (some ⟨p,0,none⟩)/\s9= .pointer (some ⟨q,0,none⟩)/\p≠q/\w.heap.size<=p/\Bxs wc p #[.string x0,.string x1,.int .i64 x2,.int .i64 x3,.int .i64 x4,.int .i64 x5] 79/\Bxs wc q #[.string y0,.string y1,.int .i64 y2,.int .i64 y3,.int .i64 y4,.int .i64 y5] 79/\Keep w wc)
    case first=>
     refine wp_region_held_drew (S:=(λw'=>w'.cell? (ad.add (k * 6))=some (.string (x0))/\w'.cell? ⟨(ad.add (k * 6)).block,(ad.add (k * 6)).off+1,none⟩=some (.string (x1))/\w'.cell? ⟨(ad.add (k * 6)).block,(ad.add (k * 6)).off+2,none⟩=some (.int .i64 (x2))/\w'.cell? ⟨(ad.add (k * 6)).block,(ad.add (k * 6)).off+3,none⟩=some (.int .i64 (x3))/\w'.cell? ⟨(ad.add (k * 6)).block,(ad.add (k * 6)).off+4,none⟩=some (.int .i64 (x4))/\w'.cell? ⟨(ad.add (k * 6)).block,(ad.add (k * 6)).off+5,none⟩=some (.int .i64 (x5))/\w'.cell? (bd.add (k * 6))=some (.string (y0))/\w'.cell? ⟨(bd.add (k * 6)).block,(bd.add (k * 6)).off+1,none⟩=some (.string (y1))/\w'.cell? ⟨(bd.add (k * 6)).block,(bd.add (k * 6)).off+2,none⟩=some (.int .i64 (y2))/\w'.cell? ⟨(bd.add (k * 6)).block,(bd.add (k * 6)).off+3,none⟩=some (.int .i64 (y3))/\w'.cell? ⟨(bd.add (k * 6)).block,(bd.add (k * 6)).off+4,none⟩=some (.int .i64 (y4))/\w'.cell? ⟨(bd.add (k * 6)).block,(bd.add (k * 6)).off+5,none⟩=some (.int .i64 (y5)))) (by kernel_rfl) (by exact uq HC _ ((uq HK).trans ((zk _).drew))) (λzH=>?_);refine tk6 0 21 1 22 2 23 3 24 4 25 5 26 zH ?_;try simp only[Yq]
     refine tk2 6 27 7 28 zH ?_;try simp only[Yq]
     refine wpAnyH_ready (rs:= [8,9]) (by kernel_rfl) (by simp) ?_;refine AllReadyH.cons rfl (λK hK=>?_) (AllReadyH.cons rfl (λK hK=>?_) AllReadyH.nil)
     ·skip
      go_simp;clear zH;refine hK.out _ _ ?_ (λzH=>?_)
      ·exact uq HC _ ((uq HK).trans (by repeat(first|(refine Below.setCell ?_ (by simp) _)|apply zaa|apply Keep.alloc|apply Keep.drew|exact zk _)))
      clear hK K;try simp only[Yq]
      refine zap 9 (λK hK=>?_);go_simp;clear zH;refine hK.out _ _ ?_ (λzH=>?_)
      ·exact uq HC _ ((uq HK).trans (by repeat(first|(refine Below.setCell ?_ (by simp) _)|apply zaa|apply Keep.alloc|apply Keep.drew|exact zk _)))
      clear hK K;try simp only[Yq]
      refine zap 10 (λK hK=>?_);go_simp;clear zH;refine hK.out _ _ ?_ (λzH=>?_)
      ·exact uq HC _ ((uq HK).trans (by repeat(first|(refine Below.setCell ?_ (by simp) _)|apply zaa|apply Keep.alloc|apply Keep.drew|exact zk _)))
      clear hK K;try simp only[Yq]
      refine zap 11 (λK hK=>?_);go_simp;clear zH;refine hK.out _ _ ?_ (λzH=>?_)
      ·exact uq HC _ ((uq HK).trans (by repeat(first|(refine Below.setCell ?_ (by simp) _)|apply zaa|apply Keep.alloc|apply Keep.drew|exact zk _)))
      clear hK K;try simp only[Yq]
      refine wpAnyH_done (by kernel_rfl) ?_ _;clear zH;go_wp2_with fail
      go_meet;exact⟨_,_,rfl,rfl,by omega,(uq HK).size,zcc _ _ _,bxs_new _ _ _,(uq HK).trans (by repeat(first|apply Keep.drew|apply Keep.alloc|exact zk _))⟩
     ·skip
      go_simp;clear zH;refine hK.out _ _ ?_ (λzH=>?_)
      ·exact uq HC _ ((uq HK).trans (by repeat(first|(refine Below.setCell ?_ (by simp) _)|apply zaa|apply Keep.alloc|apply Keep.drew|exact zk _)))
      clear hK K;try simp only[Yq]
      refine zap 8 (λK hK=>?_);go_simp;clear zH;refine hK.out _ _ ?_ (λzH=>?_)
      ·exact uq HC _ ((uq HK).trans (by repeat(first|(refine Below.setCell ?_ (by simp) _)|apply zaa|apply Keep.alloc|apply Keep.drew|exact zk _)))
      clear hK K;try simp only[Yq]
      refine zap 10 (λK hK=>?_);go_simp;clear zH;refine hK.out _ _ ?_ (λzH=>?_)
      ·exact uq HC _ ((uq HK).trans (by repeat(first|(refine Below.setCell ?_ (by simp) _)|apply zaa|apply Keep.alloc|apply Keep.drew|exact zk _)))
      clear hK K;try simp only[Yq]
      refine zap 11 (λK hK=>?_);go_simp;clear zH;refine hK.out _ _ ?_ (λzH=>?_)
      ·exact uq HC _ ((uq HK).trans (by repeat(first|(refine Below.setCell ?_ (by simp) _)|apply zaa|apply Keep.alloc|apply Keep.drew|exact zk _)))
      clear hK K;try simp only[Yq]
      refine wpAnyH_done (by kernel_rfl) ?_ _;clear zH;go_wp2_with fail
      go_meet;exact⟨_,_,rfl,rfl,by omega,Nat.le_succ_of_le (uq HK).size,bxs_new _ _ _,zcc _ _ _,(uq HK).trans (by repeat(first|apply Keep.drew|apply Keep.alloc|exact zk _))⟩
    case rest=>
     obtain⟨p,q,rfl,rfl,hpq,hp,bp,bq,hkc⟩:=hcut;have HKC:=zh hkc;have hpq2:¬q=p:=λe=>hpq e.symm
     have cx0:wc.cell? ⟨p,0,none⟩=some (.string x0):=by unfold Bxs at bp;simp[World.cell?,bp]
     have cy0:wc.cell? ⟨q,0,none⟩=some (.string y0):=by unfold Bxs at bq;simp[World.cell?,bq]
     have cx1:wc.cell? ⟨p,1,none⟩=some (.string x1):=by unfold Bxs at bp;simp[World.cell?,bp]
     have cy1:wc.cell? ⟨q,1,none⟩=some (.string y1):=by unfold Bxs at bq;simp[World.cell?,bq]
     have cx2:wc.cell? ⟨p,2,none⟩=some (.int .i64 x2):=by unfold Bxs at bp;simp[World.cell?,bp]
     have cy2:wc.cell? ⟨q,2,none⟩=some (.int .i64 y2):=by unfold Bxs at bq;simp[World.cell?,bq]
     have cx3:wc.cell? ⟨p,3,none⟩=some (.int .i64 x3):=by unfold Bxs at bp;simp[World.cell?,bp]
     have cy3:wc.cell? ⟨q,3,none⟩=some (.int .i64 y3):=by unfold Bxs at bq;simp[World.cell?,bq]
     have cx4:wc.cell? ⟨p,4,none⟩=some (.int .i64 x4):=by unfold Bxs at bp;simp[World.cell?,bp]
     have cy4:wc.cell? ⟨q,4,none⟩=some (.int .i64 y4):=by unfold Bxs at bq;simp[World.cell?,bq]
     have cx5:wc.cell? ⟨p,5,none⟩=some (.int .i64 x5):=by unfold Bxs at bp;simp[World.cell?,bp]
     have cy5:wc.cell? ⟨q,5,none⟩=some (.int .i64 y5):=by unfold Bxs at bq;simp[World.cell?,bq]
     have fz:wc.frozen? ⟨p,5,none⟩=false:=by unfold Bxs at bp;simp[World.frozen?,bp]
     replace HKC:Hid (Keep w (wc.setCell ⟨p,5,none⟩ (.int .i64 y5))):=zh (Below.setCell (uq HKC) (by exact hp) _);clear bp bq hkc;cases ek with
     |false=>
      have hr:=(uq HF) rfl;subst hr;go_wp2_with fail
      all_goals first
       |(go_ret;exact⟨rfl,uq HKC⟩)
       |(exfalso;have he:=uq HEQ;simp[*]at he)
     |true=>
      have he:=uq HEQ;simp only[Bool.and_eq_true,beq_iff_eq,and_true]at he;obtain⟨e0,e1,e2,e3,e4⟩:=he;go_wp2_with fail
      go_roundw
      case rel=>exact⟨k+1,hlt,by go_num,HKC,zh λj hj=>(Nat.lt_succ_iff_lt_or_eq.1 hj).elim ((uq HI) j) (λe=>e▸uq HEK)⟩
      case measure=>simp[intOf];omega
   ·have:k=n:=by omega
    subst this;have hr:=(uq H2) (uq HI);subst hr;go_wp2_with fail
    go_ret;exact⟨rfl,uq HK⟩
 ·have hr:=(uq H0) hnm;subst hr;have hne:((n:Int) !=(m:Int))=true:=by simp;omega
  have hne2:((n:Int)==(m:Int))=false:=by simp;omega
  have hne3:¬(n:Int)=(m:Int):=by omega
  have hne4:¬n=m:=hnm;go_enter Tryz.func26,Tryz.ntmps26;go_wp2_with fail
  go_ret;exact⟨rfl,zk _⟩
set_option maxHeartbeats 8000000 in
theorem zgW (a b:Option Addr) (n m ca cb:Nat) (X0 Y0:Nat->ByteArray) (X1 Y1:Nat->ByteArray) (X2 Y2:Nat->ByteArray) (X3 Y3:Nat->Int) (X4 Y4:Nat->Int) (X5 Y5:Nat->Int) (E:Nat->Bool) (r:Bool) (w:World) (hn:n<=100000) (hm:m<=100000)
  (HA:Hid (∀ k,k<n->∃ ad,a=some ad/\w.cell? (ad.add (k * 6))=some (.string (X0 k))/\w.cell? ⟨(ad.add (k * 6)).block,(ad.add (k * 6)).off+1,none⟩=some (.string (X1 k))/\w.cell? ⟨(ad.add (k * 6)).block,(ad.add (k * 6)).off+2,none⟩=some (.string (X2 k))/\w.cell? ⟨(ad.add (k * 6)).block,(ad.add (k * 6)).off+3,none⟩=some (.int .i64 (X3 k))/\w.cell? ⟨(ad.add (k * 6)).block,(ad.add (k * 6)).off+4,none⟩=some (.int .i64 (X4 k))/\w.cell? ⟨(ad.add (k * 6)).block,(ad.add (k * 6)).off+5,none⟩=some (.int .i64 (X5 k))))
  (HB:Hid (∀ k,k<m->∃ ad,b=some ad/\w.cell? (ad.add (k * 6))=some (.string (Y0 k))/\w.cell? ⟨(ad.add (k * 6)).block,(ad.add (k * 6)).off+1,none⟩=some (.string (Y1 k))/\w.cell? ⟨(ad.add (k * 6)).block,(ad.add (k * 6)).off+2,none⟩=some (.string (Y2 k))/\w.cell? ⟨(ad.add (k * 6)).block,(ad.add (k * 6)).off+3,none⟩=some (.int .i64 (Y3 k))/\w.cell? ⟨(ad.add (k * 6)).block,(ad.add (k * 6)).off+4,none⟩=some (.int .i64 (Y4 k))/\w.cell? ⟨(ad.add (k * 6)).block,(ad.add (k * 6)).off+5,none⟩=some (.int .i64 (Y5 k))))
  (HE:Hid (∀ k,(((X0 k).toList==(Y0 k).toList)&&(((X1 k).toList==(Y1 k).toList)&&(((X2 k).toList==(Y2 k).toList)&&((X3 k==Y3 k)&&((X4 k==Y4 k)&&true)))))=E k))
  (H0:Hid (n≠m->r=false)) (H1:Hid (n=m->∀ k,k<n->E k=false->r=false)) (H2:Hid (n=m->(∀ k,k<n->E k=true)->r=true)):
  Calls Tryz.prog 24 #[.slice a n ca,.slice b m cb,.bool false] w λe w'=>e= .returned (.bool r)/\Keep w w':=by
 by_cases hnm:n=m
 ·subst hnm;replace H1:=zh ((uq H1) rfl);replace H2:=zh ((uq H2) rfl);go_enter Tryz.func24,Tryz.ntmps24;go_wp2_with fail
  go_loopw [7] (λv7 wr=>∃ k:Nat,k<=n/\v7= .int .i64 (k:Int)/\Hid (Keep w wr)/\Hid (∀ j,j<k->E j=true)) (λv7 _=>n - (intOf v7).toNat)
  case atStart=>exact⟨0,Nat.zero_le _,rfl,zh (zk _),zh λj hj=>by omega⟩
  case round=>
   obtain⟨k,hk,rfl,HK,HI⟩:=hrel;by_cases hlt:k<n
   ·have li:(k:Int)<(n:Int):=by omega
    have lz:(0:Int)<=(k:Int):=by omega
    obtain⟨ad,rfl,p0,p1,p2,p3,p4,p5⟩:=(uq HA) k hlt;obtain⟨bd,rfl,q0,q1,q2,q3,q4,q5⟩:=(uq HB) k hlt;have he:=(uq HE) k;have HF:=zh ((uq H1) k hlt);generalize hE:E k=ek at he HF;have HEK:=zh hE;clear hE;generalize X0 k=x0 at p0 he;generalize Y0 k=y0 at q0 he;generalize X1 k=x1 at p1 he;generalize Y1 k=y1 at q1 he;generalize X2 k=x2 at p2 he;generalize Y2 k=y2 at q2 he;generalize X3 k=x3 at p3 he;generalize Y3 k=y3 at q3 he;generalize X4 k=x4 at p4 he;generalize Y4 k=y4 at q4 he;generalize X5 k=x5 at p5;generalize Y5 k=y5 at q5;have HC:Hid (∀ w',Keep w w'->w'.cell? (ad.add (k * 6))=some (.string (x0))/\w'.cell? ⟨(ad.add (k * 6)).block,(ad.add (k * 6)).off+1,none⟩=some (.string (x1))/\w'.cell? ⟨(ad.add (k * 6)).block,(ad.add (k * 6)).off+2,none⟩=some (.string (x2))/\w'.cell? ⟨(ad.add (k * 6)).block,(ad.add (k * 6)).off+3,none⟩=some (.int .i64 (x3))/\w'.cell? ⟨(ad.add (k * 6)).block,(ad.add (k * 6)).off+4,none⟩=some (.int .i64 (x4))/\w'.cell? ⟨(ad.add (k * 6)).block,(ad.add (k * 6)).off+5,none⟩=some (.int .i64 (x5))/\w'.cell? (bd.add (k * 6))=some (.string (y0))/\w'.cell? ⟨(bd.add (k * 6)).block,(bd.add (k * 6)).off+1,none⟩=some (.string (y1))/\w'.cell? ⟨(bd.add (k * 6)).block,(bd.add (k * 6)).off+2,none⟩=some (.string (y2))/\w'.cell? ⟨(bd.add (k * 6)).block,(bd.add (k * 6)).off+3,none⟩=some (.int .i64 (y3))/\w'.cell? ⟨(bd.add (k * 6)).block,(bd.add (k * 6)).off+4,none⟩=some (.int .i64 (y4))/\w'.cell? ⟨(bd.add (k * 6)).block,(bd.add (k * 6)).off+5,none⟩=some (.int .i64 (y5))):=λw' hk=>⟨Keep.cell' hk p0,Keep.cell' hk p1,Keep.cell' hk p2,Keep.cell' hk p3,Keep.cell' hk p4,Keep.cell' hk p5,Keep.cell' hk q0,Keep.cell' hk q1,Keep.cell' hk q2,Keep.cell' hk q3,Keep.cell' hk q4,Keep.cell' hk q5⟩
    clear p0 q0 p1 q1 p2 q2 p3 q3 p4 q4 p5 q5;have HEQ:=zh he;clear he
    go_upto_region 6 with fail
    go_cut [8,9] (λs8 s9 wc=>∃ p q,s8= .pointer (some ⟨p,0,none⟩)/\s9= .pointer (some ⟨q,0,none⟩)/\p≠q/\w.heap.size<=p/\Bxs wc p #[.string x0,.string x1,.string x2,.int .i64 x3,.int .i64 x4,.int .i64 x5] 48/\Bxs wc q #[.string y0,.string y1,.string y2,.int .i64 y3,.int .i64 y4,.int .i64 y5] 48/\Keep w wc)
    case first=>
     refine wp_region_held_drew (S:=(λw'=>w'.cell? (ad.add (k * 6))=some (.string (x0))/\w'.cell? ⟨(ad.add (k * 6)).block,(ad.add (k * 6)).off+1,none⟩=some (.string (x1))/\w'.cell? ⟨(ad.add (k * 6)).block,(ad.add (k * 6)).off+2,none⟩=some (.string (x2))/\w'.cell? ⟨(ad.add (k * 6)).block,(ad.add (k * 6)).off+3,none⟩=some (.int .i64 (x3))/\w'.cell? ⟨(ad.add (k * 6)).block,(ad.add (k * 6)).off+4,none⟩=some (.int .i64 (x4))/\w'.cell? ⟨(ad.add (k * 6)).block,(ad.add (k * 6)).off+5,none⟩=some (.int .i64 (x5))/\w'.cell? (bd.add (k * 6))=some (.string (y0))/\w'.cell? ⟨(bd.add (k * 6)).block,(bd.add (k * 6)).off+1,none⟩=some (.string (y1))/\w'.cell? ⟨(bd.add (k * 6)).block,(bd.add (k * 6)).off+2,none⟩=some (.string (y2))/\w'.cell? ⟨(bd.add (k * 6)).block,(bd.add (k * 6)).off+3,none⟩=some (.int .i64 (y3))/\w'.cell? ⟨(bd.add (k * 6)).block,(bd.add (k * 6)).off+4,none⟩=some (.int .i64 (y4))/\w'.cell? ⟨(bd.add (k * 6)).block,(bd.add (k * 6)).off+5,none⟩=some (.int .i64 (y5)))) (by kernel_rfl) (by exact uq HC _ ((uq HK).trans ((zk _).drew))) (λzH=>?_);refine tk6 0 21 1 22 2 23 3 24 4 25 5 26 zH ?_;try simp only[Yq]
     refine tk2 6 27 7 28 zH ?_;try simp only[Yq]
     refine wpAnyH_ready (rs:= [8,9]) (by kernel_rfl) (by simp) ?_;refine AllReadyH.cons rfl (λK hK=>?_) (AllReadyH.cons rfl (λK hK=>?_) AllReadyH.nil)
     ·skip
      go_simp;clear zH;refine hK.out _ _ ?_ (λzH=>?_)
      ·exact uq HC _ ((uq HK).trans (by repeat(first|(refine Below.setCell ?_ (by simp) _)|apply zaa|apply Keep.alloc|apply Keep.drew|exact zk _)))
      clear hK K;try simp only[Yq]
      refine zap 9 (λK hK=>?_);go_simp;clear zH;refine hK.out _ _ ?_ (λzH=>?_)
      ·exact uq HC _ ((uq HK).trans (by repeat(first|(refine Below.setCell ?_ (by simp) _)|apply zaa|apply Keep.alloc|apply Keep.drew|exact zk _)))
      clear hK K;try simp only[Yq]
      refine zap 10 (λK hK=>?_);go_simp;clear zH;refine hK.out _ _ ?_ (λzH=>?_)
      ·exact uq HC _ ((uq HK).trans (by repeat(first|(refine Below.setCell ?_ (by simp) _)|apply zaa|apply Keep.alloc|apply Keep.drew|exact zk _)))
      clear hK K;try simp only[Yq]
      refine zap 11 (λK hK=>?_);go_simp;clear zH;refine hK.out _ _ ?_ (λzH=>?_)
      ·exact uq HC _ ((uq HK).trans (by repeat(first|(refine Below.setCell ?_ (by simp) _)|apply zaa|apply Keep.alloc|apply Keep.drew|exact zk _)))
      clear hK K;try simp only[Yq]
      refine wpAnyH_done (by kernel_rfl) ?_ _;clear zH;go_wp2_with fail
      go_meet;exact⟨_,_,rfl,rfl,by omega,(uq HK).size,zcc _ _ _,bxs_new _ _ _,(uq HK).trans (by repeat(first|apply Keep.drew|apply Keep.alloc|exact zk _))⟩
     ·skip
      go_simp;clear zH;refine hK.out _ _ ?_ (λzH=>?_)
      ·exact uq HC _ ((uq HK).trans (by repeat(first|(refine Below.setCell ?_ (by simp) _)|apply zaa|apply Keep.alloc|apply Keep.drew|exact zk _)))
      clear hK K;try simp only[Yq]
      refine zap 8 (λK hK=>?_);go_simp;clear zH;refine hK.out _ _ ?_ (λzH=>?_)
      ·exact uq HC _ ((uq HK).trans (by repeat(first|(refine Below.setCell ?_ (by simp) _)|apply zaa|apply Keep.alloc|apply Keep.drew|exact zk _)))
      clear hK K;try simp only[Yq]
      refine zap 10 (λK hK=>?_);go_simp;clear zH;refine hK.out _ _ ?_ (λzH=>?_)
      ·exact uq HC _ ((uq HK).trans (by repeat(first|(refine Below.setCell ?_ (by simp) _)|apply zaa|apply Keep.alloc|apply Keep.drew|exact zk _)))
      clear hK K;try simp only[Yq]
      refine zap 11 (λK hK=>?_);go_simp;clear zH;refine hK.out _ _ ?_ (λzH=>?_)
      ·exact uq HC _ ((uq HK).trans (by repeat(first|(refine Below.setCell ?_ (by simp) _)|apply zaa|apply Keep.alloc|apply Keep.drew|exact zk _)))
      clear hK K;try simp only[Yq]
      refine wpAnyH_done (by kernel_rfl) ?_ _;clear zH;go_wp2_with fail
      go_meet;exact⟨_,_,rfl,rfl,by omega,Nat.le_succ_of_le (uq HK).size,bxs_new _ _ _,zcc _ _ _,(uq HK).trans (by repeat(first|apply Keep.drew|apply Keep.alloc|exact zk _))⟩
    case rest=>
     obtain⟨p,q,rfl,rfl,hpq,hp,bp,bq,hkc⟩:=hcut;have HKC:=zh hkc;have hpq2:¬q=p:=λe=>hpq e.symm
     have cx0:wc.cell? ⟨p,0,none⟩=some (.string x0):=by unfold Bxs at bp;simp[World.cell?,bp]
     have cy0:wc.cell? ⟨q,0,none⟩=some (.string y0):=by unfold Bxs at bq;simp[World.cell?,bq]
     have cx1:wc.cell? ⟨p,1,none⟩=some (.string x1):=by unfold Bxs at bp;simp[World.cell?,bp]
     have cy1:wc.cell? ⟨q,1,none⟩=some (.string y1):=by unfold Bxs at bq;simp[World.cell?,bq]
     have cx2:wc.cell? ⟨p,2,none⟩=some (.string x2):=by unfold Bxs at bp;simp[World.cell?,bp]
     have cy2:wc.cell? ⟨q,2,none⟩=some (.string y2):=by unfold Bxs at bq;simp[World.cell?,bq]
     have cx3:wc.cell? ⟨p,3,none⟩=some (.int .i64 x3):=by unfold Bxs at bp;simp[World.cell?,bp]
     have cy3:wc.cell? ⟨q,3,none⟩=some (.int .i64 y3):=by unfold Bxs at bq;simp[World.cell?,bq]
     have cx4:wc.cell? ⟨p,4,none⟩=some (.int .i64 x4):=by unfold Bxs at bp;simp[World.cell?,bp]
     have cy4:wc.cell? ⟨q,4,none⟩=some (.int .i64 y4):=by unfold Bxs at bq;simp[World.cell?,bq]
     have cx5:wc.cell? ⟨p,5,none⟩=some (.int .i64 x5):=by unfold Bxs at bp;simp[World.cell?,bp]
     have cy5:wc.cell? ⟨q,5,none⟩=some (.int .i64 y5):=by unfold Bxs at bq;simp[World.cell?,bq]
     have fz:wc.frozen? ⟨p,5,none⟩=false:=by unfold Bxs at bp;simp[World.frozen?,bp]
     replace HKC:Hid (Keep w (wc.setCell ⟨p,5,none⟩ (.int .i64 y5))):=zh (Below.setCell (uq HKC) (by exact hp) _);clear bp bq hkc;cases ek with
     |false=>
      have hr:=(uq HF) rfl;subst hr;go_wp2_with fail
      all_goals first
       |(go_ret;exact⟨rfl,uq HKC⟩)
       |(exfalso;have he:=uq HEQ;simp[*]at he)
     |true=>
      have he:=uq HEQ;simp only[Bool.and_eq_true,beq_iff_eq,and_true]at he;obtain⟨e0,e1,e2,e3,e4⟩:=he;go_wp2_with fail
      go_roundw
      case rel=>exact⟨k+1,hlt,by go_num,HKC,zh λj hj=>(Nat.lt_succ_iff_lt_or_eq.1 hj).elim ((uq HI) j) (λe=>e▸uq HEK)⟩
      case measure=>simp[intOf];omega
   ·have:k=n:=by omega
    subst this;have hr:=(uq H2) (uq HI);subst hr;go_wp2_with fail
    go_ret;exact⟨rfl,uq HK⟩
 ·have hr:=(uq H0) hnm;subst hr;have hne:((n:Int) !=(m:Int))=true:=by simp;omega
  have hne2:((n:Int)==(m:Int))=false:=by simp;omega
  have hne3:¬(n:Int)=(m:Int):=by omega
  have hne4:¬n=m:=hnm;go_enter Tryz.func24,Tryz.ntmps24;go_wp2_with fail
  go_ret;exact⟨rfl,zk _⟩
end Go.Proofs.YthceiikgecoimaaGreatDoor
