/- ShowBack: what is shown is read as that network, its places aside, if it is not too long; what has no text is refused. For any network (greater ones than the law's Few lets in are let by) the law's call returns true, and the network reads behind it as it read before. -/
import Derived.Test.YthceiikgecoimaaGreatDoorCards
import Derived.Test.YthceiikgecoimaaGreatDoorTie
import Derived.Test.YthceiikgecoimaaGreatDoorNThe
import Derived.Test.YthceiikgecoimaaGreatDoorSFwT
import Derived.Test.YthceiikgecoimaaGreatDoorNTr
import Derived.LaidLaws
import Derived.LaidHandle
import Derived.LaidMore
import Derived.SevenTiedAt
import Derived.Deep.DrawnRows
import Derived.Deep.RegionHeld
namespace Go.Proofs.YthceiikgecoimaaGreatDoor.bck
open Go.ChangeShapes Go.WideShapes Go.ChangeAt Go.RowKit
open Go.WideMaps Go.WideElems
attribute [local go_sem ↓] Go.wp_at_zero Go.wp_at_succ
set_option linter.unusedVariables false
set_option linter.unusedSimpArgs false
set_option maxRecDepth 10000
open S
def ShQ (E:Int) (o:List UInt8) (w:World) (e:Ending) (w':World):Prop:=∃ a n c,e= .returned (.tuple #[.slice a n c,.int .i64 E])/\n=o.length/\By w' (.slice a n c) o/\Keep w w'
theorem shq {w:World} {ds:List D} {us:List Value} (hs:ShL zdo ds) (hr:Rvs w ds us) (ht:Tab w):Calls Tryz.prog 6 #[.agg us.toArray] w (ShQ (if zei ds then 0 else 1) (if zei ds then txt ds else []) w):=by
 cases hB:zei ds with
 |false=>
  refine(zlv hs hB hr).mono ?_;rintro e w' ⟨rfl,hk⟩;exact⟨none,0,0,rfl,rfl,⟨none,0,rfl,Nat.le_refl _,λk hk=>by simp at hk⟩,hk⟩
 |true=>
  refine(zhr hs hB hr ht).mono ?_;rintro e w' ⟨v,rfl,hb,hk⟩;obtain⟨a,cap,rfl⟩:=hb.shape;exact⟨a,_,cap,rfl,rfl,hb,hk⟩
theorem zkE (v:Value) (l:List UInt8) (w:World) (hb:By w v l) (hg:Gl w):Calls Tryz.prog 9 #[v] w (PQ (tr (N l)) (nE (N l)) (nP (N l)) w):=by
 by_cases hl:l.length<=65536
 ·exact zrK (zkD v l w hl hb hg)
 ·have eN:=zhq (l:=l) (by omega);have eT:T l= .error (4,65536):=by unfold T;rw[if_pos (by omega)]
  refine zrK ?_;rw[eN];refine zgk v (4,65536) w (zh hg) (zh λw' hk=>?_);refine zhA v (4,65536) w' (by decide) (zh λw'' hk2=>?_);have:=zhl v l w'' ((hb.keep hk).keep hk2);rwa[eT]at this
set_option maxHeartbeats 8000000 in
theorem bad (a0 a1 a2 a3 a4:Int) (aN:Option Addr) (nN cN:Nat) (aS:Option Addr) (nS cS:Nat) (a5 a6:Int) (o:List UInt8) (ho:Hid (o.length=0)) (w:World)
  (TF:Hid (∀ w',Keep w w'->Calls Tryz.prog 5 #[.agg #[.int .i64 a0,.int .i64 a1,.int .i64 a2,.int .i64 a3,.int .i64 a4,.slice aN nN cN,.slice aS nS cS,.int .i64 a5,.int .i64 a6]] w' (Ak w')))
  (TS:Hid (∀ w',Keep w w'->Calls Tryz.prog 6 #[.agg #[.int .i64 a0,.int .i64 a1,.int .i64 a2,.int .i64 a3,.int .i64 a4,.slice aN nN cN,.slice aS nS cS,.int .i64 a5,.int .i64 a6]] w' (ShQ 1 o w')))
  (TA:Hid (∀ w',Keep w w'->Calls Tryz.prog 8 #[] w' λe w''=>e= .returned (.bool true)/\Keep w' w''))
  (TR:Hid (∀ w',Keep w w'->Calls Tryz.prog 7 #[.agg #[.int .i64 a0,.int .i64 a1,.int .i64 a2,.int .i64 a3,.int .i64 a4,.slice aN nN cN,.slice aS nS cS,.int .i64 a5,.int .i64 a6]] w' λe w''=>e= .returned (.bool false)/\Keep w' w'')):
  Calls Tryz.prog 3 #[.agg #[.int .i64 a0,.int .i64 a1,.int .i64 a2,.int .i64 a3,.int .i64 a4,.slice aN nN cN,.slice aS nS cS,.int .i64 a5,.int .i64 a6]] w λe w'=>e= .returned (.bool true)/\Keep w w':=by
 go_enter Tryz.func3,Tryz.ntmps3
 go_upto_region 1 with fail
 have HK1:=zh ((zk w).alloc (.cells #[.int .i64 a0,.int .i64 a1,.int .i64 a2,.int .i64 a3,.int .i64 a4,.slice aN nN cN,.slice aS nS cS,.int .i64 a5,.int .i64 a6] 27));have hx:=heap_alloc_new w (.cells #[.int .i64 a0,.int .i64 a1,.int .i64 a2,.int .i64 a3,.int .i64 a4,.slice aN nN cN,.slice aS nS cS,.int .i64 a5,.int .i64 a6] 27);generalize w.alloc (.cells #[.int .i64 a0,.int .i64 a1,.int .i64 a2,.int .i64 a3,.int .i64 a4,.slice aN nN cN,.slice aS nS cS,.int .i64 a5,.int .i64 a6] 27)=w1 at HK1 hx |-;generalize w.heap.size=xb at hx |-;have HX:Hid (∀ w',Keep w1 w'->w'.cell? ⟨xb,0,none⟩=some (.int .i64 a0)/\w'.cell? ⟨xb,1,none⟩=some (.int .i64 a1)/\w'.cell? ⟨xb,2,none⟩=some (.int .i64 a2)/\w'.cell? ⟨xb,3,none⟩=some (.int .i64 a3)/\w'.cell? ⟨xb,4,none⟩=some (.int .i64 a4)/\w'.cell? ⟨xb,5,none⟩=some (.slice aN nN cN)/\w'.cell? ⟨xb,6,none⟩=some (.slice aS nS cS)/\w'.cell? ⟨xb,7,none⟩=some (.int .i64 a5)/\w'.cell? ⟨xb,8,none⟩=some (.int .i64 a6)):=zh (λw' k9=>by have h:=k9.block xb (Array.getElem?_eq_some_iff.1 hx).1;rw[hx]at h;refine⟨?_,?_,?_,?_,?_,?_,?_,?_,?_⟩<;>simp[World.cell?,h]);clear hx;obtain⟨p0,p1,p2,p3,p4,p5,p6,p7,p8⟩:=(uq HX) w1 (zk _);go_wp2_with fail
 (refine((uq TF) _ (uq HK1)).mono ?_;rintro e w2 ⟨b,rfl,hk⟩;have HL2:=zh hk;have HK2:=zh ((uq HK1).trans hk);clear hk);clear p0 p1 p2 p3 p4 p5 p6 p7 p8;cases b
 ·go_wp2_with fail
  go_ret;exact⟨rfl,uq HK2⟩
 obtain⟨p0,p1,p2,p3,p4,p5,p6,p7,p8⟩:=(uq HX) w2 (uq HL2);go_wp2_with fail
 (refine((uq TS) _ (uq HK2)).mono ?_;rintro e w4 ⟨s1,l1,c1,rfl,hn,hb,hk⟩;have HB4:=zh hb;have HN4:=zh hn;have HM4:=zh hk;have HL4:=zh ((uq HL2).trans hk);have HK4:=zh ((uq HK2).trans hk);clear hk hb hn);clear p0 p1 p2 p3 p4 p5 p6 p7 p8;obtain rfl:l1=0:=(uq HN4).trans (uq ho);obtain⟨p0,p1,p2,p3,p4,p5,p6,p7,p8⟩:=(uq HX) w4 (uq HL4);go_wp2_with fail
 (refine((uq TR) _ (uq HK4)).mono ?_;rintro e w5 ⟨rfl,hk⟩;have HK5:=zh ((uq HK4).trans hk);clear hk);clear p0 p1 p2 p3 p4 p5 p6 p7 p8;go_wp2_with fail
 (refine((uq TA) _ (uq HK5)).mono ?_;rintro e w6 ⟨rfl,hk⟩;have HK6:=zh ((uq HK5).trans hk);clear hk);go_wp2_with fail
 go_ret;exact⟨rfl,uq HK6⟩
set_option maxHeartbeats 8000000 in
theorem zsC (a0 a1 a2 a3 a4:Int) (aN:Option Addr) (nN cN:Nat) (aS:Option Addr) (nS cS:Nat) (a5 a6:Int) (o:List UInt8) (cs:List D) (P:Int) (ho:Hid (65536<o.length)) (w:World)
  (TF:Hid (∀ w',Keep w w'->Calls Tryz.prog 5 #[.agg #[.int .i64 a0,.int .i64 a1,.int .i64 a2,.int .i64 a3,.int .i64 a4,.slice aN nN cN,.slice aS nS cS,.int .i64 a5,.int .i64 a6]] w' (Ak w')))
  (TS:Hid (∀ w',Keep w w'->Calls Tryz.prog 6 #[.agg #[.int .i64 a0,.int .i64 a1,.int .i64 a2,.int .i64 a3,.int .i64 a4,.slice aN nN cN,.slice aS nS cS,.int .i64 a5,.int .i64 a6]] w' (ShQ 0 o w')))
  (TA:Hid (∀ w',Keep w w'->Calls Tryz.prog 8 #[] w' λe w''=>e= .returned (.bool true)/\Keep w' w''))
  (TP:Hid (∀ w' v,Keep w w'->By w' v o->Calls Tryz.prog 9 #[v] w' (PQ cs 4 P w'))):
  Calls Tryz.prog 3 #[.agg #[.int .i64 a0,.int .i64 a1,.int .i64 a2,.int .i64 a3,.int .i64 a4,.slice aN nN cN,.slice aS nS cS,.int .i64 a5,.int .i64 a6]] w λe w'=>e= .returned (.bool true)/\Keep w w':=by
 go_enter Tryz.func3,Tryz.ntmps3
 go_upto_region 1 with fail
 have HK1:=zh ((zk w).alloc (.cells #[.int .i64 a0,.int .i64 a1,.int .i64 a2,.int .i64 a3,.int .i64 a4,.slice aN nN cN,.slice aS nS cS,.int .i64 a5,.int .i64 a6] 27));have hx:=heap_alloc_new w (.cells #[.int .i64 a0,.int .i64 a1,.int .i64 a2,.int .i64 a3,.int .i64 a4,.slice aN nN cN,.slice aS nS cS,.int .i64 a5,.int .i64 a6] 27);generalize w.alloc (.cells #[.int .i64 a0,.int .i64 a1,.int .i64 a2,.int .i64 a3,.int .i64 a4,.slice aN nN cN,.slice aS nS cS,.int .i64 a5,.int .i64 a6] 27)=w1 at HK1 hx |-;generalize w.heap.size=xb at hx |-;have HX:Hid (∀ w',Keep w1 w'->w'.cell? ⟨xb,0,none⟩=some (.int .i64 a0)/\w'.cell? ⟨xb,1,none⟩=some (.int .i64 a1)/\w'.cell? ⟨xb,2,none⟩=some (.int .i64 a2)/\w'.cell? ⟨xb,3,none⟩=some (.int .i64 a3)/\w'.cell? ⟨xb,4,none⟩=some (.int .i64 a4)/\w'.cell? ⟨xb,5,none⟩=some (.slice aN nN cN)/\w'.cell? ⟨xb,6,none⟩=some (.slice aS nS cS)/\w'.cell? ⟨xb,7,none⟩=some (.int .i64 a5)/\w'.cell? ⟨xb,8,none⟩=some (.int .i64 a6)):=zh (λw' k9=>by have h:=k9.block xb (Array.getElem?_eq_some_iff.1 hx).1;rw[hx]at h;refine⟨?_,?_,?_,?_,?_,?_,?_,?_,?_⟩<;>simp[World.cell?,h]);clear hx;obtain⟨p0,p1,p2,p3,p4,p5,p6,p7,p8⟩:=(uq HX) w1 (zk _);go_wp2_with fail
 (refine((uq TF) _ (uq HK1)).mono ?_;rintro e w2 ⟨b,rfl,hk⟩;have HL2:=zh hk;have HK2:=zh ((uq HK1).trans hk);clear hk);clear p0 p1 p2 p3 p4 p5 p6 p7 p8;cases b
 ·go_wp2_with fail
  go_ret;exact⟨rfl,uq HK2⟩
 obtain⟨p0,p1,p2,p3,p4,p5,p6,p7,p8⟩:=(uq HX) w2 (uq HL2);go_wp2_with fail
 (refine((uq TS) _ (uq HK2)).mono ?_;rintro e w4 ⟨s1,l1,c1,rfl,hn,hb,hk⟩;have HB4:=zh hb;have HN4:=zh hn;have HM4:=zh hk;have HL4:=zh ((uq HL2).trans hk);have HK4:=zh ((uq HK2).trans hk);clear hk hb hn);clear p0 p1 p2 p3 p4 p5 p6 p7 p8;go_wp2_with fail
 (refine((uq TP) _ _ (uq HK4) (uq HB4)).mono ?_;rintro e w5 ⟨hk,b0,b1,b2,b3,b4,bN,mN,dN,bS,mS,dS,b5,b6,rfl,hr⟩;have HR5:=zh hr;have HL5:=zh ((uq HL4).trans hk);have HK5:=zh ((uq HK4).trans hk);clear hk hr);unfold nv at HR5
 go_upto_region 7 with fail
 have HK6:=zh ((uq HK5).alloc (.cells #[.int .i64 b0,.int .i64 b1,.int .i64 b2,.int .i64 b3,.int .i64 b4,.slice bN mN dN,.slice bS mS dS,.int .i64 b5,.int .i64 b6] 27));have HL6:=zh ((uq HL5).alloc (.cells #[.int .i64 b0,.int .i64 b1,.int .i64 b2,.int .i64 b3,.int .i64 b4,.slice bN mN dN,.slice bS mS dS,.int .i64 b5,.int .i64 b6] 27));have hy:=heap_alloc_new w5 (.cells #[.int .i64 b0,.int .i64 b1,.int .i64 b2,.int .i64 b3,.int .i64 b4,.slice bN mN dN,.slice bS mS dS,.int .i64 b5,.int .i64 b6] 27);have HR6:=zh (Rvs.keep ((zk w5).alloc (.cells #[.int .i64 b0,.int .i64 b1,.int .i64 b2,.int .i64 b3,.int .i64 b4,.slice bN mN dN,.slice bS mS dS,.int .i64 b5,.int .i64 b6] 27)) _ _ (uq HR5));generalize w5.alloc (.cells #[.int .i64 b0,.int .i64 b1,.int .i64 b2,.int .i64 b3,.int .i64 b4,.slice bN mN dN,.slice bS mS dS,.int .i64 b5,.int .i64 b6] 27)=w6 at HK6 HL6 hy HR6 |-;generalize w5.heap.size=yb at hy |-;have HY:Hid (∀ w',Keep w6 w'->w'.cell? ⟨yb,0,none⟩=some (.int .i64 b0)/\w'.cell? ⟨yb,1,none⟩=some (.int .i64 b1)/\w'.cell? ⟨yb,2,none⟩=some (.int .i64 b2)/\w'.cell? ⟨yb,3,none⟩=some (.int .i64 b3)/\w'.cell? ⟨yb,4,none⟩=some (.int .i64 b4)/\w'.cell? ⟨yb,5,none⟩=some (.slice bN mN dN)/\w'.cell? ⟨yb,6,none⟩=some (.slice bS mS dS)/\w'.cell? ⟨yb,7,none⟩=some (.int .i64 b5)/\w'.cell? ⟨yb,8,none⟩=some (.int .i64 b6)):=zh (λw' k9=>by have h:=k9.block yb (Array.getElem?_eq_some_iff.1 hy).1;rw[hy]at h;refine⟨?_,?_,?_,?_,?_,?_,?_,?_,?_⟩<;>simp[World.cell?,h]);clear hy;have g9:(65536:Int)<(l1:Int):=by have:=uq HN4;have:=uq ho;omega
 go_wp2_with fail
 (refine((uq TA) _ (uq HK6)).mono ?_;rintro e w7 ⟨rfl,hk⟩;have HK7:=zh ((uq HK6).trans hk);clear hk);go_wp2_with fail
 go_ret;exact⟨rfl,uq HK7⟩
set_option maxHeartbeats 8000000 in
theorem zsD (a0 a1 a2 a3 a4:Int) (aN:Option Addr) (nN cN:Nat) (aS:Option Addr) (nS cS:Nat) (a5 a6:Int) (o:List UInt8) (cs:List D) (P:Int) (ho:Hid (o.length<=65536)) (w:World)
  (TF:Hid (∀ w',Keep w w'->Calls Tryz.prog 5 #[.agg #[.int .i64 a0,.int .i64 a1,.int .i64 a2,.int .i64 a3,.int .i64 a4,.slice aN nN cN,.slice aS nS cS,.int .i64 a5,.int .i64 a6]] w' (Ak w')))
  (TS:Hid (∀ w',Keep w w'->Calls Tryz.prog 6 #[.agg #[.int .i64 a0,.int .i64 a1,.int .i64 a2,.int .i64 a3,.int .i64 a4,.slice aN nN cN,.slice aS nS cS,.int .i64 a5,.int .i64 a6]] w' (ShQ 0 o w')))
  (TA:Hid (∀ w',Keep w w'->Calls Tryz.prog 8 #[] w' λe w''=>e= .returned (.bool true)/\Keep w' w''))
  (TP:Hid (∀ w' v,Keep w w'->By w' v o->Calls Tryz.prog 9 #[v] w' (PQ cs 0 P w')))
  (TM:Hid (∀ w' vs,Keep w w'->Rvs w' cs vs->Calls Tryz.prog 10 #[.agg #[.int .i64 a0,.int .i64 a1,.int .i64 a2,.int .i64 a3,.int .i64 a4,.slice aN nN cN,.slice aS nS cS,.int .i64 a5,.int .i64 a6],.agg vs.toArray,.bool false] w' λe w''=>e= .returned (.bool true)/\Keep w' w'')):
  Calls Tryz.prog 3 #[.agg #[.int .i64 a0,.int .i64 a1,.int .i64 a2,.int .i64 a3,.int .i64 a4,.slice aN nN cN,.slice aS nS cS,.int .i64 a5,.int .i64 a6]] w λe w'=>e= .returned (.bool true)/\Keep w w':=by
 go_enter Tryz.func3,Tryz.ntmps3
 go_upto_region 1 with fail
 have HK1:=zh ((zk w).alloc (.cells #[.int .i64 a0,.int .i64 a1,.int .i64 a2,.int .i64 a3,.int .i64 a4,.slice aN nN cN,.slice aS nS cS,.int .i64 a5,.int .i64 a6] 27));have hx:=heap_alloc_new w (.cells #[.int .i64 a0,.int .i64 a1,.int .i64 a2,.int .i64 a3,.int .i64 a4,.slice aN nN cN,.slice aS nS cS,.int .i64 a5,.int .i64 a6] 27);generalize w.alloc (.cells #[.int .i64 a0,.int .i64 a1,.int .i64 a2,.int .i64 a3,.int .i64 a4,.slice aN nN cN,.slice aS nS cS,.int .i64 a5,.int .i64 a6] 27)=w1 at HK1 hx |-;generalize w.heap.size=xb at hx |-;have HX:Hid (∀ w',Keep w1 w'->w'.cell? ⟨xb,0,none⟩=some (.int .i64 a0)/\w'.cell? ⟨xb,1,none⟩=some (.int .i64 a1)/\w'.cell? ⟨xb,2,none⟩=some (.int .i64 a2)/\w'.cell? ⟨xb,3,none⟩=some (.int .i64 a3)/\w'.cell? ⟨xb,4,none⟩=some (.int .i64 a4)/\w'.cell? ⟨xb,5,none⟩=some (.slice aN nN cN)/\w'.cell? ⟨xb,6,none⟩=some (.slice aS nS cS)/\w'.cell? ⟨xb,7,none⟩=some (.int .i64 a5)/\w'.cell? ⟨xb,8,none⟩=some (.int .i64 a6)):=zh (λw' k9=>by have h:=k9.block xb (Array.getElem?_eq_some_iff.1 hx).1;rw[hx]at h;refine⟨?_,?_,?_,?_,?_,?_,?_,?_,?_⟩<;>simp[World.cell?,h]);clear hx;obtain⟨p0,p1,p2,p3,p4,p5,p6,p7,p8⟩:=(uq HX) w1 (zk _);go_wp2_with fail
 (refine((uq TF) _ (uq HK1)).mono ?_;rintro e w2 ⟨b,rfl,hk⟩;have HL2:=zh hk;have HK2:=zh ((uq HK1).trans hk);clear hk);clear p0 p1 p2 p3 p4 p5 p6 p7 p8;cases b
 ·go_wp2_with fail
  go_ret;exact⟨rfl,uq HK2⟩
 obtain⟨p0,p1,p2,p3,p4,p5,p6,p7,p8⟩:=(uq HX) w2 (uq HL2);go_wp2_with fail
 (refine((uq TS) _ (uq HK2)).mono ?_;rintro e w4 ⟨s1,l1,c1,rfl,hn,hb,hk⟩;have HB4:=zh hb;have HN4:=zh hn;have HM4:=zh hk;have HL4:=zh ((uq HL2).trans hk);have HK4:=zh ((uq HK2).trans hk);clear hk hb hn);clear p0 p1 p2 p3 p4 p5 p6 p7 p8;go_wp2_with fail
 (refine((uq TP) _ _ (uq HK4) (uq HB4)).mono ?_;rintro e w5 ⟨hk,b0,b1,b2,b3,b4,bN,mN,dN,bS,mS,dS,b5,b6,rfl,hr⟩;have HR5:=zh hr;have HL5:=zh ((uq HL4).trans hk);have HK5:=zh ((uq HK4).trans hk);clear hk hr);unfold nv at HR5
 go_upto_region 7 with fail
 have HK6:=zh ((uq HK5).alloc (.cells #[.int .i64 b0,.int .i64 b1,.int .i64 b2,.int .i64 b3,.int .i64 b4,.slice bN mN dN,.slice bS mS dS,.int .i64 b5,.int .i64 b6] 27));have HL6:=zh ((uq HL5).alloc (.cells #[.int .i64 b0,.int .i64 b1,.int .i64 b2,.int .i64 b3,.int .i64 b4,.slice bN mN dN,.slice bS mS dS,.int .i64 b5,.int .i64 b6] 27));have hy:=heap_alloc_new w5 (.cells #[.int .i64 b0,.int .i64 b1,.int .i64 b2,.int .i64 b3,.int .i64 b4,.slice bN mN dN,.slice bS mS dS,.int .i64 b5,.int .i64 b6] 27);have HR6:=zh (Rvs.keep ((zk w5).alloc (.cells #[.int .i64 b0,.int .i64 b1,.int .i64 b2,.int .i64 b3,.int .i64 b4,.slice bN mN dN,.slice bS mS dS,.int .i64 b5,.int .i64 b6] 27)) _ _ (uq HR5));generalize w5.alloc (.cells #[.int .i64 b0,.int .i64 b1,.int .i64 b2,.int .i64 b3,.int .i64 b4,.slice bN mN dN,.slice bS mS dS,.int .i64 b5,.int .i64 b6] 27)=w6 at HK6 HL6 hy HR6 |-;generalize w5.heap.size=yb at hy |-;have HY:Hid (∀ w',Keep w6 w'->w'.cell? ⟨yb,0,none⟩=some (.int .i64 b0)/\w'.cell? ⟨yb,1,none⟩=some (.int .i64 b1)/\w'.cell? ⟨yb,2,none⟩=some (.int .i64 b2)/\w'.cell? ⟨yb,3,none⟩=some (.int .i64 b3)/\w'.cell? ⟨yb,4,none⟩=some (.int .i64 b4)/\w'.cell? ⟨yb,5,none⟩=some (.slice bN mN dN)/\w'.cell? ⟨yb,6,none⟩=some (.slice bS mS dS)/\w'.cell? ⟨yb,7,none⟩=some (.int .i64 b5)/\w'.cell? ⟨yb,8,none⟩=some (.int .i64 b6)):=zh (λw' k9=>by have h:=k9.block yb (Array.getElem?_eq_some_iff.1 hy).1;rw[hy]at h;refine⟨?_,?_,?_,?_,?_,?_,?_,?_,?_⟩<;>simp[World.cell?,h]);clear hy;have g9:¬(65536:Int)<(l1:Int):=by have:=uq HN4;have:=uq ho;omega
 obtain⟨p0,p1,p2,p3,p4,p5,p6,p7,p8⟩:=(uq HX) w6 (uq HL6);obtain⟨q0,q1,q2,q3,q4,q5,q6,q7,q8⟩:=(uq HY) w6 (zk _);have HT:=zh ((uq TM) _ _ (uq HK6) (uq HR6));go_wp2_with fail
 (refine(uq HT).mono ?_;rintro e w7 ⟨rfl,hk⟩;have HK7:=zh ((uq HK6).trans hk);clear hk);clear p0 p1 p2 p3 p4 p5 p6 p7 p8;clear q0 q1 q2 q3 q4 q5 q6 q7 q8;go_wp2_with fail
 (refine((uq TA) _ (uq HK7)).mono ?_;rintro e w8 ⟨rfl,hk⟩;have HK8:=zh ((uq HK7).trans hk);clear hk);go_wp2_with fail
 go_ret;exact⟨rfl,uq HK8⟩
theorem nine {w:World} {ds:List D} {us:List Value} (hs:ShL zdo ds) (hr:Rvs w ds us):∃ a0 a1 a2 a3 a4 aN nN cN aS nS cS a5 a6,us= [.int .i64 a0,.int .i64 a1,.int .i64 a2,.int .i64 a3,.int .i64 a4,.slice aN nN cN,.slice aS nS cS,.int .i64 a5,.int .i64 a6]:=by
 simp only[ShL,Sh1,zdo]at hs;obtain⟨_,_,rfl,⟨v0,rfl,_⟩,⟨_,_,rfl,⟨v1,rfl,_⟩,⟨_,_,rfl,⟨v2,rfl,_⟩,⟨_,_,rfl,⟨v3,rfl,_⟩,⟨_,_,rfl,⟨v4,rfl,_⟩,⟨_,_,rfl,⟨L5,rfl,_⟩,⟨_,_,rfl,⟨L6,rfl,_⟩,⟨_,_,rfl,⟨v7,rfl,_⟩,⟨_,_,rfl,⟨v8,rfl,_⟩,rfl⟩⟩⟩⟩⟩⟩⟩⟩⟩:=hs;simp only[Rvs,Rv,dI]at hr;obtain⟨_,_,rfl,rfl,_,_,rfl,rfl,_,_,rfl,rfl,_,_,rfl,rfl,_,_,rfl,rfl,_,_,rfl,⟨x5,z5,rfl,_⟩,_,_,rfl,⟨x6,z6,rfl,_⟩,_,_,rfl,rfl,_,_,rfl,rfl,rfl⟩:=hr;exact⟨_,_,_,_,_,_,_,_,_,_,_,_,_,rfl⟩
theorem zsE {w:World} {ds:List D} {us:List Value} (hs:ShL zdo ds) (hr:Rvs w ds us) (ht:Tab w) (hg:Gl w):Calls Tryz.prog 3 #[.agg us.toArray] w λe w'=>e= .returned (.bool true)/\Below w.heap.size w w':=by
 have TF:∀ w',Keep w w'->Calls Tryz.prog 5 #[.agg us.toArray] w' (Ak w'):=λw' k=>zo4 hs (Rvs.keep k _ _ hr)
 have TS:∀ w',Keep w w'->Calls Tryz.prog 6 #[.agg us.toArray] w' _:=λw' k=>shq hs (Rvs.keep k _ _ hr) (ht.keep k)
 have TA:∀ w',Keep w w'->Calls Tryz.prog 8 #[] w' λe w''=>e= .returned (.bool true)/\Keep w' w'':=λw' k=>zj8 w' (ht.keep k)
 have TR:∀ w',Keep w w'->Calls Tryz.prog 7 #[.agg us.toArray] w' λe w''=>e= .returned (.bool (zei ds))/\Keep w' w'':=λw' k=>zcY hs (Rvs.keep k _ _ hr)
 have TP:∀ w' v,Keep w w'->By w' v (txt ds)->Calls Tryz.prog 9 #[v] w' (PQ (tr (N (txt ds))) (nE (N (txt ds))) (nP (N (txt ds))) w'):=λw' v k hb=>zkE v (txt ds) w' hb (hg.keep k)
 have hr0:=hr;obtain⟨a0,a1,a2,a3,a4,aN,nN,cN,aS,nS,cS,a5,a6,rfl⟩:=nine hs hr;cases hB:zei ds with
 |false=>
  rw[hB]at TS TR;exact bad a0 a1 a2 a3 a4 aN nN cN aS nS cS a5 a6 [] (zh rfl) w (zh TF) (zh TS) (zh TA) (zh TR)
 |true=>
  rw[hB]at TS;by_cases hl:(txt ds).length<=65536
  ·obtain⟨cs,hN,hZ⟩:=zlq hs hB hl;have hcs:=zl5 hN;rw[hN]at TP;refine zsD a0 a1 a2 a3 a4 aN nN cN aS nS cS a5 a6 _ cs _ (zh hl) w (zh TF) (zh TS) (zh TA) (zh TP) (zh λw' vs k hv=>?_);obtain⟨r,h1,h2⟩:=zeP (zrn hs hB) hcs (Rvs.keep k _ _ hr0) hv;have:=h2 w' (zk _);rw[h1.2 hZ.symm]at this;exact this
  ·rw[zhq (by omega)]at TP;exact zsC a0 a1 a2 a3 a4 aN nN cN aS nS cS a5 a6 _ _ _ (zh (Nat.lt_of_not_le hl)) w (zh TF) (zh TS) (zh TA) (zh TP)
theorem zpu:laidOutB Tryz.prog=true:=by kernel_rfl
theorem own:ownKnob Tryz.prog.godebug=none:=by kernel_rfl
theorem et:Tryz.prog.globalNamed "errors.errorType" =some 0:=by kernel_rfl
theorem rt:(Tryz.prog.cutTypes.find? (·.1== "internal/reflectlite.rtype")).map (·.2)=some 173:=by kernel_rfl
theorem zrL:((List.range 294).filter λt=>Tryz.prog.rowNamed t [101,114,114,111,114])= [62]:=by kernel_rfl
theorem zsF:Tryz.prog.types.size=294:=by kernel_rfl
theorem zsG {W:World} (h:laidMetH Tryz.prog Rows.showBackRow.laid W):Gl W:=by
 have h':laidMet Tryz.prog [("math/bits.deBruijn32tab",Rows.laid_math_bits_deBruijn32tab),("math/bits.deBruijn64tab",Rows.laid_math_bits_deBruijn64tab),("internal/strconv.uint64pow10",Rows.laid_internal_strconv_uint64pow10)] W/\handlesMet Tryz.prog [("errors.errorType",Rows.laid_errors_errorType)] W:=h;obtain⟨name,u,ty,e1,e2,e3,e4,e5⟩:=h'.2 ("errors.errorType",Rows.laid_errors_errorType) (.head _);have en:name= [101,114,114,111,114]:=(Option.some.inj e1).symm;subst en;obtain rfl:=Option.some.inj (rt.symm.trans e2);have hm:ty∈(List.range 294).filter λt=>Tryz.prog.rowNamed t [101,114,114,111,114]:=List.mem_filter.2 ⟨List.mem_range.2 (by rw[<- zsF];exact e3),e4⟩
 rw[zrL]at hm;obtain rfl:=List.mem_singleton.1 hm;have hh:typeHandle Tryz.prog 62= .pointer (some ⟨5,62,none⟩):=by kernel_rfl
 rw[hh]at e5;simpa [Gl]using World.var?_cell et e5 0
theorem zrM {W:World} (h:laidMetH Tryz.prog Rows.showBackRow.laid W):Tab W:=by
 have h'':laidMet Tryz.prog [("math/bits.deBruijn32tab",Rows.laid_math_bits_deBruijn32tab),("math/bits.deBruijn64tab",Rows.laid_math_bits_deBruijn64tab),("internal/strconv.uint64pow10",Rows.laid_internal_strconv_uint64pow10)] W/\handlesMet Tryz.prog [("errors.errorType",Rows.laid_errors_errorType)] W:=h;have h':=h''.1;obtain⟨g,t,cs,fuel,p,hg,ht,hv,hd⟩:=Lib.laidMet.reads h' (n:= "internal/strconv.uint64pow10") (d:=Rows.laid_internal_strconv_uint64pow10) (.tail _ (.tail _ (.head _)));have hg2:Tryz.prog.globalNamed "internal/strconv.uint64pow10" =some 1:=by kernel_rfl
 obtain rfl:g=1:=(Option.some.inj (hg2.symm.trans hg)).symm;have ht2:(Tryz.prog.globals[1]?).map (·.type)=some 256:=by kernel_rfl
 obtain rfl:t=256:=(Option.some.inj (ht2.symm.trans ht)).symm;have e:(Rows.laid_internal_strconv_uint64pow10:DataW Unit)=Lib.tabData .u64 Lib.pow10Tab:=by rfl
 rw[e]at hd;have hc:=Lib.cells_of_tab Tryz.underlying256 Tryz.underlying228 (by kernel_rfl) (by kernel_rfl) hd;unfold Tab Lib.TabIs
 rw[hv,<- hc]
noncomputable def zgm (os:Os):World:=
 let w0:=World.doorLaid Tryz.prog 24 os
 { w0 with heap:=w0.heap.modify 0 fun
   | .cells _ t frozen=> .cells #[.iface 173 (.agg #[.pointer (some ⟨5,62,none⟩)])] t frozen
   |o=>o }
theorem zlZ (os:Os) (args:Array Value):laidMetH Tryz.prog Rows.showBackRow.laid ((zgm os).forCall (λ_ _=>0) ⟨#[],args,[]⟩).memory:=
 laidMetH_of_parts3 (fuel:=8) (laidMet_of_run' 8 (by kernel_rfl) (by kernel_rfl)) (by kernel_rfl) (by kernel_rfl)
set_option maxHeartbeats 400000 in
set_option maxRecDepth 100000 in
theorem zrN (os:Os) (started:os.Started) (H:Type) (enc:TypeId×Value->H):
  ReturnsInHanded {} Tryz.checked os 3 .any (λw args=>(Rows.showBackSpec.pre enc Tryz.prog Tryz.f3 [] false w args/\laidMetH Tryz.prog Rows.showBackRow.laid w)/\sizedMet enc Tryz.prog Tryz.f3 (OpenSpec.ofChange Rows.showBackSpec) false w args)
   (Rows.showBackSpec.post enc Tryz.prog Tryz.f3 false true false false):=by
 refine returnsInHanded_of_change_and (C:=Tryz.checked) (X:=λw _=>laidMetH Tryz.prog Rows.showBackRow.laid w) (λ_ _ _ hh h=>h.of_heap hh) own started (by kernel_rfl) Tryz.func3
  (ChangeSpec.witness_shaped (enc:=enc) (C:=Tryz.checked) (os:=os) (X:=λw _=>laidMetH Tryz.prog Rows.showBackRow.laid w) false (zgm os) #[.agg #[.int .i64 0,.int .i64 0,.int .i64 0,.int .i64 0,.int .i64 0,.slice none 0 0,.slice none 0 0,.int .i64 0,.int .i64 0]] 8 rfl (World.shaped_of_RefB (by kernel_rfl) (by kernel_rfl)) (by kernel_rfl) (by kernel_rfl) (by kernel_rfl) (zlZ os _)) ?_
 intro W base args ds gs before hval0 hW _ _ hL _
 have hval:∀(j:Nat) t v,Tryz.f3.params[j]? =some t->args[j]? =some v->Value.okWide Tryz.prog W .any base t v:=hval0;have hW':=hW;obtain⟨p,q,hA0,hV,rfl,hfz,hnd⟩:=hW;have hA:DataW.TrodAll enc Tryz.prog W 0 (λ_=>true) true Tryz.f3.params.toList args.toList ds p:=hA0;rw[Tryz.params3]at hA hval;obtain⟨v0,vs0,d0,ds0,p0,q0,hargs,rfl,rfl,h0,r0⟩:=trodAll_cons hA;obtain⟨rfl,rfl,rfl⟩:=trodAll_nil r0;obtain rfl:args=#[v0]:=by cases args;simp_all
 obtain⟨rfl,rfl⟩:=trodVars_none hV;have k0:=h0;have lt0:∀ x∈p0,x.block<W.heap.size:=by obtain⟨m,hm⟩:=k0;exact DataW.trod_lt m _ _ _ hm
 obtain⟨es0,us0,rfl,s0,x0⟩:=zgu Tryz.underlying27 S.net_desc (hval 0 27 v0 rfl rfl) h0;clear h0;clear hA0 hval0;refine(zsE s0 x0 (zrM hL) (zsG hL)).mono λe W' ⟨he,bel⟩=>?_
 subst he;exact⟨_,rfl,_,_,_,[],_,[],hW',trodAll_mk1 (shut_bool Tryz.underlying4 _),(trodAll_cons_mk (Below.trod zpu (by kernel_rfl) (of_decide_eq_true (by kernel_rfl)) k0 bel lt0) trodAll_mk0),rfl,bel.frame _,λh=>by cases h⟩
theorem over:Rows.showBackRow.holds Tryz.pinned (OpenSpec.ofChange Rows.showBackSpec):=
 OpenClaim.holds_of_wide 3 Tryz.f3 rfl rfl rfl rfl rfl rfl rfl ⟨rfl,rfl,rfl,rfl,rfl⟩ rfl rfl rfl rfl rfl (by kernel_rfl) Tryz.func3 (by kernel_rfl)
  (of_decide_eq_true (by kernel_rfl)) (by unfold Func.isWrapper;first|(rw[if_pos (by decide+kernel)];kernel_rfl)|(rw[if_neg (by decide+kernel)];exact⟨rfl,rfl⟩))
  (λos started H enc _=>zrN os started H enc)
theorem card:Claim7.holds Tryz.pinned (.plain (OpenSpec.ofChange Rows.showBackSpec)) Rows.showBackCard:=
 Claim7.holds_tied_plain_at .later [] [.data,.data,.data,.handle] true _ true
  over (λ_ h=>by cases h) (by kernel_rfl) (λ_ h=>by cases h) showBack_row_tie rfl ⟨rfl,rfl⟩ (by kernel_rfl) rfl
  (λf fn hf hfn=>by
   obtain rfl:f=3:=Option.some.inj ((show Tryz.prog.funcNamed Rows.showBackRow.func=some 3 by kernel_rfl).symm.trans hf) |>.symm;obtain rfl:fn=Tryz.f3:=(Option.some.inj (Tryz.func3.symm.trans hfn)).symm;exact⟨by kernel_rfl,λj t ht=>by
    rw[Tryz.params3]at ht;have hm:t∈ [27]:=by simpa using Array.mem_of_getElem? ht
    have hall:([27].all λu=> !Tryz.prog.wantsStandIn u)=true:=by kernel_rfl
    exact(show Tryz.prog.wantsStandIn t=false by simpa using List.all_eq_true.1 hall t hm)⟩)
  (by kernel_rfl)
end Go.Proofs.YthceiikgecoimaaGreatDoor.bck
namespace Go.Proofs.YthceiikgecoimaaGreatDoor
theorem ShowBack_holds:Rows.ShowBackCardSaid:=bck.card
end Go.Proofs.YthceiikgecoimaaGreatDoor
