/- ShowRead: what is read has a text, that is read as the same, and has itself for a text. For every text (those of more than 6000 bytes are let by) the law's call returns true, and the text reads behind it as it read before. -/
import Derived.Test.YthceiikgecoimaaGreatDoorCards
import Derived.Test.YthceiikgecoimaaGreatDoorTie
import Derived.Test.YthceiikgecoimaaGreatDoorNThe
import Derived.Test.YthceiikgecoimaaGreatDoorSFwN
import Derived.Test.YthceiikgecoimaaGreatDoorLVal
import Derived.Test.YthceiikgecoimaaGreatDoorSBack
import Derived.Deep.DrawnRows
import Derived.Deep.RegionHeld
import Derived.Test.YthceiikgecoimaaGreatDoorNTr
import Derived.LaidLaws
import Derived.LaidHandle
import Derived.LaidMore
import Derived.SevenTiedAt
namespace Go.Proofs.YthceiikgecoimaaGreatDoor.shr
open Go.ChangeShapes Go.WideShapes Go.ChangeAt Go.RowKit
open Go.WideMaps Go.WideElems
attribute [local go_sem ↓] Go.wp_at_zero Go.wp_at_succ
set_option linter.unusedVariables false
set_option linter.unusedSimpArgs false
set_option maxRecDepth 10000
open S
def ShQ (E:Int) (o:List UInt8) (w:World) (e:Ending) (w':World):Prop:=∃ a n c,e= .returned (.tuple #[.slice a n c,.int .i64 E])/\n=o.length/\By w' (.slice a n c) o/\Keep w w'
theorem shq {w:World} {ds:List D} {us:List Value} (hs:ShL zeI ds) (hr:Rvs w ds us) (ht:Tab w):Calls Tryz.prog 6 #[.agg us.toArray] w (ShQ (if ze3 ds then 0 else 1) (if ze3 ds then txt ds else []) w):=by
 cases hB:ze3 ds with
 |false=>
  refine(zln hs hB hr).mono ?_;rintro e w' ⟨rfl,hk⟩;exact⟨none,0,0,rfl,rfl,⟨none,0,rfl,Nat.le_refl _,λk hk=>by simp at hk⟩,hk⟩
 |true=>
  refine(zht hs hB hr ht).mono ?_;rintro e w' ⟨v,rfl,hb,hk⟩;obtain⟨a,cap,rfl⟩:=hb.shape;exact⟨a,_,cap,rfl,rfl,hb,hk⟩
theorem zku (v:Value) (l:List UInt8) (w:World) (hb:By w v l) (hg:Gl w):Calls Tryz.prog 9 #[v] w (PQ (tr (N l)) (nE (N l)) (nP (N l)) w):=by
 by_cases hl:l.length<=65536
 ·exact zrL (zkt v l w hl hb hg)
 ·have eN:=zlj (l:=l) (by omega);have eT:T l= .error (4,65536):=by unfold T;rw[if_pos (by omega)]
  refine zrL ?_;rw[eN];refine zgo v (4,65536) w (zh hg) (zh λw' hk=>?_);refine zhC v (4,65536) w' (by decide) (zh λw'' hk2=>?_);have:=zhq v l w'' ((hb.keep hk).keep hk2);rwa[eT]at this
set_option maxHeartbeats 1000000 in
theorem zs7 (a:Option Addr) (n c:Nat) (w:World) (hn:6000<n):Calls Tryz.prog 4 #[.slice a n c] w λe w'=>e= .returned (.bool true)/\w'=w:=by
 have g:(6000:Int)<(n:Int):=by omega
 go_enter Tryz.func4,Tryz.ntmps4;go_wp2_with fail
 go_ret;exact⟨rfl,rfl⟩
set_option maxHeartbeats 8000000 in
theorem zpr (E:Int) (g1:(E !=0)=true) (a:Option Addr) (n c:Nat) (l:List UInt8) (cs:List D) (P:Int) (w:World) (hn:n<=6000) (HB:Hid (By w (.slice a n c) l))
  (TP:Hid (∀ w' v,Keep w w'->By w' v l->Calls Tryz.prog 9 #[v] w' (PQ cs E P w')))
  (TA:Hid (∀ w',Keep w w'->Calls Tryz.prog 8 #[] w' λe w''=>e= .returned (.bool true)/\Keep w' w'')):
  Calls Tryz.prog 4 #[.slice a n c] w λe w'=>e= .returned (.bool true)/\Keep w w':=by
 have g:¬(6000:Int)<(n:Int):=by omega
 go_enter Tryz.func4,Tryz.ntmps4;go_wp2_with fail
 (refine((uq TP) _ _ (zk _) (uq HB)).mono ?_;rintro e w1 ⟨hk,a0,a1,a2,a3,a4,aN,nN,cN,aS,nS,cS,a5,a6,rfl,hr⟩;have HR1:=zh hr;have HK1:=zh hk;clear hk hr);unfold nv at HR1
 go_upto_region 4 with fail
 have HK2:=zh ((uq HK1).alloc (.cells #[.int .i64 a0,.int .i64 a1,.int .i64 a2,.int .i64 a3,.int .i64 a4,.slice aN nN cN,.slice aS nS cS,.int .i64 a5,.int .i64 a6] 27));have hx:=heap_alloc_new w1 (.cells #[.int .i64 a0,.int .i64 a1,.int .i64 a2,.int .i64 a3,.int .i64 a4,.slice aN nN cN,.slice aS nS cS,.int .i64 a5,.int .i64 a6] 27);have HR2:=zh (Rvs.keep ((zk w1).alloc (.cells #[.int .i64 a0,.int .i64 a1,.int .i64 a2,.int .i64 a3,.int .i64 a4,.slice aN nN cN,.slice aS nS cS,.int .i64 a5,.int .i64 a6] 27)) _ _ (uq HR1));generalize w1.alloc (.cells #[.int .i64 a0,.int .i64 a1,.int .i64 a2,.int .i64 a3,.int .i64 a4,.slice aN nN cN,.slice aS nS cS,.int .i64 a5,.int .i64 a6] 27)=w2 at HK2 hx HR2 |-;generalize w1.heap.size=xb at hx |-;have HX:Hid (∀ w',Keep w2 w'->w'.cell? ⟨xb,0,none⟩=some (.int .i64 a0)/\w'.cell? ⟨xb,1,none⟩=some (.int .i64 a1)/\w'.cell? ⟨xb,2,none⟩=some (.int .i64 a2)/\w'.cell? ⟨xb,3,none⟩=some (.int .i64 a3)/\w'.cell? ⟨xb,4,none⟩=some (.int .i64 a4)/\w'.cell? ⟨xb,5,none⟩=some (.slice aN nN cN)/\w'.cell? ⟨xb,6,none⟩=some (.slice aS nS cS)/\w'.cell? ⟨xb,7,none⟩=some (.int .i64 a5)/\w'.cell? ⟨xb,8,none⟩=some (.int .i64 a6)):=zh (λw' k9=>by have h:=k9.block xb (Array.getElem?_eq_some_iff.1 hx).1;rw[hx]at h;refine⟨?_,?_,?_,?_,?_,?_,?_,?_,?_⟩<;>simp[World.cell?,h]);clear hx;go_wp2_with fail
 (refine((uq TA) _ (uq HK2)).mono ?_;rintro e w3 ⟨rfl,hk⟩;have HKz:=zh ((uq HK2).trans hk);clear hk);go_wp2_with fail
 go_ret;exact⟨rfl,uq HKz⟩
set_option maxHeartbeats 8000000 in
theorem zs8 (o:List UInt8) (ho:Hid (65536<o.length)) (a:Option Addr) (n c:Nat) (l:List UInt8) (cs:List D) (P:Int) (w:World) (hn:n<=6000) (HB:Hid (By w (.slice a n c) l))
  (TP:Hid (∀ w' v,Keep w w'->By w' v l->Calls Tryz.prog 9 #[v] w' (PQ cs 0 P w')))
  (TA:Hid (∀ w',Keep w w'->Calls Tryz.prog 8 #[] w' λe w''=>e= .returned (.bool true)/\Keep w' w''))
  (TS:Hid (∀ w' us,Keep w w'->Rvs w' cs us->Calls Tryz.prog 6 #[.agg us.toArray] w' (ShQ 0 o w'))):
  Calls Tryz.prog 4 #[.slice a n c] w λe w'=>e= .returned (.bool true)/\Keep w w':=by
 have g:¬(6000:Int)<(n:Int):=by omega
 go_enter Tryz.func4,Tryz.ntmps4;go_wp2_with fail
 (refine((uq TP) _ _ (zk _) (uq HB)).mono ?_;rintro e w1 ⟨hk,a0,a1,a2,a3,a4,aN,nN,cN,aS,nS,cS,a5,a6,rfl,hr⟩;have HR1:=zh hr;have HK1:=zh hk;clear hk hr);unfold nv at HR1
 go_upto_region 4 with fail
 have HK2:=zh ((uq HK1).alloc (.cells #[.int .i64 a0,.int .i64 a1,.int .i64 a2,.int .i64 a3,.int .i64 a4,.slice aN nN cN,.slice aS nS cS,.int .i64 a5,.int .i64 a6] 27));have hx:=heap_alloc_new w1 (.cells #[.int .i64 a0,.int .i64 a1,.int .i64 a2,.int .i64 a3,.int .i64 a4,.slice aN nN cN,.slice aS nS cS,.int .i64 a5,.int .i64 a6] 27);have HR2:=zh (Rvs.keep ((zk w1).alloc (.cells #[.int .i64 a0,.int .i64 a1,.int .i64 a2,.int .i64 a3,.int .i64 a4,.slice aN nN cN,.slice aS nS cS,.int .i64 a5,.int .i64 a6] 27)) _ _ (uq HR1));generalize w1.alloc (.cells #[.int .i64 a0,.int .i64 a1,.int .i64 a2,.int .i64 a3,.int .i64 a4,.slice aN nN cN,.slice aS nS cS,.int .i64 a5,.int .i64 a6] 27)=w2 at HK2 hx HR2 |-;generalize w1.heap.size=xb at hx |-;have HX:Hid (∀ w',Keep w2 w'->w'.cell? ⟨xb,0,none⟩=some (.int .i64 a0)/\w'.cell? ⟨xb,1,none⟩=some (.int .i64 a1)/\w'.cell? ⟨xb,2,none⟩=some (.int .i64 a2)/\w'.cell? ⟨xb,3,none⟩=some (.int .i64 a3)/\w'.cell? ⟨xb,4,none⟩=some (.int .i64 a4)/\w'.cell? ⟨xb,5,none⟩=some (.slice aN nN cN)/\w'.cell? ⟨xb,6,none⟩=some (.slice aS nS cS)/\w'.cell? ⟨xb,7,none⟩=some (.int .i64 a5)/\w'.cell? ⟨xb,8,none⟩=some (.int .i64 a6)):=zh (λw' k9=>by have h:=k9.block xb (Array.getElem?_eq_some_iff.1 hx).1;rw[hx]at h;refine⟨?_,?_,?_,?_,?_,?_,?_,?_,?_⟩<;>simp[World.cell?,h]);clear hx;obtain⟨p0,p1,p2,p3,p4,p5,p6,p7,p8⟩:=(uq HX) w2 (zk _);have HT:=zh ((uq TS) _ _ (uq HK2) (uq HR2));go_wp2_with fail
 (refine(uq HT).mono ?_;rintro e w4 ⟨s1,l1,c1,rfl,hn,hb,hk⟩;have HB4:=zh hb;have HN4:=zh hn;have HM4:=zh hk;have HK4:=zh ((uq HK2).trans hk);clear hk hb hn);clear p0 p1 p2 p3 p4 p5 p6 p7 p8;have g9:(65536:Int)<(l1:Int):=by have:=uq HN4;have:=uq ho;omega
 go_wp2_with fail
 (refine((uq TA) _ (uq HK4)).mono ?_;rintro e w5 ⟨rfl,hk⟩;have HKz:=zh ((uq HK4).trans hk);clear hk);go_wp2_with fail
 go_ret;exact⟨rfl,uq HKz⟩
set_option maxHeartbeats 16000000 in
theorem zsG (o:List UInt8) (S:ByteArray) (HSS:Hid (sv o=S)) (es:List D) (P2:Int) (ho:Hid (o.length<=65536)) (a:Option Addr) (n c:Nat) (l:List UInt8) (cs:List D) (P:Int) (w:World) (hn:n<=6000) (HB:Hid (By w (.slice a n c) l))
  (TP:Hid (∀ w' v,Keep w w'->By w' v l->Calls Tryz.prog 9 #[v] w' (PQ cs 0 P w')))
  (TA:Hid (∀ w',Keep w w'->Calls Tryz.prog 8 #[] w' λe w''=>e= .returned (.bool true)/\Keep w' w''))
  (TS:Hid (∀ w' us,Keep w w'->Rvs w' cs us->Calls Tryz.prog 6 #[.agg us.toArray] w' (ShQ 0 o w')))
  (TP2:Hid (∀ w' v,Keep w w'->By w' v o->Calls Tryz.prog 9 #[v] w' (PQ es 0 P2 w')))
  (TS2:Hid (∀ w' us,Keep w w'->Rvs w' es us->Calls Tryz.prog 6 #[.agg us.toArray] w' (ShQ 0 o w')))
  (TM:Hid (∀ w' us vs,Keep w w'->Rvs w' cs us->Rvs w' es vs->Calls Tryz.prog 10 #[.agg us.toArray,.agg vs.toArray,.bool false] w' λe w''=>e= .returned (.bool true)/\Keep w' w'')):
  Calls Tryz.prog 4 #[.slice a n c] w λe w'=>e= .returned (.bool true)/\Keep w w':=by
 have g:¬(6000:Int)<(n:Int):=by omega
 go_enter Tryz.func4,Tryz.ntmps4;go_wp2_with fail
 (refine((uq TP) _ _ (zk _) (uq HB)).mono ?_;rintro e w1 ⟨hk,a0,a1,a2,a3,a4,aN,nN,cN,aS,nS,cS,a5,a6,rfl,hr⟩;have HR1:=zh hr;have HK1:=zh hk;clear hk hr);unfold nv at HR1
 go_upto_region 4 with fail
 have HK2:=zh ((uq HK1).alloc (.cells #[.int .i64 a0,.int .i64 a1,.int .i64 a2,.int .i64 a3,.int .i64 a4,.slice aN nN cN,.slice aS nS cS,.int .i64 a5,.int .i64 a6] 27));have hx:=heap_alloc_new w1 (.cells #[.int .i64 a0,.int .i64 a1,.int .i64 a2,.int .i64 a3,.int .i64 a4,.slice aN nN cN,.slice aS nS cS,.int .i64 a5,.int .i64 a6] 27);have HR2:=zh (Rvs.keep ((zk w1).alloc (.cells #[.int .i64 a0,.int .i64 a1,.int .i64 a2,.int .i64 a3,.int .i64 a4,.slice aN nN cN,.slice aS nS cS,.int .i64 a5,.int .i64 a6] 27)) _ _ (uq HR1));generalize w1.alloc (.cells #[.int .i64 a0,.int .i64 a1,.int .i64 a2,.int .i64 a3,.int .i64 a4,.slice aN nN cN,.slice aS nS cS,.int .i64 a5,.int .i64 a6] 27)=w2 at HK2 hx HR2 |-;generalize w1.heap.size=xb at hx |-;have HX:Hid (∀ w',Keep w2 w'->w'.cell? ⟨xb,0,none⟩=some (.int .i64 a0)/\w'.cell? ⟨xb,1,none⟩=some (.int .i64 a1)/\w'.cell? ⟨xb,2,none⟩=some (.int .i64 a2)/\w'.cell? ⟨xb,3,none⟩=some (.int .i64 a3)/\w'.cell? ⟨xb,4,none⟩=some (.int .i64 a4)/\w'.cell? ⟨xb,5,none⟩=some (.slice aN nN cN)/\w'.cell? ⟨xb,6,none⟩=some (.slice aS nS cS)/\w'.cell? ⟨xb,7,none⟩=some (.int .i64 a5)/\w'.cell? ⟨xb,8,none⟩=some (.int .i64 a6)):=zh (λw' k9=>by have h:=k9.block xb (Array.getElem?_eq_some_iff.1 hx).1;rw[hx]at h;refine⟨?_,?_,?_,?_,?_,?_,?_,?_,?_⟩<;>simp[World.cell?,h]);clear hx;obtain⟨p0,p1,p2,p3,p4,p5,p6,p7,p8⟩:=(uq HX) w2 (zk _);have HT:=zh ((uq TS) _ _ (uq HK2) (uq HR2));go_wp2_with fail
 (refine(uq HT).mono ?_;rintro e w4 ⟨s1,l1,c1,rfl,hn,hb,hk⟩;have HB4:=zh hb;have HN4:=zh hn;have HM4:=zh hk;have HK4:=zh ((uq HK2).trans hk);clear hk hb hn);clear p0 p1 p2 p3 p4 p5 p6 p7 p8;have g9:¬(65536:Int)<(l1:Int):=by have:=uq HN4;have:=uq ho;omega
 go_wp2_with fail
 (refine((uq TP2) _ _ (uq HK4) (uq HB4)).mono ?_;rintro e w5 ⟨hk,b0,b1,b2,b3,b4,bN,mN,dN,bS,mS,dS,b5,b6,rfl,hr⟩;have HR5:=zh hr;have HM5:=zh hk;have HK5:=zh ((uq HK4).trans hk);clear hk hr);unfold nv at HR5
 go_upto_region 10 with fail
 have HK6:=zh ((uq HK5).alloc (.cells #[.int .i64 b0,.int .i64 b1,.int .i64 b2,.int .i64 b3,.int .i64 b4,.slice bN mN dN,.slice bS mS dS,.int .i64 b5,.int .i64 b6] 27));have HM6:=zh ((uq HM5).alloc (.cells #[.int .i64 b0,.int .i64 b1,.int .i64 b2,.int .i64 b3,.int .i64 b4,.slice bN mN dN,.slice bS mS dS,.int .i64 b5,.int .i64 b6] 27));have hy:=heap_alloc_new w5 (.cells #[.int .i64 b0,.int .i64 b1,.int .i64 b2,.int .i64 b3,.int .i64 b4,.slice bN mN dN,.slice bS mS dS,.int .i64 b5,.int .i64 b6] 27);have HR6:=zh (Rvs.keep ((zk w5).alloc (.cells #[.int .i64 b0,.int .i64 b1,.int .i64 b2,.int .i64 b3,.int .i64 b4,.slice bN mN dN,.slice bS mS dS,.int .i64 b5,.int .i64 b6] 27)) _ _ (uq HR5));generalize w5.alloc (.cells #[.int .i64 b0,.int .i64 b1,.int .i64 b2,.int .i64 b3,.int .i64 b4,.slice bN mN dN,.slice bS mS dS,.int .i64 b5,.int .i64 b6] 27)=w6 at HK6 HM6 hy HR6 |-;generalize w5.heap.size=yb at hy |-;have HY:Hid (∀ w',Keep w6 w'->w'.cell? ⟨yb,0,none⟩=some (.int .i64 b0)/\w'.cell? ⟨yb,1,none⟩=some (.int .i64 b1)/\w'.cell? ⟨yb,2,none⟩=some (.int .i64 b2)/\w'.cell? ⟨yb,3,none⟩=some (.int .i64 b3)/\w'.cell? ⟨yb,4,none⟩=some (.int .i64 b4)/\w'.cell? ⟨yb,5,none⟩=some (.slice bN mN dN)/\w'.cell? ⟨yb,6,none⟩=some (.slice bS mS dS)/\w'.cell? ⟨yb,7,none⟩=some (.int .i64 b5)/\w'.cell? ⟨yb,8,none⟩=some (.int .i64 b6)):=zh (λw' k9=>by have h:=k9.block yb (Array.getElem?_eq_some_iff.1 hy).1;rw[hy]at h;refine⟨?_,?_,?_,?_,?_,?_,?_,?_,?_⟩<;>simp[World.cell?,h]);clear hy;obtain⟨q0,q1,q2,q3,q4,q5,q6,q7,q8⟩:=(uq HY) w6 (zk _);have HT2:=zh ((uq TS2) _ _ (uq HK6) (uq HR6));go_wp2_with fail
 (refine(uq HT2).mono ?_;rintro e w7 ⟨s2,l2,c2,rfl,hn,hb,hk⟩;have HB7:=zh hb;have HM7:=zh hk;have HN7:=zh hn;have HK7:=zh ((uq HK6).trans hk);clear hk hb hn);clear q0 q1 q2 q3 q4 q5 q6 q7 q8;have HA7:=zh (((uq HM4).trans (uq HM6)).trans (uq HM7));obtain⟨p0,p1,p2,p3,p4,p5,p6,p7,p8⟩:=(uq HX) w7 (uq HA7);obtain⟨q0,q1,q2,q3,q4,q5,q6,q7,q8⟩:=(uq HY) w7 (uq HM7);have HT3:=zh ((uq TM) _ _ _ (uq HK7) (Rvs.keep (uq HA7) _ _ (uq HR2)) (Rvs.keep (uq HM7) _ _ (uq HR6)));go_wp2_with fail
 (refine(uq HT3).mono ?_;rintro e w8 ⟨rfl,hk⟩;have HM8:=zh hk;have HK8:=zh ((uq HK7).trans hk);clear hk);clear p0 p1 p2 p3 p4 p5 p6 p7 p8;clear q0 q1 q2 q3 q4 q5 q6 q7 q8;have cv1:=zjO ((uq HB4).keep (((uq HM6).trans (uq HM7)).trans (uq HM8))) (t:=29) (u:=9) Tryz.underlying29 Tryz.underlying9;have cv2:=zjO ((uq HB7).keep (uq HM8)) (t:=29) (u:=9) Tryz.underlying29 Tryz.underlying9;rw[uq HSS]at cv1 cv2;go_wp2_with fail
 (refine((uq TA) _ (uq HK8)).mono ?_;rintro e w9 ⟨rfl,hk⟩;have HKz:=zh ((uq HK8).trans hk);clear hk);go_wp2_with fail
 go_ret;exact⟨rfl,uq HKz⟩
theorem zsH {w:World} {v:Value} {l:List UInt8} (h:By w v l) (ht:Tab w) (hg:Gl w):Calls Tryz.prog 4 #[v] w λe w'=>e= .returned (.bool true)/\Below w.heap.size w w':=by
 obtain⟨a,cap,rfl⟩:=h.shape;have TA:∀ w',Keep w w'->Calls Tryz.prog 8 #[] w' λe w''=>e= .returned (.bool true)/\Keep w' w'':=λw' k=>zjY w' (ht.keep k)
 have TP:∀ l w' v,Keep w w'->By w' v l->Calls Tryz.prog 9 #[v] w' (PQ (tr (N l)) (nE (N l)) (nP (N l)) w'):=λl w' v k hb=>zku v l w' hb (hg.keep k)
 by_cases hl:6000<l.length
 ·refine(zs7 a l.length cap w hl).mono ?_;rintro e w' ⟨rfl,rfl⟩;exact⟨rfl,zk _⟩
 ·have TP1:=TP l;cases hN:N l with
  |error x=>
   rw[hN]at TP1;exact zpr x.1 (by have:=zs6 hN;simpa using this) a l.length cap l _ _ w (by omega) (zh h) (zh TP1) (zh TA)
  |ok cs=>
   rw[hN]at TP1;obtain⟨hs,hB⟩:=zdf hN;have TS:∀ w' us,Keep w w'->Rvs w' cs us->Calls Tryz.prog 6 #[.agg us.toArray] w' (ShQ 0 (txt cs) w'):=λw' us k hr=>by
    have:=shq hs hr (ht.keep k);rwa[hB]at this
   by_cases hc:(txt cs).length<=65536
   ·obtain⟨es,hE,hZ⟩:=zli hs hB hc;obtain⟨he,hC⟩:=zdf hE;have TP2:=TP (txt cs);rw[hE]at TP2;have hT:txt es=txt cs:=zrk he hs hZ;have TS2:∀ w' us,Keep w w'->Rvs w' es us->Calls Tryz.prog 6 #[.agg us.toArray] w' (ShQ 0 (txt cs) w'):=λw' us k hr=>by
     have:=shq he hr (ht.keep k);rw[hC,hT]at this;exact this
    refine zsG (txt cs) (sv (txt cs)) (zh rfl) es _ (zh hc) a l.length cap l cs _ w (by omega) (zh h) (zh TP1) (zh TA) (zh TS) (zh TP2) (zh TS2) (zh λw' us vs k h1 h2=>?_);obtain⟨r,g1,g2⟩:=zeW (ziQ hN) (ziQ hE) h1 h2;have:=g2 w' (zk _);rw[g1.2 hZ.symm]at this;exact this
   ·exact zs8 (txt cs) (zh (Nat.lt_of_not_le hc)) a l.length cap l cs _ w (by omega) (zh h) (zh TP1) (zh TA) (zh TS)
theorem zps:laidOutB Tryz.prog=true:=by kernel_rfl
theorem own:ownKnob Tryz.prog.godebug=none:=by kernel_rfl
theorem et:Tryz.prog.globalNamed "errors.errorType" =some 0:=by kernel_rfl
theorem rt:(Tryz.prog.cutTypes.find? (·.1== "internal/reflectlite.rtype")).map (·.2)=some 173:=by kernel_rfl
theorem zrM:((List.range 294).filter λt=>Tryz.prog.rowNamed t [101,114,114,111,114])= [62]:=by kernel_rfl
theorem zsI:Tryz.prog.types.size=294:=by kernel_rfl
theorem zsJ {W:World} (h:laidMetH Tryz.prog Rows.showReadRow.laid W):Gl W:=by
 have h':laidMet Tryz.prog [("math/bits.deBruijn32tab",Rows.laid_math_bits_deBruijn32tab),("math/bits.deBruijn64tab",Rows.laid_math_bits_deBruijn64tab),("internal/strconv.uint64pow10",Rows.laid_internal_strconv_uint64pow10)] W/\handlesMet Tryz.prog [("errors.errorType",Rows.laid_errors_errorType)] W:=h;obtain⟨name,u,ty,e1,e2,e3,e4,e5⟩:=h'.2 ("errors.errorType",Rows.laid_errors_errorType) (.head _);have en:name= [101,114,114,111,114]:=(Option.some.inj e1).symm;subst en;obtain rfl:=Option.some.inj (rt.symm.trans e2);have hm:ty∈(List.range 294).filter λt=>Tryz.prog.rowNamed t [101,114,114,111,114]:=List.mem_filter.2 ⟨List.mem_range.2 (by rw[<- zsI];exact e3),e4⟩
 rw[zrM]at hm;obtain rfl:=List.mem_singleton.1 hm;have hh:typeHandle Tryz.prog 62= .pointer (some ⟨5,62,none⟩):=by kernel_rfl
 rw[hh]at e5;simpa [Gl]using World.var?_cell et e5 0
theorem zrN {W:World} (h:laidMetH Tryz.prog Rows.showReadRow.laid W):Tab W:=by
 have h'':laidMet Tryz.prog [("math/bits.deBruijn32tab",Rows.laid_math_bits_deBruijn32tab),("math/bits.deBruijn64tab",Rows.laid_math_bits_deBruijn64tab),("internal/strconv.uint64pow10",Rows.laid_internal_strconv_uint64pow10)] W/\handlesMet Tryz.prog [("errors.errorType",Rows.laid_errors_errorType)] W:=h;have h':=h''.1;obtain⟨g,t,cs,fuel,p,hg,ht,hv,hd⟩:=Lib.laidMet.reads h' (n:= "internal/strconv.uint64pow10") (d:=Rows.laid_internal_strconv_uint64pow10) (.tail _ (.tail _ (.head _)));have hg2:Tryz.prog.globalNamed "internal/strconv.uint64pow10" =some 1:=by kernel_rfl
 obtain rfl:g=1:=(Option.some.inj (hg2.symm.trans hg)).symm;have ht2:(Tryz.prog.globals[1]?).map (·.type)=some 256:=by kernel_rfl
 obtain rfl:t=256:=(Option.some.inj (ht2.symm.trans ht)).symm;have e:(Rows.laid_internal_strconv_uint64pow10:DataW Unit)=Lib.tabData .u64 Lib.pow10Tab:=by rfl
 rw[e]at hd;have hc:=Lib.cells_of_tab Tryz.underlying256 Tryz.underlying228 (by kernel_rfl) (by kernel_rfl) hd;unfold Tab Lib.TabIs
 rw[hv,<- hc]
noncomputable def zgr (os:Os):World:=
 let w0:=World.doorLaid Tryz.prog 24 os
 { w0 with heap:=w0.heap.modify 0 fun
   | .cells _ t frozen=> .cells #[.iface 173 (.agg #[.pointer (some ⟨5,62,none⟩)])] t frozen
   |o=>o }
theorem zlT (os:Os) (args:Array Value):laidMetH Tryz.prog Rows.showReadRow.laid ((zgr os).forCall (λ_ _=>0) ⟨#[],args,[]⟩).memory:=
 laidMetH_of_parts3 (fuel:=8) (laidMet_of_run' 8 (by kernel_rfl) (by kernel_rfl)) (by kernel_rfl) (by kernel_rfl)
set_option maxHeartbeats 400000 in
set_option maxRecDepth 100000 in
theorem zrO (os:Os) (started:os.Started) (H:Type) (enc:TypeId×Value->H):
  ReturnsInHanded {} Tryz.checked os 4 .any (λw args=>(Rows.showReadSpec.pre enc Tryz.prog Tryz.f4 [] false w args/\laidMetH Tryz.prog Rows.showReadRow.laid w)/\sizedMet enc Tryz.prog Tryz.f4 (OpenSpec.ofChange Rows.showReadSpec) false w args)
   (Rows.showReadSpec.post enc Tryz.prog Tryz.f4 false true false false):=by
 refine returnsInHanded_of_change_and (C:=Tryz.checked) (X:=λw _=>laidMetH Tryz.prog Rows.showReadRow.laid w) (λ_ _ _ hh h=>h.of_heap hh) own started (by kernel_rfl) Tryz.func4
  (ChangeSpec.witness_shaped (enc:=enc) (C:=Tryz.checked) (os:=os) (X:=λw _=>laidMetH Tryz.prog Rows.showReadRow.laid w) false (zgr os) #[.slice none 0 0] 8 rfl (World.shaped_of_RefB (by kernel_rfl) (by kernel_rfl)) (by kernel_rfl) (by kernel_rfl) (by kernel_rfl) (zlT os _)) ?_
 intro W base args ds gs before hval0 hW _ _ hL _
 have hval:∀(j:Nat) t v,Tryz.f4.params[j]? =some t->args[j]? =some v->Value.okWide Tryz.prog W .any base t v:=hval0;have hW':=hW;obtain⟨p,q,hA0,hV,rfl,hfz,hnd⟩:=hW;have hA:DataW.TrodAll enc Tryz.prog W 0 (λ_=>true) true Tryz.f4.params.toList args.toList ds p:=hA0;rw[Tryz.params4]at hA hval;obtain⟨v0,vs0,d0,ds0,p0,q0,hargs,rfl,rfl,h0,r0⟩:=trodAll_cons hA;obtain⟨rfl,rfl,rfl⟩:=trodAll_nil r0;obtain rfl:args=#[v0]:=by cases args;simp_all
 obtain⟨rfl,rfl⟩:=trodVars_none hV;have k0:=h0;have lt0:∀ x∈p0,x.block<W.heap.size:=by obtain⟨m,hm⟩:=k0;exact DataW.trod_lt m _ _ _ hm
 obtain⟨L0,x0⟩:=zhI Tryz.underlying29 Tryz.underlying5 (by kernel_rfl) (hval 0 29 v0 rfl rfl) h0;clear h0;clear hA0 hval0;refine(zsH x0 (zrN hL) (zsJ hL)).mono λe W' ⟨he,bel⟩=>?_
 subst he;exact⟨_,rfl,_,_,_,[],_,[],hW',trodAll_mk1 (shut_bool Tryz.underlying4 _),(trodAll_cons_mk (Below.trod zps (by kernel_rfl) (of_decide_eq_true (by kernel_rfl)) k0 bel lt0) trodAll_mk0),rfl,bel.frame _,λh=>by cases h⟩
theorem over:Rows.showReadRow.holds Tryz.pinned (OpenSpec.ofChange Rows.showReadSpec):=
 OpenClaim.holds_of_wide 4 Tryz.f4 rfl rfl rfl rfl rfl rfl rfl ⟨rfl,rfl,rfl,rfl,rfl⟩ rfl rfl rfl rfl rfl (by kernel_rfl) Tryz.func4 (by kernel_rfl)
  (of_decide_eq_true (by kernel_rfl)) (by unfold Func.isWrapper;first|(rw[if_pos (by decide+kernel)];kernel_rfl)|(rw[if_neg (by decide+kernel)];exact⟨rfl,rfl⟩))
  (λos started H enc _=>zrO os started H enc)
theorem card:Claim7.holds Tryz.pinned (.plain (OpenSpec.ofChange Rows.showReadSpec)) Rows.showReadCard:=
 Claim7.holds_tied_plain_at .later [] [.data,.data,.data,.handle] true _ true
  over (λ_ h=>by cases h) (by kernel_rfl) (λ_ h=>by cases h) showRead_row_tie rfl ⟨rfl,rfl⟩ (by kernel_rfl) rfl
  (λf fn hf hfn=>by
   obtain rfl:f=4:=Option.some.inj ((show Tryz.prog.funcNamed Rows.showReadRow.func=some 4 by kernel_rfl).symm.trans hf) |>.symm;obtain rfl:fn=Tryz.f4:=(Option.some.inj (Tryz.func4.symm.trans hfn)).symm;exact⟨by kernel_rfl,λj t ht=>by
    rw[Tryz.params4]at ht;have hm:t∈ [29]:=by simpa using Array.mem_of_getElem? ht
    have hall:([29].all λu=> !Tryz.prog.wantsStandIn u)=true:=by kernel_rfl
    exact(show Tryz.prog.wantsStandIn t=false by simpa using List.all_eq_true.1 hall t hm)⟩)
  (by kernel_rfl)
end Go.Proofs.YthceiikgecoimaaGreatDoor.shr
namespace Go.Proofs.YthceiikgecoimaaGreatDoor
theorem ShowRead_holds:Rows.ShowReadCardSaid:=shr.card
end Go.Proofs.YthceiikgecoimaaGreatDoor
