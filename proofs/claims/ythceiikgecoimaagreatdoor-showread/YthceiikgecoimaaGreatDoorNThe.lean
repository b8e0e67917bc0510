/- The chapter's example is shown as it stands. -/
import Derived.Test.YthceiikgecoimaaGreatDoorQLoop
import Derived.Test.YthceiikgecoimaaGreatDoorLVal
import Derived.Test.YthceiikgecoimaaGreatDoorQParse
import Derived.Test.YthceiikgecoimaaGreatDoorLRToks
import Derived.Deep.DrawnRows
import Derived.Deep.RegionHeld
import Derived.Test.YthceiikgecoimaaGreatDoorNVal
import Derived.LoopTactic
import Derived.Deep.DeepCutAuto
namespace Go.Proofs.YthceiikgecoimaaGreatDoor
open Go.RowKit
attribute [local go_sem ↓] Go.wp_at_zero Go.wp_at_succ
set_option linter.unusedVariables false
set_option linter.unusedSimpArgs false
set_option maxRecDepth 100000
namespace S
def smp:List UInt8:= [99,121,99,108,101,32,54,48,48,32,116,111,32,57,48,48,32,98,121,32,49,48,59,10,112,101,97,107,32,49,47,49,59,10,110,111,100,101,32,97,32,123,10,32,32,104,101,97,100,32]++([110,32,118,111,108,117,109,101,32,52,48,48,32,102,108,111,119,32,49,56,48,48,32,117,115,101,32,49,47,49,32,115,112,101,101,100,32,49,53,48,48,32,103,114,97,100,101,32,45,50]++([48,32,119,105,100,116,104,32,49,56,48,48,32,108,101,110,103,116,104,32,54,48,48,32,103,114,101,101,110,32,55,48,59,10,32,32,119,97,108,107,32,119,32,119,105,116,104,32,112,32]++([108,111,110,103,32,49,53,48,48,32,112,97,99,101,32,49,50,48,32,108,101,97,115,116,32,55,48,59,10,32,32,112,104,97,115,101,32,112,58,32,110,44,32,101,59,10,32,32,103,114]++([111,117,112,32,123,10,32,32,32,32,114,105,110,103,32,102,114,101,101,32,112,44,32,113,59,10,32,32,125,10,32,32,102,111,101,32,110,32,101,59,10,125,10,97,114,116,101,114,121,32]++([123,10,32,32,115,116,111,112,32,97,32,111,117,116,32,110,32,105,110,32,101,32,97,104,101,97,100,32,48,32,98,97,99,107,32,48,59,10,32,32,119,101,105,103,104,116,115,32,50,32]++([49,59,10,125,10]))))))
def zlt:List D:= [dI 600,dI 900,dI 10,dI 1,dI 1,.row 45 7 [[dS [97],.row 77 11 [[dS [110],dI 400,dI 1800,dI 1,dI 1,dI 1500,dI (-20),dI 1800,dI 600,dI 70,dI 50]],.row 79 6 [[dS [119],dS [112],dI 1500,dI 120,dI 70,dI 141]],.row 81 3 [[dS [112],.row 9 1 [[dS [110]],[dS [101]]],dI 187]],.row 84 1 [[.row 86 2 [[dB true,.row 9 1 [[dS [112]],[dS [113]]]]]]],.row 88 3 [[dS [110],dS [101],dI 236]],dI 39]],.row 48 6 [[dS [97],dS [110],dS [101],dI 0,dI 0,dI 259]],dI 2,dI 1]
theorem zjX:smp.length=305:=by decide
theorem zlu:N smp= .ok zlt:=by kernel_rfl
theorem zsw:dg (600)= [54,48,48]:=by simp[dg,Lib.itoa,Lib.decDigits]
theorem zsx:dg (900)= [57,48,48]:=by simp[dg,Lib.itoa,Lib.decDigits]
theorem zs3:dg (10)= [49,48]:=by simp[dg,Lib.itoa,Lib.decDigits]
theorem dg1:dg (1)= [49]:=by simp[dg,Lib.itoa,Lib.decDigits]
theorem zsy:dg (400)= [52,48,48]:=by simp[dg,Lib.itoa,Lib.decDigits]
theorem zrw:dg (1800)= [49,56,48,48]:=by simp[dg,Lib.itoa,Lib.decDigits]
theorem zrx:dg (1500)= [49,53,48,48]:=by simp[dg,Lib.itoa,Lib.decDigits]
theorem zsz:dg (-20)= [45,50,48]:=by simp[dg,Lib.itoa,Lib.decDigits]
theorem zs4:dg (70)= [55,48]:=by simp[dg,Lib.itoa,Lib.decDigits]
theorem zsA:dg (120)= [49,50,48]:=by simp[dg,Lib.itoa,Lib.decDigits]
theorem dg0:dg (0)= [48]:=by simp[dg,Lib.itoa,Lib.decDigits]
theorem dg2:dg (2)= [50]:=by simp[dg,Lib.itoa,Lib.decDigits]
theorem zo6:txt zlt=smp:=by
 have e:zeL zlt= [[99,121,99,108,101],[54,48,48],[116,111],[57,48,48],[98,121],[49,48],[59],[112,101,97,107],[49],[47],[49],[59],[110,111,100,101],[97],[123],[104,101,97,100],[110],[118,111,108,117,109,101],[52,48,48],[102,108,111,119],[49,56,48,48],[117,115,101],[49],[47],[49],[115,112,101,101,100],[49,53,48,48],[103,114,97,100,101],[45,50,48],[119,105,100,116,104],[49,56,48,48],[108,101,110,103,116,104],[54,48,48],[103,114,101,101,110],[55,48],[59],[119,97,108,107],[119],[119,105,116,104],[112],[108,111,110,103],[49,53,48,48],[112,97,99,101],[49,50,48],[108,101,97,115,116],[55,48],[59],[112,104,97,115,101],[112],[58],[110],[44],[101],[59],[103,114,111,117,112],[123],[114,105,110,103],[102,114,101,101],[112],[44],[113],[59],[125],[102,111,101],[110],[101],[59],[125],[97,114,116,101,114,121],[123],[115,116,111,112],[97],[111,117,116],[110],[105,110],[101],[97,104,101,97,100],[48],[98,97,99,107],[48],[59],[119,101,105,103,104,116,115],[50],[49],[59],[125]]:=by
  simp only[zeL,zcq,zmc,zd2,zhM,zbw,zdG,rw1,zcj,zd1,zcP,hw,lw,nms,zlt,gt,fL,fI,fB,dI,dB,List.getD_cons_zero,List.getD_cons_succ,List.flatMap_cons,List.flatMap_nil,List.map_cons,List.map_nil,zdE,zsw,zsx,zs3,dg1,zsy,zrw,zrx,zsz,zs4,zsA,dg0,dg2]
  rfl
 unfold txt
 rw[e]
 rfl
set_option maxHeartbeats 1000000 in
theorem zgT (w:World):Calls Tryz.prog 21 #[] w λe w'=>e= .returned (.string (sv smp))/\w'=w:=by
 go_enter Tryz.func21,Tryz.ntmps21;go_wp2_with fail
 go_ret;exact⟨by kernel_rfl,rfl⟩
def PqS (w:World) (e:Ending) (w':World):Prop:=Keep w w'/\∃ a0 a1 a2 a3 a4 aN nN cN aS nS cS a5 a6,e= .returned (.tuple #[.agg #[.int .i64 a0,.int .i64 a1,.int .i64 a2,.int .i64 a3,.int .i64 a4,.slice aN nN cN,.slice aS nS cS,.int .i64 a5,.int .i64 a6],.int .i64 0,.int .i64 0])/\Rvs w' zlt [.int .i64 a0,.int .i64 a1,.int .i64 a2,.int .i64 a3,.int .i64 a4,.slice aN nN cN,.slice aS nS cS,.int .i64 a5,.int .i64 a6]
theorem zia (v:Value) (w:World) (h:By w v smp):Calls Tryz.prog 20 #[v] w (PqS w):=by
 have key:Calls Tryz.prog 20 #[v] w (Q.Pp (.ok zlt) w):=by
  cases hT:T smp with
  |error x=>
   have eN:N smp= .error (x.1,(x.2:Int)):=by unfold N;rw[hT]
   rw[zlu]at eN;cases eN
  |ok L=>
   have eN:N smp=Q.fstE (zd8 L):=by
    unfold N;rw[hT]
    show(match zd8 L with| .error x=>Except.error x| .ok (c,_)=>Except.ok c)=_;rcases zd8 L with x|⟨c,r⟩<;>rfl
   rw[<- zlu,eN];refine Q.parse_ok v L w (zh (Q.T_wq (by rw[zjX];decide) hT)) (zh λw' hk=>?_);have:=zi3 v smp w' (by rw[zjX];decide) (h.keep hk);rwa[hT]at this
 refine key.mono ?_;rintro e w' ⟨hk,u0,u1,u2,u3,u4,a5,n5,c5,a6,n6,c6,u7,u8,rfl,hr⟩;exact⟨hk,u0,u1,u2,u3,u4,a5,n5,c5,a6,n6,c6,u7,u8,rfl,Rds.rv _ _ _ hr⟩
def zry:List D:= [dI (-1),dI 0,dI 0,dI 0,dI 0,.row 45 7 [],.row 48 6 [],dI 0,dI 0]
theorem zrz:ShL zeI zry:=by
 simp only[ShL,Sh1,zeI,zry];exact⟨_,_,rfl,⟨_,rfl,by decide,by decide⟩,⟨_,_,rfl,⟨_,rfl,by decide,by decide⟩,⟨_,_,rfl,⟨_,rfl,by decide,by decide⟩,⟨_,_,rfl,⟨_,rfl,by decide,by decide⟩,⟨_,_,rfl,⟨_,rfl,by decide,by decide⟩,⟨_,_,rfl,⟨_,rfl,by decide,λx hx=>by cases hx⟩,⟨_,_,rfl,⟨_,rfl,by decide,λx hx=>by cases hx⟩,⟨_,_,rfl,⟨_,rfl,by decide,by decide⟩,⟨_,_,rfl,⟨_,rfl,by decide,by decide⟩,rfl⟩⟩⟩⟩⟩⟩⟩⟩⟩
theorem zsB:ze3 zry=false:=by kernel_rfl
theorem zrA (w:World):Rvs w zry [.int .i64 (-1),.int .i64 0,.int .i64 0,.int .i64 0,.int .i64 0,.slice none 0 0,.slice none 0 0,.int .i64 0,.int .i64 0]:=by
 simp only[zry,Rvs,Rv,dI];exact⟨_,_,rfl,rfl,_,_,rfl,rfl,_,_,rfl,rfl,_,_,rfl,rfl,_,_,rfl,rfl,_,_,rfl,⟨none,0,rfl,Nat.le_refl _,trivial⟩,_,_,rfl,⟨none,0,rfl,Nat.le_refl _,trivial⟩,_,_,rfl,rfl,_,_,rfl,rfl,rfl⟩
set_option maxHeartbeats 8000000 in
theorem zib (S:ByteArray) (out:List UInt8) (cs:List D) (w:World) (HSS:Hid (sv out=S))
  (T0:Hid (∀ w',Calls Tryz.prog 21 #[] w' λe w''=>e= .returned (.string S)/\w''=w'))
  (T1:Hid (∀ w' v,By w' v out->Calls Tryz.prog 20 #[v] w' λe w''=>Keep w' w''/\∃ a0 a1 a2 a3 a4 aN nN cN aS nS cS a5 a6,e= .returned (.tuple #[.agg #[.int .i64 a0,.int .i64 a1,.int .i64 a2,.int .i64 a3,.int .i64 a4,.slice aN nN cN,.slice aS nS cS,.int .i64 a5,.int .i64 a6],.int .i64 0,.int .i64 0])/\Rvs w'' cs [.int .i64 a0,.int .i64 a1,.int .i64 a2,.int .i64 a3,.int .i64 a4,.slice aN nN cN,.slice aS nS cS,.int .i64 a5,.int .i64 a6]))
  (T2:Hid (∀ w' us,Keep w w'->Rvs w' cs us->Calls Tryz.prog 6 #[.agg us.toArray] w' (ShP out w')))
  (T3:Hid (∀ w' us,Rvs w' cs us->Calls Tryz.prog 7 #[.agg us.toArray] w' λe w''=>e= .returned (.bool true)/\Keep w' w''))
  (T4:Hid (∀ w',Calls Tryz.prog 7 #[.agg #[.int .i64 (-1),.int .i64 0,.int .i64 0,.int .i64 0,.int .i64 0,.slice none 0 0,.slice none 0 0,.int .i64 0,.int .i64 0]] w' λe w''=>e= .returned (.bool false)/\Keep w' w'')):
  Calls Tryz.prog 8 #[] w λe w'=>e= .returned (.bool true)/\Keep w w':=by
 go_enter Tryz.func8,Tryz.ntmps8;go_wp2_with fail
 (refine((uq T0) _).mono ?_;rintro e w ⟨rfl,rfl⟩);obtain⟨cp,o,kk,hcv,hby⟩:=zmh w S;have cv:=hcv 9 29 Tryz.underlying9 Tryz.underlying29;rw[<- uq HSS,zjP,uq HSS]at hby;have HBY:=zh hby;have HX:=zh (zaa (zk w) #[o] kk);clear hcv hby;go_wp2_with fail
 (refine((uq T1) _ _ (uq HBY)).mono ?_;rintro e w4 ⟨hk,a0,a1,a2,a3,a4,aN,nN,cN,aS,nS,cS,a5,a6,rfl,hr⟩;have HK4:=zh ((uq HX).trans hk);have HR:=zh hr;clear hk hr);clear cv HBY HX
 go_upto_region 2 with fail
 have n1:=heap_alloc_new w4 (.cells #[.int .i64 a0,.int .i64 a1,.int .i64 a2,.int .i64 a3,.int .i64 a4,.slice aN nN cN,.slice aS nS cS,.int .i64 a5,.int .i64 a6] 27);have HK5:=zh ((uq HK4).alloc (.cells #[.int .i64 a0,.int .i64 a1,.int .i64 a2,.int .i64 a3,.int .i64 a4,.slice aN nN cN,.slice aS nS cS,.int .i64 a5,.int .i64 a6] 27));have HR5:=zh (Rvs.keep ((zk w4).alloc (.cells #[.int .i64 a0,.int .i64 a1,.int .i64 a2,.int .i64 a3,.int .i64 a4,.slice aN nN cN,.slice aS nS cS,.int .i64 a5,.int .i64 a6] 27)) _ _ (uq HR));generalize w4.alloc (.cells #[.int .i64 a0,.int .i64 a1,.int .i64 a2,.int .i64 a3,.int .i64 a4,.slice aN nN cN,.slice aS nS cS,.int .i64 a5,.int .i64 a6] 27)=w5 at n1 HK5 HR5 |-;generalize w4.heap.size=xb at n1 |-;clear HK4 HR;have ca0:w5.cell? ⟨xb,0,none⟩=some (.int .i64 a0):=by simp[World.cell?,n1]
 have ca1:w5.cell? ⟨xb,1,none⟩=some (.int .i64 a1):=by simp[World.cell?,n1]
 have ca2:w5.cell? ⟨xb,2,none⟩=some (.int .i64 a2):=by simp[World.cell?,n1]
 have ca3:w5.cell? ⟨xb,3,none⟩=some (.int .i64 a3):=by simp[World.cell?,n1]
 have ca4:w5.cell? ⟨xb,4,none⟩=some (.int .i64 a4):=by simp[World.cell?,n1]
 have ca5:w5.cell? ⟨xb,5,none⟩=some (.slice aN nN cN):=by simp[World.cell?,n1]
 have ca6:w5.cell? ⟨xb,6,none⟩=some (.slice aS nS cS):=by simp[World.cell?,n1]
 have ca7:w5.cell? ⟨xb,7,none⟩=some (.int .i64 a5):=by simp[World.cell?,n1]
 have ca8:w5.cell? ⟨xb,8,none⟩=some (.int .i64 a6):=by simp[World.cell?,n1]
 have N1:=zh n1;clear n1;go_wp2_with fail
 (refine((uq T2) _ _ (uq HK5) (uq HR5)).mono ?_;rintro e w6 ⟨vb,rfl,hb,hk⟩;have HB6:=zh hb;have HK56:=zh hk;have HK6:=zh ((uq HK5).trans hk);clear hb hk);clear ca0 ca1 ca2 ca3 ca4 ca5 ca6 ca7 ca8;have HSX:Hid (∀ w',Keep w6 w'->w'.cell? ⟨xb,0,none⟩=some (.int .i64 a0)/\w'.cell? ⟨xb,1,none⟩=some (.int .i64 a1)/\w'.cell? ⟨xb,2,none⟩=some (.int .i64 a2)/\w'.cell? ⟨xb,3,none⟩=some (.int .i64 a3)/\w'.cell? ⟨xb,4,none⟩=some (.int .i64 a4)/\w'.cell? ⟨xb,5,none⟩=some (.slice aN nN cN)/\w'.cell? ⟨xb,6,none⟩=some (.slice aS nS cS)/\w'.cell? ⟨xb,7,none⟩=some (.int .i64 a5)/\w'.cell? ⟨xb,8,none⟩=some (.int .i64 a6)/\(convert 29 9 vb).run Tryz.prog w'= .ok (.string S) w'):=zh (λw' k9=>by
  have hx:=((uq HK56).trans k9).block xb (Array.getElem?_eq_some_iff.1 (uq N1)).1;rw[uq N1]at hx;refine⟨by simp[World.cell?,hx],by simp[World.cell?,hx],by simp[World.cell?,hx],by simp[World.cell?,hx],by simp[World.cell?,hx],by simp[World.cell?,hx],by simp[World.cell?,hx],by simp[World.cell?,hx],by simp[World.cell?,hx],?_⟩;have:=zjO ((uq HB6).keep k9) (t:=29) (u:=9) Tryz.underlying29 Tryz.underlying9;rw[uq HSS]at this;exact this)
 have HR6:=zh (Rvs.keep (uq HK56) _ _ (uq HR5))
 go_upto_region 3 with fail
 refine wp_region_held_drew (S:=λw'=>w'.cell? ⟨xb,0,none⟩=some (.int .i64 a0)/\w'.cell? ⟨xb,1,none⟩=some (.int .i64 a1)/\w'.cell? ⟨xb,2,none⟩=some (.int .i64 a2)/\w'.cell? ⟨xb,3,none⟩=some (.int .i64 a3)/\w'.cell? ⟨xb,4,none⟩=some (.int .i64 a4)/\w'.cell? ⟨xb,5,none⟩=some (.slice aN nN cN)/\w'.cell? ⟨xb,6,none⟩=some (.slice aS nS cS)/\w'.cell? ⟨xb,7,none⟩=some (.int .i64 a5)/\w'.cell? ⟨xb,8,none⟩=some (.int .i64 a6)/\(convert 29 9 vb).run Tryz.prog w'= .ok (.string S) w') (by kernel_rfl) (by exact(uq HSX) _ (by repeat(first|apply Keep.drew|exact zk _))) (λzH=>?_);refine tk6 0 18 1 19 2 20 3 21 4 22 5 23 zH ?_;try simp only[Yq]
 refine tk2 6 24 7 25 zH ?_;try simp only[Yq]
 refine zaq 8 (λK hK=>?_);go_simp;clear zH;(refine((uq T3) _ _ (Rvs.keep (zk w6).drew _ _ (uq HR6))).mono ?_;rintro e w7 ⟨rfl,hk⟩;have HX7:=zh (((zk w6).drew).trans hk);clear hk);try go_wp2_with fail
 refine hK.out _ _ ?_ (λzH=>?_)
 ·exact(uq HSX) _ (uq HX7)
 clear hK K;try simp only[Yq]
 refine tk4 9 27 10 28 11 29 12 30 zH ?_;try simp only[Yq]
 refine zaq 13 (λK hK=>?_);go_simp;clear zH;(refine((uq T0) _).mono ?_;rintro e w7 ⟨rfl,rfl⟩);try go_wp2_with fail
 refine hK.out _ _ ?_ (λzH=>?_)
 ·exact(uq HSX) _ (uq HX7)
 clear hK K;try simp only[Yq]
 refine tk4 14 32 15 33 16 34 17 35 zH ?_;try simp only[Yq]
 refine zaq 18 (λK hK=>?_);go_simp;clear zH;(refine((uq T4) _).mono ?_;rintro e w8 ⟨rfl,hk⟩;have HX8:=zh ((uq HX7).trans hk);clear hk);try go_wp2_with fail
 refine hK.out _ _ ?_ (λzH=>?_)
 ·exact(uq HSX) _ (uq HX8)
 clear hK K;try simp only[Yq]
 refine tk3 19 37 20 38 21 0 zH ?_;try simp only[Yq]
 refine wpAnyH_done (by kernel_rfl) ?_ _;clear zH;go_wp2_with fail
 go_ret;exact⟨rfl,(uq HK6).trans (uq HX8)⟩
theorem zjY (w:World) (ht:Tab w):Calls Tryz.prog 8 #[] w λe w'=>e= .returned (.bool true)/\Keep w w':=by
 have hB:ze3 zlt=true:=(zdf zlu).2;have hS:ShL zeI zlt:=(zdf zlu).1;refine zib (sv smp) smp zlt w rfl (zh zgT) (zh λw' v h=>zia v w' h) (zh λw' us hk hr=>?_) (zh λw' us hr=>?_) (zh λw'=>?_)
 ·have:=zht hS hB hr (ht.keep hk);rwa[zo6]at this
 ·have:=zdK hS hr;rwa[hB]at this
 ·have:=zdK zrz (zrA w');rwa[zsB]at this
end S
end Go.Proofs.YthceiikgecoimaaGreatDoor
namespace Go.Proofs.YthceiikgecoimaaGreatDoor
open Go.RowKit
attribute [local go_sem ↓] Go.wp_at_zero Go.wp_at_succ
set_option linter.unusedVariables false
set_option linter.unusedSimpArgs false
set_option maxRecDepth 10000
def Wf (l:List Tok):Prop:=l.length<=70000/\(∃ m t,l=m++ [t]/\t.k=0/\t.s= [])/\∀ t∈l,0<=t.n/\t.n<=999999999999999999
structure Env where
 S:Nat->Prop
 rb:Nat
 l:List Tok
 ta:Addr
 cap:Nat
 A:Nat->Nat×Nat
 lo:Nat
def Env.P (E:Env) (b:Nat):Prop:=¬E.S b/\E.lo<=b
def R0 (rb:Nat) (l:List Tok) (ta:Addr) (cap:Nat) (w:World) (r:List Tok):Prop:=∃ k:Nat,k<l.length/\r=l.drop k/\w.cell? ⟨rb,0,none⟩=some (.slice (some ta) l.length cap)/\w.cell? ⟨rb,1,none⟩=some (.int .i64 (k:Int))/\w.frozen? ⟨rb,1,none⟩=false/\ta.block<w.heap.size/\(∀ k,k<l.length->Tc w (ta.add (k * 4)) (l.getD k t0))/\Wf l
def Rdr (E:Env) (w:World) (r:List Tok):Prop:=R0 E.rb E.l E.ta E.cap w r/\¬E.S E.ta.block/\E.S E.rb
def Cel (E:Env) (w:World) (cs:List D):Prop:=(∀ i j,i<cs.length->j<cs.length->E.A i=E.A j->i=j)/\∀ j d,cs[j]? =some d->∃ v,w.cell? ⟨(E.A j).1,(E.A j).2,none⟩=some v/\Rd w d E.P v/\w.frozen? ⟨(E.A j).1,(E.A j).2,none⟩=false/\E.S (E.A j).1/\(E.A j).1≠E.rb
def flt (x:Er):Value:= .iface 66 (.agg #[.int .i64 x.1,.int .i64 x.2])
def zcv (E:Env) (w:World) (rest:List D) (n:Nat) (X:Rs) (e:Ending) (w':World):Prop:=Fr E.S w w'/\
 match X with
 | .error x=>e= .returned (flt x)
 | .ok (c,r)=>e= .returned .nilIface/\c.length=n/\Rdr E w' r/\Cel E w' (c++rest)
def Ent (fn:FuncId):Prop:=∀(xs:Array Value) (w:World),(callFunc fn xs).run Tryz.prog w= .ok (.enter fn xs) w
def Does (E:Env) (w0:World) (v:Value) (m:Nat) (zs:List D) (p:Sp):Prop:=∃ fn xs ys,v= .func (.func fn) xs ys/\Ent fn/\∀ w c rest r,Fr E.S w0 w->c.length=m->Rdr E w r->Cel E w (c++zs++rest)->Calls Tryz.prog fn (xs++ys) w (zcv E w rest (m+zs.length) (p c r))
theorem Does.fr {E:Env} {w0 w1:World} {v:Value} {m:Nat} {zs:List D} {p:Sp} (h:Does E w0 v m zs p) (k:Fr E.S w0 w1):Does E w1 v m zs p:=by
 obtain⟨fn,xs,ys,rfl,h0,h⟩:=h;exact⟨fn,xs,ys,rfl,h0,λw c rest r hf=>h w c rest r (k.trans hf)⟩
theorem Does.keep {E:Env} {w0 w1:World} {v:Value} {m:Nat} {zs:List D} {p:Sp} (h:Does E w0 v m zs p) (k:Keep w0 w1):Does E w1 v m zs p:=h.fr (.keep k)
theorem zat {w:World} {a:Addr} {v:Value} (h:w.cell? a=some v):a.block<w.heap.size:=World.block_lt_of_cell? w a h
theorem Keep.cell' {w w':World} (k:Keep w w') {a:Addr} {v:Value} (h:w.cell? a=some v):w'.cell? a=some v:=by rw[Below.cell k (zat h)];exact h
theorem Keep.frozen' {w w':World} (k:Keep w w') {a:Addr} {v:Value} (h:w.cell? a=some v) (f:w.frozen? a=false):w'.frozen? a=false:=by rw[Below.frozen k (zat h)];exact f
theorem R0.keep {rb:Nat} {l:List Tok} {ta:Addr} {cap:Nat} {w w':World} {r:List Tok} (h:R0 rb l ta cap w r) (k:Keep w w'):R0 rb l ta cap w' r:=by
 obtain⟨i,h1,h2,h3,h4,h5,h7,h8,h9⟩:=h;exact⟨i,h1,h2,k.cell' h3,k.cell' h4,k.frozen' h4 h5,Nat.lt_of_lt_of_le h7 k.size,λj hj=>(h8 j hj).keep (by rw[zag];exact h7) k,h9⟩
theorem Rdr.keep {E:Env} {w w':World} {r:List Tok} (h:Rdr E w r) (k:Keep w w'):Rdr E w' r:=⟨h.1.keep k,h.2⟩
theorem Rd.keep {P:Nat->Prop} {w w':World} (k:Keep w w') {d:D} {u:Value} (h:Rd w d P u):Rd w' d P u:=Rd.move d _ _ u h (λi hi hl=>⟨k.block i hl,hi⟩)
theorem Cel.keep {E:Env} {w w':World} {cs:List D} (h:Cel E w cs) (k:Keep w w'):Cel E w' cs:=by
 refine⟨h.1,λj d hd=>?_⟩;obtain⟨v,h1,h2,h3,h4⟩:=h.2 j d hd;exact⟨v,k.cell' h1,h2.keep k,k.frozen' h1 h3,h4⟩
theorem zdN {l:List Tok} {k:Nat} {t:Tok} {r:List Tok} (h:t :: r=l.drop k):k<l.length/\l.getD k t0=t/\r=l.drop (k+1):=by
 have hk:k<l.length:=by
  rcases Nat.lt_or_ge k l.length with h1|h1
  ·exact h1
  ·rw[List.drop_eq_nil_of_le h1]at h;cases h
 rw[List.drop_eq_getElem_cons hk]at h;injection h with h1 h2
 exact⟨hk,by rw[h1];simp[List.getD,hk],h2⟩
theorem zjZ {l:List Tok} (h:Wf l) {k:Nat} {t:Tok} {r:List Tok} (e:t :: r=l.drop k) (hn:t.k≠0\/t.s≠ []):k+1<l.length:=by
 obtain⟨hk,ht,hr⟩:=zdN e;rcases Nat.lt_or_ge (k+1) l.length with h1|h1
 ·exact h1
 ·exfalso;obtain⟨_,⟨m,u,rfl,u1,u2⟩,_⟩:=h;have:k=m.length:=by simp at hk h1;omega
  subst this;have:t=u:=by rw[<- ht];simp
  subst this;rcases hn with h|h
  ·exact h u1
  ·exact h u2
theorem zcr {rb:Nat} {l:List Tok} {ta:Addr} {cap:Nat} {w:World} {r:List Tok} (h:R0 rb l ta cap w r):∃ t r',r=t :: r':=by
 obtain⟨k,h1,h2,_⟩:=h;cases r with
 |nil=>rw[eq_comm,List.drop_eq_nil_iff]at h2;omega
 |cons t r=>exact⟨t,r,rfl⟩
theorem zb9 (w:World) (p a:Addr) (v:Value) (h:p≠a):(w.setCell p v).cell? a=w.cell? a:=by apply World.cell?_setCell_other;exact h
theorem zdn {w:World} {a:Addr} {u:Value} (v:Value) (h:w.cell? a=some u):(w.setCell a v).cell? a=some v:=by apply World.cell?_setCell_same;exact h
theorem zac (w:World) (p a:Addr) (v:Value) (h:p.block≠a.block):(w.setCell p v).cell? a=w.cell? a:=World.cell?_of_block (Below.heap_setCell _ _ _ _ (λe=>h e.symm))
theorem R0.step {rb:Nat} {l:List Tok} {ta:Addr} {cap:Nat} {w:World} {t:Tok} {r:List Tok} (h:R0 rb l ta cap w (t :: r)) (hn:t.k≠0\/t.s≠ []) (hb:ta.block≠rb):
  ∃ k:Nat,k+1<70001/\w.cell? ⟨rb,1,none⟩=some (.int .i64 (k:Int))/\w.frozen? ⟨rb,1,none⟩=false/\R0 rb l ta cap (w.setCell ⟨rb,1,none⟩ (.int .i64 ((k+1:Nat):Int))) r:=by
 obtain⟨k,h1,h2,h3,h4,h5,h7,h8,h9⟩:=h;have hlt:=zjZ h9 h2 hn;have:=h9.1;refine⟨k,by omega,h4,h5,k+1,hlt,(zdN h2).2.2,?_,?_,?_,?_,?_,h9⟩
 ·rw[zb9 _ _ _ _ (by simp)];exact h3
 ·exact zdn _ h4
 ·rw[World.frozen?_setCell];exact h5
 ·simpa [World.setCell]using h7
 ·intro j hj
  obtain⟨c0,c1,c2,c3⟩:=h8 j hj;refine⟨?_,?_,?_,?_⟩
  ·rw[zac _ _ _ _ (by rw[zag];exact λe=>hb e.symm)];exact c0
  ·rw[zac _ _ _ _ (by show rb≠(ta.add (j * 4)).block;rw[zag];exact λe=>hb e.symm)];exact c1
  ·rw[zac _ _ _ _ (by show rb≠(ta.add (j * 4)).block;rw[zag];exact λe=>hb e.symm)];exact c2
  ·rw[zac _ _ _ _ (by show rb≠(ta.add (j * 4)).block;rw[zag];exact λe=>hb e.symm)];exact c3
set_option maxHeartbeats 2000000 in
theorem zlv (rb k n cap:Nat) (ad:Addr) (kk nn pp:Int) (S:ByteArray) (w:World) (hk:(k:Int)<(n:Int))
  (h0:w.cell? ⟨rb,0,none⟩=some (.slice (some ad) n cap)) (h1:w.cell? ⟨rb,1,none⟩=some (.int .i64 (k:Int)))
  (c0:w.cell? (ad.add (k * 4))=some (.int .i64 kk)) (c1:w.cell? ⟨(ad.add (k * 4)).block,(ad.add (k * 4)).off+1,none⟩=some (.string S)) (c2:w.cell? ⟨(ad.add (k * 4)).block,(ad.add (k * 4)).off+2,none⟩=some (.int .i64 nn)) (c3:w.cell? ⟨(ad.add (k * 4)).block,(ad.add (k * 4)).off+3,none⟩=some (.int .i64 pp)):
  Calls Tryz.prog 107 #[.pointer (some ⟨rb,0,none⟩)] w λe w'=>e= .returned (.agg #[.int .i64 kk,.string S,.int .i64 nn,.int .i64 pp])/\Keep w w':=by
 have K:=λo=>(zk w).alloc o
 have HK:=zh K;have H0:=zh h0;have H1:=zh h1;have H2:=zh c0;have H3:=zh c1;have H4:=zh c2;have H5:=zh c3;clear K h0 h1 c0 c1 c2 c3;go_enter Tryz.func107,Tryz.ntmps107;go_wp2_with fail
 refine wp_region_held_drew (S:=λw'=>w'.cell? ⟨rb,0,none⟩=some (.slice (some ad) n cap)/\w'.cell? ⟨rb,1,none⟩=some (.int .i64 (k:Int))/\w'.cell? (ad.add (k * 4))=some (.int .i64 kk)/\w'.cell? ⟨(ad.add (k * 4)).block,(ad.add (k * 4)).off+1,none⟩=some (.string S)/\w'.cell? ⟨(ad.add (k * 4)).block,(ad.add (k * 4)).off+2,none⟩=some (.int .i64 nn)/\w'.cell? ⟨(ad.add (k * 4)).block,(ad.add (k * 4)).off+3,none⟩=some (.int .i64 pp)) (by kernel_rfl) (by exact⟨((uq HK) _).cell' (uq H0),((uq HK) _).cell' (uq H1),((uq HK) _).cell' (uq H2),((uq HK) _).cell' (uq H3),((uq HK) _).cell' (uq H4),((uq HK) _).cell' (uq H5)⟩) (λzH=>?_);refine tk6 0 3 1 4 2 5 3 6 4 7 5 8 zH ?_;try simp only[Yq]
 refine tk4 6 9 7 10 8 11 9 12 zH ?_;try simp only[Yq]
 refine zaq 10 (λK hK=>?_);go_simp;clear zH;refine hK.out _ _ ?_ (λzH=>?_)
 ·exact⟨((uq HK) _).cell' (uq H0),((uq HK) _).cell' (uq H1),((uq HK) _).cell' (uq H2),((uq HK) _).cell' (uq H3),((uq HK) _).cell' (uq H4),((uq HK) _).cell' (uq H5)⟩
 clear hK K;try simp only[Yq]
 refine wpAnyH_done (by kernel_rfl) ?_ _;clear zH;go_wp2_with fail
 refine bodyPost_ret (v:= .agg #[.int .i64 kk,.string S,.int .i64 nn,.int .i64 pp]) ?_ rfl ?_
 ·simp[results,Tryz.results107,go_sem]
 ·exact⟨rfl,by repeat(first|apply zaa|apply Keep.alloc|apply Keep.drew|exact zk _)⟩
theorem zj0 {rb:Nat} {l:List Tok} {ta:Addr} {cap:Nat} {w:World} {t:Tok} {r:List Tok} (h:R0 rb l ta cap w (t :: r)):
  Calls Tryz.prog 107 #[.pointer (some ⟨rb,0,none⟩)] w λe w'=>e= .returned (tv t)/\Keep w w':=by
 obtain⟨k,h1,h2,h3,h4,h5,h7,h8,h9⟩:=h;obtain⟨c0,c1,c2,c3⟩:=h8 k h1;rw[(zdN h2).2.1]at c0 c1 c2 c3;exact zlv rb k l.length cap ta t.k t.n t.p (sv t.s) w (by omega) h3 h4 c0 c1 c2 c3
theorem zj1 (k n p:Int) (s:ByteArray) (w:World):(Instr.field 118 (.agg #[.int .i64 k,.string s,.int .i64 n,.int .i64 p]) 0).run Tryz.prog w= .ok (.int .i64 k) w:=by kernel_rfl
theorem zdt (k n p:Int) (s:ByteArray) (w:World):(Instr.field 118 (.agg #[.int .i64 k,.string s,.int .i64 n,.int .i64 p]) 1).run Tryz.prog w= .ok (.string s) w:=by kernel_rfl
theorem zj2 (k n p:Int) (s:ByteArray) (w:World):(Instr.field 118 (.agg #[.int .i64 k,.string s,.int .i64 n,.int .i64 p]) 3).run Tryz.prog w= .ok (.int .i64 p) w:=by kernel_rfl
set_option maxHeartbeats 2000000 in
theorem zic (rb:Nat) (x kk nn pp:Int) (S:ByteArray) (w:World) (T:Hid (∀ w',Keep w w'->Calls Tryz.prog 107 #[.pointer (some ⟨rb,0,none⟩)] w' λe w''=>e= .returned (.agg #[.int .i64 kk,.string S,.int .i64 nn,.int .i64 pp])/\Keep w' w'')):
  Calls Tryz.prog 108 #[.pointer (some ⟨rb,0,none⟩),.int .i64 x] w λe w'=>e= .returned (flt (x,pp))/\Keep w w':=by
 have HK:=zh (zk w);have fp:=zj2;go_enter Tryz.func108,Tryz.ntmps108;go_wp2_with fail
 (refine((uq T) _ (uq HK)).mono ?_;rintro e w2 ⟨rfl,hk⟩);have HK2:=zh hk;clear hk;go_wp2_with fail
 go_ret;exact⟨rfl,uq HK2⟩
theorem zj3 {rb:Nat} {l:List Tok} {ta:Addr} {cap:Nat} {w:World} {t:Tok} {r:List Tok} (x:Int) (h:R0 rb l ta cap w (t :: r)):
  Calls Tryz.prog 108 #[.pointer (some ⟨rb,0,none⟩),.int .i64 x] w λe w'=>e= .returned (flt (x,t.p))/\Keep w w':=
 zic rb x t.k t.n t.p (sv t.s) w (zh λw' hk=>zj0 (h.keep hk))
def zhy (rb:Nat) (kk nn pp:Int) (S:ByteArray) (w:World):Prop:=∀ w',Keep w w'->Calls Tryz.prog 107 #[.pointer (some ⟨rb,0,none⟩)] w' λe w''=>e= .returned (.agg #[.int .i64 kk,.string S,.int .i64 nn,.int .i64 pp])/\Keep w' w''
def zek (rb:Nat) (pp:Int) (w:World):Prop:=∀ x w',Keep w w'->Calls Tryz.prog 108 #[.pointer (some ⟨rb,0,none⟩),.int .i64 x] w' λe w''=>e= .returned (flt (x,pp))/\Keep w' w''
theorem zdu {rb:Nat} {l:List Tok} {ta:Addr} {cap:Nat} {w:World} {t:Tok} {r:List Tok} (h:R0 rb l ta cap w (t :: r)):zhy rb t.k t.n t.p (sv t.s) w:=λw' hk=>zj0 (h.keep hk)
theorem zdO {rb:Nat} {l:List Tok} {ta:Addr} {cap:Nat} {w:World} {t:Tok} {r:List Tok} (h:R0 rb l ta cap w (t :: r)):zek rb t.p w:=λx w' hk=>zj3 x (h.keep hk)
set_option maxHeartbeats 2000000 in
theorem zj4 (rb g1 g2:Nat) (kk nn pp:Int) (S X:ByteArray) (w:World) (hne:(S.toList==X.toList)=false)
  (h1:w.cell? ⟨g1,0,none⟩=some (.pointer (some ⟨rb,0,none⟩))) (h2:w.cell? ⟨g2,0,none⟩=some (.string X))
  (T1:Hid (zhy rb kk nn pp S w)) (T2:Hid (zek rb pp w)):
  Calls Tryz.prog 106 #[.pointer (some ⟨g1,0,none⟩),.pointer (some ⟨g2,0,none⟩)] w λe w'=>e= .returned (flt (50,pp))/\Keep w w':=by
 have HK:=zh (zk w);have H1:=zh h1;have H2:=zh h2;have fs:=zdt;clear h1 h2;go_enter Tryz.func106,Tryz.ntmps106;go_wp2_with fail
 refine wp_region_held_drew (S:=λw'=>w'.cell? ⟨g1,0,none⟩=some (.pointer (some ⟨rb,0,none⟩))/\w'.cell? ⟨g2,0,none⟩=some (.string X)) (by kernel_rfl) (by exact⟨uq H1,uq H2⟩) (λzH=>?_);refine tk2 0 3 3 6 zH ?_;try simp only[Yq]
 refine zaq 1 (λK hK=>?_);go_simp;clear zH;(refine((uq T1) _ (uq HK).drew).mono ?_;rintro e w2 ⟨rfl,hk⟩;have HK2:=zh ((uq HK).drew.trans hk);clear hk);try go_wp2_with fail
 refine hK.out _ _ ?_ (λzH=>?_)
 ·exact⟨(uq HK2).cell' (uq H1),(uq HK2).cell' (uq H2)⟩
 clear hK K;try simp only[Yq]
 refine tk2 2 5 4 7 zH ?_;try simp only[Yq]
 refine wpAnyH_done (by kernel_rfl) ?_ _;clear zH;have c1:=(uq HK2).cell' (uq H1);go_wp2_with fail
 (refine((uq T2) _ _ (uq HK2)).mono ?_;rintro e w3 ⟨rfl,hk⟩;have HK3:=zh ((uq HK2).trans hk);clear hk);go_wp2_with fail
 go_ret;exact⟨rfl,uq HK3⟩
set_option maxHeartbeats 2000000 in
theorem zcs (rb g1 g2 k:Nat) (kk nn pp:Int) (S X:ByteArray) (w:World) (hne:(S.toList==X.toList)=true) (hk:k<70001)
  (h1:w.cell? ⟨g1,0,none⟩=some (.pointer (some ⟨rb,0,none⟩))) (h2:w.cell? ⟨g2,0,none⟩=some (.string X))
  (h3:w.cell? ⟨rb,1,none⟩=some (.int .i64 (k:Int))) (h4:w.frozen? ⟨rb,1,none⟩=false)
  (T1:Hid (zhy rb kk nn pp S w)):
  Calls Tryz.prog 106 #[.pointer (some ⟨g1,0,none⟩),.pointer (some ⟨g2,0,none⟩)] w λe w'=>e= .returned .nilIface/\∃ w2,Keep w w2/\w'=w2.setCell ⟨rb,1,none⟩ (.int .i64 ((k+1:Nat):Int)):=by
 have HK:=zh (zk w);have H1:=zh h1;have H2:=zh h2;have H3:=zh h3;have H4:=zh h4;have fs:=zdt;clear h1 h2 h3 h4;go_enter Tryz.func106,Tryz.ntmps106;go_wp2_with fail
 refine wp_region_held_drew (S:=λw'=>w'.cell? ⟨g1,0,none⟩=some (.pointer (some ⟨rb,0,none⟩))/\w'.cell? ⟨g2,0,none⟩=some (.string X)) (by kernel_rfl) (by exact⟨uq H1,uq H2⟩) (λzH=>?_);refine tk2 0 3 3 6 zH ?_;try simp only[Yq]
 refine zaq 1 (λK hK=>?_);go_simp;clear zH;(refine((uq T1) _ (uq HK).drew).mono ?_;rintro e w2 ⟨rfl,hk⟩;have HK2:=zh ((uq HK).drew.trans hk);clear hk);try go_wp2_with fail
 refine hK.out _ _ ?_ (λzH=>?_)
 ·exact⟨(uq HK2).cell' (uq H1),(uq HK2).cell' (uq H2)⟩
 clear hK K;try simp only[Yq]
 refine tk2 2 5 4 7 zH ?_;try simp only[Yq]
 refine wpAnyH_done (by kernel_rfl) ?_ _;clear zH;have c1:=(uq HK2).cell' (uq H1);have c3:=(uq HK2).cell' (uq H3);have c4:=(uq HK2).frozen' (uq H3) (uq H4);go_wp2_with fail
 go_ret;exact⟨rfl,w2,uq HK2,by rfl⟩
set_option maxHeartbeats 2000000 in
theorem zrB (rb g1 g2:Nat) (kk nn pp:Int) (S:ByteArray) (w:World) (hne:(kk==2)=false)
  (h1:w.cell? ⟨g1,0,none⟩=some (.pointer (some ⟨rb,0,none⟩)))
  (T1:Hid (zhy rb kk nn pp S w)) (T2:Hid (zek rb pp w)):
  Calls Tryz.prog 109 #[.pointer (some ⟨g1,0,none⟩),.pointer (some ⟨g2,0,none⟩)] w λe w'=>e= .returned (flt (50,pp))/\Keep w w':=by
 have HK:=zh (zk w);have H1:=zh h1;have hne2:(kk !=2)=true:=by simp[bne,hne]
 go_enter Tryz.func109,Tryz.ntmps109;go_wp2_with fail
 (refine((uq T1) _ (uq HK)).mono ?_;rintro e w2 ⟨rfl,hk⟩;have HK2:=zh hk;clear hk);have c1:=(uq HK2).cell' (uq H1);have c1a:∀ o,(w2.alloc o).cell? ⟨g1,0,none⟩=some (.pointer (some ⟨rb,0,none⟩)):=λo=>((zk w2).alloc o).cell' c1
 have C1:=zh c1;clear c1 h1;go_wp2_with fail
 (refine((uq T2) _ _ ((uq HK2).alloc _)).mono ?_;rintro e w3 ⟨rfl,hk⟩;have HK3:=zh (((uq HK2).alloc _).trans hk);clear hk);go_wp2_with fail
 go_ret;exact⟨rfl,uq HK3⟩
set_option maxHeartbeats 2000000 in
theorem zo7 (rb g1 g2 tb o k:Nat) (u:Value) (kk nn pp:Int) (S:ByteArray) (w:World) (hne:(kk==2)=true) (hk:k<70001)
  (h1:w.cell? ⟨g1,0,none⟩=some (.pointer (some ⟨rb,0,none⟩))) (h2:w.cell? ⟨g2,0,none⟩=some (.pointer (some ⟨tb,o,none⟩)))
  (h3:w.cell? ⟨rb,1,none⟩=some (.int .i64 (k:Int))) (h4:w.frozen? ⟨rb,1,none⟩=false)
  (h5:w.cell? ⟨tb,o,none⟩=some u) (h6:w.frozen? ⟨tb,o,none⟩=false) (n1:g1≠tb) (n2:tb≠rb)
  (T1:Hid (zhy rb kk nn pp S w)):
  Calls Tryz.prog 109 #[.pointer (some ⟨g1,0,none⟩),.pointer (some ⟨g2,0,none⟩)] w λe w'=>e= .returned .nilIface/\∃ w2,Keep w w2/\w'=(w2.setCell ⟨tb,o,none⟩ (.int .i64 nn)).setCell ⟨rb,1,none⟩ (.int .i64 ((k+1:Nat):Int)):=by
 have HK:=zh (zk w);have H1:=zh h1;have H2:=zh h2;have H3:=zh h3;have H4:=zh h4;have H5:=zh h5;have H6:=zh h6;have hne2:(kk !=2)=false:=by simp[bne,hne]
 clear h2 h3 h4 h5 h6;go_enter Tryz.func109,Tryz.ntmps109;go_wp2_with fail
 (refine((uq T1) _ (uq HK)).mono ?_;rintro e w2 ⟨rfl,hk⟩;have HK2:=zh hk;clear hk)
 go_upto_region 2 with fail
 have q0:(w2.alloc (.cells #[.int .i64 kk,.string S,.int .i64 nn,.int .i64 pp] 118)).cell? ⟨w2.heap.size,0,none⟩=some (.int .i64 kk):=by simp[go_sem]
 have q1:(w2.alloc (.cells #[.int .i64 kk,.string S,.int .i64 nn,.int .i64 pp] 118)).cell? ⟨w2.heap.size,1,none⟩=some (.string S):=by simp[go_sem]
 have q2:(w2.alloc (.cells #[.int .i64 kk,.string S,.int .i64 nn,.int .i64 pp] 118)).cell? ⟨w2.heap.size,2,none⟩=some (.int .i64 nn):=by simp[go_sem]
 have HK3:=zh ((uq HK2).alloc (.cells #[.int .i64 kk,.string S,.int .i64 nn,.int .i64 pp] 118));have nq:w2.heap.size≠tb:=by have:=zat ((uq HK2).cell' (uq H5));simp at this;omega
 generalize w2.alloc (.cells #[.int .i64 kk,.string S,.int .i64 nn,.int .i64 pp] 118)=w3 at q0 q1 q2 HK3 |-;generalize w2.heap.size=q at nq q0 q1 q2 |-;clear HK2 w2;have c1:=(uq HK3).cell' (uq H1);have c2:=(uq HK3).cell' (uq H2);have c3:=(uq HK3).cell' (uq H3);have c4:=(uq HK3).frozen' (uq H3) (uq H4);have c5:=(uq HK3).cell' (uq H5);have c6:=(uq HK3).frozen' (uq H5) (uq H6)
 go_upto_region 5 with fail
 have d1:(w3.setCell ⟨tb,o,none⟩ (.int .i64 nn)).cell? ⟨g1,0,none⟩=some (.pointer (some ⟨rb,0,none⟩)):=by rw[zac _ _ _ _ (λe=>n1 e.symm)];exact c1
 have d3:(w3.setCell ⟨tb,o,none⟩ (.int .i64 nn)).cell? ⟨rb,1,none⟩=some (.int .i64 (k:Int)):=by rw[zac _ _ _ _ n2];exact c3
 have d4:(w3.setCell ⟨tb,o,none⟩ (.int .i64 nn)).frozen? ⟨rb,1,none⟩=false:=by rw[World.frozen?_setCell];exact c4
 have HE:Hid (∃ w2,Keep w w2/\w3.setCell ⟨tb,o,none⟩ (.int .i64 nn)=w2.setCell ⟨tb,o,none⟩ (.int .i64 nn)):=zh ⟨w3,uq HK3,rfl⟩;generalize w3.setCell ⟨tb,o,none⟩ (.int .i64 nn)=w4 at d1 d3 d4 HE |-;clear c1 c2 c3 c4 c5 c6 q0 q1 q2 HK3;go_wp2_with fail
 go_ret;obtain⟨w2,hk2,rfl⟩:=uq HE;exact⟨rfl,w2,hk2,by rfl⟩
set_option maxHeartbeats 2000000 in
theorem zlw (rb g1 g2:Nat) (kk nn pp:Int) (S:ByteArray) (w:World) (hne:(kk==1)=false)
  (h1:w.cell? ⟨g1,0,none⟩=some (.pointer (some ⟨rb,0,none⟩)))
  (T1:Hid (zhy rb kk nn pp S w)) (T2:Hid (zek rb pp w)):
  Calls Tryz.prog 144 #[.pointer (some ⟨g1,0,none⟩),.pointer (some ⟨g2,0,none⟩)] w λe w'=>e= .returned (flt (50,pp))/\Keep w w':=by
 have HK:=zh (zk w);have H1:=zh h1;have hne2:(kk !=1)=true:=by simp[bne,hne]
 go_enter Tryz.func144,Tryz.ntmps144;go_wp2_with fail
 (refine((uq T1) _ (uq HK)).mono ?_;rintro e w2 ⟨rfl,hk⟩;have HK2:=zh hk;clear hk);have c1:=(uq HK2).cell' (uq H1);have c1a:∀ o,(w2.alloc o).cell? ⟨g1,0,none⟩=some (.pointer (some ⟨rb,0,none⟩)):=λo=>((zk w2).alloc o).cell' c1
 have C1:=zh c1;clear c1 h1;go_wp2_with fail
 (refine((uq T2) _ _ ((uq HK2).alloc _)).mono ?_;rintro e w3 ⟨rfl,hk⟩;have HK3:=zh (((uq HK2).alloc _).trans hk);clear hk);go_wp2_with fail
 go_ret;exact⟨rfl,uq HK3⟩
set_option maxHeartbeats 2000000 in
theorem zlx (rb g1 g2:Nat) (kk nn pp:Int) (S:ByteArray) (w:World) (hne:(kk==1)=true)
  (h1:w.cell? ⟨g1,0,none⟩=some (.pointer (some ⟨rb,0,none⟩)))
  (T1:Hid (zhy rb kk nn pp S w)) (T2:Hid (zek rb pp w)) (T3:Hid (∀ w,Calls Tryz.prog 70 #[.string S] w λe w'=>e= .returned (.bool true)/\w'=w)):
  Calls Tryz.prog 144 #[.pointer (some ⟨g1,0,none⟩),.pointer (some ⟨g2,0,none⟩)] w λe w'=>e= .returned (flt (50,pp))/\Keep w w':=by
 have HK:=zh (zk w);have H1:=zh h1;have hne2:(kk !=1)=false:=by simp[bne,hne]
 go_enter Tryz.func144,Tryz.ntmps144;go_wp2_with fail
 (refine((uq T1) _ (uq HK)).mono ?_;rintro e w2 ⟨rfl,hk⟩;have HK2:=zh hk;clear hk);have c1:=(uq HK2).cell' (uq H1);have c1a:∀ o,(w2.alloc o).cell? ⟨g1,0,none⟩=some (.pointer (some ⟨rb,0,none⟩)):=λo=>((zk w2).alloc o).cell' c1
 have C1:=zh c1;clear c1 h1;go_wp2_with fail
 (refine((uq T3) _).mono ?_;rintro e w ⟨rfl,rfl⟩);go_wp2_with fail
 (refine((uq T2) _ _ ((uq HK2).alloc _)).mono ?_;rintro e w3 ⟨rfl,hk⟩;have HK3:=zh (((uq HK2).alloc _).trans hk);clear hk);go_wp2_with fail
 go_ret;exact⟨rfl,uq HK3⟩
set_option maxHeartbeats 2000000 in
theorem zfD (rb g1 g2 tb o k:Nat) (u:Value) (kk nn pp:Int) (S:ByteArray) (w:World) (hne:(kk==1)=true) (hk:k<70001)
  (h1:w.cell? ⟨g1,0,none⟩=some (.pointer (some ⟨rb,0,none⟩))) (h2:w.cell? ⟨g2,0,none⟩=some (.pointer (some ⟨tb,o,none⟩)))
  (h3:w.cell? ⟨rb,1,none⟩=some (.int .i64 (k:Int))) (h4:w.frozen? ⟨rb,1,none⟩=false)
  (h5:w.cell? ⟨tb,o,none⟩=some u) (h6:w.frozen? ⟨tb,o,none⟩=false) (n1:g1≠tb) (n2:tb≠rb)
  (T1:Hid (zhy rb kk nn pp S w)) (T3:Hid (∀ w,Calls Tryz.prog 70 #[.string S] w λe w'=>e= .returned (.bool false)/\w'=w)):
  Calls Tryz.prog 144 #[.pointer (some ⟨g1,0,none⟩),.pointer (some ⟨g2,0,none⟩)] w λe w'=>e= .returned .nilIface/\∃ w2,Keep w w2/\w'=(w2.setCell ⟨tb,o,none⟩ (.string S)).setCell ⟨rb,1,none⟩ (.int .i64 ((k+1:Nat):Int)):=by
 have HK:=zh (zk w);have H1:=zh h1;have H2:=zh h2;have H3:=zh h3;have H4:=zh h4;have H5:=zh h5;have H6:=zh h6;have hne2:(kk !=1)=false:=by simp[bne,hne]
 clear h2 h3 h4 h5 h6;go_enter Tryz.func144,Tryz.ntmps144;go_wp2_with fail
 (refine((uq T1) _ (uq HK)).mono ?_;rintro e w2 ⟨rfl,hk⟩;have HK2:=zh hk;clear hk)
 go_upto_region 2 with fail
 have q0:(w2.alloc (.cells #[.int .i64 kk,.string S,.int .i64 nn,.int .i64 pp] 118)).cell? ⟨w2.heap.size,0,none⟩=some (.int .i64 kk):=by simp[go_sem]
 have q1:(w2.alloc (.cells #[.int .i64 kk,.string S,.int .i64 nn,.int .i64 pp] 118)).cell? ⟨w2.heap.size,1,none⟩=some (.string S):=by simp[go_sem]
 have q2:(w2.alloc (.cells #[.int .i64 kk,.string S,.int .i64 nn,.int .i64 pp] 118)).cell? ⟨w2.heap.size,2,none⟩=some (.int .i64 nn):=by simp[go_sem]
 have HK3:=zh ((uq HK2).alloc (.cells #[.int .i64 kk,.string S,.int .i64 nn,.int .i64 pp] 118));have nq:w2.heap.size≠tb:=by have:=zat ((uq HK2).cell' (uq H5));simp at this;omega
 generalize w2.alloc (.cells #[.int .i64 kk,.string S,.int .i64 nn,.int .i64 pp] 118)=w3 at q0 q1 q2 HK3 |-;generalize w2.heap.size=q at nq q0 q1 q2 |-;clear HK2 w2;have c1:=(uq HK3).cell' (uq H1);have c2:=(uq HK3).cell' (uq H2);have c3:=(uq HK3).cell' (uq H3);have c4:=(uq HK3).frozen' (uq H3) (uq H4);have c5:=(uq HK3).cell' (uq H5);have c6:=(uq HK3).frozen' (uq H5) (uq H6);go_wp2_with fail
 (refine((uq T3) _).mono ?_;rintro e w3 ⟨rfl,rfl⟩)
 go_upto_region 5 with fail
 have d1:(w3.setCell ⟨tb,o,none⟩ (.string S)).cell? ⟨g1,0,none⟩=some (.pointer (some ⟨rb,0,none⟩)):=by rw[zac _ _ _ _ (λe=>n1 e.symm)];exact c1
 have d3:(w3.setCell ⟨tb,o,none⟩ (.string S)).cell? ⟨rb,1,none⟩=some (.int .i64 (k:Int)):=by rw[zac _ _ _ _ n2];exact c3
 have d4:(w3.setCell ⟨tb,o,none⟩ (.string S)).frozen? ⟨rb,1,none⟩=false:=by rw[World.frozen?_setCell];exact c4
 have HE:Hid (∃ w2,Keep w w2/\w3.setCell ⟨tb,o,none⟩ (.string S)=w2.setCell ⟨tb,o,none⟩ (.string S)):=zh ⟨w3,uq HK3,rfl⟩;generalize w3.setCell ⟨tb,o,none⟩ (.string S)=w4 at d1 d3 d4 HE |-;clear c1 c2 c3 c4 c5 c6 q0 q1 q2 HK3;go_wp2_with fail
 go_ret;obtain⟨w2,hk2,rfl⟩:=uq HE;exact⟨rfl,w2,hk2,by rfl⟩
set_option maxHeartbeats 2000000 in
theorem zly (rb g1 g2 tb o:Nat) (u:Value) (kk nn pp:Int) (S:ByteArray) (w:World)
  (h1:w.cell? ⟨g1,0,none⟩=some (.pointer (some ⟨rb,0,none⟩))) (h2:w.cell? ⟨g2,0,none⟩=some (.pointer (some ⟨tb,o,none⟩)))
  (h5:w.cell? ⟨tb,o,none⟩=some u) (h6:w.frozen? ⟨tb,o,none⟩=false) (n1:g1≠tb) (n2:g2≠tb)
  (T1:Hid (zhy rb kk nn pp S w)):
  Calls Tryz.prog 143 #[.pointer (some ⟨g1,0,none⟩),.pointer (some ⟨g2,0,none⟩)] w λe w'=>e= .returned .nilIface/\∃ w2,Keep w w2/\w'=w2.setCell ⟨tb,o,none⟩ (.int .i64 pp):=by
 have HK:=zh (zk w);have H1:=zh h1;have H2:=zh h2;have H5:=zh h5;have H6:=zh h6;have fp:=zj2;clear h1 h2 h5 h6;go_enter Tryz.func143,Tryz.ntmps143;go_wp2_with fail
 refine wp_region_held_drew (S:=λw'=>w'.cell? ⟨g1,0,none⟩=some (.pointer (some ⟨rb,0,none⟩))/\w'.cell? ⟨g2,0,none⟩=some (.pointer (some ⟨tb,o,none⟩))) (by kernel_rfl) (by exact⟨uq H1,uq H2⟩) (λzH=>?_);refine tk2 0 3 1 4 zH ?_;try simp only[Yq]
 refine zaq 2 (λK hK=>?_);go_simp;clear zH;(refine((uq T1) _ (uq HK).drew).mono ?_;rintro e w2 ⟨rfl,hk⟩;have HK2:=zh ((uq HK).drew.trans hk);clear hk;have c5:=(uq HK2).cell' (uq H5);have c6:=(uq HK2).frozen' (uq H5) (uq H6));try go_wp2_with fail
 refine hK.out _ _ ?_ (λzH=>?_)
 ·exact⟨(uq HK2).cell' (uq H1),(uq HK2).cell' (uq H2)⟩
 clear hK K;try simp only[Yq]
 refine tk2 3 6 4 7 zH ?_;try simp only[Yq]
 refine zaq 5 (λK hK=>?_);go_simp;clear zH;refine hK.out _ _ ?_ (λzH=>?_)
 ·exact⟨by rw[zac _ _ _ _ (λe=>n1 e.symm)];exact(uq HK2).cell' (uq H1),by rw[zac _ _ _ _ (λe=>n2 e.symm)];exact(uq HK2).cell' (uq H2)⟩
 clear hK K;try simp only[Yq]
 refine wpAnyH_done (by kernel_rfl) ?_ _;clear zH;go_wp2_with fail
 go_ret;exact⟨rfl,w2,uq HK2,by rfl⟩
set_option maxHeartbeats 2000000 in
theorem zfR (rb:Nat) (kk nn pp:Int) (S:ByteArray) (w:World) (hne:(kk==0)=true) (T1:Hid (zhy rb kk nn pp S w)):
  Calls Tryz.prog 91 #[.pointer (some ⟨rb,0,none⟩)] w λe w'=>e= .returned .nilIface/\Keep w w':=by
 have HK:=zh (zk w);have hne2:(kk !=0)=false:=by simp[bne,hne]
 have fk:=zj1;go_enter Tryz.func91,Tryz.ntmps91;go_wp2_with fail
 (refine((uq T1) _ (uq HK)).mono ?_;rintro e w2 ⟨rfl,hk⟩;have HK2:=zh hk;clear hk);go_wp2_with fail
 go_ret;exact⟨rfl,uq HK2⟩
set_option maxHeartbeats 2000000 in
theorem zhx (rb:Nat) (kk nn pp:Int) (S:ByteArray) (w:World) (hne:(kk==0)=false) (T1:Hid (zhy rb kk nn pp S w)) (T2:Hid (zek rb pp w)):
  Calls Tryz.prog 91 #[.pointer (some ⟨rb,0,none⟩)] w λe w'=>e= .returned (flt (50,pp))/\Keep w w':=by
 have HK:=zh (zk w);have hne2:(kk !=0)=true:=by simp[bne,hne]
 have fk:=zj1;go_enter Tryz.func91,Tryz.ntmps91;go_wp2_with fail
 (refine((uq T1) _ (uq HK)).mono ?_;rintro e w2 ⟨rfl,hk⟩;have HK2:=zh hk;clear hk);go_wp2_with fail
 (refine((uq T2) _ _ (uq HK2)).mono ?_;rintro e w3 ⟨rfl,hk⟩;have HK3:=zh ((uq HK2).trans hk);clear hk);go_wp2_with fail
 go_ret;exact⟨rfl,uq HK3⟩
end Go.Proofs.YthceiikgecoimaaGreatDoor
