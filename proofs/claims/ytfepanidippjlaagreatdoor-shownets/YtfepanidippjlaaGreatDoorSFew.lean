/- The chapter's example is shown as it stands. -/
import Derived.Test.YtfepanidippjlaaGreatDoorSSho
import Derived.Test.YtfepanidippjlaaGreatDoorLKind
import Derived.Test.YtfepanidippjlaaGreatDoorSRed
import Derived.Test.YtfepanidippjlaaGreatDoorQParse
import Derived.Test.YtfepanidippjlaaGreatDoorLRToks
import Derived.Deep.DrawnRows
import Derived.Deep.RegionHeld
import Derived.Test.YtfepanidippjlaaGreatDoorSShw
import Derived.Test.YtfepanidippjlaaGreatDoorQOne
namespace Go.Proofs.YtfepanidippjlaaGreatDoor
open Go.RowKit
attribute [local go_sem ↓] Go.wp_at_zero Go.wp_at_succ
set_option linter.unusedVariables false
set_option linter.unusedSimpArgs false
set_option maxRecDepth 100000
namespace S
def smp:List UInt8:= [99,121,99,108,101,32,54,48,48,32,116,111,32,57,48,48,32,98,121,32,49,48,59,10,112,101,97,107,32,49,47,49,59,10,110,111,100,101,32,97,32,123,10,32,32,104,101,97,100,32]++([110,32,118,111,108,117,109,101,32,52,48,48,32,102,108,111,119,32,49,56,48,48,32,117,115,101,32,49,47,49,32,115,112,101,101,100,32,49,53,48,48,32,103,114,97,100,101,32,45,50]++([48,32,119,105,100,116,104,32,49,56,48,48,32,108,101,110,103,116,104,32,54,48,48,32,103,114,101,101,110,32,55,48,59,10,32,32,119,97,108,107,32,119,32,119,105,116,104,32,112,32]++([108,111,110,103,32,49,53,48,48,32,112,97,99,101,32,49,50,48,32,108,101,97,115,116,32,55,48,59,10,32,32,112,104,97,115,101,32,112,58,32,110,44,32,101,59,10,32,32,103,114]++([111,117,112,32,123,10,32,32,32,32,114,105,110,103,32,102,114,101,101,32,112,44,32,113,59,10,32,32,125,10,32,32,102,111,101,32,110,32,101,59,10,125,10,97,114,116,101,114,121,32]++([123,10,32,32,115,116,111,112,32,97,32,111,117,116,32,110,32,105,110,32,101,32,97,104,101,97,100,32,48,32,98,97,99,107,32,48,59,10,32,32,119,101,105,103,104,116,115,32,50,32]++([49,59,10,125,10]))))))
def zjN:List D:= [dI 600,dI 900,dI 10,dI 1,dI 1,.row 46 7 [[dS [97],.row 84 11 [[dS [110],dI 400,dI 1800,dI 1,dI 1,dI 1500,dI (-20),dI 1800,dI 600,dI 70,dI 50]],.row 86 6 [[dS [119],dS [112],dI 1500,dI 120,dI 70,dI 141]],.row 88 3 [[dS [112],.row 9 1 [[dS [110]],[dS [101]]],dI 187]],.row 91 1 [[.row 93 2 [[dB true,.row 9 1 [[dS [112]],[dS [113]]]]]]],.row 95 3 [[dS [110],dS [101],dI 236]],dI 39]],.row 49 6 [[dS [97],dS [110],dS [101],dI 0,dI 0,dI 259]],dI 2,dI 1]
theorem zit:smp.length=305:=by decide
theorem zjO:N smp= .ok zjN:=by kernel_rfl
theorem zqj:dg (600)= [54,48,48]:=by simp[dg,Lib.itoa,Lib.decDigits]
theorem zqk:dg (900)= [57,48,48]:=by simp[dg,Lib.itoa,Lib.decDigits]
theorem zqK:dg (10)= [49,48]:=by simp[dg,Lib.itoa,Lib.decDigits]
theorem dg1:dg (1)= [49]:=by simp[dg,Lib.itoa,Lib.decDigits]
theorem zql:dg (400)= [52,48,48]:=by simp[dg,Lib.itoa,Lib.decDigits]
theorem zo2:dg (1800)= [49,56,48,48]:=by simp[dg,Lib.itoa,Lib.decDigits]
theorem zo3:dg (1500)= [49,53,48,48]:=by simp[dg,Lib.itoa,Lib.decDigits]
theorem zqm:dg (-20)= [45,50,48]:=by simp[dg,Lib.itoa,Lib.decDigits]
theorem zqL:dg (70)= [55,48]:=by simp[dg,Lib.itoa,Lib.decDigits]
theorem zqn:dg (120)= [49,50,48]:=by simp[dg,Lib.itoa,Lib.decDigits]
theorem dg0:dg (0)= [48]:=by simp[dg,Lib.itoa,Lib.decDigits]
theorem dg2:dg (2)= [50]:=by simp[dg,Lib.itoa,Lib.decDigits]
theorem zm0:txt zjN=smp:=by
 have e:zdB zjN= [[99,121,99,108,101],[54,48,48],[116,111],[57,48,48],[98,121],[49,48],[59],[112,101,97,107],[49],[47],[49],[59],[110,111,100,101],[97],[123],[104,101,97,100],[110],[118,111,108,117,109,101],[52,48,48],[102,108,111,119],[49,56,48,48],[117,115,101],[49],[47],[49],[115,112,101,101,100],[49,53,48,48],[103,114,97,100,101],[45,50,48],[119,105,100,116,104],[49,56,48,48],[108,101,110,103,116,104],[54,48,48],[103,114,101,101,110],[55,48],[59],[119,97,108,107],[119],[119,105,116,104],[112],[108,111,110,103],[49,53,48,48],[112,97,99,101],[49,50,48],[108,101,97,115,116],[55,48],[59],[112,104,97,115,101],[112],[58],[110],[44],[101],[59],[103,114,111,117,112],[123],[114,105,110,103],[102,114,101,101],[112],[44],[113],[59],[125],[102,111,101],[110],[101],[59],[125],[97,114,116,101,114,121],[123],[115,116,111,112],[97],[111,117,116],[110],[105,110],[101],[97,104,101,97,100],[48],[98,97,99,107],[48],[59],[119,101,105,103,104,116,115],[50],[49],[59],[125]]:=by
  simp only[zdB,zbM,zhK,zcT,zfj,za9,zcL,rw1,zbF,zcS,zb6,hw,lw,nms,zjN,gt,fL,fI,fB,dI,dB,List.getD_cons_zero,List.getD_cons_succ,List.flatMap_cons,List.flatMap_nil,List.map_cons,List.map_nil,zcu,zqj,zqk,zqK,dg1,zql,zo2,zo3,zqm,zqL,zqn,dg0,dg2]
  rfl
 unfold txt
 rw[e]
 rfl
set_option maxHeartbeats 1000000 in
theorem zfx (w:World):Calls Tryz.prog 32 #[] w fun e w'=>e= .returned (.string (sv smp))∧w'=w:=by
 go_enter Tryz.func32,Tryz.ntmps32;go_wp2_with fail
 go_ret;exact⟨by kernel_rfl,rfl⟩
def PqS (w:World) (e:Ending) (w':World):Prop:=Keep w w'∧∃ a0 a1 a2 a3 a4 aN nN cN aS nS cS a5 a6,e= .returned (.tuple #[.agg #[.int .i64 a0,.int .i64 a1,.int .i64 a2,.int .i64 a3,.int .i64 a4,.slice aN nN cN,.slice aS nS cS,.int .i64 a5,.int .i64 a6],.int .i64 0,.int .i64 0])∧Rvs w' zjN [.int .i64 a0,.int .i64 a1,.int .i64 a2,.int .i64 a3,.int .i64 a4,.slice aN nN cN,.slice aS nS cS,.int .i64 a5,.int .i64 a6]
theorem zgH (v:Value) (w:World) (h:By w v smp):Calls Tryz.prog 31 #[v] w (PqS w):=by
 have key:Calls Tryz.prog 31 #[v] w (Q.Pp (.ok zjN) w):=by
  cases hT:T smp with
  |error x=>
   have eN:N smp= .error (x.1,(x.2:Int)):=by unfold N;rw[hT]
   rw[zjO]at eN;cases eN
  |ok L=>
   have eN:N smp=Q.fstE (zg7 L):=by
    unfold N;rw[hT]
    show(match zg7 L with| .error x=>Except.error x| .ok (c,_)=>Except.ok c)=_;rcases zg7 L with x|⟨c,r⟩<;>rfl
   rw[← zjO,eN];refine Q.parse_ok v L w (hide (Q.T_wq (by rw[zit];decide) hT)) (hide fun w' hk=>?_);have:=zdR v smp w' (by rw[zit];decide) (h.keep hk);rwa[hT]at this
 refine key.mono ?_;rintro e w' ⟨hk,u0,u1,u2,u3,u4,a5,n5,c5,a6,n6,c6,u7,u8,rfl,hr⟩;exact⟨hk,u0,u1,u2,u3,u4,a5,n5,c5,a6,n6,c6,u7,u8,rfl,Rds.rv _ _ _ hr⟩
def zo4:List D:= [dI (-1),dI 0,dI 0,dI 0,dI 0,.row 46 7 [],.row 49 6 [],dI 0,dI 0]
theorem zo5:ShL zct zo4:=by
 simp only[ShL,Sh1,zct,zo4];exact⟨_,_,rfl,⟨_,rfl,by decide,by decide⟩,⟨_,_,rfl,⟨_,rfl,by decide,by decide⟩,⟨_,_,rfl,⟨_,rfl,by decide,by decide⟩,⟨_,_,rfl,⟨_,rfl,by decide,by decide⟩,⟨_,_,rfl,⟨_,rfl,by decide,by decide⟩,⟨_,_,rfl,⟨_,rfl,by decide,fun x hx=>by cases hx⟩,⟨_,_,rfl,⟨_,rfl,by decide,fun x hx=>by cases hx⟩,⟨_,_,rfl,⟨_,rfl,by decide,by decide⟩,⟨_,_,rfl,⟨_,rfl,by decide,by decide⟩,rfl⟩⟩⟩⟩⟩⟩⟩⟩⟩
theorem zqo:zcs zo4=false:=by kernel_rfl
theorem zo6 (w:World):Rvs w zo4 [.int .i64 (-1),.int .i64 0,.int .i64 0,.int .i64 0,.int .i64 0,.slice none 0 0,.slice none 0 0,.int .i64 0,.int .i64 0]:=by
 simp only[zo4,Rvs,Rv,dI];exact⟨_,_,rfl,rfl,_,_,rfl,rfl,_,_,rfl,rfl,_,_,rfl,rfl,_,_,rfl,rfl,_,_,rfl,⟨none,0,rfl,Nat.le_refl _,trivial⟩,_,_,rfl,⟨none,0,rfl,Nat.le_refl _,trivial⟩,_,_,rfl,rfl,_,_,rfl,rfl,rfl⟩
set_option maxHeartbeats 8000000 in
theorem zgI (S:ByteArray) (out:List UInt8) (cs:List D) (w:World) (HSS:Hid (sv out=S))
  (T0:Hid (∀ w',Calls Tryz.prog 32 #[] w' fun e w''=>e= .returned (.string S)∧w''=w'))
  (T1:Hid (∀ w' v,By w' v out→Calls Tryz.prog 31 #[v] w' fun e w''=>Keep w' w''∧∃ a0 a1 a2 a3 a4 aN nN cN aS nS cS a5 a6,e= .returned (.tuple #[.agg #[.int .i64 a0,.int .i64 a1,.int .i64 a2,.int .i64 a3,.int .i64 a4,.slice aN nN cN,.slice aS nS cS,.int .i64 a5,.int .i64 a6],.int .i64 0,.int .i64 0])∧Rvs w'' cs [.int .i64 a0,.int .i64 a1,.int .i64 a2,.int .i64 a3,.int .i64 a4,.slice aN nN cN,.slice aS nS cS,.int .i64 a5,.int .i64 a6]))
  (T2:Hid (∀ w' us,Keep w w'→Rvs w' cs us→Calls Tryz.prog 8 #[.agg us.toArray] w' (ShP out w')))
  (T3:Hid (∀ w' us,Rvs w' cs us→Calls Tryz.prog 10 #[.agg us.toArray] w' fun e w''=>e= .returned (.bool true)∧Keep w' w''))
  (T4:Hid (∀ w',Calls Tryz.prog 10 #[.agg #[.int .i64 (-1),.int .i64 0,.int .i64 0,.int .i64 0,.int .i64 0,.slice none 0 0,.slice none 0 0,.int .i64 0,.int .i64 0]] w' fun e w''=>e= .returned (.bool false)∧Keep w' w'')):
  Calls Tryz.prog 12 #[] w fun e w'=>e= .returned (.bool true)∧Keep w w':=by
 go_enter Tryz.func12,Tryz.ntmps12;go_wp2_with fail
 (refine((uq T0) _).mono ?_;rintro e w ⟨rfl,rfl⟩);obtain⟨cp,o,kk,hcv,hby⟩:=zeb w S;have cv:=hcv 9 29 Tryz.underlying9 Tryz.underlying29;rw[← uq HSS,zdh,uq HSS]at hby;have HBY:=hide hby;have HX:=hide (zab (Keep.refl w) #[o] kk);clear hcv hby;go_wp2_with fail
 (refine((uq T1) _ _ (uq HBY)).mono ?_;rintro e w4 ⟨hk,a0,a1,a2,a3,a4,aN,nN,cN,aS,nS,cS,a5,a6,rfl,hr⟩;have HK4:=hide ((uq HX).trans hk);have HR:=hide hr;clear hk hr);clear cv HBY HX
 go_upto_region 2 with fail
 have n1:=heap_alloc_new w4 (.cells #[.int .i64 a0,.int .i64 a1,.int .i64 a2,.int .i64 a3,.int .i64 a4,.slice aN nN cN,.slice aS nS cS,.int .i64 a5,.int .i64 a6] 27);have HK5:=hide ((uq HK4).alloc (.cells #[.int .i64 a0,.int .i64 a1,.int .i64 a2,.int .i64 a3,.int .i64 a4,.slice aN nN cN,.slice aS nS cS,.int .i64 a5,.int .i64 a6] 27));have HR5:=hide (Rvs.keep ((Keep.refl w4).alloc (.cells #[.int .i64 a0,.int .i64 a1,.int .i64 a2,.int .i64 a3,.int .i64 a4,.slice aN nN cN,.slice aS nS cS,.int .i64 a5,.int .i64 a6] 27)) _ _ (uq HR));generalize w4.alloc (.cells #[.int .i64 a0,.int .i64 a1,.int .i64 a2,.int .i64 a3,.int .i64 a4,.slice aN nN cN,.slice aS nS cS,.int .i64 a5,.int .i64 a6] 27)=w5 at n1 HK5 HR5 ⊢;generalize w4.heap.size=xb at n1 ⊢;clear HK4 HR;have ca0:w5.cell? ⟨xb,0,none⟩=some (.int .i64 a0):=by simp[World.cell?,n1]
 have ca1:w5.cell? ⟨xb,1,none⟩=some (.int .i64 a1):=by simp[World.cell?,n1]
 have ca2:w5.cell? ⟨xb,2,none⟩=some (.int .i64 a2):=by simp[World.cell?,n1]
 have ca3:w5.cell? ⟨xb,3,none⟩=some (.int .i64 a3):=by simp[World.cell?,n1]
 have ca4:w5.cell? ⟨xb,4,none⟩=some (.int .i64 a4):=by simp[World.cell?,n1]
 have ca5:w5.cell? ⟨xb,5,none⟩=some (.slice aN nN cN):=by simp[World.cell?,n1]
 have ca6:w5.cell? ⟨xb,6,none⟩=some (.slice aS nS cS):=by simp[World.cell?,n1]
 have ca7:w5.cell? ⟨xb,7,none⟩=some (.int .i64 a5):=by simp[World.cell?,n1]
 have ca8:w5.cell? ⟨xb,8,none⟩=some (.int .i64 a6):=by simp[World.cell?,n1]
 have N1:=hide n1;clear n1;go_wp2_with fail
 (refine((uq T2) _ _ (uq HK5) (uq HR5)).mono ?_;rintro e w6 ⟨vb,rfl,hb,hk⟩;have HB6:=hide hb;have HK56:=hide hk;have HK6:=hide ((uq HK5).trans hk);clear hb hk);clear ca0 ca1 ca2 ca3 ca4 ca5 ca6 ca7 ca8;have HSX:Hid (∀ w',Keep w6 w'→w'.cell? ⟨xb,0,none⟩=some (.int .i64 a0)∧w'.cell? ⟨xb,1,none⟩=some (.int .i64 a1)∧w'.cell? ⟨xb,2,none⟩=some (.int .i64 a2)∧w'.cell? ⟨xb,3,none⟩=some (.int .i64 a3)∧w'.cell? ⟨xb,4,none⟩=some (.int .i64 a4)∧w'.cell? ⟨xb,5,none⟩=some (.slice aN nN cN)∧w'.cell? ⟨xb,6,none⟩=some (.slice aS nS cS)∧w'.cell? ⟨xb,7,none⟩=some (.int .i64 a5)∧w'.cell? ⟨xb,8,none⟩=some (.int .i64 a6)∧(convert 29 9 vb).run Tryz.prog w'= .ok (.string S) w'):=hide (fun w' k9=>by
  have hx:=((uq HK56).trans k9).block xb (Array.getElem?_eq_some_iff.1 (uq N1)).1;rw[uq N1]at hx;refine⟨by simp[World.cell?,hx],by simp[World.cell?,hx],by simp[World.cell?,hx],by simp[World.cell?,hx],by simp[World.cell?,hx],by simp[World.cell?,hx],by simp[World.cell?,hx],by simp[World.cell?,hx],by simp[World.cell?,hx],?_⟩;have:=zid ((uq HB6).keep k9) (t:=29) (u:=9) Tryz.underlying29 Tryz.underlying9;rw[uq HSS]at this;exact this)
 have HR6:=hide (Rvs.keep (uq HK56) _ _ (uq HR5))
 go_upto_region 3 with fail
 refine wp_region_held_drew (S:=fun w'=>w'.cell? ⟨xb,0,none⟩=some (.int .i64 a0)∧w'.cell? ⟨xb,1,none⟩=some (.int .i64 a1)∧w'.cell? ⟨xb,2,none⟩=some (.int .i64 a2)∧w'.cell? ⟨xb,3,none⟩=some (.int .i64 a3)∧w'.cell? ⟨xb,4,none⟩=some (.int .i64 a4)∧w'.cell? ⟨xb,5,none⟩=some (.slice aN nN cN)∧w'.cell? ⟨xb,6,none⟩=some (.slice aS nS cS)∧w'.cell? ⟨xb,7,none⟩=some (.int .i64 a5)∧w'.cell? ⟨xb,8,none⟩=some (.int .i64 a6)∧(convert 29 9 vb).run Tryz.prog w'= .ok (.string S) w') (by kernel_rfl) (by exact(uq HSX) _ (by repeat(first|apply Keep.drew|exact Keep.refl _))) (fun hHeld=>?_);refine tkk 0 18 hHeld ?_;try simp only[Act.put,Ya,Yb,Yc]
 refine tkk 1 19 hHeld ?_;try simp only[Act.put,Ya,Yb,Yc]
 refine tkk 2 20 hHeld ?_;try simp only[Act.put,Ya,Yb,Yc]
 refine tkk 3 21 hHeld ?_;try simp only[Act.put,Ya,Yb,Yc]
 refine tkk 4 22 hHeld ?_;try simp only[Act.put,Ya,Yb,Yc]
 refine tkk 5 23 hHeld ?_;try simp only[Act.put,Ya,Yb,Yc]
 refine tkk 6 24 hHeld ?_;try simp only[Act.put,Ya,Yb,Yc]
 refine tkk 7 25 hHeld ?_;try simp only[Act.put,Ya,Yb,Yc]
 refine zaC 8 (fun K hK=>?_);go_simp;clear hHeld;(refine((uq T3) _ _ (Rvs.keep (Keep.refl w6).drew _ _ (uq HR6))).mono ?_;rintro e w7 ⟨rfl,hk⟩;have HX7:=hide (((Keep.refl w6).drew).trans hk);clear hk);try go_wp2_with fail
 refine hK.out _ _ ?_ (fun hHeld=>?_)
 ·exact(uq HSX) _ (uq HX7)
 clear hK K;try simp only[Act.put,Ya,Yb,Yc]
 refine tkk 9 27 hHeld ?_;try simp only[Act.put,Ya,Yb,Yc]
 refine tkk 10 28 hHeld ?_;try simp only[Act.put,Ya,Yb,Yc]
 refine tkk 11 29 hHeld ?_;try simp only[Act.put,Ya,Yb,Yc]
 refine tkk 12 30 hHeld ?_;try simp only[Act.put,Ya,Yb,Yc]
 refine zaC 13 (fun K hK=>?_);go_simp;clear hHeld;(refine((uq T0) _).mono ?_;rintro e w7 ⟨rfl,rfl⟩);try go_wp2_with fail
 refine hK.out _ _ ?_ (fun hHeld=>?_)
 ·exact(uq HSX) _ (uq HX7)
 clear hK K;try simp only[Act.put,Ya,Yb,Yc]
 refine tkk 14 32 hHeld ?_;try simp only[Act.put,Ya,Yb,Yc]
 refine tkk 15 33 hHeld ?_;try simp only[Act.put,Ya,Yb,Yc]
 refine tkk 16 34 hHeld ?_;try simp only[Act.put,Ya,Yb,Yc]
 refine tkk 17 35 hHeld ?_;try simp only[Act.put,Ya,Yb,Yc]
 refine zaC 18 (fun K hK=>?_);go_simp;clear hHeld;(refine((uq T4) _).mono ?_;rintro e w8 ⟨rfl,hk⟩;have HX8:=hide ((uq HX7).trans hk);clear hk);try go_wp2_with fail
 refine hK.out _ _ ?_ (fun hHeld=>?_)
 ·exact(uq HSX) _ (uq HX8)
 clear hK K;try simp only[Act.put,Ya,Yb,Yc]
 refine tkk 19 37 hHeld ?_;try simp only[Act.put,Ya,Yb,Yc]
 refine tkk 20 38 hHeld ?_;try simp only[Act.put,Ya,Yb,Yc]
 refine tkk 21 0 hHeld ?_;try simp only[Act.put,Ya,Yb,Yc]
 refine wpAnyH_done (by kernel_rfl) ?_ _;clear hHeld;go_wp2_with fail
 go_ret;exact⟨rfl,(uq HK6).trans (uq HX8)⟩
theorem ziu (w:World) (ht:Tab w):Calls Tryz.prog 12 #[] w fun e w'=>e= .returned (.bool true)∧Keep w w':=by
 have hB:zcs zjN=true:=(zef zjO).2;have hS:ShL zct zjN:=(zef zjO).1;refine zgI (sv smp) smp zjN w rfl (hide zfx) (hide fun w' v h=>zgH v w' h) (hide fun w' us hk hr=>?_) (hide fun w' us hr=>?_) (hide fun w'=>?_)
 ·have:=zf0 hS hB hr (ht.keep hk);rwa[zm0]at this
 ·have:=zcw hS hr;rwa[hB]at this
 ·have:=zcw zo5 (zo6 w');rwa[zqo]at this
end S
end Go.Proofs.YtfepanidippjlaaGreatDoor
namespace Go.Proofs.YtfepanidippjlaaGreatDoor
open Go.RowKit
attribute [local go_sem ↓] Go.wp_at_zero Go.wp_at_succ
set_option linter.unusedVariables false
set_option linter.unusedSimpArgs false
set_option maxRecDepth 10000
namespace S
def Rw (w:World) (v:Value):Prop:=∃(a:Option Addr) (n cap:Nat) (X:Nat→ByteArray),v= .slice a n cap∧n≤cap∧∀ k,k<n→∃ ad,a=some ad∧ad.block<w.heap.size∧w.cell? (ad.add k)=some (.string (X k))
theorem Rw.keep {w w':World} {v:Value} (h:Rw w v) (k:Keep w w'):Rw w' v:=by
 obtain⟨a,n,cap,X,rfl,hc,h⟩:=h;refine⟨a,n,cap,X,rfl,hc,fun j hj=>?_⟩;obtain⟨ad,e,hb,h1⟩:=h j hj;exact⟨ad,e,Nat.lt_of_lt_of_le hb k.size,Q.kcell k h1⟩
def Ab (w:World) (e:Ending) (w':World):Prop:=∃ b,e= .returned (.bool b)∧w'=w
def Ak (w:World) (e:Ending) (w':World):Prop:=∃ b,e= .returned (.bool b)∧Keep w w'
set_option maxHeartbeats 2000000 in
theorem ziv (a:Option Addr) (n cap:Nat) (X:Nat→ByteArray) (w:World) (HC:Hid (∀ k,k<n→∃ ad,a=some ad∧w.cell? (ad.add k)=some (.string (X k)))):
  Calls Tryz.prog 16 #[.slice a n cap] w (Ab w):=by
 go_enter Tryz.func16,Tryz.ntmps16;go_wp2_with fail
 go_loopw [3] (fun vi wr=>∃ k:Nat,k≤n∧vi= .int .i64 (k:Int)∧wr=w) (fun vi _=>n - (intOf vi).toNat)
 case atStart=>exact⟨0,Nat.zero_le _,rfl,rfl⟩
 case round=>
  obtain⟨k,hk,rfl,rfl⟩:=hrel;by_cases hlt:k<n
  ·have li:(k:Int)<(n:Int):=by omega
   by_cases h5:k<50
   ·have l5:(k:Int)<50:=by omega
    obtain⟨ad,rfl,e0⟩:=(uq HC) k hlt;by_cases h1:(100:Int)<((X k).size:Int)
    ·go_wp2_with fail
     go_ret;exact⟨_,rfl,rfl⟩
    ·go_wp2_with fail
     go_roundw
     case rel=>exact⟨k+1,hlt,by go_num,by first|rfl|trivial⟩
     case measure=>simp[intOf];omega
   ·have l5:¬(k:Int)<50:=by omega
    go_wp2_with fail
    go_ret;exact⟨_,rfl,rfl⟩
  ·have li:¬(k:Int)<(n:Int):=by omega
   go_wp2_with fail
   go_ret;exact⟨_,rfl,rfl⟩
theorem zf4 (v:Value) (w:World) (h:Rw w v):Calls Tryz.prog 16 #[v] w (Ab w):=by
 obtain⟨a,n,cap,X,rfl,_,h⟩:=h;exact ziv a n cap X w (hide fun k hk=>by obtain⟨ad,e,_,h1⟩:=h k hk;exact⟨ad,e,h1⟩)
end S
end Go.Proofs.YtfepanidippjlaaGreatDoor
