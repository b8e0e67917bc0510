/- ShowNets: Show answers as the document says: the same text or the same error; Right says of a network what the document says. For any network the law's call returns true. -/
import Derived.Test.YtfepanidippjlaaGreatDoorQLoop
import Derived.Test.YtfepanidippjlaaGreatDoorLEnd
import Derived.Test.YtfepanidippjlaaGreatDoorQParse
import Derived.Test.YtfepanidippjlaaGreatDoorLRight
import Derived.Deep.DrawnRows
import Derived.Deep.RegionHeld
import Derived.Test.YtfepanidippjlaaGreatDoorCards
import Derived.Test.YtfepanidippjlaaGreatDoorTie
import Derived.Test.YtfepanidippjlaaGreatDoorLNtA
import Derived.Test.YtfepanidippjlaaGreatDoorSRgt
import Derived.LaidLaws
import Derived.LaidHandle
import Derived.LaidMore
import Derived.SevenTiedAt
namespace Go.Proofs.YtfepanidippjlaaGreatDoor
open Go.RowKit
attribute [local go_sem ↓] Go.wp_at_zero Go.wp_at_succ
set_option linter.unusedVariables false
set_option linter.unusedSimpArgs false
set_option maxRecDepth 100000
namespace S
def smp:List UInt8:= [99,121,99,108,101,32,54,48,48,32,116,111,32,57,48,48,32,98,121,32,49,48,59,10,112,101,97,107,32,49,47,49,59,10,110,111,100,101,32,97,32,123,10,32,32,104,101,97,100,32]++([110,32,118,111,108,117,109,101,32,52,48,48,32,102,108,111,119,32,49,56,48,48,32,117,115,101,32,49,47,49,32,115,112,101,101,100,32,49,53,48,48,32,103,114,97,100,101,32,45,50]++([48,32,119,105,100,116,104,32,49,56,48,48,32,108,101,110,103,116,104,32,54,48,48,32,103,114,101,101,110,32,55,48,59,10,32,32,119,97,108,107,32,119,32,119,105,116,104,32,112,32]++([108,111,110,103,32,49,53,48,48,32,112,97,99,101,32,49,50,48,32,108,101,97,115,116,32,55,48,59,10,32,32,112,104,97,115,101,32,112,58,32,110,44,32,101,59,10,32,32,103,114]++([111,117,112,32,123,10,32,32,32,32,114,105,110,103,32,102,114,101,101,32,112,44,32,113,59,10,32,32,125,10,32,32,102,111,101,32,110,32,101,59,10,125,10,97,114,116,101,114,121,32]++([123,10,32,32,115,116,111,112,32,97,32,111,117,116,32,110,32,105,110,32,101,32,97,104,101,97,100,32,48,32,98,97,99,107,32,48,59,10,32,32,119,101,105,103,104,116,115,32,50,32]++([49,59,10,125,10]))))))
def zjW:List D:= [dI 600,dI 900,dI 10,dI 1,dI 1,.row 46 7 [[dS [97],.row 84 11 [[dS [110],dI 400,dI 1800,dI 1,dI 1,dI 1500,dI (-20),dI 1800,dI 600,dI 70,dI 50]],.row 86 6 [[dS [119],dS [112],dI 1500,dI 120,dI 70,dI 141]],.row 88 3 [[dS [112],.row 9 1 [[dS [110]],[dS [101]]],dI 187]],.row 91 1 [[.row 93 2 [[dB true,.row 9 1 [[dS [112]],[dS [113]]]]]]],.row 95 3 [[dS [110],dS [101],dI 236]],dI 39]],.row 49 6 [[dS [97],dS [110],dS [101],dI 0,dI 0,dI 259]],dI 2,dI 1]
theorem ziM:smp.length=305:=by decide
theorem zjX:N smp= .ok zjW:=by kernel_rfl
theorem zqm:dg (600)= [54,48,48]:=by simp[dg,Lib.itoa,Lib.decDigits]
theorem zqn:dg (900)= [57,48,48]:=by simp[dg,Lib.itoa,Lib.decDigits]
theorem zqK:dg (10)= [49,48]:=by simp[dg,Lib.itoa,Lib.decDigits]
theorem dg1:dg (1)= [49]:=by simp[dg,Lib.itoa,Lib.decDigits]
theorem zqo:dg (400)= [52,48,48]:=by simp[dg,Lib.itoa,Lib.decDigits]
theorem zpt:dg (1800)= [49,56,48,48]:=by simp[dg,Lib.itoa,Lib.decDigits]
theorem zpu:dg (1500)= [49,53,48,48]:=by simp[dg,Lib.itoa,Lib.decDigits]
theorem zqp:dg (-20)= [45,50,48]:=by simp[dg,Lib.itoa,Lib.decDigits]
theorem zqL:dg (70)= [55,48]:=by simp[dg,Lib.itoa,Lib.decDigits]
theorem zqq:dg (120)= [49,50,48]:=by simp[dg,Lib.itoa,Lib.decDigits]
theorem dg0:dg (0)= [48]:=by simp[dg,Lib.itoa,Lib.decDigits]
theorem dg2:dg (2)= [50]:=by simp[dg,Lib.itoa,Lib.decDigits]
theorem zne:txt zjW=smp:=by
 have e:zdB zjW= [[99,121,99,108,101],[54,48,48],[116,111],[57,48,48],[98,121],[49,48],[59],[112,101,97,107],[49],[47],[49],[59],[110,111,100,101],[97],[123],[104,101,97,100],[110],[118,111,108,117,109,101],[52,48,48],[102,108,111,119],[49,56,48,48],[117,115,101],[49],[47],[49],[115,112,101,101,100],[49,53,48,48],[103,114,97,100,101],[45,50,48],[119,105,100,116,104],[49,56,48,48],[108,101,110,103,116,104],[54,48,48],[103,114,101,101,110],[55,48],[59],[119,97,108,107],[119],[119,105,116,104],[112],[108,111,110,103],[49,53,48,48],[112,97,99,101],[49,50,48],[108,101,97,115,116],[55,48],[59],[112,104,97,115,101],[112],[58],[110],[44],[101],[59],[103,114,111,117,112],[123],[114,105,110,103],[102,114,101,101],[112],[44],[113],[59],[125],[102,111,101],[110],[101],[59],[125],[97,114,116,101,114,121],[123],[115,116,111,112],[97],[111,117,116],[110],[105,110],[101],[97,104,101,97,100],[48],[98,97,99,107],[48],[59],[119,101,105,103,104,116,115],[50],[49],[59],[125]]:=by
  simp only[zdB,zbM,zhK,zcT,zfj,za9,zcL,rw1,zbF,zcS,zb6,hw,lw,nms,zjW,gt,fL,fI,fB,dI,dB,List.getD_cons_zero,List.getD_cons_succ,List.flatMap_cons,List.flatMap_nil,List.map_cons,List.map_nil,zcu,zqm,zqn,zqK,dg1,zqo,zpt,zpu,zqp,zqL,zqq,dg0,dg2]
  rfl
 unfold txt
 rw[e]
 rfl
set_option maxHeartbeats 1000000 in
theorem zfC (w:World):Calls Tryz.prog 32 #[] w fun e w'=>e= .returned (.string (sv smp))∧w'=w:=by
 go_enter Tryz.func32,Tryz.ntmps32;go_wp2_with fail
 go_ret;exact⟨by kernel_rfl,rfl⟩
def PqS (w:World) (e:Ending) (w':World):Prop:=Keep w w'∧∃ a0 a1 a2 a3 a4 aN nN cN aS nS cS a5 a6,e= .returned (.tuple #[.agg #[.int .i64 a0,.int .i64 a1,.int .i64 a2,.int .i64 a3,.int .i64 a4,.slice aN nN cN,.slice aS nS cS,.int .i64 a5,.int .i64 a6],.int .i64 0,.int .i64 0])∧Rvs w' zjW [.int .i64 a0,.int .i64 a1,.int .i64 a2,.int .i64 a3,.int .i64 a4,.slice aN nN cN,.slice aS nS cS,.int .i64 a5,.int .i64 a6]
theorem zgT (v:Value) (w:World) (h:By w v smp):Calls Tryz.prog 31 #[v] w (PqS w):=by
 have key:Calls Tryz.prog 31 #[v] w (Q.Pp (.ok zjW) w):=by
  cases hT:T smp with
  |error x=>
   have eN:N smp= .error (x.1,(x.2:Int)):=by unfold N;rw[hT]
   rw[zjX]at eN;cases eN
  |ok L=>
   have eN:N smp=Q.fstE (zg7 L):=by
    unfold N;rw[hT]
    show(match zg7 L with| .error x=>Except.error x| .ok (c,_)=>Except.ok c)=_;rcases zg7 L with x|⟨c,r⟩<;>rfl
   rw[← zjX,eN];refine Q.parse_ok v L w (hide (Q.T_wq (by rw[ziM];decide) hT)) (hide fun w' hk=>?_);have:=zdR v smp w' (by rw[ziM];decide) (h.keep hk);rwa[hT]at this
 refine key.mono ?_;rintro e w' ⟨hk,u0,u1,u2,u3,u4,a5,n5,c5,a6,n6,c6,u7,u8,rfl,hr⟩;exact⟨hk,u0,u1,u2,u3,u4,a5,n5,c5,a6,n6,c6,u7,u8,rfl,Rds.rv _ _ _ hr⟩
def zpv:List D:= [dI (-1),dI 0,dI 0,dI 0,dI 0,.row 46 7 [],.row 49 6 [],dI 0,dI 0]
theorem zpw:ShL zct zpv:=by
 simp only[ShL,Sh1,zct,zpv];exact⟨_,_,rfl,⟨_,rfl,by decide,by decide⟩,⟨_,_,rfl,⟨_,rfl,by decide,by decide⟩,⟨_,_,rfl,⟨_,rfl,by decide,by decide⟩,⟨_,_,rfl,⟨_,rfl,by decide,by decide⟩,⟨_,_,rfl,⟨_,rfl,by decide,by decide⟩,⟨_,_,rfl,⟨_,rfl,by decide,fun x hx=>by cases hx⟩,⟨_,_,rfl,⟨_,rfl,by decide,fun x hx=>by cases hx⟩,⟨_,_,rfl,⟨_,rfl,by decide,by decide⟩,⟨_,_,rfl,⟨_,rfl,by decide,by decide⟩,rfl⟩⟩⟩⟩⟩⟩⟩⟩⟩
theorem zqr:zcs zpv=false:=by kernel_rfl
theorem zpx (w:World):Rvs w zpv [.int .i64 (-1),.int .i64 0,.int .i64 0,.int .i64 0,.int .i64 0,.slice none 0 0,.slice none 0 0,.int .i64 0,.int .i64 0]:=by
 simp only[zpv,Rvs,Rv,dI];exact⟨_,_,rfl,rfl,_,_,rfl,rfl,_,_,rfl,rfl,_,_,rfl,rfl,_,_,rfl,rfl,_,_,rfl,⟨none,0,rfl,Nat.le_refl _,trivial⟩,_,_,rfl,⟨none,0,rfl,Nat.le_refl _,trivial⟩,_,_,rfl,rfl,_,_,rfl,rfl,rfl⟩
set_option maxHeartbeats 8000000 in
theorem zgU (S:ByteArray) (out:List UInt8) (cs:List D) (w:World) (HSS:Hid (sv out=S))
  (T0:Hid (∀ w',Calls Tryz.prog 32 #[] w' fun e w''=>e= .returned (.string S)∧w''=w'))
  (T1:Hid (∀ w' v,By w' v out→Calls Tryz.prog 31 #[v] w' fun e w''=>Keep w' w''∧∃ a0 a1 a2 a3 a4 aN nN cN aS nS cS a5 a6,e= .returned (.tuple #[.agg #[.int .i64 a0,.int .i64 a1,.int .i64 a2,.int .i64 a3,.int .i64 a4,.slice aN nN cN,.slice aS nS cS,.int .i64 a5,.int .i64 a6],.int .i64 0,.int .i64 0])∧Rvs w'' cs [.int .i64 a0,.int .i64 a1,.int .i64 a2,.int .i64 a3,.int .i64 a4,.slice aN nN cN,.slice aS nS cS,.int .i64 a5,.int .i64 a6]))
  (T2:Hid (∀ w' us,Keep w w'→Rvs w' cs us→Calls Tryz.prog 8 #[.agg us.toArray] w' (ShP out w')))
  (T3:Hid (∀ w' us,Rvs w' cs us→Calls Tryz.prog 10 #[.agg us.toArray] w' fun e w''=>e= .returned (.bool true)∧Keep w' w''))
  (T4:Hid (∀ w',Calls Tryz.prog 10 #[.agg #[.int .i64 (-1),.int .i64 0,.int .i64 0,.int .i64 0,.int .i64 0,.slice none 0 0,.slice none 0 0,.int .i64 0,.int .i64 0]] w' fun e w''=>e= .returned (.bool false)∧Keep w' w'')):
  Calls Tryz.prog 12 #[] w fun e w'=>e= .returned (.bool true)∧Keep w w':=by
 go_enter Tryz.func12,Tryz.ntmps12;go_wp2_with fail
 (refine((uq T0) _).mono ?_;rintro e w ⟨rfl,rfl⟩);obtain⟨cp,o,kk,hcv,hby⟩:=zec w S;have cv:=hcv 9 29 Tryz.underlying9 Tryz.underlying29;rw[← uq HSS,zdh,uq HSS]at hby;have HBY:=hide hby;have HX:=hide (zab (Keep.refl w) #[o] kk);clear hcv hby;go_wp2_with fail
 (refine((uq T1) _ _ (uq HBY)).mono ?_;rintro e w4 ⟨hk,a0,a1,a2,a3,a4,aN,nN,cN,aS,nS,cS,a5,a6,rfl,hr⟩;have HK4:=hide ((uq HX).trans hk);have HR:=hide hr;clear hk hr);clear cv HBY HX
 go_upto_region 2 with fail
 have n1:=heap_alloc_new w4 (.cells #[.int .i64 a0,.int .i64 a1,.int .i64 a2,.int .i64 a3,.int .i64 a4,.slice aN nN cN,.slice aS nS cS,.int .i64 a5,.int .i64 a6] 27);have HK5:=hide ((uq HK4).alloc (.cells #[.int .i64 a0,.int .i64 a1,.int .i64 a2,.int .i64 a3,.int .i64 a4,.slice aN nN cN,.slice aS nS cS,.int .i64 a5,.int .i64 a6] 27));have HR5:=hide (Rvs.keep ((Keep.refl w4).alloc (.cells #[.int .i64 a0,.int .i64 a1,.int .i64 a2,.int .i64 a3,.int .i64 a4,.slice aN nN cN,.slice aS nS cS,.int .i64 a5,.int .i64 a6] 27)) _ _ (uq HR));generalize w4.alloc (.cells #[.int .i64 a0,.int .i64 a1,.int .i64 a2,.int .i64 a3,.int .i64 a4,.slice aN nN cN,.slice aS nS cS,.int .i64 a5,.int .i64 a6] 27)=w5 at n1 HK5 HR5 ⊢;generalize w4.heap.size=xb at n1 ⊢;clear HK4 HR;have ca0:w5.cell? ⟨xb,0,none⟩=some (.int .i64 a0):=by simp[World.cell?,n1]
 have ca1:w5.cell? ⟨xb,1,none⟩=some (.int .i64 a1):=by simp[World.cell?,n1]
 have ca2:w5.cell? ⟨xb,2,none⟩=some (.int .i64 a2):=by simp[World.cell?,n1]
 have ca3:w5.cell? ⟨xb,3,none⟩=some (.int .i64 a3):=by simp[World.cell?,n1]
 have ca4:w5.cell? ⟨xb,4,none⟩=some (.int .i64 a4):=by simp[World.cell?,n1]
 have ca5:w5.cell? ⟨xb,5,none⟩=some (.slice aN nN cN):=by simp[World.cell?,n1]
 have ca6:w5.cell? ⟨xb,6,none⟩=some (.slice aS nS cS):=by simp[World.cell?,n1]
 have ca7:w5.cell? ⟨xb,7,none⟩=some (.int .i64 a5):=by simp[World.cell?,n1]
 have ca8:w5.cell? ⟨xb,8,none⟩=some (.int .i64 a6):=by simp[World.cell?,n1]
 have N1:=hide n1;clear n1;go_wp2_with fail
 (refine((uq T2) _ _ (uq HK5) (uq HR5)).mono ?_;rintro e w6 ⟨vb,rfl,hb,hk⟩;have HB6:=hide hb;have HK56:=hide hk;have HK6:=hide ((uq HK5).trans hk);clear hb hk);clear ca0 ca1 ca2 ca3 ca4 ca5 ca6 ca7 ca8;have HSX:Hid (∀ w',Keep w6 w'→w'.cell? ⟨xb,0,none⟩=some (.int .i64 a0)∧w'.cell? ⟨xb,1,none⟩=some (.int .i64 a1)∧w'.cell? ⟨xb,2,none⟩=some (.int .i64 a2)∧w'.cell? ⟨xb,3,none⟩=some (.int .i64 a3)∧w'.cell? ⟨xb,4,none⟩=some (.int .i64 a4)∧w'.cell? ⟨xb,5,none⟩=some (.slice aN nN cN)∧w'.cell? ⟨xb,6,none⟩=some (.slice aS nS cS)∧w'.cell? ⟨xb,7,none⟩=some (.int .i64 a5)∧w'.cell? ⟨xb,8,none⟩=some (.int .i64 a6)∧(convert 29 9 vb).run Tryz.prog w'= .ok (.string S) w'):=hide (fun w' k9=>by
  have hx:=((uq HK56).trans k9).block xb (Array.getElem?_eq_some_iff.1 (uq N1)).1;rw[uq N1]at hx;refine⟨by simp[World.cell?,hx],by simp[World.cell?,hx],by simp[World.cell?,hx],by simp[World.cell?,hx],by simp[World.cell?,hx],by simp[World.cell?,hx],by simp[World.cell?,hx],by simp[World.cell?,hx],by simp[World.cell?,hx],?_⟩;have:=zin ((uq HB6).keep k9) (t:=29) (u:=9) Tryz.underlying29 Tryz.underlying9;rw[uq HSS]at this;exact this)
 have HR6:=hide (Rvs.keep (uq HK56) _ _ (uq HR5))
 go_upto_region 3 with fail
 refine wp_region_held_drew (S:=fun w'=>w'.cell? ⟨xb,0,none⟩=some (.int .i64 a0)∧w'.cell? ⟨xb,1,none⟩=some (.int .i64 a1)∧w'.cell? ⟨xb,2,none⟩=some (.int .i64 a2)∧w'.cell? ⟨xb,3,none⟩=some (.int .i64 a3)∧w'.cell? ⟨xb,4,none⟩=some (.int .i64 a4)∧w'.cell? ⟨xb,5,none⟩=some (.slice aN nN cN)∧w'.cell? ⟨xb,6,none⟩=some (.slice aS nS cS)∧w'.cell? ⟨xb,7,none⟩=some (.int .i64 a5)∧w'.cell? ⟨xb,8,none⟩=some (.int .i64 a6)∧(convert 29 9 vb).run Tryz.prog w'= .ok (.string S) w') (by kernel_rfl) (by exact(uq HSX) _ (by repeat(first|apply Keep.drew|exact Keep.refl _))) (fun hHeld=>?_);refine tkk 0 18 hHeld ?_;try simp only[Act.put,Ya,Yb,Yc]
 refine tkk 1 19 hHeld ?_;try simp only[Act.put,Ya,Yb,Yc]
 refine tkk 2 20 hHeld ?_;try simp only[Act.put,Ya,Yb,Yc]
 refine tkk 3 21 hHeld ?_;try simp only[Act.put,Ya,Yb,Yc]
 refine tkk 4 22 hHeld ?_;try simp only[Act.put,Ya,Yb,Yc]
 refine tkk 5 23 hHeld ?_;try simp only[Act.put,Ya,Yb,Yc]
 refine tkk 6 24 hHeld ?_;try simp only[Act.put,Ya,Yb,Yc]
 refine tkk 7 25 hHeld ?_;try simp only[Act.put,Ya,Yb,Yc]
 refine zaC 8 (fun K hK=>?_);go_simp;clear hHeld;(refine((uq T3) _ _ (Rvs.keep (Keep.refl w6).drew _ _ (uq HR6))).mono ?_;rintro e w7 ⟨rfl,hk⟩;have HX7:=hide (((Keep.refl w6).drew).trans hk);clear hk);try go_wp2_with fail
 refine hK.out _ _ ?_ (fun hHeld=>?_)
 ·exact(uq HSX) _ (uq HX7)
 clear hK K;try simp only[Act.put,Ya,Yb,Yc]
 refine tkk 9 27 hHeld ?_;try simp only[Act.put,Ya,Yb,Yc]
 refine tkk 10 28 hHeld ?_;try simp only[Act.put,Ya,Yb,Yc]
 refine tkk 11 29 hHeld ?_;try simp only[Act.put,Ya,Yb,Yc]
 refine tkk 12 30 hHeld ?_;try simp only[Act.put,Ya,Yb,Yc]
 refine zaC 13 (fun K hK=>?_);go_simp;clear hHeld;(refine((uq T0) _).mono ?_;rintro e w7 ⟨rfl,rfl⟩);try go_wp2_with fail
 refine hK.out _ _ ?_ (fun hHeld=>?_)
 ·exact(uq HSX) _ (uq HX7)
 clear hK K;try simp only[Act.put,Ya,Yb,Yc]
 refine tkk 14 32 hHeld ?_;try simp only[Act.put,Ya,Yb,Yc]
 refine tkk 15 33 hHeld ?_;try simp only[Act.put,Ya,Yb,Yc]
 refine tkk 16 34 hHeld ?_;try simp only[Act.put,Ya,Yb,Yc]
 refine tkk 17 35 hHeld ?_;try simp only[Act.put,Ya,Yb,Yc]
 refine zaC 18 (fun K hK=>?_);go_simp;clear hHeld;(refine((uq T4) _).mono ?_;rintro e w8 ⟨rfl,hk⟩;have HX8:=hide ((uq HX7).trans hk);clear hk);try go_wp2_with fail
 refine hK.out _ _ ?_ (fun hHeld=>?_)
 ·exact(uq HSX) _ (uq HX8)
 clear hK K;try simp only[Act.put,Ya,Yb,Yc]
 refine tkk 19 37 hHeld ?_;try simp only[Act.put,Ya,Yb,Yc]
 refine tkk 20 38 hHeld ?_;try simp only[Act.put,Ya,Yb,Yc]
 refine tkk 21 0 hHeld ?_;try simp only[Act.put,Ya,Yb,Yc]
 refine wpAnyH_done (by kernel_rfl) ?_ _;clear hHeld;go_wp2_with fail
 go_ret;exact⟨rfl,(uq HK6).trans (uq HX8)⟩
theorem ziN (w:World) (ht:Tab w):Calls Tryz.prog 12 #[] w fun e w'=>e= .returned (.bool true)∧Keep w w':=by
 have hB:zcs zjW=true:=(zei zjX).2;have hS:ShL zct zjW:=(zei zjX).1;refine zgU (sv smp) smp zjW w rfl (hide zfC) (hide fun w' v h=>zgT v w' h) (hide fun w' us hk hr=>?_) (hide fun w' us hr=>?_) (hide fun w'=>?_)
 ·have:=zf4 hS hB hr (ht.keep hk);rwa[zne]at this
 ·have:=zcx hS hr;rwa[hB]at this
 ·have:=zcx zpw (zpx w');rwa[zqr]at this
end S
end Go.Proofs.YtfepanidippjlaaGreatDoor
namespace Go.Proofs.YtfepanidippjlaaGreatDoor.nts
open Go.ChangeShapes Go.WideShapes Go.ChangeAt Go.RowKit
open Go.WideMaps Go.WideElems
attribute [local go_sem ↓] Go.wp_at_zero Go.wp_at_succ
set_option linter.unusedVariables false
set_option linter.unusedSimpArgs false
set_option maxRecDepth 10000
open S
theorem shq {w:World} {ds:List D} {us:List Value} (hs:ShL zct ds) (hr:Rvs w ds us) (ht:Tab w):Calls Tryz.prog 8 #[.agg us.toArray] w (ShQ (if zcs ds then 0 else 1) (if zcs ds then txt ds else []) w):=by
 cases hB:zcs ds with
 |false=>
  refine(zjO hs hB hr).mono ?_;rintro e w' ⟨rfl,hk⟩;exact⟨none,0,0,rfl,rfl,⟨none,0,rfl,Nat.le_refl _,fun k hk=>by simp at hk⟩,hk⟩
 |true=>
  refine(zf4 hs hB hr ht).mono ?_;rintro e w' ⟨v,rfl,hb,hk⟩;obtain⟨a,cap,rfl⟩:=hb.shape;exact⟨a,_,cap,rfl,rfl,hb,hk⟩
theorem zqM {w:World} {ds:List D} {us:List Value} (hs:ShL zct ds) (hr:Rvs w ds us):Calls Tryz.prog 9 #[.agg us.toArray] w (ShQ (if zcs ds then 0 else 1) (if zcs ds then txt ds else []) w):=by
 cases hB:zcs ds with
 |false=>
  refine(ziA hs hB hr).mono ?_;rintro e w' ⟨rfl,hk⟩;exact⟨none,0,0,rfl,rfl,⟨none,0,rfl,Nat.le_refl _,fun k hk=>by simp at hk⟩,hk⟩
 |true=>
  refine(ziB hs hB hr).mono ?_;rintro e w' ⟨v,rfl,hb,hk⟩;rw[← zoU hB]at hb;obtain⟨a,cap,rfl⟩:=hb.shape;exact⟨a,_,cap,rfl,rfl,hb,hk⟩
theorem nine {w:World} {ds:List D} {us:List Value} (hs:ShL zct ds) (hr:Rvs w ds us):∃ a0 a1 a2 a3 a4 aN nN cN aS nS cS a5 a6,us= [.int .i64 a0,.int .i64 a1,.int .i64 a2,.int .i64 a3,.int .i64 a4,.slice aN nN cN,.slice aS nS cS,.int .i64 a5,.int .i64 a6]:=by
 simp only[ShL,Sh1,zct]at hs;obtain⟨_,_,rfl,⟨v0,rfl,_⟩,⟨_,_,rfl,⟨v1,rfl,_⟩,⟨_,_,rfl,⟨v2,rfl,_⟩,⟨_,_,rfl,⟨v3,rfl,_⟩,⟨_,_,rfl,⟨v4,rfl,_⟩,⟨_,_,rfl,⟨L5,rfl,_⟩,⟨_,_,rfl,⟨L6,rfl,_⟩,⟨_,_,rfl,⟨v7,rfl,_⟩,⟨_,_,rfl,⟨v8,rfl,_⟩,rfl⟩⟩⟩⟩⟩⟩⟩⟩⟩:=hs;simp only[Rvs,Rv,dI]at hr;obtain⟨_,_,rfl,rfl,_,_,rfl,rfl,_,_,rfl,rfl,_,_,rfl,rfl,_,_,rfl,rfl,_,_,rfl,⟨x5,z5,rfl,_⟩,_,_,rfl,⟨x6,z6,rfl,_⟩,_,_,rfl,rfl,_,_,rfl,rfl,rfl⟩:=hr;exact⟨_,_,_,_,_,_,_,_,_,_,_,_,_,rfl⟩
theorem zqx {w:World} {ds:List D} {us:List Value} (hs:ShL zct ds) (hr:Rvs w ds us) (ht:Tab w):Calls Tryz.prog 3 #[.agg us.toArray] w fun e w'=>e= .returned (.bool true)∧Below w.heap.size w w':=by
 have TF1:∀ w',Keep w w'→Calls Tryz.prog 7 #[.agg us.toArray] w' (Ak w'):=fun w' k=>zmR hs (Rvs.keep k _ _ hr)
 have TS1:∀ w',Keep w w'→Calls Tryz.prog 8 #[.agg us.toArray] w' _:=fun w' k=>shq hs (Rvs.keep k _ _ hr) (ht.keep k)
 have TS2:∀ w',Keep w w'→Calls Tryz.prog 9 #[.agg us.toArray] w' _:=fun w' k=>zqM hs (Rvs.keep k _ _ hr)
 have TR1:∀ w',Keep w w'→Calls Tryz.prog 10 #[.agg us.toArray] w' fun e w''=>e= .returned (.bool (zcs ds))∧Keep w' w'':=fun w' k=>zcx hs (Rvs.keep k _ _ hr)
 have TR2:∀ w',Keep w w'→Calls Tryz.prog 11 #[.agg us.toArray] w' fun e w''=>e= .returned (.bool (zcs ds))∧Keep w' w'':=fun w' k=>zcV hs (Rvs.keep k _ _ hr)
 have TA:∀ w',Keep w w'→Calls Tryz.prog 12 #[] w' fun e w''=>e= .returned (.bool true)∧Keep w' w'':=fun w' k=>ziN w' (ht.keep k)
 obtain⟨a0,a1,a2,a3,a4,aN,nN,cN,aS,nS,cS,a5,a6,rfl⟩:=nine hs hr;exact all a0 a1 a2 a3 a4 aN nN cN aS nS cS a5 a6 _ _ _ w (hide TF1) (hide TS1) (hide TS2) (hide TR1) (hide TR2) (hide TA)
theorem znf:laidOutB Tryz.prog=true:=by kernel_rfl
theorem own:ownKnob Tryz.prog.godebug=none:=by kernel_rfl
theorem zpy {W:World} (h:laidMetH Tryz.prog Rows.showNetsRow.laid W):Tab W:=by
 have h':laidMet Tryz.prog Rows.showNetsRow.laid W:=h;obtain⟨g,t,cs,fuel,p,hg,ht,hv,hd⟩:=Lib.laidMet.reads h' (n:= "internal/strconv.uint64pow10") (d:=Rows.laid_internal_strconv_uint64pow10) (.tail _ (.tail _ (.head _)));have hg2:Tryz.prog.globalNamed "internal/strconv.uint64pow10" =some 1:=by kernel_rfl
 obtain rfl:g=1:=(Option.some.inj (hg2.symm.trans hg)).symm;have ht2:(Tryz.prog.globals[1]?).map (·.type)=some 263:=by kernel_rfl
 obtain rfl:t=263:=(Option.some.inj (ht2.symm.trans ht)).symm;have e:(Rows.laid_internal_strconv_uint64pow10:DataW Unit)=Lib.tabData .u64 Lib.pow10Tab:=by rfl
 rw[e]at hd;have hc:=Lib.cells_of_tab Tryz.underlying263 Tryz.underlying156 (by kernel_rfl) (by kernel_rfl) hd;unfold Tab Lib.TabIs
 rw[hv,← hc]
theorem zjY (os:Os) (args:Array Value):laidMetH Tryz.prog Rows.showNetsRow.laid ((World.doorLaid Tryz.prog 24 os).forCall (fun _ _=>0) ⟨#[],args,[]⟩).memory:=
 laidMetH_of_parts3 (fuel:=8) (laidMet_of_run' 8 (by kernel_rfl) (by kernel_rfl)) (by kernel_rfl) (by kernel_rfl)
set_option maxHeartbeats 400000 in
set_option maxRecDepth 100000 in
theorem zpz (os:Os) (started:os.Started) (H:Type) (enc:TypeId×Value→H):
  ReturnsInHanded {} Tryz.checked os 3 .any (fun w args=>(Rows.showNetsSpec.pre enc Tryz.prog Tryz.f3 [] false w args∧laidMetH Tryz.prog Rows.showNetsRow.laid w)∧sizedMet enc Tryz.prog Tryz.f3 (OpenSpec.ofChange Rows.showNetsSpec) false w args)
   (Rows.showNetsSpec.post enc Tryz.prog Tryz.f3 false true false false):=by
 refine returnsInHanded_of_change_and (C:=Tryz.checked) (X:=fun w _=>laidMetH Tryz.prog Rows.showNetsRow.laid w) (fun _ _ _ hh h=>h.of_heap hh) own started (by kernel_rfl) Tryz.func3
  (ChangeSpec.witness_shaped (enc:=enc) (C:=Tryz.checked) (os:=os) (X:=fun w _=>laidMetH Tryz.prog Rows.showNetsRow.laid w) false (World.doorLaid Tryz.prog 24 os) #[.agg #[.int .i64 0,.int .i64 0,.int .i64 0,.int .i64 0,.int .i64 0,.slice none 0 0,.slice none 0 0,.int .i64 0,.int .i64 0]] 8 rfl (World.shaped_of_RefB (by kernel_rfl) (by kernel_rfl)) (by kernel_rfl) (by kernel_rfl) (by kernel_rfl) (zjY os _)) ?_
 intro W base args ds gs before hval0 hW _ _ hL _
 have hval:∀(j:Nat) t v,Tryz.f3.params[j]? =some t→args[j]? =some v→Value.okWide Tryz.prog W .any base t v:=hval0;have hW':=hW;obtain⟨p,q,hA0,hV,rfl,hfz,hnd⟩:=hW;have hA:DataW.TrodAll enc Tryz.prog W 0 (fun _=>true) true Tryz.f3.params.toList args.toList ds p:=hA0;rw[Tryz.params3]at hA hval;obtain⟨v0,vs0,d0,ds0,p0,q0,hargs,rfl,rfl,h0,r0⟩:=trodAll_cons hA;obtain⟨rfl,rfl,rfl⟩:=trodAll_nil r0;obtain rfl:args=#[v0]:=by cases args;simp_all
 obtain⟨rfl,rfl⟩:=trodVars_none hV;have k0:=h0;have lt0:∀ x∈p0,x.block<W.heap.size:=by obtain⟨m,hm⟩:=k0;exact DataW.trod_lt m _ _ _ hm
 obtain⟨es0,us0,rfl,s0,x0⟩:=zfd Tryz.underlying27 S.net_desc (hval 0 27 v0 rfl rfl) h0;clear h0;clear hA0 hval0;refine(zqx s0 x0 (zpy hL)).mono fun e W' ⟨he,bel⟩=>?_
 subst he;exact⟨_,rfl,_,_,_,[],_,[],hW',trodAll_mk1 (shut_bool Tryz.underlying4 _),(trodAll_cons_mk (Below.trod znf (by kernel_rfl) (of_decide_eq_true (by kernel_rfl)) k0 bel lt0) trodAll_mk0),rfl,bel.frame _,fun h=>by cases h⟩
theorem over:Rows.showNetsRow.holds Tryz.pinned (OpenSpec.ofChange Rows.showNetsSpec):=
 OpenClaim.holds_of_wide 3 Tryz.f3 rfl rfl rfl rfl rfl rfl rfl ⟨rfl,rfl,rfl,rfl,rfl⟩ rfl rfl rfl rfl rfl (by kernel_rfl) Tryz.func3 (by kernel_rfl)
  (of_decide_eq_true (by kernel_rfl)) (by unfold Func.isWrapper;first|(rw[if_pos (by decide+kernel)];kernel_rfl)|(rw[if_neg (by decide+kernel)];exact⟨rfl,rfl⟩))
  (fun os started H enc _=>zpz os started H enc)
theorem card:Claim7.holds Tryz.pinned (.plain (OpenSpec.ofChange Rows.showNetsSpec)) Rows.showNetsCard:=
 Claim7.holds_tied_plain_at .later [] [.data,.data,.data] true _ true
  over (fun _ h=>by cases h) (by kernel_rfl) (fun _ h=>by cases h) showNets_row_tie rfl ⟨rfl,rfl⟩ (by kernel_rfl) rfl
  (fun f fn hf hfn=>by
   obtain rfl:f=3:=Option.some.inj ((show Tryz.prog.funcNamed Rows.showNetsRow.func=some 3 by kernel_rfl).symm.trans hf) |>.symm;obtain rfl:fn=Tryz.f3:=(Option.some.inj (Tryz.func3.symm.trans hfn)).symm;exact⟨by kernel_rfl,fun j t ht=>by
    rw[Tryz.params3]at ht;have hm:t∈ [27]:=by simpa using Array.mem_of_getElem? ht
    have hall:([27].all fun u=> !Tryz.prog.wantsStandIn u)=true:=by kernel_rfl
    exact(show Tryz.prog.wantsStandIn t=false by simpa using List.all_eq_true.1 hall t hm)⟩)
  (by kernel_rfl)
end Go.Proofs.YtfepanidippjlaaGreatDoor.nts
namespace Go.Proofs.YtfepanidippjlaaGreatDoor
theorem ShowNets_holds:Rows.ShowNetsCardSaid:=nts.card
end Go.Proofs.YtfepanidippjlaaGreatDoor
