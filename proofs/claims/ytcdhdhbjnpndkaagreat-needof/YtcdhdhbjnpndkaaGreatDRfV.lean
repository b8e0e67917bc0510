/- The document's answer for fractions: products and quotients. -/
import Derived.Test.YtcdhdhbjnpndkaaGreatRefL
import Derived.Test.YtcdhdhbjnpndkaaGreatLSkip
import Derived.Test.YtcdhdhbjnpndkaaGreatFracV
import Derived.Test.YtcdhdhbjnpndkaaGreatDTb
namespace Go.Proofs.YtcdhdhbjnpndkaaGreat
open Go.RowKit
attribute [local go_sem ↓] Go.wp_at_zero Go.wp_at_succ
set_option linter.unusedVariables false
set_option linter.unusedSimpArgs false
set_option maxRecDepth 10000
set_option maxHeartbeats 1000000 in
theorem zjt (n d n2 d2 x y x2 y2 p t X Y Z:Int) (w:World) (e1:wrap64 (x * x2)=p) (e2:wrap64 (y * y2)=t) (Cn:Int→Int→Int→Int→Prop) (K1:Cn n d x y) (K2:Cn n2 d2 x2 y2)
  (N1:Hid (∀(n d x y:Int),Cn n d x y→∀ w,Calls Tryz.prog 85 #[.agg #[.int .i64 n,.int .i64 d]] w fun e w'=>e= .returned (.agg #[.int .i64 x,.int .i64 y])∧Keep w w'))
  (FW:Hid (∀ w,Calls Tryz.prog 86 #[.agg #[.int .i64 x,.int .i64 y],.agg #[.int .i64 x2,.int .i64 y2]] w fun e w'=>e= .returned (.bool true)∧Keep w w'))
  (T2:Hid (∀ w,Calls Tryz.prog 83 #[.int .i64 p,.int .i64 t] w fun e w'=>e= .returned (.tuple #[.agg #[.int .i64 X,.int .i64 Y],.int .i64 Z])∧Keep w w')):
  Calls Tryz.prog 84 #[.agg #[.int .i64 n,.int .i64 d],.agg #[.int .i64 n2,.int .i64 d2]] w fun e w'=>e= .returned (.tuple #[.agg #[.int .i64 X,.int .i64 Y],.int .i64 Z])∧Keep w w':=by
 go_enter Tryz.func84,Tryz.ntmps84;go_wp2_with fail
 (refine((uq N1) _ _ _ _ K1 _).mono ?_;rintro e w2 ⟨rfl,hk⟩;obtain⟨o1,k1,rfl⟩:=hk.ext;clear hk);go_wp2_with fail
 (refine((uq N1) _ _ _ _ K2 _).mono ?_;rintro e w2 ⟨rfl,hk⟩;obtain⟨o2,k2,rfl⟩:=hk.ext;clear hk);go_wp2_with fail
 (refine((uq FW) _).mono ?_;rintro e w2 ⟨rfl,hk⟩;obtain⟨o3,k3,rfl⟩:=hk.ext;clear hk);go_wp2_with fail
 (refine((uq T2) _).mono ?_;rintro e w2 ⟨rfl,hk⟩;obtain⟨o4,k4,rfl⟩:=hk.ext;clear hk);go_wp2_with fail
 exact bodyPost_ret (v:= .tuple #[.agg #[.int .i64 X,.int .i64 Y],.int .i64 Z]) (by simp[results,Tryz.results84,go_sem]) rfl ⟨rfl,by repeat(first|apply zaa|apply Keep.alloc|apply Keep.drew|exact Keep.refl _)⟩
set_option maxHeartbeats 2000000 in
theorem zju (n d n2 d2 x y x2 y2 u u2 X Y Z:Int) (b:Bool) (w:World) (hb:(!(decide (x<0)==decide (x2<0)))=b) (HD:Hid (1≤y * y2)) (u0:0≤u) (u1:u<18446744073709551616) (v0:0≤u2) (v1:u2<18446744073709551616) (y0:1≤y) (y1:y<18446744073709551616) (z0:1≤y2) (z1:y2<18446744073709551616) (wy:IntKind.u64.wrap y=y) (wy2:IntKind.u64.wrap y2=y2)
  (Cn:Int→Int→Int→Int→Prop) (K1:Cn n d x y) (K2:Cn n2 d2 x2 y2)
  (N1:Hid (∀(n d x y:Int),Cn n d x y→∀ w,Calls Tryz.prog 85 #[.agg #[.int .i64 n,.int .i64 d]] w fun e w'=>e= .returned (.agg #[.int .i64 x,.int .i64 y])∧Keep w w'))
  (FW:Hid (∀ w,Calls Tryz.prog 86 #[.agg #[.int .i64 x,.int .i64 y],.agg #[.int .i64 x2,.int .i64 y2]] w fun e w'=>e= .returned (.bool false)∧Keep w w'))
  (Sz:Int→Int→Prop) (S1:Sz x u) (S2:Sz x2 u2)
  (T1:Hid (∀(n x:Int),Sz n x→∀ w,Calls Tryz.prog 89 #[.int .i64 n] w fun e w'=>e= .returned (.int .u64 x)∧w'=w))
  (HL:Hid (Low (u * u2) (y * y2) b X Y Z)):
  Calls Tryz.prog 84 #[.agg #[.int .i64 n,.int .i64 d],.agg #[.int .i64 n2,.int .i64 d2]] w fun e w'=>e= .returned (.tuple #[.agg #[.int .i64 X,.int .i64 Y],.int .i64 Z])∧Keep w w':=by
 go_enter Tryz.func84,Tryz.ntmps84;go_wp2_with fail
 (refine((uq N1) _ _ _ _ K1 _).mono ?_;rintro e w2 ⟨rfl,hk⟩;obtain⟨o1,k1,rfl⟩:=hk.ext;clear hk);go_wp2_with fail
 (refine((uq N1) _ _ _ _ K2 _).mono ?_;rintro e w2 ⟨rfl,hk⟩;obtain⟨o2,k2,rfl⟩:=hk.ext;clear hk);go_wp2_with fail
 (refine((uq FW) _).mono ?_;rintro e w2 ⟨rfl,hk⟩;obtain⟨o3,k3,rfl⟩:=hk.ext;clear hk);go_wp2_with fail
 generalize hwc:ext _ _ _=wc;have F:Fa w wc x y x2 y2:=by rw[← hwc];exact zgK w _ _ _ x y x2 y2
 clear hwc;have F:=F.drew;refine wp_region_held_drew (S:=(fun w'=>w'.cell? ⟨w.heap.size,0,none⟩=some (.int .i64 x)∧w'.cell? ⟨w.heap.size,1,none⟩=some (.int .i64 y)∧w'.cell? ⟨w.heap.size+1,0,none⟩=some (.int .i64 x2)∧w'.cell? ⟨w.heap.size+1,1,none⟩=some (.int .i64 y2))) (by kernel_rfl) (by exact F.cells) (fun hHeld=>?_);refine tkk 0 28 hHeld ?_;try simp only[Act.put,Ya,Yb,Yc]
 refine tkk 1 29 hHeld ?_;try simp only[Act.put,Ya,Yb,Yc]
 refine tkk 3 31 hHeld ?_;try simp only[Act.put,Ya,Yb,Yc]
 refine tkk 4 32 hHeld ?_;try simp only[Act.put,Ya,Yb,Yc]
 refine zak 2 (fun K hK=>?_);go_simp;clear hHeld;(refine((uq T1) _ _ S1 _).mono ?_;rintro e w2 ⟨rfl,rfl⟩);try go_wp2_with fail
 refine hK.out _ _ ?_ (fun hHeld=>?_)
 ·exact F.cells
 clear hK K;try simp only[Act.put,Ya,Yb,Yc]
 refine zak 5 (fun K hK=>?_);go_simp;clear hHeld;(refine((uq T1) _ _ S2 _).mono ?_;rintro e w2 ⟨rfl,rfl⟩);try go_wp2_with fail
 refine hK.out _ _ ?_ (fun hHeld=>?_)
 ·exact F.cells
 clear hK K;try simp only[Act.put,Ya,Yb,Yc]
 refine zak 6 (fun K hK=>?_);go_simp;clear hHeld;(refine(zaL u u2 _ u0 u1 v0 v1).mono ?_;rintro e w2 ⟨vT,lT,rfl,rT,dT,⟨nT0,nT1,nT2⟩,hk⟩;have F:=F.keep hk;have NT:=hide nT2;clear nT2 hk);try go_wp2_with fail
 refine hK.out _ _ ?_ (fun hHeld=>?_)
 ·exact F.cells
 clear hK K;try simp only[Act.put,Ya,Yb,Yc]
 refine zak 7 (fun K hK=>?_);go_simp;clear hHeld;(refine(zbZ _ lT _ (rT.cases) dT (by omega)).mono ?_;rintro e w2 ⟨vP,lP,rfl,sP,dP',⟨m0,m1⟩,hk⟩;have F:=F.keep hk;have MP:Hid (val lP=val lT):=hide m1;have LP:lP.length≤9:=(by omega);clear m1 hk);try go_wp2_with fail
 refine hK.out _ _ ?_ (fun hHeld=>?_)
 ·exact F.cells
 clear hK K;try simp only[Act.put,Ya,Yb,Yc]
 refine tkk 8 6 hHeld ?_;try simp only[Act.put,Ya,Yb,Yc]
 refine wpAnyH_done (by kernel_rfl) ?_ _;clear hHeld;have EP:=hide ((uq MP).trans (uq NT));clear MP NT;clear nT0 rT dT;obtain⟨c1,c2,c3,c4⟩:=F.cells;go_wp2_with fail
 (refine(zaL y y2 _ (by omega) y1 (by omega) z1).mono ?_;rintro e w2 ⟨vT,lT,rfl,rT,dT,⟨nT0,nT1,nT2⟩,hk⟩;have F:=F.keep hk;have sP:=sP.keep hk;have NT:=hide nT2;clear nT2 hk);go_wp2_with fail
 (refine(zbZ _ lT _ (rT.cases) dT (by omega)).mono ?_;rintro e w2 ⟨vQ,lQ,rfl,sQ,dQ',⟨m0,m1⟩,hk⟩;have F:=F.keep hk;have sP:=sP.keep hk;have MQ:Hid (val lQ=val lT):=hide m1;have LQ:lQ.length≤9:=(by omega);clear m1 hk);have EQ:=hide ((uq MQ).trans (uq NT));clear MQ NT;clear c1 c2 c3 c4;have FF:=F;obtain⟨hKw,hsz,c1,c2,c3,c4,c5,c6,f1,f2⟩:=FF;go_wp2_with fail
 (refine(zdE _ _ lP lQ b X Y Z _ sP sQ dP' dQ' (by omega) (by omega) (by rw[uq EQ];exact uq HD) (by rw[uq EP,uq EQ];exact uq HL)).mono ?_;rintro e w2 ⟨rfl,hk⟩;have F:=F.keep hk;clear hk);clear hKw hsz c1 c2 c3 c4 c5 c6 f1 f2;obtain⟨hKw,hsz,c1,c2,c3,c4,c5,c6,f1,f2⟩:=F;go_wp2_with fail
 exact bodyPost_ret (v:= .tuple #[.agg #[.int .i64 X,.int .i64 Y],.int .i64 Z]) (by simp[results,Tryz.results84,go_sem,c5,c6,hsz]) rfl ⟨rfl,zcs _ _ (zcs _ _ hKw)⟩
set_option maxHeartbeats 1000000 in
theorem zhC (n d n2 d2 x y y2:Int) (w:World) (Cn:Int→Int→Int→Int→Prop) (K1:Cn n d x y) (K2:Cn n2 d2 0 y2)
  (N1:Hid (∀(n d x y:Int),Cn n d x y→∀ w,Calls Tryz.prog 85 #[.agg #[.int .i64 n,.int .i64 d]] w fun e w'=>e= .returned (.agg #[.int .i64 x,.int .i64 y])∧Keep w w')):
  Calls Tryz.prog 43 #[.agg #[.int .i64 n,.int .i64 d],.agg #[.int .i64 n2,.int .i64 d2]] w fun e w'=>e= .returned (.tuple #[.agg #[.int .i64 0,.int .i64 0],.int .i64 3])∧Keep w w':=by
 go_enter Tryz.func43,Tryz.ntmps43;go_wp2_with fail
 (refine((uq N1) _ _ _ _ K1 _).mono ?_;rintro e w2 ⟨rfl,hk⟩;obtain⟨o1,k1,rfl⟩:=hk.ext;clear hk);go_wp2_with fail
 (refine((uq N1) _ _ _ _ K2 _).mono ?_;rintro e w2 ⟨rfl,hk⟩;obtain⟨o2,k2,rfl⟩:=hk.ext;clear hk);go_wp2_with fail
 exact bodyPost_ret (v:= .tuple #[.agg #[.int .i64 0,.int .i64 0],.int .i64 3]) (by simp[results,Tryz.results43,go_sem]) rfl ⟨rfl,by repeat(first|apply zaa|apply Keep.alloc|apply Keep.drew|exact Keep.refl _)⟩
set_option maxHeartbeats 1000000 in
theorem zjv (n d n2 d2 x y x2 y2 p t X Y Z:Int) (w:World) (hx2:¬x2=0) (hx2b:(x2==0)=false) (e1:wrap64 (x * y2)=p) (e2:wrap64 (y * x2)=t) (Cn:Int→Int→Int→Int→Prop) (K1:Cn n d x y) (K2:Cn n2 d2 x2 y2)
  (N1:Hid (∀(n d x y:Int),Cn n d x y→∀ w,Calls Tryz.prog 85 #[.agg #[.int .i64 n,.int .i64 d]] w fun e w'=>e= .returned (.agg #[.int .i64 x,.int .i64 y])∧Keep w w'))
  (FW:Hid (∀ w,Calls Tryz.prog 86 #[.agg #[.int .i64 x,.int .i64 y],.agg #[.int .i64 x2,.int .i64 y2]] w fun e w'=>e= .returned (.bool true)∧Keep w w'))
  (T2:Hid (∀ w,Calls Tryz.prog 83 #[.int .i64 p,.int .i64 t] w fun e w'=>e= .returned (.tuple #[.agg #[.int .i64 X,.int .i64 Y],.int .i64 Z])∧Keep w w')):
  Calls Tryz.prog 43 #[.agg #[.int .i64 n,.int .i64 d],.agg #[.int .i64 n2,.int .i64 d2]] w fun e w'=>e= .returned (.tuple #[.agg #[.int .i64 X,.int .i64 Y],.int .i64 Z])∧Keep w w':=by
 go_enter Tryz.func43,Tryz.ntmps43;go_wp2_with fail
 (refine((uq N1) _ _ _ _ K1 _).mono ?_;rintro e w2 ⟨rfl,hk⟩;obtain⟨o1,k1,rfl⟩:=hk.ext;clear hk);go_wp2_with fail
 (refine((uq N1) _ _ _ _ K2 _).mono ?_;rintro e w2 ⟨rfl,hk⟩;obtain⟨o2,k2,rfl⟩:=hk.ext;clear hk);go_wp2_with fail
 (refine((uq FW) _).mono ?_;rintro e w2 ⟨rfl,hk⟩;obtain⟨o3,k3,rfl⟩:=hk.ext;clear hk);go_wp2_with fail
 (refine((uq T2) _).mono ?_;rintro e w2 ⟨rfl,hk⟩;obtain⟨o4,k4,rfl⟩:=hk.ext;clear hk);go_wp2_with fail
 exact bodyPost_ret (v:= .tuple #[.agg #[.int .i64 X,.int .i64 Y],.int .i64 Z]) (by simp[results,Tryz.results43,go_sem]) rfl ⟨rfl,by repeat(first|apply zaa|apply Keep.alloc|apply Keep.drew|exact Keep.refl _)⟩
set_option maxHeartbeats 2000000 in
theorem zjw (n d n2 d2 x y x2 y2 u u2 X Y Z:Int) (b:Bool) (w:World) (hx2:¬x2=0) (hx2b:(x2==0)=false) (hb:(!(decide (x<0)==decide (x2<0)))=b) (HD:Hid (1≤y * u2)) (u0:0≤u) (u1:u<18446744073709551616) (v0:0≤u2) (v1:u2<18446744073709551616) (y0:1≤y) (y1:y<18446744073709551616) (z0:1≤y2) (z1:y2<18446744073709551616) (wy:IntKind.u64.wrap y=y) (wy2:IntKind.u64.wrap y2=y2)
  (Cn:Int→Int→Int→Int→Prop) (K1:Cn n d x y) (K2:Cn n2 d2 x2 y2)
  (N1:Hid (∀(n d x y:Int),Cn n d x y→∀ w,Calls Tryz.prog 85 #[.agg #[.int .i64 n,.int .i64 d]] w fun e w'=>e= .returned (.agg #[.int .i64 x,.int .i64 y])∧Keep w w'))
  (FW:Hid (∀ w,Calls Tryz.prog 86 #[.agg #[.int .i64 x,.int .i64 y],.agg #[.int .i64 x2,.int .i64 y2]] w fun e w'=>e= .returned (.bool false)∧Keep w w'))
  (Sz:Int→Int→Prop) (S1:Sz x u) (S2:Sz x2 u2)
  (T1:Hid (∀(n x:Int),Sz n x→∀ w,Calls Tryz.prog 89 #[.int .i64 n] w fun e w'=>e= .returned (.int .u64 x)∧w'=w))
  (HL:Hid (Low (u * y2) (y * u2) b X Y Z)):
  Calls Tryz.prog 43 #[.agg #[.int .i64 n,.int .i64 d],.agg #[.int .i64 n2,.int .i64 d2]] w fun e w'=>e= .returned (.tuple #[.agg #[.int .i64 X,.int .i64 Y],.int .i64 Z])∧Keep w w':=by
 go_enter Tryz.func43,Tryz.ntmps43;go_wp2_with fail
 (refine((uq N1) _ _ _ _ K1 _).mono ?_;rintro e w2 ⟨rfl,hk⟩;obtain⟨o1,k1,rfl⟩:=hk.ext;clear hk);go_wp2_with fail
 (refine((uq N1) _ _ _ _ K2 _).mono ?_;rintro e w2 ⟨rfl,hk⟩;obtain⟨o2,k2,rfl⟩:=hk.ext;clear hk);go_wp2_with fail
 (refine((uq FW) _).mono ?_;rintro e w2 ⟨rfl,hk⟩;obtain⟨o3,k3,rfl⟩:=hk.ext;clear hk);go_wp2_with fail
 generalize hwc:ext _ _ _=wc;have F:Fa w wc x y x2 y2:=by rw[← hwc];exact zgK w _ _ _ x y x2 y2
 clear hwc;have F:=F.drew;refine wp_region_held_drew (S:=(fun w'=>w'.cell? ⟨w.heap.size,0,none⟩=some (.int .i64 x)∧w'.cell? ⟨w.heap.size,1,none⟩=some (.int .i64 y)∧w'.cell? ⟨w.heap.size+1,0,none⟩=some (.int .i64 x2)∧w'.cell? ⟨w.heap.size+1,1,none⟩=some (.int .i64 y2))) (by kernel_rfl) (by exact F.cells) (fun hHeld=>?_);refine tkk 0 32 hHeld ?_;try simp only[Act.put,Ya,Yb,Yc]
 refine tkk 1 33 hHeld ?_;try simp only[Act.put,Ya,Yb,Yc]
 refine tkk 3 35 hHeld ?_;try simp only[Act.put,Ya,Yb,Yc]
 refine tkk 4 36 hHeld ?_;try simp only[Act.put,Ya,Yb,Yc]
 refine tkk 5 37 hHeld ?_;try simp only[Act.put,Ya,Yb,Yc]
 refine zak 2 (fun K hK=>?_);go_simp;clear hHeld;(refine((uq T1) _ _ S1 _).mono ?_;rintro e w2 ⟨rfl,rfl⟩);try go_wp2_with fail
 refine hK.out _ _ ?_ (fun hHeld=>?_)
 ·exact F.cells
 clear hK K;try simp only[Act.put,Ya,Yb,Yc]
 refine zak 6 (fun K hK=>?_);go_simp;clear hHeld;(refine(zaL u y2 _ u0 u1 (by omega) z1).mono ?_;rintro e w2 ⟨vT,lT,rfl,rT,dT,⟨nT0,nT1,nT2⟩,hk⟩;have F:=F.keep hk;have NT:=hide nT2;clear nT2 hk);try go_wp2_with fail
 refine hK.out _ _ ?_ (fun hHeld=>?_)
 ·exact F.cells
 clear hK K;try simp only[Act.put,Ya,Yb,Yc]
 refine zak 7 (fun K hK=>?_);go_simp;clear hHeld;(refine(zbZ _ lT _ (rT.cases) dT (by omega)).mono ?_;rintro e w2 ⟨vP,lP,rfl,sP,dP',⟨m0,m1⟩,hk⟩;have F:=F.keep hk;have MP:Hid (val lP=val lT):=hide m1;have LP:lP.length≤9:=(by omega);clear m1 hk);try go_wp2_with fail
 refine hK.out _ _ ?_ (fun hHeld=>?_)
 ·exact F.cells
 clear hK K;try simp only[Act.put,Ya,Yb,Yc]
 refine tkk 8 6 hHeld ?_;try simp only[Act.put,Ya,Yb,Yc]
 refine wpAnyH_done (by kernel_rfl) ?_ _;clear hHeld;have EP:=hide ((uq MP).trans (uq NT));clear MP NT;clear nT0 rT dT;go_wp2_with fail
 have sP:=sP.keep ((Keep.refl _).drew);have F:=F.drew;refine wp_region_held_drew (S:=(fun w'=>w'.cell? ⟨w.heap.size,0,none⟩=some (.int .i64 x)∧w'.cell? ⟨w.heap.size,1,none⟩=some (.int .i64 y)∧w'.cell? ⟨w.heap.size+1,0,none⟩=some (.int .i64 x2)∧w'.cell? ⟨w.heap.size+1,1,none⟩=some (.int .i64 y2))) (by kernel_rfl) (by exact F.cells) (fun hHeld=>?_);refine tkk 0 40 hHeld ?_;try simp only[Act.put,Ya,Yb,Yc]
 refine tkk 1 41 hHeld ?_;try simp only[Act.put,Ya,Yb,Yc]
 refine tkk 2 42 hHeld ?_;try simp only[Act.put,Ya,Yb,Yc]
 refine tkk 3 43 hHeld ?_;try simp only[Act.put,Ya,Yb,Yc]
 refine tkk 4 44 hHeld ?_;try simp only[Act.put,Ya,Yb,Yc]
 refine zak 5 (fun K hK=>?_);go_simp;clear hHeld;(refine((uq T1) _ _ S2 _).mono ?_;rintro e w2 ⟨rfl,rfl⟩);try go_wp2_with fail
 refine hK.out _ _ ?_ (fun hHeld=>?_)
 ·exact F.cells
 clear hK K;try simp only[Act.put,Ya,Yb,Yc]
 refine zak 6 (fun K hK=>?_);go_simp;clear hHeld;(refine(zaL y u2 _ (by omega) y1 v0 v1).mono ?_;rintro e w2 ⟨vT,lT,rfl,rT,dT,⟨nT0,nT1,nT2⟩,hk⟩;have F:=F.keep hk;have sP:=sP.keep hk;have NT:=hide nT2;clear nT2 hk);try go_wp2_with fail
 refine hK.out _ _ ?_ (fun hHeld=>?_)
 ·exact F.cells
 clear hK K;try simp only[Act.put,Ya,Yb,Yc]
 refine zak 7 (fun K hK=>?_);go_simp;clear hHeld;(refine(zbZ _ lT _ (rT.cases) dT (by omega)).mono ?_;rintro e w2 ⟨vQ,lQ,rfl,sQ,dQ',⟨m0,m1⟩,hk⟩;have F:=F.keep hk;have sP:=sP.keep hk;have MQ:Hid (val lQ=val lT):=hide m1;have LQ:lQ.length≤9:=(by omega);clear m1 hk);try go_wp2_with fail
 refine hK.out _ _ ?_ (fun hHeld=>?_)
 ·exact F.cells
 clear hK K;try simp only[Act.put,Ya,Yb,Yc]
 refine tkk 8 7 hHeld ?_;try simp only[Act.put,Ya,Yb,Yc]
 refine wpAnyH_done (by kernel_rfl) ?_ _;clear hHeld;have EQ:=hide ((uq MQ).trans (uq NT));clear MQ NT;have FF:=F;obtain⟨hKw,hsz,c1,c2,c3,c4,c5,c6,f1,f2⟩:=FF;go_wp2_with fail
 (refine(zdE _ _ lP lQ b X Y Z _ sP sQ dP' dQ' (by omega) (by omega) (by rw[uq EQ];exact uq HD) (by rw[uq EP,uq EQ];exact uq HL)).mono ?_;rintro e w2 ⟨rfl,hk⟩;have F:=F.keep hk;clear hk);clear hKw hsz c1 c2 c3 c4 c5 c6 f1 f2;obtain⟨hKw,hsz,c1,c2,c3,c4,c5,c6,f1,f2⟩:=F;go_wp2_with fail
 exact bodyPost_ret (v:= .tuple #[.agg #[.int .i64 X,.int .i64 Y],.int .i64 Z]) (by simp[results,Tryz.results43,go_sem,c5,c6,hsz]) rfl ⟨rfl,zcs _ _ (zcs _ _ hKw)⟩
end Go.Proofs.YtcdhdhbjnpndkaaGreat
namespace Go.Proofs.YtcdhdhbjnpndkaaGreat
open Go.RowKit
set_option linter.unusedVariables false
set_option maxRecDepth 10000
theorem zcy {a b:Int} (h1:a.natAbs<1073741824) (h2:b.natAbs<1073741824): -1152921504606846976≤a * b∧a * b≤1152921504606846976:=by
 have e:=Int.natAbs_mul a b;have m:a.natAbs * b.natAbs≤1073741824 * 1073741824:=Nat.mul_le_mul (by omega) (by omega);generalize a.natAbs * b.natAbs=u at e m;omega
theorem zjx {a b:Int} (h1:1≤a) (h2:1≤b):1≤a * b:=by
 have:=Int.mul_pos (show 0<a by omega) (show 0<b by omega);omega
theorem zjy {n d n2 d2:Int} (h:ze1 n d n2 d2=true):n.natAbs<1073741824∧n2.natAbs<1073741824∧d<1073741824∧d2<1073741824:=by simpa [ze1]using h
theorem zfU (x:Int):sgn (decide (x<0)) (x.natAbs:Int)=x:=by
 unfold sgn
 by_cases h:x<0
 ·simp only[h,decide_true,if_true];omega
 ·simp only[h,decide_false,Bool.false_eq_true,if_false];omega
theorem zjz (n d n2 d2:Int) (w:World) (h1: -9223372036854775808≤n) (h2:n≤9223372036854775807) (h3: -9223372036854775808≤d) (h4:d≤9223372036854775807) (k1: -9223372036854775808≤n2) (k2:n2≤9223372036854775807) (k3: -9223372036854775808≤d2) (k4:d2≤9223372036854775807):
  Calls Tryz.prog 84 #[.agg #[.int .i64 n,.int .i64 d],.agg #[.int .i64 n2,.int .i64 d2]] w fun e w'=>e= .returned (fv (rn (cn n d * cn n2 d2) (cd n d * cd n2 d2)) (rd (cn n d * cn n2 d2) (cd n d * cd n2 d2)))∧Keep w w':=by
 obtain⟨r1,r2,r3,r4,r5⟩:=zaG n d h1 h2 h4;obtain⟨q1,q2,q3,q4,q5⟩:=zaG n2 d2 k1 k2 k4;have A:=fun w=>zbn n d w h1 h2 h3 h4
 have B:=fun w=>zbn n2 d2 w k1 k2 k3 k4
 have FW:=fun w=>few_any (cn n d) (cd n d) (cn n2 d2) (cd n2 d2) w r3 r4 q3 q4
 generalize cn n d=x at *;generalize cd n d=y at *;generalize cn n2 d2=x2 at *;generalize cd n2 d2=y2 at *;have hyy:=zjx r1 q1;by_cases hf:ze1 x y x2 y2=true
 ·rw[hf]at FW;obtain⟨f1,f2,f3,f4⟩:=zjy hf;have m1:=zcy f1 f2;have m2:=zcy (a:=y) (b:=y2) (by omega) (by omega);have O:=fun w=>zev (x * x2) (y * y2) w (by omega) (by omega) (by omega) (by omega) (by omega)
  have e0:decide (y * y2<0)=false:=by simp;omega
  rw[e0,show sgn false (x * x2)=x * x2 by simp[sgn],show(((y * y2).natAbs:Nat):Int)=y * y2 by omega]at O;exact zjt n d n2 d2 x y x2 y2 _ _ _ _ _ w (zaB (by omega)) (zaB (by omega)) (fun n d x y=>∀ w,Calls Tryz.prog 85 #[.agg #[.int .i64 n,.int .i64 d]] w fun e w'=>e= .returned (.agg #[.int .i64 x,.int .i64 y])∧Keep w w') A B (hide fun n d x y h=>h) (hide FW) (hide O)
 ·have hf':ze1 x y x2 y2=false:=by simpa using hf
  rw[hf']at FW;have s1:=fun w=>zaZ x w r3 r4
  have s2:=fun w=>zaZ x2 w q3 q4
  refine zju n d n2 d2 x y x2 y2 _ _ _ _ _ _ w rfl (hide hyy) (by omega) (by omega) (by omega) (by omega) r1 (by omega) q1 (by omega) (by rw[IntKind.wrap_u64];omega) (by rw[IntKind.wrap_u64];omega) (fun n d x y=>∀ w,Calls Tryz.prog 85 #[.agg #[.int .i64 n,.int .i64 d]] w fun e w'=>e= .returned (.agg #[.int .i64 x,.int .i64 y])∧Keep w w') A B (hide fun n d x y h=>h) (hide FW)
   (fun n x=>∀ w,Calls Tryz.prog 89 #[.int .i64 n] w fun e w'=>e= .returned (.int .u64 x)∧w'=w) s1 s2 (hide fun n x h=>h) (hide ?_)
  have e:sgn (!(decide (x<0)==decide (x2<0))) ((x.natAbs:Int) * x2.natAbs)=x * x2:=by rw[zei,zfU,zfU]
  unfold Low
  rw[e];exact⟨rfl,rfl,rfl⟩
theorem zhD (n d n2 d2:Int) (w:World) (h1: -9223372036854775808≤n) (h2:n≤9223372036854775807) (h3: -9223372036854775808≤d) (h4:d≤9223372036854775807) (k1: -9223372036854775808≤n2) (k2:n2≤9223372036854775807) (k3: -9223372036854775808≤d2) (k4:d2≤9223372036854775807) (hz:cn n2 d2=0):
  Calls Tryz.prog 43 #[.agg #[.int .i64 n,.int .i64 d],.agg #[.int .i64 n2,.int .i64 d2]] w fun e w'=>e= .returned (.tuple #[.agg #[.int .i64 0,.int .i64 0],.int .i64 3])∧Keep w w':=by
 have A:=fun w=>zbn n d w h1 h2 h3 h4
 have B:=fun w=>zbn n2 d2 w k1 k2 k3 k4
 rw[hz]at B;exact zhC n d n2 d2 _ _ _ w (fun n d x y=>∀ w,Calls Tryz.prog 85 #[.agg #[.int .i64 n,.int .i64 d]] w fun e w'=>e= .returned (.agg #[.int .i64 x,.int .i64 y])∧Keep w w') A B (hide fun n d x y h=>h)
theorem zjA (n d n2 d2:Int) (w:World) (h1: -9223372036854775808≤n) (h2:n≤9223372036854775807) (h3: -9223372036854775808≤d) (h4:d≤9223372036854775807) (k1: -9223372036854775808≤n2) (k2:n2≤9223372036854775807) (k3: -9223372036854775808≤d2) (k4:d2≤9223372036854775807) (hz:¬cn n2 d2=0):
  Calls Tryz.prog 43 #[.agg #[.int .i64 n,.int .i64 d],.agg #[.int .i64 n2,.int .i64 d2]] w fun e w'=>e= .returned (fv (rn (cn n d * sgn (decide (cn n2 d2<0)) (cd n2 d2)) (cd n d * ((cn n2 d2).natAbs:Int))) (rd (cn n d * sgn (decide (cn n2 d2<0)) (cd n2 d2)) (cd n d * ((cn n2 d2).natAbs:Int))))∧Keep w w':=by
 obtain⟨r1,r2,r3,r4,r5⟩:=zaG n d h1 h2 h4;obtain⟨q1,q2,q3,q4,q5⟩:=zaG n2 d2 k1 k2 k4;have A:=fun w=>zbn n d w h1 h2 h3 h4
 have B:=fun w=>zbn n2 d2 w k1 k2 k3 k4
 have FW:=fun w=>few_any (cn n d) (cd n d) (cn n2 d2) (cd n2 d2) w r3 r4 q3 q4
 generalize cn n d=x at *;generalize cd n d=y at *;generalize cn n2 d2=x2 at *;generalize cd n2 d2=y2 at *;have hyu:1≤y * (x2.natAbs:Int):=zjx r1 (by omega);have hna:(((y * x2).natAbs:Nat):Int)=y * (x2.natAbs:Int):=by rw[Int.natAbs_mul,Int.natCast_mul];congr 1;omega
 by_cases hf:ze1 x y x2 y2=true
 ·rw[hf]at FW;obtain⟨f1,f2,f3,f4⟩:=zjy hf;have m1:=zcy (a:=x) (b:=y2) f1 (by omega);have m2:=zcy (a:=y) (b:=x2) (by omega) f2;have hd:decide (y * x2<0)=decide (x2<0):=by
   rw[decide_eq_decide];constructor
   ·intro h
    rcases Int.lt_trichotomy x2 0 with g|g|g
    ·exact g
    ·omega
    ·have:=Int.mul_pos (show 0<y by omega) g;omega
   ·intro h
    have:=Int.mul_neg_of_pos_of_neg (show 0<y by omega) h;omega
  have O:=fun w=>zev (x * y2) (y * x2) w (by omega) (by omega) (by omega) (by omega) (by omega)
  rw[hd,hna,show sgn (decide (x2<0)) (x * y2)=x * sgn (decide (x2<0)) y2 by unfold sgn;split<;>simp[Int.mul_neg]]at O;exact zjv n d n2 d2 x y x2 y2 _ _ _ _ _ w hz (by simpa using hz) (zaB (by omega)) (zaB (by omega)) (fun n d x y=>∀ w,Calls Tryz.prog 85 #[.agg #[.int .i64 n,.int .i64 d]] w fun e w'=>e= .returned (.agg #[.int .i64 x,.int .i64 y])∧Keep w w') A B (hide fun n d x y h=>h) (hide FW) (hide O)
 ·have hf':ze1 x y x2 y2=false:=by simpa using hf
  rw[hf']at FW;have s1:=fun w=>zaZ x w r3 r4
  have s2:=fun w=>zaZ x2 w q3 q4
  refine zjw n d n2 d2 x y x2 y2 _ _ _ _ _ _ w hz (by simpa using hz) rfl (hide hyu) (by omega) (by omega) (by omega) (by omega) r1 (by omega) q1 (by omega) (by rw[IntKind.wrap_u64];omega) (by rw[IntKind.wrap_u64];omega) (fun n d x y=>∀ w,Calls Tryz.prog 85 #[.agg #[.int .i64 n,.int .i64 d]] w fun e w'=>e= .returned (.agg #[.int .i64 x,.int .i64 y])∧Keep w w') A B (hide fun n d x y h=>h) (hide FW)
   (fun n x=>∀ w,Calls Tryz.prog 89 #[.int .i64 n] w fun e w'=>e= .returned (.int .u64 x)∧w'=w) s1 s2 (hide fun n x h=>h) (hide ?_)
  have e:sgn (!(decide (x<0)==decide (x2<0))) ((x.natAbs:Int) * y2)=x * sgn (decide (x2<0)) y2:=by rw[zei,zfU]
  unfold Low
  rw[e];exact⟨rfl,rfl,rfl⟩
end Go.Proofs.YtcdhdhbjnpndkaaGreat
namespace Go.Proofs.YtcdhdhbjnpndkaaGreat
open Go.RowKit
attribute [local go_sem ↓] Go.wp_at_zero Go.wp_at_succ
set_option linter.unusedVariables false
set_option linter.unusedSimpArgs false
set_option maxRecDepth 10000
namespace W
set_option maxHeartbeats 2000000 in
theorem zqa (u0 u5 u6 u7 u8 u9 u10:Value) (v s un ud pn pd:Int) (z:Int) (w:World) (hz:¬z=0)
  (T1:Hid (∀ w,Calls Tryz.prog 83 #[.int .i64 un,.int .i64 ud] w fun e w'=>e= .returned (.tuple #[.agg #[.int .i64 0,.int .i64 0],.int .i64 z])∧Keep w w')):
  Calls Tryz.prog 42 #[.agg #[u0,.int .i64 v,.int .i64 s,.int .i64 un,.int .i64 ud,u5,u6,u7,u8,u9,u10],.agg #[.int .i64 pn,.int .i64 pd]] w fun e w'=>e= .returned (.tuple #[.agg #[.int .i64 0,.int .i64 0],.int .i64 z])∧Keep w w':=by
 go_enter Tryz.func42,Tryz.ntmps42;go_wp2_with fail
 (refine((uq T1) _).mono ?_;rintro e w2 ⟨rfl,hk⟩;obtain⟨o1,k1,rfl⟩:=hk.ext;clear hk);go_wp2_with fail
 exact bodyPost_ret (v:= .tuple #[.agg #[.int .i64 0,.int .i64 0],.int .i64 z]) (by simp[results,Tryz.results42,go_sem]) rfl ⟨rfl,by repeat(first|(with_reducible exact Keep.refl _)|apply zaa|apply Keep.alloc|apply Keep.drew|(refine zba _ _ _ (by simp[go_sem]<;>omega) ?_))⟩
set_option maxHeartbeats 2000000 in
theorem zqb (u0 u5 u6 u7 u8 u9 u10:Value) (v s un ud pn pd:Int) (x1 y1 z:Int) (w:World) (hz:¬z=0)
  (T1:Hid (∀ w,Calls Tryz.prog 83 #[.int .i64 un,.int .i64 ud] w fun e w'=>e= .returned (.tuple #[.agg #[.int .i64 x1,.int .i64 y1],.int .i64 0])∧Keep w w'))
  (T2:Hid (∀ w,Calls Tryz.prog 84 #[.agg #[.int .i64 x1,.int .i64 y1],.agg #[.int .i64 v,.int .i64 1]] w fun e w'=>e= .returned (.tuple #[.agg #[.int .i64 0,.int .i64 0],.int .i64 z])∧Keep w w')):
  Calls Tryz.prog 42 #[.agg #[u0,.int .i64 v,.int .i64 s,.int .i64 un,.int .i64 ud,u5,u6,u7,u8,u9,u10],.agg #[.int .i64 pn,.int .i64 pd]] w fun e w'=>e= .returned (.tuple #[.agg #[.int .i64 0,.int .i64 0],.int .i64 z])∧Keep w w':=by
 go_enter Tryz.func42,Tryz.ntmps42;go_wp2_with fail
 (refine((uq T1) _).mono ?_;rintro e w2 ⟨rfl,hk⟩;obtain⟨o1,k1,rfl⟩:=hk.ext;clear hk);go_wp2_with fail
 (refine((uq T2) _).mono ?_;rintro e w2 ⟨rfl,hk⟩;obtain⟨o2,k2,rfl⟩:=hk.ext;clear hk);go_wp2_with fail
 exact bodyPost_ret (v:= .tuple #[.agg #[.int .i64 0,.int .i64 0],.int .i64 z]) (by simp[results,Tryz.results42,go_sem]) rfl ⟨rfl,by repeat(first|(with_reducible exact Keep.refl _)|apply zaa|apply Keep.alloc|apply Keep.drew|(refine zba _ _ _ (by simp[go_sem]<;>omega) ?_))⟩
set_option maxHeartbeats 2000000 in
theorem zqc (u0 u5 u6 u7 u8 u9 u10:Value) (v s un ud pn pd:Int) (x1 y1 x2 y2 z:Int) (w:World) (hz:¬z=0)
  (Of:Int→Int→Int→Int→Int→Prop) (OO:Hid (∀ n d x y z,Of n d x y z→∀ w,Calls Tryz.prog 83 #[.int .i64 n,.int .i64 d] w fun e w'=>e= .returned (.tuple #[.agg #[.int .i64 x,.int .i64 y],.int .i64 z])∧Keep w w')) (O1:Of un ud x1 y1 0) (O2:Of pn pd 0 0 z)
  (T2:Hid (∀ w,Calls Tryz.prog 84 #[.agg #[.int .i64 x1,.int .i64 y1],.agg #[.int .i64 v,.int .i64 1]] w fun e w'=>e= .returned (.tuple #[.agg #[.int .i64 x2,.int .i64 y2],.int .i64 0])∧Keep w w')):
  Calls Tryz.prog 42 #[.agg #[u0,.int .i64 v,.int .i64 s,.int .i64 un,.int .i64 ud,u5,u6,u7,u8,u9,u10],.agg #[.int .i64 pn,.int .i64 pd]] w fun e w'=>e= .returned (.tuple #[.agg #[.int .i64 0,.int .i64 0],.int .i64 z])∧Keep w w':=by
 go_enter Tryz.func42,Tryz.ntmps42;go_wp2_with fail
 (refine((uq OO) _ _ _ _ _ O1 _).mono ?_;rintro e w2 ⟨rfl,hk⟩;obtain⟨o1,k1,rfl⟩:=hk.ext;clear hk);go_wp2_with fail
 (refine((uq T2) _).mono ?_;rintro e w2 ⟨rfl,hk⟩;obtain⟨o2,k2,rfl⟩:=hk.ext;clear hk);go_wp2_with fail
 (refine((uq OO) _ _ _ _ _ O2 _).mono ?_;rintro e w2 ⟨rfl,hk⟩;obtain⟨o3,k3,rfl⟩:=hk.ext;clear hk);go_wp2_with fail
 exact bodyPost_ret (v:= .tuple #[.agg #[.int .i64 0,.int .i64 0],.int .i64 z]) (by simp[results,Tryz.results42,go_sem]) rfl ⟨rfl,by repeat(first|(with_reducible exact Keep.refl _)|apply zaa|apply Keep.alloc|apply Keep.drew|(refine zba _ _ _ (by simp[go_sem]<;>omega) ?_))⟩
set_option maxHeartbeats 2000000 in
theorem zqd (u0 u5 u6 u7 u8 u9 u10:Value) (v s un ud pn pd:Int) (x1 y1 x2 y2 x3 y3 X Y Z:Int) (w:World)
  (Of:Int→Int→Int→Int→Int→Prop) (OO:Hid (∀ n d x y z,Of n d x y z→∀ w,Calls Tryz.prog 83 #[.int .i64 n,.int .i64 d] w fun e w'=>e= .returned (.tuple #[.agg #[.int .i64 x,.int .i64 y],.int .i64 z])∧Keep w w')) (O1:Of un ud x1 y1 0) (O2:Of pn pd x3 y3 0)
  (T2:Hid (∀ w,Calls Tryz.prog 84 #[.agg #[.int .i64 x1,.int .i64 y1],.agg #[.int .i64 v,.int .i64 1]] w fun e w'=>e= .returned (.tuple #[.agg #[.int .i64 x2,.int .i64 y2],.int .i64 0])∧Keep w w'))
  (T4:Hid (∀ w,Calls Tryz.prog 43 #[.agg #[.int .i64 x2,.int .i64 y2],.agg #[.int .i64 x3,.int .i64 y3]] w fun e w'=>e= .returned (.tuple #[.agg #[.int .i64 X,.int .i64 Y],.int .i64 Z])∧Keep w w')):
  Calls Tryz.prog 42 #[.agg #[u0,.int .i64 v,.int .i64 s,.int .i64 un,.int .i64 ud,u5,u6,u7,u8,u9,u10],.agg #[.int .i64 pn,.int .i64 pd]] w fun e w'=>e= .returned (.tuple #[.agg #[.int .i64 X,.int .i64 Y],.int .i64 Z])∧Keep w w':=by
 go_enter Tryz.func42,Tryz.ntmps42;go_wp2_with fail
 (refine((uq OO) _ _ _ _ _ O1 _).mono ?_;rintro e w2 ⟨rfl,hk⟩;obtain⟨o1,k1,rfl⟩:=hk.ext;clear hk);go_wp2_with fail
 (refine((uq T2) _).mono ?_;rintro e w2 ⟨rfl,hk⟩;obtain⟨o2,k2,rfl⟩:=hk.ext;clear hk);go_wp2_with fail
 (refine((uq OO) _ _ _ _ _ O2 _).mono ?_;rintro e w2 ⟨rfl,hk⟩;obtain⟨o3,k3,rfl⟩:=hk.ext;clear hk);go_wp2_with fail
 (refine((uq T4) _).mono ?_;rintro e w2 ⟨rfl,hk⟩;obtain⟨o4,k4,rfl⟩:=hk.ext;clear hk);go_wp2_with fail
 exact bodyPost_ret (v:= .tuple #[.agg #[.int .i64 X,.int .i64 Y],.int .i64 Z]) (by simp[results,Tryz.results42,go_sem]) rfl ⟨rfl,by repeat(first|(with_reducible exact Keep.refl _)|apply zaa|apply Keep.alloc|apply Keep.drew|(refine zba _ _ _ (by simp[go_sem]<;>omega) ?_))⟩
set_option maxHeartbeats 2000000 in
theorem zqe (u0 u5 u6 u7 u8 u9 u10:Value) (v s un ud pn pd:Int) (x y z:Int) (w:World) (hz:¬z=0)
  (T1:Hid (∀ w,Calls Tryz.prog 42 #[.agg #[u0,.int .i64 v,.int .i64 s,.int .i64 un,.int .i64 ud,u5,u6,u7,u8,u9,u10],.agg #[.int .i64 pn,.int .i64 pd]] w fun e w'=>e= .returned (.tuple #[.agg #[.int .i64 x,.int .i64 y],.int .i64 z])∧Keep w w')):
  Calls Tryz.prog 22 #[.agg #[u0,.int .i64 v,.int .i64 s,.int .i64 un,.int .i64 ud,u5,u6,u7,u8,u9,u10],.agg #[.int .i64 pn,.int .i64 pd]] w fun e w'=>e= .returned (.tuple #[.agg #[.int .i64 0,.int .i64 0],.int .i64 z])∧Keep w w':=by
 go_enter Tryz.func22,Tryz.ntmps22;go_wp2_with fail
 (refine((uq T1) _).mono ?_;rintro e w2 ⟨rfl,hk⟩;obtain⟨o1,k1,rfl⟩:=hk.ext;clear hk);go_wp2_with fail
 exact bodyPost_ret (v:= .tuple #[.agg #[.int .i64 0,.int .i64 0],.int .i64 z]) (by simp[results,Tryz.results22,go_sem]) rfl ⟨rfl,by repeat(first|(with_reducible exact Keep.refl _)|apply zaa|apply Keep.alloc|apply Keep.drew|(refine zba _ _ _ (by simp[go_sem]<;>omega) ?_))⟩
set_option maxHeartbeats 2000000 in
theorem zqf (u0 u5 u6 u7 u8 u9 u10:Value) (v s un ud pn pd:Int) (x y X Y Z:Int) (w:World)
  (T1:Hid (∀ w,Calls Tryz.prog 42 #[.agg #[u0,.int .i64 v,.int .i64 s,.int .i64 un,.int .i64 ud,u5,u6,u7,u8,u9,u10],.agg #[.int .i64 pn,.int .i64 pd]] w fun e w'=>e= .returned (.tuple #[.agg #[.int .i64 x,.int .i64 y],.int .i64 0])∧Keep w w'))
  (T2:Hid (∀ w,Calls Tryz.prog 43 #[.agg #[.int .i64 x,.int .i64 y],.agg #[.int .i64 s,.int .i64 1]] w fun e w'=>e= .returned (.tuple #[.agg #[.int .i64 X,.int .i64 Y],.int .i64 Z])∧Keep w w')):
  Calls Tryz.prog 22 #[.agg #[u0,.int .i64 v,.int .i64 s,.int .i64 un,.int .i64 ud,u5,u6,u7,u8,u9,u10],.agg #[.int .i64 pn,.int .i64 pd]] w fun e w'=>e= .returned (.tuple #[.agg #[.int .i64 X,.int .i64 Y],.int .i64 Z])∧Keep w w':=by
 go_enter Tryz.func22,Tryz.ntmps22;go_wp2_with fail
 (refine((uq T1) _).mono ?_;rintro e w2 ⟨rfl,hk⟩;obtain⟨o1,k1,rfl⟩:=hk.ext;clear hk);go_wp2_with fail
 (refine((uq T2) _).mono ?_;rintro e w2 ⟨rfl,hk⟩;obtain⟨o2,k2,rfl⟩:=hk.ext;clear hk);go_wp2_with fail
 exact bodyPost_ret (v:= .tuple #[.agg #[.int .i64 X,.int .i64 Y],.int .i64 Z]) (by simp[results,Tryz.results22,go_sem]) rfl ⟨rfl,by repeat(first|(with_reducible exact Keep.refl _)|apply zaa|apply Keep.alloc|apply Keep.drew|(refine zba _ _ _ (by simp[go_sem]<;>omega) ?_))⟩
theorem zlr (n d:Int) (h1:i64 n) (h2:i64 d) (w:World):Calls Tryz.prog 83 #[.int .i64 n,.int .i64 d] w fun e w'=>e= .returned (.tuple #[.agg #[.int .i64 (ofF n d).1,.int .i64 (ofF n d).2.1],.int .i64 (ofF n d).2.2])∧Keep w w':=by
 unfold ofF
 by_cases hz:d=0
 ·rw[if_pos hz];subst hz;exact zjp n w
 ·rw[if_neg hz];exact zev n d w h1.1 h1.2 h2.1 h2.2 hz
theorem znS {a b c d:Int} (h1:i64 a) (h2:i64 b) (h3:i64 c) (h4:i64 d) (w:World):Calls Tryz.prog 84 #[.agg #[.int .i64 a,.int .i64 b],.agg #[.int .i64 c,.int .i64 d]] w fun e w'=>e= .returned (.tuple #[.agg #[.int .i64 (zc4 a b c d).1,.int .i64 (zc4 a b c d).2.1],.int .i64 (zc4 a b c d).2.2])∧Keep w w':=
 zjz a b c d w h1.1 h1.2 h2.1 h2.2 h3.1 h3.2 h4.1 h4.2
theorem zjB {a b c d:Int} (h1:i64 a) (h2:i64 b) (h3:i64 c) (h4:i64 d) (w:World):Calls Tryz.prog 43 #[.agg #[.int .i64 a,.int .i64 b],.agg #[.int .i64 c,.int .i64 d]] w fun e w'=>e= .returned (.tuple #[.agg #[.int .i64 (zeN a b c d).1,.int .i64 (zeN a b c d).2.1],.int .i64 (zeN a b c d).2.2])∧Keep w w':=by
 unfold zeN
 by_cases hz:cn c d=0
 ·rw[if_pos hz];exact zhD a b c d w h1.1 h1.2 h2.1 h2.2 h3.1 h3.2 h4.1 h4.2 hz
 ·rw[if_neg hz];exact zjA a b c d w h1.1 h1.2 h2.1 h2.2 h3.1 h3.2 h4.1 h4.2 hz
theorem zfV (u0 u5 u6 u7 u8 u9 u10:Value) {v s un ud pn pd:Int} (hv:i64 v) (hu:i64 un) (hd:i64 ud) (hp:i64 pn) (hq:i64 pd) (w:World):
  Calls Tryz.prog 42 #[.agg #[u0,.int .i64 v,.int .i64 s,.int .i64 un,.int .i64 ud,u5,u6,u7,u8,u9,u10],.agg #[.int .i64 pn,.int .i64 pd]] w fun e w'=>e= .returned (.tuple #[.agg #[.int .i64 (zdT v un ud pn pd).1,.int .i64 (zdT v un ud pn pd).2.1],.int .i64 (zdT v un ud pn pd).2.2])∧Keep w w':=by
 have i1:i64 1:=⟨by omega,by omega⟩;rw[zcH hv];unfold zdw
 have O1:=zlr un ud hu hd;have k1:=zb5 un ud;by_cases h1:(ofF un ud).2.2=0
 ·rw[if_neg (by simpa using h1)];have O2:=znS k1.in1 k1.in2 hv i1;have k2:=zbJ (ofF un ud).1 (ofF un ud).2.1 v 1;rw[h1]at O1;by_cases h2:(zc4 (ofF un ud).1 (ofF un ud).2.1 v 1).2.2=0
  ·rw[if_neg (by simpa using h2)];rw[h2]at O2;have O3:=zlr pn pd hp hq;have k3:=zb5 pn pd;by_cases h3:(ofF pn pd).2.2=0
   ·rw[if_neg (by simpa using h3)];rw[h3]at O3;exact zqd u0 u5 u6 u7 u8 u9 u10 v s un ud pn pd _ _ _ _ _ _ _ _ _ w (fun n d x y z=>∀ w,Calls Tryz.prog 83 #[.int .i64 n,.int .i64 d] w fun e w'=>e= .returned (.tuple #[.agg #[.int .i64 x,.int .i64 y],.int .i64 z])∧Keep w w') (hide fun n d x y z h=>h) O1 O3 (hide O2) (hide (zjB k2.in1 k2.in2 k3.in1 k3.in2))
   ·rw[if_pos h3];rw[k3.zero h3]at O3;exact zqc u0 u5 u6 u7 u8 u9 u10 v s un ud pn pd _ _ _ _ _ w h3 (fun n d x y z=>∀ w,Calls Tryz.prog 83 #[.int .i64 n,.int .i64 d] w fun e w'=>e= .returned (.tuple #[.agg #[.int .i64 x,.int .i64 y],.int .i64 z])∧Keep w w') (hide fun n d x y z h=>h) O1 O3 (hide O2)
  ·rw[if_pos h2];rw[k2.zero h2]at O2;exact zqb u0 u5 u6 u7 u8 u9 u10 v s un ud pn pd _ _ _ w h2 (hide O1) (hide O2)
 ·rw[if_pos h1];rw[k1.zero h1]at O1;exact zqa u0 u5 u6 u7 u8 u9 u10 v s un ud pn pd _ w h1 (hide O1)
theorem rratio_any (u0 u5 u6 u7 u8 u9 u10:Value) {v s un ud pn pd:Int} (hv:i64 v) (hs:i64 s) (hu:i64 un) (hd:i64 ud) (hp:i64 pn) (hq:i64 pd) (w:World):
  Calls Tryz.prog 22 #[.agg #[u0,.int .i64 v,.int .i64 s,.int .i64 un,.int .i64 ud,u5,u6,u7,u8,u9,u10],.agg #[.int .i64 pn,.int .i64 pd]] w fun e w'=>e= .returned (.tuple #[.agg #[.int .i64 (ratF v s un ud pn pd).1,.int .i64 (ratF v s un ud pn pd).2.1],.int .i64 (ratF v s un ud pn pd).2.2])∧Keep w w':=by
 have i1:i64 1:=⟨by omega,by omega⟩;have O1:=fun w=>zfV u0 u5 u6 u7 u8 u9 u10 (s:=s) hv hu hd hp hq w
 have k1:=zeO v un ud pn pd;rw[ziA hv hs];unfold zj9
 rw[← zcH hv];by_cases h1:(zdT v un ud pn pd).2.2=0
 ·rw[if_neg (by simpa using h1)];rw[h1]at O1;exact zqf u0 u5 u6 u7 u8 u9 u10 v s un ud pn pd _ _ _ _ _ w (hide O1) (hide (zjB k1.in1 k1.in2 hs i1))
 ·rw[if_pos h1];exact zqe u0 u5 u6 u7 u8 u9 u10 v s un ud pn pd _ _ _ w h1 (hide O1)
end W
end Go.Proofs.YtcdhdhbjnpndkaaGreat
