/- The document's reader: artery. -/
import Derived.Test.YthbfohohelflnaaQGroup
namespace Go.Proofs.Ythbfohohelflnaa
open Go.RowKit
attribute [local go_sem ↓] Go.wp_at_zero Go.wp_at_succ
set_option linter.unusedVariables false
set_option linter.unusedSimpArgs false
set_option maxRecDepth 10000
namespace Q
theorem zkU:(Try.prog.info? 43).map (fun i=>(i.zero,i.size,i.bytes))=some (some (.agg #[.string ⟨#[]⟩,.string ⟨#[]⟩,.string ⟨#[]⟩,.int .i64 0,.int .i64 0,.int .i64 0]),6,72):=by kernel_rfl
def ziy:List Sp:= [zah [123],zbC [115,116,111,112] 12 43 6 zcf,zah [119,101,105,103,104,116,115],zaG,zaG,zah [59],zah [125]]
set_option maxHeartbeats 8000000 in
theorem zee {w:World} {b:Nat} {X:Rs} (h:Sr w b (zae X)):Calls Try.prog 57 #[.pointer (some ⟨b,0,none⟩)] w fun r w'=>∃ a n cap x y L,r= .returned (.tuple #[.slice a n cap,.int .i64 x,.int .i64 y])∧Did (sq ziy) [.row 43 6 L,dI x,dI y] b X w w'∧Rd w' (.row 43 6 L) (fun i=>w.heap.size≤i) (.slice a n cap):=by
 obtain⟨i0,hi,hz0,hz1,hz2⟩:=zax zkU;have HI0:=hide hi;have HZ0:=hide hz0;have HZ1:=hide hz1;have HZ2:=hide hz2;clear hi hz0 hz1 hz2;have HS:=hide h;have HB:=hide h.bl;clear h;go_enter Try.func57,Try.ntmps57;go_wp2_with fail
 (refine(zag (X:=X) [123] rfl (uq HS)).mono ?_;rintro e w1 ⟨rfl,hd⟩;have HD1:=hide hd;clear hd);obtain⟨XA,HXA⟩:∃ Z,Hid (bnd X (zah [123])=Z):=⟨_,rfl⟩;have HSA:=hide (uq HD1).2.1;have HGA:=hide (uq HD1).2.2;have HFA:=hide (uq HD1).1;rw[uq HXA]at HSA HGA;clear HD1;obtain⟨tgt,HT⟩:∃ tgt,Hid (tgt=rwY [115,116,111,112] 12 zcf (zae XA) []):=⟨_,rfl⟩;go_wp2_with fail
 go_loopw [5] (fun u5 wr=>∃(a:Option Addr) (n cap:Nat) (L:List (List D)) (Y:Except Er (List Tok)),u5= .slice a n cap∧Hid (RO (fun i=>i=b) w 43 6 wr L (.slice a n cap))∧Hid (Sr wr b Y)∧Hid (rwY [115,116,111,112] 12 zcf Y L=tgt)∧Hid (L.length=n∧n≤12)) (fun u5 wr=>rem wr b)
 case atStart=>
  exact⟨none,0,0,[],zae XA,rfl,hide ((RO.start _ _ _ _).move (uq HFA) (fun i x=>⟨x,x▸uq HB⟩)),HSA,hide (uq HT).symm,hide ⟨rfl,by omega⟩⟩
 case round=>
  obtain⟨a,n,cap,L,Y,rfl,HR,HSY,HE,HN⟩:=hrel;go_wp2_with fail
  (refine(zaM (Y:=Y) [115,116,111,112] rfl n 12 (uq HSY)).mono ?_;rintro e w3 ⟨rfl,hf,hs⟩;have HR3:=hide ((uq HR).move hf (fun i x=>⟨x,x▸uq HB⟩));have HS3:=hide hs;clear hf hs);obtain⟨bq,Y3,hbg⟩:∃ bq Y3,bgn [115,116,111,112] n 12 Y=(bq,Y3):=⟨_,_,rfl⟩;rw[hbg]at HS3 ⊢;cases bq with
  |false=>
   have HY:=hide (zbG (body:=zcf) (L:=L) zcG (uq HSY).ne (by rw[(uq HN).1];exact hbg));have HQ:=hide (zbx (e:=43) (z:=6) (X:=XA) (by rw[← uq HT,← uq HE];exact uq HY));clear hbg;obtain⟨XB,HXB⟩:∃ Z,Hid (bnd XA (zbC [115,116,111,112] 12 43 6 zcf)=Z):=⟨_,rfl⟩;rw[uq HXB]at HQ;have HG0:=hide ((uq HGA).trans (uq HQ).2);have HS0:Hid (Sr w3 b (zae XB)):=hide (by rw[(uq HQ).1];exact uq HS3);go_wp2_with fail
   (refine(zay (X:=XB) [119,101,105,103,104,116,115] rfl (uq HS0)).mono ?_;rintro e w4 ⟨x,rfl,_,hd⟩;have HR4:=hide ((uq HR3).move hd.1 (fun i x=>⟨x,x▸uq HB⟩));have HS4:=hide hd.2.1;have HG4:=hide ((uq HG0).trans hd.2.2);clear hd);obtain⟨XC,HXC⟩:∃ Z,Hid (bnd XB (sq [zah [119,101,105,103,104,116,115],zaG])=Z):=⟨_,rfl⟩;rw[uq HXC]at HS4 HG4;go_wp2_with fail
   (refine(zcN (X:=XC) (uq HS4)).mono ?_;rintro e w5 ⟨y,rfl,_,hd⟩;have HR5:=hide ((uq HR4).move hd.1 (fun i x=>⟨x,x▸uq HB⟩));have HS5:=hide hd.2.1;have HG5:=hide ((uq HG4).trans hd.2.2);clear hd);obtain⟨XD,HXD⟩:∃ Z,Hid (bnd XC zaG=Z):=⟨_,rfl⟩;rw[uq HXD]at HS5 HG5;go_wp2_with fail
   (refine(zag (X:=XD) [59] rfl (uq HS5)).mono ?_;rintro e w6 ⟨rfl,hd⟩;have HR6:=hide ((uq HR5).move hd.1 (fun i x=>⟨x,x▸uq HB⟩));have HS6:=hide hd.2.1;have HG6:=hide ((uq HG5).trans hd.2.2);clear hd);obtain⟨XE,HXE⟩:∃ Z,Hid (bnd XD (zah [59])=Z):=⟨_,rfl⟩;rw[uq HXE]at HS6 HG6;go_wp2_with fail
   (refine(zag (X:=XE) [125] rfl (uq HS6)).mono ?_;rintro e w7 ⟨rfl,hd⟩;have HR7:=hide ((uq HR6).move hd.1 (fun i x=>⟨x,x▸uq HB⟩));have HS7:=hide hd.2.1;have HG7:=hide ((uq HG6).trans hd.2.2);clear hd);go_wp2_with fail
   go_ret3
   refine⟨a,n,cap,x,y,L,rfl,?_,(uq HR7).row⟩;have e1:bnd X (sq ziy)=bnd XE (zah [125]):=by
    have a1:=uq HXA;have a2:=uq HXB;have a3:=uq HXC;have a4:=uq HXD;have a5:=uq HXE;simp only[ziy,zad,zap]at a3 ⊢;rw[a1,a2,a3,a4,a5]
   unfold Did
   rw[e1];exact⟨(uq HR7).fr,uq HS7,by simpa using uq HG7⟩
  |true=>
   obtain⟨t,r,hY,hY3,ht,hne⟩:=zbf hbg;have HYY:=hide hY;have HTS:=hide ht;have HNE:=hide hne;subst hY3;clear hbg hY ht hne;have hb3:b<w3.heap.size:=(uq HS3).bl;have HB3:=hide hb3;have n3:¬w3.heap.size=b:=by omega
   have hsr:=uq HS3;obtain⟨ad,cq,e9,p9,t9,r9,h1,h2⟩:=hsr.front;obtain⟨t0,t1,t2,t3⟩:=h1.tok;have hp:=zbT (X:= .ok (([]:List D),r)) hsr h1 h2;obtain⟨X0,HX0⟩:∃ Z,Hid (bnd (.ok (([]:List D),r)) zb4=Z):=⟨_,rfl⟩;rw[uq HX0]at hp;have HS0:Hid (SF w3 b (zae X0) (w3.alloc (.cells #[.string ⟨#[]⟩,.string ⟨#[]⟩,.string ⟨#[]⟩,.int .i64 0,.int .i64 0,.int .i64 t9.p] 43))):=hide (SF.keep ⟨.refl _ _,hp.1⟩ ((Keep.refl _).alloc _));have HG0:=hide hp.2;have c0:=h1.c0;simp only[List.length_cons]at c0;clear hp h1 h2 t0 t1 t2 hsr
   go_upto_region 5 with fail
   clear c0 t3;go_wp2_with fail
   (refine(zaC (X:=X0) (uq HS0).2).mono ?_;rintro e w1 ⟨s1,rfl,hd⟩;have HS1:=hide ((uq HS0).step hd);have HG1:=hide ((uq HG0).trans hd.2.2);obtain⟨o1,q1,k1,rfl⟩:=zaf hd.1 (uq HS0).2.bl;clear hd);obtain⟨X1,HX1⟩:∃ Z,Hid (bnd X0 zal=Z):=⟨_,rfl⟩;rw[uq HX1]at HS1 HG1;go_wp2_with fail
   (refine(zag (X:=X1) [111,117,116] rfl (SF.box1 (uq HB3) (uq HS1)).2).mono ?_;rintro e w1 ⟨rfl,hd⟩;have HS2:=hide ((SF.box1 (uq HB3) (uq HS1)).step hd);have HG2:=hide ((uq HG1).trans hd.2.2);obtain⟨o2,q2,k2,rfl⟩:=zaf hd.1 (SF.box1 (uq HB3) (uq HS1)).2.bl;clear hd);rw[zav (uq HB3)]at HS2 ⊢;generalize q1++q2=q2 at HS2 ⊢;obtain⟨X2,HX2⟩:∃ Z,Hid (bnd X1 (zah [111,117,116])=Z):=⟨_,rfl⟩;rw[uq HX2]at HS2 HG2;go_wp2_with fail
   (refine(zaC (X:=X2) (SF.box1 (uq HB3) (uq HS2)).2).mono ?_;rintro e w1 ⟨s3,rfl,hd⟩;have HS3:=hide ((SF.box1 (uq HB3) (uq HS2)).step hd);have HG3:=hide ((uq HG2).trans hd.2.2);obtain⟨o3,q3,k3,rfl⟩:=zaf hd.1 (SF.box1 (uq HB3) (uq HS2)).2.bl;clear hd);rw[zav (uq HB3)]at HS3 ⊢;generalize q2++q3=q3 at HS3 ⊢;obtain⟨X3,HX3⟩:∃ Z,Hid (bnd X2 zal=Z):=⟨_,rfl⟩;rw[uq HX3]at HS3 HG3;go_wp2_with fail
   (refine(zag (X:=X3) [105,110] rfl (SF.box1 (uq HB3) (uq HS3)).2).mono ?_;rintro e w1 ⟨rfl,hd⟩;have HS4:=hide ((SF.box1 (uq HB3) (uq HS3)).step hd);have HG4:=hide ((uq HG3).trans hd.2.2);obtain⟨o4,q4,k4,rfl⟩:=zaf hd.1 (SF.box1 (uq HB3) (uq HS3)).2.bl;clear hd);rw[zav (uq HB3)]at HS4 ⊢;generalize q3++q4=q4 at HS4 ⊢;obtain⟨X4,HX4⟩:∃ Z,Hid (bnd X3 (zah [105,110])=Z):=⟨_,rfl⟩;rw[uq HX4]at HS4 HG4;go_wp2_with fail
   (refine(zaC (X:=X4) (SF.box1 (uq HB3) (uq HS4)).2).mono ?_;rintro e w1 ⟨s5,rfl,hd⟩;have HS5:=hide ((SF.box1 (uq HB3) (uq HS4)).step hd);have HG5:=hide ((uq HG4).trans hd.2.2);obtain⟨o5,q5,k5,rfl⟩:=zaf hd.1 (SF.box1 (uq HB3) (uq HS4)).2.bl;clear hd);rw[zav (uq HB3)]at HS5 ⊢;generalize q4++q5=q5 at HS5 ⊢;obtain⟨X5,HX5⟩:∃ Z,Hid (bnd X4 zal=Z):=⟨_,rfl⟩;rw[uq HX5]at HS5 HG5;go_wp2_with fail
   (refine(zay (X:=X5) [97,104,101,97,100] rfl (SF.box1 (uq HB3) (uq HS5)).2).mono ?_;rintro e w1 ⟨n6,rfl,_,hd⟩;have HS6:=hide ((SF.box1 (uq HB3) (uq HS5)).step hd);have HG6:=hide ((uq HG5).trans hd.2.2);obtain⟨o6,q6,k6,rfl⟩:=zaf hd.1 (SF.box1 (uq HB3) (uq HS5)).2.bl;clear hd);rw[zav (uq HB3)]at HS6 ⊢;generalize q5++q6=q6 at HS6 ⊢;obtain⟨X6,HX6⟩:∃ Z,Hid (bnd X5 (sq [zah [97,104,101,97,100],zaG])=Z):=⟨_,rfl⟩;rw[uq HX6]at HS6 HG6;go_wp2_with fail
   (refine(zay (X:=X6) [98,97,99,107] rfl (SF.box1 (uq HB3) (uq HS6)).2).mono ?_;rintro e w1 ⟨n7,rfl,_,hd⟩;have HS7:=hide ((SF.box1 (uq HB3) (uq HS6)).step hd);have HG7:=hide ((uq HG6).trans hd.2.2);obtain⟨o7,q7,k7,rfl⟩:=zaf hd.1 (SF.box1 (uq HB3) (uq HS6)).2.bl;clear hd);rw[zav (uq HB3)]at HS7 ⊢;generalize q6++q7=q7 at HS7 ⊢;obtain⟨X7,HX7⟩:∃ Z,Hid (bnd X6 (sq [zah [98,97,99,107],zaG])=Z):=⟨_,rfl⟩;rw[uq HX7]at HS7 HG7;go_wp2_with fail
   (refine(zag (X:=X7) [59] rfl (SF.box1 (uq HB3) (uq HS7)).2).mono ?_;rintro e w1 ⟨rfl,hd⟩;have HS8:=hide ((SF.box1 (uq HB3) (uq HS7)).step hd);have HG8:=hide ((uq HG7).trans hd.2.2);obtain⟨o8,q8,k8,rfl⟩:=zaf hd.1 (SF.box1 (uq HB3) (uq HS7)).2.bl;clear hd);rw[zav (uq HB3)]at HS8 ⊢;generalize q7++q8=q8 at HS8 ⊢;obtain⟨X8,HX8⟩:∃ Z,Hid (bnd X7 (zah [59])=Z):=⟨_,rfl⟩;rw[uq HX8]at HS8 HG8;have HRW:=hide ((uq HR3).move (SF.box1 (o1':= .cells #[.string (sv s1),.string (sv s3),.string (sv s5),.int .i64 n6,.int .i64 n7,.int .i64 t9.p] 43) (uq HB3) (uq HS8)).1 (fun i x=>⟨x,x▸uq HB⟩));obtain⟨xs,hown,hlt⟩:=(uq HRW).shape;obtain⟨_,_,hlt3⟩:=(uq HR3).shape;rw[(uq HN).1]at hown;have HOWN:=hide hown;have HLT3:=hide hlt3;have HRD6:Hid (Rds (chg (w3.alloc (.cells #[.string (sv s1),.string (sv s3),.string (sv s5),.int .i64 n6,.int .i64 n7,.int .i64 t9.p] 43)) b o8 q8 k8) [dS s1,dS s3,dS s5,dI n6,dI n7,dI t9.p] (fun i=>w3.heap.size≤i) [.string (sv s1),.string (sv s3),.string (sv s5),.int .i64 n6,.int .i64 n7,.int .i64 t9.p]):=hide (za9 _ (za9 _ (za9 _ (zan _ (zan _ (zan _ (zar _ _)))))));clear hown hlt hlt3;have hn2:=(uq HN).2;go_wp2_with (at_builtin;refine wpList_append_own_at _ rfl _ _ 25 rfl 0 43 i0 _ 6 72 Try.underlying25 (uq HI0) (uq HZ0) (uq HZ1) (uq HZ2) rfl (by decide) _ _ xs rfl ((uq HOWN).alloc _) ⟨w3.heap.size+1+q8.size,0,none⟩ 1 1 [.string (sv s1),.string (sv s3),.string (sv s5),.int .i64 n6,.int .i64 n7,.int .i64 t9.p] rfl rfl (by have hnc:=zai (chg (w3.alloc (.cells #[.string (sv s1),.string (sv s3),.string (sv s5),.int .i64 n6,.int .i64 n7,.int .i64 t9.p] 43)) b o8 q8 k8) [.string (sv s1),.string (sv s3),.string (sv s5),.int .i64 n6,.int .i64 n7,.int .i64 t9.p] 43;rw[zaw,World.size_alloc]at hnc;exact hnc) (by simp[Value.oneCell']) (by unfold maxLen;omega) (by omega) (Nat.zero_le _) ?_;intro v' w8 hown' hgrow hnil hat;obtain⟨g',cp',rfl⟩:=zak hown';have A:=(uq HRW).app ((Keep.refl _).alloc _) (fun i x=>x▸uq HB) (B:=w3.heap.size) (fun g hg=>((uq HLT3) g hg).2) (uq HR3).fr.size (uq HRD6) rfl (by rw[(uq HN).1];exact uq HOWN) (by rw[(uq HN).1];exact hown') hgrow hat;have HA:=hide A;have HS9:Hid (Sr w8 b (zae X8)):=hide ((SF.box1 (o1':= .cells #[.string (sv s1),.string (sv s3),.string (sv s5),.int .i64 n6,.int .i64 n7,.int .i64 t9.p] 43) (uq HB3) (uq HS8)).2.far (fun i hi=>A.2 i (by have:=uq HB;omega)));clear hown' hgrow hnil hat A)
   have HB9:Hid (zcf r=zbD (fun _=>X8) []):=hide (by
    have a0:=uq HX0;have a1:=uq HX1;have a2:=uq HX2;have a3:=uq HX3;have a4:=uq HX4;have a5:=uq HX5;have a6:=uq HX6;have a7:=uq HX7;have a8:=uq HX8;have e2:bnd (.ok (([]:List D),r)) (sq [zb4,zal,zah [111,117,116],zal,zah [105,110],zal,zah [97,104,101,97,100],zaG,zah [98,97,99,107],zaG,zah [59]])=X8:=by
     simp only[zad,zap]at a6 a7 ⊢;rw[a0,a1,a2,a3,a4,a5,a6,a7,a8]
    show zbD (sq _ []) r=_;simp only[zbD];rw[← e2];rfl)
   have HTK:Hid (zae (zcf r)=zae X8):=hide (by rw[uq HB9];simp only[zbD];rcases X8 with x|⟨c,r'⟩<;>rfl);go_roundw
   case rel=>
    refine⟨_,n+1,cp',L++ [[dS s1,dS s3,dS s5,dI n6,dI n7,dI t9.p]],zae X8,rfl,hide (uq HA).1,HS9,hide ?_,hide ⟨by rw[List.length_append,(uq HN).1];rfl,by have:=uq HNE;omega⟩⟩;rw[← uq HE,uq HYY,zaB zcG (uq HTS) (by rw[(uq HN).1];exact uq HNE) (cs:= [dS s1,dS s3,dS s5,dI n6,dI n7,dI t9.p]) (fun c r' e=>by
     rw[uq HB9]at e;simp only[zbD]at e;cases hX:X8 with
     |error x=>rw[hX]at e;cases e
     |ok q=>
      rw[hX]at e;obtain⟨c0,r0,h0,h1⟩:=(uq HG8) q.1 q.2 (by rw[hX]);simp only[Except.ok.injEq,Prod.mk.injEq]at h0 e;rw[← e.1,h1,← h0.1];rfl),uq HTK]
   case measure=>exact zas (word:= [115,116,111,112]) (n:=n) (most:=12) (body:=zcf) zcG (uq HYY) (uq HSY) (by rw[uq HTK];exact uq HS9)
end Q
end Go.Proofs.Ythbfohohelflnaa
