/- The document's reader: artery. -/
import Derived.Test.YtpmaonkelkmhbaaGreatQGroup
namespace Go.Proofs.YtpmaonkelkmhbaaGreat
open Go.RowKit
attribute [local go_sem ↓] Go.wp_at_zero Go.wp_at_succ
set_option linter.unusedVariables false
set_option linter.unusedSimpArgs false
set_option maxRecDepth 10000
namespace Q
theorem zoD:(Tryz.prog.info? 70).map (fun i=>(i.zero,i.size,i.bytes))=some (some (.agg #[.string ⟨#[]⟩,.string ⟨#[]⟩,.string ⟨#[]⟩,.int .i64 0,.int .i64 0,.int .i64 0]),6,72):=by kernel_rfl
def zlO:List Sp:= [zah [123],zbT [115,116,111,112] 12 70 6 zcI,zah [119,101,105,103,104,116,115],zaG,zaG,zah [59],zah [125]]
set_option maxHeartbeats 8000000 in
theorem zfS {w:World} {b:Nat} {X:Rs} (h:Sr w b (zad X)):Calls Tryz.prog 35 #[.pointer (some ⟨b,0,none⟩)] w fun r w'=>∃ a n cap x y L,r= .returned (.tuple #[.slice a n cap,.int .i64 x,.int .i64 y])∧Did (sq zlO) [.row 70 6 L,dI x,dI y] b X w w'∧Rd w' (.row 70 6 L) (fun i=>w.heap.size≤i) (.slice a n cap):=by
 obtain⟨i0,hi,hz0,hz1,hz2⟩:=zay zoD;have HI0:=hide hi;have HZ0:=hide hz0;have HZ1:=hide hz1;have HZ2:=hide hz2;clear hi hz0 hz1 hz2;have HS:=hide h;have HB:=hide h.bl;clear h;go_enter Tryz.func35,Tryz.ntmps35;go_wp2_with fail
 (refine(zag (X:=X) [123] rfl (uq HS)).mono ?_;rintro e w1 ⟨rfl,hd⟩;have HD1:=hide hd;clear hd);obtain⟨XA,HXA⟩:∃ Z,Hid (bnd X (zah [123])=Z):=⟨_,rfl⟩;have HSA:=hide (uq HD1).2.1;have HGA:=hide (uq HD1).2.2;have HFA:=hide (uq HD1).1;rw[uq HXA]at HSA HGA;clear HD1;obtain⟨tgt,HT⟩:∃ tgt,Hid (tgt=rwY [115,116,111,112] 12 zcI (zad XA) []):=⟨_,rfl⟩;go_wp2_with fail
 go_loopw [5] (fun u5 wr=>∃(a:Option Addr) (n cap:Nat) (L:List (List D)) (Y:Except Er (List Tok)),u5= .slice a n cap∧Hid (RO (fun i=>i=b) w 70 6 wr L (.slice a n cap))∧Hid (Sr wr b Y)∧Hid (rwY [115,116,111,112] 12 zcI Y L=tgt)∧Hid (L.length=n∧n≤12)) (fun u5 wr=>rem wr b)
 case atStart=>
  exact⟨none,0,0,[],zad XA,rfl,hide ((RO.start _ _ _ _).move (uq HFA) (fun i x=>⟨x,x▸uq HB⟩)),HSA,hide (uq HT).symm,hide ⟨rfl,by omega⟩⟩
 case round=>
  obtain⟨a,n,cap,L,Y,rfl,HR,HSY,HE,HN⟩:=hrel;go_wp2_with fail
  (refine(zaM (Y:=Y) [115,116,111,112] rfl n 12 (uq HSY)).mono ?_;rintro e w3 ⟨rfl,hf,hs⟩;have HR3:=hide ((uq HR).move hf (fun i x=>⟨x,x▸uq HB⟩));have HS3:=hide hs;clear hf hs);obtain⟨bq,Y3,hbg⟩:∃ bq Y3,bgn [115,116,111,112] n 12 Y=(bq,Y3):=⟨_,_,rfl⟩;rw[hbg]at HS3 ⊢;cases bq with
  |false=>
   have HY:=hide (zbX (body:=zcI) (L:=L) zdm (uq HSY).ne (by rw[(uq HN).1];exact hbg));have HQ:=hide (zbL (e:=70) (z:=6) (X:=XA) (by rw[← uq HT,← uq HE];exact uq HY));clear hbg;obtain⟨XB,HXB⟩:∃ Z,Hid (bnd XA (zbT [115,116,111,112] 12 70 6 zcI)=Z):=⟨_,rfl⟩;rw[uq HXB]at HQ;have HG0:=hide ((uq HGA).trans (uq HQ).2);have HS0:Hid (Sr w3 b (zad XB)):=hide (by rw[(uq HQ).1];exact uq HS3);go_wp2_with fail
   (refine(zaB (X:=XB) [119,101,105,103,104,116,115] rfl (uq HS0)).mono ?_;rintro e w4 ⟨x,rfl,_,hd⟩;have HR4:=hide ((uq HR3).move hd.1 (fun i x=>⟨x,x▸uq HB⟩));have HS4:=hide hd.2.1;have HG4:=hide ((uq HG0).trans hd.2.2);clear hd);obtain⟨XC,HXC⟩:∃ Z,Hid (bnd XB (sq [zah [119,101,105,103,104,116,115],zaG])=Z):=⟨_,rfl⟩;rw[uq HXC]at HS4 HG4;go_wp2_with fail
   (refine(zdC (X:=XC) (uq HS4)).mono ?_;rintro e w5 ⟨y,rfl,_,hd⟩;have HR5:=hide ((uq HR4).move hd.1 (fun i x=>⟨x,x▸uq HB⟩));have HS5:=hide hd.2.1;have HG5:=hide ((uq HG4).trans hd.2.2);clear hd);obtain⟨XD,HXD⟩:∃ Z,Hid (bnd XC zaG=Z):=⟨_,rfl⟩;rw[uq HXD]at HS5 HG5;go_wp2_with fail
   (refine(zag (X:=XD) [59] rfl (uq HS5)).mono ?_;rintro e w6 ⟨rfl,hd⟩;have HR6:=hide ((uq HR5).move hd.1 (fun i x=>⟨x,x▸uq HB⟩));have HS6:=hide hd.2.1;have HG6:=hide ((uq HG5).trans hd.2.2);clear hd);obtain⟨XE,HXE⟩:∃ Z,Hid (bnd XD (zah [59])=Z):=⟨_,rfl⟩;rw[uq HXE]at HS6 HG6;go_wp2_with fail
   (refine(zag (X:=XE) [125] rfl (uq HS6)).mono ?_;rintro e w7 ⟨rfl,hd⟩;have HR7:=hide ((uq HR6).move hd.1 (fun i x=>⟨x,x▸uq HB⟩));have HS7:=hide hd.2.1;have HG7:=hide ((uq HG6).trans hd.2.2);clear hd);go_wp2_with fail
   go_ret3
   refine⟨a,n,cap,x,y,L,rfl,?_,(uq HR7).row⟩;have e1:bnd X (sq zlO)=bnd XE (zah [125]):=by
    have a1:=uq HXA;have a2:=uq HXB;have a3:=uq HXC;have a4:=uq HXD;have a5:=uq HXE;simp only[zlO,zac,zar]at a3 ⊢;rw[a1,a2,a3,a4,a5]
   unfold Did
   rw[e1];exact⟨(uq HR7).fr,uq HS7,by simpa using uq HG7⟩
  |true=>
   obtain⟨t,r,hY,hY3,ht,hne⟩:=zbq hbg;have HYY:=hide hY;have HTS:=hide ht;have HNE:=hide hne;subst hY3;clear hbg hY ht hne;have hb3:b<w3.heap.size:=(uq HS3).bl;have HB3:=hide hb3;have n3:¬w3.heap.size=b:=by omega
   have hsr:=uq HS3;obtain⟨ad,cq,e9,p9,t9,r9,h1,h2⟩:=hsr.front;obtain⟨t0,t1,t2,t3⟩:=h1.tok;have hp:=zcc (X:= .ok (([]:List D),r)) hsr h1 h2;obtain⟨X0,HX0⟩:∃ Z,Hid (bnd (.ok (([]:List D),r)) zct=Z):=⟨_,rfl⟩;rw[uq HX0]at hp;have HS0:Hid (SF w3 b (zad X0) (w3.alloc (.cells #[.string ⟨#[]⟩,.string ⟨#[]⟩,.string ⟨#[]⟩,.int .i64 0,.int .i64 0,.int .i64 t9.p] 70))):=hide (SF.keep ⟨.refl _ _,hp.1⟩ ((Keep.refl _).alloc _));have HG0:=hide hp.2;have c0:=h1.c0;simp only[List.length_cons]at c0;clear hp h1 h2 t0 t1 t2 hsr
   go_upto_region 5 with fail
   clear c0 t3;go_wp2_with fail
   (refine(zaE (X:=X0) (uq HS0).2).mono ?_;rintro e w1 ⟨s1,rfl,hd⟩;have HS1:=hide ((uq HS0).step hd);have HG1:=hide ((uq HG0).trans hd.2.2);obtain⟨o1,q1,k1,rfl⟩:=zaf hd.1 (uq HS0).2.bl;clear hd);obtain⟨X1,HX1⟩:∃ Z,Hid (bnd X0 zam=Z):=⟨_,rfl⟩;rw[uq HX1]at HS1 HG1;go_wp2_with fail
   (refine(zag (X:=X1) [111,117,116] rfl (SF.box1 (uq HB3) (uq HS1)).2).mono ?_;rintro e w1 ⟨rfl,hd⟩;have HS2:=hide ((SF.box1 (uq HB3) (uq HS1)).step hd);have HG2:=hide ((uq HG1).trans hd.2.2);obtain⟨o2,q2,k2,rfl⟩:=zaf hd.1 (SF.box1 (uq HB3) (uq HS1)).2.bl;clear hd);rw[zaw (uq HB3)]at HS2 ⊢;generalize q1++q2=q2 at HS2 ⊢;obtain⟨X2,HX2⟩:∃ Z,Hid (bnd X1 (zah [111,117,116])=Z):=⟨_,rfl⟩;rw[uq HX2]at HS2 HG2;go_wp2_with fail
   (refine(zaE (X:=X2) (SF.box1 (uq HB3) (uq HS2)).2).mono ?_;rintro e w1 ⟨s3,rfl,hd⟩;have HS3:=hide ((SF.box1 (uq HB3) (uq HS2)).step hd);have HG3:=hide ((uq HG2).trans hd.2.2);obtain⟨o3,q3,k3,rfl⟩:=zaf hd.1 (SF.box1 (uq HB3) (uq HS2)).2.bl;clear hd);rw[zaw (uq HB3)]at HS3 ⊢;generalize q2++q3=q3 at HS3 ⊢;obtain⟨X3,HX3⟩:∃ Z,Hid (bnd X2 zam=Z):=⟨_,rfl⟩;rw[uq HX3]at HS3 HG3;go_wp2_with fail
   (refine(zag (X:=X3) [105,110] rfl (SF.box1 (uq HB3) (uq HS3)).2).mono ?_;rintro e w1 ⟨rfl,hd⟩;have HS4:=hide ((SF.box1 (uq HB3) (uq HS3)).step hd);have HG4:=hide ((uq HG3).trans hd.2.2);obtain⟨o4,q4,k4,rfl⟩:=zaf hd.1 (SF.box1 (uq HB3) (uq HS3)).2.bl;clear hd);rw[zaw (uq HB3)]at HS4 ⊢;generalize q3++q4=q4 at HS4 ⊢;obtain⟨X4,HX4⟩:∃ Z,Hid (bnd X3 (zah [105,110])=Z):=⟨_,rfl⟩;rw[uq HX4]at HS4 HG4;go_wp2_with fail
   (refine(zaE (X:=X4) (SF.box1 (uq HB3) (uq HS4)).2).mono ?_;rintro e w1 ⟨s5,rfl,hd⟩;have HS5:=hide ((SF.box1 (uq HB3) (uq HS4)).step hd);have HG5:=hide ((uq HG4).trans hd.2.2);obtain⟨o5,q5,k5,rfl⟩:=zaf hd.1 (SF.box1 (uq HB3) (uq HS4)).2.bl;clear hd);rw[zaw (uq HB3)]at HS5 ⊢;generalize q4++q5=q5 at HS5 ⊢;obtain⟨X5,HX5⟩:∃ Z,Hid (bnd X4 zam=Z):=⟨_,rfl⟩;rw[uq HX5]at HS5 HG5;go_wp2_with fail
   (refine(zaB (X:=X5) [97,104,101,97,100] rfl (SF.box1 (uq HB3) (uq HS5)).2).mono ?_;rintro e w1 ⟨n6,rfl,_,hd⟩;have HS6:=hide ((SF.box1 (uq HB3) (uq HS5)).step hd);have HG6:=hide ((uq HG5).trans hd.2.2);obtain⟨o6,q6,k6,rfl⟩:=zaf hd.1 (SF.box1 (uq HB3) (uq HS5)).2.bl;clear hd);rw[zaw (uq HB3)]at HS6 ⊢;generalize q5++q6=q6 at HS6 ⊢;obtain⟨X6,HX6⟩:∃ Z,Hid (bnd X5 (sq [zah [97,104,101,97,100],zaG])=Z):=⟨_,rfl⟩;rw[uq HX6]at HS6 HG6;go_wp2_with fail
   (refine(zaB (X:=X6) [98,97,99,107] rfl (SF.box1 (uq HB3) (uq HS6)).2).mono ?_;rintro e w1 ⟨n7,rfl,_,hd⟩;have HS7:=hide ((SF.box1 (uq HB3) (uq HS6)).step hd);have HG7:=hide ((uq HG6).trans hd.2.2);obtain⟨o7,q7,k7,rfl⟩:=zaf hd.1 (SF.box1 (uq HB3) (uq HS6)).2.bl;clear hd);rw[zaw (uq HB3)]at HS7 ⊢;generalize q6++q7=q7 at HS7 ⊢;obtain⟨X7,HX7⟩:∃ Z,Hid (bnd X6 (sq [zah [98,97,99,107],zaG])=Z):=⟨_,rfl⟩;rw[uq HX7]at HS7 HG7;go_wp2_with fail
   (refine(zag (X:=X7) [59] rfl (SF.box1 (uq HB3) (uq HS7)).2).mono ?_;rintro e w1 ⟨rfl,hd⟩;have HS8:=hide ((SF.box1 (uq HB3) (uq HS7)).step hd);have HG8:=hide ((uq HG7).trans hd.2.2);obtain⟨o8,q8,k8,rfl⟩:=zaf hd.1 (SF.box1 (uq HB3) (uq HS7)).2.bl;clear hd);rw[zaw (uq HB3)]at HS8 ⊢;generalize q7++q8=q8 at HS8 ⊢;obtain⟨X8,HX8⟩:∃ Z,Hid (bnd X7 (zah [59])=Z):=⟨_,rfl⟩;rw[uq HX8]at HS8 HG8;have HRW:=hide ((uq HR3).move (SF.box1 (o1':= .cells #[.string (sv s1),.string (sv s3),.string (sv s5),.int .i64 n6,.int .i64 n7,.int .i64 t9.p] 70) (uq HB3) (uq HS8)).1 (fun i x=>⟨x,x▸uq HB⟩));obtain⟨xs,hown,hlt⟩:=(uq HRW).shape;obtain⟨_,_,hlt3⟩:=(uq HR3).shape;rw[(uq HN).1]at hown;have HOWN:=hide hown;have HLT3:=hide hlt3;have HRD6:Hid (Rds (chg (w3.alloc (.cells #[.string (sv s1),.string (sv s3),.string (sv s5),.int .i64 n6,.int .i64 n7,.int .i64 t9.p] 70)) b o8 q8 k8) [dS s1,dS s3,dS s5,dI n6,dI n7,dI t9.p] (fun i=>w3.heap.size≤i) [.string (sv s1),.string (sv s3),.string (sv s5),.int .i64 n6,.int .i64 n7,.int .i64 t9.p]):=hide (zbj _ (zbj _ (zbj _ (zao _ (zao _ (zao _ (zat _ _)))))));clear hown hlt hlt3;have hn2:=(uq HN).2;go_wp2_with (at_builtin;refine wpList_append_own_at _ rfl _ _ 25 rfl 0 70 i0 _ 6 72 Tryz.underlying25 (uq HI0) (uq HZ0) (uq HZ1) (uq HZ2) rfl (by decide) _ _ xs rfl ((uq HOWN).alloc _) ⟨w3.heap.size+1+q8.size,0,none⟩ 1 1 [.string (sv s1),.string (sv s3),.string (sv s5),.int .i64 n6,.int .i64 n7,.int .i64 t9.p] rfl rfl (by have hnc:=zai (chg (w3.alloc (.cells #[.string (sv s1),.string (sv s3),.string (sv s5),.int .i64 n6,.int .i64 n7,.int .i64 t9.p] 70)) b o8 q8 k8) [.string (sv s1),.string (sv s3),.string (sv s5),.int .i64 n6,.int .i64 n7,.int .i64 t9.p] 70;rw[zaA,World.size_alloc]at hnc;exact hnc) (by simp[Value.oneCell']) (by unfold maxLen;omega) (by omega) (Nat.zero_le _) ?_;intro v' w8 hown' hgrow hnil hat;obtain⟨g',cp',rfl⟩:=zak hown';have A:=(uq HRW).app ((Keep.refl _).alloc _) (fun i x=>x▸uq HB) (B:=w3.heap.size) (fun g hg=>((uq HLT3) g hg).2) (uq HR3).fr.size (uq HRD6) rfl (by rw[(uq HN).1];exact uq HOWN) (by rw[(uq HN).1];exact hown') hgrow hat;have HA:=hide A;have HS9:Hid (Sr w8 b (zad X8)):=hide ((SF.box1 (o1':= .cells #[.string (sv s1),.string (sv s3),.string (sv s5),.int .i64 n6,.int .i64 n7,.int .i64 t9.p] 70) (uq HB3) (uq HS8)).2.far (fun i hi=>A.2 i (by have:=uq HB;omega)));clear hown' hgrow hnil hat A)
   have HB9:Hid (zcI r=zbU (fun _=>X8) []):=hide (by
    have a0:=uq HX0;have a1:=uq HX1;have a2:=uq HX2;have a3:=uq HX3;have a4:=uq HX4;have a5:=uq HX5;have a6:=uq HX6;have a7:=uq HX7;have a8:=uq HX8;have e2:bnd (.ok (([]:List D),r)) (sq [zct,zam,zah [111,117,116],zam,zah [105,110],zam,zah [97,104,101,97,100],zaG,zah [98,97,99,107],zaG,zah [59]])=X8:=by
     simp only[zac,zar]at a6 a7 ⊢;rw[a0,a1,a2,a3,a4,a5,a6,a7,a8]
    show zbU (sq _ []) r=_;simp only[zbU];rw[← e2];rfl)
   have HTK:Hid (zad (zcI r)=zad X8):=hide (by rw[uq HB9];simp only[zbU];rcases X8 with x|⟨c,r'⟩<;>rfl);go_roundw
   case rel=>
    refine⟨_,n+1,cp',L++ [[dS s1,dS s3,dS s5,dI n6,dI n7,dI t9.p]],zad X8,rfl,hide (uq HA).1,HS9,hide ?_,hide ⟨by rw[List.length_append,(uq HN).1];rfl,by have:=uq HNE;omega⟩⟩;rw[← uq HE,uq HYY,zaD zdm (uq HTS) (by rw[(uq HN).1];exact uq HNE) (cs:= [dS s1,dS s3,dS s5,dI n6,dI n7,dI t9.p]) (fun c r' e=>by
     rw[uq HB9]at e;simp only[zbU]at e;cases hX:X8 with
     |error x=>rw[hX]at e;cases e
     |ok q=>
      rw[hX]at e;obtain⟨c0,r0,h0,h1⟩:=(uq HG8) q.1 q.2 (by rw[hX]);simp only[Except.ok.injEq,Prod.mk.injEq]at h0 e;rw[← e.1,h1,← h0.1];rfl),uq HTK]
   case measure=>exact zau (word:= [115,116,111,112]) (n:=n) (most:=12) (body:=zcI) zdm (uq HYY) (uq HSY) (by rw[uq HTK];exact uq HS9)
end Q
namespace Q
theorem zit (W:World) (b i:Nat) (u old:Value) (ho:u.oneCell'=true) (hc:W.cell? ⟨b,i,none⟩=some old) (hf:W.frozen? ⟨b,i,none⟩=false):(store ⟨b,i,none⟩ u).run Tryz.prog W= .ok () (W.setCell ⟨b,i,none⟩ u):=by
 rw[run_store Tryz.prog W ⟨b,i,none⟩ u _ ho];simp[hc,hf]
theorem set_cells {W:World} {b i:Nat} {arr:Array Value} {t:TypeId} {fr:Nat×Nat} (h:W.heap[b]? =some (.cells arr t fr)) (v:Value):(W.setCell ⟨b,i,none⟩ v).heap[b]? =some (.cells (arr.setIfInBounds i v) t fr):=by
 simp[World.setCell,Array.getElem?_modify,h]
theorem za1 {W:World} {b:Nat} {t:TypeId} {arr:Array Value} (h:W.heap[b]? =some (.cells arr t (0,0))) (i:Nat) {z u:Value} (hi:arr[i]? =some z) (ho:u.oneCell'=true):
  ∃ W',(store ⟨b,i,none⟩ u).run Tryz.prog W= .ok () W'∧W'.heap[b]? =some (.cells (arr.setIfInBounds i u) t (0,0))∧(∀ q,q≠b→W'.heap[q]? =W.heap[q]?)∧W'.heap.size=W.heap.size∧W'.os=W.os∧W'.tape=W.tape∧W'.output=W.output:=
 ⟨_,zit W b i u z ho (by simp[World.cell?,h,hi]) (by simp[World.frozen?,h]),set_cells h u,fun q hq=>Below.heap_setCell _ _ _ _ hq,by simp[World.setCell],rfl,rfl,rfl⟩
set_option maxHeartbeats 2000000 in
theorem znj {W:World} {b:Nat} {t:TypeId} {z0 z1 z2 z3 z4 z5 z6:Value} (h:W.heap[b]? =some (.cells #[z0,z1,z2,z3,z4,z5,z6] t (0,0))) {u0 u1 u2 u3 u4 u5 u6:Value} (ho:∀ u∈ [u0,u1,u2,u3,u4,u5,u6],u.oneCell'=true):
  ∃ W1 W2 W3 W4 W5 W6 W7,(store ⟨b,0,none⟩ u0).run Tryz.prog W= .ok () W1∧(store ⟨b,1,none⟩ u1).run Tryz.prog W1= .ok () W2∧(store ⟨b,2,none⟩ u2).run Tryz.prog W2= .ok () W3∧(store ⟨b,3,none⟩ u3).run Tryz.prog W3= .ok () W4∧(store ⟨b,4,none⟩ u4).run Tryz.prog W4= .ok () W5∧(store ⟨b,5,none⟩ u5).run Tryz.prog W5= .ok () W6∧(store ⟨b,6,none⟩ u6).run Tryz.prog W6= .ok () W7∧W7.heap[b]? =some (.cells #[u0,u1,u2,u3,u4,u5,u6] t (0,0))∧(∀ q,q≠b→W7.heap[q]? =W.heap[q]?)∧W7.heap.size=W.heap.size∧W7.os=W.os∧W7.tape=W.tape∧W7.output=W.output:=by
 obtain⟨W1,s0,g0,q0,z0',a0,b0,c0⟩:=za1 h 0 (z:=z0) (u:=u0) rfl (ho _ (by simp));have h0:W1.heap[b]? =some (.cells #[u0,z1,z2,z3,z4,z5,z6] t (0,0)):=g0;obtain⟨W2,s1,g1,q1,z1',a1,b1,c1⟩:=za1 h0 1 (z:=z1) (u:=u1) rfl (ho _ (by simp));have h1:W2.heap[b]? =some (.cells #[u0,u1,z2,z3,z4,z5,z6] t (0,0)):=g1;obtain⟨W3,s2,g2,q2,z2',a2,b2,c2⟩:=za1 h1 2 (z:=z2) (u:=u2) rfl (ho _ (by simp));have h2:W3.heap[b]? =some (.cells #[u0,u1,u2,z3,z4,z5,z6] t (0,0)):=g2;obtain⟨W4,s3,g3,q3,z3',a3,b3,c3⟩:=za1 h2 3 (z:=z3) (u:=u3) rfl (ho _ (by simp));have h3:W4.heap[b]? =some (.cells #[u0,u1,u2,u3,z4,z5,z6] t (0,0)):=g3;obtain⟨W5,s4,g4,q4,z4',a4,b4,c4⟩:=za1 h3 4 (z:=z4) (u:=u4) rfl (ho _ (by simp));have h4:W5.heap[b]? =some (.cells #[u0,u1,u2,u3,u4,z5,z6] t (0,0)):=g4;obtain⟨W6,s5,g5,q5,z5',a5,b5,c5⟩:=za1 h4 5 (z:=z5) (u:=u5) rfl (ho _ (by simp));have h5:W6.heap[b]? =some (.cells #[u0,u1,u2,u3,u4,u5,z6] t (0,0)):=g5;obtain⟨W7,s6,g6,q6,z6',a6,b6,c6⟩:=za1 h5 6 (z:=z6) (u:=u6) rfl (ho _ (by simp));have h6:W7.heap[b]? =some (.cells #[u0,u1,u2,u3,u4,u5,u6] t (0,0)):=g6;refine⟨W1,W2,W3,W4,W5,W6,W7,s0,s1,s2,s3,s4,s5,s6,h6,fun q hq=>?_,?_,?_,?_,?_⟩
 ·rw[q6 q hq,q5 q hq,q4 q hq,q3 q hq,q2 q hq,q1 q hq,q0 q hq]
 ·rw[z6',z5',z4',z3',z2',z1',z0']
 ·rw[a6,a5,a4,a3,a2,a1,a0]
 ·rw[b6,b5,b4,b3,b2,b1,b0]
 ·rw[c6,c5,c4,c3,c2,c1,c0]
set_option maxHeartbeats 2000000 in
theorem ze9 {W:World} {b:Nat} {t:TypeId} {z0 z1 z2 z3 z4 z5 z6 z7 z8:Value} (h:W.heap[b]? =some (.cells #[z0,z1,z2,z3,z4,z5,z6,z7,z8] t (0,0))) {u0 u1 u2 u3 u4 u5 u6 u7 u8:Value} (ho:∀ u∈ [u0,u1,u2,u3,u4,u5,u6,u7,u8],u.oneCell'=true):
  ∃ W1 W2 W3 W4 W5 W6 W7 W8 W9,(store ⟨b,0,none⟩ u0).run Tryz.prog W= .ok () W1∧(store ⟨b,1,none⟩ u1).run Tryz.prog W1= .ok () W2∧(store ⟨b,2,none⟩ u2).run Tryz.prog W2= .ok () W3∧(store ⟨b,3,none⟩ u3).run Tryz.prog W3= .ok () W4∧(store ⟨b,4,none⟩ u4).run Tryz.prog W4= .ok () W5∧(store ⟨b,5,none⟩ u5).run Tryz.prog W5= .ok () W6∧(store ⟨b,6,none⟩ u6).run Tryz.prog W6= .ok () W7∧(store ⟨b,7,none⟩ u7).run Tryz.prog W7= .ok () W8∧(store ⟨b,8,none⟩ u8).run Tryz.prog W8= .ok () W9∧W9.heap[b]? =some (.cells #[u0,u1,u2,u3,u4,u5,u6,u7,u8] t (0,0))∧(∀ q,q≠b→W9.heap[q]? =W.heap[q]?)∧W9.heap.size=W.heap.size∧W9.os=W.os∧W9.tape=W.tape∧W9.output=W.output:=by
 obtain⟨W1,s0,g0,q0,z0',a0,b0,c0⟩:=za1 h 0 (z:=z0) (u:=u0) rfl (ho _ (by simp));have h0:W1.heap[b]? =some (.cells #[u0,z1,z2,z3,z4,z5,z6,z7,z8] t (0,0)):=g0;obtain⟨W2,s1,g1,q1,z1',a1,b1,c1⟩:=za1 h0 1 (z:=z1) (u:=u1) rfl (ho _ (by simp));have h1:W2.heap[b]? =some (.cells #[u0,u1,z2,z3,z4,z5,z6,z7,z8] t (0,0)):=g1;obtain⟨W3,s2,g2,q2,z2',a2,b2,c2⟩:=za1 h1 2 (z:=z2) (u:=u2) rfl (ho _ (by simp));have h2:W3.heap[b]? =some (.cells #[u0,u1,u2,z3,z4,z5,z6,z7,z8] t (0,0)):=g2;obtain⟨W4,s3,g3,q3,z3',a3,b3,c3⟩:=za1 h2 3 (z:=z3) (u:=u3) rfl (ho _ (by simp));have h3:W4.heap[b]? =some (.cells #[u0,u1,u2,u3,z4,z5,z6,z7,z8] t (0,0)):=g3;obtain⟨W5,s4,g4,q4,z4',a4,b4,c4⟩:=za1 h3 4 (z:=z4) (u:=u4) rfl (ho _ (by simp));have h4:W5.heap[b]? =some (.cells #[u0,u1,u2,u3,u4,z5,z6,z7,z8] t (0,0)):=g4;obtain⟨W6,s5,g5,q5,z5',a5,b5,c5⟩:=za1 h4 5 (z:=z5) (u:=u5) rfl (ho _ (by simp));have h5:W6.heap[b]? =some (.cells #[u0,u1,u2,u3,u4,u5,z6,z7,z8] t (0,0)):=g5;obtain⟨W7,s6,g6,q6,z6',a6,b6,c6⟩:=za1 h5 6 (z:=z6) (u:=u6) rfl (ho _ (by simp));have h6:W7.heap[b]? =some (.cells #[u0,u1,u2,u3,u4,u5,u6,z7,z8] t (0,0)):=g6;obtain⟨W8,s7,g7,q7,z7',a7,b7,c7⟩:=za1 h6 7 (z:=z7) (u:=u7) rfl (ho _ (by simp));have h7:W8.heap[b]? =some (.cells #[u0,u1,u2,u3,u4,u5,u6,u7,z8] t (0,0)):=g7;obtain⟨W9,s8,g8,q8,z8',a8,b8,c8⟩:=za1 h7 8 (z:=z8) (u:=u8) rfl (ho _ (by simp));have h8:W9.heap[b]? =some (.cells #[u0,u1,u2,u3,u4,u5,u6,u7,u8] t (0,0)):=g8;refine⟨W1,W2,W3,W4,W5,W6,W7,W8,W9,s0,s1,s2,s3,s4,s5,s6,s7,s8,h8,fun q hq=>?_,?_,?_,?_,?_⟩
 ·rw[q8 q hq,q7 q hq,q6 q hq,q5 q hq,q4 q hq,q3 q hq,q2 q hq,q1 q hq,q0 q hq]
 ·rw[z8',z7',z6',z5',z4',z3',z2',z1',z0']
 ·rw[a8,a7,a6,a5,a4,a3,a2,a1,a0]
 ·rw[b8,b7,b6,b5,b4,b3,b2,b1,b0]
 ·rw[c8,c7,c6,c5,c4,c3,c2,c1,c0]
theorem znk {w:World} {b:Nat} (hb:b<w.heap.size) (o1 o2:Obj) (o:Obj) (os:Array Obj) (k:Nat):(chg ((w.alloc o1).alloc o2) b o os k).heap[w.heap.size]? =some o1:=by
 rw[zaL _ _ _ _ _ _ (by simp only[World.size_alloc];omega) (by omega),heap_alloc_old _ _ (by rw[World.size_alloc];omega)];exact heap_alloc_new w o1
theorem SF.stored {w:World} {b rb:Nat} {Y:Except Er (List Tok)} {A B:World} (h:SF w b Y A) (hb:b<w.heap.size) (hr:w.heap.size≤rb) (hq:∀ q,q≠rb→B.heap[q]? =A.heap[q]?) (hs:B.heap.size=A.heap.size) (h1:B.os=A.os) (h2:B.tape=A.tape) (h3:B.output=A.output):SF w b Y B:=
 h.eqv hb (fun i hi=>hq i (by omega)) (by rw[hs];exact h.1.size) h1 h2 h3
theorem SF.loop {w:World} {b gb j:Nat} {Y Y':Except Er (List Tok)} {A:World} {e z:Nat} {us:List Value} {wr:World} {L:List (List D)} {a:Option Addr} {n cap:Nat} (h:SF w b Y A) (hg:w.heap.size≤gb) (l:LS b gb j A e z us wr L a n cap Y'):SF w b Y' wr:=
 ⟨h.1.inner l.ro.fr (fun i hi x=>by rcases x with x|x;exact x;omega),l.sr⟩
theorem LS.row {b gb j:Nat} {A:World} {e z:Nat} {us:List Value} {wr:World} {L:List (List D)} {a:Option Addr} {n cap:Nat} {Y':Except Er (List Tok)} (l:LS b gb j A e z us wr L a n cap Y'):Rd wr (.row e z L) (fun i=>gb<i) (.slice a n cap):=
 Rd.move _ _ _ _ l.ro.row (fun i hi _=>⟨rfl,by have:=l.hg;omega⟩)
theorem LS.rows {b gb j:Nat} {A:World} {e z:Nat} {us:List Value} {wr:World} {L:List (List D)} {a:Option Addr} {n cap:Nat} {Y':Except Er (List Tok)} (l:LS b gb j A e z us wr L a n cap Y') {d:D} {v:Value} (h:Rd A d (fun i=>gb<i) v):Rd wr d (fun i=>gb<i) v:=
 Rd.fr l.ro.fr (fun i hi x=>by have:=l.hb;rcases x with x|x<;>omega) h
theorem zbz {b gb:Nat} (hb:b<gb) {A wr:World} (k:Fr (fun i=>i=b) A wr) {d:D} {v:Value} (h:Rd A d (fun i=>gb<i) v):Rd wr d (fun i=>gb<i) v:=
 Rd.fr k (fun i hi x=>by omega) h
theorem LS.low2 {b gb j:Nat} {A:World} {e z:Nat} {us:List Value} {wr:World} {L:List (List D)} {a:Option Addr} {n cap:Nat} {Y':Except Er (List Tok)} (l:LS b gb j A e z us wr L a n cap Y') {rb:Nat} (h1:rb<b):wr.heap[rb]? =A.heap[rb]? :=
 l.ro.fr.block rb (by have:=l.hg;have:=l.hb;omega) (fun x=>by have:=l.hb;rcases x with x|x<;>omega)
theorem zlw {w:World} {b:Nat} (hb:b<w.heap.size) (us1:List Value) (t1:TypeId) (o:Obj) (os:Array Obj) (k:Nat):Bxs (chg (w.alloc (.cells us1.toArray t1)) b o os k) w.heap.size us1∧w.heap.size+1≤(chg (w.alloc (.cells us1.toArray t1)) b o os k).heap.size:=by
 refine⟨(bxs_new w us1 t1).move ?_,by simp only[zaA,World.size_alloc];omega⟩;rw[zaL _ _ _ _ _ _ (by simp only[World.size_alloc];omega) (by omega)]
theorem LS.low {b gb j:Nat} {A:World} {e z:Nat} {us:List Value} {wr:World} {L:List (List D)} {a:Option Addr} {n cap:Nat} {Y':Except Er (List Tok)} (l:LS b gb j A e z us wr L a n cap Y') {rb:Nat} (h1:b<rb) (h2:rb<gb):wr.heap[rb]? =A.heap[rb]? :=
 l.ro.fr.block rb (by have:=l.hg;omega) (fun x=>by rcases x with x|x<;>omega)
end Q
end Go.Proofs.YtpmaonkelkmhbaaGreat
