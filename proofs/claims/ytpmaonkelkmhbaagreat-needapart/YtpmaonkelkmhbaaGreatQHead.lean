/- The document's reader: head and walk. -/
import Derived.Test.YtpmaonkelkmhbaaGreatQTwo
namespace Go.Proofs.YtpmaonkelkmhbaaGreat
open Go.RowKit
attribute [local go_sem ↓] Go.wp_at_zero Go.wp_at_succ
set_option linter.unusedVariables false
set_option linter.unusedSimpArgs false
set_option maxRecDepth 10000
namespace Q
def zlN (p:List Tok→Rs) (cs:List D) (us:List Value) (b:Nat) (X:Rs) (w w':World):Prop:=Fr (fun i=>i=b) w w'∧Sr w' b (zad (bnb X p))∧Rds w' cs (fun i=>w.heap.size≤i) us∧∀ c r,bnb X p= .ok (c,r)→cs=c
theorem zcy {ps:List Sp} {d:D} {ds:List D} {us:List Value} {b:Nat} {X Z:Rs} {w w':World} (h:SF w b (zad Z) w') (hg:Got (zaZ X) Z (d :: ds)) (e:bnd (zaZ X) (sq ps)=Z) (hr:Rds w' (ds++ [d]) (fun i=>w.heap.size≤i) us):zlN (zbU (sq ps [])) (ds++ [d]) us b X w w':=by
 subst e;refine⟨h.1,?_,hr,fun c r e=>(hg.rot c r e).symm⟩;rw[zhQ,← zcJ];exact h.2
theorem zhg {ps:List Sp} {ds:List D} {us:List Value} {b:Nat} {X Z:Rs} {w w':World} (h:SF w b (zad Z) w') (hg:Got (zaZ X) Z ds) (e:bnd (zaZ X) (sq ps)=Z) (hr:Rds w' ds (fun i=>w.heap.size≤i) us):zlN (sq ps []) ds us b X w w':=by
 subst e;refine⟨h.1,?_,hr,fun c r e=>(hg.all c r e).symm⟩;rw[← zcJ];exact h.2
theorem zat (w:World) (P:Nat→Prop):Rds w [] P []:=by simp only[Rds]
theorem zbj {w:World} {P:Nat→Prop} {ds:List D} {us:List Value} (s:List UInt8) (h:Rds w ds P us):Rds w (dS s :: ds) P (.string (sv s) :: us):=by simp only[Rds];exact⟨_,_,rfl,⟨rfl,rfl⟩,h⟩
theorem zao {w:World} {P:Nat→Prop} {ds:List D} {us:List Value} (n:Int) (h:Rds w ds P us):Rds w (dI n :: ds) P (.int .i64 n :: us):=by simp only[Rds];exact⟨_,_,rfl,⟨rfl,rfl⟩,h⟩
set_option maxHeartbeats 4000000 in
theorem ze7 {w:World} {b:Nat} {X:Rs} (h:Sr w b (zad X)):Calls Tryz.prog 48 #[.pointer (some ⟨b,0,none⟩)] w fun r w'=>∃ s1 s2 n1 n2 n3 n4,r= .returned (.agg #[.string (sv s1),.string (sv s2),.int .i64 n1,.int .i64 n2,.int .i64 n3,.int .i64 n4])∧zlN zc0 [dS s1,dS s2,dI n1,dI n2,dI n3,dI n4] [.string (sv s1),.string (sv s2),.int .i64 n1,.int .i64 n2,.int .i64 n3,.int .i64 n4] b X w w':=by
 obtain⟨ad,cap,e,p,t,r',h1,h2⟩:=h.front;obtain⟨t0,t1,t2,t3⟩:=h1.tok;have hp:=zcc (X:=zaZ X) (by rw[zaV];exact h) h1 (by rw[zaV];exact h2);have HS0:Hid (SF w b (zad (bnd (zaZ X) zct)) ((w.alloc (.cells #[.string ⟨#[]⟩,.string ⟨#[]⟩,.int .i64 0,.int .i64 0,.int .i64 0,.int .i64 0] 86)).alloc (.cells #[.string ⟨#[]⟩,.string ⟨#[]⟩,.int .i64 0,.int .i64 0,.int .i64 0,.int .i64 t.p] 86))):=hide (SF.keep ⟨.refl _ _,hp.1⟩ (zcu _ _ _));have HG0:=hide hp.2;obtain⟨X0,HX0⟩:∃ Z,Hid (bnd (zaZ X) zct=Z):=⟨_,rfl⟩;rw[uq HX0]at HS0 HG0;have hb:=h.bl;have HB:=hide hb;have n0:¬w.heap.size=b:=by omega
 have n1:¬w.heap.size+1=b:=by omega
 have c0:=h1.c0;simp only[List.length_cons]at c0;have g0:∀ o,(w.alloc o).cell? ⟨b,0,none⟩=some (.slice (some ad) (r'.length+1) cap):=fun o=>kcell ((Keep.refl w).alloc o) c0
 have q3:∀ o,(w.alloc o).cell? ⟨ad.block,ad.off+3,none⟩=some (.int .i64 t.p):=fun o=>kcell ((Keep.refl w).alloc o) t3
 clear hp h1 h2 t0 t1 t2 t3 c0 hb h;go_enter Tryz.func48,Tryz.ntmps48
 go_upto_region 2 with fail
 clear g0 q3;go_wp2_with fail
 (refine(zaE (X:=X0) (uq HS0).2).mono ?_;rintro e w1 ⟨s1,rfl,hd⟩;have HS1:=hide ((uq HS0).step hd);have HG1:=hide ((uq HG0).trans hd.2.2);obtain⟨o1,q1,k1,rfl⟩:=zaf hd.1 (uq HS0).2.bl;clear hd);obtain⟨X1,HX1⟩:∃ Z,Hid (bnd X0 zam=Z):=⟨_,rfl⟩;rw[uq HX1]at HS1 HG1;go_wp2_with fail
 (refine(zag (X:=X1) [119,105,116,104] rfl (SF.box2 (uq HB) (uq HS1)).2).mono ?_;rintro e w1 ⟨rfl,hd⟩;have HS2:=hide ((SF.box2 (uq HB) (uq HS1)).step hd);have HG2:=hide ((uq HG1).trans hd.2.2);obtain⟨o2,q2,k2,rfl⟩:=zaf hd.1 (SF.box2 (uq HB) (uq HS1)).2.bl;clear hd);rw[zan (uq HB)]at HS2 ⊢;generalize q1++q2=q2 at HS2 ⊢;obtain⟨X2,HX2⟩:∃ Z,Hid (bnd X1 (zah [119,105,116,104])=Z):=⟨_,rfl⟩;rw[uq HX2]at HS2 HG2;go_wp2_with fail
 (refine(zaE (X:=X2) (SF.box2 (uq HB) (uq HS2)).2).mono ?_;rintro e w1 ⟨s3,rfl,hd⟩;have HS3:=hide ((SF.box2 (uq HB) (uq HS2)).step hd);have HG3:=hide ((uq HG2).trans hd.2.2);obtain⟨o3,q3,k3,rfl⟩:=zaf hd.1 (SF.box2 (uq HB) (uq HS2)).2.bl;clear hd);rw[zan (uq HB)]at HS3 ⊢;generalize q2++q3=q3 at HS3 ⊢;obtain⟨X3,HX3⟩:∃ Z,Hid (bnd X2 zam=Z):=⟨_,rfl⟩;rw[uq HX3]at HS3 HG3;go_wp2_with fail
 (refine(zaB (X:=X3) [108,111,110,103] rfl (SF.box2 (uq HB) (uq HS3)).2).mono ?_;rintro e w1 ⟨n4,rfl,_,hd⟩;have HS4:=hide ((SF.box2 (uq HB) (uq HS3)).step hd);have HG4:=hide ((uq HG3).trans hd.2.2);obtain⟨o4,q4,k4,rfl⟩:=zaf hd.1 (SF.box2 (uq HB) (uq HS3)).2.bl;clear hd);rw[zan (uq HB)]at HS4 ⊢;generalize q3++q4=q4 at HS4 ⊢;obtain⟨X4,HX4⟩:∃ Z,Hid (bnd X3 (sq [zah [108,111,110,103],zaG])=Z):=⟨_,rfl⟩;rw[uq HX4]at HS4 HG4;go_wp2_with fail
 (refine(zaB (X:=X4) [112,97,99,101] rfl (SF.box2 (uq HB) (uq HS4)).2).mono ?_;rintro e w1 ⟨n5,rfl,_,hd⟩;have HS5:=hide ((SF.box2 (uq HB) (uq HS4)).step hd);have HG5:=hide ((uq HG4).trans hd.2.2);obtain⟨o5,q5,k5,rfl⟩:=zaf hd.1 (SF.box2 (uq HB) (uq HS4)).2.bl;clear hd);rw[zan (uq HB)]at HS5 ⊢;generalize q4++q5=q5 at HS5 ⊢;obtain⟨X5,HX5⟩:∃ Z,Hid (bnd X4 (sq [zah [112,97,99,101],zaG])=Z):=⟨_,rfl⟩;rw[uq HX5]at HS5 HG5;go_wp2_with fail
 (refine(zaB (X:=X5) [108,101,97,115,116] rfl (SF.box2 (uq HB) (uq HS5)).2).mono ?_;rintro e w1 ⟨n6,rfl,_,hd⟩;have HS6:=hide ((SF.box2 (uq HB) (uq HS5)).step hd);have HG6:=hide ((uq HG5).trans hd.2.2);obtain⟨o6,q6,k6,rfl⟩:=zaf hd.1 (SF.box2 (uq HB) (uq HS5)).2.bl;clear hd);rw[zan (uq HB)]at HS6 ⊢;generalize q5++q6=q6 at HS6 ⊢;obtain⟨X6,HX6⟩:∃ Z,Hid (bnd X5 (sq [zah [108,101,97,115,116],zaG])=Z):=⟨_,rfl⟩;rw[uq HX6]at HS6 HG6;go_wp2_with fail
 (refine(zag (X:=X6) [59] rfl (SF.box2 (uq HB) (uq HS6)).2).mono ?_;rintro e w1 ⟨rfl,hd⟩;have HS7:=hide ((SF.box2 (uq HB) (uq HS6)).step hd);have HG7:=hide ((uq HG6).trans hd.2.2);obtain⟨o7,q7,k7,rfl⟩:=zaf hd.1 (SF.box2 (uq HB) (uq HS6)).2.bl;clear hd);rw[zan (uq HB)]at HS7 ⊢;generalize q6++q7=q7 at HS7 ⊢;obtain⟨X7,HX7⟩:∃ Z,Hid (bnd X6 (zah [59])=Z):=⟨_,rfl⟩;rw[uq HX7]at HS7 HG7;go_wp2_with fail
 refine bodyPost_ret (v:= .agg #[.string (sv s1),.string (sv s3),.int .i64 n4,.int .i64 n5,.int .i64 n6,.int .i64 t.p]) ?_ rfl ?_
 ·simp[results,Tryz.results48,go_sem,n0,n1]
 ·refine⟨s1,s3,n4,n5,n6,t.p,rfl,zcy (d:=dI t.p) (ds:= [dS s1,dS s3,dI n4,dI n5,dI n6]) (SF.box2 (uq HB) (uq HS7)) (uq HG7) ?_ (zbj _ (zbj _ (zao _ (zao _ (zao _ (zao _ (zat _ _)))))))⟩;have a0:=uq HX0;have a1:=uq HX1;have a2:=uq HX2;have a3:=uq HX3;have a4:=uq HX4;have a5:=uq HX5;have a6:=uq HX6;have a7:=uq HX7;simp only[zac,zar,zcq]at a0 a1 a2 a3 a4 a5 a6 a7 ⊢;rw[a0,a1,a2,a3,a4,a5,a6,a7]
theorem ziq {X:Rs} {n:Int} (hi:isq [45] (zad X)=false) (hg:Got X (bnd X zaG) [dI n]):zad (bnd X zaW)=zad (bnd X zaG)∧Got X (bnd X zaW) [dI n]:=by
 rcases X with x|⟨c,r⟩
 ·exact⟨rfl,fun c r e=>by cases e⟩
 ·cases r with
  |nil=>exact⟨rfl,fun c r e=>by cases e⟩
  |cons t r=>
   have hne:¬t.s= [45]:=by simpa [isq,zad]using hi
   simp only[bnd,zaG]at hg;have e1:zaW c (t :: r)=if t.k=2 then .ok (c++ [dI t.n],r)else .error (50,t.p):=by
    by_cases h2:t.k=2
    ·simp only[zaW,sq,za0,if_neg hne,zaG,if_pos h2,dB,dI,List.nil_append,List.cons_append];simp
    ·simp only[zaW,sq,za0,if_neg hne,zaG,if_neg h2,bad]
   have e2:zaG c (t :: r)=if t.k=2 then .ok (c++ [dI t.n],r)else .error (50,t.p):=rfl
   simp only[bnd];rw[e1,e2];rw[show(if t.k=2 then Except.ok (c++ [dI t.n],r)else bad 50 (t :: r))=(if t.k=2 then .ok (c++ [dI t.n],r)else .error (50,t.p):Rs)from rfl]at hg;exact⟨rfl,hg⟩
theorem zhh {X Z:Rs} {n:Int} (hi:isq [45] (zad X)=true) (hz:∃ c t r,X= .ok (c,t :: r)∧Z= .ok (c,r)) (hg:Got Z (bnd Z zaG) [dI n]):zad (bnd X zaW)=zad (bnd Z zaG)∧Got X (bnd X zaW) [dI (-n)]:=by
 obtain⟨c,t,r,rfl,rfl⟩:=hz;have he:t.s= [45]:=by simpa [isq,zad]using hi
 cases r with
 |nil=>
  have e1:zaW c [t]= .error (50,0):=by simp only[zaW,sq,za0,if_pos he,zaG,bad]
  simp only[bnd];rw[e1];exact⟨rfl,fun c r e=>by cases e⟩
 |cons u r=>
  have e1:zaW c (t :: u :: r)=if u.k=2 then .ok (c++ [dI (-u.n)],r)else .error (50,u.p):=by
   by_cases h2:u.k=2
   ·simp only[zaW,sq,za0,if_pos he,zaG,if_pos h2,dB,dI,List.nil_append,List.cons_append];simp
   ·simp only[zaW,sq,za0,if_pos he,zaG,if_neg h2,bad]
  have e2:zaG c (u :: r)=if u.k=2 then .ok (c++ [dI u.n],r)else .error (50,u.p):=rfl
  simp only[bnd]at hg ⊢;rw[e2]at hg ⊢;rw[e1];by_cases h2:u.k=2
  ·rw[if_pos h2]at hg ⊢;rw[if_pos h2];refine⟨rfl,fun c2 r2 e=>?_⟩;obtain⟨c0,r0,h0,h1⟩:=hg _ _ rfl;simp only[Except.ok.injEq,Prod.mk.injEq]at h0;obtain⟨rfl,_⟩:=h0;have hn:u.n=n:=by have:=List.append_cancel_left h1;simpa [dI]using this
   simp only[Except.ok.injEq,Prod.mk.injEq]at e;exact⟨c,_,rfl,by rw[← e.1,hn]⟩
  ·rw[if_neg h2,if_neg h2];exact⟨rfl,fun c r e=>by cases e⟩
theorem zew {w:World} {b:Nat} {X:Rs} {s:List UInt8} (hs:wrd s=true) (hi:isq s (zad X)=true) (h:Sr w b (zad X)):∃ c t r,X= .ok (c,t :: r)∧t.s=s∧zdA (zad X)=zad (.ok (c,r)):=by
 rcases X with x|⟨c,r⟩
 ·cases hi
 ·obtain⟨ad,cap,p,t,r',e,h1⟩:=Sr.alive (r:=r) h;subst e;have he:t.s=s:=by simpa [isq,zad]using hi
  have hk:=((h1.wq.2 t List.mem_cons_self).word hs he).1;exact⟨c,t,r',rfl,he,by show(if t.k=0 then _ else _)=_;rw[if_neg hk];rfl⟩
set_option maxHeartbeats 8000000 in
theorem ze8 {w:World} {b:Nat} {X:Rs} (h:Sr w b (zad X)):Calls Tryz.prog 47 #[.pointer (some ⟨b,0,none⟩)] w fun r w'=>∃ s n1 n2 n3 n4 n5 n6 n7 n8 n9 n10,r= .returned (.agg #[.string (sv s),.int .i64 n1,.int .i64 n2,.int .i64 n3,.int .i64 n4,.int .i64 n5,.int .i64 n6,.int .i64 n7,.int .i64 n8,.int .i64 n9,.int .i64 n10])∧zlN zcZ [dS s,dI n1,dI n2,dI n3,dI n4,dI n5,dI n6,dI n7,dI n8,dI n9,dI n10] [.string (sv s),.int .i64 n1,.int .i64 n2,.int .i64 n3,.int .i64 n4,.int .i64 n5,.int .i64 n6,.int .i64 n7,.int .i64 n8,.int .i64 n9,.int .i64 n10] b X w w':=by
 obtain⟨ad,cap,e,p,t,r',h1,h2⟩:=h.front;obtain⟨t0,t1,t2,t3⟩:=h1.tok;have hp:=zcc (X:=zaZ X) (by rw[zaV];exact h) h1 (by rw[zaV];exact h2);have HS0:Hid (SF w b (zad (bnd (zaZ X) zct)) ((w.alloc (.cells #[.string ⟨#[]⟩,.int .i64 0,.int .i64 0,.int .i64 0,.int .i64 0,.int .i64 0,.int .i64 0,.int .i64 0,.int .i64 0,.int .i64 0,.int .i64 0] 84)).alloc (.cells #[.string ⟨#[]⟩,.int .i64 0,.int .i64 0,.int .i64 0,.int .i64 0,.int .i64 0,.int .i64 0,.int .i64 0,.int .i64 0,.int .i64 0,.int .i64 t.p] 84))):=hide (SF.keep ⟨.refl _ _,hp.1⟩ (zcu _ _ _));have HG0:=hide hp.2;obtain⟨X0,HX0⟩:∃ Z,Hid (bnd (zaZ X) zct=Z):=⟨_,rfl⟩;rw[uq HX0]at HS0 HG0;have hb:=h.bl;have HB:=hide hb;have n0:¬w.heap.size=b:=by omega
 have n1:¬w.heap.size+1=b:=by omega
 have c0:=h1.c0;simp only[List.length_cons]at c0;have g0:∀ o,(w.alloc o).cell? ⟨b,0,none⟩=some (.slice (some ad) (r'.length+1) cap):=fun o=>kcell ((Keep.refl w).alloc o) c0
 have q3:∀ o,(w.alloc o).cell? ⟨ad.block,ad.off+3,none⟩=some (.int .i64 t.p):=fun o=>kcell ((Keep.refl w).alloc o) t3
 clear hp h1 h2 t0 t1 t2 t3 c0 hb h;go_enter Tryz.func47,Tryz.ntmps47
 go_upto_region 2 with fail
 clear g0 q3;go_wp2_with fail
 (refine(zaE (X:=X0) (uq HS0).2).mono ?_;rintro e w1 ⟨s1,rfl,hd⟩;have HS1:=hide ((uq HS0).step hd);have HG1:=hide ((uq HG0).trans hd.2.2);obtain⟨o1,q1,k1,rfl⟩:=zaf hd.1 (uq HS0).2.bl;clear hd);obtain⟨X1,HX1⟩:∃ Z,Hid (bnd X0 zam=Z):=⟨_,rfl⟩;rw[uq HX1]at HS1 HG1;go_wp2_with fail
 (refine(zaB (X:=X1) [118,111,108,117,109,101] rfl (SF.box2 (uq HB) (uq HS1)).2).mono ?_;rintro e w1 ⟨n2,rfl,_,hd⟩;have HS2:=hide ((SF.box2 (uq HB) (uq HS1)).step hd);have HG2:=hide ((uq HG1).trans hd.2.2);obtain⟨o2,q2,k2,rfl⟩:=zaf hd.1 (SF.box2 (uq HB) (uq HS1)).2.bl;clear hd);rw[zan (uq HB)]at HS2 ⊢;generalize q1++q2=q2 at HS2 ⊢;obtain⟨X2,HX2⟩:∃ Z,Hid (bnd X1 (sq [zah [118,111,108,117,109,101],zaG])=Z):=⟨_,rfl⟩;rw[uq HX2]at HS2 HG2;go_wp2_with fail
 (refine(zaB (X:=X2) [102,108,111,119] rfl (SF.box2 (uq HB) (uq HS2)).2).mono ?_;rintro e w1 ⟨n3,rfl,_,hd⟩;have HS3:=hide ((SF.box2 (uq HB) (uq HS2)).step hd);have HG3:=hide ((uq HG2).trans hd.2.2);obtain⟨o3,q3,k3,rfl⟩:=zaf hd.1 (SF.box2 (uq HB) (uq HS2)).2.bl;clear hd);rw[zan (uq HB)]at HS3 ⊢;generalize q2++q3=q3 at HS3 ⊢;obtain⟨X3,HX3⟩:∃ Z,Hid (bnd X2 (sq [zah [102,108,111,119],zaG])=Z):=⟨_,rfl⟩;rw[uq HX3]at HS3 HG3;go_wp2_with fail
 (refine(ze6 (X:=X3) [117,115,101] rfl (SF.box2 (uq HB) (uq HS3)).2).mono ?_;rintro e w1 ⟨n4,m4,rfl,hd⟩;have HS4:=hide ((SF.box2 (uq HB) (uq HS3)).step hd);have HG4:=hide ((uq HG3).trans hd.2.2);obtain⟨o4,q4,k4,rfl⟩:=zaf hd.1 (SF.box2 (uq HB) (uq HS3)).2.bl;clear hd);rw[zan (uq HB)]at HS4 ⊢;generalize q3++q4=q4 at HS4 ⊢;obtain⟨X4,HX4⟩:∃ Z,Hid (bnd X3 (sq [zah [117,115,101],zcq])=Z):=⟨_,rfl⟩;rw[uq HX4]at HS4 HG4;go_wp2_with fail
 (refine(zaB (X:=X4) [115,112,101,101,100] rfl (SF.box2 (uq HB) (uq HS4)).2).mono ?_;rintro e w1 ⟨n5,rfl,_,hd⟩;have HS5:=hide ((SF.box2 (uq HB) (uq HS4)).step hd);have HG5:=hide ((uq HG4).trans hd.2.2);obtain⟨o5,q5,k5,rfl⟩:=zaf hd.1 (SF.box2 (uq HB) (uq HS4)).2.bl;clear hd);rw[zan (uq HB)]at HS5 ⊢;generalize q4++q5=q5 at HS5 ⊢;obtain⟨X5,HX5⟩:∃ Z,Hid (bnd X4 (sq [zah [115,112,101,101,100],zaG])=Z):=⟨_,rfl⟩;rw[uq HX5]at HS5 HG5;go_wp2_with fail
 (refine(zag (X:=X5) [103,114,97,100,101] rfl (SF.box2 (uq HB) (uq HS5)).2).mono ?_;rintro e w1 ⟨rfl,hd⟩;have HS6:=hide ((SF.box2 (uq HB) (uq HS5)).step hd);have HG6:=hide ((uq HG5).trans hd.2.2);obtain⟨o6,q6,k6,rfl⟩:=zaf hd.1 (SF.box2 (uq HB) (uq HS5)).2.bl;clear hd);rw[zan (uq HB)]at HS6 ⊢;generalize q5++q6=q6 at HS6 ⊢;obtain⟨X6,HX6⟩:∃ Z,Hid (bnd X5 (zah [103,114,97,100,101])=Z):=⟨_,rfl⟩;rw[uq HX6]at HS6 HG6;go_wp2_with fail
 (refine(zco (Y:=zad X6) [45] rfl (SF.box2 (uq HB) (uq HS6)).2).mono ?_;rintro e w1 ⟨rfl,rfl⟩);generalize hq:isq [45] (zad X6)=bq;cases bq with
 |false=>
  go_wp2_with fail
  (refine(zdC (X:=X6) (SF.box2 (uq HB) (uq HS6)).2).mono ?_;rintro e w1 ⟨n7,rfl,_,hd⟩;have HS7:=hide ((SF.box2 (uq HB) (uq HS6)).step hd);have HG7:=hide hd.2.2;obtain⟨o7,q7,k7,rfl⟩:=zaf hd.1 (SF.box2 (uq HB) (uq HS6)).2.bl;clear hd);rw[zan (uq HB)]at HS7 ⊢;generalize q6++q7=q7 at HS7 ⊢;obtain⟨X7,HX7⟩:∃ Z,Hid (bnd X6 zaW=Z):=⟨_,rfl⟩;have hgr:=ziq hq (uq HG7);rw[← hgr.1,uq HX7]at HS7;rw[uq HX7]at hgr;replace HG7:=hide ((uq HG6).trans hgr.2);clear hgr hq;go_wp2_with fail
  (refine(zaB (X:=X7) [119,105,100,116,104] rfl (SF.box2 (uq HB) (uq HS7)).2).mono ?_;rintro e w1 ⟨n8,rfl,_,hd⟩;have HS8:=hide ((SF.box2 (uq HB) (uq HS7)).step hd);have HG8:=hide ((uq HG7).trans hd.2.2);obtain⟨o8,q8,k8,rfl⟩:=zaf hd.1 (SF.box2 (uq HB) (uq HS7)).2.bl;clear hd);rw[zan (uq HB)]at HS8 ⊢;generalize q7++q8=q8 at HS8 ⊢;obtain⟨X8,HX8⟩:∃ Z,Hid (bnd X7 (sq [zah [119,105,100,116,104],zaG])=Z):=⟨_,rfl⟩;rw[uq HX8]at HS8 HG8;go_wp2_with fail
  (refine(zaB (X:=X8) [108,101,110,103,116,104] rfl (SF.box2 (uq HB) (uq HS8)).2).mono ?_;rintro e w1 ⟨n9,rfl,_,hd⟩;have HS9:=hide ((SF.box2 (uq HB) (uq HS8)).step hd);have HG9:=hide ((uq HG8).trans hd.2.2);obtain⟨o9,q9,k9,rfl⟩:=zaf hd.1 (SF.box2 (uq HB) (uq HS8)).2.bl;clear hd);rw[zan (uq HB)]at HS9 ⊢;generalize q8++q9=q9 at HS9 ⊢;obtain⟨X9,HX9⟩:∃ Z,Hid (bnd X8 (sq [zah [108,101,110,103,116,104],zaG])=Z):=⟨_,rfl⟩;rw[uq HX9]at HS9 HG9;go_wp2_with fail
  (refine(zaB (X:=X9) [103,114,101,101,110] rfl (SF.box2 (uq HB) (uq HS9)).2).mono ?_;rintro e w1 ⟨n10,rfl,_,hd⟩;have HS10:=hide ((SF.box2 (uq HB) (uq HS9)).step hd);have HG10:=hide ((uq HG9).trans hd.2.2);obtain⟨o10,q10,k10,rfl⟩:=zaf hd.1 (SF.box2 (uq HB) (uq HS9)).2.bl;clear hd);rw[zan (uq HB)]at HS10 ⊢;generalize q9++q10=q10 at HS10 ⊢;obtain⟨X10,HX10⟩:∃ Z,Hid (bnd X9 (sq [zah [103,114,101,101,110],zaG])=Z):=⟨_,rfl⟩;rw[uq HX10]at HS10 HG10;go_wp2_with fail
  (refine(zag (X:=X10) [59] rfl (SF.box2 (uq HB) (uq HS10)).2).mono ?_;rintro e w1 ⟨rfl,hd⟩;have HS11:=hide ((SF.box2 (uq HB) (uq HS10)).step hd);have HG11:=hide ((uq HG10).trans hd.2.2);obtain⟨o11,q11,k11,rfl⟩:=zaf hd.1 (SF.box2 (uq HB) (uq HS10)).2.bl;clear hd);rw[zan (uq HB)]at HS11 ⊢;generalize q10++q11=q11 at HS11 ⊢;obtain⟨X11,HX11⟩:∃ Z,Hid (bnd X10 (zah [59])=Z):=⟨_,rfl⟩;rw[uq HX11]at HS11 HG11;go_wp2_with fail
  refine bodyPost_ret (v:= .agg #[.string (sv s1),.int .i64 n2,.int .i64 n3,.int .i64 n4,.int .i64 m4,.int .i64 n5,.int .i64 n7,.int .i64 n8,.int .i64 n9,.int .i64 n10,.int .i64 t.p]) ?_ rfl ?_
  ·simp[results,Tryz.results47,go_sem,n0,n1]
  ·refine⟨s1,n2,n3,n4,m4,n5,n7,n8,n9,n10,t.p,rfl,zcy (d:=dI t.p) (ds:= [dS s1,dI n2,dI n3,dI n4,dI m4,dI n5,dI n7,dI n8,dI n9,dI n10]) (SF.box2 (uq HB) (uq HS11)) (uq HG11) ?_ (zbj _ (zao _ (zao _ (zao _ (zao _ (zao _ (zao _ (zao _ (zao _ (zao _ (zao _ (zat _ _))))))))))))⟩;have a0:=uq HX0;have a1:=uq HX1;have a2:=uq HX2;have a3:=uq HX3;have a4:=uq HX4;have a5:=uq HX5;have a6:=uq HX6;have a7:=uq HX7;have a8:=uq HX8;have a9:=uq HX9;have a10:=uq HX10;have a11:=uq HX11;simp only[zac,zar,zcq]at a0 a1 a2 a3 a4 a5 a6 a7 a8 a9 a10 a11 ⊢;rw[a0,a1,a2,a3,a4,a5,a6,a7,a8,a9,a10,a11]
 |true=>
  have hz:=zew (X:=X6) (s:= [45]) rfl hq (SF.box2 (o1':= .cells #[] 0) (o2':= .cells #[] 0) (uq HB) (uq HS6)).2;obtain⟨c9,t9,r9,e6,he9,hnx⟩:=hz;go_wp2_with fail
  (refine(zbc (Y:=zad X6) (SF.box2 (uq HB) (uq HS6)).2).mono ?_;rintro e w1 ⟨t8,rfl,_,hf,hs,_⟩;rw[hnx]at hs;have HS6b:Hid (SF w b (zad (.ok (c9,r9))) w1):=hide ⟨(SF.box2 (uq HB) (uq HS6)).1.trans hf,hs⟩;obtain⟨o6b,q6b,k6b,rfl⟩:=zaf hf (SF.box2 (uq HB) (uq HS6)).2.bl;clear hf hs);rw[zan (uq HB)]at HS6b ⊢;generalize q6++q6b=q6b at HS6b ⊢;go_wp2_with fail
  (refine(zdC (X:= .ok (c9,r9)) (SF.box2 (uq HB) (uq HS6b)).2).mono ?_;rintro e w1 ⟨n7,rfl,hr7,hd⟩;have HS7:=hide ((SF.box2 (uq HB) (uq HS6b)).step hd);have HG7:=hide hd.2.2;obtain⟨o7,q7,k7,rfl⟩:=zaf hd.1 (SF.box2 (uq HB) (uq HS6b)).2.bl;clear hd);rw[zan (uq HB)]at HS7 ⊢;generalize q6b++q7=q7 at HS7 ⊢;obtain⟨X7,HX7⟩:∃ Z,Hid (bnd X6 zaW=Z):=⟨_,rfl⟩;have hgr:=zhh hq ⟨c9,t9,r9,e6,rfl⟩ (uq HG7);rw[← hgr.1,uq HX7]at HS7;rw[uq HX7]at hgr;replace HG7:=hide ((uq HG6).trans hgr.2);have hw:wrap64 (-n7)= -n7:=by unfold wrap64;omega
  clear hgr hq e6 he9 hnx hr7;go_wp2_with fail
  (refine(zaB (X:=X7) [119,105,100,116,104] rfl (SF.box2 (uq HB) (uq HS7)).2).mono ?_;rintro e w1 ⟨n8,rfl,_,hd⟩;have HS8:=hide ((SF.box2 (uq HB) (uq HS7)).step hd);have HG8:=hide ((uq HG7).trans hd.2.2);obtain⟨o8,q8,k8,rfl⟩:=zaf hd.1 (SF.box2 (uq HB) (uq HS7)).2.bl;clear hd);rw[zan (uq HB)]at HS8 ⊢;generalize q7++q8=q8 at HS8 ⊢;obtain⟨X8,HX8⟩:∃ Z,Hid (bnd X7 (sq [zah [119,105,100,116,104],zaG])=Z):=⟨_,rfl⟩;rw[uq HX8]at HS8 HG8;go_wp2_with fail
  (refine(zaB (X:=X8) [108,101,110,103,116,104] rfl (SF.box2 (uq HB) (uq HS8)).2).mono ?_;rintro e w1 ⟨n9,rfl,_,hd⟩;have HS9:=hide ((SF.box2 (uq HB) (uq HS8)).step hd);have HG9:=hide ((uq HG8).trans hd.2.2);obtain⟨o9,q9,k9,rfl⟩:=zaf hd.1 (SF.box2 (uq HB) (uq HS8)).2.bl;clear hd);rw[zan (uq HB)]at HS9 ⊢;generalize q8++q9=q9 at HS9 ⊢;obtain⟨X9,HX9⟩:∃ Z,Hid (bnd X8 (sq [zah [108,101,110,103,116,104],zaG])=Z):=⟨_,rfl⟩;rw[uq HX9]at HS9 HG9;go_wp2_with fail
  (refine(zaB (X:=X9) [103,114,101,101,110] rfl (SF.box2 (uq HB) (uq HS9)).2).mono ?_;rintro e w1 ⟨n10,rfl,_,hd⟩;have HS10:=hide ((SF.box2 (uq HB) (uq HS9)).step hd);have HG10:=hide ((uq HG9).trans hd.2.2);obtain⟨o10,q10,k10,rfl⟩:=zaf hd.1 (SF.box2 (uq HB) (uq HS9)).2.bl;clear hd);rw[zan (uq HB)]at HS10 ⊢;generalize q9++q10=q10 at HS10 ⊢;obtain⟨X10,HX10⟩:∃ Z,Hid (bnd X9 (sq [zah [103,114,101,101,110],zaG])=Z):=⟨_,rfl⟩;rw[uq HX10]at HS10 HG10;go_wp2_with fail
  (refine(zag (X:=X10) [59] rfl (SF.box2 (uq HB) (uq HS10)).2).mono ?_;rintro e w1 ⟨rfl,hd⟩;have HS11:=hide ((SF.box2 (uq HB) (uq HS10)).step hd);have HG11:=hide ((uq HG10).trans hd.2.2);obtain⟨o11,q11,k11,rfl⟩:=zaf hd.1 (SF.box2 (uq HB) (uq HS10)).2.bl;clear hd);rw[zan (uq HB)]at HS11 ⊢;generalize q10++q11=q11 at HS11 ⊢;obtain⟨X11,HX11⟩:∃ Z,Hid (bnd X10 (zah [59])=Z):=⟨_,rfl⟩;rw[uq HX11]at HS11 HG11;go_wp2_with fail
  refine bodyPost_ret (v:= .agg #[.string (sv s1),.int .i64 n2,.int .i64 n3,.int .i64 n4,.int .i64 m4,.int .i64 n5,.int .i64 (-n7),.int .i64 n8,.int .i64 n9,.int .i64 n10,.int .i64 t.p]) ?_ rfl ?_
  ·simp[results,Tryz.results47,go_sem,n0,n1]
  ·refine⟨s1,n2,n3,n4,m4,n5,(-n7),n8,n9,n10,t.p,rfl,zcy (d:=dI t.p) (ds:= [dS s1,dI n2,dI n3,dI n4,dI m4,dI n5,dI (-n7),dI n8,dI n9,dI n10]) (SF.box2 (uq HB) (uq HS11)) (uq HG11) ?_ (zbj _ (zao _ (zao _ (zao _ (zao _ (zao _ (zao _ (zao _ (zao _ (zao _ (zao _ (zat _ _))))))))))))⟩;have a0:=uq HX0;have a1:=uq HX1;have a2:=uq HX2;have a3:=uq HX3;have a4:=uq HX4;have a5:=uq HX5;have a6:=uq HX6;have a7:=uq HX7;have a8:=uq HX8;have a9:=uq HX9;have a10:=uq HX10;have a11:=uq HX11;simp only[zac,zar,zcq]at a0 a1 a2 a3 a4 a5 a6 a7 a8 a9 a10 a11 ⊢;rw[a0,a1,a2,a3,a4,a5,a6,a7,a8,a9,a10,a11]
end Q
end Go.Proofs.YtpmaonkelkmhbaaGreat
