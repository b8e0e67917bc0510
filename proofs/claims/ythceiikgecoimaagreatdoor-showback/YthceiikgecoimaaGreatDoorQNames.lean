/- The document's reader: head and walk. -/
import Derived.Test.YthceiikgecoimaaGreatDoorQTwo
namespace Go.Proofs.YthceiikgecoimaaGreatDoor
open Go.RowKit
attribute [local go_sem ↓] Go.wp_at_zero Go.wp_at_succ
set_option linter.unusedVariables false
set_option linter.unusedSimpArgs false
set_option maxRecDepth 10000
namespace Q
def zpx (p:List Tok->Rs) (cs:List D) (us:List Value) (b:Nat) (X:Rs) (w w':World):Prop:=Fr (λi=>i=b) w w'/\Sr w' b (zaz (bnb X p))/\Rds w' cs (λi=>w.heap.size<=i) us/\∀ c r,bnb X p= .ok (c,r)->cs=c
theorem zej {ps:List Sp} {d:D} {ds:List D} {us:List Value} {b:Nat} {X Z:Rs} {w w':World} (h:SF w b (zaz Z) w') (hg:Got (zbU X) Z (d :: ds)) (e:bnd (zbU X) (sq ps)=Z) (hr:Rds w' (ds++ [d]) (λi=>w.heap.size<=i) us):zpx (zct (sq ps [])) (ds++ [d]) us b X w w':=by
 subst e;refine⟨h.1,?_,hr,λc r e=>(hg.rot c r e).symm⟩;rw[zkX,<- zew];exact h.2
theorem zjd {ps:List Sp} {ds:List D} {us:List Value} {b:Nat} {X Z:Rs} {w w':World} (h:SF w b (zaz Z) w') (hg:Got (zbU X) Z ds) (e:bnd (zbU X) (sq ps)=Z) (hr:Rds w' ds (λi=>w.heap.size<=i) us):zpx (sq ps []) ds us b X w w':=by
 subst e;refine⟨h.1,?_,hr,λc r e=>(hg.all c r e).symm⟩;rw[<- zew];exact h.2
theorem za2 (w:World) (P:Nat->Prop):Rds w [] P []:=by simp only[Rds]
theorem zcN {w:World} {P:Nat->Prop} {ds:List D} {us:List Value} (s:List UInt8) (h:Rds w ds P us):Rds w (dS s :: ds) P (.string (sv s) :: us):=by simp only[Rds];exact⟨_,_,rfl,⟨rfl,rfl⟩,h⟩
theorem zaS {w:World} {P:Nat->Prop} {ds:List D} {us:List Value} (n:Int) (h:Rds w ds P us):Rds w (dI n :: ds) P (.int .i64 n :: us):=by simp only[Rds];exact⟨_,_,rfl,⟨rfl,rfl⟩,h⟩
set_option maxHeartbeats 4000000 in
theorem zhi {w:World} {b:Nat} {X:Rs} (h:Sr w b (zaz X)):Calls Tryz.prog 79 #[.pointer (some ⟨b,0,none⟩)] w λr w'=>∃ s1 s2 n1 n2 n3 n4,r= .returned (.agg #[.string (sv s1),.string (sv s2),.int .i64 n1,.int .i64 n2,.int .i64 n3,.int .i64 n4])/\zpx zbY [dS s1,dS s2,dI n1,dI n2,dI n3,dI n4] [.string (sv s1),.string (sv s2),.int .i64 n1,.int .i64 n2,.int .i64 n3,.int .i64 n4] b X w w':=by
 obtain⟨ad,cap,e,p,t,r',h1,h2⟩:=h.front;obtain⟨t0,t1,t2,t3⟩:=h1.tok;have hp:=zdR (X:=zbU X) (by rw[zbN];exact h) h1 (by rw[zbN];exact h2);have HS0:Hid (SF w b (zaz (bnd (zbU X) zaO)) ((w.alloc (.cells #[.string ⟨#[]⟩,.string ⟨#[]⟩,.int .i64 0,.int .i64 0,.int .i64 0,.int .i64 0] 79)).alloc (.cells #[.string ⟨#[]⟩,.string ⟨#[]⟩,.int .i64 0,.int .i64 0,.int .i64 0,.int .i64 t.p] 79))):=zh (SF.keep ⟨.refl _ _,hp.1⟩ (zaM _ _ _));have HG0:=zh hp.2;obtain⟨X0,HX0⟩:∃ Z,Hid (bnd (zbU X) zaO=Z):=⟨_,rfl⟩;rw[uq HX0]at HS0 HG0;have hb:=h.bl;have HB:=zh hb;have n0:¬w.heap.size=b:=by omega
 have n1:¬w.heap.size+1=b:=by omega
 have c0:=h1.c0;simp only[List.length_cons]at c0;have g0:∀ o,(w.alloc o).cell? ⟨b,0,none⟩=some (.slice (some ad) (r'.length+1) cap):=λo=>kcell ((zk w).alloc o) c0
 have q3:∀ o,(w.alloc o).cell? ⟨ad.block,ad.off+3,none⟩=some (.int .i64 t.p):=λo=>kcell ((zk w).alloc o) t3
 clear hp h1 h2 t0 t1 t2 t3 c0 hb h;go_enter Tryz.func79,Tryz.ntmps79
 go_upto_region 2 with fail
 clear g0 q3;go_wp2_with fail
 (refine(zax (X:=X0) (uq HS0).2).mono ?_;rintro e w1 ⟨s1,rfl,hd⟩;have HS1:=zh ((uq HS0).step hd);have HG1:=zh ((uq HG0).trans hd.2.2);obtain⟨o1,q1,k1,rfl⟩:=zaE hd.1 (uq HS0).2.bl;clear hd);obtain⟨X1,HX1⟩:∃ Z,Hid (bnd X0 zai=Z):=⟨_,rfl⟩;rw[uq HX1]at HS1 HG1;go_wp2_with fail
 (refine(zaU (X:=X1) [119,105,116,104] rfl (SF.box2 (uq HB) (uq HS1)).2).mono ?_;rintro e w1 ⟨rfl,hd⟩;have HS2:=zh ((SF.box2 (uq HB) (uq HS1)).step hd);have HG2:=zh ((uq HG1).trans hd.2.2);obtain⟨o2,q2,k2,rfl⟩:=zaE hd.1 (SF.box2 (uq HB) (uq HS1)).2.bl;clear hd);rw[zaQ (uq HB)]at HS2 |-;generalize q1++q2=q2 at HS2 |-;obtain⟨X2,HX2⟩:∃ Z,Hid (bnd X1 (zad [119,105,116,104])=Z):=⟨_,rfl⟩;rw[uq HX2]at HS2 HG2;go_wp2_with fail
 (refine(zax (X:=X2) (SF.box2 (uq HB) (uq HS2)).2).mono ?_;rintro e w1 ⟨s3,rfl,hd⟩;have HS3:=zh ((SF.box2 (uq HB) (uq HS2)).step hd);have HG3:=zh ((uq HG2).trans hd.2.2);obtain⟨o3,q3,k3,rfl⟩:=zaE hd.1 (SF.box2 (uq HB) (uq HS2)).2.bl;clear hd);rw[zaQ (uq HB)]at HS3 |-;generalize q2++q3=q3 at HS3 |-;obtain⟨X3,HX3⟩:∃ Z,Hid (bnd X2 zai=Z):=⟨_,rfl⟩;rw[uq HX3]at HS3 HG3;go_wp2_with fail
 (refine(zaB (X:=X3) [108,111,110,103] rfl (SF.box2 (uq HB) (uq HS3)).2).mono ?_;rintro e w1 ⟨n4,rfl,_,hd⟩;have HS4:=zh ((SF.box2 (uq HB) (uq HS3)).step hd);have HG4:=zh ((uq HG3).trans hd.2.2);obtain⟨o4,q4,k4,rfl⟩:=zaE hd.1 (SF.box2 (uq HB) (uq HS3)).2.bl;clear hd);rw[zaQ (uq HB)]at HS4 |-;generalize q3++q4=q4 at HS4 |-;obtain⟨X4,HX4⟩:∃ Z,Hid (bnd X3 (sq [zad [108,111,110,103],zar])=Z):=⟨_,rfl⟩;rw[uq HX4]at HS4 HG4;go_wp2_with fail
 (refine(zaB (X:=X4) [112,97,99,101] rfl (SF.box2 (uq HB) (uq HS4)).2).mono ?_;rintro e w1 ⟨n5,rfl,_,hd⟩;have HS5:=zh ((SF.box2 (uq HB) (uq HS4)).step hd);have HG5:=zh ((uq HG4).trans hd.2.2);obtain⟨o5,q5,k5,rfl⟩:=zaE hd.1 (SF.box2 (uq HB) (uq HS4)).2.bl;clear hd);rw[zaQ (uq HB)]at HS5 |-;generalize q4++q5=q5 at HS5 |-;obtain⟨X5,HX5⟩:∃ Z,Hid (bnd X4 (sq [zad [112,97,99,101],zar])=Z):=⟨_,rfl⟩;rw[uq HX5]at HS5 HG5;go_wp2_with fail
 (refine(zaB (X:=X5) [108,101,97,115,116] rfl (SF.box2 (uq HB) (uq HS5)).2).mono ?_;rintro e w1 ⟨n6,rfl,_,hd⟩;have HS6:=zh ((SF.box2 (uq HB) (uq HS5)).step hd);have HG6:=zh ((uq HG5).trans hd.2.2);obtain⟨o6,q6,k6,rfl⟩:=zaE hd.1 (SF.box2 (uq HB) (uq HS5)).2.bl;clear hd);rw[zaQ (uq HB)]at HS6 |-;generalize q5++q6=q6 at HS6 |-;obtain⟨X6,HX6⟩:∃ Z,Hid (bnd X5 (sq [zad [108,101,97,115,116],zar])=Z):=⟨_,rfl⟩;rw[uq HX6]at HS6 HG6;go_wp2_with fail
 (refine(zaU (X:=X6) [59] rfl (SF.box2 (uq HB) (uq HS6)).2).mono ?_;rintro e w1 ⟨rfl,hd⟩;have HS7:=zh ((SF.box2 (uq HB) (uq HS6)).step hd);have HG7:=zh ((uq HG6).trans hd.2.2);obtain⟨o7,q7,k7,rfl⟩:=zaE hd.1 (SF.box2 (uq HB) (uq HS6)).2.bl;clear hd);rw[zaQ (uq HB)]at HS7 |-;generalize q6++q7=q7 at HS7 |-;obtain⟨X7,HX7⟩:∃ Z,Hid (bnd X6 (zad [59])=Z):=⟨_,rfl⟩;rw[uq HX7]at HS7 HG7;go_wp2_with fail
 refine bodyPost_ret (v:= .agg #[.string (sv s1),.string (sv s3),.int .i64 n4,.int .i64 n5,.int .i64 n6,.int .i64 t.p]) ?_ rfl ?_
 ·simp[results,Tryz.results79,go_sem,n0,n1]
 ·refine⟨s1,s3,n4,n5,n6,t.p,rfl,zej (d:=dI t.p) (ds:= [dS s1,dS s3,dI n4,dI n5,dI n6]) (SF.box2 (uq HB) (uq HS7)) (uq HG7) ?_ (zcN _ (zcN _ (zaS _ (zaS _ (zaS _ (zaS _ (za2 _ _)))))))⟩;have a0:=uq HX0;have a1:=uq HX1;have a2:=uq HX2;have a3:=uq HX3;have a4:=uq HX4;have a5:=uq HX5;have a6:=uq HX6;have a7:=uq HX7;simp only[zav,zaY,zba]at a0 a1 a2 a3 a4 a5 a6 a7 |-;rw[a0,a1,a2,a3,a4,a5,a6,a7]
theorem zk7 {X:Rs} {n:Int} (hi:isq [45] (zaz X)=false) (hg:Got X (bnd X zar) [dI n]):zaz (bnd X zaI)=zaz (bnd X zar)/\Got X (bnd X zaI) [dI n]:=by
 rcases X with x|⟨c,r⟩
 ·exact⟨rfl,λc r e=>by cases e⟩
 ·cases r with
  |nil=>exact⟨rfl,λc r e=>by cases e⟩
  |cons t r=>
   have hne:¬t.s= [45]:=by simpa [isq,zaz]using hi
   simp only[bnd,zar]at hg;have e1:zaI c (t :: r)=if t.k=2 then .ok (c++ [dI t.n],r)else .error (50,t.p):=by
    by_cases h2:t.k=2
    ·simp only[zaI,sq,zaX,if_neg hne,zar,if_pos h2,dB,dI,List.nil_append,List.cons_append];simp
    ·simp only[zaI,sq,zaX,if_neg hne,zar,if_neg h2,bad]
   have e2:zar c (t :: r)=if t.k=2 then .ok (c++ [dI t.n],r)else .error (50,t.p):=rfl
   simp only[bnd];rw[e1,e2];rw[show(if t.k=2 then Except.ok (c++ [dI t.n],r)else bad 50 (t :: r))=(if t.k=2 then .ok (c++ [dI t.n],r)else .error (50,t.p):Rs)from rfl]at hg;exact⟨rfl,hg⟩
theorem zje {X Z:Rs} {n:Int} (hi:isq [45] (zaz X)=true) (hz:∃ c t r,X= .ok (c,t :: r)/\Z= .ok (c,r)) (hg:Got Z (bnd Z zar) [dI n]):zaz (bnd X zaI)=zaz (bnd Z zar)/\Got X (bnd X zaI) [dI (-n)]:=by
 obtain⟨c,t,r,rfl,rfl⟩:=hz;have he:t.s= [45]:=by simpa [isq,zaz]using hi
 cases r with
 |nil=>
  have e1:zaI c [t]= .error (50,0):=by simp only[zaI,sq,zaX,if_pos he,zar,bad]
  simp only[bnd];rw[e1];exact⟨rfl,λc r e=>by cases e⟩
 |cons u r=>
  have e1:zaI c (t :: u :: r)=if u.k=2 then .ok (c++ [dI (-u.n)],r)else .error (50,u.p):=by
   by_cases h2:u.k=2
   ·simp only[zaI,sq,zaX,if_pos he,zar,if_pos h2,dB,dI,List.nil_append,List.cons_append];simp
   ·simp only[zaI,sq,zaX,if_pos he,zar,if_neg h2,bad]
  have e2:zar c (u :: r)=if u.k=2 then .ok (c++ [dI u.n],r)else .error (50,u.p):=rfl
  simp only[bnd]at hg |-;rw[e2]at hg |-;rw[e1];by_cases h2:u.k=2
  ·rw[if_pos h2]at hg |-;rw[if_pos h2];refine⟨rfl,λc2 r2 e=>?_⟩;obtain⟨c0,r0,h0,h1⟩:=hg _ _ rfl;simp only[Except.ok.injEq,Prod.mk.injEq]at h0;obtain⟨rfl,_⟩:=h0;have hn:u.n=n:=by have:=List.append_cancel_left h1;simpa [dI]using this
   simp only[Except.ok.injEq,Prod.mk.injEq]at e;exact⟨c,_,rfl,by rw[<- e.1,hn]⟩
  ·rw[if_neg h2,if_neg h2];exact⟨rfl,λc r e=>by cases e⟩
theorem zgw {w:World} {b:Nat} {X:Rs} {s:List UInt8} (hs:wrd s=true) (hi:isq s (zaz X)=true) (h:Sr w b (zaz X)):∃ c t r,X= .ok (c,t :: r)/\t.s=s/\zfu (zaz X)=zaz (.ok (c,r)):=by
 rcases X with x|⟨c,r⟩
 ·cases hi
 ·obtain⟨ad,cap,p,t,r',e,h1⟩:=Sr.alive (r:=r) h;subst e;have he:t.s=s:=by simpa [isq,zaz]using hi
  have hk:=((h1.wq.2 t List.mem_cons_self).word hs he).1;exact⟨c,t,r',rfl,he,by show(if t.k=0 then _ else _)=_;rw[if_neg hk];rfl⟩
set_option maxHeartbeats 8000000 in
theorem zek {w:World} {b:Nat} {X:Rs} (h:Sr w b (zaz X)):Calls Tryz.prog 78 #[.pointer (some ⟨b,0,none⟩)] w λr w'=>∃ s n1 n2 n3 n4 n5 n6 n7 n8 n9 n10,r= .returned (.agg #[.string (sv s),.int .i64 n1,.int .i64 n2,.int .i64 n3,.int .i64 n4,.int .i64 n5,.int .i64 n6,.int .i64 n7,.int .i64 n8,.int .i64 n9,.int .i64 n10])/\zpx zbT [dS s,dI n1,dI n2,dI n3,dI n4,dI n5,dI n6,dI n7,dI n8,dI n9,dI n10] [.string (sv s),.int .i64 n1,.int .i64 n2,.int .i64 n3,.int .i64 n4,.int .i64 n5,.int .i64 n6,.int .i64 n7,.int .i64 n8,.int .i64 n9,.int .i64 n10] b X w w':=by
 obtain⟨ad,cap,e,p,t,r',h1,h2⟩:=h.front;obtain⟨t0,t1,t2,t3⟩:=h1.tok;have hp:=zdR (X:=zbU X) (by rw[zbN];exact h) h1 (by rw[zbN];exact h2);have HS0:Hid (SF w b (zaz (bnd (zbU X) zaO)) ((w.alloc (.cells #[.string ⟨#[]⟩,.int .i64 0,.int .i64 0,.int .i64 0,.int .i64 0,.int .i64 0,.int .i64 0,.int .i64 0,.int .i64 0,.int .i64 0,.int .i64 0] 77)).alloc (.cells #[.string ⟨#[]⟩,.int .i64 0,.int .i64 0,.int .i64 0,.int .i64 0,.int .i64 0,.int .i64 0,.int .i64 0,.int .i64 0,.int .i64 0,.int .i64 t.p] 77))):=zh (SF.keep ⟨.refl _ _,hp.1⟩ (zaM _ _ _));have HG0:=zh hp.2;obtain⟨X0,HX0⟩:∃ Z,Hid (bnd (zbU X) zaO=Z):=⟨_,rfl⟩;rw[uq HX0]at HS0 HG0;have hb:=h.bl;have HB:=zh hb;have n0:¬w.heap.size=b:=by omega
 have n1:¬w.heap.size+1=b:=by omega
 have c0:=h1.c0;simp only[List.length_cons]at c0;have g0:∀ o,(w.alloc o).cell? ⟨b,0,none⟩=some (.slice (some ad) (r'.length+1) cap):=λo=>kcell ((zk w).alloc o) c0
 have q3:∀ o,(w.alloc o).cell? ⟨ad.block,ad.off+3,none⟩=some (.int .i64 t.p):=λo=>kcell ((zk w).alloc o) t3
 clear hp h1 h2 t0 t1 t2 t3 c0 hb h;go_enter Tryz.func78,Tryz.ntmps78
 go_upto_region 2 with fail
 clear g0 q3;go_wp2_with fail
 (refine(zax (X:=X0) (uq HS0).2).mono ?_;rintro e w1 ⟨s1,rfl,hd⟩;have HS1:=zh ((uq HS0).step hd);have HG1:=zh ((uq HG0).trans hd.2.2);obtain⟨o1,q1,k1,rfl⟩:=zaE hd.1 (uq HS0).2.bl;clear hd);obtain⟨X1,HX1⟩:∃ Z,Hid (bnd X0 zai=Z):=⟨_,rfl⟩;rw[uq HX1]at HS1 HG1;go_wp2_with fail
 (refine(zaB (X:=X1) [118,111,108,117,109,101] rfl (SF.box2 (uq HB) (uq HS1)).2).mono ?_;rintro e w1 ⟨n2,rfl,_,hd⟩;have HS2:=zh ((SF.box2 (uq HB) (uq HS1)).step hd);have HG2:=zh ((uq HG1).trans hd.2.2);obtain⟨o2,q2,k2,rfl⟩:=zaE hd.1 (SF.box2 (uq HB) (uq HS1)).2.bl;clear hd);rw[zaQ (uq HB)]at HS2 |-;generalize q1++q2=q2 at HS2 |-;obtain⟨X2,HX2⟩:∃ Z,Hid (bnd X1 (sq [zad [118,111,108,117,109,101],zar])=Z):=⟨_,rfl⟩;rw[uq HX2]at HS2 HG2;go_wp2_with fail
 (refine(zaB (X:=X2) [102,108,111,119] rfl (SF.box2 (uq HB) (uq HS2)).2).mono ?_;rintro e w1 ⟨n3,rfl,_,hd⟩;have HS3:=zh ((SF.box2 (uq HB) (uq HS2)).step hd);have HG3:=zh ((uq HG2).trans hd.2.2);obtain⟨o3,q3,k3,rfl⟩:=zaE hd.1 (SF.box2 (uq HB) (uq HS2)).2.bl;clear hd);rw[zaQ (uq HB)]at HS3 |-;generalize q2++q3=q3 at HS3 |-;obtain⟨X3,HX3⟩:∃ Z,Hid (bnd X2 (sq [zad [102,108,111,119],zar])=Z):=⟨_,rfl⟩;rw[uq HX3]at HS3 HG3;go_wp2_with fail
 (refine(zdB (X:=X3) [117,115,101] rfl (SF.box2 (uq HB) (uq HS3)).2).mono ?_;rintro e w1 ⟨n4,m4,rfl,hd⟩;have HS4:=zh ((SF.box2 (uq HB) (uq HS3)).step hd);have HG4:=zh ((uq HG3).trans hd.2.2);obtain⟨o4,q4,k4,rfl⟩:=zaE hd.1 (SF.box2 (uq HB) (uq HS3)).2.bl;clear hd);rw[zaQ (uq HB)]at HS4 |-;generalize q3++q4=q4 at HS4 |-;obtain⟨X4,HX4⟩:∃ Z,Hid (bnd X3 (sq [zad [117,115,101],zba])=Z):=⟨_,rfl⟩;rw[uq HX4]at HS4 HG4;go_wp2_with fail
 (refine(zaB (X:=X4) [115,112,101,101,100] rfl (SF.box2 (uq HB) (uq HS4)).2).mono ?_;rintro e w1 ⟨n5,rfl,_,hd⟩;have HS5:=zh ((SF.box2 (uq HB) (uq HS4)).step hd);have HG5:=zh ((uq HG4).trans hd.2.2);obtain⟨o5,q5,k5,rfl⟩:=zaE hd.1 (SF.box2 (uq HB) (uq HS4)).2.bl;clear hd);rw[zaQ (uq HB)]at HS5 |-;generalize q4++q5=q5 at HS5 |-;obtain⟨X5,HX5⟩:∃ Z,Hid (bnd X4 (sq [zad [115,112,101,101,100],zar])=Z):=⟨_,rfl⟩;rw[uq HX5]at HS5 HG5;go_wp2_with fail
 (refine(zaU (X:=X5) [103,114,97,100,101] rfl (SF.box2 (uq HB) (uq HS5)).2).mono ?_;rintro e w1 ⟨rfl,hd⟩;have HS6:=zh ((SF.box2 (uq HB) (uq HS5)).step hd);have HG6:=zh ((uq HG5).trans hd.2.2);obtain⟨o6,q6,k6,rfl⟩:=zaE hd.1 (SF.box2 (uq HB) (uq HS5)).2.bl;clear hd);rw[zaQ (uq HB)]at HS6 |-;generalize q5++q6=q6 at HS6 |-;obtain⟨X6,HX6⟩:∃ Z,Hid (bnd X5 (zad [103,114,97,100,101])=Z):=⟨_,rfl⟩;rw[uq HX6]at HS6 HG6;go_wp2_with fail
 (refine(zd8 (Y:=zaz X6) [45] rfl (SF.box2 (uq HB) (uq HS6)).2).mono ?_;rintro e w1 ⟨rfl,rfl⟩);generalize hq:isq [45] (zaz X6)=bq;cases bq with
 |false=>
  go_wp2_with fail
  (refine(zfx (X:=X6) (SF.box2 (uq HB) (uq HS6)).2).mono ?_;rintro e w1 ⟨n7,rfl,_,hd⟩;have HS7:=zh ((SF.box2 (uq HB) (uq HS6)).step hd);have HG7:=zh hd.2.2;obtain⟨o7,q7,k7,rfl⟩:=zaE hd.1 (SF.box2 (uq HB) (uq HS6)).2.bl;clear hd);rw[zaQ (uq HB)]at HS7 |-;generalize q6++q7=q7 at HS7 |-;obtain⟨X7,HX7⟩:∃ Z,Hid (bnd X6 zaI=Z):=⟨_,rfl⟩;have hgr:=zk7 hq (uq HG7);rw[<- hgr.1,uq HX7]at HS7;rw[uq HX7]at hgr;replace HG7:=zh ((uq HG6).trans hgr.2);clear hgr hq;go_wp2_with fail
  (refine(zaB (X:=X7) [119,105,100,116,104] rfl (SF.box2 (uq HB) (uq HS7)).2).mono ?_;rintro e w1 ⟨n8,rfl,_,hd⟩;have HS8:=zh ((SF.box2 (uq HB) (uq HS7)).step hd);have HG8:=zh ((uq HG7).trans hd.2.2);obtain⟨o8,q8,k8,rfl⟩:=zaE hd.1 (SF.box2 (uq HB) (uq HS7)).2.bl;clear hd);rw[zaQ (uq HB)]at HS8 |-;generalize q7++q8=q8 at HS8 |-;obtain⟨X8,HX8⟩:∃ Z,Hid (bnd X7 (sq [zad [119,105,100,116,104],zar])=Z):=⟨_,rfl⟩;rw[uq HX8]at HS8 HG8;go_wp2_with fail
  (refine(zaB (X:=X8) [108,101,110,103,116,104] rfl (SF.box2 (uq HB) (uq HS8)).2).mono ?_;rintro e w1 ⟨n9,rfl,_,hd⟩;have HS9:=zh ((SF.box2 (uq HB) (uq HS8)).step hd);have HG9:=zh ((uq HG8).trans hd.2.2);obtain⟨o9,q9,k9,rfl⟩:=zaE hd.1 (SF.box2 (uq HB) (uq HS8)).2.bl;clear hd);rw[zaQ (uq HB)]at HS9 |-;generalize q8++q9=q9 at HS9 |-;obtain⟨X9,HX9⟩:∃ Z,Hid (bnd X8 (sq [zad [108,101,110,103,116,104],zar])=Z):=⟨_,rfl⟩;rw[uq HX9]at HS9 HG9;go_wp2_with fail
  (refine(zaB (X:=X9) [103,114,101,101,110] rfl (SF.box2 (uq HB) (uq HS9)).2).mono ?_;rintro e w1 ⟨n10,rfl,_,hd⟩;have HS10:=zh ((SF.box2 (uq HB) (uq HS9)).step hd);have HG10:=zh ((uq HG9).trans hd.2.2);obtain⟨o10,q10,k10,rfl⟩:=zaE hd.1 (SF.box2 (uq HB) (uq HS9)).2.bl;clear hd);rw[zaQ (uq HB)]at HS10 |-;generalize q9++q10=q10 at HS10 |-;obtain⟨X10,HX10⟩:∃ Z,Hid (bnd X9 (sq [zad [103,114,101,101,110],zar])=Z):=⟨_,rfl⟩;rw[uq HX10]at HS10 HG10;go_wp2_with fail
  (refine(zaU (X:=X10) [59] rfl (SF.box2 (uq HB) (uq HS10)).2).mono ?_;rintro e w1 ⟨rfl,hd⟩;have HS11:=zh ((SF.box2 (uq HB) (uq HS10)).step hd);have HG11:=zh ((uq HG10).trans hd.2.2);obtain⟨o11,q11,k11,rfl⟩:=zaE hd.1 (SF.box2 (uq HB) (uq HS10)).2.bl;clear hd);rw[zaQ (uq HB)]at HS11 |-;generalize q10++q11=q11 at HS11 |-;obtain⟨X11,HX11⟩:∃ Z,Hid (bnd X10 (zad [59])=Z):=⟨_,rfl⟩;rw[uq HX11]at HS11 HG11;go_wp2_with fail
  refine bodyPost_ret (v:= .agg #[.string (sv s1),.int .i64 n2,.int .i64 n3,.int .i64 n4,.int .i64 m4,.int .i64 n5,.int .i64 n7,.int .i64 n8,.int .i64 n9,.int .i64 n10,.int .i64 t.p]) ?_ rfl ?_
  ·simp[results,Tryz.results78,go_sem,n0,n1]
  ·refine⟨s1,n2,n3,n4,m4,n5,n7,n8,n9,n10,t.p,rfl,zej (d:=dI t.p) (ds:= [dS s1,dI n2,dI n3,dI n4,dI m4,dI n5,dI n7,dI n8,dI n9,dI n10]) (SF.box2 (uq HB) (uq HS11)) (uq HG11) ?_ (zcN _ (zaS _ (zaS _ (zaS _ (zaS _ (zaS _ (zaS _ (zaS _ (zaS _ (zaS _ (zaS _ (za2 _ _))))))))))))⟩;have a0:=uq HX0;have a1:=uq HX1;have a2:=uq HX2;have a3:=uq HX3;have a4:=uq HX4;have a5:=uq HX5;have a6:=uq HX6;have a7:=uq HX7;have a8:=uq HX8;have a9:=uq HX9;have a10:=uq HX10;have a11:=uq HX11;simp only[zav,zaY,zba]at a0 a1 a2 a3 a4 a5 a6 a7 a8 a9 a10 a11 |-;rw[a0,a1,a2,a3,a4,a5,a6,a7,a8,a9,a10,a11]
 |true=>
  have hz:=zgw (X:=X6) (s:= [45]) rfl hq (SF.box2 (o1':= .cells #[] 0) (o2':= .cells #[] 0) (uq HB) (uq HS6)).2;obtain⟨c9,t9,r9,e6,he9,hnx⟩:=hz;go_wp2_with fail
  (refine(zcg (Y:=zaz X6) (SF.box2 (uq HB) (uq HS6)).2).mono ?_;rintro e w1 ⟨t8,rfl,_,hf,hs,_⟩;rw[hnx]at hs;have HS6b:Hid (SF w b (zaz (.ok (c9,r9))) w1):=zh ⟨(SF.box2 (uq HB) (uq HS6)).1.trans hf,hs⟩;obtain⟨o6b,q6b,k6b,rfl⟩:=zaE hf (SF.box2 (uq HB) (uq HS6)).2.bl;clear hf hs);rw[zaQ (uq HB)]at HS6b |-;generalize q6++q6b=q6b at HS6b |-;go_wp2_with fail
  (refine(zfx (X:= .ok (c9,r9)) (SF.box2 (uq HB) (uq HS6b)).2).mono ?_;rintro e w1 ⟨n7,rfl,hr7,hd⟩;have HS7:=zh ((SF.box2 (uq HB) (uq HS6b)).step hd);have HG7:=zh hd.2.2;obtain⟨o7,q7,k7,rfl⟩:=zaE hd.1 (SF.box2 (uq HB) (uq HS6b)).2.bl;clear hd);rw[zaQ (uq HB)]at HS7 |-;generalize q6b++q7=q7 at HS7 |-;obtain⟨X7,HX7⟩:∃ Z,Hid (bnd X6 zaI=Z):=⟨_,rfl⟩;have hgr:=zje hq ⟨c9,t9,r9,e6,rfl⟩ (uq HG7);rw[<- hgr.1,uq HX7]at HS7;rw[uq HX7]at hgr;replace HG7:=zh ((uq HG6).trans hgr.2);have hw:wrap64 (-n7)= -n7:=by unfold wrap64;omega
  clear hgr hq e6 he9 hnx hr7;go_wp2_with fail
  (refine(zaB (X:=X7) [119,105,100,116,104] rfl (SF.box2 (uq HB) (uq HS7)).2).mono ?_;rintro e w1 ⟨n8,rfl,_,hd⟩;have HS8:=zh ((SF.box2 (uq HB) (uq HS7)).step hd);have HG8:=zh ((uq HG7).trans hd.2.2);obtain⟨o8,q8,k8,rfl⟩:=zaE hd.1 (SF.box2 (uq HB) (uq HS7)).2.bl;clear hd);rw[zaQ (uq HB)]at HS8 |-;generalize q7++q8=q8 at HS8 |-;obtain⟨X8,HX8⟩:∃ Z,Hid (bnd X7 (sq [zad [119,105,100,116,104],zar])=Z):=⟨_,rfl⟩;rw[uq HX8]at HS8 HG8;go_wp2_with fail
  (refine(zaB (X:=X8) [108,101,110,103,116,104] rfl (SF.box2 (uq HB) (uq HS8)).2).mono ?_;rintro e w1 ⟨n9,rfl,_,hd⟩;have HS9:=zh ((SF.box2 (uq HB) (uq HS8)).step hd);have HG9:=zh ((uq HG8).trans hd.2.2);obtain⟨o9,q9,k9,rfl⟩:=zaE hd.1 (SF.box2 (uq HB) (uq HS8)).2.bl;clear hd);rw[zaQ (uq HB)]at HS9 |-;generalize q8++q9=q9 at HS9 |-;obtain⟨X9,HX9⟩:∃ Z,Hid (bnd X8 (sq [zad [108,101,110,103,116,104],zar])=Z):=⟨_,rfl⟩;rw[uq HX9]at HS9 HG9;go_wp2_with fail
  (refine(zaB (X:=X9) [103,114,101,101,110] rfl (SF.box2 (uq HB) (uq HS9)).2).mono ?_;rintro e w1 ⟨n10,rfl,_,hd⟩;have HS10:=zh ((SF.box2 (uq HB) (uq HS9)).step hd);have HG10:=zh ((uq HG9).trans hd.2.2);obtain⟨o10,q10,k10,rfl⟩:=zaE hd.1 (SF.box2 (uq HB) (uq HS9)).2.bl;clear hd);rw[zaQ (uq HB)]at HS10 |-;generalize q9++q10=q10 at HS10 |-;obtain⟨X10,HX10⟩:∃ Z,Hid (bnd X9 (sq [zad [103,114,101,101,110],zar])=Z):=⟨_,rfl⟩;rw[uq HX10]at HS10 HG10;go_wp2_with fail
  (refine(zaU (X:=X10) [59] rfl (SF.box2 (uq HB) (uq HS10)).2).mono ?_;rintro e w1 ⟨rfl,hd⟩;have HS11:=zh ((SF.box2 (uq HB) (uq HS10)).step hd);have HG11:=zh ((uq HG10).trans hd.2.2);obtain⟨o11,q11,k11,rfl⟩:=zaE hd.1 (SF.box2 (uq HB) (uq HS10)).2.bl;clear hd);rw[zaQ (uq HB)]at HS11 |-;generalize q10++q11=q11 at HS11 |-;obtain⟨X11,HX11⟩:∃ Z,Hid (bnd X10 (zad [59])=Z):=⟨_,rfl⟩;rw[uq HX11]at HS11 HG11;go_wp2_with fail
  refine bodyPost_ret (v:= .agg #[.string (sv s1),.int .i64 n2,.int .i64 n3,.int .i64 n4,.int .i64 m4,.int .i64 n5,.int .i64 (-n7),.int .i64 n8,.int .i64 n9,.int .i64 n10,.int .i64 t.p]) ?_ rfl ?_
  ·simp[results,Tryz.results78,go_sem,n0,n1]
  ·refine⟨s1,n2,n3,n4,m4,n5,(-n7),n8,n9,n10,t.p,rfl,zej (d:=dI t.p) (ds:= [dS s1,dI n2,dI n3,dI n4,dI m4,dI n5,dI (-n7),dI n8,dI n9,dI n10]) (SF.box2 (uq HB) (uq HS11)) (uq HG11) ?_ (zcN _ (zaS _ (zaS _ (zaS _ (zaS _ (zaS _ (zaS _ (zaS _ (zaS _ (zaS _ (zaS _ (za2 _ _))))))))))))⟩;have a0:=uq HX0;have a1:=uq HX1;have a2:=uq HX2;have a3:=uq HX3;have a4:=uq HX4;have a5:=uq HX5;have a6:=uq HX6;have a7:=uq HX7;have a8:=uq HX8;have a9:=uq HX9;have a10:=uq HX10;have a11:=uq HX11;simp only[zav,zaY,zba]at a0 a1 a2 a3 a4 a5 a6 a7 a8 a9 a10 a11 |-;rw[a0,a1,a2,a3,a4,a5,a6,a7,a8,a9,a10,a11]
end Q
namespace Q
theorem zjf:(Tryz.prog.info? 9).map (λi=>(i.zero,i.size,i.bytes))=some (some (.string ⟨#[]⟩),1,16):=by kernel_rfl
theorem new_cells (w:World) (vs:List Value) (t:TypeId):∀ j u,vs[j]? =some u->(w.alloc (.cells vs.toArray t)).cell? ((⟨w.heap.size,0,none⟩:Addr).add j)=some u:=by
 intro j u hu
 rw[zbt,Nat.zero_add];exact(bxs_new w vs t j u hu).1
theorem zk8 {w w1:World} {b e:Nat} (k:Fr (λi=>i=b) w w1) (s:List UInt8):RO (λi=>i=b) w e 1 (w1.alloc (.cells #[.string (sv s)] e)) [[dS s]] (.slice (some ⟨w1.heap.size,0,none⟩) 1 1):=by
 refine⟨k.trans (.keep ((zk w1).alloc _)),?_⟩;simp only[Rd];refine⟨[.string (sv s)],World.ownsRow_lit w1 #[.string (sv s)] 1 (Nat.zero_le _) (by unfold maxLen;omega) rfl,λg hg=>?_,?_⟩
 ·simp only[Value.ownBlock,Option.some.injEq]at hg;have:=k.size;omega
 ·simp only[Rdss];exact⟨[.string (sv s)],[],rfl,rfl,zcN s (za2 _ _),rfl⟩
theorem zfy {most:Nat} {L:List (List D)} {u t:Tok} {r:List Tok} {Z:Rs} {s:List UInt8} (h:u.s= [44]) (hZ:Z=if L.length=most/\t.k=1/\¬t.s∈words then .error (4,t.p)else .ok ([],t :: r)) (hg:Got Z (bnd Z zai) [dS s]):nmA most L (.ok (u :: t :: r))=nmA most (L++ [[dS s]]) (zaz (bnd Z zai)):=by
 rw[zol h];by_cases hn:t.k=1/\¬t.s∈words
 ·rw[if_pos hn];by_cases hl:L.length=most
  ·rw[if_pos hl];rw[if_pos ⟨hl,hn⟩]at hZ;subst hZ
   rfl
  ·rw[if_neg hl];rw[if_neg (λx=>hl x.1)]at hZ;subst hZ;have e1:bnd (.ok ([],t :: r)) zai= .ok ([dS t.s],r):=by show(if t.k=1/\¬t.s∈words then _ else _)=_;rw[if_pos hn];rfl
   rw[e1]at hg |-;obtain⟨c0,r0,h0,h1⟩:=hg _ _ rfl;simp only[Except.ok.injEq,Prod.mk.injEq]at h0;obtain⟨rfl,_⟩:=h0;rw[List.nil_append]at h1;rw[h1]
   rfl
 ·rw[if_neg hn];rw[if_neg (λx=>hn x.2)]at hZ;subst hZ;have e1:bnd (.ok ([],t :: r)) zai= .error (50,t.p):=by show(if t.k=1/\¬t.s∈words then _ else _)=_;rw[if_neg hn];rfl
  rw[e1]
  rfl
theorem zfz {most n:Nat} {L:List (List D)} {t:Tok} {r:List Tok} {Z:Rs} {s:List UInt8} (hN:L.length=n) (hZ:Z=if L.length=most/\t.k=1/\¬t.s∈words then .error (4,t.p)else .ok ([],t :: r)) (hg:Got Z (bnd Z zai) [dS s]) (h1:n<=most+1) (h2:n<=most):n+1<=most+1/\∀ r',zaz (bnd Z zai)= .ok r'->n+1<=most:=by
 refine⟨by omega,λr' e=>?_⟩;by_cases hl:L.length=most
 ·exfalso;by_cases hn:t.k=1/\¬t.s∈words
  ·rw[if_pos ⟨hl,hn⟩]at hZ;subst hZ;cases e
  ·rw[if_neg (λx=>hn x.2)]at hZ;subst hZ;have e1:bnd (.ok ([],t :: r)) zai= .error (50,t.p):=by show(if t.k=1/\¬t.s∈words then _ else _)=_;rw[if_neg hn];rfl
   rw[e1]at e;cases e
 ·omega
theorem zfA {most:Nat} {L:List (List D)} {u t:Tok} {r:List Tok} {Z:Rs} {w:World} {b:Nat} (hZ:Z=if L.length=most/\t.k=1/\¬t.s∈words then .error (4,t.p)else .ok ([],t :: r)) (h:Sr w b (zaz (bnd Z zai))):rem w b<(u :: t :: r).length:=by
 cases hx:bnd Z zai with
 |error x=>rw[hx]at h;rw[ziZ (x:=x) h];simp
 |ok q=>
  obtain⟨c,r'⟩:=q;rw[hx]at h;rw[ze0 (r:=r') h];split at hZ
  ·subst hZ;cases hx
  ·subst hZ;have:=zce [] (t :: r) _ _ hx;simp at this |-;omega
def nmX (most:Nat):Rs->Except Er (List (List D)×List Tok)
 | .error x=> .error x
 | .ok (_,r)=>nm most [] r
set_option maxHeartbeats 8000000 in
theorem zbP {w:World} {b:Nat} {X:Rs} (most:Nat) (hm:most≠0) (hmm:most<=1000) (h:Sr w b (zaz X)):
  Calls Tryz.prog 80 #[.pointer (some ⟨b,0,none⟩),.int .i64 (most:Int)] w λr w'=>∃ a n cap L,r= .returned (.slice a n cap)/\Did (sq [zas 9 most,zad [59]]) [.row 9 1 L] b X w w'/\Rd w' (.row 9 1 L) (λi=>w.heap.size<=i) (.slice a n cap):=by
 obtain⟨i0,hi,hz0,hz1,hz2⟩:=zaD zjf;have HI0:=zh hi;have HZ0:=zh hz0;have HZ1:=zh hz1;have HZ2:=zh hz2;have HB:=zh h.bl;have HS0:=zh h;have HM:=zh hm;have HMM:=zh hmm;obtain⟨tgt,HT⟩:∃ tgt:Except Er (List (List D)×List Tok),Hid (tgt=nmX most X):=⟨_,rfl⟩;clear hi hz0 hz1 hz2 h hm hmm;go_enter Tryz.func80,Tryz.ntmps80;go_wp2_with fail
 (refine(zax (X:=X) (uq HS0)).mono ?_;rintro e w1 ⟨s1,rfl,hd⟩;have HD:=zh hd;clear hd);go_wp2_with fail
 go_loopw [5] (λu5 wr=>∃(a:Option Addr) (cap:Nat) (L:List (List D)) (Y:Except Er (List Tok)),u5= .slice a L.length cap/\Hid (RO (λi=>i=b) w 9 1 wr L (.slice a L.length cap))/\Hid (Sr wr b Y)/\Hid (nmA most L Y=tgt)/\Hid (L.length<=most+1/\∀ r,Y= .ok r->L.length<=most)) (λu5 wr=>rem wr b)
 case atStart=>
  refine⟨_,_,[[dS s1]],zaz (bnd X zai),rfl,zh (zk8 (uq HD).1 s1),zh ((uq HD).2.1.keep ((zk w1).alloc _)),zh ?_,zh ⟨by simp,λr _=>by have:=uq HM;simp;omega⟩⟩;rw[uq HT];rcases X with x|⟨c,r⟩
  ·rfl
  ·obtain⟨ad,cap,p,t,r',e,h1⟩:=Sr.alive (r:=r) (uq HS0);subst e;exact(ziP (uq HM) (uq HD).2.2).symm
 case round=>
  obtain⟨a,cap,L,Y,rfl,HR,HS,HE,HL⟩:=hrel;obtain⟨n,HN⟩:∃ n,Hid (L.length=n):=⟨_,rfl⟩;rw[uq HN]at HR HL |-;go_wp2_with fail
  (refine(zd8 (Y:=Y) [44] rfl (uq HS)).mono ?_;rintro e w2 ⟨rfl,rfl⟩);generalize hq:isq [44] Y=bq;cases bq with
  |false=>
   have hY:nmA most L Y=rwF L Y:=zqW (uq HS).ne (λt r e=>by subst e;simpa [isq]using hq);have HNB:=zh (ziQ (e:=9) (most:=most) (X:=X) (Y':=Y) (L:=L) (λc r e=>by have:=uq HT;rw[e]at this;simp only[nmX]at this;rw[<- this,<- uq HE,hY]) (λx e=>by
    have:=uq HT;rw[e]at this;simp only[nmX]at this;have h2:=uq HE;rw[hY,this]at h2;cases Y with
    |error y=>simp only[rwF,Except.error.injEq]at h2;rw[h2]
    |ok r=>cases h2))
   clear hY hq;go_wp2_with fail
   (refine(zaU (X:=bnd X (zas 9 most)) [59] rfl (by rw[(uq HNB).1];exact uq HS)).mono ?_;rintro e w3 ⟨rfl,hd⟩;have HD3:=zh hd;clear hd);go_wp2_with fail
   go_ret;have hr:=(uq HR).move (uq HD3).1 (λi x=>⟨x,x▸uq HB⟩);refine⟨a,n,cap,L,rfl,?_,hr.row⟩;have e:bnd X (sq [zas 9 most,zad [59]])=bnd (bnd X (zas 9 most)) (zad [59]):=by rw[zav,zav,zaY]
   unfold Did
   rw[e];exact⟨hr.fr,(uq HD3).2.1,by have:=(uq HNB).2.trans (uq HD3).2.2;simpa using this⟩
  |true=>
   obtain⟨u,t,r,HY,HU,HK⟩:∃ u t r,Hid (Y= .ok (u :: t :: r))/\Hid (u.s= [44])/\Hid (u.k≠0):=by
    cases Y with
    |error x=>cases hq
    |ok r0=>
     obtain⟨ad,c,p,u,r',e,h1⟩:=(uq HS).alive;subst e;have he:u.s= [44]:=by simpa [isq]using hq
     have hk:=((h1.wq.2 u List.mem_cons_self).word (s:= [44]) rfl he).1;obtain⟨h2,h3⟩:=h1.wq.cons (.inl hk);obtain⟨t,r,rfl⟩:=h2.ne;exact⟨u,t,r,rfl,he,hk⟩
   clear hq;go_wp2_with fail
   (refine(zcg (Y:=Y) (uq HS)).mono ?_;rintro e w2 ⟨t8,rfl,_,hf,hs,_⟩;have HR2:=zh ((uq HR).move hf (λi x=>⟨x,x▸uq HB⟩));have HS2:=zh hs;clear hf hs);have HS3:Hid (Sr w2 b (.ok (t :: r))):=zh (by
    have:=uq HS2;rw[uq HY]at this;rwa[show zfu (.ok (u :: t :: r))= .ok (t :: r) by show(if u.k=0 then _ else _)=_;rw[if_neg (uq HK)]]at this)
   have hl3:=uq HS3;obtain⟨ad,c,p,t',r',e3,h3⟩:=hl3.alive;injection e3 with e3 e3'
   subst e3 e3';obtain⟨t0,t1,t2,t3⟩:=h3.tok;have c0:=h3.c0;simp only[List.length_cons]at c0;obtain⟨Z,hZ⟩:∃ Z:Rs,Z=if L.length=most/\t.k=1/\¬t.s∈words then .error (4,t.p)else .ok ([],t :: r):=⟨_,rfl⟩
   have HZ:=zh hZ;rw[uq HN]at hZ;clear t2 t3 h3 hl3;by_cases hfull:n=most
   ·have f1:((n:Int)==(most:Int))=true:=by simp[hfull]
    by_cases hk1:t.k=1
    ·have f2:(t.k==1)=true:=by simp[hk1]
     by_cases hw:t.s∈words
     focus
      have HZQ:Hid (Z= .ok ([],t :: r)):=zh (by rw[hZ,if_neg (λx=>x.2.2 hw)]);have HT2:=zh (zft (sv t.s) w2);rw[show decide ((sv t.s).toList∈words)=true by rw[show(sv t.s).toList=t.s from ByteArray.toList_mk _];simpa using hw]at HT2;clear hZ hw hk1 hfull;generalize sv t.s=S at t1 HT2;generalize t.k=kk at t0 f2;go_wp2_with fail
      (refine(uq HT2).mono ?_;rintro e w3 ⟨rfl,hk⟩;have HR3:=zh ((uq HR2).keep hk);have HS4:Hid (Sr w3 b (zaz Z)):=zh (by rw[uq HZQ];exact(uq HS3).keep hk);clear hk);go_wp2_with fail
      (refine(zax (X:=Z) (uq HS4)).mono ?_;rintro e w5 ⟨s5,rfl,hd⟩;have HR5:=zh ((uq HR3).move hd.1 (λi x=>⟨x,x▸uq HB⟩));have HS5:=zh hd.2.1;have HG5:=zh hd.2.2;clear hd)
     rotate_left
     focus
      have HZQ:Hid (Z= .error (4,t.p)):=zh (by rw[hZ,if_pos ⟨hfull,hk1,hw⟩]);have HT2:=zh (zft (sv t.s) w2);rw[show decide ((sv t.s).toList∈words)=false by rw[show(sv t.s).toList=t.s from ByteArray.toList_mk _];simpa using hw]at HT2;clear hZ hw hk1 hfull;generalize sv t.s=S at t1 HT2;generalize t.k=kk at t0 f2;go_wp2_with fail
      (refine(uq HT2).mono ?_;rintro e w3 ⟨rfl,hk⟩;have HR3:=zh ((uq HR2).keep hk);have HS4:=zh ((uq HS3).keep hk);clear hk);go_wp2_with fail
      (refine(zdb (Y:= .ok (t :: r)) 4 (by decide) (uq HS4)).mono ?_;rintro e w4 ⟨rfl,hf,hs⟩;have HR4:=zh ((uq HR3).move hf (λi x=>⟨x,x▸uq HB⟩));have HS6:Hid (Sr w4 b (zaz Z)):=zh (by rw[uq HZQ];exact hs);clear hf hs);go_wp2_with fail
      (refine(zax (X:=Z) (uq HS6)).mono ?_;rintro e w5 ⟨s5,rfl,hd⟩;have HR5:=zh ((uq HR4).move hd.1 (λi x=>⟨x,x▸uq HB⟩));have HS5:=zh hd.2.1;have HG5:=zh hd.2.2;clear hd)
     rotate_left
     all_goals
      obtain⟨xs,hown,hlt⟩:=(uq HR5).shape;rw[uq HN]at hown;have HOWN:=zh hown;have HLT:=zh hlt;clear hown hlt;have hn9:n<=1001:=by have:=(uq HL).1;have:=uq HMM;omega
      have HN9:=zh hn9;clear hn9;go_wp2_with (at_builtin;refine wpList_append_own_at _ rfl _ _ 49 rfl 0 9 i0 _ 1 16 Tryz.underlying49 (uq HI0) (uq HZ0) (uq HZ1) (uq HZ2) rfl (by decide) _ _ xs rfl ((uq HOWN).alloc _) ⟨w5.heap.size,0,none⟩ 1 1 [.string (sv s5)] rfl rfl (new_cells w5 [.string (sv s5)] 9) (by simp[Value.oneCell']) (by have:=uq HN9;unfold maxLen;omega) (by have:=uq HN9;omega) (Nat.zero_le _) ?_;intro v' w8 hown' hgrow hnil hat;obtain⟨g',cp',rfl⟩:=zaP hown';have HOWN':=zh hown';have HGR:=zh hgrow;have HAT:=zh hat;clear hown' hgrow hnil hat)
      go_roundw
      case rel=>
       have ha:=(uq HR5).app ((zk w5).alloc _) (λi x=>x▸uq HB) (λg hg=>((uq HLT) g hg).2) (uq HR5).fr.size (zcN s5 (za2 _ _)) rfl (by rw[uq HN];exact uq HOWN) (by rw[uq HN];exact uq HOWN') (uq HGR) (uq HAT);have hl:(L++ [[dS s5]]).length=n+1:=by rw[List.length_append,uq HN];rfl
       refine⟨_,cp',L++ [[dS s5]],zaz (bnd Z zai),by rw[hl],zh (by rw[hl];exact ha.1),zh ((uq HS5).far (λi hi=>ha.2 i (by have:=uq HB;omega))),zh ?_,zh ?_⟩
       ·rw[<- zfy (uq HU) (uq HZ) (uq HG5),<- uq HY];exact uq HE
       ·rw[hl];exact zfz (uq HN) (uq HZ) (uq HG5) (uq HL).1 ((uq HL).2 _ (uq HY))
      case measure=>
       have ha:=(uq HR5).app ((zk w5).alloc _) (λi x=>x▸uq HB) (λg hg=>((uq HLT) g hg).2) (uq HR5).fr.size (zcN s5 (za2 _ _)) rfl (by rw[uq HN];exact uq HOWN) (by rw[uq HN];exact uq HOWN') (uq HGR) (uq HAT);have hs8:=(uq HS5).far (λi hi=>ha.2 i (by have:=uq HB;omega));have hwr:=uq HS;rw[uq HY]at hwr;rw[ze0 hwr];exact zfA (uq HZ) hs8
    ·have f2:(t.k==1)=false:=by simpa using hk1
     have HZQ:Hid (Z= .ok ([],t :: r)):=zh (by rw[hZ,if_neg (λx=>hk1 x.2.1)]);have HS4:Hid (Sr w2 b (zaz Z)):=zh (by rw[uq HZQ];exact uq HS3);clear hZ hk1 hfull;generalize t.k=kk at t0 f2;go_wp2_with fail
     (refine(zax (X:=Z) (uq HS4)).mono ?_;rintro e w5 ⟨s5,rfl,hd⟩;have HR5:=zh ((uq HR2).move hd.1 (λi x=>⟨x,x▸uq HB⟩));have HS5:=zh hd.2.1;have HG5:=zh hd.2.2;clear hd);obtain⟨xs,hown,hlt⟩:=(uq HR5).shape;rw[uq HN]at hown;have HOWN:=zh hown;have HLT:=zh hlt;clear hown hlt;have hn9:n<=1001:=by have:=(uq HL).1;have:=uq HMM;omega
     have HN9:=zh hn9;clear hn9;go_wp2_with (at_builtin;refine wpList_append_own_at _ rfl _ _ 49 rfl 0 9 i0 _ 1 16 Tryz.underlying49 (uq HI0) (uq HZ0) (uq HZ1) (uq HZ2) rfl (by decide) _ _ xs rfl ((uq HOWN).alloc _) ⟨w5.heap.size,0,none⟩ 1 1 [.string (sv s5)] rfl rfl (new_cells w5 [.string (sv s5)] 9) (by simp[Value.oneCell']) (by have:=uq HN9;unfold maxLen;omega) (by have:=uq HN9;omega) (Nat.zero_le _) ?_;intro v' w8 hown' hgrow hnil hat;obtain⟨g',cp',rfl⟩:=zaP hown';have HOWN':=zh hown';have HGR:=zh hgrow;have HAT:=zh hat;clear hown' hgrow hnil hat)
     go_roundw
     case rel=>
      have ha:=(uq HR5).app ((zk w5).alloc _) (λi x=>x▸uq HB) (λg hg=>((uq HLT) g hg).2) (uq HR5).fr.size (zcN s5 (za2 _ _)) rfl (by rw[uq HN];exact uq HOWN) (by rw[uq HN];exact uq HOWN') (uq HGR) (uq HAT);have hl:(L++ [[dS s5]]).length=n+1:=by rw[List.length_append,uq HN];rfl
      refine⟨_,cp',L++ [[dS s5]],zaz (bnd Z zai),by rw[hl],zh (by rw[hl];exact ha.1),zh ((uq HS5).far (λi hi=>ha.2 i (by have:=uq HB;omega))),zh ?_,zh ?_⟩
      ·rw[<- zfy (uq HU) (uq HZ) (uq HG5),<- uq HY];exact uq HE
      ·rw[hl];exact zfz (uq HN) (uq HZ) (uq HG5) (uq HL).1 ((uq HL).2 _ (uq HY))
     case measure=>
      have ha:=(uq HR5).app ((zk w5).alloc _) (λi x=>x▸uq HB) (λg hg=>((uq HLT) g hg).2) (uq HR5).fr.size (zcN s5 (za2 _ _)) rfl (by rw[uq HN];exact uq HOWN) (by rw[uq HN];exact uq HOWN') (uq HGR) (uq HAT);have hs8:=(uq HS5).far (λi hi=>ha.2 i (by have:=uq HB;omega));have hwr:=uq HS;rw[uq HY]at hwr;rw[ze0 hwr];exact zfA (uq HZ) hs8
   ·have f1:((n:Int)==(most:Int))=false:=by simpa using(show ¬(n:Int)=(most:Int) by omega)
    have HZQ:Hid (Z= .ok ([],t :: r)):=zh (by rw[hZ,if_neg (λx=>hfull x.1)]);have HS4:Hid (Sr w2 b (zaz Z)):=zh (by rw[uq HZQ];exact uq HS3);clear hZ hfull;go_wp2_with fail
    (refine(zax (X:=Z) (uq HS4)).mono ?_;rintro e w5 ⟨s5,rfl,hd⟩;have HR5:=zh ((uq HR2).move hd.1 (λi x=>⟨x,x▸uq HB⟩));have HS5:=zh hd.2.1;have HG5:=zh hd.2.2;clear hd);obtain⟨xs,hown,hlt⟩:=(uq HR5).shape;rw[uq HN]at hown;have HOWN:=zh hown;have HLT:=zh hlt;clear hown hlt;have hn9:n<=1001:=by have:=(uq HL).1;have:=uq HMM;omega
    have HN9:=zh hn9;clear hn9;go_wp2_with (at_builtin;refine wpList_append_own_at _ rfl _ _ 49 rfl 0 9 i0 _ 1 16 Tryz.underlying49 (uq HI0) (uq HZ0) (uq HZ1) (uq HZ2) rfl (by decide) _ _ xs rfl ((uq HOWN).alloc _) ⟨w5.heap.size,0,none⟩ 1 1 [.string (sv s5)] rfl rfl (new_cells w5 [.string (sv s5)] 9) (by simp[Value.oneCell']) (by have:=uq HN9;unfold maxLen;omega) (by have:=uq HN9;omega) (Nat.zero_le _) ?_;intro v' w8 hown' hgrow hnil hat;obtain⟨g',cp',rfl⟩:=zaP hown';have HOWN':=zh hown';have HGR:=zh hgrow;have HAT:=zh hat;clear hown' hgrow hnil hat)
    go_roundw
    case rel=>
     have ha:=(uq HR5).app ((zk w5).alloc _) (λi x=>x▸uq HB) (λg hg=>((uq HLT) g hg).2) (uq HR5).fr.size (zcN s5 (za2 _ _)) rfl (by rw[uq HN];exact uq HOWN) (by rw[uq HN];exact uq HOWN') (uq HGR) (uq HAT);have hl:(L++ [[dS s5]]).length=n+1:=by rw[List.length_append,uq HN];rfl
     refine⟨_,cp',L++ [[dS s5]],zaz (bnd Z zai),by rw[hl],zh (by rw[hl];exact ha.1),zh ((uq HS5).far (λi hi=>ha.2 i (by have:=uq HB;omega))),zh ?_,zh ?_⟩
     ·rw[<- zfy (uq HU) (uq HZ) (uq HG5),<- uq HY];exact uq HE
     ·rw[hl];exact zfz (uq HN) (uq HZ) (uq HG5) (uq HL).1 ((uq HL).2 _ (uq HY))
    case measure=>
     have ha:=(uq HR5).app ((zk w5).alloc _) (λi x=>x▸uq HB) (λg hg=>((uq HLT) g hg).2) (uq HR5).fr.size (zcN s5 (za2 _ _)) rfl (by rw[uq HN];exact uq HOWN) (by rw[uq HN];exact uq HOWN') (uq HGR) (uq HAT);have hs8:=(uq HS5).far (λi hi=>ha.2 i (by have:=uq HB;omega));have hwr:=uq HS;rw[uq HY]at hwr;rw[ze0 hwr];exact zfA (uq HZ) hs8
end Q
end Go.Proofs.YthceiikgecoimaaGreatDoor
