/- The document's reader: node. -/
import Derived.Test.YthceiikgecoimaaGreatDoorQStore
import Derived.Test.YthceiikgecoimaaGreatDoorLVal
import Derived.Deep.DrawnRows
import Derived.Deep.RegionHeld
namespace Go.Proofs.YthceiikgecoimaaGreatDoor
open Go.RowKit
attribute [local go_sem ↓] Go.wp_at_zero Go.wp_at_succ
set_option linter.unusedVariables false
set_option linter.unusedSimpArgs false
set_option maxRecDepth 10000
namespace Q
theorem zlz:(Tryz.prog.info? 77).map (λi=>(i.zero,i.size,i.bytes))=some (some (.agg #[.string ⟨#[]⟩,.int .i64 0,.int .i64 0,.int .i64 0,.int .i64 0,.int .i64 0,.int .i64 0,.int .i64 0,.int .i64 0,.int .i64 0,.int .i64 0]),11,96):=by kernel_rfl
theorem zpe:(Tryz.prog.info? 79).map (λi=>(i.zero,i.size,i.bytes))=some (some (.agg #[.string ⟨#[]⟩,.string ⟨#[]⟩,.int .i64 0,.int .i64 0,.int .i64 0,.int .i64 0]),6,64):=by kernel_rfl
theorem zj4:(Tryz.prog.info? 81).map (λi=>(i.zero,i.size,i.bytes))=some (some (.agg #[.string ⟨#[]⟩,.slice none 0 0,.int .i64 0]),3,48):=by kernel_rfl
theorem zj5:(Tryz.prog.info? 84).map (λi=>(i.zero,i.size,i.bytes))=some (some (.agg #[.slice none 0 0]),1,24):=by kernel_rfl
theorem zpf:(Tryz.prog.info? 88).map (λi=>(i.zero,i.size,i.bytes))=some (some (.agg #[.string ⟨#[]⟩,.string ⟨#[]⟩,.int .i64 0]),3,40):=by kernel_rfl
theorem zlA:(Tryz.prog.info? 45).map (λi=>(i.zero,i.size,i.bytes))=some (some (.agg #[.string ⟨#[]⟩,.slice none 0 0,.slice none 0 0,.slice none 0 0,.slice none 0 0,.slice none 0 0,.int .i64 0]),7,144):=by kernel_rfl
set_option maxHeartbeats 16000000 in
theorem zen {w:World} {b:Nat} {X:Rs} (h:Sr w b (zaz X)):Calls Tryz.prog 50 #[.pointer (some ⟨b,0,none⟩)] w λr w'=>∃ s a2 n2 c2 a3 n3 c3 a4 n4 c4 a5 n5 c5 a6 n6 c6 p cs,r= .returned (.agg #[.string (sv s),.slice a2 n2 c2,.slice a3 n3 c3,.slice a4 n4 c4,.slice a5 n5 c5,.slice a6 n6 c6,.int .i64 p])/\cs.length=7/\zpx zb5 cs [.string (sv s),.slice a2 n2 c2,.slice a3 n3 c3,.slice a4 n4 c4,.slice a5 n5 c5,.slice a6 n6 c6,.int .i64 p] b X w w':=by
 obtain⟨ad,cap,e,p,t,r',h1,h2⟩:=h.front;obtain⟨t0,t1,t2,t3⟩:=h1.tok;have hp:=zdR (X:=zbU X) (by rw[zbN];exact h) h1 (by rw[zbN];exact h2);have HS0:Hid (SF w b (zaz (bnd (zbU X) zaO)) ((w.alloc (.cells #[.string ⟨#[]⟩,.slice none 0 0,.slice none 0 0,.slice none 0 0,.slice none 0 0,.slice none 0 0,.int .i64 0] 45)).alloc (.cells #[.string ⟨#[]⟩,.slice none 0 0,.slice none 0 0,.slice none 0 0,.slice none 0 0,.slice none 0 0,.int .i64 t.p] 45))):=zh (SF.keep ⟨.refl _ _,hp.1⟩ (zaM _ _ _));have HG0:=zh hp.2;obtain⟨X0,HX0⟩:∃ Z,Hid (bnd (zbU X) zaO=Z):=⟨_,rfl⟩;rw[uq HX0]at HS0 HG0;have hb:=h.bl;have HB:=zh hb;have n0:¬w.heap.size=b:=by omega
 have n1:¬w.heap.size+1=b:=by omega
 have c0:=h1.c0;simp only[List.length_cons]at c0;have g0:∀ o,(w.alloc o).cell? ⟨b,0,none⟩=some (.slice (some ad) (r'.length+1) cap):=λo=>kcell ((zk w).alloc o) c0
 have q3:∀ o,(w.alloc o).cell? ⟨ad.block,ad.off+3,none⟩=some (.int .i64 t.p):=λo=>kcell ((zk w).alloc o) t3
 clear hp h1 h2 t0 t1 t2 t3 c0 hb h;go_enter Tryz.func50,Tryz.ntmps50
 go_upto_region 2 with fail
 clear g0 q3;go_wp2_with fail
 (refine(zax (X:=X0) (uq HS0).2).mono ?_;rintro e w1 ⟨s1,rfl,hd⟩;have HS1:=zh ((uq HS0).step hd);have HG1:=zh ((uq HG0).trans hd.2.2);obtain⟨o1,q1,k1,rfl⟩:=zaE hd.1 (uq HS0).2.bl;clear hd);obtain⟨X1,HX1⟩:∃ Z,Hid (bnd X0 zai=Z):=⟨_,rfl⟩;rw[uq HX1]at HS1 HG1;go_wp2_with fail
 (refine(zaU (X:=X1) [123] rfl (SF.box2 (uq HB) (uq HS1)).2).mono ?_;rintro e w1 ⟨rfl,hd⟩;have HS2:=zh ((SF.box2 (uq HB) (uq HS1)).step hd);have HG2:=zh ((uq HG1).trans hd.2.2);obtain⟨o2,q2,k2,rfl⟩:=zaE hd.1 (SF.box2 (uq HB) (uq HS1)).2.bl;clear hd);rw[zaQ (uq HB)]at HS2 |-;generalize q1++q2=q2 at HS2 |-;obtain⟨X2,HX2⟩:∃ Z,Hid (bnd X1 (zad [123])=Z):=⟨_,rfl⟩;rw[uq HX2]at HS2 HG2;have HBX:=zh (zj3 (uq HB) #[.string ⟨#[]⟩,.slice none 0 0,.slice none 0 0,.slice none 0 0,.slice none 0 0,.slice none 0 0,.int .i64 0].toList [.string (sv s1),.slice none 0 0,.slice none 0 0,.slice none 0 0,.slice none 0 0,.slice none 0 0,.int .i64 t.p] 45 45 o2 q2 k2);have HR2:=zh (zrz (uq HB) (.cells #[.string ⟨#[]⟩,.slice none 0 0,.slice none 0 0,.slice none 0 0,.slice none 0 0,.slice none 0 0,.int .i64 0] 45) (.cells #[.string (sv s1),.slice none 0 0,.slice none 0 0,.slice none 0 0,.slice none 0 0,.slice none 0 0,.int .i64 t.p] 45) o2 q2 k2);have HB2:=zh (uq HBX).2.1;have HZ2':=zh (uq HBX).2.2;replace HB2:Hid (Bxs (chg ((w.alloc (.cells #[.string ⟨#[]⟩,.slice none 0 0,.slice none 0 0,.slice none 0 0,.slice none 0 0,.slice none 0 0,.int .i64 0] 45)).alloc (.cells #[.string (sv s1),.slice none 0 0,.slice none 0 0,.slice none 0 0,.slice none 0 0,.slice none 0 0,.int .i64 t.p] 45)) b o2 q2 k2) (w.heap.size+1) [.string (sv s1),.slice none 0 0,.slice none 0 0,.slice none 0 0,.slice none 0 0,.slice none 0 0,.int .i64 t.p]):=HB2;replace HZ2':Hid (w.heap.size+2<=(chg ((w.alloc (.cells #[.string ⟨#[]⟩,.slice none 0 0,.slice none 0 0,.slice none 0 0,.slice none 0 0,.slice none 0 0,.int .i64 0] 45)).alloc (.cells #[.string (sv s1),.slice none 0 0,.slice none 0 0,.slice none 0 0,.slice none 0 0,.slice none 0 0,.int .i64 t.p] 45)) b o2 q2 k2).heap.size):=HZ2';clear HBX;generalize chg ((w.alloc (.cells #[.string ⟨#[]⟩,.slice none 0 0,.slice none 0 0,.slice none 0 0,.slice none 0 0,.slice none 0 0,.int .i64 0] 45)).alloc (.cells #[.string (sv s1),.slice none 0 0,.slice none 0 0,.slice none 0 0,.slice none 0 0,.slice none 0 0,.int .i64 t.p] 45)) b o2 q2 k2=v1 at HS2 HR2 HB2 HZ2' |-;obtain⟨rb,HRb⟩:∃ rb,Hid (w.heap.size=rb):=⟨_,rfl⟩;rw[uq HRb]at HR2 HB2 HZ2' |-;obtain⟨gb,HGb⟩:∃ gb,Hid (rb+1=gb):=⟨_,rfl⟩;rw[uq HGb]at HB2 |-;have HBG:Hid (b<gb):=zh (by have:=uq HB;have:=uq HRb;have:=uq HGb;omega);have HGW:Hid (w.heap.size<=gb):=zh (by have:=uq HRb;have:=uq HGb;omega);have HBR:Hid (b<rb):=zh (by have:=uq HB;have:=uq HRb;omega);have HRG:Hid (rb<gb):=zh (by have:=uq HGb;omega);have HZ2:Hid (gb<v1.heap.size):=zh (by have:=uq HZ2';have:=uq HGb;omega);clear HZ2' n0 n1;go_wp2_with fail
 obtain⟨tgt,HT⟩:∃ tgt,Hid (tgt=rwY [104,101,97,100] 16 zbT (zaz X2) []):=⟨_,rfl⟩
 go_loopw [] (λwr=>∃(a:Option Addr) (n cap:Nat) (L:List (List D)) (Y:Except Er (List Tok)),Hid (LS b gb 1 v1 77 11 [.string (sv s1),.slice none 0 0,.slice none 0 0,.slice none 0 0,.slice none 0 0,.slice none 0 0,.int .i64 t.p] wr L a n cap Y)/\Hid (rwY [104,101,97,100] 16 zbT Y L=tgt)/\Hid (n<=16)) (λwr=>rem wr b)
 case atStart=>exact⟨none,0,0,[],zaz X2,zh (LS.start (uq HS2).2 (uq HB2) rfl (uq HBG) (uq HZ2)),zh (uq HT).symm,zh (by omega)⟩
 case round=>
  obtain⟨a2,n2,cap2,L2,Y,HL,HE,HM⟩:=hrel;have cg:=(uq HL).cell.1;go_wp2_with fail
  (refine(zbp (Y:=Y) [104,101,97,100] rfl n2 16 (uq HL).sr).mono ?_;rintro e v2 ⟨rfl,hf,hs⟩;have HL3:=zh ((uq HL).move hf hs);clear hf hs);clear cg;obtain⟨bq,Y3,hbg⟩:∃ bq Y3,bgn [104,101,97,100] n2 16 Y=(bq,Y3):=⟨_,_,rfl⟩;rw[hbg]at HL3 |-;cases bq with
  |true=>
   obtain⟨t,r,hY,hY3,ht,hne⟩:=zcJ hbg;have HYY:=zh hY;have HTS:=zh ht;have HNE:=zh hne;subst hY3;clear hbg hY ht hne;obtain⟨i0,hi,hz0,hz1,hz2⟩:=zaD zlz;have HI0:=zh hi;have HZ0:=zh hz0;have HZ1:=zh hz1;have HZ2:=zh hz2;clear hi hz0 hz1 hz2;have hn2:=uq HM;have HLd:=zh ((uq HL3).move (Fr.keep (zk v2).drew) ((uq HL3).sr.keep (zk v2).drew));go_wp2_with fail
   refine wp_region_held_drew (S:=λ_=>True) (by kernel_rfl) (by trivial) (λzH=>?_);refine tk2 0 24 2 26 zH ?_;try simp only[Yq]
   generalize v2.drew=w4 at HLd |-;have cg:=(uq HLd).cell.1;refine wpAnyH_ready (rs:= [1,3]) (by kernel_rfl) (by simp) ?_;refine AllReadyH.cons rfl (λK hK=>?_) (AllReadyH.cons rfl (λK hK=>?_) AllReadyH.nil)
   ·skip
    go_simp;clear zH;refine hK.out _ _ ?_ (λzH=>?_)
    ·trivial
    clear hK K;try simp only[Yq]
    clear cg;refine zap 3 (λK hK=>?_);go_simp;clear zH;(refine(zek (X:= .ok (([]:List D),r)) (uq HLd).sr).mono ?_;rintro e w5 ⟨s,m1,m2,m3,m4,m5,m6,m7,m8,m9,m10,rfl,hbd⟩;have HBD:=zh hbd;clear hbd);try go_wp2_with fail
    refine hK.out _ _ ?_ (λzH=>?_)
    ·trivial
    clear hK K;try simp only[Yq]
    refine zap 4 (λK hK=>?_);go_simp;clear zH;refine hK.out _ _ ?_ (λzH=>?_)
    ·trivial
    clear hK K;try simp only[Yq]
    obtain⟨xs,hown⟩:=(uq HLd).own (uq HBD).1;have HOWN:=zh hown;clear hown;refine wpAnyH_ready (rs:= [5]) (by kernel_rfl) (by simp) ?_;refine AllReadyH.cons rfl (λK hK=>?_) AllReadyH.nil;refine zaC _ _ _ rfl 0 77 i0 _ 11 96 Tryz.underlying39 (uq HI0) (uq HZ0) (uq HZ1) (uq HZ2) rfl (by decide) _ _ xs rfl ((uq HOWN).alloc _) ⟨w5.heap.size,0,none⟩ 1 1 [.string (sv s),.int .i64 m1,.int .i64 m2,.int .i64 m3,.int .i64 m4,.int .i64 m5,.int .i64 m6,.int .i64 m7,.int .i64 m8,.int .i64 m9,.int .i64 m10] rfl rfl (new_cells w5 [.string (sv s),.int .i64 m1,.int .i64 m2,.int .i64 m3,.int .i64 m4,.int .i64 m5,.int .i64 m6,.int .i64 m7,.int .i64 m8,.int .i64 m9,.int .i64 m10] 77) (by simp[Value.oneCell']) (by unfold maxLen;omega) (by omega) (Nat.zero_le _) ?_;intro v' w7 hown' hgrow hat
    obtain⟨g',cp',rfl⟩:=zaP hown';have A:=(uq HLd).app (uq HBD).1 (uq HBD).2.1 (uq HBD).2.2.1 rfl ((zk _).alloc _) (uq HOWN) hown' hgrow hat;have HLS:=zh A.1;have c8:=A.2.1;have f8:=A.2.2;clear hown' hgrow hat A zH;refine hK.out _ _ trivial (λzH=>?_);clear hK K;try simp only[Act.put,List.setIfInBounds_toArray,List.set_cons_zero,List.set_cons_succ]
    refine tkk 6 30 zH ?_;try simp only[Yq]
    refine zap 7 (λK hK=>?_);go_simp;clear zH;refine hK.out _ _ ?_ (λzH=>?_)
    ·trivial
    clear hK K;try simp only[Yq]
    refine wpAnyH_done (by kernel_rfl) ?_ _;clear zH;go_wp2_with fail
    go_roundw
    case rel=>
     refine⟨_,n2+1,cp',_,_,HLS,zh ?_,zh (by have:=uq HNE;omega)⟩;rw[<- uq HE,uq HYY,zbB zb0 (uq HTS) (by rw[(uq HL).hn];exact uq HNE) (cs:= [dS s,dI m1,dI m2,dI m3,dI m4,dI m5,dI m6,dI m7,dI m8,dI m9,dI m10]) (λc r' e=>(uq HBD).2.2.2 c r' e)];rfl
    case measure=>exact zbi (word:= [104,101,97,100]) (n:=n2) (most:=16) (body:=zbT) zb0 (uq HYY) (uq HL).sr (by exact(uq HLS).sr)
   ·skip
    clear cg;go_simp;clear zH;(refine(zek (X:= .ok (([]:List D),r)) (uq HLd).sr).mono ?_;rintro e w5 ⟨s,m1,m2,m3,m4,m5,m6,m7,m8,m9,m10,rfl,hbd⟩;have HBD:=zh hbd;clear hbd);try go_wp2_with fail
    refine hK.out _ _ ?_ (λzH=>?_)
    ·trivial
    clear hK K;try simp only[Yq]
    have cg5:=((uq HLd).move (uq HBD).1 (uq HBD).2.1).cell.1;have cg5a:∀ o,(w5.alloc o).cell? ⟨gb,1,none⟩=some (.slice a2 n2 cap2):=λo=>kcell ((zk w5).alloc o) cg5
    refine wpAnyH_ready (rs:= [1,4]) (by kernel_rfl) (by simp) ?_;refine AllReadyH.cons rfl (λK hK=>?_) (AllReadyH.cons rfl (λK hK=>?_) AllReadyH.nil)
    focus
     skip
     go_simp;clear zH;refine hK.out _ _ ?_ (λzH=>?_)
     ·trivial
     clear hK K;try simp only[Yq]
     clear cg5 cg5a;refine zap 4 (λK hK=>?_);go_simp;clear zH;refine hK.out _ _ ?_ (λzH=>?_)
     ·trivial
     clear hK K;try simp only[Yq]
    rotate_left
    focus
     skip
     go_simp;clear zH;refine hK.out _ _ ?_ (λzH=>?_)
     ·trivial
     clear hK K;try simp only[Yq]
     clear cg5;refine zap 1 (λK hK=>?_);go_simp;clear zH;refine hK.out _ _ ?_ (λzH=>?_)
     ·trivial
     clear hK K;try simp only[Yq]
     clear cg5a
    rotate_left
    all_goals
     obtain⟨xs,hown⟩:=(uq HLd).own (uq HBD).1;have HOWN:=zh hown;clear hown;refine wpAnyH_ready (rs:= [5]) (by kernel_rfl) (by simp) ?_;refine AllReadyH.cons rfl (λK hK=>?_) AllReadyH.nil;refine zaC _ _ _ rfl 0 77 i0 _ 11 96 Tryz.underlying39 (uq HI0) (uq HZ0) (uq HZ1) (uq HZ2) rfl (by decide) _ _ xs rfl ((uq HOWN).alloc _) ⟨w5.heap.size,0,none⟩ 1 1 [.string (sv s),.int .i64 m1,.int .i64 m2,.int .i64 m3,.int .i64 m4,.int .i64 m5,.int .i64 m6,.int .i64 m7,.int .i64 m8,.int .i64 m9,.int .i64 m10] rfl rfl (new_cells w5 [.string (sv s),.int .i64 m1,.int .i64 m2,.int .i64 m3,.int .i64 m4,.int .i64 m5,.int .i64 m6,.int .i64 m7,.int .i64 m8,.int .i64 m9,.int .i64 m10] 77) (by simp[Value.oneCell']) (by unfold maxLen;omega) (by omega) (Nat.zero_le _) ?_;intro v' w7 hown' hgrow hat
     obtain⟨g',cp',rfl⟩:=zaP hown';have A:=(uq HLd).app (uq HBD).1 (uq HBD).2.1 (uq HBD).2.2.1 rfl ((zk _).alloc _) (uq HOWN) hown' hgrow hat;have HLS:=zh A.1;have c8:=A.2.1;have f8:=A.2.2;clear hown' hgrow hat A zH;refine hK.out _ _ trivial (λzH=>?_);clear hK K;try simp only[Act.put,List.setIfInBounds_toArray,List.set_cons_zero,List.set_cons_succ]
     refine tkk 6 30 zH ?_;try simp only[Yq]
     refine zap 7 (λK hK=>?_);go_simp;clear zH;refine hK.out _ _ ?_ (λzH=>?_)
     ·trivial
     clear hK K;try simp only[Yq]
     refine wpAnyH_done (by kernel_rfl) ?_ _;clear zH;go_wp2_with fail
     go_roundw
     case rel=>
      refine⟨_,n2+1,cp',_,_,HLS,zh ?_,zh (by have:=uq HNE;omega)⟩;rw[<- uq HE,uq HYY,zbB zb0 (uq HTS) (by rw[(uq HL).hn];exact uq HNE) (cs:= [dS s,dI m1,dI m2,dI m3,dI m4,dI m5,dI m6,dI m7,dI m8,dI m9,dI m10]) (λc r' e=>(uq HBD).2.2.2 c r' e)];rfl
     case measure=>exact zbi (word:= [104,101,97,100]) (n:=n2) (most:=16) (body:=zbT) zb0 (uq HYY) (uq HL).sr (by exact(uq HLS).sr)
  |false=>
   have HY:=zh (zdv (body:=zbT) (L:=L2) zb0 (uq HL).sr.ne (by rw[(uq HL).hn];exact hbg));have HQ:=zh (zdn (e:=77) (z:=11) (X:=X2) (by rw[<- uq HT,<- uq HE];exact uq HY));clear hbg;obtain⟨X3,HX3⟩:∃ Z,Hid (bnd X2 (zaL [104,101,97,100] 16 77 11 zbT)=Z):=⟨_,rfl⟩;rw[uq HX3]at HQ;have HG3:=zh ((uq HG2).trans (uq HQ).2);have HS3:Hid (SF w b (zaz X3) v2):=zh (by rw[(uq HQ).1];exact SF.loop (uq HS2) (uq HGW) (uq HL3));have HB3:Hid (Bxs v2 gb [.string (sv s1),.slice a2 n2 cap2,.slice none 0 0,.slice none 0 0,.slice none 0 0,.slice none 0 0,.int .i64 t.p]):=zh (uq HL3).bx;have HZ3:Hid (gb<v2.heap.size):=zh (uq HL3).gw;have HR3:=zh (((uq HL3).low (uq HBR) (uq HRG)).trans (uq HR2));have HW2_3:=zh (uq HL3).row;clear HL HE HM HT HY HQ;clear HL3;go_wp2_with fail
   obtain⟨tgt,HT⟩:∃ tgt,Hid (tgt=rwY [119,97,108,107] 8 zbY (zaz X3) []):=⟨_,rfl⟩
   go_loopw [] (λwr=>∃(a:Option Addr) (n cap:Nat) (L:List (List D)) (Y:Except Er (List Tok)),Hid (LS b gb 2 v2 79 6 [.string (sv s1),.slice a2 n2 cap2,.slice none 0 0,.slice none 0 0,.slice none 0 0,.slice none 0 0,.int .i64 t.p] wr L a n cap Y)/\Hid (rwY [119,97,108,107] 8 zbY Y L=tgt)/\Hid (n<=8)) (λwr=>rem wr b)
   case atStart=>exact⟨none,0,0,[],zaz X3,zh (LS.start (uq HS3).2 (uq HB3) rfl (uq HBG) (uq HZ3)),zh (uq HT).symm,zh (by omega)⟩
   case round=>
    obtain⟨a3,n3,cap3,L3,Y,HL,HE,HM⟩:=hrel;have cg:=(uq HL).cell.1;go_wp2_with fail
    (refine(zbp (Y:=Y) [119,97,108,107] rfl n3 8 (uq HL).sr).mono ?_;rintro e v3 ⟨rfl,hf,hs⟩;have HL3:=zh ((uq HL).move hf hs);clear hf hs);clear cg;obtain⟨bq,Y3,hbg⟩:∃ bq Y3,bgn [119,97,108,107] n3 8 Y=(bq,Y3):=⟨_,_,rfl⟩;rw[hbg]at HL3 |-;cases bq with
    |true=>
     obtain⟨t,r,hY,hY3,ht,hne⟩:=zcJ hbg;have HYY:=zh hY;have HTS:=zh ht;have HNE:=zh hne;subst hY3;clear hbg hY ht hne;obtain⟨i0,hi,hz0,hz1,hz2⟩:=zaD zpe;have HI0:=zh hi;have HZ0:=zh hz0;have HZ1:=zh hz1;have HZ2:=zh hz2;clear hi hz0 hz1 hz2;have hn2:=uq HM;have HLd:=zh ((uq HL3).move (Fr.keep (zk v3).drew) ((uq HL3).sr.keep (zk v3).drew));go_wp2_with fail
     refine wp_region_held_drew (S:=λ_=>True) (by kernel_rfl) (by trivial) (λzH=>?_);refine tk2 0 36 2 38 zH ?_;try simp only[Yq]
     generalize v3.drew=w4 at HLd |-;have cg:=(uq HLd).cell.1;refine wpAnyH_ready (rs:= [1,3]) (by kernel_rfl) (by simp) ?_;refine AllReadyH.cons rfl (λK hK=>?_) (AllReadyH.cons rfl (λK hK=>?_) AllReadyH.nil)
     ·skip
      go_simp;clear zH;refine hK.out _ _ ?_ (λzH=>?_)
      ·trivial
      clear hK K;try simp only[Yq]
      clear cg;refine zap 3 (λK hK=>?_);go_simp;clear zH;(refine(zhi (X:= .ok (([]:List D),r)) (uq HLd).sr).mono ?_;rintro e w5 ⟨s,s',m1,m2,m3,m4,rfl,hbd⟩;have HBD:=zh hbd;clear hbd);try go_wp2_with fail
      refine hK.out _ _ ?_ (λzH=>?_)
      ·trivial
      clear hK K;try simp only[Yq]
      refine zap 4 (λK hK=>?_);go_simp;clear zH;refine hK.out _ _ ?_ (λzH=>?_)
      ·trivial
      clear hK K;try simp only[Yq]
      obtain⟨xs,hown⟩:=(uq HLd).own (uq HBD).1;have HOWN:=zh hown;clear hown;refine wpAnyH_ready (rs:= [5]) (by kernel_rfl) (by simp) ?_;refine AllReadyH.cons rfl (λK hK=>?_) AllReadyH.nil;refine zaC _ _ _ rfl 0 79 i0 _ 6 64 Tryz.underlying40 (uq HI0) (uq HZ0) (uq HZ1) (uq HZ2) rfl (by decide) _ _ xs rfl ((uq HOWN).alloc _) ⟨w5.heap.size,0,none⟩ 1 1 [.string (sv s),.string (sv s'),.int .i64 m1,.int .i64 m2,.int .i64 m3,.int .i64 m4] rfl rfl (new_cells w5 [.string (sv s),.string (sv s'),.int .i64 m1,.int .i64 m2,.int .i64 m3,.int .i64 m4] 79) (by simp[Value.oneCell']) (by unfold maxLen;omega) (by omega) (Nat.zero_le _) ?_;intro v' w7 hown' hgrow hat
      obtain⟨g',cp',rfl⟩:=zaP hown';have A:=(uq HLd).app (uq HBD).1 (uq HBD).2.1 (uq HBD).2.2.1 rfl ((zk _).alloc _) (uq HOWN) hown' hgrow hat;have HLS:=zh A.1;have c8:=A.2.1;have f8:=A.2.2;clear hown' hgrow hat A zH;refine hK.out _ _ trivial (λzH=>?_);clear hK K;try simp only[Act.put,List.setIfInBounds_toArray,List.set_cons_zero,List.set_cons_succ]
      refine tkk 6 42 zH ?_;try simp only[Yq]
      refine zap 7 (λK hK=>?_);go_simp;clear zH;refine hK.out _ _ ?_ (λzH=>?_)
      ·trivial
      clear hK K;try simp only[Yq]
      refine wpAnyH_done (by kernel_rfl) ?_ _;clear zH;go_wp2_with fail
      go_roundw
      case rel=>
       refine⟨_,n3+1,cp',_,_,HLS,zh ?_,zh (by have:=uq HNE;omega)⟩;rw[<- uq HE,uq HYY,zbB zbZ (uq HTS) (by rw[(uq HL).hn];exact uq HNE) (cs:= [dS s,dS s',dI m1,dI m2,dI m3,dI m4]) (λc r' e=>(uq HBD).2.2.2 c r' e)];rfl
      case measure=>exact zbi (word:= [119,97,108,107]) (n:=n3) (most:=8) (body:=zbY) zbZ (uq HYY) (uq HL).sr (by exact(uq HLS).sr)
     ·skip
      clear cg;go_simp;clear zH;(refine(zhi (X:= .ok (([]:List D),r)) (uq HLd).sr).mono ?_;rintro e w5 ⟨s,s',m1,m2,m3,m4,rfl,hbd⟩;have HBD:=zh hbd;clear hbd);try go_wp2_with fail
      refine hK.out _ _ ?_ (λzH=>?_)
      ·trivial
      clear hK K;try simp only[Yq]
      have cg5:=((uq HLd).move (uq HBD).1 (uq HBD).2.1).cell.1;have cg5a:∀ o,(w5.alloc o).cell? ⟨gb,2,none⟩=some (.slice a3 n3 cap3):=λo=>kcell ((zk w5).alloc o) cg5
      refine wpAnyH_ready (rs:= [1,4]) (by kernel_rfl) (by simp) ?_;refine AllReadyH.cons rfl (λK hK=>?_) (AllReadyH.cons rfl (λK hK=>?_) AllReadyH.nil)
      focus
       skip
       go_simp;clear zH;refine hK.out _ _ ?_ (λzH=>?_)
       ·trivial
       clear hK K;try simp only[Yq]
       clear cg5 cg5a;refine zap 4 (λK hK=>?_);go_simp;clear zH;refine hK.out _ _ ?_ (λzH=>?_)
       ·trivial
       clear hK K;try simp only[Yq]
      rotate_left
      focus
       skip
       go_simp;clear zH;refine hK.out _ _ ?_ (λzH=>?_)
       ·trivial
       clear hK K;try simp only[Yq]
       clear cg5;refine zap 1 (λK hK=>?_);go_simp;clear zH;refine hK.out _ _ ?_ (λzH=>?_)
       ·trivial
       clear hK K;try simp only[Yq]
       clear cg5a
      rotate_left
      all_goals
       obtain⟨xs,hown⟩:=(uq HLd).own (uq HBD).1;have HOWN:=zh hown;clear hown;refine wpAnyH_ready (rs:= [5]) (by kernel_rfl) (by simp) ?_;refine AllReadyH.cons rfl (λK hK=>?_) AllReadyH.nil;refine zaC _ _ _ rfl 0 79 i0 _ 6 64 Tryz.underlying40 (uq HI0) (uq HZ0) (uq HZ1) (uq HZ2) rfl (by decide) _ _ xs rfl ((uq HOWN).alloc _) ⟨w5.heap.size,0,none⟩ 1 1 [.string (sv s),.string (sv s'),.int .i64 m1,.int .i64 m2,.int .i64 m3,.int .i64 m4] rfl rfl (new_cells w5 [.string (sv s),.string (sv s'),.int .i64 m1,.int .i64 m2,.int .i64 m3,.int .i64 m4] 79) (by simp[Value.oneCell']) (by unfold maxLen;omega) (by omega) (Nat.zero_le _) ?_;intro v' w7 hown' hgrow hat
       obtain⟨g',cp',rfl⟩:=zaP hown';have A:=(uq HLd).app (uq HBD).1 (uq HBD).2.1 (uq HBD).2.2.1 rfl ((zk _).alloc _) (uq HOWN) hown' hgrow hat;have HLS:=zh A.1;have c8:=A.2.1;have f8:=A.2.2;clear hown' hgrow hat A zH;refine hK.out _ _ trivial (λzH=>?_);clear hK K;try simp only[Act.put,List.setIfInBounds_toArray,List.set_cons_zero,List.set_cons_succ]
       refine tkk 6 42 zH ?_;try simp only[Yq]
       refine zap 7 (λK hK=>?_);go_simp;clear zH;refine hK.out _ _ ?_ (λzH=>?_)
       ·trivial
       clear hK K;try simp only[Yq]
       refine wpAnyH_done (by kernel_rfl) ?_ _;clear zH;go_wp2_with fail
       go_roundw
       case rel=>
        refine⟨_,n3+1,cp',_,_,HLS,zh ?_,zh (by have:=uq HNE;omega)⟩;rw[<- uq HE,uq HYY,zbB zbZ (uq HTS) (by rw[(uq HL).hn];exact uq HNE) (cs:= [dS s,dS s',dI m1,dI m2,dI m3,dI m4]) (λc r' e=>(uq HBD).2.2.2 c r' e)];rfl
       case measure=>exact zbi (word:= [119,97,108,107]) (n:=n3) (most:=8) (body:=zbY) zbZ (uq HYY) (uq HL).sr (by exact(uq HLS).sr)
    |false=>
     have HY:=zh (zdv (body:=zbY) (L:=L3) zbZ (uq HL).sr.ne (by rw[(uq HL).hn];exact hbg));have HQ:=zh (zdn (e:=79) (z:=6) (X:=X3) (by rw[<- uq HT,<- uq HE];exact uq HY));clear hbg;obtain⟨X4,HX4⟩:∃ Z,Hid (bnd X3 (zaL [119,97,108,107] 8 79 6 zbY)=Z):=⟨_,rfl⟩;rw[uq HX4]at HQ;have HG4:=zh ((uq HG3).trans (uq HQ).2);have HS4:Hid (SF w b (zaz X4) v3):=zh (by rw[(uq HQ).1];exact SF.loop (uq HS3) (uq HGW) (uq HL3));have HB4:Hid (Bxs v3 gb [.string (sv s1),.slice a2 n2 cap2,.slice a3 n3 cap3,.slice none 0 0,.slice none 0 0,.slice none 0 0,.int .i64 t.p]):=zh (uq HL3).bx;have HZ4:Hid (gb<v3.heap.size):=zh (uq HL3).gw;have HR4:=zh (((uq HL3).low (uq HBR) (uq HRG)).trans (uq HR3));have HW3_4:=zh (uq HL3).row;have HW2_4:=zh ((uq HL3).rows (uq HW2_3));clear HL HE HM HT HY HQ;clear HL3;go_wp2_with fail
     obtain⟨tgt,HT⟩:∃ tgt,Hid (tgt=rwY [112,104,97,115,101] 16 zbm (zaz X4) []):=⟨_,rfl⟩
     go_loopw [] (λwr=>∃(a:Option Addr) (n cap:Nat) (L:List (List D)) (Y:Except Er (List Tok)),Hid (LS b gb 3 v3 81 3 [.string (sv s1),.slice a2 n2 cap2,.slice a3 n3 cap3,.slice none 0 0,.slice none 0 0,.slice none 0 0,.int .i64 t.p] wr L a n cap Y)/\Hid (rwY [112,104,97,115,101] 16 zbm Y L=tgt)/\Hid (n<=16)) (λwr=>rem wr b)
     case atStart=>exact⟨none,0,0,[],zaz X4,zh (LS.start (uq HS4).2 (uq HB4) rfl (uq HBG) (uq HZ4)),zh (uq HT).symm,zh (by omega)⟩
     case round=>
      obtain⟨a4,n4,cap4,L4,Y,HL,HE,HM⟩:=hrel;have cg:=(uq HL).cell.1;go_wp2_with fail
      (refine(zbp (Y:=Y) [112,104,97,115,101] rfl n4 16 (uq HL).sr).mono ?_;rintro e v4 ⟨rfl,hf,hs⟩;have HL3:=zh ((uq HL).move hf hs);clear hf hs);clear cg;obtain⟨bq,Y3,hbg⟩:∃ bq Y3,bgn [112,104,97,115,101] n4 16 Y=(bq,Y3):=⟨_,_,rfl⟩;rw[hbg]at HL3 |-;cases bq with
      |true=>
       obtain⟨t,r,hY,hY3,ht,hne⟩:=zcJ hbg;have HYY:=zh hY;have HTS:=zh ht;have HNE:=zh hne;subst hY3;clear hbg hY ht hne;obtain⟨i0,hi,hz0,hz1,hz2⟩:=zaD zj4;have HI0:=zh hi;have HZ0:=zh hz0;have HZ1:=zh hz1;have HZ2:=zh hz2;clear hi hz0 hz1 hz2;have hn2:=uq HM;have hb3:b<v4.heap.size:=(uq HL3).sr.bl;have HB3:=zh hb3;have n3:¬v4.heap.size=b:=by omega
       have hgw:=(uq HL3).gw;have ng:¬gb=b:=by have:=uq HBG;omega
       have CG:=zh (uq HL3).cell.1;have HSR:=zh (uq HL3).sr;have hsr:=uq HSR;obtain⟨ad,cq,e9,p9,t9,r9,h1,h2⟩:=hsr.front;obtain⟨t0,t1,t2,t3⟩:=h1.tok;have hp:=zdR (X:= .ok (([]:List D),r)) hsr h1 h2;obtain⟨X0,HX0⟩:∃ Z,Hid (bnd (.ok (([]:List D),r)) zaO=Z):=⟨_,rfl⟩;rw[uq HX0]at hp;have HS0:Hid (SF v4 b (zaz X0) (v4.alloc (.cells #[.string ⟨#[]⟩,.slice none 0 0,.int .i64 t9.p] 81))):=zh (SF.keep ⟨.refl _ _,hp.1⟩ ((zk _).alloc _));have HG0:=zh hp.2;have c0:=h1.c0;simp only[List.length_cons]at c0;clear hp h1 h2 t0 t1 t2 hsr
       go_upto_region 10 with fail
       clear c0 t3;go_wp2_with fail
       (refine(zax (X:=X0) (uq HS0).2).mono ?_;rintro e w1 ⟨s1,rfl,hd⟩;have HS1:=zh ((uq HS0).step hd);have HG1:=zh ((uq HG0).trans hd.2.2);obtain⟨o1,q1,k1,rfl⟩:=zaE hd.1 (uq HS0).2.bl;clear hd);obtain⟨X1,HX1⟩:∃ Z,Hid (bnd X0 zai=Z):=⟨_,rfl⟩;rw[uq HX1]at HS1 HG1;go_wp2_with fail
       (refine(zaU (X:=X1) [58] rfl (SF.box1 (uq HB3) (uq HS1)).2).mono ?_;rintro e w1 ⟨rfl,hd⟩;have HS2:=zh ((SF.box1 (uq HB3) (uq HS1)).step hd);have HG2:=zh ((uq HG1).trans hd.2.2);obtain⟨o2,q2,k2,rfl⟩:=zaE hd.1 (SF.box1 (uq HB3) (uq HS1)).2.bl;clear hd);rw[za6 (uq HB3)]at HS2 |-;generalize q1++q2=q2 at HS2 |-;obtain⟨X2,HX2⟩:∃ Z,Hid (bnd X1 (zad [58])=Z):=⟨_,rfl⟩;rw[uq HX2]at HS2 HG2;go_wp2_with fail
       (refine(zbP (X:=X2) 16 (by decide) (by decide) (SF.box1 (uq HB3) (uq HS2)).2).mono ?_;rintro e w5 ⟨a5,n5,c5,L5,rfl,hd,hrd⟩;have HS3:=zh ((SF.box1 (uq HB3) (uq HS2)).step hd);have HG3:=zh ((uq HG2).trans hd.2.2);have HRD:=zh hrd;obtain⟨o3,q3,k3,rfl⟩:=zaE hd.1 (SF.box1 (uq HB3) (uq HS2)).2.bl;clear hd hrd);rw[za6 (uq HB3)]at HS3 HRD |-;generalize q2++q3=q3 at HS3 HRD |-;obtain⟨X3,HX3⟩:∃ Z,Hid (bnd X2 (sq [zas 9 16,zad [59]])=Z):=⟨_,rfl⟩;rw[uq HX3]at HS3 HG3;have HOW:=zh ((uq HL3).own (SF.box1 (o1':= .cells #[.string (sv s1),.slice a5 n5 c5,.int .i64 t9.p] 81) (uq HB3) (uq HS3)).1);obtain⟨xs,hown⟩:=uq HOW;have HOWN:=zh hown;clear hown;have HRD6:Hid (Rds (chg (v4.alloc (.cells #[.string (sv s1),.slice a5 n5 c5,.int .i64 t9.p] 81)) b o3 q3 k3) [dS s1,.row 9 1 L5,dI t9.p] (λi=>v4.heap.size<=i) [.string (sv s1),.slice a5 n5 c5,.int .i64 t9.p]):=zh (zcN _ (zcB (Rd.move _ _ _ _ (uq HRD) (λi hi _=>by have h9:v4.heap.size+1<=i:=(by have:=hi;simp only[zbe,World.size_alloc]at this;omega);exact⟨zgd (uq HB3) (by omega),by omega⟩)) (zaS _ (za2 _ _))));have cg:=uq CG;go_wp2_with (at_builtin;refine wpList_append_own_at _ rfl _ _ 41 rfl 0 81 i0 _ 3 48 Tryz.underlying41 (uq HI0) (uq HZ0) (uq HZ1) (uq HZ2) rfl (by decide) _ _ xs rfl ((uq HOWN).alloc _) ⟨v4.heap.size+1+q3.size,0,none⟩ 1 1 [.string (sv s1),.slice a5 n5 c5,.int .i64 t9.p] rfl rfl (by have hnc:=new_cells (chg (v4.alloc (.cells #[.string (sv s1),.slice a5 n5 c5,.int .i64 t9.p] 81)) b o3 q3 k3) [.string (sv s1),.slice a5 n5 c5,.int .i64 t9.p] 81;rw[zbe,World.size_alloc]at hnc;exact hnc) (by simp[Value.oneCell']) (by unfold maxLen;omega) (by omega) (Nat.zero_le _) ?_;intro v' w8 hown' hgrow hnil hat;obtain⟨g',cp',rfl⟩:=zaP hown';have A:=(uq HL3).app (SF.box1 (uq HB3) (uq HS3)).1 (SF.box1 (uq HB3) (uq HS3)).2 (uq HRD6) rfl ((zk _).alloc _) (uq HOWN) hown' hgrow hat;have HLS:=zh A.1;have c8:=A.2.1;have f8:=A.2.2;clear hown' hgrow hnil hat A)
       have HB9:Hid (zbm r=zct (λ_=>X3) []):=zh (by
        have a0:=uq HX0;have a1:=uq HX1;have a2:=uq HX2;have a3:=uq HX3;have e2:bnd (.ok (([]:List D),r)) (sq [zaO,zai,zad [58],zas 9 16,zad [59]])=X3:=by
         simp only[zav,zaY]at a0 a1 a2 a3 |-;rw[a0,a1,a2,a3]
        show zct (sq _ []) r=_;simp only[zct];rw[<- e2];rfl)
       have HTK:Hid (zaz (zbm r)=zaz X3):=zh (by rw[uq HB9];simp only[zct];rcases X3 with x|⟨c,r'⟩<;>rfl);go_roundw
       case rel=>
        refine⟨_,n4+1,cp',_,_,HLS,zh ?_,zh (by have:=uq HNE;omega)⟩;rw[<- uq HE,uq HYY,zbB zb7 (uq HTS) (by rw[(uq HL).hn];exact uq HNE) (cs:= [dS s1,.row 9 1 L5,dI t9.p]) (λc r' e=>by
         rw[uq HB9]at e;simp only[zct]at e;cases hX:X3 with
         |error x=>rw[hX]at e;cases e
         |ok q=>
          rw[hX]at e;obtain⟨c0,r0,h0,h1⟩:=(uq HG3) q.1 q.2 (by rw[hX]);simp only[Except.ok.injEq,Prod.mk.injEq]at h0 e;rw[<- e.1,h1,<- h0.1];rfl),uq HTK]
       case measure=>exact zbi (word:= [112,104,97,115,101]) (n:=n4) (most:=16) (body:=zbm) zb7 (uq HYY) (uq HL).sr (by rw[uq HTK];exact(uq HLS).sr)
      |false=>
       have HY:=zh (zdv (body:=zbm) (L:=L4) zb7 (uq HL).sr.ne (by rw[(uq HL).hn];exact hbg));have HQ:=zh (zdn (e:=81) (z:=3) (X:=X4) (by rw[<- uq HT,<- uq HE];exact uq HY));clear hbg;obtain⟨X5,HX5⟩:∃ Z,Hid (bnd X4 (zaL [112,104,97,115,101] 16 81 3 zbm)=Z):=⟨_,rfl⟩;rw[uq HX5]at HQ;have HG5:=zh ((uq HG4).trans (uq HQ).2);have HS5:Hid (SF w b (zaz X5) v4):=zh (by rw[(uq HQ).1];exact SF.loop (uq HS4) (uq HGW) (uq HL3));have HB5:Hid (Bxs v4 gb [.string (sv s1),.slice a2 n2 cap2,.slice a3 n3 cap3,.slice a4 n4 cap4,.slice none 0 0,.slice none 0 0,.int .i64 t.p]):=zh (uq HL3).bx;have HZ5:Hid (gb<v4.heap.size):=zh (uq HL3).gw;have HR5:=zh (((uq HL3).low (uq HBR) (uq HRG)).trans (uq HR4));have HW4_5:=zh (uq HL3).row;have HW2_5:=zh ((uq HL3).rows (uq HW2_4));have HW3_5:=zh ((uq HL3).rows (uq HW3_4));clear HL HE HM HT HY HQ;clear HL3;go_wp2_with fail
       obtain⟨tgt,HT⟩:∃ tgt,Hid (tgt=rwY [103,114,111,117,112] 4 zbl (zaz X5) []):=⟨_,rfl⟩
       go_loopw [] (λwr=>∃(a:Option Addr) (n cap:Nat) (L:List (List D)) (Y:Except Er (List Tok)),Hid (LS b gb 4 v4 84 1 [.string (sv s1),.slice a2 n2 cap2,.slice a3 n3 cap3,.slice a4 n4 cap4,.slice none 0 0,.slice none 0 0,.int .i64 t.p] wr L a n cap Y)/\Hid (rwY [103,114,111,117,112] 4 zbl Y L=tgt)/\Hid (n<=4)) (λwr=>rem wr b)
       case atStart=>exact⟨none,0,0,[],zaz X5,zh (LS.start (uq HS5).2 (uq HB5) rfl (uq HBG) (uq HZ5)),zh (uq HT).symm,zh (by omega)⟩
       case round=>
        obtain⟨a5,n5,cap5,L5,Y,HL,HE,HM⟩:=hrel;have cg:=(uq HL).cell.1;go_wp2_with fail
        (refine(zbp (Y:=Y) [103,114,111,117,112] rfl n5 4 (uq HL).sr).mono ?_;rintro e v5 ⟨rfl,hf,hs⟩;have HL3:=zh ((uq HL).move hf hs);clear hf hs);clear cg;obtain⟨bq,Y3,hbg⟩:∃ bq Y3,bgn [103,114,111,117,112] n5 4 Y=(bq,Y3):=⟨_,_,rfl⟩;rw[hbg]at HL3 |-;cases bq with
        |true=>
         obtain⟨t,r,hY,hY3,ht,hne⟩:=zcJ hbg;have HYY:=zh hY;have HTS:=zh ht;have HNE:=zh hne;subst hY3;clear hbg hY ht hne;obtain⟨i0,hi,hz0,hz1,hz2⟩:=zaD zj5;have HI0:=zh hi;have HZ0:=zh hz0;have HZ1:=zh hz1;have HZ2:=zh hz2;clear hi hz0 hz1 hz2;have hn2:=uq HM;have HLd:=zh ((uq HL3).move (Fr.keep (zk v5).drew) ((uq HL3).sr.keep (zk v5).drew));go_wp2_with fail
         refine wp_region_held_drew (S:=λ_=>True) (by kernel_rfl) (by trivial) (λzH=>?_);refine tk2 0 75 2 77 zH ?_;try simp only[Yq]
         generalize v5.drew=w4 at HLd |-;have cg:=(uq HLd).cell.1;refine wpAnyH_ready (rs:= [1,3]) (by kernel_rfl) (by simp) ?_;refine AllReadyH.cons rfl (λK hK=>?_) (AllReadyH.cons rfl (λK hK=>?_) AllReadyH.nil)
         ·skip
          go_simp;clear zH;refine hK.out _ _ ?_ (λzH=>?_)
          ·trivial
          clear hK K;try simp only[Yq]
          clear cg;refine zap 3 (λK hK=>?_);go_simp;clear zH;(refine(zdF (X:= .ok (([]:List D),r)) (uq HLd).sr).mono ?_;rintro e w5 ⟨a9,n9,c9,L9,rfl,hbd⟩;have HBD:=zh hbd;clear hbd);try go_wp2_with fail
          refine hK.out _ _ ?_ (λzH=>?_)
          ·trivial
          clear hK K;try simp only[Yq]
          refine zap 4 (λK hK=>?_);go_simp;clear zH;refine hK.out _ _ ?_ (λzH=>?_)
          ·trivial
          clear hK K;try simp only[Yq]
          obtain⟨xs,hown⟩:=(uq HLd).own (uq HBD).1;have HOWN:=zh hown;clear hown;refine wpAnyH_ready (rs:= [5]) (by kernel_rfl) (by simp) ?_;refine AllReadyH.cons rfl (λK hK=>?_) AllReadyH.nil;refine zaC _ _ _ rfl 0 84 i0 _ 1 24 Tryz.underlying42 (uq HI0) (uq HZ0) (uq HZ1) (uq HZ2) rfl (by decide) _ _ xs rfl ((uq HOWN).alloc _) ⟨w5.heap.size,0,none⟩ 1 1 [.slice a9 n9 c9] rfl rfl (new_cells w5 [.slice a9 n9 c9] 84) (by simp[Value.oneCell']) (by unfold maxLen;omega) (by omega) (Nat.zero_le _) ?_;intro v' w7 hown' hgrow hat
          obtain⟨g',cp',rfl⟩:=zaP hown';have A:=(uq HLd).app (uq HBD).1 (uq HBD).2.1 (uq HBD).2.2.1 rfl ((zk _).alloc _) (uq HOWN) hown' hgrow hat;have HLS:=zh A.1;have c8:=A.2.1;have f8:=A.2.2;clear hown' hgrow hat A zH;refine hK.out _ _ trivial (λzH=>?_);clear hK K;try simp only[Act.put,List.setIfInBounds_toArray,List.set_cons_zero,List.set_cons_succ]
          refine tkk 6 81 zH ?_;try simp only[Yq]
          refine zap 7 (λK hK=>?_);go_simp;clear zH;refine hK.out _ _ ?_ (λzH=>?_)
          ·trivial
          clear hK K;try simp only[Yq]
          refine wpAnyH_done (by kernel_rfl) ?_ _;clear zH;go_wp2_with fail
          go_roundw
          case rel=>
           refine⟨_,n5+1,cp',_,_,HLS,zh ?_,zh (by have:=uq HNE;omega)⟩;rw[<- uq HE,uq HYY,zbB zbI (uq HTS) (by rw[(uq HL).hn];exact uq HNE) (cs:= [.row 86 2 L9]) (λc r' e=>(uq HBD).2.2.2 c r' e)];rfl
          case measure=>exact zbi (word:= [103,114,111,117,112]) (n:=n5) (most:=4) (body:=zbl) zbI (uq HYY) (uq HL).sr (by exact(uq HLS).sr)
         ·skip
          clear cg;go_simp;clear zH;(refine(zdF (X:= .ok (([]:List D),r)) (uq HLd).sr).mono ?_;rintro e w5 ⟨a9,n9,c9,L9,rfl,hbd⟩;have HBD:=zh hbd;clear hbd);try go_wp2_with fail
          refine hK.out _ _ ?_ (λzH=>?_)
          ·trivial
          clear hK K;try simp only[Yq]
          have cg5:=((uq HLd).move (uq HBD).1 (uq HBD).2.1).cell.1;have cg5a:∀ o,(w5.alloc o).cell? ⟨gb,4,none⟩=some (.slice a5 n5 cap5):=λo=>kcell ((zk w5).alloc o) cg5
          refine wpAnyH_ready (rs:= [1,4]) (by kernel_rfl) (by simp) ?_;refine AllReadyH.cons rfl (λK hK=>?_) (AllReadyH.cons rfl (λK hK=>?_) AllReadyH.nil)
          focus
           skip
           go_simp;clear zH;refine hK.out _ _ ?_ (λzH=>?_)
           ·trivial
           clear hK K;try simp only[Yq]
           clear cg5 cg5a;refine zap 4 (λK hK=>?_);go_simp;clear zH;refine hK.out _ _ ?_ (λzH=>?_)
           ·trivial
           clear hK K;try simp only[Yq]
          rotate_left
          focus
           skip
           go_simp;clear zH;refine hK.out _ _ ?_ (λzH=>?_)
           ·trivial
           clear hK K;try simp only[Yq]
           clear cg5;refine zap 1 (λK hK=>?_);go_simp;clear zH;refine hK.out _ _ ?_ (λzH=>?_)
           ·trivial
           clear hK K;try simp only[Yq]
           clear cg5a
          rotate_left
          all_goals
           obtain⟨xs,hown⟩:=(uq HLd).own (uq HBD).1;have HOWN:=zh hown;clear hown;refine wpAnyH_ready (rs:= [5]) (by kernel_rfl) (by simp) ?_;refine AllReadyH.cons rfl (λK hK=>?_) AllReadyH.nil;refine zaC _ _ _ rfl 0 84 i0 _ 1 24 Tryz.underlying42 (uq HI0) (uq HZ0) (uq HZ1) (uq HZ2) rfl (by decide) _ _ xs rfl ((uq HOWN).alloc _) ⟨w5.heap.size,0,none⟩ 1 1 [.slice a9 n9 c9] rfl rfl (new_cells w5 [.slice a9 n9 c9] 84) (by simp[Value.oneCell']) (by unfold maxLen;omega) (by omega) (Nat.zero_le _) ?_;intro v' w7 hown' hgrow hat
           obtain⟨g',cp',rfl⟩:=zaP hown';have A:=(uq HLd).app (uq HBD).1 (uq HBD).2.1 (uq HBD).2.2.1 rfl ((zk _).alloc _) (uq HOWN) hown' hgrow hat;have HLS:=zh A.1;have c8:=A.2.1;have f8:=A.2.2;clear hown' hgrow hat A zH;refine hK.out _ _ trivial (λzH=>?_);clear hK K;try simp only[Act.put,List.setIfInBounds_toArray,List.set_cons_zero,List.set_cons_succ]
           refine tkk 6 81 zH ?_;try simp only[Yq]
           refine zap 7 (λK hK=>?_);go_simp;clear zH;refine hK.out _ _ ?_ (λzH=>?_)
           ·trivial
           clear hK K;try simp only[Yq]
           refine wpAnyH_done (by kernel_rfl) ?_ _;clear zH;go_wp2_with fail
           go_roundw
           case rel=>
            refine⟨_,n5+1,cp',_,_,HLS,zh ?_,zh (by have:=uq HNE;omega)⟩;rw[<- uq HE,uq HYY,zbB zbI (uq HTS) (by rw[(uq HL).hn];exact uq HNE) (cs:= [.row 86 2 L9]) (λc r' e=>(uq HBD).2.2.2 c r' e)];rfl
           case measure=>exact zbi (word:= [103,114,111,117,112]) (n:=n5) (most:=4) (body:=zbl) zbI (uq HYY) (uq HL).sr (by exact(uq HLS).sr)
        |false=>
         have HY:=zh (zdv (body:=zbl) (L:=L5) zbI (uq HL).sr.ne (by rw[(uq HL).hn];exact hbg));have HQ:=zh (zdn (e:=84) (z:=1) (X:=X5) (by rw[<- uq HT,<- uq HE];exact uq HY));clear hbg;obtain⟨X6,HX6⟩:∃ Z,Hid (bnd X5 (zaL [103,114,111,117,112] 4 84 1 zbl)=Z):=⟨_,rfl⟩;rw[uq HX6]at HQ;have HG6:=zh ((uq HG5).trans (uq HQ).2);have HS6:Hid (SF w b (zaz X6) v5):=zh (by rw[(uq HQ).1];exact SF.loop (uq HS5) (uq HGW) (uq HL3));have HB6:Hid (Bxs v5 gb [.string (sv s1),.slice a2 n2 cap2,.slice a3 n3 cap3,.slice a4 n4 cap4,.slice a5 n5 cap5,.slice none 0 0,.int .i64 t.p]):=zh (uq HL3).bx;have HZ6:Hid (gb<v5.heap.size):=zh (uq HL3).gw;have HR6:=zh (((uq HL3).low (uq HBR) (uq HRG)).trans (uq HR5));have HW5_6:=zh (uq HL3).row;have HW2_6:=zh ((uq HL3).rows (uq HW2_5));have HW3_6:=zh ((uq HL3).rows (uq HW3_5));have HW4_6:=zh ((uq HL3).rows (uq HW4_5));clear HL HE HM HT HY HQ;clear HL3;go_wp2_with fail
         obtain⟨tgt,HT⟩:∃ tgt,Hid (tgt=rwY [102,111,101] 64 zeR (zaz X6) []):=⟨_,rfl⟩
         go_loopw [] (λwr=>∃(a:Option Addr) (n cap:Nat) (L:List (List D)) (Y:Except Er (List Tok)),Hid (LS b gb 5 v5 88 3 [.string (sv s1),.slice a2 n2 cap2,.slice a3 n3 cap3,.slice a4 n4 cap4,.slice a5 n5 cap5,.slice none 0 0,.int .i64 t.p] wr L a n cap Y)/\Hid (rwY [102,111,101] 64 zeR Y L=tgt)/\Hid (n<=64)) (λwr=>rem wr b)
         case atStart=>exact⟨none,0,0,[],zaz X6,zh (LS.start (uq HS6).2 (uq HB6) rfl (uq HBG) (uq HZ6)),zh (uq HT).symm,zh (by omega)⟩
         case round=>
          obtain⟨a6,n6,cap6,L6,Y,HL,HE,HM⟩:=hrel;have cg:=(uq HL).cell.1;go_wp2_with fail
          (refine(zbp (Y:=Y) [102,111,101] rfl n6 64 (uq HL).sr).mono ?_;rintro e v6 ⟨rfl,hf,hs⟩;have HL3:=zh ((uq HL).move hf hs);clear hf hs);clear cg;obtain⟨bq,Y3,hbg⟩:∃ bq Y3,bgn [102,111,101] n6 64 Y=(bq,Y3):=⟨_,_,rfl⟩;rw[hbg]at HL3 |-;cases bq with
          |true=>
           obtain⟨t,r,hY,hY3,ht,hne⟩:=zcJ hbg;have HYY:=zh hY;have HTS:=zh ht;have HNE:=zh hne;subst hY3;clear hbg hY ht hne;obtain⟨i0,hi,hz0,hz1,hz2⟩:=zaD zpf;have HI0:=zh hi;have HZ0:=zh hz0;have HZ1:=zh hz1;have HZ2:=zh hz2;clear hi hz0 hz1 hz2;have hn2:=uq HM;have hb3:b<v6.heap.size:=(uq HL3).sr.bl;have HB3:=zh hb3;have n3:¬v6.heap.size=b:=by omega
           have hgw:=(uq HL3).gw;have ng:¬gb=b:=by have:=uq HBG;omega
           have CG:=zh (uq HL3).cell.1;have HSR:=zh (uq HL3).sr;have hsr:=uq HSR;obtain⟨ad,cq,e9,p9,t9,r9,h1,h2⟩:=hsr.front;obtain⟨t0,t1,t2,t3⟩:=h1.tok;have hp:=zdR (X:= .ok (([]:List D),r)) hsr h1 h2;obtain⟨X0,HX0⟩:∃ Z,Hid (bnd (.ok (([]:List D),r)) zaO=Z):=⟨_,rfl⟩;rw[uq HX0]at hp;have HS0:Hid (SF v6 b (zaz X0) (v6.alloc (.cells #[.string ⟨#[]⟩,.string ⟨#[]⟩,.int .i64 t9.p] 88))):=zh (SF.keep ⟨.refl _ _,hp.1⟩ ((zk _).alloc _));have HG0:=zh hp.2;have c0:=h1.c0;simp only[List.length_cons]at c0;clear hp h1 h2 t0 t1 t2 hsr
           go_upto_region 18 with fail
           clear c0 t3;go_wp2_with fail
           (refine(zax (X:=X0) (uq HS0).2).mono ?_;rintro e w1 ⟨s1,rfl,hd⟩;have HS1:=zh ((uq HS0).step hd);have HG1:=zh ((uq HG0).trans hd.2.2);obtain⟨o1,q1,k1,rfl⟩:=zaE hd.1 (uq HS0).2.bl;clear hd);obtain⟨X1,HX1⟩:∃ Z,Hid (bnd X0 zai=Z):=⟨_,rfl⟩;rw[uq HX1]at HS1 HG1;go_wp2_with fail
           (refine(zax (X:=X1) (SF.box1 (uq HB3) (uq HS1)).2).mono ?_;rintro e w1 ⟨s2,rfl,hd⟩;have HS2:=zh ((SF.box1 (uq HB3) (uq HS1)).step hd);have HG2:=zh ((uq HG1).trans hd.2.2);obtain⟨o2,q2,k2,rfl⟩:=zaE hd.1 (SF.box1 (uq HB3) (uq HS1)).2.bl;clear hd);rw[za6 (uq HB3)]at HS2 |-;generalize q1++q2=q2 at HS2 |-;obtain⟨X2,HX2⟩:∃ Z,Hid (bnd X1 zai=Z):=⟨_,rfl⟩;rw[uq HX2]at HS2 HG2;go_wp2_with fail
           (refine(zaU (X:=X2) [59] rfl (SF.box1 (uq HB3) (uq HS2)).2).mono ?_;rintro e w1 ⟨rfl,hd⟩;have HS3:=zh ((SF.box1 (uq HB3) (uq HS2)).step hd);have HG3:=zh ((uq HG2).trans hd.2.2);obtain⟨o3,q3,k3,rfl⟩:=zaE hd.1 (SF.box1 (uq HB3) (uq HS2)).2.bl;clear hd);rw[za6 (uq HB3)]at HS3 |-;generalize q2++q3=q3 at HS3 |-;obtain⟨X3,HX3⟩:∃ Z,Hid (bnd X2 (zad [59])=Z):=⟨_,rfl⟩;rw[uq HX3]at HS3 HG3;have HOW:=zh ((uq HL3).own (SF.box1 (o1':= .cells #[.string (sv s1),.string (sv s2),.int .i64 t9.p] 88) (uq HB3) (uq HS3)).1);obtain⟨xs,hown⟩:=uq HOW;have HOWN:=zh hown;clear hown;have HRD6:Hid (Rds (chg (v6.alloc (.cells #[.string (sv s1),.string (sv s2),.int .i64 t9.p] 88)) b o3 q3 k3) [dS s1,dS s2,dI t9.p] (λi=>v6.heap.size<=i) [.string (sv s1),.string (sv s2),.int .i64 t9.p]):=zh (zcN _ (zcN _ (zaS _ (za2 _ _))));have cg:=uq CG;go_wp2_with (at_builtin;refine wpList_append_own_at _ rfl _ _ 43 rfl 0 88 i0 _ 3 40 Tryz.underlying43 (uq HI0) (uq HZ0) (uq HZ1) (uq HZ2) rfl (by decide) _ _ xs rfl ((uq HOWN).alloc _) ⟨v6.heap.size+1+q3.size,0,none⟩ 1 1 [.string (sv s1),.string (sv s2),.int .i64 t9.p] rfl rfl (by have hnc:=new_cells (chg (v6.alloc (.cells #[.string (sv s1),.string (sv s2),.int .i64 t9.p] 88)) b o3 q3 k3) [.string (sv s1),.string (sv s2),.int .i64 t9.p] 88;rw[zbe,World.size_alloc]at hnc;exact hnc) (by simp[Value.oneCell']) (by unfold maxLen;omega) (by omega) (Nat.zero_le _) ?_;intro v' w8 hown' hgrow hnil hat;obtain⟨g',cp',rfl⟩:=zaP hown';have A:=(uq HL3).app (SF.box1 (uq HB3) (uq HS3)).1 (SF.box1 (uq HB3) (uq HS3)).2 (uq HRD6) rfl ((zk _).alloc _) (uq HOWN) hown' hgrow hat;have HLS:=zh A.1;have c8:=A.2.1;have f8:=A.2.2;clear hown' hgrow hnil hat A)
           have HB9:Hid (zeR r=zct (λ_=>X3) []):=zh (by
            have a0:=uq HX0;have a1:=uq HX1;have a2:=uq HX2;have a3:=uq HX3;have e2:bnd (.ok (([]:List D),r)) (sq [zaO,zai,zai,zad [59]])=X3:=by
             simp only[zav,zaY]at a0 a1 a2 a3 |-;rw[a0,a1,a2,a3]
            show zct (sq _ []) r=_;simp only[zct];rw[<- e2];rfl)
           have HTK:Hid (zaz (zeR r)=zaz X3):=zh (by rw[uq HB9];simp only[zct];rcases X3 with x|⟨c,r'⟩<;>rfl);go_roundw
           case rel=>
            refine⟨_,n6+1,cp',_,_,HLS,zh ?_,zh (by have:=uq HNE;omega)⟩;rw[<- uq HE,uq HYY,zbB zdk (uq HTS) (by rw[(uq HL).hn];exact uq HNE) (cs:= [dS s1,dS s2,dI t9.p]) (λc r' e=>by
             rw[uq HB9]at e;simp only[zct]at e;cases hX:X3 with
             |error x=>rw[hX]at e;cases e
             |ok q=>
              rw[hX]at e;obtain⟨c0,r0,h0,h1⟩:=(uq HG3) q.1 q.2 (by rw[hX]);simp only[Except.ok.injEq,Prod.mk.injEq]at h0 e;rw[<- e.1,h1,<- h0.1];rfl),uq HTK]
           case measure=>exact zbi (word:= [102,111,101]) (n:=n6) (most:=64) (body:=zeR) zdk (uq HYY) (uq HL).sr (by rw[uq HTK];exact(uq HLS).sr)
          |false=>
           have HY:=zh (zdv (body:=zeR) (L:=L6) zdk (uq HL).sr.ne (by rw[(uq HL).hn];exact hbg));have HQ:=zh (zdn (e:=88) (z:=3) (X:=X6) (by rw[<- uq HT,<- uq HE];exact uq HY));clear hbg;obtain⟨X7,HX7⟩:∃ Z,Hid (bnd X6 (zaL [102,111,101] 64 88 3 zeR)=Z):=⟨_,rfl⟩;rw[uq HX7]at HQ;have HG7:=zh ((uq HG6).trans (uq HQ).2);have HS7:Hid (SF w b (zaz X7) v6):=zh (by rw[(uq HQ).1];exact SF.loop (uq HS6) (uq HGW) (uq HL3));have HB7:Hid (Bxs v6 gb [.string (sv s1),.slice a2 n2 cap2,.slice a3 n3 cap3,.slice a4 n4 cap4,.slice a5 n5 cap5,.slice a6 n6 cap6,.int .i64 t.p]):=zh (uq HL3).bx;have HZ7:Hid (gb<v6.heap.size):=zh (uq HL3).gw;have HR7:=zh (((uq HL3).low (uq HBR) (uq HRG)).trans (uq HR6));have HW6_7:=zh (uq HL3).row;have HW2_7:=zh ((uq HL3).rows (uq HW2_6));have HW3_7:=zh ((uq HL3).rows (uq HW3_6));have HW4_7:=zh ((uq HL3).rows (uq HW4_6));have HW5_7:=zh ((uq HL3).rows (uq HW5_6));clear HL HE HM HT HY HQ;clear HL3;go_wp2_with fail
           (refine(zaU (X:=X7) [125] rfl (uq HS7).2).mono ?_;rintro e w8 ⟨rfl,hd⟩;have HS8:=zh ((uq HS7).step hd);have HG8:=zh ((uq HG7).trans hd.2.2);have HB8:=zh ((uq HB7).fr hd.1 (by have:=uq HBG;omega));have HR8:=zh ((hd.1.block rb (by have:=uq HZ7;have:=uq HRG;omega) (by have:=uq HBR;omega)).trans (uq HR7));have HW8:Hid (Rd w8 (.row 77 11 L2) (λi=>gb<i) (.slice a2 n2 cap2)/\Rd w8 (.row 79 6 L3) (λi=>gb<i) (.slice a3 n3 cap3)/\Rd w8 (.row 81 3 L4) (λi=>gb<i) (.slice a4 n4 cap4)/\Rd w8 (.row 84 1 L5) (λi=>gb<i) (.slice a5 n5 cap5)/\Rd w8 (.row 88 3 L6) (λi=>gb<i) (.slice a6 n6 cap6)):=zh ⟨zc1 (uq HBG) hd.1 (uq HW2_7),zc1 (uq HBG) hd.1 (uq HW3_7),zc1 (uq HBG) hd.1 (uq HW4_7),zc1 (uq HBG) hd.1 (uq HW5_7),zc1 (uq HBG) hd.1 (uq HW6_7)⟩;clear hd);obtain⟨X8,HX8⟩:∃ Z,Hid (bnd X7 (zad [125])=Z):=⟨_,rfl⟩;rw[uq HX8]at HS8 HG8;have g0:=((uq HB8) 0 _ rfl).1;have g1:=((uq HB8) 1 _ rfl).1;have g2:=((uq HB8) 2 _ rfl).1;have g3:=((uq HB8) 3 _ rfl).1;have g4:=((uq HB8) 4 _ rfl).1;have g5:=((uq HB8) 5 _ rfl).1;have g6:=((uq HB8) 6 _ rfl).1;obtain⟨u0,H0⟩:∃ u:Value,Hid ((.string (sv s1):Value)=u):=⟨_,rfl⟩;rw[uq H0]at g0;obtain⟨u1,H1⟩:∃ u:Value,Hid ((.slice a2 n2 cap2:Value)=u):=⟨_,rfl⟩;rw[uq H1]at g1;obtain⟨u2,H2⟩:∃ u:Value,Hid ((.slice a3 n3 cap3:Value)=u):=⟨_,rfl⟩;rw[uq H2]at g2;obtain⟨u3,H3⟩:∃ u:Value,Hid ((.slice a4 n4 cap4:Value)=u):=⟨_,rfl⟩;rw[uq H3]at g3;obtain⟨u4,H4⟩:∃ u:Value,Hid ((.slice a5 n5 cap5:Value)=u):=⟨_,rfl⟩;rw[uq H4]at g4;obtain⟨u5,H5⟩:∃ u:Value,Hid ((.slice a6 n6 cap6:Value)=u):=⟨_,rfl⟩;rw[uq H5]at g5;obtain⟨u6,H6⟩:∃ u:Value,Hid ((.int .i64 t.p:Value)=u):=⟨_,rfl⟩;rw[uq H6]at g6;obtain⟨W1,W2,W3,W4,W5,W6,W7,y0,y1,y2,y3,y4,y5,y6,hb7,hq7,hz7,ho7,ht7,hp7⟩:=zry (uq HR8) (u0:=u0) (u1:=u1) (u2:=u2) (u3:=u3) (u4:=u4) (u5:=u5) (u6:=u6) (by rw[<- uq H0,<- uq H1,<- uq H2,<- uq H3,<- uq H4,<- uq H5,<- uq H6];simp[Value.oneCell']);have HS9:=zh ((uq HS8).stored (uq HB) (by have:=uq HRb;omega) hq7 hz7 ho7 ht7 hp7);have HQ7:=zh hq7;have r0:W7.cell? ⟨rb,0,none⟩=some u0:=by simp[World.cell?,hb7]
           have r1:W7.cell? ⟨rb,1,none⟩=some u1:=by simp[World.cell?,hb7]
           have r2:W7.cell? ⟨rb,2,none⟩=some u2:=by simp[World.cell?,hb7]
           have r3:W7.cell? ⟨rb,3,none⟩=some u3:=by simp[World.cell?,hb7]
           have r4:W7.cell? ⟨rb,4,none⟩=some u4:=by simp[World.cell?,hb7]
           have r5:W7.cell? ⟨rb,5,none⟩=some u5:=by simp[World.cell?,hb7]
           have r6:W7.cell? ⟨rb,6,none⟩=some u6:=by simp[World.cell?,hb7]
           clear hb7 hq7 hz7 ho7 ht7 hp7;go_wp2_with fail
           refine bodyPost_ret (v:= .agg #[u0,u1,u2,u3,u4,u5,u6]) ?_ rfl ?_
           ·simp[results,Tryz.results50,go_sem,r0,r1,r2,r3,r4,r5,r6]
           ·obtain rfl:=uq H0;obtain rfl:=uq H1;obtain rfl:=uq H2;obtain rfl:=uq H3;obtain rfl:=uq H4;obtain rfl:=uq H5;obtain rfl:=uq H6;refine⟨s1,a2,n2,cap2,a3,n3,cap3,a4,n4,cap4,a5,n5,cap5,a6,n6,cap6,t.p,[dS s1,.row 77 11 L2,.row 79 6 L3,.row 81 3 L4,.row 84 1 L5,.row 88 3 L6,dI t.p],rfl,rfl,zej (d:=dI t.p) (ds:= [dS s1,.row 77 11 L2,.row 79 6 L3,.row 81 3 L4,.row 84 1 L5,.row 88 3 L6]) (uq HS9) ?_ ?_ ?_⟩
            ·simpa using uq HG8
            ·have a0:=uq HX0;have a1:=uq HX1;have a2:=uq HX2;have a3:=uq HX3;have a4:=uq HX4;have a5:=uq HX5;have a6:=uq HX6;have a7:=uq HX7;have a8:=uq HX8;simp only[zav,zaY];rw[a0,a1,a2,a3,a4,a5,a6,a7,a8]
            ·have hm:∀(d:D) (u:Value),Rd w8 d (λi=>gb<i) u->Rd W7 d (λi=>w.heap.size<=i) u:=λd u hd=>Rd.move _ _ _ _ hd (λi hi _=>⟨(uq HQ7) i (by have:=uq HRG;omega),by have:=uq HGW;omega⟩)
             obtain⟨m1,m2,m3,m4,m5⟩:=uq HW8;exact zcN _ (zcB (hm _ _ m1) (zcB (hm _ _ m2) (zcB (hm _ _ m3) (zcB (hm _ _ m4) (zcB (hm _ _ m5) (zaS _ (za2 _ _)))))))
end Q
end Go.Proofs.YthceiikgecoimaaGreatDoor
