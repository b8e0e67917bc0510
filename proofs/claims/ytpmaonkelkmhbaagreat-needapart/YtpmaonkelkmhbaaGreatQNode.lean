/- The document's reader: node. -/
import Derived.Test.YtpmaonkelkmhbaaGreatQStore
import Derived.Test.YtpmaonkelkmhbaaGreatLSkip
import Derived.Deep.DrawnRows
import Derived.Deep.RegionHeld
namespace Go.Proofs.YtpmaonkelkmhbaaGreat
open Go.RowKit
attribute [local go_sem ↓] Go.wp_at_zero Go.wp_at_succ
set_option linter.unusedVariables false
set_option linter.unusedSimpArgs false
set_option maxRecDepth 10000
namespace Q
theorem ziA:(Tryz.prog.info? 84).map (fun i=>(i.zero,i.size,i.bytes))=some (some (.agg #[.string ⟨#[]⟩,.int .i64 0,.int .i64 0,.int .i64 0,.int .i64 0,.int .i64 0,.int .i64 0,.int .i64 0,.int .i64 0,.int .i64 0,.int .i64 0]),11,96):=by kernel_rfl
theorem zlF:(Tryz.prog.info? 86).map (fun i=>(i.zero,i.size,i.bytes))=some (some (.agg #[.string ⟨#[]⟩,.string ⟨#[]⟩,.int .i64 0,.int .i64 0,.int .i64 0,.int .i64 0]),6,64):=by kernel_rfl
theorem zhF:(Tryz.prog.info? 45).map (fun i=>(i.zero,i.size,i.bytes))=some (some (.agg #[.string ⟨#[]⟩,.slice none 0 0,.int .i64 0]),3,48):=by kernel_rfl
theorem zhG:(Tryz.prog.info? 62).map (fun i=>(i.zero,i.size,i.bytes))=some (some (.agg #[.slice none 0 0]),1,24):=by kernel_rfl
theorem zlG:(Tryz.prog.info? 48).map (fun i=>(i.zero,i.size,i.bytes))=some (some (.agg #[.string ⟨#[]⟩,.string ⟨#[]⟩,.int .i64 0]),3,40):=by kernel_rfl
theorem ziB:(Tryz.prog.info? 39).map (fun i=>(i.zero,i.size,i.bytes))=some (some (.agg #[.string ⟨#[]⟩,.slice none 0 0,.slice none 0 0,.slice none 0 0,.slice none 0 0,.slice none 0 0,.int .i64 0]),7,144):=by kernel_rfl
set_option maxHeartbeats 16000000 in
theorem zcv {w:World} {b:Nat} {X:Rs} (h:Sr w b (zad X)):Calls Tryz.prog 32 #[.pointer (some ⟨b,0,none⟩)] w fun r w'=>∃ s a2 n2 c2 a3 n3 c3 a4 n4 c4 a5 n5 c5 a6 n6 c6 p cs,r= .returned (.agg #[.string (sv s),.slice a2 n2 c2,.slice a3 n3 c3,.slice a4 n4 c4,.slice a5 n5 c5,.slice a6 n6 c6,.int .i64 p])∧cs.length=7∧zlN zc1 cs [.string (sv s),.slice a2 n2 c2,.slice a3 n3 c3,.slice a4 n4 c4,.slice a5 n5 c5,.slice a6 n6 c6,.int .i64 p] b X w w':=by
 obtain⟨ad,cap,e,p,t,r',h1,h2⟩:=h.front;obtain⟨t0,t1,t2,t3⟩:=h1.tok;have hp:=zcc (X:=zaZ X) (by rw[zaV];exact h) h1 (by rw[zaV];exact h2);have HS0:Hid (SF w b (zad (bnd (zaZ X) zct)) ((w.alloc (.cells #[.string ⟨#[]⟩,.slice none 0 0,.slice none 0 0,.slice none 0 0,.slice none 0 0,.slice none 0 0,.int .i64 0] 39)).alloc (.cells #[.string ⟨#[]⟩,.slice none 0 0,.slice none 0 0,.slice none 0 0,.slice none 0 0,.slice none 0 0,.int .i64 t.p] 39))):=hide (SF.keep ⟨.refl _ _,hp.1⟩ (zcu _ _ _));have HG0:=hide hp.2;obtain⟨X0,HX0⟩:∃ Z,Hid (bnd (zaZ X) zct=Z):=⟨_,rfl⟩;rw[uq HX0]at HS0 HG0;have hb:=h.bl;have HB:=hide hb;have n0:¬w.heap.size=b:=by omega
 have n1:¬w.heap.size+1=b:=by omega
 have c0:=h1.c0;simp only[List.length_cons]at c0;have g0:∀ o,(w.alloc o).cell? ⟨b,0,none⟩=some (.slice (some ad) (r'.length+1) cap):=fun o=>kcell ((Keep.refl w).alloc o) c0
 have q3:∀ o,(w.alloc o).cell? ⟨ad.block,ad.off+3,none⟩=some (.int .i64 t.p):=fun o=>kcell ((Keep.refl w).alloc o) t3
 clear hp h1 h2 t0 t1 t2 t3 c0 hb h;go_enter Tryz.func32,Tryz.ntmps32
 go_upto_region 2 with fail
 clear g0 q3;go_wp2_with fail
 (refine(zaE (X:=X0) (uq HS0).2).mono ?_;rintro e w1 ⟨s1,rfl,hd⟩;have HS1:=hide ((uq HS0).step hd);have HG1:=hide ((uq HG0).trans hd.2.2);obtain⟨o1,q1,k1,rfl⟩:=zaf hd.1 (uq HS0).2.bl;clear hd);obtain⟨X1,HX1⟩:∃ Z,Hid (bnd X0 zam=Z):=⟨_,rfl⟩;rw[uq HX1]at HS1 HG1;go_wp2_with fail
 (refine(zag (X:=X1) [123] rfl (SF.box2 (uq HB) (uq HS1)).2).mono ?_;rintro e w1 ⟨rfl,hd⟩;have HS2:=hide ((SF.box2 (uq HB) (uq HS1)).step hd);have HG2:=hide ((uq HG1).trans hd.2.2);obtain⟨o2,q2,k2,rfl⟩:=zaf hd.1 (SF.box2 (uq HB) (uq HS1)).2.bl;clear hd);rw[zan (uq HB)]at HS2 ⊢;generalize q1++q2=q2 at HS2 ⊢;obtain⟨X2,HX2⟩:∃ Z,Hid (bnd X1 (zah [123])=Z):=⟨_,rfl⟩;rw[uq HX2]at HS2 HG2;have HBX:=hide (zhi (uq HB) #[.string ⟨#[]⟩,.slice none 0 0,.slice none 0 0,.slice none 0 0,.slice none 0 0,.slice none 0 0,.int .i64 0].toList [.string (sv s1),.slice none 0 0,.slice none 0 0,.slice none 0 0,.slice none 0 0,.slice none 0 0,.int .i64 t.p] 39 39 o2 q2 k2);have HR2:=hide (znk (uq HB) (.cells #[.string ⟨#[]⟩,.slice none 0 0,.slice none 0 0,.slice none 0 0,.slice none 0 0,.slice none 0 0,.int .i64 0] 39) (.cells #[.string (sv s1),.slice none 0 0,.slice none 0 0,.slice none 0 0,.slice none 0 0,.slice none 0 0,.int .i64 t.p] 39) o2 q2 k2);have HB2:=hide (uq HBX).2.1;have HZ2':=hide (uq HBX).2.2;replace HB2:Hid (Bxs (chg ((w.alloc (.cells #[.string ⟨#[]⟩,.slice none 0 0,.slice none 0 0,.slice none 0 0,.slice none 0 0,.slice none 0 0,.int .i64 0] 39)).alloc (.cells #[.string (sv s1),.slice none 0 0,.slice none 0 0,.slice none 0 0,.slice none 0 0,.slice none 0 0,.int .i64 t.p] 39)) b o2 q2 k2) (w.heap.size+1) [.string (sv s1),.slice none 0 0,.slice none 0 0,.slice none 0 0,.slice none 0 0,.slice none 0 0,.int .i64 t.p]):=HB2;replace HZ2':Hid (w.heap.size+2≤(chg ((w.alloc (.cells #[.string ⟨#[]⟩,.slice none 0 0,.slice none 0 0,.slice none 0 0,.slice none 0 0,.slice none 0 0,.int .i64 0] 39)).alloc (.cells #[.string (sv s1),.slice none 0 0,.slice none 0 0,.slice none 0 0,.slice none 0 0,.slice none 0 0,.int .i64 t.p] 39)) b o2 q2 k2).heap.size):=HZ2';clear HBX;generalize chg ((w.alloc (.cells #[.string ⟨#[]⟩,.slice none 0 0,.slice none 0 0,.slice none 0 0,.slice none 0 0,.slice none 0 0,.int .i64 0] 39)).alloc (.cells #[.string (sv s1),.slice none 0 0,.slice none 0 0,.slice none 0 0,.slice none 0 0,.slice none 0 0,.int .i64 t.p] 39)) b o2 q2 k2=v1 at HS2 HR2 HB2 HZ2' ⊢;obtain⟨rb,HRb⟩:∃ rb,Hid (w.heap.size=rb):=⟨_,rfl⟩;rw[uq HRb]at HR2 HB2 HZ2' ⊢;obtain⟨gb,HGb⟩:∃ gb,Hid (rb+1=gb):=⟨_,rfl⟩;rw[uq HGb]at HB2 ⊢;have HBG:Hid (b<gb):=hide (by have:=uq HB;have:=uq HRb;have:=uq HGb;omega);have HGW:Hid (w.heap.size≤gb):=hide (by have:=uq HRb;have:=uq HGb;omega);have HBR:Hid (b<rb):=hide (by have:=uq HB;have:=uq HRb;omega);have HRG:Hid (rb<gb):=hide (by have:=uq HGb;omega);have HZ2:Hid (gb<v1.heap.size):=hide (by have:=uq HZ2';have:=uq HGb;omega);clear HZ2' n0 n1;go_wp2_with fail
 obtain⟨tgt,HT⟩:∃ tgt,Hid (tgt=rwY [104,101,97,100] 16 zcZ (zad X2) []):=⟨_,rfl⟩
 go_loopw [] (fun wr=>∃(a:Option Addr) (n cap:Nat) (L:List (List D)) (Y:Except Er (List Tok)),Hid (LS b gb 1 v1 84 11 [.string (sv s1),.slice none 0 0,.slice none 0 0,.slice none 0 0,.slice none 0 0,.slice none 0 0,.int .i64 t.p] wr L a n cap Y)∧Hid (rwY [104,101,97,100] 16 zcZ Y L=tgt)∧Hid (n≤16)) (fun wr=>rem wr b)
 case atStart=>exact⟨none,0,0,[],zad X2,hide (LS.start (uq HS2).2 (uq HB2) rfl (uq HBG) (uq HZ2)),hide (uq HT).symm,hide (by omega)⟩
 case round=>
  obtain⟨a2,n2,cap2,L2,Y,HL,HE,HM⟩:=hrel;have cg:=(uq HL).cell.1;go_wp2_with fail
  (refine(zaM (Y:=Y) [104,101,97,100] rfl n2 16 (uq HL).sr).mono ?_;rintro e v2 ⟨rfl,hf,hs⟩;have HL3:=hide ((uq HL).move hf hs);clear hf hs);clear cg;obtain⟨bq,Y3,hbg⟩:∃ bq Y3,bgn [104,101,97,100] n2 16 Y=(bq,Y3):=⟨_,_,rfl⟩;rw[hbg]at HL3 ⊢;cases bq with
  |true=>
   obtain⟨t,r,hY,hY3,ht,hne⟩:=zbq hbg;have HYY:=hide hY;have HTS:=hide ht;have HNE:=hide hne;subst hY3;clear hbg hY ht hne;obtain⟨i0,hi,hz0,hz1,hz2⟩:=zay ziA;have HI0:=hide hi;have HZ0:=hide hz0;have HZ1:=hide hz1;have HZ2:=hide hz2;clear hi hz0 hz1 hz2;have hn2:=uq HM;have HLd:=hide ((uq HL3).move (Fr.keep (Keep.refl v2).drew) ((uq HL3).sr.keep (Keep.refl v2).drew));go_wp2_with fail
   refine wp_region_held_drew (S:=fun _=>True) (by kernel_rfl) (by trivial) (fun hHeld=>?_);refine tkk 0 24 hHeld ?_;try simp only[Act.put,Ya,Yb,Yc]
   refine tkk 2 26 hHeld ?_;try simp only[Act.put,Ya,Yb,Yc]
   generalize v2.drew=w4 at HLd ⊢;have cg:=(uq HLd).cell.1;refine wpAnyH_ready (rs:= [1,3]) (by kernel_rfl) (by simp) ?_;refine AllReadyH.cons rfl (fun K hK=>?_) (AllReadyH.cons rfl (fun K hK=>?_) AllReadyH.nil)
   ·skip
    go_simp;clear hHeld;refine hK.out _ _ ?_ (fun hHeld=>?_)
    ·trivial
    clear hK K;try simp only[Act.put,Ya,Yb,Yc]
    clear cg;refine zal 3 (fun K hK=>?_);go_simp;clear hHeld;(refine(ze8 (X:= .ok (([]:List D),r)) (uq HLd).sr).mono ?_;rintro e w5 ⟨s,m1,m2,m3,m4,m5,m6,m7,m8,m9,m10,rfl,hbd⟩;have HBD:=hide hbd;clear hbd);try go_wp2_with fail
    refine hK.out _ _ ?_ (fun hHeld=>?_)
    ·trivial
    clear hK K;try simp only[Act.put,Ya,Yb,Yc]
    refine zal 4 (fun K hK=>?_);go_simp;clear hHeld;refine hK.out _ _ ?_ (fun hHeld=>?_)
    ·trivial
    clear hK K;try simp only[Act.put,Ya,Yb,Yc]
    obtain⟨xs,hown⟩:=(uq HLd).own (uq HBD).1;have HOWN:=hide hown;clear hown;refine wpAnyH_ready (rs:= [5]) (by kernel_rfl) (by simp) ?_;refine AllReadyH.cons rfl (fun K hK=>?_) AllReadyH.nil;refine zap _ _ _ rfl 0 84 i0 _ 11 96 Tryz.underlying33 (uq HI0) (uq HZ0) (uq HZ1) (uq HZ2) rfl (by decide) _ _ xs rfl ((uq HOWN).alloc _) ⟨w5.heap.size,0,none⟩ 1 1 [.string (sv s),.int .i64 m1,.int .i64 m2,.int .i64 m3,.int .i64 m4,.int .i64 m5,.int .i64 m6,.int .i64 m7,.int .i64 m8,.int .i64 m9,.int .i64 m10] rfl rfl (zai w5 [.string (sv s),.int .i64 m1,.int .i64 m2,.int .i64 m3,.int .i64 m4,.int .i64 m5,.int .i64 m6,.int .i64 m7,.int .i64 m8,.int .i64 m9,.int .i64 m10] 84) (by simp[Value.oneCell']) (by unfold maxLen;omega) (by omega) (Nat.zero_le _) ?_;intro v' w7 hown' hgrow hat
    obtain⟨g',cp',rfl⟩:=zak hown';have A:=(uq HLd).app (uq HBD).1 (uq HBD).2.1 (uq HBD).2.2.1 rfl ((Keep.refl _).alloc _) (uq HOWN) hown' hgrow hat;have HLS:=hide A.1;have c8:=A.2.1;have f8:=A.2.2;clear hown' hgrow hat A hHeld;refine hK.out _ _ trivial (fun hHeld=>?_);clear hK K;try simp only[Act.put,List.setIfInBounds_toArray,List.set_cons_zero,List.set_cons_succ]
    refine tkk 6 30 hHeld ?_;try simp only[Act.put,Ya,Yb,Yc]
    refine zal 7 (fun K hK=>?_);go_simp;clear hHeld;refine hK.out _ _ ?_ (fun hHeld=>?_)
    ·trivial
    clear hK K;try simp only[Act.put,Ya,Yb,Yc]
    refine wpAnyH_done (by kernel_rfl) ?_ _;clear hHeld;go_wp2_with fail
    go_roundw
    case rel=>
     refine⟨_,n2+1,cp',_,_,HLS,hide ?_,hide (by have:=uq HNE;omega)⟩;rw[← uq HE,uq HYY,zaD za9 (uq HTS) (by rw[(uq HL).hn];exact uq HNE) (cs:= [dS s,dI m1,dI m2,dI m3,dI m4,dI m5,dI m6,dI m7,dI m8,dI m9,dI m10]) (fun c r' e=>(uq HBD).2.2.2 c r' e)];rfl
    case measure=>exact zau (word:= [104,101,97,100]) (n:=n2) (most:=16) (body:=zcZ) za9 (uq HYY) (uq HL).sr (by exact(uq HLS).sr)
   ·skip
    clear cg;go_simp;clear hHeld;(refine(ze8 (X:= .ok (([]:List D),r)) (uq HLd).sr).mono ?_;rintro e w5 ⟨s,m1,m2,m3,m4,m5,m6,m7,m8,m9,m10,rfl,hbd⟩;have HBD:=hide hbd;clear hbd);try go_wp2_with fail
    refine hK.out _ _ ?_ (fun hHeld=>?_)
    ·trivial
    clear hK K;try simp only[Act.put,Ya,Yb,Yc]
    have cg5:=((uq HLd).move (uq HBD).1 (uq HBD).2.1).cell.1;have cg5a:∀ o,(w5.alloc o).cell? ⟨gb,1,none⟩=some (.slice a2 n2 cap2):=fun o=>kcell ((Keep.refl w5).alloc o) cg5
    refine wpAnyH_ready (rs:= [1,4]) (by kernel_rfl) (by simp) ?_;refine AllReadyH.cons rfl (fun K hK=>?_) (AllReadyH.cons rfl (fun K hK=>?_) AllReadyH.nil)
    ·skip
     go_simp;clear hHeld;refine hK.out _ _ ?_ (fun hHeld=>?_)
     ·trivial
     clear hK K;try simp only[Act.put,Ya,Yb,Yc]
     clear cg5 cg5a;refine zal 4 (fun K hK=>?_);go_simp;clear hHeld;refine hK.out _ _ ?_ (fun hHeld=>?_)
     ·trivial
     clear hK K;try simp only[Act.put,Ya,Yb,Yc]
     obtain⟨xs,hown⟩:=(uq HLd).own (uq HBD).1;have HOWN:=hide hown;clear hown;refine wpAnyH_ready (rs:= [5]) (by kernel_rfl) (by simp) ?_;refine AllReadyH.cons rfl (fun K hK=>?_) AllReadyH.nil;refine zap _ _ _ rfl 0 84 i0 _ 11 96 Tryz.underlying33 (uq HI0) (uq HZ0) (uq HZ1) (uq HZ2) rfl (by decide) _ _ xs rfl ((uq HOWN).alloc _) ⟨w5.heap.size,0,none⟩ 1 1 [.string (sv s),.int .i64 m1,.int .i64 m2,.int .i64 m3,.int .i64 m4,.int .i64 m5,.int .i64 m6,.int .i64 m7,.int .i64 m8,.int .i64 m9,.int .i64 m10] rfl rfl (zai w5 [.string (sv s),.int .i64 m1,.int .i64 m2,.int .i64 m3,.int .i64 m4,.int .i64 m5,.int .i64 m6,.int .i64 m7,.int .i64 m8,.int .i64 m9,.int .i64 m10] 84) (by simp[Value.oneCell']) (by unfold maxLen;omega) (by omega) (Nat.zero_le _) ?_;intro v' w7 hown' hgrow hat
     obtain⟨g',cp',rfl⟩:=zak hown';have A:=(uq HLd).app (uq HBD).1 (uq HBD).2.1 (uq HBD).2.2.1 rfl ((Keep.refl _).alloc _) (uq HOWN) hown' hgrow hat;have HLS:=hide A.1;have c8:=A.2.1;have f8:=A.2.2;clear hown' hgrow hat A hHeld;refine hK.out _ _ trivial (fun hHeld=>?_);clear hK K;try simp only[Act.put,List.setIfInBounds_toArray,List.set_cons_zero,List.set_cons_succ]
     refine tkk 6 30 hHeld ?_;try simp only[Act.put,Ya,Yb,Yc]
     refine zal 7 (fun K hK=>?_);go_simp;clear hHeld;refine hK.out _ _ ?_ (fun hHeld=>?_)
     ·trivial
     clear hK K;try simp only[Act.put,Ya,Yb,Yc]
     refine wpAnyH_done (by kernel_rfl) ?_ _;clear hHeld;go_wp2_with fail
     go_roundw
     case rel=>
      refine⟨_,n2+1,cp',_,_,HLS,hide ?_,hide (by have:=uq HNE;omega)⟩;rw[← uq HE,uq HYY,zaD za9 (uq HTS) (by rw[(uq HL).hn];exact uq HNE) (cs:= [dS s,dI m1,dI m2,dI m3,dI m4,dI m5,dI m6,dI m7,dI m8,dI m9,dI m10]) (fun c r' e=>(uq HBD).2.2.2 c r' e)];rfl
     case measure=>exact zau (word:= [104,101,97,100]) (n:=n2) (most:=16) (body:=zcZ) za9 (uq HYY) (uq HL).sr (by exact(uq HLS).sr)
    ·skip
     go_simp;clear hHeld;refine hK.out _ _ ?_ (fun hHeld=>?_)
     ·trivial
     clear hK K;try simp only[Act.put,Ya,Yb,Yc]
     clear cg5;refine zal 1 (fun K hK=>?_);go_simp;clear hHeld;refine hK.out _ _ ?_ (fun hHeld=>?_)
     ·trivial
     clear hK K;try simp only[Act.put,Ya,Yb,Yc]
     clear cg5a;obtain⟨xs,hown⟩:=(uq HLd).own (uq HBD).1;have HOWN:=hide hown;clear hown;refine wpAnyH_ready (rs:= [5]) (by kernel_rfl) (by simp) ?_;refine AllReadyH.cons rfl (fun K hK=>?_) AllReadyH.nil;refine zap _ _ _ rfl 0 84 i0 _ 11 96 Tryz.underlying33 (uq HI0) (uq HZ0) (uq HZ1) (uq HZ2) rfl (by decide) _ _ xs rfl ((uq HOWN).alloc _) ⟨w5.heap.size,0,none⟩ 1 1 [.string (sv s),.int .i64 m1,.int .i64 m2,.int .i64 m3,.int .i64 m4,.int .i64 m5,.int .i64 m6,.int .i64 m7,.int .i64 m8,.int .i64 m9,.int .i64 m10] rfl rfl (zai w5 [.string (sv s),.int .i64 m1,.int .i64 m2,.int .i64 m3,.int .i64 m4,.int .i64 m5,.int .i64 m6,.int .i64 m7,.int .i64 m8,.int .i64 m9,.int .i64 m10] 84) (by simp[Value.oneCell']) (by unfold maxLen;omega) (by omega) (Nat.zero_le _) ?_;intro v' w7 hown' hgrow hat
     obtain⟨g',cp',rfl⟩:=zak hown';have A:=(uq HLd).app (uq HBD).1 (uq HBD).2.1 (uq HBD).2.2.1 rfl ((Keep.refl _).alloc _) (uq HOWN) hown' hgrow hat;have HLS:=hide A.1;have c8:=A.2.1;have f8:=A.2.2;clear hown' hgrow hat A hHeld;refine hK.out _ _ trivial (fun hHeld=>?_);clear hK K;try simp only[Act.put,List.setIfInBounds_toArray,List.set_cons_zero,List.set_cons_succ]
     refine tkk 6 30 hHeld ?_;try simp only[Act.put,Ya,Yb,Yc]
     refine zal 7 (fun K hK=>?_);go_simp;clear hHeld;refine hK.out _ _ ?_ (fun hHeld=>?_)
     ·trivial
     clear hK K;try simp only[Act.put,Ya,Yb,Yc]
     refine wpAnyH_done (by kernel_rfl) ?_ _;clear hHeld;go_wp2_with fail
     go_roundw
     case rel=>
      refine⟨_,n2+1,cp',_,_,HLS,hide ?_,hide (by have:=uq HNE;omega)⟩;rw[← uq HE,uq HYY,zaD za9 (uq HTS) (by rw[(uq HL).hn];exact uq HNE) (cs:= [dS s,dI m1,dI m2,dI m3,dI m4,dI m5,dI m6,dI m7,dI m8,dI m9,dI m10]) (fun c r' e=>(uq HBD).2.2.2 c r' e)];rfl
     case measure=>exact zau (word:= [104,101,97,100]) (n:=n2) (most:=16) (body:=zcZ) za9 (uq HYY) (uq HL).sr (by exact(uq HLS).sr)
  |false=>
   have HY:=hide (zbX (body:=zcZ) (L:=L2) za9 (uq HL).sr.ne (by rw[(uq HL).hn];exact hbg));have HQ:=hide (zbL (e:=84) (z:=11) (X:=X2) (by rw[← uq HT,← uq HE];exact uq HY));clear hbg;obtain⟨X3,HX3⟩:∃ Z,Hid (bnd X2 (zbT [104,101,97,100] 16 84 11 zcZ)=Z):=⟨_,rfl⟩;rw[uq HX3]at HQ;have HG3:=hide ((uq HG2).trans (uq HQ).2);have HS3:Hid (SF w b (zad X3) v2):=hide (by rw[(uq HQ).1];exact SF.loop (uq HS2) (uq HGW) (uq HL3));have HB3:Hid (Bxs v2 gb [.string (sv s1),.slice a2 n2 cap2,.slice none 0 0,.slice none 0 0,.slice none 0 0,.slice none 0 0,.int .i64 t.p]):=hide (uq HL3).bx;have HZ3:Hid (gb<v2.heap.size):=hide (uq HL3).gw;have HR3:=hide (((uq HL3).low (uq HBR) (uq HRG)).trans (uq HR2));have HW2_3:=hide (uq HL3).row;clear HL HE HM HT HY HQ;clear HL3;go_wp2_with fail
   obtain⟨tgt,HT⟩:∃ tgt,Hid (tgt=rwY [119,97,108,107] 8 zc0 (zad X3) []):=⟨_,rfl⟩
   go_loopw [] (fun wr=>∃(a:Option Addr) (n cap:Nat) (L:List (List D)) (Y:Except Er (List Tok)),Hid (LS b gb 2 v2 86 6 [.string (sv s1),.slice a2 n2 cap2,.slice none 0 0,.slice none 0 0,.slice none 0 0,.slice none 0 0,.int .i64 t.p] wr L a n cap Y)∧Hid (rwY [119,97,108,107] 8 zc0 Y L=tgt)∧Hid (n≤8)) (fun wr=>rem wr b)
   case atStart=>exact⟨none,0,0,[],zad X3,hide (LS.start (uq HS3).2 (uq HB3) rfl (uq HBG) (uq HZ3)),hide (uq HT).symm,hide (by omega)⟩
   case round=>
    obtain⟨a3,n3,cap3,L3,Y,HL,HE,HM⟩:=hrel;have cg:=(uq HL).cell.1;go_wp2_with fail
    (refine(zaM (Y:=Y) [119,97,108,107] rfl n3 8 (uq HL).sr).mono ?_;rintro e v3 ⟨rfl,hf,hs⟩;have HL3:=hide ((uq HL).move hf hs);clear hf hs);clear cg;obtain⟨bq,Y3,hbg⟩:∃ bq Y3,bgn [119,97,108,107] n3 8 Y=(bq,Y3):=⟨_,_,rfl⟩;rw[hbg]at HL3 ⊢;cases bq with
    |true=>
     obtain⟨t,r,hY,hY3,ht,hne⟩:=zbq hbg;have HYY:=hide hY;have HTS:=hide ht;have HNE:=hide hne;subst hY3;clear hbg hY ht hne;obtain⟨i0,hi,hz0,hz1,hz2⟩:=zay zlF;have HI0:=hide hi;have HZ0:=hide hz0;have HZ1:=hide hz1;have HZ2:=hide hz2;clear hi hz0 hz1 hz2;have hn2:=uq HM;have HLd:=hide ((uq HL3).move (Fr.keep (Keep.refl v3).drew) ((uq HL3).sr.keep (Keep.refl v3).drew));go_wp2_with fail
     refine wp_region_held_drew (S:=fun _=>True) (by kernel_rfl) (by trivial) (fun hHeld=>?_);refine tkk 0 36 hHeld ?_;try simp only[Act.put,Ya,Yb,Yc]
     refine tkk 2 38 hHeld ?_;try simp only[Act.put,Ya,Yb,Yc]
     generalize v3.drew=w4 at HLd ⊢;have cg:=(uq HLd).cell.1;refine wpAnyH_ready (rs:= [1,3]) (by kernel_rfl) (by simp) ?_;refine AllReadyH.cons rfl (fun K hK=>?_) (AllReadyH.cons rfl (fun K hK=>?_) AllReadyH.nil)
     ·skip
      go_simp;clear hHeld;refine hK.out _ _ ?_ (fun hHeld=>?_)
      ·trivial
      clear hK K;try simp only[Act.put,Ya,Yb,Yc]
      clear cg;refine zal 3 (fun K hK=>?_);go_simp;clear hHeld;(refine(ze7 (X:= .ok (([]:List D),r)) (uq HLd).sr).mono ?_;rintro e w5 ⟨s,s',m1,m2,m3,m4,rfl,hbd⟩;have HBD:=hide hbd;clear hbd);try go_wp2_with fail
      refine hK.out _ _ ?_ (fun hHeld=>?_)
      ·trivial
      clear hK K;try simp only[Act.put,Ya,Yb,Yc]
      refine zal 4 (fun K hK=>?_);go_simp;clear hHeld;refine hK.out _ _ ?_ (fun hHeld=>?_)
      ·trivial
      clear hK K;try simp only[Act.put,Ya,Yb,Yc]
      obtain⟨xs,hown⟩:=(uq HLd).own (uq HBD).1;have HOWN:=hide hown;clear hown;refine wpAnyH_ready (rs:= [5]) (by kernel_rfl) (by simp) ?_;refine AllReadyH.cons rfl (fun K hK=>?_) AllReadyH.nil;refine zap _ _ _ rfl 0 86 i0 _ 6 64 Tryz.underlying34 (uq HI0) (uq HZ0) (uq HZ1) (uq HZ2) rfl (by decide) _ _ xs rfl ((uq HOWN).alloc _) ⟨w5.heap.size,0,none⟩ 1 1 [.string (sv s),.string (sv s'),.int .i64 m1,.int .i64 m2,.int .i64 m3,.int .i64 m4] rfl rfl (zai w5 [.string (sv s),.string (sv s'),.int .i64 m1,.int .i64 m2,.int .i64 m3,.int .i64 m4] 86) (by simp[Value.oneCell']) (by unfold maxLen;omega) (by omega) (Nat.zero_le _) ?_;intro v' w7 hown' hgrow hat
      obtain⟨g',cp',rfl⟩:=zak hown';have A:=(uq HLd).app (uq HBD).1 (uq HBD).2.1 (uq HBD).2.2.1 rfl ((Keep.refl _).alloc _) (uq HOWN) hown' hgrow hat;have HLS:=hide A.1;have c8:=A.2.1;have f8:=A.2.2;clear hown' hgrow hat A hHeld;refine hK.out _ _ trivial (fun hHeld=>?_);clear hK K;try simp only[Act.put,List.setIfInBounds_toArray,List.set_cons_zero,List.set_cons_succ]
      refine tkk 6 42 hHeld ?_;try simp only[Act.put,Ya,Yb,Yc]
      refine zal 7 (fun K hK=>?_);go_simp;clear hHeld;refine hK.out _ _ ?_ (fun hHeld=>?_)
      ·trivial
      clear hK K;try simp only[Act.put,Ya,Yb,Yc]
      refine wpAnyH_done (by kernel_rfl) ?_ _;clear hHeld;go_wp2_with fail
      go_roundw
      case rel=>
       refine⟨_,n3+1,cp',_,_,HLS,hide ?_,hide (by have:=uq HNE;omega)⟩;rw[← uq HE,uq HYY,zaD za8 (uq HTS) (by rw[(uq HL).hn];exact uq HNE) (cs:= [dS s,dS s',dI m1,dI m2,dI m3,dI m4]) (fun c r' e=>(uq HBD).2.2.2 c r' e)];rfl
      case measure=>exact zau (word:= [119,97,108,107]) (n:=n3) (most:=8) (body:=zc0) za8 (uq HYY) (uq HL).sr (by exact(uq HLS).sr)
     ·skip
      clear cg;go_simp;clear hHeld;(refine(ze7 (X:= .ok (([]:List D),r)) (uq HLd).sr).mono ?_;rintro e w5 ⟨s,s',m1,m2,m3,m4,rfl,hbd⟩;have HBD:=hide hbd;clear hbd);try go_wp2_with fail
      refine hK.out _ _ ?_ (fun hHeld=>?_)
      ·trivial
      clear hK K;try simp only[Act.put,Ya,Yb,Yc]
      have cg5:=((uq HLd).move (uq HBD).1 (uq HBD).2.1).cell.1;have cg5a:∀ o,(w5.alloc o).cell? ⟨gb,2,none⟩=some (.slice a3 n3 cap3):=fun o=>kcell ((Keep.refl w5).alloc o) cg5
      refine wpAnyH_ready (rs:= [1,4]) (by kernel_rfl) (by simp) ?_;refine AllReadyH.cons rfl (fun K hK=>?_) (AllReadyH.cons rfl (fun K hK=>?_) AllReadyH.nil)
      ·skip
       go_simp;clear hHeld;refine hK.out _ _ ?_ (fun hHeld=>?_)
       ·trivial
       clear hK K;try simp only[Act.put,Ya,Yb,Yc]
       clear cg5 cg5a;refine zal 4 (fun K hK=>?_);go_simp;clear hHeld;refine hK.out _ _ ?_ (fun hHeld=>?_)
       ·trivial
       clear hK K;try simp only[Act.put,Ya,Yb,Yc]
       obtain⟨xs,hown⟩:=(uq HLd).own (uq HBD).1;have HOWN:=hide hown;clear hown;refine wpAnyH_ready (rs:= [5]) (by kernel_rfl) (by simp) ?_;refine AllReadyH.cons rfl (fun K hK=>?_) AllReadyH.nil;refine zap _ _ _ rfl 0 86 i0 _ 6 64 Tryz.underlying34 (uq HI0) (uq HZ0) (uq HZ1) (uq HZ2) rfl (by decide) _ _ xs rfl ((uq HOWN).alloc _) ⟨w5.heap.size,0,none⟩ 1 1 [.string (sv s),.string (sv s'),.int .i64 m1,.int .i64 m2,.int .i64 m3,.int .i64 m4] rfl rfl (zai w5 [.string (sv s),.string (sv s'),.int .i64 m1,.int .i64 m2,.int .i64 m3,.int .i64 m4] 86) (by simp[Value.oneCell']) (by unfold maxLen;omega) (by omega) (Nat.zero_le _) ?_;intro v' w7 hown' hgrow hat
       obtain⟨g',cp',rfl⟩:=zak hown';have A:=(uq HLd).app (uq HBD).1 (uq HBD).2.1 (uq HBD).2.2.1 rfl ((Keep.refl _).alloc _) (uq HOWN) hown' hgrow hat;have HLS:=hide A.1;have c8:=A.2.1;have f8:=A.2.2;clear hown' hgrow hat A hHeld;refine hK.out _ _ trivial (fun hHeld=>?_);clear hK K;try simp only[Act.put,List.setIfInBounds_toArray,List.set_cons_zero,List.set_cons_succ]
       refine tkk 6 42 hHeld ?_;try simp only[Act.put,Ya,Yb,Yc]
       refine zal 7 (fun K hK=>?_);go_simp;clear hHeld;refine hK.out _ _ ?_ (fun hHeld=>?_)
       ·trivial
       clear hK K;try simp only[Act.put,Ya,Yb,Yc]
       refine wpAnyH_done (by kernel_rfl) ?_ _;clear hHeld;go_wp2_with fail
       go_roundw
       case rel=>
        refine⟨_,n3+1,cp',_,_,HLS,hide ?_,hide (by have:=uq HNE;omega)⟩;rw[← uq HE,uq HYY,zaD za8 (uq HTS) (by rw[(uq HL).hn];exact uq HNE) (cs:= [dS s,dS s',dI m1,dI m2,dI m3,dI m4]) (fun c r' e=>(uq HBD).2.2.2 c r' e)];rfl
       case measure=>exact zau (word:= [119,97,108,107]) (n:=n3) (most:=8) (body:=zc0) za8 (uq HYY) (uq HL).sr (by exact(uq HLS).sr)
      ·skip
       go_simp;clear hHeld;refine hK.out _ _ ?_ (fun hHeld=>?_)
       ·trivial
       clear hK K;try simp only[Act.put,Ya,Yb,Yc]
       clear cg5;refine zal 1 (fun K hK=>?_);go_simp;clear hHeld;refine hK.out _ _ ?_ (fun hHeld=>?_)
       ·trivial
       clear hK K;try simp only[Act.put,Ya,Yb,Yc]
       clear cg5a;obtain⟨xs,hown⟩:=(uq HLd).own (uq HBD).1;have HOWN:=hide hown;clear hown;refine wpAnyH_ready (rs:= [5]) (by kernel_rfl) (by simp) ?_;refine AllReadyH.cons rfl (fun K hK=>?_) AllReadyH.nil;refine zap _ _ _ rfl 0 86 i0 _ 6 64 Tryz.underlying34 (uq HI0) (uq HZ0) (uq HZ1) (uq HZ2) rfl (by decide) _ _ xs rfl ((uq HOWN).alloc _) ⟨w5.heap.size,0,none⟩ 1 1 [.string (sv s),.string (sv s'),.int .i64 m1,.int .i64 m2,.int .i64 m3,.int .i64 m4] rfl rfl (zai w5 [.string (sv s),.string (sv s'),.int .i64 m1,.int .i64 m2,.int .i64 m3,.int .i64 m4] 86) (by simp[Value.oneCell']) (by unfold maxLen;omega) (by omega) (Nat.zero_le _) ?_;intro v' w7 hown' hgrow hat
       obtain⟨g',cp',rfl⟩:=zak hown';have A:=(uq HLd).app (uq HBD).1 (uq HBD).2.1 (uq HBD).2.2.1 rfl ((Keep.refl _).alloc _) (uq HOWN) hown' hgrow hat;have HLS:=hide A.1;have c8:=A.2.1;have f8:=A.2.2;clear hown' hgrow hat A hHeld;refine hK.out _ _ trivial (fun hHeld=>?_);clear hK K;try simp only[Act.put,List.setIfInBounds_toArray,List.set_cons_zero,List.set_cons_succ]
       refine tkk 6 42 hHeld ?_;try simp only[Act.put,Ya,Yb,Yc]
       refine zal 7 (fun K hK=>?_);go_simp;clear hHeld;refine hK.out _ _ ?_ (fun hHeld=>?_)
       ·trivial
       clear hK K;try simp only[Act.put,Ya,Yb,Yc]
       refine wpAnyH_done (by kernel_rfl) ?_ _;clear hHeld;go_wp2_with fail
       go_roundw
       case rel=>
        refine⟨_,n3+1,cp',_,_,HLS,hide ?_,hide (by have:=uq HNE;omega)⟩;rw[← uq HE,uq HYY,zaD za8 (uq HTS) (by rw[(uq HL).hn];exact uq HNE) (cs:= [dS s,dS s',dI m1,dI m2,dI m3,dI m4]) (fun c r' e=>(uq HBD).2.2.2 c r' e)];rfl
       case measure=>exact zau (word:= [119,97,108,107]) (n:=n3) (most:=8) (body:=zc0) za8 (uq HYY) (uq HL).sr (by exact(uq HLS).sr)
    |false=>
     have HY:=hide (zbX (body:=zc0) (L:=L3) za8 (uq HL).sr.ne (by rw[(uq HL).hn];exact hbg));have HQ:=hide (zbL (e:=86) (z:=6) (X:=X3) (by rw[← uq HT,← uq HE];exact uq HY));clear hbg;obtain⟨X4,HX4⟩:∃ Z,Hid (bnd X3 (zbT [119,97,108,107] 8 86 6 zc0)=Z):=⟨_,rfl⟩;rw[uq HX4]at HQ;have HG4:=hide ((uq HG3).trans (uq HQ).2);have HS4:Hid (SF w b (zad X4) v3):=hide (by rw[(uq HQ).1];exact SF.loop (uq HS3) (uq HGW) (uq HL3));have HB4:Hid (Bxs v3 gb [.string (sv s1),.slice a2 n2 cap2,.slice a3 n3 cap3,.slice none 0 0,.slice none 0 0,.slice none 0 0,.int .i64 t.p]):=hide (uq HL3).bx;have HZ4:Hid (gb<v3.heap.size):=hide (uq HL3).gw;have HR4:=hide (((uq HL3).low (uq HBR) (uq HRG)).trans (uq HR3));have HW3_4:=hide (uq HL3).row;have HW2_4:=hide ((uq HL3).rows (uq HW2_3));clear HL HE HM HT HY HQ;clear HL3;go_wp2_with fail
     obtain⟨tgt,HT⟩:∃ tgt,Hid (tgt=rwY [112,104,97,115,101] 16 zbV (zad X4) []):=⟨_,rfl⟩
     go_loopw [] (fun wr=>∃(a:Option Addr) (n cap:Nat) (L:List (List D)) (Y:Except Er (List Tok)),Hid (LS b gb 3 v3 45 3 [.string (sv s1),.slice a2 n2 cap2,.slice a3 n3 cap3,.slice none 0 0,.slice none 0 0,.slice none 0 0,.int .i64 t.p] wr L a n cap Y)∧Hid (rwY [112,104,97,115,101] 16 zbV Y L=tgt)∧Hid (n≤16)) (fun wr=>rem wr b)
     case atStart=>exact⟨none,0,0,[],zad X4,hide (LS.start (uq HS4).2 (uq HB4) rfl (uq HBG) (uq HZ4)),hide (uq HT).symm,hide (by omega)⟩
     case round=>
      obtain⟨a4,n4,cap4,L4,Y,HL,HE,HM⟩:=hrel;have cg:=(uq HL).cell.1;go_wp2_with fail
      (refine(zaM (Y:=Y) [112,104,97,115,101] rfl n4 16 (uq HL).sr).mono ?_;rintro e v4 ⟨rfl,hf,hs⟩;have HL3:=hide ((uq HL).move hf hs);clear hf hs);clear cg;obtain⟨bq,Y3,hbg⟩:∃ bq Y3,bgn [112,104,97,115,101] n4 16 Y=(bq,Y3):=⟨_,_,rfl⟩;rw[hbg]at HL3 ⊢;cases bq with
      |true=>
       obtain⟨t,r,hY,hY3,ht,hne⟩:=zbq hbg;have HYY:=hide hY;have HTS:=hide ht;have HNE:=hide hne;subst hY3;clear hbg hY ht hne;obtain⟨i0,hi,hz0,hz1,hz2⟩:=zay zhF;have HI0:=hide hi;have HZ0:=hide hz0;have HZ1:=hide hz1;have HZ2:=hide hz2;clear hi hz0 hz1 hz2;have hn2:=uq HM;have hb3:b<v4.heap.size:=(uq HL3).sr.bl;have HB3:=hide hb3;have n3:¬v4.heap.size=b:=by omega
       have hgw:=(uq HL3).gw;have ng:¬gb=b:=by have:=uq HBG;omega
       have CG:=hide (uq HL3).cell.1;have HSR:=hide (uq HL3).sr;have hsr:=uq HSR;obtain⟨ad,cq,e9,p9,t9,r9,h1,h2⟩:=hsr.front;obtain⟨t0,t1,t2,t3⟩:=h1.tok;have hp:=zcc (X:= .ok (([]:List D),r)) hsr h1 h2;obtain⟨X0,HX0⟩:∃ Z,Hid (bnd (.ok (([]:List D),r)) zct=Z):=⟨_,rfl⟩;rw[uq HX0]at hp;have HS0:Hid (SF v4 b (zad X0) (v4.alloc (.cells #[.string ⟨#[]⟩,.slice none 0 0,.int .i64 t9.p] 45))):=hide (SF.keep ⟨.refl _ _,hp.1⟩ ((Keep.refl _).alloc _));have HG0:=hide hp.2;have c0:=h1.c0;simp only[List.length_cons]at c0;clear hp h1 h2 t0 t1 t2 hsr
       go_upto_region 10 with fail
       clear c0 t3;go_wp2_with fail
       (refine(zaE (X:=X0) (uq HS0).2).mono ?_;rintro e w1 ⟨s1,rfl,hd⟩;have HS1:=hide ((uq HS0).step hd);have HG1:=hide ((uq HG0).trans hd.2.2);obtain⟨o1,q1,k1,rfl⟩:=zaf hd.1 (uq HS0).2.bl;clear hd);obtain⟨X1,HX1⟩:∃ Z,Hid (bnd X0 zam=Z):=⟨_,rfl⟩;rw[uq HX1]at HS1 HG1;go_wp2_with fail
       (refine(zag (X:=X1) [58] rfl (SF.box1 (uq HB3) (uq HS1)).2).mono ?_;rintro e w1 ⟨rfl,hd⟩;have HS2:=hide ((SF.box1 (uq HB3) (uq HS1)).step hd);have HG2:=hide ((uq HG1).trans hd.2.2);obtain⟨o2,q2,k2,rfl⟩:=zaf hd.1 (SF.box1 (uq HB3) (uq HS1)).2.bl;clear hd);rw[zaw (uq HB3)]at HS2 ⊢;generalize q1++q2=q2 at HS2 ⊢;obtain⟨X2,HX2⟩:∃ Z,Hid (bnd X1 (zah [58])=Z):=⟨_,rfl⟩;rw[uq HX2]at HS2 HG2;go_wp2_with fail
       (refine(zby (X:=X2) 16 (by decide) (by decide) (SF.box1 (uq HB3) (uq HS2)).2).mono ?_;rintro e w5 ⟨a5,n5,c5,L5,rfl,hd,hrd⟩;have HS3:=hide ((SF.box1 (uq HB3) (uq HS2)).step hd);have HG3:=hide ((uq HG2).trans hd.2.2);have HRD:=hide hrd;obtain⟨o3,q3,k3,rfl⟩:=zaf hd.1 (SF.box1 (uq HB3) (uq HS2)).2.bl;clear hd hrd);rw[zaw (uq HB3)]at HS3 HRD ⊢;generalize q2++q3=q3 at HS3 HRD ⊢;obtain⟨X3,HX3⟩:∃ Z,Hid (bnd X2 (sq [zaj 9 16,zah [59]])=Z):=⟨_,rfl⟩;rw[uq HX3]at HS3 HG3;have HOW:=hide ((uq HL3).own (SF.box1 (o1':= .cells #[.string (sv s1),.slice a5 n5 c5,.int .i64 t9.p] 45) (uq HB3) (uq HS3)).1);obtain⟨xs,hown⟩:=uq HOW;have HOWN:=hide hown;clear hown;have HRD6:Hid (Rds (chg (v4.alloc (.cells #[.string (sv s1),.slice a5 n5 c5,.int .i64 t9.p] 45)) b o3 q3 k3) [dS s1,.row 9 1 L5,dI t9.p] (fun i=>v4.heap.size≤i) [.string (sv s1),.slice a5 n5 c5,.int .i64 t9.p]):=hide (zbj _ (zbk (Rd.move _ _ _ _ (uq HRD) (fun i hi _=>by have h9:v4.heap.size+1≤i:=(by have:=hi;simp only[zaA,World.size_alloc]at this;omega);exact⟨zdZ (uq HB3) (by omega),by omega⟩)) (zao _ (zat _ _))));have cg:=uq CG;go_wp2_with (at_builtin;refine wpList_append_own_at _ rfl _ _ 35 rfl 0 45 i0 _ 3 48 Tryz.underlying35 (uq HI0) (uq HZ0) (uq HZ1) (uq HZ2) rfl (by decide) _ _ xs rfl ((uq HOWN).alloc _) ⟨v4.heap.size+1+q3.size,0,none⟩ 1 1 [.string (sv s1),.slice a5 n5 c5,.int .i64 t9.p] rfl rfl (by have hnc:=zai (chg (v4.alloc (.cells #[.string (sv s1),.slice a5 n5 c5,.int .i64 t9.p] 45)) b o3 q3 k3) [.string (sv s1),.slice a5 n5 c5,.int .i64 t9.p] 45;rw[zaA,World.size_alloc]at hnc;exact hnc) (by simp[Value.oneCell']) (by unfold maxLen;omega) (by omega) (Nat.zero_le _) ?_;intro v' w8 hown' hgrow hnil hat;obtain⟨g',cp',rfl⟩:=zak hown';have A:=(uq HL3).app (SF.box1 (uq HB3) (uq HS3)).1 (SF.box1 (uq HB3) (uq HS3)).2 (uq HRD6) rfl ((Keep.refl _).alloc _) (uq HOWN) hown' hgrow hat;have HLS:=hide A.1;have c8:=A.2.1;have f8:=A.2.2;clear hown' hgrow hnil hat A)
       have HB9:Hid (zbV r=zbU (fun _=>X3) []):=hide (by
        have a0:=uq HX0;have a1:=uq HX1;have a2:=uq HX2;have a3:=uq HX3;have e2:bnd (.ok (([]:List D),r)) (sq [zct,zam,zah [58],zaj 9 16,zah [59]])=X3:=by
         simp only[zac,zar]at a0 a1 a2 a3 ⊢;rw[a0,a1,a2,a3]
        show zbU (sq _ []) r=_;simp only[zbU];rw[← e2];rfl)
       have HTK:Hid (zad (zbV r)=zad X3):=hide (by rw[uq HB9];simp only[zbU];rcases X3 with x|⟨c,r'⟩<;>rfl);go_roundw
       case rel=>
        refine⟨_,n4+1,cp',_,_,HLS,hide ?_,hide (by have:=uq HNE;omega)⟩;rw[← uq HE,uq HYY,zaD zbW (uq HTS) (by rw[(uq HL).hn];exact uq HNE) (cs:= [dS s1,.row 9 1 L5,dI t9.p]) (fun c r' e=>by
         rw[uq HB9]at e;simp only[zbU]at e;cases hX:X3 with
         |error x=>rw[hX]at e;cases e
         |ok q=>
          rw[hX]at e;obtain⟨c0,r0,h0,h1⟩:=(uq HG3) q.1 q.2 (by rw[hX]);simp only[Except.ok.injEq,Prod.mk.injEq]at h0 e;rw[← e.1,h1,← h0.1];rfl),uq HTK]
       case measure=>exact zau (word:= [112,104,97,115,101]) (n:=n4) (most:=16) (body:=zbV) zbW (uq HYY) (uq HL).sr (by rw[uq HTK];exact(uq HLS).sr)
      |false=>
       have HY:=hide (zbX (body:=zbV) (L:=L4) zbW (uq HL).sr.ne (by rw[(uq HL).hn];exact hbg));have HQ:=hide (zbL (e:=45) (z:=3) (X:=X4) (by rw[← uq HT,← uq HE];exact uq HY));clear hbg;obtain⟨X5,HX5⟩:∃ Z,Hid (bnd X4 (zbT [112,104,97,115,101] 16 45 3 zbV)=Z):=⟨_,rfl⟩;rw[uq HX5]at HQ;have HG5:=hide ((uq HG4).trans (uq HQ).2);have HS5:Hid (SF w b (zad X5) v4):=hide (by rw[(uq HQ).1];exact SF.loop (uq HS4) (uq HGW) (uq HL3));have HB5:Hid (Bxs v4 gb [.string (sv s1),.slice a2 n2 cap2,.slice a3 n3 cap3,.slice a4 n4 cap4,.slice none 0 0,.slice none 0 0,.int .i64 t.p]):=hide (uq HL3).bx;have HZ5:Hid (gb<v4.heap.size):=hide (uq HL3).gw;have HR5:=hide (((uq HL3).low (uq HBR) (uq HRG)).trans (uq HR4));have HW4_5:=hide (uq HL3).row;have HW2_5:=hide ((uq HL3).rows (uq HW2_4));have HW3_5:=hide ((uq HL3).rows (uq HW3_4));clear HL HE HM HT HY HQ;clear HL3;go_wp2_with fail
       obtain⟨tgt,HT⟩:∃ tgt,Hid (tgt=rwY [103,114,111,117,112] 4 zbG (zad X5) []):=⟨_,rfl⟩
       go_loopw [] (fun wr=>∃(a:Option Addr) (n cap:Nat) (L:List (List D)) (Y:Except Er (List Tok)),Hid (LS b gb 4 v4 62 1 [.string (sv s1),.slice a2 n2 cap2,.slice a3 n3 cap3,.slice a4 n4 cap4,.slice none 0 0,.slice none 0 0,.int .i64 t.p] wr L a n cap Y)∧Hid (rwY [103,114,111,117,112] 4 zbG Y L=tgt)∧Hid (n≤4)) (fun wr=>rem wr b)
       case atStart=>exact⟨none,0,0,[],zad X5,hide (LS.start (uq HS5).2 (uq HB5) rfl (uq HBG) (uq HZ5)),hide (uq HT).symm,hide (by omega)⟩
       case round=>
        obtain⟨a5,n5,cap5,L5,Y,HL,HE,HM⟩:=hrel;have cg:=(uq HL).cell.1;go_wp2_with fail
        (refine(zaM (Y:=Y) [103,114,111,117,112] rfl n5 4 (uq HL).sr).mono ?_;rintro e v5 ⟨rfl,hf,hs⟩;have HL3:=hide ((uq HL).move hf hs);clear hf hs);clear cg;obtain⟨bq,Y3,hbg⟩:∃ bq Y3,bgn [103,114,111,117,112] n5 4 Y=(bq,Y3):=⟨_,_,rfl⟩;rw[hbg]at HL3 ⊢;cases bq with
        |true=>
         obtain⟨t,r,hY,hY3,ht,hne⟩:=zbq hbg;have HYY:=hide hY;have HTS:=hide ht;have HNE:=hide hne;subst hY3;clear hbg hY ht hne;obtain⟨i0,hi,hz0,hz1,hz2⟩:=zay zhG;have HI0:=hide hi;have HZ0:=hide hz0;have HZ1:=hide hz1;have HZ2:=hide hz2;clear hi hz0 hz1 hz2;have hn2:=uq HM;have HLd:=hide ((uq HL3).move (Fr.keep (Keep.refl v5).drew) ((uq HL3).sr.keep (Keep.refl v5).drew));go_wp2_with fail
         refine wp_region_held_drew (S:=fun _=>True) (by kernel_rfl) (by trivial) (fun hHeld=>?_);refine tkk 0 75 hHeld ?_;try simp only[Act.put,Ya,Yb,Yc]
         refine tkk 2 77 hHeld ?_;try simp only[Act.put,Ya,Yb,Yc]
         generalize v5.drew=w4 at HLd ⊢;have cg:=(uq HLd).cell.1;refine wpAnyH_ready (rs:= [1,3]) (by kernel_rfl) (by simp) ?_;refine AllReadyH.cons rfl (fun K hK=>?_) (AllReadyH.cons rfl (fun K hK=>?_) AllReadyH.nil)
         ·skip
          go_simp;clear hHeld;refine hK.out _ _ ?_ (fun hHeld=>?_)
          ·trivial
          clear hK K;try simp only[Act.put,Ya,Yb,Yc]
          clear cg;refine zal 3 (fun K hK=>?_);go_simp;clear hHeld;(refine(zd0 (X:= .ok (([]:List D),r)) (uq HLd).sr).mono ?_;rintro e w5 ⟨a9,n9,c9,L9,rfl,hbd⟩;have HBD:=hide hbd;clear hbd);try go_wp2_with fail
          refine hK.out _ _ ?_ (fun hHeld=>?_)
          ·trivial
          clear hK K;try simp only[Act.put,Ya,Yb,Yc]
          refine zal 4 (fun K hK=>?_);go_simp;clear hHeld;refine hK.out _ _ ?_ (fun hHeld=>?_)
          ·trivial
          clear hK K;try simp only[Act.put,Ya,Yb,Yc]
          obtain⟨xs,hown⟩:=(uq HLd).own (uq HBD).1;have HOWN:=hide hown;clear hown;refine wpAnyH_ready (rs:= [5]) (by kernel_rfl) (by simp) ?_;refine AllReadyH.cons rfl (fun K hK=>?_) AllReadyH.nil;refine zap _ _ _ rfl 0 62 i0 _ 1 24 Tryz.underlying36 (uq HI0) (uq HZ0) (uq HZ1) (uq HZ2) rfl (by decide) _ _ xs rfl ((uq HOWN).alloc _) ⟨w5.heap.size,0,none⟩ 1 1 [.slice a9 n9 c9] rfl rfl (zai w5 [.slice a9 n9 c9] 62) (by simp[Value.oneCell']) (by unfold maxLen;omega) (by omega) (Nat.zero_le _) ?_;intro v' w7 hown' hgrow hat
          obtain⟨g',cp',rfl⟩:=zak hown';have A:=(uq HLd).app (uq HBD).1 (uq HBD).2.1 (uq HBD).2.2.1 rfl ((Keep.refl _).alloc _) (uq HOWN) hown' hgrow hat;have HLS:=hide A.1;have c8:=A.2.1;have f8:=A.2.2;clear hown' hgrow hat A hHeld;refine hK.out _ _ trivial (fun hHeld=>?_);clear hK K;try simp only[Act.put,List.setIfInBounds_toArray,List.set_cons_zero,List.set_cons_succ]
          refine tkk 6 81 hHeld ?_;try simp only[Act.put,Ya,Yb,Yc]
          refine zal 7 (fun K hK=>?_);go_simp;clear hHeld;refine hK.out _ _ ?_ (fun hHeld=>?_)
          ·trivial
          clear hK K;try simp only[Act.put,Ya,Yb,Yc]
          refine wpAnyH_done (by kernel_rfl) ?_ _;clear hHeld;go_wp2_with fail
          go_roundw
          case rel=>
           refine⟨_,n5+1,cp',_,_,HLS,hide ?_,hide (by have:=uq HNE;omega)⟩;rw[← uq HE,uq HYY,zaD zaX (uq HTS) (by rw[(uq HL).hn];exact uq HNE) (cs:= [.row 59 2 L9]) (fun c r' e=>(uq HBD).2.2.2 c r' e)];rfl
          case measure=>exact zau (word:= [103,114,111,117,112]) (n:=n5) (most:=4) (body:=zbG) zaX (uq HYY) (uq HL).sr (by exact(uq HLS).sr)
         ·skip
          clear cg;go_simp;clear hHeld;(refine(zd0 (X:= .ok (([]:List D),r)) (uq HLd).sr).mono ?_;rintro e w5 ⟨a9,n9,c9,L9,rfl,hbd⟩;have HBD:=hide hbd;clear hbd);try go_wp2_with fail
          refine hK.out _ _ ?_ (fun hHeld=>?_)
          ·trivial
          clear hK K;try simp only[Act.put,Ya,Yb,Yc]
          have cg5:=((uq HLd).move (uq HBD).1 (uq HBD).2.1).cell.1;have cg5a:∀ o,(w5.alloc o).cell? ⟨gb,4,none⟩=some (.slice a5 n5 cap5):=fun o=>kcell ((Keep.refl w5).alloc o) cg5
          refine wpAnyH_ready (rs:= [1,4]) (by kernel_rfl) (by simp) ?_;refine AllReadyH.cons rfl (fun K hK=>?_) (AllReadyH.cons rfl (fun K hK=>?_) AllReadyH.nil)
          ·skip
           go_simp;clear hHeld;refine hK.out _ _ ?_ (fun hHeld=>?_)
           ·trivial
           clear hK K;try simp only[Act.put,Ya,Yb,Yc]
           clear cg5 cg5a;refine zal 4 (fun K hK=>?_);go_simp;clear hHeld;refine hK.out _ _ ?_ (fun hHeld=>?_)
           ·trivial
           clear hK K;try simp only[Act.put,Ya,Yb,Yc]
           obtain⟨xs,hown⟩:=(uq HLd).own (uq HBD).1;have HOWN:=hide hown;clear hown;refine wpAnyH_ready (rs:= [5]) (by kernel_rfl) (by simp) ?_;refine AllReadyH.cons rfl (fun K hK=>?_) AllReadyH.nil;refine zap _ _ _ rfl 0 62 i0 _ 1 24 Tryz.underlying36 (uq HI0) (uq HZ0) (uq HZ1) (uq HZ2) rfl (by decide) _ _ xs rfl ((uq HOWN).alloc _) ⟨w5.heap.size,0,none⟩ 1 1 [.slice a9 n9 c9] rfl rfl (zai w5 [.slice a9 n9 c9] 62) (by simp[Value.oneCell']) (by unfold maxLen;omega) (by omega) (Nat.zero_le _) ?_;intro v' w7 hown' hgrow hat
           obtain⟨g',cp',rfl⟩:=zak hown';have A:=(uq HLd).app (uq HBD).1 (uq HBD).2.1 (uq HBD).2.2.1 rfl ((Keep.refl _).alloc _) (uq HOWN) hown' hgrow hat;have HLS:=hide A.1;have c8:=A.2.1;have f8:=A.2.2;clear hown' hgrow hat A hHeld;refine hK.out _ _ trivial (fun hHeld=>?_);clear hK K;try simp only[Act.put,List.setIfInBounds_toArray,List.set_cons_zero,List.set_cons_succ]
           refine tkk 6 81 hHeld ?_;try simp only[Act.put,Ya,Yb,Yc]
           refine zal 7 (fun K hK=>?_);go_simp;clear hHeld;refine hK.out _ _ ?_ (fun hHeld=>?_)
           ·trivial
           clear hK K;try simp only[Act.put,Ya,Yb,Yc]
           refine wpAnyH_done (by kernel_rfl) ?_ _;clear hHeld;go_wp2_with fail
           go_roundw
           case rel=>
            refine⟨_,n5+1,cp',_,_,HLS,hide ?_,hide (by have:=uq HNE;omega)⟩;rw[← uq HE,uq HYY,zaD zaX (uq HTS) (by rw[(uq HL).hn];exact uq HNE) (cs:= [.row 59 2 L9]) (fun c r' e=>(uq HBD).2.2.2 c r' e)];rfl
           case measure=>exact zau (word:= [103,114,111,117,112]) (n:=n5) (most:=4) (body:=zbG) zaX (uq HYY) (uq HL).sr (by exact(uq HLS).sr)
          ·skip
           go_simp;clear hHeld;refine hK.out _ _ ?_ (fun hHeld=>?_)
           ·trivial
           clear hK K;try simp only[Act.put,Ya,Yb,Yc]
           clear cg5;refine zal 1 (fun K hK=>?_);go_simp;clear hHeld;refine hK.out _ _ ?_ (fun hHeld=>?_)
           ·trivial
           clear hK K;try simp only[Act.put,Ya,Yb,Yc]
           clear cg5a;obtain⟨xs,hown⟩:=(uq HLd).own (uq HBD).1;have HOWN:=hide hown;clear hown;refine wpAnyH_ready (rs:= [5]) (by kernel_rfl) (by simp) ?_;refine AllReadyH.cons rfl (fun K hK=>?_) AllReadyH.nil;refine zap _ _ _ rfl 0 62 i0 _ 1 24 Tryz.underlying36 (uq HI0) (uq HZ0) (uq HZ1) (uq HZ2) rfl (by decide) _ _ xs rfl ((uq HOWN).alloc _) ⟨w5.heap.size,0,none⟩ 1 1 [.slice a9 n9 c9] rfl rfl (zai w5 [.slice a9 n9 c9] 62) (by simp[Value.oneCell']) (by unfold maxLen;omega) (by omega) (Nat.zero_le _) ?_;intro v' w7 hown' hgrow hat
           obtain⟨g',cp',rfl⟩:=zak hown';have A:=(uq HLd).app (uq HBD).1 (uq HBD).2.1 (uq HBD).2.2.1 rfl ((Keep.refl _).alloc _) (uq HOWN) hown' hgrow hat;have HLS:=hide A.1;have c8:=A.2.1;have f8:=A.2.2;clear hown' hgrow hat A hHeld;refine hK.out _ _ trivial (fun hHeld=>?_);clear hK K;try simp only[Act.put,List.setIfInBounds_toArray,List.set_cons_zero,List.set_cons_succ]
           refine tkk 6 81 hHeld ?_;try simp only[Act.put,Ya,Yb,Yc]
           refine zal 7 (fun K hK=>?_);go_simp;clear hHeld;refine hK.out _ _ ?_ (fun hHeld=>?_)
           ·trivial
           clear hK K;try simp only[Act.put,Ya,Yb,Yc]
           refine wpAnyH_done (by kernel_rfl) ?_ _;clear hHeld;go_wp2_with fail
           go_roundw
           case rel=>
            refine⟨_,n5+1,cp',_,_,HLS,hide ?_,hide (by have:=uq HNE;omega)⟩;rw[← uq HE,uq HYY,zaD zaX (uq HTS) (by rw[(uq HL).hn];exact uq HNE) (cs:= [.row 59 2 L9]) (fun c r' e=>(uq HBD).2.2.2 c r' e)];rfl
           case measure=>exact zau (word:= [103,114,111,117,112]) (n:=n5) (most:=4) (body:=zbG) zaX (uq HYY) (uq HL).sr (by exact(uq HLS).sr)
        |false=>
         have HY:=hide (zbX (body:=zbG) (L:=L5) zaX (uq HL).sr.ne (by rw[(uq HL).hn];exact hbg));have HQ:=hide (zbL (e:=62) (z:=1) (X:=X5) (by rw[← uq HT,← uq HE];exact uq HY));clear hbg;obtain⟨X6,HX6⟩:∃ Z,Hid (bnd X5 (zbT [103,114,111,117,112] 4 62 1 zbG)=Z):=⟨_,rfl⟩;rw[uq HX6]at HQ;have HG6:=hide ((uq HG5).trans (uq HQ).2);have HS6:Hid (SF w b (zad X6) v5):=hide (by rw[(uq HQ).1];exact SF.loop (uq HS5) (uq HGW) (uq HL3));have HB6:Hid (Bxs v5 gb [.string (sv s1),.slice a2 n2 cap2,.slice a3 n3 cap3,.slice a4 n4 cap4,.slice a5 n5 cap5,.slice none 0 0,.int .i64 t.p]):=hide (uq HL3).bx;have HZ6:Hid (gb<v5.heap.size):=hide (uq HL3).gw;have HR6:=hide (((uq HL3).low (uq HBR) (uq HRG)).trans (uq HR5));have HW5_6:=hide (uq HL3).row;have HW2_6:=hide ((uq HL3).rows (uq HW2_5));have HW3_6:=hide ((uq HL3).rows (uq HW3_5));have HW4_6:=hide ((uq HL3).rows (uq HW4_5));clear HL HE HM HT HY HQ;clear HL3;go_wp2_with fail
         obtain⟨tgt,HT⟩:∃ tgt,Hid (tgt=rwY [102,111,101] 64 zhP (zad X6) []):=⟨_,rfl⟩
         go_loopw [] (fun wr=>∃(a:Option Addr) (n cap:Nat) (L:List (List D)) (Y:Except Er (List Tok)),Hid (LS b gb 5 v5 48 3 [.string (sv s1),.slice a2 n2 cap2,.slice a3 n3 cap3,.slice a4 n4 cap4,.slice a5 n5 cap5,.slice none 0 0,.int .i64 t.p] wr L a n cap Y)∧Hid (rwY [102,111,101] 64 zhP Y L=tgt)∧Hid (n≤64)) (fun wr=>rem wr b)
         case atStart=>exact⟨none,0,0,[],zad X6,hide (LS.start (uq HS6).2 (uq HB6) rfl (uq HBG) (uq HZ6)),hide (uq HT).symm,hide (by omega)⟩
         case round=>
          obtain⟨a6,n6,cap6,L6,Y,HL,HE,HM⟩:=hrel;have cg:=(uq HL).cell.1;go_wp2_with fail
          (refine(zaM (Y:=Y) [102,111,101] rfl n6 64 (uq HL).sr).mono ?_;rintro e v6 ⟨rfl,hf,hs⟩;have HL3:=hide ((uq HL).move hf hs);clear hf hs);clear cg;obtain⟨bq,Y3,hbg⟩:∃ bq Y3,bgn [102,111,101] n6 64 Y=(bq,Y3):=⟨_,_,rfl⟩;rw[hbg]at HL3 ⊢;cases bq with
          |true=>
           obtain⟨t,r,hY,hY3,ht,hne⟩:=zbq hbg;have HYY:=hide hY;have HTS:=hide ht;have HNE:=hide hne;subst hY3;clear hbg hY ht hne;obtain⟨i0,hi,hz0,hz1,hz2⟩:=zay zlG;have HI0:=hide hi;have HZ0:=hide hz0;have HZ1:=hide hz1;have HZ2:=hide hz2;clear hi hz0 hz1 hz2;have hn2:=uq HM;have hb3:b<v6.heap.size:=(uq HL3).sr.bl;have HB3:=hide hb3;have n3:¬v6.heap.size=b:=by omega
           have hgw:=(uq HL3).gw;have ng:¬gb=b:=by have:=uq HBG;omega
           have CG:=hide (uq HL3).cell.1;have HSR:=hide (uq HL3).sr;have hsr:=uq HSR;obtain⟨ad,cq,e9,p9,t9,r9,h1,h2⟩:=hsr.front;obtain⟨t0,t1,t2,t3⟩:=h1.tok;have hp:=zcc (X:= .ok (([]:List D),r)) hsr h1 h2;obtain⟨X0,HX0⟩:∃ Z,Hid (bnd (.ok (([]:List D),r)) zct=Z):=⟨_,rfl⟩;rw[uq HX0]at hp;have HS0:Hid (SF v6 b (zad X0) (v6.alloc (.cells #[.string ⟨#[]⟩,.string ⟨#[]⟩,.int .i64 t9.p] 48))):=hide (SF.keep ⟨.refl _ _,hp.1⟩ ((Keep.refl _).alloc _));have HG0:=hide hp.2;have c0:=h1.c0;simp only[List.length_cons]at c0;clear hp h1 h2 t0 t1 t2 hsr
           go_upto_region 18 with fail
           clear c0 t3;go_wp2_with fail
           (refine(zaE (X:=X0) (uq HS0).2).mono ?_;rintro e w1 ⟨s1,rfl,hd⟩;have HS1:=hide ((uq HS0).step hd);have HG1:=hide ((uq HG0).trans hd.2.2);obtain⟨o1,q1,k1,rfl⟩:=zaf hd.1 (uq HS0).2.bl;clear hd);obtain⟨X1,HX1⟩:∃ Z,Hid (bnd X0 zam=Z):=⟨_,rfl⟩;rw[uq HX1]at HS1 HG1;go_wp2_with fail
           (refine(zaE (X:=X1) (SF.box1 (uq HB3) (uq HS1)).2).mono ?_;rintro e w1 ⟨s2,rfl,hd⟩;have HS2:=hide ((SF.box1 (uq HB3) (uq HS1)).step hd);have HG2:=hide ((uq HG1).trans hd.2.2);obtain⟨o2,q2,k2,rfl⟩:=zaf hd.1 (SF.box1 (uq HB3) (uq HS1)).2.bl;clear hd);rw[zaw (uq HB3)]at HS2 ⊢;generalize q1++q2=q2 at HS2 ⊢;obtain⟨X2,HX2⟩:∃ Z,Hid (bnd X1 zam=Z):=⟨_,rfl⟩;rw[uq HX2]at HS2 HG2;go_wp2_with fail
           (refine(zag (X:=X2) [59] rfl (SF.box1 (uq HB3) (uq HS2)).2).mono ?_;rintro e w1 ⟨rfl,hd⟩;have HS3:=hide ((SF.box1 (uq HB3) (uq HS2)).step hd);have HG3:=hide ((uq HG2).trans hd.2.2);obtain⟨o3,q3,k3,rfl⟩:=zaf hd.1 (SF.box1 (uq HB3) (uq HS2)).2.bl;clear hd);rw[zaw (uq HB3)]at HS3 ⊢;generalize q2++q3=q3 at HS3 ⊢;obtain⟨X3,HX3⟩:∃ Z,Hid (bnd X2 (zah [59])=Z):=⟨_,rfl⟩;rw[uq HX3]at HS3 HG3;have HOW:=hide ((uq HL3).own (SF.box1 (o1':= .cells #[.string (sv s1),.string (sv s2),.int .i64 t9.p] 48) (uq HB3) (uq HS3)).1);obtain⟨xs,hown⟩:=uq HOW;have HOWN:=hide hown;clear hown;have HRD6:Hid (Rds (chg (v6.alloc (.cells #[.string (sv s1),.string (sv s2),.int .i64 t9.p] 48)) b o3 q3 k3) [dS s1,dS s2,dI t9.p] (fun i=>v6.heap.size≤i) [.string (sv s1),.string (sv s2),.int .i64 t9.p]):=hide (zbj _ (zbj _ (zao _ (zat _ _))));have cg:=uq CG;go_wp2_with (at_builtin;refine wpList_append_own_at _ rfl _ _ 37 rfl 0 48 i0 _ 3 40 Tryz.underlying37 (uq HI0) (uq HZ0) (uq HZ1) (uq HZ2) rfl (by decide) _ _ xs rfl ((uq HOWN).alloc _) ⟨v6.heap.size+1+q3.size,0,none⟩ 1 1 [.string (sv s1),.string (sv s2),.int .i64 t9.p] rfl rfl (by have hnc:=zai (chg (v6.alloc (.cells #[.string (sv s1),.string (sv s2),.int .i64 t9.p] 48)) b o3 q3 k3) [.string (sv s1),.string (sv s2),.int .i64 t9.p] 48;rw[zaA,World.size_alloc]at hnc;exact hnc) (by simp[Value.oneCell']) (by unfold maxLen;omega) (by omega) (Nat.zero_le _) ?_;intro v' w8 hown' hgrow hnil hat;obtain⟨g',cp',rfl⟩:=zak hown';have A:=(uq HL3).app (SF.box1 (uq HB3) (uq HS3)).1 (SF.box1 (uq HB3) (uq HS3)).2 (uq HRD6) rfl ((Keep.refl _).alloc _) (uq HOWN) hown' hgrow hat;have HLS:=hide A.1;have c8:=A.2.1;have f8:=A.2.2;clear hown' hgrow hnil hat A)
           have HB9:Hid (zhP r=zbU (fun _=>X3) []):=hide (by
            have a0:=uq HX0;have a1:=uq HX1;have a2:=uq HX2;have a3:=uq HX3;have e2:bnd (.ok (([]:List D),r)) (sq [zct,zam,zam,zah [59]])=X3:=by
             simp only[zac,zar]at a0 a1 a2 a3 ⊢;rw[a0,a1,a2,a3]
            show zbU (sq _ []) r=_;simp only[zbU];rw[← e2];rfl)
           have HTK:Hid (zad (zhP r)=zad X3):=hide (by rw[uq HB9];simp only[zbU];rcases X3 with x|⟨c,r'⟩<;>rfl);go_roundw
           case rel=>
            refine⟨_,n6+1,cp',_,_,HLS,hide ?_,hide (by have:=uq HNE;omega)⟩;rw[← uq HE,uq HYY,zaD zdl (uq HTS) (by rw[(uq HL).hn];exact uq HNE) (cs:= [dS s1,dS s2,dI t9.p]) (fun c r' e=>by
             rw[uq HB9]at e;simp only[zbU]at e;cases hX:X3 with
             |error x=>rw[hX]at e;cases e
             |ok q=>
              rw[hX]at e;obtain⟨c0,r0,h0,h1⟩:=(uq HG3) q.1 q.2 (by rw[hX]);simp only[Except.ok.injEq,Prod.mk.injEq]at h0 e;rw[← e.1,h1,← h0.1];rfl),uq HTK]
           case measure=>exact zau (word:= [102,111,101]) (n:=n6) (most:=64) (body:=zhP) zdl (uq HYY) (uq HL).sr (by rw[uq HTK];exact(uq HLS).sr)
          |false=>
           have HY:=hide (zbX (body:=zhP) (L:=L6) zdl (uq HL).sr.ne (by rw[(uq HL).hn];exact hbg));have HQ:=hide (zbL (e:=48) (z:=3) (X:=X6) (by rw[← uq HT,← uq HE];exact uq HY));clear hbg;obtain⟨X7,HX7⟩:∃ Z,Hid (bnd X6 (zbT [102,111,101] 64 48 3 zhP)=Z):=⟨_,rfl⟩;rw[uq HX7]at HQ;have HG7:=hide ((uq HG6).trans (uq HQ).2);have HS7:Hid (SF w b (zad X7) v6):=hide (by rw[(uq HQ).1];exact SF.loop (uq HS6) (uq HGW) (uq HL3));have HB7:Hid (Bxs v6 gb [.string (sv s1),.slice a2 n2 cap2,.slice a3 n3 cap3,.slice a4 n4 cap4,.slice a5 n5 cap5,.slice a6 n6 cap6,.int .i64 t.p]):=hide (uq HL3).bx;have HZ7:Hid (gb<v6.heap.size):=hide (uq HL3).gw;have HR7:=hide (((uq HL3).low (uq HBR) (uq HRG)).trans (uq HR6));have HW6_7:=hide (uq HL3).row;have HW2_7:=hide ((uq HL3).rows (uq HW2_6));have HW3_7:=hide ((uq HL3).rows (uq HW3_6));have HW4_7:=hide ((uq HL3).rows (uq HW4_6));have HW5_7:=hide ((uq HL3).rows (uq HW5_6));clear HL HE HM HT HY HQ;clear HL3;go_wp2_with fail
           (refine(zag (X:=X7) [125] rfl (uq HS7).2).mono ?_;rintro e w8 ⟨rfl,hd⟩;have HS8:=hide ((uq HS7).step hd);have HG8:=hide ((uq HG7).trans hd.2.2);have HB8:=hide ((uq HB7).fr hd.1 (by have:=uq HBG;omega));have HR8:=hide ((hd.1.block rb (by have:=uq HZ7;have:=uq HRG;omega) (by have:=uq HBR;omega)).trans (uq HR7));have HW8:Hid (Rd w8 (.row 84 11 L2) (fun i=>gb<i) (.slice a2 n2 cap2)∧Rd w8 (.row 86 6 L3) (fun i=>gb<i) (.slice a3 n3 cap3)∧Rd w8 (.row 45 3 L4) (fun i=>gb<i) (.slice a4 n4 cap4)∧Rd w8 (.row 62 1 L5) (fun i=>gb<i) (.slice a5 n5 cap5)∧Rd w8 (.row 48 3 L6) (fun i=>gb<i) (.slice a6 n6 cap6)):=hide ⟨zbz (uq HBG) hd.1 (uq HW2_7),zbz (uq HBG) hd.1 (uq HW3_7),zbz (uq HBG) hd.1 (uq HW4_7),zbz (uq HBG) hd.1 (uq HW5_7),zbz (uq HBG) hd.1 (uq HW6_7)⟩;clear hd);obtain⟨X8,HX8⟩:∃ Z,Hid (bnd X7 (zah [125])=Z):=⟨_,rfl⟩;rw[uq HX8]at HS8 HG8;have g0:=((uq HB8) 0 _ rfl).1;have g1:=((uq HB8) 1 _ rfl).1;have g2:=((uq HB8) 2 _ rfl).1;have g3:=((uq HB8) 3 _ rfl).1;have g4:=((uq HB8) 4 _ rfl).1;have g5:=((uq HB8) 5 _ rfl).1;have g6:=((uq HB8) 6 _ rfl).1;obtain⟨u0,H0⟩:∃ u:Value,Hid ((.string (sv s1):Value)=u):=⟨_,rfl⟩;rw[uq H0]at g0;obtain⟨u1,H1⟩:∃ u:Value,Hid ((.slice a2 n2 cap2:Value)=u):=⟨_,rfl⟩;rw[uq H1]at g1;obtain⟨u2,H2⟩:∃ u:Value,Hid ((.slice a3 n3 cap3:Value)=u):=⟨_,rfl⟩;rw[uq H2]at g2;obtain⟨u3,H3⟩:∃ u:Value,Hid ((.slice a4 n4 cap4:Value)=u):=⟨_,rfl⟩;rw[uq H3]at g3;obtain⟨u4,H4⟩:∃ u:Value,Hid ((.slice a5 n5 cap5:Value)=u):=⟨_,rfl⟩;rw[uq H4]at g4;obtain⟨u5,H5⟩:∃ u:Value,Hid ((.slice a6 n6 cap6:Value)=u):=⟨_,rfl⟩;rw[uq H5]at g5;obtain⟨u6,H6⟩:∃ u:Value,Hid ((.int .i64 t.p:Value)=u):=⟨_,rfl⟩;rw[uq H6]at g6;obtain⟨W1,W2,W3,W4,W5,W6,W7,y0,y1,y2,y3,y4,y5,y6,hb7,hq7,hz7,ho7,ht7,hp7⟩:=znj (uq HR8) (u0:=u0) (u1:=u1) (u2:=u2) (u3:=u3) (u4:=u4) (u5:=u5) (u6:=u6) (by rw[← uq H0,← uq H1,← uq H2,← uq H3,← uq H4,← uq H5,← uq H6];simp[Value.oneCell']);have HS9:=hide ((uq HS8).stored (uq HB) (by have:=uq HRb;omega) hq7 hz7 ho7 ht7 hp7);have HQ7:=hide hq7;have r0:W7.cell? ⟨rb,0,none⟩=some u0:=by simp[World.cell?,hb7]
           have r1:W7.cell? ⟨rb,1,none⟩=some u1:=by simp[World.cell?,hb7]
           have r2:W7.cell? ⟨rb,2,none⟩=some u2:=by simp[World.cell?,hb7]
           have r3:W7.cell? ⟨rb,3,none⟩=some u3:=by simp[World.cell?,hb7]
           have r4:W7.cell? ⟨rb,4,none⟩=some u4:=by simp[World.cell?,hb7]
           have r5:W7.cell? ⟨rb,5,none⟩=some u5:=by simp[World.cell?,hb7]
           have r6:W7.cell? ⟨rb,6,none⟩=some u6:=by simp[World.cell?,hb7]
           clear hb7 hq7 hz7 ho7 ht7 hp7;go_wp2_with fail
           refine bodyPost_ret (v:= .agg #[u0,u1,u2,u3,u4,u5,u6]) ?_ rfl ?_
           ·simp[results,Tryz.results32,go_sem,r0,r1,r2,r3,r4,r5,r6]
           ·obtain rfl:=uq H0;obtain rfl:=uq H1;obtain rfl:=uq H2;obtain rfl:=uq H3;obtain rfl:=uq H4;obtain rfl:=uq H5;obtain rfl:=uq H6;refine⟨s1,a2,n2,cap2,a3,n3,cap3,a4,n4,cap4,a5,n5,cap5,a6,n6,cap6,t.p,[dS s1,.row 84 11 L2,.row 86 6 L3,.row 45 3 L4,.row 62 1 L5,.row 48 3 L6,dI t.p],rfl,rfl,zcy (d:=dI t.p) (ds:= [dS s1,.row 84 11 L2,.row 86 6 L3,.row 45 3 L4,.row 62 1 L5,.row 48 3 L6]) (uq HS9) ?_ ?_ ?_⟩
            ·simpa using uq HG8
            ·have a0:=uq HX0;have a1:=uq HX1;have a2:=uq HX2;have a3:=uq HX3;have a4:=uq HX4;have a5:=uq HX5;have a6:=uq HX6;have a7:=uq HX7;have a8:=uq HX8;simp only[zac,zar];rw[a0,a1,a2,a3,a4,a5,a6,a7,a8]
            ·have hm:∀(d:D) (u:Value),Rd w8 d (fun i=>gb<i) u→Rd W7 d (fun i=>w.heap.size≤i) u:=fun d u hd=>Rd.move _ _ _ _ hd (fun i hi _=>⟨(uq HQ7) i (by have:=uq HRG;omega),by have:=uq HGW;omega⟩)
             obtain⟨m1,m2,m3,m4,m5⟩:=uq HW8;exact zbj _ (zbk (hm _ _ m1) (zbk (hm _ _ m2) (zbk (hm _ _ m3) (zbk (hm _ _ m4) (zbk (hm _ _ m5) (zao _ (zat _ _)))))))
end Q
end Go.Proofs.YtpmaonkelkmhbaaGreat
