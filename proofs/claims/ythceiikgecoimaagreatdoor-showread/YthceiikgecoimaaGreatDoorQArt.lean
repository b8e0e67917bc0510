/- The document's reader: group. -/
import Derived.Test.YthceiikgecoimaaGreatDoorQLoop
namespace Go.Proofs.YthceiikgecoimaaGreatDoor
open Go.RowKit
attribute [local go_sem ↓] Go.wp_at_zero Go.wp_at_succ
set_option linter.unusedVariables false
set_option linter.unusedSimpArgs false
set_option maxRecDepth 10000
namespace Q
theorem zjT {w:World} {b:Nat} (hb:b<w.heap.size) (us1 us2:List Value) (t1 t2:TypeId) (o:Obj) (os:Array Obj) (k:Nat):Bxs (chg ((w.alloc (.cells us1.toArray t1)).alloc (.cells us2.toArray t2)) b o os k) w.heap.size us1/\Bxs (chg ((w.alloc (.cells us1.toArray t1)).alloc (.cells us2.toArray t2)) b o os k) (w.heap.size+1) us2/\w.heap.size+2<=(chg ((w.alloc (.cells us1.toArray t1)).alloc (.cells us2.toArray t2)) b o os k).heap.size:=by
 refine⟨(bxs_new w us1 t1).move ?_,?_,by simp only[zbe,World.size_alloc];omega⟩
 ·rw[zbp _ _ _ _ _ _ (by simp only[World.size_alloc];omega) (by omega),heap_alloc_old _ _ (by rw[World.size_alloc];omega)]
 ·have:=bxs_new (w.alloc (.cells us1.toArray t1)) us2 t2;rw[World.size_alloc]at this;refine this.move ?_;rw[zbp _ _ _ _ _ _ (by simp only[World.size_alloc];omega) (by omega)]
theorem zgh {w:World} {b:Nat} (hb:b<w.heap.size) {o1 o1' ob:Obj} {os:Array Obj} {k i:Nat} (hi:i≠w.heap.size):(chg (w.alloc o1') b ob os k).heap[i]? =(chg (w.alloc o1) b ob os k).heap[i]? :=by
 by_cases e:i=b
 ·subst e;rw[zfa _ _ _ _ _ (by rw[World.size_alloc];omega),zfa _ _ _ _ _ (by rw[World.size_alloc];omega)]
 ·by_cases h:i<w.heap.size
  ·rw[zbp _ _ _ _ _ _ (by rw[World.size_alloc];omega) e,zbp _ _ _ _ _ _ (by rw[World.size_alloc];omega) e,heap_alloc_old _ _ h,heap_alloc_old _ _ h]
  ·simp only[chg];rw[Array.getElem?_append_right (by simp only[Array.size_setIfInBounds,World.size_alloc];omega),Array.getElem?_append_right (by simp only[Array.size_setIfInBounds,World.size_alloc];omega)];simp only[Array.size_setIfInBounds,World.size_alloc]
theorem zfO {X:Rs} {s:List UInt8} {w:World} {b:Nat} (hs:wrd s=true) (h:Sr w b (zaz X)) (hi:isq s (zaz X)=true):zaz (bnd X (zaQ s))=zfB (zaz X)/\Got X (bnd X (zaQ s)) [dB true]:=by
 obtain⟨c,t,r,rfl,he,hn⟩:=zgA hs hi h;have e1:bnd (.ok (c,t :: r)) (zaQ s)= .ok (c++ [dB true],r):=by show(if t.s=s then _ else _)=_;rw[if_pos he]
 rw[e1];exact⟨hn.symm,λc2 r2 e2=>by cases e2;exact⟨c,_,rfl,rfl⟩⟩
theorem zhw {X:Rs} {s:List UInt8} {w:World} {b:Nat} (h:Sr w b (zaz X)) (hi:isq s (zaz X)=false):zaz (bnd X (zaQ s))=zaz X/\Got X (bnd X (zaQ s)) [dB false]:=by
 rcases X with x|⟨c,r⟩
 ·exact⟨rfl,λc r e=>by cases e⟩
 ·obtain⟨ad,cap,p,t,r',e,h1⟩:=Sr.alive (r:=r) h;subst e;have hne:¬t.s=s:=by simpa [isq,zaz]using hi
  have e1:bnd (.ok (c,t :: r')) (zaQ s)= .ok (c++ [dB false],t :: r'):=by show(if t.s=s then _ else _)=_;rw[if_neg hne]
  rw[e1];exact⟨rfl,λc2 r2 e2=>by cases e2;exact⟨c,_,rfl,rfl⟩⟩
theorem zlq {w:World} {P:Nat->Prop} {ds:List D} {us:List Value} (x:Bool) (h:Rds w ds P us):Rds w (dB x :: ds) P (.bool x :: us):=by simp only[Rds];exact⟨_,_,rfl,⟨rfl,rfl⟩,h⟩
theorem zcC {w:World} {P:Nat->Prop} {d:D} {ds:List D} {u:Value} {us:List Value} (h1:Rd w d P u) (h:Rds w ds P us):Rds w (d :: ds) P (u :: us):=by simp only[Rds];exact⟨_,_,rfl,h1,h⟩
def grY (Y:Except Er (List Tok)):Except Er (List Tok):=if isq [114,105,110,103] Y then Y else zja 50 Y
theorem zfh {X X1:Rs} {Y':Except Er (List Tok)} {L:List (List D)} {e:Nat} {w:World} {b:Nat} (hg:Got (zb1 X) X1 []) (hs:Sr w b (zaz X1)) (h:rwY [114,105,110,103] 2 zaU (grY (zaz X1)) []=rwF L Y'):zaz (bnd (bnd X1 (zaL [114,105,110,103] 2 e 2 zaU)) zbS)=Y'/\Got X1 (bnd (bnd X1 (zaL [114,105,110,103] 2 e 2 zaU)) zbS) [.row e 2 L]:=by
 rcases X1 with x|⟨c,r⟩
 ·simp only[zaz,grY,isq,zja,rwY]at h;cases Y' with
  |error y=>simp only[rwF]at h;injection h with h;subst h;exact⟨rfl,λc r e=>by cases e⟩
  |ok r=>cases h
 ·obtain⟨ad,cap,p,t,r',e0,h1⟩:=Sr.alive (r:=r) hs;subst e0;have hc:c= []:=by
   obtain⟨c0,r0,h0,h2⟩:=hg _ _ rfl;rcases X with x|⟨c1,r1⟩
   ·cases h0
   ·simp only[zb1,Except.ok.injEq,Prod.mk.injEq]at h0;rw[h2,<- h0.1];rfl
  subst hc;have eR:bnd (.ok ([],t :: r')) (zaL [114,105,110,103] 2 e 2 zaU)=match rw_ [114,105,110,103] 2 zaU [] (t :: r')with| .error x=> .error x| .ok (L,r2)=> .ok ([]++ [.row e 2 L],r2):=rfl
  by_cases hr:t.s= [114,105,110,103]
  ·have hq:isq [114,105,110,103] (zaz (.ok (([]:List D),t :: r')))=true:=by simp[isq,zaz,hr]
   rw[grY,if_pos hq]at h;have h':rw_ [114,105,110,103] 2 zaU [] (t :: r')=rwF L Y':=h;rw[eR,h'];cases Y' with
   |error y=>exact⟨rfl,λc r e=>by cases e⟩
   |ok r1=>
    have hne:L≠ []:=by
     rintro rfl;rw[zcn _ _ _ zbb,if_pos hr,if_neg (by simp)]at h';cases hb:zaU r' with
     |error x=>rw[hb]at h';cases h'
     |ok q=>
      obtain⟨d,r2⟩:=q;rw[hb]at h';have:=ziT [114,105,110,103] 2 zaU _ _ _ _ _ h';simp at this
    have e2:bnd (.ok ([]++ [D.row e 2 L],r1)) zbS= .ok ([D.row e 2 L],r1):=by
     cases L with
     |nil=>exact absurd rfl hne
     |cons x L=>rfl
    show zaz (bnd (.ok ([]++ [D.row e 2 L],r1)) zbS)=_/\Got _ (bnd (.ok ([]++ [D.row e 2 L],r1)) zbS) _;rw[e2];exact⟨rfl,λc2 r2 e3=>by cases e3;exact⟨[],_,rfl,rfl⟩⟩
  ·have hq:isq [114,105,110,103] (zaz (.ok (([]:List D),t :: r')))=false:=by simp[isq,zaz,hr]
   rw[grY,if_neg (by rw[hq];simp)]at h;have h2:(Except.error (50,t.p):Except Er (List (List D)×List Tok))=rwF L Y':=h;have h3:rw_ [114,105,110,103] 2 zaU [] (t :: r')= .ok ([],t :: r'):=by rw[zcn _ _ _ zbb,if_neg hr]
   rw[eR,h3];cases Y' with
   |error y=>simp only[rwF,Except.error.injEq]at h2;subst h2;exact⟨rfl,λc r e=>by cases e⟩
   |ok r1=>cases h2
theorem zsu:(Tryz.prog.info? 86).map (λi=>(i.zero,i.size,i.bytes))=some (some (.agg #[.bool false,.slice none 0 0]),2,32):=by kernel_rfl
set_option maxHeartbeats 8000000 in
theorem zdJ {w:World} {b:Nat} {X:Rs} (h:Sr w b (zaz X)):Calls Tryz.prog 81 #[.pointer (some ⟨b,0,none⟩)] w λr w'=>∃ a n cap L,r= .returned (.agg #[.slice a n cap])/\zpv zbk [.row 86 2 L] [.slice a n cap] b X w w':=by
 obtain⟨i0,hi,hz0,hz1,hz2⟩:=zaG zsu;have HI0:=zh hi;have HZ0:=zh hz0;have HZ1:=zh hz1;have HZ2:=zh hz2;clear hi hz0 hz1 hz2;have HS0:Hid (SF w b (zaz (zb1 X)) ((w.alloc (.cells #[.slice none 0 0] 84)).alloc (.cells #[.slice none 0 0] 84))):=zh (SF.keep ⟨.refl _ _,by rw[zbO];exact h⟩ (zaM _ _ _));have HB:=zh h.bl;clear h;go_enter Tryz.func81,Tryz.ntmps81;go_wp2_with fail
 (refine(zaW (X:=zb1 X) [123] rfl (uq HS0).2).mono ?_;rintro e w1 ⟨rfl,hd⟩;have HS1:=zh ((uq HS0).step hd);have HG1:=zh hd.2.2;obtain⟨o1,q1,k1,rfl⟩:=zaD hd.1 (uq HS0).2.bl;clear hd);obtain⟨X1,HX1⟩:∃ Z,Hid (bnd (zb1 X) (zad [123])=Z):=⟨_,rfl⟩;rw[uq HX1]at HS1 HG1;have HBX:=zh (zjT (uq HB) [.slice none 0 0] [.slice none 0 0] 84 84 o1 q1 k1);have HRB:=zh (rfl:w.heap.size=w.heap.size);generalize chg ((w.alloc (.cells #[.slice none 0 0] 84)).alloc (.cells #[.slice none 0 0] 84)) b o1 q1 k1=w1 at HS1 HBX |-;obtain⟨rb,HRb⟩:∃ rb,Hid (w.heap.size=rb):=⟨_,rfl⟩;rw[uq HRb]at HBX |-;obtain⟨gb,HGb⟩:∃ gb,Hid (rb+1=gb):=⟨_,rfl⟩;rw[uq HGb]at HBX |-;clear HS0 HRB;go_wp2_with fail
 (refine(zef (Y:=zaz X1) [114,105,110,103] rfl (uq HS1).2).mono ?_;rintro e w1 ⟨rfl,rfl⟩);obtain⟨tgt,HT⟩:∃ tgt,Hid (tgt=rwY [114,105,110,103] 2 zaU (grY (zaz X1)) []):=⟨_,rfl⟩;generalize hq:isq [114,105,110,103] (zaz X1)=bq;cases bq with
 |true=>
  have HSF:Hid (SF w b (grY (zaz X1)) w1):=zh (by rw[grY,if_pos hq];exact uq HS1);clear hq;go_wp2_with fail
  go_loopw [] (λwr=>∃(a:Option Addr) (n cap:Nat) (L:List (List D)) (Y:Except Er (List Tok)),Hid (LS b gb 0 w1 86 2 [.slice none 0 0] wr L a n cap Y)/\Hid (rwY [114,105,110,103] 2 zaU Y L=tgt)/\Hid (n<=2)) (λwr=>rem wr b)
  case atStart=>
   refine⟨none,0,0,[],grY (zaz X1),zh (LS.start (uq HSF).2 (uq HBX).2.1 rfl ?_ ?_),zh (uq HT).symm,zh (by omega)⟩
   ·have:=uq HB;have:=uq HRb;have:=uq HGb;omega
   ·have:=(uq HBX).2.2;have:=uq HRb;have:=uq HGb;omega
  case round=>
   obtain⟨a,n,cap,L,Y,HL,HE,HM⟩:=hrel;have cg:=(uq HL).cell.1;go_wp2_with fail
   (refine(zbq (Y:=Y) [114,105,110,103] rfl n 2 (uq HL).sr).mono ?_;rintro e w3 ⟨rfl,hf,hs⟩;have HL3:=zh ((uq HL).move hf hs);clear hf hs);clear cg;obtain⟨bq,Y3,hbg⟩:∃ bq Y3,bgn [114,105,110,103] n 2 Y=(bq,Y3):=⟨_,_,rfl⟩;rw[hbg]at HL3 |-;cases bq with
   |false=>
    have HY:=zh (zdA (body:=zaU) (L:=L) zbb (uq HL).sr.ne (by rw[(uq HL).hn];exact hbg));have HQ:=zh (zfh (e:=86) (uq HG1) (uq HS1).2 (by rw[<- uq HT,<- uq HE];exact uq HY));clear hbg;go_wp2_with fail
    (refine(zaW (X:=bnd (bnd X1 (zaL [114,105,110,103] 2 86 2 zaU)) zbS) [125] rfl (by rw[(uq HQ).1];exact(uq HL3).sr)).mono ?_;rintro e w4 ⟨rfl,hd⟩;have HL4:=zh ((uq HL3).move hd.1 hd.2.1);have HD4:=zh hd.2;clear hd);have cg:=(uq HL4).cell.1;have HR4:Hid (Bxs w4 rb [.slice none 0 0]):=zh ((uq HBX).1.move ((uq HL4).ro.fr.block rb (by have:=(uq HBX).2.2;have:=uq HRb;omega) (λx=>by have:=uq HB;have:=uq HRb;have:=uq HGb;omega)));have cr:=(uq HR4) 0 _ rfl;obtain⟨cr1,cr2⟩:=cr;go_wp2_with fail
    refine bodyPost_ret (v:= .agg #[.slice a n cap]) ?_ rfl ?_
    ·simp[results,Tryz.results81,go_sem,cr1]
    ·refine⟨a,n,cap,L,rfl,?_⟩;have hb:=uq HB;have hrb:=uq HRb;have hgb:=uq HGb;have hwb:=(uq HBX).2.2;have hfr:Fr (λi=>i=b) w w4:=(uq HSF).1.inner (uq HL4).ro.fr (λi hi x=>by rcases x with x|x;exact x;omega);have hfr2:Fr (λi=>i=b) w (w4.setCell ⟨rb,0,none⟩ (.slice a n cap)):=hfr.inner ((Fr.refl (λi=>i=rb) w4).set ⟨rb,0,none⟩ _ rfl rfl) (λi hi x=>by omega);have hsr:Sr (w4.setCell ⟨rb,0,none⟩ (.slice a n cap)) b _:=(uq HL4).sr.set ⟨rb,0,none⟩ _ (by show b<rb;omega);refine zjd (Z:=bnd (bnd (bnd X1 (zaL [114,105,110,103] 2 86 2 zaU)) zbS) (zad [125])) ⟨hfr2,hsr⟩ ?_ ?_ ?_
     ·have:=((uq HG1).trans (uq HQ).2).trans (uq HD4).2;simpa using this
     ·simp only[zav,zaY];rw[uq HX1]
     ·refine zcC ?_ (za2 _ _);exact Rd.move _ _ _ _ (uq HL4).fin.1 (λi hi _=>⟨Below.heap_setCell _ _ _ _ (by show i≠rb;omega),by omega⟩)
   |true=>
    obtain⟨t,r,hY,hY3,ht,hne⟩:=zcK hbg;have HYY:=zh hY;have HTS:=zh ht;have HNE:=zh hne;subst hY3;clear hbg hY ht hne;have HSR:Hid (SF w3 b (zaz (.ok (([]:List D),r))) (w3.alloc (.cells #[.bool false,.slice none 0 0] 86))):=zh (SF.keep ⟨.refl _ _,(uq HL3).sr⟩ ((zk w3).alloc _));have hb3:b<w3.heap.size:=(uq HL3).sr.bl;have HB3:=zh hb3;have hgw:=(uq HL3).gw;have n3:¬w3.heap.size=b:=by omega
    have ng:¬gb=b:=by have:=uq HB;have:=uq HRb;have:=uq HGb;omega
    have cg:=(uq HL3).cell.1;have CG:=zh cg;clear cg;go_wp2_with fail
    (refine(zef (Y:=zaz (.ok (([]:List D),r))) [102,114,101,101] rfl (uq HSR).2).mono ?_;rintro e wx ⟨rfl,rfl⟩);generalize hfq:isq [102,114,101,101] (zaz (.ok (([]:List D),r)))=fq;cases fq with
    |true=>
     have HMY:=zh (zfO rfl (uq HSR).2 hfq);clear hfq;go_wp2_with fail
     (refine(zch (Y:=zaz (.ok (([]:List D),r))) ((uq HL3).sr.keep ((zk w3).alloc _))).mono ?_;rintro e wx ⟨t8,rfl,_,hf,hs,_⟩;have HSN:Hid (SF w3 b (zaz (bnd (.ok (([]:List D),r)) (zaQ [102,114,101,101]))) wx):=zh ⟨(Fr.keep ((zk w3).alloc _)).trans hf,by rw[(uq HMY).1];exact hs⟩;obtain⟨o3,q3,k3,rfl⟩:=zaD hf ((uq HL3).sr.keep ((zk w3).alloc _)).bl;clear hf hs);obtain⟨X3,HX3⟩:∃ Z,Hid (bnd (.ok (([]:List D),r)) (zaQ [102,114,101,101])=Z):=⟨_,rfl⟩;rw[uq HX3]at HSN HMY;go_wp2_with fail
     (refine(zbW (X:=X3) 4 (by decide) (by decide) (uq HSN).2).mono ?_;rintro e w5 ⟨a5,n5,c5,L5,rfl,hd,hrd⟩;have HSK:=zh ((uq HSN).step hd);have HGK:=zh ((uq HMY).2.trans hd.2.2);have HRD:=zh hrd;obtain⟨o4,q4,k4,rfl⟩:=zaD hd.1 (uq HSN).2.bl;clear hd hrd);rw[za6 (uq HB3)]at HSK HRD |-;generalize q3++q4=q5 at HSK HRD |-;obtain⟨xs,hown⟩:=(uq HL3).own (W6:=chg (w3.alloc (.cells #[.bool true,.slice a5 n5 c5] 86)) b o4 q5 k4) (SF.box1 (uq HB3) (uq HSK)).1;have HOWN:=zh hown;have HRD6:Hid (Rds (chg (w3.alloc (.cells #[.bool true,.slice a5 n5 c5] 86)) b o4 q5 k4) [dB true,.row 9 1 L5] (λi=>w3.heap.size<=i) [.bool true,.slice a5 n5 c5]):=zh (zlq _ (zcC (Rd.move _ _ _ _ (uq HRD) (λi hi _=>by have h9:w3.heap.size+1<=i:=(by have:=hi;simp only[zbe,World.size_alloc]at this;omega);exact⟨zgh (uq HB3) (by omega),by omega⟩)) (za2 _ _)));clear hown;have cg:=uq CG;have hn2:=uq HM;go_wp2_with (at_builtin;refine wpList_append_own_at _ rfl _ _ 82 rfl 0 86 i0 _ 2 32 Tryz.underlying82 (uq HI0) (uq HZ0) (uq HZ1) (uq HZ2) rfl (by decide) _ _ xs rfl ((uq HOWN).alloc _) ⟨w3.heap.size+1+q5.size,0,none⟩ 1 1 [.bool true,.slice a5 n5 c5] rfl rfl (by have hnc:=new_cells (chg (w3.alloc (.cells #[.bool true,.slice a5 n5 c5] 86)) b o4 q5 k4) [.bool true,.slice a5 n5 c5] 86;rw[zbe,World.size_alloc]at hnc;exact hnc) (by simp[Value.oneCell']) (by unfold maxLen;omega) (by omega) (Nat.zero_le _) ?_;intro v' w8 hown' hgrow hnil hat;obtain⟨g',cp',rfl⟩:=zaP hown';have A:=(uq HL3).app (SF.box1 (uq HB3) (uq HSK)).1 (SF.box1 (uq HB3) (uq HSK)).2 (uq HRD6) rfl ((zk _).alloc _) (uq HOWN) hown' hgrow hat;have HLS:=zh A.1;have c8:=A.2.1;have f8:=A.2.2;clear hown' hgrow hnil hat A)
     go_roundw
     case rel=>
      refine⟨_,n+1,cp',_,_,HLS,zh ?_,zh (by have:=uq HNE;omega)⟩;rw[<- uq HE,uq HYY];have hb9:bnb (.ok (([]:List D),r)) zaU=bnd X3 (sq [zar 9 4,zad [59]]):=by
       show sq [zaQ [102,114,101,101],zar 9 4,zad [59]] [] r=_;rw[show sq [zaQ [102,114,101,101],zar 9 4,zad [59]] [] r=bnd (.ok ([],r)) (sq [zaQ [102,114,101,101],zar 9 4,zad [59]])from rfl,zav,uq HX3]
      rw[zbD zbb (uq HTS) (by rw[(uq HL).hn];exact uq HNE) (cs:= [dB true,.row 9 1 L5]) (λc r' e=>by
       have e2:bnd X3 (sq [zar 9 4,zad [59]])= .ok (c,r'):=by rw[<- hb9];exact e
       obtain⟨c0,r0,h0,h1⟩:=(uq HGK) c r' e2;simp only[Except.ok.injEq,Prod.mk.injEq]at h0;rw[h1,<- h0.1];rfl)]
      rw[show zaz (zaU r)=zaz (bnd X3 (sq [zar 9 4,zad [59]])) by rw[<- hb9];rfl]
     case measure=>
      have hb9:zaU r=bnd X3 (sq [zar 9 4,zad [59]]):=by
       rw[show zaU r=bnd (.ok ([],r)) (sq [zaQ [102,114,101,101],zar 9 4,zad [59]])from rfl,zav,uq HX3]
      exact zbj (word:= [114,105,110,103]) (n:=n) (most:=2) (body:=zaU) zbb (uq HYY) (uq HL).sr (by rw[hb9];exact(uq HLS).sr)
    |false=>
     have HMY:=zh (zhw (uq HSR).2 hfq);have HSN:Hid (SF w3 b (zaz (bnd (.ok (([]:List D),r)) (zaQ [102,114,101,101]))) (w3.alloc (.cells #[.bool false,.slice none 0 0] 86))):=zh (by rw[(uq HMY).1];exact uq HSR);clear hfq;obtain⟨X3,HX3⟩:∃ Z,Hid (bnd (.ok (([]:List D),r)) (zaQ [102,114,101,101])=Z):=⟨_,rfl⟩;rw[uq HX3]at HSN HMY;go_wp2_with fail
     (refine(zbW (X:=X3) 4 (by decide) (by decide) (uq HSN).2).mono ?_;rintro e w5 ⟨a5,n5,c5,L5,rfl,hd,hrd⟩;have HSK:=zh ((uq HSN).step hd);have HGK:=zh ((uq HMY).2.trans hd.2.2);have HRD:=zh hrd;obtain⟨o4,q5,k4,rfl⟩:=zaD hd.1 (uq HSN).2.bl;clear hd hrd);obtain⟨xs,hown⟩:=(uq HL3).own (W6:=chg (w3.alloc (.cells #[.bool false,.slice a5 n5 c5] 86)) b o4 q5 k4) (SF.box1 (uq HB3) (uq HSK)).1;have HOWN:=zh hown;have HRD6:Hid (Rds (chg (w3.alloc (.cells #[.bool false,.slice a5 n5 c5] 86)) b o4 q5 k4) [dB false,.row 9 1 L5] (λi=>w3.heap.size<=i) [.bool false,.slice a5 n5 c5]):=zh (zlq _ (zcC (Rd.move _ _ _ _ (uq HRD) (λi hi _=>by have h9:w3.heap.size+1<=i:=(by have:=hi;simp only[zbe,World.size_alloc]at this;omega);exact⟨zgh (uq HB3) (by omega),by omega⟩)) (za2 _ _)));clear hown;have cg:=uq CG;have hn2:=uq HM;go_wp2_with (at_builtin;refine wpList_append_own_at _ rfl _ _ 82 rfl 0 86 i0 _ 2 32 Tryz.underlying82 (uq HI0) (uq HZ0) (uq HZ1) (uq HZ2) rfl (by decide) _ _ xs rfl ((uq HOWN).alloc _) ⟨w3.heap.size+1+q5.size,0,none⟩ 1 1 [.bool false,.slice a5 n5 c5] rfl rfl (by have hnc:=new_cells (chg (w3.alloc (.cells #[.bool false,.slice a5 n5 c5] 86)) b o4 q5 k4) [.bool false,.slice a5 n5 c5] 86;rw[zbe,World.size_alloc]at hnc;exact hnc) (by simp[Value.oneCell']) (by unfold maxLen;omega) (by omega) (Nat.zero_le _) ?_;intro v' w8 hown' hgrow hnil hat;obtain⟨g',cp',rfl⟩:=zaP hown';have A:=(uq HL3).app (SF.box1 (uq HB3) (uq HSK)).1 (SF.box1 (uq HB3) (uq HSK)).2 (uq HRD6) rfl ((zk _).alloc _) (uq HOWN) hown' hgrow hat;have HLS:=zh A.1;have c8:=A.2.1;have f8:=A.2.2;clear hown' hgrow hnil hat A)
     go_roundw
     case rel=>
      refine⟨_,n+1,cp',_,_,HLS,zh ?_,zh (by have:=uq HNE;omega)⟩;rw[<- uq HE,uq HYY];have hb9:bnb (.ok (([]:List D),r)) zaU=bnd X3 (sq [zar 9 4,zad [59]]):=by
       show sq [zaQ [102,114,101,101],zar 9 4,zad [59]] [] r=_;rw[show sq [zaQ [102,114,101,101],zar 9 4,zad [59]] [] r=bnd (.ok ([],r)) (sq [zaQ [102,114,101,101],zar 9 4,zad [59]])from rfl,zav,uq HX3]
      rw[zbD zbb (uq HTS) (by rw[(uq HL).hn];exact uq HNE) (cs:= [dB false,.row 9 1 L5]) (λc r' e=>by
       have e2:bnd X3 (sq [zar 9 4,zad [59]])= .ok (c,r'):=by rw[<- hb9];exact e
       obtain⟨c0,r0,h0,h1⟩:=(uq HGK) c r' e2;simp only[Except.ok.injEq,Prod.mk.injEq]at h0;rw[h1,<- h0.1];rfl)]
      rw[show zaz (zaU r)=zaz (bnd X3 (sq [zar 9 4,zad [59]])) by rw[<- hb9];rfl]
     case measure=>
      have hb9:zaU r=bnd X3 (sq [zar 9 4,zad [59]]):=by
       rw[show zaU r=bnd (.ok ([],r)) (sq [zaQ [102,114,101,101],zar 9 4,zad [59]])from rfl,zav,uq HX3]
      exact zbj (word:= [114,105,110,103]) (n:=n) (most:=2) (body:=zaU) zbb (uq HYY) (uq HL).sr (by rw[hb9];exact(uq HLS).sr)
 |false=>
  go_wp2_with fail
  (refine(zdd (Y:=zaz X1) 50 (by decide) (uq HS1).2).mono ?_;rintro e w2 ⟨rfl,hf,hs⟩;have HSF:Hid (SF w b (grY (zaz X1)) w2):=zh ⟨(uq HS1).1.trans hf,by rw[grY,if_neg (by rw[hq];simp)];exact hs⟩;have HBY:Hid (Bxs w2 rb [.slice none 0 0]/\Bxs w2 gb [.slice none 0 0]/\rb+2<=w2.heap.size):=zh ⟨(uq HBX).1.fr hf (by have:=uq HB;have:=uq HRb;omega),(uq HBX).2.1.fr hf (by have:=uq HB;have:=uq HRb;have:=uq HGb;omega),Nat.le_trans (uq HBX).2.2 hf.size⟩;clear hf hs);clear hq;go_wp2_with fail
  go_loopw [] (λwr=>∃(a:Option Addr) (n cap:Nat) (L:List (List D)) (Y:Except Er (List Tok)),Hid (LS b gb 0 w2 86 2 [.slice none 0 0] wr L a n cap Y)/\Hid (rwY [114,105,110,103] 2 zaU Y L=tgt)/\Hid (n<=2)) (λwr=>rem wr b)
  case atStart=>
   refine⟨none,0,0,[],grY (zaz X1),zh (LS.start (uq HSF).2 (uq HBY).2.1 rfl ?_ ?_),zh (uq HT).symm,zh (by omega)⟩
   ·have:=uq HB;have:=uq HRb;have:=uq HGb;omega
   ·have:=(uq HBY).2.2;have:=uq HRb;have:=uq HGb;omega
  case round=>
   obtain⟨a,n,cap,L,Y,HL,HE,HM⟩:=hrel;have cg:=(uq HL).cell.1;go_wp2_with fail
   (refine(zbq (Y:=Y) [114,105,110,103] rfl n 2 (uq HL).sr).mono ?_;rintro e w3 ⟨rfl,hf,hs⟩;have HL3:=zh ((uq HL).move hf hs);clear hf hs);clear cg;obtain⟨bq,Y3,hbg⟩:∃ bq Y3,bgn [114,105,110,103] n 2 Y=(bq,Y3):=⟨_,_,rfl⟩;rw[hbg]at HL3 |-;cases bq with
   |false=>
    have HY:=zh (zdA (body:=zaU) (L:=L) zbb (uq HL).sr.ne (by rw[(uq HL).hn];exact hbg));have HQ:=zh (zfh (e:=86) (uq HG1) (uq HS1).2 (by rw[<- uq HT,<- uq HE];exact uq HY));clear hbg;go_wp2_with fail
    (refine(zaW (X:=bnd (bnd X1 (zaL [114,105,110,103] 2 86 2 zaU)) zbS) [125] rfl (by rw[(uq HQ).1];exact(uq HL3).sr)).mono ?_;rintro e w4 ⟨rfl,hd⟩;have HL4:=zh ((uq HL3).move hd.1 hd.2.1);have HD4:=zh hd.2;clear hd);have cg:=(uq HL4).cell.1;have HR4:Hid (Bxs w4 rb [.slice none 0 0]):=zh ((uq HBY).1.move ((uq HL4).ro.fr.block rb (by have:=(uq HBY).2.2;have:=uq HRb;omega) (λx=>by have:=uq HB;have:=uq HRb;have:=uq HGb;omega)));have cr:=(uq HR4) 0 _ rfl;obtain⟨cr1,cr2⟩:=cr;go_wp2_with fail
    refine bodyPost_ret (v:= .agg #[.slice a n cap]) ?_ rfl ?_
    ·simp[results,Tryz.results81,go_sem,cr1]
    ·refine⟨a,n,cap,L,rfl,?_⟩;have hb:=uq HB;have hrb:=uq HRb;have hgb:=uq HGb;have hwb:=(uq HBY).2.2;have hfr:Fr (λi=>i=b) w w4:=(uq HSF).1.inner (uq HL4).ro.fr (λi hi x=>by rcases x with x|x;exact x;omega);have hfr2:Fr (λi=>i=b) w (w4.setCell ⟨rb,0,none⟩ (.slice a n cap)):=hfr.inner ((Fr.refl (λi=>i=rb) w4).set ⟨rb,0,none⟩ _ rfl rfl) (λi hi x=>by omega);have hsr:Sr (w4.setCell ⟨rb,0,none⟩ (.slice a n cap)) b _:=(uq HL4).sr.set ⟨rb,0,none⟩ _ (by show b<rb;omega);refine zjd (Z:=bnd (bnd (bnd X1 (zaL [114,105,110,103] 2 86 2 zaU)) zbS) (zad [125])) ⟨hfr2,hsr⟩ ?_ ?_ ?_
     ·have:=((uq HG1).trans (uq HQ).2).trans (uq HD4).2;simpa using this
     ·simp only[zav,zaY];rw[uq HX1]
     ·refine zcC ?_ (za2 _ _);exact Rd.move _ _ _ _ (uq HL4).fin.1 (λi hi _=>⟨Below.heap_setCell _ _ _ _ (by show i≠rb;omega),by omega⟩)
   |true=>
    obtain⟨t,r,hY,hY3,ht,hne⟩:=zcK hbg;have HYY:=zh hY;have HTS:=zh ht;have HNE:=zh hne;subst hY3;clear hbg hY ht hne;have HSR:Hid (SF w3 b (zaz (.ok (([]:List D),r))) (w3.alloc (.cells #[.bool false,.slice none 0 0] 86))):=zh (SF.keep ⟨.refl _ _,(uq HL3).sr⟩ ((zk w3).alloc _));have hb3:b<w3.heap.size:=(uq HL3).sr.bl;have HB3:=zh hb3;have hgw:=(uq HL3).gw;have n3:¬w3.heap.size=b:=by omega
    have ng:¬gb=b:=by have:=uq HB;have:=uq HRb;have:=uq HGb;omega
    have cg:=(uq HL3).cell.1;have CG:=zh cg;clear cg;go_wp2_with fail
    (refine(zef (Y:=zaz (.ok (([]:List D),r))) [102,114,101,101] rfl (uq HSR).2).mono ?_;rintro e wx ⟨rfl,rfl⟩);generalize hfq:isq [102,114,101,101] (zaz (.ok (([]:List D),r)))=fq;cases fq with
    |true=>
     have HMY:=zh (zfO rfl (uq HSR).2 hfq);clear hfq;go_wp2_with fail
     (refine(zch (Y:=zaz (.ok (([]:List D),r))) ((uq HL3).sr.keep ((zk w3).alloc _))).mono ?_;rintro e wx ⟨t8,rfl,_,hf,hs,_⟩;have HSN:Hid (SF w3 b (zaz (bnd (.ok (([]:List D),r)) (zaQ [102,114,101,101]))) wx):=zh ⟨(Fr.keep ((zk w3).alloc _)).trans hf,by rw[(uq HMY).1];exact hs⟩;obtain⟨o3,q3,k3,rfl⟩:=zaD hf ((uq HL3).sr.keep ((zk w3).alloc _)).bl;clear hf hs);obtain⟨X3,HX3⟩:∃ Z,Hid (bnd (.ok (([]:List D),r)) (zaQ [102,114,101,101])=Z):=⟨_,rfl⟩;rw[uq HX3]at HSN HMY;go_wp2_with fail
     (refine(zbW (X:=X3) 4 (by decide) (by decide) (uq HSN).2).mono ?_;rintro e w5 ⟨a5,n5,c5,L5,rfl,hd,hrd⟩;have HSK:=zh ((uq HSN).step hd);have HGK:=zh ((uq HMY).2.trans hd.2.2);have HRD:=zh hrd;obtain⟨o4,q4,k4,rfl⟩:=zaD hd.1 (uq HSN).2.bl;clear hd hrd);rw[za6 (uq HB3)]at HSK HRD |-;generalize q3++q4=q5 at HSK HRD |-;obtain⟨xs,hown⟩:=(uq HL3).own (W6:=chg (w3.alloc (.cells #[.bool true,.slice a5 n5 c5] 86)) b o4 q5 k4) (SF.box1 (uq HB3) (uq HSK)).1;have HOWN:=zh hown;have HRD6:Hid (Rds (chg (w3.alloc (.cells #[.bool true,.slice a5 n5 c5] 86)) b o4 q5 k4) [dB true,.row 9 1 L5] (λi=>w3.heap.size<=i) [.bool true,.slice a5 n5 c5]):=zh (zlq _ (zcC (Rd.move _ _ _ _ (uq HRD) (λi hi _=>by have h9:w3.heap.size+1<=i:=(by have:=hi;simp only[zbe,World.size_alloc]at this;omega);exact⟨zgh (uq HB3) (by omega),by omega⟩)) (za2 _ _)));clear hown;have cg:=uq CG;have hn2:=uq HM;go_wp2_with (at_builtin;refine wpList_append_own_at _ rfl _ _ 82 rfl 0 86 i0 _ 2 32 Tryz.underlying82 (uq HI0) (uq HZ0) (uq HZ1) (uq HZ2) rfl (by decide) _ _ xs rfl ((uq HOWN).alloc _) ⟨w3.heap.size+1+q5.size,0,none⟩ 1 1 [.bool true,.slice a5 n5 c5] rfl rfl (by have hnc:=new_cells (chg (w3.alloc (.cells #[.bool true,.slice a5 n5 c5] 86)) b o4 q5 k4) [.bool true,.slice a5 n5 c5] 86;rw[zbe,World.size_alloc]at hnc;exact hnc) (by simp[Value.oneCell']) (by unfold maxLen;omega) (by omega) (Nat.zero_le _) ?_;intro v' w8 hown' hgrow hnil hat;obtain⟨g',cp',rfl⟩:=zaP hown';have A:=(uq HL3).app (SF.box1 (uq HB3) (uq HSK)).1 (SF.box1 (uq HB3) (uq HSK)).2 (uq HRD6) rfl ((zk _).alloc _) (uq HOWN) hown' hgrow hat;have HLS:=zh A.1;have c8:=A.2.1;have f8:=A.2.2;clear hown' hgrow hnil hat A)
     go_roundw
     case rel=>
      refine⟨_,n+1,cp',_,_,HLS,zh ?_,zh (by have:=uq HNE;omega)⟩;rw[<- uq HE,uq HYY];have hb9:bnb (.ok (([]:List D),r)) zaU=bnd X3 (sq [zar 9 4,zad [59]]):=by
       show sq [zaQ [102,114,101,101],zar 9 4,zad [59]] [] r=_;rw[show sq [zaQ [102,114,101,101],zar 9 4,zad [59]] [] r=bnd (.ok ([],r)) (sq [zaQ [102,114,101,101],zar 9 4,zad [59]])from rfl,zav,uq HX3]
      rw[zbD zbb (uq HTS) (by rw[(uq HL).hn];exact uq HNE) (cs:= [dB true,.row 9 1 L5]) (λc r' e=>by
       have e2:bnd X3 (sq [zar 9 4,zad [59]])= .ok (c,r'):=by rw[<- hb9];exact e
       obtain⟨c0,r0,h0,h1⟩:=(uq HGK) c r' e2;simp only[Except.ok.injEq,Prod.mk.injEq]at h0;rw[h1,<- h0.1];rfl)]
      rw[show zaz (zaU r)=zaz (bnd X3 (sq [zar 9 4,zad [59]])) by rw[<- hb9];rfl]
     case measure=>
      have hb9:zaU r=bnd X3 (sq [zar 9 4,zad [59]]):=by
       rw[show zaU r=bnd (.ok ([],r)) (sq [zaQ [102,114,101,101],zar 9 4,zad [59]])from rfl,zav,uq HX3]
      exact zbj (word:= [114,105,110,103]) (n:=n) (most:=2) (body:=zaU) zbb (uq HYY) (uq HL).sr (by rw[hb9];exact(uq HLS).sr)
    |false=>
     have HMY:=zh (zhw (uq HSR).2 hfq);have HSN:Hid (SF w3 b (zaz (bnd (.ok (([]:List D),r)) (zaQ [102,114,101,101]))) (w3.alloc (.cells #[.bool false,.slice none 0 0] 86))):=zh (by rw[(uq HMY).1];exact uq HSR);clear hfq;obtain⟨X3,HX3⟩:∃ Z,Hid (bnd (.ok (([]:List D),r)) (zaQ [102,114,101,101])=Z):=⟨_,rfl⟩;rw[uq HX3]at HSN HMY;go_wp2_with fail
     (refine(zbW (X:=X3) 4 (by decide) (by decide) (uq HSN).2).mono ?_;rintro e w5 ⟨a5,n5,c5,L5,rfl,hd,hrd⟩;have HSK:=zh ((uq HSN).step hd);have HGK:=zh ((uq HMY).2.trans hd.2.2);have HRD:=zh hrd;obtain⟨o4,q5,k4,rfl⟩:=zaD hd.1 (uq HSN).2.bl;clear hd hrd);obtain⟨xs,hown⟩:=(uq HL3).own (W6:=chg (w3.alloc (.cells #[.bool false,.slice a5 n5 c5] 86)) b o4 q5 k4) (SF.box1 (uq HB3) (uq HSK)).1;have HOWN:=zh hown;have HRD6:Hid (Rds (chg (w3.alloc (.cells #[.bool false,.slice a5 n5 c5] 86)) b o4 q5 k4) [dB false,.row 9 1 L5] (λi=>w3.heap.size<=i) [.bool false,.slice a5 n5 c5]):=zh (zlq _ (zcC (Rd.move _ _ _ _ (uq HRD) (λi hi _=>by have h9:w3.heap.size+1<=i:=(by have:=hi;simp only[zbe,World.size_alloc]at this;omega);exact⟨zgh (uq HB3) (by omega),by omega⟩)) (za2 _ _)));clear hown;have cg:=uq CG;have hn2:=uq HM;go_wp2_with (at_builtin;refine wpList_append_own_at _ rfl _ _ 82 rfl 0 86 i0 _ 2 32 Tryz.underlying82 (uq HI0) (uq HZ0) (uq HZ1) (uq HZ2) rfl (by decide) _ _ xs rfl ((uq HOWN).alloc _) ⟨w3.heap.size+1+q5.size,0,none⟩ 1 1 [.bool false,.slice a5 n5 c5] rfl rfl (by have hnc:=new_cells (chg (w3.alloc (.cells #[.bool false,.slice a5 n5 c5] 86)) b o4 q5 k4) [.bool false,.slice a5 n5 c5] 86;rw[zbe,World.size_alloc]at hnc;exact hnc) (by simp[Value.oneCell']) (by unfold maxLen;omega) (by omega) (Nat.zero_le _) ?_;intro v' w8 hown' hgrow hnil hat;obtain⟨g',cp',rfl⟩:=zaP hown';have A:=(uq HL3).app (SF.box1 (uq HB3) (uq HSK)).1 (SF.box1 (uq HB3) (uq HSK)).2 (uq HRD6) rfl ((zk _).alloc _) (uq HOWN) hown' hgrow hat;have HLS:=zh A.1;have c8:=A.2.1;have f8:=A.2.2;clear hown' hgrow hnil hat A)
     go_roundw
     case rel=>
      refine⟨_,n+1,cp',_,_,HLS,zh ?_,zh (by have:=uq HNE;omega)⟩;rw[<- uq HE,uq HYY];have hb9:bnb (.ok (([]:List D),r)) zaU=bnd X3 (sq [zar 9 4,zad [59]]):=by
       show sq [zaQ [102,114,101,101],zar 9 4,zad [59]] [] r=_;rw[show sq [zaQ [102,114,101,101],zar 9 4,zad [59]] [] r=bnd (.ok ([],r)) (sq [zaQ [102,114,101,101],zar 9 4,zad [59]])from rfl,zav,uq HX3]
      rw[zbD zbb (uq HTS) (by rw[(uq HL).hn];exact uq HNE) (cs:= [dB false,.row 9 1 L5]) (λc r' e=>by
       have e2:bnd X3 (sq [zar 9 4,zad [59]])= .ok (c,r'):=by rw[<- hb9];exact e
       obtain⟨c0,r0,h0,h1⟩:=(uq HGK) c r' e2;simp only[Except.ok.injEq,Prod.mk.injEq]at h0;rw[h1,<- h0.1];rfl)]
      rw[show zaz (zaU r)=zaz (bnd X3 (sq [zar 9 4,zad [59]])) by rw[<- hb9];rfl]
     case measure=>
      have hb9:zaU r=bnd X3 (sq [zar 9 4,zad [59]]):=by
       rw[show zaU r=bnd (.ok ([],r)) (sq [zaQ [102,114,101,101],zar 9 4,zad [59]])from rfl,zav,uq HX3]
      exact zbj (word:= [114,105,110,103]) (n:=n) (most:=2) (body:=zaU) zbb (uq HYY) (uq HL).sr (by rw[hb9];exact(uq HLS).sr)
end Q
namespace Q
theorem zsv:(Tryz.prog.info? 48).map (λi=>(i.zero,i.size,i.bytes))=some (some (.agg #[.string ⟨#[]⟩,.string ⟨#[]⟩,.string ⟨#[]⟩,.int .i64 0,.int .i64 0,.int .i64 0]),6,72):=by kernel_rfl
def zpx:List Sp:= [zad [123],zaL [115,116,111,112] 12 48 6 zbC,zad [119,101,105,103,104,116,115],zao,zao,zad [59],zad [125]]
set_option maxHeartbeats 8000000 in
theorem zh9 {w:World} {b:Nat} {X:Rs} (h:Sr w b (zaz X)):Calls Tryz.prog 53 #[.pointer (some ⟨b,0,none⟩)] w λr w'=>∃ a n cap x y L,r= .returned (.tuple #[.slice a n cap,.int .i64 x,.int .i64 y])/\Did (sq zpx) [.row 48 6 L,dI x,dI y] b X w w'/\Rd w' (.row 48 6 L) (λi=>w.heap.size<=i) (.slice a n cap):=by
 obtain⟨i0,hi,hz0,hz1,hz2⟩:=zaG zsv;have HI0:=zh hi;have HZ0:=zh hz0;have HZ1:=zh hz1;have HZ2:=zh hz2;clear hi hz0 hz1 hz2;have HS:=zh h;have HB:=zh h.bl;clear h;go_enter Tryz.func53,Tryz.ntmps53;go_wp2_with fail
 (refine(zaW (X:=X) [123] rfl (uq HS)).mono ?_;rintro e w1 ⟨rfl,hd⟩;have HD1:=zh hd;clear hd);obtain⟨XA,HXA⟩:∃ Z,Hid (bnd X (zad [123])=Z):=⟨_,rfl⟩;have HSA:=zh (uq HD1).2.1;have HGA:=zh (uq HD1).2.2;have HFA:=zh (uq HD1).1;rw[uq HXA]at HSA HGA;clear HD1;obtain⟨tgt,HT⟩:∃ tgt,Hid (tgt=rwY [115,116,111,112] 12 zbC (zaz XA) []):=⟨_,rfl⟩;go_wp2_with fail
 go_loopw [5] (λu5 wr=>∃(a:Option Addr) (n cap:Nat) (L:List (List D)) (Y:Except Er (List Tok)),u5= .slice a n cap/\Hid (RO (λi=>i=b) w 48 6 wr L (.slice a n cap))/\Hid (Sr wr b Y)/\Hid (rwY [115,116,111,112] 12 zbC Y L=tgt)/\Hid (L.length=n/\n<=12)) (λu5 wr=>rem wr b)
 case atStart=>
  exact⟨none,0,0,[],zaz XA,rfl,zh ((RO.start _ _ _ _).move (uq HFA) (λi x=>⟨x,x▸uq HB⟩)),HSA,zh (uq HT).symm,zh ⟨rfl,by omega⟩⟩
 case round=>
  obtain⟨a,n,cap,L,Y,rfl,HR,HSY,HE,HN⟩:=hrel;go_wp2_with fail
  (refine(zbq (Y:=Y) [115,116,111,112] rfl n 12 (uq HSY)).mono ?_;rintro e w3 ⟨rfl,hf,hs⟩;have HR3:=zh ((uq HR).move hf (λi x=>⟨x,x▸uq HB⟩));have HS3:=zh hs;clear hf hs);obtain⟨bq,Y3,hbg⟩:∃ bq Y3,bgn [115,116,111,112] n 12 Y=(bq,Y3):=⟨_,_,rfl⟩;rw[hbg]at HS3 |-;cases bq with
  |false=>
   have HY:=zh (zdA (body:=zbC) (L:=L) zcI (uq HSY).ne (by rw[(uq HN).1];exact hbg));have HQ:=zh (zds (e:=48) (z:=6) (X:=XA) (by rw[<- uq HT,<- uq HE];exact uq HY));clear hbg;obtain⟨XB,HXB⟩:∃ Z,Hid (bnd XA (zaL [115,116,111,112] 12 48 6 zbC)=Z):=⟨_,rfl⟩;rw[uq HXB]at HQ;have HG0:=zh ((uq HGA).trans (uq HQ).2);have HS0:Hid (Sr w3 b (zaz XB)):=zh (by rw[(uq HQ).1];exact uq HS3);go_wp2_with fail
   (refine(zaB (X:=XB) [119,101,105,103,104,116,115] rfl (uq HS0)).mono ?_;rintro e w4 ⟨x,rfl,_,hd⟩;have HR4:=zh ((uq HR3).move hd.1 (λi x=>⟨x,x▸uq HB⟩));have HS4:=zh hd.2.1;have HG4:=zh ((uq HG0).trans hd.2.2);clear hd);obtain⟨XC,HXC⟩:∃ Z,Hid (bnd XB (sq [zad [119,101,105,103,104,116,115],zao])=Z):=⟨_,rfl⟩;rw[uq HXC]at HS4 HG4;go_wp2_with fail
   (refine(zfE (X:=XC) (uq HS4)).mono ?_;rintro e w5 ⟨y,rfl,_,hd⟩;have HR5:=zh ((uq HR4).move hd.1 (λi x=>⟨x,x▸uq HB⟩));have HS5:=zh hd.2.1;have HG5:=zh ((uq HG4).trans hd.2.2);clear hd);obtain⟨XD,HXD⟩:∃ Z,Hid (bnd XC zao=Z):=⟨_,rfl⟩;rw[uq HXD]at HS5 HG5;go_wp2_with fail
   (refine(zaW (X:=XD) [59] rfl (uq HS5)).mono ?_;rintro e w6 ⟨rfl,hd⟩;have HR6:=zh ((uq HR5).move hd.1 (λi x=>⟨x,x▸uq HB⟩));have HS6:=zh hd.2.1;have HG6:=zh ((uq HG5).trans hd.2.2);clear hd);obtain⟨XE,HXE⟩:∃ Z,Hid (bnd XD (zad [59])=Z):=⟨_,rfl⟩;rw[uq HXE]at HS6 HG6;go_wp2_with fail
   (refine(zaW (X:=XE) [125] rfl (uq HS6)).mono ?_;rintro e w7 ⟨rfl,hd⟩;have HR7:=zh ((uq HR6).move hd.1 (λi x=>⟨x,x▸uq HB⟩));have HS7:=zh hd.2.1;have HG7:=zh ((uq HG6).trans hd.2.2);clear hd);go_wp2_with fail
   go_ret3
   refine⟨a,n,cap,x,y,L,rfl,?_,(uq HR7).row⟩;have e1:bnd X (sq zpx)=bnd XE (zad [125]):=by
    have a1:=uq HXA;have a2:=uq HXB;have a3:=uq HXC;have a4:=uq HXD;have a5:=uq HXE;simp only[zpx,zav,zaY]at a3 |-;rw[a1,a2,a3,a4,a5]
   unfold Did
   rw[e1];exact⟨(uq HR7).fr,uq HS7,by simpa using uq HG7⟩
  |true=>
   obtain⟨t,r,hY,hY3,ht,hne⟩:=zcK hbg;have HYY:=zh hY;have HTS:=zh ht;have HNE:=zh hne;subst hY3;clear hbg hY ht hne;have hb3:b<w3.heap.size:=(uq HS3).bl;have HB3:=zh hb3;have n3:¬w3.heap.size=b:=by omega
   have hsr:=uq HS3;obtain⟨ad,cq,e9,p9,t9,r9,h1,h2⟩:=hsr.front;obtain⟨t0,t1,t2,t3⟩:=h1.tok;have hp:=zdW (X:= .ok (([]:List D),r)) hsr h1 h2;obtain⟨X0,HX0⟩:∃ Z,Hid (bnd (.ok (([]:List D),r)) zaN=Z):=⟨_,rfl⟩;rw[uq HX0]at hp;have HS0:Hid (SF w3 b (zaz X0) (w3.alloc (.cells #[.string ⟨#[]⟩,.string ⟨#[]⟩,.string ⟨#[]⟩,.int .i64 0,.int .i64 0,.int .i64 t9.p] 48))):=zh (SF.keep ⟨.refl _ _,hp.1⟩ ((zk _).alloc _));have HG0:=zh hp.2;have c0:=h1.c0;simp only[List.length_cons]at c0;clear hp h1 h2 t0 t1 t2 hsr
   go_upto_region 5 with fail
   clear c0 t3;go_wp2_with fail
   (refine(zax (X:=X0) (uq HS0).2).mono ?_;rintro e w1 ⟨s1,rfl,hd⟩;have HS1:=zh ((uq HS0).step hd);have HG1:=zh ((uq HG0).trans hd.2.2);obtain⟨o1,q1,k1,rfl⟩:=zaD hd.1 (uq HS0).2.bl;clear hd);obtain⟨X1,HX1⟩:∃ Z,Hid (bnd X0 zai=Z):=⟨_,rfl⟩;rw[uq HX1]at HS1 HG1;go_wp2_with fail
   (refine(zaW (X:=X1) [111,117,116] rfl (SF.box1 (uq HB3) (uq HS1)).2).mono ?_;rintro e w1 ⟨rfl,hd⟩;have HS2:=zh ((SF.box1 (uq HB3) (uq HS1)).step hd);have HG2:=zh ((uq HG1).trans hd.2.2);obtain⟨o2,q2,k2,rfl⟩:=zaD hd.1 (SF.box1 (uq HB3) (uq HS1)).2.bl;clear hd);rw[za6 (uq HB3)]at HS2 |-;generalize q1++q2=q2 at HS2 |-;obtain⟨X2,HX2⟩:∃ Z,Hid (bnd X1 (zad [111,117,116])=Z):=⟨_,rfl⟩;rw[uq HX2]at HS2 HG2;go_wp2_with fail
   (refine(zax (X:=X2) (SF.box1 (uq HB3) (uq HS2)).2).mono ?_;rintro e w1 ⟨s3,rfl,hd⟩;have HS3:=zh ((SF.box1 (uq HB3) (uq HS2)).step hd);have HG3:=zh ((uq HG2).trans hd.2.2);obtain⟨o3,q3,k3,rfl⟩:=zaD hd.1 (SF.box1 (uq HB3) (uq HS2)).2.bl;clear hd);rw[za6 (uq HB3)]at HS3 |-;generalize q2++q3=q3 at HS3 |-;obtain⟨X3,HX3⟩:∃ Z,Hid (bnd X2 zai=Z):=⟨_,rfl⟩;rw[uq HX3]at HS3 HG3;go_wp2_with fail
   (refine(zaW (X:=X3) [105,110] rfl (SF.box1 (uq HB3) (uq HS3)).2).mono ?_;rintro e w1 ⟨rfl,hd⟩;have HS4:=zh ((SF.box1 (uq HB3) (uq HS3)).step hd);have HG4:=zh ((uq HG3).trans hd.2.2);obtain⟨o4,q4,k4,rfl⟩:=zaD hd.1 (SF.box1 (uq HB3) (uq HS3)).2.bl;clear hd);rw[za6 (uq HB3)]at HS4 |-;generalize q3++q4=q4 at HS4 |-;obtain⟨X4,HX4⟩:∃ Z,Hid (bnd X3 (zad [105,110])=Z):=⟨_,rfl⟩;rw[uq HX4]at HS4 HG4;go_wp2_with fail
   (refine(zax (X:=X4) (SF.box1 (uq HB3) (uq HS4)).2).mono ?_;rintro e w1 ⟨s5,rfl,hd⟩;have HS5:=zh ((SF.box1 (uq HB3) (uq HS4)).step hd);have HG5:=zh ((uq HG4).trans hd.2.2);obtain⟨o5,q5,k5,rfl⟩:=zaD hd.1 (SF.box1 (uq HB3) (uq HS4)).2.bl;clear hd);rw[za6 (uq HB3)]at HS5 |-;generalize q4++q5=q5 at HS5 |-;obtain⟨X5,HX5⟩:∃ Z,Hid (bnd X4 zai=Z):=⟨_,rfl⟩;rw[uq HX5]at HS5 HG5;go_wp2_with fail
   (refine(zaB (X:=X5) [97,104,101,97,100] rfl (SF.box1 (uq HB3) (uq HS5)).2).mono ?_;rintro e w1 ⟨n6,rfl,_,hd⟩;have HS6:=zh ((SF.box1 (uq HB3) (uq HS5)).step hd);have HG6:=zh ((uq HG5).trans hd.2.2);obtain⟨o6,q6,k6,rfl⟩:=zaD hd.1 (SF.box1 (uq HB3) (uq HS5)).2.bl;clear hd);rw[za6 (uq HB3)]at HS6 |-;generalize q5++q6=q6 at HS6 |-;obtain⟨X6,HX6⟩:∃ Z,Hid (bnd X5 (sq [zad [97,104,101,97,100],zao])=Z):=⟨_,rfl⟩;rw[uq HX6]at HS6 HG6;go_wp2_with fail
   (refine(zaB (X:=X6) [98,97,99,107] rfl (SF.box1 (uq HB3) (uq HS6)).2).mono ?_;rintro e w1 ⟨n7,rfl,_,hd⟩;have HS7:=zh ((SF.box1 (uq HB3) (uq HS6)).step hd);have HG7:=zh ((uq HG6).trans hd.2.2);obtain⟨o7,q7,k7,rfl⟩:=zaD hd.1 (SF.box1 (uq HB3) (uq HS6)).2.bl;clear hd);rw[za6 (uq HB3)]at HS7 |-;generalize q6++q7=q7 at HS7 |-;obtain⟨X7,HX7⟩:∃ Z,Hid (bnd X6 (sq [zad [98,97,99,107],zao])=Z):=⟨_,rfl⟩;rw[uq HX7]at HS7 HG7;go_wp2_with fail
   (refine(zaW (X:=X7) [59] rfl (SF.box1 (uq HB3) (uq HS7)).2).mono ?_;rintro e w1 ⟨rfl,hd⟩;have HS8:=zh ((SF.box1 (uq HB3) (uq HS7)).step hd);have HG8:=zh ((uq HG7).trans hd.2.2);obtain⟨o8,q8,k8,rfl⟩:=zaD hd.1 (SF.box1 (uq HB3) (uq HS7)).2.bl;clear hd);rw[za6 (uq HB3)]at HS8 |-;generalize q7++q8=q8 at HS8 |-;obtain⟨X8,HX8⟩:∃ Z,Hid (bnd X7 (zad [59])=Z):=⟨_,rfl⟩;rw[uq HX8]at HS8 HG8;have HRW:=zh ((uq HR3).move (SF.box1 (o1':= .cells #[.string (sv s1),.string (sv s3),.string (sv s5),.int .i64 n6,.int .i64 n7,.int .i64 t9.p] 48) (uq HB3) (uq HS8)).1 (λi x=>⟨x,x▸uq HB⟩));obtain⟨xs,hown,hlt⟩:=(uq HRW).shape;obtain⟨_,_,hlt3⟩:=(uq HR3).shape;rw[(uq HN).1]at hown;have HOWN:=zh hown;have HLT3:=zh hlt3;have HRD6:Hid (Rds (chg (w3.alloc (.cells #[.string (sv s1),.string (sv s3),.string (sv s5),.int .i64 n6,.int .i64 n7,.int .i64 t9.p] 48)) b o8 q8 k8) [dS s1,dS s3,dS s5,dI n6,dI n7,dI t9.p] (λi=>w3.heap.size<=i) [.string (sv s1),.string (sv s3),.string (sv s5),.int .i64 n6,.int .i64 n7,.int .i64 t9.p]):=zh (zcO _ (zcO _ (zcO _ (zaT _ (zaT _ (zaT _ (za2 _ _)))))));clear hown hlt hlt3;have hn2:=(uq HN).2;go_wp2_with (at_builtin;refine wpList_append_own_at _ rfl _ _ 25 rfl 0 48 i0 _ 6 72 Tryz.underlying25 (uq HI0) (uq HZ0) (uq HZ1) (uq HZ2) rfl (by decide) _ _ xs rfl ((uq HOWN).alloc _) ⟨w3.heap.size+1+q8.size,0,none⟩ 1 1 [.string (sv s1),.string (sv s3),.string (sv s5),.int .i64 n6,.int .i64 n7,.int .i64 t9.p] rfl rfl (by have hnc:=new_cells (chg (w3.alloc (.cells #[.string (sv s1),.string (sv s3),.string (sv s5),.int .i64 n6,.int .i64 n7,.int .i64 t9.p] 48)) b o8 q8 k8) [.string (sv s1),.string (sv s3),.string (sv s5),.int .i64 n6,.int .i64 n7,.int .i64 t9.p] 48;rw[zbe,World.size_alloc]at hnc;exact hnc) (by simp[Value.oneCell']) (by unfold maxLen;omega) (by omega) (Nat.zero_le _) ?_;intro v' w8 hown' hgrow hnil hat;obtain⟨g',cp',rfl⟩:=zaP hown';have A:=(uq HRW).app ((zk _).alloc _) (λi x=>x▸uq HB) (B:=w3.heap.size) (λg hg=>((uq HLT3) g hg).2) (uq HR3).fr.size (uq HRD6) rfl (by rw[(uq HN).1];exact uq HOWN) (by rw[(uq HN).1];exact hown') hgrow hat;have HA:=zh A;have HS9:Hid (Sr w8 b (zaz X8)):=zh ((SF.box1 (o1':= .cells #[.string (sv s1),.string (sv s3),.string (sv s5),.int .i64 n6,.int .i64 n7,.int .i64 t9.p] 48) (uq HB3) (uq HS8)).2.far (λi hi=>A.2 i (by have:=uq HB;omega)));clear hown' hgrow hnil hat A)
   have HB9:Hid (zbC r=zcc (λ_=>X8) []):=zh (by
    have a0:=uq HX0;have a1:=uq HX1;have a2:=uq HX2;have a3:=uq HX3;have a4:=uq HX4;have a5:=uq HX5;have a6:=uq HX6;have a7:=uq HX7;have a8:=uq HX8;have e2:bnd (.ok (([]:List D),r)) (sq [zaN,zai,zad [111,117,116],zai,zad [105,110],zai,zad [97,104,101,97,100],zao,zad [98,97,99,107],zao,zad [59]])=X8:=by
     simp only[zav,zaY]at a6 a7 |-;rw[a0,a1,a2,a3,a4,a5,a6,a7,a8]
    show zcc (sq _ []) r=_;simp only[zcc];rw[<- e2];rfl)
   have HTK:Hid (zaz (zbC r)=zaz X8):=zh (by rw[uq HB9];simp only[zcc];rcases X8 with x|⟨c,r'⟩<;>rfl);go_roundw
   case rel=>
    refine⟨_,n+1,cp',L++ [[dS s1,dS s3,dS s5,dI n6,dI n7,dI t9.p]],zaz X8,rfl,zh (uq HA).1,HS9,zh ?_,zh ⟨by rw[List.length_append,(uq HN).1];rfl,by have:=uq HNE;omega⟩⟩;rw[<- uq HE,uq HYY,zbD zcI (uq HTS) (by rw[(uq HN).1];exact uq HNE) (cs:= [dS s1,dS s3,dS s5,dI n6,dI n7,dI t9.p]) (λc r' e=>by
     rw[uq HB9]at e;simp only[zcc]at e;cases hX:X8 with
     |error x=>rw[hX]at e;cases e
     |ok q=>
      rw[hX]at e;obtain⟨c0,r0,h0,h1⟩:=(uq HG8) q.1 q.2 (by rw[hX]);simp only[Except.ok.injEq,Prod.mk.injEq]at h0 e;rw[<- e.1,h1,<- h0.1];rfl),uq HTK]
   case measure=>exact zbj (word:= [115,116,111,112]) (n:=n) (most:=12) (body:=zbC) zcI (uq HYY) (uq HSY) (by rw[uq HTK];exact uq HS9)
end Q
end Go.Proofs.YthceiikgecoimaaGreatDoor
