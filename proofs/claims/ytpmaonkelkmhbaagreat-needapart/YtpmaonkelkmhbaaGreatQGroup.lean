/- The document's reader: group. -/
import Derived.Test.YtpmaonkelkmhbaaGreatQLoop
namespace Go.Proofs.YtpmaonkelkmhbaaGreat
open Go.RowKit
attribute [local go_sem ↓] Go.wp_at_zero Go.wp_at_succ
set_option linter.unusedVariables false
set_option linter.unusedSimpArgs false
set_option maxRecDepth 10000
namespace Q
theorem zhi {w:World} {b:Nat} (hb:b<w.heap.size) (us1 us2:List Value) (t1 t2:TypeId) (o:Obj) (os:Array Obj) (k:Nat):Bxs (chg ((w.alloc (.cells us1.toArray t1)).alloc (.cells us2.toArray t2)) b o os k) w.heap.size us1∧Bxs (chg ((w.alloc (.cells us1.toArray t1)).alloc (.cells us2.toArray t2)) b o os k) (w.heap.size+1) us2∧w.heap.size+2≤(chg ((w.alloc (.cells us1.toArray t1)).alloc (.cells us2.toArray t2)) b o os k).heap.size:=by
 refine⟨(bxs_new w us1 t1).move ?_,?_,by simp only[zaA,World.size_alloc];omega⟩
 ·rw[zaL _ _ _ _ _ _ (by simp only[World.size_alloc];omega) (by omega),heap_alloc_old _ _ (by rw[World.size_alloc];omega)]
 ·have:=bxs_new (w.alloc (.cells us1.toArray t1)) us2 t2;rw[World.size_alloc]at this;refine this.move ?_;rw[zaL _ _ _ _ _ _ (by simp only[World.size_alloc];omega) (by omega)]
theorem zdZ {w:World} {b:Nat} (hb:b<w.heap.size) {o1 o1' ob:Obj} {os:Array Obj} {k i:Nat} (hi:i≠w.heap.size):(chg (w.alloc o1') b ob os k).heap[i]? =(chg (w.alloc o1) b ob os k).heap[i]? :=by
 by_cases e:i=b
 ·subst e;rw[zde _ _ _ _ _ (by rw[World.size_alloc];omega),zde _ _ _ _ _ (by rw[World.size_alloc];omega)]
 ·by_cases h:i<w.heap.size
  ·rw[zaL _ _ _ _ _ _ (by rw[World.size_alloc];omega) e,zaL _ _ _ _ _ _ (by rw[World.size_alloc];omega) e,heap_alloc_old _ _ h,heap_alloc_old _ _ h]
  ·simp only[chg];rw[Array.getElem?_append_right (by simp only[Array.size_setIfInBounds,World.size_alloc];omega),Array.getElem?_append_right (by simp only[Array.size_setIfInBounds,World.size_alloc];omega)];simp only[Array.size_setIfInBounds,World.size_alloc]
theorem zhj {X:Rs} {s:List UInt8} {w:World} {b:Nat} (hs:wrd s=true) (h:Sr w b (zad X)) (hi:isq s (zad X)=true):zad (bnd X (za0 s))=zdA (zad X)∧Got X (bnd X (za0 s)) [dB true]:=by
 obtain⟨c,t,r,rfl,he,hn⟩:=zew hs hi h;have e1:bnd (.ok (c,t :: r)) (za0 s)= .ok (c++ [dB true],r):=by show(if t.s=s then _ else _)=_;rw[if_pos he]
 rw[e1];exact⟨hn.symm,fun c2 r2 e2=>by cases e2;exact⟨c,_,rfl,rfl⟩⟩
theorem ziY {X:Rs} {s:List UInt8} {w:World} {b:Nat} (h:Sr w b (zad X)) (hi:isq s (zad X)=false):zad (bnd X (za0 s))=zad X∧Got X (bnd X (za0 s)) [dB false]:=by
 rcases X with x|⟨c,r⟩
 ·exact⟨rfl,fun c r e=>by cases e⟩
 ·obtain⟨ad,cap,p,t,r',e,h1⟩:=Sr.alive (r:=r) h;subst e;have hne:¬t.s=s:=by simpa [isq,zad]using hi
  have e1:bnd (.ok (c,t :: r')) (za0 s)= .ok (c++ [dB false],t :: r'):=by show(if t.s=s then _ else _)=_;rw[if_neg hne]
  rw[e1];exact⟨rfl,fun c2 r2 e2=>by cases e2;exact⟨c,_,rfl,rfl⟩⟩
theorem zis {w:World} {P:Nat→Prop} {ds:List D} {us:List Value} (x:Bool) (h:Rds w ds P us):Rds w (dB x :: ds) P (.bool x :: us):=by simp only[Rds];exact⟨_,_,rfl,⟨rfl,rfl⟩,h⟩
theorem zbk {w:World} {P:Nat→Prop} {d:D} {ds:List D} {u:Value} {us:List Value} (h1:Rd w d P u) (h:Rds w ds P us):Rds w (d :: ds) P (u :: us):=by simp only[Rds];exact⟨_,_,rfl,h1,h⟩
def grY (Y:Except Er (List Tok)):Except Er (List Tok):=if isq [114,105,110,103] Y then Y else zhe 50 Y
theorem zdf {X X1:Rs} {Y':Except Er (List Tok)} {L:List (List D)} {e:Nat} {w:World} {b:Nat} (hg:Got (zaZ X) X1 []) (hs:Sr w b (zad X1)) (h:rwY [114,105,110,103] 2 zaC (grY (zad X1)) []=rwF L Y'):zad (bnd (bnd X1 (zbT [114,105,110,103] 2 e 2 zaC)) zcr)=Y'∧Got X1 (bnd (bnd X1 (zbT [114,105,110,103] 2 e 2 zaC)) zcr) [.row e 2 L]:=by
 rcases X1 with x|⟨c,r⟩
 ·simp only[zad,grY,isq,zhe,rwY]at h;cases Y' with
  |error y=>simp only[rwF]at h;injection h with h;subst h;exact⟨rfl,fun c r e=>by cases e⟩
  |ok r=>cases h
 ·obtain⟨ad,cap,p,t,r',e0,h1⟩:=Sr.alive (r:=r) hs;subst e0;have hc:c= []:=by
   obtain⟨c0,r0,h0,h2⟩:=hg _ _ rfl;rcases X with x|⟨c1,r1⟩
   ·cases h0
   ·simp only[zaZ,Except.ok.injEq,Prod.mk.injEq]at h0;rw[h2,← h0.1];rfl
  subst hc;have eR:bnd (.ok ([],t :: r')) (zbT [114,105,110,103] 2 e 2 zaC)=match rw_ [114,105,110,103] 2 zaC [] (t :: r')with| .error x=> .error x| .ok (L,r2)=> .ok ([]++ [.row e 2 L],r2):=rfl
  by_cases hr:t.s= [114,105,110,103]
  ·have hq:isq [114,105,110,103] (zad (.ok (([]:List D),t :: r')))=true:=by simp[isq,zad,hr]
   rw[grY,if_pos hq]at h;have h':rw_ [114,105,110,103] 2 zaC [] (t :: r')=rwF L Y':=h;rw[eR,h'];cases Y' with
   |error y=>exact⟨rfl,fun c r e=>by cases e⟩
   |ok r1=>
    have hne:L≠ []:=by
     rintro rfl;rw[zdk _ _ _ zaK,if_pos hr,if_neg (by simp)]at h';cases hb:zaC r' with
     |error x=>rw[hb]at h';cases h'
     |ok q=>
      obtain⟨d,r2⟩:=q;rw[hb]at h';have:=zgf [114,105,110,103] 2 zaC _ _ _ _ _ h';simp at this
    have e2:bnd (.ok ([]++ [D.row e 2 L],r1)) zcr= .ok ([D.row e 2 L],r1):=by
     cases L with
     |nil=>exact absurd rfl hne
     |cons x L=>rfl
    show zad (bnd (.ok ([]++ [D.row e 2 L],r1)) zcr)=_∧Got _ (bnd (.ok ([]++ [D.row e 2 L],r1)) zcr) _;rw[e2];exact⟨rfl,fun c2 r2 e3=>by cases e3;exact⟨[],_,rfl,rfl⟩⟩
  ·have hq:isq [114,105,110,103] (zad (.ok (([]:List D),t :: r')))=false:=by simp[isq,zad,hr]
   rw[grY,if_neg (by rw[hq];simp)]at h;have h2:(Except.error (50,t.p):Except Er (List (List D)×List Tok))=rwF L Y':=h;have h3:rw_ [114,105,110,103] 2 zaC [] (t :: r')= .ok ([],t :: r'):=by rw[zdk _ _ _ zaK,if_neg hr]
   rw[eR,h3];cases Y' with
   |error y=>simp only[rwF,Except.error.injEq]at h2;subst h2;exact⟨rfl,fun c r e=>by cases e⟩
   |ok r1=>cases h2
theorem zlh:(Tryz.prog.info? 59).map (fun i=>(i.zero,i.size,i.bytes))=some (some (.agg #[.bool false,.slice none 0 0]),2,32):=by kernel_rfl
set_option maxHeartbeats 8000000 in
theorem zd0 {w:World} {b:Nat} {X:Rs} (h:Sr w b (zad X)):Calls Tryz.prog 50 #[.pointer (some ⟨b,0,none⟩)] w fun r w'=>∃ a n cap L,r= .returned (.agg #[.slice a n cap])∧zlN zbG [.row 59 2 L] [.slice a n cap] b X w w':=by
 obtain⟨i0,hi,hz0,hz1,hz2⟩:=zay zlh;have HI0:=hide hi;have HZ0:=hide hz0;have HZ1:=hide hz1;have HZ2:=hide hz2;clear hi hz0 hz1 hz2;have HS0:Hid (SF w b (zad (zaZ X)) ((w.alloc (.cells #[.slice none 0 0] 62)).alloc (.cells #[.slice none 0 0] 62))):=hide (SF.keep ⟨.refl _ _,by rw[zaV];exact h⟩ (zcu _ _ _));have HB:=hide h.bl;clear h;go_enter Tryz.func50,Tryz.ntmps50;go_wp2_with fail
 (refine(zag (X:=zaZ X) [123] rfl (uq HS0).2).mono ?_;rintro e w1 ⟨rfl,hd⟩;have HS1:=hide ((uq HS0).step hd);have HG1:=hide hd.2.2;obtain⟨o1,q1,k1,rfl⟩:=zaf hd.1 (uq HS0).2.bl;clear hd);obtain⟨X1,HX1⟩:∃ Z,Hid (bnd (zaZ X) (zah [123])=Z):=⟨_,rfl⟩;rw[uq HX1]at HS1 HG1;have HBX:=hide (zhi (uq HB) [.slice none 0 0] [.slice none 0 0] 62 62 o1 q1 k1);have HRB:=hide (rfl:w.heap.size=w.heap.size);generalize chg ((w.alloc (.cells #[.slice none 0 0] 62)).alloc (.cells #[.slice none 0 0] 62)) b o1 q1 k1=w1 at HS1 HBX ⊢;obtain⟨rb,HRb⟩:∃ rb,Hid (w.heap.size=rb):=⟨_,rfl⟩;rw[uq HRb]at HBX ⊢;obtain⟨gb,HGb⟩:∃ gb,Hid (rb+1=gb):=⟨_,rfl⟩;rw[uq HGb]at HBX ⊢;clear HS0 HRB;go_wp2_with fail
 (refine(zco (Y:=zad X1) [114,105,110,103] rfl (uq HS1).2).mono ?_;rintro e w1 ⟨rfl,rfl⟩);obtain⟨tgt,HT⟩:∃ tgt,Hid (tgt=rwY [114,105,110,103] 2 zaC (grY (zad X1)) []):=⟨_,rfl⟩;generalize hq:isq [114,105,110,103] (zad X1)=bq;cases bq with
 |true=>
  have HSF:Hid (SF w b (grY (zad X1)) w1):=hide (by rw[grY,if_pos hq];exact uq HS1);clear hq;go_wp2_with fail
  go_loopw [] (fun wr=>∃(a:Option Addr) (n cap:Nat) (L:List (List D)) (Y:Except Er (List Tok)),Hid (LS b gb 0 w1 59 2 [.slice none 0 0] wr L a n cap Y)∧Hid (rwY [114,105,110,103] 2 zaC Y L=tgt)∧Hid (n≤2)) (fun wr=>rem wr b)
  case atStart=>
   refine⟨none,0,0,[],grY (zad X1),hide (LS.start (uq HSF).2 (uq HBX).2.1 rfl ?_ ?_),hide (uq HT).symm,hide (by omega)⟩
   ·have:=uq HB;have:=uq HRb;have:=uq HGb;omega
   ·have:=(uq HBX).2.2;have:=uq HRb;have:=uq HGb;omega
  case round=>
   obtain⟨a,n,cap,L,Y,HL,HE,HM⟩:=hrel;have cg:=(uq HL).cell.1;go_wp2_with fail
   (refine(zaM (Y:=Y) [114,105,110,103] rfl n 2 (uq HL).sr).mono ?_;rintro e w3 ⟨rfl,hf,hs⟩;have HL3:=hide ((uq HL).move hf hs);clear hf hs);clear cg;obtain⟨bq,Y3,hbg⟩:∃ bq Y3,bgn [114,105,110,103] n 2 Y=(bq,Y3):=⟨_,_,rfl⟩;rw[hbg]at HL3 ⊢;cases bq with
   |false=>
    have HY:=hide (zbX (body:=zaC) (L:=L) zaK (uq HL).sr.ne (by rw[(uq HL).hn];exact hbg));have HQ:=hide (zdf (e:=59) (uq HG1) (uq HS1).2 (by rw[← uq HT,← uq HE];exact uq HY));clear hbg;go_wp2_with fail
    (refine(zag (X:=bnd (bnd X1 (zbT [114,105,110,103] 2 59 2 zaC)) zcr) [125] rfl (by rw[(uq HQ).1];exact(uq HL3).sr)).mono ?_;rintro e w4 ⟨rfl,hd⟩;have HL4:=hide ((uq HL3).move hd.1 hd.2.1);have HD4:=hide hd.2;clear hd);have cg:=(uq HL4).cell.1;have HR4:Hid (Bxs w4 rb [.slice none 0 0]):=hide ((uq HBX).1.move ((uq HL4).ro.fr.block rb (by have:=(uq HBX).2.2;have:=uq HRb;omega) (fun x=>by have:=uq HB;have:=uq HRb;have:=uq HGb;omega)));have cr:=(uq HR4) 0 _ rfl;obtain⟨cr1,cr2⟩:=cr;go_wp2_with fail
    refine bodyPost_ret (v:= .agg #[.slice a n cap]) ?_ rfl ?_
    ·simp[results,Tryz.results50,go_sem,cr1]
    ·refine⟨a,n,cap,L,rfl,?_⟩;have hb:=uq HB;have hrb:=uq HRb;have hgb:=uq HGb;have hwb:=(uq HBX).2.2;have hfr:Fr (fun i=>i=b) w w4:=(uq HSF).1.inner (uq HL4).ro.fr (fun i hi x=>by rcases x with x|x;exact x;omega);have hfr2:Fr (fun i=>i=b) w (w4.setCell ⟨rb,0,none⟩ (.slice a n cap)):=hfr.inner ((Fr.refl (fun i=>i=rb) w4).set ⟨rb,0,none⟩ _ rfl rfl) (fun i hi x=>by omega);have hsr:Sr (w4.setCell ⟨rb,0,none⟩ (.slice a n cap)) b _:=(uq HL4).sr.set ⟨rb,0,none⟩ _ (by show b<rb;omega);refine zhg (Z:=bnd (bnd (bnd X1 (zbT [114,105,110,103] 2 59 2 zaC)) zcr) (zah [125])) ⟨hfr2,hsr⟩ ?_ ?_ ?_
     ·have:=((uq HG1).trans (uq HQ).2).trans (uq HD4).2;simpa using this
     ·simp only[zac,zar];rw[uq HX1]
     ·refine zbk ?_ (zat _ _);exact Rd.move _ _ _ _ (uq HL4).fin.1 (fun i hi _=>⟨Below.heap_setCell _ _ _ _ (by show i≠rb;omega),by omega⟩)
   |true=>
    obtain⟨t,r,hY,hY3,ht,hne⟩:=zbq hbg;have HYY:=hide hY;have HTS:=hide ht;have HNE:=hide hne;subst hY3;clear hbg hY ht hne;have HSR:Hid (SF w3 b (zad (.ok (([]:List D),r))) (w3.alloc (.cells #[.bool false,.slice none 0 0] 59))):=hide (SF.keep ⟨.refl _ _,(uq HL3).sr⟩ ((Keep.refl w3).alloc _));have hb3:b<w3.heap.size:=(uq HL3).sr.bl;have HB3:=hide hb3;have hgw:=(uq HL3).gw;have n3:¬w3.heap.size=b:=by omega
    have ng:¬gb=b:=by have:=uq HB;have:=uq HRb;have:=uq HGb;omega
    have cg:=(uq HL3).cell.1;have CG:=hide cg;clear cg;go_wp2_with fail
    (refine(zco (Y:=zad (.ok (([]:List D),r))) [102,114,101,101] rfl (uq HSR).2).mono ?_;rintro e wx ⟨rfl,rfl⟩);generalize hfq:isq [102,114,101,101] (zad (.ok (([]:List D),r)))=fq;cases fq with
    |true=>
     have HMY:=hide (zhj rfl (uq HSR).2 hfq);clear hfq;go_wp2_with fail
     (refine(zbc (Y:=zad (.ok (([]:List D),r))) ((uq HL3).sr.keep ((Keep.refl w3).alloc _))).mono ?_;rintro e wx ⟨t8,rfl,_,hf,hs,_⟩;have HSN:Hid (SF w3 b (zad (bnd (.ok (([]:List D),r)) (za0 [102,114,101,101]))) wx):=hide ⟨(Fr.keep ((Keep.refl w3).alloc _)).trans hf,by rw[(uq HMY).1];exact hs⟩;obtain⟨o3,q3,k3,rfl⟩:=zaf hf ((uq HL3).sr.keep ((Keep.refl w3).alloc _)).bl;clear hf hs);obtain⟨X3,HX3⟩:∃ Z,Hid (bnd (.ok (([]:List D),r)) (za0 [102,114,101,101])=Z):=⟨_,rfl⟩;rw[uq HX3]at HSN HMY;go_wp2_with fail
     (refine(zby (X:=X3) 4 (by decide) (by decide) (uq HSN).2).mono ?_;rintro e w5 ⟨a5,n5,c5,L5,rfl,hd,hrd⟩;have HSK:=hide ((uq HSN).step hd);have HGK:=hide ((uq HMY).2.trans hd.2.2);have HRD:=hide hrd;obtain⟨o4,q4,k4,rfl⟩:=zaf hd.1 (uq HSN).2.bl;clear hd hrd);rw[zaw (uq HB3)]at HSK HRD ⊢;generalize q3++q4=q5 at HSK HRD ⊢;obtain⟨xs,hown⟩:=(uq HL3).own (W6:=chg (w3.alloc (.cells #[.bool true,.slice a5 n5 c5] 59)) b o4 q5 k4) (SF.box1 (uq HB3) (uq HSK)).1;have HOWN:=hide hown;have HRD6:Hid (Rds (chg (w3.alloc (.cells #[.bool true,.slice a5 n5 c5] 59)) b o4 q5 k4) [dB true,.row 9 1 L5] (fun i=>w3.heap.size≤i) [.bool true,.slice a5 n5 c5]):=hide (zis _ (zbk (Rd.move _ _ _ _ (uq HRD) (fun i hi _=>by have h9:w3.heap.size+1≤i:=(by have:=hi;simp only[zaA,World.size_alloc]at this;omega);exact⟨zdZ (uq HB3) (by omega),by omega⟩)) (zat _ _)));clear hown;have cg:=uq CG;have hn2:=uq HM;go_wp2_with (at_builtin;refine wpList_append_own_at _ rfl _ _ 60 rfl 0 59 i0 _ 2 32 Tryz.underlying60 (uq HI0) (uq HZ0) (uq HZ1) (uq HZ2) rfl (by decide) _ _ xs rfl ((uq HOWN).alloc _) ⟨w3.heap.size+1+q5.size,0,none⟩ 1 1 [.bool true,.slice a5 n5 c5] rfl rfl (by have hnc:=zai (chg (w3.alloc (.cells #[.bool true,.slice a5 n5 c5] 59)) b o4 q5 k4) [.bool true,.slice a5 n5 c5] 59;rw[zaA,World.size_alloc]at hnc;exact hnc) (by simp[Value.oneCell']) (by unfold maxLen;omega) (by omega) (Nat.zero_le _) ?_;intro v' w8 hown' hgrow hnil hat;obtain⟨g',cp',rfl⟩:=zak hown';have A:=(uq HL3).app (SF.box1 (uq HB3) (uq HSK)).1 (SF.box1 (uq HB3) (uq HSK)).2 (uq HRD6) rfl ((Keep.refl _).alloc _) (uq HOWN) hown' hgrow hat;have HLS:=hide A.1;have c8:=A.2.1;have f8:=A.2.2;clear hown' hgrow hnil hat A)
     go_roundw
     case rel=>
      refine⟨_,n+1,cp',_,_,HLS,hide ?_,hide (by have:=uq HNE;omega)⟩;rw[← uq HE,uq HYY];have hb9:bnb (.ok (([]:List D),r)) zaC=bnd X3 (sq [zaj 9 4,zah [59]]):=by
       show sq [za0 [102,114,101,101],zaj 9 4,zah [59]] [] r=_;rw[show sq [za0 [102,114,101,101],zaj 9 4,zah [59]] [] r=bnd (.ok ([],r)) (sq [za0 [102,114,101,101],zaj 9 4,zah [59]])from rfl,zac,uq HX3]
      rw[zaD zaK (uq HTS) (by rw[(uq HL).hn];exact uq HNE) (cs:= [dB true,.row 9 1 L5]) (fun c r' e=>by
       have e2:bnd X3 (sq [zaj 9 4,zah [59]])= .ok (c,r'):=by rw[← hb9];exact e
       obtain⟨c0,r0,h0,h1⟩:=(uq HGK) c r' e2;simp only[Except.ok.injEq,Prod.mk.injEq]at h0;rw[h1,← h0.1];rfl)]
      rw[show zad (zaC r)=zad (bnd X3 (sq [zaj 9 4,zah [59]])) by rw[← hb9];rfl]
     case measure=>
      have hb9:zaC r=bnd X3 (sq [zaj 9 4,zah [59]]):=by
       rw[show zaC r=bnd (.ok ([],r)) (sq [za0 [102,114,101,101],zaj 9 4,zah [59]])from rfl,zac,uq HX3]
      exact zau (word:= [114,105,110,103]) (n:=n) (most:=2) (body:=zaC) zaK (uq HYY) (uq HL).sr (by rw[hb9];exact(uq HLS).sr)
    |false=>
     have HMY:=hide (ziY (uq HSR).2 hfq);have HSN:Hid (SF w3 b (zad (bnd (.ok (([]:List D),r)) (za0 [102,114,101,101]))) (w3.alloc (.cells #[.bool false,.slice none 0 0] 59))):=hide (by rw[(uq HMY).1];exact uq HSR);clear hfq;obtain⟨X3,HX3⟩:∃ Z,Hid (bnd (.ok (([]:List D),r)) (za0 [102,114,101,101])=Z):=⟨_,rfl⟩;rw[uq HX3]at HSN HMY;go_wp2_with fail
     (refine(zby (X:=X3) 4 (by decide) (by decide) (uq HSN).2).mono ?_;rintro e w5 ⟨a5,n5,c5,L5,rfl,hd,hrd⟩;have HSK:=hide ((uq HSN).step hd);have HGK:=hide ((uq HMY).2.trans hd.2.2);have HRD:=hide hrd;obtain⟨o4,q5,k4,rfl⟩:=zaf hd.1 (uq HSN).2.bl;clear hd hrd);obtain⟨xs,hown⟩:=(uq HL3).own (W6:=chg (w3.alloc (.cells #[.bool false,.slice a5 n5 c5] 59)) b o4 q5 k4) (SF.box1 (uq HB3) (uq HSK)).1;have HOWN:=hide hown;have HRD6:Hid (Rds (chg (w3.alloc (.cells #[.bool false,.slice a5 n5 c5] 59)) b o4 q5 k4) [dB false,.row 9 1 L5] (fun i=>w3.heap.size≤i) [.bool false,.slice a5 n5 c5]):=hide (zis _ (zbk (Rd.move _ _ _ _ (uq HRD) (fun i hi _=>by have h9:w3.heap.size+1≤i:=(by have:=hi;simp only[zaA,World.size_alloc]at this;omega);exact⟨zdZ (uq HB3) (by omega),by omega⟩)) (zat _ _)));clear hown;have cg:=uq CG;have hn2:=uq HM;go_wp2_with (at_builtin;refine wpList_append_own_at _ rfl _ _ 60 rfl 0 59 i0 _ 2 32 Tryz.underlying60 (uq HI0) (uq HZ0) (uq HZ1) (uq HZ2) rfl (by decide) _ _ xs rfl ((uq HOWN).alloc _) ⟨w3.heap.size+1+q5.size,0,none⟩ 1 1 [.bool false,.slice a5 n5 c5] rfl rfl (by have hnc:=zai (chg (w3.alloc (.cells #[.bool false,.slice a5 n5 c5] 59)) b o4 q5 k4) [.bool false,.slice a5 n5 c5] 59;rw[zaA,World.size_alloc]at hnc;exact hnc) (by simp[Value.oneCell']) (by unfold maxLen;omega) (by omega) (Nat.zero_le _) ?_;intro v' w8 hown' hgrow hnil hat;obtain⟨g',cp',rfl⟩:=zak hown';have A:=(uq HL3).app (SF.box1 (uq HB3) (uq HSK)).1 (SF.box1 (uq HB3) (uq HSK)).2 (uq HRD6) rfl ((Keep.refl _).alloc _) (uq HOWN) hown' hgrow hat;have HLS:=hide A.1;have c8:=A.2.1;have f8:=A.2.2;clear hown' hgrow hnil hat A)
     go_roundw
     case rel=>
      refine⟨_,n+1,cp',_,_,HLS,hide ?_,hide (by have:=uq HNE;omega)⟩;rw[← uq HE,uq HYY];have hb9:bnb (.ok (([]:List D),r)) zaC=bnd X3 (sq [zaj 9 4,zah [59]]):=by
       show sq [za0 [102,114,101,101],zaj 9 4,zah [59]] [] r=_;rw[show sq [za0 [102,114,101,101],zaj 9 4,zah [59]] [] r=bnd (.ok ([],r)) (sq [za0 [102,114,101,101],zaj 9 4,zah [59]])from rfl,zac,uq HX3]
      rw[zaD zaK (uq HTS) (by rw[(uq HL).hn];exact uq HNE) (cs:= [dB false,.row 9 1 L5]) (fun c r' e=>by
       have e2:bnd X3 (sq [zaj 9 4,zah [59]])= .ok (c,r'):=by rw[← hb9];exact e
       obtain⟨c0,r0,h0,h1⟩:=(uq HGK) c r' e2;simp only[Except.ok.injEq,Prod.mk.injEq]at h0;rw[h1,← h0.1];rfl)]
      rw[show zad (zaC r)=zad (bnd X3 (sq [zaj 9 4,zah [59]])) by rw[← hb9];rfl]
     case measure=>
      have hb9:zaC r=bnd X3 (sq [zaj 9 4,zah [59]]):=by
       rw[show zaC r=bnd (.ok ([],r)) (sq [za0 [102,114,101,101],zaj 9 4,zah [59]])from rfl,zac,uq HX3]
      exact zau (word:= [114,105,110,103]) (n:=n) (most:=2) (body:=zaC) zaK (uq HYY) (uq HL).sr (by rw[hb9];exact(uq HLS).sr)
 |false=>
  go_wp2_with fail
  (refine(zbE (Y:=zad X1) 50 (by decide) (uq HS1).2).mono ?_;rintro e w2 ⟨rfl,hf,hs⟩;have HSF:Hid (SF w b (grY (zad X1)) w2):=hide ⟨(uq HS1).1.trans hf,by rw[grY,if_neg (by rw[hq];simp)];exact hs⟩;have HBY:Hid (Bxs w2 rb [.slice none 0 0]∧Bxs w2 gb [.slice none 0 0]∧rb+2≤w2.heap.size):=hide ⟨(uq HBX).1.fr hf (by have:=uq HB;have:=uq HRb;omega),(uq HBX).2.1.fr hf (by have:=uq HB;have:=uq HRb;have:=uq HGb;omega),Nat.le_trans (uq HBX).2.2 hf.size⟩;clear hf hs);clear hq;go_wp2_with fail
  go_loopw [] (fun wr=>∃(a:Option Addr) (n cap:Nat) (L:List (List D)) (Y:Except Er (List Tok)),Hid (LS b gb 0 w2 59 2 [.slice none 0 0] wr L a n cap Y)∧Hid (rwY [114,105,110,103] 2 zaC Y L=tgt)∧Hid (n≤2)) (fun wr=>rem wr b)
  case atStart=>
   refine⟨none,0,0,[],grY (zad X1),hide (LS.start (uq HSF).2 (uq HBY).2.1 rfl ?_ ?_),hide (uq HT).symm,hide (by omega)⟩
   ·have:=uq HB;have:=uq HRb;have:=uq HGb;omega
   ·have:=(uq HBY).2.2;have:=uq HRb;have:=uq HGb;omega
  case round=>
   obtain⟨a,n,cap,L,Y,HL,HE,HM⟩:=hrel;have cg:=(uq HL).cell.1;go_wp2_with fail
   (refine(zaM (Y:=Y) [114,105,110,103] rfl n 2 (uq HL).sr).mono ?_;rintro e w3 ⟨rfl,hf,hs⟩;have HL3:=hide ((uq HL).move hf hs);clear hf hs);clear cg;obtain⟨bq,Y3,hbg⟩:∃ bq Y3,bgn [114,105,110,103] n 2 Y=(bq,Y3):=⟨_,_,rfl⟩;rw[hbg]at HL3 ⊢;cases bq with
   |false=>
    have HY:=hide (zbX (body:=zaC) (L:=L) zaK (uq HL).sr.ne (by rw[(uq HL).hn];exact hbg));have HQ:=hide (zdf (e:=59) (uq HG1) (uq HS1).2 (by rw[← uq HT,← uq HE];exact uq HY));clear hbg;go_wp2_with fail
    (refine(zag (X:=bnd (bnd X1 (zbT [114,105,110,103] 2 59 2 zaC)) zcr) [125] rfl (by rw[(uq HQ).1];exact(uq HL3).sr)).mono ?_;rintro e w4 ⟨rfl,hd⟩;have HL4:=hide ((uq HL3).move hd.1 hd.2.1);have HD4:=hide hd.2;clear hd);have cg:=(uq HL4).cell.1;have HR4:Hid (Bxs w4 rb [.slice none 0 0]):=hide ((uq HBY).1.move ((uq HL4).ro.fr.block rb (by have:=(uq HBY).2.2;have:=uq HRb;omega) (fun x=>by have:=uq HB;have:=uq HRb;have:=uq HGb;omega)));have cr:=(uq HR4) 0 _ rfl;obtain⟨cr1,cr2⟩:=cr;go_wp2_with fail
    refine bodyPost_ret (v:= .agg #[.slice a n cap]) ?_ rfl ?_
    ·simp[results,Tryz.results50,go_sem,cr1]
    ·refine⟨a,n,cap,L,rfl,?_⟩;have hb:=uq HB;have hrb:=uq HRb;have hgb:=uq HGb;have hwb:=(uq HBY).2.2;have hfr:Fr (fun i=>i=b) w w4:=(uq HSF).1.inner (uq HL4).ro.fr (fun i hi x=>by rcases x with x|x;exact x;omega);have hfr2:Fr (fun i=>i=b) w (w4.setCell ⟨rb,0,none⟩ (.slice a n cap)):=hfr.inner ((Fr.refl (fun i=>i=rb) w4).set ⟨rb,0,none⟩ _ rfl rfl) (fun i hi x=>by omega);have hsr:Sr (w4.setCell ⟨rb,0,none⟩ (.slice a n cap)) b _:=(uq HL4).sr.set ⟨rb,0,none⟩ _ (by show b<rb;omega);refine zhg (Z:=bnd (bnd (bnd X1 (zbT [114,105,110,103] 2 59 2 zaC)) zcr) (zah [125])) ⟨hfr2,hsr⟩ ?_ ?_ ?_
     ·have:=((uq HG1).trans (uq HQ).2).trans (uq HD4).2;simpa using this
     ·simp only[zac,zar];rw[uq HX1]
     ·refine zbk ?_ (zat _ _);exact Rd.move _ _ _ _ (uq HL4).fin.1 (fun i hi _=>⟨Below.heap_setCell _ _ _ _ (by show i≠rb;omega),by omega⟩)
   |true=>
    obtain⟨t,r,hY,hY3,ht,hne⟩:=zbq hbg;have HYY:=hide hY;have HTS:=hide ht;have HNE:=hide hne;subst hY3;clear hbg hY ht hne;have HSR:Hid (SF w3 b (zad (.ok (([]:List D),r))) (w3.alloc (.cells #[.bool false,.slice none 0 0] 59))):=hide (SF.keep ⟨.refl _ _,(uq HL3).sr⟩ ((Keep.refl w3).alloc _));have hb3:b<w3.heap.size:=(uq HL3).sr.bl;have HB3:=hide hb3;have hgw:=(uq HL3).gw;have n3:¬w3.heap.size=b:=by omega
    have ng:¬gb=b:=by have:=uq HB;have:=uq HRb;have:=uq HGb;omega
    have cg:=(uq HL3).cell.1;have CG:=hide cg;clear cg;go_wp2_with fail
    (refine(zco (Y:=zad (.ok (([]:List D),r))) [102,114,101,101] rfl (uq HSR).2).mono ?_;rintro e wx ⟨rfl,rfl⟩);generalize hfq:isq [102,114,101,101] (zad (.ok (([]:List D),r)))=fq;cases fq with
    |true=>
     have HMY:=hide (zhj rfl (uq HSR).2 hfq);clear hfq;go_wp2_with fail
     (refine(zbc (Y:=zad (.ok (([]:List D),r))) ((uq HL3).sr.keep ((Keep.refl w3).alloc _))).mono ?_;rintro e wx ⟨t8,rfl,_,hf,hs,_⟩;have HSN:Hid (SF w3 b (zad (bnd (.ok (([]:List D),r)) (za0 [102,114,101,101]))) wx):=hide ⟨(Fr.keep ((Keep.refl w3).alloc _)).trans hf,by rw[(uq HMY).1];exact hs⟩;obtain⟨o3,q3,k3,rfl⟩:=zaf hf ((uq HL3).sr.keep ((Keep.refl w3).alloc _)).bl;clear hf hs);obtain⟨X3,HX3⟩:∃ Z,Hid (bnd (.ok (([]:List D),r)) (za0 [102,114,101,101])=Z):=⟨_,rfl⟩;rw[uq HX3]at HSN HMY;go_wp2_with fail
     (refine(zby (X:=X3) 4 (by decide) (by decide) (uq HSN).2).mono ?_;rintro e w5 ⟨a5,n5,c5,L5,rfl,hd,hrd⟩;have HSK:=hide ((uq HSN).step hd);have HGK:=hide ((uq HMY).2.trans hd.2.2);have HRD:=hide hrd;obtain⟨o4,q4,k4,rfl⟩:=zaf hd.1 (uq HSN).2.bl;clear hd hrd);rw[zaw (uq HB3)]at HSK HRD ⊢;generalize q3++q4=q5 at HSK HRD ⊢;obtain⟨xs,hown⟩:=(uq HL3).own (W6:=chg (w3.alloc (.cells #[.bool true,.slice a5 n5 c5] 59)) b o4 q5 k4) (SF.box1 (uq HB3) (uq HSK)).1;have HOWN:=hide hown;have HRD6:Hid (Rds (chg (w3.alloc (.cells #[.bool true,.slice a5 n5 c5] 59)) b o4 q5 k4) [dB true,.row 9 1 L5] (fun i=>w3.heap.size≤i) [.bool true,.slice a5 n5 c5]):=hide (zis _ (zbk (Rd.move _ _ _ _ (uq HRD) (fun i hi _=>by have h9:w3.heap.size+1≤i:=(by have:=hi;simp only[zaA,World.size_alloc]at this;omega);exact⟨zdZ (uq HB3) (by omega),by omega⟩)) (zat _ _)));clear hown;have cg:=uq CG;have hn2:=uq HM;go_wp2_with (at_builtin;refine wpList_append_own_at _ rfl _ _ 60 rfl 0 59 i0 _ 2 32 Tryz.underlying60 (uq HI0) (uq HZ0) (uq HZ1) (uq HZ2) rfl (by decide) _ _ xs rfl ((uq HOWN).alloc _) ⟨w3.heap.size+1+q5.size,0,none⟩ 1 1 [.bool true,.slice a5 n5 c5] rfl rfl (by have hnc:=zai (chg (w3.alloc (.cells #[.bool true,.slice a5 n5 c5] 59)) b o4 q5 k4) [.bool true,.slice a5 n5 c5] 59;rw[zaA,World.size_alloc]at hnc;exact hnc) (by simp[Value.oneCell']) (by unfold maxLen;omega) (by omega) (Nat.zero_le _) ?_;intro v' w8 hown' hgrow hnil hat;obtain⟨g',cp',rfl⟩:=zak hown';have A:=(uq HL3).app (SF.box1 (uq HB3) (uq HSK)).1 (SF.box1 (uq HB3) (uq HSK)).2 (uq HRD6) rfl ((Keep.refl _).alloc _) (uq HOWN) hown' hgrow hat;have HLS:=hide A.1;have c8:=A.2.1;have f8:=A.2.2;clear hown' hgrow hnil hat A)
     go_roundw
     case rel=>
      refine⟨_,n+1,cp',_,_,HLS,hide ?_,hide (by have:=uq HNE;omega)⟩;rw[← uq HE,uq HYY];have hb9:bnb (.ok (([]:List D),r)) zaC=bnd X3 (sq [zaj 9 4,zah [59]]):=by
       show sq [za0 [102,114,101,101],zaj 9 4,zah [59]] [] r=_;rw[show sq [za0 [102,114,101,101],zaj 9 4,zah [59]] [] r=bnd (.ok ([],r)) (sq [za0 [102,114,101,101],zaj 9 4,zah [59]])from rfl,zac,uq HX3]
      rw[zaD zaK (uq HTS) (by rw[(uq HL).hn];exact uq HNE) (cs:= [dB true,.row 9 1 L5]) (fun c r' e=>by
       have e2:bnd X3 (sq [zaj 9 4,zah [59]])= .ok (c,r'):=by rw[← hb9];exact e
       obtain⟨c0,r0,h0,h1⟩:=(uq HGK) c r' e2;simp only[Except.ok.injEq,Prod.mk.injEq]at h0;rw[h1,← h0.1];rfl)]
      rw[show zad (zaC r)=zad (bnd X3 (sq [zaj 9 4,zah [59]])) by rw[← hb9];rfl]
     case measure=>
      have hb9:zaC r=bnd X3 (sq [zaj 9 4,zah [59]]):=by
       rw[show zaC r=bnd (.ok ([],r)) (sq [za0 [102,114,101,101],zaj 9 4,zah [59]])from rfl,zac,uq HX3]
      exact zau (word:= [114,105,110,103]) (n:=n) (most:=2) (body:=zaC) zaK (uq HYY) (uq HL).sr (by rw[hb9];exact(uq HLS).sr)
    |false=>
     have HMY:=hide (ziY (uq HSR).2 hfq);have HSN:Hid (SF w3 b (zad (bnd (.ok (([]:List D),r)) (za0 [102,114,101,101]))) (w3.alloc (.cells #[.bool false,.slice none 0 0] 59))):=hide (by rw[(uq HMY).1];exact uq HSR);clear hfq;obtain⟨X3,HX3⟩:∃ Z,Hid (bnd (.ok (([]:List D),r)) (za0 [102,114,101,101])=Z):=⟨_,rfl⟩;rw[uq HX3]at HSN HMY;go_wp2_with fail
     (refine(zby (X:=X3) 4 (by decide) (by decide) (uq HSN).2).mono ?_;rintro e w5 ⟨a5,n5,c5,L5,rfl,hd,hrd⟩;have HSK:=hide ((uq HSN).step hd);have HGK:=hide ((uq HMY).2.trans hd.2.2);have HRD:=hide hrd;obtain⟨o4,q5,k4,rfl⟩:=zaf hd.1 (uq HSN).2.bl;clear hd hrd);obtain⟨xs,hown⟩:=(uq HL3).own (W6:=chg (w3.alloc (.cells #[.bool false,.slice a5 n5 c5] 59)) b o4 q5 k4) (SF.box1 (uq HB3) (uq HSK)).1;have HOWN:=hide hown;have HRD6:Hid (Rds (chg (w3.alloc (.cells #[.bool false,.slice a5 n5 c5] 59)) b o4 q5 k4) [dB false,.row 9 1 L5] (fun i=>w3.heap.size≤i) [.bool false,.slice a5 n5 c5]):=hide (zis _ (zbk (Rd.move _ _ _ _ (uq HRD) (fun i hi _=>by have h9:w3.heap.size+1≤i:=(by have:=hi;simp only[zaA,World.size_alloc]at this;omega);exact⟨zdZ (uq HB3) (by omega),by omega⟩)) (zat _ _)));clear hown;have cg:=uq CG;have hn2:=uq HM;go_wp2_with (at_builtin;refine wpList_append_own_at _ rfl _ _ 60 rfl 0 59 i0 _ 2 32 Tryz.underlying60 (uq HI0) (uq HZ0) (uq HZ1) (uq HZ2) rfl (by decide) _ _ xs rfl ((uq HOWN).alloc _) ⟨w3.heap.size+1+q5.size,0,none⟩ 1 1 [.bool false,.slice a5 n5 c5] rfl rfl (by have hnc:=zai (chg (w3.alloc (.cells #[.bool false,.slice a5 n5 c5] 59)) b o4 q5 k4) [.bool false,.slice a5 n5 c5] 59;rw[zaA,World.size_alloc]at hnc;exact hnc) (by simp[Value.oneCell']) (by unfold maxLen;omega) (by omega) (Nat.zero_le _) ?_;intro v' w8 hown' hgrow hnil hat;obtain⟨g',cp',rfl⟩:=zak hown';have A:=(uq HL3).app (SF.box1 (uq HB3) (uq HSK)).1 (SF.box1 (uq HB3) (uq HSK)).2 (uq HRD6) rfl ((Keep.refl _).alloc _) (uq HOWN) hown' hgrow hat;have HLS:=hide A.1;have c8:=A.2.1;have f8:=A.2.2;clear hown' hgrow hnil hat A)
     go_roundw
     case rel=>
      refine⟨_,n+1,cp',_,_,HLS,hide ?_,hide (by have:=uq HNE;omega)⟩;rw[← uq HE,uq HYY];have hb9:bnb (.ok (([]:List D),r)) zaC=bnd X3 (sq [zaj 9 4,zah [59]]):=by
       show sq [za0 [102,114,101,101],zaj 9 4,zah [59]] [] r=_;rw[show sq [za0 [102,114,101,101],zaj 9 4,zah [59]] [] r=bnd (.ok ([],r)) (sq [za0 [102,114,101,101],zaj 9 4,zah [59]])from rfl,zac,uq HX3]
      rw[zaD zaK (uq HTS) (by rw[(uq HL).hn];exact uq HNE) (cs:= [dB false,.row 9 1 L5]) (fun c r' e=>by
       have e2:bnd X3 (sq [zaj 9 4,zah [59]])= .ok (c,r'):=by rw[← hb9];exact e
       obtain⟨c0,r0,h0,h1⟩:=(uq HGK) c r' e2;simp only[Except.ok.injEq,Prod.mk.injEq]at h0;rw[h1,← h0.1];rfl)]
      rw[show zad (zaC r)=zad (bnd X3 (sq [zaj 9 4,zah [59]])) by rw[← hb9];rfl]
     case measure=>
      have hb9:zaC r=bnd X3 (sq [zaj 9 4,zah [59]]):=by
       rw[show zaC r=bnd (.ok ([],r)) (sq [za0 [102,114,101,101],zaj 9 4,zah [59]])from rfl,zac,uq HX3]
      exact zau (word:= [114,105,110,103]) (n:=n) (most:=2) (body:=zaC) zaK (uq HYY) (uq HL).sr (by rw[hb9];exact(uq HLS).sr)
end Q
end Go.Proofs.YtpmaonkelkmhbaaGreat
