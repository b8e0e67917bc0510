/- The document's reader: name, num, frac, begins. -/
import Derived.Test.YtcdhdhbjnpndkaaGreatQChg
namespace Go.Proofs.YtcdhdhbjnpndkaaGreat
open Go.RowKit
attribute [local go_sem ↓] Go.wp_at_zero Go.wp_at_succ
set_option linter.unusedVariables false
set_option linter.unusedSimpArgs false
set_option maxRecDepth 10000
namespace Q
theorem znH (k n p:Int) (s:ByteArray) (w:World):(Instr.field 130 (.agg #[.int .i64 k,.string s,.int .i64 n,.int .i64 p]) 1).run Tryz.prog w= .ok (.string s) w:=by kernel_rfl
theorem ziM (k n p:Int) (s:ByteArray) (w:World):(Instr.field 130 (.agg #[.int .i64 k,.string s,.int .i64 n,.int .i64 p]) 2).run Tryz.prog w= .ok (.int .i64 n) w:=by kernel_rfl
def NextT (b:Nat) (w:World) (Q:Tok→World→Prop):Prop:=Calls Tryz.prog 55 #[.pointer (some ⟨b,0,none⟩)] w fun r w'=>∃ t,r= .returned (.agg #[.int .i64 t.k,.string (sv t.s),.int .i64 t.n,.int .i64 t.p])∧Q t w'
def FailT (b:Nat) (x:Int) (w:World) (Q:World→Prop):Prop:=Calls Tryz.prog 57 #[.pointer (some ⟨b,0,none⟩),.int .i64 x] w fun r w'=>r= .returned (.tuple #[])∧Q w'
set_option maxHeartbeats 2000000 in
theorem znI (b m cap:Nat) (ad:Addr) (kk:Int) (w:World) (Q:ByteArray→World→Prop) (hk:(kk !=1)=true)
  (c0:w.cell? ⟨b,0,none⟩=some (.slice (some ad) (m+1) cap)) (t0:w.cell? ad=some (.int .i64 kk)) (T:Hid (FailT b 50 w (Q ⟨#[]⟩))):
  Calls Tryz.prog 95 #[.pointer (some ⟨b,0,none⟩)] w fun r w'=>∃ s,r= .returned (.string s)∧Q s w':=by
 go_enter Tryz.func95,Tryz.ntmps95;go_wp2_with fail
 (refine(uq T).mono ?_;rintro e w2 ⟨rfl,hq⟩;have HQ:=hide hq;clear hq);go_wp2_with fail
 go_ret;exact⟨_,rfl,uq HQ⟩
set_option maxHeartbeats 2000000 in
theorem zkp (b m cap:Nat) (ad:Addr) (kk:Int) (S:ByteArray) (res:Bool) (w:World) (Q:ByteArray→World→Prop) (hk:(kk !=1)=false)
  (c0:w.cell? ⟨b,0,none⟩=some (.slice (some ad) (m+1) cap)) (t0:w.cell? ad=some (.int .i64 kk)) (t1:w.cell? ⟨ad.block,ad.off+1,none⟩=some (.string S))
  (T1:Hid (Calls Tryz.prog 127 #[.string S] w fun e w'=>e= .returned (.bool res)∧Keep w w'))
  (T2:Hid (res=true→∀ w',Keep w w'→FailT b 50 w' (Q ⟨#[]⟩)))
  (T3:Hid (res=false→∀ w',Keep w w'→NextT b w' (fun t=>Q (sv t.s)))):
  Calls Tryz.prog 95 #[.pointer (some ⟨b,0,none⟩)] w fun r w'=>∃ s,r= .returned (.string s)∧Q s w':=by
 have fs:=znH;cases res with
 |true=>
  replace T2:=hide ((uq T2) rfl);clear T3;go_enter Tryz.func95,Tryz.ntmps95;go_wp2_with fail
  (refine(uq T1).mono ?_;rintro e w1 ⟨rfl,hk⟩;have HK:=hide hk;clear hk);go_wp2_with fail
  (refine((uq T2) _ (uq HK)).mono ?_;rintro e w2 ⟨rfl,hq⟩;have HQ:=hide hq;clear hq);go_wp2_with fail
  go_ret;exact⟨_,rfl,uq HQ⟩
 |false=>
  replace T3:=hide ((uq T3) rfl);clear T2;go_enter Tryz.func95,Tryz.ntmps95;go_wp2_with fail
  (refine(uq T1).mono ?_;rintro e w1 ⟨rfl,hk⟩;have HK:=hide hk;clear hk);go_wp2_with fail
  (refine((uq T3) _ (uq HK)).mono ?_;rintro e w2 ⟨t,rfl,hq⟩;have HQ:=hide hq;clear hq);go_wp2_with fail
  go_ret;exact⟨_,rfl,uq HQ⟩
theorem znJ {w:World} {b:Nat} {Y:Except Er (List Tok)} (h:Sr w b Y):NextT b w (fun t w'=>(0≤t.n∧t.n≤999999999999999999)∧Fr (fun i=>i=b) w w'∧Sr w' b (zel Y)∧∀ r,Y= .ok r→∃ r',r=t :: r'):=zbm h
theorem znK {w:World} {b:Nat} {Y:Except Er (List Tok)} (x:Int) (hx:x≠0) (h:Sr w b Y):FailT b x w (fun w'=>Fr (fun i=>i=b) w w'∧Sr w' b (ziL x Y)):=zbV x hx h
theorem FailT.mono {b:Nat} {x:Int} {w:World} {Q Q':World→Prop} (h:FailT b x w Q) (k:∀ w',Q w'→Q' w'):FailT b x w Q':=Calls.mono h (fun e w' hh=>⟨hh.1,k _ hh.2⟩)
theorem NextT.mono {b:Nat} {w:World} {Q Q':Tok→World→Prop} (h:NextT b w Q) (k:∀ t w',Q t w'→Q' t w'):NextT b w Q':=Calls.mono h (fun e w' hh=>by obtain⟨t,h1,h2⟩:=hh;exact⟨t,h1,k _ _ h2⟩)
theorem zaK {w:World} {b:Nat} {X:Rs} (h:Sr w b (zad X)):Calls Tryz.prog 95 #[.pointer (some ⟨b,0,none⟩)] w fun r w'=>∃ s,r= .returned (.string (sv s))∧Did zao [dS s] b X w w':=by
 obtain⟨ad,cap,e,p,t,r',h1,h2⟩:=h.front;obtain⟨t0,t1,t2,t3⟩:=h1.tok;have hbad:¬(t.k=1∧¬t.s∈words)→∀ w',Keep w w'→FailT b 50 w' (fun w'=>∃ s,(⟨#[]⟩:ByteArray)=sv s∧Did zao [dS s] b X w w'):=fun hn w' hk=>by
  refine(znK 50 (by decide) (h.keep hk)).mono ?_;rintro w2 ⟨hf,hs⟩;refine⟨[],rfl,(Fr.keep hk).trans hf,?_⟩;rcases X with x|⟨c,r⟩
  ·exact⟨hs,fun c r e=>by cases e⟩
  ·have er:=h2 r rfl;subst er;have e1:bnd (.ok (c,t :: r')) zao= .error (50,t.p):=by show(if t.k=1∧¬t.s∈words then _ else _)=_;rw[if_neg hn];rfl
   rw[e1];exact⟨hs,fun c r e=>by cases e⟩
 have key:Calls Tryz.prog 95 #[.pointer (some ⟨b,0,none⟩)] w fun r w'=>∃ S,r= .returned (.string S)∧∃ s,S=sv s∧Did zao [dS s] b X w w':=by
  by_cases hk:t.k=1
  ·refine zkp b r'.length cap ad t.k (sv t.s) (decide (t.s∈words)) w (fun S w'=>∃ s,S=sv s∧Did zao [dS s] b X w w') (by simp[hk]) h1.c0 t0 t1 (hide ?_) (hide fun hr w' hk2=>hbad (fun hh=>hh.2 (by simpa using hr)) w' hk2) (hide fun hr w' hk2=>?_)
   ·have:=zef (sv t.s) w;rw[show(sv t.s).toList=t.s from ByteArray.toList_mk _]at this;exact this
   ·have hw:¬t.s∈words:=by simpa using hr
    refine(znJ (h.keep hk2)).mono ?_;rintro u w2 ⟨_,hf,hs,hu⟩;refine⟨u.s,rfl,(Fr.keep hk2).trans hf,?_⟩;rcases X with x|⟨c,r⟩
    ·exact⟨hs,fun c r e=>by cases e⟩
    ·have er:=h2 r rfl;subst er;obtain⟨r2,e2⟩:=hu _ rfl;injection e2 with e2 e3
     subst e2;have e1:bnd (.ok (c,t :: r')) zao= .ok (c++ [dS t.s],r'):=by show(if t.k=1∧¬t.s∈words then _ else _)=_;rw[if_pos ⟨hk,hw⟩]
     have e4:zel (zad (.ok (c,t :: r')))= .ok r':=by show(if t.k=0 then _ else _)=_;rw[if_neg (by omega)]
     rw[e4]at hs;rw[e1];exact⟨hs,fun c2 r2 e2=>by cases e2;exact⟨c,_,rfl,rfl⟩⟩
  ·exact znI b r'.length cap ad t.k w (fun S w'=>∃ s,S=sv s∧Did zao [dS s] b X w w') (by simpa using hk) h1.c0 t0 (hide (hbad (fun hh=>hk hh.1) w (Keep.refl w)))
 refine key.mono ?_;rintro r w' ⟨S,rfl,s,rfl,hd⟩;exact⟨s,rfl,hd⟩
set_option maxHeartbeats 2000000 in
theorem zr0 (b m cap:Nat) (ad:Addr) (kk:Int) (w:World) (Q:Int→World→Prop)
  (c0:w.cell? ⟨b,0,none⟩=some (.slice (some ad) (m+1) cap)) (t0:w.cell? ad=some (.int .i64 kk))
  (T2:Hid (kk≠2→FailT b 50 w (Q 0)))
  (T3:Hid (kk=2→NextT b w (fun t=>Q t.n))):
  Calls Tryz.prog 49 #[.pointer (some ⟨b,0,none⟩),.string ⟨#[]⟩] w fun r w'=>∃ n,r= .returned (.int .i64 n)∧Q n w':=by
 have fs:=ziM;by_cases hk:kk=2
 ·replace T3:=hide ((uq T3) hk);have hb:(kk !=2)=false:=by simp[hk]
  clear T2 hk;go_enter Tryz.func49,Tryz.ntmps49;go_wp2_with fail
  (refine Calls.mono (uq T3) ?_;rintro e w2 ⟨t,rfl,hq⟩;have HQ:=hide hq;clear hq);go_wp2_with fail
  go_ret;exact⟨_,rfl,uq HQ⟩
 ·replace T2:=hide ((uq T2) hk);have hb:(kk !=2)=true:=by simp[hk]
  clear T3 hk;go_enter Tryz.func49,Tryz.ntmps49;go_wp2_with fail
  (refine Calls.mono (uq T2) ?_;rintro e w2 ⟨rfl,hq⟩;have HQ:=hide hq;clear hq);go_wp2_with fail
  go_ret;exact⟨_,rfl,uq HQ⟩
def Fro (b:Nat) (w:World) (kk:Int):Prop:=∃ ad m cap,w.cell? ⟨b,0,none⟩=some (.slice (some ad) (m+1) cap)∧w.cell? ad=some (.int .i64 kk)
set_option maxHeartbeats 2000000 in
theorem zr1 (b:Nat) (W:ByteArray) (w:World) (Q:Int→World→Prop) (hW:W.toList.isEmpty=false)
  (T1:Hid (Calls Tryz.prog 50 #[.pointer (some ⟨b,0,none⟩),.string W] w fun r w'=>r= .returned (.tuple #[])∧∃ kk,Fro b w' kk∧(kk≠2→FailT b 50 w' (Q 0))∧(kk=2→NextT b w' (fun t=>Q t.n)))):
  Calls Tryz.prog 49 #[.pointer (some ⟨b,0,none⟩),.string W] w fun r w'=>∃ n,r= .returned (.int .i64 n)∧Q n w':=by
 have fs:=ziM;go_enter Tryz.func49,Tryz.ntmps49;go_wp2_with fail
 (refine(uq T1).mono ?_;rintro e w1 ⟨rfl,kk,⟨ad,m,cap,c0,t0⟩,h2,h3⟩;have T2:=hide h2;have T3:=hide h3;clear h2 h3);by_cases hk:kk=2
 ·replace T3:=hide ((uq T3) hk);have hb:(kk !=2)=false:=by simp[hk]
  clear T2 hk;go_wp2_with fail
  (refine Calls.mono (uq T3) ?_;rintro e w2 ⟨t,rfl,hq⟩;have HQ:=hide hq;clear hq);go_wp2_with fail
  go_ret;exact⟨_,rfl,uq HQ⟩
 ·replace T2:=hide ((uq T2) hk);have hb:(kk !=2)=true:=by simp[hk]
  clear T3 hk;go_wp2_with fail
  (refine Calls.mono (uq T2) ?_;rintro e w2 ⟨rfl,hq⟩;have HQ:=hide hq;clear hq);go_wp2_with fail
  go_ret;exact⟨_,rfl,uq HQ⟩
theorem zeR {w:World} {b:Nat} {X:Rs} (h:Sr w b (zad X)):∃ kk,Fro b w kk∧(kk≠2→FailT b 50 w (fun w'=>(0≤(0:Int)∧(0:Int)≤999999999999999999)∧Did zaN [dI 0] b X w w'))∧(kk=2→NextT b w (fun t w'=>(0≤t.n∧t.n≤999999999999999999)∧Did zaN [dI t.n] b X w w')):=by
 obtain⟨ad,cap,e,p,t,r',h1,h2⟩:=h.front;obtain⟨t0,t1,t2,t3⟩:=h1.tok;refine⟨t.k,⟨ad,_,cap,h1.c0,t0⟩,fun hk=>?_,fun hk=>?_⟩
 ·refine(znK 50 (by decide) h).mono ?_;rintro w2 ⟨hf,hs⟩;refine⟨by decide,hf,?_⟩;rcases X with x|⟨c,r⟩
  ·exact⟨hs,fun c r e=>by cases e⟩
  ·have er:=h2 r rfl;subst er;have e1:bnd (.ok (c,t :: r')) zaN= .error (50,t.p):=by show(if t.k=2 then _ else _)=_;rw[if_neg hk];rfl
   rw[e1];exact⟨hs,fun c r e=>by cases e⟩
 ·refine(znJ h).mono ?_;rintro u w2 ⟨hn,hf,hs,hu⟩;refine⟨hn,hf,?_⟩;rcases X with x|⟨c,r⟩
  ·exact⟨hs,fun c r e=>by cases e⟩
  ·have er:=h2 r rfl;subst er;obtain⟨r2,e2⟩:=hu _ rfl;injection e2 with e2 e3
   subst e2;have e1:bnd (.ok (c,t :: r')) zaN= .ok (c++ [dI t.n],r'):=by show(if t.k=2 then _ else _)=_;rw[if_pos hk]
   have e4:zel (zad (.ok (c,t :: r')))= .ok r':=by show(if t.k=0 then _ else _)=_;rw[if_neg (by omega)]
   rw[e4]at hs;rw[e1];exact⟨hs,fun c2 r2 e2=>by cases e2;exact⟨c,_,rfl,rfl⟩⟩
theorem zen {w:World} {b:Nat} {X:Rs} (h:Sr w b (zad X)):Calls Tryz.prog 49 #[.pointer (some ⟨b,0,none⟩),.string ⟨#[]⟩] w fun r w'=>∃ n,r= .returned (.int .i64 n)∧(0≤n∧n≤999999999999999999)∧Did zaN [dI n] b X w w':=by
 obtain⟨kk,⟨ad,m,cap,c0,t0⟩,h2,h3⟩:=zeR h;exact zr0 b m cap ad kk w _ c0 t0 (hide h2) (hide h3)
theorem Did.seq {p q:Sp} {ds es:List D} {b:Nat} {X:Rs} {w w' w'':World} (h:Did p ds b X w w') (k:Did q es b (bnd X p) w' w''):Did (sq [p,q]) (ds++es) b X w w'':=by
 obtain⟨h1,h2,h3⟩:=h;obtain⟨k1,k2,k3⟩:=k;have e:bnd X (sq [p,q])=bnd (bnd X p) q:=by rw[zac,zac,zat]
 unfold Did
 rw[e];exact⟨h1.trans k1,k2,h3.trans k3⟩
theorem zaH {w:World} {b:Nat} {X:Rs} (s:List UInt8) (hs:wrd s=true) (h:Sr w b (zad X)):Calls Tryz.prog 49 #[.pointer (some ⟨b,0,none⟩),.string (sv s)] w fun r w'=>∃ n,r= .returned (.int .i64 n)∧(0≤n∧n≤999999999999999999)∧Did (sq [zai s,zaN]) [dI n] b X w w':=by
 refine zr1 b (sv s) w (fun n w'=>(0≤n∧n≤999999999999999999)∧Did (sq [zai s,zaN]) [dI n] b X w w') ?_ (hide ((zah s hs h).mono ?_))
 ·rw[show(sv s).toList=s from ByteArray.toList_mk _];cases s with
  |nil=>cases hs
  |cons c s=>rfl
 ·rintro r w' ⟨rfl,hd⟩;obtain⟨kk,hf,h2,h3⟩:=zeR (X:=bnd X (zai s)) hd.2.1;exact⟨rfl,kk,hf,fun hk=>(h2 hk).mono (fun w2 hh=>⟨hh.1,hd.seq hh.2⟩),fun hk=>(h3 hk).mono (fun t w2 hh=>⟨hh.1,hd.seq hh.2⟩)⟩
set_option maxHeartbeats 2000000 in
theorem zgq {w:World} {b:Nat} {X:Rs} (s:List UInt8) (hs:wrd s=true) (h:Sr w b (zad X)):Calls Tryz.prog 51 #[.pointer (some ⟨b,0,none⟩),.string (sv s)] w fun r w'=>∃ n m,r= .returned (.agg #[.int .i64 n,.int .i64 m])∧Did (sq [zai s,zcX]) [dI n,dI m] b X w w':=by
 have HS0:Hid (SF w b (zad X) (w.alloc (.cells #[.int .i64 0,.int .i64 0] 23))):=hide (SF.keep ⟨.refl _ _,h⟩ ((Keep.refl w).alloc _));have hb:=h.bl;have HB:=hide hb;have n0:¬w.heap.size=b:=by omega
 have T1:=hide (fun(w':World) (h:Sr w' b (zad X))=>zaH s hs h);generalize sv s=W at T1 ⊢;go_enter Tryz.func51,Tryz.ntmps51;go_wp2_with fail
 (refine((uq T1) _ (uq HS0).2).mono ?_;rintro e w1 ⟨n,rfl,_,hd⟩;have HS1:=hide ((uq HS0).step hd);have HG1:=hide hd.2.2;obtain⟨o1,s1,k1,rfl⟩:=zaf hd.1 (uq HS0).2.bl;clear hd);go_wp2_with fail
 (refine(zaH (X:=bnd X (sq [zai s,zaN])) [47] rfl (uq HS1).2).mono ?_;rintro e w1 ⟨m,rfl,_,hd⟩;have HS2:=hide ((uq HS1).step hd);have HG2:=hide ((uq HG1).trans hd.2.2);obtain⟨o2,s2,k2,rfl⟩:=zaf hd.1 (uq HS1).2.bl;clear hd);rw[zem _ _ _ _ _ _ _ _ (by rw[World.size_alloc];omega)]at HS2 ⊢;go_wp2_with fail
 refine bodyPost_ret (v:= .agg #[.int .i64 n,.int .i64 m]) ?_ rfl ?_
 ·simp[results,Tryz.results51,go_sem,n0]
 ·refine⟨n,m,rfl,?_⟩;have e:bnd X (sq [zai s,zcX])=bnd (bnd X (sq [zai s,zaN])) (sq [zai [47],zaN]):=by
   show bnd X (sq [zai s,sq [zaN,zai [47],zaN]])=_;simp only[zac,zat]
  unfold Did
  rw[e];exact⟨(SF.box1 (uq HB) (uq HS2)).1,(SF.box1 (uq HB) (uq HS2)).2,uq HG2⟩
set_option maxHeartbeats 2000000 in
theorem zfv (b:Nat) (W:ByteArray) (n most:Nat) (q eq r0:Bool) (w:World) (Q:World→Prop) (he:((n:Int)==(most:Int))=eq) (hr:(q&& !eq)=r0)
  (T1:Hid (Calls Tryz.prog 54 #[.pointer (some ⟨b,0,none⟩),.string W] w fun r w'=>r= .returned (.bool q)∧w'=w))
  (H1:Hid (q=false→Q w))
  (T2:Hid (q=true→eq=true→FailT b 4 w Q))
  (T3:Hid (q=true→eq=false→NextT b w (fun t=>Q))):
  Calls Tryz.prog 52 #[.pointer (some ⟨b,0,none⟩),.string W,.int .i64 (n:Int),.int .i64 (most:Int)] w fun r w'=>r= .returned (.bool r0)∧Q w':=by
 subst hr;cases q with
 |false=>
  replace H1:=hide ((uq H1) rfl);clear T2 T3;go_enter Tryz.func52,Tryz.ntmps52;go_wp2_with fail
  (refine(uq T1).mono ?_;rintro e w1 ⟨rfl,rfl⟩);go_wp2_with fail
  go_ret;exact⟨rfl,uq H1⟩
 |true=>
  cases eq with
  |true=>
   replace T2:=hide ((uq T2) rfl rfl);clear T3 H1;go_enter Tryz.func52,Tryz.ntmps52;go_wp2_with fail
   (refine(uq T1).mono ?_;rintro e w1 ⟨rfl,rfl⟩);go_wp2_with fail
   (refine Calls.mono (uq T2) ?_;rintro e w2 ⟨rfl,hq⟩;have HQ:=hide hq;clear hq);go_wp2_with fail
   go_ret;exact⟨rfl,uq HQ⟩
  |false=>
   replace T3:=hide ((uq T3) rfl rfl);clear T2 H1;go_enter Tryz.func52,Tryz.ntmps52;go_wp2_with fail
   (refine(uq T1).mono ?_;rintro e w1 ⟨rfl,rfl⟩);go_wp2_with fail
   (refine Calls.mono (uq T3) ?_;rintro e w2 ⟨t,rfl,hq⟩;have HQ:=hide hq;clear hq);go_wp2_with fail
   go_ret;exact⟨rfl,uq HQ⟩
theorem zaT {w:World} {b:Nat} {Y:Except Er (List Tok)} (s:List UInt8) (hs:wrd s=true) (n most:Nat) (h:Sr w b Y):Calls Tryz.prog 52 #[.pointer (some ⟨b,0,none⟩),.string (sv s),.int .i64 (n:Int),.int .i64 (most:Int)] w fun r w'=>r= .returned (.bool (bgn s n most Y).1)∧Fr (fun i=>i=b) w w'∧Sr w' b (bgn s n most Y).2:=by
 have hd:((n:Int)==(most:Int))=decide (n=most):=by
  by_cases e:n=most
  ·simp[e]
  ·have:¬(n:Int)=(most:Int):=by omega
   simp[e,this]
 refine zfv b (sv s) n most (isq s Y) (decide (n=most)) _ w _ hd ?_ (hide (zcU s hs h)) (hide fun hq=>⟨.refl _ _,?_⟩) (hide fun hq he=>(znK 4 (by decide) h).mono ?_) (hide fun hq he=>(znJ h).mono ?_)
 ·match Y with
  | .error x=>rfl
  | .ok []=>rfl
  | .ok (t :: r)=>
   show(decide (t.s=s)&& !(decide (n=most)))=(if t.s=s then(if n=most then(false,Except.error (4,t.p))else(true,.ok r))else(false,.ok (t :: r)):Bool×Except Er (List Tok)).1;by_cases e1:t.s=s<;>by_cases e2:n=most<;>simp[e1,e2]
 ·match Y,h,hq with
  | .error x,h,_=>exact h
  | .ok [],h,_=>exact h
  | .ok (t :: r),h,hq=>
   have:¬t.s=s:=by simpa [isq]using hq
   simp only[bgn,if_neg this];exact h
 ·rintro w' ⟨hf,hs'⟩;refine⟨hf,?_⟩
  match Y,h,hq,hs' with
  | .error x,h,hq,hs'=>cases hq
  | .ok [],h,hq,hs'=>cases hq
  | .ok (t :: r),h,hq,hs'=>
   have e1:t.s=s:=by simpa [isq]using hq
   have e2:n=most:=by simpa using he
   simp only[bgn,if_pos e1,if_pos e2];exact hs'
 ·rintro t w' ⟨_,hf,hs',_⟩;refine⟨hf,?_⟩
  match Y,h,hq,hs' with
  | .error x,h,hq,hs'=>cases hq
  | .ok [],h,hq,hs'=>cases hq
  | .ok (u :: r),h,hq,hs'=>
   have e1:u.s=s:=by simpa [isq]using hq
   have e2:¬n=most:=by simpa using he
   obtain⟨ad,cap,p,t1,r',e,h1⟩:=h.alive;injection e with e e'
   subst e;have hk:=((h1.wq.2 u List.mem_cons_self).word hs e1).1;simp only[bgn,if_pos e1,if_neg e2];have e4:zel (.ok (u :: r))= .ok r:=by show(if u.k=0 then _ else _)=_;rw[if_neg hk]
   rw[e4]at hs';exact hs'
end Q
namespace Q
def zn5 (p:List Tok→Rs) (cs:List D) (us:List Value) (b:Nat) (X:Rs) (w w':World):Prop:=Fr (fun i=>i=b) w w'∧Sr w' b (zad (bnb X p))∧Rds w' cs (fun i=>w.heap.size≤i) us∧∀ c r,bnb X p= .ok (c,r)→cs=c
theorem zc7 {ps:List Sp} {d:D} {ds:List D} {us:List Value} {b:Nat} {X Z:Rs} {w w':World} (h:SF w b (zad Z) w') (hg:Got (za9 X) Z (d :: ds)) (e:bnd (za9 X) (sq ps)=Z) (hr:Rds w' (ds++ [d]) (fun i=>w.heap.size≤i) us):zn5 (zci (sq ps [])) (ds++ [d]) us b X w w':=by
 subst e;refine⟨h.1,?_,hr,fun c r e=>(hg.rot c r e).symm⟩;rw[zjP,← zdl];exact h.2
theorem ziN {ps:List Sp} {ds:List D} {us:List Value} {b:Nat} {X Z:Rs} {w w':World} (h:SF w b (zad Z) w') (hg:Got (za9 X) Z ds) (e:bnd (za9 X) (sq ps)=Z) (hr:Rds w' ds (fun i=>w.heap.size≤i) us):zn5 (sq ps []) ds us b X w w':=by
 subst e;refine⟨h.1,?_,hr,fun c r e=>(hg.all c r e).symm⟩;rw[← zdl];exact h.2
theorem zav (w:World) (P:Nat→Prop):Rds w [] P []:=by simp only[Rds]
theorem zbt {w:World} {P:Nat→Prop} {ds:List D} {us:List Value} (s:List UInt8) (h:Rds w ds P us):Rds w (dS s :: ds) P (.string (sv s) :: us):=by simp only[Rds];exact⟨_,_,rfl,⟨rfl,rfl⟩,h⟩
theorem zaq {w:World} {P:Nat→Prop} {ds:List D} {us:List Value} (n:Int) (h:Rds w ds P us):Rds w (dI n :: ds) P (.int .i64 n :: us):=by simp only[Rds];exact⟨_,_,rfl,⟨rfl,rfl⟩,h⟩
set_option maxHeartbeats 4000000 in
theorem zgr {w:World} {b:Nat} {X:Rs} (h:Sr w b (zad X)):Calls Tryz.prog 97 #[.pointer (some ⟨b,0,none⟩)] w fun r w'=>∃ s1 s2 n1 n2 n3 n4,r= .returned (.agg #[.string (sv s1),.string (sv s2),.int .i64 n1,.int .i64 n2,.int .i64 n3,.int .i64 n4])∧zn5 zdH [dS s1,dS s2,dI n1,dI n2,dI n3,dI n4] [.string (sv s1),.string (sv s2),.int .i64 n1,.int .i64 n2,.int .i64 n3,.int .i64 n4] b X w w':=by
 obtain⟨ad,cap,e,p,t,r',h1,h2⟩:=h.front;obtain⟨t0,t1,t2,t3⟩:=h1.tok;have hp:=zcF (X:=za9 X) (by rw[za0];exact h) h1 (by rw[za0];exact h2);have HS0:Hid (SF w b (zad (bnd (za9 X) zc1)) ((w.alloc (.cells #[.string ⟨#[]⟩,.string ⟨#[]⟩,.int .i64 0,.int .i64 0,.int .i64 0,.int .i64 0] 97)).alloc (.cells #[.string ⟨#[]⟩,.string ⟨#[]⟩,.int .i64 0,.int .i64 0,.int .i64 0,.int .i64 t.p] 97))):=hide (SF.keep ⟨.refl _ _,hp.1⟩ (zc2 _ _ _));have HG0:=hide hp.2;obtain⟨X0,HX0⟩:∃ Z,Hid (bnd (za9 X) zc1=Z):=⟨_,rfl⟩;rw[uq HX0]at HS0 HG0;have hb:=h.bl;have HB:=hide hb;have n0:¬w.heap.size=b:=by omega
 have n1:¬w.heap.size+1=b:=by omega
 have c0:=h1.c0;simp only[List.length_cons]at c0;have g0:∀ o,(w.alloc o).cell? ⟨b,0,none⟩=some (.slice (some ad) (r'.length+1) cap):=fun o=>kcell ((Keep.refl w).alloc o) c0
 have q3:∀ o,(w.alloc o).cell? ⟨ad.block,ad.off+3,none⟩=some (.int .i64 t.p):=fun o=>kcell ((Keep.refl w).alloc o) t3
 clear hp h1 h2 t0 t1 t2 t3 c0 hb h;go_enter Tryz.func97,Tryz.ntmps97
 go_upto_region 2 with fail
 clear g0 q3;go_wp2_with fail
 (refine(zaK (X:=X0) (uq HS0).2).mono ?_;rintro e w1 ⟨s1,rfl,hd⟩;have HS1:=hide ((uq HS0).step hd);have HG1:=hide ((uq HG0).trans hd.2.2);obtain⟨o1,q1,k1,rfl⟩:=zaf hd.1 (uq HS0).2.bl;clear hd);obtain⟨X1,HX1⟩:∃ Z,Hid (bnd X0 zao=Z):=⟨_,rfl⟩;rw[uq HX1]at HS1 HG1;go_wp2_with fail
 (refine(zah (X:=X1) [119,105,116,104] rfl (SF.box2 (uq HB) (uq HS1)).2).mono ?_;rintro e w1 ⟨rfl,hd⟩;have HS2:=hide ((SF.box2 (uq HB) (uq HS1)).step hd);have HG2:=hide ((uq HG1).trans hd.2.2);obtain⟨o2,q2,k2,rfl⟩:=zaf hd.1 (SF.box2 (uq HB) (uq HS1)).2.bl;clear hd);rw[zap (uq HB)]at HS2 ⊢;generalize q1++q2=q2 at HS2 ⊢;obtain⟨X2,HX2⟩:∃ Z,Hid (bnd X1 (zai [119,105,116,104])=Z):=⟨_,rfl⟩;rw[uq HX2]at HS2 HG2;go_wp2_with fail
 (refine(zaK (X:=X2) (SF.box2 (uq HB) (uq HS2)).2).mono ?_;rintro e w1 ⟨s3,rfl,hd⟩;have HS3:=hide ((SF.box2 (uq HB) (uq HS2)).step hd);have HG3:=hide ((uq HG2).trans hd.2.2);obtain⟨o3,q3,k3,rfl⟩:=zaf hd.1 (SF.box2 (uq HB) (uq HS2)).2.bl;clear hd);rw[zap (uq HB)]at HS3 ⊢;generalize q2++q3=q3 at HS3 ⊢;obtain⟨X3,HX3⟩:∃ Z,Hid (bnd X2 zao=Z):=⟨_,rfl⟩;rw[uq HX3]at HS3 HG3;go_wp2_with fail
 (refine(zaH (X:=X3) [108,111,110,103] rfl (SF.box2 (uq HB) (uq HS3)).2).mono ?_;rintro e w1 ⟨n4,rfl,_,hd⟩;have HS4:=hide ((SF.box2 (uq HB) (uq HS3)).step hd);have HG4:=hide ((uq HG3).trans hd.2.2);obtain⟨o4,q4,k4,rfl⟩:=zaf hd.1 (SF.box2 (uq HB) (uq HS3)).2.bl;clear hd);rw[zap (uq HB)]at HS4 ⊢;generalize q3++q4=q4 at HS4 ⊢;obtain⟨X4,HX4⟩:∃ Z,Hid (bnd X3 (sq [zai [108,111,110,103],zaN])=Z):=⟨_,rfl⟩;rw[uq HX4]at HS4 HG4;go_wp2_with fail
 (refine(zaH (X:=X4) [112,97,99,101] rfl (SF.box2 (uq HB) (uq HS4)).2).mono ?_;rintro e w1 ⟨n5,rfl,_,hd⟩;have HS5:=hide ((SF.box2 (uq HB) (uq HS4)).step hd);have HG5:=hide ((uq HG4).trans hd.2.2);obtain⟨o5,q5,k5,rfl⟩:=zaf hd.1 (SF.box2 (uq HB) (uq HS4)).2.bl;clear hd);rw[zap (uq HB)]at HS5 ⊢;generalize q4++q5=q5 at HS5 ⊢;obtain⟨X5,HX5⟩:∃ Z,Hid (bnd X4 (sq [zai [112,97,99,101],zaN])=Z):=⟨_,rfl⟩;rw[uq HX5]at HS5 HG5;go_wp2_with fail
 (refine(zaH (X:=X5) [108,101,97,115,116] rfl (SF.box2 (uq HB) (uq HS5)).2).mono ?_;rintro e w1 ⟨n6,rfl,_,hd⟩;have HS6:=hide ((SF.box2 (uq HB) (uq HS5)).step hd);have HG6:=hide ((uq HG5).trans hd.2.2);obtain⟨o6,q6,k6,rfl⟩:=zaf hd.1 (SF.box2 (uq HB) (uq HS5)).2.bl;clear hd);rw[zap (uq HB)]at HS6 ⊢;generalize q5++q6=q6 at HS6 ⊢;obtain⟨X6,HX6⟩:∃ Z,Hid (bnd X5 (sq [zai [108,101,97,115,116],zaN])=Z):=⟨_,rfl⟩;rw[uq HX6]at HS6 HG6;go_wp2_with fail
 (refine(zah (X:=X6) [59] rfl (SF.box2 (uq HB) (uq HS6)).2).mono ?_;rintro e w1 ⟨rfl,hd⟩;have HS7:=hide ((SF.box2 (uq HB) (uq HS6)).step hd);have HG7:=hide ((uq HG6).trans hd.2.2);obtain⟨o7,q7,k7,rfl⟩:=zaf hd.1 (SF.box2 (uq HB) (uq HS6)).2.bl;clear hd);rw[zap (uq HB)]at HS7 ⊢;generalize q6++q7=q7 at HS7 ⊢;obtain⟨X7,HX7⟩:∃ Z,Hid (bnd X6 (zai [59])=Z):=⟨_,rfl⟩;rw[uq HX7]at HS7 HG7;go_wp2_with fail
 refine bodyPost_ret (v:= .agg #[.string (sv s1),.string (sv s3),.int .i64 n4,.int .i64 n5,.int .i64 n6,.int .i64 t.p]) ?_ rfl ?_
 ·simp[results,Tryz.results97,go_sem,n0,n1]
 ·refine⟨s1,s3,n4,n5,n6,t.p,rfl,zc7 (d:=dI t.p) (ds:= [dS s1,dS s3,dI n4,dI n5,dI n6]) (SF.box2 (uq HB) (uq HS7)) (uq HG7) ?_ (zbt _ (zbt _ (zaq _ (zaq _ (zaq _ (zaq _ (zav _ _)))))))⟩;have a0:=uq HX0;have a1:=uq HX1;have a2:=uq HX2;have a3:=uq HX3;have a4:=uq HX4;have a5:=uq HX5;have a6:=uq HX6;have a7:=uq HX7;simp only[zac,zat,zcX]at a0 a1 a2 a3 a4 a5 a6 a7 ⊢;rw[a0,a1,a2,a3,a4,a5,a6,a7]
theorem zkq {X:Rs} {n:Int} (hi:isq [45] (zad X)=false) (hg:Got X (bnd X zaN) [dI n]):zad (bnd X za4)=zad (bnd X zaN)∧Got X (bnd X za4) [dI n]:=by
 rcases X with x|⟨c,r⟩
 ·exact⟨rfl,fun c r e=>by cases e⟩
 ·cases r with
  |nil=>exact⟨rfl,fun c r e=>by cases e⟩
  |cons t r=>
   have hne:¬t.s= [45]:=by simpa [isq,zad]using hi
   simp only[bnd,zaN]at hg;have e1:za4 c (t :: r)=if t.k=2 then .ok (c++ [dI t.n],r)else .error (50,t.p):=by
    by_cases h2:t.k=2
    ·simp only[za4,sq,zbb,if_neg hne,zaN,if_pos h2,dB,dI,List.nil_append,List.cons_append];simp
    ·simp only[za4,sq,zbb,if_neg hne,zaN,if_neg h2,bad]
   have e2:zaN c (t :: r)=if t.k=2 then .ok (c++ [dI t.n],r)else .error (50,t.p):=rfl
   simp only[bnd];rw[e1,e2];rw[show(if t.k=2 then Except.ok (c++ [dI t.n],r)else bad 50 (t :: r))=(if t.k=2 then .ok (c++ [dI t.n],r)else .error (50,t.p):Rs)from rfl]at hg;exact⟨rfl,hg⟩
theorem ziO {X Z:Rs} {n:Int} (hi:isq [45] (zad X)=true) (hz:∃ c t r,X= .ok (c,t :: r)∧Z= .ok (c,r)) (hg:Got Z (bnd Z zaN) [dI n]):zad (bnd X za4)=zad (bnd Z zaN)∧Got X (bnd X za4) [dI (-n)]:=by
 obtain⟨c,t,r,rfl,rfl⟩:=hz;have he:t.s= [45]:=by simpa [isq,zad]using hi
 cases r with
 |nil=>
  have e1:za4 c [t]= .error (50,0):=by simp only[za4,sq,zbb,if_pos he,zaN,bad]
  simp only[bnd];rw[e1];exact⟨rfl,fun c r e=>by cases e⟩
 |cons u r=>
  have e1:za4 c (t :: u :: r)=if u.k=2 then .ok (c++ [dI (-u.n)],r)else .error (50,u.p):=by
   by_cases h2:u.k=2
   ·simp only[za4,sq,zbb,if_pos he,zaN,if_pos h2,dB,dI,List.nil_append,List.cons_append];simp
   ·simp only[za4,sq,zbb,if_pos he,zaN,if_neg h2,bad]
  have e2:zaN c (u :: r)=if u.k=2 then .ok (c++ [dI u.n],r)else .error (50,u.p):=rfl
  simp only[bnd]at hg ⊢;rw[e2]at hg ⊢;rw[e1];by_cases h2:u.k=2
  ·rw[if_pos h2]at hg ⊢;rw[if_pos h2];refine⟨rfl,fun c2 r2 e=>?_⟩;obtain⟨c0,r0,h0,h1⟩:=hg _ _ rfl;simp only[Except.ok.injEq,Prod.mk.injEq]at h0;obtain⟨rfl,_⟩:=h0;have hn:u.n=n:=by have:=List.append_cancel_left h1;simpa [dI]using this
   simp only[Except.ok.injEq,Prod.mk.injEq]at e;exact⟨c,_,rfl,by rw[← e.1,hn]⟩
  ·rw[if_neg h2,if_neg h2];exact⟨rfl,fun c r e=>by cases e⟩
theorem zfw {w:World} {b:Nat} {X:Rs} {s:List UInt8} (hs:wrd s=true) (hi:isq s (zad X)=true) (h:Sr w b (zad X)):∃ c t r,X= .ok (c,t :: r)∧t.s=s∧zel (zad X)=zad (.ok (c,r)):=by
 rcases X with x|⟨c,r⟩
 ·cases hi
 ·obtain⟨ad,cap,p,t,r',e,h1⟩:=Sr.alive (r:=r) h;subst e;have he:t.s=s:=by simpa [isq,zad]using hi
  have hk:=((h1.wq.2 t List.mem_cons_self).word hs he).1;exact⟨c,t,r',rfl,he,by show(if t.k=0 then _ else _)=_;rw[if_neg hk];rfl⟩
set_option maxHeartbeats 8000000 in
theorem zgs {w:World} {b:Nat} {X:Rs} (h:Sr w b (zad X)):Calls Tryz.prog 96 #[.pointer (some ⟨b,0,none⟩)] w fun r w'=>∃ s n1 n2 n3 n4 n5 n6 n7 n8 n9 n10,r= .returned (.agg #[.string (sv s),.int .i64 n1,.int .i64 n2,.int .i64 n3,.int .i64 n4,.int .i64 n5,.int .i64 n6,.int .i64 n7,.int .i64 n8,.int .i64 n9,.int .i64 n10])∧zn5 zdG [dS s,dI n1,dI n2,dI n3,dI n4,dI n5,dI n6,dI n7,dI n8,dI n9,dI n10] [.string (sv s),.int .i64 n1,.int .i64 n2,.int .i64 n3,.int .i64 n4,.int .i64 n5,.int .i64 n6,.int .i64 n7,.int .i64 n8,.int .i64 n9,.int .i64 n10] b X w w':=by
 obtain⟨ad,cap,e,p,t,r',h1,h2⟩:=h.front;obtain⟨t0,t1,t2,t3⟩:=h1.tok;have hp:=zcF (X:=za9 X) (by rw[za0];exact h) h1 (by rw[za0];exact h2);have HS0:Hid (SF w b (zad (bnd (za9 X) zc1)) ((w.alloc (.cells #[.string ⟨#[]⟩,.int .i64 0,.int .i64 0,.int .i64 0,.int .i64 0,.int .i64 0,.int .i64 0,.int .i64 0,.int .i64 0,.int .i64 0,.int .i64 0] 84)).alloc (.cells #[.string ⟨#[]⟩,.int .i64 0,.int .i64 0,.int .i64 0,.int .i64 0,.int .i64 0,.int .i64 0,.int .i64 0,.int .i64 0,.int .i64 0,.int .i64 t.p] 84))):=hide (SF.keep ⟨.refl _ _,hp.1⟩ (zc2 _ _ _));have HG0:=hide hp.2;obtain⟨X0,HX0⟩:∃ Z,Hid (bnd (za9 X) zc1=Z):=⟨_,rfl⟩;rw[uq HX0]at HS0 HG0;have hb:=h.bl;have HB:=hide hb;have n0:¬w.heap.size=b:=by omega
 have n1:¬w.heap.size+1=b:=by omega
 have c0:=h1.c0;simp only[List.length_cons]at c0;have g0:∀ o,(w.alloc o).cell? ⟨b,0,none⟩=some (.slice (some ad) (r'.length+1) cap):=fun o=>kcell ((Keep.refl w).alloc o) c0
 have q3:∀ o,(w.alloc o).cell? ⟨ad.block,ad.off+3,none⟩=some (.int .i64 t.p):=fun o=>kcell ((Keep.refl w).alloc o) t3
 clear hp h1 h2 t0 t1 t2 t3 c0 hb h;go_enter Tryz.func96,Tryz.ntmps96
 go_upto_region 2 with fail
 clear g0 q3;go_wp2_with fail
 (refine(zaK (X:=X0) (uq HS0).2).mono ?_;rintro e w1 ⟨s1,rfl,hd⟩;have HS1:=hide ((uq HS0).step hd);have HG1:=hide ((uq HG0).trans hd.2.2);obtain⟨o1,q1,k1,rfl⟩:=zaf hd.1 (uq HS0).2.bl;clear hd);obtain⟨X1,HX1⟩:∃ Z,Hid (bnd X0 zao=Z):=⟨_,rfl⟩;rw[uq HX1]at HS1 HG1;go_wp2_with fail
 (refine(zaH (X:=X1) [118,111,108,117,109,101] rfl (SF.box2 (uq HB) (uq HS1)).2).mono ?_;rintro e w1 ⟨n2,rfl,_,hd⟩;have HS2:=hide ((SF.box2 (uq HB) (uq HS1)).step hd);have HG2:=hide ((uq HG1).trans hd.2.2);obtain⟨o2,q2,k2,rfl⟩:=zaf hd.1 (SF.box2 (uq HB) (uq HS1)).2.bl;clear hd);rw[zap (uq HB)]at HS2 ⊢;generalize q1++q2=q2 at HS2 ⊢;obtain⟨X2,HX2⟩:∃ Z,Hid (bnd X1 (sq [zai [118,111,108,117,109,101],zaN])=Z):=⟨_,rfl⟩;rw[uq HX2]at HS2 HG2;go_wp2_with fail
 (refine(zaH (X:=X2) [102,108,111,119] rfl (SF.box2 (uq HB) (uq HS2)).2).mono ?_;rintro e w1 ⟨n3,rfl,_,hd⟩;have HS3:=hide ((SF.box2 (uq HB) (uq HS2)).step hd);have HG3:=hide ((uq HG2).trans hd.2.2);obtain⟨o3,q3,k3,rfl⟩:=zaf hd.1 (SF.box2 (uq HB) (uq HS2)).2.bl;clear hd);rw[zap (uq HB)]at HS3 ⊢;generalize q2++q3=q3 at HS3 ⊢;obtain⟨X3,HX3⟩:∃ Z,Hid (bnd X2 (sq [zai [102,108,111,119],zaN])=Z):=⟨_,rfl⟩;rw[uq HX3]at HS3 HG3;go_wp2_with fail
 (refine(zgq (X:=X3) [117,115,101] rfl (SF.box2 (uq HB) (uq HS3)).2).mono ?_;rintro e w1 ⟨n4,m4,rfl,hd⟩;have HS4:=hide ((SF.box2 (uq HB) (uq HS3)).step hd);have HG4:=hide ((uq HG3).trans hd.2.2);obtain⟨o4,q4,k4,rfl⟩:=zaf hd.1 (SF.box2 (uq HB) (uq HS3)).2.bl;clear hd);rw[zap (uq HB)]at HS4 ⊢;generalize q3++q4=q4 at HS4 ⊢;obtain⟨X4,HX4⟩:∃ Z,Hid (bnd X3 (sq [zai [117,115,101],zcX])=Z):=⟨_,rfl⟩;rw[uq HX4]at HS4 HG4;go_wp2_with fail
 (refine(zaH (X:=X4) [115,112,101,101,100] rfl (SF.box2 (uq HB) (uq HS4)).2).mono ?_;rintro e w1 ⟨n5,rfl,_,hd⟩;have HS5:=hide ((SF.box2 (uq HB) (uq HS4)).step hd);have HG5:=hide ((uq HG4).trans hd.2.2);obtain⟨o5,q5,k5,rfl⟩:=zaf hd.1 (SF.box2 (uq HB) (uq HS4)).2.bl;clear hd);rw[zap (uq HB)]at HS5 ⊢;generalize q4++q5=q5 at HS5 ⊢;obtain⟨X5,HX5⟩:∃ Z,Hid (bnd X4 (sq [zai [115,112,101,101,100],zaN])=Z):=⟨_,rfl⟩;rw[uq HX5]at HS5 HG5;go_wp2_with fail
 (refine(zah (X:=X5) [103,114,97,100,101] rfl (SF.box2 (uq HB) (uq HS5)).2).mono ?_;rintro e w1 ⟨rfl,hd⟩;have HS6:=hide ((SF.box2 (uq HB) (uq HS5)).step hd);have HG6:=hide ((uq HG5).trans hd.2.2);obtain⟨o6,q6,k6,rfl⟩:=zaf hd.1 (SF.box2 (uq HB) (uq HS5)).2.bl;clear hd);rw[zap (uq HB)]at HS6 ⊢;generalize q5++q6=q6 at HS6 ⊢;obtain⟨X6,HX6⟩:∃ Z,Hid (bnd X5 (zai [103,114,97,100,101])=Z):=⟨_,rfl⟩;rw[uq HX6]at HS6 HG6;go_wp2_with fail
 (refine(zcU (Y:=zad X6) [45] rfl (SF.box2 (uq HB) (uq HS6)).2).mono ?_;rintro e w1 ⟨rfl,rfl⟩);generalize hq:isq [45] (zad X6)=bq;cases bq with
 |false=>
  go_wp2_with fail
  (refine(zen (X:=X6) (SF.box2 (uq HB) (uq HS6)).2).mono ?_;rintro e w1 ⟨n7,rfl,_,hd⟩;have HS7:=hide ((SF.box2 (uq HB) (uq HS6)).step hd);have HG7:=hide hd.2.2;obtain⟨o7,q7,k7,rfl⟩:=zaf hd.1 (SF.box2 (uq HB) (uq HS6)).2.bl;clear hd);rw[zap (uq HB)]at HS7 ⊢;generalize q6++q7=q7 at HS7 ⊢;obtain⟨X7,HX7⟩:∃ Z,Hid (bnd X6 za4=Z):=⟨_,rfl⟩;have hgr:=zkq hq (uq HG7);rw[← hgr.1,uq HX7]at HS7;rw[uq HX7]at hgr;replace HG7:=hide ((uq HG6).trans hgr.2);clear hgr hq;go_wp2_with fail
  (refine(zaH (X:=X7) [119,105,100,116,104] rfl (SF.box2 (uq HB) (uq HS7)).2).mono ?_;rintro e w1 ⟨n8,rfl,_,hd⟩;have HS8:=hide ((SF.box2 (uq HB) (uq HS7)).step hd);have HG8:=hide ((uq HG7).trans hd.2.2);obtain⟨o8,q8,k8,rfl⟩:=zaf hd.1 (SF.box2 (uq HB) (uq HS7)).2.bl;clear hd);rw[zap (uq HB)]at HS8 ⊢;generalize q7++q8=q8 at HS8 ⊢;obtain⟨X8,HX8⟩:∃ Z,Hid (bnd X7 (sq [zai [119,105,100,116,104],zaN])=Z):=⟨_,rfl⟩;rw[uq HX8]at HS8 HG8;go_wp2_with fail
  (refine(zaH (X:=X8) [108,101,110,103,116,104] rfl (SF.box2 (uq HB) (uq HS8)).2).mono ?_;rintro e w1 ⟨n9,rfl,_,hd⟩;have HS9:=hide ((SF.box2 (uq HB) (uq HS8)).step hd);have HG9:=hide ((uq HG8).trans hd.2.2);obtain⟨o9,q9,k9,rfl⟩:=zaf hd.1 (SF.box2 (uq HB) (uq HS8)).2.bl;clear hd);rw[zap (uq HB)]at HS9 ⊢;generalize q8++q9=q9 at HS9 ⊢;obtain⟨X9,HX9⟩:∃ Z,Hid (bnd X8 (sq [zai [108,101,110,103,116,104],zaN])=Z):=⟨_,rfl⟩;rw[uq HX9]at HS9 HG9;go_wp2_with fail
  (refine(zaH (X:=X9) [103,114,101,101,110] rfl (SF.box2 (uq HB) (uq HS9)).2).mono ?_;rintro e w1 ⟨n10,rfl,_,hd⟩;have HS10:=hide ((SF.box2 (uq HB) (uq HS9)).step hd);have HG10:=hide ((uq HG9).trans hd.2.2);obtain⟨o10,q10,k10,rfl⟩:=zaf hd.1 (SF.box2 (uq HB) (uq HS9)).2.bl;clear hd);rw[zap (uq HB)]at HS10 ⊢;generalize q9++q10=q10 at HS10 ⊢;obtain⟨X10,HX10⟩:∃ Z,Hid (bnd X9 (sq [zai [103,114,101,101,110],zaN])=Z):=⟨_,rfl⟩;rw[uq HX10]at HS10 HG10;go_wp2_with fail
  (refine(zah (X:=X10) [59] rfl (SF.box2 (uq HB) (uq HS10)).2).mono ?_;rintro e w1 ⟨rfl,hd⟩;have HS11:=hide ((SF.box2 (uq HB) (uq HS10)).step hd);have HG11:=hide ((uq HG10).trans hd.2.2);obtain⟨o11,q11,k11,rfl⟩:=zaf hd.1 (SF.box2 (uq HB) (uq HS10)).2.bl;clear hd);rw[zap (uq HB)]at HS11 ⊢;generalize q10++q11=q11 at HS11 ⊢;obtain⟨X11,HX11⟩:∃ Z,Hid (bnd X10 (zai [59])=Z):=⟨_,rfl⟩;rw[uq HX11]at HS11 HG11;go_wp2_with fail
  refine bodyPost_ret (v:= .agg #[.string (sv s1),.int .i64 n2,.int .i64 n3,.int .i64 n4,.int .i64 m4,.int .i64 n5,.int .i64 n7,.int .i64 n8,.int .i64 n9,.int .i64 n10,.int .i64 t.p]) ?_ rfl ?_
  ·simp[results,Tryz.results96,go_sem,n0,n1]
  ·refine⟨s1,n2,n3,n4,m4,n5,n7,n8,n9,n10,t.p,rfl,zc7 (d:=dI t.p) (ds:= [dS s1,dI n2,dI n3,dI n4,dI m4,dI n5,dI n7,dI n8,dI n9,dI n10]) (SF.box2 (uq HB) (uq HS11)) (uq HG11) ?_ (zbt _ (zaq _ (zaq _ (zaq _ (zaq _ (zaq _ (zaq _ (zaq _ (zaq _ (zaq _ (zaq _ (zav _ _))))))))))))⟩;have a0:=uq HX0;have a1:=uq HX1;have a2:=uq HX2;have a3:=uq HX3;have a4:=uq HX4;have a5:=uq HX5;have a6:=uq HX6;have a7:=uq HX7;have a8:=uq HX8;have a9:=uq HX9;have a10:=uq HX10;have a11:=uq HX11;simp only[zac,zat,zcX]at a0 a1 a2 a3 a4 a5 a6 a7 a8 a9 a10 a11 ⊢;rw[a0,a1,a2,a3,a4,a5,a6,a7,a8,a9,a10,a11]
 |true=>
  have hz:=zfw (X:=X6) (s:= [45]) rfl hq (SF.box2 (o1':= .cells #[] 0) (o2':= .cells #[] 0) (uq HB) (uq HS6)).2;obtain⟨c9,t9,r9,e6,he9,hnx⟩:=hz;go_wp2_with fail
  (refine(zbm (Y:=zad X6) (SF.box2 (uq HB) (uq HS6)).2).mono ?_;rintro e w1 ⟨t8,rfl,_,hf,hs,_⟩;rw[hnx]at hs;have HS6b:Hid (SF w b (zad (.ok (c9,r9))) w1):=hide ⟨(SF.box2 (uq HB) (uq HS6)).1.trans hf,hs⟩;obtain⟨o6b,q6b,k6b,rfl⟩:=zaf hf (SF.box2 (uq HB) (uq HS6)).2.bl;clear hf hs);rw[zap (uq HB)]at HS6b ⊢;generalize q6++q6b=q6b at HS6b ⊢;go_wp2_with fail
  (refine(zen (X:= .ok (c9,r9)) (SF.box2 (uq HB) (uq HS6b)).2).mono ?_;rintro e w1 ⟨n7,rfl,hr7,hd⟩;have HS7:=hide ((SF.box2 (uq HB) (uq HS6b)).step hd);have HG7:=hide hd.2.2;obtain⟨o7,q7,k7,rfl⟩:=zaf hd.1 (SF.box2 (uq HB) (uq HS6b)).2.bl;clear hd);rw[zap (uq HB)]at HS7 ⊢;generalize q6b++q7=q7 at HS7 ⊢;obtain⟨X7,HX7⟩:∃ Z,Hid (bnd X6 za4=Z):=⟨_,rfl⟩;have hgr:=ziO hq ⟨c9,t9,r9,e6,rfl⟩ (uq HG7);rw[← hgr.1,uq HX7]at HS7;rw[uq HX7]at hgr;replace HG7:=hide ((uq HG6).trans hgr.2);have hw:wrap64 (-n7)= -n7:=by unfold wrap64;omega
  clear hgr hq e6 he9 hnx hr7;go_wp2_with fail
  (refine(zaH (X:=X7) [119,105,100,116,104] rfl (SF.box2 (uq HB) (uq HS7)).2).mono ?_;rintro e w1 ⟨n8,rfl,_,hd⟩;have HS8:=hide ((SF.box2 (uq HB) (uq HS7)).step hd);have HG8:=hide ((uq HG7).trans hd.2.2);obtain⟨o8,q8,k8,rfl⟩:=zaf hd.1 (SF.box2 (uq HB) (uq HS7)).2.bl;clear hd);rw[zap (uq HB)]at HS8 ⊢;generalize q7++q8=q8 at HS8 ⊢;obtain⟨X8,HX8⟩:∃ Z,Hid (bnd X7 (sq [zai [119,105,100,116,104],zaN])=Z):=⟨_,rfl⟩;rw[uq HX8]at HS8 HG8;go_wp2_with fail
  (refine(zaH (X:=X8) [108,101,110,103,116,104] rfl (SF.box2 (uq HB) (uq HS8)).2).mono ?_;rintro e w1 ⟨n9,rfl,_,hd⟩;have HS9:=hide ((SF.box2 (uq HB) (uq HS8)).step hd);have HG9:=hide ((uq HG8).trans hd.2.2);obtain⟨o9,q9,k9,rfl⟩:=zaf hd.1 (SF.box2 (uq HB) (uq HS8)).2.bl;clear hd);rw[zap (uq HB)]at HS9 ⊢;generalize q8++q9=q9 at HS9 ⊢;obtain⟨X9,HX9⟩:∃ Z,Hid (bnd X8 (sq [zai [108,101,110,103,116,104],zaN])=Z):=⟨_,rfl⟩;rw[uq HX9]at HS9 HG9;go_wp2_with fail
  (refine(zaH (X:=X9) [103,114,101,101,110] rfl (SF.box2 (uq HB) (uq HS9)).2).mono ?_;rintro e w1 ⟨n10,rfl,_,hd⟩;have HS10:=hide ((SF.box2 (uq HB) (uq HS9)).step hd);have HG10:=hide ((uq HG9).trans hd.2.2);obtain⟨o10,q10,k10,rfl⟩:=zaf hd.1 (SF.box2 (uq HB) (uq HS9)).2.bl;clear hd);rw[zap (uq HB)]at HS10 ⊢;generalize q9++q10=q10 at HS10 ⊢;obtain⟨X10,HX10⟩:∃ Z,Hid (bnd X9 (sq [zai [103,114,101,101,110],zaN])=Z):=⟨_,rfl⟩;rw[uq HX10]at HS10 HG10;go_wp2_with fail
  (refine(zah (X:=X10) [59] rfl (SF.box2 (uq HB) (uq HS10)).2).mono ?_;rintro e w1 ⟨rfl,hd⟩;have HS11:=hide ((SF.box2 (uq HB) (uq HS10)).step hd);have HG11:=hide ((uq HG10).trans hd.2.2);obtain⟨o11,q11,k11,rfl⟩:=zaf hd.1 (SF.box2 (uq HB) (uq HS10)).2.bl;clear hd);rw[zap (uq HB)]at HS11 ⊢;generalize q10++q11=q11 at HS11 ⊢;obtain⟨X11,HX11⟩:∃ Z,Hid (bnd X10 (zai [59])=Z):=⟨_,rfl⟩;rw[uq HX11]at HS11 HG11;go_wp2_with fail
  refine bodyPost_ret (v:= .agg #[.string (sv s1),.int .i64 n2,.int .i64 n3,.int .i64 n4,.int .i64 m4,.int .i64 n5,.int .i64 (-n7),.int .i64 n8,.int .i64 n9,.int .i64 n10,.int .i64 t.p]) ?_ rfl ?_
  ·simp[results,Tryz.results96,go_sem,n0,n1]
  ·refine⟨s1,n2,n3,n4,m4,n5,(-n7),n8,n9,n10,t.p,rfl,zc7 (d:=dI t.p) (ds:= [dS s1,dI n2,dI n3,dI n4,dI m4,dI n5,dI (-n7),dI n8,dI n9,dI n10]) (SF.box2 (uq HB) (uq HS11)) (uq HG11) ?_ (zbt _ (zaq _ (zaq _ (zaq _ (zaq _ (zaq _ (zaq _ (zaq _ (zaq _ (zaq _ (zaq _ (zav _ _))))))))))))⟩;have a0:=uq HX0;have a1:=uq HX1;have a2:=uq HX2;have a3:=uq HX3;have a4:=uq HX4;have a5:=uq HX5;have a6:=uq HX6;have a7:=uq HX7;have a8:=uq HX8;have a9:=uq HX9;have a10:=uq HX10;have a11:=uq HX11;simp only[zac,zat,zcX]at a0 a1 a2 a3 a4 a5 a6 a7 a8 a9 a10 a11 ⊢;rw[a0,a1,a2,a3,a4,a5,a6,a7,a8,a9,a10,a11]
end Q
end Go.Proofs.YtcdhdhbjnpndkaaGreat
