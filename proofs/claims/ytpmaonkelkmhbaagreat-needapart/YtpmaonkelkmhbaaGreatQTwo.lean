/- The document's reader: name, num, frac, begins. -/
import Derived.Test.YtpmaonkelkmhbaaGreatQChg
namespace Go.Proofs.YtpmaonkelkmhbaaGreat
open Go.RowKit
attribute [local go_sem ↓] Go.wp_at_zero Go.wp_at_succ
set_option linter.unusedVariables false
set_option linter.unusedSimpArgs false
set_option maxRecDepth 10000
namespace Q
theorem zls (k n p:Int) (s:ByteArray) (w:World):(Instr.field 100 (.agg #[.int .i64 k,.string s,.int .i64 n,.int .i64 p]) 1).run Tryz.prog w= .ok (.string s) w:=by kernel_rfl
theorem zhf (k n p:Int) (s:ByteArray) (w:World):(Instr.field 100 (.agg #[.int .i64 k,.string s,.int .i64 n,.int .i64 p]) 2).run Tryz.prog w= .ok (.int .i64 n) w:=by kernel_rfl
def NextT (b:Nat) (w:World) (Q:Tok→World→Prop):Prop:=Calls Tryz.prog 34 #[.pointer (some ⟨b,0,none⟩)] w fun r w'=>∃ t,r= .returned (.agg #[.int .i64 t.k,.string (sv t.s),.int .i64 t.n,.int .i64 t.p])∧Q t w'
def FailT (b:Nat) (x:Int) (w:World) (Q:World→Prop):Prop:=Calls Tryz.prog 36 #[.pointer (some ⟨b,0,none⟩),.int .i64 x] w fun r w'=>r= .returned (.tuple #[])∧Q w'
set_option maxHeartbeats 2000000 in
theorem zlt (b m cap:Nat) (ad:Addr) (kk:Int) (w:World) (Q:ByteArray→World→Prop) (hk:(kk !=1)=true)
  (c0:w.cell? ⟨b,0,none⟩=some (.slice (some ad) (m+1) cap)) (t0:w.cell? ad=some (.int .i64 kk)) (T:Hid (FailT b 50 w (Q ⟨#[]⟩))):
  Calls Tryz.prog 46 #[.pointer (some ⟨b,0,none⟩)] w fun r w'=>∃ s,r= .returned (.string s)∧Q s w':=by
 go_enter Tryz.func46,Tryz.ntmps46;go_wp2_with fail
 (refine(uq T).mono ?_;rintro e w2 ⟨rfl,hq⟩;have HQ:=hide hq;clear hq);go_wp2_with fail
 go_ret;exact⟨_,rfl,uq HQ⟩
set_option maxHeartbeats 2000000 in
theorem zip (b m cap:Nat) (ad:Addr) (kk:Int) (S:ByteArray) (res:Bool) (w:World) (Q:ByteArray→World→Prop) (hk:(kk !=1)=false)
  (c0:w.cell? ⟨b,0,none⟩=some (.slice (some ad) (m+1) cap)) (t0:w.cell? ad=some (.int .i64 kk)) (t1:w.cell? ⟨ad.block,ad.off+1,none⟩=some (.string S))
  (T1:Hid (Calls Tryz.prog 67 #[.string S] w fun e w'=>e= .returned (.bool res)∧Keep w w'))
  (T2:Hid (res=true→∀ w',Keep w w'→FailT b 50 w' (Q ⟨#[]⟩)))
  (T3:Hid (res=false→∀ w',Keep w w'→NextT b w' (fun t=>Q (sv t.s)))):
  Calls Tryz.prog 46 #[.pointer (some ⟨b,0,none⟩)] w fun r w'=>∃ s,r= .returned (.string s)∧Q s w':=by
 have fs:=zls;cases res with
 |true=>
  replace T2:=hide ((uq T2) rfl);clear T3;go_enter Tryz.func46,Tryz.ntmps46;go_wp2_with fail
  (refine(uq T1).mono ?_;rintro e w1 ⟨rfl,hk⟩;have HK:=hide hk;clear hk);go_wp2_with fail
  (refine((uq T2) _ (uq HK)).mono ?_;rintro e w2 ⟨rfl,hq⟩;have HQ:=hide hq;clear hq);go_wp2_with fail
  go_ret;exact⟨_,rfl,uq HQ⟩
 |false=>
  replace T3:=hide ((uq T3) rfl);clear T2;go_enter Tryz.func46,Tryz.ntmps46;go_wp2_with fail
  (refine(uq T1).mono ?_;rintro e w1 ⟨rfl,hk⟩;have HK:=hide hk;clear hk);go_wp2_with fail
  (refine((uq T3) _ (uq HK)).mono ?_;rintro e w2 ⟨t,rfl,hq⟩;have HQ:=hide hq;clear hq);go_wp2_with fail
  go_ret;exact⟨_,rfl,uq HQ⟩
theorem zlu {w:World} {b:Nat} {Y:Except Er (List Tok)} (h:Sr w b Y):NextT b w (fun t w'=>(0≤t.n∧t.n≤999999999999999999)∧Fr (fun i=>i=b) w w'∧Sr w' b (zdA Y)∧∀ r,Y= .ok r→∃ r',r=t :: r'):=zbc h
theorem zlv {w:World} {b:Nat} {Y:Except Er (List Tok)} (x:Int) (hx:x≠0) (h:Sr w b Y):FailT b x w (fun w'=>Fr (fun i=>i=b) w w'∧Sr w' b (zhe x Y)):=zbE x hx h
theorem FailT.mono {b:Nat} {x:Int} {w:World} {Q Q':World→Prop} (h:FailT b x w Q) (k:∀ w',Q w'→Q' w'):FailT b x w Q':=Calls.mono h (fun e w' hh=>⟨hh.1,k _ hh.2⟩)
theorem NextT.mono {b:Nat} {w:World} {Q Q':Tok→World→Prop} (h:NextT b w Q) (k:∀ t w',Q t w'→Q' t w'):NextT b w Q':=Calls.mono h (fun e w' hh=>by obtain⟨t,h1,h2⟩:=hh;exact⟨t,h1,k _ _ h2⟩)
theorem zaE {w:World} {b:Nat} {X:Rs} (h:Sr w b (zad X)):Calls Tryz.prog 46 #[.pointer (some ⟨b,0,none⟩)] w fun r w'=>∃ s,r= .returned (.string (sv s))∧Did zam [dS s] b X w w':=by
 obtain⟨ad,cap,e,p,t,r',h1,h2⟩:=h.front;obtain⟨t0,t1,t2,t3⟩:=h1.tok;have hbad:¬(t.k=1∧¬t.s∈words)→∀ w',Keep w w'→FailT b 50 w' (fun w'=>∃ s,(⟨#[]⟩:ByteArray)=sv s∧Did zam [dS s] b X w w'):=fun hn w' hk=>by
  refine(zlv 50 (by decide) (h.keep hk)).mono ?_;rintro w2 ⟨hf,hs⟩;refine⟨[],rfl,(Fr.keep hk).trans hf,?_⟩;rcases X with x|⟨c,r⟩
  ·exact⟨hs,fun c r e=>by cases e⟩
  ·have er:=h2 r rfl;subst er;have e1:bnd (.ok (c,t :: r')) zam= .error (50,t.p):=by show(if t.k=1∧¬t.s∈words then _ else _)=_;rw[if_neg hn];rfl
   rw[e1];exact⟨hs,fun c r e=>by cases e⟩
 have key:Calls Tryz.prog 46 #[.pointer (some ⟨b,0,none⟩)] w fun r w'=>∃ S,r= .returned (.string S)∧∃ s,S=sv s∧Did zam [dS s] b X w w':=by
  by_cases hk:t.k=1
  ·refine zip b r'.length cap ad t.k (sv t.s) (decide (t.s∈words)) w (fun S w'=>∃ s,S=sv s∧Did zam [dS s] b X w w') (by simp[hk]) h1.c0 t0 t1 (hide ?_) (hide fun hr w' hk2=>hbad (fun hh=>hh.2 (by simpa using hr)) w' hk2) (hide fun hr w' hk2=>?_)
   ·have:=zds (sv t.s) w;rw[show(sv t.s).toList=t.s from ByteArray.toList_mk _]at this;exact this
   ·have hw:¬t.s∈words:=by simpa using hr
    refine(zlu (h.keep hk2)).mono ?_;rintro u w2 ⟨_,hf,hs,hu⟩;refine⟨u.s,rfl,(Fr.keep hk2).trans hf,?_⟩;rcases X with x|⟨c,r⟩
    ·exact⟨hs,fun c r e=>by cases e⟩
    ·have er:=h2 r rfl;subst er;obtain⟨r2,e2⟩:=hu _ rfl;injection e2 with e2 e3
     subst e2;have e1:bnd (.ok (c,t :: r')) zam= .ok (c++ [dS t.s],r'):=by show(if t.k=1∧¬t.s∈words then _ else _)=_;rw[if_pos ⟨hk,hw⟩]
     have e4:zdA (zad (.ok (c,t :: r')))= .ok r':=by show(if t.k=0 then _ else _)=_;rw[if_neg (by omega)]
     rw[e4]at hs;rw[e1];exact⟨hs,fun c2 r2 e2=>by cases e2;exact⟨c,_,rfl,rfl⟩⟩
  ·exact zlt b r'.length cap ad t.k w (fun S w'=>∃ s,S=sv s∧Did zam [dS s] b X w w') (by simpa using hk) h1.c0 t0 (hide (hbad (fun hh=>hk hh.1) w (Keep.refl w)))
 refine key.mono ?_;rintro r w' ⟨S,rfl,s,rfl,hd⟩;exact⟨s,rfl,hd⟩
set_option maxHeartbeats 2000000 in
theorem zpi (b m cap:Nat) (ad:Addr) (kk:Int) (w:World) (Q:Int→World→Prop)
  (c0:w.cell? ⟨b,0,none⟩=some (.slice (some ad) (m+1) cap)) (t0:w.cell? ad=some (.int .i64 kk))
  (T2:Hid (kk≠2→FailT b 50 w (Q 0)))
  (T3:Hid (kk=2→NextT b w (fun t=>Q t.n))):
  Calls Tryz.prog 28 #[.pointer (some ⟨b,0,none⟩),.string ⟨#[]⟩] w fun r w'=>∃ n,r= .returned (.int .i64 n)∧Q n w':=by
 have fs:=zhf;by_cases hk:kk=2
 ·replace T3:=hide ((uq T3) hk);have hb:(kk !=2)=false:=by simp[hk]
  clear T2 hk;go_enter Tryz.func28,Tryz.ntmps28;go_wp2_with fail
  (refine Calls.mono (uq T3) ?_;rintro e w2 ⟨t,rfl,hq⟩;have HQ:=hide hq;clear hq);go_wp2_with fail
  go_ret;exact⟨_,rfl,uq HQ⟩
 ·replace T2:=hide ((uq T2) hk);have hb:(kk !=2)=true:=by simp[hk]
  clear T3 hk;go_enter Tryz.func28,Tryz.ntmps28;go_wp2_with fail
  (refine Calls.mono (uq T2) ?_;rintro e w2 ⟨rfl,hq⟩;have HQ:=hide hq;clear hq);go_wp2_with fail
  go_ret;exact⟨_,rfl,uq HQ⟩
def Fro (b:Nat) (w:World) (kk:Int):Prop:=∃ ad m cap,w.cell? ⟨b,0,none⟩=some (.slice (some ad) (m+1) cap)∧w.cell? ad=some (.int .i64 kk)
set_option maxHeartbeats 2000000 in
theorem zpj (b:Nat) (W:ByteArray) (w:World) (Q:Int→World→Prop) (hW:W.toList.isEmpty=false)
  (T1:Hid (Calls Tryz.prog 29 #[.pointer (some ⟨b,0,none⟩),.string W] w fun r w'=>r= .returned (.tuple #[])∧∃ kk,Fro b w' kk∧(kk≠2→FailT b 50 w' (Q 0))∧(kk=2→NextT b w' (fun t=>Q t.n)))):
  Calls Tryz.prog 28 #[.pointer (some ⟨b,0,none⟩),.string W] w fun r w'=>∃ n,r= .returned (.int .i64 n)∧Q n w':=by
 have fs:=zhf;go_enter Tryz.func28,Tryz.ntmps28;go_wp2_with fail
 (refine(uq T1).mono ?_;rintro e w1 ⟨rfl,kk,⟨ad,m,cap,c0,t0⟩,h2,h3⟩;have T2:=hide h2;have T3:=hide h3;clear h2 h3);by_cases hk:kk=2
 ·replace T3:=hide ((uq T3) hk);have hb:(kk !=2)=false:=by simp[hk]
  clear T2 hk;go_wp2_with fail
  (refine Calls.mono (uq T3) ?_;rintro e w2 ⟨t,rfl,hq⟩;have HQ:=hide hq;clear hq);go_wp2_with fail
  go_ret;exact⟨_,rfl,uq HQ⟩
 ·replace T2:=hide ((uq T2) hk);have hb:(kk !=2)=true:=by simp[hk]
  clear T3 hk;go_wp2_with fail
  (refine Calls.mono (uq T2) ?_;rintro e w2 ⟨rfl,hq⟩;have HQ:=hide hq;clear hq);go_wp2_with fail
  go_ret;exact⟨_,rfl,uq HQ⟩
theorem zdY {w:World} {b:Nat} {X:Rs} (h:Sr w b (zad X)):∃ kk,Fro b w kk∧(kk≠2→FailT b 50 w (fun w'=>(0≤(0:Int)∧(0:Int)≤999999999999999999)∧Did zaG [dI 0] b X w w'))∧(kk=2→NextT b w (fun t w'=>(0≤t.n∧t.n≤999999999999999999)∧Did zaG [dI t.n] b X w w')):=by
 obtain⟨ad,cap,e,p,t,r',h1,h2⟩:=h.front;obtain⟨t0,t1,t2,t3⟩:=h1.tok;refine⟨t.k,⟨ad,_,cap,h1.c0,t0⟩,fun hk=>?_,fun hk=>?_⟩
 ·refine(zlv 50 (by decide) h).mono ?_;rintro w2 ⟨hf,hs⟩;refine⟨by decide,hf,?_⟩;rcases X with x|⟨c,r⟩
  ·exact⟨hs,fun c r e=>by cases e⟩
  ·have er:=h2 r rfl;subst er;have e1:bnd (.ok (c,t :: r')) zaG= .error (50,t.p):=by show(if t.k=2 then _ else _)=_;rw[if_neg hk];rfl
   rw[e1];exact⟨hs,fun c r e=>by cases e⟩
 ·refine(zlu h).mono ?_;rintro u w2 ⟨hn,hf,hs,hu⟩;refine⟨hn,hf,?_⟩;rcases X with x|⟨c,r⟩
  ·exact⟨hs,fun c r e=>by cases e⟩
  ·have er:=h2 r rfl;subst er;obtain⟨r2,e2⟩:=hu _ rfl;injection e2 with e2 e3
   subst e2;have e1:bnd (.ok (c,t :: r')) zaG= .ok (c++ [dI t.n],r'):=by show(if t.k=2 then _ else _)=_;rw[if_pos hk]
   have e4:zdA (zad (.ok (c,t :: r')))= .ok r':=by show(if t.k=0 then _ else _)=_;rw[if_neg (by omega)]
   rw[e4]at hs;rw[e1];exact⟨hs,fun c2 r2 e2=>by cases e2;exact⟨c,_,rfl,rfl⟩⟩
theorem zdC {w:World} {b:Nat} {X:Rs} (h:Sr w b (zad X)):Calls Tryz.prog 28 #[.pointer (some ⟨b,0,none⟩),.string ⟨#[]⟩] w fun r w'=>∃ n,r= .returned (.int .i64 n)∧(0≤n∧n≤999999999999999999)∧Did zaG [dI n] b X w w':=by
 obtain⟨kk,⟨ad,m,cap,c0,t0⟩,h2,h3⟩:=zdY h;exact zpi b m cap ad kk w _ c0 t0 (hide h2) (hide h3)
theorem Did.seq {p q:Sp} {ds es:List D} {b:Nat} {X:Rs} {w w' w'':World} (h:Did p ds b X w w') (k:Did q es b (bnd X p) w' w''):Did (sq [p,q]) (ds++es) b X w w'':=by
 obtain⟨h1,h2,h3⟩:=h;obtain⟨k1,k2,k3⟩:=k;have e:bnd X (sq [p,q])=bnd (bnd X p) q:=by rw[zac,zac,zar]
 unfold Did
 rw[e];exact⟨h1.trans k1,k2,h3.trans k3⟩
theorem zaB {w:World} {b:Nat} {X:Rs} (s:List UInt8) (hs:wrd s=true) (h:Sr w b (zad X)):Calls Tryz.prog 28 #[.pointer (some ⟨b,0,none⟩),.string (sv s)] w fun r w'=>∃ n,r= .returned (.int .i64 n)∧(0≤n∧n≤999999999999999999)∧Did (sq [zah s,zaG]) [dI n] b X w w':=by
 refine zpj b (sv s) w (fun n w'=>(0≤n∧n≤999999999999999999)∧Did (sq [zah s,zaG]) [dI n] b X w w') ?_ (hide ((zag s hs h).mono ?_))
 ·rw[show(sv s).toList=s from ByteArray.toList_mk _];cases s with
  |nil=>cases hs
  |cons c s=>rfl
 ·rintro r w' ⟨rfl,hd⟩;obtain⟨kk,hf,h2,h3⟩:=zdY (X:=bnd X (zah s)) hd.2.1;exact⟨rfl,kk,hf,fun hk=>(h2 hk).mono (fun w2 hh=>⟨hh.1,hd.seq hh.2⟩),fun hk=>(h3 hk).mono (fun t w2 hh=>⟨hh.1,hd.seq hh.2⟩)⟩
set_option maxHeartbeats 2000000 in
theorem ze6 {w:World} {b:Nat} {X:Rs} (s:List UInt8) (hs:wrd s=true) (h:Sr w b (zad X)):Calls Tryz.prog 30 #[.pointer (some ⟨b,0,none⟩),.string (sv s)] w fun r w'=>∃ n m,r= .returned (.agg #[.int .i64 n,.int .i64 m])∧Did (sq [zah s,zcq]) [dI n,dI m] b X w w':=by
 have HS0:Hid (SF w b (zad X) (w.alloc (.cells #[.int .i64 0,.int .i64 0] 23))):=hide (SF.keep ⟨.refl _ _,h⟩ ((Keep.refl w).alloc _));have hb:=h.bl;have HB:=hide hb;have n0:¬w.heap.size=b:=by omega
 have T1:=hide (fun(w':World) (h:Sr w' b (zad X))=>zaB s hs h);generalize sv s=W at T1 ⊢;go_enter Tryz.func30,Tryz.ntmps30;go_wp2_with fail
 (refine((uq T1) _ (uq HS0).2).mono ?_;rintro e w1 ⟨n,rfl,_,hd⟩;have HS1:=hide ((uq HS0).step hd);have HG1:=hide hd.2.2;obtain⟨o1,s1,k1,rfl⟩:=zaf hd.1 (uq HS0).2.bl;clear hd);go_wp2_with fail
 (refine(zaB (X:=bnd X (sq [zah s,zaG])) [47] rfl (uq HS1).2).mono ?_;rintro e w1 ⟨m,rfl,_,hd⟩;have HS2:=hide ((uq HS1).step hd);have HG2:=hide ((uq HG1).trans hd.2.2);obtain⟨o2,s2,k2,rfl⟩:=zaf hd.1 (uq HS1).2.bl;clear hd);rw[zdB _ _ _ _ _ _ _ _ (by rw[World.size_alloc];omega)]at HS2 ⊢;go_wp2_with fail
 refine bodyPost_ret (v:= .agg #[.int .i64 n,.int .i64 m]) ?_ rfl ?_
 ·simp[results,Tryz.results30,go_sem,n0]
 ·refine⟨n,m,rfl,?_⟩;have e:bnd X (sq [zah s,zcq])=bnd (bnd X (sq [zah s,zaG])) (sq [zah [47],zaG]):=by
   show bnd X (sq [zah s,sq [zaG,zah [47],zaG]])=_;simp only[zac,zar]
  unfold Did
  rw[e];exact⟨(SF.box1 (uq HB) (uq HS2)).1,(SF.box1 (uq HB) (uq HS2)).2,uq HG2⟩
set_option maxHeartbeats 2000000 in
theorem zev (b:Nat) (W:ByteArray) (n most:Nat) (q eq r0:Bool) (w:World) (Q:World→Prop) (he:((n:Int)==(most:Int))=eq) (hr:(q&& !eq)=r0)
  (T1:Hid (Calls Tryz.prog 33 #[.pointer (some ⟨b,0,none⟩),.string W] w fun r w'=>r= .returned (.bool q)∧w'=w))
  (H1:Hid (q=false→Q w))
  (T2:Hid (q=true→eq=true→FailT b 4 w Q))
  (T3:Hid (q=true→eq=false→NextT b w (fun t=>Q))):
  Calls Tryz.prog 31 #[.pointer (some ⟨b,0,none⟩),.string W,.int .i64 (n:Int),.int .i64 (most:Int)] w fun r w'=>r= .returned (.bool r0)∧Q w':=by
 subst hr;cases q with
 |false=>
  replace H1:=hide ((uq H1) rfl);clear T2 T3;go_enter Tryz.func31,Tryz.ntmps31;go_wp2_with fail
  (refine(uq T1).mono ?_;rintro e w1 ⟨rfl,rfl⟩);go_wp2_with fail
  go_ret;exact⟨rfl,uq H1⟩
 |true=>
  cases eq with
  |true=>
   replace T2:=hide ((uq T2) rfl rfl);clear T3 H1;go_enter Tryz.func31,Tryz.ntmps31;go_wp2_with fail
   (refine(uq T1).mono ?_;rintro e w1 ⟨rfl,rfl⟩);go_wp2_with fail
   (refine Calls.mono (uq T2) ?_;rintro e w2 ⟨rfl,hq⟩;have HQ:=hide hq;clear hq);go_wp2_with fail
   go_ret;exact⟨rfl,uq HQ⟩
  |false=>
   replace T3:=hide ((uq T3) rfl rfl);clear T2 H1;go_enter Tryz.func31,Tryz.ntmps31;go_wp2_with fail
   (refine(uq T1).mono ?_;rintro e w1 ⟨rfl,rfl⟩);go_wp2_with fail
   (refine Calls.mono (uq T3) ?_;rintro e w2 ⟨t,rfl,hq⟩;have HQ:=hide hq;clear hq);go_wp2_with fail
   go_ret;exact⟨rfl,uq HQ⟩
theorem zaM {w:World} {b:Nat} {Y:Except Er (List Tok)} (s:List UInt8) (hs:wrd s=true) (n most:Nat) (h:Sr w b Y):Calls Tryz.prog 31 #[.pointer (some ⟨b,0,none⟩),.string (sv s),.int .i64 (n:Int),.int .i64 (most:Int)] w fun r w'=>r= .returned (.bool (bgn s n most Y).1)∧Fr (fun i=>i=b) w w'∧Sr w' b (bgn s n most Y).2:=by
 have hd:((n:Int)==(most:Int))=decide (n=most):=by
  by_cases e:n=most
  ·simp[e]
  ·have:¬(n:Int)=(most:Int):=by omega
   simp[e,this]
 refine zev b (sv s) n most (isq s Y) (decide (n=most)) _ w _ hd ?_ (hide (zco s hs h)) (hide fun hq=>⟨.refl _ _,?_⟩) (hide fun hq he=>(zlv 4 (by decide) h).mono ?_) (hide fun hq he=>(zlu h).mono ?_)
 ·match Y with
  | .error x=>rfl
  | .ok []=>rfl
  | .ok (t :: r)=>
   show(decide (t.s=s)&& !(decide (n=most)))=(if t.s=s then(if n=most then(false,Except.error (4,t.p))else(true,.ok r))else(false,.ok (t :: r)):Bool×Except Er (List Tok)).1;by_cases e1:t.s=s<;>by_cases e2:n=most<;>simp[e1,e2]
 ·match Y,h,hq with
  | .error x,h,_=>exact h
  | .ok [],h,_=>exact h
  | .ok (t :: r),h,hq=>
   have:¬t.s=s:=by simpa [isq]using hq
   simp only[bgn,if_neg this];exact h
 ·rintro w' ⟨hf,hs'⟩;refine⟨hf,?_⟩
  match Y,h,hq,hs' with
  | .error x,h,hq,hs'=>cases hq
  | .ok [],h,hq,hs'=>cases hq
  | .ok (t :: r),h,hq,hs'=>
   have e1:t.s=s:=by simpa [isq]using hq
   have e2:n=most:=by simpa using he
   simp only[bgn,if_pos e1,if_pos e2];exact hs'
 ·rintro t w' ⟨_,hf,hs',_⟩;refine⟨hf,?_⟩
  match Y,h,hq,hs' with
  | .error x,h,hq,hs'=>cases hq
  | .ok [],h,hq,hs'=>cases hq
  | .ok (u :: r),h,hq,hs'=>
   have e1:u.s=s:=by simpa [isq]using hq
   have e2:¬n=most:=by simpa using he
   obtain⟨ad,cap,p,t1,r',e,h1⟩:=h.alive;injection e with e e'
   subst e;have hk:=((h1.wq.2 u List.mem_cons_self).word hs e1).1;simp only[bgn,if_pos e1,if_neg e2];have e4:zdA (.ok (u :: r))= .ok r:=by show(if u.k=0 then _ else _)=_;rw[if_neg hk]
   rw[e4]at hs';exact hs'
end Q
end Go.Proofs.YtpmaonkelkmhbaaGreat
