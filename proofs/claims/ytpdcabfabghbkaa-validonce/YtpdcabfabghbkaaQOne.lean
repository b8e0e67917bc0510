/- The document's reader: fail, next, is, want, name, num, frac, begins. -/
import Derived.Test.YtpdcabfabghbkaaQSt
import Derived.Test.YtpdcabfabghbkaaLIn
namespace Go.Proofs.Ytpdcabfabghbkaa
open Go.RowKit
attribute [local go_sem ↓] Go.wp_at_zero Go.wp_at_succ
set_option linter.unusedVariables false
set_option linter.unusedSimpArgs false
set_option maxRecDepth 10000
namespace Q
theorem frb (w:World) (b j:Nat) (v:Value) (hv:v.oneCell'=true):Fr (fun i=>i=b) w (w.setCell ⟨b,j,none⟩ v):=(Fr.refl (fun i=>i=b) w).set ⟨b,j,none⟩ v rfl hv
set_option maxHeartbeats 1000000 in
theorem zeM (b:Nat) (e x:Int) (w:World) (he:(e==0)=false) (c1:w.cell? ⟨b,1,none⟩=some (.int .i64 e)):Calls Try.prog 69 #[.pointer (some ⟨b,0,none⟩),.int .i64 x] w fun r w'=>r= .returned (.tuple #[])∧w'=w:=by
 go_enter Try.func69,Try.ntmps69;go_wp2_with fail
 go_end0
 exact⟨rfl,rfl⟩
set_option maxHeartbeats 2000000 in
theorem zd5 (b m cap:Nat) (ad:Addr) (x p pp:Int) (w:World) (hb:ad.block≠b) (c0:w.cell? ⟨b,0,none⟩=some (.slice (some ad) (m+1) cap)) (c1:w.cell? ⟨b,1,none⟩=some (.int .i64 0)) (c2:w.cell? ⟨b,2,none⟩=some (.int .i64 p)) (f1:w.frozen? ⟨b,1,none⟩=false) (f2:w.frozen? ⟨b,2,none⟩=false) (t3:w.cell? ⟨ad.block,ad.off+3,none⟩=some (.int .i64 pp)):
  Calls Try.prog 69 #[.pointer (some ⟨b,0,none⟩),.int .i64 x] w fun r w'=>r= .returned (.tuple #[])∧w'=(w.setCell ⟨b,1,none⟩ (.int .i64 x)).setCell ⟨b,2,none⟩ (.int .i64 pp):=by
 have d0:(w.setCell ⟨b,1,none⟩ (.int .i64 x)).cell? ⟨b,0,none⟩=some (.slice (some ad) (m+1) cap):=by rw[zbE _ _ _ _ (by simp)];exact c0
 have d2:(w.setCell ⟨b,1,none⟩ (.int .i64 x)).cell? ⟨b,2,none⟩=some (.int .i64 p):=by rw[zbE _ _ _ _ (by simp)];exact c2
 have d3:(w.setCell ⟨b,1,none⟩ (.int .i64 x)).cell? ⟨ad.block,ad.off+3,none⟩=some (.int .i64 pp):=by rw[zhO _ _ _ _ (fun e=>hb e.symm)];exact t3
 have d4:(w.setCell ⟨b,1,none⟩ (.int .i64 x)).frozen? ⟨b,2,none⟩=false:=by rw[World.frozen?_setCell];exact f2
 go_enter Try.func69,Try.ntmps69
 go_upto_region 2 with fail
 obtain⟨w1,HW⟩:∃ w1,Hid (w.setCell ⟨b,1,none⟩ (.int .i64 x)=w1):=⟨_,rfl⟩;rw[uq HW]at d0 d2 d3 d4 ⊢;go_wp2_with fail
 go_end0
 exact⟨rfl,by rw[uq HW]⟩
set_option maxHeartbeats 2000000 in
theorem zcZ (b m cap:Nat) (ad:Addr) (e kk nn pp:Int) (S:ByteArray) (w:World) (h:(e==0)=false∨((e==0)=true∧(kk !=0)=false)) (c0:w.cell? ⟨b,0,none⟩=some (.slice (some ad) (m+1) cap)) (c1:w.cell? ⟨b,1,none⟩=some (.int .i64 e)) (t0:w.cell? ad=some (.int .i64 kk)) (t1:w.cell? ⟨ad.block,ad.off+1,none⟩=some (.string S)) (t2:w.cell? ⟨ad.block,ad.off+2,none⟩=some (.int .i64 nn)) (t3:w.cell? ⟨ad.block,ad.off+3,none⟩=some (.int .i64 pp)):
  Calls Try.prog 67 #[.pointer (some ⟨b,0,none⟩)] w fun r w'=>r= .returned (.agg #[.int .i64 kk,.string S,.int .i64 nn,.int .i64 pp])∧Keep w w':=by
 have k:∀ o,Keep w (w.alloc o):=fun o=>(Keep.refl w).alloc o
 have g0:∀ o,(w.alloc o).cell? ⟨b,0,none⟩=some (.slice (some ad) (m+1) cap):=fun o=>kcell (k o) c0
 have q0:∀ o,(w.alloc o).cell? ad=some (.int .i64 kk):=fun o=>kcell (k o) t0
 have q1:∀ o,(w.alloc o).cell? ⟨ad.block,ad.off+1,none⟩=some (.string S):=fun o=>kcell (k o) t1
 have q2:∀ o,(w.alloc o).cell? ⟨ad.block,ad.off+2,none⟩=some (.int .i64 nn):=fun o=>kcell (k o) t2
 have q3:∀ o,(w.alloc o).cell? ⟨ad.block,ad.off+3,none⟩=some (.int .i64 pp):=fun o=>kcell (k o) t3
 have g1:∀ o o2,((w.alloc o).alloc o2).cell? ⟨b,1,none⟩=some (.int .i64 e):=fun o o2=>kcell ((k o).alloc o2) c1
 have HK:=hide k;clear k;rcases h with h|⟨h,h2⟩
 ·go_enter Try.func67,Try.ntmps67;go_wp2_with fail
  refine bodyPost_ret (v:= .agg #[.int .i64 kk,.string S,.int .i64 nn,.int .i64 pp]) ?_ rfl ?_
  ·simp[results,Try.results67,go_sem]
  ·exact⟨rfl,by repeat(first|apply zaB|apply Keep.alloc|apply Keep.drew|exact Keep.refl _)⟩
 ·go_enter Try.func67,Try.ntmps67;go_wp2_with fail
  refine bodyPost_ret (v:= .agg #[.int .i64 kk,.string S,.int .i64 nn,.int .i64 pp]) ?_ rfl ?_
  ·simp[results,Try.results67,go_sem]
  ·exact⟨rfl,by repeat(first|apply zaB|apply Keep.alloc|apply Keep.drew|exact Keep.refl _)⟩
set_option maxHeartbeats 2000000 in
theorem zhZ (b m cap:Nat) (ad:Addr) (kk nn pp:Int) (S:ByteArray) (w:World) (hc:¬cap=1) (hk:(kk !=0)=true) (c0:w.cell? ⟨b,0,none⟩=some (.slice (some ad) (m+1) cap)) (c1:w.cell? ⟨b,1,none⟩=some (.int .i64 0)) (f0:w.frozen? ⟨b,0,none⟩=false) (t0:w.cell? ad=some (.int .i64 kk)) (t1:w.cell? ⟨ad.block,ad.off+1,none⟩=some (.string S)) (t2:w.cell? ⟨ad.block,ad.off+2,none⟩=some (.int .i64 nn)) (t3:w.cell? ⟨ad.block,ad.off+3,none⟩=some (.int .i64 pp)):
  Calls Try.prog 67 #[.pointer (some ⟨b,0,none⟩)] w fun r w'=>r= .returned (.agg #[.int .i64 kk,.string S,.int .i64 nn,.int .i64 pp])∧Keep (w.setCell ⟨b,0,none⟩ (.slice (some ⟨ad.block,ad.off+4,none⟩) m (cap - 1))) w':=by
 have hb:b<w.heap.size:=zcd c0;have k:∀ o,Keep w (w.alloc o):=fun o=>(Keep.refl w).alloc o
 have g0:∀ o,(w.alloc o).cell? ⟨b,0,none⟩=some (.slice (some ad) (m+1) cap):=fun o=>kcell (k o) c0
 have q0:∀ o,(w.alloc o).cell? ad=some (.int .i64 kk):=fun o=>kcell (k o) t0
 have q1:∀ o,(w.alloc o).cell? ⟨ad.block,ad.off+1,none⟩=some (.string S):=fun o=>kcell (k o) t1
 have q2:∀ o,(w.alloc o).cell? ⟨ad.block,ad.off+2,none⟩=some (.int .i64 nn):=fun o=>kcell (k o) t2
 have q3:∀ o,(w.alloc o).cell? ⟨ad.block,ad.off+3,none⟩=some (.int .i64 pp):=fun o=>kcell (k o) t3
 have HK:=hide k;clear k;go_enter Try.func67,Try.ntmps67;have g1:∀ o o2,((w.alloc o).alloc o2).cell? ⟨b,1,none⟩=some (.int .i64 0):=fun o o2=>kcell (((uq HK) o).alloc o2) c1
 have g3:∀ o o2,((w.alloc o).alloc o2).cell? ⟨b,0,none⟩=some (.slice (some ad) (m+1) cap):=fun o o2=>kcell (((uq HK) o).alloc o2) c0
 have g4:∀ o o2,((w.alloc o).alloc o2).frozen? ⟨b,0,none⟩=false:=fun o o2=>zhN (((uq HK) o).alloc o2) c0 f0
 go_upto_region 4 with fail
 clear g0 g1 g3 g4 q0 q1 q2 q3 t0 t1 t2 t3 HK c0 c1 f0;go_wp2_with fail
 refine bodyPost_ret (v:= .agg #[.int .i64 kk,.string S,.int .i64 nn,.int .i64 pp]) ?_ rfl ?_
 ·simp[results,Try.results67,go_sem]
 ·exact⟨rfl,by repeat(first|apply zaB|apply Keep.alloc|apply Keep.drew|exact Keep.refl _)⟩
set_option maxHeartbeats 2000000 in
theorem zh0 (b:Nat) (e:Int) (X:ByteArray) (w:World) (he:(e==0)=false) (c1:w.cell? ⟨b,1,none⟩=some (.int .i64 e)):Calls Try.prog 66 #[.pointer (some ⟨b,0,none⟩),.string X] w fun r w'=>r= .returned (.bool false)∧w'=w:=by
 go_enter Try.func66,Try.ntmps66;go_wp2_with fail
 go_ret;exact⟨rfl,rfl⟩
set_option maxHeartbeats 2000000 in
theorem zfB (b m cap:Nat) (ad:Addr) (kk:Int) (S X:ByteArray) (w:World) (x y z r0:Bool) (hx:(kk !=2)=x) (hy:(kk !=0)=y) (hz:(S.toList==X.toList)=z) (hr:(x&&(y&&z))=r0) (c0:w.cell? ⟨b,0,none⟩=some (.slice (some ad) (m+1) cap)) (c1:w.cell? ⟨b,1,none⟩=some (.int .i64 0)) (t0:w.cell? ad=some (.int .i64 kk)) (t1:w.cell? ⟨ad.block,ad.off+1,none⟩=some (.string S)):Calls Try.prog 66 #[.pointer (some ⟨b,0,none⟩),.string X] w fun r w'=>r= .returned (.bool r0)∧w'=w:=by
 subst hr;cases x with
 |false=>
  go_enter Try.func66,Try.ntmps66;go_wp2_with fail
  go_ret;exact⟨rfl,rfl⟩
 |true=>cases y with
  |false=>
   go_enter Try.func66,Try.ntmps66;go_wp2_with fail
   go_ret;exact⟨rfl,rfl⟩
  |true=>cases z with
   |false=>
    go_enter Try.func66,Try.ntmps66;go_wp2_with fail
    go_ret;exact⟨rfl,rfl⟩
   |true=>
    go_enter Try.func66,Try.ntmps66;go_wp2_with fail
    go_ret;exact⟨rfl,rfl⟩
theorem Rm.tok {w:World} {b:Nat} {ad:Addr} {cap:Nat} {e p:Int} {t:Tok} {r:List Tok} (h:Rm w b ad cap e p (t :: r)):Tc w ad t:=by
 have:=h.tc 0 (by simp);rw[Nat.zero_mul]at this;have e0:ad.add 0=ad:=by unfold Addr.add;rw[if_pos rfl]
 rw[e0]at this;exact this
theorem Rm.num {w:World} {b:Nat} {ad:Addr} {cap:Nat} {e p:Int} {t:Tok} {r:List Tok} (h:Rm w b ad cap e p (t :: r)):0≤t.n∧t.n≤999999999999999999:=h.wq.1.2.2 t List.mem_cons_self
def isq (s:List UInt8):Except Er (List Tok)→Bool
 | .ok (t :: _)=>decide (t.s=s)
 | _=>false
def zeN (x:Int):Except Er (List Tok)→Except Er (List Tok)
 | .ok (t :: _)=> .error (x,t.p)
 |Y=>Y
def zcJ:Except Er (List Tok)→Except Er (List Tok)
 | .ok (t :: r)=>if t.k=0 then .ok (t :: r)else .ok r
 |Y=>Y
theorem zbY {w:World} {b:Nat} {Y:Except Er (List Tok)} (s:List UInt8) (hs:wrd s=true) (h:Sr w b Y):Calls Try.prog 66 #[.pointer (some ⟨b,0,none⟩),.string (sv s)] w fun r w'=>r= .returned (.bool (isq s Y))∧w'=w:=by
 cases Y with
 |error x=>
  obtain⟨ad,cap,t,r',h1,h2⟩:=h.dead;exact zh0 b x.1 _ w (by simpa using h2) h1.c1
 |ok r=>
  obtain⟨ad,cap,p,t,r',rfl,h1⟩:=h.alive;obtain⟨t0,t1,t2,t3⟩:=h1.tok;refine zfB b r'.length cap ad t.k (sv t.s) (sv s) w _ _ _ _ rfl rfl rfl ?_ h1.c0 h1.c1 t0 t1;show(t.k !=2&&(t.k !=0&&((sv t.s).toList==(sv s).toList)))=decide (t.s=s);rw[show(sv t.s).toList=t.s from ByteArray.toList_mk _,show(sv s).toList=s from ByteArray.toList_mk _];by_cases e:t.s=s
  ·have:=(h1.wq.2 t List.mem_cons_self).word hs e;simp[this,e]
  ·have e2:(t.s==s)=false:=by simpa using e
   simp[e,e2]
theorem zbp {w:World} {b:Nat} {Y:Except Er (List Tok)} (x:Int) (hx:x≠0) (h:Sr w b Y):Calls Try.prog 69 #[.pointer (some ⟨b,0,none⟩),.int .i64 x] w fun r w'=>r= .returned (.tuple #[])∧Fr (fun i=>i=b) w w'∧Sr w' b (zeN x Y):=by
 cases Y with
 |error y=>
  obtain⟨ad,cap,t,r',h1,h2⟩:=h.dead;refine(zeM b y.1 x w (by simpa using h2) h1.c1).mono ?_;rintro r w' ⟨rfl,rfl⟩;exact⟨rfl,.refl _ _,h⟩
 |ok r=>
  obtain⟨ad,cap,p,t,r',rfl,h1⟩:=h.alive;obtain⟨t0,t1,t2,t3⟩:=h1.tok;refine(zd5 b r'.length cap ad x p t.p w (by have:=h1.lt;omega) h1.c0 h1.c1 h1.c2 h1.f1 h1.f2 t3).mono ?_;rintro r w' ⟨rfl,rfl⟩;exact⟨rfl,(frb w b 1 _ rfl).trans (frb _ b 2 _ rfl),zjH (x:=(x,t.p)) h1.fail hx⟩
theorem za2 {w:World} {b:Nat} {Y:Except Er (List Tok)} (h:Sr w b Y):Calls Try.prog 67 #[.pointer (some ⟨b,0,none⟩)] w fun r w'=>∃ t,r= .returned (tv t)∧(0≤t.n∧t.n≤999999999999999999)∧Fr (fun i=>i=b) w w'∧Sr w' b (zcJ Y)∧∀ r,Y= .ok r→∃ r',r=t :: r':=by
 cases Y with
 |error y=>
  obtain⟨ad,cap,t,r',h1,h2⟩:=h.dead;obtain⟨t0,t1,t2,t3⟩:=h1.tok;refine(zcZ b r'.length cap ad y.1 t.k t.n t.p (sv t.s) w (.inl (by simpa using h2)) h1.c0 h1.c1 t0 t1 t2 t3).mono ?_;rintro r w' ⟨rfl,hk⟩;exact⟨t,rfl,h1.num,.keep hk,h.keep hk,fun r e=>by cases e⟩
 |ok r=>
  obtain⟨ad,cap,p,t,r',rfl,h1⟩:=h.alive;obtain⟨t0,t1,t2,t3⟩:=h1.tok;by_cases hk:t.k=0
  ·refine(zcZ b r'.length cap ad 0 t.k t.n t.p (sv t.s) w (.inr ⟨rfl,by simp[hk]⟩) h1.c0 h1.c1 t0 t1 t2 t3).mono ?_;rintro r w' ⟨rfl,hk2⟩;refine⟨t,rfl,h1.num,.keep hk2,?_,fun r e=>by cases e;exact⟨_,rfl⟩⟩;show Sr w' b (if t.k=0 then .ok (t :: r')else .ok r');rw[if_pos hk];exact h.keep hk2
  ·obtain⟨h2,h3,h4⟩:=h1.next (.inl hk);refine(zhZ b r'.length cap ad t.k t.n t.p (sv t.s) w (by omega) (by simpa using hk) h1.c0 h1.c1 h1.f0 t0 t1 t2 t3).mono ?_;rintro r w' ⟨rfl,hk2⟩;refine⟨t,rfl,h1.num,(frb w b 0 _ rfl).trans (.keep hk2),?_,fun r e=>by cases e;exact⟨_,rfl⟩⟩;show Sr w' b (if t.k=0 then .ok (t :: r')else .ok r');rw[if_neg hk];exact(zjG h2).keep hk2
set_option maxHeartbeats 2000000 in
theorem zci (b:Nat) (X:ByteArray) (q:Bool) (w:World) (Q:World→Prop)
  (T1:Hid (Calls Try.prog 66 #[.pointer (some ⟨b,0,none⟩),.string X] w fun r w'=>r= .returned (.bool q)∧w'=w))
  (T2:Hid (q=false→Calls Try.prog 69 #[.pointer (some ⟨b,0,none⟩),.int .i64 50] w fun r w'=>r= .returned (.tuple #[])∧Calls Try.prog 67 #[.pointer (some ⟨b,0,none⟩)] w' fun r w''=>∃ t,r= .returned (tv t)∧Q w''))
  (T3:Hid (q=true→Calls Try.prog 67 #[.pointer (some ⟨b,0,none⟩)] w fun r w''=>∃ t,r= .returned (tv t)∧Q w'')):
  Calls Try.prog 62 #[.pointer (some ⟨b,0,none⟩),.string X] w fun r w'=>r= .returned (.tuple #[])∧Q w':=by
 cases q with
 |false=>
  replace T2:=hide ((uq T2) rfl);clear T3;go_enter Try.func62,Try.ntmps62;go_wp2_with fail
  (refine(uq T1).mono ?_;rintro e w1 ⟨rfl,rfl⟩);go_wp2_with fail
  (refine(uq T2).mono ?_;rintro e w2 ⟨rfl,hn⟩;have HN:=hide hn;clear hn);go_wp2_with fail
  (refine(uq HN).mono ?_;rintro e w3 ⟨t,rfl,hq⟩;have HQ:=hide hq;clear hq);go_wp2_with fail
  go_end0
  exact⟨rfl,uq HQ⟩
 |true=>
  replace T3:=hide ((uq T3) rfl);clear T2;go_enter Try.func62,Try.ntmps62;go_wp2_with fail
  (refine(uq T1).mono ?_;rintro e w1 ⟨rfl,rfl⟩);go_wp2_with fail
  (refine(uq T3).mono ?_;rintro e w3 ⟨t,rfl,hq⟩;have HQ:=hide hq;clear hq);go_wp2_with fail
  go_end0
  exact⟨rfl,uq HQ⟩
theorem zaf {w:World} {b:Nat} {X:Rs} (s:List UInt8) (hs:wrd s=true) (h:Sr w b (zad X)):Calls Try.prog 62 #[.pointer (some ⟨b,0,none⟩),.string (sv s)] w fun r w'=>r= .returned (.tuple #[])∧Did (zag s) [] b X w w':=by
 refine zci b (sv s) (isq s (zad X)) w _ (hide (zbY s hs h)) (hide fun hq=>?_) (hide fun hq=>?_)
 ·refine(zbp 50 (by decide) h).mono ?_;rintro r w' ⟨rfl,hf,hs'⟩;refine⟨rfl,(za2 hs').mono ?_⟩;rintro r w'' ⟨t,rfl,_,hf2,hs2,_⟩;refine⟨t,rfl,hf.trans hf2,?_⟩;rcases X with x|⟨c,r⟩
  ·exact⟨hs2,fun c r e=>by cases e⟩
  ·obtain⟨ad,cap,p,u,r',e,h1⟩:=Sr.alive (r:=r) h;subst e;have hne:u.s≠s:=by simpa [isq,zad]using hq
   have e1:bnd (.ok (c,u :: r')) (zag s)= .error (50,u.p):=by show(if u.s=s then _ else _)=_;rw[if_neg hne];rfl
   rw[e1];exact⟨hs2,fun c r e=>by cases e⟩
 ·refine(za2 h).mono ?_;rintro r w'' ⟨t,rfl,_,hf2,hs2,_⟩;refine⟨t,rfl,hf2,?_⟩;rcases X with x|⟨c,r⟩
  ·cases hq
  ·obtain⟨ad,cap,p,u,r',e,h1⟩:=Sr.alive (r:=r) h;subst e;have he:u.s=s:=by simpa [isq,zad]using hq
   have e1:bnd (.ok (c,u :: r')) (zag s)= .ok (c,r'):=by show(if u.s=s then _ else _)=_;rw[if_pos he]
   have hk:=((h1.wq.2 u List.mem_cons_self).word hs he).1;rw[e1];have:zcJ (zad (.ok (c,u :: r')))= .ok r':=by show(if u.k=0 then _ else _)=_;rw[if_neg hk]
   rw[this]at hs2;exact⟨hs2,fun c2 r2 e2=>by cases e2;exact⟨c,_,rfl,by simp⟩⟩
end Q
end Go.Proofs.Ytpdcabfabghbkaa
