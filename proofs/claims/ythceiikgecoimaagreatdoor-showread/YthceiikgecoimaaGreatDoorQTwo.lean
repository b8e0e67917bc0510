/- A world in which one block has turned and later blocks are there: the walk goes past it. -/
import Derived.Test.YthceiikgecoimaaGreatDoorQOne
namespace Go.Proofs.YthceiikgecoimaaGreatDoor
open Go.RowKit
set_option linter.unusedVariables false
set_option linter.unusedSimpArgs false
set_option maxRecDepth 10000
namespace Q
def chg (w:World) (b:Nat) (o:Obj) (os:Array Obj) (k:Nat):World:= { w with heap:=w.heap.setIfInBounds b o++os,drawn:=k }
theorem zbp (w:World) (b:Nat) (o:Obj) (os:Array Obj) (k i:Nat) (hi:i<w.heap.size) (hb:i≠b):(chg w b o os k).heap[i]? =w.heap[i]? :=by
 simp only[chg];rw[Array.getElem?_append_left (by simpa using hi),Array.getElem?_setIfInBounds_ne (λe=>hb e.symm)]
theorem zfa (w:World) (b:Nat) (o:Obj) (os:Array Obj) (k:Nat) (hb:b<w.heap.size):(chg w b o os k).heap[b]? =some o:=by
 simp only[chg];rw[Array.getElem?_append_left (by simpa using hb),Array.getElem?_setIfInBounds_self];simp[hb]
theorem zaD {w w':World} {b:Nat} (h:Fr (λi=>i=b) w w') (hb:b<w.heap.size):∃ o os k,w'=chg w b o os k:=by
 have hb':b<w'.heap.size:=Nat.lt_of_lt_of_le hb h.size;refine⟨w'.heap[b],w'.heap.extract w.heap.size w'.heap.size,w'.drawn,?_⟩;have e:w'.heap=w.heap.setIfInBounds b w'.heap[b]++w'.heap.extract w.heap.size w'.heap.size:=by
  apply Array.ext_getElem?;intro i
  by_cases hi:i<w.heap.size
  ·rw[Array.getElem?_append_left (by simpa using hi)];by_cases e:i=b
   ·subst e;rw[Array.getElem?_setIfInBounds_self];simp[hi,hb']
   ·rw[Array.getElem?_setIfInBounds_ne (λx=>e x.symm),h.block i hi e]
  ·rw[Array.getElem?_append_right (by simp;omega),Array.getElem?_extract];simp only[Array.size_setIfInBounds];by_cases h6:i<w'.heap.size
   ·rw[if_pos (by omega)];congr 1;omega
   ·rw[if_neg (by omega),Array.getElem?_eq_none (by omega)]
 obtain⟨h1,h2,h3,h4,h5,_,_⟩:=h;obtain⟨a,b2,c,d,f⟩:=w';obtain⟨a',b',c',d',f'⟩:=w;simp only at h1 h2 h3 e;subst h1 h2 h3;simp only[chg];rw[<- e]
@[go_sem,simp] theorem zbe (w:World) (b:Nat) (o:Obj) (os:Array Obj) (k:Nat):(chg w b o os k).heap.size=w.heap.size+os.size:=by simp[chg]
@[go_sem] theorem zrT (w:World) (b:Nat) (o:Obj) (os:Array Obj) (k n i:Nat) (hn:n<w.heap.size) (hb:¬n=b):(chg w b o os k).cell? ⟨n,i,none⟩=w.cell? ⟨n,i,none⟩:=
 World.cell?_of_block (a:=⟨n,i,none⟩) (zbp w b o os k n hn hb)
@[go_sem] theorem zpu (w:World) (b:Nat) (o:Obj) (os:Array Obj) (k n i:Nat) (hn:n<w.heap.size) (hb:¬n=b):(chg w b o os k).frozen? ⟨n,i,none⟩=w.frozen? ⟨n,i,none⟩:=
 World.frozen?_of_block (a:=⟨n,i,none⟩) (zbp w b o os k n hn hb)
@[go_sem] theorem zot (w:World) (b:Nat) (o:Obj) (os:Array Obj) (k n i:Nat) (v:Value) (hn:n<w.heap.size) (hb:¬n=b):(chg w b o os k).setCell ⟨n,i,none⟩ v=chg (w.setCell ⟨n,i,none⟩ v) b o os k:=by
 unfold World.setCell chg
 congr 1;apply Array.ext_getElem?;intro j
 simp only[Array.getElem?_modify,Array.getElem?_append,Array.size_modify,Array.size_setIfInBounds,Array.getElem?_setIfInBounds];by_cases hj:j<w.heap.size
 ·by_cases e1:b=j
  ·subst e1;simp[hj,hb]
  ·simp[hj,e1]
 ·have:¬n=j:=by omega
  simp[hj,this]
theorem zfC (w:World) (b:Nat) (o o2:Obj) (s1 s2:Array Obj) (k1 k2:Nat) (hb:b<w.heap.size):chg (chg w b o s1 k1) b o2 s2 k2=chg w b o2 (s1++s2) k2:=by
 unfold chg
 congr 1;simp only;rw[<- Array.append_assoc];congr 1;apply Array.ext_getElem?;intro j
 simp only[Array.getElem?_append,Array.size_setIfInBounds,Array.getElem?_setIfInBounds,Array.size_append];by_cases e:b=j
 ·subst e;simp[hb];omega
 ·simp[e]
def SF (w:World) (b:Nat) (Y:Except Er (List Tok)) (A:World):Prop:=Fr (λi=>i=b) w A/\Sr A b Y
theorem SF.eqv {w:World} {b:Nat} {Y:Except Er (List Tok)} {A B:World} (h:SF w b Y A) (hb:b<w.heap.size) (e:∀ i,i<w.heap.size->B.heap[i]? =A.heap[i]?) (hs:w.heap.size<=B.heap.size) (h1:B.os=A.os) (h2:B.tape=A.tape) (h3:B.output=A.output):SF w b Y B:=
 ⟨⟨h1.trans h.1.os,h2.trans h.1.tape,h3.trans h.1.output,hs,λi hi hn=>(e i hi).trans (h.1.block i hi hn),λi hi=>(zhj (e i hi)).trans (h.1.shape i hi),λi hi k=>zfu (e i hi) (h.1.ones i hi k)⟩,h.2.far (λi hi=>e i (by omega))⟩
theorem SF.keep {w:World} {b:Nat} {Y:Except Er (List Tok)} {A B:World} (h:SF w b Y A) (k:Keep A B):SF w b Y B:=⟨h.1.trans (.keep k),h.2.keep k⟩
theorem SF.step {w:World} {b:Nat} {X:Rs} {A B:World} {p:Sp} {ds:List D} (h:SF w b (zaz X) A) (k:Did p ds b X A B):SF w b (zaz (bnd X p)) B:=⟨h.1.trans k.1,k.2.1⟩
theorem SF.box1 {w:World} {b:Nat} {Y:Except Er (List Tok)} {o1 o1' o:Obj} {os:Array Obj} {k:Nat} (hb:b<w.heap.size) (h:SF w b Y (chg (w.alloc o1) b o os k)):SF w b Y (chg (w.alloc o1') b o os k):=by
 refine h.eqv hb (λi hi=>?_) (by simp only[zbe,World.size_alloc];omega) rfl rfl rfl;by_cases e:i=b
 ·subst e;rw[zfa _ _ _ _ _ (by rw[World.size_alloc];omega),zfa _ _ _ _ _ (by rw[World.size_alloc];omega)]
 ·rw[zbp _ _ _ _ _ _ (by rw[World.size_alloc];omega) e,zbp _ _ _ _ _ _ (by rw[World.size_alloc];omega) e,heap_alloc_old _ _ hi,heap_alloc_old _ _ hi]
theorem SF.box2 {w:World} {b:Nat} {Y:Except Er (List Tok)} {o1 o1' o2 o2' o:Obj} {os:Array Obj} {k:Nat} (hb:b<w.heap.size) (h:SF w b Y (chg ((w.alloc o1).alloc o2) b o os k)):SF w b Y (chg ((w.alloc o1').alloc o2') b o os k):=by
 refine h.eqv hb (λi hi=>?_) (by simp only[zbe,World.size_alloc];omega) rfl rfl rfl;by_cases e:i=b
 ·subst e;rw[zfa _ _ _ _ _ (by rw[World.size_alloc,World.size_alloc];omega),zfa _ _ _ _ _ (by rw[World.size_alloc,World.size_alloc];omega)]
 ·rw[zbp _ _ _ _ _ _ (by rw[World.size_alloc,World.size_alloc];omega) e,zbp _ _ _ _ _ _ (by rw[World.size_alloc,World.size_alloc];omega) e,heap_alloc_old _ _ (by rw[World.size_alloc];omega),heap_alloc_old _ _ hi,heap_alloc_old _ _ (by rw[World.size_alloc];omega),heap_alloc_old _ _ hi]
theorem za6 {w:World} {b:Nat} (hb:b<w.heap.size) {o1 o o2:Obj} {s1 s2:Array Obj} {k1 k2:Nat} :chg (chg (w.alloc o1) b o s1 k1) b o2 s2 k2=chg (w.alloc o1) b o2 (s1++s2) k2:=zfC _ _ _ _ _ _ _ _ (by rw[World.size_alloc];omega)
theorem zaR {w:World} {b:Nat} (hb:b<w.heap.size) {o1 o3 o o2:Obj} {s1 s2:Array Obj} {k1 k2:Nat} :chg (chg ((w.alloc o1).alloc o3) b o s1 k1) b o2 s2 k2=chg ((w.alloc o1).alloc o3) b o2 (s1++s2) k2:=zfC _ _ _ _ _ _ _ _ (by rw[World.size_alloc,World.size_alloc];omega)
@[go_sem] theorem zs9 (a:Nat):a<a+1:=by omega
@[go_sem] theorem zta (a:Nat):a<a+1+1:=by omega
end Q
end Go.Proofs.YthceiikgecoimaaGreatDoor
namespace Go.Proofs.YthceiikgecoimaaGreatDoor
open Go.RowKit
attribute [local go_sem ↓] Go.wp_at_zero Go.wp_at_succ
set_option linter.unusedVariables false
set_option linter.unusedSimpArgs false
set_option maxRecDepth 10000
namespace Q
theorem zdt (k n p:Int) (s:ByteArray) (w:World):(Instr.field 118 (.agg #[.int .i64 k,.string s,.int .i64 n,.int .i64 p]) 1).run Tryz.prog w= .ok (.string s) w:=by kernel_rfl
theorem zjc (k n p:Int) (s:ByteArray) (w:World):(Instr.field 118 (.agg #[.int .i64 k,.string s,.int .i64 n,.int .i64 p]) 2).run Tryz.prog w= .ok (.int .i64 n) w:=by kernel_rfl
def NextT (b:Nat) (w:World) (Q:Tok->World->Prop):Prop:=Calls Tryz.prog 52 #[.pointer (some ⟨b,0,none⟩)] w λr w'=>∃ t,r= .returned (.agg #[.int .i64 t.k,.string (sv t.s),.int .i64 t.n,.int .i64 t.p])/\Q t w'
def FailT (b:Nat) (x:Int) (w:World) (Q:World->Prop):Prop:=Calls Tryz.prog 54 #[.pointer (some ⟨b,0,none⟩),.int .i64 x] w λr w'=>r= .returned (.tuple #[])/\Q w'
set_option maxHeartbeats 2000000 in
theorem zou (b m cap:Nat) (ad:Addr) (kk:Int) (w:World) (Q:ByteArray->World->Prop) (hk:(kk !=1)=true)
  (c0:w.cell? ⟨b,0,none⟩=some (.slice (some ad) (m+1) cap)) (t0:w.cell? ad=some (.int .i64 kk)) (T:Hid (FailT b 50 w (Q ⟨#[]⟩))):
  Calls Tryz.prog 77 #[.pointer (some ⟨b,0,none⟩)] w λr w'=>∃ s,r= .returned (.string s)/\Q s w':=by
 go_enter Tryz.func77,Tryz.ntmps77;go_wp2_with fail
 (refine(uq T).mono ?_;rintro e w2 ⟨rfl,hq⟩;have HQ:=zh hq;clear hq);go_wp2_with fail
 go_ret;exact⟨_,rfl,uq HQ⟩
set_option maxHeartbeats 2000000 in
theorem zfD (b m cap:Nat) (ad:Addr) (kk:Int) (S:ByteArray) (res:Bool) (w:World) (Q:ByteArray->World->Prop) (hk:(kk !=1)=false)
  (c0:w.cell? ⟨b,0,none⟩=some (.slice (some ad) (m+1) cap)) (t0:w.cell? ad=some (.int .i64 kk)) (t1:w.cell? ⟨ad.block,ad.off+1,none⟩=some (.string S))
  (T1:Hid (Calls Tryz.prog 102 #[.string S] w λe w'=>e= .returned (.bool res)/\Keep w w'))
  (T2:Hid (res=true->∀ w',Keep w w'->FailT b 50 w' (Q ⟨#[]⟩)))
  (T3:Hid (res=false->∀ w',Keep w w'->NextT b w' (λt=>Q (sv t.s)))):
  Calls Tryz.prog 77 #[.pointer (some ⟨b,0,none⟩)] w λr w'=>∃ s,r= .returned (.string s)/\Q s w':=by
 have fs:=zdt;cases res with
 |true=>
  replace T2:=zh ((uq T2) rfl);clear T3;go_enter Tryz.func77,Tryz.ntmps77;go_wp2_with fail
  (refine(uq T1).mono ?_;rintro e w1 ⟨rfl,hk⟩;have HK:=zh hk;clear hk);go_wp2_with fail
  (refine((uq T2) _ (uq HK)).mono ?_;rintro e w2 ⟨rfl,hq⟩;have HQ:=zh hq;clear hq);go_wp2_with fail
  go_ret;exact⟨_,rfl,uq HQ⟩
 |false=>
  replace T3:=zh ((uq T3) rfl);clear T2;go_enter Tryz.func77,Tryz.ntmps77;go_wp2_with fail
  (refine(uq T1).mono ?_;rintro e w1 ⟨rfl,hk⟩;have HK:=zh hk;clear hk);go_wp2_with fail
  (refine((uq T3) _ (uq HK)).mono ?_;rintro e w2 ⟨t,rfl,hq⟩;have HQ:=zh hq;clear hq);go_wp2_with fail
  go_ret;exact⟨_,rfl,uq HQ⟩
theorem zov {w:World} {b:Nat} {Y:Except Er (List Tok)} (h:Sr w b Y):NextT b w (λt w'=>(0<=t.n/\t.n<=999999999999999999)/\Fr (λi=>i=b) w w'/\Sr w' b (zfB Y)/\∀ r,Y= .ok r->∃ r',r=t :: r'):=zch h
theorem zow {w:World} {b:Nat} {Y:Except Er (List Tok)} (x:Int) (hx:x≠0) (h:Sr w b Y):FailT b x w (λw'=>Fr (λi=>i=b) w w'/\Sr w' b (zja x Y)):=zdd x hx h
theorem FailT.mono {b:Nat} {x:Int} {w:World} {Q Q':World->Prop} (h:FailT b x w Q) (k:∀ w',Q w'->Q' w'):FailT b x w Q':=Calls.mono h (λe w' hh=>⟨hh.1,k _ hh.2⟩)
theorem NextT.mono {b:Nat} {w:World} {Q Q':Tok->World->Prop} (h:NextT b w Q) (k:∀ t w',Q t w'->Q' t w'):NextT b w Q':=Calls.mono h (λe w' hh=>by obtain⟨t,h1,h2⟩:=hh;exact⟨t,h1,k _ _ h2⟩)
theorem zax {w:World} {b:Nat} {X:Rs} (h:Sr w b (zaz X)):Calls Tryz.prog 77 #[.pointer (some ⟨b,0,none⟩)] w λr w'=>∃ s,r= .returned (.string (sv s))/\Did zai [dS s] b X w w':=by
 obtain⟨ad,cap,e,p,t,r',h1,h2⟩:=h.front;obtain⟨t0,t1,t2,t3⟩:=h1.tok;have hbad:¬(t.k=1/\¬t.s∈words)->∀ w',Keep w w'->FailT b 50 w' (λw'=>∃ s,(⟨#[]⟩:ByteArray)=sv s/\Did zai [dS s] b X w w'):=λhn w' hk=>by
  refine(zow 50 (by decide) (h.keep hk)).mono ?_;rintro w2 ⟨hf,hs⟩;refine⟨[],rfl,(Fr.keep hk).trans hf,?_⟩;rcases X with x|⟨c,r⟩
  ·exact⟨hs,λc r e=>by cases e⟩
  ·have er:=h2 r rfl;subst er;have e1:bnd (.ok (c,t :: r')) zai= .error (50,t.p):=by show(if t.k=1/\¬t.s∈words then _ else _)=_;rw[if_neg hn];rfl
   rw[e1];exact⟨hs,λc r e=>by cases e⟩
 have key:Calls Tryz.prog 77 #[.pointer (some ⟨b,0,none⟩)] w λr w'=>∃ S,r= .returned (.string S)/\∃ s,S=sv s/\Did zai [dS s] b X w w':=by
  by_cases hk:t.k=1
  ·refine zfD b r'.length cap ad t.k (sv t.s) (decide (t.s∈words)) w (λS w'=>∃ s,S=sv s/\Did zai [dS s] b X w w') (by simp[hk]) h1.c0 t0 t1 (zh ?_) (zh λhr w' hk2=>hbad (λhh=>hh.2 (by simpa using hr)) w' hk2) (zh λhr w' hk2=>?_)
   ·have:=zfA (sv t.s) w;rw[show(sv t.s).toList=t.s from ByteArray.toList_mk _]at this;exact this
   ·have hw:¬t.s∈words:=by simpa using hr
    refine(zov (h.keep hk2)).mono ?_;rintro u w2 ⟨_,hf,hs,hu⟩;refine⟨u.s,rfl,(Fr.keep hk2).trans hf,?_⟩;rcases X with x|⟨c,r⟩
    ·exact⟨hs,λc r e=>by cases e⟩
    ·have er:=h2 r rfl;subst er;obtain⟨r2,e2⟩:=hu _ rfl;injection e2 with e2 e3
     subst e2;have e1:bnd (.ok (c,t :: r')) zai= .ok (c++ [dS t.s],r'):=by show(if t.k=1/\¬t.s∈words then _ else _)=_;rw[if_pos ⟨hk,hw⟩]
     have e4:zfB (zaz (.ok (c,t :: r')))= .ok r':=by show(if t.k=0 then _ else _)=_;rw[if_neg (by omega)]
     rw[e4]at hs;rw[e1];exact⟨hs,λc2 r2 e2=>by cases e2;exact⟨c,_,rfl,rfl⟩⟩
  ·exact zou b r'.length cap ad t.k w (λS w'=>∃ s,S=sv s/\Did zai [dS s] b X w w') (by simpa using hk) h1.c0 t0 (zh (hbad (λhh=>hk hh.1) w (zk w)))
 refine key.mono ?_;rintro r w' ⟨S,rfl,s,rfl,hd⟩;exact⟨s,rfl,hd⟩
set_option maxHeartbeats 2000000 in
theorem zsW (b m cap:Nat) (ad:Addr) (kk:Int) (w:World) (Q:Int->World->Prop)
  (c0:w.cell? ⟨b,0,none⟩=some (.slice (some ad) (m+1) cap)) (t0:w.cell? ad=some (.int .i64 kk))
  (T2:Hid (kk≠2->FailT b 50 w (Q 0)))
  (T3:Hid (kk=2->NextT b w (λt=>Q t.n))):
  Calls Tryz.prog 46 #[.pointer (some ⟨b,0,none⟩),.string ⟨#[]⟩] w λr w'=>∃ n,r= .returned (.int .i64 n)/\Q n w':=by
 have fs:=zjc;by_cases hk:kk=2
 ·replace T3:=zh ((uq T3) hk);have hb:(kk !=2)=false:=by simp[hk]
  clear T2 hk;go_enter Tryz.func46,Tryz.ntmps46;go_wp2_with fail
  (refine Calls.mono (uq T3) ?_;rintro e w2 ⟨t,rfl,hq⟩;have HQ:=zh hq;clear hq);go_wp2_with fail
  go_ret;exact⟨_,rfl,uq HQ⟩
 ·replace T2:=zh ((uq T2) hk);have hb:(kk !=2)=true:=by simp[hk]
  clear T3 hk;go_enter Tryz.func46,Tryz.ntmps46;go_wp2_with fail
  (refine Calls.mono (uq T2) ?_;rintro e w2 ⟨rfl,hq⟩;have HQ:=zh hq;clear hq);go_wp2_with fail
  go_ret;exact⟨_,rfl,uq HQ⟩
def Fro (b:Nat) (w:World) (kk:Int):Prop:=∃ ad m cap,w.cell? ⟨b,0,none⟩=some (.slice (some ad) (m+1) cap)/\w.cell? ad=some (.int .i64 kk)
set_option maxHeartbeats 2000000 in
theorem zsX (b:Nat) (W:ByteArray) (w:World) (Q:Int->World->Prop) (hW:W.toList.isEmpty=false)
  (T1:Hid (Calls Tryz.prog 47 #[.pointer (some ⟨b,0,none⟩),.string W] w λr w'=>r= .returned (.tuple #[])/\∃ kk,Fro b w' kk/\(kk≠2->FailT b 50 w' (Q 0))/\(kk=2->NextT b w' (λt=>Q t.n)))):
  Calls Tryz.prog 46 #[.pointer (some ⟨b,0,none⟩),.string W] w λr w'=>∃ n,r= .returned (.int .i64 n)/\Q n w':=by
 have fs:=zjc;go_enter Tryz.func46,Tryz.ntmps46;go_wp2_with fail
 (refine(uq T1).mono ?_;rintro e w1 ⟨rfl,kk,⟨ad,m,cap,c0,t0⟩,h2,h3⟩;have T2:=zh h2;have T3:=zh h3;clear h2 h3);by_cases hk:kk=2
 ·replace T3:=zh ((uq T3) hk);have hb:(kk !=2)=false:=by simp[hk]
  clear T2 hk;go_wp2_with fail
  (refine Calls.mono (uq T3) ?_;rintro e w2 ⟨t,rfl,hq⟩;have HQ:=zh hq;clear hq);go_wp2_with fail
  go_ret;exact⟨_,rfl,uq HQ⟩
 ·replace T2:=zh ((uq T2) hk);have hb:(kk !=2)=true:=by simp[hk]
  clear T3 hk;go_wp2_with fail
  (refine Calls.mono (uq T2) ?_;rintro e w2 ⟨rfl,hq⟩;have HQ:=zh hq;clear hq);go_wp2_with fail
  go_ret;exact⟨_,rfl,uq HQ⟩
theorem zf4 {w:World} {b:Nat} {X:Rs} (h:Sr w b (zaz X)):∃ kk,Fro b w kk/\(kk≠2->FailT b 50 w (λw'=>(0<=(0:Int)/\(0:Int)<=999999999999999999)/\Did zao [dI 0] b X w w'))/\(kk=2->NextT b w (λt w'=>(0<=t.n/\t.n<=999999999999999999)/\Did zao [dI t.n] b X w w')):=by
 obtain⟨ad,cap,e,p,t,r',h1,h2⟩:=h.front;obtain⟨t0,t1,t2,t3⟩:=h1.tok;refine⟨t.k,⟨ad,_,cap,h1.c0,t0⟩,λhk=>?_,λhk=>?_⟩
 ·refine(zow 50 (by decide) h).mono ?_;rintro w2 ⟨hf,hs⟩;refine⟨by decide,hf,?_⟩;rcases X with x|⟨c,r⟩
  ·exact⟨hs,λc r e=>by cases e⟩
  ·have er:=h2 r rfl;subst er;have e1:bnd (.ok (c,t :: r')) zao= .error (50,t.p):=by show(if t.k=2 then _ else _)=_;rw[if_neg hk];rfl
   rw[e1];exact⟨hs,λc r e=>by cases e⟩
 ·refine(zov h).mono ?_;rintro u w2 ⟨hn,hf,hs,hu⟩;refine⟨hn,hf,?_⟩;rcases X with x|⟨c,r⟩
  ·exact⟨hs,λc r e=>by cases e⟩
  ·have er:=h2 r rfl;subst er;obtain⟨r2,e2⟩:=hu _ rfl;injection e2 with e2 e3
   subst e2;have e1:bnd (.ok (c,t :: r')) zao= .ok (c++ [dI t.n],r'):=by show(if t.k=2 then _ else _)=_;rw[if_pos hk]
   have e4:zfB (zaz (.ok (c,t :: r')))= .ok r':=by show(if t.k=0 then _ else _)=_;rw[if_neg (by omega)]
   rw[e4]at hs;rw[e1];exact⟨hs,λc2 r2 e2=>by cases e2;exact⟨c,_,rfl,rfl⟩⟩
theorem zfE {w:World} {b:Nat} {X:Rs} (h:Sr w b (zaz X)):Calls Tryz.prog 46 #[.pointer (some ⟨b,0,none⟩),.string ⟨#[]⟩] w λr w'=>∃ n,r= .returned (.int .i64 n)/\(0<=n/\n<=999999999999999999)/\Did zao [dI n] b X w w':=by
 obtain⟨kk,⟨ad,m,cap,c0,t0⟩,h2,h3⟩:=zf4 h;exact zsW b m cap ad kk w _ c0 t0 (zh h2) (zh h3)
theorem Did.seq {p q:Sp} {ds es:List D} {b:Nat} {X:Rs} {w w' w'':World} (h:Did p ds b X w w') (k:Did q es b (bnd X p) w' w''):Did (sq [p,q]) (ds++es) b X w w'':=by
 obtain⟨h1,h2,h3⟩:=h;obtain⟨k1,k2,k3⟩:=k;have e:bnd X (sq [p,q])=bnd (bnd X p) q:=by rw[zav,zav,zaY]
 unfold Did
 rw[e];exact⟨h1.trans k1,k2,h3.trans k3⟩
theorem zaB {w:World} {b:Nat} {X:Rs} (s:List UInt8) (hs:wrd s=true) (h:Sr w b (zaz X)):Calls Tryz.prog 46 #[.pointer (some ⟨b,0,none⟩),.string (sv s)] w λr w'=>∃ n,r= .returned (.int .i64 n)/\(0<=n/\n<=999999999999999999)/\Did (sq [zad s,zao]) [dI n] b X w w':=by
 refine zsX b (sv s) w (λn w'=>(0<=n/\n<=999999999999999999)/\Did (sq [zad s,zao]) [dI n] b X w w') ?_ (zh ((zaW s hs h).mono ?_))
 ·rw[show(sv s).toList=s from ByteArray.toList_mk _];cases s with
  |nil=>cases hs
  |cons c s=>rfl
 ·rintro r w' ⟨rfl,hd⟩;obtain⟨kk,hf,h2,h3⟩:=zf4 (X:=bnd X (zad s)) hd.2.1;exact⟨rfl,kk,hf,λhk=>(h2 hk).mono (λw2 hh=>⟨hh.1,hd.seq hh.2⟩),λhk=>(h3 hk).mono (λt w2 hh=>⟨hh.1,hd.seq hh.2⟩)⟩
set_option maxHeartbeats 2000000 in
theorem zdF {w:World} {b:Nat} {X:Rs} (s:List UInt8) (hs:wrd s=true) (h:Sr w b (zaz X)):Calls Tryz.prog 48 #[.pointer (some ⟨b,0,none⟩),.string (sv s)] w λr w'=>∃ n m,r= .returned (.agg #[.int .i64 n,.int .i64 m])/\Did (sq [zad s,za8]) [dI n,dI m] b X w w':=by
 have HS0:Hid (SF w b (zaz X) (w.alloc (.cells #[.int .i64 0,.int .i64 0] 23))):=zh (SF.keep ⟨.refl _ _,h⟩ ((zk w).alloc _));have hb:=h.bl;have HB:=zh hb;have n0:¬w.heap.size=b:=by omega
 have T1:=zh (λ(w':World) (h:Sr w' b (zaz X))=>zaB s hs h);generalize sv s=W at T1 |-;go_enter Tryz.func48,Tryz.ntmps48;go_wp2_with fail
 (refine((uq T1) _ (uq HS0).2).mono ?_;rintro e w1 ⟨n,rfl,_,hd⟩;have HS1:=zh ((uq HS0).step hd);have HG1:=zh hd.2.2;obtain⟨o1,s1,k1,rfl⟩:=zaD hd.1 (uq HS0).2.bl;clear hd);go_wp2_with fail
 (refine(zaB (X:=bnd X (sq [zad s,zao])) [47] rfl (uq HS1).2).mono ?_;rintro e w1 ⟨m,rfl,_,hd⟩;have HS2:=zh ((uq HS1).step hd);have HG2:=zh ((uq HG1).trans hd.2.2);obtain⟨o2,s2,k2,rfl⟩:=zaD hd.1 (uq HS1).2.bl;clear hd);rw[zfC _ _ _ _ _ _ _ _ (by rw[World.size_alloc];omega)]at HS2 |-;go_wp2_with fail
 refine bodyPost_ret (v:= .agg #[.int .i64 n,.int .i64 m]) ?_ rfl ?_
 ·simp[results,Tryz.results48,go_sem,n0]
 ·refine⟨n,m,rfl,?_⟩;have e:bnd X (sq [zad s,za8])=bnd (bnd X (sq [zad s,zao])) (sq [zad [47],zao]):=by
   show bnd X (sq [zad s,sq [zao,zad [47],zao]])=_;simp only[zav,zaY]
  unfold Did
  rw[e];exact⟨(SF.box1 (uq HB) (uq HS2)).1,(SF.box1 (uq HB) (uq HS2)).2,uq HG2⟩
set_option maxHeartbeats 2000000 in
theorem zgz (b:Nat) (W:ByteArray) (n most:Nat) (q eq r0:Bool) (w:World) (Q:World->Prop) (he:((n:Int)==(most:Int))=eq) (hr:(q&& !eq)=r0)
  (T1:Hid (Calls Tryz.prog 51 #[.pointer (some ⟨b,0,none⟩),.string W] w λr w'=>r= .returned (.bool q)/\w'=w))
  (H1:Hid (q=false->Q w))
  (T2:Hid (q=true->eq=true->FailT b 4 w Q))
  (T3:Hid (q=true->eq=false->NextT b w (λt=>Q))):
  Calls Tryz.prog 49 #[.pointer (some ⟨b,0,none⟩),.string W,.int .i64 (n:Int),.int .i64 (most:Int)] w λr w'=>r= .returned (.bool r0)/\Q w':=by
 subst hr;cases q with
 |false=>
  replace H1:=zh ((uq H1) rfl);clear T2 T3;go_enter Tryz.func49,Tryz.ntmps49;go_wp2_with fail
  (refine(uq T1).mono ?_;rintro e w1 ⟨rfl,rfl⟩);go_wp2_with fail
  go_ret;exact⟨rfl,uq H1⟩
 |true=>
  cases eq with
  |true=>
   replace T2:=zh ((uq T2) rfl rfl);clear T3 H1;go_enter Tryz.func49,Tryz.ntmps49;go_wp2_with fail
   (refine(uq T1).mono ?_;rintro e w1 ⟨rfl,rfl⟩);go_wp2_with fail
   (refine Calls.mono (uq T2) ?_;rintro e w2 ⟨rfl,hq⟩;have HQ:=zh hq;clear hq);go_wp2_with fail
   go_ret;exact⟨rfl,uq HQ⟩
  |false=>
   replace T3:=zh ((uq T3) rfl rfl);clear T2 H1;go_enter Tryz.func49,Tryz.ntmps49;go_wp2_with fail
   (refine(uq T1).mono ?_;rintro e w1 ⟨rfl,rfl⟩);go_wp2_with fail
   (refine Calls.mono (uq T3) ?_;rintro e w2 ⟨t,rfl,hq⟩;have HQ:=zh hq;clear hq);go_wp2_with fail
   go_ret;exact⟨rfl,uq HQ⟩
theorem zbq {w:World} {b:Nat} {Y:Except Er (List Tok)} (s:List UInt8) (hs:wrd s=true) (n most:Nat) (h:Sr w b Y):Calls Tryz.prog 49 #[.pointer (some ⟨b,0,none⟩),.string (sv s),.int .i64 (n:Int),.int .i64 (most:Int)] w λr w'=>r= .returned (.bool (bgn s n most Y).1)/\Fr (λi=>i=b) w w'/\Sr w' b (bgn s n most Y).2:=by
 have hd:((n:Int)==(most:Int))=decide (n=most):=by
  by_cases e:n=most
  ·simp[e]
  ·have:¬(n:Int)=(most:Int):=by omega
   simp[e,this]
 refine zgz b (sv s) n most (isq s Y) (decide (n=most)) _ w _ hd ?_ (zh (zef s hs h)) (zh λhq=>⟨.refl _ _,?_⟩) (zh λhq he=>(zow 4 (by decide) h).mono ?_) (zh λhq he=>(zov h).mono ?_)
 ·match Y with
  | .error x=>rfl
  | .ok []=>rfl
  | .ok (t :: r)=>
   show(decide (t.s=s)&& !(decide (n=most)))=(if t.s=s then(if n=most then(false,Except.error (4,t.p))else(true,.ok r))else(false,.ok (t :: r)):Bool×Except Er (List Tok)).1;by_cases e1:t.s=s<;>by_cases e2:n=most<;>simp[e1,e2]
 ·match Y,h,hq with
  | .error x,h,_=>exact h
  | .ok [],h,_=>exact h
  | .ok (t :: r),h,hq=>
   have:¬t.s=s:=by simpa [isq]using hq
   simp only[bgn,if_neg this];exact h
 ·rintro w' ⟨hf,hs'⟩;refine⟨hf,?_⟩
  match Y,h,hq,hs' with
  | .error x,h,hq,hs'=>cases hq
  | .ok [],h,hq,hs'=>cases hq
  | .ok (t :: r),h,hq,hs'=>
   have e1:t.s=s:=by simpa [isq]using hq
   have e2:n=most:=by simpa using he
   simp only[bgn,if_pos e1,if_pos e2];exact hs'
 ·rintro t w' ⟨_,hf,hs',_⟩;refine⟨hf,?_⟩
  match Y,h,hq,hs' with
  | .error x,h,hq,hs'=>cases hq
  | .ok [],h,hq,hs'=>cases hq
  | .ok (u :: r),h,hq,hs'=>
   have e1:u.s=s:=by simpa [isq]using hq
   have e2:¬n=most:=by simpa using he
   obtain⟨ad,cap,p,t1,r',e,h1⟩:=h.alive;injection e with e e'
   subst e;have hk:=((h1.wq.2 u List.mem_cons_self).word hs e1).1;simp only[bgn,if_pos e1,if_neg e2];have e4:zfB (.ok (u :: r))= .ok r:=by show(if u.k=0 then _ else _)=_;rw[if_neg hk]
   rw[e4]at hs';exact hs'
end Q
end Go.Proofs.YthceiikgecoimaaGreatDoor
