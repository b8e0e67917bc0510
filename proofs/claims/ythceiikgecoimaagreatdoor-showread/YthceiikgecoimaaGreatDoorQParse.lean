/- The document's reader: Parse. -/
import Derived.Test.YthceiikgecoimaaGreatDoorQNode
import Derived.Test.YthceiikgecoimaaGreatDoorLVal
import Derived.Test.YthceiikgecoimaaGreatDoorLRToks
import Derived.Deep.DrawnRows
import Derived.Deep.RegionHeld
namespace Go.Proofs.YthceiikgecoimaaGreatDoor
open Go.RowKit
attribute [local go_sem ↓] Go.wp_at_zero Go.wp_at_succ
set_option linter.unusedVariables false
set_option linter.unusedSimpArgs false
set_option maxRecDepth 10000
namespace Q
theorem zfQ {r:List UInt8} {p:Nat} {t:Tok} (h:one r p= .ok t):0<=t.n/\t.n<=999999999999999999:=by
 cases r with
 |nil=>simp only[one,Except.ok.injEq]at h;subst h;simp
 |cons c r=>
  simp only[one]at h;split at h
  ·split at h
   ·cases h
   ·simp only[Except.ok.injEq]at h;subst h;simp
  ·split at h
   ·rename_i h5
    split at h
    ·cases h
    ·rename_i h18
     simp only[Except.ok.injEq]at h;subst h;have hb:=zed ((c :: r).take (en (c :: r))) (zdB h5) ((c :: r).take (en (c :: r))).length (Nat.le_refl _);rw[List.take_length]at hb;have hle:((c :: r).take (en (c :: r))).length<=18:=by rw[List.length_take];omega
     have hp:(10:Int) ^ ((c :: r).take (en (c :: r))).length<=10 ^ 18:=by
      have:(10:Nat) ^ ((c :: r).take (en (c :: r))).length<=10 ^ 18:=Nat.pow_le_pow_right (by decide) hle
      exact_mod_cast this
     refine⟨hb.1,?_⟩;have:=hb.2;have e:(10:Int) ^ 18=1000000000000000000:=by decide
     show num _<=_;omega
   ·split at h
    ·simp only[Except.ok.injEq]at h;subst h;simp
    ·cases h
theorem zjW:∀(n:Nat) (r:List UInt8) (p:Nat) (L:List Tok),r.length<=n->tk r p= .ok L->(∃ m t,L=m++ [t]/\t.k=0/\t.s= [])/\∀ t∈L,0<=t.n/\t.n<=999999999999999999
 |n,r,p,L,hn,h=>by
  rcases zdr h with ⟨rfl,_⟩|⟨t,M,rfl,h1,h2,_,_,h5,h6,h7⟩
  ·exact⟨⟨[],_,rfl,rfl,rfl⟩,λt ht=>by simp at ht;subst ht;simp⟩
  ·cases n with
   |zero=>omega
   |succ n=>
    obtain⟨⟨m,u,rfl,u1,u2⟩,hM⟩:=zjW n _ _ M (by rw[List.length_drop];omega) h7;refine⟨⟨t :: m,u,rfl,u1,u2⟩,λx hx=>?_⟩;rcases List.mem_cons.1 hx with rfl|hx
    ·exact zfQ h1
    ·exact hM x hx
theorem T_wq {l:List UInt8} {L:List Tok} (hl:l.length<=65536) (h:T l= .ok L):Wq L:=by
 have h1:=zjW l.length l 0 L (Nat.le_refl _) (zl0 h).2;have h2:=zqR h;exact⟨⟨by omega,h1.1,h1.2⟩,zsV h⟩
def nE':Except Er (List D)->Int
 | .error x=>x.1
 | .ok _=>0
def nP':Except Er (List D)->Int
 | .error x=>x.2
 | .ok _=>0
def Pp (N:Except Er (List D)) (w:World) (e:Ending) (w':World):Prop:=Keep w w'/\∃ u0 u1 u2 u3 u4 a5 n5 c5 a6 n6 c6 u7 u8,e= .returned (.tuple #[.agg #[.int .i64 u0,.int .i64 u1,.int .i64 u2,.int .i64 u3,.int .i64 u4,.slice a5 n5 c5,.slice a6 n6 c6,.int .i64 u7,.int .i64 u8],.int .i64 (nE' N),.int .i64 (nP' N)])/\match N with
 | .error x=>u0=0/\u1=0/\u2=0/\u3=0/\u4=0/\a5=none/\n5=0/\c5=0/\a6=none/\n6=0/\c6=0/\u7=0/\u8=0
 | .ok cs=>Rds w' cs (λi=>w.heap.size<=i) [.int .i64 u0,.int .i64 u1,.int .i64 u2,.int .i64 u3,.int .i64 u4,.slice a5 n5 c5,.slice a6 n6 c6,.int .i64 u7,.int .i64 u8]
def fstE:Rs->Except Er (List D)
 | .error x=> .error x
 | .ok (c,_)=> .ok c
theorem zfX {X:Rs} {w:World} {b:Nat} (h:Sr w b (zaz X)) (hi:isq [97,114,116,101,114,121] (zaz X)=false):zaz (bnd X zcN)=zaz X/\Got X (bnd X zcN) [.row 48 6 [],dI 0,dI 0]:=by
 rcases X with x|⟨c,r⟩
 ·exact⟨rfl,λc r e=>by cases e⟩
 ·obtain⟨ad,cap,p,t,r',e,h1⟩:=Sr.alive (r:=r) h;subst e;have hne:¬t.s= [97,114,116,101,114,121]:=by simpa [isq,zaz]using hi
  have e1:bnd (.ok (c,t :: r')) zcN= .ok (c++ [.row 48 6 [],dI 0,dI 0],t :: r'):=by
   simp only[bnd,zcN,zaQ,if_neg hne,dB];simp
  rw[e1];exact⟨rfl,λc2 r2 e2=>by cases e2;exact⟨c,_,rfl,rfl⟩⟩
theorem zeA {X:Rs} {c:List D} {t:Tok} {r:List Tok} {ds:List D} (e7:X= .ok (c,t :: r)) (he:t.s= [97,114,116,101,114,121]) (hg:Got (.ok (c,r)) (bnd (.ok (c,r)) (sq zpx)) ds):zaz (bnd X zcN)=zaz (bnd (.ok (c,r)) (sq zpx))/\Got X (bnd X zcN) ds:=by
 subst e7;have e1:bnd (.ok (c,t :: r)) zcN=bnd (.ok (c,r)) (sq zpx):=by
  simp only[bnd,zcN,zaQ,if_pos he,dB]
  rfl
 rw[e1];refine⟨rfl,λc2 r2 e2=>?_⟩;obtain⟨c0,r0,h0,h1⟩:=hg c2 r2 e2;simp only[Except.ok.injEq,Prod.mk.injEq]at h0;exact⟨c,_,rfl,by rw[h1,<- h0.1]⟩
theorem zhx {X:Rs} {t:Tok} {r':List Tok} (hk:t.k=0) (h2:∀ r,zaz X= .ok r->r=t :: r'):zaz (bnd X zcQ)=zaz X/\Got X (bnd X zcQ) []:=by
 rcases X with x|⟨c,r⟩
 ·exact⟨rfl,λc r e=>by cases e⟩
 ·have:=h2 r rfl;subst this;have e1:bnd (.ok (c,t :: r')) zcQ= .ok (c,t :: r'):=by show(if t.k=0 then _ else _)=_;rw[if_pos hk]
  rw[e1];exact⟨rfl,λc2 r2 e2=>by cases e2;exact⟨c,_,rfl,by simp⟩⟩
theorem zfR {X:Rs} {t:Tok} {r':List Tok} (hk:¬t.k=0) (h2:∀ r,zaz X= .ok r->r=t :: r'):zaz (bnd X zcQ)=zja 50 (zaz X)/\Got X (bnd X zcQ) []:=by
 rcases X with x|⟨c,r⟩
 ·exact⟨rfl,λc r e=>by cases e⟩
 ·have:=h2 r rfl;subst this;have e1:bnd (.ok (c,t :: r')) zcQ= .error (50,t.p):=by show(if t.k=0 then _ else _)=_;rw[if_neg hk];rfl
  rw[e1];exact⟨rfl,λc2 r2 e2=>by cases e2⟩
theorem zaJ {W:World} {b i:Nat} {arr:Array Value} {t:TypeId} {fr:Nat×Nat} {v:Value} (h:W.heap[b]? =some (.cells arr t fr)) (hi:arr[i]? =some v):W.setCell ⟨b,i,none⟩ v=W:=by
 have e:W.heap.modify b (fun| .cells c elem frozen=> .cells (if(⟨b,i,none⟩:Addr).spot.isSome then c else c.setIfInBounds (⟨b,i,none⟩:Addr).off v) elem frozen|o=>o)=W.heap:=by
  apply Array.ext_getElem?;intro j
  rw[Array.getElem?_modify];by_cases hj:b=j
  ·subst hj;rw[if_pos rfl,h];simp only[Option.map_some,Option.isSome_none,Bool.false_eq_true,if_false];congr 2;apply Array.ext_getElem?;intro k
   rw[Array.getElem?_setIfInBounds];by_cases hk:i=k
   ·subst hk;have hl:i<arr.size:=by
     rcases Nat.lt_or_ge i arr.size with h|h
     ·exact h
     ·rw[Array.getElem?_eq_none h]at hi;cases hi
    rw[Array.getElem?_eq_getElem hl]at hi;injection hi with hi
    simp[hl,hi]
   ·simp[hk]
  ·rw[if_neg hj]
 have hh:(W.setCell ⟨b,i,none⟩ v).heap=W.heap:=e;have h3:W.setCell ⟨b,i,none⟩ v= { W with heap:=(W.setCell ⟨b,i,none⟩ v).heap } :=rfl;rw[h3,hh]
theorem zck {w wB A:World} {b:Nat} (h:Keep w wB) (k:Fr (λi=>i=b) wB A) (hb:w.heap.size<=b):Keep w A:=
 ⟨k.os.trans h.os,k.tape.trans h.tape,k.output.trans h.output,Nat.le_trans h.size k.size,λi hi=>(k.block i (Nat.lt_of_lt_of_le hi h.size) (by omega)).trans (h.block i hi)⟩
theorem zdM {w A B:World} {tb:Nat} (h:Keep w A) (ht:w.heap.size<=tb) (hq:∀ q,q≠tb->B.heap[q]? =A.heap[q]?) (hs:B.heap.size=A.heap.size) (h1:B.os=A.os) (h2:B.tape=A.tape) (h3:B.output=A.output):Keep w B:=
 ⟨h1.trans h.os,h2.trans h.tape,h3.trans h.output,by rw[hs];exact h.size,λi hi=>(hq i (by omega)).trans (h.block i hi)⟩
set_option maxHeartbeats 16000000 in
theorem parse_ok (v:Value) (L:List Tok) (w:World) (hwq:Hid (Wq L)) (T1:Hid (∀ w',Keep w w'->Calls Tryz.prog 45 #[v] w' (Tp (.ok L) w'))):Calls Tryz.prog 20 #[v] w (Pp (fstE (zd8 L)) w):=by
 obtain⟨PN,HPN0⟩:∃ PN,Hid (fstE (zd8 L)=PN):=⟨_,rfl⟩;rw[uq HPN0];have HK:=zh ((zk w).alloc (.cells #[.int .i64 0,.int .i64 0,.int .i64 0,.int .i64 0,.int .i64 0,.slice none 0 0,.slice none 0 0,.int .i64 0,.int .i64 0] 27));go_enter Tryz.func20,Tryz.ntmps20;go_wp2_with fail
 (refine((uq T1) _ (uq HK)).mono ?_;rintro x w2 ⟨v',rfl,hts,hlo,hk⟩);simp only[te,tn,tl]at hts |-;obtain⟨av,cq,hv',hcap,htc⟩:=hts;obtain⟨t1,r1,eL⟩:=(uq hwq).ne;obtain⟨ad,ead,had,_⟩:=htc 0 (by rw[eL];simp);subst hv' ead;have HTC:Hid (∀ k,k<L.length->Tc w2 (ad.add (k * 4)) (L.getD k t0)):=zh (λk hk=>by obtain⟨ad',e',_,h'⟩:=htc k hk;cases e';exact h');have HCP:=zh hcap;have HAD:=zh had;have HLO:=zh (hlo ad _ _ rfl);have HK2:=zh hk;clear htc hlo hk hcap had eL;obtain⟨nL,HNL⟩:∃ nL,Hid (L.length=nL):=⟨_,rfl⟩;rw[uq HNL];have HRB:Hid (w2.heap[w.heap.size]? =some (.cells #[.int .i64 0,.int .i64 0,.int .i64 0,.int .i64 0,.int .i64 0,.slice none 0 0,.slice none 0 0,.int .i64 0,.int .i64 0] 27 (0,0))):=zh (by rw[(uq HK2).block _ (by rw[World.size_alloc];omega)];exact heap_alloc_new w _);have HWW:Hid (w.heap.size<w2.heap.size):=zh (by have:=(uq HK2).size;rw[World.size_alloc]at this;omega);have HKW:Hid (Keep w w2):=zh ((uq HK).trans (uq HK2));have HSR:Hid (Sr (w2.alloc (.cells #[.slice (some ad) nL cq,.int .i64 0,.int .i64 0] 111)) w2.heap.size (.ok L)):=zh (by
  have hx:=bxs_new w2 [.slice (some ad) nL cq,.int .i64 0,.int .i64 0] 111;refine zqY (ad:=ad) (cap:=cq) (p:=0) ⟨?_,(hx 1 _ rfl).1,(hx 2 _ rfl).1,(hx 0 _ rfl).2,(hx 1 _ rfl).2,(hx 2 _ rfl).2,uq HCP,uq HAD,λk hk=>?_,uq hwq⟩
  ·rw[uq HNL];exact(hx 0 _ rfl).1
  ·exact zfv ((uq HTC) k hk) (by rw[zag];exact heap_alloc_old _ _ (uq HAD)))
 have HKB:Hid (Keep w2 (w2.alloc (.cells #[.slice (some ad) nL cq,.int .i64 0,.int .i64 0] 111))):=zh ((zk w2).alloc _);have HZB:Hid ((w2.alloc (.cells #[.slice (some ad) nL cq,.int .i64 0,.int .i64 0] 111)).heap.size=w2.heap.size+1):=zh (World.size_alloc _ _);obtain⟨tb,HTb⟩:∃ tb,Hid (w.heap.size=tb):=⟨_,rfl⟩;rw[uq HTb]at HRB HWW |-
 go_upto_region 6 with fail
 generalize w2.alloc (.cells #[.slice (some ad) nL cq,.int .i64 0,.int .i64 0] 111)=wB at HSR HKB HZB |-;have HRBB:Hid (wB.heap[tb]? =some (.cells #[.int .i64 0,.int .i64 0,.int .i64 0,.int .i64 0,.int .i64 0,.slice none 0 0,.slice none 0 0,.int .i64 0,.int .i64 0] 27 (0,0))):=zh (by rw[(uq HKB).block _ (uq HWW)];exact uq HRB);have HKWB:Hid (Keep w wB):=zh ((uq HKW).trans (uq HKB));obtain⟨b,HBb⟩:∃ b,Hid (w2.heap.size=b):=⟨_,rfl⟩;rw[uq HBb]at HSR HZB HWW |-;obtain⟨gb,HGb⟩:∃ gb,Hid (b+1=gb):=⟨_,rfl⟩;have HZG:Hid (wB.heap.size=gb):=zh (by rw[uq HZB,uq HGb]);have HB:Hid (b<wB.heap.size):=zh (by rw[uq HZB];omega);clear HK HK2 HTC HCP HAD HLO HNL HRB HKW HKB HZB;obtain⟨X0,HX0⟩:∃ Z:Rs,Hid ((.ok (([]:List D),L):Rs)=Z):=⟨_,rfl⟩;have HS0:Hid (SF wB b (zaz X0) (wB.alloc (.cells #[.int .i64 0,.int .i64 0,.int .i64 0,.int .i64 0,.int .i64 0,.slice none 0 0,.slice none 0 0,.int .i64 0,.int .i64 0] 27))):=zh (by rw[<- uq HX0];exact SF.keep ⟨.refl _ _,uq HSR⟩ ((zk _).alloc _));have HG0:Hid (Got X0 X0 []):=zh (Got.refl _);have HTB2:Hid (tb<b):=HWW;rw[uq HGb];clear HGb;have HGG:=uq HZG;subst HGG;have n0:¬wB.heap.size=b:=by have:=uq HB;omega
 go_wp2_with fail
 (refine(zaB (X:=X0) [99,121,99,108,101] rfl (uq HS0).2).mono ?_;rintro e w1 ⟨n1,rfl,_,hd⟩;have HS1:=zh ((uq HS0).step hd);have HG1:=zh ((uq HG0).trans hd.2.2);obtain⟨o1,q1,k1,rfl⟩:=zaD hd.1 (uq HS0).2.bl;clear hd);obtain⟨X1,HX1⟩:∃ Z,Hid (bnd X0 (sq [zad [99,121,99,108,101],zao])=Z):=⟨_,rfl⟩;rw[uq HX1]at HS1 HG1;go_wp2_with fail
 (refine(zaB (X:=X1) [116,111] rfl (SF.box1 (uq HB) (uq HS1)).2).mono ?_;rintro e w1 ⟨n2,rfl,_,hd⟩;have HS2:=zh ((SF.box1 (uq HB) (uq HS1)).step hd);have HG2:=zh ((uq HG1).trans hd.2.2);obtain⟨o2,q2,k2,rfl⟩:=zaD hd.1 (SF.box1 (uq HB) (uq HS1)).2.bl;clear hd);rw[za6 (uq HB)]at HS2 |-;generalize q1++q2=q2 at HS2 |-;obtain⟨X2,HX2⟩:∃ Z,Hid (bnd X1 (sq [zad [116,111],zao])=Z):=⟨_,rfl⟩;rw[uq HX2]at HS2 HG2;go_wp2_with fail
 (refine(zaB (X:=X2) [98,121] rfl (SF.box1 (uq HB) (uq HS2)).2).mono ?_;rintro e w1 ⟨n3,rfl,_,hd⟩;have HS3:=zh ((SF.box1 (uq HB) (uq HS2)).step hd);have HG3:=zh ((uq HG2).trans hd.2.2);obtain⟨o3,q3,k3,rfl⟩:=zaD hd.1 (SF.box1 (uq HB) (uq HS2)).2.bl;clear hd);rw[za6 (uq HB)]at HS3 |-;generalize q2++q3=q3 at HS3 |-;obtain⟨X3,HX3⟩:∃ Z,Hid (bnd X2 (sq [zad [98,121],zao])=Z):=⟨_,rfl⟩;rw[uq HX3]at HS3 HG3;go_wp2_with fail
 (refine(zaW (X:=X3) [59] rfl (SF.box1 (uq HB) (uq HS3)).2).mono ?_;rintro e w1 ⟨rfl,hd⟩;have HS4:=zh ((SF.box1 (uq HB) (uq HS3)).step hd);have HG4:=zh ((uq HG3).trans hd.2.2);obtain⟨o4,q4,k4,rfl⟩:=zaD hd.1 (SF.box1 (uq HB) (uq HS3)).2.bl;clear hd);rw[za6 (uq HB)]at HS4 |-;generalize q3++q4=q4 at HS4 |-;obtain⟨X4,HX4⟩:∃ Z,Hid (bnd X3 (zad [59])=Z):=⟨_,rfl⟩;rw[uq HX4]at HS4 HG4;go_wp2_with fail
 (refine(zdF (X:=X4) [112,101,97,107] rfl (SF.box1 (uq HB) (uq HS4)).2).mono ?_;rintro e w1 ⟨n5,m5,rfl,hd⟩;have HS5:=zh ((SF.box1 (uq HB) (uq HS4)).step hd);have HG5:=zh ((uq HG4).trans hd.2.2);obtain⟨o5,q5,k5,rfl⟩:=zaD hd.1 (SF.box1 (uq HB) (uq HS4)).2.bl;clear hd);rw[za6 (uq HB)]at HS5 |-;generalize q4++q5=q5 at HS5 |-;obtain⟨X5,HX5⟩:∃ Z,Hid (bnd X4 (sq [zad [112,101,97,107],za8])=Z):=⟨_,rfl⟩;rw[uq HX5]at HS5 HG5;go_wp2_with fail
 (refine(zaW (X:=X5) [59] rfl (SF.box1 (uq HB) (uq HS5)).2).mono ?_;rintro e w1 ⟨rfl,hd⟩;have HS6:=zh ((SF.box1 (uq HB) (uq HS5)).step hd);have HG6:=zh ((uq HG5).trans hd.2.2);obtain⟨o6,q6,k6,rfl⟩:=zaD hd.1 (SF.box1 (uq HB) (uq HS5)).2.bl;clear hd);rw[za6 (uq HB)]at HS6 |-;generalize q5++q6=q6 at HS6 |-;obtain⟨X6,HX6⟩:∃ Z,Hid (bnd X5 (zad [59])=Z):=⟨_,rfl⟩;rw[uq HX6]at HS6 HG6;have HBX:=zh (zo3 (uq HB) [.int .i64 n1,.int .i64 n2,.int .i64 n3,.int .i64 n5,.int .i64 m5,.slice none 0 0,.slice none 0 0,.int .i64 0,.int .i64 0] 27 o6 q6 k6);replace HBX:Hid (Bxs (chg (wB.alloc (.cells #[.int .i64 n1,.int .i64 n2,.int .i64 n3,.int .i64 n5,.int .i64 m5,.slice none 0 0,.slice none 0 0,.int .i64 0,.int .i64 0] 27)) b o6 q6 k6) wB.heap.size [.int .i64 n1,.int .i64 n2,.int .i64 n3,.int .i64 n5,.int .i64 m5,.slice none 0 0,.slice none 0 0,.int .i64 0,.int .i64 0]/\wB.heap.size+1<=(chg (wB.alloc (.cells #[.int .i64 n1,.int .i64 n2,.int .i64 n3,.int .i64 n5,.int .i64 m5,.slice none 0 0,.slice none 0 0,.int .i64 0,.int .i64 0] 27)) b o6 q6 k6).heap.size):=HBX;have HR6:Hid ((chg (wB.alloc (.cells #[.int .i64 n1,.int .i64 n2,.int .i64 n3,.int .i64 n5,.int .i64 m5,.slice none 0 0,.slice none 0 0,.int .i64 0,.int .i64 0] 27)) b o6 q6 k6).heap[tb]? =some (.cells #[.int .i64 0,.int .i64 0,.int .i64 0,.int .i64 0,.int .i64 0,.slice none 0 0,.slice none 0 0,.int .i64 0,.int .i64 0] 27 (0,0))):=zh (by
  have:=uq HTB2;have:=uq HB;rw[zbp _ _ _ _ _ _ (by simp only[World.size_alloc];omega) (by omega),heap_alloc_old _ _ (by omega)];exact uq HRBB)
 generalize chg (wB.alloc (.cells #[.int .i64 n1,.int .i64 n2,.int .i64 n3,.int .i64 n5,.int .i64 m5,.slice none 0 0,.slice none 0 0,.int .i64 0,.int .i64 0] 27)) b o6 q6 k6=v5 at HS6 HBX HR6 |-;obtain⟨gb,HGb⟩:∃ gb,Hid (wB.heap.size=gb):=⟨_,rfl⟩;rw[uq HGb]at HBX |-;have HB6:=zh (uq HBX).1;have HZ6:Hid (gb<v5.heap.size):=zh (by have:=(uq HBX).2;omega);have HBG:Hid (b<gb):=zh (by have:=uq HB;have:=uq HGb;omega);have HGW:Hid (wB.heap.size<=gb):=zh (by have:=uq HGb;omega);clear HBX n0;go_wp2_with fail
 obtain⟨tgt,HT⟩:∃ tgt,Hid (tgt=rwY [110,111,100,101] 12 zb4 (zaz X6) []):=⟨_,rfl⟩
 go_loopw [] (λwr=>∃(a:Option Addr) (n cap:Nat) (L:List (List D)) (Y:Except Er (List Tok)),Hid (LS b gb 5 v5 45 7 [.int .i64 n1,.int .i64 n2,.int .i64 n3,.int .i64 n5,.int .i64 m5,.slice none 0 0,.slice none 0 0,.int .i64 0,.int .i64 0] wr L a n cap Y)/\Hid (rwY [110,111,100,101] 12 zb4 Y L=tgt)/\Hid (n<=12)) (λwr=>rem wr b)
 case atStart=>exact⟨none,0,0,[],zaz X6,zh (LS.start (uq HS6).2 (uq HB6) rfl (uq HBG) (uq HZ6)),zh (uq HT).symm,zh (by omega)⟩
 case round=>
  obtain⟨a6,n6,cap6,L6,Y,HL,HE,HM⟩:=hrel;have cg:=(uq HL).cell.1;go_wp2_with fail
  (refine(zbq (Y:=Y) [110,111,100,101] rfl n6 12 (uq HL).sr).mono ?_;rintro e v6 ⟨rfl,hf,hs⟩;have HL3:=zh ((uq HL).move hf hs);clear hf hs);clear cg;obtain⟨bq,Y3,hbg⟩:∃ bq Y3,bgn [110,111,100,101] n6 12 Y=(bq,Y3):=⟨_,_,rfl⟩;rw[hbg]at HL3 |-;cases bq with
  |true=>
   obtain⟨t,r,hY,hY3,ht,hne⟩:=zcK hbg;have HYY:=zh hY;have HTS:=zh ht;have HNE:=zh hne;subst hY3;clear hbg hY ht hne;obtain⟨i0,hi,hz0,hz1,hz2⟩:=zaG zls;have HI0:=zh hi;have HZ0:=zh hz0;have HZ1:=zh hz1;have HZ2:=zh hz2;clear hi hz0 hz1 hz2;have hn2:=uq HM;have HLd:=zh ((uq HL3).move (Fr.keep (zk v6).drew) ((uq HL3).sr.keep (zk v6).drew));go_wp2_with fail
   refine wp_region_held_drew (S:=λ_=>True) (by kernel_rfl) (by trivial) (λzH=>?_);refine tk2 0 48 2 50 zH ?_;try simp only[Yq]
   generalize v6.drew=w4 at HLd |-;have cg:=(uq HLd).cell.1;refine wpAnyH_ready (rs:= [1,3]) (by kernel_rfl) (by simp) ?_;refine AllReadyH.cons rfl (λK hK=>?_) (AllReadyH.cons rfl (λK hK=>?_) AllReadyH.nil)
   ·skip
    go_simp;clear zH;refine hK.out _ _ ?_ (λzH=>?_)
    ·trivial
    clear hK K;try simp only[Yq]
    clear cg;refine zaq 3 (λK hK=>?_);go_simp;clear zH;(refine(zew (X:= .ok (([]:List D),r)) (uq HLd).sr).mono ?_;rintro e w5 ⟨s,a2,k2,c2,a3,k3,c3,a4,k4,c4,a5,k5,c5,a7,k7,c7,p,cs,rfl,hcs,hbd⟩;have HCS:=zh hcs;have HBD:=zh hbd;clear hbd hcs);try go_wp2_with fail
    refine hK.out _ _ ?_ (λzH=>?_)
    ·trivial
    clear hK K;try simp only[Yq]
    refine zaq 4 (λK hK=>?_);go_simp;clear zH;refine hK.out _ _ ?_ (λzH=>?_)
    ·trivial
    clear hK K;try simp only[Yq]
    obtain⟨xs,hown⟩:=(uq HLd).own (uq HBD).1;have HOWN:=zh hown;clear hown;refine wpAnyH_ready (rs:= [5]) (by kernel_rfl) (by simp) ?_;refine AllReadyH.cons rfl (λK hK=>?_) AllReadyH.nil;refine zaC _ _ _ rfl 0 45 i0 _ 7 144 Tryz.underlying24 (uq HI0) (uq HZ0) (uq HZ1) (uq HZ2) rfl (by decide) _ _ xs rfl ((uq HOWN).alloc _) ⟨w5.heap.size,0,none⟩ 1 1 [.string (sv s),.slice a2 k2 c2,.slice a3 k3 c3,.slice a4 k4 c4,.slice a5 k5 c5,.slice a7 k7 c7,.int .i64 p] rfl rfl (new_cells w5 [.string (sv s),.slice a2 k2 c2,.slice a3 k3 c3,.slice a4 k4 c4,.slice a5 k5 c5,.slice a7 k7 c7,.int .i64 p] 45) (by simp[Value.oneCell']) (by unfold maxLen;omega) (by omega) (Nat.zero_le _) ?_;intro v' w7 hown' hgrow hat
    obtain⟨g',cp',rfl⟩:=zaP hown';have A:=(uq HLd).app (uq HBD).1 (uq HBD).2.1 (uq HBD).2.2.1 (uq HCS) ((zk _).alloc _) (uq HOWN) hown' hgrow hat;have HLS:=zh A.1;have c8:=A.2.1;have f8:=A.2.2;clear hown' hgrow hat A zH;refine hK.out _ _ trivial (λzH=>?_);clear hK K;try simp only[Act.put,List.setIfInBounds_toArray,List.set_cons_zero,List.set_cons_succ]
    refine tkk 6 54 zH ?_;try simp only[Yq]
    refine zaq 7 (λK hK=>?_);go_simp;clear zH;refine hK.out _ _ ?_ (λzH=>?_)
    ·trivial
    clear hK K;try simp only[Yq]
    refine wpAnyH_done (by kernel_rfl) ?_ _;clear zH;go_wp2_with fail
    go_roundw
    case rel=>
     refine⟨_,n6+1,cp',_,_,HLS,zh ?_,zh (by have:=uq HNE;omega)⟩;rw[<- uq HE,uq HYY,zbD zbR (uq HTS) (by rw[(uq HL).hn];exact uq HNE) (cs:=cs) (λc r' e=>(uq HBD).2.2.2 c r' e)];rfl
    case measure=>exact zbj (word:= [110,111,100,101]) (n:=n6) (most:=12) (body:=zb4) zbR (uq HYY) (uq HL).sr (by exact(uq HLS).sr)
   ·skip
    clear cg;go_simp;clear zH;(refine(zew (X:= .ok (([]:List D),r)) (uq HLd).sr).mono ?_;rintro e w5 ⟨s,a2,k2,c2,a3,k3,c3,a4,k4,c4,a5,k5,c5,a7,k7,c7,p,cs,rfl,hcs,hbd⟩;have HCS:=zh hcs;have HBD:=zh hbd;clear hbd hcs);try go_wp2_with fail
    refine hK.out _ _ ?_ (λzH=>?_)
    ·trivial
    clear hK K;try simp only[Yq]
    have cg5:=((uq HLd).move (uq HBD).1 (uq HBD).2.1).cell.1;have cg5a:∀ o,(w5.alloc o).cell? ⟨gb,5,none⟩=some (.slice a6 n6 cap6):=λo=>kcell ((zk w5).alloc o) cg5
    refine wpAnyH_ready (rs:= [1,4]) (by kernel_rfl) (by simp) ?_;refine AllReadyH.cons rfl (λK hK=>?_) (AllReadyH.cons rfl (λK hK=>?_) AllReadyH.nil)
    focus
     skip
     go_simp;clear zH;refine hK.out _ _ ?_ (λzH=>?_)
     ·trivial
     clear hK K;try simp only[Yq]
     clear cg5 cg5a;refine zaq 4 (λK hK=>?_);go_simp;clear zH;refine hK.out _ _ ?_ (λzH=>?_)
     ·trivial
     clear hK K;try simp only[Yq]
    rotate_left
    focus
     skip
     go_simp;clear zH;refine hK.out _ _ ?_ (λzH=>?_)
     ·trivial
     clear hK K;try simp only[Yq]
     clear cg5;refine zaq 1 (λK hK=>?_);go_simp;clear zH;refine hK.out _ _ ?_ (λzH=>?_)
     ·trivial
     clear hK K;try simp only[Yq]
     clear cg5a
    rotate_left
    all_goals
     obtain⟨xs,hown⟩:=(uq HLd).own (uq HBD).1;have HOWN:=zh hown;clear hown;refine wpAnyH_ready (rs:= [5]) (by kernel_rfl) (by simp) ?_;refine AllReadyH.cons rfl (λK hK=>?_) AllReadyH.nil;refine zaC _ _ _ rfl 0 45 i0 _ 7 144 Tryz.underlying24 (uq HI0) (uq HZ0) (uq HZ1) (uq HZ2) rfl (by decide) _ _ xs rfl ((uq HOWN).alloc _) ⟨w5.heap.size,0,none⟩ 1 1 [.string (sv s),.slice a2 k2 c2,.slice a3 k3 c3,.slice a4 k4 c4,.slice a5 k5 c5,.slice a7 k7 c7,.int .i64 p] rfl rfl (new_cells w5 [.string (sv s),.slice a2 k2 c2,.slice a3 k3 c3,.slice a4 k4 c4,.slice a5 k5 c5,.slice a7 k7 c7,.int .i64 p] 45) (by simp[Value.oneCell']) (by unfold maxLen;omega) (by omega) (Nat.zero_le _) ?_;intro v' w7 hown' hgrow hat
     obtain⟨g',cp',rfl⟩:=zaP hown';have A:=(uq HLd).app (uq HBD).1 (uq HBD).2.1 (uq HBD).2.2.1 (uq HCS) ((zk _).alloc _) (uq HOWN) hown' hgrow hat;have HLS:=zh A.1;have c8:=A.2.1;have f8:=A.2.2;clear hown' hgrow hat A zH;refine hK.out _ _ trivial (λzH=>?_);clear hK K;try simp only[Act.put,List.setIfInBounds_toArray,List.set_cons_zero,List.set_cons_succ]
     refine tkk 6 54 zH ?_;try simp only[Yq]
     refine zaq 7 (λK hK=>?_);go_simp;clear zH;refine hK.out _ _ ?_ (λzH=>?_)
     ·trivial
     clear hK K;try simp only[Yq]
     refine wpAnyH_done (by kernel_rfl) ?_ _;clear zH;go_wp2_with fail
     go_roundw
     case rel=>
      refine⟨_,n6+1,cp',_,_,HLS,zh ?_,zh (by have:=uq HNE;omega)⟩;rw[<- uq HE,uq HYY,zbD zbR (uq HTS) (by rw[(uq HL).hn];exact uq HNE) (cs:=cs) (λc r' e=>(uq HBD).2.2.2 c r' e)];rfl
     case measure=>exact zbj (word:= [110,111,100,101]) (n:=n6) (most:=12) (body:=zb4) zbR (uq HYY) (uq HL).sr (by exact(uq HLS).sr)
  |false=>
   have HY:=zh (zdA (body:=zb4) (L:=L6) zbR (uq HL).sr.ne (by rw[(uq HL).hn];exact hbg));have HQ:=zh (zds (e:=45) (z:=7) (X:=X6) (by rw[<- uq HT,<- uq HE];exact uq HY));clear hbg;obtain⟨X7,HX7⟩:∃ Z,Hid (bnd X6 (zaL [110,111,100,101] 12 45 7 zb4)=Z):=⟨_,rfl⟩;rw[uq HX7]at HQ;have HG7:=zh ((uq HG6).trans (uq HQ).2);have HS7:Hid (SF wB b (zaz X7) v6):=zh (by rw[(uq HQ).1];exact SF.loop (uq HS6) (uq HGW) (uq HL3));have HB7:Hid (Bxs v6 gb [.int .i64 n1,.int .i64 n2,.int .i64 n3,.int .i64 n5,.int .i64 m5,.slice a6 n6 cap6,.slice none 0 0,.int .i64 0,.int .i64 0]):=zh (uq HL3).bx;have HZ7:Hid (gb<v6.heap.size):=zh (uq HL3).gw;have HR7:=zh (((uq HL3).low2 (uq HTB2)).trans (uq HR6));have HW6_7:=zh (uq HL3).row;clear HL HE HM HT HY HQ;clear HL3;go_wp2_with fail
   (refine(zef (Y:=zaz X7) [97,114,116,101,114,121] rfl (uq HS7).2).mono ?_;rintro e v6 ⟨rfl,rfl⟩);generalize hq:isq [97,114,116,101,114,121] (zaz X7)=bq;cases bq with
   |false=>
    have hno:=zfX (X:=X7) (uq HS7).2 hq;obtain⟨X8,HX8⟩:∃ Z,Hid (bnd X7 zcN=Z):=⟨_,rfl⟩;rw[uq HX8]at hno;have HS8:Hid (SF wB b (zaz X8) v6):=zh (by rw[hno.1];exact uq HS7);have HG8:=zh ((uq HG7).trans hno.2);have HB8:=HB7;have HR8:=HR7;have HRN:=HW6_7;have HRP:Hid (Rd v6 (.row 48 6 []) (λi=>gb<i) (.slice none 0 0)):=zh (zhi _ _ _ _);clear hno hq;obtain⟨adF,capF,eF,pF,tF,rF,hF1,hF2⟩:=(uq HS8).2.front;obtain⟨tk0,_,_,_⟩:=hF1.tok;have cF:=hF1.c0;simp only[List.length_cons]at cF;obtain⟨X9,HX9⟩:∃ Z,Hid (bnd X8 zcQ=Z):=⟨_,rfl⟩;have HPN:Hid (PN=fstE X9):=zh (by
     have a0:=uq HX0;have a1:=uq HX1;have a2:=uq HX2;have a3:=uq HX3;have a4:=uq HX4;have a5:=uq HX5;have a6':=uq HX6;have a7:=uq HX7;have a8:=uq HX8;have a9:=uq HX9;have e2:zd8 L=X9:=by
      show sq _ [] L=X9;rw[show ∀ ps,sq ps [] L=bnd (.ok (([]:List D),L)) (sq ps)from λ_=>rfl,a0];simp only[zav,zaY,za8]at a1 a2 a3 a5 |-;rw[a1,a2,a3,a4,a5,a6',a7,a8,a9]
     rw[<- uq HPN0,e2])
    by_cases hkF:tF.k=0
    ·have fk:(tF.k !=0)=false:=by simp[hkF]
     have hen:=zhx (X:=X8) hkF hF2;rw[uq HX9]at hen;have HS9:Hid (SF wB b (zaz X9) v6):=zh (by rw[hen.1];exact uq HS8);have HG9:=zh ((uq HG8).trans hen.2);have HB9:=HB8;have HR9:=HR8;have HRN9:=HRN;have HRP9:=HRP;clear hen hF1 hF2 hkF;generalize tF.k=kF at tk0 fk
     go_upto_region 22 with fail
     clear cF tk0 fk;cases hX9:X9 with
     |error x=>
      rw[hX9]at HS9;obtain⟨adE,capE,tE,rE,hE1,hE2⟩:=(uq HS9).2.dead;have ce:=hE1.c1;have cp:=hE1.c2;have ne:(x.1 !=0)=true:=by simpa using hE2
      have HCE:=zh (show v6.drew.cell? ⟨b,1,none⟩=some (.int .i64 x.1)/\v6.drew.cell? ⟨b,2,none⟩=some (.int .i64 x.2)from⟨ce,cp⟩);clear hE1 hE2 cp;have dt2:v6.drew.heap[tb]? =some (.cells #[.int .i64 0,.int .i64 0,.int .i64 0,.int .i64 0,.int .i64 0,.slice none 0 0,.slice none 0 0,.int .i64 0,.int .i64 0] 27 (0,0)):=uq HR9;have r0:v6.drew.cell? ⟨tb,0,none⟩=some (.int .i64 0):=by simp[World.cell?,dt2]
      have f0:v6.drew.frozen? ⟨tb,0,none⟩=false:=by simp[World.frozen?,dt2]
      have e0:v6.drew.setCell ⟨tb,0,none⟩ (.int .i64 0)=v6.drew:=zaJ dt2 rfl;have r1:v6.drew.cell? ⟨tb,1,none⟩=some (.int .i64 0):=by simp[World.cell?,dt2]
      have f1:v6.drew.frozen? ⟨tb,1,none⟩=false:=by simp[World.frozen?,dt2]
      have e1:v6.drew.setCell ⟨tb,1,none⟩ (.int .i64 0)=v6.drew:=zaJ dt2 rfl;have r2:v6.drew.cell? ⟨tb,2,none⟩=some (.int .i64 0):=by simp[World.cell?,dt2]
      have f2:v6.drew.frozen? ⟨tb,2,none⟩=false:=by simp[World.frozen?,dt2]
      have e2:v6.drew.setCell ⟨tb,2,none⟩ (.int .i64 0)=v6.drew:=zaJ dt2 rfl;have r3:v6.drew.cell? ⟨tb,3,none⟩=some (.int .i64 0):=by simp[World.cell?,dt2]
      have f3:v6.drew.frozen? ⟨tb,3,none⟩=false:=by simp[World.frozen?,dt2]
      have e3:v6.drew.setCell ⟨tb,3,none⟩ (.int .i64 0)=v6.drew:=zaJ dt2 rfl;have r4:v6.drew.cell? ⟨tb,4,none⟩=some (.int .i64 0):=by simp[World.cell?,dt2]
      have f4:v6.drew.frozen? ⟨tb,4,none⟩=false:=by simp[World.frozen?,dt2]
      have e4:v6.drew.setCell ⟨tb,4,none⟩ (.int .i64 0)=v6.drew:=zaJ dt2 rfl;have r5:v6.drew.cell? ⟨tb,5,none⟩=some (.slice none 0 0):=by simp[World.cell?,dt2]
      have f5:v6.drew.frozen? ⟨tb,5,none⟩=false:=by simp[World.frozen?,dt2]
      have e5:v6.drew.setCell ⟨tb,5,none⟩ (.slice none 0 0)=v6.drew:=zaJ dt2 rfl;have r6:v6.drew.cell? ⟨tb,6,none⟩=some (.slice none 0 0):=by simp[World.cell?,dt2]
      have f6:v6.drew.frozen? ⟨tb,6,none⟩=false:=by simp[World.frozen?,dt2]
      have e6:v6.drew.setCell ⟨tb,6,none⟩ (.slice none 0 0)=v6.drew:=zaJ dt2 rfl;have r7:v6.drew.cell? ⟨tb,7,none⟩=some (.int .i64 0):=by simp[World.cell?,dt2]
      have f7:v6.drew.frozen? ⟨tb,7,none⟩=false:=by simp[World.frozen?,dt2]
      have e7:v6.drew.setCell ⟨tb,7,none⟩ (.int .i64 0)=v6.drew:=zaJ dt2 rfl;have r8:v6.drew.cell? ⟨tb,8,none⟩=some (.int .i64 0):=by simp[World.cell?,dt2]
      have f8:v6.drew.frozen? ⟨tb,8,none⟩=false:=by simp[World.frozen?,dt2]
      have e8:v6.drew.setCell ⟨tb,8,none⟩ (.int .i64 0)=v6.drew:=zaJ dt2 rfl;have HV9:Hid (Keep w v6.drew):=zh (Keep.drew (zck (uq HKWB) (uq HS9).1 (by have:=uq HTB2;have:=uq HTb;omega)));clear dt2;go_wp2_with fail
      refine wp_region_held_drew (S:=λw'=>w'.cell? ⟨b,1,none⟩=some (.int .i64 x.1)/\w'.cell? ⟨b,2,none⟩=some (.int .i64 x.2)) (by kernel_rfl) (by exact uq HCE) (λzH=>?_);refine tk6 0 86 1 87 2 88 3 89 4 90 5 91 zH ?_;try simp only[Yq]
      refine tk3 6 92 7 93 8 94 zH ?_;try simp only[Yq]
      generalize v6.drew=w12 at HV9 HCE r0 f0 e0 r1 f1 e1 r2 f2 e2 r3 f3 e3 r4 f4 e4 r5 f5 e5 r6 f6 e6 r7 f7 e7 r8 f8 e8 |-;refine zaq 9 (λK hK=>?_);go_simp;clear zH;refine hK.out _ _ ?_ (λzH=>?_)
      ·exact uq HCE
      clear hK K;try simp only[Yq]
      refine tk2 10 3 11 4 zH ?_;try simp only[Yq]
      refine wpAnyH_done (by kernel_rfl) ?_ _;clear zH;go_wp2_with fail
      refine bodyPost_ret (v:= .tuple #[.agg #[.int .i64 0,.int .i64 0,.int .i64 0,.int .i64 0,.int .i64 0,.slice none 0 0,.slice none 0 0,.int .i64 0,.int .i64 0],.int .i64 x.1,.int .i64 x.2]) ?_ rfl ?_
      ·simp[results,Tryz.results20,go_sem,r0,r1,r2,r3,r4,r5,r6,r7,r8]
      ·have eN:=uq HPN;rw[hX9]at eN;simp only[fstE]at eN;rw[eN];exact⟨uq HV9,0,0,0,0,0,none,0,0,none,0,0,0,0,rfl,rfl,rfl,rfl,rfl,rfl,rfl,rfl,rfl,rfl,rfl,rfl,rfl,rfl⟩
     |ok qE=>
      obtain⟨cE,rE⟩:=qE;have HX9e:=zh hX9;rw[hX9]at HS9;obtain⟨adE,capE,pE,tE,rE',eE,hE1⟩:=Sr.alive (r:=rE) (uq HS9).2;have ce:=hE1.c1;clear hE1 eE hX9;have g0:=((uq HB9) 0 _ rfl).1;have g1:=((uq HB9) 1 _ rfl).1;have g2:=((uq HB9) 2 _ rfl).1;have g3:=((uq HB9) 3 _ rfl).1;have g4:=((uq HB9) 4 _ rfl).1;have g5:=((uq HB9) 5 _ rfl).1;have g6:=((uq HB9) 6 _ rfl).1;have g7:=((uq HB9) 7 _ rfl).1;have g8:=((uq HB9) 8 _ rfl).1;obtain⟨u0,H0⟩:∃ u:Value,Hid ((.int .i64 n1:Value)=u):=⟨_,rfl⟩;rw[uq H0]at g0;obtain⟨u1,H1⟩:∃ u:Value,Hid ((.int .i64 n2:Value)=u):=⟨_,rfl⟩;rw[uq H1]at g1;obtain⟨u2,H2⟩:∃ u:Value,Hid ((.int .i64 n3:Value)=u):=⟨_,rfl⟩;rw[uq H2]at g2;obtain⟨u3,H3⟩:∃ u:Value,Hid ((.int .i64 n5:Value)=u):=⟨_,rfl⟩;rw[uq H3]at g3;obtain⟨u4,H4⟩:∃ u:Value,Hid ((.int .i64 m5:Value)=u):=⟨_,rfl⟩;rw[uq H4]at g4;obtain⟨u5,H5⟩:∃ u:Value,Hid ((.slice a6 n6 cap6:Value)=u):=⟨_,rfl⟩;rw[uq H5]at g5;obtain⟨u6,H6⟩:∃ u:Value,Hid ((.slice none 0 0:Value)=u):=⟨_,rfl⟩;rw[uq H6]at g6;obtain⟨u7,H7⟩:∃ u:Value,Hid ((.int .i64 0:Value)=u):=⟨_,rfl⟩;rw[uq H7]at g7;obtain⟨u8,H8⟩:∃ u:Value,Hid ((.int .i64 0:Value)=u):=⟨_,rfl⟩;rw[uq H8]at g8;obtain⟨W1,W2,W3,W4,W5,W6,W7,W8,W9,y0,y1,y2,y3,y4,y5,y6,y7,y8,hb9,hq9,hz9,ho9,ht9,hp9⟩:=zdL (uq HR9) (u0:=u0) (u1:=u1) (u2:=u2) (u3:=u3) (u4:=u4) (u5:=u5) (u6:=u6) (u7:=u7) (u8:=u8) (by rw[<- uq H0,<- uq H1,<- uq H2,<- uq H3,<- uq H4,<- uq H5,<- uq H6,<- uq H7,<- uq H8];simp[Value.oneCell']);have HQ9:=zh hq9;have HKZ:Hid (Keep w W9):=zh (zdM (zck (uq HKWB) (uq HS9).1 (by have:=uq HTB2;have:=uq HTb;omega)) (by have:=uq HTb;omega) hq9 hz9 ho9 ht9 hp9);have r0:W9.cell? ⟨tb,0,none⟩=some u0:=by simp[World.cell?,hb9]
      have r1:W9.cell? ⟨tb,1,none⟩=some u1:=by simp[World.cell?,hb9]
      have r2:W9.cell? ⟨tb,2,none⟩=some u2:=by simp[World.cell?,hb9]
      have r3:W9.cell? ⟨tb,3,none⟩=some u3:=by simp[World.cell?,hb9]
      have r4:W9.cell? ⟨tb,4,none⟩=some u4:=by simp[World.cell?,hb9]
      have r5:W9.cell? ⟨tb,5,none⟩=some u5:=by simp[World.cell?,hb9]
      have r6:W9.cell? ⟨tb,6,none⟩=some u6:=by simp[World.cell?,hb9]
      have r7:W9.cell? ⟨tb,7,none⟩=some u7:=by simp[World.cell?,hb9]
      have r8:W9.cell? ⟨tb,8,none⟩=some u8:=by simp[World.cell?,hb9]
      clear hb9 hq9 hz9 ho9 ht9 hp9;go_wp2_with fail
      refine bodyPost_ret (v:= .tuple #[.agg #[u0,u1,u2,u3,u4,u5,u6,u7,u8],.int .i64 0,.int .i64 0]) ?_ rfl ?_
      ·simp[results,Tryz.results20,go_sem,r0,r1,r2,r3,r4,r5,r6,r7,r8]
      ·obtain rfl:=uq H0;obtain rfl:=uq H1;obtain rfl:=uq H2;obtain rfl:=uq H3;obtain rfl:=uq H4;obtain rfl:=uq H5;obtain rfl:=uq H6;obtain rfl:=uq H7;obtain rfl:=uq H8;have eN:=uq HPN;have hX9:=uq HX9e;rw[hX9]at eN;simp only[fstE]at eN;rw[eN];have hcs:cE= [dI n1,dI n2,dI n3,dI n5,dI m5,.row 45 7 L6,.row 48 6 ([]),dI 0,dI 0]:=by
        obtain⟨c0,r0',h0,h1⟩:=(uq HG9) cE rE hX9;rw[<- uq HX0]at h0;simp only[Except.ok.injEq,Prod.mk.injEq]at h0;rw[h1,<- h0.1];rfl
       refine⟨uq HKZ,n1,n2,n3,n5,m5,a6,n6,cap6,_,_,_,0,0,rfl,?_⟩;show Rds W9 cE _ _;rw[hcs];have hm:∀(d:D) (u:Value),Rd v6 d (λi=>gb<i) u->Rd W9 d (λi=>w.heap.size<=i) u:=λd u hd=>Rd.move _ _ _ _ hd (λi hi _=>⟨(uq HQ9) i (by have:=uq HTB2;have:=uq HBG;omega),by have:=uq HTB2;have:=uq HTb;have:=uq HBG;omega⟩)
       exact zaT _ (zaT _ (zaT _ (zaT _ (zaT _ (zcC (hm _ _ (uq HRN9)) (zcC (hm _ _ (uq HRP9)) (zaT _ (zaT _ (za2 _ _)))))))))
    ·have fk:(tF.k !=0)=true:=by simpa using hkF
     have hen:=zfR (X:=X8) hkF hF2;rw[uq HX9]at hen;have HEN:=zh hen;clear hen hF1 hF2 hkF;generalize tF.k=kF at tk0 fk;go_wp2_with fail
     (refine(zdd (Y:=zaz X8) 50 (by decide) (uq HS8).2).mono ?_;rintro e w10 ⟨rfl,hf,hs⟩;have HS9:Hid (SF wB b (zaz X9) w10):=zh ⟨(uq HS8).1.trans hf,by rw[(uq HEN).1];exact hs⟩;have HB9:=zh ((uq HB8).fr hf (by have:=uq HBG;omega));have HR9:=zh ((hf.block tb (Nat.lt_trans (by have:=uq HTB2;have:=uq HBG;omega) (uq HB8).lt) (by have:=uq HTB2;omega)).trans (uq HR8));have HRN9:=zh (zc2 (uq HBG) hf (uq HRN));have HRP9:=zh (zc2 (uq HBG) hf (uq HRP));clear hf hs);have HG9:=zh ((uq HG8).trans (uq HEN).2);clear cF tk0 fk
     go_upto_region 22 with fail
     cases hX9:X9 with
     |error x=>
      rw[hX9]at HS9;obtain⟨adE,capE,tE,rE,hE1,hE2⟩:=(uq HS9).2.dead;have ce:=hE1.c1;have cp:=hE1.c2;have ne:(x.1 !=0)=true:=by simpa using hE2
      have HCE:=zh (show w10.drew.cell? ⟨b,1,none⟩=some (.int .i64 x.1)/\w10.drew.cell? ⟨b,2,none⟩=some (.int .i64 x.2)from⟨ce,cp⟩);clear hE1 hE2 cp;have dt2:w10.drew.heap[tb]? =some (.cells #[.int .i64 0,.int .i64 0,.int .i64 0,.int .i64 0,.int .i64 0,.slice none 0 0,.slice none 0 0,.int .i64 0,.int .i64 0] 27 (0,0)):=uq HR9;have r0:w10.drew.cell? ⟨tb,0,none⟩=some (.int .i64 0):=by simp[World.cell?,dt2]
      have f0:w10.drew.frozen? ⟨tb,0,none⟩=false:=by simp[World.frozen?,dt2]
      have e0:w10.drew.setCell ⟨tb,0,none⟩ (.int .i64 0)=w10.drew:=zaJ dt2 rfl;have r1:w10.drew.cell? ⟨tb,1,none⟩=some (.int .i64 0):=by simp[World.cell?,dt2]
      have f1:w10.drew.frozen? ⟨tb,1,none⟩=false:=by simp[World.frozen?,dt2]
      have e1:w10.drew.setCell ⟨tb,1,none⟩ (.int .i64 0)=w10.drew:=zaJ dt2 rfl;have r2:w10.drew.cell? ⟨tb,2,none⟩=some (.int .i64 0):=by simp[World.cell?,dt2]
      have f2:w10.drew.frozen? ⟨tb,2,none⟩=false:=by simp[World.frozen?,dt2]
      have e2:w10.drew.setCell ⟨tb,2,none⟩ (.int .i64 0)=w10.drew:=zaJ dt2 rfl;have r3:w10.drew.cell? ⟨tb,3,none⟩=some (.int .i64 0):=by simp[World.cell?,dt2]
      have f3:w10.drew.frozen? ⟨tb,3,none⟩=false:=by simp[World.frozen?,dt2]
      have e3:w10.drew.setCell ⟨tb,3,none⟩ (.int .i64 0)=w10.drew:=zaJ dt2 rfl;have r4:w10.drew.cell? ⟨tb,4,none⟩=some (.int .i64 0):=by simp[World.cell?,dt2]
      have f4:w10.drew.frozen? ⟨tb,4,none⟩=false:=by simp[World.frozen?,dt2]
      have e4:w10.drew.setCell ⟨tb,4,none⟩ (.int .i64 0)=w10.drew:=zaJ dt2 rfl;have r5:w10.drew.cell? ⟨tb,5,none⟩=some (.slice none 0 0):=by simp[World.cell?,dt2]
      have f5:w10.drew.frozen? ⟨tb,5,none⟩=false:=by simp[World.frozen?,dt2]
      have e5:w10.drew.setCell ⟨tb,5,none⟩ (.slice none 0 0)=w10.drew:=zaJ dt2 rfl;have r6:w10.drew.cell? ⟨tb,6,none⟩=some (.slice none 0 0):=by simp[World.cell?,dt2]
      have f6:w10.drew.frozen? ⟨tb,6,none⟩=false:=by simp[World.frozen?,dt2]
      have e6:w10.drew.setCell ⟨tb,6,none⟩ (.slice none 0 0)=w10.drew:=zaJ dt2 rfl;have r7:w10.drew.cell? ⟨tb,7,none⟩=some (.int .i64 0):=by simp[World.cell?,dt2]
      have f7:w10.drew.frozen? ⟨tb,7,none⟩=false:=by simp[World.frozen?,dt2]
      have e7:w10.drew.setCell ⟨tb,7,none⟩ (.int .i64 0)=w10.drew:=zaJ dt2 rfl;have r8:w10.drew.cell? ⟨tb,8,none⟩=some (.int .i64 0):=by simp[World.cell?,dt2]
      have f8:w10.drew.frozen? ⟨tb,8,none⟩=false:=by simp[World.frozen?,dt2]
      have e8:w10.drew.setCell ⟨tb,8,none⟩ (.int .i64 0)=w10.drew:=zaJ dt2 rfl;have HV9:Hid (Keep w w10.drew):=zh (Keep.drew (zck (uq HKWB) (uq HS9).1 (by have:=uq HTB2;have:=uq HTb;omega)));clear dt2;go_wp2_with fail
      refine wp_region_held_drew (S:=λw'=>w'.cell? ⟨b,1,none⟩=some (.int .i64 x.1)/\w'.cell? ⟨b,2,none⟩=some (.int .i64 x.2)) (by kernel_rfl) (by exact uq HCE) (λzH=>?_);refine tk6 0 86 1 87 2 88 3 89 4 90 5 91 zH ?_;try simp only[Yq]
      refine tk3 6 92 7 93 8 94 zH ?_;try simp only[Yq]
      generalize w10.drew=w12 at HV9 HCE r0 f0 e0 r1 f1 e1 r2 f2 e2 r3 f3 e3 r4 f4 e4 r5 f5 e5 r6 f6 e6 r7 f7 e7 r8 f8 e8 |-;refine zaq 9 (λK hK=>?_);go_simp;clear zH;refine hK.out _ _ ?_ (λzH=>?_)
      ·exact uq HCE
      clear hK K;try simp only[Yq]
      refine tk2 10 3 11 4 zH ?_;try simp only[Yq]
      refine wpAnyH_done (by kernel_rfl) ?_ _;clear zH;go_wp2_with fail
      refine bodyPost_ret (v:= .tuple #[.agg #[.int .i64 0,.int .i64 0,.int .i64 0,.int .i64 0,.int .i64 0,.slice none 0 0,.slice none 0 0,.int .i64 0,.int .i64 0],.int .i64 x.1,.int .i64 x.2]) ?_ rfl ?_
      ·simp[results,Tryz.results20,go_sem,r0,r1,r2,r3,r4,r5,r6,r7,r8]
      ·have eN:=uq HPN;rw[hX9]at eN;simp only[fstE]at eN;rw[eN];exact⟨uq HV9,0,0,0,0,0,none,0,0,none,0,0,0,0,rfl,rfl,rfl,rfl,rfl,rfl,rfl,rfl,rfl,rfl,rfl,rfl,rfl,rfl⟩
     |ok qE=>
      obtain⟨cE,rE⟩:=qE;have HX9e:=zh hX9;rw[hX9]at HS9;obtain⟨adE,capE,pE,tE,rE',eE,hE1⟩:=Sr.alive (r:=rE) (uq HS9).2;have ce:=hE1.c1;clear hE1 eE hX9;have g0:=((uq HB9) 0 _ rfl).1;have g1:=((uq HB9) 1 _ rfl).1;have g2:=((uq HB9) 2 _ rfl).1;have g3:=((uq HB9) 3 _ rfl).1;have g4:=((uq HB9) 4 _ rfl).1;have g5:=((uq HB9) 5 _ rfl).1;have g6:=((uq HB9) 6 _ rfl).1;have g7:=((uq HB9) 7 _ rfl).1;have g8:=((uq HB9) 8 _ rfl).1;obtain⟨u0,H0⟩:∃ u:Value,Hid ((.int .i64 n1:Value)=u):=⟨_,rfl⟩;rw[uq H0]at g0;obtain⟨u1,H1⟩:∃ u:Value,Hid ((.int .i64 n2:Value)=u):=⟨_,rfl⟩;rw[uq H1]at g1;obtain⟨u2,H2⟩:∃ u:Value,Hid ((.int .i64 n3:Value)=u):=⟨_,rfl⟩;rw[uq H2]at g2;obtain⟨u3,H3⟩:∃ u:Value,Hid ((.int .i64 n5:Value)=u):=⟨_,rfl⟩;rw[uq H3]at g3;obtain⟨u4,H4⟩:∃ u:Value,Hid ((.int .i64 m5:Value)=u):=⟨_,rfl⟩;rw[uq H4]at g4;obtain⟨u5,H5⟩:∃ u:Value,Hid ((.slice a6 n6 cap6:Value)=u):=⟨_,rfl⟩;rw[uq H5]at g5;obtain⟨u6,H6⟩:∃ u:Value,Hid ((.slice none 0 0:Value)=u):=⟨_,rfl⟩;rw[uq H6]at g6;obtain⟨u7,H7⟩:∃ u:Value,Hid ((.int .i64 0:Value)=u):=⟨_,rfl⟩;rw[uq H7]at g7;obtain⟨u8,H8⟩:∃ u:Value,Hid ((.int .i64 0:Value)=u):=⟨_,rfl⟩;rw[uq H8]at g8;obtain⟨W1,W2,W3,W4,W5,W6,W7,W8,W9,y0,y1,y2,y3,y4,y5,y6,y7,y8,hb9,hq9,hz9,ho9,ht9,hp9⟩:=zdL (uq HR9) (u0:=u0) (u1:=u1) (u2:=u2) (u3:=u3) (u4:=u4) (u5:=u5) (u6:=u6) (u7:=u7) (u8:=u8) (by rw[<- uq H0,<- uq H1,<- uq H2,<- uq H3,<- uq H4,<- uq H5,<- uq H6,<- uq H7,<- uq H8];simp[Value.oneCell']);have HQ9:=zh hq9;have HKZ:Hid (Keep w W9):=zh (zdM (zck (uq HKWB) (uq HS9).1 (by have:=uq HTB2;have:=uq HTb;omega)) (by have:=uq HTb;omega) hq9 hz9 ho9 ht9 hp9);have r0:W9.cell? ⟨tb,0,none⟩=some u0:=by simp[World.cell?,hb9]
      have r1:W9.cell? ⟨tb,1,none⟩=some u1:=by simp[World.cell?,hb9]
      have r2:W9.cell? ⟨tb,2,none⟩=some u2:=by simp[World.cell?,hb9]
      have r3:W9.cell? ⟨tb,3,none⟩=some u3:=by simp[World.cell?,hb9]
      have r4:W9.cell? ⟨tb,4,none⟩=some u4:=by simp[World.cell?,hb9]
      have r5:W9.cell? ⟨tb,5,none⟩=some u5:=by simp[World.cell?,hb9]
      have r6:W9.cell? ⟨tb,6,none⟩=some u6:=by simp[World.cell?,hb9]
      have r7:W9.cell? ⟨tb,7,none⟩=some u7:=by simp[World.cell?,hb9]
      have r8:W9.cell? ⟨tb,8,none⟩=some u8:=by simp[World.cell?,hb9]
      clear hb9 hq9 hz9 ho9 ht9 hp9;go_wp2_with fail
      refine bodyPost_ret (v:= .tuple #[.agg #[u0,u1,u2,u3,u4,u5,u6,u7,u8],.int .i64 0,.int .i64 0]) ?_ rfl ?_
      ·simp[results,Tryz.results20,go_sem,r0,r1,r2,r3,r4,r5,r6,r7,r8]
      ·obtain rfl:=uq H0;obtain rfl:=uq H1;obtain rfl:=uq H2;obtain rfl:=uq H3;obtain rfl:=uq H4;obtain rfl:=uq H5;obtain rfl:=uq H6;obtain rfl:=uq H7;obtain rfl:=uq H8;have eN:=uq HPN;have hX9:=uq HX9e;rw[hX9]at eN;simp only[fstE]at eN;rw[eN];have hcs:cE= [dI n1,dI n2,dI n3,dI n5,dI m5,.row 45 7 L6,.row 48 6 ([]),dI 0,dI 0]:=by
        obtain⟨c0,r0',h0,h1⟩:=(uq HG9) cE rE hX9;rw[<- uq HX0]at h0;simp only[Except.ok.injEq,Prod.mk.injEq]at h0;rw[h1,<- h0.1];rfl
       refine⟨uq HKZ,n1,n2,n3,n5,m5,a6,n6,cap6,_,_,_,0,0,rfl,?_⟩;show Rds W9 cE _ _;rw[hcs];have hm:∀(d:D) (u:Value),Rd w10 d (λi=>gb<i) u->Rd W9 d (λi=>w.heap.size<=i) u:=λd u hd=>Rd.move _ _ _ _ hd (λi hi _=>⟨(uq HQ9) i (by have:=uq HTB2;have:=uq HBG;omega),by have:=uq HTB2;have:=uq HTb;have:=uq HBG;omega⟩)
       exact zaT _ (zaT _ (zaT _ (zaT _ (zaT _ (zcC (hm _ _ (uq HRN9)) (zcC (hm _ _ (uq HRP9)) (zaT _ (zaT _ (za2 _ _)))))))))
   |true=>
    have hz:=zgA (X:=X7) (s:= [97,114,116,101,114,121]) rfl hq (uq HS7).2;obtain⟨cA,tA,rA,e7,heA,hnx⟩:=hz;have HE7:=zh e7;have HEA:=zh heA;have HNX:=zh hnx;clear e7 heA hnx hq;go_wp2_with fail
    (refine(zch (Y:=zaz X7) (uq HS7).2).mono ?_;rintro e w5 ⟨t8,rfl,_,hf,hs,_⟩;rw[uq HNX]at hs;have HS7b:Hid (SF wB b (zaz (.ok (cA,rA))) w5):=zh ⟨(uq HS7).1.trans hf,hs⟩;have HB7b:=zh ((uq HB7).fr hf (by have:=uq HBG;omega));have HR7b:=zh ((hf.block tb (by have:=uq HZ7;have:=uq HBG;have:=uq HTB2;omega) (by have:=uq HTB2;omega)).trans (uq HR7));have HRN7:=zh (zc2 (uq HBG) hf (uq HW6_7));have HZ7b:Hid (gb<w5.heap.size):=zh (Nat.lt_of_lt_of_le (uq HZ7) hf.size);clear hf hs);go_wp2_with fail
    (refine(zh9 (X:= .ok (cA,rA)) (uq HS7b).2).mono ?_;rintro e w6 ⟨aS,nS,cS,xS,yS,LS',rfl,hd,hrd⟩;have HS7c:=zh ((uq HS7b).step hd);have HB7c:=zh ((uq HB7b).fr hd.1 (by have:=uq HBG;omega));have HR7c:=zh ((hd.1.block tb (by have:=uq HZ7b;have:=uq HBG;have:=uq HTB2;omega) (by have:=uq HTB2;omega)).trans (uq HR7b));have HRN7c:=zh (zc2 (uq HBG) hd.1 (uq HRN7));have HRP7c:Hid (Rd w6 (.row 48 6 LS') (λi=>gb<i) (.slice aS nS cS)):=zh (Rd.move _ _ _ _ hrd (λi hi _=>⟨rfl,by have:=uq HZ7b;omega⟩));have hyes:=zeA (X:=X7) (uq HE7) (uq HEA) hd.2.2;clear hd hrd);obtain⟨X8,HX8⟩:∃ Z,Hid (bnd X7 zcN=Z):=⟨_,rfl⟩;rw[uq HX8]at hyes;rw[<- hyes.1]at HS7c;have HG8:=zh ((uq HG7).trans hyes.2);clear hyes;have x6:=(uq HB7c) 6 _ rfl;obtain⟨x6a,x6b⟩:=x6;have HB7d:=zh ((uq HB7c).set 6 (.slice aS nS cS));have x7:=(uq HB7d) 7 _ rfl;obtain⟨x7a,x7b⟩:=x7;have HB7e:=zh ((uq HB7d).set 7 (.int .i64 xS));have x8:=(uq HB7e) 8 _ rfl;obtain⟨x8a,x8b⟩:=x8;have HB8:Hid (Bxs (((w6.setCell ⟨gb,6,none⟩ (.slice aS nS cS)).setCell ⟨gb,7,none⟩ (.int .i64 xS)).setCell ⟨gb,8,none⟩ (.int .i64 yS)) gb [.int .i64 n1,.int .i64 n2,.int .i64 n3,.int .i64 n5,.int .i64 m5,.slice a6 n6 cap6,.slice aS nS cS,.int .i64 xS,.int .i64 yS]):=zh ((uq HB7e).set 8 (.int .i64 yS));clear HB7d HB7e;have hfar:∀ i,i≠gb->(((w6.setCell ⟨gb,6,none⟩ (.slice aS nS cS)).setCell ⟨gb,7,none⟩ (.int .i64 xS)).setCell ⟨gb,8,none⟩ (.int .i64 yS)).heap[i]? =w6.heap[i]? :=λi hi=>by rw[Below.heap_setCell _ _ _ _ hi,Below.heap_setCell _ _ _ _ hi,Below.heap_setCell _ _ _ _ hi]
    have HS8:Hid (SF wB b (zaz X8) (((w6.setCell ⟨gb,6,none⟩ (.slice aS nS cS)).setCell ⟨gb,7,none⟩ (.int .i64 xS)).setCell ⟨gb,8,none⟩ (.int .i64 yS))):=zh ((uq HS7c).stored (uq HB) (uq HGW) hfar (by simp[World.setCell]) rfl rfl rfl);have HR8:=zh ((hfar tb (by have:=uq HTB2;have:=uq HBG;omega)).trans (uq HR7c));have HRN:=zh (Rd.move _ _ _ _ (uq HRN7c) (λi hi _=>⟨hfar i (by omega),hi⟩));have HRP:=zh (Rd.move _ _ _ _ (uq HRP7c) (λi hi _=>⟨hfar i (by omega),hi⟩));clear hfar
    go_upto_region 20 with fail
    generalize ((w6.setCell ⟨gb,6,none⟩ (.slice aS nS cS)).setCell ⟨gb,7,none⟩ (.int .i64 xS)).setCell ⟨gb,8,none⟩ (.int .i64 yS)=v8 at HB8 HS8 HR8 HRN HRP |-;clear x6a x6b x7a x7b x8a x8b;obtain⟨adF,capF,eF,pF,tF,rF,hF1,hF2⟩:=(uq HS8).2.front;obtain⟨tk0,_,_,_⟩:=hF1.tok;have cF:=hF1.c0;simp only[List.length_cons]at cF;obtain⟨X9,HX9⟩:∃ Z,Hid (bnd X8 zcQ=Z):=⟨_,rfl⟩;have HPN:Hid (PN=fstE X9):=zh (by
     have a0:=uq HX0;have a1:=uq HX1;have a2:=uq HX2;have a3:=uq HX3;have a4:=uq HX4;have a5:=uq HX5;have a6':=uq HX6;have a7:=uq HX7;have a8:=uq HX8;have a9:=uq HX9;have e2:zd8 L=X9:=by
      show sq _ [] L=X9;rw[show ∀ ps,sq ps [] L=bnd (.ok (([]:List D),L)) (sq ps)from λ_=>rfl,a0];simp only[zav,zaY,za8]at a1 a2 a3 a5 |-;rw[a1,a2,a3,a4,a5,a6',a7,a8,a9]
     rw[<- uq HPN0,e2])
    by_cases hkF:tF.k=0
    ·have fk:(tF.k !=0)=false:=by simp[hkF]
     have hen:=zhx (X:=X8) hkF hF2;rw[uq HX9]at hen;have HS9:Hid (SF wB b (zaz X9) v8):=zh (by rw[hen.1];exact uq HS8);have HG9:=zh ((uq HG8).trans hen.2);have HB9:=HB8;have HR9:=HR8;have HRN9:=HRN;have HRP9:=HRP;clear hen hF1 hF2 hkF;generalize tF.k=kF at tk0 fk
     go_upto_region 22 with fail
     clear cF tk0 fk;cases hX9:X9 with
     |error x=>
      rw[hX9]at HS9;obtain⟨adE,capE,tE,rE,hE1,hE2⟩:=(uq HS9).2.dead;have ce:=hE1.c1;have cp:=hE1.c2;have ne:(x.1 !=0)=true:=by simpa using hE2
      have HCE:=zh (show v8.drew.cell? ⟨b,1,none⟩=some (.int .i64 x.1)/\v8.drew.cell? ⟨b,2,none⟩=some (.int .i64 x.2)from⟨ce,cp⟩);clear hE1 hE2 cp;have dt2:v8.drew.heap[tb]? =some (.cells #[.int .i64 0,.int .i64 0,.int .i64 0,.int .i64 0,.int .i64 0,.slice none 0 0,.slice none 0 0,.int .i64 0,.int .i64 0] 27 (0,0)):=uq HR9;have r0:v8.drew.cell? ⟨tb,0,none⟩=some (.int .i64 0):=by simp[World.cell?,dt2]
      have f0:v8.drew.frozen? ⟨tb,0,none⟩=false:=by simp[World.frozen?,dt2]
      have e0:v8.drew.setCell ⟨tb,0,none⟩ (.int .i64 0)=v8.drew:=zaJ dt2 rfl;have r1:v8.drew.cell? ⟨tb,1,none⟩=some (.int .i64 0):=by simp[World.cell?,dt2]
      have f1:v8.drew.frozen? ⟨tb,1,none⟩=false:=by simp[World.frozen?,dt2]
      have e1:v8.drew.setCell ⟨tb,1,none⟩ (.int .i64 0)=v8.drew:=zaJ dt2 rfl;have r2:v8.drew.cell? ⟨tb,2,none⟩=some (.int .i64 0):=by simp[World.cell?,dt2]
      have f2:v8.drew.frozen? ⟨tb,2,none⟩=false:=by simp[World.frozen?,dt2]
      have e2:v8.drew.setCell ⟨tb,2,none⟩ (.int .i64 0)=v8.drew:=zaJ dt2 rfl;have r3:v8.drew.cell? ⟨tb,3,none⟩=some (.int .i64 0):=by simp[World.cell?,dt2]
      have f3:v8.drew.frozen? ⟨tb,3,none⟩=false:=by simp[World.frozen?,dt2]
      have e3:v8.drew.setCell ⟨tb,3,none⟩ (.int .i64 0)=v8.drew:=zaJ dt2 rfl;have r4:v8.drew.cell? ⟨tb,4,none⟩=some (.int .i64 0):=by simp[World.cell?,dt2]
      have f4:v8.drew.frozen? ⟨tb,4,none⟩=false:=by simp[World.frozen?,dt2]
      have e4:v8.drew.setCell ⟨tb,4,none⟩ (.int .i64 0)=v8.drew:=zaJ dt2 rfl;have r5:v8.drew.cell? ⟨tb,5,none⟩=some (.slice none 0 0):=by simp[World.cell?,dt2]
      have f5:v8.drew.frozen? ⟨tb,5,none⟩=false:=by simp[World.frozen?,dt2]
      have e5:v8.drew.setCell ⟨tb,5,none⟩ (.slice none 0 0)=v8.drew:=zaJ dt2 rfl;have r6:v8.drew.cell? ⟨tb,6,none⟩=some (.slice none 0 0):=by simp[World.cell?,dt2]
      have f6:v8.drew.frozen? ⟨tb,6,none⟩=false:=by simp[World.frozen?,dt2]
      have e6:v8.drew.setCell ⟨tb,6,none⟩ (.slice none 0 0)=v8.drew:=zaJ dt2 rfl;have r7:v8.drew.cell? ⟨tb,7,none⟩=some (.int .i64 0):=by simp[World.cell?,dt2]
      have f7:v8.drew.frozen? ⟨tb,7,none⟩=false:=by simp[World.frozen?,dt2]
      have e7:v8.drew.setCell ⟨tb,7,none⟩ (.int .i64 0)=v8.drew:=zaJ dt2 rfl;have r8:v8.drew.cell? ⟨tb,8,none⟩=some (.int .i64 0):=by simp[World.cell?,dt2]
      have f8:v8.drew.frozen? ⟨tb,8,none⟩=false:=by simp[World.frozen?,dt2]
      have e8:v8.drew.setCell ⟨tb,8,none⟩ (.int .i64 0)=v8.drew:=zaJ dt2 rfl;have HV9:Hid (Keep w v8.drew):=zh (Keep.drew (zck (uq HKWB) (uq HS9).1 (by have:=uq HTB2;have:=uq HTb;omega)));clear dt2;go_wp2_with fail
      refine wp_region_held_drew (S:=λw'=>w'.cell? ⟨b,1,none⟩=some (.int .i64 x.1)/\w'.cell? ⟨b,2,none⟩=some (.int .i64 x.2)) (by kernel_rfl) (by exact uq HCE) (λzH=>?_);refine tk6 0 86 1 87 2 88 3 89 4 90 5 91 zH ?_;try simp only[Yq]
      refine tk3 6 92 7 93 8 94 zH ?_;try simp only[Yq]
      generalize v8.drew=w12 at HV9 HCE r0 f0 e0 r1 f1 e1 r2 f2 e2 r3 f3 e3 r4 f4 e4 r5 f5 e5 r6 f6 e6 r7 f7 e7 r8 f8 e8 |-;refine zaq 9 (λK hK=>?_);go_simp;clear zH;refine hK.out _ _ ?_ (λzH=>?_)
      ·exact uq HCE
      clear hK K;try simp only[Yq]
      refine tk2 10 3 11 4 zH ?_;try simp only[Yq]
      refine wpAnyH_done (by kernel_rfl) ?_ _;clear zH;go_wp2_with fail
      refine bodyPost_ret (v:= .tuple #[.agg #[.int .i64 0,.int .i64 0,.int .i64 0,.int .i64 0,.int .i64 0,.slice none 0 0,.slice none 0 0,.int .i64 0,.int .i64 0],.int .i64 x.1,.int .i64 x.2]) ?_ rfl ?_
      ·simp[results,Tryz.results20,go_sem,r0,r1,r2,r3,r4,r5,r6,r7,r8]
      ·have eN:=uq HPN;rw[hX9]at eN;simp only[fstE]at eN;rw[eN];exact⟨uq HV9,0,0,0,0,0,none,0,0,none,0,0,0,0,rfl,rfl,rfl,rfl,rfl,rfl,rfl,rfl,rfl,rfl,rfl,rfl,rfl,rfl⟩
     |ok qE=>
      obtain⟨cE,rE⟩:=qE;have HX9e:=zh hX9;rw[hX9]at HS9;obtain⟨adE,capE,pE,tE,rE',eE,hE1⟩:=Sr.alive (r:=rE) (uq HS9).2;have ce:=hE1.c1;clear hE1 eE hX9;have g0:=((uq HB9) 0 _ rfl).1;have g1:=((uq HB9) 1 _ rfl).1;have g2:=((uq HB9) 2 _ rfl).1;have g3:=((uq HB9) 3 _ rfl).1;have g4:=((uq HB9) 4 _ rfl).1;have g5:=((uq HB9) 5 _ rfl).1;have g6:=((uq HB9) 6 _ rfl).1;have g7:=((uq HB9) 7 _ rfl).1;have g8:=((uq HB9) 8 _ rfl).1;obtain⟨u0,H0⟩:∃ u:Value,Hid ((.int .i64 n1:Value)=u):=⟨_,rfl⟩;rw[uq H0]at g0;obtain⟨u1,H1⟩:∃ u:Value,Hid ((.int .i64 n2:Value)=u):=⟨_,rfl⟩;rw[uq H1]at g1;obtain⟨u2,H2⟩:∃ u:Value,Hid ((.int .i64 n3:Value)=u):=⟨_,rfl⟩;rw[uq H2]at g2;obtain⟨u3,H3⟩:∃ u:Value,Hid ((.int .i64 n5:Value)=u):=⟨_,rfl⟩;rw[uq H3]at g3;obtain⟨u4,H4⟩:∃ u:Value,Hid ((.int .i64 m5:Value)=u):=⟨_,rfl⟩;rw[uq H4]at g4;obtain⟨u5,H5⟩:∃ u:Value,Hid ((.slice a6 n6 cap6:Value)=u):=⟨_,rfl⟩;rw[uq H5]at g5;obtain⟨u6,H6⟩:∃ u:Value,Hid ((.slice aS nS cS:Value)=u):=⟨_,rfl⟩;rw[uq H6]at g6;obtain⟨u7,H7⟩:∃ u:Value,Hid ((.int .i64 xS:Value)=u):=⟨_,rfl⟩;rw[uq H7]at g7;obtain⟨u8,H8⟩:∃ u:Value,Hid ((.int .i64 yS:Value)=u):=⟨_,rfl⟩;rw[uq H8]at g8;obtain⟨W1,W2,W3,W4,W5,W6,W7,W8,W9,y0,y1,y2,y3,y4,y5,y6,y7,y8,hb9,hq9,hz9,ho9,ht9,hp9⟩:=zdL (uq HR9) (u0:=u0) (u1:=u1) (u2:=u2) (u3:=u3) (u4:=u4) (u5:=u5) (u6:=u6) (u7:=u7) (u8:=u8) (by rw[<- uq H0,<- uq H1,<- uq H2,<- uq H3,<- uq H4,<- uq H5,<- uq H6,<- uq H7,<- uq H8];simp[Value.oneCell']);have HQ9:=zh hq9;have HKZ:Hid (Keep w W9):=zh (zdM (zck (uq HKWB) (uq HS9).1 (by have:=uq HTB2;have:=uq HTb;omega)) (by have:=uq HTb;omega) hq9 hz9 ho9 ht9 hp9);have r0:W9.cell? ⟨tb,0,none⟩=some u0:=by simp[World.cell?,hb9]
      have r1:W9.cell? ⟨tb,1,none⟩=some u1:=by simp[World.cell?,hb9]
      have r2:W9.cell? ⟨tb,2,none⟩=some u2:=by simp[World.cell?,hb9]
      have r3:W9.cell? ⟨tb,3,none⟩=some u3:=by simp[World.cell?,hb9]
      have r4:W9.cell? ⟨tb,4,none⟩=some u4:=by simp[World.cell?,hb9]
      have r5:W9.cell? ⟨tb,5,none⟩=some u5:=by simp[World.cell?,hb9]
      have r6:W9.cell? ⟨tb,6,none⟩=some u6:=by simp[World.cell?,hb9]
      have r7:W9.cell? ⟨tb,7,none⟩=some u7:=by simp[World.cell?,hb9]
      have r8:W9.cell? ⟨tb,8,none⟩=some u8:=by simp[World.cell?,hb9]
      clear hb9 hq9 hz9 ho9 ht9 hp9;go_wp2_with fail
      refine bodyPost_ret (v:= .tuple #[.agg #[u0,u1,u2,u3,u4,u5,u6,u7,u8],.int .i64 0,.int .i64 0]) ?_ rfl ?_
      ·simp[results,Tryz.results20,go_sem,r0,r1,r2,r3,r4,r5,r6,r7,r8]
      ·obtain rfl:=uq H0;obtain rfl:=uq H1;obtain rfl:=uq H2;obtain rfl:=uq H3;obtain rfl:=uq H4;obtain rfl:=uq H5;obtain rfl:=uq H6;obtain rfl:=uq H7;obtain rfl:=uq H8;have eN:=uq HPN;have hX9:=uq HX9e;rw[hX9]at eN;simp only[fstE]at eN;rw[eN];have hcs:cE= [dI n1,dI n2,dI n3,dI n5,dI m5,.row 45 7 L6,.row 48 6 (LS'),dI xS,dI yS]:=by
        obtain⟨c0,r0',h0,h1⟩:=(uq HG9) cE rE hX9;rw[<- uq HX0]at h0;simp only[Except.ok.injEq,Prod.mk.injEq]at h0;rw[h1,<- h0.1];rfl
       refine⟨uq HKZ,n1,n2,n3,n5,m5,a6,n6,cap6,_,_,_,xS,yS,rfl,?_⟩;show Rds W9 cE _ _;rw[hcs];have hm:∀(d:D) (u:Value),Rd v8 d (λi=>gb<i) u->Rd W9 d (λi=>w.heap.size<=i) u:=λd u hd=>Rd.move _ _ _ _ hd (λi hi _=>⟨(uq HQ9) i (by have:=uq HTB2;have:=uq HBG;omega),by have:=uq HTB2;have:=uq HTb;have:=uq HBG;omega⟩)
       exact zaT _ (zaT _ (zaT _ (zaT _ (zaT _ (zcC (hm _ _ (uq HRN9)) (zcC (hm _ _ (uq HRP9)) (zaT _ (zaT _ (za2 _ _)))))))))
    ·have fk:(tF.k !=0)=true:=by simpa using hkF
     have hen:=zfR (X:=X8) hkF hF2;rw[uq HX9]at hen;have HEN:=zh hen;clear hen hF1 hF2 hkF;generalize tF.k=kF at tk0 fk;go_wp2_with fail
     (refine(zdd (Y:=zaz X8) 50 (by decide) (uq HS8).2).mono ?_;rintro e w10 ⟨rfl,hf,hs⟩;have HS9:Hid (SF wB b (zaz X9) w10):=zh ⟨(uq HS8).1.trans hf,by rw[(uq HEN).1];exact hs⟩;have HB9:=zh ((uq HB8).fr hf (by have:=uq HBG;omega));have HR9:=zh ((hf.block tb (Nat.lt_trans (by have:=uq HTB2;have:=uq HBG;omega) (uq HB8).lt) (by have:=uq HTB2;omega)).trans (uq HR8));have HRN9:=zh (zc2 (uq HBG) hf (uq HRN));have HRP9:=zh (zc2 (uq HBG) hf (uq HRP));clear hf hs);have HG9:=zh ((uq HG8).trans (uq HEN).2);clear cF tk0 fk
     go_upto_region 22 with fail
     cases hX9:X9 with
     |error x=>
      rw[hX9]at HS9;obtain⟨adE,capE,tE,rE,hE1,hE2⟩:=(uq HS9).2.dead;have ce:=hE1.c1;have cp:=hE1.c2;have ne:(x.1 !=0)=true:=by simpa using hE2
      have HCE:=zh (show w10.drew.cell? ⟨b,1,none⟩=some (.int .i64 x.1)/\w10.drew.cell? ⟨b,2,none⟩=some (.int .i64 x.2)from⟨ce,cp⟩);clear hE1 hE2 cp;have dt2:w10.drew.heap[tb]? =some (.cells #[.int .i64 0,.int .i64 0,.int .i64 0,.int .i64 0,.int .i64 0,.slice none 0 0,.slice none 0 0,.int .i64 0,.int .i64 0] 27 (0,0)):=uq HR9;have r0:w10.drew.cell? ⟨tb,0,none⟩=some (.int .i64 0):=by simp[World.cell?,dt2]
      have f0:w10.drew.frozen? ⟨tb,0,none⟩=false:=by simp[World.frozen?,dt2]
      have e0:w10.drew.setCell ⟨tb,0,none⟩ (.int .i64 0)=w10.drew:=zaJ dt2 rfl;have r1:w10.drew.cell? ⟨tb,1,none⟩=some (.int .i64 0):=by simp[World.cell?,dt2]
      have f1:w10.drew.frozen? ⟨tb,1,none⟩=false:=by simp[World.frozen?,dt2]
      have e1:w10.drew.setCell ⟨tb,1,none⟩ (.int .i64 0)=w10.drew:=zaJ dt2 rfl;have r2:w10.drew.cell? ⟨tb,2,none⟩=some (.int .i64 0):=by simp[World.cell?,dt2]
      have f2:w10.drew.frozen? ⟨tb,2,none⟩=false:=by simp[World.frozen?,dt2]
      have e2:w10.drew.setCell ⟨tb,2,none⟩ (.int .i64 0)=w10.drew:=zaJ dt2 rfl;have r3:w10.drew.cell? ⟨tb,3,none⟩=some (.int .i64 0):=by simp[World.cell?,dt2]
      have f3:w10.drew.frozen? ⟨tb,3,none⟩=false:=by simp[World.frozen?,dt2]
      have e3:w10.drew.setCell ⟨tb,3,none⟩ (.int .i64 0)=w10.drew:=zaJ dt2 rfl;have r4:w10.drew.cell? ⟨tb,4,none⟩=some (.int .i64 0):=by simp[World.cell?,dt2]
      have f4:w10.drew.frozen? ⟨tb,4,none⟩=false:=by simp[World.frozen?,dt2]
      have e4:w10.drew.setCell ⟨tb,4,none⟩ (.int .i64 0)=w10.drew:=zaJ dt2 rfl;have r5:w10.drew.cell? ⟨tb,5,none⟩=some (.slice none 0 0):=by simp[World.cell?,dt2]
      have f5:w10.drew.frozen? ⟨tb,5,none⟩=false:=by simp[World.frozen?,dt2]
      have e5:w10.drew.setCell ⟨tb,5,none⟩ (.slice none 0 0)=w10.drew:=zaJ dt2 rfl;have r6:w10.drew.cell? ⟨tb,6,none⟩=some (.slice none 0 0):=by simp[World.cell?,dt2]
      have f6:w10.drew.frozen? ⟨tb,6,none⟩=false:=by simp[World.frozen?,dt2]
      have e6:w10.drew.setCell ⟨tb,6,none⟩ (.slice none 0 0)=w10.drew:=zaJ dt2 rfl;have r7:w10.drew.cell? ⟨tb,7,none⟩=some (.int .i64 0):=by simp[World.cell?,dt2]
      have f7:w10.drew.frozen? ⟨tb,7,none⟩=false:=by simp[World.frozen?,dt2]
      have e7:w10.drew.setCell ⟨tb,7,none⟩ (.int .i64 0)=w10.drew:=zaJ dt2 rfl;have r8:w10.drew.cell? ⟨tb,8,none⟩=some (.int .i64 0):=by simp[World.cell?,dt2]
      have f8:w10.drew.frozen? ⟨tb,8,none⟩=false:=by simp[World.frozen?,dt2]
      have e8:w10.drew.setCell ⟨tb,8,none⟩ (.int .i64 0)=w10.drew:=zaJ dt2 rfl;have HV9:Hid (Keep w w10.drew):=zh (Keep.drew (zck (uq HKWB) (uq HS9).1 (by have:=uq HTB2;have:=uq HTb;omega)));clear dt2;go_wp2_with fail
      refine wp_region_held_drew (S:=λw'=>w'.cell? ⟨b,1,none⟩=some (.int .i64 x.1)/\w'.cell? ⟨b,2,none⟩=some (.int .i64 x.2)) (by kernel_rfl) (by exact uq HCE) (λzH=>?_);refine tk6 0 86 1 87 2 88 3 89 4 90 5 91 zH ?_;try simp only[Yq]
      refine tk3 6 92 7 93 8 94 zH ?_;try simp only[Yq]
      generalize w10.drew=w12 at HV9 HCE r0 f0 e0 r1 f1 e1 r2 f2 e2 r3 f3 e3 r4 f4 e4 r5 f5 e5 r6 f6 e6 r7 f7 e7 r8 f8 e8 |-;refine zaq 9 (λK hK=>?_);go_simp;clear zH;refine hK.out _ _ ?_ (λzH=>?_)
      ·exact uq HCE
      clear hK K;try simp only[Yq]
      refine tk2 10 3 11 4 zH ?_;try simp only[Yq]
      refine wpAnyH_done (by kernel_rfl) ?_ _;clear zH;go_wp2_with fail
      refine bodyPost_ret (v:= .tuple #[.agg #[.int .i64 0,.int .i64 0,.int .i64 0,.int .i64 0,.int .i64 0,.slice none 0 0,.slice none 0 0,.int .i64 0,.int .i64 0],.int .i64 x.1,.int .i64 x.2]) ?_ rfl ?_
      ·simp[results,Tryz.results20,go_sem,r0,r1,r2,r3,r4,r5,r6,r7,r8]
      ·have eN:=uq HPN;rw[hX9]at eN;simp only[fstE]at eN;rw[eN];exact⟨uq HV9,0,0,0,0,0,none,0,0,none,0,0,0,0,rfl,rfl,rfl,rfl,rfl,rfl,rfl,rfl,rfl,rfl,rfl,rfl,rfl,rfl⟩
     |ok qE=>
      obtain⟨cE,rE⟩:=qE;have HX9e:=zh hX9;rw[hX9]at HS9;obtain⟨adE,capE,pE,tE,rE',eE,hE1⟩:=Sr.alive (r:=rE) (uq HS9).2;have ce:=hE1.c1;clear hE1 eE hX9;have g0:=((uq HB9) 0 _ rfl).1;have g1:=((uq HB9) 1 _ rfl).1;have g2:=((uq HB9) 2 _ rfl).1;have g3:=((uq HB9) 3 _ rfl).1;have g4:=((uq HB9) 4 _ rfl).1;have g5:=((uq HB9) 5 _ rfl).1;have g6:=((uq HB9) 6 _ rfl).1;have g7:=((uq HB9) 7 _ rfl).1;have g8:=((uq HB9) 8 _ rfl).1;obtain⟨u0,H0⟩:∃ u:Value,Hid ((.int .i64 n1:Value)=u):=⟨_,rfl⟩;rw[uq H0]at g0;obtain⟨u1,H1⟩:∃ u:Value,Hid ((.int .i64 n2:Value)=u):=⟨_,rfl⟩;rw[uq H1]at g1;obtain⟨u2,H2⟩:∃ u:Value,Hid ((.int .i64 n3:Value)=u):=⟨_,rfl⟩;rw[uq H2]at g2;obtain⟨u3,H3⟩:∃ u:Value,Hid ((.int .i64 n5:Value)=u):=⟨_,rfl⟩;rw[uq H3]at g3;obtain⟨u4,H4⟩:∃ u:Value,Hid ((.int .i64 m5:Value)=u):=⟨_,rfl⟩;rw[uq H4]at g4;obtain⟨u5,H5⟩:∃ u:Value,Hid ((.slice a6 n6 cap6:Value)=u):=⟨_,rfl⟩;rw[uq H5]at g5;obtain⟨u6,H6⟩:∃ u:Value,Hid ((.slice aS nS cS:Value)=u):=⟨_,rfl⟩;rw[uq H6]at g6;obtain⟨u7,H7⟩:∃ u:Value,Hid ((.int .i64 xS:Value)=u):=⟨_,rfl⟩;rw[uq H7]at g7;obtain⟨u8,H8⟩:∃ u:Value,Hid ((.int .i64 yS:Value)=u):=⟨_,rfl⟩;rw[uq H8]at g8;obtain⟨W1,W2,W3,W4,W5,W6,W7,W8,W9,y0,y1,y2,y3,y4,y5,y6,y7,y8,hb9,hq9,hz9,ho9,ht9,hp9⟩:=zdL (uq HR9) (u0:=u0) (u1:=u1) (u2:=u2) (u3:=u3) (u4:=u4) (u5:=u5) (u6:=u6) (u7:=u7) (u8:=u8) (by rw[<- uq H0,<- uq H1,<- uq H2,<- uq H3,<- uq H4,<- uq H5,<- uq H6,<- uq H7,<- uq H8];simp[Value.oneCell']);have HQ9:=zh hq9;have HKZ:Hid (Keep w W9):=zh (zdM (zck (uq HKWB) (uq HS9).1 (by have:=uq HTB2;have:=uq HTb;omega)) (by have:=uq HTb;omega) hq9 hz9 ho9 ht9 hp9);have r0:W9.cell? ⟨tb,0,none⟩=some u0:=by simp[World.cell?,hb9]
      have r1:W9.cell? ⟨tb,1,none⟩=some u1:=by simp[World.cell?,hb9]
      have r2:W9.cell? ⟨tb,2,none⟩=some u2:=by simp[World.cell?,hb9]
      have r3:W9.cell? ⟨tb,3,none⟩=some u3:=by simp[World.cell?,hb9]
      have r4:W9.cell? ⟨tb,4,none⟩=some u4:=by simp[World.cell?,hb9]
      have r5:W9.cell? ⟨tb,5,none⟩=some u5:=by simp[World.cell?,hb9]
      have r6:W9.cell? ⟨tb,6,none⟩=some u6:=by simp[World.cell?,hb9]
      have r7:W9.cell? ⟨tb,7,none⟩=some u7:=by simp[World.cell?,hb9]
      have r8:W9.cell? ⟨tb,8,none⟩=some u8:=by simp[World.cell?,hb9]
      clear hb9 hq9 hz9 ho9 ht9 hp9;go_wp2_with fail
      refine bodyPost_ret (v:= .tuple #[.agg #[u0,u1,u2,u3,u4,u5,u6,u7,u8],.int .i64 0,.int .i64 0]) ?_ rfl ?_
      ·simp[results,Tryz.results20,go_sem,r0,r1,r2,r3,r4,r5,r6,r7,r8]
      ·obtain rfl:=uq H0;obtain rfl:=uq H1;obtain rfl:=uq H2;obtain rfl:=uq H3;obtain rfl:=uq H4;obtain rfl:=uq H5;obtain rfl:=uq H6;obtain rfl:=uq H7;obtain rfl:=uq H8;have eN:=uq HPN;have hX9:=uq HX9e;rw[hX9]at eN;simp only[fstE]at eN;rw[eN];have hcs:cE= [dI n1,dI n2,dI n3,dI n5,dI m5,.row 45 7 L6,.row 48 6 (LS'),dI xS,dI yS]:=by
        obtain⟨c0,r0',h0,h1⟩:=(uq HG9) cE rE hX9;rw[<- uq HX0]at h0;simp only[Except.ok.injEq,Prod.mk.injEq]at h0;rw[h1,<- h0.1];rfl
       refine⟨uq HKZ,n1,n2,n3,n5,m5,a6,n6,cap6,_,_,_,xS,yS,rfl,?_⟩;show Rds W9 cE _ _;rw[hcs];have hm:∀(d:D) (u:Value),Rd w10 d (λi=>gb<i) u->Rd W9 d (λi=>w.heap.size<=i) u:=λd u hd=>Rd.move _ _ _ _ hd (λi hi _=>⟨(uq HQ9) i (by have:=uq HTB2;have:=uq HBG;omega),by have:=uq HTB2;have:=uq HTb;have:=uq HBG;omega⟩)
       exact zaT _ (zaT _ (zaT _ (zaT _ (zaT _ (zcC (hm _ _ (uq HRN9)) (zcC (hm _ _ (uq HRP9)) (zaT _ (zaT _ (za2 _ _)))))))))
end Q
end Go.Proofs.YthceiikgecoimaaGreatDoor
