/- Yellow, Red and Flash, the program's and the document's; the chapter's examples. -/
import Derived.Test.YtpmaonkelkmhbaaGreatKClr
import Derived.Test.YtpmaonkelkmhbaaGreatFracV
import Derived.Test.YtpmaonkelkmhbaaGreatWholeQ
import Derived.LoopTactic
import Derived.Deep.DeepCutAuto
import Derived.Deep.DrawnRows
namespace Go.Proofs.YtpmaonkelkmhbaaGreat
open Go.RowKit
set_option linter.unusedVariables false
set_option linter.unusedSimpArgs false
set_option maxRecDepth 10000
theorem zpg (W:World) (b:Nat) (x0 x1 x2 y0 y1 y2:Int) (hb:b<W.heap.size) (h0:W.cell? ⟨b,0,none⟩=some (.int .i64 x0)) (h1:W.cell? ⟨b,1,none⟩=some (.int .i64 x1)) (h2:W.cell? ⟨b,2,none⟩=some (.int .i64 x2))
  (h3:W.cell? ⟨b,3,none⟩=some (.int .i64 y0)) (h4:W.cell? ⟨b,4,none⟩=some (.int .i64 y1)) (h5:W.cell? ⟨b,5,none⟩=some (.int .i64 y2)):
  Bds W ⟨b,0,none⟩ 2 (fun k=>if k=0 then(x0,x1,x2)else(y0,y1,y2)):=by
 refine⟨hb,fun k hk=>?_⟩;rcases(show k=0∨k=1 by omega)with rfl|rfl
 ·exact⟨h0,h1,h2⟩
 ·exact⟨h3,h4,h5⟩
theorem zph (W:World) (b:Nat) (x0 x1 x2 y0 y1 y2 z0 z1 z2:Int) (hb:b<W.heap.size) (h0:W.cell? ⟨b,0,none⟩=some (.int .i64 x0)) (h1:W.cell? ⟨b,1,none⟩=some (.int .i64 x1)) (h2:W.cell? ⟨b,2,none⟩=some (.int .i64 x2))
  (h3:W.cell? ⟨b,3,none⟩=some (.int .i64 y0)) (h4:W.cell? ⟨b,4,none⟩=some (.int .i64 y1)) (h5:W.cell? ⟨b,5,none⟩=some (.int .i64 y2))
  (h6:W.cell? ⟨b,6,none⟩=some (.int .i64 z0)) (h7:W.cell? ⟨b,7,none⟩=some (.int .i64 z1)) (h8:W.cell? ⟨b,8,none⟩=some (.int .i64 z2)):
  Bds W ⟨b,0,none⟩ 3 (fun k=>if k=0 then(x0,x1,x2)else if k=1 then(y0,y1,y2)else(z0,z1,z2)):=by
 refine⟨hb,fun k hk=>?_⟩;rcases(show k=0∨k=1∨k=2 by omega)with rfl|rfl|rfl
 ·exact⟨h0,h1,h2⟩
 ·exact⟨h3,h4,h5⟩
 ·exact⟨h6,h7,h8⟩
theorem zg7 (b cap:Nat) (x0 x1 x2 y0 y1 y2:Int) (r:Bool) (W:World) (hb:b<W.heap.size) (h0:W.cell? ⟨b,0,none⟩=some (.int .i64 x0)) (h1:W.cell? ⟨b,1,none⟩=some (.int .i64 x1)) (h2:W.cell? ⟨b,2,none⟩=some (.int .i64 x2))
  (h3:W.cell? ⟨b,3,none⟩=some (.int .i64 y0)) (h4:W.cell? ⟨b,4,none⟩=some (.int .i64 y1)) (h5:W.cell? ⟨b,5,none⟩=some (.int .i64 y2)) (hr:r=decide ((x1≤x0∧x0≤x2)∧y1≤y0∧y0≤y2)):
  Calls Tryz.prog 82 #[.slice (some ⟨b,0,none⟩) 2 cap] W fun e w'=>e= .returned (.bool r)∧Keep W w':=by
 refine zcU _ 2 cap _ r W (by omega) (hide (zpg W b x0 x1 x2 y0 y1 y2 hb h0 h1 h2 h3 h4 h5)) ?_ ?_
 ·intro k hk h
  rcases(show k=0∨k=1 by omega)with rfl|rfl<;>simp at h<;>rw[hr]<;>simp<;>omega
 ·intro h
  have q0:=h 0 (by omega);have q1:=h 1 (by omega);simp at q0 q1;rw[hr];simp;omega
theorem zll (b cap:Nat) (x0 x1 x2 y0 y1 y2 z0 z1 z2:Int) (r:Bool) (W:World) (hb:b<W.heap.size) (h0:W.cell? ⟨b,0,none⟩=some (.int .i64 x0)) (h1:W.cell? ⟨b,1,none⟩=some (.int .i64 x1)) (h2:W.cell? ⟨b,2,none⟩=some (.int .i64 x2))
  (h3:W.cell? ⟨b,3,none⟩=some (.int .i64 y0)) (h4:W.cell? ⟨b,4,none⟩=some (.int .i64 y1)) (h5:W.cell? ⟨b,5,none⟩=some (.int .i64 y2))
  (h6:W.cell? ⟨b,6,none⟩=some (.int .i64 z0)) (h7:W.cell? ⟨b,7,none⟩=some (.int .i64 z1)) (h8:W.cell? ⟨b,8,none⟩=some (.int .i64 z2)) (hr:r=decide ((x1≤x0∧x0≤x2)∧(y1≤y0∧y0≤y2)∧z1≤z0∧z0≤z2)):
  Calls Tryz.prog 82 #[.slice (some ⟨b,0,none⟩) 3 cap] W fun e w'=>e= .returned (.bool r)∧Keep W w':=by
 refine zcU _ 3 cap _ r W (by omega) (hide (zph W b x0 x1 x2 y0 y1 y2 z0 z1 z2 hb h0 h1 h2 h3 h4 h5 h6 h7 h8)) ?_ ?_
 ·intro k hk h
  rcases(show k=0∨k=1∨k=2 by omega)with rfl|rfl|rfl<;>simp at h<;>rw[hr]<;>simp<;>omega
 ·intro h
  have q0:=h 0 (by omega);have q1:=h 1 (by omega);have q2:=h 2 (by omega);simp at q0 q1 q2;rw[hr];simp;omega
set_option maxHeartbeats 1000000 in
theorem zfQ (s g:Int) (w:World):
  Calls Tryz.prog 59 #[.int .i64 s,.int .i64 g] w fun e w'=>e= .returned (.tuple #[.int .i64 (yN s g),.int .i64 (yE s g)])∧Keep w w':=by
 have W2:=hide zg7;have CU:=hide zet;by_cases h:yK s g=true
 ·have hyN:yN s g=up (10000 * s+10 * (610000+1962 * g)) (610000+1962 * g):=by
   have hd:1≤s∧s≤10000∧ -200≤g∧g≤200:=by simpa [yK]using h
   unfold yN;rw[if_pos h,zng (by omega)];omega
  have hyE:yE s g=0:=by unfold yE;rw[if_pos h]
  rw[hyN,hyE];have hd:1≤s∧s≤10000∧ -200≤g∧g≤200:=by simpa [yK]using h
  obtain⟨d1,d2,d3,d4⟩:=hd;clear hyN hyE h;go_enter Tryz.func59,Tryz.ntmps59;go_wp2_with fail
  (refine((uq W2) _ _ s 1 10000 g (-200) 200 true _ (by simp[go_sem]) (by simp[go_sem]) (by simp[go_sem]) (by simp[go_sem]) (by simp[go_sem]) (by simp[go_sem]) (by simp[go_sem]) (by simp;omega)).mono ?_;rintro e w2 ⟨rfl,hk⟩);have m1:wrap64 (1962 * g)=1962 * g:=za3 (by omega);have m2:wrap64 (610000+1962 * g)=610000+1962 * g:=za3 (by omega);have m3:wrap64 (10000 * s)=10000 * s:=za3 (by omega);have m4:wrap64 (10 * (610000+1962 * g))=10 * (610000+1962 * g):=za3 (by omega);have m5:wrap64 (10000 * s+10 * (610000+1962 * g))=10000 * s+10 * (610000+1962 * g):=za3 (by omega);go_wp2_with fail
  (refine((uq CU) _ _ _ (by omega) (by omega) (by omega) (by omega)).mono ?_;rintro e w3 ⟨rfl,rfl⟩);go_wp2_with fail
  go_ret2;exact⟨rfl,Keep.trans ((Keep.refl w).alloc _) hk⟩
 ·have hyN:yN s g=0:=by unfold yN;rw[if_neg h]
  have hyE:yE s g=1:=by unfold yE;rw[if_neg h]
  rw[hyN,hyE];have hd:¬(1≤s∧s≤10000∧ -200≤g∧g≤200):=by simpa [yK]using h
  have HD:=hide hd;clear hyN hyE h hd;go_enter Tryz.func59,Tryz.ntmps59;go_wp2_with fail
  (refine((uq W2) _ _ s 1 10000 g (-200) 200 false _ (by simp[go_sem]) (by simp[go_sem]) (by simp[go_sem]) (by simp[go_sem]) (by simp[go_sem]) (by simp[go_sem]) (by simp[go_sem]) (by have:=uq HD;simp;omega)).mono ?_;rintro e w2 ⟨rfl,hk⟩);go_wp2_with fail
  go_ret2;exact⟨rfl,Keep.trans ((Keep.refl w).alloc _) hk⟩
set_option maxHeartbeats 1000000 in
theorem zlm (a b s:Int) (w:World):
  Calls Tryz.prog 60 #[.int .i64 a,.int .i64 b,.int .i64 s] w fun e w'=>e= .returned (.tuple #[.int .i64 (rN a b s),.int .i64 (rE a b s)])∧Keep w w':=by
 have W2:=hide zll;have CU:=hide zet;by_cases h:rK a b s=true
 ·have hyN:rN a b s=up (10 * (a+b)) s:=by unfold rN;rw[if_pos h]
  have hyE:rE a b s=0:=by unfold rE;rw[if_pos h]
  rw[hyN,hyE];have hd:0≤a∧a≤100000∧0≤b∧b≤100000∧1≤s∧s≤10000:=by simpa [rK]using h
  obtain⟨d1,d2,d3,d4,d5,d6⟩:=hd;clear hyN hyE h;go_enter Tryz.func60,Tryz.ntmps60;go_wp2_with fail
  (refine((uq W2) _ _ a 0 100000 b 0 100000 s 1 10000 true _ (by simp[go_sem]) (by simp[go_sem]) (by simp[go_sem]) (by simp[go_sem]) (by simp[go_sem]) (by simp[go_sem]) (by simp[go_sem]) (by simp[go_sem]) (by simp[go_sem]) (by simp[go_sem]) (by simp;omega)).mono ?_;rintro e w2 ⟨rfl,hk⟩);have m1:wrap64 (a+b)=a+b:=za3 (by omega);have m2:wrap64 (10 * (a+b))=10 * (a+b):=za3 (by omega);go_wp2_with fail
  (refine((uq CU) _ _ _ (by omega) (by omega) (by omega) (by omega)).mono ?_;rintro e w3 ⟨rfl,rfl⟩);go_wp2_with fail
  go_ret2;exact⟨rfl,Keep.trans ((Keep.refl w).alloc _) hk⟩
 ·have hyN:rN a b s=0:=by unfold rN;rw[if_neg h]
  have hyE:rE a b s=1:=by unfold rE;rw[if_neg h]
  rw[hyN,hyE];have hd:¬(0≤a∧a≤100000∧0≤b∧b≤100000∧1≤s∧s≤10000):=by simpa [rK]using h
  have HD:=hide hd;clear hyN hyE h hd;go_enter Tryz.func60,Tryz.ntmps60;go_wp2_with fail
  (refine((uq W2) _ _ a 0 100000 b 0 100000 s 1 10000 false _ (by simp[go_sem]) (by simp[go_sem]) (by simp[go_sem]) (by simp[go_sem]) (by simp[go_sem]) (by simp[go_sem]) (by simp[go_sem]) (by simp[go_sem]) (by simp[go_sem]) (by simp[go_sem]) (by have:=uq HD;simp;omega)).mono ?_;rintro e w2 ⟨rfl,hk⟩);go_wp2_with fail
  go_ret2;exact⟨rfl,Keep.trans ((Keep.refl w).alloc _) hk⟩
set_option maxHeartbeats 1000000 in
theorem zg8 (a s:Int) (w:World):
  Calls Tryz.prog 79 #[.int .i64 a,.int .i64 s] w fun e w'=>e= .returned (.tuple #[.int .i64 (fN a s),.int .i64 (fE a s)])∧Keep w w':=by
 have W2:=hide zg7;have CU:=hide zet;by_cases h:fK a s=true
 ·have hyN:fN a s=up (10 * a) s:=by unfold fN;rw[if_pos h]
  have hyE:fE a s=0:=by unfold fE;rw[if_pos h]
  rw[hyN,hyE];have hd:1≤a∧a≤100000∧1≤s∧s≤10000:=by simpa [fK]using h
  obtain⟨d1,d2,d5,d6⟩:=hd;clear hyN hyE h;go_enter Tryz.func79,Tryz.ntmps79;go_wp2_with fail
  (refine((uq W2) _ _ a 1 100000 s 1 10000 true _ (by simp[go_sem]) (by simp[go_sem]) (by simp[go_sem]) (by simp[go_sem]) (by simp[go_sem]) (by simp[go_sem]) (by simp[go_sem]) (by simp;omega)).mono ?_;rintro e w2 ⟨rfl,hk⟩);have m2:wrap64 (10 * a)=10 * a:=za3 (by omega);go_wp2_with fail
  (refine((uq CU) _ _ _ (by omega) (by omega) (by omega) (by omega)).mono ?_;rintro e w3 ⟨rfl,rfl⟩);go_wp2_with fail
  go_ret2;exact⟨rfl,Keep.trans ((Keep.refl w).alloc _) hk⟩
 ·have hyN:fN a s=0:=by unfold fN;rw[if_neg h]
  have hyE:fE a s=1:=by unfold fE;rw[if_neg h]
  rw[hyN,hyE];have hd:¬(1≤a∧a≤100000∧1≤s∧s≤10000):=by simpa [fK]using h
  have HD:=hide hd;clear hyN hyE h hd;go_enter Tryz.func79,Tryz.ntmps79;go_wp2_with fail
  (refine((uq W2) _ _ a 1 100000 s 1 10000 false _ (by simp[go_sem]) (by simp[go_sem]) (by simp[go_sem]) (by simp[go_sem]) (by simp[go_sem]) (by simp[go_sem]) (by simp[go_sem]) (by have:=uq HD;simp;omega)).mono ?_;rintro e w2 ⟨rfl,hk⟩);go_wp2_with fail
  go_ret2;exact⟨rfl,Keep.trans ((Keep.refl w).alloc _) hk⟩
end Go.Proofs.YtpmaonkelkmhbaaGreat
namespace Go.Proofs.YtpmaonkelkmhbaaGreat
open Go.RowKit
set_option linter.unusedVariables false
set_option maxRecDepth 10000
set_option maxHeartbeats 1000000 in
theorem zil (n d n2 d2 x y x2 y2 v:Int) (w:World) (Cn:Int→Int→Int→Int→Prop) (K1:Cn n d x y) (K2:Cn n2 d2 x2 y2)
  (T1:Hid (∀(n d x y:Int),Cn n d x y→∀ w,Calls Tryz.prog 77 #[.agg #[.int .i64 n,.int .i64 d]] w fun e w'=>e= .returned (.agg #[.int .i64 x,.int .i64 y])∧Keep w w'))
  (T2:Hid (∀ w,Calls Tryz.prog 100 #[.int .i64 x,.int .i64 y2,.int .i64 x2,.int .i64 y] w fun e w'=>e= .returned (.int .i64 v)∧Keep w w')):
  Calls Tryz.prog 78 #[.agg #[.int .i64 n,.int .i64 d],.agg #[.int .i64 n2,.int .i64 d2]] w fun e w'=>e= .returned (.int .i64 v)∧Keep w w':=by
 go_enter Tryz.func78,Tryz.ntmps78
 go_upto_region 1 with fail
 go_cut [] (fun wc=>Keep ((w.alloc (.cells #[.int .i64 x,.int .i64 y] 23)).alloc (.cells #[.int .i64 x2,.int .i64 y2] 23)) wc)
 case first=>
  go_region_with (go_at_call 77;refine((uq T1) _ _ _ _ (by assumption) _).mono ?_;rintro e w2 ⟨rfl,hk⟩;obtain⟨o1,k1,rfl⟩:=hk.ext;clear hk)
  all_goals
   go_wp2_with fail
   go_meet;exact by repeat(first|apply zaa|apply Keep.drew|exact Keep.refl _)
 case rest=>
  obtain⟨o2,k2,rfl⟩:=hcut.ext;clear hcut;go_wp2_with fail
  (refine((uq T2) _).mono ?_;rintro e w2 ⟨rfl,hk⟩;obtain⟨o3,k3,rfl⟩:=hk.ext;clear hk);go_wp2_with fail
  go_ret;exact⟨rfl,by repeat(first|apply zaa|apply Keep.alloc|apply Keep.drew|(refine zic _ _ _ (by omega) ?_)|assumption|exact Keep.refl _)⟩
theorem zim (n d n2 d2:Int) (w:World) (h1: -9223372036854775808≤n) (h2:n≤9223372036854775807) (h3: -9223372036854775808≤d) (h4:d≤9223372036854775807) (k1: -9223372036854775808≤n2) (k2:n2≤9223372036854775807) (k3: -9223372036854775808≤d2) (k4:d2≤9223372036854775807):
  Calls Tryz.prog 78 #[.agg #[.int .i64 n,.int .i64 d],.agg #[.int .i64 n2,.int .i64 d2]] w fun e w'=>e= .returned (.int .i64 (cm (cn n d * cd n2 d2) (cn n2 d2 * cd n d)))∧Keep w w':=by
 obtain⟨r1,r2,r3,r4,r5⟩:=zbi n d h1 h2 h4;obtain⟨s1,s2,s3,s4,s5⟩:=zbi n2 d2 k1 k2 k4;exact zil n d n2 d2 _ _ _ _ _ w (fun n d x y=>∀ w,Calls Tryz.prog 77 #[.agg #[.int .i64 n,.int .i64 d]] w fun e w'=>e= .returned (.agg #[.int .i64 x,.int .i64 y])∧Keep w w')
  (fun w=>zbr n d w h1 h2 h3 h4) (fun w=>zbr n2 d2 w k1 k2 k3 k4) (hide fun n d x y h=>h) (hide fun w=>zek _ _ _ _ w r3 r4 (by omega) s5 s3 s4 (by omega) r5)
end Go.Proofs.YtpmaonkelkmhbaaGreat
namespace Go.Proofs.YtpmaonkelkmhbaaGreat
open Go.RowKit
attribute [local go_sem ↓] Go.wp_at_zero Go.wp_at_succ
set_option linter.unusedVariables false
set_option linter.unusedSimpArgs false
set_option maxRecDepth 10000
def adN (t f:Int×Int):Int:=cn t.1 t.2 * cd f.1 f.2+cn f.1 f.2 * cd t.1 t.2
def adD (t f:Int×Int):Int:=cd t.1 t.2 * cd f.1 f.2
def adX (t f:Int×Int):Int:=pN (rn (adN t f) (adD t f)) (rd (adN t f) (adD t f))
def adY (t f:Int×Int):Int:=pD (rn (adN t f) (adD t f)) (rd (adN t f) (adD t f))
def adE (t f:Int×Int):Int:=pE (rn (adN t f) (adD t f)) (rd (adN t f) (adD t f))
def sm (t:Int×Int):List (Int×Int)→Int×Int×Int
 | []=>(t.1,t.2,0)
 |f :: r=>if adE t f=0 then sm (adX t f,adY t f) r else(0,0,adE t f)
def mx (t:Int×Int):List (Int×Int)→Int×Int
 | []=>t
 |f :: r=>if 0<cm (cn f.1 f.2 * cd t.1 t.2) (cn t.1 t.2 * cd f.1 f.2)then mx (cn f.1 f.2,cd f.1 f.2) r else mx t r
theorem ze5 {L:List (Int×Int)} {k:Nat} (h:k<L.length):L.drop k=L.getD k (0,0) :: L.drop (k+1):=by
 rw[List.drop_eq_getElem_cons h,List.getD_eq_getElem?_getD,List.getElem?_eq_getElem h]
 rfl
theorem znh {t:Int×Int} {L:List (Int×Int)} {k:Nat} (h:k<L.length) (he:0<cm (cn (L.getD k (0,0)).1 (L.getD k (0,0)).2 * cd t.1 t.2) (cn t.1 t.2 * cd (L.getD k (0,0)).1 (L.getD k (0,0)).2)):mx t (L.drop k)=mx (cn (L.getD k (0,0)).1 (L.getD k (0,0)).2,cd (L.getD k (0,0)).1 (L.getD k (0,0)).2) (L.drop (k+1)):=by
 rw[ze5 h];show(if _ then _ else _)=_;rw[if_pos he]
theorem zoB {t:Int×Int} {L:List (Int×Int)} {k:Nat} (h:k<L.length) (he:¬0<cm (cn (L.getD k (0,0)).1 (L.getD k (0,0)).2 * cd t.1 t.2) (cn t.1 t.2 * cd (L.getD k (0,0)).1 (L.getD k (0,0)).2)):mx t (L.drop k)=mx t (L.drop (k+1)):=by
 rw[ze5 h];show(if _ then _ else _)=_;rw[if_neg he]
theorem zni {t:Int×Int} {L:List (Int×Int)} {k:Nat} (h:L.length≤k):mx t (L.drop k)=t:=by
 rw[List.drop_of_length_le h]
 rfl
def In (x:Int):Prop:= -9223372036854775808≤x∧x≤9223372036854775807
def Fs (w:World) (ad:Addr) (L:List (Int×Int)):Prop:=∀ k,k<L.length→ad.block<w.heap.size∧In (L.getD k (0,0)).1∧In (L.getD k (0,0)).2
 ∧w.cell? (ad.add (k * 2))=some (.int .i64 (L.getD k (0,0)).1)∧w.cell? ⟨(ad.add (k * 2)).block,(ad.add (k * 2)).off+1,none⟩=some (.int .i64 (L.getD k (0,0)).2)
theorem zdd (ad:Addr) (n:Nat):(ad.add n).block=ad.block:=by unfold Addr.add;split<;>rfl
theorem Fs.keep {w w':World} {ad:Addr} {L:List (Int×Int)} (h:Fs w ad L) (hk:Keep w w'):Fs w' ad L:=by
 intro k hlt
 obtain⟨h1,h2,h3,h4,h5⟩:=h k hlt;have hs:=Below.size hk;refine⟨by omega,h2,h3,?_,?_⟩
 ·rw[Below.cell hk (by rw[zdd];exact h1)];exact h4
 ·rw[Below.cell (p:=⟨(ad.add (k * 2)).block,(ad.add (k * 2)).off+1,none⟩) hk (by show(ad.add (k * 2)).block<_;rw[zdd];exact h1)];exact h5
def Ft (w wr:World) (B:Nat) (x y:Int):Prop:=
 Keep w wr∧w.heap.size<wr.heap.size∧w.heap.size<B∧B<wr.heap.size
 ∧wr.cell? ⟨B,0,none⟩=some (.int .i64 x)∧wr.cell? ⟨B,1,none⟩=some (.int .i64 y)∧wr.frozen? ⟨B,0,none⟩=false∧wr.frozen? ⟨B,1,none⟩=false
 ∧wr.cell? ⟨w.heap.size,0,none⟩=some (.int .i64 0)∧wr.cell? ⟨w.heap.size,1,none⟩=some (.int .i64 0)∧wr.frozen? ⟨w.heap.size,0,none⟩=false∧wr.frozen? ⟨w.heap.size,1,none⟩=false
theorem zg9 {a w:World} (B i:Nat) (v:Value) (hB:a.heap.size<B) (h:Keep a w):Keep a (w.setCell ⟨B,i,none⟩ v):=Below.setCell h (Nat.le_of_lt hB) v
theorem zha {a w:World} (i:Nat) (v:Value) (h:Keep a w):Keep a (w.setCell ⟨a.heap.size,i,none⟩ v):=Below.setCell h (Nat.le_refl _) v
namespace AX
theorem zln {w wr wc:World} {B:Nat} {x y:Int} (h:Ft w wr B x y) (hk:Keep wr wc):Ft w wc B x y:=by
 obtain⟨h1,h2,h3,h4,h5,h6,h7,h8,h9,h10,h11,h12⟩:=h;have hs:=Below.size hk;refine⟨h1.trans hk,by omega,h3,by omega,?_,?_,?_,?_,?_,?_,?_,?_⟩
 ·rw[Below.cell (p:=⟨B,0,none⟩) hk h4];exact h5
 ·rw[Below.cell (p:=⟨B,1,none⟩) hk h4];exact h6
 ·rw[Below.frozen (p:=⟨B,0,none⟩) hk h4];exact h7
 ·rw[Below.frozen (p:=⟨B,1,none⟩) hk h4];exact h8
 ·rw[Below.cell (p:=⟨w.heap.size,0,none⟩) hk h2];exact h9
 ·rw[Below.cell (p:=⟨w.heap.size,1,none⟩) hk h2];exact h10
 ·rw[Below.frozen (p:=⟨w.heap.size,0,none⟩) hk h2];exact h11
 ·rw[Below.frozen (p:=⟨w.heap.size,1,none⟩) hk h2];exact h12
theorem zlo (ad:Addr) (k:Nat):ad.add ((k+1) * 2)=⟨ad.block,ad.off+2+k * 2,none⟩:=by
 unfold Addr.add
 rw[if_neg (by omega)];have:ad.off+(k+1) * 2=ad.off+2+k * 2:=by omega
 rw[this]
def mxA:List (Int×Int)→Int×Int
 | []=>(0,1)
 |f :: r=>mx (cn f.1 f.2,cd f.1 f.2) r
theorem zin {L:List (Int×Int)} (h:0<L.length):mxA L=mx (cn (L.getD 0 (0,0)).1 (L.getD 0 (0,0)).2,cd (L.getD 0 (0,0)).1 (L.getD 0 (0,0)).2) (L.drop 1):=by
 cases L with
 |nil=>simp at h
 |cons f r=>rfl
theorem cn_in {n d:Int} (h1:In n) (h2:In d):In (cn n d)∧In (cd n d):=by
 obtain⟨r1,r2,r3,r4,r5⟩:=zbi n d h1.1 h1.2 h2.2;exact⟨⟨r3,r4⟩,by omega,r5⟩
def gt (f t:Int×Int):Int:=cm (cn f.1 f.2 * cd t.1 t.2) (cn t.1 t.2 * cd f.1 f.2)
set_option maxHeartbeats 400000 in
theorem fmax_nil (a:Option Addr) (cap:Nat) (w:World):Calls Tryz.prog 56 #[.slice a 0 cap] w fun e w'=>e= .returned (.agg #[.int .i64 0,.int .i64 1])∧Keep w w':=by
 go_enter Tryz.func56,Tryz.ntmps56;go_wp2_with fail
 (refine(zc9 _).mono ?_;rintro e w2 ⟨rfl,hk⟩;obtain⟨o1,k1,rfl⟩:=hk.ext;clear hk);go_wp2_with fail
 exact bodyPost_ret (v:= .agg #[.int .i64 0,.int .i64 1]) (by simp[results,Tryz.results56,go_sem]) rfl ⟨rfl,by repeat(first|apply zaa|apply Keep.alloc|apply Keep.drew|exact Keep.refl _)⟩
set_option maxHeartbeats 2000000 in
theorem zhb (ad:Addr) (L:List (Int×Int)) (cap:Nat) (w:World) (hn:L.length≤50) (hn0:0<L.length) (hcap:L.length≤cap) (hcm:cap≤9223372036854775807) (hF:Fs w ad L) (X Y:Int) (HS:Hid (mxA L=(X,Y))) (h2:2≤L.length)
  (CN:Hid (∀(f:Int×Int),In f.1→In f.2→∀ w,Calls Tryz.prog 77 #[.agg #[.int .i64 f.1,.int .i64 f.2]] w fun e w'=>e= .returned (.agg #[.int .i64 (cn f.1 f.2),.int .i64 (cd f.1 f.2)])∧Keep w w'))
  (CM:Hid (∀(f t:Int×Int),In f.1→In f.2→In t.1→In t.2→∀ w,Calls Tryz.prog 78 #[.agg #[.int .i64 f.1,.int .i64 f.2],.agg #[.int .i64 t.1,.int .i64 t.2]] w fun e w'=>e= .returned (.int .i64 (gt f t))∧Keep w w')):
  Calls Tryz.prog 56 #[.slice (some ad) L.length cap] w fun e w'=>e= .returned (.agg #[.int .i64 X,.int .i64 Y])∧Keep w w':=by
 have hq0:=hF 0 hn0;have CN0:=hide (uq CN (L.getD 0 (0,0)) hq0.2.1 hq0.2.2.1);have i0:=cn_in hq0.2.1 hq0.2.2.1;have HS1:Hid (mx (cn (L.getD 0 (0,0)).1 (L.getD 0 (0,0)).2,cd (L.getD 0 (0,0)).1 (L.getD 0 (0,0)).2) (L.drop (0+1))=(X,Y)):=by
  have h:=uq HS;rw[zin hn0]at h;exact hide h
 generalize cn (L.getD 0 (0,0)).1 (L.getD 0 (0,0)).2=t0 at *;generalize cd (L.getD 0 (0,0)).1 (L.getD 0 (0,0)).2=s0 at *;generalize (L.getD 0 (0,0)).1=f0 at *;generalize (L.getD 0 (0,0)).2=g0 at *;obtain⟨_,_,_,q4,q5⟩:=hq0;have ea:ad.add (0 * 2)=ad:=by simp[Addr.add]
 rw[ea]at q4 q5;have hlb:((L.length:Int)==0)=false:=beq_eq_false_iff_ne.2 (by omega);have hl1:(1:Int)≤(L.length:Int):=by omega
 have hc1:¬cap=1:=by omega
 have hc2:¬cap - 1=0:=by omega
 clear ea HS;go_enter Tryz.func56,Tryz.ntmps56;go_wp2_with fail
 (refine((uq CN0) _).mono ?_;rintro e w2 ⟨rfl,hk⟩;obtain⟨o1,k1,rfl⟩:=hk.ext;clear hk);go_wp2_with fail
 obtain⟨B,hB⟩:∃ B,B=w.heap.size+1+o1.size:=⟨_,rfl⟩;rw[← hB];have HB:=hide hB;clear hB
 go_loopw [17] (fun iv wr=>∃(k:Nat) (t:Int×Int),iv= .int .i64 (k:Int)∧k+1≤L.length∧In t.1∧In t.2∧Hid (mx t (L.drop (k+1))=(X,Y))∧Ft w wr B t.1 t.2) (fun iv _=>L.length - (intOf iv).toNat)
 case atStart=>
  refine⟨0,(t0,s0),rfl,by omega,i0.1,i0.2,HS1,?_⟩;have hB:=uq HB;subst hB;refine⟨by repeat(first|apply zaa|apply Keep.alloc|exact Keep.refl _),?_,?_,?_,?_,?_,?_,?_,?_,?_,?_,?_⟩<;>simp[go_sem]<;>omega
 case round=>
  obtain⟨k,t,rfl,hk,ht1,ht2,HI,hft⟩:=hrel;clear q4 q5;by_cases hlt:k+1<L.length
  ·obtain⟨q1,q2,q3,q4,q5⟩:=(hF.keep hft.1) (k+1) hlt;rw[zlo]at q4 q5;have CMk:=hide (uq CM (L.getD (k+1) (0,0)) t q2 q3 ht1 ht2);have CNk:=hide (uq CN (L.getD (k+1) (0,0)) q2 q3);have ik:=cn_in q2 q3;have my:0<gt (L.getD (k+1) (0,0)) t→_:=znh (t:=t) hlt;have mn:¬0<gt (L.getD (k+1) (0,0)) t→_:=zoB (t:=t) hlt;rw[uq HI]at my mn;have MY:=hide my;have MN:=hide mn;clear my mn;generalize gt (L.getD (k+1) (0,0)) t=gv at *;generalize cn (L.getD (k+1) (0,0)).1 (L.getD (k+1) (0,0)).2=nx at *;generalize cd (L.getD (k+1) (0,0)).1 (L.getD (k+1) (0,0)).2=ny at *;generalize (L.getD (k+1) (0,0)).1=fx at *;generalize (L.getD (k+1) (0,0)).2=fy at *;obtain⟨tx,ty⟩:=t;simp only at *;have hfc:=hide hft;obtain⟨h1,h2',h3,h4,c0,c1,z0,z1,r0,r1,y0,y1⟩:=hft;have h1':=hide h1;have hlc:(k:Int)<((L.length - 1:Nat):Int):=by omega
   have hlc2:(k:Int)<(L.length:Int) - 1:=by omega
   clear q1 q2 q3 h1;by_cases hg:0<gv
   ·have HN:Hid (mx (nx,ny) (L.drop (k+1+1))=(X,Y)):=hide (uq MY hg).symm;clear MY MN HI;go_wp2_with fail
    (refine((uq CMk) _).mono ?_;rintro e w2 ⟨rfl,hk2⟩;obtain⟨o2,k2,rfl⟩:=hk2.ext;clear hk2);have b1:B<wr.heap.size+1:=by omega
    have b2:B<wr.heap.size+1+o2.size:=by omega
    have d1:w.heap.size<wr.heap.size+1:=by omega
    have d2:w.heap.size<wr.heap.size+1+o2.size:=by omega
    have ne1:¬B=w.heap.size:=by omega
    have ne2:¬w.heap.size=B:=by omega
    go_wp2_with fail
    (refine((uq CNk) _).mono ?_;rintro e w2 ⟨rfl,hk2⟩;obtain⟨o3,k3,rfl⟩:=hk2.ext;clear hk2);have b3:B<wr.heap.size+1+(o2.size+o3.size):=by omega
    have d3:w.heap.size<wr.heap.size+1+(o2.size+o3.size):=by omega
    go_wp2_with fail
    go_roundw
    case rel=>
     refine⟨k+1,(nx,ny),by go_num,by omega,ik.1,ik.2,HN,?_⟩;refine⟨?_,?_,h3,?_,?_,?_,?_,?_,?_,?_,?_,?_⟩
     ·repeat(first|exact uq h1'|apply zaa|apply Keep.alloc|apply Keep.drew|(refine zg9 _ _ _ h3 ?_))
     all_goals simp[go_sem,b1,b2,b3,d1,d2,d3,ne1,ne2,h2',h4,c0,c1,r0,r1,y0,y1,z0,z1]
    case measure=>simp[intOf];omega
   ·have HN:Hid (mx (tx,ty) (L.drop (k+1+1))=(X,Y)):=hide (uq MN hg).symm;have hgb:decide (0<gv)=false:=by simpa using hg
    clear MY MN HI CNk;go_wp2_with fail
    (refine((uq CMk) _).mono ?_;rintro e w2 ⟨rfl,hk2⟩;obtain⟨o2,k2,rfl⟩:=hk2.ext;clear hk2);go_wp2_with fail
    go_roundw
    case rel=>exact⟨k+1,(tx,ty),by go_num,by omega,ht1,ht2,HN,zln (uq hfc) (by repeat(first|apply zaa|apply Keep.alloc|apply Keep.drew|exact Keep.refl _))⟩
    case measure=>simp[intOf];omega
  ·have hz:=zni (t:=t) (show L.length≤k+1 by omega);rw[uq HI]at hz;obtain⟨tx,ty⟩:=t;simp only[Prod.mk.injEq]at hz;obtain⟨rfl,rfl⟩:=hz;obtain⟨h1,h2',h3,h4,c0,c1,z0,z1,r0,r1,y0,y1⟩:=hft;simp only at *;have hlc:¬(k:Int)<((L.length - 1:Nat):Int):=by omega
   have hlc2:¬(k:Int)<(L.length:Int) - 1:=by omega
   have h1':=hide h1;clear HI h1;go_wp2_with fail
   exact bodyPost_ret (v:= .agg #[.int .i64 X,.int .i64 Y]) (by simp[results,Tryz.results56,go_sem,r0,r1,h2']) rfl ⟨rfl,by repeat(first|exact uq h1'|apply zaa|apply Keep.alloc|apply Keep.drew|(refine zha _ _ ?_))⟩
def mx2 (a b:Int×Int):Int×Int:=mxA [a,b]
theorem fmax_two (W:World) (b:Nat) (x y u v:Int) (hb:b<W.heap.size) (c0:W.cell? ⟨b,0,none⟩=some (.int .i64 x)) (c1:W.cell? ⟨b,1,none⟩=some (.int .i64 y)) (c2:W.cell? ⟨b,2,none⟩=some (.int .i64 u)) (c3:W.cell? ⟨b,3,none⟩=some (.int .i64 v)) (hx:In x) (hy:In y) (hu:In u) (hv:In v):
  Calls Tryz.prog 56 #[.slice (some ⟨b,0,none⟩) 2 2] W fun e w'=>e= .returned (.agg #[.int .i64 (mx2 (x,y) (u,v)).1,.int .i64 (mx2 (x,y) (u,v)).2])∧Keep W w':=by
 refine zhb ⟨b,0,none⟩ [(x,y),(u,v)] 2 W (by simp) (by simp) (by simp) (by omega) ?_ _ _ (hide rfl) (by simp) (hide fun f h1 h2 w=>zbr f.1 f.2 w h1.1 h1.2 h2.1 h2.2) (hide fun f t h1 h2 h3 h4 w=>zim f.1 f.2 t.1 t.2 w h1.1 h1.2 h2.1 h2.2 h3.1 h3.2 h4.1 h4.2);intro k hk
 simp at hk;rcases(show k=0∨k=1 by omega)with rfl|rfl
 ·exact⟨hb,hx,hy,by simpa [Addr.add]using c0,by simpa [Addr.add]using c1⟩
 ·exact⟨hb,hu,hv,by simpa [Addr.add]using c2,by simpa [Addr.add]using c3⟩
end AX
end Go.Proofs.YtpmaonkelkmhbaaGreat
