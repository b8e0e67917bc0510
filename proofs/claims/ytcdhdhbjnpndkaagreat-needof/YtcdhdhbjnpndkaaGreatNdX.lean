/- Package demand: all flow ratios, over letters. -/
import Derived.Test.YtcdhdhbjnpndkaaGreatDTb
import Derived.Test.YtcdhdhbjnpndkaaGreatLSkip
import Derived.Test.YtcdhdhbjnpndkaaGreatChecked
import Derived.LoopTactic
import Derived.Test.YtcdhdhbjnpndkaaGreatFracV
import Derived.Test.YtcdhdhbjnpndkaaGreatWholeQ
import Derived.Deep.DeepCutAuto
import Derived.Deep.DrawnRows
namespace Go.Proofs.YtcdhdhbjnpndkaaGreat
open Go.RowKit
attribute [local go_sem ↓] Go.wp_at_zero Go.wp_at_succ
set_option linter.unusedVariables false
set_option linter.unusedSimpArgs false
set_option maxRecDepth 10000
namespace W
theorem znw:(Tryz.prog.info? 74).map (fun i=>(i.zero,i.size,i.bytes))=some (some (.slice none 0 0),1,24):=by kernel_rfl
theorem own_blk {w:World} {B:Nat} {T:TypeId} {z:Nat} {v:Value} {n:Nat} {xs:List Value} (h:w.ownsRow B T z v n xs):∀ k,v.ownBlock=some k→∃ cur,w.heap[k]? =some (.cells cur T (0,0)):=by
 intro k hk
 rcases h.2 with ⟨rfl,_⟩|⟨g,cap,cur,rfl,_,hb,_⟩
 ·cases hk
 ·cases hk;exact⟨cur,hb⟩
theorem own_other {w w':World} {B:Nat} {e T:TypeId} {z n:Nat} {v:Value} {xs:List Value} {row:Option Nat} (h:w.ownsRow B e z v n xs) (hg:w.grownBy w' row) (hT:T≠e) (hr:∀ k,row=some k→∃ cur,w.heap[k]? =some (.cells cur T (0,0))):w'.ownsRow B e z v n xs:=by
 obtain⟨h1,h2⟩:=h;refine⟨h1,?_⟩;rcases h2 with h2|⟨g,cap,cur,e1,hg1,hh,r⟩
 ·exact .inl h2
 ·have hlt:g<w.heap.size:=(Array.getElem?_eq_some_iff.1 hh).1;have hne:some g≠row:=by
   intro h
   obtain⟨cur2,h3⟩:=hr g h.symm;rw[hh]at h3;injection h3 with h4
   injection h4 with h5 h6
   exact hT h6.symm
  exact .inr ⟨g,cap,cur,e1,hg1,by rw[hg.block g hlt hne];exact hh,r⟩
def Tr (w:World) (rows:List Value) (n:Nat) (N:Nat→Nat) (X Y:Nat→Nat→Int):Prop:=rows.length=n∧∀ i,i<n→w.ownsRow 0 23 2 (rows.getD i (.bool false)) (N i) (cp (X i) (Y i) (N i))
def Tb (w:World) (v:Value) (n:Nat) (N:Nat→Nat) (X Y:Nat→Nat→Int):Prop:=∃ rows,w.ownsRow 0 74 1 v n rows∧Tr w rows n N X Y
theorem Tr.keep {w w':World} {rows:List Value} {n:Nat} {N:Nat→Nat} {X Y:Nat→Nat→Int} (h:Tr w rows n N X Y) (k:Keep w w'):Tr w' rows n N X Y:=⟨h.1,fun i hi=>own_k (h.2 i hi) k⟩
theorem Tr.grown {w w':World} {rows:List Value} {n:Nat} {N:Nat→Nat} {X Y:Nat→Nat→Int} {row:Option Nat} (h:Tr w rows n N X Y) (hg:w.grownBy w' row) (hr:∀ k,row=some k→∃ cur,w.heap[k]? =some (.cells cur 74 (0,0))):Tr w' rows n N X Y:=⟨h.1,fun i hi=>own_other (h.2 i hi) hg (by decide) hr⟩
theorem Tr.snoc {w:World} {rows:List Value} {n:Nat} {N:Nat→Nat} {X Y:Nat→Nat→Int} {v:Value} (h:Tr w rows n N X Y) (hv:w.ownsRow 0 23 2 v (N n) (cp (X n) (Y n) (N n))):Tr w (rows++ [v]) (n+1) N X Y:=by
 refine⟨by rw[List.length_append,h.1];rfl,fun i hi=>?_⟩;by_cases hlt:i<n
 ·rw[List.getD_eq_getElem?_getD,List.getElem?_append_left (by rw[h.1];exact hlt),← List.getD_eq_getElem?_getD];exact h.2 i hlt
 ·have:i=n:=by omega
  subst this;rw[List.getD_eq_getElem?_getD,List.getElem?_append_right (by rw[h.1];exact Nat.le_refl _),h.1,Nat.sub_self];exact hv
theorem Tr.nil (w:World) (N:Nat→Nat) (X Y:Nat→Nat→Int):Tr w [] 0 N X Y:=⟨rfl,fun i hi=>by omega⟩
theorem znx (w:World) (a:Value) (t:TypeId):∀ j u,[a][j]? =some u→(w.alloc (.cells #[a] t)).cell? ((⟨w.heap.size,0,none⟩:Addr).add j)=some u:=by
 intro j u hj
 rw[add_pl,Nat.zero_add]
 match j,hj with
 |0,hj=>simp at hj;subst hj;simp[go_sem]
 |j+1,hj=>simp at hj
def tz (N:Nat→Nat) (Z:Nat→Nat→Int) (n:Nat):Int:=fz (fun i=>fz (Z i) 0 (N i)) 0 n
def Tq (n:Nat) (N:Nat→Nat) (X Y Z:Nat→Nat→Int) (w:World) (e:Ending) (w':World):Prop:=∃ v z,e= .returned (.tuple #[v,.int .i64 z])∧Keep w w'∧z=tz N Z n∧((¬z=0∧v= .slice none 0 0)∨(z=0∧Tb w' v n N X Y))
set_option maxHeartbeats 8000000 in
theorem table_core (a0 a1 a2 a3 a4:Int) (aN:Option Addr) (nN cN:Nat) (aS:Option Addr) (nS cS:Nat) (a5 a6:Int) (T:Nat→ByteArray) (X1 X2 X3 X4 X5:Nat→Option Addr) (N1 C1 N2 C2 N3 C3 N4 C4 N5 C5:Nat→Nat) (P:Nat→Int) (X Y Z:Nat→Nat→Int) (w:World) (hn:nN≤1000)
  (HC:Hid (∀ k,k<nN→∃ ad,aN=some ad∧ad.block<w.heap.size∧w.cell? (ad.add (k * 7))=some (.string (T k))∧w.cell? ⟨(ad.add (k * 7)).block,(ad.add (k * 7)).off+1,none⟩=some (.slice (X1 k) (N1 k) (C1 k))∧w.cell? ⟨(ad.add (k * 7)).block,(ad.add (k * 7)).off+2,none⟩=some (.slice (X2 k) (N2 k) (C2 k))∧w.cell? ⟨(ad.add (k * 7)).block,(ad.add (k * 7)).off+3,none⟩=some (.slice (X3 k) (N3 k) (C3 k))∧w.cell? ⟨(ad.add (k * 7)).block,(ad.add (k * 7)).off+4,none⟩=some (.slice (X4 k) (N4 k) (C4 k))∧w.cell? ⟨(ad.add (k * 7)).block,(ad.add (k * 7)).off+5,none⟩=some (.slice (X5 k) (N5 k) (C5 k))∧w.cell? ⟨(ad.add (k * 7)).block,(ad.add (k * 7)).off+6,none⟩=some (.int .i64 (P k))))
  (TR:Hid (∀ k,k<nN→∀ w',Keep w w'→Calls Tryz.prog 74 #[.agg #[.string (T k),.slice (X1 k) (N1 k) (C1 k),.slice (X2 k) (N2 k) (C2 k),.slice (X3 k) (N3 k) (C3 k),.slice (X4 k) (N4 k) (C4 k),.slice (X5 k) (N5 k) (C5 k),.int .i64 (P k)],.agg #[.int .i64 a3,.int .i64 a4]] w' (Rp (N1 k) (X k) (Y k) (Z k) w'))):
  Calls Tryz.prog 36 #[.agg #[.int .i64 a0,.int .i64 a1,.int .i64 a2,.int .i64 a3,.int .i64 a4,.slice aN nN cN,.slice aS nS cS,.int .i64 a5,.int .i64 a6]] w (Tq nN N1 X Y Z w):=by
 obtain⟨i0,hi,hz0,hz1,hz2⟩:=info_f znw;obtain⟨ZS,hZS⟩:∃ ZS:Nat→Int,ZS=fun i=>fz (Z i) 0 (N1 i):=⟨_,rfl⟩
 have HZS:Hid (∀ i,ZS i=fz (Z i) 0 (N1 i)):=hide (fun i=>by rw[hZS]);obtain⟨r,hr⟩:∃ r,tz N1 Z nN=r:=⟨_,rfl⟩;have HRR:Hid (fz ZS 0 (nN - 0)=r):=hide (by rw[hZS,← hr];rfl);have HR:=hide hr;clear hr hZS;obtain⟨ZZ,hZ,hmk⟩:∃ ZZ:Array Value,ZZ.size=nN * 1∧∀ w,(Instr.makeSlice 105 (.int .i64 0) (.int .i64 (nN:Int))).run Tryz.prog w= .ok (.slice (some ⟨w.heap.size,0,none⟩) 0 nN) (w.alloc (.cells ZZ 74)):=by
  refine⟨madeCells (Value.slice none 0 0).cells (nN * 1),by simp[size_madeCells],fun w=>?_⟩;have h:=run_make (P:=Tryz.prog) w 105 74 i0 _ Tryz.underlying105 hi hz0 .i64 .i64 0 (nN:Int) (by omega) (by omega) (by rw[hz2];omega) (by omega);rw[hz1]at h;simpa using h
 have hnw:=heap_alloc_new w (.cells #[.int .i64 a0,.int .i64 a1,.int .i64 a2,.int .i64 a3,.int .i64 a4,.slice aN nN cN,.slice aS nS cS,.int .i64 a5,.int .i64 a6] 27);have K1:=hide ((Keep.refl w).alloc (.cells #[.int .i64 a0,.int .i64 a1,.int .i64 a2,.int .i64 a3,.int .i64 a4,.slice aN nN cN,.slice aS nS cS,.int .i64 a5,.int .i64 a6] 27));go_enter Tryz.func36,Tryz.ntmps36
 go_upto_region 1 with fail
 generalize w.alloc (.cells #[.int .i64 a0,.int .i64 a1,.int .i64 a2,.int .i64 a3,.int .i64 a4,.slice aN nN cN,.slice aS nS cS,.int .i64 a5,.int .i64 a6] 27)=wb at hnw K1 ⊢;obtain⟨q,HQ⟩:∃ q,Hid (w.heap.size=q):=⟨_,hide rfl⟩;rw[uq HQ]at hnw ⊢;have HX:Hid (∀ w':World,Keep wb w'→w'.cell? ⟨q,5,none⟩=some (.slice aN nN cN)∧w'.cell? ⟨q,3,none⟩=some (.int .i64 a3)∧w'.cell? ⟨q,4,none⟩=some (.int .i64 a4)):=hide (fun w' k9=>by
  have h1:=k9.block q (Array.getElem?_eq_some_iff.1 hnw).1;rw[hnw]at h1;refine⟨?_,?_,?_⟩<;>simp[World.cell?,h1])
 clear hnw;have hrow0:=hide (World.ownsRow_made (base:=wb.heap.size) (e:=74) (size:=1) wb ZZ nN (Nat.le_refl _) (by unfold maxLen;omega) hZ);obtain⟨f1,f2,f3⟩:=(uq HX) wb (Keep.refl _);have lq0:q<wb.heap.size:=World.block_lt_of_cell? wb _ f1;go_wp2_with fail
 clear f1 f2 f3 lq0
 go_loopw [4,16] (fun vs vi wr=>∃(k:Nat) (rows:List Value),k≤nN∧vi= .int .i64 (k:Int)∧Hid (wr.ownsRow wb.heap.size 74 1 vs k rows)∧Hid (Tr wr rows k N1 X Y)∧Hid (fz ZS k (nN - k)=r)∧Hid (Keep wb wr)) (fun vs vi _=>nN - (intOf vi).toNat)
 case atStart=>exact⟨0,[],Nat.zero_le _,rfl,hrow0,hide (Tr.nil _ _ _ _),HRR,hide ((Keep.refl wb).alloc _)⟩
 case round=>
  obtain⟨k,rows,hk,rfl,HROW,HTR,HFZ,HK⟩:=hrel;by_cases hlt:k<nN
  ·have li:(k:Int)<(nN:Int):=by omega
   obtain⟨ad,rfl,hb,e0,e1,e2,e3,e4,e5,e6⟩:=(uq HC) k hlt;have KW:=hide ((uq K1).trans (uq HK));have y0:=zey (uq KW) (by show(ad.add (k * 7)).block<_;rw[ab9];exact hb) e0;have y1:=zey (uq KW) (by show(ad.add (k * 7)).block<_;rw[ab9];exact hb) e1;have y2:=zey (uq KW) (by show(ad.add (k * 7)).block<_;rw[ab9];exact hb) e2;have y3:=zey (uq KW) (by show(ad.add (k * 7)).block<_;rw[ab9];exact hb) e3;have y4:=zey (uq KW) (by show(ad.add (k * 7)).block<_;rw[ab9];exact hb) e4;have y5:=zey (uq KW) (by show(ad.add (k * 7)).block<_;rw[ab9];exact hb) e5;have y6:=zey (uq KW) (by show(ad.add (k * 7)).block<_;rw[ab9];exact hb) e6;clear e0 e1 e2 e3 e4 e5 e6;obtain⟨f1,f2,f3⟩:=(uq HX) wr (uq HK);have TT:=hide ((uq TR) k hlt);have lq:q<wr.heap.size:=World.block_lt_of_cell? wr _ f2;have hsz:=Below.size (uq HK);clear f1;go_wp2_with fail
   refine((uq TT) _ ((uq KW).alloc _)).mono ?_;rintro e w2 ⟨rv,z,rfl,hk2,hze,hres⟩;have HK2:=hide (((uq HK).alloc _).trans hk2);have HROW2:=hide (own_k (own_k (uq HROW) ((Keep.refl wr).alloc _)) hk2);have HTR2:=hide (((uq HTR).keep ((Keep.refl wr).alloc _)).keep hk2);have HZE:Hid (z=ZS k):=hide (hze.trans ((uq HZS) k).symm);have HRES:=hide hres;clear hk2 hze hres f2 f3 lq y0 y1 y2 y3 y4 y5 y6;have hsz2:=Below.size (uq HK2);by_cases hz:z=0
   ·subst hz;have HF2:=hide (fz_no (uq HFZ) hlt (uq HZE).symm);have HRV:Hid (w2.ownsRow 0 23 2 rv (N1 k) (cp (X k) (Y k) (N1 k))):=hide (by
     rcases uq HRES with ⟨h,_⟩|⟨_,h⟩
     ·exact absurd rfl h
     ·exact own_mono h (Nat.zero_le _))
    obtain⟨ra,rn,rc,hrv⟩:∃ a n c,rv= .slice a n c:=by
     rcases(uq HRV).2 with ⟨h,_⟩|⟨g,cap,cur,h,_⟩<;>exact⟨_,_,_,h⟩
    subst hrv;clear HRES HZE;have hkk:k≤1000:=by omega
    go_wp2_with (at_builtin;refine wpList_append_own _ rfl _ _ 105 rfl wb.heap.size 74 i0 _ 1 24 Tryz.underlying105 hi hz0 hz1 hz2 rfl (by decide) _ _ _ rfl ((uq HROW2).alloc _) ⟨w2.heap.size,0,none⟩ 1 1 [.slice ra rn rc] rfl rfl (znx w2 _ _) (by simp[Value.oneCell']) (by unfold maxLen;omega) (by omega) (by simp;omega) ?_;intro v' w4 hown' hgrow hnil;have HOWN:=hide hown';have HK4:Hid (Keep wb w4):=hide (Below.grown ((uq HK2).alloc _) hgrow (by simp;omega) (fun j ej=>((uq HROW2).lt j ej).1));have HTR4:Hid (Tr w4 (rows++ [.slice ra rn rc]) (k+1) N1 X Y):=hide (Tr.grown (((uq HTR2).snoc (uq HRV)).keep ((Keep.refl w2).alloc _)) hgrow (own_blk ((uq HROW2).alloc _)));clear hown' hgrow hnil)
    go_roundw
    case rel=>exact⟨k+1,rows++ [.slice ra rn rc],hlt,by go_num,HOWN,HTR4,HF2,HK4⟩
    case measure=>simp[intOf];omega
   ·have hr0:r=z:=by
     have h:=fz_yes (uq HFZ) hlt (by rw[← uq HZE];exact hz);rw[h,← uq HZE]
    have hzb:(z !=0)=true:=by simp[hz]
    have HR0:=hide hr0;have HZ:=hide hz;clear hr0 hz HZE;go_wp2_with fail
    go_ret2;refine⟨_,_,rfl,(uq K1).trans (uq HK2),?_,.inl ⟨uq HZ,rfl⟩⟩;rw[uq HR,uq HR0]
  ·have li:¬(k:Int)<(nN:Int):=by omega
   have e:k=nN:=by omega
   subst e;have hr0:=fz_end (uq HFZ) (Nat.le_refl _);have HR0:=hide hr0;clear hr0;go_wp2_with fail
   go_ret2;exact⟨_,_,rfl,(uq K1).trans (uq HK),by rw[uq HR,uq HR0],.inr ⟨rfl,rows,own_mono (uq HROW) (Nat.zero_le _),uq HTR⟩⟩
end W
end Go.Proofs.YtcdhdhbjnpndkaaGreat
namespace Go.Proofs.YtcdhdhbjnpndkaaGreat
open Go.RowKit
set_option linter.unusedVariables false
def up (n d:Int):Int:=n / d+(if n % d=0 then 0 else 1)
theorem zq3 {n d:Int} (hd:0<d):n≤up n d * d:=by
 have h:=Int.emod_add_mul_ediv n d;have h2:=Int.emod_lt_of_pos n hd;unfold up
 rw[Int.add_mul,Int.mul_comm (n / d)];split<;>simp<;>omega
theorem zq4 {n d:Int} (hd:0<d):(up n d - 1) * d<n:=by
 have h:=Int.emod_add_mul_ediv n d;have h2:=Int.emod_lt_of_pos n hd;have h3:=Int.emod_nonneg n (show d≠0 by omega);unfold up
 split
 ·rw[Int.sub_mul,Int.add_mul,Int.mul_comm (n / d)];simp;omega
 ·rw[Int.sub_mul,Int.add_mul,Int.mul_comm (n / d)];simp;omega
theorem zq5 {n d k:Int} (hd:0<d) (h:n≤k * d):up n d≤k:=by
 have h1:=zq4 (n:=n) hd;have h2:(up n d - 1) * d<k * d:=by omega
 have:=Int.lt_of_mul_lt_mul_right h2 (by omega);omega
theorem zq6 {n d:Int} (hd:0<d) (h:0≤n):0≤up n d:=by
 have h1:=zq3 (n:=n) hd;by_cases h2:0≤up n d
 ·exact h2
 ·have h3:up n d * d≤ -1 * d:=Int.mul_le_mul_of_nonneg_right (by omega) (by omega);omega
theorem zpy {n d k:Int} (hd:0<d):up (n+k * d) d=up n d+k:=by
 unfold up
 rw[Int.add_mul_ediv_right _ _ (by omega),Int.add_mul_emod_self_right];omega
theorem zkk {n d:Int} (hd:0<d) (h:0≤n):up n d≤n:=zq5 hd (by have:=Int.mul_le_mul_of_nonneg_left (show 1≤d by omega) h;omega)
def yK (s g:Int):Bool:=decide (1≤s∧s≤10000∧ -200≤g∧g≤200)
def rK (a b s:Int):Bool:=decide (0≤a∧a≤100000∧0≤b∧b≤100000∧1≤s∧s≤10000)
def fK (a s:Int):Bool:=decide (1≤a∧a≤100000∧1≤s∧s≤10000)
def yN (s g:Int):Int:=if yK s g then 10+up (10000 * s) (610000+1962 * g)else 0
def yE (s g:Int):Int:=if yK s g then 0 else 1
def rN (a b s:Int):Int:=if rK a b s then up (10 * (a+b)) s else 0
def rE (a b s:Int):Int:=if rK a b s then 0 else 1
def fN (a s:Int):Int:=if fK a s then up (10 * a) s else 0
def fE (a s:Int):Int:=if fK a s then 0 else 1
end Go.Proofs.YtcdhdhbjnpndkaaGreat
namespace Go.Proofs.YtcdhdhbjnpndkaaGreat
open Go.RowKit
set_option linter.unusedVariables false
set_option linter.unusedSimpArgs false
set_option maxRecDepth 10000
set_option maxHeartbeats 400000 in
theorem zny (a b t:Int) (w:World) (h2:a≤9223372036854775807) (h4:b≤9223372036854775807) (ha:0≤a) (hb:0<b) (e1:a.tdiv b=t) (e2:a.tmod b=0) (e3:a / b=t) (e4:a % b=0) (t1:0≤t) (t2:t≤9223372036854775807):
  Calls Tryz.prog 82 #[.int .i64 a,.int .i64 b] w fun e w'=>e= .returned (.tuple #[.int .i64 t,.int .i64 0])∧w'=w:=by
 have hda:decide (a<0)=false:=by simp;omega
 have hdb:decide (b<0)=false:=by simp;omega
 have hz:(b==0)=false:=by simp;omega
 have hx1:(a== -9223372036854775808)=false:=by simp;omega
 go_enter Tryz.func82,Tryz.ntmps82;go_wp2;go_ret2;exact⟨rfl,rfl⟩
set_option maxHeartbeats 400000 in
theorem znz (a b t m:Int) (w:World) (h2:a≤9223372036854775807) (h4:b≤9223372036854775807) (ha:0≤a) (hb:0<b) (e1:a.tdiv b=t) (e2:a.tmod b=m) (e3:a / b=t) (e4:a % b=m) (hm:(m==0)=false) (hm':¬m=0) (t1:0≤t) (t2:t≤4611686018427387904):
  Calls Tryz.prog 82 #[.int .i64 a,.int .i64 b] w fun e w'=>e= .returned (.tuple #[.int .i64 (t+1),.int .i64 0])∧w'=w:=by
 have hmn:(m !=0)=true:=by simp[hm']
 have hda:decide (a<0)=false:=by simp;omega
 have hdb:decide (b<0)=false:=by simp;omega
 have hz:(b==0)=false:=by simp;omega
 have hx1:(a== -9223372036854775808)=false:=by simp;omega
 go_enter Tryz.func82,Tryz.ntmps82;go_wp2;go_ret2;exact⟨rfl,rfl⟩
theorem zft (a b:Int) (w:World) (h2:a≤4611686018427387904) (h4:b≤9223372036854775807) (ha:0≤a) (hb:0<b):
  Calls Tryz.prog 82 #[.int .i64 a,.int .i64 b] w fun e w'=>e= .returned (.tuple #[.int .i64 (up a b),.int .i64 0])∧w'=w:=by
 have d0:0≤a / b:=Int.ediv_nonneg ha (by omega);have d1:a / b≤a:=Int.ediv_le_self _ ha;have e1:a.tdiv b=a / b:=Int.tdiv_eq_ediv_of_nonneg ha;have e2:a.tmod b=a % b:=Int.tmod_eq_emod_of_nonneg ha;by_cases hm:a % b=0
 ·rw[show up a b=a / b by unfold up;rw[if_pos hm];omega];exact zny a b _ w (by omega) h4 ha hb e1 (by omega) rfl hm d0 (by omega)
 ·rw[show up a b=a / b+1 by unfold up;rw[if_neg hm]];exact znz a b _ _ w (by omega) h4 ha hb e1 e2 rfl rfl (by simpa using hm) hm d0 (by omega)
def Bds (w:World) (ad:Addr) (n:Nat) (f:Nat→Int×Int×Int):Prop:=ad.block<w.heap.size∧∀ k,k<n→w.cell? (ad.add (k * 3))=some (.int .i64 (f k).1)
 ∧w.cell? ⟨(ad.add (k * 3)).block,(ad.add (k * 3)).off+1,none⟩=some (.int .i64 (f k).2.1)∧w.cell? ⟨(ad.add (k * 3)).block,(ad.add (k * 3)).off+2,none⟩=some (.int .i64 (f k).2.2)
theorem zcJ (ad:Addr) (n:Nat):(ad.add n).block=ad.block:=by unfold Addr.add;split<;>rfl
theorem Bds.keep {w w':World} {ad:Addr} {n:Nat} {f:Nat→Int×Int×Int} (h:Bds w ad n f) (hk:Keep w w'):Bds w' ad n f:=by
 have hs:=Below.size hk;have hb:=h.1;refine⟨by omega,fun k hlt=>?_⟩;obtain⟨h4,h5,h6⟩:=h.2 k hlt;refine⟨?_,?_,?_⟩
 ·rw[Below.cell hk (by rw[zcJ];exact hb)];exact h4
 ·rw[Below.cell (p:=⟨(ad.add (k * 3)).block,(ad.add (k * 3)).off+1,none⟩) hk (by show(ad.add (k * 3)).block<_;rw[zcJ];exact hb)];exact h5
 ·rw[Below.cell (p:=⟨(ad.add (k * 3)).block,(ad.add (k * 3)).off+2,none⟩) hk (by show(ad.add (k * 3)).block<_;rw[zcJ];exact hb)];exact h6
set_option maxHeartbeats 2000000 in
theorem zdx (ad:Addr) (n cap:Nat) (f:Nat→Int×Int×Int) (r:Bool) (w:World) (hn:n≤50) (HB:Hid (Bds w ad n f))
  (H1:Hid (∀ k,k<n→((f k).1<(f k).2.1∨(f k).2.2<(f k).1)→r=false)) (H2:Hid ((∀ k,k<n→(f k).2.1≤(f k).1∧(f k).1≤(f k).2.2)→r=true)):
  Calls Tryz.prog 81 #[.slice (some ad) n cap] w fun e w'=>e= .returned (.bool r)∧Keep w w':=by
 go_enter Tryz.func81,Tryz.ntmps81;go_wp2_with fail
 go_loopw [7] (fun iv wr=>∃ k:Nat,iv= .int .i64 (k:Int)∧k≤n∧Hid (∀ j,j<k→(f j).2.1≤(f j).1∧(f j).1≤(f j).2.2)∧Hid (Keep w wr)) (fun iv _=>n - (intOf iv).toNat)
 case atStart=>exact⟨0,rfl,by omega,hide fun j hj=>by omega,hide (Keep.refl _)⟩
 case round=>
  obtain⟨k,rfl,hk,HS,KW⟩:=hrel;by_cases hlt:k<n
  ·have li:(k:Int)<(n:Int):=by omega
   obtain⟨c0,c1,c2⟩:=((uq HB).keep (uq KW)).2 k hlt;have HQ:=hide ((uq H1) k hlt);have HT:Hid (((f k).2.1≤(f k).1∧(f k).1≤(f k).2.2)→∀ j,j<k+1→(f j).2.1≤(f j).1∧(f j).1≤(f j).2.2):=by
    intro h j hj
    rcases Nat.lt_succ_iff_lt_or_eq.1 hj with h'|h'
    ·exact(uq HS) j h'
    ·rw[h'];exact h
   generalize (f k).1=x at c0 HQ HT;generalize (f k).2.1=y at c1 HQ HT;generalize (f k).2.2=z at c2 HQ HT;by_cases h1:x<y
   ·have hr:=(uq HQ) (.inl h1);subst hr;go_wp2_with fail
    go_ret;exact⟨rfl,by repeat(first|exact uq KW|apply Keep.alloc|apply Keep.drew)⟩
   ·by_cases h2:z<x
    ·have hr:=(uq HQ) (.inr h2);subst hr;go_wp2_with fail
     go_ret;exact⟨rfl,by repeat(first|exact uq KW|apply Keep.alloc|apply Keep.drew)⟩
    ·have HN:=hide ((uq HT) ⟨by omega,by omega⟩);go_wp2_with fail
     go_roundw
     case rel=>exact⟨k+1,by go_num,by omega,HN,hide (by repeat(first|exact uq KW|apply Keep.alloc|apply Keep.drew))⟩
     case measure=>simp[intOf];omega
  ·have li:¬(k:Int)<(n:Int):=by omega
   have hr:=(uq H2) (fun j hj=>(uq HS) j (by omega));subst hr;go_wp2_with fail
   go_ret;exact⟨rfl,uq KW⟩
theorem zrY (W:World) (b:Nat) (x0 x1 x2 y0 y1 y2:Int) (hb:b<W.heap.size) (h0:W.cell? ⟨b,0,none⟩=some (.int .i64 x0)) (h1:W.cell? ⟨b,1,none⟩=some (.int .i64 x1)) (h2:W.cell? ⟨b,2,none⟩=some (.int .i64 x2))
  (h3:W.cell? ⟨b,3,none⟩=some (.int .i64 y0)) (h4:W.cell? ⟨b,4,none⟩=some (.int .i64 y1)) (h5:W.cell? ⟨b,5,none⟩=some (.int .i64 y2)):
  Bds W ⟨b,0,none⟩ 2 (fun k=>if k=0 then(x0,x1,x2)else(y0,y1,y2)):=by
 refine⟨hb,fun k hk=>?_⟩;rcases(show k=0∨k=1 by omega)with rfl|rfl
 ·exact⟨h0,h1,h2⟩
 ·exact⟨h3,h4,h5⟩
theorem zrZ (W:World) (b:Nat) (x0 x1 x2 y0 y1 y2 z0 z1 z2:Int) (hb:b<W.heap.size) (h0:W.cell? ⟨b,0,none⟩=some (.int .i64 x0)) (h1:W.cell? ⟨b,1,none⟩=some (.int .i64 x1)) (h2:W.cell? ⟨b,2,none⟩=some (.int .i64 x2))
  (h3:W.cell? ⟨b,3,none⟩=some (.int .i64 y0)) (h4:W.cell? ⟨b,4,none⟩=some (.int .i64 y1)) (h5:W.cell? ⟨b,5,none⟩=some (.int .i64 y2))
  (h6:W.cell? ⟨b,6,none⟩=some (.int .i64 z0)) (h7:W.cell? ⟨b,7,none⟩=some (.int .i64 z1)) (h8:W.cell? ⟨b,8,none⟩=some (.int .i64 z2)):
  Bds W ⟨b,0,none⟩ 3 (fun k=>if k=0 then(x0,x1,x2)else if k=1 then(y0,y1,y2)else(z0,z1,z2)):=by
 refine⟨hb,fun k hk=>?_⟩;rcases(show k=0∨k=1∨k=2 by omega)with rfl|rfl|rfl
 ·exact⟨h0,h1,h2⟩
 ·exact⟨h3,h4,h5⟩
 ·exact⟨h6,h7,h8⟩
theorem ziF (b cap:Nat) (x0 x1 x2 y0 y1 y2:Int) (r:Bool) (W:World) (hb:b<W.heap.size) (h0:W.cell? ⟨b,0,none⟩=some (.int .i64 x0)) (h1:W.cell? ⟨b,1,none⟩=some (.int .i64 x1)) (h2:W.cell? ⟨b,2,none⟩=some (.int .i64 x2))
  (h3:W.cell? ⟨b,3,none⟩=some (.int .i64 y0)) (h4:W.cell? ⟨b,4,none⟩=some (.int .i64 y1)) (h5:W.cell? ⟨b,5,none⟩=some (.int .i64 y2)) (hr:r=decide ((x1≤x0∧x0≤x2)∧y1≤y0∧y0≤y2)):
  Calls Tryz.prog 81 #[.slice (some ⟨b,0,none⟩) 2 cap] W fun e w'=>e= .returned (.bool r)∧Keep W w':=by
 refine zdx _ 2 cap _ r W (by omega) (hide (zrY W b x0 x1 x2 y0 y1 y2 hb h0 h1 h2 h3 h4 h5)) ?_ ?_
 ·intro k hk h
  rcases(show k=0∨k=1 by omega)with rfl|rfl<;>simp at h<;>rw[hr]<;>simp<;>omega
 ·intro h
  have q0:=h 0 (by omega);have q1:=h 1 (by omega);simp at q0 q1;rw[hr];simp;omega
theorem znA (b cap:Nat) (x0 x1 x2 y0 y1 y2 z0 z1 z2:Int) (r:Bool) (W:World) (hb:b<W.heap.size) (h0:W.cell? ⟨b,0,none⟩=some (.int .i64 x0)) (h1:W.cell? ⟨b,1,none⟩=some (.int .i64 x1)) (h2:W.cell? ⟨b,2,none⟩=some (.int .i64 x2))
  (h3:W.cell? ⟨b,3,none⟩=some (.int .i64 y0)) (h4:W.cell? ⟨b,4,none⟩=some (.int .i64 y1)) (h5:W.cell? ⟨b,5,none⟩=some (.int .i64 y2))
  (h6:W.cell? ⟨b,6,none⟩=some (.int .i64 z0)) (h7:W.cell? ⟨b,7,none⟩=some (.int .i64 z1)) (h8:W.cell? ⟨b,8,none⟩=some (.int .i64 z2)) (hr:r=decide ((x1≤x0∧x0≤x2)∧(y1≤y0∧y0≤y2)∧z1≤z0∧z0≤z2)):
  Calls Tryz.prog 81 #[.slice (some ⟨b,0,none⟩) 3 cap] W fun e w'=>e= .returned (.bool r)∧Keep W w':=by
 refine zdx _ 3 cap _ r W (by omega) (hide (zrZ W b x0 x1 x2 y0 y1 y2 z0 z1 z2 hb h0 h1 h2 h3 h4 h5 h6 h7 h8)) ?_ ?_
 ·intro k hk h
  rcases(show k=0∨k=1∨k=2 by omega)with rfl|rfl|rfl<;>simp at h<;>rw[hr]<;>simp<;>omega
 ·intro h
  have q0:=h 0 (by omega);have q1:=h 1 (by omega);have q2:=h 2 (by omega);simp at q0 q1 q2;rw[hr];simp;omega
set_option maxHeartbeats 1000000 in
theorem zhj (s g:Int) (w:World):
  Calls Tryz.prog 40 #[.int .i64 s,.int .i64 g] w fun e w'=>e= .returned (.tuple #[.int .i64 (yN s g),.int .i64 (yE s g)])∧Keep w w':=by
 have W2:=hide ziF;have CU:=hide zft;by_cases h:yK s g=true
 ·have hyN:yN s g=up (10000 * s+10 * (610000+1962 * g)) (610000+1962 * g):=by
   have hd:1≤s∧s≤10000∧ -200≤g∧g≤200:=by simpa [yK]using h
   unfold yN;rw[if_pos h,zpy (by omega)];omega
  have hyE:yE s g=0:=by unfold yE;rw[if_pos h]
  rw[hyN,hyE];have hd:1≤s∧s≤10000∧ -200≤g∧g≤200:=by simpa [yK]using h
  obtain⟨d1,d2,d3,d4⟩:=hd;clear hyN hyE h;go_enter Tryz.func40,Tryz.ntmps40;go_wp2_with fail
  (refine((uq W2) _ _ s 1 10000 g (-200) 200 true _ (by simp[go_sem]) (by simp[go_sem]) (by simp[go_sem]) (by simp[go_sem]) (by simp[go_sem]) (by simp[go_sem]) (by simp[go_sem]) (by simp;omega)).mono ?_;rintro e w2 ⟨rfl,hk⟩);have m1:wrap64 (1962 * g)=1962 * g:=zaB (by omega);have m2:wrap64 (610000+1962 * g)=610000+1962 * g:=zaB (by omega);have m3:wrap64 (10000 * s)=10000 * s:=zaB (by omega);have m4:wrap64 (10 * (610000+1962 * g))=10 * (610000+1962 * g):=zaB (by omega);have m5:wrap64 (10000 * s+10 * (610000+1962 * g))=10000 * s+10 * (610000+1962 * g):=zaB (by omega);go_wp2_with fail
  (refine((uq CU) _ _ _ (by omega) (by omega) (by omega) (by omega)).mono ?_;rintro e w3 ⟨rfl,rfl⟩);go_wp2_with fail
  go_ret2;exact⟨rfl,Keep.trans ((Keep.refl w).alloc _) hk⟩
 ·have hyN:yN s g=0:=by unfold yN;rw[if_neg h]
  have hyE:yE s g=1:=by unfold yE;rw[if_neg h]
  rw[hyN,hyE];have hd:¬(1≤s∧s≤10000∧ -200≤g∧g≤200):=by simpa [yK]using h
  have HD:=hide hd;clear hyN hyE h hd;go_enter Tryz.func40,Tryz.ntmps40;go_wp2_with fail
  (refine((uq W2) _ _ s 1 10000 g (-200) 200 false _ (by simp[go_sem]) (by simp[go_sem]) (by simp[go_sem]) (by simp[go_sem]) (by simp[go_sem]) (by simp[go_sem]) (by simp[go_sem]) (by have:=uq HD;simp;omega)).mono ?_;rintro e w2 ⟨rfl,hk⟩);go_wp2_with fail
  go_ret2;exact⟨rfl,Keep.trans ((Keep.refl w).alloc _) hk⟩
set_option maxHeartbeats 1000000 in
theorem znB (a b s:Int) (w:World):
  Calls Tryz.prog 41 #[.int .i64 a,.int .i64 b,.int .i64 s] w fun e w'=>e= .returned (.tuple #[.int .i64 (rN a b s),.int .i64 (rE a b s)])∧Keep w w':=by
 have W2:=hide znA;have CU:=hide zft;by_cases h:rK a b s=true
 ·have hyN:rN a b s=up (10 * (a+b)) s:=by unfold rN;rw[if_pos h]
  have hyE:rE a b s=0:=by unfold rE;rw[if_pos h]
  rw[hyN,hyE];have hd:0≤a∧a≤100000∧0≤b∧b≤100000∧1≤s∧s≤10000:=by simpa [rK]using h
  obtain⟨d1,d2,d3,d4,d5,d6⟩:=hd;clear hyN hyE h;go_enter Tryz.func41,Tryz.ntmps41;go_wp2_with fail
  (refine((uq W2) _ _ a 0 100000 b 0 100000 s 1 10000 true _ (by simp[go_sem]) (by simp[go_sem]) (by simp[go_sem]) (by simp[go_sem]) (by simp[go_sem]) (by simp[go_sem]) (by simp[go_sem]) (by simp[go_sem]) (by simp[go_sem]) (by simp[go_sem]) (by simp;omega)).mono ?_;rintro e w2 ⟨rfl,hk⟩);have m1:wrap64 (a+b)=a+b:=zaB (by omega);have m2:wrap64 (10 * (a+b))=10 * (a+b):=zaB (by omega);go_wp2_with fail
  (refine((uq CU) _ _ _ (by omega) (by omega) (by omega) (by omega)).mono ?_;rintro e w3 ⟨rfl,rfl⟩);go_wp2_with fail
  go_ret2;exact⟨rfl,Keep.trans ((Keep.refl w).alloc _) hk⟩
 ·have hyN:rN a b s=0:=by unfold rN;rw[if_neg h]
  have hyE:rE a b s=1:=by unfold rE;rw[if_neg h]
  rw[hyN,hyE];have hd:¬(0≤a∧a≤100000∧0≤b∧b≤100000∧1≤s∧s≤10000):=by simpa [rK]using h
  have HD:=hide hd;clear hyN hyE h hd;go_enter Tryz.func41,Tryz.ntmps41;go_wp2_with fail
  (refine((uq W2) _ _ a 0 100000 b 0 100000 s 1 10000 false _ (by simp[go_sem]) (by simp[go_sem]) (by simp[go_sem]) (by simp[go_sem]) (by simp[go_sem]) (by simp[go_sem]) (by simp[go_sem]) (by simp[go_sem]) (by simp[go_sem]) (by simp[go_sem]) (by have:=uq HD;simp;omega)).mono ?_;rintro e w2 ⟨rfl,hk⟩);go_wp2_with fail
  go_ret2;exact⟨rfl,Keep.trans ((Keep.refl w).alloc _) hk⟩
set_option maxHeartbeats 1000000 in
theorem ziG (a s:Int) (w:World):
  Calls Tryz.prog 78 #[.int .i64 a,.int .i64 s] w fun e w'=>e= .returned (.tuple #[.int .i64 (fN a s),.int .i64 (fE a s)])∧Keep w w':=by
 have W2:=hide ziF;have CU:=hide zft;by_cases h:fK a s=true
 ·have hyN:fN a s=up (10 * a) s:=by unfold fN;rw[if_pos h]
  have hyE:fE a s=0:=by unfold fE;rw[if_pos h]
  rw[hyN,hyE];have hd:1≤a∧a≤100000∧1≤s∧s≤10000:=by simpa [fK]using h
  obtain⟨d1,d2,d5,d6⟩:=hd;clear hyN hyE h;go_enter Tryz.func78,Tryz.ntmps78;go_wp2_with fail
  (refine((uq W2) _ _ a 1 100000 s 1 10000 true _ (by simp[go_sem]) (by simp[go_sem]) (by simp[go_sem]) (by simp[go_sem]) (by simp[go_sem]) (by simp[go_sem]) (by simp[go_sem]) (by simp;omega)).mono ?_;rintro e w2 ⟨rfl,hk⟩);have m2:wrap64 (10 * a)=10 * a:=zaB (by omega);go_wp2_with fail
  (refine((uq CU) _ _ _ (by omega) (by omega) (by omega) (by omega)).mono ?_;rintro e w3 ⟨rfl,rfl⟩);go_wp2_with fail
  go_ret2;exact⟨rfl,Keep.trans ((Keep.refl w).alloc _) hk⟩
 ·have hyN:fN a s=0:=by unfold fN;rw[if_neg h]
  have hyE:fE a s=1:=by unfold fE;rw[if_neg h]
  rw[hyN,hyE];have hd:¬(1≤a∧a≤100000∧1≤s∧s≤10000):=by simpa [fK]using h
  have HD:=hide hd;clear hyN hyE h hd;go_enter Tryz.func78,Tryz.ntmps78;go_wp2_with fail
  (refine((uq W2) _ _ a 1 100000 s 1 10000 false _ (by simp[go_sem]) (by simp[go_sem]) (by simp[go_sem]) (by simp[go_sem]) (by simp[go_sem]) (by simp[go_sem]) (by simp[go_sem]) (by have:=uq HD;simp;omega)).mono ?_;rintro e w2 ⟨rfl,hk⟩);go_wp2_with fail
  go_ret2;exact⟨rfl,Keep.trans ((Keep.refl w).alloc _) hk⟩
end Go.Proofs.YtcdhdhbjnpndkaaGreat
namespace Go.Proofs.YtcdhdhbjnpndkaaGreat
open Go.RowKit
set_option linter.unusedVariables false
set_option maxRecDepth 10000
set_option maxHeartbeats 1000000 in
theorem zkl (n d n2 d2 x y x2 y2 v:Int) (w:World) (Cn:Int→Int→Int→Int→Prop) (K1:Cn n d x y) (K2:Cn n2 d2 x2 y2)
  (T1:Hid (∀(n d x y:Int),Cn n d x y→∀ w,Calls Tryz.prog 76 #[.agg #[.int .i64 n,.int .i64 d]] w fun e w'=>e= .returned (.agg #[.int .i64 x,.int .i64 y])∧Keep w w'))
  (T2:Hid (∀ w,Calls Tryz.prog 113 #[.int .i64 x,.int .i64 y2,.int .i64 x2,.int .i64 y] w fun e w'=>e= .returned (.int .i64 v)∧Keep w w')):
  Calls Tryz.prog 77 #[.agg #[.int .i64 n,.int .i64 d],.agg #[.int .i64 n2,.int .i64 d2]] w fun e w'=>e= .returned (.int .i64 v)∧Keep w w':=by
 go_enter Tryz.func77,Tryz.ntmps77
 go_upto_region 1 with fail
 go_cut [] (fun wc=>Keep ((w.alloc (.cells #[.int .i64 x,.int .i64 y] 23)).alloc (.cells #[.int .i64 x2,.int .i64 y2] 23)) wc)
 case first=>
  go_region_with (go_at_call 76;refine((uq T1) _ _ _ _ (by assumption) _).mono ?_;rintro e w2 ⟨rfl,hk⟩;obtain⟨o1,k1,rfl⟩:=hk.ext;clear hk)
  all_goals
   go_wp2_with fail
   go_meet;exact by repeat(first|apply zaa|apply Keep.drew|exact Keep.refl _)
 case rest=>
  obtain⟨o2,k2,rfl⟩:=hcut.ext;clear hcut;go_wp2_with fail
  (refine((uq T2) _).mono ?_;rintro e w2 ⟨rfl,hk⟩;obtain⟨o3,k3,rfl⟩:=hk.ext;clear hk);go_wp2_with fail
  go_ret;exact⟨rfl,by repeat(first|apply zaa|apply Keep.alloc|apply Keep.drew|(refine zcr _ _ _ (by omega) ?_)|assumption|exact Keep.refl _)⟩
theorem zkm (n d n2 d2:Int) (w:World) (h1: -9223372036854775808≤n) (h2:n≤9223372036854775807) (h3: -9223372036854775808≤d) (h4:d≤9223372036854775807) (k1: -9223372036854775808≤n2) (k2:n2≤9223372036854775807) (k3: -9223372036854775808≤d2) (k4:d2≤9223372036854775807):
  Calls Tryz.prog 77 #[.agg #[.int .i64 n,.int .i64 d],.agg #[.int .i64 n2,.int .i64 d2]] w fun e w'=>e= .returned (.int .i64 (cm (cn n d * cd n2 d2) (cn n2 d2 * cd n d)))∧Keep w w':=by
 obtain⟨r1,r2,r3,r4,r5⟩:=zaG n d h1 h2 h4;obtain⟨s1,s2,s3,s4,s5⟩:=zaG n2 d2 k1 k2 k4;exact zkl n d n2 d2 _ _ _ _ _ w (fun n d x y=>∀ w,Calls Tryz.prog 76 #[.agg #[.int .i64 n,.int .i64 d]] w fun e w'=>e= .returned (.agg #[.int .i64 x,.int .i64 y])∧Keep w w')
  (fun w=>zbC n d w h1 h2 h3 h4) (fun w=>zbC n2 d2 w k1 k2 k3 k4) (hide fun n d x y h=>h) (hide fun w=>zfl _ _ _ _ w r3 r4 (by omega) s5 s3 s4 (by omega) r5)
end Go.Proofs.YtcdhdhbjnpndkaaGreat
namespace Go.Proofs.YtcdhdhbjnpndkaaGreat
open Go.RowKit
attribute [local go_sem ↓] Go.wp_at_zero Go.wp_at_succ
set_option linter.unusedVariables false
set_option linter.unusedSimpArgs false
set_option maxRecDepth 10000
def adN (t f:Int×Int):Int:=cn t.1 t.2 * cd f.1 f.2+cn f.1 f.2 * cd t.1 t.2
def adD (t f:Int×Int):Int:=cd t.1 t.2 * cd f.1 f.2
def adX (t f:Int×Int):Int:=pN (rn (adN t f) (adD t f)) (rd (adN t f) (adD t f))
def adY (t f:Int×Int):Int:=pD (rn (adN t f) (adD t f)) (rd (adN t f) (adD t f))
def adE (t f:Int×Int):Int:=pE (rn (adN t f) (adD t f)) (rd (adN t f) (adD t f))
def sm (t:Int×Int):List (Int×Int)→Int×Int×Int
 | []=>(t.1,t.2,0)
 |f :: r=>if adE t f=0 then sm (adX t f,adY t f) r else(0,0,adE t f)
def mx (t:Int×Int):List (Int×Int)→Int×Int
 | []=>t
 |f :: r=>if 0<cm (cn f.1 f.2 * cd t.1 t.2) (cn t.1 t.2 * cd f.1 f.2)then mx (cn f.1 f.2,cd f.1 f.2) r else mx t r
theorem zgp {L:List (Int×Int)} {k:Nat} (h:k<L.length):L.drop k=L.getD k (0,0) :: L.drop (k+1):=by
 rw[List.drop_eq_getElem_cons h,List.getD_eq_getElem?_getD,List.getElem?_eq_getElem h]
 rfl
theorem zpz {t:Int×Int} {L:List (Int×Int)} {k:Nat} (h:k<L.length) (he:0<cm (cn (L.getD k (0,0)).1 (L.getD k (0,0)).2 * cd t.1 t.2) (cn t.1 t.2 * cd (L.getD k (0,0)).1 (L.getD k (0,0)).2)):mx t (L.drop k)=mx (cn (L.getD k (0,0)).1 (L.getD k (0,0)).2,cd (L.getD k (0,0)).1 (L.getD k (0,0)).2) (L.drop (k+1)):=by
 rw[zgp h];show(if _ then _ else _)=_;rw[if_pos he]
theorem zq7 {t:Int×Int} {L:List (Int×Int)} {k:Nat} (h:k<L.length) (he:¬0<cm (cn (L.getD k (0,0)).1 (L.getD k (0,0)).2 * cd t.1 t.2) (cn t.1 t.2 * cd (L.getD k (0,0)).1 (L.getD k (0,0)).2)):mx t (L.drop k)=mx t (L.drop (k+1)):=by
 rw[zgp h];show(if _ then _ else _)=_;rw[if_neg he]
theorem zpA {t:Int×Int} {L:List (Int×Int)} {k:Nat} (h:L.length≤k):mx t (L.drop k)=t:=by
 rw[List.drop_of_length_le h]
 rfl
def In (x:Int):Prop:= -9223372036854775808≤x∧x≤9223372036854775807
def Fs (w:World) (ad:Addr) (L:List (Int×Int)):Prop:=∀ k,k<L.length→ad.block<w.heap.size∧In (L.getD k (0,0)).1∧In (L.getD k (0,0)).2
 ∧w.cell? (ad.add (k * 2))=some (.int .i64 (L.getD k (0,0)).1)∧w.cell? ⟨(ad.add (k * 2)).block,(ad.add (k * 2)).off+1,none⟩=some (.int .i64 (L.getD k (0,0)).2)
theorem zdW (ad:Addr) (n:Nat):(ad.add n).block=ad.block:=by unfold Addr.add;split<;>rfl
theorem Fs.keep {w w':World} {ad:Addr} {L:List (Int×Int)} (h:Fs w ad L) (hk:Keep w w'):Fs w' ad L:=by
 intro k hlt
 obtain⟨h1,h2,h3,h4,h5⟩:=h k hlt;have hs:=Below.size hk;refine⟨by omega,h2,h3,?_,?_⟩
 ·rw[Below.cell hk (by rw[zdW];exact h1)];exact h4
 ·rw[Below.cell (p:=⟨(ad.add (k * 2)).block,(ad.add (k * 2)).off+1,none⟩) hk (by show(ad.add (k * 2)).block<_;rw[zdW];exact h1)];exact h5
def Ft (w wr:World) (B:Nat) (x y:Int):Prop:=
 Keep w wr∧w.heap.size<wr.heap.size∧w.heap.size<B∧B<wr.heap.size
 ∧wr.cell? ⟨B,0,none⟩=some (.int .i64 x)∧wr.cell? ⟨B,1,none⟩=some (.int .i64 y)∧wr.frozen? ⟨B,0,none⟩=false∧wr.frozen? ⟨B,1,none⟩=false
 ∧wr.cell? ⟨w.heap.size,0,none⟩=some (.int .i64 0)∧wr.cell? ⟨w.heap.size,1,none⟩=some (.int .i64 0)∧wr.frozen? ⟨w.heap.size,0,none⟩=false∧wr.frozen? ⟨w.heap.size,1,none⟩=false
theorem ziH {a w:World} (B i:Nat) (v:Value) (hB:a.heap.size<B) (h:Keep a w):Keep a (w.setCell ⟨B,i,none⟩ v):=Below.setCell h (Nat.le_of_lt hB) v
theorem ziI {a w:World} (i:Nat) (v:Value) (h:Keep a w):Keep a (w.setCell ⟨a.heap.size,i,none⟩ v):=Below.setCell h (Nat.le_refl _) v
namespace AX
theorem znC {w wr wc:World} {B:Nat} {x y:Int} (h:Ft w wr B x y) (hk:Keep wr wc):Ft w wc B x y:=by
 obtain⟨h1,h2,h3,h4,h5,h6,h7,h8,h9,h10,h11,h12⟩:=h;have hs:=Below.size hk;refine⟨h1.trans hk,by omega,h3,by omega,?_,?_,?_,?_,?_,?_,?_,?_⟩
 ·rw[Below.cell (p:=⟨B,0,none⟩) hk h4];exact h5
 ·rw[Below.cell (p:=⟨B,1,none⟩) hk h4];exact h6
 ·rw[Below.frozen (p:=⟨B,0,none⟩) hk h4];exact h7
 ·rw[Below.frozen (p:=⟨B,1,none⟩) hk h4];exact h8
 ·rw[Below.cell (p:=⟨w.heap.size,0,none⟩) hk h2];exact h9
 ·rw[Below.cell (p:=⟨w.heap.size,1,none⟩) hk h2];exact h10
 ·rw[Below.frozen (p:=⟨w.heap.size,0,none⟩) hk h2];exact h11
 ·rw[Below.frozen (p:=⟨w.heap.size,1,none⟩) hk h2];exact h12
theorem znD (ad:Addr) (k:Nat):ad.add ((k+1) * 2)=⟨ad.block,ad.off+2+k * 2,none⟩:=by
 unfold Addr.add
 rw[if_neg (by omega)];have:ad.off+(k+1) * 2=ad.off+2+k * 2:=by omega
 rw[this]
def mxA:List (Int×Int)→Int×Int
 | []=>(0,1)
 |f :: r=>mx (cn f.1 f.2,cd f.1 f.2) r
theorem zkn {L:List (Int×Int)} (h:0<L.length):mxA L=mx (cn (L.getD 0 (0,0)).1 (L.getD 0 (0,0)).2,cd (L.getD 0 (0,0)).1 (L.getD 0 (0,0)).2) (L.drop 1):=by
 cases L with
 |nil=>simp at h
 |cons f r=>rfl
theorem cn_in {n d:Int} (h1:In n) (h2:In d):In (cn n d)∧In (cd n d):=by
 obtain⟨r1,r2,r3,r4,r5⟩:=zaG n d h1.1 h1.2 h2.2;exact⟨⟨r3,r4⟩,by omega,r5⟩
def gt (f t:Int×Int):Int:=cm (cn f.1 f.2 * cd t.1 t.2) (cn t.1 t.2 * cd f.1 f.2)
set_option maxHeartbeats 400000 in
theorem fmax_nil (a:Option Addr) (cap:Nat) (w:World):Calls Tryz.prog 37 #[.slice a 0 cap] w fun e w'=>e= .returned (.agg #[.int .i64 0,.int .i64 1])∧Keep w w':=by
 go_enter Tryz.func37,Tryz.ntmps37;go_wp2_with fail
 (refine(zdS _).mono ?_;rintro e w2 ⟨rfl,hk⟩;obtain⟨o1,k1,rfl⟩:=hk.ext;clear hk);go_wp2_with fail
 exact bodyPost_ret (v:= .agg #[.int .i64 0,.int .i64 1]) (by simp[results,Tryz.results37,go_sem]) rfl ⟨rfl,by repeat(first|apply zaa|apply Keep.alloc|apply Keep.drew|exact Keep.refl _)⟩
set_option maxHeartbeats 2000000 in
theorem ziJ (ad:Addr) (L:List (Int×Int)) (cap:Nat) (w:World) (hn:L.length≤50) (hn0:0<L.length) (hcap:L.length≤cap) (hcm:cap≤9223372036854775807) (hF:Fs w ad L) (X Y:Int) (HS:Hid (mxA L=(X,Y))) (h2:2≤L.length)
  (CN:Hid (∀(f:Int×Int),In f.1→In f.2→∀ w,Calls Tryz.prog 76 #[.agg #[.int .i64 f.1,.int .i64 f.2]] w fun e w'=>e= .returned (.agg #[.int .i64 (cn f.1 f.2),.int .i64 (cd f.1 f.2)])∧Keep w w'))
  (CM:Hid (∀(f t:Int×Int),In f.1→In f.2→In t.1→In t.2→∀ w,Calls Tryz.prog 77 #[.agg #[.int .i64 f.1,.int .i64 f.2],.agg #[.int .i64 t.1,.int .i64 t.2]] w fun e w'=>e= .returned (.int .i64 (gt f t))∧Keep w w')):
  Calls Tryz.prog 37 #[.slice (some ad) L.length cap] w fun e w'=>e= .returned (.agg #[.int .i64 X,.int .i64 Y])∧Keep w w':=by
 have hq0:=hF 0 hn0;have CN0:=hide (uq CN (L.getD 0 (0,0)) hq0.2.1 hq0.2.2.1);have i0:=cn_in hq0.2.1 hq0.2.2.1;have HS1:Hid (mx (cn (L.getD 0 (0,0)).1 (L.getD 0 (0,0)).2,cd (L.getD 0 (0,0)).1 (L.getD 0 (0,0)).2) (L.drop (0+1))=(X,Y)):=by
  have h:=uq HS;rw[zkn hn0]at h;exact hide h
 generalize cn (L.getD 0 (0,0)).1 (L.getD 0 (0,0)).2=t0 at *;generalize cd (L.getD 0 (0,0)).1 (L.getD 0 (0,0)).2=s0 at *;generalize (L.getD 0 (0,0)).1=f0 at *;generalize (L.getD 0 (0,0)).2=g0 at *;obtain⟨_,_,_,q4,q5⟩:=hq0;have ea:ad.add (0 * 2)=ad:=by simp[Addr.add]
 rw[ea]at q4 q5;have hlb:((L.length:Int)==0)=false:=beq_eq_false_iff_ne.2 (by omega);have hl1:(1:Int)≤(L.length:Int):=by omega
 have hc1:¬cap=1:=by omega
 have hc2:¬cap - 1=0:=by omega
 clear ea HS;go_enter Tryz.func37,Tryz.ntmps37;go_wp2_with fail
 (refine((uq CN0) _).mono ?_;rintro e w2 ⟨rfl,hk⟩;obtain⟨o1,k1,rfl⟩:=hk.ext;clear hk);go_wp2_with fail
 obtain⟨B,hB⟩:∃ B,B=w.heap.size+1+o1.size:=⟨_,rfl⟩;rw[← hB];have HB:=hide hB;clear hB
 go_loopw [17] (fun iv wr=>∃(k:Nat) (t:Int×Int),iv= .int .i64 (k:Int)∧k+1≤L.length∧In t.1∧In t.2∧Hid (mx t (L.drop (k+1))=(X,Y))∧Ft w wr B t.1 t.2) (fun iv _=>L.length - (intOf iv).toNat)
 case atStart=>
  refine⟨0,(t0,s0),rfl,by omega,i0.1,i0.2,HS1,?_⟩;have hB:=uq HB;subst hB;refine⟨by repeat(first|apply zaa|apply Keep.alloc|exact Keep.refl _),?_,?_,?_,?_,?_,?_,?_,?_,?_,?_,?_⟩<;>simp[go_sem]<;>omega
 case round=>
  obtain⟨k,t,rfl,hk,ht1,ht2,HI,hft⟩:=hrel;clear q4 q5;by_cases hlt:k+1<L.length
  ·obtain⟨q1,q2,q3,q4,q5⟩:=(hF.keep hft.1) (k+1) hlt;rw[znD]at q4 q5;have CMk:=hide (uq CM (L.getD (k+1) (0,0)) t q2 q3 ht1 ht2);have CNk:=hide (uq CN (L.getD (k+1) (0,0)) q2 q3);have ik:=cn_in q2 q3;have my:0<gt (L.getD (k+1) (0,0)) t→_:=zpz (t:=t) hlt;have mn:¬0<gt (L.getD (k+1) (0,0)) t→_:=zq7 (t:=t) hlt;rw[uq HI]at my mn;have MY:=hide my;have MN:=hide mn;clear my mn;generalize gt (L.getD (k+1) (0,0)) t=gv at *;generalize cn (L.getD (k+1) (0,0)).1 (L.getD (k+1) (0,0)).2=nx at *;generalize cd (L.getD (k+1) (0,0)).1 (L.getD (k+1) (0,0)).2=ny at *;generalize (L.getD (k+1) (0,0)).1=fx at *;generalize (L.getD (k+1) (0,0)).2=fy at *;obtain⟨tx,ty⟩:=t;simp only at *;have hfc:=hide hft;obtain⟨h1,h2',h3,h4,c0,c1,z0,z1,r0,r1,y0,y1⟩:=hft;have h1':=hide h1;have hlc:(k:Int)<((L.length - 1:Nat):Int):=by omega
   have hlc2:(k:Int)<(L.length:Int) - 1:=by omega
   clear q1 q2 q3 h1;by_cases hg:0<gv
   ·have HN:Hid (mx (nx,ny) (L.drop (k+1+1))=(X,Y)):=hide (uq MY hg).symm;clear MY MN HI;go_wp2_with fail
    (refine((uq CMk) _).mono ?_;rintro e w2 ⟨rfl,hk2⟩;obtain⟨o2,k2,rfl⟩:=hk2.ext;clear hk2);have b1:B<wr.heap.size+1:=by omega
    have b2:B<wr.heap.size+1+o2.size:=by omega
    have d1:w.heap.size<wr.heap.size+1:=by omega
    have d2:w.heap.size<wr.heap.size+1+o2.size:=by omega
    have ne1:¬B=w.heap.size:=by omega
    have ne2:¬w.heap.size=B:=by omega
    go_wp2_with fail
    (refine((uq CNk) _).mono ?_;rintro e w2 ⟨rfl,hk2⟩;obtain⟨o3,k3,rfl⟩:=hk2.ext;clear hk2);have b3:B<wr.heap.size+1+(o2.size+o3.size):=by omega
    have d3:w.heap.size<wr.heap.size+1+(o2.size+o3.size):=by omega
    go_wp2_with fail
    go_roundw
    case rel=>
     refine⟨k+1,(nx,ny),by go_num,by omega,ik.1,ik.2,HN,?_⟩;refine⟨?_,?_,h3,?_,?_,?_,?_,?_,?_,?_,?_,?_⟩
     ·repeat(first|exact uq h1'|apply zaa|apply Keep.alloc|apply Keep.drew|(refine ziH _ _ _ h3 ?_))
     all_goals simp[go_sem,b1,b2,b3,d1,d2,d3,ne1,ne2,h2',h4,c0,c1,r0,r1,y0,y1,z0,z1]
    case measure=>simp[intOf];omega
   ·have HN:Hid (mx (tx,ty) (L.drop (k+1+1))=(X,Y)):=hide (uq MN hg).symm;have hgb:decide (0<gv)=false:=by simpa using hg
    clear MY MN HI CNk;go_wp2_with fail
    (refine((uq CMk) _).mono ?_;rintro e w2 ⟨rfl,hk2⟩;obtain⟨o2,k2,rfl⟩:=hk2.ext;clear hk2);go_wp2_with fail
    go_roundw
    case rel=>exact⟨k+1,(tx,ty),by go_num,by omega,ht1,ht2,HN,znC (uq hfc) (by repeat(first|apply zaa|apply Keep.alloc|apply Keep.drew|exact Keep.refl _))⟩
    case measure=>simp[intOf];omega
  ·have hz:=zpA (t:=t) (show L.length≤k+1 by omega);rw[uq HI]at hz;obtain⟨tx,ty⟩:=t;simp only[Prod.mk.injEq]at hz;obtain⟨rfl,rfl⟩:=hz;obtain⟨h1,h2',h3,h4,c0,c1,z0,z1,r0,r1,y0,y1⟩:=hft;simp only at *;have hlc:¬(k:Int)<((L.length - 1:Nat):Int):=by omega
   have hlc2:¬(k:Int)<(L.length:Int) - 1:=by omega
   have h1':=hide h1;clear HI h1;go_wp2_with fail
   exact bodyPost_ret (v:= .agg #[.int .i64 X,.int .i64 Y]) (by simp[results,Tryz.results37,go_sem,r0,r1,h2']) rfl ⟨rfl,by repeat(first|exact uq h1'|apply zaa|apply Keep.alloc|apply Keep.drew|(refine ziI _ _ ?_))⟩
def mx2 (a b:Int×Int):Int×Int:=mxA [a,b]
theorem fmax_two (W:World) (b:Nat) (x y u v:Int) (hb:b<W.heap.size) (c0:W.cell? ⟨b,0,none⟩=some (.int .i64 x)) (c1:W.cell? ⟨b,1,none⟩=some (.int .i64 y)) (c2:W.cell? ⟨b,2,none⟩=some (.int .i64 u)) (c3:W.cell? ⟨b,3,none⟩=some (.int .i64 v)) (hx:In x) (hy:In y) (hu:In u) (hv:In v):
  Calls Tryz.prog 37 #[.slice (some ⟨b,0,none⟩) 2 2] W fun e w'=>e= .returned (.agg #[.int .i64 (mx2 (x,y) (u,v)).1,.int .i64 (mx2 (x,y) (u,v)).2])∧Keep W w':=by
 refine ziJ ⟨b,0,none⟩ [(x,y),(u,v)] 2 W (by simp) (by simp) (by simp) (by omega) ?_ _ _ (hide rfl) (by simp) (hide fun f h1 h2 w=>zbC f.1 f.2 w h1.1 h1.2 h2.1 h2.2) (hide fun f t h1 h2 h3 h4 w=>zkm f.1 f.2 t.1 t.2 w h1.1 h1.2 h2.1 h2.2 h3.1 h3.2 h4.1 h4.2);intro k hk
 simp at hk;rcases(show k=0∨k=1 by omega)with rfl|rfl
 ·exact⟨hb,hx,hy,by simpa [Addr.add]using c0,by simpa [Addr.add]using c1⟩
 ·exact⟨hb,hu,hv,by simpa [Addr.add]using c2,by simpa [Addr.add]using c3⟩
end AX
end Go.Proofs.YtcdhdhbjnpndkaaGreat
