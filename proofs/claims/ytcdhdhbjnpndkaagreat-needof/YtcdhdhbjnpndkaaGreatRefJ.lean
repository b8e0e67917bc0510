/- The document's answer for fractions, numbers by parts: slices that are not nil; the order against nought; trim, twice. -/
import Derived.Test.YtcdhdhbjnpndkaaGreatRefC
import Derived.Test.YtcdhdhbjnpndkaaGreatLSkip
namespace Go.Proofs.YtcdhdhbjnpndkaaGreat
open Go.RowKit
set_option linter.unusedVariables false
set_option maxRecDepth 10000
def Sl (w:World) (v:Value) (l:List Int):Prop:=∃ g cap,v= .slice (some ⟨g,0,none⟩) l.length cap∧g<w.heap.size∧l.length≤cap∧cap≤maxLen∧(∀ j,j<l.length→w.cell? ⟨g,j,none⟩=some (.int .u64 (l.getD j 0)))∧∃ cur,w.heap[g]? =some (.cells cur 157 (0,0))
theorem Sl.keep {w w':World} {v:Value} {l:List Int} (h:Sl w v l) (hk:Keep w w'):Sl w' v l:=by
 obtain⟨g,cap,e,hg,hl,hm,hc,cur,hcur⟩:=h;refine⟨g,cap,e,?_,hl,hm,fun j hj=>?_,cur,by rw[Below.block hk g hg];exact hcur⟩
 ·have:=Below.size hk;omega
 ·rw[Below.cell (p:=⟨g,j,none⟩) hk hg];exact hc j hj
theorem RowB.cases {B:Nat} {w:World} {v:Value} {l:List Int} (h:RowB B w v l):(v= .slice none 0 0∧l= [])∨Sl w v l:=by
 have h':=h.shape;rcases h' with h'|⟨g,cap,e,hg,_,hc⟩
 ·exact .inl h'
 ·obtain⟨_,h2⟩:=h;rcases h2 with ⟨h2,_⟩|⟨g2,cap2,cur,e2,_,hb,h3,h4,_⟩
  ·rw[e]at h2;cases h2
  ·rw[e]at e2;injection e2 with e3 e4 e5
   injection e3 with e6
   injection e6 with e7
   subst e5 e7;exact .inr ⟨g,cap,e,hg,h3,h4,hc,cur,hb⟩
theorem RowB.sl {B:Nat} {w:World} {v:Value} {l:List Int} (h:RowB B w v l) (hl:0<l.length):Sl w v l:=by
 rcases h.cases with ⟨_,h'⟩|h'
 ·rw[h']at hl;simp at hl
 ·exact h'
theorem Sl.grown {w w':World} {v:Value} {l:List Int} {row:Option Nat} {T:TypeId} (h:Sl w v l) (hg:w.grownBy w' row) (hT:T≠157) (hr:∀ k,row=some k→∃ cur,w.heap[k]? =some (.cells cur T (0,0))):Sl w' v l:=by
 obtain⟨g,cap,e,hlt,hl,hm,hc,cur,hcur⟩:=h;have hne:some g≠row:=by
  intro h
  obtain⟨cur2,h2⟩:=hr g h.symm;rw[hcur]at h2;injection h2 with h3
  injection h3 with h4 h5
  exact hT h5.symm
 have hb:=hg.block g hlt hne;refine⟨g,cap,e,Nat.lt_of_lt_of_le hlt hg.size,hl,hm,fun j hj=>?_,cur,by rw[hb];exact hcur⟩;rw[World.cell?_of_block (a:=⟨g,j,none⟩) hb];exact hc j hj
def zcN (w w':World) (e:Ending) (P:List Int→Prop):Prop:=∃ v l,e= .returned v∧Sl w' v l∧Dig l∧P l∧Keep w w'
theorem zbY (va vb:Value) (A B:List Int) (w:World) (ra:Sl w va A) (rb:Sl w vb B) (hA:Dig A) (hB:Dig B) (ha:A.length≤1000) (hb:B.length≤1000):
  Calls Tryz.prog 120 #[va,vb] w fun e w'=>e= .returned (.int .i64 (cm (val A) (val B)))∧w'=w:=by
 obtain⟨ga,capa,rfl,_,_,_,hca,_⟩:=ra;obtain⟨gb,capb,rfl,_,_,_,hcb,_⟩:=rb;by_cases h:A.length<B.length
 ·exact zjh A B w hA hB h ha hb ga capa hca gb capb hcb
 ·exact zji A B w hA hB (by omega) ha hb ga capa hca gb capb hcb
theorem zgG (va vb:Value) (A B:List Int) (w:World) (ra:Sl w va A) (rb:Sl w vb B) (hA:Dig A) (hB:Dig B) (ha:A.length≤1000) (hb:B.length≤1000) (hle:val B≤val A):
  Calls Tryz.prog 144 #[va,vb] w fun e w'=>za3 w w' e fun l=>l.length=A.length∧val l=val A - val B:=by
 obtain⟨ga,capa,rfl,hga,_,_,hca,_⟩:=ra;obtain⟨gb,capb,rfl,hgb,_,_,hcb,_⟩:=rb;exact zhy A B w hA hB ha hb (hide hle) ga capa hga hca gb capb hgb hcb
theorem znP (va vb:Value) (A B:List Int) (m:Nat) (w:World) (ra:Sl w va A) (rb:Sl w vb B) (hA:Dig A) (hB:Dig B) (ha:A.length≤m) (hb:B.length≤m) (hm:m≤999):
  Calls Tryz.prog 119 #[va,vb] w fun e w'=>za3 w w' e fun l=>B.length≤l.length∧l.length≤m+1∧val l=val A+val B:=by
 obtain⟨ga,capa,rfl,hga,_,_,hca,_⟩:=ra;obtain⟨gb,capb,rfl,hgb,_,_,hcb,_⟩:=rb;by_cases h:A.length≤B.length
 ·refine(zdB A B B.length w hA hB h (Nat.le_refl _) (.inr rfl) (by omega) ga capa hga hca gb capb hgb hcb).mono ?_;rintro e w' ⟨v,l,h1,h2,h3,⟨h4,h5,h6⟩,h7⟩;exact⟨v,l,h1,h2,h3,⟨h4,by omega,h6⟩,h7⟩
 ·refine(zdB A B A.length w hA hB (Nat.le_refl _) (by omega) (.inl rfl) (by omega) ga capa hga hca gb capb hgb hcb).mono ?_;rintro e w' ⟨v,l,h1,h2,h3,⟨h4,h5,h6⟩,h7⟩;exact⟨v,l,h1,h2,h3,⟨h4,by omega,h6⟩,h7⟩
set_option maxHeartbeats 2000000 in
theorem zjl (va:Value) (A:List Int) (w:World) (ra:Sl w va A) (hA:Dig A) (hm1:A.length≤1000):
  Calls Tryz.prog 120 #[va,.slice none 0 0] w fun e w'=>e= .returned (.int .i64 (cm (val A) 0))∧w'=w:=by
 obtain⟨ga,capa,rfl,_,_,_,hca,_⟩:=ra;have HCA:=hide hca;clear hca;go_enter Tryz.func120,Tryz.ntmps120;go_wp2
 go_loop [6] (fun i=>∃ k:Nat,i= .int .i64 ((k:Int) - 1)∧k≤A.length∧Hid (val (A.drop k)=0)) (fun i=>(intOf i+1).toNat)
 case atStart=>exact⟨A.length,rfl,by omega,hide (by rw[List.drop_of_length_le (by omega)];rfl)⟩
 case round=>
  obtain⟨k,rfl,hk,HD⟩:=hrel;by_cases hk0:k=0
  ·subst hk0;have he:cm (val A) 0=0:=by
    have:=uq HD;simp at this;simp[cm,this]
   have HE:=hide he;clear he;rw[show(((0:Nat):Int) - 1)= -1 by rfl];go_wp2;go_ret;exact⟨zaA (uq HE).symm,rfl⟩
  ·obtain⟨j,rfl⟩:∃ j,k=j+1:=⟨k - 1,by omega⟩;rw[show(((j+1:Nat):Int) - 1)=(j:Int) by omega];have dx:=zay hA j;have gt:=zcw (A:= []) (B:=A) zce hA (j:=j) (by simp[uq HD,val]);have eq:=zcL (A:=A) (B:= []) (j:=j) (by simp[uq HD,val]);obtain⟨x,hx⟩:∃ x,x=A.getD j 0:=⟨_,rfl⟩;rw[← hx]at dx gt eq;obtain⟨dx0,dx1⟩:=dx;have GT:=hide gt;have EQ:=hide eq;clear gt eq;have ka:j<A.length:=by omega
   have hcx:w.cell? ⟨ga,j,none⟩=some (.int .u64 x):=by rw[hx];exact uq HCA j ka
   clear hx;by_cases hc:0<x
   ·have he:cm (val A) 0=1:=by
     have:=uq GT (by simpa using hc);have h1:val ([]:List Int)=0:=rfl;rw[h1]at this;have h2:¬val A<0:=by omega
     have h3:¬val A=0:=by omega
     simp[cm,h2,h3]
    have HE:=hide he;clear he;go_wp2;go_ret;exact⟨zaA (uq HE).symm,rfl⟩
   ·have hx0:x=0:=by omega
    subst hx0;have hd:=uq EQ (by simp);have hd2:val (A.drop j)=0:=by rw[hd];simp[val]
    have HD2:=hide hd2;clear hd hd2;go_wp2
    go_round
    case rel=>exact⟨j,by go_num,by omega,HD2⟩
    case measure=>simp[intOf]<;>omega
theorem zhz {A:List Int} {w:World} {ga k:Nat} (hk:k≤A.length) (hca:∀ j,j<A.length→w.cell? ⟨ga,j,none⟩=some (.int .u64 (A.getD j 0))):
  ∀ j u,((A.take k).map (Value.int .u64))[j]? =some u→w.cell? ((⟨ga,0,none⟩:Addr).add j)=some u:=by
 intro j u hu
 rw[List.getElem?_map]at hu;by_cases hj:j<k
 ·rw[List.getElem?_take_of_lt hj,List.getElem?_eq_getElem (by omega)]at hu;simp at hu;subst hu;have:=hca j (by omega);rw[List.getD_eq_getElem?_getD,List.getElem?_eq_getElem (by omega)]at this;have e:((⟨ga,0,none⟩:Addr).add j)=⟨ga,j,none⟩:=by unfold Addr.add;split<;>simp_all
  rw[e];simpa using this
 ·rw[List.getElem?_eq_none (by simp;omega)]at hu;simp at hu
theorem zkG (l:List Int):∀ u∈l.map (Value.int .u64),u.oneCell'=true:=by
 intro u hu
 obtain⟨a,_,rfl⟩:=List.mem_map.1 hu
 rfl
set_option maxHeartbeats 2000000 in
theorem zjm (A:List Int) (w:World) (hA:Dig A) (hm:A.length≤1000) (ga capa:Nat) (hga:ga<w.heap.size) (hla:A.length≤capa) (hma:capa≤maxLen) (hca:∀ j,j<A.length→w.cell? ⟨ga,j,none⟩=some (.int .u64 (A.getD j 0))):
  Calls Tryz.prog 87 #[.slice (some ⟨ga,0,none⟩) A.length capa] w fun e w'=>zcN w w' e fun l=>l.length≤A.length∧val l=val A:=by
 obtain⟨i0,hi,hz0,hz1,hz2⟩:=zan zhx;have HCA:=hide hca;clear hca;go_enter Tryz.func87,Tryz.ntmps87;go_wp2
 go_loop [3] (fun i=>∃ k:Nat,i= .int .i64 (k:Int)∧k≤A.length∧Hid (val (A.take k)=val A)) (fun i=>(intOf i).toNat)
 case atStart=>exact⟨A.length,rfl,by omega,hide (by rw[List.take_length])⟩
 case round=>
  obtain⟨k,rfl,hk,HD⟩:=hrel;by_cases hk0:k=0
  ·subst hk0;have hv:val ([]:List Int)=val A:=by rw[← uq HD];rfl
   have HV:=hide hv;clear hv;go_wp2;go_ret;exact⟨_,[],rfl,⟨w.heap.size,0,rfl,by simp,by simp,by unfold maxLen;omega,fun j hj=>by simp at hj,#[],heap_alloc_new w _⟩,zce,⟨by simp,uq HV⟩,(Keep.refl w).alloc _⟩
  ·obtain⟨j,rfl⟩:∃ j,k=j+1:=⟨k - 1,by omega⟩;have hts:=zaD A j;obtain⟨x,hx⟩:∃ x,x=A.getD j 0:=⟨_,rfl⟩;have dx:=zay hA j;rw[← hx]at dx hts;obtain⟨dx0,dx1⟩:=dx;have hcx:w.cell? ⟨ga,j,none⟩=some (.int .u64 x):=by rw[hx];exact uq HCA j (by omega)
   clear hx;by_cases hx0:x=0
   ·subst hx0;have hd:val (A.take j)=val A:=by rw[← uq HD,hts];omega
    have HD2:=hide hd;clear hd hts;go_wp2
    go_round
    case rel=>exact⟨j,by go_num,by omega,HD2⟩
    case measure=>simp[intOf]<;>omega
   ·have hxb:(x==0)=false:=by simpa using hx0
    clear hts;unfold maxLen at hma
    have hk1:Keep w (w.alloc (.cells #[] 157)):=(Keep.refl w).alloc _;have tc:=zhz (w:=w.alloc (.cells #[] 157)) hk (fun i hi=>by rw[Below.cell (p:=⟨ga,i,none⟩) hk1 hga];exact uq HCA i hi);have hlen:(((A.take (j+1)).map (Value.int .u64))).length=(j+1) * 1:=by simp;omega
    have hml:0+(j+1)≤maxLen:=by unfold maxLen;omega
    have TC:=hide tc;have HL:=hide hlen;have HK1:=hide hk1;clear tc hlen hk1;go_wp2_with (first|(at_builtin;refine wpList_append_own _ rfl _ _ 154 rfl w.heap.size 157 i0 (.int .u64 0) 1 8 Tryz.underlying154 hi hz0 hz1 hz2 rfl (by decide) _ _ _ rfl (World.ownsRow_made w #[] 0 (Nat.le_refl _) (Nat.zero_le _) rfl) ⟨ga,0,none⟩ (j+1) capa ((A.take (j+1)).map (Value.int .u64)) rfl (uq HL) (uq TC) (zkG _) hml (by omega) (by simp) ?_)|go_in)
    intro v' w1 hown' hgrow hnil
    have hb1:Below w.heap.size w w1:=Below.grown (uq HK1) hgrow (by simp) (fun k hk=>by simp[Value.ownBlock]at hk;omega);have hrow:RowB w.heap.size w1 v' (A.take (j+1)):=by
     unfold RowB
     have e:(A.take (j+1)).length=0+(j+1):=by simp;omega
     rw[e];simpa using hown'
    have hd:=zdd hA (j+1);have hsl:Sl w1 v' (A.take (j+1)):=hrow.sl (by simp;omega);have hle:(A.take (j+1)).length≤A.length:=by simp;omega
    have HS:=hide hsl;have HDD:=hide hd;have HLE:=hide hle;clear hown' hgrow hnil hrow hsl hd hle;go_wp2;go_ret;exact⟨_,_,rfl,uq HS,uq HDD,⟨uq HLE,uq HD⟩,hb1⟩
set_option maxHeartbeats 400000 in
theorem zkH (w:World):
  Calls Tryz.prog 87 #[.slice none 0 0] w fun e w'=>zcN w w' e fun l=>l.length≤0∧val l=0:=by
 go_enter Tryz.func87,Tryz.ntmps87;go_wp2
 go_loop [3] (fun i=>i= .int .i64 0) (fun i=>0)
 case atStart=>rfl
 case round=>
  subst hrel;go_wp2;go_ret;exact⟨_,[],rfl,⟨w.heap.size,0,rfl,by simp,by simp,by unfold maxLen;omega,fun j hj=>by simp at hj,#[],heap_alloc_new w _⟩,zce,⟨by simp,rfl⟩,(Keep.refl w).alloc _⟩
theorem zbZ (va:Value) (A:List Int) (w:World) (ra:(va= .slice none 0 0∧A= [])∨Sl w va A) (hA:Dig A) (hm:A.length≤1000):
  Calls Tryz.prog 87 #[va] w fun e w'=>zcN w w' e fun l=>l.length≤A.length∧val l=val A:=by
 rcases ra with ⟨rfl,rfl⟩|⟨ga,capa,rfl,hga,hla,hma,hca,_⟩
 ·exact zkH w
 ·exact zjm A w hA hm ga capa hga hla hma hca
set_option maxHeartbeats 400000 in
theorem zeW (va:Value) (A:List Int) (w:World) (ra:Sl w va A) (hA:Dig A) (hm:A.length≤900) (h0:0<A.length):
  Calls Tryz.prog 143 #[va] w fun e w'=>zcN w w' e fun l=>0<l.length∧l.length≤A.length+1∧val l=2 * val A:=by
 have T:=hide (znP va va A A A.length w ra ra hA hA (Nat.le_refl _) (Nat.le_refl _) (by omega));clear ra;go_enter Tryz.func143,Tryz.ntmps143;go_wp2_with fail
 refine(uq T).mono ?_;rintro e w1 ⟨v,l,rfl,h2,h3,⟨h4,h5,h6⟩,h7⟩;have H2:=hide (h2.sl (by omega));have H6:Hid (val l=2 * val A):=by rw[h6];exact hide (by omega)
 clear h2 h6;go_wp2;go_ret;exact⟨_,l,rfl,uq H2,h3,⟨by omega,h5,uq H6⟩,h7⟩
theorem zgT:(Tryz.prog.info? 154).map (fun i=>(i.zero,i.size,i.bytes))=some (some (.slice none 0 0),1,24):=by kernel_rfl
theorem zjn {P:Program} {t:TypeId} {z:Option Value} {a b:Nat} (h:(P.info? t).map (fun i=>(i.zero,i.size,i.bytes))=some (z,a,b)):∃ i,P.info? t=some i∧i.zero=z∧i.size=a∧i.bytes=b:=by
 cases hi:P.info? t with
 |none=>rw[hi]at h;simp at h
 |some i=>rw[hi]at h;simp at h;exact⟨i,rfl,h.1,h.2.1,h.2.2⟩
def znQ:Value→Nat
 | .slice _ n _=>n
 | _=>0
def Tws (b:Int) (w:World) (k:Nat) (vs:List Value):Prop:=vs.length=k∧∀ i,i<k→∃ L,Sl w (vs.getD i (.bool false)) L∧Dig L∧L.length≤400∧val L=b * 2 ^ i
theorem Tws.keep {b:Int} {w w':World} {k:Nat} {vs:List Value} (h:Tws b w k vs) (hk:Keep w w'):Tws b w' k vs:=
 ⟨h.1,fun i hi=>by obtain⟨L,h1,h2⟩:=h.2 i hi;exact⟨L,h1.keep hk,h2⟩⟩
theorem Tws.grown {b:Int} {w w':World} {k:Nat} {vs:List Value} {row:Option Nat} {T:TypeId} (h:Tws b w k vs) (hg:w.grownBy w' row) (hT:T≠157) (hr:∀ k,row=some k→∃ cur,w.heap[k]? =some (.cells cur T (0,0))):Tws b w' k vs:=
 ⟨h.1,fun i hi=>by obtain⟨L,h1,h2⟩:=h.2 i hi;exact⟨L,h1.grown hg hT hr,h2⟩⟩
theorem Tws.snoc {b:Int} {w:World} {k:Nat} {vs:List Value} {v:Value} {L:List Int} (h:Tws b w k vs) (h1:Sl w v L) (h2:Dig L) (h3:L.length≤400) (h4:val L=b * 2 ^ k):Tws b w (k+1) (vs++ [v]):=by
 obtain⟨hl,hi⟩:=h;refine⟨by simp[hl],fun i hlt=>?_⟩;by_cases hik:i<k
 ·obtain⟨L',g⟩:=hi i hik;refine⟨L',?_⟩;rw[List.getD_eq_getElem?_getD,List.getElem?_append_left (by omega),← List.getD_eq_getElem?_getD];exact g
 ·have:i=k:=by omega
  subst this;refine⟨L,?_⟩;rw[List.getD_eq_getElem?_getD,List.getElem?_append_right (by omega),hl];simpa using⟨h1,h2,h3,h4⟩
theorem zeX {w:World} {B:Nat} {T:TypeId} {v:Value} {n:Nat} {xs:List Value} (h:w.ownsRow B T 1 v n xs):∀ k,v.ownBlock=some k→∃ cur,w.heap[k]? =some (.cells cur T (0,0)):=by
 intro k hk
 obtain⟨_,h2⟩:=h;rcases h2 with ⟨rfl,_⟩|⟨g,cap,cur,rfl,_,hb,_⟩
 ·simp[Value.ownBlock]at hk
 ·simp[Value.ownBlock]at hk;subst hk;exact⟨cur,hb⟩
theorem zbP {w wr w1:World} {T:TypeId} {v:Value} {n:Nat} {xs:List Value} {o:Obj} (hown:wr.ownsRow w.heap.size T 1 v n xs) (hb:Below w.heap.size w wr) (hg:(wr.alloc o).grownBy w1 v.ownBlock):Below w.heap.size w w1:=
 Below.grown (hb.alloc hb.size o) hg (by have:=hb.size;simp;omega) (fun k hk=>(World.ownsRow.lt hown k hk).1)
theorem zln {b a:Int} {k:Nat} (hb:1≤b) (h:b * 2 ^ k≤a) (ha:a<pw 20):k<320:=by
 by_cases hk:k<320
 ·exact hk
 ·exfalso;obtain⟨N,hN⟩:∃ N:Nat,N=16 * 20:=⟨_,rfl⟩;have h4:pw 20=(2:Int) ^ N:=by
   unfold pw
   rw[hN,Int.pow_mul]
   rfl
  have h1:(2:Int) ^ N≤2 ^ k:=by
   obtain⟨d,rfl⟩:∃ d,k=N+d:=⟨k - N,by omega⟩;rw[Int.pow_add];have:(1:Int)≤2 ^ d:=Int.pow_pos (by omega);have h3:(0:Int)≤2 ^ N:=Int.le_of_lt (Int.pow_pos (by omega));have:=Int.mul_le_mul_of_nonneg_left this h3;omega
  have h2:(2:Int) ^ k≤b * 2 ^ k:=by
   have h3:(0:Int)≤2 ^ k:=Int.le_of_lt (Int.pow_pos (by omega));have:=Int.mul_le_mul_of_nonneg_right hb h3;omega
  rw[h4]at ha;generalize (2:Int) ^ N=P at *;generalize (2:Int) ^ k=Q at *;omega
theorem zeY (g n cap:Nat):∀ u∈ [Value.slice (some ⟨g,0,none⟩) n cap],u.oneCell'=true:=by intro u hu;simp at hu;subst hu;rfl
theorem zb0 (b:Int) (k:Nat):2 * (b * 2 ^ k)=b * 2 ^ (k+1):=by rw[Int.pow_succ,← Int.mul_assoc b,Int.mul_comm 2 (b * 2 ^ k)]
set_option maxHeartbeats 1000000 in
theorem zhA (va vb:Value) (A B:List Int) (w:World) (ra:Sl w va A) (rb:Sl w vb B) (hA:Dig A) (hB:Dig B) (ha:A.length≤20) (hb:B.length≤20) (hlt:val A<val B):
  Calls Tryz.prog 121 #[va,vb] w fun e w'=>e= .returned va∧w'=w:=by
 have O:=hide (zbY vb va B A w rb ra hB hA (by omega) (by omega));have hc:0<cm (val B) (val A):=by
  have:=zcW (x:=val B) (y:=val A);omega
 generalize cm (val B) (val A)=c at *;have hcb:decide (c≤0)=false:=by simp;omega
 clear ra rb hlt;go_enter Tryz.func121,Tryz.ntmps121;go_wp2_with fail
 go_loop [5,6] (fun l t=>l= .slice none 0 0∧t=vb) (fun _ _=>0)
 case atStart=>exact⟨rfl,rfl⟩
 case round=>
  obtain⟨rfl,rfl⟩:=hrel;go_wp2_with fail
  refine(uq O).mono ?_;rintro e w1 ⟨rfl,rfl⟩;go_wp2_with fail
  go_loop [0,7] (fun a i=>a=va∧i= .int .i64 (-1)) (fun _ _=>0)
  case atStart=>exact⟨rfl,rfl⟩
  case round=>
   obtain⟨rfl,rfl⟩:=hrel;go_wp2;go_ret;exact⟨rfl,rfl⟩
theorem zlo {b:Int} {w:World} {k i:Nat} {vs:List Value} (h:Tws b w k vs) (hi:i<k):∃ L g cap,vs.getD i (.bool false)= .slice (some ⟨g,0,none⟩) L.length cap∧Sl w (.slice (some ⟨g,0,none⟩) L.length cap) L∧Dig L∧L.length≤400∧val L=b * 2 ^ i:=by
 obtain⟨L,h1,h2,h3,h4⟩:=h.2 i hi;have h1':=h1;obtain⟨g,cap,e,_⟩:=h1';rw[e]at h1;exact⟨L,g,cap,e,h1,h2,h3,h4⟩
theorem zlp {w:World} {B:Nat} {T:TypeId} {g cap n:Nat} {vs:List Value} (h:w.ownsRow B T 1 (.slice (some ⟨g,0,none⟩) n cap) n vs) (i:Nat) (hi:i<n):w.cell? ⟨g,i,none⟩=some (vs.getD i (.bool false)):=by
 have hl:vs.length=n * 1:=h.1;have:=World.ownsRow.cellAt h i (by omega);rw[this,List.getD_eq_getElem?_getD,List.getElem?_eq_getElem (by omega)]
 rfl
theorem zgH {w w':World} {B:Nat} {T:TypeId} {v:Value} {n:Nat} {xs:List Value} (h:w.ownsRow B T 1 v n xs) (hk:Keep w w'):w'.ownsRow B T 1 v n xs:=by
 obtain⟨h1,h2⟩:=h;refine⟨h1,?_⟩;rcases h2 with h2|⟨g,cap,cur,e,hg,hh,r⟩
 ·exact .inl h2
 ·have hlt:g<w.heap.size:=by
   by_cases hc:g<w.heap.size
   ·exact hc
   ·rw[Array.getElem?_eq_none (by omega)]at hh;cases hh
  exact .inr ⟨g,cap,cur,e,hg,by rw[Below.block hk g hlt];exact hh,r⟩
theorem zcc {w:World} {B:Nat} {T:TypeId} {v:Value} {n:Nat} {xs:List Value} (h:w.ownsRow B T 1 v n xs):znQ v=n:=by
 obtain⟨_,h2⟩:=h;rcases h2 with ⟨rfl,h⟩|⟨g,cap,cur,rfl,_⟩
 ·exact h.symm
 ·rfl
theorem zgI {w:World} {B:Nat} {T:TypeId} {v:Value} {n:Nat} {xs:List Value} (h:w.ownsRow B T 1 v n xs) (hn:0<n):∃ g cap,v= .slice (some ⟨g,0,none⟩) n cap∧B≤g∧g<w.heap.size:=by
 obtain⟨_,h2⟩:=h;rcases h2 with ⟨_,h⟩|⟨g,cap,cur,rfl,hg,hh,_⟩
 ·omega
 ·refine⟨g,cap,rfl,hg,?_⟩;by_cases hc:g<w.heap.size
  ·exact hc
  ·rw[Array.getElem?_eq_none (by omega)]at hh;cases hh
def zlq (a b c:Int) (j:Nat):Prop:=0≤c∧c<b * 2 ^ j∧c % b=a % b
theorem zkI {a b:Int} {k:Nat} (h0:0≤a) (h:a<b * 2 ^ k):zlq a b a k:=⟨h0,h,rfl⟩
theorem zp3 {a b c d:Int} {i:Nat} (h:zlq a b c (i+1)) (hd:d=b * 2 ^ i) (hle:d≤c):zlq a b (c - d) i:=by
 obtain⟨h1,h2,h3⟩:=h;rw[← zb0,← hd]at h2;refine⟨by omega,by rw[← hd];omega,?_⟩;rw[← h3,hd,Int.sub_mul_emod_self_left]
theorem zrq {a b c d:Int} {i:Nat} (h:zlq a b c (i+1)) (hd:d=b * 2 ^ i) (hle:¬d≤c):zlq a b c i:=by
 obtain⟨h1,h2,h3⟩:=h;exact⟨h1,by rw[← hd];omega,h3⟩
theorem zp4 {a b c:Int} (h:zlq a b c 0):c=a % b:=by
 obtain⟨h1,h2,h3⟩:=h;rw[← h3,Int.emod_eq_of_lt h1 (by simpa using h2)]
set_option maxHeartbeats 4000000 in
theorem zkJ (va vb:Value) (A B:List Int) (w:World) (ra:Sl w va A) (rb:Sl w vb B) (hA:Dig A) (hB:Dig B) (ha:A.length≤20) (hb:B.length≤20) (hb1:1≤val B) (hle0:val B≤val A):
  Calls Tryz.prog 121 #[va,vb] w fun e w'=>zcN w w' e fun l=>l.length≤A.length∧val l=val A % val B:=by
 obtain⟨i0,hi,hz0,hz1,hz2⟩:=zjn zgT;have hab:val A<pw 20:=Int.lt_of_lt_of_le (zbh hA).2 (zfM ha);have hB0:0<B.length:=by
  cases B with
  |nil=>simp[val]at hb1
  |cons=>simp
 obtain⟨b,hbe⟩:∃ b,b=val B:=⟨_,rfl⟩;obtain⟨a,hae⟩:∃ a,a=val A:=⟨_,rfl⟩;rw[← hbe]at hb1 hle0 ⊢;rw[← hae]at hle0 hab ⊢;have HBE:=hide hbe;have HAE:=hide hae;clear hbe hae;go_enter Tryz.func121,Tryz.ntmps121;go_wp2_with fail
 go_loopw [5,6] (fun lv tv wr=>∃(k:Nat) (vs:List Value) (L:List Int),k≤320∧wr.ownsRow w.heap.size 154 1 lv k vs∧Tws b wr k vs∧Sl wr tv L∧Dig L∧L.length≤20+k∧0<L.length∧Hid (val L=b * 2 ^ k)∧Keep w wr) (fun lv _ _=>400 - znQ lv)
 case atStart=>exact⟨0,[],B,by omega,World.ownsRow_nil _ _ _ _,⟨rfl,fun i hi=>by omega⟩,rb,hB,by omega,hB0,hide (by rw[uq HBE];simp),Keep.refl _⟩
 case round=>
  obtain⟨k,vs,L,hk,hown,htw,hsl,hdl,hll,hl0,HV,hkeep⟩:=hrel;have O:=hide (zbY _ va L A wr hsl (ra.keep hkeep) hdl hA (by omega) (by omega));by_cases hle:b * 2 ^ k≤a
  ·have hk2:=zln hb1 hle hab;have hcm:cm (val L) (val A)≤0:=by rw[zcW,uq HV,← uq HAE];exact hle
   generalize cm (val L) (val A)=c at *;obtain⟨gt,capt,et,hgt⟩:=hsl;subst et;have hsl:Sl wr (.slice (some ⟨gt,0,none⟩) L.length capt) L:=⟨gt,capt,rfl,hgt⟩;have a3:k+1≤maxLen:=by unfold maxLen;omega
   have HSL:=hide hsl;have HTW:=hide htw;have hsz:=Below.size hkeep;clear hsl htw hgt hle hle0 ra rb;go_wp2_with fail
   refine(uq O).mono ?_;rintro e wr ⟨rfl,rfl⟩;go_wp2_with (first|(at_builtin;refine wpList_append_own _ rfl _ _ 208 rfl w.heap.size 154 i0 (.slice none 0 0) 1 24 Tryz.underlying208 hi hz0 hz1 hz2 rfl (by decide) _ _ _ rfl (World.ownsRow.alloc hown _) ⟨wr.heap.size,0,none⟩ 1 1 [.slice (some ⟨gt,0,none⟩) L.length capt] rfl rfl (cell_one_new _ _ _) (zeY _ _ _) a3 (by omega) (by simp;omega) ?_)|fail)
   intro v' w1 hown' hgrow _
   have hb1':Keep w w1:=zbP hown hkeep hgrow;have hal:Keep wr (wr.alloc (.cells #[.slice (some ⟨gt,0,none⟩) L.length capt] 154)):=(Keep.refl wr).alloc _;have hrb:=zeX (World.ownsRow.alloc hown (.cells #[.slice (some ⟨gt,0,none⟩) L.length capt] 154));have hsl1:Sl w1 (.slice (some ⟨gt,0,none⟩) L.length capt) L:=((uq HSL).keep hal).grown hgrow (by decide) hrb;have htw1:=(((uq HTW).keep hal).grown hgrow (by decide) hrb).snoc hsl1 hdl (by omega) (uq HV);have TW:=hide (zeW _ L w1 hsl1 hdl (by omega) hl0);have HT1:=hide htw1;have hlen:=zcc hown;have hlen':=zcc hown';have HLN:=hide hlen;have HLN':=hide hlen';have HOWN:=hide hown';have HB1:=hide hb1';clear hown hown' hgrow hal hrb hsl1 htw1 HSL HTW hkeep hlen hlen' hb1';go_wp2_with fail
   refine(uq TW).mono ?_;rintro e w2 ⟨v2,l2,rfl,s2,d2,⟨p0,p1,p2⟩,k2⟩;have own2:=zgH (uq HOWN) k2;have tw2:=(uq HT1).keep k2;have HV2:Hid (val l2=b * 2 ^ (k+1)):=by rw[p2,uq HV,zb0];exact hide rfl
   have HB2:Hid (Keep w w2):=hide ((uq HB1).trans k2);have OWN2:=hide own2;have TW2:=hide tw2;have S2:=hide s2;clear own2 tw2 s2 p2 k2;go_wp2;go_roundw
   case rel=>exact⟨k+1,_,l2,by omega,uq OWN2,uq TW2,uq S2,d2,by omega,p0,HV2,uq HB2⟩
   case measure=>
    have h1:=uq HLN;have h2:=uq HLN';simp[h1,h2];omega
  ·have hcm:0<cm (val L) (val A):=by
    have h:=zcW (x:=val L) (y:=val A);rw[uq HV,← uq HAE]at h;have:¬cm (val L) (val A)≤0:=by rw[zcW,uq HV,← uq HAE];exact hle
    omega
   generalize cm (val L) (val A)=c at *;have hcb:decide (c≤0)=false:=by simp;omega
   have hk0:0<k:=by
    rcases Nat.eq_zero_or_pos k with h|h
    ·subst h;exact absurd (by simpa using hle0) hle
    ·exact h
   obtain⟨g,cap,rfl,_,hlt⟩:=zgI hown hk0;have HR:=hide (zkI (a:=a) (b:=b) (k:=k) (by omega) (by omega));have HTW:=hide htw;have HOWN:=hide hown;have RA:=hide (ra.keep hkeep);clear hsl htw hown hle hle0 ra rb HV;go_wp2_with fail
   refine(uq O).mono ?_;rintro e wr ⟨rfl,rfl⟩;go_wp2_with fail
   obtain⟨wo,rfl⟩:∃ wo,wo=wr:=⟨_,rfl⟩
   go_loopw [0,7] (fun av iv wi=>∃(j:Nat) (C:List Int),iv= .int .i64 ((j:Int) - 1)∧j≤k∧Sl wi av C∧Dig C∧C.length≤A.length∧Hid (zlq a b (val C) j)∧Keep wo wi) (fun _ iv _=>(intOf iv+1).toNat)
   case atStart=>exact⟨k,A,rfl,Nat.le_refl _,uq RA,hA,Nat.le_refl _,by rw[← uq HAE];exact HR,Keep.refl _⟩
   case round=>
    obtain⟨j,C,rfl,hj,hsc,hdc,hlc,HI,hki⟩:=hrel;by_cases hj0:j=0
    ·subst hj0;have he:=zp4 (uq HI);have HE:=hide he;have HK:=hide (Keep.trans hkeep hki);have HSC:=hide hsc;clear he hsc hki hkeep;rw[show(((0:Nat):Int) - 1)= -1 by rfl];go_wp2;go_ret;exact⟨_,C,rfl,uq HSC,hdc,⟨hlc,uq HE⟩,uq HK⟩
    ·obtain⟨i,rfl⟩:∃ i,j=i+1:=⟨j - 1,by omega⟩;rw[show(((i+1:Nat):Int) - 1)=(i:Int) by omega];obtain⟨M,gm,capm,em,hsm,hdm,hlm,hvm⟩:=zlo ((uq HTW).keep hki) (show i<k by omega);have hcell:wr.cell? ⟨g,i,none⟩=some (.slice (some ⟨gm,0,none⟩) M.length capm):=by
      rw[Below.cell (p:=⟨g,i,none⟩) hki hlt,zlp (uq HOWN) i (by omega),em]
     have hM0:0<M.length∨M.length=0:=by omega
     have O2:=hide (zbY _ _ M C wr hsm hsc hdm hdc (by omega) (by omega));by_cases hle:val M≤val C
     ·have hcm2:cm (val M) (val C)≤0:=by rw[zcW];exact hle
      have HI2:=hide (zp3 (uq HI) hvm hle);have MI:=hide (zgG _ _ C M wr hsc hsm hdc hdm (by omega) (by omega) hle);generalize cm (val M) (val C)=c2 at *;clear hsm hsc hvm hle em HI O;go_wp2_with fail
      refine(uq O2).mono ?_;rintro e wr ⟨rfl,rfl⟩;go_wp2_with fail
      refine(uq MI).mono ?_;rintro e w2 ⟨v2,l2,rfl,r2,d2,⟨m0,m1⟩,k2⟩;have TR:=hide (zbZ v2 l2 w2 r2.cases d2 (by omega));have M1:=hide m1;clear r2 m1;go_wp2_with fail
      refine(uq TR).mono ?_;rintro e w3 ⟨v3,l3,rfl,s3,d3,⟨q0,q1⟩,k3⟩;have HI3:Hid (zlq a b (val l3) i):=by rw[q1,uq M1];exact HI2
      have HK3:=hide ((Keep.trans hki k2).trans k3);have S3:=hide s3;clear s3 q1 HI2 k2 k3;go_wp2;go_roundw
      case rel=>exact⟨i,l3,by go_num,by omega,uq S3,d3,by omega,HI3,uq HK3⟩
      case measure=>simp[intOf]<;>omega
     ·have hcm2:0<cm (val M) (val C):=by
       have:¬cm (val M) (val C)≤0:=by rw[zcW];exact hle
       omega
      have HI2:=hide (zrq (uq HI) hvm hle);generalize cm (val M) (val C)=c2 at *;have hcb2:decide (c2≤0)=false:=by simp;omega
      have HSC:=hide hsc;clear hsm hsc hvm hle em HI O;go_wp2_with fail
      refine(uq O2).mono ?_;rintro e wr ⟨rfl,rfl⟩;go_wp2;go_roundw
      case rel=>exact⟨i,C,by go_num,by omega,uq HSC,hdc,hlc,HI2,hki⟩
      case measure=>simp[intOf]<;>omega
theorem zkK (va vb:Value) (A B:List Int) (w:World) (ra:Sl w va A) (rb:Sl w vb B) (hA:Dig A) (hB:Dig B) (ha:A.length≤20) (hb:B.length≤20) (hb1:1≤val B):
  Calls Tryz.prog 121 #[va,vb] w fun e w'=>zcN w w' e fun l=>l.length≤A.length∧val l=val A % val B:=by
 by_cases h:val B≤val A
 ·exact zkJ va vb A B w ra rb hA hB ha hb hb1 h
 ·refine(zhA va vb A B w ra rb hA hB ha hb (by omega)).mono ?_;rintro e w' ⟨rfl,rfl⟩;exact⟨va,A,rfl,ra,hA,⟨Nat.le_refl _,(Int.emod_eq_of_lt (zbh hA).1 (by omega)).symm⟩,Keep.refl _⟩
def zet (a b c q:Int) (j:Nat):Prop:=0≤c∧c<b * 2 ^ j∧0≤q∧a=q * (b * 2 ^ j)+c
theorem zkL {a b:Int} {k:Nat} (h0:0≤a) (h:a<b * 2 ^ k):zet a b a 0 k:=⟨h0,h,by omega,by simp⟩
theorem zp5 {a b c d q:Int} {i:Nat} (h:zet a b c q (i+1)) (hd:d=b * 2 ^ i) (hle:d≤c):zet a b (c - d) (q * 2+1) i:=by
 obtain⟨h1,h2,h3,h4⟩:=h;rw[← zb0,← hd]at h2 h4;refine⟨by omega,by rw[← hd];omega,by omega,?_⟩;rw[← hd,h4,Int.add_mul,Int.mul_assoc];omega
theorem zrr {a b c d q:Int} {i:Nat} (h:zet a b c q (i+1)) (hd:d=b * 2 ^ i) (hle:¬d≤c):zet a b c (q * 2) i:=by
 obtain⟨h1,h2,h3,h4⟩:=h;rw[← zb0,← hd]at h2 h4;refine⟨h1,by rw[← hd];omega,by omega,?_⟩;rw[← hd,h4,Int.mul_assoc]
theorem zrs {a b c q:Int} {i:Nat} (h:zet a b c q (i+1)) (hb:1≤b) (ha:a<b * 18446744073709551616):0≤q∧q≤9223372036854775807:=by
 obtain⟨h1,h2,h3,h4⟩:=h;refine⟨h3,?_⟩;have p1:(1:Int)≤2 ^ i:=Int.pow_pos (by omega);have p2:b * 1≤b * 2 ^ i:=Int.mul_le_mul_of_nonneg_left p1 (by omega);have p3:q * (2 * b)≤q * (b * 2 ^ (i+1)):=by
  refine Int.mul_le_mul_of_nonneg_left ?_ h3;rw[← zb0];omega
 have p4:q * (2 * b)<b * 18446744073709551616:=by omega
 by_cases hq:q≤9223372036854775807
 ·exact hq
 ·exfalso;have p5:9223372036854775808 * (2 * b)≤q * (2 * b):=Int.mul_le_mul_of_nonneg_right (by omega) (by omega);omega
theorem zp6 {a b c q:Int} (h:zet a b c q 0) (hb:1≤b):q=a / b:=by
 obtain⟨h1,h2,h3,h4⟩:=h;have e:a=c+b * q:=by rw[h4];simp[Int.mul_comm];omega
 rw[e,Int.add_mul_ediv_left _ _ (by omega),Int.ediv_eq_zero_of_lt h1 (by simpa using h2)];omega
theorem zkM {a b:Int} {k:Nat} (hb:1≤b) (hk:64<k) (h:b * 2 ^ (k - 1)≤a):¬a / b<18446744073709551616:=by
 obtain⟨d,hd⟩:∃ d,k - 1=64+d:=⟨k - 1 - 64,by omega⟩;rw[hd,Int.pow_add]at h;have p1:(1:Int)≤2 ^ d:=Int.pow_pos (by omega);have e:(2:Int) ^ 64=18446744073709551616:=by decide
 rw[e]at h;have p2:b * (18446744073709551616 * 1)≤b * (18446744073709551616 * 2 ^ d):=Int.mul_le_mul_of_nonneg_left (by omega) (by omega);intro hlt
 have:=Int.lt_mul_of_ediv_lt (by omega) hlt;omega
theorem zkN {a b:Int} {k:Nat} (hb:1≤b) (hk:k≤64) (h:a<b * 2 ^ k):a<b * 18446744073709551616:=by
 obtain⟨d,hd⟩:∃ d,64=k+d:=⟨64 - k,by omega⟩;have e:(2:Int) ^ 64=18446744073709551616:=by decide
 rw[hd,Int.pow_add]at e;have p1:(1:Int)≤2 ^ d:=Int.pow_pos (by omega);have p0:(1:Int)≤2 ^ k:=Int.pow_pos (by omega);have p2:2 ^ k * (1:Int)≤2 ^ k * 2 ^ d:=Int.mul_le_mul_of_nonneg_left p1 (by omega);have p3:b * (2 ^ k * 1)≤b * (2 ^ k * 2 ^ d):=Int.mul_le_mul_of_nonneg_left p2 (by omega);rw[e]at p3;rw[Int.mul_one]at p3;omega
theorem zp7 {a b:Int} (hb:1≤b) (h:a<b * 18446744073709551616):a / b<18446744073709551616:=Int.ediv_lt_of_lt_mul (by omega) (by rw[Int.mul_comm];exact h)
def zrt (a b X:Int) (Y:Bool):Prop:=(a / b<18446744073709551616→X=a / b∧Y=true)∧(¬a / b<18446744073709551616→X=0∧Y=false)
theorem zr4 {x y:Int} (h:x=y):Ending.returned (.tuple #[.int .u64 x,.bool true])= .returned (.tuple #[.int .u64 y,.bool true]):=by rw[h]
set_option maxHeartbeats 1000000 in
theorem zeu (va vb:Value) (A B:List Int) (w:World) (ra:Sl w va A) (rb:Sl w vb B) (hA:Dig A) (hB:Dig B) (ha:A.length≤20) (hb:B.length≤20) (hlt:val A<val B):
  Calls Tryz.prog 122 #[va,vb] w fun e w'=>e= .returned (.tuple #[.int .u64 0,.bool true])∧w'=w:=by
 have O:=hide (zbY vb va B A w rb ra hB hA (by omega) (by omega));have hc:0<cm (val B) (val A):=by
  have:=zcW (x:=val B) (y:=val A);omega
 generalize cm (val B) (val A)=c at *;have hcb:decide (c≤0)=false:=by simp;omega
 clear ra rb hlt;go_enter Tryz.func122,Tryz.ntmps122;go_wp2_with fail
 go_loop [7,8] (fun l t=>l= .slice none 0 0∧t=vb) (fun _ _=>0)
 case atStart=>exact⟨rfl,rfl⟩
 case round=>
  obtain⟨rfl,rfl⟩:=hrel;go_wp2_with fail
  refine(uq O).mono ?_;rintro e w1 ⟨rfl,rfl⟩;go_wp2_with fail
  go_loop [6,9] (fun q i=>q= .int .u64 0∧i= .int .i64 (-1)) (fun _ _=>0)
  case atStart=>exact⟨rfl,rfl⟩
  case round=>
   obtain⟨rfl,rfl⟩:=hrel;go_wp2;go_ret2;exact⟨rfl,rfl⟩
set_option maxHeartbeats 4000000 in
theorem zfO (va vb:Value) (A B:List Int) (w:World) (ra:Sl w va A) (rb:Sl w vb B) (hA:Dig A) (hB:Dig B) (ha:A.length≤20) (hb:B.length≤20) (hb1:1≤val B) (hle0:val B≤val A) (X:Int) (Y:Bool) (HXY:zrt (val A) (val B) X Y):
  Calls Tryz.prog 122 #[va,vb] w fun e w'=>e= .returned (.tuple #[.int .u64 X,.bool Y])∧Keep w w':=by
 obtain⟨i0,hi,hz0,hz1,hz2⟩:=zjn zgT;have hab:val A<pw 20:=Int.lt_of_lt_of_le (zbh hA).2 (zfM ha);have hB0:0<B.length:=by
  cases B with
  |nil=>simp[val]at hb1
  |cons=>simp
 obtain⟨b,hbe⟩:∃ b,b=val B:=⟨_,rfl⟩;obtain⟨a,hae⟩:∃ a,a=val A:=⟨_,rfl⟩;rw[← hbe]at hb1 hle0 HXY;rw[← hae]at hle0 hab HXY;have HBE:=hide hbe;have HAE:=hide hae;clear hbe hae;go_enter Tryz.func122,Tryz.ntmps122;go_wp2_with fail
 go_loopw [7,8] (fun lv tv wr=>∃(k:Nat) (vs:List Value) (L:List Int),k≤320∧wr.ownsRow w.heap.size 154 1 lv k vs∧Tws b wr k vs∧Sl wr tv L∧Dig L∧L.length≤20+k∧0<L.length∧Hid (val L=b * 2 ^ k)∧Hid (k=0∨b * 2 ^ (k - 1)≤a)∧Keep w wr) (fun lv _ _=>400 - znQ lv)
 case atStart=>exact⟨0,[],B,by omega,World.ownsRow_nil _ _ _ _,⟨rfl,fun i hi=>by omega⟩,rb,hB,by omega,hB0,hide (by rw[uq HBE];simp),hide (.inl rfl),Keep.refl _⟩
 case round=>
  obtain⟨k,vs,L,hk,hown,htw,hsl,hdl,hll,hl0,HV,HP,hkeep⟩:=hrel;have O:=hide (zbY _ va L A wr hsl (ra.keep hkeep) hdl hA (by omega) (by omega));by_cases hle:b * 2 ^ k≤a
  ·have hk2:=zln hb1 hle hab;have hcm:cm (val L) (val A)≤0:=by rw[zcW,uq HV,← uq HAE];exact hle
   generalize cm (val L) (val A)=c at *;obtain⟨gt,capt,et,hgt⟩:=hsl;subst et;have hsl:Sl wr (.slice (some ⟨gt,0,none⟩) L.length capt) L:=⟨gt,capt,rfl,hgt⟩;have a3:k+1≤maxLen:=by unfold maxLen;omega
   have HSL:=hide hsl;have HTW:=hide htw;have hsz:=Below.size hkeep;have HLE0:=hide hle;clear hsl htw hgt hle hle0 ra rb;go_wp2_with fail
   refine(uq O).mono ?_;rintro e wr ⟨rfl,rfl⟩;go_wp2_with (first|(at_builtin;refine wpList_append_own _ rfl _ _ 208 rfl w.heap.size 154 i0 (.slice none 0 0) 1 24 Tryz.underlying208 hi hz0 hz1 hz2 rfl (by decide) _ _ _ rfl (World.ownsRow.alloc hown _) ⟨wr.heap.size,0,none⟩ 1 1 [.slice (some ⟨gt,0,none⟩) L.length capt] rfl rfl (cell_one_new _ _ _) (zeY _ _ _) a3 (by omega) (by simp;omega) ?_)|fail)
   intro v' w1 hown' hgrow _
   have hb1':Keep w w1:=zbP hown hkeep hgrow;have hal:Keep wr (wr.alloc (.cells #[.slice (some ⟨gt,0,none⟩) L.length capt] 154)):=(Keep.refl wr).alloc _;have hrb:=zeX (World.ownsRow.alloc hown (.cells #[.slice (some ⟨gt,0,none⟩) L.length capt] 154));have hsl1:Sl w1 (.slice (some ⟨gt,0,none⟩) L.length capt) L:=((uq HSL).keep hal).grown hgrow (by decide) hrb;have htw1:=(((uq HTW).keep hal).grown hgrow (by decide) hrb).snoc hsl1 hdl (by omega) (uq HV);have TW:=hide (zeW _ L w1 hsl1 hdl (by omega) hl0);have HT1:=hide htw1;have hlen:=zcc hown;have hlen':=zcc hown';have HLN:=hide hlen;have HLN':=hide hlen';have HOWN:=hide hown';have HB1:=hide hb1';clear hown hown' hgrow hal hrb hsl1 htw1 HSL HTW hkeep hlen hlen' hb1';go_wp2_with fail
   refine(uq TW).mono ?_;rintro e w2 ⟨v2,l2,rfl,s2,d2,⟨p0,p1,p2⟩,k2⟩;have own2:=zgH (uq HOWN) k2;have tw2:=(uq HT1).keep k2;have HP2:Hid (k+1=0∨b * 2 ^ (k+1 - 1)≤a):=hide (.inr (by simpa using uq HLE0));have HV2:Hid (val l2=b * 2 ^ (k+1)):=by rw[p2,uq HV,zb0];exact hide rfl
   have HB2:Hid (Keep w w2):=hide ((uq HB1).trans k2);have OWN2:=hide own2;have TW2:=hide tw2;have S2:=hide s2;clear own2 tw2 s2 p2 k2;go_wp2;go_roundw
   case rel=>exact⟨k+1,_,l2,by omega,uq OWN2,uq TW2,uq S2,d2,by omega,p0,HV2,HP2,uq HB2⟩
   case measure=>
    have h1:=uq HLN;have h2:=uq HLN';simp[h1,h2];omega
  ·have hcm:0<cm (val L) (val A):=by
    have h:=zcW (x:=val L) (y:=val A);rw[uq HV,← uq HAE]at h;have:¬cm (val L) (val A)≤0:=by rw[zcW,uq HV,← uq HAE];exact hle
    omega
   generalize cm (val L) (val A)=c at *;have hcb:decide (c≤0)=false:=by simp;omega
   have hk0:0<k:=by
    rcases Nat.eq_zero_or_pos k with h|h
    ·subst h;exact absurd (by simpa using hle0) hle
    ·exact h
   obtain⟨g,cap,rfl,_,hlt⟩:=zgI hown hk0;have halt:a<b * 2 ^ k:=by omega
   by_cases h64:64<k
   ·have hno:=zkM hb1 h64 (by rcases uq HP with h|h<;>omega);obtain⟨e1,e2⟩:=HXY.2 hno;subst e1 e2;clear hsl htw hown hle hle0 ra rb HV HP halt hno HXY;go_wp2_with fail
    refine(uq O).mono ?_;rintro e wr ⟨rfl,rfl⟩;go_wp2;go_ret2;exact⟨rfl,hkeep⟩
   have hal:=zkN hb1 (by omega) halt;have hyes:=zp7 hb1 hal;obtain⟨e1,e2⟩:=HXY.1 hyes;subst e2;have E1:=hide e1;have HAL:=hide hal;clear hal hyes e1 HP HXY;have HR:=hide (zkL (a:=a) (b:=b) (k:=k) (by omega) (by omega));have HTW:=hide htw;have HOWN:=hide hown;have RA:=hide (ra.keep hkeep);clear hsl htw hown hle hle0 ra rb HV halt;go_wp2_with fail
   refine(uq O).mono ?_;rintro e wr ⟨rfl,rfl⟩;go_wp2_with fail
   obtain⟨wo,rfl⟩:∃ wo,wo=wr:=⟨_,rfl⟩
   go_loopw [0,6,9] (fun av qv iv wi=>∃(j:Nat) (C:List Int) (q:Int),qv= .int .u64 q∧iv= .int .i64 ((j:Int) - 1)∧j≤k∧Sl wi av C∧Dig C∧C.length≤A.length∧Hid (zet a b (val C) q j)∧Keep wo wi) (fun _ _ iv _=>(intOf iv+1).toNat)
   case atStart=>exact⟨k,A,0,rfl,rfl,Nat.le_refl _,uq RA,hA,Nat.le_refl _,by rw[← uq HAE];exact HR,Keep.refl _⟩
   case round=>
    obtain⟨j,C,q,rfl,rfl,hj,hsc,hdc,hlc,HI,hki⟩:=hrel;by_cases hj0:j=0
    ·subst hj0;have he:=zp6 (uq HI) hb1;have HE:=hide he;have HK:=hide (Keep.trans hkeep hki);have HSC:=hide hsc;clear he hsc hki hkeep;rw[show(((0:Nat):Int) - 1)= -1 by rfl];go_wp2;go_ret2;exact⟨zr4 (by rw[uq HE,uq E1]),uq HK⟩
    ·obtain⟨i,rfl⟩:∃ i,j=i+1:=⟨j - 1,by omega⟩;rw[show(((i+1:Nat):Int) - 1)=(i:Int) by omega];obtain⟨M,gm,capm,em,hsm,hdm,hlm,hvm⟩:=zlo ((uq HTW).keep hki) (show i<k by omega);have hcell:wr.cell? ⟨g,i,none⟩=some (.slice (some ⟨gm,0,none⟩) M.length capm):=by
      rw[Below.cell (p:=⟨g,i,none⟩) hki hlt,zlp (uq HOWN) i (by omega),em]
     have hM0:0<M.length∨M.length=0:=by omega
     obtain⟨hq0,hq1⟩:=zrs (uq HI) hb1 (uq HAL);have hw1:IntKind.u64.wrap (q * 2)=q * 2:=by rw[IntKind.wrap_u64];omega
     have hw2:IntKind.u64.wrap (q * 2+1)=q * 2+1:=by rw[IntKind.wrap_u64];omega
     have O2:=hide (zbY _ _ M C wr hsm hsc hdm hdc (by omega) (by omega));by_cases hle:val M≤val C
     ·have hcm2:cm (val M) (val C)≤0:=by rw[zcW];exact hle
      have HI2:=hide (zp5 (uq HI) hvm hle);have MI:=hide (zgG _ _ C M wr hsc hsm hdc hdm (by omega) (by omega) hle);generalize cm (val M) (val C)=c2 at *;clear hsm hsc hvm hle em HI O;go_wp2_with fail
      refine(uq O2).mono ?_;rintro e wr ⟨rfl,rfl⟩;go_wp2_with fail
      refine(uq MI).mono ?_;rintro e w2 ⟨v2,l2,rfl,r2,d2,⟨m0,m1⟩,k2⟩;have TR:=hide (zbZ v2 l2 w2 r2.cases d2 (by omega));have M1:=hide m1;clear r2 m1;go_wp2_with fail
      refine(uq TR).mono ?_;rintro e w3 ⟨v3,l3,rfl,s3,d3,⟨q0,q1⟩,k3⟩;have HI3:Hid (zet a b (val l3) (q * 2+1) i):=by rw[q1,uq M1];exact HI2
      have HK3:=hide ((Keep.trans hki k2).trans k3);have S3:=hide s3;clear s3 q1 HI2 k2 k3;go_wp2;go_roundw
      case rel=>exact⟨i,l3,q * 2+1,rfl,by go_num,by omega,uq S3,d3,by omega,HI3,uq HK3⟩
      case measure=>simp[intOf]<;>omega
     ·have hcm2:0<cm (val M) (val C):=by
       have:¬cm (val M) (val C)≤0:=by rw[zcW];exact hle
       omega
      have HI2:=hide (zrr (uq HI) hvm hle);generalize cm (val M) (val C)=c2 at *;have hcb2:decide (c2≤0)=false:=by simp;omega
      have HSC:=hide hsc;clear hsm hsc hvm hle em HI O;go_wp2_with fail
      refine(uq O2).mono ?_;rintro e wr ⟨rfl,rfl⟩;go_wp2;go_roundw
      case rel=>exact⟨i,C,q * 2,rfl,by go_num,by omega,uq HSC,hdc,hlc,HI2,hki⟩
      case measure=>simp[intOf]<;>omega
theorem zdC (va vb:Value) (A B:List Int) (w:World) (ra:Sl w va A) (rb:Sl w vb B) (hA:Dig A) (hB:Dig B) (ha:A.length≤20) (hb:B.length≤20) (hb1:1≤val B):
  Calls Tryz.prog 122 #[va,vb] w fun e w'=>e= .returned (.tuple #[.int .u64 (if val A / val B<18446744073709551616 then val A / val B else 0),.bool (decide (val A / val B<18446744073709551616))])∧Keep w w':=by
 by_cases h:val B≤val A
 ·exact zfO va vb A B w ra rb hA hB ha hb hb1 h _ _ (⟨fun h=>⟨if_pos h,by simpa using h⟩,fun h=>⟨if_neg h,by simpa using h⟩⟩)
 ·refine(zeu va vb A B w ra rb hA hB ha hb (by omega)).mono ?_;rintro e w' ⟨rfl,rfl⟩;rw[Int.ediv_eq_zero_of_lt (zbh hA).1 (by omega)];exact⟨rfl,Keep.refl _⟩
end Go.Proofs.YtcdhdhbjnpndkaaGreat
