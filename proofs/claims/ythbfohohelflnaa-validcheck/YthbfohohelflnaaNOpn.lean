/- Trees in memory, as they are read: no block is anybody's own. -/
import Derived.Test.YthbfohohelflnaaLFact
import Derived.Test.YthbfohohelflnaaQSt
import Derived.Test.YthbfohohelflnaaNMath
import Derived.WalkKit
import Derived.ProofKit
import Derived.OpenShut
import Derived.ShutString
import Derived.ChangeOld
import Derived.Below
import Derived.Lib.SmallJoins
import Derived.JoinedOf
import Derived.Stop.Joined
namespace Go.Proofs.Ythbfohohelflnaa
open Go.RowKit
set_option linter.unusedVariables false
set_option linter.unusedSimpArgs false
def ati (ad:Addr) (j:Nat):Addr:=if j=0 then ad else⟨ad.block,ad.off+j,none⟩
theorem zc1 (b o j:Nat):ati ⟨b,o,none⟩ j=⟨b,o+j,none⟩:=by
 unfold ati
 split
 ·rename_i h;subst h;rfl
 ·rfl
mutual
def Rv (w:World):D→Value→Prop
 | .val v,u=>u=v
 | .row e z L,u=>∃ a cap,u= .slice a L.length cap∧L.length≤cap∧Rvss w a z L 0
def Rvs (w:World):List D→List Value→Prop
 | [],us=>us= []
 |d :: ds,us=>∃ u vs,us=u :: vs∧Rv w d u∧Rvs w ds vs
def Rvss (w:World) (a:Option Addr) (z:Nat):List (List D)→Nat→Prop
 | [],k=>True
 |ds :: L,k=>(∃ ad us,a=some ad∧ad.block<w.heap.size∧Rvs w ds us∧us.length=z∧∀ j u,us[j]? =some u→w.cell? (ati (ad.add (k * z)) j)=some u)∧Rvss w a z L (k+1)
end
mutual
theorem Rv.keep {w w':World} (h:Keep w w'):∀(d:D) (u:Value),Rv w d u→Rv w' d u
 | .val v,u,h1=>h1
 | .row e z L,u,h1=>by
  simp only[Rv]at h1 ⊢;obtain⟨a,cap,h0,hc,h2⟩:=h1;exact⟨a,cap,h0,hc,Rvss.keep h a z L 0 h2⟩
theorem Rvs.keep {w w':World} (h:Keep w w'):∀(ds:List D) (us:List Value),Rvs w ds us→Rvs w' ds us
 | [],us,h1=>h1
 |d :: ds,us,h1=>by
  simp only[Rvs]at h1 ⊢;obtain⟨u,vs,h0,h2,h3⟩:=h1;exact⟨u,vs,h0,Rv.keep h d u h2,Rvs.keep h ds vs h3⟩
theorem Rvss.keep {w w':World} (h:Keep w w') (a:Option Addr) (z:Nat):∀(L:List (List D)) (k:Nat),Rvss w a z L k→Rvss w' a z L k
 | [],k,h1=>trivial
 |ds :: L,k,h1=>by
  simp only[Rvss]at h1 ⊢;obtain⟨⟨ad,us,h0,hb,h2,h3,h4⟩,h5⟩:=h1;exact⟨⟨ad,us,h0,Nat.lt_of_lt_of_le hb h.size,Rvs.keep h ds us h2,h3,fun j u hu=>Q.kcell h (h4 j u hu)⟩,Rvss.keep h a z L (k+1) h5⟩
end
theorem zaI {w:World} {a:Option Addr} {z:Nat} :∀(L:List (List D)) (k:Nat),Rvss w a z L k→∀ i,i<L.length→∃ ad us,a=some ad∧ad.block<w.heap.size∧Rvs w (L.getD i []) us∧us.length=z∧∀ j u,us[j]? =some u→w.cell? (ati (ad.add ((k+i) * z)) j)=some u
 | [],k,h,i,hi=>by simp at hi
 |ds :: L,k,h,i,hi=>by
  simp only[Rvss]at h;cases i with
  |zero=>obtain⟨⟨ad,us,h0,hb,h2,h3,h4⟩,_⟩:=h;exact⟨ad,us,h0,hb,by simpa using h2,h3,by simpa using h4⟩
  |succ i=>
   obtain⟨ad,us,h0,hb,h2,h3,h4⟩:=zaI L (k+1) h.2 i (by simpa using hi);refine⟨ad,us,h0,hb,by simpa using h2,h3,fun j u hu=>?_⟩;rw[show k+(i+1)=k+1+i by omega];exact h4 j u hu
mutual
theorem Rd.rv {w:World} :∀(d:D) (P:Nat→Prop) (u:Value),Rd w d P u→Rv w d u
 | .val v,P,u,h=>by simp only[Rd]at h;simp only[Rv];exact h.1
 | .row e z L,P,u,h=>by
  simp only[Rd]at h;simp only[Rv];obtain⟨xs,h1,h2,h3⟩:=h;rcases h1.2 with ⟨rfl,h0⟩|⟨g,cap,cur,rfl,hb,hg,hc,hm,hs,ht⟩
  ·have:L= []:=List.eq_nil_of_length_eq_zero h0;subst this;exact⟨none,0,rfl,Nat.le_refl _,trivial⟩
  ·refine⟨some ⟨g,0,none⟩,cap,rfl,hc,Rdss.rv L _ z xs g 0 (Array.getElem?_eq_some_iff.1 hg).1 h3 (fun j u hu=>?_)⟩;rw[← ht]at hu;have hlt:j<xs.length:=by rw[← ht];exact(List.getElem?_eq_some_iff.1 hu).1
   simp only[World.cell?,hg];rw[Nat.zero_mul,Nat.zero_add];have:(cur.toList.take (L.length * z))[j]? =some u:=hu;rw[List.getElem?_take]at this;split at this
   ·simpa using this
   ·cases this
theorem Rds.rv {w:World} :∀(ds:List D) (P:Nat→Prop) (us:List Value),Rds w ds P us→Rvs w ds us
 | [],P,us,h=>by simp only[Rds]at h;simp only[Rvs];exact h
 |d :: ds,P,us,h=>by
  simp only[Rds]at h;simp only[Rvs];obtain⟨v,vs,h0,h1,h2⟩:=h;exact⟨v,vs,h0,Rd.rv d P v h1,Rds.rv ds P vs h2⟩
theorem Rdss.rv {w:World} :∀(L:List (List D)) (P:Nat→Prop) (z:Nat) (xs:List Value) (g k:Nat),g<w.heap.size→Rdss w L P z xs→(∀ j u,xs[j]? =some u→w.cell? ⟨g,k * z+j,none⟩=some u)→Rvss w (some ⟨g,0,none⟩) z L k
 | [],P,z,xs,g,k,hg,h,hx=>trivial
 |ds :: L,P,z,xs,g,k,hg,h,hx=>by
  simp only[Rdss]at h;simp only[Rvss];obtain⟨ys,zs,rfl,h1,h2,h3⟩:=h;refine⟨⟨⟨g,0,none⟩,ys,rfl,hg,Rds.rv ds P ys h2,h1,fun j u hu=>?_⟩,Rdss.rv L P z zs g (k+1) hg h3 (fun j u hu=>?_)⟩
  ·rw[zaO,zc1,Nat.zero_add];exact hx j u (by rw[List.getElem?_append_left (List.getElem?_eq_some_iff.1 hu).1];exact hu)
  ·have:=hx (z+j) u (by rw[List.getElem?_append_right (by omega),h1,Nat.add_sub_cancel_left];exact hu);rw[show(k+1) * z+j=k * z+(z+j) by rw[Nat.add_mul];omega];exact this
end
def slA (w:World) (ad:Addr):Option Addr:=match w.cell? ad with|some (.slice a _ _)=>a| _=>none
def slN (w:World) (ad:Addr):Nat:=match w.cell? ad with|some (.slice _ n _)=>n| _=>0
def slC (w:World) (ad:Addr):Nat:=match w.cell? ad with|some (.slice _ _ c)=>c| _=>0
def fS:D→ByteArray
 | .val (.string s)=>s
 | _=>⟨#[]⟩
def fI:D→Int
 | .val (.int .i64 n)=>n
 | _=>0
def fB:D→Bool
 | .val (.bool b)=>b
 | _=>false
def fL:D→List (List D)
 | .row _ _ L=>L
 | _=> []
end Go.Proofs.Ythbfohohelflnaa
namespace Go.Proofs.Ythbfohohelflnaa
open Go.ChangeShapes Go.WideShapes Go.ChangeAt Go.RowKit Go.Joins
open Go.WideMaps Go.WideElems
open Go.ChangeMaps (open_string shut_string)
set_option linter.unusedVariables false
set_option maxRecDepth 10000
theorem zeC {α:Type} {P:Nat→α→Prop} (z:α):∀ n,(∀ i,i<n→∃ p,P i p)→∃ L:List α,L.length=n∧∀ i,i<n→P i (L.getD i z)
 |0,_=>⟨[],rfl,fun i h=>by omega⟩
 |n+1,h=>by
  obtain⟨L,h1,h2⟩:=zeC z n (fun i hi=>h i (by omega));obtain⟨p,hp⟩:=h n (by omega);refine⟨L++ [p],by simp[h1],fun i hi=>?_⟩;by_cases hin:i<n
  ·have:=h2 i hin;rw[List.getD_eq_getElem?_getD,List.getElem?_append_left (by omega),← List.getD_eq_getElem?_getD];exact this
  ·have:i=n:=by omega
   subst this;rw[List.getD_eq_getElem?_getD,List.getElem?_append_right (by omega),h1];simpa using hp
theorem zc2 {α β:Type} {f:α→Option β} {l:List α} {r:List β} (h:l.mapM f=some r) (i:Nat) (a:α) (ha:l[i]? =some a):∃ b,r[i]? =some b∧f a=some b:=Lib.mapM_at h i a ha
theorem zkS (s:ByteArray):sv s.data.toList=s:=by simp[sv]
end Go.Proofs.Ythbfohohelflnaa
namespace Go.Proofs.Ythbfohohelflnaa
open Go.ChangeShapes Go.WideShapes Go.ChangeAt Go.RowKit Go.Joins
open Go.WideMaps Go.WideElems
set_option linter.unusedVariables false
set_option linter.unusedSimpArgs false
set_option maxRecDepth 10000
inductive Ty where
 |i|s|b
 |row (e z:Nat) (fs:List Ty)
def zdf (go:TypeId→Option (List Ty)) (P:Program):List Field→Nat→Option (List Ty)
 | [],_=>some []
 |f :: fs,o=>if f.offset=o then(match go f.type with
  |some a=>if P.cellsOf f.type=a.length then(match zdf go P fs (o+a.length)with
   |some r=>some (a++r)
   |none=>none)else none
  |none=>none)else none
def zd0 (P:Program):Nat→TypeId→Option (List Ty)
 |0,_=>none
 |n+1,t=>match P.underlying t with
  |some .bool=>some [.b]
  |some (.int .i64)=>some [.i]
  |some .string=>some [.s]
  |some (.slice e)=>match zd0 P n e with
   |some fs=>if P.cellsOf e=fs.length∧0<fs.length then some [.row e fs.length fs]else none
   |none=>none
  |some (.struct fs)=>match zdf (zd0 P n) P fs.toList 0 with
   |some l=>if P.cellsOf t=l.length then some l else none
   |none=>none
  | _=>none
mutual
def Sh1:Ty→D→Prop
 | .i,d=>∃ n:Int,d=dI n∧ -9223372036854775808≤n∧n≤9223372036854775807
 | .s,d=>∃ l:List UInt8,d=dS l∧l.length≤maxLen
 | .b,d=>∃ x,d=dB x
 | .row e z fs,d=>∃ L,d= .row e z L∧L.length≤maxLen∧∀ ds∈L,ShL fs ds
def ShL:List Ty→List D→Prop
 | [],ds=>ds= []
 |t :: ts,ds=>∃ d r,ds=d :: r∧Sh1 t d∧ShL ts r
end
theorem zcy:∀(a b:List Ty) (ds es:List D),ShL a ds→ShL b es→ShL (a++b) (ds++es)
 | [],b,ds,es,h,k=>by simp only[ShL]at h;subst h;exact k
 |t :: a,b,ds,es,h,k=>by
  simp only[ShL,List.cons_append]at h ⊢;obtain⟨d,r,rfl,h1,h2⟩:=h;exact⟨d,r++es,rfl,h1,zcy a b r es h2 k⟩
theorem zcz {w:World} :∀(ds es:List D) (us vs:List Value),Rvs w ds us→Rvs w es vs→Rvs w (ds++es) (us++vs)
 | [],es,us,vs,h,k=>by simp only[Rvs]at h;subst h;exact k
 |d :: ds,es,us,vs,h,k=>by
  simp only[Rvs,List.cons_append]at h ⊢;obtain⟨u,r,rfl,h1,h2⟩:=h;exact⟨u,r++vs,rfl,h1,zcz ds es r vs h2 k⟩
theorem zdg {w:World} {ad:Addr} {z:Nat} :∀(L:List (List D)) (k:Nat),(∀ i,i<L.length→ad.block<w.heap.size∧∃ us,Rvs w (L.getD i []) us∧us.length=z∧∀ j u,us[j]? =some u→w.cell? (ati (ad.add ((k+i) * z)) j)=some u)→Rvss w (some ad) z L k
 | [],k,h=>trivial
 |ds :: L,k,h=>by
  simp only[Rvss];obtain⟨hb,us,h1,h2,h3⟩:=h 0 (by simp);refine⟨⟨ad,us,rfl,hb,by simpa using h1,h2,by simpa using h3⟩,zdg L (k+1) (fun i hi=>?_)⟩;obtain⟨hb,us,h1,h2,h3⟩:=h (i+1) (by simpa using hi);refine⟨hb,us,by simpa using h1,h2,fun j u hu=>?_⟩;rw[show k+1+i=k+(i+1) by omega];exact h3 j u hu
theorem zh1 (a:Addr) (j:Nat):a.add j=ati a j:=by
 unfold Addr.add ati
 split
 ·rfl
 ·rfl
section
variable {H : Type} {enc : TypeId × Value → H} {P : Program} {w : World} {base : Nat} {spare : Nat → Bool} {held : Bool}
theorem zcj {n m:Nat} (ih:∀(t:TypeId) (fs:List Ty) (fuel:Nat) (cs:List Value) (x:DataW H×List MemPlace),zd0 P n t=some fs→DataW.trod enc P w base spare held fuel t cs=some x→∃ ds,ShL fs ds∧Rvs w ds cs) (cs:List Value):
  ∀(l:List Field) (o:Nat) (r:List Ty),zdf (zd0 P n) P l o=some r→(∀ f∈l,∃ x,DataW.trod enc P w base spare held m f.type ((cs.drop f.offset).take (P.cellsOf f.type))=some x)→∃ ds,ShL r ds∧Rvs w ds ((cs.drop o).take r.length)
 | [],o,r,h,_=>by
  simp only[zdf,Option.some.injEq]at h;subst h;exact⟨[],by simp[ShL],by simp[Rvs]⟩
 |f :: l,o,r,h,hf=>by
  simp only[zdf]at h;split at h
  ·rename_i ho
   cases hd:zd0 P n f.type with
   |none=>rw[hd]at h;cases h
   |some a=>
    rw[hd]at h;simp only at h;split at h
    ·rename_i hc
     cases hr:zdf (zd0 P n) P l (o+a.length)with
     |none=>rw[hr]at h;cases h
     |some r'=>
      rw[hr]at h;simp only[Option.some.injEq]at h;subst h;obtain⟨x,hx⟩:=hf f List.mem_cons_self;rw[ho,hc]at hx;obtain⟨ds,h1,h2⟩:=ih f.type a m _ x hd hx;obtain⟨es,h3,h4⟩:=zcj ih cs l (o+a.length) r' hr (fun g hg=>hf g (List.mem_cons_of_mem _ hg));refine⟨ds++es,zcy _ _ _ _ h1 h3,?_⟩;rw[List.length_append,List.take_add,List.drop_drop];exact zcz _ _ _ _ h2 h4
    ·cases h
  ·cases h
theorem zck:∀(n:Nat) (t:TypeId) (fs:List Ty) (fuel:Nat) (cs:List Value) (x:DataW H×List MemPlace),zd0 P n t=some fs→DataW.trod enc P w base spare held fuel t cs=some x→∃ ds,ShL fs ds∧Rvs w ds cs
 |0,t,fs,fuel,cs,x,h,_=>by simp[zd0]at h
 |n+1,t,fs,fuel,cs,x,h,hx=>by
  simp only[zd0]at h;split at h
  ·rename_i hu
   obtain⟨b,rfl,_⟩:=DataW.trod_bool hu hx;simp only[Option.some.injEq]at h;subst h;exact⟨[dB b],by simp only[ShL,Sh1];exact⟨_,_,rfl,⟨b,rfl⟩,rfl⟩,by simp only[Rvs,Rv,dB];exact⟨_,_,rfl,rfl,rfl⟩⟩
  ·rename_i hu
   obtain⟨a,rfl,_,hw⟩:=DataW.trod_int hu hx;simp only[Option.some.injEq]at h;subst h;exact⟨[dI a],by simp only[ShL,Sh1];exact⟨_,_,rfl,⟨a,rfl,bounds_i64 hw⟩,rfl⟩,by simp only[Rvs,Rv,dI];exact⟨_,_,rfl,rfl,rfl⟩⟩
  ·rename_i hu
   obtain⟨s,rfl,_,hw⟩:=DataW.trod_string hu hx;simp only[Option.some.injEq]at h;subst h;have e9:s.data.toList.length=s.size:=by rw[Array.length_toList];rfl
   refine⟨[dS s.data.toList],?_,by simp only[Rvs,Rv,dS];exact⟨_,_,rfl,by rw[zkS],rfl⟩⟩;simp only[ShL,Sh1];exact⟨_,_,rfl,⟨s.data.toList,rfl,by rw[e9];exact hw⟩,rfl⟩
  ·rename_i e hu
   cases hd:zd0 P n e with
   |none=>rw[hd]at h;cases h
   |some gs=>
    rw[hd]at h;simp only at h;split at h
    ·rename_i hc
     simp only[Option.some.injEq]at h;subst h;rcases Go.Deep.open_slice hu hx with ⟨rfl,_⟩|⟨a,len,cap,m,k,DD,Pl,rfl,_,hl,hm,hmm,_,hall⟩
     ·exact⟨[.row e gs.length []],by simp only[ShL,Sh1];exact⟨_,_,rfl,⟨[],rfl,Nat.zero_le _,fun _ hh=>by cases hh⟩,rfl⟩,by simp only[Rvs,Rv];exact⟨_,_,rfl,⟨none,0,rfl,Nat.le_refl _,trivial⟩,rfl⟩⟩
     ·have hml:len≤m:=by rw[hmm];split<;>omega
      have each:∀ i,i<len→∃ ds,ShL gs ds∧(0<gs.length→a.block<w.heap.size)∧∃ us,Rvs w ds us∧us.length=gs.length∧∀ j u,us[j]? =some u→w.cell? (ati (a.add (i * gs.length)) j)=some u:=by
       intro i hi
       obtain⟨cs',hcs,htr⟩:=hall i (by omega);obtain⟨ds,h1,h2⟩:=zck n e gs k cs' _ hd htr;rw[hc.1]at hcs;unfold World.cells? at hcs
       split at hcs
       ·have hlen:cs'.length=gs.length:=by simpa using mapM_some_length hcs
        have hcell:∀ j u,cs'[j]? =some u→w.cell? (ati (a.add (i * gs.length)) j)=some u:=fun j u hu2=>by
         have hj:j<gs.length:=by rw[← hlen];exact(List.getElem?_eq_some_iff.1 hu2).1
         obtain⟨b,g1,g2⟩:=zc2 hcs j j (by rw[List.getElem?_range hj]);rw[hu2]at g1;injection g1 with g1
         subst g1;rw[← zh1];exact g2
        refine⟨ds,h1,fun h0=>?_,cs',h2,hlen,hcell⟩;obtain⟨u,hu2⟩:∃ u,cs'[0]? =some u:=⟨cs'[0]'(by omega),List.getElem?_eq_getElem _⟩;have:=World.block_lt_of_cell? w _ (hcell 0 u hu2);unfold ati at this
        rw[if_pos rfl,zaH]at this;exact this
       ·cases hcs
      obtain⟨L,hL,hE⟩:=zeC ([]:List D) len each;have h0:=hc.2
      ·refine⟨[.row e gs.length L],?_,?_⟩
       ·simp only[ShL,Sh1];refine⟨_,_,rfl,⟨L,rfl,by omega,fun ds hd2=>?_⟩,rfl⟩;obtain⟨i,hi,e1⟩:=List.getElem_of_mem hd2;have:=(hE i (by omega)).1;rw[List.getD_eq_getElem?_getD,List.getElem?_eq_getElem hi,Option.getD_some,e1]at this;exact this
       ·simp only[Rvs,Rv];refine⟨_,_,rfl,⟨some a,cap,by rw[hL],by omega,zdg L 0 (fun i hi=>?_)⟩,rfl⟩;obtain⟨_,hb,us,g1,g2,g3⟩:=hE i (by omega);exact⟨hb h0,us,g1,g2,by simpa using g3⟩
    ·cases h
  ·rename_i ff hu
   cases hd:zdf (zd0 P n) P ff.toList 0 with
   |none=>rw[hd]at h;cases h
   |some l=>
    rw[hd]at h;simp only at h;split at h
    ·rename_i hc
     simp only[Option.some.injEq]at h;subst h;obtain⟨xs,m,_,_,hl,hxl,hf⟩:=DataW.trod_struct hu hx;obtain⟨ds,h1,h2⟩:=zcj (n:=n) (m:=m) (fun t fs fuel cs x=>zck n t fs fuel cs x) cs ff.toList 0 l hd (fun f hf2=>by
      obtain⟨i,hi,e1⟩:=List.getElem_of_mem hf2;have hi2:i<ff.size:=by simpa using hi
      have:=hf i f (by rw[Array.getElem?_eq_getElem hi2];simpa using e1);rw[List.getElem?_eq_getElem (by omega)]at this;exact⟨_,this⟩)
     refine⟨ds,h1,?_⟩;rw[List.drop_zero,List.take_of_length_le (by omega)]at h2;exact h2
    ·cases h
  ·cases h
theorem zdh {r:Reach} {b0:Nat} {t:TypeId} {ff:Array Field} {v:Value} {d:DataW H} {p:List MemPlace} {n:Nat} {fs:List Ty} (ht:P.underlying t=some (.struct ff)) (hd:zd0 P n t=some fs)
  (hv:Value.okWide P w r b0 t v) (h:DataW.Trod enc P w base spare held t v d p):∃ ds us,v= .agg us.toArray∧ShL fs ds∧Rvs w ds us:=by
 obtain⟨cs,rfl,hsz⟩:=okWide_struct ht hv;obtain⟨fuel,hf⟩:=h;obtain⟨ds,h1,h2⟩:=zck n t fs fuel _ _ hd hf;exact⟨ds,cs.toList,by simp,h1,by simpa [Value.cells]using h2⟩
end
end Go.Proofs.Ythbfohohelflnaa
