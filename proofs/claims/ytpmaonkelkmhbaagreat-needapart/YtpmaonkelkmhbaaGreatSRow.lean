/- Arguments opened: any struct of numbers, texts, truth values and slices of such structs, as a tree that is read. -/
import Derived.Test.YtpmaonkelkmhbaaGreatLOpn
import Derived.Test.YtpmaonkelkmhbaaGreatLFact
import Derived.Deep.RegionHeld
namespace Go.Proofs.YtpmaonkelkmhbaaGreat
open Go.ChangeShapes Go.WideShapes Go.ChangeAt Go.RowKit Go.Joins
open Go.WideMaps Go.WideElems
set_option linter.unusedVariables false
set_option linter.unusedSimpArgs false
set_option maxRecDepth 10000
inductive Ty where
 |i|s|b
 |row (e z:Nat) (fs:List Ty)
def zeb (go:TypeId→Option (List Ty)) (P:Program):List Field→Nat→Option (List Ty)
 | [],_=>some []
 |f :: fs,o=>if f.offset=o then(match go f.type with
  |some a=>if P.cellsOf f.type=a.length then(match zeb go P fs (o+a.length)with
   |some r=>some (a++r)
   |none=>none)else none
  |none=>none)else none
def zfo (P:Program):Nat→TypeId→Option (List Ty)
 |0,_=>none
 |n+1,t=>match P.underlying t with
  |some .bool=>some [.b]
  |some (.int .i64)=>some [.i]
  |some .string=>some [.s]
  |some (.slice e)=>match zfo P n e with
   |some fs=>if P.cellsOf e=fs.length∧0<fs.length then some [.row e fs.length fs]else none
   |none=>none
  |some (.struct fs)=>match zeb (zfo P n) P fs.toList 0 with
   |some l=>if P.cellsOf t=l.length then some l else none
   |none=>none
  | _=>none
mutual
def Sh1:Ty→D→Prop
 | .i,d=>∃ n:Int,d=dI n∧ -9223372036854775808≤n∧n≤9223372036854775807
 | .s,d=>∃ l:List UInt8,d=dS l∧l.length≤maxLen
 | .b,d=>∃ x,d=dB x
 | .row e z fs,d=>∃ L,d= .row e z L∧L.length≤maxLen∧∀ ds∈L,ShL fs ds
def ShL:List Ty→List D→Prop
 | [],ds=>ds= []
 |t :: ts,ds=>∃ d r,ds=d :: r∧Sh1 t d∧ShL ts r
end
theorem zc7:∀(a b:List Ty) (ds es:List D),ShL a ds→ShL b es→ShL (a++b) (ds++es)
 | [],b,ds,es,h,k=>by simp only[ShL]at h;subst h;exact k
 |t :: a,b,ds,es,h,k=>by
  simp only[ShL,List.cons_append]at h ⊢;obtain⟨d,r,rfl,h1,h2⟩:=h;exact⟨d,r++es,rfl,h1,zc7 a b r es h2 k⟩
theorem zc8 {w:World} :∀(ds es:List D) (us vs:List Value),Rvs w ds us→Rvs w es vs→Rvs w (ds++es) (us++vs)
 | [],es,us,vs,h,k=>by simp only[Rvs]at h;subst h;exact k
 |d :: ds,es,us,vs,h,k=>by
  simp only[Rvs,List.cons_append]at h ⊢;obtain⟨u,r,rfl,h1,h2⟩:=h;exact⟨u,r++vs,rfl,h1,zc8 ds es r vs h2 k⟩
theorem zgm {w:World} {ad:Addr} {z:Nat} :∀(L:List (List D)) (k:Nat),(∀ i,i<L.length→ad.block<w.heap.size∧∃ us,Rvs w (L.getD i []) us∧us.length=z∧∀ j u,us[j]? =some u→w.cell? (ati (ad.add ((k+i) * z)) j)=some u)→Rvss w (some ad) z L k
 | [],k,h=>trivial
 |ds :: L,k,h=>by
  simp only[Rvss];obtain⟨hb,us,h1,h2,h3⟩:=h 0 (by simp);refine⟨⟨ad,us,rfl,hb,by simpa using h1,h2,by simpa using h3⟩,zgm L (k+1) (fun i hi=>?_)⟩;obtain⟨hb,us,h1,h2,h3⟩:=h (i+1) (by simpa using hi);refine⟨hb,us,by simpa using h1,h2,fun j u hu=>?_⟩;rw[show k+1+i=k+(i+1) by omega];exact h3 j u hu
theorem zkU (a:Addr) (j:Nat):a.add j=ati a j:=by
 unfold Addr.add ati
 split
 ·rfl
 ·rfl
section
variable {H : Type} {enc : TypeId × Value → H} {P : Program} {w : World} {base : Nat} {spare : Nat → Bool} {held : Bool}
theorem zcM {n m:Nat} (ih:∀(t:TypeId) (fs:List Ty) (fuel:Nat) (cs:List Value) (x:DataW H×List MemPlace),zfo P n t=some fs→DataW.trod enc P w base spare held fuel t cs=some x→∃ ds,ShL fs ds∧Rvs w ds cs) (cs:List Value):
  ∀(l:List Field) (o:Nat) (r:List Ty),zeb (zfo P n) P l o=some r→(∀ f∈l,∃ x,DataW.trod enc P w base spare held m f.type ((cs.drop f.offset).take (P.cellsOf f.type))=some x)→∃ ds,ShL r ds∧Rvs w ds ((cs.drop o).take r.length)
 | [],o,r,h,_=>by
  simp only[zeb,Option.some.injEq]at h;subst h;exact⟨[],by simp[ShL],by simp[Rvs]⟩
 |f :: l,o,r,h,hf=>by
  simp only[zeb]at h;split at h
  ·rename_i ho
   cases hd:zfo P n f.type with
   |none=>rw[hd]at h;cases h
   |some a=>
    rw[hd]at h;simp only at h;split at h
    ·rename_i hc
     cases hr:zeb (zfo P n) P l (o+a.length)with
     |none=>rw[hr]at h;cases h
     |some r'=>
      rw[hr]at h;simp only[Option.some.injEq]at h;subst h;obtain⟨x,hx⟩:=hf f List.mem_cons_self;rw[ho,hc]at hx;obtain⟨ds,h1,h2⟩:=ih f.type a m _ x hd hx;obtain⟨es,h3,h4⟩:=zcM ih cs l (o+a.length) r' hr (fun g hg=>hf g (List.mem_cons_of_mem _ hg));refine⟨ds++es,zc7 _ _ _ _ h1 h3,?_⟩;rw[List.length_append,List.take_add,List.drop_drop];exact zc8 _ _ _ _ h2 h4
    ·cases h
  ·cases h
theorem zcN:∀(n:Nat) (t:TypeId) (fs:List Ty) (fuel:Nat) (cs:List Value) (x:DataW H×List MemPlace),zfo P n t=some fs→DataW.trod enc P w base spare held fuel t cs=some x→∃ ds,ShL fs ds∧Rvs w ds cs
 |0,t,fs,fuel,cs,x,h,_=>by simp[zfo]at h
 |n+1,t,fs,fuel,cs,x,h,hx=>by
  simp only[zfo]at h;split at h
  ·rename_i hu
   obtain⟨b,rfl,_⟩:=DataW.trod_bool hu hx;simp only[Option.some.injEq]at h;subst h;exact⟨[dB b],by simp only[ShL,Sh1];exact⟨_,_,rfl,⟨b,rfl⟩,rfl⟩,by simp only[Rvs,Rv,dB];exact⟨_,_,rfl,rfl,rfl⟩⟩
  ·rename_i hu
   obtain⟨a,rfl,_,hw⟩:=DataW.trod_int hu hx;simp only[Option.some.injEq]at h;subst h;exact⟨[dI a],by simp only[ShL,Sh1];exact⟨_,_,rfl,⟨a,rfl,bounds_i64 hw⟩,rfl⟩,by simp only[Rvs,Rv,dI];exact⟨_,_,rfl,rfl,rfl⟩⟩
  ·rename_i hu
   obtain⟨s,rfl,_,hw⟩:=DataW.trod_string hu hx;simp only[Option.some.injEq]at h;subst h;have e9:s.data.toList.length=s.size:=by rw[Array.length_toList];rfl
   refine⟨[dS s.data.toList],?_,by simp only[Rvs,Rv,dS];exact⟨_,_,rfl,by rw[zou],rfl⟩⟩;simp only[ShL,Sh1];exact⟨_,_,rfl,⟨s.data.toList,rfl,by rw[e9];exact hw⟩,rfl⟩
  ·rename_i e hu
   cases hd:zfo P n e with
   |none=>rw[hd]at h;cases h
   |some gs=>
    rw[hd]at h;simp only at h;split at h
    ·rename_i hc
     simp only[Option.some.injEq]at h;subst h;rcases Go.Deep.open_slice hu hx with ⟨rfl,_⟩|⟨a,len,cap,m,k,DD,Pl,rfl,_,hl,hm,hmm,_,hall⟩
     ·exact⟨[.row e gs.length []],by simp only[ShL,Sh1];exact⟨_,_,rfl,⟨[],rfl,Nat.zero_le _,fun _ hh=>by cases hh⟩,rfl⟩,by simp only[Rvs,Rv];exact⟨_,_,rfl,⟨none,0,rfl,Nat.le_refl _,trivial⟩,rfl⟩⟩
     ·have hml:len≤m:=by rw[hmm];split<;>omega
      have each:∀ i,i<len→∃ ds,ShL gs ds∧(0<gs.length→a.block<w.heap.size)∧∃ us,Rvs w ds us∧us.length=gs.length∧∀ j u,us[j]? =some u→w.cell? (ati (a.add (i * gs.length)) j)=some u:=by
       intro i hi
       obtain⟨cs',hcs,htr⟩:=hall i (by omega);obtain⟨ds,h1,h2⟩:=zcN n e gs k cs' _ hd htr;rw[hc.1]at hcs;unfold World.cells? at hcs
       split at hcs
       ·have hlen:cs'.length=gs.length:=by simpa using mapM_some_length hcs
        have hcell:∀ j u,cs'[j]? =some u→w.cell? (ati (a.add (i * gs.length)) j)=some u:=fun j u hu2=>by
         have hj:j<gs.length:=by rw[← hlen];exact(List.getElem?_eq_some_iff.1 hu2).1
         obtain⟨b,g1,g2⟩:=zdO hcs j j (by rw[List.getElem?_range hj]);rw[hu2]at g1;injection g1 with g1
         subst g1;rw[← zkU];exact g2
        refine⟨ds,h1,fun h0=>?_,cs',h2,hlen,hcell⟩;obtain⟨u,hu2⟩:∃ u,cs'[0]? =some u:=⟨cs'[0]'(by omega),List.getElem?_eq_getElem _⟩;have:=World.block_lt_of_cell? w _ (hcell 0 u hu2);unfold ati at this
        rw[if_pos rfl,zaH]at this;exact this
       ·cases hcs
      obtain⟨L,hL,hE⟩:=zgl ([]:List D) len each;have h0:=hc.2
      ·refine⟨[.row e gs.length L],?_,?_⟩
       ·simp only[ShL,Sh1];refine⟨_,_,rfl,⟨L,rfl,by omega,fun ds hd2=>?_⟩,rfl⟩;obtain⟨i,hi,e1⟩:=List.getElem_of_mem hd2;have:=(hE i (by omega)).1;rw[List.getD_eq_getElem?_getD,List.getElem?_eq_getElem hi,Option.getD_some,e1]at this;exact this
       ·simp only[Rvs,Rv];refine⟨_,_,rfl,⟨some a,cap,by rw[hL],by omega,zgm L 0 (fun i hi=>?_)⟩,rfl⟩;obtain⟨_,hb,us,g1,g2,g3⟩:=hE i (by omega);exact⟨hb h0,us,g1,g2,by simpa using g3⟩
    ·cases h
  ·rename_i ff hu
   cases hd:zeb (zfo P n) P ff.toList 0 with
   |none=>rw[hd]at h;cases h
   |some l=>
    rw[hd]at h;simp only at h;split at h
    ·rename_i hc
     simp only[Option.some.injEq]at h;subst h;obtain⟨xs,m,_,_,hl,hxl,hf⟩:=DataW.trod_struct hu hx;obtain⟨ds,h1,h2⟩:=zcM (n:=n) (m:=m) (fun t fs fuel cs x=>zcN n t fs fuel cs x) cs ff.toList 0 l hd (fun f hf2=>by
      obtain⟨i,hi,e1⟩:=List.getElem_of_mem hf2;have hi2:i<ff.size:=by simpa using hi
      have:=hf i f (by rw[Array.getElem?_eq_getElem hi2];simpa using e1);rw[List.getElem?_eq_getElem (by omega)]at this;exact⟨_,this⟩)
     refine⟨ds,h1,?_⟩;rw[List.drop_zero,List.take_of_length_le (by omega)]at h2;exact h2
    ·cases h
  ·cases h
theorem zec {r:Reach} {b0:Nat} {t:TypeId} {ff:Array Field} {v:Value} {d:DataW H} {p:List MemPlace} {n:Nat} {fs:List Ty} (ht:P.underlying t=some (.struct ff)) (hd:zfo P n t=some fs)
  (hv:Value.okWide P w r b0 t v) (h:DataW.Trod enc P w base spare held t v d p):∃ ds us,v= .agg us.toArray∧ShL fs ds∧Rvs w ds us:=by
 obtain⟨cs,rfl,hsz⟩:=okWide_struct ht hv;obtain⟨fuel,hf⟩:=h;obtain⟨ds,h1,h2⟩:=zcN n t fs fuel _ _ hd hf;exact⟨ds,cs.toList,by simp,h1,by simpa [Value.cells]using h2⟩
end
end Go.Proofs.YtpmaonkelkmhbaaGreat
namespace Go.Proofs.YtpmaonkelkmhbaaGreat
open Go.RowKit
attribute [local go_sem ↓] Go.wp_at_zero Go.wp_at_succ
set_option linter.unusedVariables false
set_option linter.unusedSimpArgs false
set_option maxRecDepth 10000
set_option maxHeartbeats 4000000 in
theorem zfp (a:Option Addr) (n cap:Nat) (X:Except (Int×Nat) (List Tok)) (A:Nat→Nat) (R:Nat→Except Int Tok) (F:Nat→Except (Int×Nat) (List Tok)) (w:World) (hn:n≤65536)
  (T1:Hid (∀ k,k≤n→∀ w',Keep w w'→Calls Tryz.prog 44 #[.slice a n cap,.int .i64 (k:Int)] w' fun e w''=>e= .returned (.int .i64 (A k:Nat))∧w''=w'))
  (T2:Hid (∀ k,k≤n→A k<n→∀ w',Keep w w'→Calls Tryz.prog 45 #[.slice a n cap,.int .i64 (A k:Nat)] w' fun e w''=>e= .returned (.tuple #[tv (rtk (R k)),.int .i64 (re (R k))])∧Keep w' w''))
  (HA:Hid (∀ k,k≤n→k≤A k∧A k≤n))
  (HR:Hid (∀ k t,k≤n→R k= .ok t→A k<n→t.k≠0∧1≤t.s.length∧A k+t.s.length≤n))
  (HE:Hid (∀ k e,k≤n→R k= .error e→e≠0∧F k= .error (e,A k)))
  (HF:Hid (∀ k t,k≤n→R k= .ok t→A k<n→F k=pre [t] (F (A k+t.s.length))))
  (HZ:Hid (∀ k,k≤n→A k=n→F k= .ok [⟨0,[],0,n⟩]))
  (H0:Hid (F 0=X)):
  Calls Tryz.prog 27 #[.slice a n cap] w (Tp X w):=by
 obtain⟨i0,hi,hz0,hz1,hz2⟩:=zay zot;have hn':¬(65536:Int)<(n:Int):=by omega
 have T10:=hide ((uq T1) 0 (Nat.zero_le _) w (Keep.refl w));go_enter Tryz.func27,Tryz.ntmps27;go_wp2_with fail
 (refine(uq T10).mono ?_;rintro e w ⟨rfl,rfl⟩);go_wp2_with fail
 go_loopw [5,6] (fun vl vi wr=>∃(k:Nat) (acc:List Tok),k≤n∧acc.length≤k∧vi= .int .i64 (A k:Nat)∧wr.ownsRow w.heap.size 100 4 vl acc.length (tc acc)∧Hid (pre acc (F k)=X)∧Hid (Keep w wr)) (fun vl vi _=>n - (intOf vi).toNat)
 case atStart=>exact⟨0,[],Nat.zero_le _,Nat.le_refl _,rfl,World.ownsRow_nil _ _ _ _,by unfold Hid;rw[zkK];exact uq H0,hide (Keep.refl w)⟩
 case round=>
  obtain⟨k,acc,hk,hak,rfl,hrow,HX,HK⟩:=hrel;have HROW:=hide hrow;clear hrow;obtain⟨ha1,ha2⟩:=(uq HA) k hk;have hl9:acc.length≤70000:=by omega
  have hsz0:=Below.size (uq HK);by_cases hlt:A k<n
  ·have li:((A k:Nat):Int)<(n:Int):=by omega
   go_wp2_with fail
   (refine((uq T2) k hk hlt _ (uq HK)).mono ?_;rintro e w3 ⟨rfl,hk3⟩);have HK3:=hide ((uq HK).trans hk3);have HROW3:=hide (zhU (uq HROW) hk3);clear hk3 HK HROW;have hsz:=Below.size (uq HK3);cases hr:R k with
   |error e=>
    obtain⟨he,hf⟩:=(uq HE) k e hk hr;have HR1:Hid (X= .error (e,A k)):=by have:=uq HX;rw[hf]at this;exact this.symm
    have hb0:(e !=0)=true:=by simp[he]
    simp only[rtk,re,tv,t0];clear hf hr he;go_wp2_with fail
    go_ret3
    rw[uq HR1];exact⟨_,rfl,zf9 _,ziO _,(uq HK3).alloc _⟩
   |ok t=>
    have hf:=(uq HF) k t hk hr hlt;have hb:=(uq HR) k t hk hr hlt;obtain⟨kk,ss,nn,pp⟩:=t;simp only[rtk,re,tv]at hf hb ⊢;have HR1:Hid (pre (acc++ [⟨kk,ss,nn,pp⟩]) (F (A k+ss.length))=X):=by have:=uq HX;rw[hf,zkL]at this;exact this
    have hS:=zf8 ss;have HTC:Hid (tc (acc++ [⟨kk,ss,nn,pp⟩])=tc acc++ [.int .i64 kk,.string (sv ss),.int .i64 nn,.int .i64 pp]):=zcH _ _;generalize sv ss=S at *;clear hf hr HX;have hb':=hb.2;clear hb;have hsz2:S.size≤70000:=by omega
    have hA3:=(uq HA) (A k+ss.length) hb'.2;have T1k:=hide ((uq T1) (A k+ss.length) hb'.2);have hcast:((A k+ss.length:Nat):Int)=(A k:Int)+(ss.length:Int):=by omega
    rw[hcast]at T1k;clear hcast;go_wp2_with (first
     |(at_builtin;refine wpList_append_own _ rfl _ _ 87 rfl w.heap.size 100 i0 _ 4 40 Tryz.underlying87 hi hz0 hz1 hz2 rfl (by decide) _ _ _ rfl (((uq HROW3).alloc _).alloc _) ⟨w3.heap.size+1,0,none⟩ 1 1 [.int .i64 kk,.string S,.int .i64 nn,.int .i64 pp] rfl rfl (zgh w3 _ _ _ _ _ _) (by simp[Value.oneCell']) (by unfold maxLen;omega) (by omega) (by simp;omega) ?_;intro v' w4 hown' hgrow hnil;obtain⟨g',cp',rfl⟩:=zak hown';have HOWN:=hide hown';have HGROW:=hide hgrow;have HK4:=hide (Below.grown (((uq HK3).alloc _).alloc _) hgrow (by simp;omega) (fun j ej=>((uq HROW3).lt j ej).1));have c1:=zfn rfl hgrow (fun j ej=>((uq HROW3).lt j ej).2) 1 (.string S) rfl;clear hown' hgrow hnil)
     |(go_at_call 44;refine((uq T1k) _ (uq HK4)).mono ?_;rintro e w5 ⟨rfl,rfl⟩))
    go_roundw
    case rel=>
     refine⟨A k+ss.length,acc++ [⟨kk,ss,nn,pp⟩],hb'.2,by rw[List.length_append];simp;omega,rfl,?_,HR1,HK4⟩;rw[uq HTC,List.length_append];exact uq HOWN
    case measure=>simp[intOf];omega
  ·have hAn:A k=n:=by omega
   have HR1:Hid (X= .ok (acc++ [⟨0,[],0,n⟩])):=by have:=uq HX;rw[(uq HZ) k hk hAn]at this;exact this.symm
   have HTC:Hid (tc (acc++ [⟨0,[],0,n⟩])=tc acc++ [.int .i64 0,.string ⟨#[]⟩,.int .i64 0,.int .i64 (n:Int)]):=zcH _ _;rw[hAn];clear hAn HX;have hrow2:=uq HROW;go_wp2_with (at_builtin;refine wpList_append_own _ rfl _ _ 87 rfl w.heap.size 100 i0 _ 4 40 Tryz.underlying87 hi hz0 hz1 hz2 rfl (by decide) _ _ _ rfl ((uq HROW).alloc _) ⟨wr.heap.size,0,none⟩ 1 1 [.int .i64 0,.string ⟨#[]⟩,.int .i64 0,.int .i64 (n:Int)] rfl rfl (zeT wr _ _ _ _ _) (by simp[Value.oneCell']) (by unfold maxLen;omega) (by omega) (by simp;omega) ?_;intro v' w4 hown' hgrow hnil;obtain⟨g',cp',rfl⟩:=zak hown';have HOWN:=hide hown';have HK4:=hide (Below.grown ((uq HK).alloc _) hgrow (by simp;omega) (fun j ej=>((uq HROW).lt j ej).1));clear hown' hgrow hnil)
   go_ret3
   rw[uq HR1];refine⟨_,rfl,zmV (base:=w.heap.size) (e:=100) ?_,zm2 (uq HOWN),uq HK4⟩;show w4.ownsRow _ _ _ _ (acc++ [_]).length (tc (acc++ [_]));rw[uq HTC,List.length_append];exact uq HOWN
theorem zkV (l:List UInt8) (k:Nat):tk (l.drop k) k=match one (l.drop (sk false l k)) (sk false l k)with
  | .error e=>Except.error (e,sk false l k)
  | .ok t=>if t.k=0 then .ok [t]else pre [t] (tk (l.drop (sk false l k+t.s.length)) (sk false l k+t.s.length)):=by
 rw[zmT];have e1:(l.drop k).drop (skp false (l.drop k))=l.drop (sk false l k):=by rw[List.drop_drop];rfl
 rw[e1];simp only[List.drop_drop]
 rfl
theorem zgn (v:Value) (l:List UInt8) (w:World) (hl:l.length≤70000) (h:By w v l):Calls Tryz.prog 27 #[v] w (Tp (T l) w):=by
 obtain⟨a,cap,rfl⟩:=h.shape;unfold T
 by_cases hlong:65536<l.length
 ·rw[if_pos hlong];refine(zfm a l.length cap w hlong).mono ?_;rintro e w' ⟨rfl,rfl⟩;exact⟨_,rfl,zf9 _,ziO _,Keep.refl _⟩
 ·rw[if_neg hlong];refine zfp a l.length cap (tk l 0) (sk false l) (fun k=>one (l.drop (sk false l k)) (sk false l k)) (fun k=>tk (l.drop k) k) w (by omega) (hide fun k hk w' hK=>zhO _ l k w' hl hk (h.keep hK)) (hide fun k hk hA w' hK=>zkQ _ l _ w' hl hA (h.keep hK))
   (hide fun k hk=>⟨zn5 _ _ _,zn4 _ _ _ hk⟩) (hide fun k t hk ht hA=>?_) (hide fun k e hk he=>?_) (hide fun k t hk ht hA=>?_) (hide fun k hk hA=>?_) (hide (by rw[List.drop_zero]))
  ·rcases(zbS ht).2 with ⟨h1,_⟩|⟨h0,_,_,h1,h2,_⟩
   ·have:=congrArg List.length h1;simp only[List.length_drop,List.length_nil]at this;omega
   ·have:=zfk (l.drop (sk false l k));simp only[List.length_drop]at *;exact⟨h0,by omega,by omega⟩
  ·refine⟨?_,?_⟩
   ·intro e0
    subst e0;cases hr:l.drop (sk false l k)with
    |nil=>rw[hr]at he;simp[one]at he
    |cons c r=>rw[hr]at he;simp only[one]at he;(repeat' split at he)<;>simp at he
   ·show tk (l.drop k) k=_;rw[zkV,he]
  ·show tk (l.drop k) k=_;rw[zkV,ht];rcases(zbS ht).2 with ⟨h1,_⟩|⟨h0,_⟩
   ·have:=congrArg List.length h1;simp only[List.length_drop,List.length_nil]at this;omega
   ·simp only[if_neg h0]
  ·show tk (l.drop k) k=_;rw[zkV,hA,List.drop_length]
   rfl
namespace S
def d0:D:= .val (.bool false)
def tS (d:D):List UInt8:=(fS d).data.toList
def gt (ds:List D) (k:Nat):D:=ds.getD k d0
def zdP:List Ty:= [.s]
def zcs:List Ty:= [.s,.i,.i,.i,.i,.i,.i,.i,.i,.i,.i]
def zlL:List Ty:= [.s,.s,.i,.i,.i,.i]
def zba:List Ty:= [.s,.row 9 1 zdP,.i]
def ziR:List Ty:= [.b,.row 9 1 zdP]
def zbH:List Ty:= [.row 59 2 ziR]
def zkW:List Ty:= [.s,.s,.i]
def zhW:List Ty:= [.s,.s,.s,.i,.i,.i]
def za5:List Ty:= [.s,.row 84 11 zcs,.row 86 6 zlL,.row 45 3 zba,.row 62 1 zbH,.row 48 3 zkW,.i]
def zgo:List Ty:= [.i,.i,.i,.i,.i,.row 39 7 za5,.row 70 6 zhW,.i,.i]
theorem net_desc:zfo Tryz.prog 12 27=some zgo:=by kernel_rfl
end S
namespace S
def adO (a:Option Addr):Addr:=a.getD ⟨0,0,none⟩
end S
end Go.Proofs.YtpmaonkelkmhbaaGreat
