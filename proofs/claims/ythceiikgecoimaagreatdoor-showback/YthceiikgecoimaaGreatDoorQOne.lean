/- Which tokens are right: package lex and the document. -/
import Derived.Test.YthceiikgecoimaaGreatDoorLRToks
import Derived.Test.YthceiikgecoimaaGreatDoorLVal
import Derived.Deep.RegionHeld
import Derived.Test.YthceiikgecoimaaGreatDoorLFact
import Derived.Test.YthceiikgecoimaaGreatDoorNVal
import Derived.Test.YthceiikgecoimaaGreatDoorNCut
namespace Go.Proofs.YthceiikgecoimaaGreatDoor
open Go.RowKit
attribute [local go_sem ↓] Go.wp_at_zero Go.wp_at_succ
set_option linter.unusedVariables false
set_option linter.unusedSimpArgs false
set_option maxRecDepth 10000
theorem zi4 (w:World) (s:ByteArray):∃ cap o k,(∀ src dst,Tryz.prog.underlying src=some .string->Tryz.prog.underlying dst=some (.slice 5)->(convert src dst (.string s)).run Tryz.prog w= .ok (.slice (some ⟨w.heap.size,0,none⟩) s.size cap) (ext w #[o] k))/\By (ext w #[o] k) (.slice (some ⟨w.heap.size,0,none⟩) s.size cap) s.data.toList:=by
 refine⟨grownCap w s.size 0 5,.cells (bytesRow s (grownCap w s.size 0 5)) 5 ((bytesRow s (grownCap w s.size 0 5)).size,(bytesRow s (grownCap w s.size 0 5)).size+1),w.drew.drawn,λsrc dst hs hd=>?_,?_⟩
 ·rw[run_bytes_of_string (P:=Tryz.prog) w src dst 5 s hs hd Tryz.underlying5];congr 1
 ·refine⟨_,_,rfl,grownCap_ge _ _ _ _,λk hk=>⟨_,rfl,by simp,?_⟩⟩;rw[zbt,Nat.zero_add];have hk':k<s.data.size:=by simpa using hk
  have h1:(ext w #[Obj.cells (bytesRow s (grownCap w s.size 0 5)) 5 ((bytesRow s (grownCap w s.size 0 5)).size,(bytesRow s (grownCap w s.size 0 5)).size+1)] w.drew.drawn).cell? ⟨w.heap.size,k,none⟩=(bytesRow s (grownCap w s.size 0 5))[k]? :=by
   unfold World.cell? ext
   simp
  rw[h1,bytesRow_at s _ k hk'];congr 3;rw[List.getD_eq_getElem?_getD,List.getElem?_eq_getElem (by simpa using hk')];simp
def rg (t:Tok):Bool:=match T t.s with
 | .ok [x,_]=>decide (x.k=t.k)&&decide (x.n=t.n)&&decide (x.s=t.s)
 | _=>false
set_option maxHeartbeats 4000000 in
theorem zfq (K N P E M:Int) (n:Nat) (S:ByteArray) (w:World) (h:(E !=0)=true\/((E !=0)=false/\((n:Int) !=2)=true))
  (T1:Hid (∀ w' v,By w' v S.data.toList->Calls Tryz.prog 55 #[v] w' λe w''=>∃ a cap,e= .returned (.tuple #[.slice a n cap,.int .i64 E,.int .i64 M])/\Keep w' w'')):
  Calls Tryz.prog 69 #[.agg #[.int .i64 K,.string S,.int .i64 N,.int .i64 P]] w λe w'=>e= .returned (.bool false)/\Keep w w':=by
 obtain⟨cap,o,k1,hcv,hby⟩:=zi4 (w.alloc (.cells #[.int .i64 K,.string S,.int .i64 N,.int .i64 P] 118)) S;have hcv2:=hcv 9 29 Tryz.underlying9 Tryz.underlying29;simp only[World.size_alloc]at hcv2 hby;have HBY:=zh hby;clear hcv hby;have k0:=zh (zaa ((zk w).alloc (.cells #[.int .i64 K,.string S,.int .i64 N,.int .i64 P] 118)) #[o] k1);rcases h with h1|⟨h1,h2⟩
 ·go_enter Tryz.func69,Tryz.ntmps69;go_wp2_with fail
  (refine((uq T1) _ _ (uq HBY)).mono ?_;rintro e w2 ⟨a,cp,rfl,hk⟩;replace k0:=zh ((uq k0).trans hk);clear hk);go_wp2_with fail
  go_ret;exact⟨rfl,uq k0⟩
 ·go_enter Tryz.func69,Tryz.ntmps69;go_wp2_with fail
  (refine((uq T1) _ _ (uq HBY)).mono ?_;rintro e w2 ⟨a,cp,rfl,hk⟩;replace k0:=zh ((uq k0).trans hk);clear hk);go_wp2_with fail
  go_ret;exact⟨rfl,uq k0⟩
theorem zbO (w:World) (o1 o2:Obj) (os:Array Obj) (k:Nat) (ad:Addr) (h:w.heap.size<ad.block):(ext (w.alloc o1) os k).cell? ad=(ext (w.alloc o2) os k).cell? ad:=by
 have e:∀ o:Obj,(w.heap.push o++os)[ad.block]? =os[ad.block - (w.heap.size+1)]? :=λo=>by
  rw[Array.getElem?_append_right (by rw[Array.size_push];omega),Array.size_push]
 unfold World.cell? ext World.alloc
 simp only[e]
set_option maxHeartbeats 4000000 in
theorem zk3 (K N P:Int) (S:ByteArray) (w:World)
  (T1:Hid (∀ w' v,By w' v S.data.toList->Calls Tryz.prog 55 #[v] w' λe w''=>∃ ad cap,e= .returned (.tuple #[.slice (some ad) 2 cap,.int .i64 0,.int .i64 0])/\w'.heap.size<=ad.block/\ad.block<w''.heap.size/\(w''.cell? ad=some (.int .i64 K)/\w''.cell? ⟨ad.block,ad.off+1,none⟩=some (.string S)/\w''.cell? ⟨ad.block,ad.off+2,none⟩=some (.int .i64 N)/\w''.cell? ⟨ad.block,ad.off+3,none⟩=some (.int .i64 0))/\Keep w' w'')):
  Calls Tryz.prog 69 #[.agg #[.int .i64 K,.string S,.int .i64 N,.int .i64 P]] w λe w'=>e= .returned (.bool true)/\Keep w w':=by
 obtain⟨cap,o,k1,hcv,hby⟩:=zi4 (w.alloc (.cells #[.int .i64 K,.string S,.int .i64 N,.int .i64 P] 118)) S;have hcv2:=hcv 9 29 Tryz.underlying9 Tryz.underlying29;simp only[World.size_alloc]at hcv2 hby;have HBY:=zh hby;clear hcv hby;go_enter Tryz.func69,Tryz.ntmps69;go_wp2_with fail
 (refine((uq T1) _ _ (uq HBY)).mono ?_;rintro e w2 ⟨ad,cp,rfl,hlo,hhi,⟨c0,c1,c2,c3⟩,hk⟩;obtain⟨os,k2,rfl⟩:=hk.ext;clear hk);have k0:=zh (zaa ((zk w).alloc (.cells #[.int .i64 K,.string S,.int .i64 N,.int .i64 0] 118)) (#[o]++os) k2);simp only[zfg]at c0 c1 c2 c3 hhi;have hlo':w.heap.size<ad.block:=by simp at hlo;omega
 rw[zbO w _ (.cells #[.int .i64 K,.string S,.int .i64 N,.int .i64 0] 118) _ _ ad hlo']at c0;rw[zbO w _ (.cells #[.int .i64 K,.string S,.int .i64 N,.int .i64 0] 118) _ _ ⟨ad.block,_,none⟩ hlo']at c1 c2 c3;clear hlo hlo' hhi;go_wp2_with fail
 refine wp_region_held_drew (S:=λw'=>w'.cell? ad=some (.int .i64 K)/\w'.cell? ⟨ad.block,ad.off+1,none⟩=some (.string S)/\w'.cell? ⟨ad.block,ad.off+2,none⟩=some (.int .i64 N)/\w'.cell? ⟨ad.block,ad.off+3,none⟩=some (.int .i64 0)/\w'.cell? ⟨w.heap.size,0,none⟩=some (.int .i64 K)/\w'.cell? ⟨w.heap.size,1,none⟩=some (.string S)/\w'.cell? ⟨w.heap.size,2,none⟩=some (.int .i64 N)/\w'.cell? ⟨w.heap.size,3,none⟩=some (.int .i64 0)) (by kernel_rfl) (by exact⟨c0,c1,c2,c3,by simp[go_sem],by simp[go_sem],by simp[go_sem],by simp[go_sem]⟩) (λzH=>?_);refine tk6 0 22 1 23 2 24 3 25 4 26 5 2 zH ?_;try simp only[Yq]
 refine wpAnyH_done (by kernel_rfl) ?_ _;clear zH;go_wp2_with fail
 go_ret;exact⟨rfl,(uq k0).drew⟩
set_option maxHeartbeats 4000000 in
theorem zou (K N P K2 N2 P2:Int) (S S2:ByteArray) (w:World) (hne:¬K2=K)
  (T1:Hid (∀ w' v,By w' v S.data.toList->Calls Tryz.prog 55 #[v] w' λe w''=>∃ ad cap,e= .returned (.tuple #[.slice (some ad) 2 cap,.int .i64 0,.int .i64 0])/\w'.heap.size<=ad.block/\ad.block<w''.heap.size/\(w''.cell? ad=some (.int .i64 K2)/\w''.cell? ⟨ad.block,ad.off+1,none⟩=some (.string S2)/\w''.cell? ⟨ad.block,ad.off+2,none⟩=some (.int .i64 N2)/\w''.cell? ⟨ad.block,ad.off+3,none⟩=some (.int .i64 P2))/\Keep w' w'')):
  Calls Tryz.prog 69 #[.agg #[.int .i64 K,.string S,.int .i64 N,.int .i64 P]] w λe w'=>e= .returned (.bool false)/\Keep w w':=by
 obtain⟨cap,o,k1,hcv,hby⟩:=zi4 (w.alloc (.cells #[.int .i64 K,.string S,.int .i64 N,.int .i64 P] 118)) S;have hcv2:=hcv 9 29 Tryz.underlying9 Tryz.underlying29;simp only[World.size_alloc]at hcv2 hby;have HBY:=zh hby;clear hcv hby;go_enter Tryz.func69,Tryz.ntmps69;go_wp2_with fail
 (refine((uq T1) _ _ (uq HBY)).mono ?_;rintro e w2 ⟨ad,cp,rfl,hlo,hhi,⟨c0,c1,c2,c3⟩,hk⟩;obtain⟨os,k2,rfl⟩:=hk.ext;clear hk);have k0:=zh (zaa ((zk w).alloc (.cells #[.int .i64 K,.string S,.int .i64 N,.int .i64 0] 118)) (#[o]++os) k2);simp only[zfg]at c0 c1 c2 c3 hhi;have hlo':w.heap.size<ad.block:=by simp at hlo;omega
 rw[zbO w _ (.cells #[.int .i64 K,.string S,.int .i64 N,.int .i64 0] 118) _ _ ad hlo']at c0;rw[zbO w _ (.cells #[.int .i64 K,.string S,.int .i64 N,.int .i64 0] 118) _ _ ⟨ad.block,_,none⟩ hlo']at c1 c2 c3;clear hlo hlo' hhi;go_wp2_with fail
 refine wp_region_held_drew (S:=λw'=>w'.cell? ad=some (.int .i64 K2)/\w'.cell? ⟨ad.block,ad.off+1,none⟩=some (.string S2)/\w'.cell? ⟨ad.block,ad.off+2,none⟩=some (.int .i64 N2)/\w'.cell? ⟨ad.block,ad.off+3,none⟩=some (.int .i64 P2)/\w'.cell? ⟨w.heap.size,0,none⟩=some (.int .i64 K)/\w'.cell? ⟨w.heap.size,1,none⟩=some (.string S)/\w'.cell? ⟨w.heap.size,2,none⟩=some (.int .i64 N)/\w'.cell? ⟨w.heap.size,3,none⟩=some (.int .i64 0)) (by kernel_rfl) (by exact⟨c0,c1,c2,c3,by simp[go_sem],by simp[go_sem],by simp[go_sem],by simp[go_sem]⟩) (λzH=>?_);refine tk6 0 22 1 23 2 24 3 25 4 26 5 2 zH ?_;try simp only[Yq]
 refine wpAnyH_done (by kernel_rfl) ?_ _;clear zH;go_wp2_with fail
 go_ret;exact⟨rfl,(uq k0).drew⟩
set_option maxHeartbeats 4000000 in
theorem zov (K N P N2 P2:Int) (S S2:ByteArray) (w:World) (hne:¬S2.toList=S.toList)
  (T1:Hid (∀ w' v,By w' v S.data.toList->Calls Tryz.prog 55 #[v] w' λe w''=>∃ ad cap,e= .returned (.tuple #[.slice (some ad) 2 cap,.int .i64 0,.int .i64 0])/\w'.heap.size<=ad.block/\ad.block<w''.heap.size/\(w''.cell? ad=some (.int .i64 K)/\w''.cell? ⟨ad.block,ad.off+1,none⟩=some (.string S2)/\w''.cell? ⟨ad.block,ad.off+2,none⟩=some (.int .i64 N2)/\w''.cell? ⟨ad.block,ad.off+3,none⟩=some (.int .i64 P2))/\Keep w' w'')):
  Calls Tryz.prog 69 #[.agg #[.int .i64 K,.string S,.int .i64 N,.int .i64 P]] w λe w'=>e= .returned (.bool false)/\Keep w w':=by
 obtain⟨cap,o,k1,hcv,hby⟩:=zi4 (w.alloc (.cells #[.int .i64 K,.string S,.int .i64 N,.int .i64 P] 118)) S;have hcv2:=hcv 9 29 Tryz.underlying9 Tryz.underlying29;simp only[World.size_alloc]at hcv2 hby;have HBY:=zh hby;clear hcv hby;go_enter Tryz.func69,Tryz.ntmps69;go_wp2_with fail
 (refine((uq T1) _ _ (uq HBY)).mono ?_;rintro e w2 ⟨ad,cp,rfl,hlo,hhi,⟨c0,c1,c2,c3⟩,hk⟩;obtain⟨os,k2,rfl⟩:=hk.ext;clear hk);have k0:=zh (zaa ((zk w).alloc (.cells #[.int .i64 K,.string S,.int .i64 N,.int .i64 0] 118)) (#[o]++os) k2);simp only[zfg]at c0 c1 c2 c3 hhi;have hlo':w.heap.size<ad.block:=by simp at hlo;omega
 rw[zbO w _ (.cells #[.int .i64 K,.string S,.int .i64 N,.int .i64 0] 118) _ _ ad hlo']at c0;rw[zbO w _ (.cells #[.int .i64 K,.string S,.int .i64 N,.int .i64 0] 118) _ _ ⟨ad.block,_,none⟩ hlo']at c1 c2 c3;clear hlo hlo' hhi;go_wp2_with fail
 refine wp_region_held_drew (S:=λw'=>w'.cell? ad=some (.int .i64 K)/\w'.cell? ⟨ad.block,ad.off+1,none⟩=some (.string S2)/\w'.cell? ⟨ad.block,ad.off+2,none⟩=some (.int .i64 N2)/\w'.cell? ⟨ad.block,ad.off+3,none⟩=some (.int .i64 P2)/\w'.cell? ⟨w.heap.size,0,none⟩=some (.int .i64 K)/\w'.cell? ⟨w.heap.size,1,none⟩=some (.string S)/\w'.cell? ⟨w.heap.size,2,none⟩=some (.int .i64 N)/\w'.cell? ⟨w.heap.size,3,none⟩=some (.int .i64 0)) (by kernel_rfl) (by exact⟨c0,c1,c2,c3,by simp[go_sem],by simp[go_sem],by simp[go_sem],by simp[go_sem]⟩) (λzH=>?_);refine tk6 0 22 1 23 2 24 3 25 4 26 5 2 zH ?_;try simp only[Yq]
 refine wpAnyH_done (by kernel_rfl) ?_ _;clear zH;go_wp2_with fail
 go_ret;exact⟨rfl,(uq k0).drew⟩
set_option maxHeartbeats 4000000 in
theorem zow (K N P N2 P2:Int) (S:ByteArray) (w:World) (hne:¬N2=N)
  (T1:Hid (∀ w' v,By w' v S.data.toList->Calls Tryz.prog 55 #[v] w' λe w''=>∃ ad cap,e= .returned (.tuple #[.slice (some ad) 2 cap,.int .i64 0,.int .i64 0])/\w'.heap.size<=ad.block/\ad.block<w''.heap.size/\(w''.cell? ad=some (.int .i64 K)/\w''.cell? ⟨ad.block,ad.off+1,none⟩=some (.string S)/\w''.cell? ⟨ad.block,ad.off+2,none⟩=some (.int .i64 N2)/\w''.cell? ⟨ad.block,ad.off+3,none⟩=some (.int .i64 P2))/\Keep w' w'')):
  Calls Tryz.prog 69 #[.agg #[.int .i64 K,.string S,.int .i64 N,.int .i64 P]] w λe w'=>e= .returned (.bool false)/\Keep w w':=by
 obtain⟨cap,o,k1,hcv,hby⟩:=zi4 (w.alloc (.cells #[.int .i64 K,.string S,.int .i64 N,.int .i64 P] 118)) S;have hcv2:=hcv 9 29 Tryz.underlying9 Tryz.underlying29;simp only[World.size_alloc]at hcv2 hby;have HBY:=zh hby;clear hcv hby;go_enter Tryz.func69,Tryz.ntmps69;go_wp2_with fail
 (refine((uq T1) _ _ (uq HBY)).mono ?_;rintro e w2 ⟨ad,cp,rfl,hlo,hhi,⟨c0,c1,c2,c3⟩,hk⟩;obtain⟨os,k2,rfl⟩:=hk.ext;clear hk);have k0:=zh (zaa ((zk w).alloc (.cells #[.int .i64 K,.string S,.int .i64 N,.int .i64 0] 118)) (#[o]++os) k2);simp only[zfg]at c0 c1 c2 c3 hhi;have hlo':w.heap.size<ad.block:=by simp at hlo;omega
 rw[zbO w _ (.cells #[.int .i64 K,.string S,.int .i64 N,.int .i64 0] 118) _ _ ad hlo']at c0;rw[zbO w _ (.cells #[.int .i64 K,.string S,.int .i64 N,.int .i64 0] 118) _ _ ⟨ad.block,_,none⟩ hlo']at c1 c2 c3;clear hlo hlo' hhi;go_wp2_with fail
 refine wp_region_held_drew (S:=λw'=>w'.cell? ad=some (.int .i64 K)/\w'.cell? ⟨ad.block,ad.off+1,none⟩=some (.string S)/\w'.cell? ⟨ad.block,ad.off+2,none⟩=some (.int .i64 N2)/\w'.cell? ⟨ad.block,ad.off+3,none⟩=some (.int .i64 P2)/\w'.cell? ⟨w.heap.size,0,none⟩=some (.int .i64 K)/\w'.cell? ⟨w.heap.size,1,none⟩=some (.string S)/\w'.cell? ⟨w.heap.size,2,none⟩=some (.int .i64 N)/\w'.cell? ⟨w.heap.size,3,none⟩=some (.int .i64 0)) (by kernel_rfl) (by exact⟨c0,c1,c2,c3,by simp[go_sem],by simp[go_sem],by simp[go_sem],by simp[go_sem]⟩) (λzH=>?_);refine tk6 0 22 1 23 2 24 3 25 4 26 5 2 zH ?_;try simp only[Yq]
 refine wpAnyH_done (by kernel_rfl) ?_ _;clear zH;go_wp2_with fail
 go_ret;exact⟨rfl,(uq k0).drew⟩
end Go.Proofs.YthceiikgecoimaaGreatDoor
namespace Go.Proofs.YthceiikgecoimaaGreatDoor
open Go.RowKit
set_option linter.unusedVariables false
set_option linter.unusedSimpArgs false
set_option maxRecDepth 10000
theorem zcX (l:List UInt8):(sv l).data.toList=l:=rfl
theorem zox (l:List UInt8):(sv l).toList=l:=ByteArray.toList_mk l
theorem zq2 {t x y:Tok} (h:T t.s= .ok [x,y]):rg t=(decide (x.k=t.k)&&decide (x.n=t.n)&&decide (x.s=t.s)):=by unfold rg;rw[h]
theorem zoy {t:Tok} (h:∀ x y,T t.s≠ .ok [x,y]):rg t=false:=by
 unfold rg
 split
 ·rename_i x y hx;exact absurd hx (h x y)
 ·rfl
theorem zq3 {w:World} {v:Value} {x y:Tok} (h:Ts w v [x,y]):∃ ad cap,v= .slice (some ad) 2 cap/\ad.block<w.heap.size/\Tc w ad x:=by
 obtain⟨a,cap,rfl,_,h⟩:=h;obtain⟨ad,rfl,hb,h1⟩:=h 0 (by simp);have e:ad.add (0 * 4)=ad:=by simp[Addr.add]
 rw[e]at h1;exact⟨ad,cap,rfl,hb,h1⟩
theorem zi5 (t:Tok) (w:World) (hl:t.s.length<=70000):Calls Tryz.prog 69 #[tv t] w λe w'=>e= .returned (.bool (rg t))/\Keep w w':=by
 have A:∀ w' v,By w' v (sv t.s).data.toList->Calls Tryz.prog 55 #[v] w' (Tp (T t.s) w'):=λw' v h=>zfm v _ w' hl h
 cases hT:T t.s with
 |error y=>
  obtain⟨e,a⟩:=y;rw[hT]at A;rw[zoy (λx y h=>by rw[hT]at h;cases h)];have he:=(zqS hT).1;refine zfq _ _ _ e a 0 _ w (.inl (by simp;omega)) (zh λw' v h=>(A w' v h).mono ?_);rintro _ w'' ⟨u,rfl,h1,_,h3⟩;obtain⟨b,cap,rfl⟩:=h1.shape;exact⟨b,cap,rfl,h3⟩
 |ok L=>
  rw[hT]at A;by_cases h2:L.length=2
  ·obtain⟨x,y,rfl⟩:∃ x y,L= [x,y]:=by
    match L,h2 with
    | [x,y],_=>exact⟨x,y,rfl⟩
   rw[zq2 hT];have B:∀ w' v,By w' v (sv t.s).data.toList->Calls Tryz.prog 55 #[v] w' λe w''=>∃ ad cap,e= .returned (.tuple #[.slice (some ad) 2 cap,.int .i64 0,.int .i64 0])/\w'.heap.size<=ad.block/\ad.block<w''.heap.size/\Tc w'' ad x/\Keep w' w'':=λw' v h=>(A w' v h).mono (by
    rintro _ w'' ⟨u,rfl,h1,h2,h3⟩;obtain⟨ad,cap,rfl,hb,hc⟩:=zq3 h1;exact⟨ad,cap,rfl,h2 ad _ _ rfl,hb,hc,h3⟩)
   by_cases hk:x.k=t.k
   ·by_cases hs:x.s=t.s
    ·have hp:=zsf hT hs;by_cases hn:x.n=t.n
     ·have e:(decide (x.k=t.k)&&decide (x.n=t.n)&&decide (x.s=t.s))=true:=by simp[hk,hs,hn]
      rw[e];unfold Tc at B
      rw[hk,hs,hn,hp]at B;exact zk3 _ _ _ _ w (zh B)
     ·have e:(decide (x.k=t.k)&&decide (x.n=t.n)&&decide (x.s=t.s))=false:=by simp[hn]
      rw[e];unfold Tc at B
      rw[hk,hs]at B;exact zow _ _ _ _ _ _ w hn (zh B)
    ·have e:(decide (x.k=t.k)&&decide (x.n=t.n)&&decide (x.s=t.s))=false:=by simp[hs]
     rw[e];unfold Tc at B
     rw[hk]at B;exact zov _ _ _ _ _ _ _ w (by rw[zox,zox];exact hs) (zh B)
   ·have e:(decide (x.k=t.k)&&decide (x.n=t.n)&&decide (x.s=t.s))=false:=by simp[hk]
    rw[e];exact zou _ _ _ _ _ _ _ _ w hk (zh B)
  ·rw[zoy (λx y h=>by rw[hT]at h;simp only[Except.ok.injEq]at h;rw[h]at h2;exact h2 rfl)];refine zfq _ _ _ 0 0 L.length _ w (.inr ⟨rfl,by simp;omega⟩) (zh λw' v h=>(A w' v h).mono ?_);rintro _ w'' ⟨u,rfl,h1,_,h3⟩;obtain⟨b,cap,rfl⟩:=h1.shape;exact⟨b,cap,rfl,h3⟩
end Go.Proofs.YthceiikgecoimaaGreatDoor
namespace Go.Proofs.YthceiikgecoimaaGreatDoor
open Go.RowKit
attribute [local go_sem ↓] Go.wp_at_zero Go.wp_at_succ
set_option linter.unusedVariables false
set_option linter.unusedSimpArgs false
set_option maxRecDepth 10000
namespace S
def d0:D:= .val (.bool false)
def tS (d:D):List UInt8:=(fS d).data.toList
def gt (ds:List D) (k:Nat):D:=ds.getD k d0
def nmB (s:List UInt8):Bool:=rg ⟨1,s,0,0⟩&& !decide (s∈words)
def nuB (n:Int):Bool:=decide (0<=n/\n<=999999999999999999)
def grB (n:Int):Bool:=decide (-999999999999999999<=n/\n<=999999999999999999)
def zfr (l:List Int):Bool:=l.all nuB
def zcP (lo hi:Nat) (B:List D->Bool) (L:List (List D)):Bool:=decide (lo<=L.length/\L.length<=hi)&&L.all B
def zfW (ds:List D):Bool:=nmB (tS (gt ds 0))
def zeS (ds:List D):Bool:=nmB (tS (gt ds 0))&&(grB (fI (gt ds 6))&&zfr [fI (gt ds 1),fI (gt ds 2),fI (gt ds 3),fI (gt ds 4),fI (gt ds 5),fI (gt ds 7),fI (gt ds 8),fI (gt ds 9)])
def zfs (ds:List D):Bool:=nmB (tS (gt ds 0))&&(nmB (tS (gt ds 1))&&zfr [fI (gt ds 2),fI (gt ds 3),fI (gt ds 4)])
def zdx (ds:List D):Bool:=nmB (tS (gt ds 0))&&zcP 1 16 zfW (fL (gt ds 1))
def zeT (ds:List D):Bool:=zcP 1 4 zfW (fL (gt ds 1))
def zdy (ds:List D):Bool:=zcP 1 2 zeT (fL (gt ds 0))
def zk4 (ds:List D):Bool:=nmB (tS (gt ds 0))&&nmB (tS (gt ds 1))
def zeU (ds:List D):Bool:=nmB (tS (gt ds 0))&&(nmB (tS (gt ds 1))&&(nmB (tS (gt ds 2))&&zfr [fI (gt ds 3),fI (gt ds 4)]))
def zeC (ds:List D):Bool:=nmB (tS (gt ds 0))&&(zcP 0 16 zeS (fL (gt ds 1))&&(zcP 0 8 zfs (fL (gt ds 2))&&(zcP 0 16 zdx (fL (gt ds 3))&&(zcP 0 4 zdy (fL (gt ds 4))&&zcP 0 64 zk4 (fL (gt ds 5))))))
def zei (ds:List D):Bool:=zfr [fI (gt ds 0),fI (gt ds 1),fI (gt ds 2),fI (gt ds 3),fI (gt ds 4),fI (gt ds 7),fI (gt ds 8)]&&(zcP 0 12 zeC (fL (gt ds 5))&&zcP 0 12 zeU (fL (gt ds 6)))
def zcd:List Ty:= [.s]
def zdT:List Ty:= [.s,.i,.i,.i,.i,.i,.i,.i,.i,.i,.i]
def zhI:List Ty:= [.s,.s,.i,.i,.i,.i]
def zb9:List Ty:= [.s,.row 9 1 zcd,.i]
def zfX:List Ty:= [.b,.row 9 1 zcd]
def zca:List Ty:= [.row 86 2 zfX]
def zhJ:List Ty:= [.s,.s,.i]
def zdz:List Ty:= [.s,.s,.s,.i,.i,.i]
def zcx:List Ty:= [.s,.row 77 11 zdT,.row 79 6 zhI,.row 81 3 zb9,.row 84 1 zca,.row 88 3 zhJ,.i]
def zdo:List Ty:= [.i,.i,.i,.i,.i,.row 45 7 zcx,.row 48 6 zdz,.i,.i]
theorem net_desc:zhG Tryz.prog 12 27=some zdo:=by kernel_rfl
theorem zi6 {lo hi:Nat} {B:List D->Bool} {L:List (List D)} (h:¬(lo<=L.length/\L.length<=hi)):zcP lo hi B L=false:=by simp only[zcP,decide_eq_false h,Bool.false_and]
theorem zhg {lo hi:Nat} {B:List D->Bool} {L:List (List D)} {k:Nat} (hk:k<L.length) (h:B (L.getD k [])=false):zcP lo hi B L=false:=by
 unfold zcP
 rw[Bool.and_eq_false_iff];right;rw[List.all_eq_false];refine⟨L.getD k [],?_,by rw[h];simp⟩;rw[List.getD_eq_getElem?_getD,List.getElem?_eq_getElem hk];exact List.getElem_mem hk
theorem zhh {lo hi:Nat} {B:List D->Bool} {L:List (List D)} (h:lo<=L.length/\L.length<=hi) (hB:∀ k,k<L.length->B (L.getD k [])=true):zcP lo hi B L=true:=by
 unfold zcP
 rw[decide_eq_true h,Bool.true_and,List.all_eq_true];intro x hx
 obtain⟨k,hk,rfl⟩:=List.getElem_of_mem hx;have:=hB k hk;rwa[List.getD_eq_getElem?_getD,List.getElem?_eq_getElem hk]at this
theorem zdA (l:List UInt8):tS (dS l)=l:=rfl
end S
end Go.Proofs.YthceiikgecoimaaGreatDoor
namespace Go.Proofs.YthceiikgecoimaaGreatDoor
open Go.RowKit
set_option linter.unusedVariables false
set_option linter.unusedSimpArgs false
set_option maxRecDepth 10000
def bc (l:List UInt8):List Value:=l.map λx=>Value.int .u8 (x.toNat:Int)
theorem zfY (l m:List UInt8):bc (l++m)=bc l++bc m:=List.map_append
end Go.Proofs.YthceiikgecoimaaGreatDoor
namespace Go.Proofs.YthceiikgecoimaaGreatDoor
open Go.RowKit
attribute [local go_sem ↓] Go.wp_at_zero Go.wp_at_succ
set_option linter.unusedVariables false
set_option linter.unusedSimpArgs false
set_option maxRecDepth 10000
set_option maxHeartbeats 4000000 in
theorem zi7 (w:World):Calls Tryz.prog 140 #[] w λe w'=>e= .returned (.slice (some ⟨w.heap.size,0,none⟩) 42 42)/\w'=w.alloc (.cells ((words.map λx=>Value.string (sv x)).toArray) 9):=by
 go_enter Tryz.func140,Tryz.ntmps140;go_wp2_with fail
 go_ret;exact⟨rfl,rfl⟩
set_option maxHeartbeats 4000000 in
theorem zoz (s:ByteArray) (ad:Addr) (n cap:Nat) (X:Nat->ByteArray) (B:Nat->Bool) (r:Bool) (w:World) (hn:n<=100000)
  (HC:Hid (∀ k,k<n->w.cell? (ad.add k)=some (.string (X k))))
  (HB:Hid (∀ k,k<n->((X k).toList==s.toList)=B k))
  (H1:Hid (∀ k,k<n->B k=true->r=true))
  (H2:Hid ((∀ k,k<n->B k=false)->r=false)):
  Calls Tryz.prog 139 #[.string s,.slice (some ad) n cap] w λe w'=>e= .returned (.bool r)/\w'=w:=by
 go_enter Tryz.func139,Tryz.ntmps139;go_wp2_with fail
 go_loop [5] (λvi=>∃ k:Nat,k<=n/\vi= .int .i64 (k:Int)/\Hid (∀ j,j<k->B j=false)) (λvi=>n - (intOf vi).toNat)
 case atStart=>exact⟨0,Nat.zero_le _,rfl,zh λj hj=>by omega⟩
 case round=>
  obtain⟨k,hk,rfl,HN⟩:=hrel;by_cases hlt:k<n
  ·have li:(k:Int)<(n:Int):=by omega
   have ck:=(uq HC) k hlt;have hb:=(uq HB) k hlt;have HQ:=zh ((uq H1) k hlt);generalize X k=x at *;obtain⟨b,hbk⟩:∃ b,B k=b:=⟨_,rfl⟩;rw[hbk]at hb;have HBK:=zh hbk;clear hbk;cases b with
   |true=>
    have hr:=(uq HQ) (uq HBK);subst hr;go_wp2_with fail
    go_ret;exact⟨rfl,rfl⟩
   |false=>
    go_wp2_with fail
    exact⟨⟨k+1,hlt,by go_num,zh λj hj=>(Nat.lt_succ_iff_lt_or_eq.1 hj).elim ((uq HN) j) (λe=>e▸uq HBK)⟩,by simp[intOf];omega⟩
  ·have hr:=(uq H2) (λj hj=>(uq HN) j (by omega));subst hr;go_wp2_with fail
   go_ret;exact⟨rfl,rfl⟩
theorem zoA (l:List UInt8):(sv l).toList=l:=ByteArray.toList_mk l
theorem zk5 (s:ByteArray) (g:Nat) (w:World) (HC:∀ k,k<42->w.cell? ⟨g,k,none⟩=some (.string (sv (words.getD k [])))):
  Calls Tryz.prog 139 #[.string s,.slice (some ⟨g,0,none⟩) 42 42] w λe w'=>e= .returned (.bool (decide (s.toList∈words)))/\w'=w:=by
 refine zoz s ⟨g,0,none⟩ 42 42 (λk=>sv (words.getD k [])) (λk=>words.getD k []==s.toList) _ w (by decide) (zh λk hk=>?_) (zh λk hk=>by rw[zoA]) (zh λk hk hb=>?_) (zh λh=>?_)
 ·rw[zbt,Nat.zero_add];exact HC k hk
 ·rw[decide_eq_true_iff,<- eq_of_beq hb,List.getD_eq_getElem?_getD,List.getElem?_eq_getElem (show k<words.length from hk)];exact List.getElem_mem _
 ·rw[decide_eq_false_iff_not];intro hm
  obtain⟨k,hk,e⟩:=List.getElem_of_mem hm;have:=h k hk;rw[List.getD_eq_getElem?_getD,List.getElem?_eq_getElem hk,Option.getD_some,e]at this;simp at this
set_option maxHeartbeats 4000000 in
theorem zi8 (s:ByteArray) (r:Bool) (w:World) (o:Obj)
  (T1:Hid (∀ w:World,Calls Tryz.prog 140 #[] w λe w'=>e= .returned (.slice (some ⟨w.heap.size,0,none⟩) 42 42)/\w'=w.alloc o))
  (T2:Hid (∀ w:World,Calls Tryz.prog 139 #[.string s,.slice (some ⟨w.heap.size,0,none⟩) 42 42] (w.alloc o) λe w'=>e= .returned (.bool r)/\w'=w.alloc o)):
  Calls Tryz.prog 102 #[.string s] w λe w'=>e= .returned (.bool r)/\Keep w w':=by
 go_enter Tryz.func102,Tryz.ntmps102;go_wp2_with fail
 (refine((uq T1) _).mono ?_;rintro e w2 ⟨rfl,rfl⟩);go_wp2_with fail
 (refine((uq T2) _).mono ?_;rintro e w2 ⟨rfl,rfl⟩);go_wp2_with fail
 go_ret;exact⟨rfl,(zk w).alloc _⟩
theorem zft (s:ByteArray) (w:World):Calls Tryz.prog 102 #[.string s] w λe w'=>e= .returned (.bool (decide (s.toList∈words)))/\Keep w w':=by
 refine zi8 s _ w _ (zh λw=>zi7 w) (zh λw=>zk5 s w.heap.size _ λk hk=>?_);rw[World.cell?_alloc_mark,List.getElem?_toArray,List.getElem?_map,List.getD_eq_getElem?_getD,List.getElem?_eq_getElem (show k<words.length from hk)]
 rfl
namespace Q
theorem frb (w:World) (b j:Nat) (v:Value) (hv:v.oneCell'=true):Fr (λi=>i=b) w (w.setCell ⟨b,j,none⟩ v):=(Fr.refl (λi=>i=b) w).set ⟨b,j,none⟩ v rfl hv
set_option maxHeartbeats 1000000 in
theorem zi9 (b:Nat) (e x:Int) (w:World) (he:(e==0)=false) (c1:w.cell? ⟨b,1,none⟩=some (.int .i64 e)):Calls Tryz.prog 54 #[.pointer (some ⟨b,0,none⟩),.int .i64 x] w λr w'=>r= .returned (.tuple #[])/\w'=w:=by
 go_enter Tryz.func54,Tryz.ntmps54;go_wp2_with fail
 go_end0
 exact⟨rfl,rfl⟩
set_option maxHeartbeats 2000000 in
theorem zhK (b m cap:Nat) (ad:Addr) (x p pp:Int) (w:World) (hb:ad.block≠b) (c0:w.cell? ⟨b,0,none⟩=some (.slice (some ad) (m+1) cap)) (c1:w.cell? ⟨b,1,none⟩=some (.int .i64 0)) (c2:w.cell? ⟨b,2,none⟩=some (.int .i64 p)) (f1:w.frozen? ⟨b,1,none⟩=false) (f2:w.frozen? ⟨b,2,none⟩=false) (t3:w.cell? ⟨ad.block,ad.off+3,none⟩=some (.int .i64 pp)):
  Calls Tryz.prog 54 #[.pointer (some ⟨b,0,none⟩),.int .i64 x] w λr w'=>r= .returned (.tuple #[])/\w'=(w.setCell ⟨b,1,none⟩ (.int .i64 x)).setCell ⟨b,2,none⟩ (.int .i64 pp):=by
 have d0:(w.setCell ⟨b,1,none⟩ (.int .i64 x)).cell? ⟨b,0,none⟩=some (.slice (some ad) (m+1) cap):=by rw[zb8 _ _ _ _ (by simp)];exact c0
 have d2:(w.setCell ⟨b,1,none⟩ (.int .i64 x)).cell? ⟨b,2,none⟩=some (.int .i64 p):=by rw[zb8 _ _ _ _ (by simp)];exact c2
 have d3:(w.setCell ⟨b,1,none⟩ (.int .i64 x)).cell? ⟨ad.block,ad.off+3,none⟩=some (.int .i64 pp):=by rw[zac _ _ _ _ (λe=>hb e.symm)];exact t3
 have d4:(w.setCell ⟨b,1,none⟩ (.int .i64 x)).frozen? ⟨b,2,none⟩=false:=by rw[World.frozen?_setCell];exact f2
 go_enter Tryz.func54,Tryz.ntmps54
 go_upto_region 2 with fail
 obtain⟨w1,HW⟩:∃ w1,Hid (w.setCell ⟨b,1,none⟩ (.int .i64 x)=w1):=⟨_,rfl⟩;rw[uq HW]at d0 d2 d3 d4 |-;go_wp2_with fail
 go_end0
 exact⟨rfl,by rw[uq HW]⟩
set_option maxHeartbeats 2000000 in
theorem zfZ (b m cap:Nat) (ad:Addr) (e kk nn pp:Int) (S:ByteArray) (w:World) (h:(e==0)=false\/((e==0)=true/\(kk !=0)=false)) (c0:w.cell? ⟨b,0,none⟩=some (.slice (some ad) (m+1) cap)) (c1:w.cell? ⟨b,1,none⟩=some (.int .i64 e)) (t0:w.cell? ad=some (.int .i64 kk)) (t1:w.cell? ⟨ad.block,ad.off+1,none⟩=some (.string S)) (t2:w.cell? ⟨ad.block,ad.off+2,none⟩=some (.int .i64 nn)) (t3:w.cell? ⟨ad.block,ad.off+3,none⟩=some (.int .i64 pp)):
  Calls Tryz.prog 52 #[.pointer (some ⟨b,0,none⟩)] w λr w'=>r= .returned (.agg #[.int .i64 kk,.string S,.int .i64 nn,.int .i64 pp])/\Keep w w':=by
 have k:∀ o,Keep w (w.alloc o):=λo=>(zk w).alloc o
 have g0:∀ o,(w.alloc o).cell? ⟨b,0,none⟩=some (.slice (some ad) (m+1) cap):=λo=>kcell (k o) c0
 have q0:∀ o,(w.alloc o).cell? ad=some (.int .i64 kk):=λo=>kcell (k o) t0
 have q1:∀ o,(w.alloc o).cell? ⟨ad.block,ad.off+1,none⟩=some (.string S):=λo=>kcell (k o) t1
 have q2:∀ o,(w.alloc o).cell? ⟨ad.block,ad.off+2,none⟩=some (.int .i64 nn):=λo=>kcell (k o) t2
 have q3:∀ o,(w.alloc o).cell? ⟨ad.block,ad.off+3,none⟩=some (.int .i64 pp):=λo=>kcell (k o) t3
 have g1:∀ o o2,((w.alloc o).alloc o2).cell? ⟨b,1,none⟩=some (.int .i64 e):=λo o2=>kcell ((k o).alloc o2) c1
 have HK:=zh k;clear k;rcases h with h|⟨h,h2⟩
 all_goals
  go_enter Tryz.func52,Tryz.ntmps52;go_wp2_with fail
  refine bodyPost_ret (v:= .agg #[.int .i64 kk,.string S,.int .i64 nn,.int .i64 pp]) ?_ rfl ?_
  ·simp[results,Tryz.results52,go_sem]
  ·exact⟨rfl,by repeat(first|apply zaa|apply Keep.alloc|apply Keep.drew|exact zk _)⟩
set_option maxHeartbeats 2000000 in
theorem zoB (b m cap:Nat) (ad:Addr) (kk nn pp:Int) (S:ByteArray) (w:World) (hc:¬cap=1) (hk:(kk !=0)=true) (c0:w.cell? ⟨b,0,none⟩=some (.slice (some ad) (m+1) cap)) (c1:w.cell? ⟨b,1,none⟩=some (.int .i64 0)) (f0:w.frozen? ⟨b,0,none⟩=false) (t0:w.cell? ad=some (.int .i64 kk)) (t1:w.cell? ⟨ad.block,ad.off+1,none⟩=some (.string S)) (t2:w.cell? ⟨ad.block,ad.off+2,none⟩=some (.int .i64 nn)) (t3:w.cell? ⟨ad.block,ad.off+3,none⟩=some (.int .i64 pp)):
  Calls Tryz.prog 52 #[.pointer (some ⟨b,0,none⟩)] w λr w'=>r= .returned (.agg #[.int .i64 kk,.string S,.int .i64 nn,.int .i64 pp])/\Keep (w.setCell ⟨b,0,none⟩ (.slice (some ⟨ad.block,ad.off+4,none⟩) m (cap - 1))) w':=by
 have hb:b<w.heap.size:=zat c0;have k:∀ o,Keep w (w.alloc o):=λo=>(zk w).alloc o
 have g0:∀ o,(w.alloc o).cell? ⟨b,0,none⟩=some (.slice (some ad) (m+1) cap):=λo=>kcell (k o) c0
 have q0:∀ o,(w.alloc o).cell? ad=some (.int .i64 kk):=λo=>kcell (k o) t0
 have q1:∀ o,(w.alloc o).cell? ⟨ad.block,ad.off+1,none⟩=some (.string S):=λo=>kcell (k o) t1
 have q2:∀ o,(w.alloc o).cell? ⟨ad.block,ad.off+2,none⟩=some (.int .i64 nn):=λo=>kcell (k o) t2
 have q3:∀ o,(w.alloc o).cell? ⟨ad.block,ad.off+3,none⟩=some (.int .i64 pp):=λo=>kcell (k o) t3
 have HK:=zh k;clear k;go_enter Tryz.func52,Tryz.ntmps52;have g1:∀ o o2,((w.alloc o).alloc o2).cell? ⟨b,1,none⟩=some (.int .i64 0):=λo o2=>kcell (((uq HK) o).alloc o2) c1
 have g3:∀ o o2,((w.alloc o).alloc o2).cell? ⟨b,0,none⟩=some (.slice (some ad) (m+1) cap):=λo o2=>kcell (((uq HK) o).alloc o2) c0
 have g4:∀ o o2,((w.alloc o).alloc o2).frozen? ⟨b,0,none⟩=false:=λo o2=>zoq (((uq HK) o).alloc o2) c0 f0
 go_upto_region 4 with fail
 clear g0 g1 g3 g4 q0 q1 q2 q3 t0 t1 t2 t3 HK c0 c1 f0;go_wp2_with fail
 refine bodyPost_ret (v:= .agg #[.int .i64 kk,.string S,.int .i64 nn,.int .i64 pp]) ?_ rfl ?_
 ·simp[results,Tryz.results52,go_sem]
 ·exact⟨rfl,by repeat(first|apply zaa|apply Keep.alloc|apply Keep.drew|exact zk _)⟩
set_option maxHeartbeats 2000000 in
theorem zoC (b:Nat) (e:Int) (X:ByteArray) (w:World) (he:(e==0)=false) (c1:w.cell? ⟨b,1,none⟩=some (.int .i64 e)):Calls Tryz.prog 51 #[.pointer (some ⟨b,0,none⟩),.string X] w λr w'=>r= .returned (.bool false)/\w'=w:=by
 go_enter Tryz.func51,Tryz.ntmps51;go_wp2_with fail
 go_ret;exact⟨rfl,rfl⟩
set_option maxHeartbeats 2000000 in
theorem zk6 (b m cap:Nat) (ad:Addr) (kk:Int) (S X:ByteArray) (w:World) (x y z r0:Bool) (hx:(kk !=2)=x) (hy:(kk !=0)=y) (hz:(S.toList==X.toList)=z) (hr:(x&&(y&&z))=r0) (c0:w.cell? ⟨b,0,none⟩=some (.slice (some ad) (m+1) cap)) (c1:w.cell? ⟨b,1,none⟩=some (.int .i64 0)) (t0:w.cell? ad=some (.int .i64 kk)) (t1:w.cell? ⟨ad.block,ad.off+1,none⟩=some (.string S)):Calls Tryz.prog 51 #[.pointer (some ⟨b,0,none⟩),.string X] w λr w'=>r= .returned (.bool r0)/\w'=w:=by
 subst hr;cases x with
 |false=>
  go_enter Tryz.func51,Tryz.ntmps51;go_wp2_with fail
  go_ret;exact⟨rfl,rfl⟩
 |true=>cases y with
  |false=>
   go_enter Tryz.func51,Tryz.ntmps51;go_wp2_with fail
   go_ret;exact⟨rfl,rfl⟩
  |true=>cases z with
   |false=>
    go_enter Tryz.func51,Tryz.ntmps51;go_wp2_with fail
    go_ret;exact⟨rfl,rfl⟩
   |true=>
    go_enter Tryz.func51,Tryz.ntmps51;go_wp2_with fail
    go_ret;exact⟨rfl,rfl⟩
theorem Rm.tok {w:World} {b:Nat} {ad:Addr} {cap:Nat} {e p:Int} {t:Tok} {r:List Tok} (h:Rm w b ad cap e p (t :: r)):Tc w ad t:=by
 have:=h.tc 0 (by simp);rw[Nat.zero_mul]at this;have e0:ad.add 0=ad:=by unfold Addr.add;rw[if_pos rfl]
 rw[e0]at this;exact this
theorem Rm.num {w:World} {b:Nat} {ad:Addr} {cap:Nat} {e p:Int} {t:Tok} {r:List Tok} (h:Rm w b ad cap e p (t :: r)):0<=t.n/\t.n<=999999999999999999:=h.wq.1.2.2 t List.mem_cons_self
def isq (s:List UInt8):Except Er (List Tok)->Bool
 | .ok (t :: _)=>decide (t.s=s)
 | _=>false
def zja (x:Int):Except Er (List Tok)->Except Er (List Tok)
 | .ok (t :: _)=> .error (x,t.p)
 |Y=>Y
def zfu:Except Er (List Tok)->Except Er (List Tok)
 | .ok (t :: r)=>if t.k=0 then .ok (t :: r)else .ok r
 |Y=>Y
theorem zd8 {w:World} {b:Nat} {Y:Except Er (List Tok)} (s:List UInt8) (hs:wrd s=true) (h:Sr w b Y):Calls Tryz.prog 51 #[.pointer (some ⟨b,0,none⟩),.string (sv s)] w λr w'=>r= .returned (.bool (isq s Y))/\w'=w:=by
 cases Y with
 |error x=>
  obtain⟨ad,cap,t,r',h1,h2⟩:=h.dead;exact zoC b x.1 _ w (by simpa using h2) h1.c1
 |ok r=>
  obtain⟨ad,cap,p,t,r',rfl,h1⟩:=h.alive;obtain⟨t0,t1,t2,t3⟩:=h1.tok;refine zk6 b r'.length cap ad t.k (sv t.s) (sv s) w _ _ _ _ rfl rfl rfl ?_ h1.c0 h1.c1 t0 t1;show(t.k !=2&&(t.k !=0&&((sv t.s).toList==(sv s).toList)))=decide (t.s=s);rw[show(sv t.s).toList=t.s from ByteArray.toList_mk _,show(sv s).toList=s from ByteArray.toList_mk _];by_cases e:t.s=s
  ·have:=(h1.wq.2 t List.mem_cons_self).word hs e;simp[this,e]
  ·have e2:(t.s==s)=false:=by simpa using e
   simp[e,e2]
theorem zdb {w:World} {b:Nat} {Y:Except Er (List Tok)} (x:Int) (hx:x≠0) (h:Sr w b Y):Calls Tryz.prog 54 #[.pointer (some ⟨b,0,none⟩),.int .i64 x] w λr w'=>r= .returned (.tuple #[])/\Fr (λi=>i=b) w w'/\Sr w' b (zja x Y):=by
 cases Y with
 |error y=>
  obtain⟨ad,cap,t,r',h1,h2⟩:=h.dead;refine(zi9 b y.1 x w (by simpa using h2) h1.c1).mono ?_;rintro r w' ⟨rfl,rfl⟩;exact⟨rfl,.refl _ _,h⟩
 |ok r=>
  obtain⟨ad,cap,p,t,r',rfl,h1⟩:=h.alive;obtain⟨t0,t1,t2,t3⟩:=h1.tok;refine(zhK b r'.length cap ad x p t.p w (by have:=h1.lt;omega) h1.c0 h1.c1 h1.c2 h1.f1 h1.f2 t3).mono ?_;rintro r w' ⟨rfl,rfl⟩;exact⟨rfl,(frb w b 1 _ rfl).trans (frb _ b 2 _ rfl),zq1 (x:=(x,t.p)) h1.fail hx⟩
theorem zcg {w:World} {b:Nat} {Y:Except Er (List Tok)} (h:Sr w b Y):Calls Tryz.prog 52 #[.pointer (some ⟨b,0,none⟩)] w λr w'=>∃ t,r= .returned (tv t)/\(0<=t.n/\t.n<=999999999999999999)/\Fr (λi=>i=b) w w'/\Sr w' b (zfu Y)/\∀ r,Y= .ok r->∃ r',r=t :: r':=by
 cases Y with
 |error y=>
  obtain⟨ad,cap,t,r',h1,h2⟩:=h.dead;obtain⟨t0,t1,t2,t3⟩:=h1.tok;refine(zfZ b r'.length cap ad y.1 t.k t.n t.p (sv t.s) w (.inl (by simpa using h2)) h1.c0 h1.c1 t0 t1 t2 t3).mono ?_;rintro r w' ⟨rfl,hk⟩;exact⟨t,rfl,h1.num,.keep hk,h.keep hk,λr e=>by cases e⟩
 |ok r=>
  obtain⟨ad,cap,p,t,r',rfl,h1⟩:=h.alive;obtain⟨t0,t1,t2,t3⟩:=h1.tok;by_cases hk:t.k=0
  ·refine(zfZ b r'.length cap ad 0 t.k t.n t.p (sv t.s) w (.inr ⟨rfl,by simp[hk]⟩) h1.c0 h1.c1 t0 t1 t2 t3).mono ?_;rintro r w' ⟨rfl,hk2⟩;refine⟨t,rfl,h1.num,.keep hk2,?_,λr e=>by cases e;exact⟨_,rfl⟩⟩;show Sr w' b (if t.k=0 then .ok (t :: r')else .ok r');rw[if_pos hk];exact h.keep hk2
  ·obtain⟨h2,h3,h4⟩:=h1.next (.inl hk);refine(zoB b r'.length cap ad t.k t.n t.p (sv t.s) w (by omega) (by simpa using hk) h1.c0 h1.c1 h1.f0 t0 t1 t2 t3).mono ?_;rintro r w' ⟨rfl,hk2⟩;refine⟨t,rfl,h1.num,(frb w b 0 _ rfl).trans (.keep hk2),?_,λr e=>by cases e;exact⟨_,rfl⟩⟩;show Sr w' b (if t.k=0 then .ok (t :: r')else .ok r');rw[if_neg hk];exact(zq0 h2).keep hk2
set_option maxHeartbeats 2000000 in
theorem zjb (b:Nat) (X:ByteArray) (q:Bool) (w:World) (Q:World->Prop)
  (T1:Hid (Calls Tryz.prog 51 #[.pointer (some ⟨b,0,none⟩),.string X] w λr w'=>r= .returned (.bool q)/\w'=w))
  (T2:Hid (q=false->Calls Tryz.prog 54 #[.pointer (some ⟨b,0,none⟩),.int .i64 50] w λr w'=>r= .returned (.tuple #[])/\Calls Tryz.prog 52 #[.pointer (some ⟨b,0,none⟩)] w' λr w''=>∃ t,r= .returned (tv t)/\Q w''))
  (T3:Hid (q=true->Calls Tryz.prog 52 #[.pointer (some ⟨b,0,none⟩)] w λr w''=>∃ t,r= .returned (tv t)/\Q w'')):
  Calls Tryz.prog 47 #[.pointer (some ⟨b,0,none⟩),.string X] w λr w'=>r= .returned (.tuple #[])/\Q w':=by
 cases q with
 |false=>
  replace T2:=zh ((uq T2) rfl);clear T3;go_enter Tryz.func47,Tryz.ntmps47;go_wp2_with fail
  (refine(uq T1).mono ?_;rintro e w1 ⟨rfl,rfl⟩);go_wp2_with fail
  (refine(uq T2).mono ?_;rintro e w2 ⟨rfl,hn⟩;have HN:=zh hn;clear hn);go_wp2_with fail
  (refine(uq HN).mono ?_;rintro e w3 ⟨t,rfl,hq⟩;have HQ:=zh hq;clear hq);go_wp2_with fail
  go_end0
  exact⟨rfl,uq HQ⟩
 |true=>
  replace T3:=zh ((uq T3) rfl);clear T2;go_enter Tryz.func47,Tryz.ntmps47;go_wp2_with fail
  (refine(uq T1).mono ?_;rintro e w1 ⟨rfl,rfl⟩);go_wp2_with fail
  (refine(uq T3).mono ?_;rintro e w3 ⟨t,rfl,hq⟩;have HQ:=zh hq;clear hq);go_wp2_with fail
  go_end0
  exact⟨rfl,uq HQ⟩
theorem zaU {w:World} {b:Nat} {X:Rs} (s:List UInt8) (hs:wrd s=true) (h:Sr w b (zaz X)):Calls Tryz.prog 47 #[.pointer (some ⟨b,0,none⟩),.string (sv s)] w λr w'=>r= .returned (.tuple #[])/\Did (zad s) [] b X w w':=by
 refine zjb b (sv s) (isq s (zaz X)) w _ (zh (zd8 s hs h)) (zh λhq=>?_) (zh λhq=>?_)
 ·refine(zdb 50 (by decide) h).mono ?_;rintro r w' ⟨rfl,hf,hs'⟩;refine⟨rfl,(zcg hs').mono ?_⟩;rintro r w'' ⟨t,rfl,_,hf2,hs2,_⟩;refine⟨t,rfl,hf.trans hf2,?_⟩;rcases X with x|⟨c,r⟩
  ·exact⟨hs2,λc r e=>by cases e⟩
  ·obtain⟨ad,cap,p,u,r',e,h1⟩:=Sr.alive (r:=r) h;subst e;have hne:u.s≠s:=by simpa [isq,zaz]using hq
   have e1:bnd (.ok (c,u :: r')) (zad s)= .error (50,u.p):=by show(if u.s=s then _ else _)=_;rw[if_neg hne];rfl
   rw[e1];exact⟨hs2,λc r e=>by cases e⟩
 ·refine(zcg h).mono ?_;rintro r w'' ⟨t,rfl,_,hf2,hs2,_⟩;refine⟨t,rfl,hf2,?_⟩;rcases X with x|⟨c,r⟩
  ·cases hq
  ·obtain⟨ad,cap,p,u,r',e,h1⟩:=Sr.alive (r:=r) h;subst e;have he:u.s=s:=by simpa [isq,zaz]using hq
   have e1:bnd (.ok (c,u :: r')) (zad s)= .ok (c,r'):=by show(if u.s=s then _ else _)=_;rw[if_pos he]
   have hk:=((h1.wq.2 u List.mem_cons_self).word hs he).1;rw[e1];have:zfu (zaz (.ok (c,u :: r')))= .ok r':=by show(if u.k=0 then _ else _)=_;rw[if_neg hk]
   rw[this]at hs2;exact⟨hs2,λc2 r2 e2=>by cases e2;exact⟨c,_,rfl,by simp⟩⟩
end Q
end Go.Proofs.YthceiikgecoimaaGreatDoor
