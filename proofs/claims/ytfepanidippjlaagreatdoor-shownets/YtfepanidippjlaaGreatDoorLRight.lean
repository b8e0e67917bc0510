/- Which tokens are right: package lex and the document. -/
import Derived.Test.YtfepanidippjlaaGreatDoorLRToks
import Derived.Test.YtfepanidippjlaaGreatDoorLKind
import Derived.Deep.RegionHeld
namespace Go.Proofs.YtfepanidippjlaaGreatDoor
open Go.RowKit
attribute [local go_sem ↓] Go.wp_at_zero Go.wp_at_succ
set_option linter.unusedVariables false
set_option linter.unusedSimpArgs false
set_option maxRecDepth 10000
theorem zdY (w:World) (s:ByteArray):∃ cap o k,(∀ src dst,Tryz.prog.underlying src=some .string→Tryz.prog.underlying dst=some (.slice 5)→(convert src dst (.string s)).run Tryz.prog w= .ok (.slice (some ⟨w.heap.size,0,none⟩) s.size cap) (ext w #[o] k))∧By (ext w #[o] k) (.slice (some ⟨w.heap.size,0,none⟩) s.size cap) s.data.toList:=by
 refine⟨grownCap w s.size 0 5,.cells (bytesRow s (grownCap w s.size 0 5)) 5 ((bytesRow s (grownCap w s.size 0 5)).size,(bytesRow s (grownCap w s.size 0 5)).size+1),w.drew.drawn,fun src dst hs hd=>?_,?_⟩
 ·rw[run_bytes_of_string (P:=Tryz.prog) w src dst 5 s hs hd Tryz.underlying5];congr 1
 ·refine⟨_,_,rfl,grownCap_ge _ _ _ _,fun k hk=>⟨_,rfl,by simp,?_⟩⟩;rw[zbo,Nat.zero_add];have hk':k<s.data.size:=by simpa using hk
  have h1:(ext w #[Obj.cells (bytesRow s (grownCap w s.size 0 5)) 5 ((bytesRow s (grownCap w s.size 0 5)).size,(bytesRow s (grownCap w s.size 0 5)).size+1)] w.drew.drawn).cell? ⟨w.heap.size,k,none⟩=(bytesRow s (grownCap w s.size 0 5))[k]? :=by
   unfold World.cell? ext
   simp
  rw[h1,bytesRow_at s _ k hk'];congr 3;rw[List.getD_eq_getElem?_getD,List.getElem?_eq_getElem (by simpa using hk')];simp
def rg (t:Tok):Bool:=match T t.s with
 | .ok [x,_]=>decide (x.k=t.k)&&decide (x.n=t.n)&&decide (x.s=t.s)
 | _=>false
set_option maxHeartbeats 4000000 in
theorem zeq (K N P E M:Int) (n:Nat) (S:ByteArray) (w:World) (h:(E !=0)=true∨((E !=0)=false∧((n:Int) !=2)=true))
  (T1:Hid (∀ w' v,By w' v S.data.toList→Calls Tryz.prog 71 #[v] w' fun e w''=>∃ a cap,e= .returned (.tuple #[.slice a n cap,.int .i64 E,.int .i64 M])∧Keep w' w'')):
  Calls Tryz.prog 86 #[.agg #[.int .i64 K,.string S,.int .i64 N,.int .i64 P]] w fun e w'=>e= .returned (.bool false)∧Keep w w':=by
 obtain⟨cap,o,k1,hcv,hby⟩:=zdY (w.alloc (.cells #[.int .i64 K,.string S,.int .i64 N,.int .i64 P] 115)) S;have hcv2:=hcv 9 29 Tryz.underlying9 Tryz.underlying29;simp only[World.size_alloc]at hcv2 hby;have HBY:=hide hby;clear hcv hby;have k0:=hide (zab ((Keep.refl w).alloc (.cells #[.int .i64 K,.string S,.int .i64 N,.int .i64 P] 115)) #[o] k1);rcases h with h1|⟨h1,h2⟩
 ·go_enter Tryz.func86,Tryz.ntmps86;go_wp2_with fail
  (refine((uq T1) _ _ (uq HBY)).mono ?_;rintro e w2 ⟨a,cp,rfl,hk⟩;replace k0:=hide ((uq k0).trans hk);clear hk);go_wp2_with fail
  go_ret;exact⟨rfl,uq k0⟩
 ·go_enter Tryz.func86,Tryz.ntmps86;go_wp2_with fail
  (refine((uq T1) _ _ (uq HBY)).mono ?_;rintro e w2 ⟨a,cp,rfl,hk⟩;replace k0:=hide ((uq k0).trans hk);clear hk);go_wp2_with fail
  go_ret;exact⟨rfl,uq k0⟩
theorem zbw (w:World) (o1 o2:Obj) (os:Array Obj) (k:Nat) (ad:Addr) (h:w.heap.size<ad.block):(ext (w.alloc o1) os k).cell? ad=(ext (w.alloc o2) os k).cell? ad:=by
 have e:∀ o:Obj,(w.heap.push o++os)[ad.block]? =os[ad.block - (w.heap.size+1)]? :=fun o=>by
  rw[Array.getElem?_append_right (by rw[Array.size_push];omega),Array.size_push]
 unfold World.cell? ext World.alloc
 simp only[e]
set_option maxHeartbeats 4000000 in
theorem zi3 (K N P:Int) (S:ByteArray) (w:World)
  (T1:Hid (∀ w' v,By w' v S.data.toList→Calls Tryz.prog 71 #[v] w' fun e w''=>∃ ad cap,e= .returned (.tuple #[.slice (some ad) 2 cap,.int .i64 0,.int .i64 0])∧w'.heap.size≤ad.block∧ad.block<w''.heap.size∧(w''.cell? ad=some (.int .i64 K)∧w''.cell? ⟨ad.block,ad.off+1,none⟩=some (.string S)∧w''.cell? ⟨ad.block,ad.off+2,none⟩=some (.int .i64 N)∧w''.cell? ⟨ad.block,ad.off+3,none⟩=some (.int .i64 0))∧Keep w' w'')):
  Calls Tryz.prog 86 #[.agg #[.int .i64 K,.string S,.int .i64 N,.int .i64 P]] w fun e w'=>e= .returned (.bool true)∧Keep w w':=by
 obtain⟨cap,o,k1,hcv,hby⟩:=zdY (w.alloc (.cells #[.int .i64 K,.string S,.int .i64 N,.int .i64 P] 115)) S;have hcv2:=hcv 9 29 Tryz.underlying9 Tryz.underlying29;simp only[World.size_alloc]at hcv2 hby;have HBY:=hide hby;clear hcv hby;go_enter Tryz.func86,Tryz.ntmps86;go_wp2_with fail
 (refine((uq T1) _ _ (uq HBY)).mono ?_;rintro e w2 ⟨ad,cp,rfl,hlo,hhi,⟨c0,c1,c2,c3⟩,hk⟩;obtain⟨os,k2,rfl⟩:=hk.ext;clear hk);have k0:=hide (zab ((Keep.refl w).alloc (.cells #[.int .i64 K,.string S,.int .i64 N,.int .i64 0] 115)) (#[o]++os) k2);simp only[zcN]at c0 c1 c2 c3 hhi;have hlo':w.heap.size<ad.block:=by simp at hlo;omega
 rw[zbw w _ (.cells #[.int .i64 K,.string S,.int .i64 N,.int .i64 0] 115) _ _ ad hlo']at c0;rw[zbw w _ (.cells #[.int .i64 K,.string S,.int .i64 N,.int .i64 0] 115) _ _ ⟨ad.block,_,none⟩ hlo']at c1 c2 c3;clear hlo hlo' hhi;go_wp2_with fail
 refine wp_region_held_drew (S:=fun w'=>w'.cell? ad=some (.int .i64 K)∧w'.cell? ⟨ad.block,ad.off+1,none⟩=some (.string S)∧w'.cell? ⟨ad.block,ad.off+2,none⟩=some (.int .i64 N)∧w'.cell? ⟨ad.block,ad.off+3,none⟩=some (.int .i64 0)∧w'.cell? ⟨w.heap.size,0,none⟩=some (.int .i64 K)∧w'.cell? ⟨w.heap.size,1,none⟩=some (.string S)∧w'.cell? ⟨w.heap.size,2,none⟩=some (.int .i64 N)∧w'.cell? ⟨w.heap.size,3,none⟩=some (.int .i64 0)) (by kernel_rfl) (by exact⟨c0,c1,c2,c3,by simp[go_sem],by simp[go_sem],by simp[go_sem],by simp[go_sem]⟩) (fun hHeld=>?_);refine tkk 0 22 hHeld ?_;try simp only[Act.put,Ya,Yb,Yc]
 refine tkk 1 23 hHeld ?_;try simp only[Act.put,Ya,Yb,Yc]
 refine tkk 2 24 hHeld ?_;try simp only[Act.put,Ya,Yb,Yc]
 refine tkk 3 25 hHeld ?_;try simp only[Act.put,Ya,Yb,Yc]
 refine tkk 4 26 hHeld ?_;try simp only[Act.put,Ya,Yb,Yc]
 refine tkk 5 2 hHeld ?_;try simp only[Act.put,Ya,Yb,Yc]
 refine wpAnyH_done (by kernel_rfl) ?_ _;clear hHeld;go_wp2_with fail
 go_ret;exact⟨rfl,(uq k0).drew⟩
set_option maxHeartbeats 4000000 in
theorem zmf (K N P K2 N2 P2:Int) (S S2:ByteArray) (w:World) (hne:¬K2=K)
  (T1:Hid (∀ w' v,By w' v S.data.toList→Calls Tryz.prog 71 #[v] w' fun e w''=>∃ ad cap,e= .returned (.tuple #[.slice (some ad) 2 cap,.int .i64 0,.int .i64 0])∧w'.heap.size≤ad.block∧ad.block<w''.heap.size∧(w''.cell? ad=some (.int .i64 K2)∧w''.cell? ⟨ad.block,ad.off+1,none⟩=some (.string S2)∧w''.cell? ⟨ad.block,ad.off+2,none⟩=some (.int .i64 N2)∧w''.cell? ⟨ad.block,ad.off+3,none⟩=some (.int .i64 P2))∧Keep w' w'')):
  Calls Tryz.prog 86 #[.agg #[.int .i64 K,.string S,.int .i64 N,.int .i64 P]] w fun e w'=>e= .returned (.bool false)∧Keep w w':=by
 obtain⟨cap,o,k1,hcv,hby⟩:=zdY (w.alloc (.cells #[.int .i64 K,.string S,.int .i64 N,.int .i64 P] 115)) S;have hcv2:=hcv 9 29 Tryz.underlying9 Tryz.underlying29;simp only[World.size_alloc]at hcv2 hby;have HBY:=hide hby;clear hcv hby;go_enter Tryz.func86,Tryz.ntmps86;go_wp2_with fail
 (refine((uq T1) _ _ (uq HBY)).mono ?_;rintro e w2 ⟨ad,cp,rfl,hlo,hhi,⟨c0,c1,c2,c3⟩,hk⟩;obtain⟨os,k2,rfl⟩:=hk.ext;clear hk);have k0:=hide (zab ((Keep.refl w).alloc (.cells #[.int .i64 K,.string S,.int .i64 N,.int .i64 0] 115)) (#[o]++os) k2);simp only[zcN]at c0 c1 c2 c3 hhi;have hlo':w.heap.size<ad.block:=by simp at hlo;omega
 rw[zbw w _ (.cells #[.int .i64 K,.string S,.int .i64 N,.int .i64 0] 115) _ _ ad hlo']at c0;rw[zbw w _ (.cells #[.int .i64 K,.string S,.int .i64 N,.int .i64 0] 115) _ _ ⟨ad.block,_,none⟩ hlo']at c1 c2 c3;clear hlo hlo' hhi;go_wp2_with fail
 refine wp_region_held_drew (S:=fun w'=>w'.cell? ad=some (.int .i64 K2)∧w'.cell? ⟨ad.block,ad.off+1,none⟩=some (.string S2)∧w'.cell? ⟨ad.block,ad.off+2,none⟩=some (.int .i64 N2)∧w'.cell? ⟨ad.block,ad.off+3,none⟩=some (.int .i64 P2)∧w'.cell? ⟨w.heap.size,0,none⟩=some (.int .i64 K)∧w'.cell? ⟨w.heap.size,1,none⟩=some (.string S)∧w'.cell? ⟨w.heap.size,2,none⟩=some (.int .i64 N)∧w'.cell? ⟨w.heap.size,3,none⟩=some (.int .i64 0)) (by kernel_rfl) (by exact⟨c0,c1,c2,c3,by simp[go_sem],by simp[go_sem],by simp[go_sem],by simp[go_sem]⟩) (fun hHeld=>?_);refine tkk 0 22 hHeld ?_;try simp only[Act.put,Ya,Yb,Yc]
 refine tkk 1 23 hHeld ?_;try simp only[Act.put,Ya,Yb,Yc]
 refine tkk 2 24 hHeld ?_;try simp only[Act.put,Ya,Yb,Yc]
 refine tkk 3 25 hHeld ?_;try simp only[Act.put,Ya,Yb,Yc]
 refine tkk 4 26 hHeld ?_;try simp only[Act.put,Ya,Yb,Yc]
 refine tkk 5 2 hHeld ?_;try simp only[Act.put,Ya,Yb,Yc]
 refine wpAnyH_done (by kernel_rfl) ?_ _;clear hHeld;go_wp2_with fail
 go_ret;exact⟨rfl,(uq k0).drew⟩
set_option maxHeartbeats 4000000 in
theorem zmg (K N P N2 P2:Int) (S S2:ByteArray) (w:World) (hne:¬S2.toList=S.toList)
  (T1:Hid (∀ w' v,By w' v S.data.toList→Calls Tryz.prog 71 #[v] w' fun e w''=>∃ ad cap,e= .returned (.tuple #[.slice (some ad) 2 cap,.int .i64 0,.int .i64 0])∧w'.heap.size≤ad.block∧ad.block<w''.heap.size∧(w''.cell? ad=some (.int .i64 K)∧w''.cell? ⟨ad.block,ad.off+1,none⟩=some (.string S2)∧w''.cell? ⟨ad.block,ad.off+2,none⟩=some (.int .i64 N2)∧w''.cell? ⟨ad.block,ad.off+3,none⟩=some (.int .i64 P2))∧Keep w' w'')):
  Calls Tryz.prog 86 #[.agg #[.int .i64 K,.string S,.int .i64 N,.int .i64 P]] w fun e w'=>e= .returned (.bool false)∧Keep w w':=by
 obtain⟨cap,o,k1,hcv,hby⟩:=zdY (w.alloc (.cells #[.int .i64 K,.string S,.int .i64 N,.int .i64 P] 115)) S;have hcv2:=hcv 9 29 Tryz.underlying9 Tryz.underlying29;simp only[World.size_alloc]at hcv2 hby;have HBY:=hide hby;clear hcv hby;go_enter Tryz.func86,Tryz.ntmps86;go_wp2_with fail
 (refine((uq T1) _ _ (uq HBY)).mono ?_;rintro e w2 ⟨ad,cp,rfl,hlo,hhi,⟨c0,c1,c2,c3⟩,hk⟩;obtain⟨os,k2,rfl⟩:=hk.ext;clear hk);have k0:=hide (zab ((Keep.refl w).alloc (.cells #[.int .i64 K,.string S,.int .i64 N,.int .i64 0] 115)) (#[o]++os) k2);simp only[zcN]at c0 c1 c2 c3 hhi;have hlo':w.heap.size<ad.block:=by simp at hlo;omega
 rw[zbw w _ (.cells #[.int .i64 K,.string S,.int .i64 N,.int .i64 0] 115) _ _ ad hlo']at c0;rw[zbw w _ (.cells #[.int .i64 K,.string S,.int .i64 N,.int .i64 0] 115) _ _ ⟨ad.block,_,none⟩ hlo']at c1 c2 c3;clear hlo hlo' hhi;go_wp2_with fail
 refine wp_region_held_drew (S:=fun w'=>w'.cell? ad=some (.int .i64 K)∧w'.cell? ⟨ad.block,ad.off+1,none⟩=some (.string S2)∧w'.cell? ⟨ad.block,ad.off+2,none⟩=some (.int .i64 N2)∧w'.cell? ⟨ad.block,ad.off+3,none⟩=some (.int .i64 P2)∧w'.cell? ⟨w.heap.size,0,none⟩=some (.int .i64 K)∧w'.cell? ⟨w.heap.size,1,none⟩=some (.string S)∧w'.cell? ⟨w.heap.size,2,none⟩=some (.int .i64 N)∧w'.cell? ⟨w.heap.size,3,none⟩=some (.int .i64 0)) (by kernel_rfl) (by exact⟨c0,c1,c2,c3,by simp[go_sem],by simp[go_sem],by simp[go_sem],by simp[go_sem]⟩) (fun hHeld=>?_);refine tkk 0 22 hHeld ?_;try simp only[Act.put,Ya,Yb,Yc]
 refine tkk 1 23 hHeld ?_;try simp only[Act.put,Ya,Yb,Yc]
 refine tkk 2 24 hHeld ?_;try simp only[Act.put,Ya,Yb,Yc]
 refine tkk 3 25 hHeld ?_;try simp only[Act.put,Ya,Yb,Yc]
 refine tkk 4 26 hHeld ?_;try simp only[Act.put,Ya,Yb,Yc]
 refine tkk 5 2 hHeld ?_;try simp only[Act.put,Ya,Yb,Yc]
 refine wpAnyH_done (by kernel_rfl) ?_ _;clear hHeld;go_wp2_with fail
 go_ret;exact⟨rfl,(uq k0).drew⟩
set_option maxHeartbeats 4000000 in
theorem zmh (K N P N2 P2:Int) (S:ByteArray) (w:World) (hne:¬N2=N)
  (T1:Hid (∀ w' v,By w' v S.data.toList→Calls Tryz.prog 71 #[v] w' fun e w''=>∃ ad cap,e= .returned (.tuple #[.slice (some ad) 2 cap,.int .i64 0,.int .i64 0])∧w'.heap.size≤ad.block∧ad.block<w''.heap.size∧(w''.cell? ad=some (.int .i64 K)∧w''.cell? ⟨ad.block,ad.off+1,none⟩=some (.string S)∧w''.cell? ⟨ad.block,ad.off+2,none⟩=some (.int .i64 N2)∧w''.cell? ⟨ad.block,ad.off+3,none⟩=some (.int .i64 P2))∧Keep w' w'')):
  Calls Tryz.prog 86 #[.agg #[.int .i64 K,.string S,.int .i64 N,.int .i64 P]] w fun e w'=>e= .returned (.bool false)∧Keep w w':=by
 obtain⟨cap,o,k1,hcv,hby⟩:=zdY (w.alloc (.cells #[.int .i64 K,.string S,.int .i64 N,.int .i64 P] 115)) S;have hcv2:=hcv 9 29 Tryz.underlying9 Tryz.underlying29;simp only[World.size_alloc]at hcv2 hby;have HBY:=hide hby;clear hcv hby;go_enter Tryz.func86,Tryz.ntmps86;go_wp2_with fail
 (refine((uq T1) _ _ (uq HBY)).mono ?_;rintro e w2 ⟨ad,cp,rfl,hlo,hhi,⟨c0,c1,c2,c3⟩,hk⟩;obtain⟨os,k2,rfl⟩:=hk.ext;clear hk);have k0:=hide (zab ((Keep.refl w).alloc (.cells #[.int .i64 K,.string S,.int .i64 N,.int .i64 0] 115)) (#[o]++os) k2);simp only[zcN]at c0 c1 c2 c3 hhi;have hlo':w.heap.size<ad.block:=by simp at hlo;omega
 rw[zbw w _ (.cells #[.int .i64 K,.string S,.int .i64 N,.int .i64 0] 115) _ _ ad hlo']at c0;rw[zbw w _ (.cells #[.int .i64 K,.string S,.int .i64 N,.int .i64 0] 115) _ _ ⟨ad.block,_,none⟩ hlo']at c1 c2 c3;clear hlo hlo' hhi;go_wp2_with fail
 refine wp_region_held_drew (S:=fun w'=>w'.cell? ad=some (.int .i64 K)∧w'.cell? ⟨ad.block,ad.off+1,none⟩=some (.string S)∧w'.cell? ⟨ad.block,ad.off+2,none⟩=some (.int .i64 N2)∧w'.cell? ⟨ad.block,ad.off+3,none⟩=some (.int .i64 P2)∧w'.cell? ⟨w.heap.size,0,none⟩=some (.int .i64 K)∧w'.cell? ⟨w.heap.size,1,none⟩=some (.string S)∧w'.cell? ⟨w.heap.size,2,none⟩=some (.int .i64 N)∧w'.cell? ⟨w.heap.size,3,none⟩=some (.int .i64 0)) (by kernel_rfl) (by exact⟨c0,c1,c2,c3,by simp[go_sem],by simp[go_sem],by simp[go_sem],by simp[go_sem]⟩) (fun hHeld=>?_);refine tkk 0 22 hHeld ?_;try simp only[Act.put,Ya,Yb,Yc]
 refine tkk 1 23 hHeld ?_;try simp only[Act.put,Ya,Yb,Yc]
 refine tkk 2 24 hHeld ?_;try simp only[Act.put,Ya,Yb,Yc]
 refine tkk 3 25 hHeld ?_;try simp only[Act.put,Ya,Yb,Yc]
 refine tkk 4 26 hHeld ?_;try simp only[Act.put,Ya,Yb,Yc]
 refine tkk 5 2 hHeld ?_;try simp only[Act.put,Ya,Yb,Yc]
 refine wpAnyH_done (by kernel_rfl) ?_ _;clear hHeld;go_wp2_with fail
 go_ret;exact⟨rfl,(uq k0).drew⟩
end Go.Proofs.YtfepanidippjlaaGreatDoor
