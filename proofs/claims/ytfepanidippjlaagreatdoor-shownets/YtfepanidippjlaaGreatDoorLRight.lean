/- All tokens: the document. -/
import Derived.Test.YtfepanidippjlaaGreatDoorNVal
import Derived.Test.YtfepanidippjlaaGreatDoorLEnd
import Derived.Deep.RegionHeld
namespace Go.Proofs.YtfepanidippjlaaGreatDoor
open Go.RowKit
attribute [local go_sem ↓] Go.wp_at_zero Go.wp_at_succ
set_option linter.unusedVariables false
set_option linter.unusedSimpArgs false
set_option maxRecDepth 10000
set_option maxHeartbeats 4000000 in
theorem zgb (a:Option Addr) (n cap:Nat) (X:Except (Int×Nat) (List Tok)) (A:Nat→Nat) (R:Nat→Except Int Tok) (F:Nat→Except (Int×Nat) (List Tok)) (w:World) (hn:n≤65536)
  (T1:Hid (∀ k,k≤n→∀ w',Keep w w'→Calls Tryz.prog 94 #[.slice a n cap,.int .i64 (k:Int)] w' fun e w''=>e= .returned (.int .i64 (A k:Nat))∧w''=w'))
  (T2:Hid (∀ k,k≤n→A k<n→∀ w',Keep w w'→Calls Tryz.prog 95 #[.slice a n cap,.int .i64 (A k:Nat)] w' fun e w''=>e= .returned (.tuple #[tv (rt (R k)),.int .i64 (re (R k))])∧Keep w' w''))
  (HA:Hid (∀ k,k≤n→k≤A k∧A k≤n))
  (HR:Hid (∀ k t,k≤n→R k= .ok t→A k<n→t.k≠0∧1≤t.s.length∧A k+t.s.length≤n))
  (HE:Hid (∀ k e,k≤n→R k= .error e→e≠0∧F k= .error (e,A k)))
  (HF:Hid (∀ k t,k≤n→R k= .ok t→A k<n→F k=pre [t] (F (A k+t.s.length))))
  (HZ:Hid (∀ k,k≤n→A k=n→F k= .ok [⟨0,[],0,n⟩]))
  (H0:Hid (F 0=X)):
  Calls Tryz.prog 61 #[.slice a n cap] w (Tp X w):=by
 obtain⟨i0,hi,hz0,hz1,hz2⟩:=zaN zoy;have hn':¬(65536:Int)<(n:Int):=by omega
 have T10:=hide ((uq T1) 0 (Nat.zero_le _) w (Keep.refl w));go_enter Tryz.func61,Tryz.ntmps61;go_wp2_with fail
 (refine(uq T10).mono ?_;rintro e w ⟨rfl,rfl⟩);go_wp2_with fail
 go_loopw [5,6] (fun vl vi wr=>∃(k:Nat) (acc:List Tok),k≤n∧acc.length≤k∧vi= .int .i64 (A k:Nat)∧wr.ownsRow w.heap.size 115 4 vl acc.length (tc acc)∧Hid (pre acc (F k)=X)∧Hid (Keep w wr)) (fun vl vi _=>n - (intOf vi).toNat)
 case atStart=>exact⟨0,[],Nat.zero_le _,Nat.le_refl _,rfl,World.ownsRow_nil _ _ _ _,by unfold Hid;rw[zg3];exact uq H0,hide (Keep.refl w)⟩
 case round=>
  obtain⟨k,acc,hk,hak,rfl,hrow,HX,HK⟩:=hrel;have HROW:=hide hrow;clear hrow;obtain⟨ha1,ha2⟩:=(uq HA) k hk;have hl9:acc.length≤70000:=by omega
  have hsz0:=Below.size (uq HK);by_cases hlt:A k<n
  ·have li:((A k:Nat):Int)<(n:Int):=by omega
   go_wp2_with fail
   (refine((uq T2) k hk hlt _ (uq HK)).mono ?_;rintro e w3 ⟨rfl,hk3⟩);have HK3:=hide ((uq HK).trans hk3);have HROW3:=hide (zds (uq HROW) hk3);clear hk3 HK HROW;have hsz:=Below.size (uq HK3);cases hr:R k with
   |error e=>
    obtain⟨he,hf⟩:=(uq HE) k e hk hr;have HR1:Hid (X= .error (e,A k)):=by have:=uq HX;rw[hf]at this;exact this.symm
    have hb0:(e !=0)=true:=by simp[he]
    simp only[rt,re,tv,t0];clear hf hr he;go_wp2_with fail
    go_ret3
    rw[uq HR1];exact⟨_,rfl,zdH _,zd3 _,(uq HK3).alloc _⟩
   |ok t=>
    have hf:=(uq HF) k t hk hr hlt;have hb:=(uq HR) k t hk hr hlt;obtain⟨kk,ss,nn,pp⟩:=t;simp only[rt,re,tv]at hf hb ⊢;have HR1:Hid (pre (acc++ [⟨kk,ss,nn,pp⟩]) (F (A k+ss.length))=X):=by have:=uq HX;rw[hf,ze8]at this;exact this
    have hS:=zad ss;have HTC:Hid (tc (acc++ [⟨kk,ss,nn,pp⟩])=tc acc++ [.int .i64 kk,.string (sv ss),.int .i64 nn,.int .i64 pp]):=zcX _ _;generalize sv ss=S at *;clear hf hr HX;have hb':=hb.2;clear hb;have hsz2:S.size≤70000:=by omega
    have hA3:=(uq HA) (A k+ss.length) hb'.2;have T1k:=hide ((uq T1) (A k+ss.length) hb'.2);have hcast:((A k+ss.length:Nat):Int)=(A k:Int)+(ss.length:Int):=by omega
    rw[hcast]at T1k;clear hcast;go_wp2_with (first
     |(at_builtin;refine wpList_append_own _ rfl _ _ 116 rfl w.heap.size 115 i0 _ 4 40 Tryz.underlying116 hi hz0 hz1 hz2 rfl (by decide) _ _ _ rfl (((uq HROW3).alloc _).alloc _) ⟨w3.heap.size+1,0,none⟩ 1 1 [.int .i64 kk,.string S,.int .i64 nn,.int .i64 pp] rfl rfl (zdM w3 _ _ _ _ _ _) (by simp[Value.oneCell']) (by unfold maxLen;omega) (by omega) (by simp;omega) ?_;intro v' w4 hown' hgrow hnil;obtain⟨g',cp',rfl⟩:=zay hown';have HOWN:=hide hown';have HGROW:=hide hgrow;have HK4:=hide (Below.grown (((uq HK3).alloc _).alloc _) hgrow (by simp;omega) (fun j ej=>((uq HROW3).lt j ej).1));have c1:=zcF rfl hgrow (fun j ej=>((uq HROW3).lt j ej).2) 1 (.string S) rfl;clear hown' hgrow hnil)
     |(go_at_call 94;refine((uq T1k) _ (uq HK4)).mono ?_;rintro e w5 ⟨rfl,rfl⟩))
    go_roundw
    case rel=>
     refine⟨A k+ss.length,acc++ [⟨kk,ss,nn,pp⟩],hb'.2,by rw[List.length_append];simp;omega,rfl,?_,HR1,HK4⟩;rw[uq HTC,List.length_append];exact uq HOWN
    case measure=>simp[intOf];omega
  ·have hAn:A k=n:=by omega
   have HR1:Hid (X= .ok (acc++ [⟨0,[],0,n⟩])):=by have:=uq HX;rw[(uq HZ) k hk hAn]at this;exact this.symm
   have HTC:Hid (tc (acc++ [⟨0,[],0,n⟩])=tc acc++ [.int .i64 0,.string ⟨#[]⟩,.int .i64 0,.int .i64 (n:Int)]):=zcX _ _;rw[hAn];clear hAn HX;have hrow2:=uq HROW;go_wp2_with (at_builtin;refine wpList_append_own _ rfl _ _ 116 rfl w.heap.size 115 i0 _ 4 40 Tryz.underlying116 hi hz0 hz1 hz2 rfl (by decide) _ _ _ rfl ((uq HROW).alloc _) ⟨wr.heap.size,0,none⟩ 1 1 [.int .i64 0,.string ⟨#[]⟩,.int .i64 0,.int .i64 (n:Int)] rfl rfl (zfK wr _ _ _ _ _) (by simp[Value.oneCell']) (by unfold maxLen;omega) (by omega) (by simp;omega) ?_;intro v' w4 hown' hgrow hnil;obtain⟨g',cp',rfl⟩:=zay hown';have HOWN:=hide hown';have HK4:=hide (Below.grown ((uq HK).alloc _) hgrow (by simp;omega) (fun j ej=>((uq HROW).lt j ej).1));clear hown' hgrow hnil)
   go_ret3
   rw[uq HR1];refine⟨_,rfl,zj0 (base:=w.heap.size) (e:=115) ?_,zj7 (uq HOWN),uq HK4⟩;show w4.ownsRow _ _ _ _ (acc++ [_]).length (tc (acc++ [_]));rw[uq HTC,List.length_append];exact uq HOWN
theorem zme (l:List UInt8) (k:Nat):tk (l.drop k) k=match one (l.drop (sk false l k)) (sk false l k)with
  | .error e=>Except.error (e,sk false l k)
  | .ok t=>if t.k=0 then .ok [t]else pre [t] (tk (l.drop (sk false l k+t.s.length)) (sk false l k+t.s.length)):=by
 rw[zdW];have e1:(l.drop k).drop (skp false (l.drop k))=l.drop (sk false l k):=by rw[List.drop_drop];rfl
 rw[e1];simp only[List.drop_drop]
 rfl
theorem zdR (v:Value) (l:List UInt8) (w:World) (hl:l.length≤70000) (h:By w v l):Calls Tryz.prog 61 #[v] w (Tp (T l) w):=by
 obtain⟨a,cap,rfl⟩:=h.shape;unfold T
 by_cases hlong:65536<l.length
 ·rw[if_pos hlong];refine(zd2 a l.length cap w hlong).mono ?_;rintro e w' ⟨rfl,rfl⟩;exact⟨_,rfl,zdH _,zd3 _,Keep.refl _⟩
 ·rw[if_neg hlong];refine zgb a l.length cap (tk l 0) (sk false l) (fun k=>one (l.drop (sk false l k)) (sk false l k)) (fun k=>tk (l.drop k) k) w (by omega) (hide fun k hk w' hK=>ziU _ l k w' hl hk (h.keep hK)) (hide fun k hk hA w' hK=>zl9 _ l _ w' hl hA (h.keep hK))
   (hide fun k hk=>⟨znr _ _ _,ziQ _ _ _ hk⟩) (hide fun k t hk ht hA=>?_) (hide fun k e hk he=>?_) (hide fun k t hk ht hA=>?_) (hide fun k hk hA=>?_) (hide (by rw[List.drop_zero]))
  ·rcases(zcm ht).2 with ⟨h1,_⟩|⟨h0,_,_,h1,h2,_⟩
   ·have:=congrArg List.length h1;simp only[List.length_drop,List.length_nil]at this;omega
   ·have:=zdF (l.drop (sk false l k));simp only[List.length_drop]at *;exact⟨h0,by omega,by omega⟩
  ·refine⟨?_,?_⟩
   ·intro e0
    subst e0;cases hr:l.drop (sk false l k)with
    |nil=>rw[hr]at he;simp[one]at he
    |cons c r=>rw[hr]at he;simp only[one]at he;(repeat' split at he)<;>simp at he
   ·show tk (l.drop k) k=_;rw[zme,he]
  ·show tk (l.drop k) k=_;rw[zme,ht];rcases(zcm ht).2 with ⟨h1,_⟩|⟨h0,_⟩
   ·have:=congrArg List.length h1;simp only[List.length_drop,List.length_nil]at this;omega
   ·simp only[if_neg h0]
  ·show tk (l.drop k) k=_;rw[zme,hA,List.drop_length]
   rfl
theorem zdY (w:World) (s:ByteArray):∃ cap o k,(∀ src dst,Tryz.prog.underlying src=some .string→Tryz.prog.underlying dst=some (.slice 5)→(convert src dst (.string s)).run Tryz.prog w= .ok (.slice (some ⟨w.heap.size,0,none⟩) s.size cap) (ext w #[o] k))∧By (ext w #[o] k) (.slice (some ⟨w.heap.size,0,none⟩) s.size cap) s.data.toList:=by
 refine⟨grownCap w s.size 0 5,.cells (bytesRow s (grownCap w s.size 0 5)) 5 ((bytesRow s (grownCap w s.size 0 5)).size,(bytesRow s (grownCap w s.size 0 5)).size+1),w.drew.drawn,fun src dst hs hd=>?_,?_⟩
 ·rw[run_bytes_of_string (P:=Tryz.prog) w src dst 5 s hs hd Tryz.underlying5];congr 1
 ·refine⟨_,_,rfl,grownCap_ge _ _ _ _,fun k hk=>⟨_,rfl,by simp,?_⟩⟩;rw[zbo,Nat.zero_add];have hk':k<s.data.size:=by simpa using hk
  have h1:(ext w #[Obj.cells (bytesRow s (grownCap w s.size 0 5)) 5 ((bytesRow s (grownCap w s.size 0 5)).size,(bytesRow s (grownCap w s.size 0 5)).size+1)] w.drew.drawn).cell? ⟨w.heap.size,k,none⟩=(bytesRow s (grownCap w s.size 0 5))[k]? :=by
   unfold World.cell? ext
   simp
  rw[h1,bytesRow_at s _ k hk'];congr 3;rw[List.getD_eq_getElem?_getD,List.getElem?_eq_getElem (by simpa using hk')];simp
def rg (t:Tok):Bool:=match T t.s with
 | .ok [x,_]=>decide (x.k=t.k)&&decide (x.n=t.n)&&decide (x.s=t.s)
 | _=>false
set_option maxHeartbeats 4000000 in
theorem zeq (K N P E M:Int) (n:Nat) (S:ByteArray) (w:World) (h:(E !=0)=true∨((E !=0)=false∧((n:Int) !=2)=true))
  (T1:Hid (∀ w' v,By w' v S.data.toList→Calls Tryz.prog 71 #[v] w' fun e w''=>∃ a cap,e= .returned (.tuple #[.slice a n cap,.int .i64 E,.int .i64 M])∧Keep w' w'')):
  Calls Tryz.prog 86 #[.agg #[.int .i64 K,.string S,.int .i64 N,.int .i64 P]] w fun e w'=>e= .returned (.bool false)∧Keep w w':=by
 obtain⟨cap,o,k1,hcv,hby⟩:=zdY (w.alloc (.cells #[.int .i64 K,.string S,.int .i64 N,.int .i64 P] 115)) S;have hcv2:=hcv 9 29 Tryz.underlying9 Tryz.underlying29;simp only[World.size_alloc]at hcv2 hby;have HBY:=hide hby;clear hcv hby;have k0:=hide (zab ((Keep.refl w).alloc (.cells #[.int .i64 K,.string S,.int .i64 N,.int .i64 P] 115)) #[o] k1);rcases h with h1|⟨h1,h2⟩
 ·go_enter Tryz.func86,Tryz.ntmps86;go_wp2_with fail
  (refine((uq T1) _ _ (uq HBY)).mono ?_;rintro e w2 ⟨a,cp,rfl,hk⟩;replace k0:=hide ((uq k0).trans hk);clear hk);go_wp2_with fail
  go_ret;exact⟨rfl,uq k0⟩
 ·go_enter Tryz.func86,Tryz.ntmps86;go_wp2_with fail
  (refine((uq T1) _ _ (uq HBY)).mono ?_;rintro e w2 ⟨a,cp,rfl,hk⟩;replace k0:=hide ((uq k0).trans hk);clear hk);go_wp2_with fail
  go_ret;exact⟨rfl,uq k0⟩
theorem zbw (w:World) (o1 o2:Obj) (os:Array Obj) (k:Nat) (ad:Addr) (h:w.heap.size<ad.block):(ext (w.alloc o1) os k).cell? ad=(ext (w.alloc o2) os k).cell? ad:=by
 have e:∀ o:Obj,(w.heap.push o++os)[ad.block]? =os[ad.block - (w.heap.size+1)]? :=fun o=>by
  rw[Array.getElem?_append_right (by rw[Array.size_push];omega),Array.size_push]
 unfold World.cell? ext World.alloc
 simp only[e]
set_option maxHeartbeats 4000000 in
theorem zi3 (K N P:Int) (S:ByteArray) (w:World)
  (T1:Hid (∀ w' v,By w' v S.data.toList→Calls Tryz.prog 71 #[v] w' fun e w''=>∃ ad cap,e= .returned (.tuple #[.slice (some ad) 2 cap,.int .i64 0,.int .i64 0])∧w'.heap.size≤ad.block∧ad.block<w''.heap.size∧(w''.cell? ad=some (.int .i64 K)∧w''.cell? ⟨ad.block,ad.off+1,none⟩=some (.string S)∧w''.cell? ⟨ad.block,ad.off+2,none⟩=some (.int .i64 N)∧w''.cell? ⟨ad.block,ad.off+3,none⟩=some (.int .i64 0))∧Keep w' w'')):
  Calls Tryz.prog 86 #[.agg #[.int .i64 K,.string S,.int .i64 N,.int .i64 P]] w fun e w'=>e= .returned (.bool true)∧Keep w w':=by
 obtain⟨cap,o,k1,hcv,hby⟩:=zdY (w.alloc (.cells #[.int .i64 K,.string S,.int .i64 N,.int .i64 P] 115)) S;have hcv2:=hcv 9 29 Tryz.underlying9 Tryz.underlying29;simp only[World.size_alloc]at hcv2 hby;have HBY:=hide hby;clear hcv hby;go_enter Tryz.func86,Tryz.ntmps86;go_wp2_with fail
 (refine((uq T1) _ _ (uq HBY)).mono ?_;rintro e w2 ⟨ad,cp,rfl,hlo,hhi,⟨c0,c1,c2,c3⟩,hk⟩;obtain⟨os,k2,rfl⟩:=hk.ext;clear hk);have k0:=hide (zab ((Keep.refl w).alloc (.cells #[.int .i64 K,.string S,.int .i64 N,.int .i64 0] 115)) (#[o]++os) k2);simp only[zcN]at c0 c1 c2 c3 hhi;have hlo':w.heap.size<ad.block:=by simp at hlo;omega
 rw[zbw w _ (.cells #[.int .i64 K,.string S,.int .i64 N,.int .i64 0] 115) _ _ ad hlo']at c0;rw[zbw w _ (.cells #[.int .i64 K,.string S,.int .i64 N,.int .i64 0] 115) _ _ ⟨ad.block,_,none⟩ hlo']at c1 c2 c3;clear hlo hlo' hhi;go_wp2_with fail
 refine wp_region_held_drew (S:=fun w'=>w'.cell? ad=some (.int .i64 K)∧w'.cell? ⟨ad.block,ad.off+1,none⟩=some (.string S)∧w'.cell? ⟨ad.block,ad.off+2,none⟩=some (.int .i64 N)∧w'.cell? ⟨ad.block,ad.off+3,none⟩=some (.int .i64 0)∧w'.cell? ⟨w.heap.size,0,none⟩=some (.int .i64 K)∧w'.cell? ⟨w.heap.size,1,none⟩=some (.string S)∧w'.cell? ⟨w.heap.size,2,none⟩=some (.int .i64 N)∧w'.cell? ⟨w.heap.size,3,none⟩=some (.int .i64 0)) (by kernel_rfl) (by exact⟨c0,c1,c2,c3,by simp[go_sem],by simp[go_sem],by simp[go_sem],by simp[go_sem]⟩) (fun hHeld=>?_);refine tkk 0 22 hHeld ?_;try simp only[Act.put,Ya,Yb,Yc]
 refine tkk 1 23 hHeld ?_;try simp only[Act.put,Ya,Yb,Yc]
 refine tkk 2 24 hHeld ?_;try simp only[Act.put,Ya,Yb,Yc]
 refine tkk 3 25 hHeld ?_;try simp only[Act.put,Ya,Yb,Yc]
 refine tkk 4 26 hHeld ?_;try simp only[Act.put,Ya,Yb,Yc]
 refine tkk 5 2 hHeld ?_;try simp only[Act.put,Ya,Yb,Yc]
 refine wpAnyH_done (by kernel_rfl) ?_ _;clear hHeld;go_wp2_with fail
 go_ret;exact⟨rfl,(uq k0).drew⟩
set_option maxHeartbeats 4000000 in
theorem zmf (K N P K2 N2 P2:Int) (S S2:ByteArray) (w:World) (hne:¬K2=K)
  (T1:Hid (∀ w' v,By w' v S.data.toList→Calls Tryz.prog 71 #[v] w' fun e w''=>∃ ad cap,e= .returned (.tuple #[.slice (some ad) 2 cap,.int .i64 0,.int .i64 0])∧w'.heap.size≤ad.block∧ad.block<w''.heap.size∧(w''.cell? ad=some (.int .i64 K2)∧w''.cell? ⟨ad.block,ad.off+1,none⟩=some (.string S2)∧w''.cell? ⟨ad.block,ad.off+2,none⟩=some (.int .i64 N2)∧w''.cell? ⟨ad.block,ad.off+3,none⟩=some (.int .i64 P2))∧Keep w' w'')):
  Calls Tryz.prog 86 #[.agg #[.int .i64 K,.string S,.int .i64 N,.int .i64 P]] w fun e w'=>e= .returned (.bool false)∧Keep w w':=by
 obtain⟨cap,o,k1,hcv,hby⟩:=zdY (w.alloc (.cells #[.int .i64 K,.string S,.int .i64 N,.int .i64 P] 115)) S;have hcv2:=hcv 9 29 Tryz.underlying9 Tryz.underlying29;simp only[World.size_alloc]at hcv2 hby;have HBY:=hide hby;clear hcv hby;go_enter Tryz.func86,Tryz.ntmps86;go_wp2_with fail
 (refine((uq T1) _ _ (uq HBY)).mono ?_;rintro e w2 ⟨ad,cp,rfl,hlo,hhi,⟨c0,c1,c2,c3⟩,hk⟩;obtain⟨os,k2,rfl⟩:=hk.ext;clear hk);have k0:=hide (zab ((Keep.refl w).alloc (.cells #[.int .i64 K,.string S,.int .i64 N,.int .i64 0] 115)) (#[o]++os) k2);simp only[zcN]at c0 c1 c2 c3 hhi;have hlo':w.heap.size<ad.block:=by simp at hlo;omega
 rw[zbw w _ (.cells #[.int .i64 K,.string S,.int .i64 N,.int .i64 0] 115) _ _ ad hlo']at c0;rw[zbw w _ (.cells #[.int .i64 K,.string S,.int .i64 N,.int .i64 0] 115) _ _ ⟨ad.block,_,none⟩ hlo']at c1 c2 c3;clear hlo hlo' hhi;go_wp2_with fail
 refine wp_region_held_drew (S:=fun w'=>w'.cell? ad=some (.int .i64 K2)∧w'.cell? ⟨ad.block,ad.off+1,none⟩=some (.string S2)∧w'.cell? ⟨ad.block,ad.off+2,none⟩=some (.int .i64 N2)∧w'.cell? ⟨ad.block,ad.off+3,none⟩=some (.int .i64 P2)∧w'.cell? ⟨w.heap.size,0,none⟩=some (.int .i64 K)∧w'.cell? ⟨w.heap.size,1,none⟩=some (.string S)∧w'.cell? ⟨w.heap.size,2,none⟩=some (.int .i64 N)∧w'.cell? ⟨w.heap.size,3,none⟩=some (.int .i64 0)) (by kernel_rfl) (by exact⟨c0,c1,c2,c3,by simp[go_sem],by simp[go_sem],by simp[go_sem],by simp[go_sem]⟩) (fun hHeld=>?_);refine tkk 0 22 hHeld ?_;try simp only[Act.put,Ya,Yb,Yc]
 refine tkk 1 23 hHeld ?_;try simp only[Act.put,Ya,Yb,Yc]
 refine tkk 2 24 hHeld ?_;try simp only[Act.put,Ya,Yb,Yc]
 refine tkk 3 25 hHeld ?_;try simp only[Act.put,Ya,Yb,Yc]
 refine tkk 4 26 hHeld ?_;try simp only[Act.put,Ya,Yb,Yc]
 refine tkk 5 2 hHeld ?_;try simp only[Act.put,Ya,Yb,Yc]
 refine wpAnyH_done (by kernel_rfl) ?_ _;clear hHeld;go_wp2_with fail
 go_ret;exact⟨rfl,(uq k0).drew⟩
set_option maxHeartbeats 4000000 in
theorem zmg (K N P N2 P2:Int) (S S2:ByteArray) (w:World) (hne:¬S2.toList=S.toList)
  (T1:Hid (∀ w' v,By w' v S.data.toList→Calls Tryz.prog 71 #[v] w' fun e w''=>∃ ad cap,e= .returned (.tuple #[.slice (some ad) 2 cap,.int .i64 0,.int .i64 0])∧w'.heap.size≤ad.block∧ad.block<w''.heap.size∧(w''.cell? ad=some (.int .i64 K)∧w''.cell? ⟨ad.block,ad.off+1,none⟩=some (.string S2)∧w''.cell? ⟨ad.block,ad.off+2,none⟩=some (.int .i64 N2)∧w''.cell? ⟨ad.block,ad.off+3,none⟩=some (.int .i64 P2))∧Keep w' w'')):
  Calls Tryz.prog 86 #[.agg #[.int .i64 K,.string S,.int .i64 N,.int .i64 P]] w fun e w'=>e= .returned (.bool false)∧Keep w w':=by
 obtain⟨cap,o,k1,hcv,hby⟩:=zdY (w.alloc (.cells #[.int .i64 K,.string S,.int .i64 N,.int .i64 P] 115)) S;have hcv2:=hcv 9 29 Tryz.underlying9 Tryz.underlying29;simp only[World.size_alloc]at hcv2 hby;have HBY:=hide hby;clear hcv hby;go_enter Tryz.func86,Tryz.ntmps86;go_wp2_with fail
 (refine((uq T1) _ _ (uq HBY)).mono ?_;rintro e w2 ⟨ad,cp,rfl,hlo,hhi,⟨c0,c1,c2,c3⟩,hk⟩;obtain⟨os,k2,rfl⟩:=hk.ext;clear hk);have k0:=hide (zab ((Keep.refl w).alloc (.cells #[.int .i64 K,.string S,.int .i64 N,.int .i64 0] 115)) (#[o]++os) k2);simp only[zcN]at c0 c1 c2 c3 hhi;have hlo':w.heap.size<ad.block:=by simp at hlo;omega
 rw[zbw w _ (.cells #[.int .i64 K,.string S,.int .i64 N,.int .i64 0] 115) _ _ ad hlo']at c0;rw[zbw w _ (.cells #[.int .i64 K,.string S,.int .i64 N,.int .i64 0] 115) _ _ ⟨ad.block,_,none⟩ hlo']at c1 c2 c3;clear hlo hlo' hhi;go_wp2_with fail
 refine wp_region_held_drew (S:=fun w'=>w'.cell? ad=some (.int .i64 K)∧w'.cell? ⟨ad.block,ad.off+1,none⟩=some (.string S2)∧w'.cell? ⟨ad.block,ad.off+2,none⟩=some (.int .i64 N2)∧w'.cell? ⟨ad.block,ad.off+3,none⟩=some (.int .i64 P2)∧w'.cell? ⟨w.heap.size,0,none⟩=some (.int .i64 K)∧w'.cell? ⟨w.heap.size,1,none⟩=some (.string S)∧w'.cell? ⟨w.heap.size,2,none⟩=some (.int .i64 N)∧w'.cell? ⟨w.heap.size,3,none⟩=some (.int .i64 0)) (by kernel_rfl) (by exact⟨c0,c1,c2,c3,by simp[go_sem],by simp[go_sem],by simp[go_sem],by simp[go_sem]⟩) (fun hHeld=>?_);refine tkk 0 22 hHeld ?_;try simp only[Act.put,Ya,Yb,Yc]
 refine tkk 1 23 hHeld ?_;try simp only[Act.put,Ya,Yb,Yc]
 refine tkk 2 24 hHeld ?_;try simp only[Act.put,Ya,Yb,Yc]
 refine tkk 3 25 hHeld ?_;try simp only[Act.put,Ya,Yb,Yc]
 refine tkk 4 26 hHeld ?_;try simp only[Act.put,Ya,Yb,Yc]
 refine tkk 5 2 hHeld ?_;try simp only[Act.put,Ya,Yb,Yc]
 refine wpAnyH_done (by kernel_rfl) ?_ _;clear hHeld;go_wp2_with fail
 go_ret;exact⟨rfl,(uq k0).drew⟩
set_option maxHeartbeats 4000000 in
theorem zmh (K N P N2 P2:Int) (S:ByteArray) (w:World) (hne:¬N2=N)
  (T1:Hid (∀ w' v,By w' v S.data.toList→Calls Tryz.prog 71 #[v] w' fun e w''=>∃ ad cap,e= .returned (.tuple #[.slice (some ad) 2 cap,.int .i64 0,.int .i64 0])∧w'.heap.size≤ad.block∧ad.block<w''.heap.size∧(w''.cell? ad=some (.int .i64 K)∧w''.cell? ⟨ad.block,ad.off+1,none⟩=some (.string S)∧w''.cell? ⟨ad.block,ad.off+2,none⟩=some (.int .i64 N2)∧w''.cell? ⟨ad.block,ad.off+3,none⟩=some (.int .i64 P2))∧Keep w' w'')):
  Calls Tryz.prog 86 #[.agg #[.int .i64 K,.string S,.int .i64 N,.int .i64 P]] w fun e w'=>e= .returned (.bool false)∧Keep w w':=by
 obtain⟨cap,o,k1,hcv,hby⟩:=zdY (w.alloc (.cells #[.int .i64 K,.string S,.int .i64 N,.int .i64 P] 115)) S;have hcv2:=hcv 9 29 Tryz.underlying9 Tryz.underlying29;simp only[World.size_alloc]at hcv2 hby;have HBY:=hide hby;clear hcv hby;go_enter Tryz.func86,Tryz.ntmps86;go_wp2_with fail
 (refine((uq T1) _ _ (uq HBY)).mono ?_;rintro e w2 ⟨ad,cp,rfl,hlo,hhi,⟨c0,c1,c2,c3⟩,hk⟩;obtain⟨os,k2,rfl⟩:=hk.ext;clear hk);have k0:=hide (zab ((Keep.refl w).alloc (.cells #[.int .i64 K,.string S,.int .i64 N,.int .i64 0] 115)) (#[o]++os) k2);simp only[zcN]at c0 c1 c2 c3 hhi;have hlo':w.heap.size<ad.block:=by simp at hlo;omega
 rw[zbw w _ (.cells #[.int .i64 K,.string S,.int .i64 N,.int .i64 0] 115) _ _ ad hlo']at c0;rw[zbw w _ (.cells #[.int .i64 K,.string S,.int .i64 N,.int .i64 0] 115) _ _ ⟨ad.block,_,none⟩ hlo']at c1 c2 c3;clear hlo hlo' hhi;go_wp2_with fail
 refine wp_region_held_drew (S:=fun w'=>w'.cell? ad=some (.int .i64 K)∧w'.cell? ⟨ad.block,ad.off+1,none⟩=some (.string S)∧w'.cell? ⟨ad.block,ad.off+2,none⟩=some (.int .i64 N2)∧w'.cell? ⟨ad.block,ad.off+3,none⟩=some (.int .i64 P2)∧w'.cell? ⟨w.heap.size,0,none⟩=some (.int .i64 K)∧w'.cell? ⟨w.heap.size,1,none⟩=some (.string S)∧w'.cell? ⟨w.heap.size,2,none⟩=some (.int .i64 N)∧w'.cell? ⟨w.heap.size,3,none⟩=some (.int .i64 0)) (by kernel_rfl) (by exact⟨c0,c1,c2,c3,by simp[go_sem],by simp[go_sem],by simp[go_sem],by simp[go_sem]⟩) (fun hHeld=>?_);refine tkk 0 22 hHeld ?_;try simp only[Act.put,Ya,Yb,Yc]
 refine tkk 1 23 hHeld ?_;try simp only[Act.put,Ya,Yb,Yc]
 refine tkk 2 24 hHeld ?_;try simp only[Act.put,Ya,Yb,Yc]
 refine tkk 3 25 hHeld ?_;try simp only[Act.put,Ya,Yb,Yc]
 refine tkk 4 26 hHeld ?_;try simp only[Act.put,Ya,Yb,Yc]
 refine tkk 5 2 hHeld ?_;try simp only[Act.put,Ya,Yb,Yc]
 refine wpAnyH_done (by kernel_rfl) ?_ _;clear hHeld;go_wp2_with fail
 go_ret;exact⟨rfl,(uq k0).drew⟩
end Go.Proofs.YtfepanidippjlaaGreatDoor
