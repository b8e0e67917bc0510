/- The document's one token. -/
import Derived.Test.YthbfohohelflnaaLReadA
namespace Go.Proofs.Ythbfohohelflnaa
open Go.RowKit
attribute [local go_sem ↓] Go.wp_at_zero Go.wp_at_succ
set_option linter.unusedVariables false
set_option linter.unusedSimpArgs false
set_option maxRecDepth 10000
def Wd (E i m:Nat) (A B:Value) (e:Ending):Prop:=(E - i≤m→e= .returned A)∧(m<E - i→e= .returned B)
set_option maxHeartbeats 4000000 in
theorem zfx (ad:Addr) (n cap i E:Nat) (C:Nat→Int) (SM DG:Nat→Bool) (G:Nat→Nat) (s:ByteArray) (w:World) (hn:n≤70000) (hi:i<n) (hE:i<E) (hEn:E≤n) (hnc:n≤cap) (hb:ad.block<w.heap.size)
  (HC:Hid (∀ k,k<n→∀ W,Keep w W→W.cell? (ad.add k)=some (.int .u8 (C k))))
  (T1:Hid (∀ k,k<n→∀ w,Calls Try.prog 67 #[.int .u8 (C k)] w fun e w'=>e= .returned (.bool (SM k))∧w'=w))
  (T2:Hid (∀ k,k<n→∀ w,Calls Try.prog 68 #[.int .u8 (C k)] w fun e w'=>e= .returned (.bool (DG k))∧w'=w))
  (HS:Hid (SM i=true))
  (HG:Hid (∀ k,k<n→(SM k=true∨DG k=true∨C k=95)→G k=1+G (k+1)))
  (HG2:Hid (∀ k,(k<n→¬(SM k=true∨DG k=true∨C k=95))→G k=0))
  (HE:Hid (i+G i=E))
  (HV:Hid (∀ W,Keep w W→(convert 78 9 (.slice (some (ad.add i)) (E - i) (cap - i))).run Try.prog W= .ok (.string s) W)):
  Calls Try.prog 61 #[.slice (some ad) n cap,.int .i64 (i:Int)] w fun e w'=>Wd E i 24 (.tuple #[.agg #[.int .i64 1,.string s,.int .i64 0,.int .i64 (i:Int)],.int .i64 0]) (.tuple #[.agg #[.int .i64 0,.string ⟨#[]⟩,.int .i64 0,.int .i64 0],.int .i64 4]) e∧Keep w w':=by
 have hin:(i:Int)<(n:Int):=by omega
 have k0:=(show ∀ o1,(w.alloc o1).cell? (ad.add i)=some (.int .u8 (C i))from fun o1=>(uq HC) i hi _ ((Keep.refl w).alloc _));have kv:=(show ∀ o1,(convert 78 9 (.slice (some (ad.add i)) (E - i) (cap - i))).run Try.prog (w.alloc o1)= .ok (.string s) (w.alloc o1)from fun o1=>(uq HV) _ ((Keep.refl w).alloc _));go_enter Try.func61,Try.ntmps61;go_wp2_with fail
 (refine((uq T1) i hi _).mono ?_;rintro e w2 ⟨rfl,rfl⟩);rw[uq HS];clear k0;go_wp2_with fail
 go_loop [6] (fun vi=>∃ k:Nat,k≤n∧vi= .int .i64 (k:Int)∧Hid (k+G k=E)) (fun vi=>n - (intOf vi).toNat)
 case atStart=>exact⟨i,Nat.le_of_lt hi,rfl,HE⟩
 case round=>
  obtain⟨k,hk,rfl,hE'⟩:=hrel;by_cases hlt:k<n
  ·have li:(k:Int)<(n:Int):=by omega
   have k0:=(show ∀ o1,(w.alloc o1).cell? (ad.add k)=some (.int .u8 (C k))from fun o1=>(uq HC) k hlt _ ((Keep.refl w).alloc _));have T1k:=hide ((uq T1) k hlt);have T2k:=hide ((uq T2) k hlt);have HGk:Hid ((SM k=true∨DG k=true∨C k=95)→k+1+G (k+1)=E):=by
    intro h
    have:=uq hE';rw[(uq HG) k hlt h]at this;omega
   have HNk:Hid (¬(SM k=true∨DG k=true∨C k=95)→k=E):=by
    intro h
    have:=uq hE';rw[(uq HG2) k (fun _=>h)]at this;omega
   generalize SM k=b1 at *;generalize DG k=b2 at *;clear hE' HG HG2;go_wp2_with fail
   (refine((uq T1k) _).mono ?_;rintro e w2 ⟨rfl,rfl⟩);cases b1 with
   |true=>
    go_wp2_with fail
    exact⟨⟨k+1,hlt,by go_num,(uq HGk) (by simp)⟩,by simp[intOf];omega⟩
   |false=>
    go_wp2_with fail
    (refine((uq T2k) _).mono ?_;rintro e w2 ⟨rfl,rfl⟩);cases b2 with
    |true=>
     go_wp2_with fail
     exact⟨⟨k+1,hlt,by go_num,(uq HGk) (by simp)⟩,by simp[intOf];omega⟩
    |false=>
     by_cases h95:C k=95
     ·have hb95:(C k==95)=true:=by simp[h95]
      have HX:Hid (k+1+G (k+1)=E):=(uq HGk) (.inr (.inr h95));clear h95;go_wp2_with fail
      exact⟨⟨k+1,hlt,by go_num,HX⟩,by simp[intOf];omega⟩
     ·have hb95:(C k==95)=false:=by simp[h95]
      have e:k=E:=(uq HNk) (by simp[h95]);subst e;clear h95 HGk HNk;go_wp2_with fail
      ·exact bodyPost_ret (v:= .tuple #[.agg #[.int .i64 0,.string ⟨#[]⟩,.int .i64 0,.int .i64 0],.int .i64 4]) (by simp[results,Try.results61,go_sem]) rfl ⟨⟨fun h=>absurd h (by omega),fun _=>rfl⟩,by repeat(first|apply zaA|apply Keep.alloc|apply Keep.drew|exact Keep.refl _)⟩
      ·exact bodyPost_ret (v:= .tuple #[.agg #[.int .i64 1,.string s,.int .i64 0,.int .i64 (i:Int)],.int .i64 0]) (by simp[results,Try.results61,go_sem]) rfl ⟨⟨fun _=>rfl,fun h=>absurd h (by omega)⟩,by repeat(first|apply zaA|apply Keep.alloc|apply Keep.drew|exact Keep.refl _)⟩
  ·have e:k=E:=by have:=uq hE';rw[(uq HG2) k (fun h=>absurd h hlt)]at this;omega
   subst e;go_wp2_with fail
   ·exact bodyPost_ret (v:= .tuple #[.agg #[.int .i64 0,.string ⟨#[]⟩,.int .i64 0,.int .i64 0],.int .i64 4]) (by simp[results,Try.results61,go_sem]) rfl ⟨⟨fun h=>absurd h (by omega),fun _=>rfl⟩,by repeat(first|apply zaA|apply Keep.alloc|apply Keep.drew|exact Keep.refl _)⟩
   ·exact bodyPost_ret (v:= .tuple #[.agg #[.int .i64 1,.string s,.int .i64 0,.int .i64 (i:Int)],.int .i64 0]) (by simp[results,Try.results61,go_sem]) rfl ⟨⟨fun _=>rfl,fun h=>absurd h (by omega)⟩,by repeat(first|apply zaA|apply Keep.alloc|apply Keep.drew|exact Keep.refl _)⟩
set_option maxHeartbeats 4000000 in
theorem zhW (ad:Addr) (n cap i E:Nat) (C D:Nat→Int) (DG:Nat→Bool) (G:Nat→Nat) (V:Nat→Int) (s:ByteArray) (w:World) (hn:n≤70000) (hi:i<n) (hE:i<E) (hEn:E≤n) (hnc:n≤cap) (hb:ad.block<w.heap.size)
  (HC:Hid (∀ k,k<n→∀ W,Keep w W→W.cell? (ad.add k)=some (.int .u8 (C k))))
  (T1:Hid (∀ w,Calls Try.prog 67 #[.int .u8 (C i)] w fun e w'=>e= .returned (.bool false)∧w'=w))
  (T2:Hid (∀ k,k<n→∀ w,Calls Try.prog 68 #[.int .u8 (C k)] w fun e w'=>e= .returned (.bool (DG k))∧w'=w))
  (HS:Hid (DG i=true))
  (HD:Hid (∀ k,k<n→DG k=true→C k=D k+48∧0≤D k∧D k≤9))
  (HG:Hid (∀ k,k<n→DG k=true→G k=1+G (k+1)))
  (HG2:Hid (∀ k,(k<n→DG k=false)→G k=0))
  (HE:Hid (i+G i=E))
  (H0:Hid (V 0=0))
  (HW:Hid (∀ j,j<18→i+j<E→V (j+1)=10 * V j+D (i+j)∧0≤V j∧V j≤100000000000000000))
  (HV:Hid (∀ W,Keep w W→(convert 78 9 (.slice (some (ad.add i)) (E - i) (cap - i))).run Try.prog W= .ok (.string s) W)):
  Calls Try.prog 61 #[.slice (some ad) n cap,.int .i64 (i:Int)] w fun e w'=>Wd E i 18 (.tuple #[.agg #[.int .i64 2,.string s,.int .i64 (V (E - i)),.int .i64 (i:Int)],.int .i64 0]) (.tuple #[.agg #[.int .i64 0,.string ⟨#[]⟩,.int .i64 0,.int .i64 0],.int .i64 4]) e∧Keep w w':=by
 have hin:(i:Int)<(n:Int):=by omega
 have k0:=(show ∀ o1,(w.alloc o1).cell? (ad.add i)=some (.int .u8 (C i))from fun o1=>(uq HC) i hi _ ((Keep.refl w).alloc _));have kv:=(show ∀ o1,(convert 78 9 (.slice (some (ad.add i)) (E - i) (cap - i))).run Try.prog (w.alloc o1)= .ok (.string s) (w.alloc o1)from fun o1=>(uq HV) _ ((Keep.refl w).alloc _));go_enter Try.func61,Try.ntmps61;go_wp2_with fail
 (refine((uq T1) _).mono ?_;rintro e w2 ⟨rfl,rfl⟩);go_wp2_with fail
 (refine((uq T2) i hi _).mono ?_;rintro e w2 ⟨rfl,rfl⟩);rw[uq HS];clear k0;go_wp2_with fail
 go_loop [6,7] (fun vi vv=>∃ k:Nat,i≤k∧k≤n∧vi= .int .i64 (k:Int)∧vv= .int .i64 (V (min (k - i) 18))∧Hid (k+G k=E)) (fun vi vv=>n - (intOf vi).toNat)
 case atStart=>exact⟨i,Nat.le_refl _,Nat.le_of_lt hi,rfl,by rw[Nat.sub_self];exact congrArg _ (uq H0).symm,HE⟩
 case round=>
  obtain⟨k,hik,hk,rfl,rfl,hE'⟩:=hrel;by_cases hlt:k<n
  ·have li:(k:Int)<(n:Int):=by omega
   have k0:=(show ∀ o1,(w.alloc o1).cell? (ad.add k)=some (.int .u8 (C k))from fun o1=>(uq HC) k hlt _ ((Keep.refl w).alloc _));have T2k:=hide ((uq T2) k hlt);obtain⟨b,hb2⟩:∃ b,DG k=b:=⟨_,rfl⟩;rw[hb2]at T2k;have HBk:=hide hb2;clear hb2;cases b with
   |true=>
    have HX:Hid (k+1+G (k+1)=E):=by have:=uq hE';rw[(uq HG) k hlt (uq HBk)]at this;unfold Hid;omega
    obtain⟨d1,d2,d3⟩:=(uq HD) k hlt (uq HBk);by_cases hj:k - i<18
    ·have hj':(k:Int) - (i:Int)<18:=by omega
     obtain⟨v1,v2,v3⟩:=(uq HW) (k - i) hj (by have:=uq HX;omega);rw[show i+(k - i)=k by omega]at v1;rw[show min (k - i) 18=k - i by omega];have HV1:=hide v1;clear v1;generalize D k=d at *;generalize C k=c at *;generalize V (k - i)=x at *;have H3:=hide d1;subst d1;go_wp2_with fail
     (refine((uq T2k) _).mono ?_;rintro e w2 ⟨rfl,rfl⟩);go_wp2_with fail
     exact⟨⟨k+1,by omega,hlt,by go_num,by rw[show min (k+1 - i) 18=k - i+1 by omega,uq HV1],HX⟩,by simp[intOf];omega⟩
    ·have hj':¬(k:Int) - (i:Int)<18:=by omega
     clear d1 d2 d3;rw[show min (k - i) 18=18 by omega];go_wp2_with fail
     (refine((uq T2k) _).mono ?_;rintro e w2 ⟨rfl,rfl⟩);go_wp2_with fail
     exact⟨⟨k+1,by omega,hlt,by go_num,by rw[show min (k+1 - i) 18=18 by omega],HX⟩,by simp[intOf];omega⟩
   |false=>
    have e:k=E:=by have:=uq hE';rw[(uq HG2) k (fun _=>uq HBk)]at this;omega
    subst e;go_wp2_with fail
    (refine((uq T2k) _).mono ?_;rintro e w2 ⟨rfl,rfl⟩);by_cases hm:18<k - i
    ·have hv:¬((k:Int) - (i:Int)≤18):=by omega
     go_wp2_with fail
     exact bodyPost_ret (v:= .tuple #[.agg #[.int .i64 0,.string ⟨#[]⟩,.int .i64 0,.int .i64 0],.int .i64 4]) (by simp[results,Try.results61,go_sem]) rfl ⟨⟨fun h=>absurd h (by omega),fun _=>rfl⟩,by repeat(first|apply zaA|apply Keep.alloc|apply Keep.drew|exact Keep.refl _)⟩
    ·have hv:((k:Int) - (i:Int)≤18):=by omega
     have hmin:min (k - i) 18=k - i:=by omega
     rw[hmin];go_wp2_with fail
     exact bodyPost_ret (v:= .tuple #[.agg #[.int .i64 2,.string s,.int .i64 (V (k - i)),.int .i64 (i:Int)],.int .i64 0]) (by simp[results,Try.results61,go_sem]) rfl ⟨⟨fun _=>rfl,fun h=>absurd h (by omega)⟩,by repeat(first|apply zaA|apply Keep.alloc|apply Keep.drew|exact Keep.refl _)⟩
  ·have e:k=E:=by have:=uq hE';rw[(uq HG2) k (fun h=>absurd h hlt)]at this;omega
   subst e;by_cases hm:18<k - i
   ·have hv:¬((k:Int) - (i:Int)≤18):=by omega
    go_wp2_with fail
    exact bodyPost_ret (v:= .tuple #[.agg #[.int .i64 0,.string ⟨#[]⟩,.int .i64 0,.int .i64 0],.int .i64 4]) (by simp[results,Try.results61,go_sem]) rfl ⟨⟨fun h=>absurd h (by omega),fun _=>rfl⟩,by repeat(first|apply zaA|apply Keep.alloc|apply Keep.drew|exact Keep.refl _)⟩
   ·have hv:((k:Int) - (i:Int)≤18):=by omega
    have hmin:min (k - i) 18=k - i:=by omega
    rw[hmin];go_wp2_with fail
    exact bodyPost_ret (v:= .tuple #[.agg #[.int .i64 2,.string s,.int .i64 (V (k - i)),.int .i64 (i:Int)],.int .i64 0]) (by simp[results,Try.results61,go_sem]) rfl ⟨⟨fun _=>rfl,fun h=>absurd h (by omega)⟩,by repeat(first|apply zaA|apply Keep.alloc|apply Keep.drew|exact Keep.refl _)⟩
set_option maxHeartbeats 4000000 in
theorem zfy (ad:Addr) (n cap i:Nat) (c:Int) (s:ByteArray) (w:World) (hn:n≤70000) (hi:i<n) (hnc:n≤cap) (hb:ad.block<w.heap.size)
  (HC:Hid (∀ W,Keep w W→W.cell? (ad.add i)=some (.int .u8 c)))
  (T1:Hid (∀ w,Calls Try.prog 67 #[.int .u8 c] w fun e w'=>e= .returned (.bool false)∧w'=w))
  (T2:Hid (∀ w,Calls Try.prog 68 #[.int .u8 c] w fun e w'=>e= .returned (.bool false)∧w'=w))
  (T3:Hid (∀ w,Calls Try.prog 69 #[.int .u8 c] w fun e w'=>e= .returned (.bool true)∧w'=w))
  (HV:Hid (∀ W,Keep w W→(convert 78 9 (.slice (some (ad.add i)) (i+1 - i) (cap - i))).run Try.prog W= .ok (.string s) W)):
  Calls Try.prog 61 #[.slice (some ad) n cap,.int .i64 (i:Int)] w fun e w'=>e= .returned (.tuple #[.agg #[.int .i64 3,.string s,.int .i64 0,.int .i64 (i:Int)],.int .i64 0])∧Keep w w':=by
 have hin:(i:Int)<(n:Int):=by omega
 have k0:=(show ∀ o1,(w.alloc o1).cell? (ad.add i)=some (.int .u8 c)from fun o1=>(uq HC) _ ((Keep.refl w).alloc _));have kv:=(show ∀ o1,(convert 78 9 (.slice (some (ad.add i)) 1 (cap - i))).run Try.prog (w.alloc o1)= .ok (.string s) (w.alloc o1)from fun o1=>by
  have:=(uq HV) _ ((Keep.refl w).alloc o1);rw[Nat.add_sub_cancel_left]at this;exact this)
 go_enter Try.func61,Try.ntmps61;go_wp2_with fail
 (refine((uq T1) _).mono ?_;rintro e w2 ⟨rfl,rfl⟩);go_wp2_with fail
 (refine((uq T2) _).mono ?_;rintro e w2 ⟨rfl,rfl⟩);go_wp2_with fail
 (refine((uq T3) _).mono ?_;rintro e w2 ⟨rfl,rfl⟩);go_wp2_with fail
 exact bodyPost_ret (v:= .tuple #[.agg #[.int .i64 3,.string s,.int .i64 0,.int .i64 (i:Int)],.int .i64 0]) (by simp[results,Try.results61,go_sem]) rfl ⟨rfl,by repeat(first|apply zaA|apply Keep.alloc|apply Keep.drew|exact Keep.refl _)⟩
set_option maxHeartbeats 4000000 in
theorem zfz (ad:Addr) (n cap i:Nat) (c:Int) (s:ByteArray) (w:World) (hn:n≤70000) (hi:i<n) (hnc:n≤cap) (hb:ad.block<w.heap.size)
  (HC:Hid (∀ W,Keep w W→W.cell? (ad.add i)=some (.int .u8 c)))
  (T1:Hid (∀ w,Calls Try.prog 67 #[.int .u8 c] w fun e w'=>e= .returned (.bool false)∧w'=w))
  (T2:Hid (∀ w,Calls Try.prog 68 #[.int .u8 c] w fun e w'=>e= .returned (.bool false)∧w'=w))
  (T3:Hid (∀ w,Calls Try.prog 69 #[.int .u8 c] w fun e w'=>e= .returned (.bool false)∧w'=w))
  (HV:Hid (∀ W,Keep w W→(convert 78 9 (.slice (some (ad.add i)) (i+1 - i) (cap - i))).run Try.prog W= .ok (.string s) W)):
  Calls Try.prog 61 #[.slice (some ad) n cap,.int .i64 (i:Int)] w fun e w'=>e= .returned (.tuple #[.agg #[.int .i64 0,.string ⟨#[]⟩,.int .i64 0,.int .i64 0],.int .i64 40])∧Keep w w':=by
 have hin:(i:Int)<(n:Int):=by omega
 have k0:=(show ∀ o1,(w.alloc o1).cell? (ad.add i)=some (.int .u8 c)from fun o1=>(uq HC) _ ((Keep.refl w).alloc _));have kv:=(show ∀ o1,(convert 78 9 (.slice (some (ad.add i)) 1 (cap - i))).run Try.prog (w.alloc o1)= .ok (.string s) (w.alloc o1)from fun o1=>by
  have:=(uq HV) _ ((Keep.refl w).alloc o1);rw[Nat.add_sub_cancel_left]at this;exact this)
 go_enter Try.func61,Try.ntmps61;go_wp2_with fail
 (refine((uq T1) _).mono ?_;rintro e w2 ⟨rfl,rfl⟩);go_wp2_with fail
 (refine((uq T2) _).mono ?_;rintro e w2 ⟨rfl,rfl⟩);go_wp2_with fail
 (refine((uq T3) _).mono ?_;rintro e w2 ⟨rfl,rfl⟩);go_wp2_with fail
 exact bodyPost_ret (v:= .tuple #[.agg #[.int .i64 0,.string ⟨#[]⟩,.int .i64 0,.int .i64 0],.int .i64 40]) (by simp[results,Try.results61,go_sem]) rfl ⟨rfl,by repeat(first|apply zaA|apply Keep.alloc|apply Keep.drew|exact Keep.refl _)⟩
end Go.Proofs.Ythbfohohelflnaa
