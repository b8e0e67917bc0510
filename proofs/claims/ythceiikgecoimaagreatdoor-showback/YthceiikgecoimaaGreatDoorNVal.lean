/- The document's one token. -/
import Derived.Test.YthceiikgecoimaaGreatDoorLReadA
import Derived.Test.YthceiikgecoimaaGreatDoorNCut
namespace Go.Proofs.YthceiikgecoimaaGreatDoor
open Go.RowKit
attribute [local go_sem ↓] Go.wp_at_zero Go.wp_at_succ
set_option linter.unusedVariables false
set_option linter.unusedSimpArgs false
set_option maxRecDepth 10000
def Wd (E i m:Nat) (A B:Value) (e:Ending):Prop:=(E - i<=m->e= .returned A)/\(m<E - i->e= .returned B)
set_option maxHeartbeats 4000000 in
theorem zfl (ad:Addr) (n cap i E:Nat) (C:Nat->Int) (SM DG:Nat->Bool) (G:Nat->Nat) (s:ByteArray) (w:World) (hn:n<=70000) (hi:i<n) (hE:i<E) (hEn:E<=n) (hnc:n<=cap) (hb:ad.block<w.heap.size)
  (HC:Hid (∀ k,k<n->∀ W,Keep w W->W.cell? (ad.add k)=some (.int .u8 (C k))))
  (T1:Hid (∀ k,k<n->∀ w,Calls Tryz.prog 99 #[.int .u8 (C k)] w λe w'=>e= .returned (.bool (SM k))/\w'=w))
  (T2:Hid (∀ k,k<n->∀ w,Calls Tryz.prog 100 #[.int .u8 (C k)] w λe w'=>e= .returned (.bool (DG k))/\w'=w))
  (HS:Hid (SM i=true))
  (HG:Hid (∀ k,k<n->(SM k=true\/DG k=true\/C k=95)->G k=1+G (k+1)))
  (HG2:Hid (∀ k,(k<n->¬(SM k=true\/DG k=true\/C k=95))->G k=0))
  (HE:Hid (i+G i=E))
  (HV:Hid (∀ W,Keep w W->(convert 29 9 (.slice (some (ad.add i)) (E - i) (cap - i))).run Tryz.prog W= .ok (.string s) W)):
  Calls Tryz.prog 76 #[.slice (some ad) n cap,.int .i64 (i:Int)] w λe w'=>Wd E i 24 (.tuple #[.agg #[.int .i64 1,.string s,.int .i64 0,.int .i64 (i:Int)],.int .i64 0]) (.tuple #[.agg #[.int .i64 0,.string ⟨#[]⟩,.int .i64 0,.int .i64 0],.int .i64 4]) e/\Keep w w':=by
 have hin:(i:Int)<(n:Int):=by omega
 have k0:=(show ∀ o1,(w.alloc o1).cell? (ad.add i)=some (.int .u8 (C i))from λo1=>(uq HC) i hi _ ((zk w).alloc _));have kv:=(show ∀ o1,(convert 29 9 (.slice (some (ad.add i)) (E - i) (cap - i))).run Tryz.prog (w.alloc o1)= .ok (.string s) (w.alloc o1)from λo1=>(uq HV) _ ((zk w).alloc _));go_enter Tryz.func76,Tryz.ntmps76;go_wp2_with fail
 (refine((uq T1) i hi _).mono ?_;rintro e w2 ⟨rfl,rfl⟩);rw[uq HS];clear k0;go_wp2_with fail
 go_loop [6] (λvi=>∃ k:Nat,k<=n/\vi= .int .i64 (k:Int)/\Hid (k+G k=E)) (λvi=>n - (intOf vi).toNat)
 case atStart=>exact⟨i,Nat.le_of_lt hi,rfl,HE⟩
 case round=>
  obtain⟨k,hk,rfl,hE'⟩:=hrel;by_cases hlt:k<n
  ·have li:(k:Int)<(n:Int):=by omega
   have k0:=(show ∀ o1,(w.alloc o1).cell? (ad.add k)=some (.int .u8 (C k))from λo1=>(uq HC) k hlt _ ((zk w).alloc _));have T1k:=zh ((uq T1) k hlt);have T2k:=zh ((uq T2) k hlt);have HGk:Hid ((SM k=true\/DG k=true\/C k=95)->k+1+G (k+1)=E):=by
    intro h
    have:=uq hE';rw[(uq HG) k hlt h]at this;omega
   have HNk:Hid (¬(SM k=true\/DG k=true\/C k=95)->k=E):=by
    intro h
    have:=uq hE';rw[(uq HG2) k (λ_=>h)]at this;omega
   generalize SM k=b1 at *;generalize DG k=b2 at *;clear hE' HG HG2;go_wp2_with fail
   (refine((uq T1k) _).mono ?_;rintro e w2 ⟨rfl,rfl⟩);cases b1 with
   |true=>
    go_wp2_with fail
    exact⟨⟨k+1,hlt,by go_num,(uq HGk) (by simp)⟩,by simp[intOf];omega⟩
   |false=>
    go_wp2_with fail
    (refine((uq T2k) _).mono ?_;rintro e w2 ⟨rfl,rfl⟩);cases b2 with
    |true=>
     go_wp2_with fail
     exact⟨⟨k+1,hlt,by go_num,(uq HGk) (by simp)⟩,by simp[intOf];omega⟩
    |false=>
     by_cases h95:C k=95
     ·have hb95:(C k==95)=true:=by simp[h95]
      have HX:Hid (k+1+G (k+1)=E):=(uq HGk) (.inr (.inr h95));clear h95;go_wp2_with fail
      exact⟨⟨k+1,hlt,by go_num,HX⟩,by simp[intOf];omega⟩
     ·have hb95:(C k==95)=false:=by simp[h95]
      have e:k=E:=(uq HNk) (by simp[h95]);subst e;clear h95 HGk HNk;go_wp2_with fail
      ·exact bodyPost_ret (v:= .tuple #[.agg #[.int .i64 0,.string ⟨#[]⟩,.int .i64 0,.int .i64 0],.int .i64 4]) (by simp[results,Tryz.results76,go_sem]) rfl ⟨⟨λh=>absurd h (by omega),λ_=>rfl⟩,by repeat(first|apply zaa|apply Keep.alloc|apply Keep.drew|exact zk _)⟩
      ·exact bodyPost_ret (v:= .tuple #[.agg #[.int .i64 1,.string s,.int .i64 0,.int .i64 (i:Int)],.int .i64 0]) (by simp[results,Tryz.results76,go_sem]) rfl ⟨⟨λ_=>rfl,λh=>absurd h (by omega)⟩,by repeat(first|apply zaa|apply Keep.alloc|apply Keep.drew|exact zk _)⟩
  ·have e:k=E:=by have:=uq hE';rw[(uq HG2) k (λh=>absurd h hlt)]at this;omega
   subst e;go_wp2_with fail
   ·exact bodyPost_ret (v:= .tuple #[.agg #[.int .i64 0,.string ⟨#[]⟩,.int .i64 0,.int .i64 0],.int .i64 4]) (by simp[results,Tryz.results76,go_sem]) rfl ⟨⟨λh=>absurd h (by omega),λ_=>rfl⟩,by repeat(first|apply zaa|apply Keep.alloc|apply Keep.drew|exact zk _)⟩
   ·exact bodyPost_ret (v:= .tuple #[.agg #[.int .i64 1,.string s,.int .i64 0,.int .i64 (i:Int)],.int .i64 0]) (by simp[results,Tryz.results76,go_sem]) rfl ⟨⟨λ_=>rfl,λh=>absurd h (by omega)⟩,by repeat(first|apply zaa|apply Keep.alloc|apply Keep.drew|exact zk _)⟩
set_option maxHeartbeats 4000000 in
theorem zoo (ad:Addr) (n cap i E:Nat) (C D:Nat->Int) (DG:Nat->Bool) (G:Nat->Nat) (V:Nat->Int) (s:ByteArray) (w:World) (hn:n<=70000) (hi:i<n) (hE:i<E) (hEn:E<=n) (hnc:n<=cap) (hb:ad.block<w.heap.size)
  (HC:Hid (∀ k,k<n->∀ W,Keep w W->W.cell? (ad.add k)=some (.int .u8 (C k))))
  (T1:Hid (∀ w,Calls Tryz.prog 99 #[.int .u8 (C i)] w λe w'=>e= .returned (.bool false)/\w'=w))
  (T2:Hid (∀ k,k<n->∀ w,Calls Tryz.prog 100 #[.int .u8 (C k)] w λe w'=>e= .returned (.bool (DG k))/\w'=w))
  (HS:Hid (DG i=true))
  (HD:Hid (∀ k,k<n->DG k=true->C k=D k+48/\0<=D k/\D k<=9))
  (HG:Hid (∀ k,k<n->DG k=true->G k=1+G (k+1)))
  (HG2:Hid (∀ k,(k<n->DG k=false)->G k=0))
  (HE:Hid (i+G i=E))
  (H0:Hid (V 0=0))
  (HW:Hid (∀ j,j<18->i+j<E->V (j+1)=10 * V j+D (i+j)/\0<=V j/\V j<=100000000000000000))
  (HV:Hid (∀ W,Keep w W->(convert 29 9 (.slice (some (ad.add i)) (E - i) (cap - i))).run Tryz.prog W= .ok (.string s) W)):
  Calls Tryz.prog 76 #[.slice (some ad) n cap,.int .i64 (i:Int)] w λe w'=>Wd E i 18 (.tuple #[.agg #[.int .i64 2,.string s,.int .i64 (V (E - i)),.int .i64 (i:Int)],.int .i64 0]) (.tuple #[.agg #[.int .i64 0,.string ⟨#[]⟩,.int .i64 0,.int .i64 0],.int .i64 4]) e/\Keep w w':=by
 have hin:(i:Int)<(n:Int):=by omega
 have k0:=(show ∀ o1,(w.alloc o1).cell? (ad.add i)=some (.int .u8 (C i))from λo1=>(uq HC) i hi _ ((zk w).alloc _));have kv:=(show ∀ o1,(convert 29 9 (.slice (some (ad.add i)) (E - i) (cap - i))).run Tryz.prog (w.alloc o1)= .ok (.string s) (w.alloc o1)from λo1=>(uq HV) _ ((zk w).alloc _));go_enter Tryz.func76,Tryz.ntmps76;go_wp2_with fail
 (refine((uq T1) _).mono ?_;rintro e w2 ⟨rfl,rfl⟩);go_wp2_with fail
 (refine((uq T2) i hi _).mono ?_;rintro e w2 ⟨rfl,rfl⟩);rw[uq HS];clear k0;go_wp2_with fail
 go_loop [6,7] (λvi vv=>∃ k:Nat,i<=k/\k<=n/\vi= .int .i64 (k:Int)/\vv= .int .i64 (V (min (k - i) 18))/\Hid (k+G k=E)) (λvi vv=>n - (intOf vi).toNat)
 case atStart=>exact⟨i,Nat.le_refl _,Nat.le_of_lt hi,rfl,by rw[Nat.sub_self];exact congrArg _ (uq H0).symm,HE⟩
 case round=>
  obtain⟨k,hik,hk,rfl,rfl,hE'⟩:=hrel;by_cases hlt:k<n
  ·have li:(k:Int)<(n:Int):=by omega
   have k0:=(show ∀ o1,(w.alloc o1).cell? (ad.add k)=some (.int .u8 (C k))from λo1=>(uq HC) k hlt _ ((zk w).alloc _));have T2k:=zh ((uq T2) k hlt);obtain⟨b,hb2⟩:∃ b,DG k=b:=⟨_,rfl⟩;rw[hb2]at T2k;have HBk:=zh hb2;clear hb2;cases b with
   |true=>
    have HX:Hid (k+1+G (k+1)=E):=by have:=uq hE';rw[(uq HG) k hlt (uq HBk)]at this;unfold Hid;omega
    obtain⟨d1,d2,d3⟩:=(uq HD) k hlt (uq HBk);by_cases hj:k - i<18
    ·have hj':(k:Int) - (i:Int)<18:=by omega
     obtain⟨v1,v2,v3⟩:=(uq HW) (k - i) hj (by have:=uq HX;omega);rw[show i+(k - i)=k by omega]at v1;rw[show min (k - i) 18=k - i by omega];have HV1:=zh v1;clear v1;generalize D k=d at *;generalize C k=c at *;generalize V (k - i)=x at *;have H3:=zh d1;subst d1;go_wp2_with fail
     (refine((uq T2k) _).mono ?_;rintro e w2 ⟨rfl,rfl⟩);go_wp2_with fail
     exact⟨⟨k+1,by omega,hlt,by go_num,by rw[show min (k+1 - i) 18=k - i+1 by omega,uq HV1],HX⟩,by simp[intOf];omega⟩
    ·have hj':¬(k:Int) - (i:Int)<18:=by omega
     clear d1 d2 d3;rw[show min (k - i) 18=18 by omega];go_wp2_with fail
     (refine((uq T2k) _).mono ?_;rintro e w2 ⟨rfl,rfl⟩);go_wp2_with fail
     exact⟨⟨k+1,by omega,hlt,by go_num,by rw[show min (k+1 - i) 18=18 by omega],HX⟩,by simp[intOf];omega⟩
   |false=>
    have e:k=E:=by have:=uq hE';rw[(uq HG2) k (λ_=>uq HBk)]at this;omega
    subst e;go_wp2_with fail
    (refine((uq T2k) _).mono ?_;rintro e w2 ⟨rfl,rfl⟩);by_cases hm:18<k - i
    ·have hv:¬((k:Int) - (i:Int)<=18):=by omega
     go_wp2_with fail
     exact bodyPost_ret (v:= .tuple #[.agg #[.int .i64 0,.string ⟨#[]⟩,.int .i64 0,.int .i64 0],.int .i64 4]) (by simp[results,Tryz.results76,go_sem]) rfl ⟨⟨λh=>absurd h (by omega),λ_=>rfl⟩,by repeat(first|apply zaa|apply Keep.alloc|apply Keep.drew|exact zk _)⟩
    ·have hv:((k:Int) - (i:Int)<=18):=by omega
     have hmin:min (k - i) 18=k - i:=by omega
     rw[hmin];go_wp2_with fail
     exact bodyPost_ret (v:= .tuple #[.agg #[.int .i64 2,.string s,.int .i64 (V (k - i)),.int .i64 (i:Int)],.int .i64 0]) (by simp[results,Tryz.results76,go_sem]) rfl ⟨⟨λ_=>rfl,λh=>absurd h (by omega)⟩,by repeat(first|apply zaa|apply Keep.alloc|apply Keep.drew|exact zk _)⟩
  ·have e:k=E:=by have:=uq hE';rw[(uq HG2) k (λh=>absurd h hlt)]at this;omega
   subst e;by_cases hm:18<k - i
   ·have hv:¬((k:Int) - (i:Int)<=18):=by omega
    go_wp2_with fail
    exact bodyPost_ret (v:= .tuple #[.agg #[.int .i64 0,.string ⟨#[]⟩,.int .i64 0,.int .i64 0],.int .i64 4]) (by simp[results,Tryz.results76,go_sem]) rfl ⟨⟨λh=>absurd h (by omega),λ_=>rfl⟩,by repeat(first|apply zaa|apply Keep.alloc|apply Keep.drew|exact zk _)⟩
   ·have hv:((k:Int) - (i:Int)<=18):=by omega
    have hmin:min (k - i) 18=k - i:=by omega
    rw[hmin];go_wp2_with fail
    exact bodyPost_ret (v:= .tuple #[.agg #[.int .i64 2,.string s,.int .i64 (V (k - i)),.int .i64 (i:Int)],.int .i64 0]) (by simp[results,Tryz.results76,go_sem]) rfl ⟨⟨λ_=>rfl,λh=>absurd h (by omega)⟩,by repeat(first|apply zaa|apply Keep.alloc|apply Keep.drew|exact zk _)⟩
set_option maxHeartbeats 4000000 in
theorem zk1 (ad:Addr) (n cap i:Nat) (c:Int) (s:ByteArray) (w:World) (hn:n<=70000) (hi:i<n) (hnc:n<=cap) (hb:ad.block<w.heap.size)
  (HC:Hid (∀ W,Keep w W->W.cell? (ad.add i)=some (.int .u8 c)))
  (T1:Hid (∀ w,Calls Tryz.prog 99 #[.int .u8 c] w λe w'=>e= .returned (.bool false)/\w'=w))
  (T2:Hid (∀ w,Calls Tryz.prog 100 #[.int .u8 c] w λe w'=>e= .returned (.bool false)/\w'=w))
  (T3:Hid (∀ w,Calls Tryz.prog 101 #[.int .u8 c] w λe w'=>e= .returned (.bool true)/\w'=w))
  (HV:Hid (∀ W,Keep w W->(convert 29 9 (.slice (some (ad.add i)) (i+1 - i) (cap - i))).run Tryz.prog W= .ok (.string s) W)):
  Calls Tryz.prog 76 #[.slice (some ad) n cap,.int .i64 (i:Int)] w λe w'=>e= .returned (.tuple #[.agg #[.int .i64 3,.string s,.int .i64 0,.int .i64 (i:Int)],.int .i64 0])/\Keep w w':=by
 have hin:(i:Int)<(n:Int):=by omega
 have k0:=(show ∀ o1,(w.alloc o1).cell? (ad.add i)=some (.int .u8 c)from λo1=>(uq HC) _ ((zk w).alloc _));have kv:=(show ∀ o1,(convert 29 9 (.slice (some (ad.add i)) 1 (cap - i))).run Tryz.prog (w.alloc o1)= .ok (.string s) (w.alloc o1)from λo1=>by
  have:=(uq HV) _ ((zk w).alloc o1);rw[Nat.add_sub_cancel_left]at this;exact this)
 go_enter Tryz.func76,Tryz.ntmps76;go_wp2_with fail
 (refine((uq T1) _).mono ?_;rintro e w2 ⟨rfl,rfl⟩);go_wp2_with fail
 (refine((uq T2) _).mono ?_;rintro e w2 ⟨rfl,rfl⟩);go_wp2_with fail
 (refine((uq T3) _).mono ?_;rintro e w2 ⟨rfl,rfl⟩);go_wp2_with fail
 exact bodyPost_ret (v:= .tuple #[.agg #[.int .i64 3,.string s,.int .i64 0,.int .i64 (i:Int)],.int .i64 0]) (by simp[results,Tryz.results76,go_sem]) rfl ⟨rfl,by repeat(first|apply zaa|apply Keep.alloc|apply Keep.drew|exact zk _)⟩
set_option maxHeartbeats 4000000 in
theorem zk2 (ad:Addr) (n cap i:Nat) (c:Int) (s:ByteArray) (w:World) (hn:n<=70000) (hi:i<n) (hnc:n<=cap) (hb:ad.block<w.heap.size)
  (HC:Hid (∀ W,Keep w W->W.cell? (ad.add i)=some (.int .u8 c)))
  (T1:Hid (∀ w,Calls Tryz.prog 99 #[.int .u8 c] w λe w'=>e= .returned (.bool false)/\w'=w))
  (T2:Hid (∀ w,Calls Tryz.prog 100 #[.int .u8 c] w λe w'=>e= .returned (.bool false)/\w'=w))
  (T3:Hid (∀ w,Calls Tryz.prog 101 #[.int .u8 c] w λe w'=>e= .returned (.bool false)/\w'=w))
  (HV:Hid (∀ W,Keep w W->(convert 29 9 (.slice (some (ad.add i)) (i+1 - i) (cap - i))).run Tryz.prog W= .ok (.string s) W)):
  Calls Tryz.prog 76 #[.slice (some ad) n cap,.int .i64 (i:Int)] w λe w'=>e= .returned (.tuple #[.agg #[.int .i64 0,.string ⟨#[]⟩,.int .i64 0,.int .i64 0],.int .i64 40])/\Keep w w':=by
 have hin:(i:Int)<(n:Int):=by omega
 have k0:=(show ∀ o1,(w.alloc o1).cell? (ad.add i)=some (.int .u8 c)from λo1=>(uq HC) _ ((zk w).alloc _));have kv:=(show ∀ o1,(convert 29 9 (.slice (some (ad.add i)) 1 (cap - i))).run Tryz.prog (w.alloc o1)= .ok (.string s) (w.alloc o1)from λo1=>by
  have:=(uq HV) _ ((zk w).alloc o1);rw[Nat.add_sub_cancel_left]at this;exact this)
 go_enter Tryz.func76,Tryz.ntmps76;go_wp2_with fail
 (refine((uq T1) _).mono ?_;rintro e w2 ⟨rfl,rfl⟩);go_wp2_with fail
 (refine((uq T2) _).mono ?_;rintro e w2 ⟨rfl,rfl⟩);go_wp2_with fail
 (refine((uq T3) _).mono ?_;rintro e w2 ⟨rfl,rfl⟩);go_wp2_with fail
 exact bodyPost_ret (v:= .tuple #[.agg #[.int .i64 0,.string ⟨#[]⟩,.int .i64 0,.int .i64 0],.int .i64 40]) (by simp[results,Tryz.results76,go_sem]) rfl ⟨rfl,by repeat(first|apply zaa|apply Keep.alloc|apply Keep.drew|exact zk _)⟩
end Go.Proofs.YthceiikgecoimaaGreatDoor
namespace Go.Proofs.YthceiikgecoimaaGreatDoor
open Go.RowKit
set_option linter.unusedVariables false
set_option linter.unusedSimpArgs false
set_option maxRecDepth 10000
theorem zha {P Q:UInt8->Bool} (h:∀ x,P x=Q x) (l:List UInt8):tw P l=tw Q l:=by rw[show P=Q from funext h]
theorem zop (v:Value) (l:List UInt8) (i:Nat) (w:World) (hl:l.length<=70000) (hlt:i<l.length) (h:By w v l):
  Calls Tryz.prog 76 #[v,.int .i64 (i:Int)] w λe w'=>e= .returned (.tuple #[tv (rtk (one (l.drop i) i)),.int .i64 (re (one (l.drop i) i))])/\Keep w w':=by
 obtain⟨a,cap,e,hcap,hc⟩:=id h;subst e;obtain⟨ad,rfl,hb,ci⟩:=hc i hlt;have hd:=zcR l i hlt;have h2:=zep (l.drop i);have h1:1<=en (l.drop i):=by rw[hd];exact ziC _ _
 rw[List.length_drop]at h2;have HC:Hid (∀ k,k<l.length->∀ W,Keep w W->W.cell? (ad.add k)=some (.int .u8 ((l.getD k 0).toNat:Int))):=λk hk W hK=>by
  obtain⟨ad',e,_,ck⟩:=hc k hk;injection e with e
  subst e;rw[Below.cell hK (by rw[zag];exact hb)];exact ck
 have CV:∀ N,i<=N->N<=l.length->∀ W,Keep w W->(convert 29 9 (.slice (some (ad.add i)) (N - i) (cap - i))).run Tryz.prog W= .ok (.string (sv ((l.drop i).take (N - i)))) W:=λN h1 h2 W hk=>
  zeZ (h.cy.keep hk) h1 h2 (t:=29) (u:=9) Tryz.underlying29 Tryz.underlying9 (cap - i)
 have HV:Hid (∀ W,Keep w W->(convert 29 9 (.slice (some (ad.add i)) (i+en (l.drop i) - i) (cap - i))).run Tryz.prog W= .ok (.string (sv ((l.drop i).take (en (l.drop i))))) W):=λW hk=>by
  have:=CV (i+en (l.drop i)) (by omega) (by omega) W hk;rw[Nat.add_sub_cancel_left]at this |-;exact this
 have hlen:((l.drop i).take (en (l.drop i))).length=en (l.drop i):=by rw[List.length_take,List.length_drop];omega
 have e1:one (l.drop i) i=(if kd (l.getD i 0).toNat=4 then(if 24<en (l.drop i)then .error 4 else .ok ⟨1,(l.drop i).take (en (l.drop i)),0,i⟩)
  else if kd (l.getD i 0).toNat=5 then(if 18<en (l.drop i)then .error 4 else .ok ⟨2,(l.drop i).take (en (l.drop i)),num ((l.drop i).take (en (l.drop i))),i⟩)
  else if kd (l.getD i 0).toNat=7 then .ok ⟨3,(l.drop i).take (en (l.drop i)),0,i⟩
  else .error 40):=by
  conv=>lhs;rw[hd]
  simp only[one];rw[<- hd]
 have h7e:kd (l.getD i 0).toNat=7->en (l.drop i)=1:=by
  rw[hd];intro h7
  have:tw (zcs (l.getD i 0)) (l.drop (i+1))=0:=zdL λx=>by unfold zcs;rw[h7];unfold on;simp
  show 1+tw (zcs (l.getD i 0)) (l.drop (i+1))=1;rw[this]
 have hS:=zfN ((l.getD i 0).toNat:Int);have hD:=zeq ((l.getD i 0).toNat:Int);have hG:=zkI ((l.getD i 0).toNat:Int);rw[e1];by_cases k4:kd (l.getD i 0).toNat=4
 ·rw[if_pos k4];have hg:∀ x:UInt8,zcs (l.getD i 0) x=on 4 (kd x.toNat):=λx=>by unfold zcs;rw[k4]
  have hE:en (l.drop i)=tw (λx=>on 4 (kd x.toNat)) (l.drop i):=by
   rw[zkF _ _ hlt,zcQ _ _ _ hlt,if_pos (by show on 4 (kd (l.getD i 0).toNat)=true;rw[k4];decide),zha hg]
  have hP:∀ k,on 4 (kd (l.getD k 0).toNat)=true↔(decide (97<=((l.getD k 0).toNat:Int)/\((l.getD k 0).toNat:Int)<=122)=true\/decide (48<=((l.getD k 0).toNat:Int)/\((l.getD k 0).toNat:Int)<=57)=true\/((l.getD k 0).toNat:Int)=95):=λk=>by
   rw[zde,zrT,zl0,zsN,decide_eq_true_iff,decide_eq_true_iff];omega
  refine(zfl ad l.length cap i (i+en (l.drop i)) (λk=>((l.getD k 0).toNat:Int)) (λk=>decide (97<=((l.getD k 0).toNat:Int)/\((l.getD k 0).toNat:Int)<=122)) (λk=>decide (48<=((l.getD k 0).toNat:Int)/\((l.getD k 0).toNat:Int)<=57)) (λk=>tw (λx=>on 4 (kd x.toNat)) (l.drop k)) _ w hl hlt (by omega) (by omega) hcap hb HC (zh λk hk w=>zfN _ w) (zh λk hk w=>zeq _ w)
   (zh (by rw[decide_eq_true_iff];exact(zrT _).1 k4)) (zh λk hk hp=>?_) (zh λk hp=>?_) (zh (by rw[hE])) HV).mono ?_
  ·show tw (λx=>on 4 (kd x.toNat)) (l.drop k)=1+tw (λx=>on 4 (kd x.toNat)) (l.drop (k+1));rw[zcQ _ _ _ hk,if_pos ((hP k).2 hp)]
  ·by_cases hk:k<l.length
   ·show tw (λx=>on 4 (kd x.toNat)) (l.drop k)=0;rw[zcQ _ _ _ hk,if_neg (λh=>hp hk ((hP k).1 h))]
   ·exact ziu _ _ _ (by omega)
  ·rintro e w' ⟨⟨hA,hB⟩,hk⟩;refine⟨?_,hk⟩;by_cases hm:24<en (l.drop i)
   ·rw[if_pos hm];exact hB (by omega)
   ·rw[if_neg hm];exact hA (by omega)
 ·rw[if_neg k4];have n4:decide (97<=((l.getD i 0).toNat:Int)/\((l.getD i 0).toNat:Int)<=122)=false:=by rw[decide_eq_false_iff_not,<- zrT];exact k4
  rw[n4]at hS;by_cases k5:kd (l.getD i 0).toNat=5
  ·rw[if_pos k5];have hg:∀ x:UInt8,zcs (l.getD i 0) x=on 5 (kd x.toNat):=λx=>by unfold zcs;rw[k5]
   have hE:en (l.drop i)=tw (λx=>on 5 (kd x.toNat)) (l.drop i):=by
    rw[zkF _ _ hlt,zcQ _ _ _ hlt,if_pos (by show on 5 (kd (l.getD i 0).toNat)=true;rw[k5];decide),zha hg]
   have hP:∀ k,on 5 (kd (l.getD k 0).toNat)=true↔(decide (48<=((l.getD k 0).toNat:Int)/\((l.getD k 0).toNat:Int)<=57)=true):=λk=>by
    rw[zde,zl0,decide_eq_true_iff];omega
   have hdig:∀ x,x∈(l.drop i).take (en (l.drop i))->kd x.toNat=5:=by rw[hd];exact zdw k5
   have hget:∀ j,j<en (l.drop i)->((l.drop i).take (en (l.drop i))).getD j 0=l.getD (i+j) 0:=λj hj=>by
    rw[List.getD_eq_getElem?_getD,List.getElem?_take_of_lt hj,List.getElem?_drop,<- List.getD_eq_getElem?_getD]
   refine(zoo ad l.length cap i (i+en (l.drop i)) (λk=>((l.getD k 0).toNat:Int)) (λk=>((l.getD k 0).toNat:Int) - 48) (λk=>decide (48<=((l.getD k 0).toNat:Int)/\((l.getD k 0).toNat:Int)<=57)) (λk=>tw (λx=>on 5 (kd x.toNat)) (l.drop k)) (λj=>num (((l.drop i).take (en (l.drop i))).take j)) _ w hl hlt (by omega) (by omega) hcap hb HC (zh hS) (zh λk hk w=>zeq _ w)
    (zh (by rw[decide_eq_true_iff];exact(zl0 _).1 k5)) (zh λk hk hp=>?_) (zh λk hk hp=>?_) (zh λk hp=>?_) (zh (by rw[hE])) (zh (by simp[num])) (zh λj hj hje=>?_) HV).mono ?_
   ·rw[decide_eq_true_iff]at hp;show((l.getD k 0).toNat:Int)=((l.getD k 0).toNat:Int) - 48+48/\0<=((l.getD k 0).toNat:Int) - 48/\((l.getD k 0).toNat:Int) - 48<=9;omega
   ·show tw (λx=>on 5 (kd x.toNat)) (l.drop k)=1+tw (λx=>on 5 (kd x.toNat)) (l.drop (k+1));rw[zcQ _ _ _ hk,if_pos ((hP k).2 hp)]
   ·by_cases hk:k<l.length
    ·show tw (λx=>on 5 (kd x.toNat)) (l.drop k)=0;rw[zcQ _ _ _ hk,if_neg (λh=>by have h1:=(hP k).1 h;have h2:=hp hk;rw[h1]at h2;cases h2)]
    ·exact ziu _ _ _ (by omega)
   ·have hj2:j<en (l.drop i):=by omega
    have hb:=zd6 _ hdig j (by omega);have hp:(10:Int) ^ j<=10 ^ 17:=by exact_mod_cast Nat.pow_le_pow_right (n:=10) (by decide) (show j<=17 by omega)
    refine⟨?_,hb.1,by omega⟩;show num (((l.drop i).take (en (l.drop i))).take (j+1))=10 * num (((l.drop i).take (en (l.drop i))).take j)+(((l.getD (i+j) 0).toNat:Int) - 48);rw[zfk _ j (by omega),zc9,hget j hj2];omega
   ·rintro e w' ⟨⟨hA,hB⟩,hk⟩;refine⟨?_,hk⟩;by_cases hm:18<en (l.drop i)
    ·rw[if_pos hm];exact hB (by omega)
    ·rw[if_neg hm];have:=hA (by omega);have ht:((l.drop i).take (en (l.drop i))).take (i+en (l.drop i) - i)=(l.drop i).take (en (l.drop i)):=by rw[Nat.add_sub_cancel_left,List.take_take,Nat.min_self]
     simp only[ht]at this;exact this
  ·rw[if_neg k5];have n5:decide (48<=((l.getD i 0).toNat:Int)/\((l.getD i 0).toNat:Int)<=57)=false:=by rw[decide_eq_false_iff_not,<- zl0];exact k5
   rw[n5]at hD;by_cases k7:kd (l.getD i 0).toNat=7
   ·rw[if_pos k7];have y7:=(zsK _).1 k7;rw[decide_eq_true y7]at hG;have h71:=h7e k7;rw[h71]at HV |-;exact zk1 ad l.length cap i _ _ w hl hlt hcap hb (zh λW hk=>(uq HC) i hlt W hk) (zh hS) (zh hD) (zh hG) HV
   ·rw[if_neg k7];have n7:¬_:=λh=>k7 ((zsK _).2 h)
    rw[decide_eq_false n7]at hG;exact zk2 ad l.length cap i _ _ w hl hlt hcap hb (zh λW hk=>(uq HC) i hlt W hk) (zh hS) (zh hD) (zh hG) (zh λW hk=>CV (i+1) (by omega) (by omega) W hk)
end Go.Proofs.YthceiikgecoimaaGreatDoor
namespace Go.Proofs.YthceiikgecoimaaGreatDoor
open Go.RowKit
attribute [local go_sem ↓] Go.wp_at_zero Go.wp_at_succ
set_option linter.unusedVariables false
set_option linter.unusedSimpArgs false
set_option maxRecDepth 10000
theorem zaD {t:TypeId} {z:Value} {a b:Nat} (h:(Tryz.prog.info? t).map (λi=>(i.zero,i.size,i.bytes))=some (some z,a,b)):∃ i,Tryz.prog.info? t=some i/\i.zero=some z/\i.size=a/\i.bytes=b:=by
 cases hi:Tryz.prog.info? t with
 |none=>rw[hi]at h;cases h
 |some i=>rw[hi]at h;simp at h;exact⟨i,rfl,h.1,h.2.1,h.2.2⟩
theorem zqY:(Tryz.prog.info? 118).map (λi=>(i.zero,i.size,i.bytes))=some (some (.agg #[.int .i64 0,.string ⟨#[]⟩,.int .i64 0,.int .i64 0]),4,40):=by kernel_rfl
set_option maxHeartbeats 2000000 in
theorem zfT (a:Option Addr) (n cap:Nat) (w:World) (hn:65536<n):
  Calls Tryz.prog 55 #[.slice a n cap] w λe w'=>e= .returned (.tuple #[.slice none 0 0,.int .i64 4,.int .i64 65536])/\w'=w:=by
 have h:(65536:Int)<(n:Int):=by omega
 go_enter Tryz.func55,Tryz.ntmps55;go_wp2_with fail
 go_ret3
 exact⟨rfl,rfl⟩
set_option maxHeartbeats 2000000 in
theorem zhF (a:Option Addr) (n cap:Nat) (w:World) (hn:65536<n):
  Calls Tryz.prog 45 #[.slice a n cap] w λe w'=>e= .returned (.tuple #[.slice none 0 0,.int .i64 4,.int .i64 65536])/\w'=w:=by
 have h:(65536:Int)<(n:Int):=by omega
 go_enter Tryz.func45,Tryz.ntmps45;go_wp2_with fail
 go_ret3
 exact⟨rfl,rfl⟩
theorem Keep.grown {w w':World} (h:Keep w w'):w.grownBy w' none:=⟨h.1,h.2,h.3,h.4,λi hi _=>h.5 i hi⟩
theorem zeh {w w':World} {base:Nat} {e:TypeId} {z n:Nat} {v:Value} {xs:List Value} (h:w.ownsRow base e z v n xs) (hk:Keep w w'):w'.ownsRow base e z v n xs:=
 h.kept hk.grown (by cases v.ownBlock<;>simp)
theorem zaP {W:World} {base:Nat} {e:TypeId} {size:Nat} {v:Value} {k:Nat} {xs:List Value} (h:W.ownsRow base e size v (k+1) xs):∃ g cap,v= .slice (some ⟨g,0,none⟩) (k+1) cap:=by
 rcases h.2 with ⟨_,h0⟩|⟨g,cap,_,rfl,_⟩
 ·omega
 ·exact⟨g,cap,rfl⟩
theorem zhb (w:World) (a b c d:Value) (t:TypeId):∀ j u,[a,b,c,d][j]? =some u->(w.alloc (.cells #[a,b,c,d] t)).cell? ((⟨w.heap.size,0,none⟩:Addr).add j)=some u:=by
 intro j u hj
 rw[zbt,Nat.zero_add]
 match j,hj with
 |0,hj=>simp at hj;subst hj;simp[go_sem]
 |1,hj=>simp at hj;subst hj;simp[go_sem]
 |2,hj=>simp at hj;subst hj;simp[go_sem]
 |3,hj=>simp at hj;subst hj;simp[go_sem]
 |j+4,hj=>simp at hj
theorem zex (w:World) (o:Obj) (a b c d:Value) (t:TypeId):∀ j u,[a,b,c,d][j]? =some u->((w.alloc o).alloc (.cells #[a,b,c,d] t)).cell? ((⟨w.heap.size+1,0,none⟩:Addr).add j)=some u:=by
 have h:=zhb (w.alloc o) a b c d t;rw[World.size_alloc]at h;exact h
theorem zda {w w':World} {o o2:Obj} {cur:Array Value} {t:TypeId} {row:Option Nat} (ho:o= .cells cur t) (hg:((w.alloc o).alloc o2).grownBy w' row) (hr:∀ j,row=some j->j<w.heap.size) (i:Nat) (x:Value) (hi:cur[i]? =some x):
  w'.cell? ⟨w.heap.size,i,none⟩=some x:=by
 subst ho;refine hg.cell ?_ ?_
 ·have h1:((w.alloc (.cells cur t)).alloc o2).cell? ⟨w.heap.size,i,none⟩=(w.alloc (.cells cur t)).cell? ⟨w.heap.size,i,none⟩:=
   Below.cell (p:=⟨w.heap.size,i,none⟩) ((Below.refl (w.alloc (.cells cur t)).heap.size _).alloc (Nat.le_refl _) o2) (by show w.heap.size<_;rw[World.size_alloc];omega)
  rw[h1,World.cell?_alloc_mark];exact hi
 ·intro e
  have:=hr w.heap.size e.symm;omega
def Lo (n:Nat) (v:Value):Prop:=∀ ad m cap,v= .slice (some ad) m cap->n<=ad.block
theorem zfU (n:Nat):Lo n (.slice none 0 0):=λ_ _ _ e=>by cases e
theorem zl9 {w:World} {base:Nat} {e:TypeId} {z n:Nat} {v:Value} {xs:List Value} (h:w.ownsRow base e z v n xs):Lo base v:=λad m cap ev=>by
 subst ev;exact(h.lt _ rfl).1
def Tp (X:Except (Int×Nat) (List Tok)) (w:World) (e:Ending) (w':World):Prop:=∃ v,e= .returned (.tuple #[v,.int .i64 (te X),.int .i64 (tn X:Nat)])/\Ts w' v (tl X)/\Lo w.heap.size v/\Keep w w'
set_option maxHeartbeats 4000000 in
theorem ziV (a:Option Addr) (n cap:Nat) (X:Except (Int×Nat) (List Tok)) (A:Nat->Nat) (R:Nat->Except Int Tok) (F:Nat->Except (Int×Nat) (List Tok)) (w:World) (hn:n<=65536)
  (T1:Hid (∀ k,k<=n->∀ w',Keep w w'->Calls Tryz.prog 82 #[.slice a n cap,.int .i64 (k:Int)] w' λe w''=>e= .returned (.int .i64 (A k:Nat))/\Keep w' w''))
  (T2:Hid (∀ k,k<=n->∀ w',Keep w w'->Calls Tryz.prog 83 #[.slice a n cap,.int .i64 (A k:Nat)] w' λe w''=>e= .returned (.tuple #[tv (rtk (R k)),.int .i64 (re (R k))])/\Keep w' w''))
  (HA:Hid (∀ k,k<=n->k<=A k/\A k<=n))
  (HR:Hid (∀ k t,k<=n->R k= .ok t->(t.k=0\/(1<=t.s.length/\A k+t.s.length<=n))))
  (HE:Hid (∀ k e,k<=n->R k= .error e->e≠0/\F k= .error (e,A k)))
  (HF:Hid (∀ k t,k<=n->R k= .ok t->F k=if t.k=0 then .ok [t]else pre [t] (F (A k+t.s.length))))
  (H0:Hid (F 0=X)):
  Calls Tryz.prog 55 #[.slice a n cap] w (Tp X w):=by
 obtain⟨i0,hi,hz0,hz1,hz2⟩:=zaD zqY;have hn':¬(65536:Int)<(n:Int):=by omega
 go_enter Tryz.func55,Tryz.ntmps55;go_wp2_with fail
 go_loopw [5,6] (λvl vi wr=>∃(k:Nat) (acc:List Tok),k<=n/\acc.length<=k/\vi= .int .i64 (k:Int)/\wr.ownsRow w.heap.size 118 4 vl acc.length (tc acc)/\Hid (pre acc (F k)=X)/\Hid (Keep w wr)) (λvl vi _=>n - (intOf vi).toNat)
 case atStart=>exact⟨0,[],Nat.zero_le _,Nat.le_refl _,rfl,World.ownsRow_nil _ _ _ _,by unfold Hid;rw[ziB];exact uq H0,zh (zk w)⟩
 case round=>
  obtain⟨k,acc,hk,hak,rfl,hrow,HX,HK⟩:=hrel;have HROW:=zh hrow;clear hrow;go_wp2_with fail
  (refine((uq T1) k hk _ (uq HK)).mono ?_;rintro e w2 ⟨rfl,hk2⟩);have HK2:=zh ((uq HK).trans hk2);have HROW2:=zh (zeh (uq HROW) hk2);obtain⟨ha1,ha2⟩:=(uq HA) k hk;clear hk2 HK HROW;go_wp2_with fail
  (refine((uq T2) k hk _ (uq HK2)).mono ?_;rintro e w3 ⟨rfl,hk3⟩);have HK3:=zh ((uq HK2).trans hk3);have HROW3:=zh (zeh (uq HROW2) hk3);clear hk3 HK2 HROW2;have hsz:=Below.size (uq HK3);cases hr:R k with
  |error e=>
   obtain⟨he,hf⟩:=(uq HE) k e hk hr;have HR1:Hid (X= .error (e,A k)):=by have:=uq HX;rw[hf]at this;exact this.symm
   have hb0:(e !=0)=true:=by simp[he]
   simp only[rtk,re,tv,t0];clear hf hr he;go_wp2_with fail
   go_ret3
   rw[uq HR1];exact⟨_,rfl,zeX _,zfU _,(uq HK3).alloc _⟩
  |ok t=>
   have hf:=(uq HF) k t hk hr;have hb:=(uq HR) k t hk hr;obtain⟨kk,ss,nn,pp⟩:=t;simp only[rtk,re,tv]at hf hb |-;have HX2:Hid (pre acc (if kk=0 then .ok [⟨kk,ss,nn,pp⟩]else pre [⟨kk,ss,nn,pp⟩] (F (A k+ss.length)))=X):=by rw[<- hf];exact uq HX
   have hS:=zbA ss;have HTC:Hid (tc (acc++ [⟨kk,ss,nn,pp⟩])=tc acc++ [.int .i64 kk,.string (sv ss),.int .i64 nn,.int .i64 pp]):=zds _ _;generalize sv ss=S at *;clear hf hr HX;have hl9:acc.length<=70000:=by omega
   by_cases h0:kk=0
   ·have hb0:(kk==0)=true:=by simp[h0]
    have HR1:Hid (X= .ok (acc++ [⟨kk,ss,nn,pp⟩])):=by have:=uq HX2;rw[if_pos h0]at this;exact this.symm
    clear h0 HX2 hb hS;go_wp2_with (at_builtin;refine wpList_append_own _ rfl _ _ 106 rfl w.heap.size 118 i0 _ 4 40 Tryz.underlying106 hi hz0 hz1 hz2 rfl (by decide) _ _ _ rfl (((uq HROW3).alloc _).alloc _) ⟨w3.heap.size+1,0,none⟩ 1 1 [.int .i64 kk,.string S,.int .i64 nn,.int .i64 pp] rfl rfl (zex w3 _ _ _ _ _ _) (by simp[Value.oneCell']) (by unfold maxLen;omega) (by omega) (by simp;omega) ?_;intro v' w4 hown' hgrow hnil;obtain⟨g',cp',rfl⟩:=zaP hown';have HOWN:=zh hown';have HGROW:=zh hgrow;have c0:=zda rfl hgrow (λj ej=>((uq HROW3).lt j ej).2) 0 (.int .i64 kk) rfl;clear hown' hgrow hnil)
    go_ret3
    rw[uq HR1];refine⟨_,rfl,zl1 (base:=w.heap.size) (e:=118) ?_,zl9 (uq HOWN),Below.grown (((uq HK3).alloc _).alloc _) (uq HGROW) (by simp;omega) (λj ej=>((uq HROW3).lt j ej).1)⟩;show w4.ownsRow _ _ _ _ (acc++ [_]).length (tc (acc++ [_]));rw[uq HTC,List.length_append];exact uq HOWN
   ·have hb0:(kk==0)=false:=by simp[h0]
    have HR1:Hid (pre (acc++ [⟨kk,ss,nn,pp⟩]) (F (A k+ss.length))=X):=by have:=uq HX2;rw[if_neg h0,zgn]at this;exact this
    have hb':=hb.resolve_left h0;clear h0 HX2 hb;have hsz2:S.size<=70000:=by omega
    go_wp2_with (at_builtin;refine wpList_append_own _ rfl _ _ 106 rfl w.heap.size 118 i0 _ 4 40 Tryz.underlying106 hi hz0 hz1 hz2 rfl (by decide) _ _ _ rfl (((uq HROW3).alloc _).alloc _) ⟨w3.heap.size+1,0,none⟩ 1 1 [.int .i64 kk,.string S,.int .i64 nn,.int .i64 pp] rfl rfl (zex w3 _ _ _ _ _ _) (by simp[Value.oneCell']) (by unfold maxLen;omega) (by omega) (by simp;omega) ?_;intro v' w4 hown' hgrow hnil;obtain⟨g',cp',rfl⟩:=zaP hown';have HOWN:=zh hown';have HGROW:=zh hgrow;have c0:=zda rfl hgrow (λj ej=>((uq HROW3).lt j ej).2) 0 (.int .i64 kk) rfl;have c1:=zda rfl hgrow (λj ej=>((uq HROW3).lt j ej).2) 1 (.string S) rfl;clear hown' hgrow hnil)
    go_roundw
    case rel=>
     refine⟨A k+ss.length,acc++ [⟨kk,ss,nn,pp⟩],hb'.2,by rw[List.length_append];simp;omega,by simp,?_,HR1,zh (Below.grown (((uq HK3).alloc _).alloc _) (uq HGROW) (by simp;omega) (λj ej=>((uq HROW3).lt j ej).1))⟩;rw[uq HTC,List.length_append];exact uq HOWN
    case measure=>simp[intOf];omega
theorem zfm (v:Value) (l:List UInt8) (w:World) (hl:l.length<=70000) (h:By w v l):Calls Tryz.prog 55 #[v] w (Tp (T l) w):=by
 obtain⟨a,cap,rfl⟩:=h.shape;unfold T
 by_cases hlong:65536<l.length
 ·rw[if_pos hlong];refine(zfT a l.length cap w hlong).mono ?_;rintro e w' ⟨rfl,rfl⟩;exact⟨_,rfl,zeX _,zfU _,zk _⟩
 ·rw[if_neg hlong];refine ziV a l.length cap (tk l 0) (sk false l) (λk=>one (l.drop (sk false l k)) (sk false l k)) (λk=>tk (l.drop k) k) w (by omega) (zh λk hk w' hK=>zkK _ l k w' hl hk (h.keep hK)) (zh λk hk w' hK=>zk0 _ l _ w' hl (zkH _ _ _ hk) (h.keep hK))
   (zh λk hk=>⟨zpF _ _ _,zkH _ _ _ hk⟩) (zh λk t hk ht=>?_) (zh λk e hk he=>?_) (zh λk t hk ht=>?_) (zh (by rw[List.drop_zero]))
  ·rcases(zcS ht).2 with ⟨_,h2⟩|⟨_,_,_,h1,h2,_⟩
   ·left;rw[h2]
   ·right;have:=zep (l.drop (sk false l k));have:=zkH false l k hk;simp only[List.length_drop]at *;omega
  ·refine⟨?_,?_⟩
   ·intro e0
    subst e0;cases hr:l.drop (sk false l k)with
    |nil=>rw[hr]at he;simp[one]at he
    |cons c r=>rw[hr]at he;simp only[one]at he;(repeat' split at he)<;>simp at he
   ·rw[zeQ];have e1:(l.drop k).drop (skp false (l.drop k))=l.drop (sk false l k):=by rw[List.drop_drop];rfl
    rw[e1];show(match one (l.drop (sk false l k)) (sk false l k)with| .error e=>Except.error (e,sk false l k)| .ok t=>_)=_;rw[he]
  ·show tk (l.drop k) k=_;rw[zeQ];have e1:(l.drop k).drop (skp false (l.drop k))=l.drop (sk false l k):=by rw[List.drop_drop];rfl
   rw[e1];show(match one (l.drop (sk false l k)) (sk false l k)with| .error e=>Except.error (e,sk false l k)| .ok t=>if t.k=0 then .ok [t]else pre [t] (tk ((l.drop (sk false l k)).drop t.s.length) (sk false l k+t.s.length)))=_;rw[ht];simp only[List.drop_drop]
end Go.Proofs.YthceiikgecoimaaGreatDoor
namespace Go.Proofs.YthceiikgecoimaaGreatDoor
open Go.RowKit
set_option linter.unusedVariables false
set_option linter.unusedSimpArgs false
mutual
def Rd (w:World):D->(Nat->Prop)->Value->Prop
 | .val v,P,u=>u=v/\v.oneCell'=true
 | .row e z L,P,u=>∃ xs:List Value,w.ownsRow 0 e z u L.length xs/\(∀ g,u.ownBlock=some g->P g)/\Rdss w L (λb=>P b/\u.ownBlock≠some b) z xs
def Rds (w:World):List D->(Nat->Prop)->List Value->Prop
 | [],P,xs=>xs= []
 |d :: ds,P,xs=>∃ u us,xs=u :: us/\Rd w d P u/\Rds w ds P us
def Rdss (w:World):List (List D)->(Nat->Prop)->Nat->List Value->Prop
 | [],P,z,xs=>xs= []
 |ds :: L,P,z,xs=>∃ ys zs,xs=ys++zs/\ys.length=z/\Rds w ds P ys/\Rdss w L P z zs
end
theorem zhc {w w':World} {base e z n:Nat} {v:Value} {xs:List Value} (h:w.ownsRow base e z v n xs) (hk:∀ g,v.ownBlock=some g->w'.heap[g]? =w.heap[g]?):w'.ownsRow base e z v n xs:=by
 refine⟨h.1,?_⟩;rcases h.2 with hn|⟨g,cap,cur,rfl,hb,hgg,rest⟩
 ·exact .inl hn
 ·exact .inr ⟨g,cap,cur,rfl,hb,by rw[hk g rfl];exact hgg,rest⟩
mutual
theorem Rd.move {w w':World} :∀(d:D) (P P':Nat->Prop) (u:Value),Rd w d P u->(∀ b,P b->b<w.heap.size->w'.heap[b]? =w.heap[b]? /\P' b)->Rd w' d P' u
 | .val v,P,P',u,h,hk=>h
 | .row e z L,P,P',u,h,hk=>by
  simp only[Rd]at h |-;obtain⟨xs,h1,h2,h3⟩:=h;have hlt:∀ g,u.ownBlock=some g->g<w.heap.size:=λg hg=>(h1.lt g hg).2
  exact⟨xs,zhc h1 (λg hg=>(hk g (h2 g hg) (hlt g hg)).1),λg hg=>(hk g (h2 g hg) (hlt g hg)).2,Rdss.move L _ _ z xs h3 (λb hb hl=>⟨(hk b hb.1 hl).1,(hk b hb.1 hl).2,hb.2⟩)⟩
theorem Rds.move {w w':World} :∀(ds:List D) (P P':Nat->Prop) (us:List Value),Rds w ds P us->(∀ b,P b->b<w.heap.size->w'.heap[b]? =w.heap[b]? /\P' b)->Rds w' ds P' us
 | [],P,P',us,h,hk=>h
 |d :: ds,P,P',us,h,hk=>by
  simp only[Rds]at h |-;obtain⟨v,vs,h0,h1,h2⟩:=h;exact⟨v,vs,h0,Rd.move d P P' v h1 hk,Rds.move ds P P' vs h2 hk⟩
theorem Rdss.move {w w':World} :∀(L:List (List D)) (P P':Nat->Prop) (z:Nat) (us:List Value),Rdss w L P z us->(∀ b,P b->b<w.heap.size->w'.heap[b]? =w.heap[b]? /\P' b)->Rdss w' L P' z us
 | [],P,P',z,us,h,hk=>h
 |ds :: L,P,P',z,us,h,hk=>by
  simp only[Rdss]at h |-;obtain⟨ys,zs,h0,h1,h2,h3⟩:=h;exact⟨ys,zs,h0,h1,Rds.move ds P P' ys h2 hk,Rdss.move L P P' z zs h3 hk⟩
end
theorem za9 {w:World} :∀(ds:List D) (P:Nat->Prop) (us:List Value),Rds w ds P us->us.length=ds.length
 | [],P,us,h=>by simp only[Rds]at h;subst h;rfl
 |d :: ds,P,us,h=>by
  simp only[Rds]at h;obtain⟨v,vs,rfl,_,h2⟩:=h;simp[za9 ds P vs h2]
theorem zey {w:World} :∀(L:List (List D)) (ds:List D) (P:Nat->Prop) (z:Nat) (us ys:List Value),Rdss w L P z us->Rds w ds P ys->ys.length=z->Rdss w (L++ [ds]) P z (us++ys)
 | [],ds,P,z,us,ys,h,k,hz=>by
  simp only[Rdss]at h;subst h;simp only[List.nil_append,Rdss];exact⟨ys,[],by simp,hz,k,rfl⟩
 |es :: L,ds,P,z,us,ys,h,k,hz=>by
  simp only[Rdss,List.cons_append]at h |-;obtain⟨y1,y2,rfl,h1,h2,h3⟩:=h;exact⟨y1,y2++ys,by simp,h1,h2,zey L ds P z y2 ys h3 k hz⟩
theorem zqZ {w:World} (d:D) (P:Nat->Prop) (u:Value) (h:Rd w d P u):u.oneCell'=true:=by
 cases d with
 |val v=>simp only[Rd]at h;rw[h.1];exact h.2
 |row e z L=>
  simp only[Rd]at h;obtain⟨xs,h1,_⟩:=h;rcases h1.2 with ⟨rfl,_⟩|⟨g,cap,cur,rfl,_⟩<;>rfl
theorem ziW {w:World} :∀(ds:List D) (P:Nat->Prop) (us:List Value),Rds w ds P us->∀ u∈us,u.oneCell'=true
 | [],P,us,h=>by simp only[Rds]at h;subst h;simp
 |d :: ds,P,us,h=>by
  simp only[Rds]at h;obtain⟨v,vs,rfl,h1,h2⟩:=h;intro u hu
  rcases List.mem_cons.1 hu with rfl|hu
  ·exact zqZ d P _ h1
  ·exact ziW ds P vs h2 u hu
theorem zhd (w:World) (e z:Nat) (P:Nat->Prop):Rd w (.row e z []) P (.slice none 0 0):=by
 simp only[Rd];exact⟨[],World.ownsRow_nil _ _ _ _,λg hg=>by simp[Value.ownBlock]at hg,by simp[Rdss]⟩
def shp (w:World) (b:Nat):Option (Nat×TypeId×(Nat×Nat)):=match w.heap[b]? with
 |some (.cells arr t f)=>some (arr.size,t,f)
 | _=>none
theorem zhe {w w':World} {b:Nat} (h:w'.heap[b]? =w.heap[b]?):shp w' b=shp w b:=by unfold shp;rw[h]
theorem ziX (w:World) (a:Addr) (v:Value) (b:Nat):shp (w.setCell a v) b=shp w b:=by
 unfold shp
 by_cases h:b=a.block
 ·subst h;simp only[World.setCell,Array.getElem?_modify,if_true];cases hh:w.heap[a.block]? with
  |none=>simp
  |some o=>
   cases o with
   |cells c e f=>simp only[Option.map_some];by_cases hs:a.spot.isSome=true<;>simp[hs]
   | _=>simp
 ·rw[Below.heap_setCell _ _ _ _ h]
def zma (w:World) (b:Nat):Prop:=∀ i v,w.cell? ⟨b,i,none⟩=some v->v.oneCell'=true
theorem zfn {w w':World} {b:Nat} (h:w'.heap[b]? =w.heap[b]?) (h1:zma w b):zma w' b:=λi v hv=>h1 i v (by rw[<- hv];exact(World.cell?_of_block (a:=⟨b,i,none⟩) h).symm)
theorem zhf {w:World} {a:Addr} {v:Value} (hv:v.oneCell'=true) {b:Nat} (h:zma w b):zma (w.setCell a v) b:=by
 intro i u hu
 by_cases e:a=⟨b,i,none⟩
 ·subst e;cases hc:w.cell? ⟨b,i,none⟩with
  |none=>
   exfalso;rw[World.cell?]at hc;simp only[World.setCell,World.cell?,Array.getElem?_modify,if_true]at hu;cases hh:w.heap[b]? with
   |none=>simp[hh]at hu
   |some o=>cases o<;>simp[hh]at hc hu<;>simp_all
  |some x=>
   have:(w.setCell ⟨b,i,none⟩ v).cell? ⟨b,i,none⟩=some v:=by apply World.cell?_setCell_same;exact hc
   rw[this]at hu;injection hu with hu;subst hu;exact hv
 ·have:(w.setCell a v).cell? ⟨b,i,none⟩=w.cell? ⟨b,i,none⟩:=by apply World.cell?_setCell_other;exact e
  rw[this]at hu;exact h i u hu
structure Fr (S:Nat->Prop) (w w':World):Prop where
 os:w'.os=w.os
 tape:w'.tape=w.tape
 output:w'.output=w.output
 size:w.heap.size<=w'.heap.size
 block:∀ b,b<w.heap.size->¬S b->w'.heap[b]? =w.heap[b]?
 shape:∀ b,b<w.heap.size->shp w' b=shp w b
 ones:∀ b,b<w.heap.size->zma w b->zma w' b
theorem Fr.refl (S:Nat->Prop) (w:World):Fr S w w:=⟨rfl,rfl,rfl,Nat.le_refl _,λ_ _ _=>rfl,λ_ _=>rfl,λ_ _ h=>h⟩
theorem Fr.trans {S:Nat->Prop} {a b c:World} (h:Fr S a b) (k:Fr S b c):Fr S a c:=
 ⟨k.os.trans h.os,k.tape.trans h.tape,k.output.trans h.output,Nat.le_trans h.size k.size,λi hi hs=>(k.block i (Nat.lt_of_lt_of_le hi h.size) hs).trans (h.block i hi hs),λi hi=>(k.shape i (Nat.lt_of_lt_of_le hi h.size)).trans (h.shape i hi),λi hi h1=>k.ones i (Nat.lt_of_lt_of_le hi h.size) (h.ones i hi h1)⟩
theorem Fr.inner {S S':Nat->Prop} {a b c:World} (h:Fr S a b) (k:Fr S' b c) (hs:∀ i,i<a.heap.size->S' i->S i):Fr S a c:=
 ⟨k.os.trans h.os,k.tape.trans h.tape,k.output.trans h.output,Nat.le_trans h.size k.size,λi hi hn=>(k.block i (Nat.lt_of_lt_of_le hi h.size) (λx=>hn (hs i hi x))).trans (h.block i hi hn),λi hi=>(k.shape i (Nat.lt_of_lt_of_le hi h.size)).trans (h.shape i hi),λi hi h1=>k.ones i (Nat.lt_of_lt_of_le hi h.size) (h.ones i hi h1)⟩
theorem Fr.keep {S:Nat->Prop} {a b:World} (k:Keep a b):Fr S a b:=⟨k.os,k.tape,k.output,k.size,λi hi _=>k.block i hi,λi hi=>zhe (k.block i hi),λi hi h1=>zfn (k.block i hi) h1⟩
theorem Fr.set {S:Nat->Prop} {a b:World} (k:Fr S a b) (ad:Addr) (v:Value) (h:S ad.block) (hv:v.oneCell'=true:=by rfl):Fr S a (b.setCell ad v):=by
 refine⟨k.os,k.tape,k.output,?_,λi hi hn=>?_,λi hi=>(ziX _ _ _ _).trans (k.shape i hi),λi hi h1=>zhf hv (k.ones i hi h1)⟩
 ·have:=k.size;simpa [World.setCell]using this
 ·rw[<- k.block i hi hn];exact Below.heap_setCell _ _ _ _ (λe=>hn (e▸h))
theorem Fr.cell {S:Nat->Prop} {a b:World} (k:Fr S a b) {p:Addr} {v:Value} (h:a.cell? p=some v) (hn:¬S p.block):b.cell? p=some v:=
 (World.cell?_of_block (k.block p.block (World.block_lt_of_cell? a p h) hn)).trans h
theorem Fr.frozen {S:Nat->Prop} {a b:World} (k:Fr S a b) {p:Addr} (h:p.block<a.heap.size) (hn:¬S p.block):b.frozen? p=a.frozen? p:=
 World.frozen?_of_block (k.block p.block h hn)
theorem Rd.fr {S P:Nat->Prop} {a b:World} (k:Fr S a b) (hp:∀ i,P i->¬S i) {d:D} {u:Value} (h:Rd a d P u):Rd b d P u:=
 Rd.move d _ _ u h (λi hi hl=>⟨k.block i hl (hp i hi),hi⟩)
theorem Rd.set {w:World} {d:D} {P:Nat->Prop} {u:Value} (h:Rd w d P u) (a:Addr) (v:Value) (ha:¬P a.block):Rd (w.setCell a v) d P u:=
 Rd.move d _ _ u h (λi hi _=>⟨Below.heap_setCell _ _ _ _ (λe=>ha (e▸hi)),hi⟩)
end Go.Proofs.YthceiikgecoimaaGreatDoor
