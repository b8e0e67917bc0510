/- Package show: Show, by the network's tree. -/
import Derived.Test.YtfepanidippjlaaGreatDoorSFew
import Derived.Test.YtfepanidippjlaaGreatDoorLEnd
import Derived.Test.YtfepanidippjlaaGreatDoorSOks
import Derived.Test.YtfepanidippjlaaGreatDoorSRgt
import Derived.Test.YtfepanidippjlaaGreatDoorLNtA
import Derived.Lib.UnsafeStr
import Derived.Deep.DrawnRows
import Derived.Deep.RegionHeld
namespace Go.Proofs.YtfepanidippjlaaGreatDoor
open Go.RowKit
attribute [local go_sem ↓] Go.wp_at_zero Go.wp_at_succ
set_option linter.unusedVariables false
set_option linter.unusedSimpArgs false
set_option maxRecDepth 10000
namespace S
theorem Fb.below {p:Nat} {w w':World} (h:Fb p w w') (hp:p≤w.heap.size):Below p w w':=⟨h.os,h.tape,h.output,h.size,fun i hi=>h.block i (by omega) (by omega) (.inl hi)⟩
theorem zph:Tryz.prog.cellsOf 5=1:=by kernel_rfl
set_option maxHeartbeats 4000000 in
theorem zfB (p g n cap:Nat) (S:ByteArray) (w w1:World) (c1:w.drew.cell? ⟨p,1,none⟩=some (.slice (some ⟨g,0,none⟩) n cap)) (c2:Hid (w1.cell? ⟨p,1,none⟩=some (.slice (some ⟨g,0,none⟩) n cap)))
  (hSD:(Builtin.unsafeSliceData_ #[29] 99 #[.slice (some ⟨g,0,none⟩) n cap]).run Tryz.prog w.drew= .ok (.pointer (some ⟨g,0,none⟩)) w.drew)
  (hUS:(Builtin.unsafeString_ #[99,3] 9 #[.pointer (some ⟨g,0,none⟩),.int .i64 n]).run Tryz.prog w.drew= .ok (.string S) w1):
  Calls Tryz.prog 18 #[.pointer (some ⟨p,0,none⟩)] w fun e w'=>e= .returned (.string S)∧w'=w1:=by
 go_enter Tryz.func18,Tryz.ntmps18
 go_upto_region 1 with fail
 refine wp_region_held_drew (S:=fun w'=>w'.cell? ⟨p,1,none⟩=some (.slice (some ⟨g,0,none⟩) n cap)) (by kernel_rfl) (by exact c1) (fun hHeld=>?_);refine tkk 0 3 hHeld ?_;try simp only[Act.put,Ya,Yb,Yc]
 refine tkk 1 4 hHeld ?_;try simp only[Act.put,Ya,Yb,Yc]
 refine tkk 2 5 hHeld ?_;try simp only[Act.put,Ya,Yb,Yc]
 refine tkk 3 6 hHeld ?_;try simp only[Act.put,Ya,Yb,Yc]
 refine tkk 5 8 hHeld ?_;try simp only[Act.put,Ya,Yb,Yc]
 refine tkk 6 9 hHeld ?_;try simp only[Act.put,Ya,Yb,Yc]
 refine tkk 7 10 hHeld ?_;try simp only[Act.put,Ya,Yb,Yc]
 refine tkk 8 11 hHeld ?_;try simp only[Act.put,Ya,Yb,Yc]
 refine tkk 9 12 hHeld ?_;try simp only[Act.put,Ya,Yb,Yc]
 refine zaC 4 (fun K hK=>?_);go_simp;clear hHeld;refine hK.out _ _ ?_ (fun hHeld=>?_)
 ·exact c1
 clear hK K;try simp only[Act.put,Ya,Yb,Yc]
 refine zaC 10 (fun K hK=>?_);go_simp;clear hHeld;refine hK.out _ _ ?_ (fun hHeld=>?_)
 ·exact uq c2
 clear hK K;try simp only[Act.put,Ya,Yb,Yc]
 refine tkk 11 2 hHeld ?_;try simp only[Act.put,Ya,Yb,Yc]
 refine wpAnyH_done (by kernel_rfl) ?_ _;clear hHeld;go_wp2_with fail
 go_ret;exact⟨rfl,rfl⟩
theorem zgO {w:World} {p:Nat} {out:List UInt8} {op:Int} {la:ByteArray} (h:Pr w p out op la) (h0:out≠ []) (hl:out.length≤100000000000):Calls Tryz.prog 18 #[.pointer (some ⟨p,0,none⟩)] w fun e w'=>e= .returned (.string (sv out))∧Below p w w':=by
 obtain⟨q,v,hq,hp,hown⟩:=h;have hl0:out.length≠0:=by simpa using h0
 obtain⟨g,cap,cur,rfl,hbg,hg,hnc,hcm,hcs,htake⟩:∃ g cap cur,v= .slice (some ⟨g,0,none⟩) out.length cap∧p+1≤g∧w.heap[g]? =some (.cells cur TB (0,0))∧out.length≤cap∧cap≤maxLen∧cur.size=cap * 1∧cur.toList.take (out.length * 1)=bc out:=by
  rcases hown.2 with ⟨_,hz⟩|⟨g,cap,cur,hv,r⟩
  ·exact absurd hz hl0
  ·exact⟨g,cap,cur,hv,r⟩
 have c1:w.drew.cell? ⟨p,1,none⟩=some (.slice (some ⟨g,0,none⟩) out.length cap):=by
  have:w.drew.heap[p]? =_:=hp;simp[World.cell?,this]
 refine(zfB p g out.length cap (sv out) w (w.drew.freeze ⟨g,0,none⟩ out.length) c1 (hide ?_) ?_ ?_).mono ?_
 ·have:(w.drew.freeze ⟨g,0,none⟩ out.length).heap[p]? =w.heap[p]? :=(Lib.below_freeze (Below.refl (p+1) w.drew) (p:=⟨g,0,none⟩) hbg out.length).block p (by omega);simp[World.cell?,this,hp]
 ·exact Lib.run_unsafeSliceData_row _ _ _ _ _ _ (by omega)
 ·refine Lib.run_unsafeString_row w.drew 99 3 9 TB (by kernel_rfl) zph g cur.size (by have hg':w.drew.heap[g]? =some (.cells cur TB (0,0)):=hg;simp[World.shape?,hg']) out h0 (by omega) (by omega) ?_;intro j x hx
  exact hown.cells (g:=g) rfl j (.int .u8 x.toNat) (by simp[bc,hx])
 ·rintro e w' ⟨rfl,rfl⟩;exact⟨rfl,Lib.below_freeze (Below.drew (Below.refl p w)) (p:=⟨g,0,none⟩) (by show p≤g;omega) _⟩
set_option maxHeartbeats 4000000 in
theorem zm3 (v0 v1 v2 v3 v4:Int) (a5:Option Addr) (n5 c5:Nat) (a6:Option Addr) (n6 c6:Nat) (v7 v8:Int) (w:World)
  (T1:Hid (∀ w',Keep w w'→Calls Tryz.prog 10 #[.agg #[.int .i64 v0,.int .i64 v1,.int .i64 v2,.int .i64 v3,.int .i64 v4,.slice a5 n5 c5,.slice a6 n6 c6,.int .i64 v7,.int .i64 v8]] w' fun e w''=>e= .returned (.bool false)∧Keep w' w'')):
  Calls Tryz.prog 8 #[.agg #[.int .i64 v0,.int .i64 v1,.int .i64 v2,.int .i64 v3,.int .i64 v4,.slice a5 n5 c5,.slice a6 n6 c6,.int .i64 v7,.int .i64 v8]] w fun e w'=>e= .returned (.tuple #[.slice none 0 0,.int .i64 1])∧Keep w w':=by
 go_enter Tryz.func8,Tryz.ntmps8;go_wp2_with fail
 (refine((uq T1) _ (by repeat(first|apply Keep.alloc|exact Keep.refl _))).mono ?_;rintro e w2 ⟨rfl,hk⟩;have HK:=hide hk;clear hk);go_wp2_with fail
 go_ret2;exact⟨rfl,((Keep.refl w).alloc _).trans (uq HK)⟩
set_option maxHeartbeats 4000000 in
theorem zjN (v0 v1 v2 v3 v4:Int) (a5:Option Addr) (n5 c5:Nat) (a6:Option Addr) (n6 c6:Nat) (v7 v8:Int) (out:List UInt8) (op:Int) (la:ByteArray) (w:World) (h0:out≠ []) (hl:out.length≤100000000000)
  (T1:Hid (∀ w',Keep w w'→Calls Tryz.prog 10 #[.agg #[.int .i64 v0,.int .i64 v1,.int .i64 v2,.int .i64 v3,.int .i64 v4,.slice a5 n5 c5,.slice a6 n6 c6,.int .i64 v7,.int .i64 v8]] w' fun e w''=>e= .returned (.bool true)∧Keep w' w''))
  (T2:Hid (∀ w' p,Keep w w'→w.heap.size≤p→Ps w' p ⟨[],0,[]⟩→Calls Tryz.prog 17 #[.pointer (some ⟨p,0,none⟩),.agg #[.int .i64 v0,.int .i64 v1,.int .i64 v2,.int .i64 v3,.int .i64 v4,.slice a5 n5 c5,.slice a6 n6 c6,.int .i64 v7,.int .i64 v8]] w' fun e w''=>e= .returned (.tuple #[])∧Pr w'' p out op la∧Fb p w' w'')):
  Calls Tryz.prog 8 #[.agg #[.int .i64 v0,.int .i64 v1,.int .i64 v2,.int .i64 v3,.int .i64 v4,.slice a5 n5 c5,.slice a6 n6 c6,.int .i64 v7,.int .i64 v8]] w fun e w'=>∃ v,e= .returned (.tuple #[v,.int .i64 0])∧By w' v out∧Keep w w':=by
 go_enter Tryz.func8,Tryz.ntmps8;go_wp2_with fail
 (refine((uq T1) _ (by repeat(first|apply Keep.alloc|exact Keep.refl _))).mono ?_;rintro e w2 ⟨rfl,hk⟩;obtain⟨o1,k1,rfl⟩:=hk.ext;clear hk)
 go_upto_region 4 with fail
 have HK1:Hid (Keep w (ext (w.alloc (Obj.cells #[.int .i64 v0,.int .i64 v1,.int .i64 v2,.int .i64 v3,.int .i64 v4,.slice a5 n5 c5,.slice a6 n6 c6,.int .i64 v7,.int .i64 v8] 27)) o1 k1)):=hide (by repeat(first|apply zab|apply Keep.alloc|exact Keep.refl _));have ep:(ext (w.alloc (Obj.cells #[.int .i64 v0,.int .i64 v1,.int .i64 v2,.int .i64 v3,.int .i64 v4,.slice a5 n5 c5,.slice a6 n6 c6,.int .i64 v7,.int .i64 v8] 27)) o1 k1).heap.size=w.heap.size+1+o1.size:=by simp
 have HB:Hid ((ext (w.alloc (Obj.cells #[.int .i64 v0,.int .i64 v1,.int .i64 v2,.int .i64 v3,.int .i64 v4,.slice a5 n5 c5,.slice a6 n6 c6,.int .i64 v7,.int .i64 v8] 27)) o1 k1).heap[w.heap.size]? =some (.cells #[.int .i64 v0,.int .i64 v1,.int .i64 v2,.int .i64 v3,.int .i64 v4,.slice a5 n5 c5,.slice a6 n6 c6,.int .i64 v7,.int .i64 v8] 27 (0,0))):=hide (by
  have h1:=heap_alloc_new w (Obj.cells #[.int .i64 v0,.int .i64 v1,.int .i64 v2,.int .i64 v3,.int .i64 v4,.slice a5 n5 c5,.slice a6 n6 c6,.int .i64 v7,.int .i64 v8] 27);rw[(zab (Keep.refl _) o1 k1).block w.heap.size (by simp)];exact h1)
 generalize (ext (w.alloc (Obj.cells #[.int .i64 v0,.int .i64 v1,.int .i64 v2,.int .i64 v3,.int .i64 v4,.slice a5 n5 c5,.slice a6 n6 c6,.int .i64 v7,.int .i64 v8] 27)) o1 k1)=w2 at HK1 ep HB ⊢;rw[← ep];have hn:=heap_alloc_new w2 (.cells #[.pointer none,.slice none 0 0,.int .i64 0,.string ⟨#[]⟩] TP);have HK2:=hide ((uq HK1).alloc (.cells #[.pointer none,.slice none 0 0,.int .i64 0,.string ⟨#[]⟩] TP));have hx:(w2.alloc (.cells #[.pointer none,.slice none 0 0,.int .i64 0,.string ⟨#[]⟩] TP)).heap[w.heap.size]? =some (.cells #[.int .i64 v0,.int .i64 v1,.int .i64 v2,.int .i64 v3,.int .i64 v4,.slice a5 n5 c5,.slice a6 n6 c6,.int .i64 v7,.int .i64 v8] 27 (0,0)):=by
  rw[heap_alloc_old _ _ (by omega)];exact uq HB
 have hsz:(w2.alloc (.cells #[.pointer none,.slice none 0 0,.int .i64 0,.string ⟨#[]⟩] TP)).heap.size=w2.heap.size+1:=by simp
 have HPs:Hid (Ps (w2.alloc (.cells #[.pointer none,.slice none 0 0,.int .i64 0,.string ⟨#[]⟩] TP)) w2.heap.size ⟨[],0,[]⟩):=hide ⟨_,_,.inl rfl,hn,⟨rfl,.inl ⟨rfl,rfl⟩⟩⟩;have HW:Hid (w.heap.size≤w2.heap.size):=hide (by omega);have hb:w.heap.size=w2.heap.size - 1 - o1.size:=by omega
 clear ep HK1 HB hn;show Code.wp _ _ _ _ (w2.alloc (.cells #[.pointer none,.slice none 0 0,.int .i64 0,.string ⟨#[]⟩] TP));generalize w2.alloc (.cells #[.pointer none,.slice none 0 0,.int .i64 0,.string ⟨#[]⟩] TP)=w3 at *;obtain⟨b,HBb⟩:∃ b,Hid (w.heap.size=b):=⟨_,rfl⟩;obtain⟨p,HPp⟩:∃ p,Hid (w2.heap.size=p):=⟨_,rfl⟩;rw[uq HBb,uq HPp];rw[uq HPp]at HPs HW hsz;rw[uq HBb]at hx;have HSZ:=hide hsz;clear hb hsz;have q0:w3.cell? ⟨b,0,none⟩=some (.int .i64 v0):=by simp[World.cell?,hx]
 have q1:w3.cell? ⟨b,1,none⟩=some (.int .i64 v1):=by simp[World.cell?,hx]
 have q2:w3.cell? ⟨b,2,none⟩=some (.int .i64 v2):=by simp[World.cell?,hx]
 have q3:w3.cell? ⟨b,3,none⟩=some (.int .i64 v3):=by simp[World.cell?,hx]
 have q4:w3.cell? ⟨b,4,none⟩=some (.int .i64 v4):=by simp[World.cell?,hx]
 have q5:w3.cell? ⟨b,5,none⟩=some (.slice a5 n5 c5):=by simp[World.cell?,hx]
 have q6:w3.cell? ⟨b,6,none⟩=some (.slice a6 n6 c6):=by simp[World.cell?,hx]
 have q7:w3.cell? ⟨b,7,none⟩=some (.int .i64 v7):=by simp[World.cell?,hx]
 have q8:w3.cell? ⟨b,8,none⟩=some (.int .i64 v8):=by simp[World.cell?,hx]
 clear hx;go_wp2_with fail
 (refine((uq T2) _ _ (uq HK2) (uq HW) (uq HPs)).mono ?_;rintro e w4 ⟨rfl,hp,hf⟩;have HP4:=hide hp;have HF4:=hide hf;clear hp hf);clear q0 q1 q2 q3 q4 q5 q6 q7 q8;go_wp2_with fail
 (refine(zgO (uq HP4) h0 hl).mono ?_;rintro e w5 ⟨rfl,hb5⟩;have HB5:=hide hb5;clear hb5);obtain⟨cp,o,kk,hcv,hby⟩:=zec w5 (sv out);have cv:=hcv 9 29 Tryz.underlying9 Tryz.underlying29;rw[zdh]at hby;have HBY:=hide hby;have HX6:=hide (zab (Keep.refl w5) #[o] kk);clear hcv hby;generalize sv out=SS at *;go_wp2_with fail
 go_ret2;refine⟨_,rfl,uq HBY,?_⟩;have k3:=uq HK2;have f4:=(uq HF4).below (by have:=uq HSZ;omega);have k5:Below w.heap.size w3 w5:=(f4.mono (uq HW)).trans ((uq HB5).mono (uq HW));exact Below.trans (Below.trans k3 k5) ((uq HX6).mono (Nat.le_trans k3.size k5.size))
end S
end Go.Proofs.YtfepanidippjlaaGreatDoor
