/- Package demand: a volume, a ratio: steps that go on from what came ahead. -/
import Derived.Test.YtpmaonkelkmhbaaGreatFracV
import Derived.Test.YtpmaonkelkmhbaaGreatLSkip
import Derived.Deep.DrawnRows
import Derived.Deep.RegionHeld
namespace Go.Proofs.YtpmaonkelkmhbaaGreat
open Go.RowKit
attribute [local go_sem ↓] Go.wp_at_zero Go.wp_at_succ
set_option linter.unusedVariables false
set_option linter.unusedSimpArgs false
set_option maxRecDepth 10000
namespace W
theorem Keep.cl {w w':World} (k:Keep w w') {a:Addr} {v:Value} (h:w.cell? a=some v):w'.cell? a=some v:=by rw[Below.cell k (World.block_lt_of_cell? w a h)];exact h
theorem Keep.fz {w w':World} (k:Keep w w') {a:Addr} {v:Value} (h:w.cell? a=some v) (f:w.frozen? a=false):w'.frozen? a=false:=by rw[Below.frozen k (World.block_lt_of_cell? w a h)];exact f
theorem zcd {a w:World} (b i:Nat) (v:Value) (hb:a.heap.size≤b) (h:Keep a w):Keep a (w.setCell ⟨b,i,none⟩ v):=Below.setCell h hb v
set_option maxHeartbeats 400000 in
theorem zce (n:Int) (w:World):Calls Tryz.prog 108 #[.int .i64 n] w fun e w'=>e= .returned (.agg #[.int .i64 n,.int .i64 1])∧Keep w w':=by
 go_enter Tryz.func108,Tryz.ntmps108;go_wp2_with fail
 exact bodyPost_ret (v:= .agg #[.int .i64 n,.int .i64 1]) (by simp[results,Tryz.results108,go_sem]) rfl ⟨rfl,by repeat(first|apply zaa|apply Keep.alloc|apply Keep.drew|exact Keep.refl _)⟩
structure Ch (rb ab:Nat) (w w':World):Prop where
 os:w'.os=w.os
 tape:w'.tape=w.tape
 output:w'.output=w.output
 size:w.heap.size≤w'.heap.size
 block:∀ i,i<w.heap.size→i≠rb→i≠ab→w'.heap[i]? =w.heap[i]?
theorem Ch.keep {rb ab:Nat} {w w':World} (h:Keep w w'):Ch rb ab w w':=⟨h.os,h.tape,h.output,h.size,fun i hi _ _=>h.block i hi⟩
theorem Ch.trans {rb ab:Nat} {a b c:World} (h:Ch rb ab a b) (k:Ch rb ab b c):Ch rb ab a c:=⟨k.os.trans h.os,k.tape.trans h.tape,k.output.trans h.output,Nat.le_trans h.size k.size,fun i hi h1 h2=>(k.block i (Nat.lt_of_lt_of_le hi h.size) h1 h2).trans (h.block i hi h1 h2)⟩
theorem Ch.below {rb ab:Nat} {w0 w w':World} (h:Ch rb ab w w') (k:Keep w0 w) (h1:w0.heap.size≤rb) (h2:w0.heap.size≤ab):Keep w0 w':=⟨h.os.trans k.os,h.tape.trans k.tape,h.output.trans k.output,Nat.le_trans k.size h.size,fun i hi=>(h.block i (Nat.lt_of_lt_of_le hi k.size) (by omega) (by omega)).trans (k.block i hi)⟩
theorem Ch.cl {rb ab:Nat} {w w':World} (h:Ch rb ab w w') {a:Addr} {v:Value} (hc:w.cell? a=some v) (h1:a.block≠rb) (h2:a.block≠ab):w'.cell? a=some v:=by
 rw[World.cell?_of_block (w:=w) (h.block a.block (World.block_lt_of_cell? w a hc) h1 h2)];exact hc
theorem Ch.fz {rb ab:Nat} {w w':World} (h:Ch rb ab w w') {a:Addr} {v:Value} (hc:w.cell? a=some v) (hf:w.frozen? a=false) (h1:a.block≠rb) (h2:a.block≠ab):w'.frozen? a=false:=by
 rw[World.frozen?_of_block (w:=w) (h.block a.block (World.block_lt_of_cell? w a hc) h1 h2)];exact hf
theorem Ch.set {rb ab b i:Nat} (w:World) (v:Value) (h:b=rb∨b=ab):Ch rb ab w (w.setCell ⟨b,i,none⟩ v):=⟨rfl,rfl,rfl,by simp[World.setCell],fun k hk h1 h2=>Below.heap_setCell _ _ _ _ (by rcases h with h|h<;>simp only[h]<;>omega)⟩
theorem Ch.new {rb ab b i:Nat} {w w':World} (h:Ch rb ab w w') (v:Value) (hb:w.heap.size≤b):Ch rb ab w (w'.setCell ⟨b,i,none⟩ v):=⟨h.os,h.tape,h.output,by have:=h.size;simpa [World.setCell]using this,fun k hk h1 h2=>(Below.heap_setCell _ _ _ _ (by simp only;omega)).trans (h.block k hk h1 h2)⟩
structure Bx (w:World) (rb ab:Nat) (X Y Z:Int):Prop where
 ne:rb≠ab
 cr:w.cell? ⟨rb,0,none⟩=some (.int .i64 Z)
 cx:w.cell? ⟨ab,0,none⟩=some (.int .i64 X)
 cy:w.cell? ⟨ab,1,none⟩=some (.int .i64 Y)
 fr:w.frozen? ⟨rb,0,none⟩=false
 fx:w.frozen? ⟨ab,0,none⟩=false
 fy:w.frozen? ⟨ab,1,none⟩=false
theorem Bx.more {w w':World} {rb ab:Nat} {X Y Z:Int} (h:Bx w rb ab X Y Z) (k:Keep w w'):Bx w' rb ab X Y Z:=⟨h.ne,Keep.cl k h.cr,Keep.cl k h.cx,Keep.cl k h.cy,Keep.fz k h.cr h.fr,Keep.fz k h.cx h.fx,Keep.fz k h.cy h.fy⟩
theorem Bx.lt {w:World} {rb ab:Nat} {X Y Z:Int} (h:Bx w rb ab X Y Z):rb<w.heap.size∧ab<w.heap.size:=⟨World.block_lt_of_cell? w _ h.cr,World.block_lt_of_cell? w _ h.cx⟩
theorem Bx.set {w:World} {rb ab:Nat} {X0 Y0 Z0:Int} (h:Bx w rb ab X0 Y0 Z0) (X Y Z:Int):Bx (((w.setCell ⟨ab,0,none⟩ (.int .i64 X)).setCell ⟨ab,1,none⟩ (.int .i64 Y)).setCell ⟨rb,0,none⟩ (.int .i64 Z)) rb ab X Y Z:=by
 have h1:=h.cr;have h2:=h.cx;have h3:=h.cy;have n3:¬rb=ab:=h.ne;have n4:¬ab=rb:=fun h=>n3 h.symm
 have f1:=h.fr;have f2:=h.fx;have f3:=h.fy;exact⟨h.ne,by simp[go_sem,h1,h2,h3,n3,n4],by simp[go_sem,h1,h2,h3,n3,n4],by simp[go_sem,h1,h2,h3,n3,n4],by simp[go_sem,f1,n3,n4],by simp[go_sem,f2,n3,n4],by simp[go_sem,f3,n3,n4]⟩
theorem Bx.ch (w:World) (rb ab:Nat) (X Y Z:Int):Ch rb ab w (((w.setCell ⟨ab,0,none⟩ (.int .i64 X)).setCell ⟨ab,1,none⟩ (.int .i64 Y)).setCell ⟨rb,0,none⟩ (.int .i64 Z)):=((Ch.set w _ (.inr rfl)).trans (Ch.set _ _ (.inr rfl))).trans (Ch.set _ _ (.inl rfl))
set_option maxHeartbeats 800000 in
theorem zdy (w:World):Calls Tryz.prog 105 #[] w fun e w'=>∃ rb ab,e= .returned (.func (.func 112) #[] #[.pointer (some ⟨rb,0,none⟩),.pointer (some ⟨ab,0,none⟩)])∧Hid (w.heap.size≤rb∧w.heap.size≤ab∧Bx w' rb ab 1 1 0∧Keep w w'):=by
 have T:=hide (zce 1);go_enter Tryz.func105,Tryz.ntmps105;go_wp2_with fail
 (refine((uq T) _).mono ?_;rintro e w2 ⟨rfl,hk⟩;obtain⟨o1,k1,rfl⟩:=hk.ext;clear hk);go_wp2_with fail
 go_ret;refine⟨_,_,rfl,hide ⟨?_,?_,⟨?_,?_,?_,?_,?_,?_,?_⟩,?_⟩⟩
 rotate_right
 ·repeat(first|apply zaa|apply Keep.alloc|apply Keep.drew|exact Keep.refl _)
 all_goals first|(simp[go_sem];done)|(simp[go_sem];omega)|omega
set_option maxHeartbeats 800000 in
theorem zg4 (g:FuncId) (a b n d x y X Y Z:Int) (w:World) (hent:∀(xs:Array Value) (w:World),(callFunc g xs).run Tryz.prog w= .ok (.enter g xs) w)
  (T1:Hid (∀ w,Calls Tryz.prog 120 #[.int .i64 n,.int .i64 d] w fun e w'=>e= .returned (.tuple #[.agg #[.int .i64 x,.int .i64 y],.int .i64 0])∧Keep w w'))
  (T2:Hid (∀ w,Calls Tryz.prog g #[.agg #[.int .i64 a,.int .i64 b],.agg #[.int .i64 x,.int .i64 y]] w fun e w'=>e= .returned (.tuple #[.agg #[.int .i64 X,.int .i64 Y],.int .i64 Z])∧Keep w w')):
  Calls Tryz.prog 113 #[.agg #[.int .i64 a,.int .i64 b],.func (.func g) #[] #[],.agg #[.int .i64 n,.int .i64 d]] w fun e w'=>e= .returned (.tuple #[.agg #[.int .i64 X,.int .i64 Y],.int .i64 Z])∧Keep w w':=by
 go_enter Tryz.func113,Tryz.ntmps113;go_wp2_with fail
 (refine((uq T1) _).mono ?_;rintro e w2 ⟨rfl,hk⟩;obtain⟨o1,k1,rfl⟩:=hk.ext;clear hk);go_wp2_with fail
 (refine((uq T2) _).mono ?_;rintro e w2 ⟨rfl,hk⟩;obtain⟨o2,k2,rfl⟩:=hk.ext;clear hk);go_wp2_with fail
 exact bodyPost_ret (v:= .tuple #[.agg #[.int .i64 X,.int .i64 Y],.int .i64 Z]) (by simp[results,Tryz.results113,go_sem]) rfl ⟨rfl,by repeat(first|apply zaa|apply Keep.alloc|apply Keep.drew|(refine zcd _ _ _ (by simp[go_sem]<;>omega) ?_)|exact Keep.refl _)⟩
set_option maxHeartbeats 800000 in
theorem zii (v:Value) (a b n d z:Int) (w:World) (hz:¬z=0)
  (T1:Hid (∀ w,Calls Tryz.prog 120 #[.int .i64 n,.int .i64 d] w fun e w'=>e= .returned (.tuple #[.agg #[.int .i64 0,.int .i64 0],.int .i64 z])∧Keep w w')):
  Calls Tryz.prog 113 #[.agg #[.int .i64 a,.int .i64 b],v,.agg #[.int .i64 n,.int .i64 d]] w fun e w'=>e= .returned (.tuple #[.agg #[.int .i64 0,.int .i64 0],.int .i64 z])∧Keep w w':=by
 go_enter Tryz.func113,Tryz.ntmps113;go_wp2_with fail
 (refine((uq T1) _).mono ?_;rintro e w2 ⟨rfl,hk⟩;obtain⟨o1,k1,rfl⟩:=hk.ext;clear hk);go_wp2_with fail
 exact bodyPost_ret (v:= .tuple #[.agg #[.int .i64 0,.int .i64 0],.int .i64 z]) (by simp[results,Tryz.results113,go_sem]) rfl ⟨rfl,by repeat(first|apply zaa|apply Keep.alloc|apply Keep.drew|(refine zcd _ _ _ (by simp[go_sem]<;>omega) ?_)|exact Keep.refl _)⟩
set_option maxHeartbeats 1600000 in
theorem zij (g:FuncId) (n d X0 Y0 X Y Z:Int) (rb ab:Nat) (w:World) (HB:Hid (Bx w rb ab X0 Y0 0))
  (T:Hid (∀ w,Calls Tryz.prog 113 #[.agg #[.int .i64 X0,.int .i64 Y0],.func (.func g) #[] #[],.agg #[.int .i64 n,.int .i64 d]] w fun e w'=>e= .returned (.tuple #[.agg #[.int .i64 X,.int .i64 Y],.int .i64 Z])∧Keep w w')):
  Calls Tryz.prog 112 #[.func (.func g) #[] #[],.agg #[.int .i64 n,.int .i64 d],.pointer (some ⟨rb,0,none⟩),.pointer (some ⟨ab,0,none⟩)] w fun e w'=>e= .returned (.tuple #[.agg #[.int .i64 X,.int .i64 Y],.int .i64 Z])∧Hid (Bx w' rb ab X Y Z∧Ch rb ab w w'):=by
 have h1:=(uq HB).cr;have h2:=(uq HB).cx;have h3:=(uq HB).cy;have l1:=World.block_lt_of_cell? w _ h1;have l2:=World.block_lt_of_cell? w _ h2;simp only at l1 l2;have n1:¬rb=w.heap.size:=by omega
 have n2:¬ab=w.heap.size:=by omega
 have n3:¬rb=ab:=(uq HB).ne;have n4:¬ab=rb:=fun h=>n3 h.symm
 have f1:=(uq HB).fr;have f2:=(uq HB).fx;have f3:=(uq HB).fy;have q1:rb<w.heap.size+1+1:=by omega
 have q2:ab<w.heap.size+1+1:=by omega
 have q3:¬rb=w.heap.size+1:=by omega
 have q4:¬ab=w.heap.size+1:=by omega
 go_enter Tryz.func112,Tryz.ntmps112;go_wp2_with fail
 (refine((uq T) _).mono ?_;rintro e w2 ⟨rfl,hk⟩;obtain⟨o1,k1,rfl⟩:=hk.ext;clear hk);go_wp2_with fail
 refine wp_region_held_drew (S:=(fun w'=>w'.cell? ⟨ab,0,none⟩=some (.int .i64 X)∧w'.cell? ⟨ab,1,none⟩=some (.int .i64 Y)∧w'.cell? ⟨rb,0,none⟩=some (.int .i64 Z))) (by kernel_rfl) (by simp[go_sem,h1,h2,h3,l1,l2,n1,n2,n3,n4,q1,q2,q3,q4]) (fun hHeld=>?_);refine tkk 0 19 hHeld ?_;try simp only[Act.put,Ya,Yb,Yc]
 refine tkk 1 20 hHeld ?_;try simp only[Act.put,Ya,Yb,Yc]
 refine zal 2 (fun K hK=>?_);go_simp;clear hHeld;refine hK.out _ _ ?_ (fun hHeld=>?_)
 ·simp[go_sem,h1,h2,h3,l1,l2,n1,n2,n3,n4,q1,q2,q3,q4]
 clear hK K;try simp only[Act.put,Ya,Yb,Yc]
 refine tkk 3 7 hHeld ?_;try simp only[Act.put,Ya,Yb,Yc]
 refine wpAnyH_done (by kernel_rfl) ?_ _;clear hHeld;go_wp2_with fail
 refine bodyPost_ret (v:= .tuple #[.agg #[.int .i64 X,.int .i64 Y],.int .i64 Z]) (by simp[results,Tryz.results112,go_sem,n1,n2,n3,n4,q1,q2,q3,q4]) rfl ⟨rfl,?_⟩;refine(fun k=>hide ⟨((uq HB).set X Y Z).more k,(Bx.ch w rb ab X Y Z).trans (.keep k)⟩) ?_;repeat(first|(with_reducible exact Keep.refl _)|apply zaa|apply Keep.alloc|apply Keep.drew|(refine zcd _ _ _ (by simp[go_sem];done) ?_))
set_option maxHeartbeats 1600000 in
theorem zlg (v:Value) (n d X Y Z:Int) (rb ab:Nat) (w:World) (hz:¬Z=0) (HB:Hid (Bx w rb ab X Y Z)):
  Calls Tryz.prog 112 #[v,.agg #[.int .i64 n,.int .i64 d],.pointer (some ⟨rb,0,none⟩),.pointer (some ⟨ab,0,none⟩)] w fun e w'=>e= .returned (.tuple #[.agg #[.int .i64 X,.int .i64 Y],.int .i64 Z])∧Hid (Bx w' rb ab X Y Z∧Ch rb ab w w'):=by
 have h1:=(uq HB).cr;have h2:=(uq HB).cx;have h3:=(uq HB).cy;have l1:=World.block_lt_of_cell? w _ h1;have l2:=World.block_lt_of_cell? w _ h2;simp only at l1 l2;have n1:¬rb=w.heap.size:=by omega
 have n2:¬ab=w.heap.size:=by omega
 have n3:¬rb=ab:=(uq HB).ne;have n4:¬ab=rb:=fun h=>n3 h.symm
 have q1:rb<w.heap.size+1+1:=by omega
 have q2:ab<w.heap.size+1+1:=by omega
 have q3:¬rb=w.heap.size+1:=by omega
 have q4:¬ab=w.heap.size+1:=by omega
 go_enter Tryz.func112,Tryz.ntmps112;go_wp2_with fail
 refine wp_region_held_drew (S:=(fun w'=>w'.cell? ⟨ab,0,none⟩=some (.int .i64 X)∧w'.cell? ⟨ab,1,none⟩=some (.int .i64 Y)∧w'.cell? ⟨rb,0,none⟩=some (.int .i64 Z))) (by kernel_rfl) (by simp[go_sem,h1,h2,h3,l1,l2,n1,n2,n3,n4,q1,q2,q3,q4]) (fun hHeld=>?_);refine tkk 0 10 hHeld ?_;try simp only[Act.put,Ya,Yb,Yc]
 refine tkk 1 11 hHeld ?_;try simp only[Act.put,Ya,Yb,Yc]
 refine zal 2 (fun K hK=>?_);go_simp;clear hHeld;refine hK.out _ _ ?_ (fun hHeld=>?_)
 ·simp[go_sem,h1,h2,h3,l1,l2,n1,n2,n3,n4,q1,q2,q3,q4]
 clear hK K;try simp only[Act.put,Ya,Yb,Yc]
 refine tkk 3 7 hHeld ?_;try simp only[Act.put,Ya,Yb,Yc]
 refine wpAnyH_done (by kernel_rfl) ?_ _;clear hHeld;go_wp2_with fail
 refine bodyPost_ret (v:= .tuple #[.agg #[.int .i64 X,.int .i64 Y],.int .i64 Z]) (by simp[results,Tryz.results112,go_sem,n1,n2,n3,n4,q1,q2,q3,q4]) rfl ⟨rfl,?_⟩;refine(fun k=>hide ⟨(uq HB).more k,.keep k⟩) ?_;repeat(first|(with_reducible exact Keep.refl _)|apply zaa|apply Keep.alloc|apply Keep.drew|(refine zcd _ _ _ (by simp[go_sem];done) ?_))
def znX (g:FuncId) (op:Int→Int→Int→Int→A3):Prop:=(∀(xs:Array Value) (w:World),(callFunc g xs).run Tryz.prog w= .ok (.enter g xs) w)∧(∀ a b c d,Ok (op a b c d))∧∀ a b c d,i64 a→i64 b→i64 c→i64 d→∀ w,Calls Tryz.prog g #[.agg #[.int .i64 a,.int .i64 b],.agg #[.int .i64 c,.int .i64 d]] w fun e w'=>e= .returned (.tuple #[.agg #[.int .i64 (op a b c d).1,.int .i64 (op a b c d).2.1],.int .i64 (op a b c d).2.2])∧Keep w w'
theorem ziU:znX 114 zda:=by
 refine⟨fun xs w=>by simp[go_sem],zbP,fun a b c d h1 h2 h3 h4 w=>?_⟩;exact zie a b c d w h1.1 h1.2 h2.1 h2.2 h3.1 h3.2 h4.1 h4.2
theorem ziV:znX 107 zfN:=by
 refine⟨fun xs w=>by simp[go_sem],zeq,fun a b c d h1 h2 h3 h4 w=>?_⟩;unfold zfN
 by_cases hz:cn c d=0
 ·rw[if_pos hz];exact zdW a b c d w h1.1 h1.2 h2.1 h2.2 h3.1 h3.2 h4.1 h4.2 hz
 ·rw[if_neg hz];exact ze4 a b c d w h1.1 h1.2 h2.1 h2.2 h3.1 h3.2 h4.1 h4.2 hz
theorem zoz (n d:Int) (h1:i64 n) (h2:i64 d) (w:World):Calls Tryz.prog 120 #[.int .i64 n,.int .i64 d] w fun e w'=>e= .returned (.tuple #[.agg #[.int .i64 (ofF n d).1,.int .i64 (ofF n d).2.1],.int .i64 (ofF n d).2.2])∧Keep w w':=by
 unfold ofF
 by_cases hz:d=0
 ·rw[if_pos hz];subst hz;exact zih n w h1.1 h1.2
 ·rw[if_neg hz];exact zlf n d w h1.1 h1.2 h2.1 h2.2 hz
theorem zg5 {g:FuncId} {op:Int→Int→Int→Int→A3} (hg:znX g op) {a b n d:Int} (ha:i64 a) (hb:i64 b) (hn:i64 n) (hd:i64 d) (w:World):
  Calls Tryz.prog 113 #[.agg #[.int .i64 a,.int .i64 b],.func (.func g) #[] #[],.agg #[.int .i64 n,.int .i64 d]] w fun e w'=>e= .returned (.tuple #[.agg #[.int .i64 (zgX op a b n d).1,.int .i64 (zgX op a b n d).2.1],.int .i64 (zgX op a b n d).2.2])∧Keep w w':=by
 have T:=zoz n d hn hd;have ho:=zcn n d;unfold zgX
 by_cases hz:(ofF n d).2.2=0
 ·rw[if_pos hz];rw[hz]at T;exact zg4 g a b n d _ _ _ _ _ w hg.1 (hide T) (hide (hg.2.2 _ _ _ _ ha hb ho.in1 ho.in2))
 ·rw[if_neg hz];rw[ho.zero hz]at T;exact zii _ a b n d _ w hz (hide T)
theorem zcx {g:FuncId} {op:Int→Int→Int→Int→A3} (hg:znX g op) {s:A3} (hs:Ok s) {n d:Int} (hn:i64 n) (hd:i64 d) {rb ab:Nat} {w:World} (hb:Bx w rb ab s.1 s.2.1 s.2.2):
  Calls Tryz.prog 112 #[.func (.func g) #[] #[],.agg #[.int .i64 n,.int .i64 d],.pointer (some ⟨rb,0,none⟩),.pointer (some ⟨ab,0,none⟩)] w fun e w'=>e= .returned (.tuple #[.agg #[.int .i64 (zcw op s n d).1,.int .i64 (zcw op s n d).2.1],.int .i64 (zcw op s n d).2.2])∧Hid (Bx w' rb ab (zcw op s n d).1 (zcw op s n d).2.1 (zcw op s n d).2.2∧Ch rb ab w w'):=by
 unfold zcw
 by_cases hz:s.2.2=0
 ·rw[if_pos hz];rw[hz]at hb;exact zij g n d _ _ _ _ _ rb ab w (hide hb) (hide (zg5 hg hs.in1 hs.in2 hn hd))
 ·rw[if_neg hz];exact zlg _ n d _ _ _ rb ab w hz (hide hb)
set_option maxHeartbeats 4000000 in
theorem zfO (u0 u5 u6 u7 u8 u9 u10:Value) (v s un ud pn pd X0 Y0 Z0 X1 Y1 Z1 X2 Y2 Z2 X3 Y3 Z3:Int) (rb ab:Nat) (w:World) (HB:Hid (Bx w rb ab X0 Y0 Z0))
  (S1:Hid (∀ w,Bx w rb ab X0 Y0 Z0→Calls Tryz.prog 112 #[.func (.func 114) #[] #[],.agg #[.int .i64 un,.int .i64 ud],.pointer (some ⟨rb,0,none⟩),.pointer (some ⟨ab,0,none⟩)] w fun e w'=>e= .returned (.tuple #[.agg #[.int .i64 X1,.int .i64 Y1],.int .i64 Z1])∧Hid (Bx w' rb ab X1 Y1 Z1∧Ch rb ab w w')))
  (S2:Hid (∀ w,Bx w rb ab X1 Y1 Z1→Calls Tryz.prog 112 #[.func (.func 114) #[] #[],.agg #[.int .i64 v,.int .i64 1],.pointer (some ⟨rb,0,none⟩),.pointer (some ⟨ab,0,none⟩)] w fun e w'=>e= .returned (.tuple #[.agg #[.int .i64 X2,.int .i64 Y2],.int .i64 Z2])∧Hid (Bx w' rb ab X2 Y2 Z2∧Ch rb ab w w')))
  (S3:Hid (∀ w,Bx w rb ab X2 Y2 Z2→Calls Tryz.prog 112 #[.func (.func 107) #[] #[],.agg #[.int .i64 pn,.int .i64 pd],.pointer (some ⟨rb,0,none⟩),.pointer (some ⟨ab,0,none⟩)] w fun e w'=>e= .returned (.tuple #[.agg #[.int .i64 X3,.int .i64 Y3],.int .i64 Z3])∧Hid (Bx w' rb ab X3 Y3 Z3∧Ch rb ab w w'))):
  Calls Tryz.prog 106 #[.func (.func 112) #[] #[.pointer (some ⟨rb,0,none⟩),.pointer (some ⟨ab,0,none⟩)],.agg #[u0,.int .i64 v,.int .i64 s,.int .i64 un,.int .i64 ud,u5,u6,u7,u8,u9,u10],.agg #[.int .i64 pn,.int .i64 pd]] w fun e w'=>e= .returned (.tuple #[.agg #[.int .i64 X3,.int .i64 Y3],.int .i64 Z3])∧Hid (Bx w' rb ab X3 Y3 Z3∧Ch rb ab w w'):=by
 have N1:=hide (zce v);have hl:=hide (uq HB).lt;go_enter Tryz.func106,Tryz.ntmps106;go_wp2_with fail
 refine((uq S1) _ ((uq HB).more (by repeat(first|(with_reducible exact Keep.refl _)|apply zaa|apply Keep.alloc|apply Keep.drew)))).mono ?_;rintro e w2 ⟨rfl,hb⟩;obtain⟨HB2,hc⟩:Hid (Bx w2 rb ab X1 Y1 Z1)∧_:=uq hb;obtain⟨l1,l2⟩:=uq hl;have c1:=hc.cl (a:=⟨w.heap.size,1,none⟩) (v:= .int .i64 v) (by simp[go_sem]) (by simp only;omega) (by simp only;omega);have c2:=hc.cl (a:=⟨w.heap.size+1,0,none⟩) (v:= .int .i64 pn) (by simp[go_sem]) (by simp only;omega) (by simp only;omega);have c3:=hc.cl (a:=⟨w.heap.size+1,1,none⟩) (v:= .int .i64 pd) (by simp[go_sem]) (by simp only;omega) (by simp only;omega);have c4:=hc.cl (a:=⟨w.heap.size+2,0,none⟩) (v:= .int .i64 0) (by simp[go_sem]) (by simp only;omega) (by simp only;omega);have c5:=hc.cl (a:=⟨w.heap.size+2,1,none⟩) (v:= .int .i64 0) (by simp[go_sem]) (by simp only;omega) (by simp only;omega);have g4:=hc.fz (a:=⟨w.heap.size+2,0,none⟩) (v:= .int .i64 0) (by simp[go_sem]) (by simp[go_sem]) (by simp only;omega) (by simp only;omega);have g5:=hc.fz (a:=⟨w.heap.size+2,1,none⟩) (v:= .int .i64 0) (by simp[go_sem]) (by simp[go_sem]) (by simp only;omega) (by simp only;omega);have HC1:=hide ((Ch.keep (by repeat(first|(with_reducible exact Keep.refl _)|apply zaa|apply Keep.alloc|apply Keep.drew))).trans hc:Ch rb ab w w2);have HZ:Hid (w.heap.size+2<w2.heap.size):=hide (World.block_lt_of_cell? w2 _ c5);clear hb hc l1 l2;go_wp2_with fail
 (refine((uq N1) _).mono ?_;rintro e w3 ⟨rfl,hk⟩;obtain⟨o1,k1,rfl⟩:=hk.ext;clear hk);go_wp2_with fail
 refine((uq S2) _ ((uq HB2).more (by repeat(first|(with_reducible exact Keep.refl _)|apply zaa|apply Keep.alloc|apply Keep.drew)))).mono ?_;rintro e w3 ⟨rfl,hb⟩;obtain⟨HB3,hc⟩:Hid (Bx w3 rb ab X2 Y2 Z2)∧_:=uq hb;have HZ2:=uq HZ;have z1:w.heap.size+1<w2.heap.size:=by omega
 have d2:=hc.cl (a:=⟨w.heap.size+1,0,none⟩) (v:= .int .i64 pn) (by simp[go_sem,c2,z1]) (by simp only;have:=uq hl;omega) (by simp only;have:=uq hl;omega);have d3:=hc.cl (a:=⟨w.heap.size+1,1,none⟩) (v:= .int .i64 pd) (by simp[go_sem,c3,z1]) (by simp only;have:=uq hl;omega) (by simp only;have:=uq hl;omega);have d4:=hc.cl (a:=⟨w.heap.size+2,0,none⟩) (v:= .int .i64 0) (by simp[go_sem,c4,HZ2]) (by simp only;have:=uq hl;omega) (by simp only;have:=uq hl;omega);have d5:=hc.cl (a:=⟨w.heap.size+2,1,none⟩) (v:= .int .i64 0) (by simp[go_sem,c5,HZ2]) (by simp only;have:=uq hl;omega) (by simp only;have:=uq hl;omega);have e4:=hc.fz (a:=⟨w.heap.size+2,0,none⟩) (v:= .int .i64 0) (by simp[go_sem,c4,HZ2]) (by simp[go_sem,g4,HZ2]) (by simp only;have:=uq hl;omega) (by simp only;have:=uq hl;omega);have e5:=hc.fz (a:=⟨w.heap.size+2,1,none⟩) (v:= .int .i64 0) (by simp[go_sem,c5,HZ2]) (by simp[go_sem,g5,HZ2]) (by simp only;have:=uq hl;omega) (by simp only;have:=uq hl;omega);have HC2:=hide ((uq HC1).trans ((Ch.keep (by repeat(first|(with_reducible exact Keep.refl _)|apply zaa|apply Keep.alloc|apply Keep.drew))).trans hc):Ch rb ab w w3);have HZ3:Hid (w.heap.size+2<w3.heap.size):=hide (World.block_lt_of_cell? w3 _ d5);clear hb hc HZ2 z1 c1 c2 c3 c4 c5 g4 g5 HZ HB2 HC1;go_wp2_with fail
 refine((uq S3) _ (uq HB3)).mono ?_;rintro e w4 ⟨rfl,hb⟩;obtain⟨HB4,hc⟩:Hid (Bx w4 rb ab X3 Y3 Z3)∧_:=uq hb;have c4:=hc.cl d4 (by simp only;have:=uq hl;omega) (by simp only;have:=uq hl;omega);have c5:=hc.cl d5 (by simp only;have:=uq hl;omega) (by simp only;have:=uq hl;omega);have g4:=hc.fz d4 e4 (by simp only;have:=uq hl;omega) (by simp only;have:=uq hl;omega);have g5:=hc.fz d5 e5 (by simp only;have:=uq hl;omega) (by simp only;have:=uq hl;omega);have HC3:=hide ((uq HC2).trans hc:Ch rb ab w w4);have HK:Hid (Keep w4 (w4.setCell ⟨w.heap.size+2,0,none⟩ (.int .i64 X3))→False)∨True:= .inr trivial;clear hb hc d2 d3 d4 d5 e4 e5 HB3 HC2 HK;go_wp2_with fail
 refine bodyPost_ret (v:= .tuple #[.agg #[.int .i64 X3,.int .i64 Y3],.int .i64 Z3]) (by simp[results,Tryz.results106,go_sem,c4,c5]) rfl ⟨rfl,hide ?_⟩;have hl2:=uq hl;have n1:¬w.heap.size+2=rb:=by omega
 have n2:¬w.heap.size+2=ab:=by omega
 have n3:¬rb=w.heap.size+2:=by omega
 have n4:¬ab=w.heap.size+2:=by omega
 obtain⟨b0,b1,b2,b3,b4,b5,b6⟩:=uq HB4;refine⟨⟨b0,by simp[go_sem,b1,n1,n2,n3,n4],by simp[go_sem,b2,n1,n2,n3,n4],by simp[go_sem,b3,n1,n2,n3,n4],by simp[go_sem,b4,n1,n2,n3,n4],by simp[go_sem,b5,n1,n2,n3,n4],by simp[go_sem,b6,n1,n2,n3,n4]⟩,?_⟩;exact((uq HC3).new _ (by omega)).new _ (by omega)
theorem zg6 (u0 u5 u6 u7 u8 u9 u10:Value) {v s un ud pn pd:Int} (hv:i64 v) (hu:i64 un) (hd:i64 ud) (hp:i64 pn) (hq:i64 pd) {rb ab:Nat} {w:World} (HB:Bx w rb ab 1 1 0):
  Calls Tryz.prog 106 #[.func (.func 112) #[] #[.pointer (some ⟨rb,0,none⟩),.pointer (some ⟨ab,0,none⟩)],.agg #[u0,.int .i64 v,.int .i64 s,.int .i64 un,.int .i64 ud,u5,u6,u7,u8,u9,u10],.agg #[.int .i64 pn,.int .i64 pd]] w fun e w'=>e= .returned (.tuple #[.agg #[.int .i64 (zd5 v un ud pn pd).1,.int .i64 (zd5 v un ud pn pd).2.1],.int .i64 (zd5 v un ud pn pd).2.2])∧Hid (Bx w' rb ab (zd5 v un ud pn pd).1 (zd5 v un ud pn pd).2.1 (zd5 v un ud pn pd).2.2∧Ch rb ab w w'):=by
 have k1:=zdb zbP zbS un ud;have k2:=zdb zbP k1 v 1;exact zfO u0 u5 u6 u7 u8 u9 u10 v s un ud pn pd 1 1 0 _ _ _ _ _ _ _ _ _ rb ab w (hide HB)
  (hide fun w h=>zcx ziU zbS hu hd h) (hide fun w h=>zcx ziU k1 hv ⟨by omega,by omega⟩ h) (hide fun w h=>zcx ziV k2 hp hq h)
set_option maxHeartbeats 4000000 in
theorem zfP (u0 u5 u6 u7 u8 u9 u10:Value) (v s un ud pn pd X3 Y3 Z3 X4 Y4 Z4:Int) (w:World)
  (T:Hid (∀ rb ab w,Bx w rb ab 1 1 0→Calls Tryz.prog 106 #[.func (.func 112) #[] #[.pointer (some ⟨rb,0,none⟩),.pointer (some ⟨ab,0,none⟩)],.agg #[u0,.int .i64 v,.int .i64 s,.int .i64 un,.int .i64 ud,u5,u6,u7,u8,u9,u10],.agg #[.int .i64 pn,.int .i64 pd]] w fun e w'=>e= .returned (.tuple #[.agg #[.int .i64 X3,.int .i64 Y3],.int .i64 Z3])∧Hid (Bx w' rb ab X3 Y3 Z3∧Ch rb ab w w')))
  (S4:Hid (∀ rb ab w,Bx w rb ab X3 Y3 Z3→Calls Tryz.prog 112 #[.func (.func 107) #[] #[],.agg #[.int .i64 s,.int .i64 1],.pointer (some ⟨rb,0,none⟩),.pointer (some ⟨ab,0,none⟩)] w fun e w'=>e= .returned (.tuple #[.agg #[.int .i64 X4,.int .i64 Y4],.int .i64 Z4])∧Hid (Bx w' rb ab X4 Y4 Z4∧Ch rb ab w w'))):
  Calls Tryz.prog 98 #[.agg #[u0,.int .i64 v,.int .i64 s,.int .i64 un,.int .i64 ud,u5,u6,u7,u8,u9,u10],.agg #[.int .i64 pn,.int .i64 pd]] w fun e w'=>e= .returned (.tuple #[.agg #[.int .i64 X4,.int .i64 Y4],.int .i64 Z4])∧Keep w w':=by
 have R:=hide zdy;have N1:=hide (zce s);go_enter Tryz.func98,Tryz.ntmps98;go_wp2_with fail
 (refine((uq R) _).mono ?_;rintro e w2 ⟨rb,ab,rfl,hr⟩);have HR1:Hid (w.heap.size+3≤rb∧w.heap.size+3≤ab):=hide (by have h1:=(uq hr).1;have h2:=(uq hr).2.1;simp[go_sem]at h1 h2;omega);have HB:Hid (Bx w2 rb ab 1 1 0):=hide (uq hr).2.2.1;have HK2:Hid (Keep w w2):=hide ((by repeat(first|(with_reducible exact Keep.refl _)|apply zaa|apply Keep.alloc|apply Keep.drew):Keep w _).trans (uq hr).2.2.2);have a0:=Keep.cl (uq hr).2.2.2 (a:=⟨w.heap.size,0,none⟩) (v:=u0) (by simp[go_sem]);have a1:=Keep.cl (uq hr).2.2.2 (a:=⟨w.heap.size,1,none⟩) (v:=(.int .i64 v)) (by simp[go_sem]);have a2:=Keep.cl (uq hr).2.2.2 (a:=⟨w.heap.size,2,none⟩) (v:=(.int .i64 s)) (by simp[go_sem]);have a3:=Keep.cl (uq hr).2.2.2 (a:=⟨w.heap.size,3,none⟩) (v:=(.int .i64 un)) (by simp[go_sem]);have a4:=Keep.cl (uq hr).2.2.2 (a:=⟨w.heap.size,4,none⟩) (v:=(.int .i64 ud)) (by simp[go_sem]);have a5:=Keep.cl (uq hr).2.2.2 (a:=⟨w.heap.size,5,none⟩) (v:=u5) (by simp[go_sem]);have a6:=Keep.cl (uq hr).2.2.2 (a:=⟨w.heap.size,6,none⟩) (v:=u6) (by simp[go_sem]);have a7:=Keep.cl (uq hr).2.2.2 (a:=⟨w.heap.size,7,none⟩) (v:=u7) (by simp[go_sem]);have a8:=Keep.cl (uq hr).2.2.2 (a:=⟨w.heap.size,8,none⟩) (v:=u8) (by simp[go_sem]);have a9:=Keep.cl (uq hr).2.2.2 (a:=⟨w.heap.size,9,none⟩) (v:=u9) (by simp[go_sem]);have a10:=Keep.cl (uq hr).2.2.2 (a:=⟨w.heap.size,10,none⟩) (v:=u10) (by simp[go_sem]);have a13:=Keep.cl (uq hr).2.2.2 (a:=⟨w.heap.size+1,0,none⟩) (v:= .int .i64 pn) (by simp[go_sem]);have a14:=Keep.cl (uq hr).2.2.2 (a:=⟨w.heap.size+1,1,none⟩) (v:= .int .i64 pd) (by simp[go_sem]);have a11:=Keep.cl (uq hr).2.2.2 (a:=⟨w.heap.size+2,0,none⟩) (v:= .int .i64 0) (by simp[go_sem]);have a12:=Keep.cl (uq hr).2.2.2 (a:=⟨w.heap.size+2,1,none⟩) (v:= .int .i64 0) (by simp[go_sem]);have f11:=Keep.fz (uq hr).2.2.2 (a:=⟨w.heap.size+2,0,none⟩) (v:= .int .i64 0) (by simp[go_sem]) (by simp[go_sem]);have f12:=Keep.fz (uq hr).2.2.2 (a:=⟨w.heap.size+2,1,none⟩) (v:= .int .i64 0) (by simp[go_sem]) (by simp[go_sem]);clear hr;go_wp2_with fail
 (refine((uq T) rb ab _ (uq HB)).mono ?_;rintro e w3 ⟨rfl,hb⟩);have q2:=(uq hb).2.cl a2 (by have:=uq HR1;simp only;omega) (by have:=uq HR1;simp only;omega);have c4:=(uq hb).2.cl a11 (by have:=uq HR1;simp only;omega) (by have:=uq HR1;simp only;omega);have c5:=(uq hb).2.cl a12 (by have:=uq HR1;simp only;omega) (by have:=uq HR1;simp only;omega);have g4:=(uq hb).2.fz a11 f11 (by have:=uq HR1;simp only;omega) (by have:=uq HR1;simp only;omega);have g5:=(uq hb).2.fz a12 f12 (by have:=uq HR1;simp only;omega) (by have:=uq HR1;simp only;omega);have HB3:Hid (Bx w3 rb ab X3 Y3 Z3):=hide (uq hb).1;have HK3:Hid (Keep w w3):=hide ((uq hb).2.below (uq HK2) (by have:=uq HR1;omega) (by have:=uq HR1;omega));have z3:w.heap.size+2<w3.heap.size:=World.block_lt_of_cell? w3 _ c5;have HZ3:=hide z3;clear hb a0 a1 a2 a3 a4 a5 a6 a7 a8 a9 a10 a13 a14 a11 a12 f11 f12 z3;go_wp2_with fail
 (refine((uq N1) _).mono ?_;rintro e w4 ⟨rfl,hk⟩;obtain⟨o1,k1,rfl⟩:=hk.ext;clear hk);go_wp2_with fail
 (refine((uq S4) rb ab _ ((uq HB3).more (by repeat(first|(with_reducible exact Keep.refl _)|apply zaa|apply Keep.alloc|apply Keep.drew)))).mono ?_;rintro e w5 ⟨rfl,hb⟩);have z3:=uq HZ3;have d4:=(uq hb).2.cl (a:=⟨w.heap.size+2,0,none⟩) (v:= .int .i64 0) (by simp[go_sem,c4,z3]) (by have:=uq HR1;simp only;omega) (by have:=uq HR1;simp only;omega);have d5:=(uq hb).2.cl (a:=⟨w.heap.size+2,1,none⟩) (v:= .int .i64 0) (by simp[go_sem,c5,z3]) (by have:=uq HR1;simp only;omega) (by have:=uq HR1;simp only;omega);have e4:=(uq hb).2.fz (a:=⟨w.heap.size+2,0,none⟩) (v:= .int .i64 0) (by simp[go_sem,c4,z3]) (by simp[go_sem,g4,z3]) (by have:=uq HR1;simp only;omega) (by have:=uq HR1;simp only;omega);have e5:=(uq hb).2.fz (a:=⟨w.heap.size+2,1,none⟩) (v:= .int .i64 0) (by simp[go_sem,c5,z3]) (by simp[go_sem,g5,z3]) (by have:=uq HR1;simp only;omega) (by have:=uq HR1;simp only;omega);have HK5:Hid (Keep w w5):=hide ((uq hb).2.below ((uq HK3).trans (by repeat(first|(with_reducible exact Keep.refl _)|apply zaa|apply Keep.alloc|apply Keep.drew))) (by have:=uq HR1;omega) (by have:=uq HR1;omega));clear hb c4 c5 g4 g5 q2 z3;go_wp2_with fail
 exact bodyPost_ret (v:= .tuple #[.agg #[.int .i64 X4,.int .i64 Y4],.int .i64 Z4]) (by simp[results,Tryz.results98,go_sem,d4,d5]) rfl ⟨rfl,zcd _ _ _ (by omega) (zcd _ _ _ (by omega) (uq HK5))⟩
theorem ratio_any (u0 u5 u6 u7 u8 u9 u10:Value) {v s un ud pn pd:Int} (hv:i64 v) (hs:i64 s) (hu:i64 un) (hd:i64 ud) (hp:i64 pn) (hq:i64 pd) (w:World):
  Calls Tryz.prog 98 #[.agg #[u0,.int .i64 v,.int .i64 s,.int .i64 un,.int .i64 ud,u5,u6,u7,u8,u9,u10],.agg #[.int .i64 pn,.int .i64 pd]] w fun e w'=>e= .returned (.tuple #[.agg #[.int .i64 (ratF v s un ud pn pd).1,.int .i64 (ratF v s un ud pn pd).2.1],.int .i64 (ratF v s un ud pn pd).2.2])∧Keep w w':=
 zfP u0 u5 u6 u7 u8 u9 u10 v s un ud pn pd _ _ _ _ _ _ w (hide fun rb ab w h=>zg6 u0 u5 u6 u7 u8 u9 u10 hv hu hd hp hq h) (hide fun rb ab w h=>zcx ziV (ze3 v un ud pn pd) hs ⟨by omega,by omega⟩ h)
end W
end Go.Proofs.YtpmaonkelkmhbaaGreat
