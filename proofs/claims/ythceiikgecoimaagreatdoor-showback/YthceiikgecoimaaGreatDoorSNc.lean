/- Package show: numbers are told by strconv's table of powers of ten. -/
import Derived.Test.YthceiikgecoimaaGreatDoorSGrp
import Derived.Test.YthceiikgecoimaaGreatDoorShelf
import Derived.Lib.LaidTab
import Derived.Lib.LaidU8
import Derived.WalkSmall
namespace Go.Proofs.YthceiikgecoimaaGreatDoor
open Go.RowKit
attribute [local go_sem ↓] Go.wp_at_zero Go.wp_at_succ
set_option linter.unusedVariables false
set_option linter.unusedSimpArgs false
set_option maxRecDepth 10000
namespace S
def Tab (w:World):Prop:=Lib.TabIs Tryz.prog w "internal/strconv.uint64pow10" .u64 Lib.pow10Tab
theorem gl1:Tryz.prog.globalNamed "internal/strconv.uint64pow10" =some 1:=by kernel_rfl
theorem Tab.lt {w:World} (h:Tab w):1<w.heap.size:=by
 unfold Tab Lib.TabIs World.var? at h
 simp only[gl1,Option.bind_some]at h;by_cases hc:1<w.heap.size
 ·exact hc
 ·rw[Array.getElem?_eq_none (by omega)]at h;simp at h
theorem Tab.at {w w':World} (h:Tab w) (e:w'.heap[1]? =w.heap[1]?):Tab w':=by
 unfold Tab Lib.TabIs World.var? at h |-
 simp only[gl1,Option.bind_some]at h |-;rw[e];exact h
theorem Tab.keep {w w':World} (h:Tab w) (k:Keep w w'):Tab w':=h.at (k.block _ h.lt)
theorem zh7 (w:World) (k:Nat):(w.drewN k).heap=w.heap:=by
 first|rfl|simp[World.drewN]
theorem zj0 (w:World) (k:Nat) (os:Array Obj):Keep w (Sort.grow (w.drewN k) os):=by
 have e:=zh7 w k;refine⟨?_,?_,?_,?_,λi hi=>?_⟩
 ·first|rfl|simp[Sort.grow,World.drewN]
 ·first|rfl|simp[Sort.grow,World.drewN]
 ·first|rfl|simp[Sort.grow,World.drewN]
 ·simp[Sort.grow,e]
 ·simp only[Sort.grow,e];rw[Array.getElem?_append_left hi]
theorem zo6 (n:Int) (w:World) (ht:Tab w) (h1: -9223372036854775808<=n) (h2:n<=9223372036854775807):
  Calls Tryz.prog 65 #[.int .i64 n,.int .i64 10] w λe w'=>e= .returned (.string (sv (dg n)))/\Keep w w':=by
 refine(Tryz.strconv_FormatInt_10 n h1 h2 w ht).mono ?_;rintro e w' ⟨rfl,k,os,rfl⟩;exact⟨rfl,zj0 w k os⟩
set_option maxHeartbeats 1000000 in
theorem zdQ (n:Int) (s:ByteArray) (w:World) (T1:Hid (Calls Tryz.prog 65 #[.int .i64 n,.int .i64 10] w λe w'=>e= .returned (.string s)/\Keep w w')):
  Calls Tryz.prog 31 #[.int .i64 n] w λe w'=>e= .returned (.string s)/\Keep w w':=by
 go_enter Tryz.func31,Tryz.ntmps31;go_wp2_with fail
 (refine(uq T1).mono ?_;rintro e w2 ⟨rfl,hk⟩;have HK:=zh hk;clear hk);go_wp2_with fail
 go_ret;exact⟨rfl,uq HK⟩
theorem nc {p:Nat} (hp:1<p):Nc p Tab where
 keep:=λw w' h k=>h.keep k
 fb:=λw w' h k=>h.at (k.block _ h.lt (by omega) (.inl hp))
 num:=λn w h1 h2 h=>zdQ n _ w (zh (zo6 n w h (by omega) (by omega)))
end S
end Go.Proofs.YthceiikgecoimaaGreatDoor
