/- Which tokens are right: the document. -/
import Derived.Test.YtfepanidippjlaaGreatDoorLRight
import Derived.Test.YtfepanidippjlaaGreatDoorLEnd
import Derived.Test.YtfepanidippjlaaGreatDoorLNum
namespace Go.Proofs.YtfepanidippjlaaGreatDoor
open Go.RowKit
attribute [local go_sem ↓] Go.wp_at_zero Go.wp_at_succ
set_option linter.unusedVariables false
set_option linter.unusedSimpArgs false
set_option maxRecDepth 10000
set_option maxHeartbeats 4000000 in
theorem zfN (K N P E M:Int) (n:Nat) (S:ByteArray) (w:World) (h1:(E==0)=false)
  (T1:Hid (∀ w' v,By w' v S.data.toList→Calls Tryz.prog 61 #[v] w' fun e w''=>∃ a cap,e= .returned (.tuple #[.slice a n cap,.int .i64 E,.int .i64 M])∧Keep w' w'')):
  Calls Tryz.prog 59 #[.agg #[.int .i64 K,.string S,.int .i64 N,.int .i64 P]] w fun e w'=>e= .returned (.bool false)∧Keep w w':=by
 obtain⟨cap,o,k1,hcv,hby⟩:=zdY (w.alloc (.cells #[.int .i64 K,.string S,.int .i64 N,.int .i64 P] 115)) S;have hcv2:=hcv 9 29 Tryz.underlying9 Tryz.underlying29;simp only[World.size_alloc]at hcv2 hby;have HBY:=hide hby;clear hcv hby;have k0:=hide (zab ((Keep.refl w).alloc (.cells #[.int .i64 K,.string S,.int .i64 N,.int .i64 P] 115)) #[o] k1);go_enter Tryz.func59,Tryz.ntmps59;go_wp2_with fail
 (refine((uq T1) _ _ (uq HBY)).mono ?_;rintro e w2 ⟨a,cp,rfl,hk⟩;replace k0:=hide ((uq k0).trans hk);clear hk);go_wp2_with fail
 refine wp_region_held_drew (S:=fun w'=>True) (by kernel_rfl) (by trivial) (fun hHeld=>?_);refine tkk 0 14 hHeld ?_;try simp only[Act.put,Ya,Yb,Yc]
 refine tkk 1 15 hHeld ?_;try simp only[Act.put,Ya,Yb,Yc]
 refine tkk 2 16 hHeld ?_;try simp only[Act.put,Ya,Yb,Yc]
 refine wpAnyH_take (i:=3) (v:=undef) rfl (by kernel_rfl) (by kernel_rfl) (by kernel_rfl) (fun _ _ _ h=>h) (Or.inr ⟨by rfl,rfl⟩) hHeld ?_;show wpAnyH _ _ _ _ _ _ _ (Act.put _ (some 17) _) _;try simp only[Act.put,Ya,Yb,Yc]
 refine wpAnyH_take (i:=4) (v:=undef) rfl (by kernel_rfl) (by kernel_rfl) (by kernel_rfl) (fun _ _ _ h=>h) (Or.inr ⟨by rfl,rfl⟩) hHeld ?_;show wpAnyH _ _ _ _ _ _ _ (Act.put _ (some 18) _) _;try simp only[Act.put,Ya,Yb,Yc]
 refine wpAnyH_take (i:=5) (v:=undef) rfl (by kernel_rfl) (by kernel_rfl) (by kernel_rfl) (fun _ _ _ h=>h) (Or.inr ⟨by rfl,rfl⟩) hHeld ?_;show wpAnyH _ _ _ _ _ _ _ (Act.put _ (some 19) _) _;try simp only[Act.put,Ya,Yb,Yc]
 refine tkk 6 20 hHeld ?_;try simp only[Act.put,Ya,Yb,Yc]
 refine tkk 7 21 hHeld ?_;try simp only[Act.put,Ya,Yb,Yc]
 refine wpAnyH_take (i:=8) (v:=undef) rfl (by kernel_rfl) (by kernel_rfl) (by kernel_rfl) (fun _ _ _ h=>h) (Or.inr ⟨by rfl,rfl⟩) hHeld ?_;show wpAnyH _ _ _ _ _ _ _ (Act.put _ (some 22) _) _;try simp only[Act.put,Ya,Yb,Yc]
 refine wpAnyH_take (i:=9) (v:=undef) rfl (by kernel_rfl) (by kernel_rfl) (by kernel_rfl) (fun _ _ _ h=>h) (Or.inr ⟨by rfl,rfl⟩) hHeld ?_;show wpAnyH _ _ _ _ _ _ _ (Act.put _ (some 23) _) _;try simp only[Act.put,Ya,Yb,Yc]
 refine wpAnyH_take (i:=10) (v:=undef) rfl (by kernel_rfl) (by kernel_rfl) (by kernel_rfl) (fun _ _ _ h=>h) (Or.inr ⟨by rfl,rfl⟩) hHeld ?_;show wpAnyH _ _ _ _ _ _ _ (Act.put _ (some 24) _) _;try simp only[Act.put,Ya,Yb,Yc]
 refine wpAnyH_take (i:=11) (v:=undef) rfl (by kernel_rfl) (by kernel_rfl) (by kernel_rfl) (fun _ _ _ h=>h) (Or.inr ⟨by rfl,rfl⟩) hHeld ?_;show wpAnyH _ _ _ _ _ _ _ (Act.put _ (some 25) _) _;try simp only[Act.put,Ya,Yb,Yc]
 refine wpAnyH_take (i:=12) (v:=undef) rfl (by kernel_rfl) (by kernel_rfl) (by kernel_rfl) (fun _ _ _ h=>h) (Or.inr ⟨by rfl,rfl⟩) hHeld ?_;show wpAnyH _ _ _ _ _ _ _ (Act.put _ (some 26) _) _;try simp only[Act.put,Ya,Yb,Yc]
 refine wpAnyH_take (i:=13) (v:=undef) rfl (by kernel_rfl) (by kernel_rfl) (by kernel_rfl) (fun _ _ _ h=>h) (Or.inr ⟨by rfl,rfl⟩) hHeld ?_;show wpAnyH _ _ _ _ _ _ _ (Act.put _ (some 27) _) _;try simp only[Act.put,Ya,Yb,Yc]
 refine wpAnyH_take (i:=14) (v:=undef) rfl (by kernel_rfl) (by kernel_rfl) (by kernel_rfl) (fun _ _ _ h=>h) (Or.inr ⟨by rfl,rfl⟩) hHeld ?_;show wpAnyH _ _ _ _ _ _ _ (Act.put _ (some 28) _) _;try simp only[Act.put,Ya,Yb,Yc]
 refine tkk 15 29 hHeld ?_;try simp only[Act.put,Ya,Yb,Yc]
 refine tkk 16 30 hHeld ?_;try simp only[Act.put,Ya,Yb,Yc]
 refine wpAnyH_take (i:=17) (v:=undef) rfl (by kernel_rfl) (by kernel_rfl) (by kernel_rfl) (fun _ _ _ h=>h) (Or.inr ⟨by rfl,rfl⟩) hHeld ?_;show wpAnyH _ _ _ _ _ _ _ (Act.put _ (some 31) _) _;try simp only[Act.put,Ya,Yb,Yc]
 refine wpAnyH_take (i:=18) (v:=undef) rfl (by kernel_rfl) (by kernel_rfl) (by kernel_rfl) (fun _ _ _ h=>h) (Or.inr ⟨by rfl,rfl⟩) hHeld ?_;show wpAnyH _ _ _ _ _ _ _ (Act.put _ (some 32) _) _;try simp only[Act.put,Ya,Yb,Yc]
 refine wpAnyH_take (i:=19) (v:=undef) rfl (by kernel_rfl) (by kernel_rfl) (by kernel_rfl) (fun _ _ _ h=>h) (Or.inr ⟨by rfl,rfl⟩) hHeld ?_;show wpAnyH _ _ _ _ _ _ _ (Act.put _ (some 33) _) _;try simp only[Act.put,Ya,Yb,Yc]
 refine wpAnyH_take (i:=20) (v:=undef) rfl (by kernel_rfl) (by kernel_rfl) (by kernel_rfl) (fun _ _ _ h=>h) (Or.inr ⟨by rfl,rfl⟩) hHeld ?_;show wpAnyH _ _ _ _ _ _ _ (Act.put _ (some 34) _) _;try simp only[Act.put,Ya,Yb,Yc]
 refine wpAnyH_take (i:=21) (v:=undef) rfl (by kernel_rfl) (by kernel_rfl) (by kernel_rfl) (fun _ _ _ h=>h) (Or.inr ⟨by rfl,rfl⟩) hHeld ?_;show wpAnyH _ _ _ _ _ _ _ (Act.put _ (some 35) _) _;try simp only[Act.put,Ya,Yb,Yc]
 refine wpAnyH_take (i:=22) (v:=undef) rfl (by kernel_rfl) (by kernel_rfl) (by kernel_rfl) (fun _ _ _ h=>h) (Or.inr ⟨by rfl,rfl⟩) hHeld ?_;show wpAnyH _ _ _ _ _ _ _ (Act.put _ (some 36) _) _;try simp only[Act.put,Ya,Yb,Yc]
 refine wpAnyH_take (i:=23) (v:=undef) rfl (by kernel_rfl) (by kernel_rfl) (by kernel_rfl) (fun _ _ _ h=>h) (Or.inr ⟨by rfl,rfl⟩) hHeld ?_;show wpAnyH _ _ _ _ _ _ _ (Act.put _ (some 37) _) _;try simp only[Act.put,Ya,Yb,Yc]
 refine tkk 24 38 hHeld ?_;try simp only[Act.put,Ya,Yb,Yc]
 refine tkk 25 39 hHeld ?_;try simp only[Act.put,Ya,Yb,Yc]
 refine wpAnyH_take (i:=26) (v:=undef) rfl (by kernel_rfl) (by kernel_rfl) (by kernel_rfl) (fun _ _ _ h=>h) (Or.inr ⟨by rfl,rfl⟩) hHeld ?_;show wpAnyH _ _ _ _ _ _ _ (Act.put _ (some 40) _) _;try simp only[Act.put,Ya,Yb,Yc]
 refine wpAnyH_take (i:=27) (v:=undef) rfl (by kernel_rfl) (by kernel_rfl) (by kernel_rfl) (fun _ _ _ h=>h) (Or.inr ⟨by rfl,rfl⟩) hHeld ?_;show wpAnyH _ _ _ _ _ _ _ (Act.put _ (some 41) _) _;try simp only[Act.put,Ya,Yb,Yc]
 refine wpAnyH_take (i:=28) (v:=undef) rfl (by kernel_rfl) (by kernel_rfl) (by kernel_rfl) (fun _ _ _ h=>h) (Or.inr ⟨by rfl,rfl⟩) hHeld ?_;show wpAnyH _ _ _ _ _ _ _ (Act.put _ (some 42) _) _;try simp only[Act.put,Ya,Yb,Yc]
 refine wpAnyH_take (i:=29) (v:=undef) rfl (by kernel_rfl) (by kernel_rfl) (by kernel_rfl) (fun _ _ _ h=>h) (Or.inr ⟨by rfl,rfl⟩) hHeld ?_;show wpAnyH _ _ _ _ _ _ _ (Act.put _ (some 43) _) _;try simp only[Act.put,Ya,Yb,Yc]
 refine wpAnyH_take (i:=30) (v:=undef) rfl (by kernel_rfl) (by kernel_rfl) (by kernel_rfl) (fun _ _ _ h=>h) (Or.inr ⟨by rfl,rfl⟩) hHeld ?_;show wpAnyH _ _ _ _ _ _ _ (Act.put _ (some 44) _) _;try simp only[Act.put,Ya,Yb,Yc]
 refine wpAnyH_take (i:=31) (v:=undef) rfl (by kernel_rfl) (by kernel_rfl) (by kernel_rfl) (fun _ _ _ h=>h) (Or.inr ⟨by rfl,rfl⟩) hHeld ?_;show wpAnyH _ _ _ _ _ _ _ (Act.put _ (some 45) _) _;try simp only[Act.put,Ya,Yb,Yc]
 refine wpAnyH_take (i:=32) (v:=undef) rfl (by kernel_rfl) (by kernel_rfl) (by kernel_rfl) (fun _ _ _ h=>h) (Or.inr ⟨by rfl,rfl⟩) hHeld ?_;show wpAnyH _ _ _ _ _ _ _ (Act.put _ (some 46) _) _;try simp only[Act.put,Ya,Yb,Yc]
 refine tkk 33 47 hHeld ?_;try simp only[Act.put,Ya,Yb,Yc]
 refine tkk 34 2 hHeld ?_;try simp only[Act.put,Ya,Yb,Yc]
 refine wpAnyH_done (by kernel_rfl) ?_ _;clear hHeld;go_wp2_with fail
 go_ret;exact⟨rfl,(uq k0).drew⟩
set_option maxHeartbeats 4000000 in
theorem zi4 (K N P E M:Int) (n:Nat) (S:ByteArray) (w:World) (h1:(E==0)=true) (h2:((n:Int)==2)=false)
  (T1:Hid (∀ w' v,By w' v S.data.toList→Calls Tryz.prog 61 #[v] w' fun e w''=>∃ a cap,e= .returned (.tuple #[.slice a n cap,.int .i64 E,.int .i64 M])∧Keep w' w'')):
  Calls Tryz.prog 59 #[.agg #[.int .i64 K,.string S,.int .i64 N,.int .i64 P]] w fun e w'=>e= .returned (.bool false)∧Keep w w':=by
 obtain⟨cap,o,k1,hcv,hby⟩:=zdY (w.alloc (.cells #[.int .i64 K,.string S,.int .i64 N,.int .i64 P] 115)) S;have hcv2:=hcv 9 29 Tryz.underlying9 Tryz.underlying29;simp only[World.size_alloc]at hcv2 hby;have HBY:=hide hby;clear hcv hby;have k0:=hide (zab ((Keep.refl w).alloc (.cells #[.int .i64 K,.string S,.int .i64 N,.int .i64 P] 115)) #[o] k1);go_enter Tryz.func59,Tryz.ntmps59;go_wp2_with fail
 (refine((uq T1) _ _ (uq HBY)).mono ?_;rintro e w2 ⟨a,cp,rfl,hk⟩;replace k0:=hide ((uq k0).trans hk);clear hk);go_wp2_with fail
 refine wp_region_held_drew (S:=fun w'=>True) (by kernel_rfl) (by trivial) (fun hHeld=>?_);refine tkk 0 14 hHeld ?_;try simp only[Act.put,Ya,Yb,Yc]
 refine tkk 1 15 hHeld ?_;try simp only[Act.put,Ya,Yb,Yc]
 refine tkk 2 16 hHeld ?_;try simp only[Act.put,Ya,Yb,Yc]
 refine tkk 3 17 hHeld ?_;try simp only[Act.put,Ya,Yb,Yc]
 refine tkk 4 18 hHeld ?_;try simp only[Act.put,Ya,Yb,Yc]
 refine tkk 5 19 hHeld ?_;try simp only[Act.put,Ya,Yb,Yc]
 refine tkk 6 20 hHeld ?_;try simp only[Act.put,Ya,Yb,Yc]
 refine tkk 7 21 hHeld ?_;try simp only[Act.put,Ya,Yb,Yc]
 refine wpAnyH_take (i:=8) (v:=undef) rfl (by kernel_rfl) (by kernel_rfl) (by kernel_rfl) (fun _ _ _ h=>h) (Or.inr ⟨by rfl,rfl⟩) hHeld ?_;show wpAnyH _ _ _ _ _ _ _ (Act.put _ (some 22) _) _;try simp only[Act.put,Ya,Yb,Yc]
 refine wpAnyH_take (i:=9) (v:=undef) rfl (by kernel_rfl) (by kernel_rfl) (by kernel_rfl) (fun _ _ _ h=>h) (Or.inr ⟨by rfl,rfl⟩) hHeld ?_;show wpAnyH _ _ _ _ _ _ _ (Act.put _ (some 23) _) _;try simp only[Act.put,Ya,Yb,Yc]
 refine wpAnyH_take (i:=10) (v:=undef) rfl (by kernel_rfl) (by kernel_rfl) (by kernel_rfl) (fun _ _ _ h=>h) (Or.inr ⟨by rfl,rfl⟩) hHeld ?_;show wpAnyH _ _ _ _ _ _ _ (Act.put _ (some 24) _) _;try simp only[Act.put,Ya,Yb,Yc]
 refine wpAnyH_take (i:=11) (v:=undef) rfl (by kernel_rfl) (by kernel_rfl) (by kernel_rfl) (fun _ _ _ h=>h) (Or.inr ⟨by rfl,rfl⟩) hHeld ?_;show wpAnyH _ _ _ _ _ _ _ (Act.put _ (some 25) _) _;try simp only[Act.put,Ya,Yb,Yc]
 refine wpAnyH_take (i:=12) (v:=undef) rfl (by kernel_rfl) (by kernel_rfl) (by kernel_rfl) (fun _ _ _ h=>h) (Or.inr ⟨by rfl,rfl⟩) hHeld ?_;show wpAnyH _ _ _ _ _ _ _ (Act.put _ (some 26) _) _;try simp only[Act.put,Ya,Yb,Yc]
 refine wpAnyH_take (i:=13) (v:=undef) rfl (by kernel_rfl) (by kernel_rfl) (by kernel_rfl) (fun _ _ _ h=>h) (Or.inr ⟨by rfl,rfl⟩) hHeld ?_;show wpAnyH _ _ _ _ _ _ _ (Act.put _ (some 27) _) _;try simp only[Act.put,Ya,Yb,Yc]
 refine wpAnyH_take (i:=14) (v:=undef) rfl (by kernel_rfl) (by kernel_rfl) (by kernel_rfl) (fun _ _ _ h=>h) (Or.inr ⟨by rfl,rfl⟩) hHeld ?_;show wpAnyH _ _ _ _ _ _ _ (Act.put _ (some 28) _) _;try simp only[Act.put,Ya,Yb,Yc]
 refine tkk 15 29 hHeld ?_;try simp only[Act.put,Ya,Yb,Yc]
 refine tkk 16 30 hHeld ?_;try simp only[Act.put,Ya,Yb,Yc]
 refine wpAnyH_take (i:=17) (v:=undef) rfl (by kernel_rfl) (by kernel_rfl) (by kernel_rfl) (fun _ _ _ h=>h) (Or.inr ⟨by rfl,rfl⟩) hHeld ?_;show wpAnyH _ _ _ _ _ _ _ (Act.put _ (some 31) _) _;try simp only[Act.put,Ya,Yb,Yc]
 refine wpAnyH_take (i:=18) (v:=undef) rfl (by kernel_rfl) (by kernel_rfl) (by kernel_rfl) (fun _ _ _ h=>h) (Or.inr ⟨by rfl,rfl⟩) hHeld ?_;show wpAnyH _ _ _ _ _ _ _ (Act.put _ (some 32) _) _;try simp only[Act.put,Ya,Yb,Yc]
 refine wpAnyH_take (i:=19) (v:=undef) rfl (by kernel_rfl) (by kernel_rfl) (by kernel_rfl) (fun _ _ _ h=>h) (Or.inr ⟨by rfl,rfl⟩) hHeld ?_;show wpAnyH _ _ _ _ _ _ _ (Act.put _ (some 33) _) _;try simp only[Act.put,Ya,Yb,Yc]
 refine wpAnyH_take (i:=20) (v:=undef) rfl (by kernel_rfl) (by kernel_rfl) (by kernel_rfl) (fun _ _ _ h=>h) (Or.inr ⟨by rfl,rfl⟩) hHeld ?_;show wpAnyH _ _ _ _ _ _ _ (Act.put _ (some 34) _) _;try simp only[Act.put,Ya,Yb,Yc]
 refine wpAnyH_take (i:=21) (v:=undef) rfl (by kernel_rfl) (by kernel_rfl) (by kernel_rfl) (fun _ _ _ h=>h) (Or.inr ⟨by rfl,rfl⟩) hHeld ?_;show wpAnyH _ _ _ _ _ _ _ (Act.put _ (some 35) _) _;try simp only[Act.put,Ya,Yb,Yc]
 refine wpAnyH_take (i:=22) (v:=undef) rfl (by kernel_rfl) (by kernel_rfl) (by kernel_rfl) (fun _ _ _ h=>h) (Or.inr ⟨by rfl,rfl⟩) hHeld ?_;show wpAnyH _ _ _ _ _ _ _ (Act.put _ (some 36) _) _;try simp only[Act.put,Ya,Yb,Yc]
 refine wpAnyH_take (i:=23) (v:=undef) rfl (by kernel_rfl) (by kernel_rfl) (by kernel_rfl) (fun _ _ _ h=>h) (Or.inr ⟨by rfl,rfl⟩) hHeld ?_;show wpAnyH _ _ _ _ _ _ _ (Act.put _ (some 37) _) _;try simp only[Act.put,Ya,Yb,Yc]
 refine tkk 24 38 hHeld ?_;try simp only[Act.put,Ya,Yb,Yc]
 refine tkk 25 39 hHeld ?_;try simp only[Act.put,Ya,Yb,Yc]
 refine wpAnyH_take (i:=26) (v:=undef) rfl (by kernel_rfl) (by kernel_rfl) (by kernel_rfl) (fun _ _ _ h=>h) (Or.inr ⟨by rfl,rfl⟩) hHeld ?_;show wpAnyH _ _ _ _ _ _ _ (Act.put _ (some 40) _) _;try simp only[Act.put,Ya,Yb,Yc]
 refine wpAnyH_take (i:=27) (v:=undef) rfl (by kernel_rfl) (by kernel_rfl) (by kernel_rfl) (fun _ _ _ h=>h) (Or.inr ⟨by rfl,rfl⟩) hHeld ?_;show wpAnyH _ _ _ _ _ _ _ (Act.put _ (some 41) _) _;try simp only[Act.put,Ya,Yb,Yc]
 refine wpAnyH_take (i:=28) (v:=undef) rfl (by kernel_rfl) (by kernel_rfl) (by kernel_rfl) (fun _ _ _ h=>h) (Or.inr ⟨by rfl,rfl⟩) hHeld ?_;show wpAnyH _ _ _ _ _ _ _ (Act.put _ (some 42) _) _;try simp only[Act.put,Ya,Yb,Yc]
 refine wpAnyH_take (i:=29) (v:=undef) rfl (by kernel_rfl) (by kernel_rfl) (by kernel_rfl) (fun _ _ _ h=>h) (Or.inr ⟨by rfl,rfl⟩) hHeld ?_;show wpAnyH _ _ _ _ _ _ _ (Act.put _ (some 43) _) _;try simp only[Act.put,Ya,Yb,Yc]
 refine wpAnyH_take (i:=30) (v:=undef) rfl (by kernel_rfl) (by kernel_rfl) (by kernel_rfl) (fun _ _ _ h=>h) (Or.inr ⟨by rfl,rfl⟩) hHeld ?_;show wpAnyH _ _ _ _ _ _ _ (Act.put _ (some 44) _) _;try simp only[Act.put,Ya,Yb,Yc]
 refine wpAnyH_take (i:=31) (v:=undef) rfl (by kernel_rfl) (by kernel_rfl) (by kernel_rfl) (fun _ _ _ h=>h) (Or.inr ⟨by rfl,rfl⟩) hHeld ?_;show wpAnyH _ _ _ _ _ _ _ (Act.put _ (some 45) _) _;try simp only[Act.put,Ya,Yb,Yc]
 refine wpAnyH_take (i:=32) (v:=undef) rfl (by kernel_rfl) (by kernel_rfl) (by kernel_rfl) (fun _ _ _ h=>h) (Or.inr ⟨by rfl,rfl⟩) hHeld ?_;show wpAnyH _ _ _ _ _ _ _ (Act.put _ (some 46) _) _;try simp only[Act.put,Ya,Yb,Yc]
 refine tkk 33 47 hHeld ?_;try simp only[Act.put,Ya,Yb,Yc]
 refine tkk 34 2 hHeld ?_;try simp only[Act.put,Ya,Yb,Yc]
 refine wpAnyH_done (by kernel_rfl) ?_ _;clear hHeld;go_wp2_with fail
 go_ret;exact⟨rfl,(uq k0).drew⟩
set_option maxHeartbeats 4000000 in
theorem zi5 (K N P K2 N2 P2:Int) (S S2:ByteArray) (w:World) (hne:(K2==K)=false)
  (T1:Hid (∀ w' v,By w' v S.data.toList→Calls Tryz.prog 61 #[v] w' fun e w''=>∃ ad cap,e= .returned (.tuple #[.slice (some ad) 2 cap,.int .i64 0,.int .i64 0])∧(w''.cell? ad=some (.int .i64 K2)∧w''.cell? ⟨ad.block,ad.off+1,none⟩=some (.string S2)∧w''.cell? ⟨ad.block,ad.off+2,none⟩=some (.int .i64 N2)∧w''.cell? ⟨ad.block,ad.off+3,none⟩=some (.int .i64 P2))∧Keep w' w'')):
  Calls Tryz.prog 59 #[.agg #[.int .i64 K,.string S,.int .i64 N,.int .i64 P]] w fun e w'=>e= .returned (.bool false)∧Keep w w':=by
 obtain⟨cap,o,k1,hcv,hby⟩:=zdY (w.alloc (.cells #[.int .i64 K,.string S,.int .i64 N,.int .i64 P] 115)) S;have hcv2:=hcv 9 29 Tryz.underlying9 Tryz.underlying29;simp only[World.size_alloc]at hcv2 hby;have HBY:=hide hby;clear hcv hby;go_enter Tryz.func59,Tryz.ntmps59;go_wp2_with fail
 (refine((uq T1) _ _ (uq HBY)).mono ?_;rintro e w2 ⟨ad,cp,rfl,⟨c0,c1,c2,c3⟩,hk⟩;obtain⟨os,k2,rfl⟩:=hk.ext;clear hk);have k0:=hide (zab ((Keep.refl w).alloc (.cells #[.int .i64 K,.string S,.int .i64 N,.int .i64 P] 115)) (#[o]++os) k2);simp only[zcN]at c0 c1 c2 c3;go_wp2_with fail
 refine wp_region_held_drew (S:=fun w'=>w'.cell? ad=some (.int .i64 K2)∧w'.cell? ⟨ad.block,ad.off+1,none⟩=some (.string S2)∧w'.cell? ⟨ad.block,ad.off+2,none⟩=some (.int .i64 N2)∧w'.cell? ⟨ad.block,ad.off+3,none⟩=some (.int .i64 P2)∧w'.cell? ⟨w.heap.size,0,none⟩=some (.int .i64 K)∧w'.cell? ⟨w.heap.size,1,none⟩=some (.string S)∧w'.cell? ⟨w.heap.size,2,none⟩=some (.int .i64 N)∧w'.cell? ⟨w.heap.size,3,none⟩=some (.int .i64 P)) (by kernel_rfl) (by exact⟨c0,c1,c2,c3,by simp[go_sem],by simp[go_sem],by simp[go_sem],by simp[go_sem]⟩) (fun hHeld=>?_);refine tkk 0 14 hHeld ?_;try simp only[Act.put,Ya,Yb,Yc]
 refine tkk 1 15 hHeld ?_;try simp only[Act.put,Ya,Yb,Yc]
 refine tkk 2 16 hHeld ?_;try simp only[Act.put,Ya,Yb,Yc]
 refine tkk 3 17 hHeld ?_;try simp only[Act.put,Ya,Yb,Yc]
 refine tkk 4 18 hHeld ?_;try simp only[Act.put,Ya,Yb,Yc]
 refine tkk 5 19 hHeld ?_;try simp only[Act.put,Ya,Yb,Yc]
 refine tkk 6 20 hHeld ?_;try simp only[Act.put,Ya,Yb,Yc]
 refine tkk 7 21 hHeld ?_;try simp only[Act.put,Ya,Yb,Yc]
 refine tkk 8 22 hHeld ?_;try simp only[Act.put,Ya,Yb,Yc]
 refine tkk 9 23 hHeld ?_;try simp only[Act.put,Ya,Yb,Yc]
 refine tkk 10 24 hHeld ?_;try simp only[Act.put,Ya,Yb,Yc]
 refine tkk 11 25 hHeld ?_;try simp only[Act.put,Ya,Yb,Yc]
 refine tkk 12 26 hHeld ?_;try simp only[Act.put,Ya,Yb,Yc]
 refine tkk 13 27 hHeld ?_;try simp only[Act.put,Ya,Yb,Yc]
 refine tkk 14 28 hHeld ?_;try simp only[Act.put,Ya,Yb,Yc]
 refine tkk 15 29 hHeld ?_;try simp only[Act.put,Ya,Yb,Yc]
 refine tkk 16 30 hHeld ?_;try simp only[Act.put,Ya,Yb,Yc]
 refine wpAnyH_take (i:=17) (v:=undef) rfl (by kernel_rfl) (by kernel_rfl) (by kernel_rfl) (fun _ _ _ h=>h) (Or.inr ⟨by rfl,rfl⟩) hHeld ?_;show wpAnyH _ _ _ _ _ _ _ (Act.put _ (some 31) _) _;try simp only[Act.put,Ya,Yb,Yc]
 refine wpAnyH_take (i:=18) (v:=undef) rfl (by kernel_rfl) (by kernel_rfl) (by kernel_rfl) (fun _ _ _ h=>h) (Or.inr ⟨by rfl,rfl⟩) hHeld ?_;show wpAnyH _ _ _ _ _ _ _ (Act.put _ (some 32) _) _;try simp only[Act.put,Ya,Yb,Yc]
 refine wpAnyH_take (i:=19) (v:=undef) rfl (by kernel_rfl) (by kernel_rfl) (by kernel_rfl) (fun _ _ _ h=>h) (Or.inr ⟨by rfl,rfl⟩) hHeld ?_;show wpAnyH _ _ _ _ _ _ _ (Act.put _ (some 33) _) _;try simp only[Act.put,Ya,Yb,Yc]
 refine wpAnyH_take (i:=20) (v:=undef) rfl (by kernel_rfl) (by kernel_rfl) (by kernel_rfl) (fun _ _ _ h=>h) (Or.inr ⟨by rfl,rfl⟩) hHeld ?_;show wpAnyH _ _ _ _ _ _ _ (Act.put _ (some 34) _) _;try simp only[Act.put,Ya,Yb,Yc]
 refine wpAnyH_take (i:=21) (v:=undef) rfl (by kernel_rfl) (by kernel_rfl) (by kernel_rfl) (fun _ _ _ h=>h) (Or.inr ⟨by rfl,rfl⟩) hHeld ?_;show wpAnyH _ _ _ _ _ _ _ (Act.put _ (some 35) _) _;try simp only[Act.put,Ya,Yb,Yc]
 refine wpAnyH_take (i:=22) (v:=undef) rfl (by kernel_rfl) (by kernel_rfl) (by kernel_rfl) (fun _ _ _ h=>h) (Or.inr ⟨by rfl,rfl⟩) hHeld ?_;show wpAnyH _ _ _ _ _ _ _ (Act.put _ (some 36) _) _;try simp only[Act.put,Ya,Yb,Yc]
 refine wpAnyH_take (i:=23) (v:=undef) rfl (by kernel_rfl) (by kernel_rfl) (by kernel_rfl) (fun _ _ _ h=>h) (Or.inr ⟨by rfl,rfl⟩) hHeld ?_;show wpAnyH _ _ _ _ _ _ _ (Act.put _ (some 37) _) _;try simp only[Act.put,Ya,Yb,Yc]
 refine tkk 24 38 hHeld ?_;try simp only[Act.put,Ya,Yb,Yc]
 refine tkk 25 39 hHeld ?_;try simp only[Act.put,Ya,Yb,Yc]
 refine wpAnyH_take (i:=26) (v:=undef) rfl (by kernel_rfl) (by kernel_rfl) (by kernel_rfl) (fun _ _ _ h=>h) (Or.inr ⟨by rfl,rfl⟩) hHeld ?_;show wpAnyH _ _ _ _ _ _ _ (Act.put _ (some 40) _) _;try simp only[Act.put,Ya,Yb,Yc]
 refine wpAnyH_take (i:=27) (v:=undef) rfl (by kernel_rfl) (by kernel_rfl) (by kernel_rfl) (fun _ _ _ h=>h) (Or.inr ⟨by rfl,rfl⟩) hHeld ?_;show wpAnyH _ _ _ _ _ _ _ (Act.put _ (some 41) _) _;try simp only[Act.put,Ya,Yb,Yc]
 refine wpAnyH_take (i:=28) (v:=undef) rfl (by kernel_rfl) (by kernel_rfl) (by kernel_rfl) (fun _ _ _ h=>h) (Or.inr ⟨by rfl,rfl⟩) hHeld ?_;show wpAnyH _ _ _ _ _ _ _ (Act.put _ (some 42) _) _;try simp only[Act.put,Ya,Yb,Yc]
 refine wpAnyH_take (i:=29) (v:=undef) rfl (by kernel_rfl) (by kernel_rfl) (by kernel_rfl) (fun _ _ _ h=>h) (Or.inr ⟨by rfl,rfl⟩) hHeld ?_;show wpAnyH _ _ _ _ _ _ _ (Act.put _ (some 43) _) _;try simp only[Act.put,Ya,Yb,Yc]
 refine wpAnyH_take (i:=30) (v:=undef) rfl (by kernel_rfl) (by kernel_rfl) (by kernel_rfl) (fun _ _ _ h=>h) (Or.inr ⟨by rfl,rfl⟩) hHeld ?_;show wpAnyH _ _ _ _ _ _ _ (Act.put _ (some 44) _) _;try simp only[Act.put,Ya,Yb,Yc]
 refine wpAnyH_take (i:=31) (v:=undef) rfl (by kernel_rfl) (by kernel_rfl) (by kernel_rfl) (fun _ _ _ h=>h) (Or.inr ⟨by rfl,rfl⟩) hHeld ?_;show wpAnyH _ _ _ _ _ _ _ (Act.put _ (some 45) _) _;try simp only[Act.put,Ya,Yb,Yc]
 refine wpAnyH_take (i:=32) (v:=undef) rfl (by kernel_rfl) (by kernel_rfl) (by kernel_rfl) (fun _ _ _ h=>h) (Or.inr ⟨by rfl,rfl⟩) hHeld ?_;show wpAnyH _ _ _ _ _ _ _ (Act.put _ (some 46) _) _;try simp only[Act.put,Ya,Yb,Yc]
 refine tkk 33 47 hHeld ?_;try simp only[Act.put,Ya,Yb,Yc]
 refine tkk 34 2 hHeld ?_;try simp only[Act.put,Ya,Yb,Yc]
 refine wpAnyH_done (by kernel_rfl) ?_ _;clear hHeld;go_wp2_with fail
 go_ret;exact⟨rfl,(uq k0).drew⟩
set_option maxHeartbeats 4000000 in
theorem zi6 (K N P N2 P2:Int) (S S2:ByteArray) (w:World) (hne:(N2==N)=false)
  (T1:Hid (∀ w' v,By w' v S.data.toList→Calls Tryz.prog 61 #[v] w' fun e w''=>∃ ad cap,e= .returned (.tuple #[.slice (some ad) 2 cap,.int .i64 0,.int .i64 0])∧(w''.cell? ad=some (.int .i64 K)∧w''.cell? ⟨ad.block,ad.off+1,none⟩=some (.string S2)∧w''.cell? ⟨ad.block,ad.off+2,none⟩=some (.int .i64 N2)∧w''.cell? ⟨ad.block,ad.off+3,none⟩=some (.int .i64 P2))∧Keep w' w'')):
  Calls Tryz.prog 59 #[.agg #[.int .i64 K,.string S,.int .i64 N,.int .i64 P]] w fun e w'=>e= .returned (.bool false)∧Keep w w':=by
 obtain⟨cap,o,k1,hcv,hby⟩:=zdY (w.alloc (.cells #[.int .i64 K,.string S,.int .i64 N,.int .i64 P] 115)) S;have hcv2:=hcv 9 29 Tryz.underlying9 Tryz.underlying29;simp only[World.size_alloc]at hcv2 hby;have HBY:=hide hby;clear hcv hby;go_enter Tryz.func59,Tryz.ntmps59;go_wp2_with fail
 (refine((uq T1) _ _ (uq HBY)).mono ?_;rintro e w2 ⟨ad,cp,rfl,⟨c0,c1,c2,c3⟩,hk⟩;obtain⟨os,k2,rfl⟩:=hk.ext;clear hk);have k0:=hide (zab ((Keep.refl w).alloc (.cells #[.int .i64 K,.string S,.int .i64 N,.int .i64 P] 115)) (#[o]++os) k2);simp only[zcN]at c0 c1 c2 c3;go_wp2_with fail
 refine wp_region_held_drew (S:=fun w'=>w'.cell? ad=some (.int .i64 K)∧w'.cell? ⟨ad.block,ad.off+1,none⟩=some (.string S2)∧w'.cell? ⟨ad.block,ad.off+2,none⟩=some (.int .i64 N2)∧w'.cell? ⟨ad.block,ad.off+3,none⟩=some (.int .i64 P2)∧w'.cell? ⟨w.heap.size,0,none⟩=some (.int .i64 K)∧w'.cell? ⟨w.heap.size,1,none⟩=some (.string S)∧w'.cell? ⟨w.heap.size,2,none⟩=some (.int .i64 N)∧w'.cell? ⟨w.heap.size,3,none⟩=some (.int .i64 P)) (by kernel_rfl) (by exact⟨c0,c1,c2,c3,by simp[go_sem],by simp[go_sem],by simp[go_sem],by simp[go_sem]⟩) (fun hHeld=>?_);refine tkk 0 14 hHeld ?_;try simp only[Act.put,Ya,Yb,Yc]
 refine tkk 1 15 hHeld ?_;try simp only[Act.put,Ya,Yb,Yc]
 refine tkk 2 16 hHeld ?_;try simp only[Act.put,Ya,Yb,Yc]
 refine tkk 3 17 hHeld ?_;try simp only[Act.put,Ya,Yb,Yc]
 refine tkk 4 18 hHeld ?_;try simp only[Act.put,Ya,Yb,Yc]
 refine tkk 5 19 hHeld ?_;try simp only[Act.put,Ya,Yb,Yc]
 refine tkk 6 20 hHeld ?_;try simp only[Act.put,Ya,Yb,Yc]
 refine tkk 7 21 hHeld ?_;try simp only[Act.put,Ya,Yb,Yc]
 refine tkk 8 22 hHeld ?_;try simp only[Act.put,Ya,Yb,Yc]
 refine tkk 9 23 hHeld ?_;try simp only[Act.put,Ya,Yb,Yc]
 refine tkk 10 24 hHeld ?_;try simp only[Act.put,Ya,Yb,Yc]
 refine tkk 11 25 hHeld ?_;try simp only[Act.put,Ya,Yb,Yc]
 refine tkk 12 26 hHeld ?_;try simp only[Act.put,Ya,Yb,Yc]
 refine tkk 13 27 hHeld ?_;try simp only[Act.put,Ya,Yb,Yc]
 refine tkk 14 28 hHeld ?_;try simp only[Act.put,Ya,Yb,Yc]
 refine tkk 15 29 hHeld ?_;try simp only[Act.put,Ya,Yb,Yc]
 refine tkk 16 30 hHeld ?_;try simp only[Act.put,Ya,Yb,Yc]
 refine tkk 17 31 hHeld ?_;try simp only[Act.put,Ya,Yb,Yc]
 refine tkk 18 32 hHeld ?_;try simp only[Act.put,Ya,Yb,Yc]
 refine tkk 19 33 hHeld ?_;try simp only[Act.put,Ya,Yb,Yc]
 refine tkk 20 34 hHeld ?_;try simp only[Act.put,Ya,Yb,Yc]
 refine tkk 21 35 hHeld ?_;try simp only[Act.put,Ya,Yb,Yc]
 refine tkk 22 36 hHeld ?_;try simp only[Act.put,Ya,Yb,Yc]
 refine tkk 23 37 hHeld ?_;try simp only[Act.put,Ya,Yb,Yc]
 refine tkk 24 38 hHeld ?_;try simp only[Act.put,Ya,Yb,Yc]
 refine tkk 25 39 hHeld ?_;try simp only[Act.put,Ya,Yb,Yc]
 refine wpAnyH_take (i:=26) (v:=undef) rfl (by kernel_rfl) (by kernel_rfl) (by kernel_rfl) (fun _ _ _ h=>h) (Or.inr ⟨by rfl,rfl⟩) hHeld ?_;show wpAnyH _ _ _ _ _ _ _ (Act.put _ (some 40) _) _;try simp only[Act.put,Ya,Yb,Yc]
 refine wpAnyH_take (i:=27) (v:=undef) rfl (by kernel_rfl) (by kernel_rfl) (by kernel_rfl) (fun _ _ _ h=>h) (Or.inr ⟨by rfl,rfl⟩) hHeld ?_;show wpAnyH _ _ _ _ _ _ _ (Act.put _ (some 41) _) _;try simp only[Act.put,Ya,Yb,Yc]
 refine wpAnyH_take (i:=28) (v:=undef) rfl (by kernel_rfl) (by kernel_rfl) (by kernel_rfl) (fun _ _ _ h=>h) (Or.inr ⟨by rfl,rfl⟩) hHeld ?_;show wpAnyH _ _ _ _ _ _ _ (Act.put _ (some 42) _) _;try simp only[Act.put,Ya,Yb,Yc]
 refine wpAnyH_take (i:=29) (v:=undef) rfl (by kernel_rfl) (by kernel_rfl) (by kernel_rfl) (fun _ _ _ h=>h) (Or.inr ⟨by rfl,rfl⟩) hHeld ?_;show wpAnyH _ _ _ _ _ _ _ (Act.put _ (some 43) _) _;try simp only[Act.put,Ya,Yb,Yc]
 refine wpAnyH_take (i:=30) (v:=undef) rfl (by kernel_rfl) (by kernel_rfl) (by kernel_rfl) (fun _ _ _ h=>h) (Or.inr ⟨by rfl,rfl⟩) hHeld ?_;show wpAnyH _ _ _ _ _ _ _ (Act.put _ (some 44) _) _;try simp only[Act.put,Ya,Yb,Yc]
 refine wpAnyH_take (i:=31) (v:=undef) rfl (by kernel_rfl) (by kernel_rfl) (by kernel_rfl) (fun _ _ _ h=>h) (Or.inr ⟨by rfl,rfl⟩) hHeld ?_;show wpAnyH _ _ _ _ _ _ _ (Act.put _ (some 45) _) _;try simp only[Act.put,Ya,Yb,Yc]
 refine wpAnyH_take (i:=32) (v:=undef) rfl (by kernel_rfl) (by kernel_rfl) (by kernel_rfl) (fun _ _ _ h=>h) (Or.inr ⟨by rfl,rfl⟩) hHeld ?_;show wpAnyH _ _ _ _ _ _ _ (Act.put _ (some 46) _) _;try simp only[Act.put,Ya,Yb,Yc]
 refine tkk 33 47 hHeld ?_;try simp only[Act.put,Ya,Yb,Yc]
 refine tkk 34 2 hHeld ?_;try simp only[Act.put,Ya,Yb,Yc]
 refine wpAnyH_done (by kernel_rfl) ?_ _;clear hHeld;go_wp2_with fail
 go_ret;exact⟨rfl,(uq k0).drew⟩
set_option maxHeartbeats 4000000 in
theorem zi7 (K N P P2:Int) (S S2:ByteArray) (b:Bool) (w:World) (hne:(S2.toList==S.toList)=b)
  (T1:Hid (∀ w' v,By w' v S.data.toList→Calls Tryz.prog 61 #[v] w' fun e w''=>∃ ad cap,e= .returned (.tuple #[.slice (some ad) 2 cap,.int .i64 0,.int .i64 0])∧(w''.cell? ad=some (.int .i64 K)∧w''.cell? ⟨ad.block,ad.off+1,none⟩=some (.string S2)∧w''.cell? ⟨ad.block,ad.off+2,none⟩=some (.int .i64 N)∧w''.cell? ⟨ad.block,ad.off+3,none⟩=some (.int .i64 P2))∧Keep w' w'')):
  Calls Tryz.prog 59 #[.agg #[.int .i64 K,.string S,.int .i64 N,.int .i64 P]] w fun e w'=>e= .returned (.bool b)∧Keep w w':=by
 obtain⟨cap,o,k1,hcv,hby⟩:=zdY (w.alloc (.cells #[.int .i64 K,.string S,.int .i64 N,.int .i64 P] 115)) S;have hcv2:=hcv 9 29 Tryz.underlying9 Tryz.underlying29;simp only[World.size_alloc]at hcv2 hby;have HBY:=hide hby;clear hcv hby;go_enter Tryz.func59,Tryz.ntmps59;go_wp2_with fail
 (refine((uq T1) _ _ (uq HBY)).mono ?_;rintro e w2 ⟨ad,cp,rfl,⟨c0,c1,c2,c3⟩,hk⟩;obtain⟨os,k2,rfl⟩:=hk.ext;clear hk);have k0:=hide (zab ((Keep.refl w).alloc (.cells #[.int .i64 K,.string S,.int .i64 N,.int .i64 P] 115)) (#[o]++os) k2);simp only[zcN]at c0 c1 c2 c3;go_wp2_with fail
 refine wp_region_held_drew (S:=fun w'=>w'.cell? ad=some (.int .i64 K)∧w'.cell? ⟨ad.block,ad.off+1,none⟩=some (.string S2)∧w'.cell? ⟨ad.block,ad.off+2,none⟩=some (.int .i64 N)∧w'.cell? ⟨ad.block,ad.off+3,none⟩=some (.int .i64 P2)∧w'.cell? ⟨w.heap.size,0,none⟩=some (.int .i64 K)∧w'.cell? ⟨w.heap.size,1,none⟩=some (.string S)∧w'.cell? ⟨w.heap.size,2,none⟩=some (.int .i64 N)∧w'.cell? ⟨w.heap.size,3,none⟩=some (.int .i64 P)) (by kernel_rfl) (by exact⟨c0,c1,c2,c3,by simp[go_sem],by simp[go_sem],by simp[go_sem],by simp[go_sem]⟩) (fun hHeld=>?_);refine tkk 0 14 hHeld ?_;try simp only[Act.put,Ya,Yb,Yc]
 refine tkk 1 15 hHeld ?_;try simp only[Act.put,Ya,Yb,Yc]
 refine tkk 2 16 hHeld ?_;try simp only[Act.put,Ya,Yb,Yc]
 refine tkk 3 17 hHeld ?_;try simp only[Act.put,Ya,Yb,Yc]
 refine tkk 4 18 hHeld ?_;try simp only[Act.put,Ya,Yb,Yc]
 refine tkk 5 19 hHeld ?_;try simp only[Act.put,Ya,Yb,Yc]
 refine tkk 6 20 hHeld ?_;try simp only[Act.put,Ya,Yb,Yc]
 refine tkk 7 21 hHeld ?_;try simp only[Act.put,Ya,Yb,Yc]
 refine tkk 8 22 hHeld ?_;try simp only[Act.put,Ya,Yb,Yc]
 refine tkk 9 23 hHeld ?_;try simp only[Act.put,Ya,Yb,Yc]
 refine tkk 10 24 hHeld ?_;try simp only[Act.put,Ya,Yb,Yc]
 refine tkk 11 25 hHeld ?_;try simp only[Act.put,Ya,Yb,Yc]
 refine tkk 12 26 hHeld ?_;try simp only[Act.put,Ya,Yb,Yc]
 refine tkk 13 27 hHeld ?_;try simp only[Act.put,Ya,Yb,Yc]
 refine tkk 14 28 hHeld ?_;try simp only[Act.put,Ya,Yb,Yc]
 refine tkk 15 29 hHeld ?_;try simp only[Act.put,Ya,Yb,Yc]
 refine tkk 16 30 hHeld ?_;try simp only[Act.put,Ya,Yb,Yc]
 refine tkk 17 31 hHeld ?_;try simp only[Act.put,Ya,Yb,Yc]
 refine tkk 18 32 hHeld ?_;try simp only[Act.put,Ya,Yb,Yc]
 refine tkk 19 33 hHeld ?_;try simp only[Act.put,Ya,Yb,Yc]
 refine tkk 20 34 hHeld ?_;try simp only[Act.put,Ya,Yb,Yc]
 refine tkk 21 35 hHeld ?_;try simp only[Act.put,Ya,Yb,Yc]
 refine tkk 22 36 hHeld ?_;try simp only[Act.put,Ya,Yb,Yc]
 refine tkk 23 37 hHeld ?_;try simp only[Act.put,Ya,Yb,Yc]
 refine tkk 24 38 hHeld ?_;try simp only[Act.put,Ya,Yb,Yc]
 refine tkk 25 39 hHeld ?_;try simp only[Act.put,Ya,Yb,Yc]
 refine tkk 26 40 hHeld ?_;try simp only[Act.put,Ya,Yb,Yc]
 refine tkk 27 41 hHeld ?_;try simp only[Act.put,Ya,Yb,Yc]
 refine tkk 28 42 hHeld ?_;try simp only[Act.put,Ya,Yb,Yc]
 refine tkk 29 43 hHeld ?_;try simp only[Act.put,Ya,Yb,Yc]
 refine tkk 30 44 hHeld ?_;try simp only[Act.put,Ya,Yb,Yc]
 refine tkk 31 45 hHeld ?_;try simp only[Act.put,Ya,Yb,Yc]
 refine tkk 32 46 hHeld ?_;try simp only[Act.put,Ya,Yb,Yc]
 refine tkk 33 47 hHeld ?_;try simp only[Act.put,Ya,Yb,Yc]
 refine tkk 34 2 hHeld ?_;try simp only[Act.put,Ya,Yb,Yc]
 refine wpAnyH_done (by kernel_rfl) ?_ _;clear hHeld;go_wp2_with fail
 go_ret;exact⟨rfl,(uq k0).drew⟩
end Go.Proofs.YtfepanidippjlaaGreatDoor
namespace Go.Proofs.YtfepanidippjlaaGreatDoor
open Go.RowKit
set_option linter.unusedVariables false
set_option linter.unusedSimpArgs false
set_option maxRecDepth 10000
theorem zcr (l:List UInt8):(sv l).data.toList=l:=rfl
theorem zgc (l:List UInt8):(sv l).toList=l:=ByteArray.toList_mk l
theorem zmi {t x y:Tok} (h:T t.s= .ok [x,y]):rg t=(decide (x.k=t.k)&&decide (x.n=t.n)&&decide (x.s=t.s)):=by unfold rg;rw[h]
theorem zgd {t:Tok} (h:∀ x y,T t.s≠ .ok [x,y]):rg t=false:=by
 unfold rg
 split
 ·rename_i x y hx;exact absurd hx (h x y)
 ·rfl
theorem zka {w:World} {v:Value} {x y:Tok} (h:Ts w v [x,y]):∃ ad cap,v= .slice (some ad) 2 cap∧ad.block<w.heap.size∧Tc w ad x:=by
 obtain⟨a,cap,rfl,_,h⟩:=h;obtain⟨ad,rfl,hb,h1⟩:=h 0 (by simp);have e:ad.add (0 * 4)=ad:=by simp[Addr.add]
 rw[e]at h1;exact⟨ad,cap,rfl,hb,h1⟩
theorem zhr (t:Tok) (w:World) (hl:t.s.length≤70000):Calls Tryz.prog 86 #[tv t] w fun e w'=>e= .returned (.bool (rg t))∧Keep w w':=by
 have A:∀ w' v,By w' v (sv t.s).data.toList→Calls Tryz.prog 71 #[v] w' (Tp (T t.s) w'):=fun w' v h=>zfL v _ w' hl h
 cases hT:T t.s with
 |error y=>
  obtain⟨e,a⟩:=y;rw[hT]at A;rw[zgd (fun x y h=>by rw[hT]at h;cases h)];have he:=(zot hT).1;refine zeq _ _ _ e a 0 _ w (.inl (by simp;omega)) (hide fun w' v h=>(A w' v h).mono ?_);rintro _ w'' ⟨u,rfl,h1,_,h3⟩;obtain⟨b,cap,rfl⟩:=h1.shape;exact⟨b,cap,rfl,h3⟩
 |ok L=>
  rw[hT]at A;by_cases h2:L.length=2
  ·obtain⟨x,y,rfl⟩:∃ x y,L= [x,y]:=by
    match L,h2 with
    | [x,y],_=>exact⟨x,y,rfl⟩
   rw[zmi hT];have B:∀ w' v,By w' v (sv t.s).data.toList→Calls Tryz.prog 71 #[v] w' fun e w''=>∃ ad cap,e= .returned (.tuple #[.slice (some ad) 2 cap,.int .i64 0,.int .i64 0])∧w'.heap.size≤ad.block∧ad.block<w''.heap.size∧Tc w'' ad x∧Keep w' w'':=fun w' v h=>(A w' v h).mono (by
    rintro _ w'' ⟨u,rfl,h1,h2,h3⟩;obtain⟨ad,cap,rfl,hb,hc⟩:=zka h1;exact⟨ad,cap,rfl,h2 ad _ _ rfl,hb,hc,h3⟩)
   by_cases hk:x.k=t.k
   ·by_cases hs:x.s=t.s
    ·have hp:=zp3 hT hs;by_cases hn:x.n=t.n
     ·have e:(decide (x.k=t.k)&&decide (x.n=t.n)&&decide (x.s=t.s))=true:=by simp[hk,hs,hn]
      rw[e];unfold Tc at B
      rw[hk,hs,hn,hp]at B;exact zi3 _ _ _ _ w (hide B)
     ·have e:(decide (x.k=t.k)&&decide (x.n=t.n)&&decide (x.s=t.s))=false:=by simp[hn]
      rw[e];unfold Tc at B
      rw[hk,hs]at B;exact zmh _ _ _ _ _ _ w hn (hide B)
    ·have e:(decide (x.k=t.k)&&decide (x.n=t.n)&&decide (x.s=t.s))=false:=by simp[hs]
     rw[e];unfold Tc at B
     rw[hk]at B;exact zmg _ _ _ _ _ _ _ w (by rw[zgc,zgc];exact hs) (hide B)
   ·have e:(decide (x.k=t.k)&&decide (x.n=t.n)&&decide (x.s=t.s))=false:=by simp[hk]
    rw[e];exact zmf _ _ _ _ _ _ _ _ w hk (hide B)
  ·rw[zgd (fun x y h=>by rw[hT]at h;simp only[Except.ok.injEq]at h;rw[h]at h2;exact h2 rfl)];refine zeq _ _ _ 0 0 L.length _ w (.inr ⟨rfl,by simp;omega⟩) (hide fun w' v h=>(A w' v h).mono ?_);rintro _ w'' ⟨u,rfl,h1,_,h3⟩;obtain⟨b,cap,rfl⟩:=h1.shape;exact⟨b,cap,rfl,h3⟩
theorem zge (t:Tok) (w:World) (hl:t.s.length≤70000):Calls Tryz.prog 59 #[tv t] w fun e w'=>e= .returned (.bool (rg t))∧Keep w w':=by
 have A:∀ w' v,By w' v (sv t.s).data.toList→Calls Tryz.prog 61 #[v] w' (Tp (T t.s) w'):=fun w' v h=>zdR v _ w' hl h
 cases hT:T t.s with
 |error y=>
  obtain⟨e,a⟩:=y;rw[hT]at A;rw[zgd (fun x y h=>by rw[hT]at h;cases h)];have he:=(zot hT).1;refine zfN _ _ _ e a 0 _ w (by simp;omega) (hide fun w' v h=>(A w' v h).mono ?_);rintro _ w'' ⟨u,rfl,h1,_,h3⟩;obtain⟨b,cap,rfl⟩:=h1.shape;exact⟨b,cap,rfl,h3⟩
 |ok L=>
  rw[hT]at A;by_cases h2:L.length=2
  ·obtain⟨x,y,rfl⟩:∃ x y,L= [x,y]:=by
    match L,h2 with
    | [x,y],_=>exact⟨x,y,rfl⟩
   rw[zmi hT];have B:∀ w' v,By w' v (sv t.s).data.toList→Calls Tryz.prog 61 #[v] w' fun e w''=>∃ ad cap,e= .returned (.tuple #[.slice (some ad) 2 cap,.int .i64 0,.int .i64 0])∧Tc w'' ad x∧Keep w' w'':=fun w' v h=>(A w' v h).mono (by
    rintro _ w'' ⟨u,rfl,h1,h2,h3⟩;obtain⟨ad,cap,rfl,hb,hc⟩:=zka h1;exact⟨ad,cap,rfl,hc,h3⟩)
   by_cases hk:x.k=t.k
   ·by_cases hn:x.n=t.n
    ·have e:(decide (x.k=t.k)&&decide (x.n=t.n)&&decide (x.s=t.s))=decide (x.s=t.s):=by simp[hk,hn]
     rw[e];unfold Tc at B
     rw[hk,hn]at B;exact zi7 _ _ _ _ _ _ _ w (by rw[zgc,zgc,Bool.eq_iff_iff];simp) (hide B)
    ·have e:(decide (x.k=t.k)&&decide (x.n=t.n)&&decide (x.s=t.s))=false:=by simp[hn]
     rw[e];unfold Tc at B
     rw[hk]at B;exact zi6 _ _ _ _ _ _ _ w (by simpa using hn) (hide B)
   ·have e:(decide (x.k=t.k)&&decide (x.n=t.n)&&decide (x.s=t.s))=false:=by simp[hk]
    rw[e];exact zi5 _ _ _ _ _ _ _ _ w (by simpa using hk) (hide B)
  ·rw[zgd (fun x y h=>by rw[hT]at h;simp only[Except.ok.injEq]at h;rw[h]at h2;exact h2 rfl)];refine zi4 _ _ _ 0 0 L.length _ w rfl (by simp;omega) (hide fun w' v h=>(A w' v h).mono ?_);rintro _ w'' ⟨u,rfl,h1,_,h3⟩;obtain⟨b,cap,rfl⟩:=h1.shape;exact⟨b,cap,rfl,h3⟩
end Go.Proofs.YtfepanidippjlaaGreatDoor
