/- Package valid: foes. -/
import Derived.Test.YthbfohohelflnaaVHd
import Derived.Maps.OwnOps
import Derived.Deep.DrawnRows
import Derived.Deep.RegionHeld3
namespace Go.Proofs.Ythbfohohelflnaa
open Go.RowKit Go.Maps
attribute [local go_sem ↓] Go.wp_at_zero Go.wp_at_succ
set_option linter.unusedVariables false
set_option linter.unusedSimpArgs false
set_option maxRecDepth 10000
namespace V
def foF (T U:Nat→List UInt8) (M:List (List UInt8×Int)) (P:Nat→Int) (k:Nat):Eq2:=if hs M (T k)then(if hs M (U k)then(if lk M (T k)=lk M (U k)then some (75,P k)else none)else some (72,P k))else some (72,P k)
theorem Mp.own {w:World} {b:Nat} {M:List (List UInt8×Int)} (h:Mp w b M):∃ D:DataW Unit,w.ownsMap Try.prog 9 (plainElem Try.prog 3) b M.length D∧∀(s:List UInt8) (c:Int),D.atKey (.string s) (.lit (.int .i64 0))= .lit (.int .i64 c)→c=lk M s:=by
 obtain⟨D,h1,h2,h3⟩:=h;exact⟨D,h1,fun s c hc=>by rw[h3 s]at hc;simp at hc;exact hc.symm⟩
set_option maxHeartbeats 4000000 in
theorem zeL (a:Option Addr) (n cap bp:Nat) (T U:Nat→List UInt8) (M:List (List UInt8×Int)) (P:Nat→Int) (r:Eq2) (w:World) (hn:n≤9223372036854775807) (HP:Hid (Mp w bp M))
  (HT:Hid (∀ k,k<n→(T k).length≤maxLen∧(U k).length≤maxLen))
  (HC:Hid (∀ k,k<n→∃ ad,a=some ad∧ad.block<w.heap.size∧w.cell? (ad.add (k * 3))=some (.string (sv (T k)))∧w.cell? ⟨(ad.add (k * 3)).block,(ad.add (k * 3)).off+1,none⟩=some (.string (sv (U k)))∧w.cell? ⟨(ad.add (k * 3)).block,(ad.add (k * 3)).off+2,none⟩=some (.int .i64 (P k))))
  (HI:Hid (fE (foF T U M P) 0 n=r)):
  Calls Try.prog 45 #[.slice a n cap,.map (some bp)] w (Nq r w):=by
 have RX:=hide zbt;go_enter Try.func45,Try.ntmps45;go_wp2_with fail
 go_loopw [8] (fun iv wr=>∃ k:Nat,iv= .int .i64 (k:Int)∧k≤n∧Hid (Keep w wr)∧Hid (fE (foF T U M P) k (n - k)=r)) (fun iv _=>n - (intOf iv).toNat)
 case atStart=>exact⟨0,rfl,by omega,hide (Keep.refl _),HI⟩
 case round=>
  obtain⟨k,rfl,hk,KW,HF⟩:=hrel;by_cases hlt:k<n
  ·have li:(k:Int)<(n:Int):=by omega
   obtain⟨ad,rfl,hb,e0,e1,e2⟩:=(uq HC) k hlt;obtain⟨tl,ul⟩:=(uq HT) k hlt;replace tl:=hide tl;replace ul:=hide ul;have x0:=zab (uq KW) (by rw[zaa];exact hb) e0;have x1:=zab (uq KW) (by show(ad.add (k * 3)).block<_;rw[zaa];exact hb) e1;have x2:=zab (uq KW) (by show(ad.add (k * 3)).block<_;rw[zaa];exact hb) e2;clear e0 e1 e2;have hbx:=heap_alloc_new wr (.cells #[.string (sv (T k)),.string (sv (U k)),.int .i64 (P k)] 68);have KBq:=hide ((uq KW).alloc (.cells #[.string (sv (T k)),.string (sv (U k)),.int .i64 (P k)] 68));have KAq:=hide ((Keep.refl wr).alloc (.cells #[.string (sv (T k)),.string (sv (U k)),.int .i64 (P k)] 68))
   go_upto_region 3 with fail
   generalize hwa:wr.alloc (.cells #[.string (sv (T k)),.string (sv (U k)),.int .i64 (P k)] 68)=wa at hbx KBq KAq ⊢;obtain⟨q,HQq⟩:∃ q,Hid (wr.heap.size=q):=⟨_,hide rfl⟩;rw[uq HQq]at hbx ⊢;have HXq:Hid (∀ w':World,w'.heap[q]? =wa.heap[q]? →w'.cell? ⟨q,0,none⟩=some (.string (sv (T k)))∧w'.cell? ⟨q,1,none⟩=some (.string (sv (U k)))∧w'.cell? ⟨q,2,none⟩=some (.int .i64 (P k))):=hide (fun w' h9=>by rw[hbx]at h9;refine⟨?_,?_,?_⟩<;>simp[World.cell?,h9]);have HQLq:=hide (Array.getElem?_eq_some_iff.1 hbx).1;clear hbx hwa x0 x1 x2;have HMB:=hide ((uq HP).keep (uq KBq));obtain⟨f0,f1,f2⟩:=(uq HXq) wa rfl;have TW:=hide (zag bp M (P k) (T k) wa (uq HMB) (uq tl));have TV:=hide (zag bp M (P k) (U k) wa (uq HMB) (uq ul));cases hw:hs M (T k)
   ·have hr:=zac (uq HF) hlt (show foF T U M P k=some (72,P k) by unfold foF;rw[if_neg (by rw[hw];decide)]);subst hr;rw[hw]at TW;clear HF hw;go_wp2_with fail
    (refine(uq TW).mono ?_;rintro e w3 ⟨rfl,rfl⟩;simp only[Bool.not_false,fl,En,if_true]);go_wp2_with fail
    exact⟨rfl,uq KBq,rfl⟩
   have HW:=hide hw;rw[hw]at TW;clear hw;go_wp2_with fail
   (refine(uq TW).mono ?_;rintro e wa ⟨rfl,rfl⟩;simp only[Bool.not_true,fl,En,if_false,Bool.false_eq_true]);cases hw:hs M (U k)
   ·have hr:=zac (uq HF) hlt (show foF T U M P k=some (72,P k) by unfold foF;rw[if_pos (uq HW),if_neg (by rw[hw];decide)]);subst hr;rw[hw]at TV;clear HF hw;go_wp2_with fail
    (refine(uq TV).mono ?_;rintro e w3 ⟨rfl,rfl⟩;simp only[Bool.not_false,fl,En,if_true]);go_wp2_with fail
    exact⟨rfl,uq KBq,rfl⟩
   have HV:=hide hw;rw[hw]at TV;clear hw;go_wp2_with fail
   (refine(uq TV).mono ?_;rintro e wa ⟨rfl,rfl⟩;simp only[Bool.not_true,fl,En,if_false,Bool.false_eq_true]);obtain⟨D,hown,HD⟩:=(uq HMB).own;replace HD:=hide HD;have k1:=zc4 (uq tl);have k2:=zc4 (uq ul);generalize sv (T k)=sT at f0 k1;generalize sv (U k)=sU at f1 k2
   go_upto_region 5 with fail
   go_wp2_with (first|(at_lookup;refine wpList_lookup_own_int _ rfl _ _ 50 rfl 9 3 .i64 law Try.underlying50 Try.underlying3 (zh3 _) bp _ D rfl hown _ _ rfl (by first|exact k1|exact k2) ?_;intro c hat hwc;replace hat:=hide ((uq HD) _ _ hat))|fail)
   rename_i c1 hwc1 hat1 _ _
   (refine((uq RX) _ _ _ _).mono ?_;rintro e wa ⟨⟨hb9,rfl⟩|⟨hb9,rfl⟩,rfl⟩)
   ·have hr:=zac (uq HF) hlt (show foF T U M P k=some (75,P k) by unfold foF;rw[if_pos (uq HW),if_pos (uq HV),if_pos (by rw[← uq hat1,← uq hat];simpa using hb9)]);subst hr;clear HF hb9;go_wp2_with fail
    exact⟨rfl,uq KBq,rfl⟩
   have hf:=zaU (uq HF) hlt (show foF T U M P k=none by unfold foF;rw[if_pos (uq HW),if_pos (uq HV),if_neg (by rw[← uq hat1,← uq hat];simpa using hb9)]);have HF2:=hide hf;clear hf HF hb9;go_wp2_with fail
   go_roundw
   case rel=>exact⟨k+1,by go_num,by omega,KBq,HF2⟩
   case measure=>simp[intOf];omega
  ·have li:¬(k:Int)<(n:Int):=by omega
   have hr:=zaF (uq HF) (by omega);subst hr;go_wp2_with fail
   go_end0
   exact⟨uq KW,rfl⟩
end V
end Go.Proofs.Ythbfohohelflnaa
