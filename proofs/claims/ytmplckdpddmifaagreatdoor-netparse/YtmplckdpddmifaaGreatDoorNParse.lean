/- Package net: Parse. -/
import Derived.Test.YtmplckdpddmifaaGreatDoorNRead
import Derived.Test.YtmplckdpddmifaaGreatDoorTk
import Derived.Test.YtmplckdpddmifaaGreatDoorNAz
namespace Go.Proofs.YtmplckdpddmifaaGreatDoor
open Go.RowKit
attribute [local go_sem ↓] Go.wp_at_zero Go.wp_at_succ
set_option linter.unusedVariables false
set_option linter.unusedSimpArgs false
set_option maxRecDepth 10000
theorem set_id {W : World} {b i : Nat} {arr : Array Value} {t : TypeId} {fr : Nat × Nat} {v : Value} (h : W.heap[b]? = some (.cells arr t fr)) (hi : arr[i]? = some v) : W.setCell ⟨b, i, none⟩ v = W := by
  have e : W.heap.modify b (fun | .cells c elem frozen => .cells (if (⟨b, i, none⟩ : Addr).spot.isSome then c else c.setIfInBounds (⟨b, i, none⟩ : Addr).off v) elem frozen | o => o) = W.heap := by
    apply Array.ext_getElem?
    intro j
    rw [Array.getElem?_modify]
    by_cases hj : b = j
    · subst hj
      rw [if_pos rfl, h]
      simp only [Option.map_some, Option.isSome_none, Bool.false_eq_true, if_false]
      congr 2
      apply Array.ext_getElem?
      intro k
      rw [Array.getElem?_setIfInBounds]
      by_cases hk : i = k
      · subst hk
        have hl : i < arr.size := by
          rcases Nat.lt_or_ge i arr.size with h | h
          · exact h
          · rw [Array.getElem?_eq_none h] at hi; cases hi
        rw [Array.getElem?_eq_getElem hl] at hi
        injection hi with hi
        simp [hl, hi]
      · simp [hk]
    · rw [if_neg hj]
  have hh : (W.setCell ⟨b, i, none⟩ v).heap = W.heap := e
  have h3 : W.setCell ⟨b, i, none⟩ v = { W with heap := (W.setCell ⟨b, i, none⟩ v).heap } := rfl
  rw [h3, hh]
/-- what errors.As reads -/
def Gl (w : World) : Prop := w.cell? ⟨0, 0, none⟩ = some (.iface 132 (.agg #[.pointer (some ⟨1, 40, none⟩)]))
theorem Gl.keep {w w' : World} (h : Gl w) (k : Keep w w') : Gl w' := k.cell' h
/-- what Parse leaves -/
def ParseP (X : Except Er (List D)) (w : World) (e : Ending) (w' : World) : Prop := Keep w w' ∧
  match X with
  | .error x => e = .returned (.tuple #[.agg #[.int .i64 0, .int .i64 0, .int .i64 0, .int .i64 0, .int .i64 0, .slice none 0 0, .slice none 0 0, .int .i64 0, .int .i64 0], .int .i64 x.1, .int .i64 x.2])
  | .ok cs => ∃ u0 u1 u2 u3 u4 u5 u6 u7 u8, e = .returned (.tuple #[.agg #[u0, u1, u2, u3, u4, u5, u6, u7, u8], .int .i64 0, .int .i64 0]) ∧ (∀ u ∈ [u0, u1, u2, u3, u4, u5, u6, u7, u8], u.oneCell' = true) ∧ Rds w' cs (fun q => w.heap.size ≤ q) [u0, u1, u2, u3, u4, u5, u6, u7, u8]
set_option maxHeartbeats 8000000 in
theorem parse_bad (v0 : Value) (x : Er) (w : World) (hg : Hid (Gl w)) (T1 : Hid (∀ w', Keep w w' → Calls Tryz.prog 11 #[v0] w' (ReadP (.error x) w'))) :
    Calls Tryz.prog 5 #[v0] w (ParseP (.error x) w) := by
  have HK := hide ((Keep.refl w).alloc (.cells #[.int .i64 0, .int .i64 0, .int .i64 0, .int .i64 0, .int .i64 0, .slice none 0 0, .slice none 0 0, .int .i64 0, .int .i64 0] 28))
  have htb0 := hide (heap_alloc_new w (.cells #[.int .i64 0, .int .i64 0, .int .i64 0, .int .i64 0, .int .i64 0, .slice none 0 0, .slice none 0 0, .int .i64 0, .int .i64 0] 28))
  have hsz0 := hide (World.size_alloc w (.cells #[.int .i64 0, .int .i64 0, .int .i64 0, .int .i64 0, .int .i64 0, .slice none 0 0, .slice none 0 0, .int .i64 0, .int .i64 0] 28))
  go_enter Tryz.func5, Tryz.ntmps5
  go_wp2_with fail
  generalize w.alloc (.cells #[.int .i64 0, .int .i64 0, .int .i64 0, .int .i64 0, .int .i64 0, .slice none 0 0, .slice none 0 0, .int .i64 0, .int .i64 0] 28) = w1 at HK htb0 hsz0 ⊢
  (refine ((uq T1) _ (uq HK)).mono ?_; rintro e w2 ⟨hk, u0, u1, u2, u3, u4, u5, u6, u7, u8, hon, he⟩)
  obtain rfl : e = .returned (.tuple #[.agg #[u0, u1, u2, u3, u4, u5, u6, u7, u8], flt x]) := he
  have HK2 := hide hk
  clear hk
  have o0 : u0.oneCell' = true := hon u0 (by simp)
  have o1 : u1.oneCell' = true := hon u1 (by simp)
  have o2 : u2.oneCell' = true := hon u2 (by simp)
  have o3 : u3.oneCell' = true := hon u3 (by simp)
  have o4 : u4.oneCell' = true := hon u4 (by simp)
  have o5 : u5.oneCell' = true := hon u5 (by simp)
  have o6 : u6.oneCell' = true := hon u6 (by simp)
  have o7 : u7.oneCell' = true := hon u7 (by simp)
  have o8 : u8.oneCell' = true := hon u8 (by simp)
  obtain ⟨W1, W2, W3, W4, W5, W6, W7, W8, W9, s0, s1, s2, s3, s4, s5, s6, s7, s8, hb9, hq9, hz9, ho9, ht9, hp9⟩ := store9 (heap_alloc_new w2 (.cells #[.int .i64 0, .int .i64 0, .int .i64 0, .int .i64 0, .int .i64 0, .slice none 0 0, .slice none 0 0, .int .i64 0, .int .i64 0] 28)) hon
  have HQ9 := hide hq9
  have HK9 : Hid (Keep w2 W9) := hide ⟨ho9, ht9, hp9, by rw [hz9, World.size_alloc]; omega, fun i hi => by rw [hq9 i (by omega)]; exact heap_alloc_old w2 _ hi⟩
  have HZ9 : Hid (W9.heap.size = w2.heap.size + 1) := hide (by rw [hz9, World.size_alloc])
  clear hon hb9 hq9 hz9 ho9 ht9 hp9
  obtain ⟨tb, HTB⟩ : ∃ tb, Hid (w.heap.size = tb) := ⟨_, rfl⟩
  rw [uq HTB] at htb0 hsz0 ⊢
  unfold flt
  go_wp2_with fail
  have HKa : Hid (Keep w2 ((W9.alloc (.cells #[.int .i64 0] 29)).alloc (.cells #[.int .i64 0, .int .i64 0] 44))) := hide ((uq HK9).trans (two_keep W9 (.cells #[.int .i64 0] 29) (.cells #[.int .i64 0, .int .i64 0] 44)))
  have b1 : Hid (((W9.alloc (.cells #[.int .i64 0] 29)).alloc (.cells #[.int .i64 0, .int .i64 0] 44)).heap[W9.heap.size]? = some (.cells #[.int .i64 0] 29 (0, 0))) := hide (by rw [heap_alloc_old _ _ (by rw [World.size_alloc]; omega)]; exact heap_alloc_new W9 _)
  have b2 : Hid (((W9.alloc (.cells #[.int .i64 0] 29)).alloc (.cells #[.int .i64 0, .int .i64 0] 44)).heap[W9.heap.size + 1]? = some (.cells #[.int .i64 0, .int .i64 0] 44 (0, 0))) := hide (by have := heap_alloc_new (W9.alloc (.cells #[.int .i64 0] 29)) (.cells #[.int .i64 0, .int .i64 0] 44); rw [World.size_alloc] at this; exact this)
  generalize ((W9.alloc (.cells #[.int .i64 0] 29)).alloc (.cells #[.int .i64 0, .int .i64 0] 44)) = w3 at HKa b1 b2 ⊢
  have hlt : Hid (w1.heap.size ≤ w2.heap.size ∧ w1.heap.size = tb + 1) := hide ⟨(uq HK2).size, uq hsz0⟩
  obtain ⟨eb, HEB0⟩ : ∃ eb, Hid (W9.heap.size = eb) := ⟨_, rfl⟩
  have HEB : Hid (w2.heap.size + 1 = eb) := hide (by have := uq HEB0; have := uq HZ9; omega)
  rw [uq HEB0] at b1 b2 ⊢
  obtain ⟨fb, HFB⟩ : ∃ fb, Hid (eb + 1 = fb) := ⟨_, rfl⟩
  rw [uq HFB] at b2 ⊢
  have HKw3 : Hid (Keep w w3) := hide (((uq HK).trans (uq HK2)).trans (uq HKa))
  have htb3 : Hid (w3.heap[tb]? = some (.cells #[.int .i64 0, .int .i64 0, .int .i64 0, .int .i64 0, .int .i64 0, .slice none 0 0, .slice none 0 0, .int .i64 0, .int .i64 0] 28 (0, 0))) := hide (by have := uq hlt; rw [(uq HKa).block tb (by omega), (uq HK2).block tb (by omega)]; exact uq htb0)
  refine (as_num eb x.1 x.2 (.int .i64 0) w3 ((uq hg).keep (uq HKw3)) (by simp [World.cell?, uq b1]) (by simp [World.frozen?, uq b1])).mono ?_
  rintro e w9 ⟨rfl, w4, hk4, rfl⟩
  have HKw4 : Hid (Keep w (w4.setCell ⟨eb, 0, none⟩ (.int .i64 x.1))) := hide (((uq HKw3).trans hk4).set _ _ (by have := uq hlt; have := uq HEB; have := uq HTB; simp; omega))
  have lte : eb < w3.heap.size := (Array.getElem?_eq_some_iff.1 (uq b1)).1
  have ltf : fb < w3.heap.size := (Array.getElem?_eq_some_iff.1 (uq b2)).1
  have ltt : tb < w3.heap.size := (Array.getElem?_eq_some_iff.1 (uq htb3)).1
  have ce : Hid ((w4.setCell ⟨eb, 0, none⟩ (.int .i64 x.1)).cell? ⟨eb, 0, none⟩ = some (.int .i64 x.1)) := hide (set_eq _ (hk4.cell' (by simp [World.cell?, uq b1] : w3.cell? ⟨eb, 0, none⟩ = some (.int .i64 0))))
  have cf : Hid ((w4.setCell ⟨eb, 0, none⟩ (.int .i64 x.1)).heap[fb]? = some (.cells #[.int .i64 0, .int .i64 0] 44 (0, 0))) := hide (by rw [Below.heap_setCell _ _ _ _ (by have := uq HFB; simp; omega), hk4.block fb ltf]; exact uq b2)
  have ct : Hid ((w4.setCell ⟨eb, 0, none⟩ (.int .i64 x.1)).heap[tb]? = some (.cells #[.int .i64 0, .int .i64 0, .int .i64 0, .int .i64 0, .int .i64 0, .slice none 0 0, .slice none 0 0, .int .i64 0, .int .i64 0] 28 (0, 0))) := hide (by rw [Below.heap_setCell _ _ _ _ (by have := uq hlt; have := uq HEB; simp; omega), hk4.block tb ltt]; exact uq htb3)
  clear hk4 lte ltf ltt
  generalize w4.setCell ⟨eb, 0, none⟩ (.int .i64 x.1) = w5 at HKw4 ce cf ct ⊢
  go_wp2_with fail
  refine (as_self fb x.1 x.2 (.int .i64 0) (.int .i64 0) w5 ((uq hg).keep (uq HKw4)) (by simp [World.cell?, uq cf]) (by simp [World.frozen?, uq cf]) (by simp [World.cell?, uq cf]) (by simp [World.frozen?, uq cf])).mono ?_
  rintro e w9 ⟨rfl, w6, hk6, rfl⟩
  have ltt : tb < w5.heap.size := (Array.getElem?_eq_some_iff.1 (uq ct)).1
  have nf : Hid (fb ≠ tb ∧ fb ≠ eb) := hide (by have := uq hlt; have := uq HEB; have := uq HFB; omega)
  have HKw6 : Hid (Keep w ((w6.setCell ⟨fb, 0, none⟩ (.int .i64 x.1)).setCell ⟨fb, 1, none⟩ (.int .i64 x.2))) := hide ((((uq HKw4).trans hk6).set _ _ (by have := uq hlt; have := uq HEB; have := uq HFB; have := uq HTB; simp; omega)).set _ _ (by have := uq hlt; have := uq HEB; have := uq HFB; have := uq HTB; simp; omega))
  have de : Hid (((w6.setCell ⟨fb, 0, none⟩ (.int .i64 x.1)).setCell ⟨fb, 1, none⟩ (.int .i64 x.2)).cell? ⟨eb, 0, none⟩ = some (.int .i64 x.1)) := hide (by rw [set_far _ _ _ _ (uq nf).2, set_far _ _ _ _ (uq nf).2]; exact hk6.cell' (uq ce))
  have df : Hid (((w6.setCell ⟨fb, 0, none⟩ (.int .i64 x.1)).setCell ⟨fb, 1, none⟩ (.int .i64 x.2)).cell? ⟨fb, 1, none⟩ = some (.int .i64 x.2)) := hide (set_eq (u := .int .i64 0) _ (by rw [set_ne _ _ _ _ (by simp)]; exact hk6.cell' (by simp [World.cell?, uq cf])))
  have dt : ((w6.setCell ⟨fb, 0, none⟩ (.int .i64 x.1)).setCell ⟨fb, 1, none⟩ (.int .i64 x.2)).heap[tb]? = some (.cells #[.int .i64 0, .int .i64 0, .int .i64 0, .int .i64 0, .int .i64 0, .slice none 0 0, .slice none 0 0, .int .i64 0, .int .i64 0] 28 (0, 0)) := by rw [Below.heap_setCell _ _ _ _ (fun e => (uq nf).1 e.symm), Below.heap_setCell _ _ _ _ (fun e => (uq nf).1 e.symm), hk6.block tb ltt]; exact uq ct
  clear hk6 ltt
  generalize (w6.setCell ⟨fb, 0, none⟩ (.int .i64 x.1)).setCell ⟨fb, 1, none⟩ (.int .i64 x.2) = w7 at HKw6 de df dt ⊢
  have net : Hid (tb ≠ eb ∧ tb ≠ fb) := hide (by have := uq hlt; have := uq HEB; have := uq HFB; omega)
  have dt2 : w7.drew.heap[tb]? = some (.cells #[.int .i64 0, .int .i64 0, .int .i64 0, .int .i64 0, .int .i64 0, .slice none 0 0, .slice none 0 0, .int .i64 0, .int .i64 0] 28 (0, 0)) := dt
  have r0 : w7.drew.cell? ⟨tb, 0, none⟩ = some (.int .i64 0) := by simp [World.cell?, dt2]
  have f0 : w7.drew.frozen? ⟨tb, 0, none⟩ = false := by simp [World.frozen?, dt2]
  have e0 : w7.drew.setCell ⟨tb, 0, none⟩ (.int .i64 0) = w7.drew := set_id dt2 rfl
  have r1 : w7.drew.cell? ⟨tb, 1, none⟩ = some (.int .i64 0) := by simp [World.cell?, dt2]
  have f1 : w7.drew.frozen? ⟨tb, 1, none⟩ = false := by simp [World.frozen?, dt2]
  have e1 : w7.drew.setCell ⟨tb, 1, none⟩ (.int .i64 0) = w7.drew := set_id dt2 rfl
  have r2 : w7.drew.cell? ⟨tb, 2, none⟩ = some (.int .i64 0) := by simp [World.cell?, dt2]
  have f2 : w7.drew.frozen? ⟨tb, 2, none⟩ = false := by simp [World.frozen?, dt2]
  have e2 : w7.drew.setCell ⟨tb, 2, none⟩ (.int .i64 0) = w7.drew := set_id dt2 rfl
  have r3 : w7.drew.cell? ⟨tb, 3, none⟩ = some (.int .i64 0) := by simp [World.cell?, dt2]
  have f3 : w7.drew.frozen? ⟨tb, 3, none⟩ = false := by simp [World.frozen?, dt2]
  have e3 : w7.drew.setCell ⟨tb, 3, none⟩ (.int .i64 0) = w7.drew := set_id dt2 rfl
  have r4 : w7.drew.cell? ⟨tb, 4, none⟩ = some (.int .i64 0) := by simp [World.cell?, dt2]
  have f4 : w7.drew.frozen? ⟨tb, 4, none⟩ = false := by simp [World.frozen?, dt2]
  have e4 : w7.drew.setCell ⟨tb, 4, none⟩ (.int .i64 0) = w7.drew := set_id dt2 rfl
  have r5 : w7.drew.cell? ⟨tb, 5, none⟩ = some (.slice none 0 0) := by simp [World.cell?, dt2]
  have f5 : w7.drew.frozen? ⟨tb, 5, none⟩ = false := by simp [World.frozen?, dt2]
  have e5 : w7.drew.setCell ⟨tb, 5, none⟩ (.slice none 0 0) = w7.drew := set_id dt2 rfl
  have r6 : w7.drew.cell? ⟨tb, 6, none⟩ = some (.slice none 0 0) := by simp [World.cell?, dt2]
  have f6 : w7.drew.frozen? ⟨tb, 6, none⟩ = false := by simp [World.frozen?, dt2]
  have e6 : w7.drew.setCell ⟨tb, 6, none⟩ (.slice none 0 0) = w7.drew := set_id dt2 rfl
  have r7 : w7.drew.cell? ⟨tb, 7, none⟩ = some (.int .i64 0) := by simp [World.cell?, dt2]
  have f7 : w7.drew.frozen? ⟨tb, 7, none⟩ = false := by simp [World.frozen?, dt2]
  have e7 : w7.drew.setCell ⟨tb, 7, none⟩ (.int .i64 0) = w7.drew := set_id dt2 rfl
  have r8 : w7.drew.cell? ⟨tb, 8, none⟩ = some (.int .i64 0) := by simp [World.cell?, dt2]
  have f8 : w7.drew.frozen? ⟨tb, 8, none⟩ = false := by simp [World.frozen?, dt2]
  have e8 : w7.drew.setCell ⟨tb, 8, none⟩ (.int .i64 0) = w7.drew := set_id dt2 rfl
  have HV8 : Hid (Keep w w7.drew) := hide (uq HKw6).drew
  have je : Hid (w7.drew.cell? ⟨eb, 0, none⟩ = some (.int .i64 x.1) ∧ w7.drew.cell? ⟨fb, 1, none⟩ = some (.int .i64 x.2)) := hide ⟨uq de, uq df⟩
  clear dt dt2
  go_wp2_with fail
  refine wp_region_held_drew (S := fun w' => w'.cell? ⟨eb, 0, none⟩ = some (.int .i64 x.1) ∧ w'.cell? ⟨fb, 1, none⟩ = some (.int .i64 x.2)) (by kernel_rfl) (by exact ⟨uq de, uq df⟩) (fun hHeld => ?_)
  refine tkk 0 22 hHeld ?_; try simp only [Act.put, Ya, Yb, Yc]
  refine tkk 1 23 hHeld ?_; try simp only [Act.put, Ya, Yb, Yc]
  refine tkk 2 24 hHeld ?_; try simp only [Act.put, Ya, Yb, Yc]
  refine tkk 3 25 hHeld ?_; try simp only [Act.put, Ya, Yb, Yc]
  generalize w7.drew = w8 at HV8 je r0 f0 e0 r1 f1 e1 r2 f2 e2 r3 f3 e3 r4 f4 e4 r5 f5 e5 r6 f6 e6 r7 f7 e7 r8 f8 e8 ⊢
  refine rdyy 4 (fun K hK => ?_)
  go_simp
  clear hHeld
  refine hK.out _ _ ?_ (fun hHeld => ?_)
  · exact uq je
  clear hK K
  try simp only [Act.put, Ya, Yb, Yc]
  refine tkk 5 3 hHeld ?_; try simp only [Act.put, Ya, Yb, Yc]
  refine tkk 6 4 hHeld ?_; try simp only [Act.put, Ya, Yb, Yc]
  refine wpAnyH_done (by kernel_rfl) ?_ _
  clear hHeld
  go_wp2_with fail
  refine bodyPost_ret (v := .tuple #[.agg #[.int .i64 0, .int .i64 0, .int .i64 0, .int .i64 0, .int .i64 0, .slice none 0 0, .slice none 0 0, .int .i64 0, .int .i64 0], .int .i64 x.1, .int .i64 x.2]) ?_ rfl ?_
  · simp [results, Tryz.results5, go_sem, r0, r1, r2, r3, r4, r5, r6, r7, r8]
  · exact ⟨uq HV8, rfl⟩
set_option maxHeartbeats 8000000 in
theorem parse_good (v0 : Value) (cs : List D) (w : World) (T1 : Hid (∀ w', Keep w w' → Calls Tryz.prog 11 #[v0] w' (ReadP (.ok cs) w'))) :
    Calls Tryz.prog 5 #[v0] w (ParseP (.ok cs) w) := by
  have HK := hide ((Keep.refl w).alloc (.cells #[.int .i64 0, .int .i64 0, .int .i64 0, .int .i64 0, .int .i64 0, .slice none 0 0, .slice none 0 0, .int .i64 0, .int .i64 0] 28))
  have htb0 := hide (heap_alloc_new w (.cells #[.int .i64 0, .int .i64 0, .int .i64 0, .int .i64 0, .int .i64 0, .slice none 0 0, .slice none 0 0, .int .i64 0, .int .i64 0] 28))
  have hsz0 := hide (World.size_alloc w (.cells #[.int .i64 0, .int .i64 0, .int .i64 0, .int .i64 0, .int .i64 0, .slice none 0 0, .slice none 0 0, .int .i64 0, .int .i64 0] 28))
  go_enter Tryz.func5, Tryz.ntmps5
  go_wp2_with fail
  generalize w.alloc (.cells #[.int .i64 0, .int .i64 0, .int .i64 0, .int .i64 0, .int .i64 0, .slice none 0 0, .slice none 0 0, .int .i64 0, .int .i64 0] 28) = w1 at HK htb0 hsz0 ⊢
  (refine ((uq T1) _ (uq HK)).mono ?_; rintro e w2 ⟨hk, u0, u1, u2, u3, u4, u5, u6, u7, u8, hon, rfl, hrd⟩)
  have HK2 := hide hk
  have HON := hide hon
  have HRD := hide hrd
  clear hk hrd
  have o0 : u0.oneCell' = true := hon u0 (by simp)
  have o1 : u1.oneCell' = true := hon u1 (by simp)
  have o2 : u2.oneCell' = true := hon u2 (by simp)
  have o3 : u3.oneCell' = true := hon u3 (by simp)
  have o4 : u4.oneCell' = true := hon u4 (by simp)
  have o5 : u5.oneCell' = true := hon u5 (by simp)
  have o6 : u6.oneCell' = true := hon u6 (by simp)
  have o7 : u7.oneCell' = true := hon u7 (by simp)
  have o8 : u8.oneCell' = true := hon u8 (by simp)
  obtain ⟨W1, W2, W3, W4, W5, W6, W7, W8, W9, s0, s1, s2, s3, s4, s5, s6, s7, s8, hb9, hq9, hz9, ho9, ht9, hp9⟩ := store9 (heap_alloc_new w2 (.cells #[.int .i64 0, .int .i64 0, .int .i64 0, .int .i64 0, .int .i64 0, .slice none 0 0, .slice none 0 0, .int .i64 0, .int .i64 0] 28)) hon
  have HK9 : Hid (Keep w2 W9) := hide ⟨ho9, ht9, hp9, by rw [hz9, World.size_alloc]; omega, fun i hi => by rw [hq9 i (by omega)]; exact heap_alloc_old w2 _ hi⟩
  have n0 : W9.cell? ⟨w2.heap.size, 0, none⟩ = some u0 := by simp [World.cell?, hb9]
  have n1 : W9.cell? ⟨w2.heap.size, 1, none⟩ = some u1 := by simp [World.cell?, hb9]
  have n2 : W9.cell? ⟨w2.heap.size, 2, none⟩ = some u2 := by simp [World.cell?, hb9]
  have n3 : W9.cell? ⟨w2.heap.size, 3, none⟩ = some u3 := by simp [World.cell?, hb9]
  have n4 : W9.cell? ⟨w2.heap.size, 4, none⟩ = some u4 := by simp [World.cell?, hb9]
  have n5 : W9.cell? ⟨w2.heap.size, 5, none⟩ = some u5 := by simp [World.cell?, hb9]
  have n6 : W9.cell? ⟨w2.heap.size, 6, none⟩ = some u6 := by simp [World.cell?, hb9]
  have n7 : W9.cell? ⟨w2.heap.size, 7, none⟩ = some u7 := by simp [World.cell?, hb9]
  have n8 : W9.cell? ⟨w2.heap.size, 8, none⟩ = some u8 := by simp [World.cell?, hb9]
  obtain ⟨tb, HTB⟩ : ∃ tb, Hid (w.heap.size = tb) := ⟨_, rfl⟩
  rw [uq HTB] at htb0 hsz0 ⊢
  have htb9 : W9.heap[tb]? = some (.cells #[.int .i64 0, .int .i64 0, .int .i64 0, .int .i64 0, .int .i64 0, .slice none 0 0, .slice none 0 0, .int .i64 0, .int .i64 0] 28 (0, 0)) := by
    have e1 := uq hsz0
    have e2 := (uq HK2).size
    rw [(uq HK9).block tb (by omega), (uq HK2).block tb (by omega)]
    exact uq htb0
  obtain ⟨V1, V2, V3, V4, V5, V6, V7, V8, V9, y0, y1, y2, y3, y4, y5, y6, y7, y8, jb9, jq9, jz9, jo9, jt9, jp9⟩ := store9 htb9 hon
  have HV9 : Hid (Keep w V9) := hide (by
    have k := ((uq HK).trans (uq HK2)).trans (uq HK9)
    exact ⟨jo9.trans k.os, jt9.trans k.tape, jp9.trans k.output, by have := k.size; omega, fun i hi => by rw [jq9 i (by have := uq HTB; omega)]; exact k.block i hi⟩)
  have HQ : Hid (∀ q, q < w2.heap.size → q ≠ tb → V9.heap[q]? = w2.heap[q]?) := hide (fun q hq hne => by rw [jq9 q hne]; exact (uq HK9).block q hq)
  have t0 : V9.cell? ⟨tb, 0, none⟩ = some u0 := by simp [World.cell?, jb9]
  have t1 : V9.cell? ⟨tb, 1, none⟩ = some u1 := by simp [World.cell?, jb9]
  have t2 : V9.cell? ⟨tb, 2, none⟩ = some u2 := by simp [World.cell?, jb9]
  have t3 : V9.cell? ⟨tb, 3, none⟩ = some u3 := by simp [World.cell?, jb9]
  have t4 : V9.cell? ⟨tb, 4, none⟩ = some u4 := by simp [World.cell?, jb9]
  have t5 : V9.cell? ⟨tb, 5, none⟩ = some u5 := by simp [World.cell?, jb9]
  have t6 : V9.cell? ⟨tb, 6, none⟩ = some u6 := by simp [World.cell?, jb9]
  have t7 : V9.cell? ⟨tb, 7, none⟩ = some u7 := by simp [World.cell?, jb9]
  have t8 : V9.cell? ⟨tb, 8, none⟩ = some u8 := by simp [World.cell?, jb9]
  clear hon hb9 hq9 hz9 ho9 ht9 hp9 jb9 jq9 jz9 jo9 jt9 jp9 htb9
  go_wp2_with fail
  refine bodyPost_ret (v := .tuple #[.agg #[u0, u1, u2, u3, u4, u5, u6, u7, u8], .int .i64 0, .int .i64 0]) ?_ rfl ?_
  · simp [results, Tryz.results5, go_sem, t0, t1, t2, t3, t4, t5, t6, t7, t8]
  · refine ⟨uq HV9, u0, u1, u2, u3, u4, u5, u6, u7, u8, rfl, uq HON, Rds.move cs _ _ _ (uq HRD) (fun b hb hl => ⟨(uq HQ) b hl ?_, ?_⟩)⟩
    · have := uq hsz0; omega
    · have := (uq HK).size; omega
theorem few_read (v0 : Value) (l : List UInt8) (w : World) (hl : l.length ≤ 65536) (h : By w v0 l) (hw : ∀ L, T l = .ok L → Wf L) (he : ∀ x, T l = .error x → x.1 ≠ 0) : Calls Tryz.prog 11 #[v0] w (ReadP (N l) w) := by
  have T1 : ∀ w', Keep w w' → Calls Tryz.prog 30 #[v0] w' (Tp (T l) w') := fun w' hk => toks_any v0 l w' (by omega) (h.keep hk)
  unfold N
  cases hT : T l with
  | error x => rw [hT] at T1; exact read_bad v0 x w (he x hT) (hide T1)
  | ok L =>
    rw [hT] at T1
    have := read_ok v0 L w (hide (hw L hT)) (hide T1)
    unfold XN at this
    exact this
end Go.Proofs.YtmplckdpddmifaaGreatDoor
