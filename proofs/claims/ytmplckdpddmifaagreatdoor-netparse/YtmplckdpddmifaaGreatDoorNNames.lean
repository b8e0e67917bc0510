/- Package net: names with commas between. -/
import Derived.Test.YtmplckdpddmifaaGreatDoorNThing
import Derived.Test.YtmplckdpddmifaaGreatDoorTk
namespace Go.Proofs.YtmplckdpddmifaaGreatDoor
open Go.RowKit
attribute [local go_sem ↓] Go.wp_at_zero Go.wp_at_succ
set_option linter.unusedVariables false
set_option linter.unusedSimpArgs false
set_option maxRecDepth 10000
/-- things without slices -/
def Flat (L : List (List D)) : Prop := ∀ ds ∈ L, ∀ d ∈ ds, ∃ v, d = .val v
theorem rds_flat {w w' : World} {P P' : Nat → Prop} : ∀ (ds : List D) (us : List Value), (∀ d ∈ ds, ∃ v, d = .val v) → Rds w ds P us → Rds w' ds P' us
  | [], us, _, h => h
  | d :: ds, us, hf, h => by
    simp only [Rds] at h ⊢
    obtain ⟨v, vs, h0, h1, h2⟩ := h
    obtain ⟨x, rfl⟩ := hf d List.mem_cons_self
    exact ⟨v, vs, h0, h1, rds_flat ds vs (fun d hd => hf d (List.mem_cons_of_mem _ hd)) h2⟩
theorem rdss_flat {w w' : World} {P P' : Nat → Prop} {z : Nat} : ∀ (L : List (List D)) (us : List Value), Flat L → Rdss w L P z us → Rdss w' L P' z us
  | [], us, _, h => h
  | ds :: L, us, hf, h => by
    simp only [Rdss] at h ⊢
    obtain ⟨ys, zs, h0, h1, h2, h3⟩ := h
    exact ⟨ys, zs, h0, h1, rds_flat ds ys (hf ds List.mem_cons_self) h2, rdss_flat L zs (fun ds hd => hf ds (List.mem_cons_of_mem _ hd)) h3⟩
/-- nothing turns but the reader and a block that is no part -/
theorem RowI.move2 {E : Env} {w : World} {m : Nat} {cs : List D} {e z : Nat} {wr w' : World} {L : List (List D)} {r r' : List Tok} {v : Value} {q : Nat} (h : RowI E w m cs e z wr L r v) (hfl : Flat L) (hq : ¬ E.S q) (hqw : w.heap.size ≤ q) (hqv : v.ownBlock ≠ some q) (k : Fr (fun b => b = E.rb ∨ b = q) wr w') (hr : R0 E.rb E.l E.ta E.cap w' r') : RowI E w m cs e z w' L r' v := by
  have lt : ∀ i, i < cs.length → (E.A i).1 < wr.heap.size := fun i hi => Nat.lt_of_lt_of_le (h.part hi).2.2.2 h.fr.size
  have same : ∀ i, i < cs.length → w'.heap[(E.A i).1]? = wr.heap[(E.A i).1]? := fun i hi => k.block _ (lt i hi) (fun x => x.elim (h.part hi).2.2.1 (fun e => hq (e ▸ (h.part hi).2.1)))
  refine ⟨h.fr.inner k (fun i hi e => e.elim (fun e => e ▸ h.rd.2.2) (fun e => by omega)), ⟨hr, h.rd.2⟩, h.ta, h.cl, h.lt, fun i hi hm => ?_, fun i hi => ?_, ?_, ?_⟩
  · rw [cell_of (same i hi)]; exact h.oth i hi hm
  · rw [World.frozen?_of_block (same i hi)]; exact h.frz i hi
  · rw [cell_of (same m h.lt)]; exact h.cel
  · have hrow := h.row
    simp only [Rd] at hrow ⊢
    obtain ⟨xs, h1, h2, h3⟩ := hrow
    exact ⟨xs, own_at h1 (fun g hg => k.block g (h1.lt g hg).2 (fun x => x.elim (fun e => (h2 g hg).1 (e ▸ h.rd.2.2)) (fun e => hqv (e ▸ hg)))), h2, rdss_flat L xs hfl h3⟩
def Env.two (rb : Nat) (l : List Tok) (ta : Addr) (cap pb sb : Nat) : Env := { S := fun b => b = rb ∨ b = pb ∨ b = sb, rb := rb, l := l, ta := ta, cap := cap, A := fun j => if j = 0 then (pb, 0) else (sb, 0), lo := 0 }
theorem two_sq (t : Tok) (r : List Tok) : sq [pPos, pName] [] (t :: r) = if t.k = 1 ∧ ¬ t.s ∈ words then .ok ([dI t.p, dS t.s], r) else .error (50, t.p) := by
  simp only [sq, pPos, pName, List.nil_append, bad]
  by_cases h : t.k = 1 ∧ ¬ t.s ∈ words
  · simp [h]
  · simp only [if_neg h]
theorem infoS : (Tryz.prog.info? 9).map (fun i => (i.zero, i.size, i.bytes)) = some (some (.string ⟨#[]⟩), 1, 16) := by kernel_rfl
theorem flat_nil : Flat [] := fun ds h => by cases h
theorem Does.call {E : Env} {w0 : World} {f : FuncId} {x y : Array Value} {m : Nat} {zs : List D} {p : Sp} (h : Does E w0 (.func (.func f) x y) m zs p) : Ent f ∧ ∀ w c rest r, Fr E.S w0 w → c.length = m → Rdr E w r → Cel E w (c ++ zs ++ rest) → Calls Tryz.prog f (x ++ y) w (Post E w rest (m + zs.length) (p c r)) := by
  obtain ⟨fn, xs, ys, hv, h1, h2⟩ := h
  injection hv with hv hx hy
  injection hv with hv
  subst hv hx hy
  exact ⟨h1, h2⟩
theorem flat_snoc {L : List (List D)} {s : List UInt8} (h : Flat L) : Flat (L ++ [[dS s]]) := by
  intro ds hd d hdd
  rcases List.mem_append.1 hd with h1 | h1
  · exact h ds h1 d hdd
  · simp at h1; subst h1; simp at hdd; exact ⟨_, hdd⟩
theorem mon_next {rb : Nat} {l : List Tok} {ta : Addr} {cap : Nat} {w : World} {t : Tok} {r : List Tok} (h : R0 rb l ta cap w (t :: r)) (hn : t.k ≠ 0 ∨ t.s ≠ []) : ∃ u r2, r = u :: r2 := by
  obtain ⟨k, h1, h2, _, _, _, _, _, h9⟩ := h
  have := wf_next h9 h2 hn
  have e := (drop_cons h2).2.2
  cases r with
  | nil => rw [eq_comm, List.drop_eq_nil_iff] at e; omega
  | cons u r2 => exact ⟨u, r2, rfl⟩
theorem post_eq' {E : Env} {w : World} {rest : List D} {n : Nat} {X Y : Rs} {e : Ending} {w' : World} (hx : X = Y) (h : Post E w rest n X e w') : Post E w rest n Y e w' := hx ▸ h
namespace NamesR
set_option maxHeartbeats 8000000 in
theorem core (E : Env) (g0 g1 g2 b o m most : Nat) (c rest : List D) (w : World) (r0 : List Tok)
    (B0 : Hid (Bx E w g0 (.pointer (some ⟨E.rb, 0, none⟩)))) (B1 : Hid (Bx E w g1 (.pointer (some ⟨b, o, none⟩)))) (B2 : Hid (Bx E w g2 (.int .i64 (most : Int))))
    (A0 : Hid (E.A m = (b, o))) (HS : Hid (∀ b, E.S b → b < w.heap.size)) (HLo : Hid (E.lo ≤ w.heap.size)) (hcm : Hid (c.length = m)) (HR : Hid (Rdr E w r0)) (HL : Hid (Cel E w (c ++ [dN] ++ rest))) (hmost : most ≤ 1000) :
    Calls Tryz.prog 107 #[.pointer (some ⟨g0, 0, none⟩), .pointer (some ⟨g1, 0, none⟩), .pointer (some ⟨g2, 0, none⟩)] w (Post E w rest (m + 1) (pNames 9 most c r0)) := by
  obtain ⟨i0, hi, hz0, hz1, hz2⟩ := info_parts infoS
  have HI0 := hide hi
  have HZ0 := hide hz0
  have HZ1 := hide hz1
  have HZ2 := hide hz2
  clear hi hz0 hz1 hz2
  go_enter Tryz.func107, Tryz.ntmps107
  go_wp2_with fail
  go_loopw [4] (fun u4 wr => ∃ (mb : Nat) (mo : Bool) (L : List (List D)) (r : List Tok) (v : Value), u4 = .pointer (some ⟨mb, 0, none⟩) ∧ wr.cell? ⟨mb, 0, none⟩ = some (.bool mo) ∧ Hid (wr.frozen? ⟨mb, 0, none⟩ = false) ∧ Hid (RowI E w m (c ++ [dN] ++ rest) 9 1 wr L r v) ∧ Hid ((if mo then nm most L r else .ok (L, r)) = nm most [] r0) ∧ Hid (L.length ≤ most ∧ Flat L ∧ w.heap.size ≤ mb ∧ v.ownBlock ≠ some mb ∧ mb < wr.heap.size)) (fun u4 wr => 2 * (70001 - rk E.rb wr) + (match u4 with | .pointer (some a) => (match wr.cell? a with | some (.bool true) => 1 | _ => 0) | _ => 0))
  case atStart =>
    refine ⟨w.heap.size, true, [], r0, .slice none 0 0, rfl, by simp [go_sem], hide (by simp [go_sem]), hide ?_, hide rfl, hide ⟨Nat.zero_le _, flat_nil, Nat.le_refl _, by simp [Value.ownBlock], by rw [World.size_alloc]; omega⟩⟩
    rw [← uq hcm]
    exact (RowI.start (uq HR) (uq HL)).keep ((Keep.refl w).alloc _)
  case round =>
    obtain ⟨mb, mo, L, r, v, rfl, hmb, HFM, HI, HE, HX⟩ := hrel
    cases mo with
    | false =>
      go_wp2_with fail
      go_ret
      have hres : pNames 9 most c r0 = .ok (c ++ [D.row 9 1 L], r) := by
        show (match nm most [] r0 with | .error x => Except.error x | .ok (L, r') => .ok (c ++ [D.row 9 1 L], r')) = _
        rw [← uq HE]; rfl
      rw [hres]
      have HI3 := uq HI
      have hm := uq hcm
      subst hm
      exact post_ok rfl HI3.fr (by simp) HI3.rd (HI3.fin (uq HLo))
    | true =>
      replace HE : Hid (nm most L r = nm most [] r0) := hide (by have := uq HE; simpa using this)
      obtain ⟨t, r', rfl⟩ := r0_cons (uq HI).rd.1
      obtain ⟨av, cap, xs, rfl, hown⟩ := row_shape (uq HI).row
      clear hown
      obtain ⟨n, HN⟩ : ∃ n, Hid (L.length = n) := ⟨_, rfl⟩
      rw [uq HN] at HI HX
      have HEq := hide (nm_cons most L t r')
      have HMB := hide hmb
      have HSb := hide (rk_of (uq HI).rd.1)
      have HR0 := hide (uq HI).rd.1
      have hsz0 : E.rb < wr.heap.size := Nat.lt_of_lt_of_le ((uq HS) _ (uq HR).2.2) (uq HI).fr.size
      have hsz1 : E.ta.block < wr.heap.size := Nat.lt_of_lt_of_le (uq HI).ta (uq HI).fr.size
      have HSZ0 := hide hsz0
      have HSZ1 := hide hsz1
      clear hsz0 hsz1
      go_upto_region 5 with fail
      have HK2 := hide (two_keep wr (.cells #[.int .i64 0] 3) (.cells #[.string ⟨#[]⟩] 9))
      have j1 : Hid (((wr.alloc (.cells #[.int .i64 0] 3)).alloc (.cells #[.string ⟨#[]⟩] 9)).heap[wr.heap.size]? = some (.cells #[.int .i64 0] 3 (0, 0))) := hide (by rw [heap_alloc_old _ _ (by rw [World.size_alloc]; omega)]; exact heap_alloc_new wr _)
      have j2 : Hid (((wr.alloc (.cells #[.int .i64 0] 3)).alloc (.cells #[.string ⟨#[]⟩] 9)).heap[wr.heap.size + 1]? = some (.cells #[.string ⟨#[]⟩] 9 (0, 0))) := hide (by have := heap_alloc_new (wr.alloc (.cells #[.int .i64 0] 3)) (.cells #[.string ⟨#[]⟩] 9); rw [World.size_alloc] at this; exact this)
      have j3 : Hid (((wr.alloc (.cells #[.int .i64 0] 3)).alloc (.cells #[.string ⟨#[]⟩] 9)).heap.size = wr.heap.size + 2) := hide (by rw [World.size_alloc, World.size_alloc])
      generalize (wr.alloc (.cells #[.int .i64 0] 3)).alloc (.cells #[.string ⟨#[]⟩] 9) = w2 at HK2 j1 j2 j3 ⊢
      obtain ⟨pb, HPb⟩ : ∃ pb, Hid (wr.heap.size = pb) := ⟨_, rfl⟩
      rw [uq HPb] at j1 j2 j3 ⊢
      obtain ⟨sb, HSb1⟩ : ∃ sb, Hid (pb + 1 = sb) := ⟨_, rfl⟩
      rw [uq HSb1] at j2 ⊢
      have HPB : Hid (wr.heap.size = pb ∧ pb + 1 = sb) := hide ⟨uq HPb, uq HSb1⟩
      have HS2 : Hid (∀ b, (Env.two E.rb E.l E.ta E.cap pb sb).S b → b < w2.drew.heap.size) := hide (fun b hb => by
        show b < w2.heap.size
        have := uq HSZ0; have := uq HPB; have := uq j3
        rcases hb with hb | hb | hb <;> (try (have : b = E.rb := hb)) <;> omega)
      have q0 : Hid (w2.drew.cell? ⟨g0, 0, none⟩ = some (.pointer (some ⟨E.rb, 0, none⟩))) := hide ((uq HK2).cell' ((uq B0).fr (uq HI).fr).1)
      have HQ0 : Hid (¬ (Env.two E.rb E.l E.ta E.cap pb sb).S g0) := hide (fun hb => by
        have h1 := cell_lt ((uq B0).fr (uq HI).fr).1
        simp only at h1
        have := uq HPB
        rcases hb with hb | hb | hb
        · exact (uq B0).2 ((show g0 = E.rb from hb) ▸ (uq HR).2.2)
        · have : g0 = pb := hb; omega
        · have : g0 = sb := hb; omega)
      have HR2 : Hid (Rdr (Env.two E.rb E.l E.ta E.cap pb sb) w2.drew (t :: r')) := hide ⟨((uq HR0).keep (uq HK2)).keep (Keep.refl _).drew, fun hb => by
        have := uq HSZ1; have := uq HPB
        rcases hb with hb | hb | hb
        · exact (uq HI).rd.apart hb
        · have : E.ta.block = pb := hb; omega
        · have : E.ta.block = sb := hb; omega, .inl rfl⟩
      have HL2 : Hid (Cel (Env.two E.rb E.l E.ta E.cap pb sb) w2.drew [dI 0, dS []]) := hide ⟨fun i j hi hj e => by
        simp only [List.length_cons, List.length_nil] at hi hj
        have := uq HPB
        have e1 : (if i = 0 then (pb, 0) else (sb, 0)) = (if j = 0 then (pb, 0) else (sb, 0)) := e
        by_cases h1 : i = 0 <;> by_cases h2 : j = 0 <;> simp [h1, h2] at e1 <;> omega, fun j d hd => by
        match j, hd with
        | 0, hd =>
          simp at hd; subst hd
          exact ⟨.int .i64 0, by show w2.cell? ⟨pb, 0, none⟩ = _; simp [World.cell?, uq j1], dI_rd _ _ _, by show w2.frozen? ⟨pb, 0, none⟩ = _; simp [World.frozen?, uq j1], .inr (.inl rfl), fun e => by have : pb = E.rb := e; have := uq HSZ0; have := uq HPB; omega⟩
        | 1, hd =>
          simp at hd; subst hd
          exact ⟨.string ⟨#[]⟩, by show w2.cell? ⟨sb, 0, none⟩ = _; simp [World.cell?, uq j2], dS_rd [] _ _, by show w2.frozen? ⟨sb, 0, none⟩ = _; simp [World.frozen?, uq j2], .inr (.inr rfl), fun e => by have : sb = E.rb := e; have := uq HSZ0; have := uq HPB; omega⟩
        | j + 2, hd => simp at hd⟩
      clear hmb
      by_cases hname : t.k = 1 ∧ ¬ t.s ∈ words
      · have HSQ : Hid (sq [pPos, pName] [] (t :: r') = .ok ([dI t.p, dS t.s], r')) := hide (by rw [two_sq, if_pos hname])
        have HNM := hide hname
        clear hname
        refine wp_region_held_drew (S := fun w' => w'.cell? ⟨g0, 0, none⟩ = some (.pointer (some ⟨E.rb, 0, none⟩))) (by kernel_rfl) (by exact uq q0) (fun hHeld => ?_)
        refine tkk 0 10 hHeld ?_; try simp only [Act.put, Ya, Yb, Yc]
        refine tkk 2 12 hHeld ?_; try simp only [Act.put, Ya, Yb, Yc]
        refine rdyy 1 (fun K hK => ?_)
        go_simp
        clear hHeld
        (refine (pos_any (E := Env.two E.rb E.l E.ta E.cap pb sb) (dI 0) 0 _ _ rfl _ (uq HS2)).mono ?_; rintro e w3 ⟨f1, x1, y1, rfl, hk, hd⟩; have HS3 := hide (hs_keep (uq HS2) hk); have HK3 := hide hk; have HC3 : Hid (Chain (Env.two E.rb E.l E.ta E.cap pb sb) w3 0 [(.func (.func f1) x1 y1, [dI 0], pPos)]) := hide ⟨hd, trivial⟩; clear hk hd)
        try go_wp2_with fail
        refine hK.out _ _ ?_ (fun hHeld => ?_)
        · exact (uq HK3).cell' (uq q0)
        clear hK K
        try simp only [Act.put, Ya, Yb, Yc]
        refine rdyy 3 (fun K hK => ?_)
        go_simp
        clear hHeld
        (refine (name_any (E := Env.two E.rb E.l E.ta E.cap pb sb) (dS []) 1 _ _ rfl _ (uq HS3)).mono ?_; rintro e w4 ⟨f2, x2, y2, rfl, hk, hd⟩; have HS4 := hide (hs_keep (uq HS3) hk); have HK4 := hide ((uq HK3).trans hk); have HC4 : Hid (Chain (Env.two E.rb E.l E.ta E.cap pb sb) w4 0 [(.func (.func f1) x1 y1, [dI 0], pPos), (.func (.func f2) x2 y2, [dS []], pName)]) := hide (chain_snoc (uq HC3) hk hd); clear hk hd)
        try go_wp2_with fail
        refine hK.out _ _ ?_ (fun hHeld => ?_)
        · exact (uq HK4).cell' (uq q0)
        clear hK K
        try simp only [Act.put, Ya, Yb, Yc]
        refine rdyy 4 (fun K hK => ?_)
        go_simp
        clear hHeld
        refine hK.out _ _ ?_ (fun hHeld => ?_)
        · exact ((uq HK4).alloc _).cell' (uq q0)
        clear hK K
        try simp only [Act.put, Ya, Yb, Yc]
        refine rdyy 5 (fun K hK => ?_)
        go_simp
        clear hHeld
        (refine (order_any (E := Env.two E.rb E.l E.ta E.cap pb sb) (m := 0) (ss := [(.func (.func f1) x1 y1, [dI 0], pPos), (.func (.func f2) x2 y2, [dS []], pName)]) (c := []) (rest := []) (r := t :: r') (by simp) (chain_keep ((Keep.refl _).alloc _) (uq HC4)) (new_steps _ _ _) (fun h => Nat.lt_irrefl _ ((uq HS4) _ h)) rfl ((uq HR2).keep ((uq HK4).alloc _)) ((uq HL2).keep ((uq HK4).alloc _))).mono ?_; rintro e w5 hp; have hp2 := post_eq' (n := 2) (uq HSQ) hp; obtain rfl : e = .returned .nilIface := hp2.2.1; have HP := hide hp; have HP2 := hide hp2; have HKz := hide ((uq HK4).alloc (.cells #[.func (.func f1) x1 y1, .func (.func f2) x2 y2] 121)); clear hp hp2)
        try go_wp2_with fail
        refine hK.out _ _ ?_ (fun hHeld => ?_)
        · exact (uq HP).1.cell ((uq HKz).cell' (uq q0)) (uq HQ0)
        clear hK K
        try simp only [Act.put, Ya, Yb, Yc]
        refine tkk 6 7 hHeld ?_; try simp only [Act.put, Ya, Yb, Yc]
        refine wpAnyH_done (by kernel_rfl) ?_ _
        clear hHeld
        have HF5 : Hid (Fr (fun b => b = E.rb) wr w5) := hide (Fr.inner ((Fr.keep (uq HK2)).trans ((Fr.keep (Keep.refl w2).drew).trans (.keep (uq HKz)))) (uq HP2).1 (fun i hi hs => by
          rcases hs with hs | hs | hs
          · exact hs
          · have := uq HPB; omega
          · have := uq HPB; omega))
        have HI5 : Hid (RowI E w m (c ++ [dN] ++ rest) 9 1 w5.drew L r' (.slice av n cap)) := hide (((uq HI).move (uq HF5) (uq HP2).2.2.2.1.1).keep (Keep.refl _).drew)
        have hcl := (uq HP2).2.2.2.2
        have x0 : Hid (w5.drew.cell? ⟨pb, 0, none⟩ = some (.int .i64 t.p)) := hide (by
          obtain ⟨u, k1, k2, _⟩ := hcl.2 0 (dI t.p) (by simp)
          exact (show w5.cell? ⟨pb, 0, none⟩ = some u from k1).trans (by rw [show u = .int .i64 t.p from k2.1]))
        have x1 : Hid (w5.drew.cell? ⟨sb, 0, none⟩ = some (.string (sv t.s))) := hide (by
          obtain ⟨u, k1, k2, _⟩ := hcl.2 1 (dS t.s) (by simp)
          exact (show w5.cell? ⟨sb, 0, none⟩ = some u from k1).trans (by rw [show u = .string (sv t.s) from k2.1]))
        clear hcl
        have y1 : Hid (w5.drew.cell? ⟨g1, 0, none⟩ = some (.pointer (some ⟨b, o, none⟩))) := hide ((uq B1).fr (uq HI5).fr).1
        have y2 : Hid (w5.drew.cell? ⟨g2, 0, none⟩ = some (.int .i64 (most : Int))) := hide ((uq B2).fr (uq HI5).fr).1
        have y5 : Hid (w5.drew.cell? ⟨b, o, none⟩ = some (.slice av n cap)) := hide (by have := (uq HI5).cel; rw [uq A0] at this; exact this)
        have y6 : Hid (w5.drew.frozen? ⟨b, o, none⟩ = false) := hide (by have := (uq HI5).frz m (uq HI5).lt; rw [uq A0] at this; exact this)
        have hmm : w5.drew.heap[mb]? = wr.heap[mb]? := (uq HF5).block mb (uq HX).2.2.2.2 (fun e => by have := (uq HX).2.2.1; have := (uq HS) _ (uq HR).2.2; omega)
        have ym : Hid (w5.drew.cell? ⟨mb, 0, none⟩ = some (.bool true)) := hide ((cell_of (a := ⟨mb, 0, none⟩) hmm).trans (uq HMB))
        have yf : Hid (w5.drew.frozen? ⟨mb, 0, none⟩ = false) := hide ((World.frozen?_of_block (a := ⟨mb, 0, none⟩) hmm).trans (uq HFM))
        have hnm : n ≤ most := (uq HX).1
        clear hmm
        by_cases hn : n = most
        · have hb1 : ((n : Int) == (most : Int)) = true := by simp [hn]
          have hb2 : (n == most) = true := by simp [hn]
          have HNE := hide hn
          clear hn
          go_wp2_with fail
          refine wp_region_held_drew (S := fun w' => w'.cell? ⟨g1, 0, none⟩ = some (.pointer (some ⟨b, o, none⟩)) ∧ w'.cell? ⟨g2, 0, none⟩ = some (.int .i64 (most : Int)) ∧ w'.cell? ⟨b, o, none⟩ = some (.slice av n cap)) (by kernel_rfl) (by exact ⟨uq y1, uq y2, uq y5⟩) (fun hHeld => ?_)
          refine tkk 0 19 hHeld ?_; try simp only [Act.put, Ya, Yb, Yc]
          refine tkk 1 20 hHeld ?_; try simp only [Act.put, Ya, Yb, Yc]
          refine tkk 2 21 hHeld ?_; try simp only [Act.put, Ya, Yb, Yc]
          refine tkk 3 22 hHeld ?_; try simp only [Act.put, Ya, Yb, Yc]
          refine tkk 4 23 hHeld ?_; try simp only [Act.put, Ya, Yb, Yc]
          refine tkk 5 24 hHeld ?_; try simp only [Act.put, Ya, Yb, Yc]
          refine wpAnyH_done (by kernel_rfl) ?_ _
          clear hHeld
          have z0 := uq x0
          go_wp2_with fail
          go_ret
          have hres : pNames 9 most c r0 = .error (4, t.p) := by
            show (match nm most [] r0 with | .error x => Except.error x | .ok (L, r') => .ok (c ++ [D.row 9 1 L], r')) = _
            rw [← uq HE, uq HEq, if_pos (uq HNM), if_pos (by rw [uq HN]; exact uq HNE)]
          rw [hres]
          exact ⟨(uq HI5).fr, rfl⟩
        · have hb1 : ((n : Int) == (most : Int)) = false := by simp; omega
          have hb2 : (n == most) = false := by simp [hn]
          have HNN := hide hn
          clear hn
          have hbl : E.S b := by have := ((uq HI5).part (uq HI5).lt).2.1; rw [uq A0] at this; exact this
          have HBl := hide hbl
          have hnb2 : ∀ j, (Value.slice av n cap).ownBlock = some j → ¬ E.S j ∧ w.heap.size ≤ j ∧ j < pb := fun j ej => by
            have hr := (uq HI).row
            simp only [Rd] at hr
            obtain ⟨_, q1, q2, _⟩ := hr
            have q3 := q2 j ej
            have q4 := (q1.lt j ej).2
            have := uq HPB
            exact ⟨q3.1, q3.2, by omega⟩
          have HNB := hide hnb2
          have hg2b : Hid (b ≠ g1) := hide (fun e => (uq B1).2 (e ▸ hbl))
          have hxbb : Hid (b ≠ sb) := hide (fun e => by have := (uq HS) _ hbl; have := (uq HI).fr.size; have := uq HPB; omega)
          clear hbl hnb2
          obtain ⟨av5, cap5, xs5, hsh5, hown5⟩ := row_shape (uq HI5).row
          clear hsh5
          rw [uq HN] at hown5
          have HOWN5 := hide hown5
          clear hown5
          go_wp2_with fail
          refine wp_region_held_drew (S := fun w' => w'.cell? ⟨g1, 0, none⟩ = some (.pointer (some ⟨b, o, none⟩)) ∧ w'.cell? ⟨g2, 0, none⟩ = some (.int .i64 (most : Int)) ∧ w'.cell? ⟨b, o, none⟩ = some (.slice av n cap)) (by kernel_rfl) (by exact ⟨uq y1, uq y2, uq y5⟩) (fun hHeld => ?_)
          refine tkk 0 19 hHeld ?_; try simp only [Act.put, Ya, Yb, Yc]
          refine tkk 1 20 hHeld ?_; try simp only [Act.put, Ya, Yb, Yc]
          refine tkk 2 21 hHeld ?_; try simp only [Act.put, Ya, Yb, Yc]
          refine tkk 3 22 hHeld ?_; try simp only [Act.put, Ya, Yb, Yc]
          refine tkk 4 23 hHeld ?_; try simp only [Act.put, Ya, Yb, Yc]
          refine tkk 5 24 hHeld ?_; try simp only [Act.put, Ya, Yb, Yc]
          refine wpAnyH_done (by kernel_rfl) ?_ _
          clear hHeld
          have HI7 : Hid (RowI E w m (c ++ [dN] ++ rest) 9 1 w5.drew.drew L r' (.slice av n cap)) := hide ((uq HI5).keep (Keep.refl _).drew)
          replace x1 : Hid (w5.drew.drew.cell? ⟨sb, 0, none⟩ = some (.string (sv t.s))) := x1
          replace y1 : Hid (w5.drew.drew.cell? ⟨g1, 0, none⟩ = some (.pointer (some ⟨b, o, none⟩))) := y1
          replace y5 : Hid (w5.drew.drew.cell? ⟨b, o, none⟩ = some (.slice av n cap)) := y5
          replace y6 : Hid (w5.drew.drew.frozen? ⟨b, o, none⟩ = false) := y6
          replace ym : Hid (w5.drew.drew.cell? ⟨mb, 0, none⟩ = some (.bool true)) := ym
          replace yf : Hid (w5.drew.drew.frozen? ⟨mb, 0, none⟩ = false) := yf
          replace HOWN5 : Hid (w5.drew.drew.ownsRow 0 9 1 (.slice av n cap) n xs5) := HOWN5
          go_wp2_with fail
          refine wp_region_held_drew (S := fun w' => w'.cell? ⟨g1, 0, none⟩ = some (.pointer (some ⟨b, o, none⟩)) ∧ w'.cell? ⟨sb, 0, none⟩ = some (.string (sv t.s))) (by kernel_rfl) (by exact ⟨uq y1, uq x1⟩) (fun hHeld => ?_)
          refine tkk 0 28 hHeld ?_; try simp only [Act.put, Ya, Yb, Yc]
          refine tkk 1 29 hHeld ?_; try simp only [Act.put, Ya, Yb, Yc]
          refine tkk 2 30 hHeld ?_; try simp only [Act.put, Ya, Yb, Yc]
          refine tkk 4 32 hHeld ?_; try simp only [Act.put, Ya, Yb, Yc]
          generalize w5.drew.drew = w7 at HI7 x1 y1 y5 y6 ym yf HOWN5 ⊢
          have HOLD : Hid (∀ w', Keep w7 w' → w'.cell? ⟨g1, 0, none⟩ = some (.pointer (some ⟨b, o, none⟩)) ∧ w'.cell? ⟨sb, 0, none⟩ = some (.string (sv t.s))) := hide (fun w' hk => ⟨hk.cell' (uq y1), hk.cell' (uq x1)⟩)
          have z5 := uq y5
          have z5a : ∀ ob, (w7.alloc ob).cell? ⟨b, o, none⟩ = some (.slice av n cap) := fun ob => ((Keep.refl w7).alloc ob).cell' z5
          have Z5 := hide z5a
          clear z5a
          refine wpAnyH_ready (rs := [3, 5]) (by kernel_rfl) (by simp) ?_
          refine AllReadyH.cons rfl (fun K hK => ?_) (AllReadyH.cons rfl (fun K hK => ?_) AllReadyH.nil)
          · skip
            go_simp
            clear hHeld
            refine hK.out _ _ ?_ (fun hHeld => ?_)
            · exact (uq HOLD) _ (Keep.refl _)
            clear hK K
            try simp only [Act.put, Ya, Yb, Yc]
            refine rdyy 5 (fun K hK => ?_)
            go_simp
            clear hHeld
            refine hK.out _ _ ?_ (fun hHeld => ?_)
            · exact (uq HOLD) _ ((Keep.refl _).alloc _)
            clear hK K
            try simp only [Act.put, Ya, Yb, Yc]
            refine wpAnyH_ready (rs := [6]) (by kernel_rfl) (by simp) ?_
            refine AllReadyH.cons rfl (fun K hK => ?_) AllReadyH.nil
            refine wp_append_at _ _ _ rfl 0 9 i0 _ 1 16 Tryz.underlying103 (uq HI0) (uq HZ0) (uq HZ1) (uq HZ2) rfl (by decide) _ _ _ rfl ((uq HOWN5).alloc _) ⟨w7.heap.size, 0, none⟩ 1 1 [.string (sv t.s)] rfl rfl (new_cells w7 [.string (sv t.s)] 9) (by simp [Value.oneCell']) (by unfold maxLen; omega) (by omega) (Nat.zero_le _) ?_
            intro v' w8 hown' hgrow hat
            obtain ⟨g', cp', rfl⟩ := own_succ hown'
            have HOWN' := hide hown'
            have HGROW := hide hgrow
            have HAT := hide hat
            clear hown' hgrow hat
            have HSt : Hid (∀ q, (q < w7.heap.size ∧ ∀ j, (Value.slice av n cap).ownBlock = some j → j ≠ q) → w8.heap[q]? = w7.heap[q]?) := hide (fun q hq => by rw [(uq HGROW).block q (by rw [World.size_alloc]; omega) (fun e => hq.2 q e.symm rfl)]; exact heap_alloc_old w7 _ hq.1)
            have HSt2 : Hid (w8.cell? ⟨g1, 0, none⟩ = some (.pointer (some ⟨b, o, none⟩)) ∧ w8.cell? ⟨sb, 0, none⟩ = some (.string (sv t.s))) := hide (by
              have hg2 : w8.heap[g1]? = w7.heap[g1]? := (uq HSt) g1 ⟨cell_lt (uq y1), fun j ej e => by have := ((uq HNB) j ej).2.1; have := cell_lt (uq B1).1; simp at this; omega⟩
              have hx2 : w8.heap[sb]? = w7.heap[sb]? := (uq HSt) sb ⟨cell_lt (uq x1), fun j ej e => by have := ((uq HNB) j ej).2.2; have := uq HPB; omega⟩
              exact ⟨(cell_of (a := ⟨g1, 0, none⟩) hg2).trans (uq y1), (cell_of (a := ⟨sb, 0, none⟩) hx2).trans (uq x1)⟩)
            have hb7 : w8.heap[b]? = w7.heap[b]? := (uq HSt) b ⟨cell_lt (uq y5), fun j ej e => ((uq HNB) j ej).1 (e ▸ uq HBl)⟩
            have b5 : w8.cell? ⟨b, o, none⟩ = some (.slice av n cap) := (cell_of (a := ⟨b, o, none⟩) hb7).trans (uq y5)
            have b6 : w8.frozen? ⟨b, o, none⟩ = false := (World.frozen?_of_block (a := ⟨b, o, none⟩) hb7).trans (uq y6)
            have HM8 : Hid (w8.heap[mb]? = w7.heap[mb]?) := hide ((uq HSt) mb ⟨cell_lt (uq ym), fun j ej e => (uq HX).2.2.2.1 (e ▸ ej)⟩)
            clear hb7
            refine hK.out _ _ ?_ (fun hHeld => ?_)
            · exact uq HSt2
            clear hK K
            try simp only [Act.put, List.setIfInBounds_toArray, List.set_cons_zero, List.set_cons_succ]
            refine tkk 7 35 hHeld ?_; try simp only [Act.put, Ya, Yb, Yc]
            refine rdyy 8 (fun K hK => ?_)
            go_simp
            clear hHeld
            refine hK.out _ _ ?_ (fun hHeld => ?_)
            · exact ⟨(set_far w8 ⟨b, o, none⟩ ⟨g1, 0, none⟩ _ (uq hg2b)).trans (uq HSt2).1, (set_far w8 ⟨b, o, none⟩ ⟨sb, 0, none⟩ _ (uq hxbb)).trans (uq HSt2).2⟩
            clear hK K
            try simp only [Act.put, Ya, Yb, Yc]
            refine wpAnyH_done (by kernel_rfl) ?_ _
            clear hHeld
            have h9 := (uq HI7).app (w3 := w8) (o := .cells #[.string (sv t.s)] 9) (ds := [dS t.s]) (v' := .slice (some ⟨g', 0, none⟩) (n + 1) cp') (xs := xs5) (vs := [.string (sv t.s)]) (B := pb) (uq HS) (fun g eg => ((uq HNB) g eg).2.2) (by have := (uq HI).fr.size; have := uq HPB; omega) (by simp only [Rds]; exact ⟨_, _, rfl, dS_rd _ _ _, rfl⟩) rfl (by rw [uq HN]; exact uq HOWN5) (by rw [uq HN]; exact uq HOWN') (uq HGROW) (uq HAT)
            rw [uq A0] at h9
            have HI9 := hide h9
            clear h9 b5 b6
            have HV9 : Hid ((Value.slice (some ⟨g', 0, none⟩) (n + 1) cp').ownBlock ≠ some mb) := hide (fun e => by
              rcases uq HAT with h | h
              · exact (uq HX).2.2.2.1 (h ▸ e)
              · rw [h] at e; injection e with e; rw [World.size_alloc] at e; have := cell_lt (uq ym); simp only at this; omega)
            have m9 : Hid ((w8.setCell ⟨b, o, none⟩ (.slice (some ⟨g', 0, none⟩) (n + 1) cp')).heap[mb]? = w7.heap[mb]?) := hide (by rw [Below.heap_setCell _ _ _ _ (fun e => by have := (uq HS) _ (uq HBl); have := (uq HX).2.2.1; simp only at e; omega)]; exact uq HM8)
            generalize w8.setCell ⟨b, o, none⟩ (.slice (some ⟨g', 0, none⟩) (n + 1) cp') = w9 at HI9 m9 ⊢
            have k0 := ((uq B0).fr (uq HI9).fr).1
            have K0 := hide k0
            go_wp2_with fail
            (refine (may_any (E := Env.one E.rb E.l E.ta E.cap mb (fun j => j) 0) [44] (by decide) (dB true) 0 mb 0 rfl _ (fun b hb => by
              rcases hb with hb | hb
              · have : b = E.rb := hb; have := (uq HS) _ (uq HR).2.2; have := (uq HI9).fr.size; omega
              · have : b = mb := hb; have := (uq HX).2.2.2.2; have := cell_lt ((cell_of (a := ⟨mb, 0, none⟩) (uq m9)).trans (uq ym)); simp only at this; omega)).mono ?_; rintro e w10 ⟨f3, x3, y3, rfl, hk, hd⟩; have HK10 := hide hk; obtain ⟨hent3, hd3⟩ := hd.call; have HD3 := hide hd3; clear hk hd hd3)
            unfold Ent at hent3
            go_wp2_with fail
            obtain ⟨u, r2, hru⟩ := mon_next (uq HR0) (.inl (by have := (uq HNM).1; rw [this]; decide))
            have hr10 : Rdr (Env.one E.rb E.l E.ta E.cap mb (fun j => j) 0) w10 r' := (one_rdr (uq HI9).rd.1 (fun e => by have := (uq HI).ta; have := (uq HX).2.2.1; omega) (fun e => (uq HI).rd.apart e.symm)).keep (uq HK10)
            have c10 : w10.heap[mb]? = w7.heap[mb]? := ((uq HK10).block mb (cell_lt ((cell_of (a := ⟨mb, 0, none⟩) (uq m9)).trans (uq ym)))).trans (uq m9)
            have hl10 : Cel (Env.one E.rb E.l E.ta E.cap mb (fun j => j) 0) w10 ([] ++ [dB true] ++ []) := ⟨fun i j hi hj e => by simp at hi hj; omega, fun j d hd => by
              match j, hd with
              | 0, hd =>
                simp at hd; subst hd
                exact ⟨.bool true, (cell_of (a := ⟨mb, 0, none⟩) c10).trans (uq ym), dB_rd _ _ _, (World.frozen?_of_block (a := ⟨mb, 0, none⟩) c10).trans (uq yf), .inr rfl, fun e => by have : mb = E.rb := e; have := (uq HX).2.2.1; have := (uq HS) _ (uq HR).2.2; omega⟩
              | j + 1, hd => simp at hd⟩
            refine ((uq HD3) w10 [] [] r' (.refl _ _) rfl hr10 hl10).mono ?_
            clear hr10 hl10
            rintro e w11 ⟨hf11, hp11⟩
            rw [hru] at hp11
            obtain ⟨bb, r3, hpm, hnext, hlen⟩ : ∃ bb r3, pMay [44] [] (u :: r2) = .ok ([dB bb], r3) ∧ (if bb then nm most (L ++ [[dS t.s]]) r3 else .ok (L ++ [[dS t.s]], r3)) = nm most L (t :: r') ∧ r3.length ≤ r'.length := by
              by_cases hu : u.s = [44]
              · exact ⟨true, r2, by simp [pMay, hu], by rw [if_pos rfl, uq HEq, if_pos (uq HNM), if_neg (by rw [uq HN]; exact uq HNN), hru]; simp [hu], by rw [hru]; simp⟩
              · exact ⟨false, u :: r2, by simp [pMay, hu], by rw [if_neg (by decide), uq HEq, if_pos (uq HNM), if_neg (by rw [uq HN]; exact uq HNN), hru]; simp [hu], by rw [hru]; simp⟩
            rw [hpm] at hp11
            obtain ⟨rfl, _, hr11, hl11⟩ := hp11
            have z11 : w11.cell? ⟨mb, 0, none⟩ = some (.bool bb) := by
              obtain ⟨u, k1, k2, _⟩ := hl11.2 0 (dB bb) (by simp)
              exact k1.trans (by rw [show u = .bool bb from k2.1])
            have HI11 : Hid (RowI E w m (c ++ [dN] ++ rest) 9 1 w11 (L ++ [[dS t.s]]) r3 (.slice (some ⟨g', 0, none⟩) (n + 1) cp')) := hide (((uq HI9).keep (uq HK10)).move2 (flat_snoc (uq HX).2.1) (fun hs => by have := (uq HS) _ hs; have := (uq HX).2.2.1; omega) (uq HX).2.2.1 (uq HV9) hf11 hr11.1)
            have HNX : Hid ((if bb then nm most (L ++ [[dS t.s]]) r3 else .ok (L ++ [[dS t.s]], r3)) = nm most [] r0) := hide (by rw [hnext]; exact uq HE)
            have HRk := hide (rk_of (uq HI11).rd.1)
            have HLen := hide hlen
            clear hl11 hr11 hf11 hpm hnext hru hlen c10
            go_wp2_with fail
            go_roundw
            case rel =>
              refine ⟨w11.heap.size, bb, L ++ [[dS t.s]], r3, .slice (some ⟨g', 0, none⟩) (n + 1) cp', rfl, by simp [go_sem], hide (by simp [go_sem]), hide ((uq HI11).keep ((Keep.refl _).alloc _)), HNX, hide ⟨?_, flat_snoc (uq HX).2.1, ?_, ?_, ?_⟩⟩
              · rw [List.length_append]; have := (uq HX).1; have := uq HN; have := uq HNN; simp; omega
              · have := (uq HI11).fr.size; omega
              · intro e
                have hr := (uq HI11).row
                simp only [Rd] at hr
                obtain ⟨_, q1, _⟩ := hr
                have := (q1.lt _ e).2
                omega
              · rw [World.size_alloc]; omega
            case measure =>
              have q1 := uq HRk
              have q2 := uq HSb
              have q3 := uq HLen
              simp only [List.length_cons] at q2
              have e9 : ∀ o, rk E.rb (w11.alloc o) = rk E.rb w11 := fun o => by
                unfold rk
                rw [World.cell?_alloc_lt _ _ _ (Nat.lt_of_lt_of_le ((uq HS) _ (uq HR).2.2) (uq HI11).fr.size)]
              have y : wr.cell? ⟨mb, 0, none⟩ = some (.bool true) := uq HMB
              simp only [e9, y]
              cases bb <;> simp [go_sem] <;> omega
          · skip
            go_simp
            clear hHeld
            refine hK.out _ _ ?_ (fun hHeld => ?_)
            · exact (uq HOLD) _ ((Keep.refl _).alloc _)
            clear hK K
            try simp only [Act.put, Ya, Yb, Yc]
            have z5a := uq Z5
            clear z5
            refine rdyy 3 (fun K hK => ?_)
            go_simp
            clear hHeld
            refine hK.out _ _ ?_ (fun hHeld => ?_)
            · exact (uq HOLD) _ ((Keep.refl _).alloc _)
            clear hK K
            try simp only [Act.put, Ya, Yb, Yc]
            refine wpAnyH_ready (rs := [6]) (by kernel_rfl) (by simp) ?_
            refine AllReadyH.cons rfl (fun K hK => ?_) AllReadyH.nil
            refine wp_append_at _ _ _ rfl 0 9 i0 _ 1 16 Tryz.underlying103 (uq HI0) (uq HZ0) (uq HZ1) (uq HZ2) rfl (by decide) _ _ _ rfl ((uq HOWN5).alloc _) ⟨w7.heap.size, 0, none⟩ 1 1 [.string (sv t.s)] rfl rfl (new_cells w7 [.string (sv t.s)] 9) (by simp [Value.oneCell']) (by unfold maxLen; omega) (by omega) (Nat.zero_le _) ?_
            intro v' w8 hown' hgrow hat
            obtain ⟨g', cp', rfl⟩ := own_succ hown'
            have HOWN' := hide hown'
            have HGROW := hide hgrow
            have HAT := hide hat
            clear hown' hgrow hat
            have HSt : Hid (∀ q, (q < w7.heap.size ∧ ∀ j, (Value.slice av n cap).ownBlock = some j → j ≠ q) → w8.heap[q]? = w7.heap[q]?) := hide (fun q hq => by rw [(uq HGROW).block q (by rw [World.size_alloc]; omega) (fun e => hq.2 q e.symm rfl)]; exact heap_alloc_old w7 _ hq.1)
            have HSt2 : Hid (w8.cell? ⟨g1, 0, none⟩ = some (.pointer (some ⟨b, o, none⟩)) ∧ w8.cell? ⟨sb, 0, none⟩ = some (.string (sv t.s))) := hide (by
              have hg2 : w8.heap[g1]? = w7.heap[g1]? := (uq HSt) g1 ⟨cell_lt (uq y1), fun j ej e => by have := ((uq HNB) j ej).2.1; have := cell_lt (uq B1).1; simp at this; omega⟩
              have hx2 : w8.heap[sb]? = w7.heap[sb]? := (uq HSt) sb ⟨cell_lt (uq x1), fun j ej e => by have := ((uq HNB) j ej).2.2; have := uq HPB; omega⟩
              exact ⟨(cell_of (a := ⟨g1, 0, none⟩) hg2).trans (uq y1), (cell_of (a := ⟨sb, 0, none⟩) hx2).trans (uq x1)⟩)
            have hb7 : w8.heap[b]? = w7.heap[b]? := (uq HSt) b ⟨cell_lt (uq y5), fun j ej e => ((uq HNB) j ej).1 (e ▸ uq HBl)⟩
            have b5 : w8.cell? ⟨b, o, none⟩ = some (.slice av n cap) := (cell_of (a := ⟨b, o, none⟩) hb7).trans (uq y5)
            have b6 : w8.frozen? ⟨b, o, none⟩ = false := (World.frozen?_of_block (a := ⟨b, o, none⟩) hb7).trans (uq y6)
            have HM8 : Hid (w8.heap[mb]? = w7.heap[mb]?) := hide ((uq HSt) mb ⟨cell_lt (uq ym), fun j ej e => (uq HX).2.2.2.1 (e ▸ ej)⟩)
            clear hb7
            refine hK.out _ _ ?_ (fun hHeld => ?_)
            · exact uq HSt2
            clear hK K
            try simp only [Act.put, List.setIfInBounds_toArray, List.set_cons_zero, List.set_cons_succ]
            refine tkk 7 35 hHeld ?_; try simp only [Act.put, Ya, Yb, Yc]
            refine rdyy 8 (fun K hK => ?_)
            go_simp
            clear hHeld
            refine hK.out _ _ ?_ (fun hHeld => ?_)
            · exact ⟨(set_far w8 ⟨b, o, none⟩ ⟨g1, 0, none⟩ _ (uq hg2b)).trans (uq HSt2).1, (set_far w8 ⟨b, o, none⟩ ⟨sb, 0, none⟩ _ (uq hxbb)).trans (uq HSt2).2⟩
            clear hK K
            try simp only [Act.put, Ya, Yb, Yc]
            refine wpAnyH_done (by kernel_rfl) ?_ _
            clear hHeld
            have h9 := (uq HI7).app (w3 := w8) (o := .cells #[.string (sv t.s)] 9) (ds := [dS t.s]) (v' := .slice (some ⟨g', 0, none⟩) (n + 1) cp') (xs := xs5) (vs := [.string (sv t.s)]) (B := pb) (uq HS) (fun g eg => ((uq HNB) g eg).2.2) (by have := (uq HI).fr.size; have := uq HPB; omega) (by simp only [Rds]; exact ⟨_, _, rfl, dS_rd _ _ _, rfl⟩) rfl (by rw [uq HN]; exact uq HOWN5) (by rw [uq HN]; exact uq HOWN') (uq HGROW) (uq HAT)
            rw [uq A0] at h9
            have HI9 := hide h9
            clear h9 b5 b6
            have HV9 : Hid ((Value.slice (some ⟨g', 0, none⟩) (n + 1) cp').ownBlock ≠ some mb) := hide (fun e => by
              rcases uq HAT with h | h
              · exact (uq HX).2.2.2.1 (h ▸ e)
              · rw [h] at e; injection e with e; rw [World.size_alloc] at e; have := cell_lt (uq ym); simp only at this; omega)
            have m9 : Hid ((w8.setCell ⟨b, o, none⟩ (.slice (some ⟨g', 0, none⟩) (n + 1) cp')).heap[mb]? = w7.heap[mb]?) := hide (by rw [Below.heap_setCell _ _ _ _ (fun e => by have := (uq HS) _ (uq HBl); have := (uq HX).2.2.1; simp only at e; omega)]; exact uq HM8)
            generalize w8.setCell ⟨b, o, none⟩ (.slice (some ⟨g', 0, none⟩) (n + 1) cp') = w9 at HI9 m9 ⊢
            have k0 := ((uq B0).fr (uq HI9).fr).1
            have K0 := hide k0
            go_wp2_with fail
            (refine (may_any (E := Env.one E.rb E.l E.ta E.cap mb (fun j => j) 0) [44] (by decide) (dB true) 0 mb 0 rfl _ (fun b hb => by
              rcases hb with hb | hb
              · have : b = E.rb := hb; have := (uq HS) _ (uq HR).2.2; have := (uq HI9).fr.size; omega
              · have : b = mb := hb; have := (uq HX).2.2.2.2; have := cell_lt ((cell_of (a := ⟨mb, 0, none⟩) (uq m9)).trans (uq ym)); simp only at this; omega)).mono ?_; rintro e w10 ⟨f3, x3, y3, rfl, hk, hd⟩; have HK10 := hide hk; obtain ⟨hent3, hd3⟩ := hd.call; have HD3 := hide hd3; clear hk hd hd3)
            unfold Ent at hent3
            go_wp2_with fail
            obtain ⟨u, r2, hru⟩ := mon_next (uq HR0) (.inl (by have := (uq HNM).1; rw [this]; decide))
            have hr10 : Rdr (Env.one E.rb E.l E.ta E.cap mb (fun j => j) 0) w10 r' := (one_rdr (uq HI9).rd.1 (fun e => by have := (uq HI).ta; have := (uq HX).2.2.1; omega) (fun e => (uq HI).rd.apart e.symm)).keep (uq HK10)
            have c10 : w10.heap[mb]? = w7.heap[mb]? := ((uq HK10).block mb (cell_lt ((cell_of (a := ⟨mb, 0, none⟩) (uq m9)).trans (uq ym)))).trans (uq m9)
            have hl10 : Cel (Env.one E.rb E.l E.ta E.cap mb (fun j => j) 0) w10 ([] ++ [dB true] ++ []) := ⟨fun i j hi hj e => by simp at hi hj; omega, fun j d hd => by
              match j, hd with
              | 0, hd =>
                simp at hd; subst hd
                exact ⟨.bool true, (cell_of (a := ⟨mb, 0, none⟩) c10).trans (uq ym), dB_rd _ _ _, (World.frozen?_of_block (a := ⟨mb, 0, none⟩) c10).trans (uq yf), .inr rfl, fun e => by have : mb = E.rb := e; have := (uq HX).2.2.1; have := (uq HS) _ (uq HR).2.2; omega⟩
              | j + 1, hd => simp at hd⟩
            refine ((uq HD3) w10 [] [] r' (.refl _ _) rfl hr10 hl10).mono ?_
            clear hr10 hl10
            rintro e w11 ⟨hf11, hp11⟩
            rw [hru] at hp11
            obtain ⟨bb, r3, hpm, hnext, hlen⟩ : ∃ bb r3, pMay [44] [] (u :: r2) = .ok ([dB bb], r3) ∧ (if bb then nm most (L ++ [[dS t.s]]) r3 else .ok (L ++ [[dS t.s]], r3)) = nm most L (t :: r') ∧ r3.length ≤ r'.length := by
              by_cases hu : u.s = [44]
              · exact ⟨true, r2, by simp [pMay, hu], by rw [if_pos rfl, uq HEq, if_pos (uq HNM), if_neg (by rw [uq HN]; exact uq HNN), hru]; simp [hu], by rw [hru]; simp⟩
              · exact ⟨false, u :: r2, by simp [pMay, hu], by rw [if_neg (by decide), uq HEq, if_pos (uq HNM), if_neg (by rw [uq HN]; exact uq HNN), hru]; simp [hu], by rw [hru]; simp⟩
            rw [hpm] at hp11
            obtain ⟨rfl, _, hr11, hl11⟩ := hp11
            have z11 : w11.cell? ⟨mb, 0, none⟩ = some (.bool bb) := by
              obtain ⟨u, k1, k2, _⟩ := hl11.2 0 (dB bb) (by simp)
              exact k1.trans (by rw [show u = .bool bb from k2.1])
            have HI11 : Hid (RowI E w m (c ++ [dN] ++ rest) 9 1 w11 (L ++ [[dS t.s]]) r3 (.slice (some ⟨g', 0, none⟩) (n + 1) cp')) := hide (((uq HI9).keep (uq HK10)).move2 (flat_snoc (uq HX).2.1) (fun hs => by have := (uq HS) _ hs; have := (uq HX).2.2.1; omega) (uq HX).2.2.1 (uq HV9) hf11 hr11.1)
            have HNX : Hid ((if bb then nm most (L ++ [[dS t.s]]) r3 else .ok (L ++ [[dS t.s]], r3)) = nm most [] r0) := hide (by rw [hnext]; exact uq HE)
            have HRk := hide (rk_of (uq HI11).rd.1)
            have HLen := hide hlen
            clear hl11 hr11 hf11 hpm hnext hru hlen c10
            go_wp2_with fail
            go_roundw
            case rel =>
              refine ⟨w11.heap.size, bb, L ++ [[dS t.s]], r3, .slice (some ⟨g', 0, none⟩) (n + 1) cp', rfl, by simp [go_sem], hide (by simp [go_sem]), hide ((uq HI11).keep ((Keep.refl _).alloc _)), HNX, hide ⟨?_, flat_snoc (uq HX).2.1, ?_, ?_, ?_⟩⟩
              · rw [List.length_append]; have := (uq HX).1; have := uq HN; have := uq HNN; simp; omega
              · have := (uq HI11).fr.size; omega
              · intro e
                have hr := (uq HI11).row
                simp only [Rd] at hr
                obtain ⟨_, q1, _⟩ := hr
                have := (q1.lt _ e).2
                omega
              · rw [World.size_alloc]; omega
            case measure =>
              have q1 := uq HRk
              have q2 := uq HSb
              have q3 := uq HLen
              simp only [List.length_cons] at q2
              have e9 : ∀ o, rk E.rb (w11.alloc o) = rk E.rb w11 := fun o => by
                unfold rk
                rw [World.cell?_alloc_lt _ _ _ (Nat.lt_of_lt_of_le ((uq HS) _ (uq HR).2.2) (uq HI11).fr.size)]
              have y : wr.cell? ⟨mb, 0, none⟩ = some (.bool true) := uq HMB
              simp only [e9, y]
              cases bb <;> simp [go_sem] <;> omega
      · have HSQ : Hid (sq [pPos, pName] [] (t :: r') = .error (50, t.p)) := hide (by rw [two_sq, if_neg hname])
        have HNM := hide hname
        clear hname
        refine wp_region_held_drew (S := fun w' => w'.cell? ⟨g0, 0, none⟩ = some (.pointer (some ⟨E.rb, 0, none⟩))) (by kernel_rfl) (by exact uq q0) (fun hHeld => ?_)
        refine tkk 0 10 hHeld ?_; try simp only [Act.put, Ya, Yb, Yc]
        refine tkk 2 12 hHeld ?_; try simp only [Act.put, Ya, Yb, Yc]
        refine rdyy 1 (fun K hK => ?_)
        go_simp
        clear hHeld
        (refine (pos_any (E := Env.two E.rb E.l E.ta E.cap pb sb) (dI 0) 0 _ _ rfl _ (uq HS2)).mono ?_; rintro e w3 ⟨f1, x1, y1, rfl, hk, hd⟩; have HS3 := hide (hs_keep (uq HS2) hk); have HK3 := hide hk; have HC3 : Hid (Chain (Env.two E.rb E.l E.ta E.cap pb sb) w3 0 [(.func (.func f1) x1 y1, [dI 0], pPos)]) := hide ⟨hd, trivial⟩; clear hk hd)
        try go_wp2_with fail
        refine hK.out _ _ ?_ (fun hHeld => ?_)
        · exact (uq HK3).cell' (uq q0)
        clear hK K
        try simp only [Act.put, Ya, Yb, Yc]
        refine rdyy 3 (fun K hK => ?_)
        go_simp
        clear hHeld
        (refine (name_any (E := Env.two E.rb E.l E.ta E.cap pb sb) (dS []) 1 _ _ rfl _ (uq HS3)).mono ?_; rintro e w4 ⟨f2, x2, y2, rfl, hk, hd⟩; have HS4 := hide (hs_keep (uq HS3) hk); have HK4 := hide ((uq HK3).trans hk); have HC4 : Hid (Chain (Env.two E.rb E.l E.ta E.cap pb sb) w4 0 [(.func (.func f1) x1 y1, [dI 0], pPos), (.func (.func f2) x2 y2, [dS []], pName)]) := hide (chain_snoc (uq HC3) hk hd); clear hk hd)
        try go_wp2_with fail
        refine hK.out _ _ ?_ (fun hHeld => ?_)
        · exact (uq HK4).cell' (uq q0)
        clear hK K
        try simp only [Act.put, Ya, Yb, Yc]
        refine rdyy 4 (fun K hK => ?_)
        go_simp
        clear hHeld
        refine hK.out _ _ ?_ (fun hHeld => ?_)
        · exact ((uq HK4).alloc _).cell' (uq q0)
        clear hK K
        try simp only [Act.put, Ya, Yb, Yc]
        refine rdyy 5 (fun K hK => ?_)
        go_simp
        clear hHeld
        (refine (order_any (E := Env.two E.rb E.l E.ta E.cap pb sb) (m := 0) (ss := [(.func (.func f1) x1 y1, [dI 0], pPos), (.func (.func f2) x2 y2, [dS []], pName)]) (c := []) (rest := []) (r := t :: r') (by simp) (chain_keep ((Keep.refl _).alloc _) (uq HC4)) (new_steps _ _ _) (fun h => Nat.lt_irrefl _ ((uq HS4) _ h)) rfl ((uq HR2).keep ((uq HK4).alloc _)) ((uq HL2).keep ((uq HK4).alloc _))).mono ?_; rintro e w5 hp; have hp2 := post_eq' (n := 2) (uq HSQ) hp; obtain rfl : e = .returned (flt (50, t.p)) := hp2.2; have HP := hide hp; have HP2 := hide hp2; have HKz := hide ((uq HK4).alloc (.cells #[.func (.func f1) x1 y1, .func (.func f2) x2 y2] 121)); clear hp hp2)
        try go_wp2_with fail
        refine hK.out _ _ ?_ (fun hHeld => ?_)
        · exact (uq HP).1.cell ((uq HKz).cell' (uq q0)) (uq HQ0)
        clear hK K
        try simp only [Act.put, Ya, Yb, Yc]
        refine tkk 6 7 hHeld ?_; try simp only [Act.put, Ya, Yb, Yc]
        refine wpAnyH_done (by kernel_rfl) ?_ _
        clear hHeld
        have HF5 : Hid (Fr (fun b => b = E.rb) wr w5) := hide (Fr.inner ((Fr.keep (uq HK2)).trans ((Fr.keep (Keep.refl w2).drew).trans (.keep (uq HKz)))) (uq HP2).1 (fun i hi hs => by
          rcases hs with hs | hs | hs
          · exact hs
          · have := uq HPB; omega
          · have := uq HPB; omega))
        unfold flt
        go_wp2_with fail
        go_ret
        have hres : pNames 9 most c r0 = .error (50, t.p) := by
          show (match nm most [] r0 with | .error x => Except.error x | .ok (L, r') => .ok (c ++ [D.row 9 1 L], r')) = _
          rw [← uq HE, uq HEq, if_neg (uq HNM)]
        rw [hres]
        exact ⟨(uq HI).fr.inner (uq HF5) (fun i _ e => e ▸ (uq HR).2.2), rfl⟩
set_option maxHeartbeats 1000000 in
theorem make (a b : Option Addr) (most : Int) (w : World) : Calls Tryz.prog 97 #[.pointer a, .int .i64 most, .pointer b] w fun e w' => e = .returned (.func (.func 107) #[] #[.pointer (some ⟨w.heap.size, 0, none⟩), .pointer (some ⟨w.heap.size + 1 + 1, 0, none⟩), .pointer (some ⟨w.heap.size + 1, 0, none⟩)]) ∧ w' = ((w.alloc (.cells #[.pointer a] 81)).alloc (.cells #[.int .i64 most] 3)).alloc (.cells #[.pointer b] 184) := by
  go_enter Tryz.func97, Tryz.ntmps97
  go_wp2
  go_ret
  exact ⟨rfl, rfl⟩
end NamesR
theorem names_any {E : Env} (most : Nat) (hmost : most ≤ 1000) (m b o : Nat) (hA : E.A m = (b, o)) (w : World) (hS : ∀ b, E.S b → b < w.heap.size) (hLo : E.lo ≤ w.heap.size) :
    Calls Tryz.prog 97 #[.pointer (some ⟨E.rb, 0, none⟩), .int .i64 (most : Int), .pointer (some ⟨b, o, none⟩)] w (Mk E m [dN] (pNames 9 most) w) := by
  refine (NamesR.make _ _ _ w).mono ?_
  rintro e w' ⟨rfl, rfl⟩
  obtain ⟨b1, b2, b3⟩ := three_boxes E w (.pointer (some ⟨E.rb, 0, none⟩)) (.int .i64 (most : Int)) (.pointer (some ⟨b, o, none⟩)) 81 3 184 hS
  have hk := three_keep w (.cells #[.pointer (some ⟨E.rb, 0, none⟩)] 81) (.cells #[.int .i64 (most : Int)] 3) (.cells #[.pointer (some ⟨b, o, none⟩)] 184)
  exact ⟨_, _, _, rfl, hk, ⟨_, _, _, rfl, fun xs w => by kernel_rfl, fun w2 c rest r hf hc hr hl => NamesR.core E _ _ _ b o m most c rest w2 r (hide (b1.fr hf)) (hide (b3.fr hf)) (hide (b2.fr hf)) (hide hA) (hide (Bx.hs (hs_keep hS hk) hf)) (hide (Nat.le_trans (lo_keep hLo hk) hf.size)) (hide hc) (hide hr) (hide hl) hmost⟩⟩
end Go.Proofs.YtmplckdpddmifaaGreatDoor
