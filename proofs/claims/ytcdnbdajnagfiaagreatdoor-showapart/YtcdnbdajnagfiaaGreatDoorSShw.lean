/- Package show: what the printer writes of a network, by its tree. -/
import Derived.Test.YtcdnbdajnagfiaaGreatDoorSWrd
import Derived.Test.YtcdnbdajnagfiaaGreatDoorSRow
namespace Go.Proofs.YtcdnbdajnagfiaaGreatDoor
open Go.RowKit
set_option linter.unusedVariables false
set_option linter.unusedSimpArgs false
set_option maxRecDepth 10000
namespace S
/-- where the slices of a row's things lie -/
def sA (w : World) (a : Option Addr) (z j k : Nat) : Option Addr := slA w (ati ((adO a).add (k * z)) j)
def sN (w : World) (a : Option Addr) (z j k : Nat) : Nat := slN w (ati ((adO a).add (k * z)) j)
def sC (w : World) (a : Option Addr) (z j k : Nat) : Nat := slC w (ati ((adO a).add (k * z)) j)
theorem add_block (a : Addr) (j : Nat) : (a.add j).block = a.block := by unfold Addr.add; split <;> rfl
theorem ati_block (a : Addr) (j : Nat) : (ati a j).block = a.block := by unfold ati; split <;> rfl
theorem low {w0 w : World} {p : Nat} (hp : w0.heap.size ≤ p) (hF : Fb p w0 w) {ad : Addr} {n j : Nat} {u : Value} (hb : ad.block < w0.heap.size) (h : w0.cell? (ati (ad.add n) j) = some u) : w.cell? (ati (ad.add n) j) = some u :=
  cell_low hF h (by rw [ati_block, add_block]; omega)
theorem clHead {w0 w : World} {p : Nat} {a : Option Addr} {L : List (List D)} (hp : w0.heap.size ≤ p) (hF : Fb p w0 w) (hL : ∀ ds ∈ L, ShL headT ds) (HA : Rvss w0 a 11 L 0) (k : Nat) (hk : k < L.length) : ∃ ad, a = some ad ∧ ad.block < p ∧ w.cell? (ad.add (k * 11)) = some (.string (sv (tS (gt (L.getD k []) 0)))) ∧ w.cell? ⟨(ad.add (k * 11)).block, (ad.add (k * 11)).off + 1, none⟩ = some (.int .i64 (fI (gt (L.getD k []) 1))) ∧ w.cell? ⟨(ad.add (k * 11)).block, (ad.add (k * 11)).off + 2, none⟩ = some (.int .i64 (fI (gt (L.getD k []) 2))) ∧ w.cell? ⟨(ad.add (k * 11)).block, (ad.add (k * 11)).off + 3, none⟩ = some (.int .i64 (fI (gt (L.getD k []) 3))) ∧ w.cell? ⟨(ad.add (k * 11)).block, (ad.add (k * 11)).off + 4, none⟩ = some (.int .i64 (fI (gt (L.getD k []) 4))) ∧ w.cell? ⟨(ad.add (k * 11)).block, (ad.add (k * 11)).off + 5, none⟩ = some (.int .i64 (fI (gt (L.getD k []) 5))) ∧ w.cell? ⟨(ad.add (k * 11)).block, (ad.add (k * 11)).off + 6, none⟩ = some (.int .i64 (fI (gt (L.getD k []) 6))) ∧ w.cell? ⟨(ad.add (k * 11)).block, (ad.add (k * 11)).off + 7, none⟩ = some (.int .i64 (fI (gt (L.getD k []) 7))) ∧ w.cell? ⟨(ad.add (k * 11)).block, (ad.add (k * 11)).off + 8, none⟩ = some (.int .i64 (fI (gt (L.getD k []) 8))) ∧ w.cell? ⟨(ad.add (k * 11)).block, (ad.add (k * 11)).off + 9, none⟩ = some (.int .i64 (fI (gt (L.getD k []) 9))) ∧ w.cell? ⟨(ad.add (k * 11)).block, (ad.add (k * 11)).off + 10, none⟩ = some (.int .i64 (fI (gt (L.getD k []) 10))) := by
  obtain ⟨ad, us, rfl, hb, h1, h2, h3⟩ := rvss_at L 0 HA k hk
  have hs := hL (L.getD k []) (by rw [List.getD_eq_getElem?_getD, List.getElem?_eq_getElem hk]; exact List.getElem_mem hk)
  generalize L.getD k [] = ds at h1 hs ⊢
  simp only [ShL, Sh1, headT] at hs
  obtain ⟨_, _, rfl, ⟨s0, rfl, _⟩, ⟨_, _, rfl, ⟨v1, rfl, _, _⟩, ⟨_, _, rfl, ⟨v2, rfl, _, _⟩, ⟨_, _, rfl, ⟨v3, rfl, _, _⟩, ⟨_, _, rfl, ⟨v4, rfl, _, _⟩, ⟨_, _, rfl, ⟨v5, rfl, _, _⟩, ⟨_, _, rfl, ⟨v6, rfl, _, _⟩, ⟨_, _, rfl, ⟨v7, rfl, _, _⟩, ⟨_, _, rfl, ⟨v8, rfl, _, _⟩, ⟨_, _, rfl, ⟨v9, rfl, _, _⟩, ⟨_, _, rfl, ⟨v10, rfl, _, _⟩, rfl⟩⟩⟩⟩⟩⟩⟩⟩⟩⟩⟩ := hs
  simp only [Rvs, Rv, dS, dI, dB] at h1
  obtain ⟨_, _, rfl, rfl, ⟨_, _, rfl, rfl, ⟨_, _, rfl, rfl, ⟨_, _, rfl, rfl, ⟨_, _, rfl, rfl, ⟨_, _, rfl, rfl, ⟨_, _, rfl, rfl, ⟨_, _, rfl, rfl, ⟨_, _, rfl, rfl, ⟨_, _, rfl, rfl, ⟨_, _, rfl, rfl, rfl⟩⟩⟩⟩⟩⟩⟩⟩⟩⟩⟩ := h1
  rw [Nat.zero_add] at h3
  exact ⟨ad, rfl, Nat.lt_of_lt_of_le hb hp, low hp hF hb (n := k * 11) (j := 0) (h3 0 _ rfl), low hp hF hb (n := k * 11) (j := 1) (h3 1 _ rfl), low hp hF hb (n := k * 11) (j := 2) (h3 2 _ rfl), low hp hF hb (n := k * 11) (j := 3) (h3 3 _ rfl), low hp hF hb (n := k * 11) (j := 4) (h3 4 _ rfl), low hp hF hb (n := k * 11) (j := 5) (h3 5 _ rfl), low hp hF hb (n := k * 11) (j := 6) (h3 6 _ rfl), low hp hF hb (n := k * 11) (j := 7) (h3 7 _ rfl), low hp hF hb (n := k * 11) (j := 8) (h3 8 _ rfl), low hp hF hb (n := k * 11) (j := 9) (h3 9 _ rfl), low hp hF hb (n := k * 11) (j := 10) (h3 10 _ rfl)⟩
theorem clPed {w0 w : World} {p : Nat} {a : Option Addr} {L : List (List D)} (hp : w0.heap.size ≤ p) (hF : Fb p w0 w) (hL : ∀ ds ∈ L, ShL pedT ds) (HA : Rvss w0 a 6 L 0) (k : Nat) (hk : k < L.length) : ∃ ad, a = some ad ∧ ad.block < p ∧ w.cell? (ad.add (k * 6)) = some (.string (sv (tS (gt (L.getD k []) 0)))) ∧ w.cell? ⟨(ad.add (k * 6)).block, (ad.add (k * 6)).off + 1, none⟩ = some (.string (sv (tS (gt (L.getD k []) 1)))) ∧ w.cell? ⟨(ad.add (k * 6)).block, (ad.add (k * 6)).off + 2, none⟩ = some (.int .i64 (fI (gt (L.getD k []) 2))) ∧ w.cell? ⟨(ad.add (k * 6)).block, (ad.add (k * 6)).off + 3, none⟩ = some (.int .i64 (fI (gt (L.getD k []) 3))) ∧ w.cell? ⟨(ad.add (k * 6)).block, (ad.add (k * 6)).off + 4, none⟩ = some (.int .i64 (fI (gt (L.getD k []) 4))) ∧ w.cell? ⟨(ad.add (k * 6)).block, (ad.add (k * 6)).off + 5, none⟩ = some (.int .i64 (fI (gt (L.getD k []) 5))) := by
  obtain ⟨ad, us, rfl, hb, h1, h2, h3⟩ := rvss_at L 0 HA k hk
  have hs := hL (L.getD k []) (by rw [List.getD_eq_getElem?_getD, List.getElem?_eq_getElem hk]; exact List.getElem_mem hk)
  generalize L.getD k [] = ds at h1 hs ⊢
  simp only [ShL, Sh1, pedT] at hs
  obtain ⟨_, _, rfl, ⟨s0, rfl, _⟩, ⟨_, _, rfl, ⟨s1, rfl, _⟩, ⟨_, _, rfl, ⟨v2, rfl, _, _⟩, ⟨_, _, rfl, ⟨v3, rfl, _, _⟩, ⟨_, _, rfl, ⟨v4, rfl, _, _⟩, ⟨_, _, rfl, ⟨v5, rfl, _, _⟩, rfl⟩⟩⟩⟩⟩⟩ := hs
  simp only [Rvs, Rv, dS, dI, dB] at h1
  obtain ⟨_, _, rfl, rfl, ⟨_, _, rfl, rfl, ⟨_, _, rfl, rfl, ⟨_, _, rfl, rfl, ⟨_, _, rfl, rfl, ⟨_, _, rfl, rfl, rfl⟩⟩⟩⟩⟩⟩ := h1
  rw [Nat.zero_add] at h3
  exact ⟨ad, rfl, Nat.lt_of_lt_of_le hb hp, low hp hF hb (n := k * 6) (j := 0) (h3 0 _ rfl), low hp hF hb (n := k * 6) (j := 1) (h3 1 _ rfl), low hp hF hb (n := k * 6) (j := 2) (h3 2 _ rfl), low hp hF hb (n := k * 6) (j := 3) (h3 3 _ rfl), low hp hF hb (n := k * 6) (j := 4) (h3 4 _ rfl), low hp hF hb (n := k * 6) (j := 5) (h3 5 _ rfl)⟩
theorem clPhase {w0 w : World} {p : Nat} {a : Option Addr} {L : List (List D)} (hp : w0.heap.size ≤ p) (hF : Fb p w0 w) (hL : ∀ ds ∈ L, ShL phaseT ds) (HA : Rvss w0 a 3 L 0) (k : Nat) (hk : k < L.length) : ∃ ad, a = some ad ∧ ad.block < p ∧ w.cell? (ad.add (k * 3)) = some (.string (sv (tS (gt (L.getD k []) 0)))) ∧ w.cell? ⟨(ad.add (k * 3)).block, (ad.add (k * 3)).off + 1, none⟩ = some (.slice (sA w0 a 3 1 k) (sN w0 a 3 1 k) (sC w0 a 3 1 k)) ∧ w.cell? ⟨(ad.add (k * 3)).block, (ad.add (k * 3)).off + 2, none⟩ = some (.int .i64 (fI (gt (L.getD k []) 2))) := by
  obtain ⟨ad, us, rfl, hb, h1, h2, h3⟩ := rvss_at L 0 HA k hk
  have hs := hL (L.getD k []) (by rw [List.getD_eq_getElem?_getD, List.getElem?_eq_getElem hk]; exact List.getElem_mem hk)
  generalize L.getD k [] = ds at h1 hs ⊢
  simp only [ShL, Sh1, phaseT] at hs
  obtain ⟨_, _, rfl, ⟨s0, rfl, _⟩, ⟨_, _, rfl, ⟨L1, rfl, _, q1⟩, ⟨_, _, rfl, ⟨v2, rfl, _, _⟩, rfl⟩⟩⟩ := hs
  simp only [Rvs, Rv, dS, dI, dB] at h1
  obtain ⟨_, _, rfl, rfl, ⟨_, _, rfl, ⟨x1, z1, rfl, y1, m1⟩, ⟨_, _, rfl, rfl, rfl⟩⟩⟩ := h1
  rw [Nat.zero_add] at h3
  have e1 := h3 1 _ rfl
  have g1 : (.slice (sA w0 (some ad) 3 1 k) (sN w0 (some ad) 3 1 k) (sC w0 (some ad) 3 1 k) : Value) = .slice x1 L1.length z1 := by have e := e1; simp only [sA, sN, sC, slA, slN, slC, adO, Option.getD_some, e]
  exact ⟨ad, rfl, Nat.lt_of_lt_of_le hb hp, low hp hF hb (n := k * 3) (j := 0) (h3 0 _ rfl), (low hp hF hb (n := k * 3) (j := 1) e1).trans (congrArg some g1.symm), low hp hF hb (n := k * 3) (j := 2) (h3 2 _ rfl)⟩
theorem rsPhase {w0 : World} {a : Option Addr} {L : List (List D)} (hL : ∀ ds ∈ L, ShL phaseT ds) (HA : Rvss w0 a 3 L 0) (k : Nat) (hk : k < L.length) : (sN w0 a 3 1 k = (fL (gt (L.getD k []) 1)).length ∧ (fL (gt (L.getD k []) 1)).length ≤ sC w0 a 3 1 k ∧ Rvss w0 (sA w0 a 3 1 k) 1 (fL (gt (L.getD k []) 1)) 0 ∧ ∀ ds ∈ fL (gt (L.getD k []) 1), ShL nameT ds) := by
  obtain ⟨ad, us, rfl, hb, h1, h2, h3⟩ := rvss_at L 0 HA k hk
  have hs := hL (L.getD k []) (by rw [List.getD_eq_getElem?_getD, List.getElem?_eq_getElem hk]; exact List.getElem_mem hk)
  generalize L.getD k [] = ds at h1 hs ⊢
  simp only [ShL, Sh1, phaseT] at hs
  obtain ⟨_, _, rfl, ⟨s0, rfl, _⟩, ⟨_, _, rfl, ⟨L1, rfl, _, q1⟩, ⟨_, _, rfl, ⟨v2, rfl, _, _⟩, rfl⟩⟩⟩ := hs
  simp only [Rvs, Rv, dS, dI, dB] at h1
  obtain ⟨_, _, rfl, rfl, ⟨_, _, rfl, ⟨x1, z1, rfl, y1, m1⟩, ⟨_, _, rfl, rfl, rfl⟩⟩⟩ := h1
  rw [Nat.zero_add] at h3
  have e1 := h3 1 _ rfl
  have a1 : sA w0 (some ad) 3 1 k = x1 := by have e := e1; simp only [sA, slA, adO, Option.getD_some, e]
  have b1 : sN w0 (some ad) 3 1 k = L1.length := by have e := e1; simp only [sN, slN, adO, Option.getD_some, e]
  have c1 : sC w0 (some ad) 3 1 k = z1 := by have e := e1; simp only [sC, slC, adO, Option.getD_some, e]
  rw [a1, b1, c1]
  exact ⟨rfl, y1, m1, q1⟩
theorem clGroup {w0 w : World} {p : Nat} {a : Option Addr} {L : List (List D)} (hp : w0.heap.size ≤ p) (hF : Fb p w0 w) (hL : ∀ ds ∈ L, ShL groupT ds) (HA : Rvss w0 a 1 L 0) (k : Nat) (hk : k < L.length) : ∃ ad, a = some ad ∧ ad.block < p ∧ w.cell? (ad.add k) = some (.slice (sA w0 a 1 0 k) (sN w0 a 1 0 k) (sC w0 a 1 0 k)) := by
  obtain ⟨ad, us, rfl, hb, h1, h2, h3⟩ := rvss_at L 0 HA k hk
  have hs := hL (L.getD k []) (by rw [List.getD_eq_getElem?_getD, List.getElem?_eq_getElem hk]; exact List.getElem_mem hk)
  generalize L.getD k [] = ds at h1 hs ⊢
  simp only [ShL, Sh1, groupT] at hs
  obtain ⟨_, _, rfl, ⟨L0, rfl, _, q0⟩, rfl⟩ := hs
  simp only [Rvs, Rv, dS, dI, dB] at h1
  obtain ⟨_, _, rfl, ⟨x0, z0, rfl, y0, m0⟩, rfl⟩ := h1
  rw [Nat.zero_add] at h3
  have e0 := h3 0 _ rfl
  have g0 : (.slice (sA w0 (some ad) 1 0 k) (sN w0 (some ad) 1 0 k) (sC w0 (some ad) 1 0 k) : Value) = .slice x0 L0.length z0 := by have e := e0; simp only [sA, sN, sC, slA, slN, slC, adO, Option.getD_some, e]
  exact ⟨ad, rfl, Nat.lt_of_lt_of_le hb hp, (by have e := low hp hF hb (n := k * 1) (j := 0) e0; rw [Nat.mul_one] at e; exact e.trans (congrArg some g0.symm))⟩
theorem rsGroup {w0 : World} {a : Option Addr} {L : List (List D)} (hL : ∀ ds ∈ L, ShL groupT ds) (HA : Rvss w0 a 1 L 0) (k : Nat) (hk : k < L.length) : (sN w0 a 1 0 k = (fL (gt (L.getD k []) 0)).length ∧ (fL (gt (L.getD k []) 0)).length ≤ sC w0 a 1 0 k ∧ Rvss w0 (sA w0 a 1 0 k) 2 (fL (gt (L.getD k []) 0)) 0 ∧ ∀ ds ∈ fL (gt (L.getD k []) 0), ShL rowT ds) := by
  obtain ⟨ad, us, rfl, hb, h1, h2, h3⟩ := rvss_at L 0 HA k hk
  have hs := hL (L.getD k []) (by rw [List.getD_eq_getElem?_getD, List.getElem?_eq_getElem hk]; exact List.getElem_mem hk)
  generalize L.getD k [] = ds at h1 hs ⊢
  simp only [ShL, Sh1, groupT] at hs
  obtain ⟨_, _, rfl, ⟨L0, rfl, _, q0⟩, rfl⟩ := hs
  simp only [Rvs, Rv, dS, dI, dB] at h1
  obtain ⟨_, _, rfl, ⟨x0, z0, rfl, y0, m0⟩, rfl⟩ := h1
  rw [Nat.zero_add] at h3
  have e0 := h3 0 _ rfl
  have a0 : sA w0 (some ad) 1 0 k = x0 := by have e := e0; simp only [sA, slA, adO, Option.getD_some, e]
  have b0 : sN w0 (some ad) 1 0 k = L0.length := by have e := e0; simp only [sN, slN, adO, Option.getD_some, e]
  have c0 : sC w0 (some ad) 1 0 k = z0 := by have e := e0; simp only [sC, slC, adO, Option.getD_some, e]
  rw [a0, b0, c0]
  exact ⟨rfl, y0, m0, q0⟩
theorem clFoe {w0 w : World} {p : Nat} {a : Option Addr} {L : List (List D)} (hp : w0.heap.size ≤ p) (hF : Fb p w0 w) (hL : ∀ ds ∈ L, ShL foeT ds) (HA : Rvss w0 a 3 L 0) (k : Nat) (hk : k < L.length) : ∃ ad, a = some ad ∧ ad.block < p ∧ w.cell? (ad.add (k * 3)) = some (.string (sv (tS (gt (L.getD k []) 0)))) ∧ w.cell? ⟨(ad.add (k * 3)).block, (ad.add (k * 3)).off + 1, none⟩ = some (.string (sv (tS (gt (L.getD k []) 1)))) ∧ w.cell? ⟨(ad.add (k * 3)).block, (ad.add (k * 3)).off + 2, none⟩ = some (.int .i64 (fI (gt (L.getD k []) 2))) := by
  obtain ⟨ad, us, rfl, hb, h1, h2, h3⟩ := rvss_at L 0 HA k hk
  have hs := hL (L.getD k []) (by rw [List.getD_eq_getElem?_getD, List.getElem?_eq_getElem hk]; exact List.getElem_mem hk)
  generalize L.getD k [] = ds at h1 hs ⊢
  simp only [ShL, Sh1, foeT] at hs
  obtain ⟨_, _, rfl, ⟨s0, rfl, _⟩, ⟨_, _, rfl, ⟨s1, rfl, _⟩, ⟨_, _, rfl, ⟨v2, rfl, _, _⟩, rfl⟩⟩⟩ := hs
  simp only [Rvs, Rv, dS, dI, dB] at h1
  obtain ⟨_, _, rfl, rfl, ⟨_, _, rfl, rfl, ⟨_, _, rfl, rfl, rfl⟩⟩⟩ := h1
  rw [Nat.zero_add] at h3
  exact ⟨ad, rfl, Nat.lt_of_lt_of_le hb hp, low hp hF hb (n := k * 3) (j := 0) (h3 0 _ rfl), low hp hF hb (n := k * 3) (j := 1) (h3 1 _ rfl), low hp hF hb (n := k * 3) (j := 2) (h3 2 _ rfl)⟩
theorem clNode {w0 w : World} {p : Nat} {a : Option Addr} {L : List (List D)} (hp : w0.heap.size ≤ p) (hF : Fb p w0 w) (hL : ∀ ds ∈ L, ShL nodeT ds) (HA : Rvss w0 a 7 L 0) (k : Nat) (hk : k < L.length) : ∃ ad, a = some ad ∧ ad.block < p ∧ w.cell? (ad.add (k * 7)) = some (.string (sv (tS (gt (L.getD k []) 0)))) ∧ w.cell? ⟨(ad.add (k * 7)).block, (ad.add (k * 7)).off + 1, none⟩ = some (.slice (sA w0 a 7 1 k) (sN w0 a 7 1 k) (sC w0 a 7 1 k)) ∧ w.cell? ⟨(ad.add (k * 7)).block, (ad.add (k * 7)).off + 2, none⟩ = some (.slice (sA w0 a 7 2 k) (sN w0 a 7 2 k) (sC w0 a 7 2 k)) ∧ w.cell? ⟨(ad.add (k * 7)).block, (ad.add (k * 7)).off + 3, none⟩ = some (.slice (sA w0 a 7 3 k) (sN w0 a 7 3 k) (sC w0 a 7 3 k)) ∧ w.cell? ⟨(ad.add (k * 7)).block, (ad.add (k * 7)).off + 4, none⟩ = some (.slice (sA w0 a 7 4 k) (sN w0 a 7 4 k) (sC w0 a 7 4 k)) ∧ w.cell? ⟨(ad.add (k * 7)).block, (ad.add (k * 7)).off + 5, none⟩ = some (.slice (sA w0 a 7 5 k) (sN w0 a 7 5 k) (sC w0 a 7 5 k)) ∧ w.cell? ⟨(ad.add (k * 7)).block, (ad.add (k * 7)).off + 6, none⟩ = some (.int .i64 (fI (gt (L.getD k []) 6))) := by
  obtain ⟨ad, us, rfl, hb, h1, h2, h3⟩ := rvss_at L 0 HA k hk
  have hs := hL (L.getD k []) (by rw [List.getD_eq_getElem?_getD, List.getElem?_eq_getElem hk]; exact List.getElem_mem hk)
  generalize L.getD k [] = ds at h1 hs ⊢
  simp only [ShL, Sh1, nodeT] at hs
  obtain ⟨_, _, rfl, ⟨s0, rfl, _⟩, ⟨_, _, rfl, ⟨L1, rfl, _, q1⟩, ⟨_, _, rfl, ⟨L2, rfl, _, q2⟩, ⟨_, _, rfl, ⟨L3, rfl, _, q3⟩, ⟨_, _, rfl, ⟨L4, rfl, _, q4⟩, ⟨_, _, rfl, ⟨L5, rfl, _, q5⟩, ⟨_, _, rfl, ⟨v6, rfl, _, _⟩, rfl⟩⟩⟩⟩⟩⟩⟩ := hs
  simp only [Rvs, Rv, dS, dI, dB] at h1
  obtain ⟨_, _, rfl, rfl, ⟨_, _, rfl, ⟨x1, z1, rfl, y1, m1⟩, ⟨_, _, rfl, ⟨x2, z2, rfl, y2, m2⟩, ⟨_, _, rfl, ⟨x3, z3, rfl, y3, m3⟩, ⟨_, _, rfl, ⟨x4, z4, rfl, y4, m4⟩, ⟨_, _, rfl, ⟨x5, z5, rfl, y5, m5⟩, ⟨_, _, rfl, rfl, rfl⟩⟩⟩⟩⟩⟩⟩ := h1
  rw [Nat.zero_add] at h3
  have e1 := h3 1 _ rfl
  have g1 : (.slice (sA w0 (some ad) 7 1 k) (sN w0 (some ad) 7 1 k) (sC w0 (some ad) 7 1 k) : Value) = .slice x1 L1.length z1 := by have e := e1; simp only [sA, sN, sC, slA, slN, slC, adO, Option.getD_some, e]
  have e2 := h3 2 _ rfl
  have g2 : (.slice (sA w0 (some ad) 7 2 k) (sN w0 (some ad) 7 2 k) (sC w0 (some ad) 7 2 k) : Value) = .slice x2 L2.length z2 := by have e := e2; simp only [sA, sN, sC, slA, slN, slC, adO, Option.getD_some, e]
  have e3 := h3 3 _ rfl
  have g3 : (.slice (sA w0 (some ad) 7 3 k) (sN w0 (some ad) 7 3 k) (sC w0 (some ad) 7 3 k) : Value) = .slice x3 L3.length z3 := by have e := e3; simp only [sA, sN, sC, slA, slN, slC, adO, Option.getD_some, e]
  have e4 := h3 4 _ rfl
  have g4 : (.slice (sA w0 (some ad) 7 4 k) (sN w0 (some ad) 7 4 k) (sC w0 (some ad) 7 4 k) : Value) = .slice x4 L4.length z4 := by have e := e4; simp only [sA, sN, sC, slA, slN, slC, adO, Option.getD_some, e]
  have e5 := h3 5 _ rfl
  have g5 : (.slice (sA w0 (some ad) 7 5 k) (sN w0 (some ad) 7 5 k) (sC w0 (some ad) 7 5 k) : Value) = .slice x5 L5.length z5 := by have e := e5; simp only [sA, sN, sC, slA, slN, slC, adO, Option.getD_some, e]
  exact ⟨ad, rfl, Nat.lt_of_lt_of_le hb hp, low hp hF hb (n := k * 7) (j := 0) (h3 0 _ rfl), (low hp hF hb (n := k * 7) (j := 1) e1).trans (congrArg some g1.symm), (low hp hF hb (n := k * 7) (j := 2) e2).trans (congrArg some g2.symm), (low hp hF hb (n := k * 7) (j := 3) e3).trans (congrArg some g3.symm), (low hp hF hb (n := k * 7) (j := 4) e4).trans (congrArg some g4.symm), (low hp hF hb (n := k * 7) (j := 5) e5).trans (congrArg some g5.symm), low hp hF hb (n := k * 7) (j := 6) (h3 6 _ rfl)⟩
theorem clStop {w0 w : World} {p : Nat} {a : Option Addr} {L : List (List D)} (hp : w0.heap.size ≤ p) (hF : Fb p w0 w) (hL : ∀ ds ∈ L, ShL stopT ds) (HA : Rvss w0 a 6 L 0) (k : Nat) (hk : k < L.length) : ∃ ad, a = some ad ∧ ad.block < p ∧ w.cell? (ad.add (k * 6)) = some (.string (sv (tS (gt (L.getD k []) 0)))) ∧ w.cell? ⟨(ad.add (k * 6)).block, (ad.add (k * 6)).off + 1, none⟩ = some (.string (sv (tS (gt (L.getD k []) 1)))) ∧ w.cell? ⟨(ad.add (k * 6)).block, (ad.add (k * 6)).off + 2, none⟩ = some (.string (sv (tS (gt (L.getD k []) 2)))) ∧ w.cell? ⟨(ad.add (k * 6)).block, (ad.add (k * 6)).off + 3, none⟩ = some (.int .i64 (fI (gt (L.getD k []) 3))) ∧ w.cell? ⟨(ad.add (k * 6)).block, (ad.add (k * 6)).off + 4, none⟩ = some (.int .i64 (fI (gt (L.getD k []) 4))) ∧ w.cell? ⟨(ad.add (k * 6)).block, (ad.add (k * 6)).off + 5, none⟩ = some (.int .i64 (fI (gt (L.getD k []) 5))) := by
  obtain ⟨ad, us, rfl, hb, h1, h2, h3⟩ := rvss_at L 0 HA k hk
  have hs := hL (L.getD k []) (by rw [List.getD_eq_getElem?_getD, List.getElem?_eq_getElem hk]; exact List.getElem_mem hk)
  generalize L.getD k [] = ds at h1 hs ⊢
  simp only [ShL, Sh1, stopT] at hs
  obtain ⟨_, _, rfl, ⟨s0, rfl, _⟩, ⟨_, _, rfl, ⟨s1, rfl, _⟩, ⟨_, _, rfl, ⟨s2, rfl, _⟩, ⟨_, _, rfl, ⟨v3, rfl, _, _⟩, ⟨_, _, rfl, ⟨v4, rfl, _, _⟩, ⟨_, _, rfl, ⟨v5, rfl, _, _⟩, rfl⟩⟩⟩⟩⟩⟩ := hs
  simp only [Rvs, Rv, dS, dI, dB] at h1
  obtain ⟨_, _, rfl, rfl, ⟨_, _, rfl, rfl, ⟨_, _, rfl, rfl, ⟨_, _, rfl, rfl, ⟨_, _, rfl, rfl, ⟨_, _, rfl, rfl, rfl⟩⟩⟩⟩⟩⟩ := h1
  rw [Nat.zero_add] at h3
  exact ⟨ad, rfl, Nat.lt_of_lt_of_le hb hp, low hp hF hb (n := k * 6) (j := 0) (h3 0 _ rfl), low hp hF hb (n := k * 6) (j := 1) (h3 1 _ rfl), low hp hF hb (n := k * 6) (j := 2) (h3 2 _ rfl), low hp hF hb (n := k * 6) (j := 3) (h3 3 _ rfl), low hp hF hb (n := k * 6) (j := 4) (h3 4 _ rfl), low hp hF hb (n := k * 6) (j := 5) (h3 5 _ rfl)⟩
theorem clRow {w0 w : World} {p : Nat} {a : Option Addr} {L : List (List D)} (hp : w0.heap.size ≤ p) (hF : Fb p w0 w) (hL : ∀ ds ∈ L, ShL rowT ds) (HA : Rvss w0 a 2 L 0) (k : Nat) (hk : k < L.length) : ∃ ad, a = some ad ∧ ad.block < p ∧ w.cell? (ad.add (k * 2)) = some (.bool (fB (gt (L.getD k []) 0))) ∧ w.cell? ⟨(ad.add (k * 2)).block, (ad.add (k * 2)).off + 1, none⟩ = some (.slice (sA w0 a 2 1 k) (sN w0 a 2 1 k) (sC w0 a 2 1 k)) := by
  obtain ⟨ad, us, rfl, hb, h1, h2, h3⟩ := rvss_at L 0 HA k hk
  have hs := hL (L.getD k []) (by rw [List.getD_eq_getElem?_getD, List.getElem?_eq_getElem hk]; exact List.getElem_mem hk)
  generalize L.getD k [] = ds at h1 hs ⊢
  simp only [ShL, Sh1, rowT] at hs
  obtain ⟨_, _, rfl, ⟨f0, rfl⟩, ⟨_, _, rfl, ⟨L1, rfl, _, q1⟩, rfl⟩⟩ := hs
  simp only [Rvs, Rv, dS, dI, dB] at h1
  obtain ⟨_, _, rfl, rfl, ⟨_, _, rfl, ⟨x1, z1, rfl, y1, m1⟩, rfl⟩⟩ := h1
  rw [Nat.zero_add] at h3
  have e1 := h3 1 _ rfl
  have g1 : (.slice (sA w0 (some ad) 2 1 k) (sN w0 (some ad) 2 1 k) (sC w0 (some ad) 2 1 k) : Value) = .slice x1 L1.length z1 := by have e := e1; simp only [sA, sN, sC, slA, slN, slC, adO, Option.getD_some, e]
  exact ⟨ad, rfl, Nat.lt_of_lt_of_le hb hp, low hp hF hb (n := k * 2) (j := 0) (h3 0 _ rfl), (low hp hF hb (n := k * 2) (j := 1) e1).trans (congrArg some g1.symm)⟩
theorem rsRow {w0 : World} {a : Option Addr} {L : List (List D)} (hL : ∀ ds ∈ L, ShL rowT ds) (HA : Rvss w0 a 2 L 0) (k : Nat) (hk : k < L.length) : (sN w0 a 2 1 k = (fL (gt (L.getD k []) 1)).length ∧ (fL (gt (L.getD k []) 1)).length ≤ sC w0 a 2 1 k ∧ Rvss w0 (sA w0 a 2 1 k) 1 (fL (gt (L.getD k []) 1)) 0 ∧ ∀ ds ∈ fL (gt (L.getD k []) 1), ShL nameT ds) := by
  obtain ⟨ad, us, rfl, hb, h1, h2, h3⟩ := rvss_at L 0 HA k hk
  have hs := hL (L.getD k []) (by rw [List.getD_eq_getElem?_getD, List.getElem?_eq_getElem hk]; exact List.getElem_mem hk)
  generalize L.getD k [] = ds at h1 hs ⊢
  simp only [ShL, Sh1, rowT] at hs
  obtain ⟨_, _, rfl, ⟨f0, rfl⟩, ⟨_, _, rfl, ⟨L1, rfl, _, q1⟩, rfl⟩⟩ := hs
  simp only [Rvs, Rv, dS, dI, dB] at h1
  obtain ⟨_, _, rfl, rfl, ⟨_, _, rfl, ⟨x1, z1, rfl, y1, m1⟩, rfl⟩⟩ := h1
  rw [Nat.zero_add] at h3
  have e1 := h3 1 _ rfl
  have a1 : sA w0 (some ad) 2 1 k = x1 := by have e := e1; simp only [sA, slA, adO, Option.getD_some, e]
  have b1 : sN w0 (some ad) 2 1 k = L1.length := by have e := e1; simp only [sN, slN, adO, Option.getD_some, e]
  have c1 : sC w0 (some ad) 2 1 k = z1 := by have e := e1; simp only [sC, slC, adO, Option.getD_some, e]
  rw [a1, b1, c1]
  exact ⟨rfl, y1, m1, q1⟩
theorem at_mem {L : List (List D)} {k : Nat} (hk : k < L.length) : L.getD k [] ∈ L := by rw [List.getD_eq_getElem?_getD, List.getElem?_eq_getElem hk]; exact List.getElem_mem hk
theorem nu_bd {n : Int} (h : nuB n = true) : -999999999999999999 ≤ n ∧ n ≤ 999999999999999999 := by unfold nuB at h; have := of_decide_eq_true h; omega
theorem gr_bd {n : Int} (h : grB n = true) : -999999999999999999 ≤ n ∧ n ≤ 999999999999999999 := by unfold grB at h; exact of_decide_eq_true h
theorem add_assoc1 (ad : Addr) (k : Nat) : ad.add ((k + 1) * 1) = (⟨ad.block, ad.off + 1, none⟩ : Addr).add k := by
  unfold Addr.add
  cases k with
  | zero => rfl
  | succ k => simp; omega
theorem lst_any {w0 w : World} {p : Nat} {L : List (List D)} {a : Option Addr} {cap : Nat} (hp : w0.heap.size ≤ p) (hF : Fb p w0 w) (hL : ∀ ds ∈ L, ShL nameT ds) (HA : Rvss w0 a 1 L 0) (hc : L.length ≤ cap) (hne : L ≠ []) (hn : L.length ≤ 1000) : LsT p w a L.length cap (L.map (fun e => tS (gt e 0))) := by
  intro w' s hF' hP hO hB
  have hF2 := hF.trans hF'
  have key : ∀ k, k < L.length → ∃ ad, a = some ad ∧ ad.block < p ∧ w'.cell? (ad.add (k * 1)) = some (.string (sv (tS (gt (L.getD k []) 0)))) := by
    intro k hk
    obtain ⟨ad, us, rfl, hb, h1, h2, h3⟩ := rvss_at L 0 HA k hk
    have hs := hL (L.getD k []) (at_mem hk)
    generalize L.getD k [] = ds at h1 hs ⊢
    simp only [ShL, Sh1, nameT] at hs
    obtain ⟨_, _, rfl, ⟨s0, rfl, _⟩, rfl⟩ := hs
    simp only [Rvs, Rv, dS, dI, dB] at h1
    obtain ⟨_, _, rfl, rfl, rfl⟩ := h1
    rw [Nat.zero_add] at h3
    exact ⟨ad, rfl, Nat.lt_of_lt_of_le hb hp, low hp hF2 hb (n := k * 1) (j := 0) (h3 0 _ rfl)⟩
  cases L with
  | nil => exact absurd rfl hne
  | cons x xs =>
    obtain ⟨ad, rfl, hb, h0⟩ := key 0 (by simp)
    have e : (x :: xs).map (fun e => tS (gt e 0)) = tS (gt x 0) :: (List.range xs.length).map (fun k => tS (gt (xs.getD k []) 0)) := by rw [range_map (fun e => tS (gt e 0))]; rfl
    rw [e] at hO hB ⊢
    refine list_core p ad xs.length cap (tS (gt x 0)) (fun k => tS (gt (xs.getD k []) 0)) s _ w' (by simp at hn; omega) (by simpa using hc) hb ?_ (hide fun k hk => ?_) (hide hP) (hide hO) (hide hB) (hide rfl)
    · have : ad.add (0 * 1) = ad := by simp [Addr.add]
      rw [this] at h0
      exact h0
    · obtain ⟨ad', e1, _, h1⟩ := key (k + 1) (by simpa using hk)
      cases e1
      rw [add_assoc1] at h1
      exact h1
theorem head_any {p : Nat} {G : World → Prop} (hN : Nc p G) {ds : List D} (hB : headB ds = true) (w : World) (s : St) (hG : G w) (hP : Ps w p s) (hO : oks s (headW ds)) (hC : s.out.length + cost (headW ds) ≤ 1000000000) :
    Calls Tryz.prog 82 #[.pointer (some ⟨p, 0, none⟩), .agg #[.string (sv (tS (gt ds 0))), .int .i64 (fI (gt ds 1)), .int .i64 (fI (gt ds 2)), .int .i64 (fI (gt ds 3)), .int .i64 (fI (gt ds 4)), .int .i64 (fI (gt ds 5)), .int .i64 (fI (gt ds 6)), .int .i64 (fI (gt ds 7)), .int .i64 (fI (gt ds 8)), .int .i64 (fI (gt ds 9)), .int .i64 (fI (gt ds 10))]] w fun e w'' => e = .returned (.tuple #[]) ∧ Ps w'' p (pss s (headW ds)) ∧ Fb p w w'' := by
  have v6 := and_l (and_r hB)
  have hv := and_r (and_r hB)
  obtain ⟨v1, hv⟩ := nus_cons hv
  obtain ⟨v2, hv⟩ := nus_cons hv
  obtain ⟨v3, hv⟩ := nus_cons hv
  obtain ⟨v4, hv⟩ := nus_cons hv
  obtain ⟨v5, hv⟩ := nus_cons hv
  obtain ⟨v7, hv⟩ := nus_cons hv
  obtain ⟨v8, hv⟩ := nus_cons hv
  obtain ⟨v9, hv⟩ := nus_cons hv
  exact head_core p (tS (gt ds 0)) (fI (gt ds 1)) (fI (gt ds 2)) (fI (gt ds 3)) (fI (gt ds 4)) (fI (gt ds 5)) (fI (gt ds 6)) (fI (gt ds 7)) (fI (gt ds 8)) (fI (gt ds 9)) (fI (gt ds 10)) s w G hN (hide (nu_bd v1)) (hide (nu_bd v2)) (hide (nu_bd v3)) (hide (nu_bd v4)) (hide (nu_bd v5)) (hide (gr_bd v6)) (hide (nu_bd v7)) (hide (nu_bd v8)) (hide (nu_bd v9)) (hide hP) (hide hG) (hide hO) (hide hC)
theorem group_any {w0 w : World} {p : Nat} (hp : w0.heap.size ≤ p) (hF : Fb p w0 w) {ds : List D} {a : Option Addr} {cap : Nat} (hB : groupB ds = true) (hL : ∀ x ∈ fL (gt ds 0), ShL rowT x) (HA : Rvss w0 a 2 (fL (gt ds 0)) 0) (s : St) (hP : Ps w p s) (hO : oks s (groupW ds)) (hC : s.out.length + cost (groupW ds) ≤ 1000000000) :
    Calls Tryz.prog 84 #[.pointer (some ⟨p, 0, none⟩), .agg #[.slice a (fL (gt ds 0)).length cap]] w fun e w'' => e = .returned (.tuple #[]) ∧ Ps w'' p (pss s (groupW ds)) ∧ Fb p w w'' := by
  obtain ⟨⟨_, h2⟩, h3⟩ := rowB_all hB
  have eW : gw (fL (gt ds 0)).length (fun k => fB (gt ((fL (gt ds 0)).getD k []) 0)) (fun k => nms (gt ((fL (gt ds 0)).getD k []) 1)) = groupW ds := by
    unfold groupW gw
    rw [← range_flat ringW]
    rfl
  rw [← eW] at hO hC ⊢
  refine group_core p a _ cap _ (sA w0 a 2 1) (sN w0 a 2 1) (sC w0 a 2 1) _ s w (by omega) (hide fun k hk => clRow hp hF hL HA k hk) (hide fun k hk => ?_) (hide hP) (hide hO) (hide hC)
  obtain ⟨r1, r2, r3, r4⟩ := rsRow hL HA k hk
  obtain ⟨⟨g1, g2⟩, _⟩ := rowB_all (h3 _ (at_mem hk))
  rw [r1]
  exact lst_any hp hF r4 r3 r2 (by intro e; rw [e] at g1; simp at g1) (by omega)
set_option maxHeartbeats 4000000 in
theorem node_any {w0 w : World} {p : Nat} {G : World → Prop} (hN : Nc p G) (hp : w0.heap.size ≤ p) (hF : Fb p w0 w) {ds : List D} {us : List Value} (hs : ShL nodeT ds) (hB : nodeB ds = true) (hr : Rvs w0 ds us) (s : St) (hG : G w) (hP : Ps w p s) (hO : oks s (nodeW ds)) (hC : s.out.length + cost (nodeW ds) ≤ 1000000000) :
    Calls Tryz.prog 43 #[.pointer (some ⟨p, 0, none⟩), .agg us.toArray] w fun e w'' => e = .returned (.tuple #[]) ∧ Ps w'' p (pss s (nodeW ds)) ∧ Fb p w w'' := by
  obtain ⟨⟨_, l1⟩, h1⟩ := rowB_all (and_l (and_r hB))
  obtain ⟨⟨_, l2⟩, h2⟩ := rowB_all (and_l (and_r (and_r hB)))
  obtain ⟨⟨_, l3⟩, h3⟩ := rowB_all (and_l (and_r (and_r (and_r hB))))
  obtain ⟨⟨_, l4⟩, h4⟩ := rowB_all (and_l (and_r (and_r (and_r (and_r hB)))))
  obtain ⟨⟨_, l5⟩, h5⟩ := rowB_all (and_r (and_r (and_r (and_r (and_r hB)))))
  clear hB
  simp only [ShL, Sh1, nodeT] at hs
  obtain ⟨_, _, rfl, ⟨s0, rfl, _⟩, ⟨_, _, rfl, ⟨L1, rfl, _, q1⟩, ⟨_, _, rfl, ⟨L2, rfl, _, q2⟩, ⟨_, _, rfl, ⟨L3, rfl, _, q3⟩, ⟨_, _, rfl, ⟨L4, rfl, _, q4⟩, ⟨_, _, rfl, ⟨L5, rfl, _, q5⟩, ⟨_, _, rfl, ⟨v6, rfl, _, _⟩, rfl⟩⟩⟩⟩⟩⟩⟩ := hs
  simp only [Rvs, Rv, dS, dI, dB] at hr
  obtain ⟨_, _, rfl, rfl, ⟨_, _, rfl, ⟨x1, z1, rfl, y1, m1⟩, ⟨_, _, rfl, ⟨x2, z2, rfl, y2, m2⟩, ⟨_, _, rfl, ⟨x3, z3, rfl, y3, m3⟩, ⟨_, _, rfl, ⟨x4, z4, rfl, y4, m4⟩, ⟨_, _, rfl, ⟨x5, z5, rfl, y5, m5⟩, ⟨_, _, rfl, rfl, rfl⟩⟩⟩⟩⟩⟩⟩ := hr
  simp only [gt, List.getD_cons_zero, List.getD_cons_succ, fL] at l1 l2 l3 l4 l5 h1 h2 h3 h4 h5
  have eW : [[110, 111, 100, 101], s0, [123]] ++ ((List.range L1.length).flatMap (fun k => headW (L1.getD k [])) ++ ((List.range L2.length).flatMap (fun k => [[119, 97, 108, 107], tS (gt (L2.getD k []) 0), [119, 105, 116, 104], tS (gt (L2.getD k []) 1), [108, 111, 110, 103], dg (fI (gt (L2.getD k []) 2)), [112, 97, 99, 101], dg (fI (gt (L2.getD k []) 3)), [108, 101, 97, 115, 116], dg (fI (gt (L2.getD k []) 4)), [59]]) ++ ((List.range L3.length).flatMap (fun k => [[112, 104, 97, 115, 101], tS (gt (L3.getD k []) 0), [58]] ++ lw (nms (gt (L3.getD k []) 1))) ++ ((List.range L4.length).flatMap (fun k => groupW (L4.getD k [])) ++ ((List.range L5.length).flatMap (fun k => [[102, 111, 101], tS (gt (L5.getD k []) 0), tS (gt (L5.getD k []) 1), [59]]) ++ [[125]]))))) = nodeW [dS s0, .row 84 11 L1, .row 86 6 L2, .row 88 3 L3, .row 91 1 L4, .row 95 3 L5, dI v6] := by
    unfold nodeW
    simp only [gt, List.getD_cons_zero, List.getD_cons_succ, fL, tS_dS]
    rw [← range_flat headW L1, ← range_flat walkW L2, ← range_flat phaseW L3, ← range_flat groupW L4, ← range_flat foeW L5]
    rfl
  rw [← eW] at hO hC ⊢
  refine node_core p s0 x1 L1.length z1 x2 L2.length z2 x3 L3.length z3 x4 L4.length z4 x5 L5.length z5 v6 (fun k => tS (gt (L1.getD k []) 0)) (fun k => fI (gt (L1.getD k []) 1)) (fun k => fI (gt (L1.getD k []) 2)) (fun k => fI (gt (L1.getD k []) 3)) (fun k => fI (gt (L1.getD k []) 4)) (fun k => fI (gt (L1.getD k []) 5)) (fun k => fI (gt (L1.getD k []) 6)) (fun k => fI (gt (L1.getD k []) 7)) (fun k => fI (gt (L1.getD k []) 8)) (fun k => fI (gt (L1.getD k []) 9)) (fun k => fI (gt (L1.getD k []) 10)) (fun k => tS (gt (L2.getD k []) 0)) (fun k => tS (gt (L2.getD k []) 1)) (fun k => fI (gt (L2.getD k []) 2)) (fun k => fI (gt (L2.getD k []) 3)) (fun k => fI (gt (L2.getD k []) 4)) (fun k => fI (gt (L2.getD k []) 5)) (fun k => tS (gt (L3.getD k []) 0)) (sA w0 x3 3 1) (sN w0 x3 3 1) (sC w0 x3 3 1) (fun k => fI (gt (L3.getD k []) 2)) (sA w0 x4 1 0) (sN w0 x4 1 0) (sC w0 x4 1 0) (fun k => tS (gt (L5.getD k []) 0)) (fun k => tS (gt (L5.getD k []) 1)) (fun k => fI (gt (L5.getD k []) 2)) (fun k => headW (L1.getD k [])) (fun k => groupW (L4.getD k [])) (fun k => nms (gt (L3.getD k []) 1)) s w G hN (by omega) (by omega) (by omega) (by omega) (by omega) (hide fun k hk => clHead hp hF q1 m1 k hk) (hide fun k hk => clPed hp hF q2 m2 k hk) (hide fun k hk => clPhase hp hF q3 m3 k hk) (hide fun k hk => clGroup hp hF q4 m4 k hk) (hide fun k hk => clFoe hp hF q5 m5 k hk) (hide fun k hk w' t a1 a2 a3 a4 => head_any hN (h1 _ (at_mem hk)) w' t a1 a2 a3 a4) (hide fun k hk w' t a1 a2 a3 a4 => ?_) (hide fun k hk => ?_) (hide fun k hk => ?_) (hide hP) (hide hG) (hide hO) (hide hC)
  · obtain ⟨r1, r2, r3, r4⟩ := rsGroup q4 m4 k hk
    rw [r1]
    exact group_any hp (hF.trans a1) (h4 _ (at_mem hk)) r4 r3 t a2 a3 a4
  · obtain ⟨r1, r2, r3, r4⟩ := rsPhase q3 m3 k hk
    obtain ⟨⟨g1, g2⟩, _⟩ := rowB_all (and_r (h3 _ (at_mem hk)))
    rw [r1]
    exact lst_any hp hF r4 r3 r2 (by intro e; rw [e] at g1; simp at g1) (by omega)
  · have hv := and_r (and_r (h2 _ (at_mem hk)))
    obtain ⟨v2, hv⟩ := nus_cons hv
    obtain ⟨v3, hv⟩ := nus_cons hv
    obtain ⟨v4, hv⟩ := nus_cons hv
    exact ⟨nu_bd v2, nu_bd v3, nu_bd v4⟩
theorem node_rv {w0 : World} {a : Option Addr} {L : List (List D)} (hL : ∀ ds ∈ L, ShL nodeT ds) (HA : Rvss w0 a 7 L 0) (k : Nat) (hk : k < L.length) : Rvs w0 (L.getD k []) [.string (sv (tS (gt (L.getD k []) 0))), .slice (sA w0 a 7 1 k) (sN w0 a 7 1 k) (sC w0 a 7 1 k), .slice (sA w0 a 7 2 k) (sN w0 a 7 2 k) (sC w0 a 7 2 k), .slice (sA w0 a 7 3 k) (sN w0 a 7 3 k) (sC w0 a 7 3 k), .slice (sA w0 a 7 4 k) (sN w0 a 7 4 k) (sC w0 a 7 4 k), .slice (sA w0 a 7 5 k) (sN w0 a 7 5 k) (sC w0 a 7 5 k), .int .i64 (fI (gt (L.getD k []) 6))] := by
  obtain ⟨ad, us, rfl, hb, h1, h2, h3⟩ := rvss_at L 0 HA k hk
  have hs := hL (L.getD k []) (at_mem hk)
  generalize L.getD k [] = ds at h1 hs ⊢
  simp only [ShL, Sh1, nodeT] at hs
  obtain ⟨_, _, rfl, ⟨s0, rfl, _⟩, ⟨_, _, rfl, ⟨L1, rfl, _, q1⟩, ⟨_, _, rfl, ⟨L2, rfl, _, q2⟩, ⟨_, _, rfl, ⟨L3, rfl, _, q3⟩, ⟨_, _, rfl, ⟨L4, rfl, _, q4⟩, ⟨_, _, rfl, ⟨L5, rfl, _, q5⟩, ⟨_, _, rfl, ⟨v6, rfl, _, _⟩, rfl⟩⟩⟩⟩⟩⟩⟩ := hs
  have hr := h1
  simp only [Rvs, Rv, dS, dI, dB] at h1
  obtain ⟨_, _, rfl, rfl, ⟨_, _, rfl, ⟨x1, z1, rfl, y1, m1⟩, ⟨_, _, rfl, ⟨x2, z2, rfl, y2, m2⟩, ⟨_, _, rfl, ⟨x3, z3, rfl, y3, m3⟩, ⟨_, _, rfl, ⟨x4, z4, rfl, y4, m4⟩, ⟨_, _, rfl, ⟨x5, z5, rfl, y5, m5⟩, ⟨_, _, rfl, rfl, rfl⟩⟩⟩⟩⟩⟩⟩ := h1
  rw [Nat.zero_add] at h3
  have e1 := h3 1 _ rfl
  have g1 : (.slice (sA w0 (some ad) 7 1 k) (sN w0 (some ad) 7 1 k) (sC w0 (some ad) 7 1 k) : Value) = .slice x1 L1.length z1 := by have e := e1; simp only [sA, sN, sC, slA, slN, slC, adO, Option.getD_some, e]
  have e2 := h3 2 _ rfl
  have g2 : (.slice (sA w0 (some ad) 7 2 k) (sN w0 (some ad) 7 2 k) (sC w0 (some ad) 7 2 k) : Value) = .slice x2 L2.length z2 := by have e := e2; simp only [sA, sN, sC, slA, slN, slC, adO, Option.getD_some, e]
  have e3 := h3 3 _ rfl
  have g3 : (.slice (sA w0 (some ad) 7 3 k) (sN w0 (some ad) 7 3 k) (sC w0 (some ad) 7 3 k) : Value) = .slice x3 L3.length z3 := by have e := e3; simp only [sA, sN, sC, slA, slN, slC, adO, Option.getD_some, e]
  have e4 := h3 4 _ rfl
  have g4 : (.slice (sA w0 (some ad) 7 4 k) (sN w0 (some ad) 7 4 k) (sC w0 (some ad) 7 4 k) : Value) = .slice x4 L4.length z4 := by have e := e4; simp only [sA, sN, sC, slA, slN, slC, adO, Option.getD_some, e]
  have e5 := h3 5 _ rfl
  have g5 : (.slice (sA w0 (some ad) 7 5 k) (sN w0 (some ad) 7 5 k) (sC w0 (some ad) 7 5 k) : Value) = .slice x5 L5.length z5 := by have e := e5; simp only [sA, sN, sC, slA, slN, slC, adO, Option.getD_some, e]
  rw [g1, g2, g3, g4, g5]
  exact hr
set_option maxHeartbeats 4000000 in
theorem net_any {w0 w : World} {p : Nat} {G : World → Prop} (hN : Nc p G) (hp : w0.heap.size ≤ p) (hF : Fb p w0 w) {ds : List D} {us : List Value} (hs : ShL netT ds) (hB : netB ds = true) (hr : Rvs w0 ds us) (s : St) (hG : G w) (hP : Ps w p s) (hO : oks s (netW ds)) (hC : s.out.length + cost (netW ds) ≤ 1000000000) :
    Calls Tryz.prog 17 #[.pointer (some ⟨p, 0, none⟩), .agg us.toArray] w fun e w'' => e = .returned (.tuple #[]) ∧ Ps w'' p (pss s (netW ds)) ∧ Fb p w w'' := by
  have hv := and_l hB
  obtain ⟨u0, hv⟩ := nus_cons hv
  obtain ⟨u1, hv⟩ := nus_cons hv
  obtain ⟨u2, hv⟩ := nus_cons hv
  obtain ⟨u3, hv⟩ := nus_cons hv
  obtain ⟨u4, hv⟩ := nus_cons hv
  obtain ⟨u7, hv⟩ := nus_cons hv
  obtain ⟨u8, hv⟩ := nus_cons hv
  obtain ⟨⟨_, l5⟩, h5⟩ := rowB_all (and_l (and_r hB))
  obtain ⟨⟨_, l6⟩, h6⟩ := rowB_all (and_r (and_r hB))
  clear hB
  simp only [ShL, Sh1, netT] at hs
  obtain ⟨_, _, rfl, ⟨v0, rfl, _, _⟩, ⟨_, _, rfl, ⟨v1, rfl, _, _⟩, ⟨_, _, rfl, ⟨v2, rfl, _, _⟩, ⟨_, _, rfl, ⟨v3, rfl, _, _⟩, ⟨_, _, rfl, ⟨v4, rfl, _, _⟩, ⟨_, _, rfl, ⟨L5, rfl, _, q5⟩, ⟨_, _, rfl, ⟨L6, rfl, _, q6⟩, ⟨_, _, rfl, ⟨v7, rfl, _, _⟩, ⟨_, _, rfl, ⟨v8, rfl, _, _⟩, rfl⟩⟩⟩⟩⟩⟩⟩⟩⟩ := hs
  simp only [Rvs, Rv, dS, dI, dB] at hr
  obtain ⟨_, _, rfl, rfl, ⟨_, _, rfl, rfl, ⟨_, _, rfl, rfl, ⟨_, _, rfl, rfl, ⟨_, _, rfl, rfl, ⟨_, _, rfl, ⟨x5, z5, rfl, y5, m5⟩, ⟨_, _, rfl, ⟨x6, z6, rfl, y6, m6⟩, ⟨_, _, rfl, rfl, ⟨_, _, rfl, rfl, rfl⟩⟩⟩⟩⟩⟩⟩⟩⟩ := hr
  simp only [gt, List.getD_cons_zero, List.getD_cons_succ, fL, fI, dI] at l5 l6 h5 h6 u0 u1 u2 u3 u4 u7 u8
  have eA : aw L6.length (fun k => tS (gt (L6.getD k []) 0)) (fun k => tS (gt (L6.getD k []) 1)) (fun k => tS (gt (L6.getD k []) 2)) (fun k => fI (gt (L6.getD k []) 3)) (fun k => fI (gt (L6.getD k []) 4)) v7 v8 = artW [dI v0, dI v1, dI v2, dI v3, dI v4, .row 46 7 L5, .row 49 6 L6, dI v7, dI v8] := by
    unfold aw artW
    simp only [gt, List.getD_cons_zero, List.getD_cons_succ, fL, fI, dI]
    rw [← range_flat stopW L6]
    rfl
  have eW : ntw v0 v1 v2 v3 v4 L5.length (fun k => nodeW (L5.getD k [])) L6.length v7 v8 (aw L6.length (fun k => tS (gt (L6.getD k []) 0)) (fun k => tS (gt (L6.getD k []) 1)) (fun k => tS (gt (L6.getD k []) 2)) (fun k => fI (gt (L6.getD k []) 3)) (fun k => fI (gt (L6.getD k []) 4)) v7 v8) = netW [dI v0, dI v1, dI v2, dI v3, dI v4, .row 46 7 L5, .row 49 6 L6, dI v7, dI v8] := by
    unfold ntw netW hasArt
    rw [eA]
    simp only [gt, List.getD_cons_zero, List.getD_cons_succ, fL, fI, dI]
    rw [← range_flat nodeW L5]
  rw [← eW] at hO hC ⊢
  refine net_core p v0 v1 v2 v3 v4 x5 L5.length z5 x6 L6.length z6 v7 v8 (fun k => tS (gt (L5.getD k []) 0)) (sA w0 x5 7 1) (sN w0 x5 7 1) (sC w0 x5 7 1) (sA w0 x5 7 2) (sN w0 x5 7 2) (sC w0 x5 7 2) (sA w0 x5 7 3) (sN w0 x5 7 3) (sC w0 x5 7 3) (sA w0 x5 7 4) (sN w0 x5 7 4) (sC w0 x5 7 4) (sA w0 x5 7 5) (sN w0 x5 7 5) (sC w0 x5 7 5) (fun k => fI (gt (L5.getD k []) 6)) (fun k => nodeW (L5.getD k [])) _ s w G hN (by omega) (hide fun k hk => clNode hp hF q5 m5 k hk) (hide fun k hk w' t a1 a2 a3 a4 a5 => ?_) (hide fun w' t a1 a2 a3 a4 a5 => ?_) (hide (nu_bd u0)) (hide (nu_bd u1)) (hide (nu_bd u2)) (hide (nu_bd u3)) (hide (nu_bd u4)) (hide hP) (hide hG) (hide hO) (hide hC)
  · have hq := node_rv q5 m5 k hk
    exact node_any hN hp (hF.trans a2) (q5 _ (at_mem hk)) (h5 _ (at_mem hk)) hq t a1 a3 a4 a5
  · exact artery_core p v0 v1 v2 v3 v4 x5 L5.length z5 x6 L6.length z6 v7 v8 _ _ _ _ _ (fun k => fI (gt (L6.getD k []) 5)) t w' G hN (by omega) (hide fun k hk => clStop hp (hF.trans a2) q6 m6 k hk) (hide fun k hk => by
      have hv := and_r (and_r (and_r (h6 _ (at_mem hk))))
      obtain ⟨v3, hv⟩ := nus_cons hv
      obtain ⟨v4, hv⟩ := nus_cons hv
      exact ⟨nu_bd v3, nu_bd v4⟩) (hide (nu_bd u7)) (hide (nu_bd u8)) (hide a3) (hide a1) (hide a4) (hide a5)
end S
end Go.Proofs.YtcdnbdajnagfiaaGreatDoor
