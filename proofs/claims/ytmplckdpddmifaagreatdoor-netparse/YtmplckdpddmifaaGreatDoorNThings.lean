/- Package net: each thing of the grammar is read. -/
import Derived.Test.YtmplckdpddmifaaGreatDoorNSsm
import Derived.Test.YtmplckdpddmifaaGreatDoorNGroup
import Derived.Test.YtmplckdpddmifaaGreatDoorNSnode
import Derived.Test.YtmplckdpddmifaaGreatDoorNSnet
namespace Go.Proofs.YtmplckdpddmifaaGreatDoor
open Go.RowKit
set_option linter.unusedVariables false
set_option linter.unusedSimpArgs false
set_option maxRecDepth 10000
theorem dN_rd : ∀ w P, Rd w dN P (.slice none 0 0) := fun w P => ⟨rfl, rfl⟩
theorem head_thing {rb : Nat} {l : List Tok} {ta : Addr} {cap : Nat} (hta : ta.block ≠ rb) : ThingM rb l ta cap 73 77 [.string ⟨#[]⟩, .int .i64 0, .int .i64 0, .int .i64 0, .int .i64 0, .int .i64 0, .int .i64 0, .int .i64 0, .int .i64 0, .int .i64 0, .int .i64 0] pHead := by
  refine ⟨fun xs w => by kernel_rfl, mon_head, thing_rot (n := 10) (cs := [dI 0, dS [], dI 0, dI 0, dI 0, dI 0, dI 0, dI 0, dI 0, dI 0, dI 0]) hta rfl rfl (fun j d hd => ?_) (fun E w xb r hE hS hr hl => ?_)⟩
  · match j, hd with
    | 0, hd => simp at hd; subst hd; exact ⟨.int .i64 0, rfl, dI_rd 0⟩
    | 1, hd => simp at hd; subst hd; exact ⟨.string ⟨#[]⟩, rfl, dS_rd []⟩
    | 2, hd => simp at hd; subst hd; exact ⟨.int .i64 0, rfl, dI_rd 0⟩
    | 3, hd => simp at hd; subst hd; exact ⟨.int .i64 0, rfl, dI_rd 0⟩
    | 4, hd => simp at hd; subst hd; exact ⟨.int .i64 0, rfl, dI_rd 0⟩
    | 5, hd => simp at hd; subst hd; exact ⟨.int .i64 0, rfl, dI_rd 0⟩
    | 6, hd => simp at hd; subst hd; exact ⟨.int .i64 0, rfl, dI_rd 0⟩
    | 7, hd => simp at hd; subst hd; exact ⟨.int .i64 0, rfl, dI_rd 0⟩
    | 8, hd => simp at hd; subst hd; exact ⟨.int .i64 0, rfl, dI_rd 0⟩
    | 9, hd => simp at hd; subst hd; exact ⟨.int .i64 0, rfl, dI_rd 0⟩
    | 10, hd => simp at hd; subst hd; exact ⟨.int .i64 0, rfl, dI_rd 0⟩
    | j + 11, hd => simp at hd
  · subst hE
    exact head_core _ xb w r (hide rfl) (hide rfl) (hide rfl) (hide rfl) (hide rfl) (hide rfl) (hide rfl) (hide rfl) (hide rfl) (hide rfl) (hide rfl) (hide hS) (hide (Nat.le_refl _)) (hide hr) (hide hl)
theorem ped_thing {rb : Nat} {l : List Tok} {ta : Addr} {cap : Nat} (hta : ta.block ≠ rb) : ThingM rb l ta cap 75 101 [.string ⟨#[]⟩, .string ⟨#[]⟩, .int .i64 0, .int .i64 0, .int .i64 0, .int .i64 0] pWalk := by
  refine ⟨fun xs w => by kernel_rfl, mon_walk, thing_rot (n := 5) (cs := [dI 0, dS [], dS [], dI 0, dI 0, dI 0]) hta rfl rfl (fun j d hd => ?_) (fun E w xb r hE hS hr hl => ?_)⟩
  · match j, hd with
    | 0, hd => simp at hd; subst hd; exact ⟨.int .i64 0, rfl, dI_rd 0⟩
    | 1, hd => simp at hd; subst hd; exact ⟨.string ⟨#[]⟩, rfl, dS_rd []⟩
    | 2, hd => simp at hd; subst hd; exact ⟨.string ⟨#[]⟩, rfl, dS_rd []⟩
    | 3, hd => simp at hd; subst hd; exact ⟨.int .i64 0, rfl, dI_rd 0⟩
    | 4, hd => simp at hd; subst hd; exact ⟨.int .i64 0, rfl, dI_rd 0⟩
    | 5, hd => simp at hd; subst hd; exact ⟨.int .i64 0, rfl, dI_rd 0⟩
    | j + 6, hd => simp at hd
  · subst hE
    exact walk_core _ xb w r (hide rfl) (hide rfl) (hide rfl) (hide rfl) (hide rfl) (hide rfl) (hide hS) (hide (Nat.le_refl _)) (hide hr) (hide hl)
theorem foe_thing {rb : Nat} {l : List Tok} {ta : Addr} {cap : Nat} (hta : ta.block ≠ rb) : ThingM rb l ta cap 81 112 [.string ⟨#[]⟩, .string ⟨#[]⟩, .int .i64 0] pFoe := by
  refine ⟨fun xs w => by kernel_rfl, mon_foe, thing_rot (n := 2) (cs := [dI 0, dS [], dS []]) hta rfl rfl (fun j d hd => ?_) (fun E w xb r hE hS hr hl => ?_)⟩
  · match j, hd with
    | 0, hd => simp at hd; subst hd; exact ⟨.int .i64 0, rfl, dI_rd 0⟩
    | 1, hd => simp at hd; subst hd; exact ⟨.string ⟨#[]⟩, rfl, dS_rd []⟩
    | 2, hd => simp at hd; subst hd; exact ⟨.string ⟨#[]⟩, rfl, dS_rd []⟩
    | j + 3, hd => simp at hd
  · subst hE
    exact foe_core _ xb w r (hide rfl) (hide rfl) (hide rfl) (hide hS) (hide (Nat.le_refl _)) (hide hr) (hide hl)
theorem stop_thing {rb : Nat} {l : List Tok} {ta : Addr} {cap : Nat} (hta : ta.block ≠ rb) : ThingM rb l ta cap 85 114 [.string ⟨#[]⟩, .string ⟨#[]⟩, .string ⟨#[]⟩, .int .i64 0, .int .i64 0, .int .i64 0] pStop := by
  refine ⟨fun xs w => by kernel_rfl, mon_stop, thing_rot (n := 5) (cs := [dI 0, dS [], dS [], dS [], dI 0, dI 0]) hta rfl rfl (fun j d hd => ?_) (fun E w xb r hE hS hr hl => ?_)⟩
  · match j, hd with
    | 0, hd => simp at hd; subst hd; exact ⟨.int .i64 0, rfl, dI_rd 0⟩
    | 1, hd => simp at hd; subst hd; exact ⟨.string ⟨#[]⟩, rfl, dS_rd []⟩
    | 2, hd => simp at hd; subst hd; exact ⟨.string ⟨#[]⟩, rfl, dS_rd []⟩
    | 3, hd => simp at hd; subst hd; exact ⟨.string ⟨#[]⟩, rfl, dS_rd []⟩
    | 4, hd => simp at hd; subst hd; exact ⟨.int .i64 0, rfl, dI_rd 0⟩
    | 5, hd => simp at hd; subst hd; exact ⟨.int .i64 0, rfl, dI_rd 0⟩
    | j + 6, hd => simp at hd
  · subst hE
    exact stop_core _ xb w r (hide rfl) (hide rfl) (hide rfl) (hide rfl) (hide rfl) (hide rfl) (hide hS) (hide (Nat.le_refl _)) (hide hr) (hide hl)
theorem phase_thing {rb : Nat} {l : List Tok} {ta : Addr} {cap : Nat} (hta : ta.block ≠ rb) : ThingM rb l ta cap 77 105 [.string ⟨#[]⟩, .slice none 0 0, .int .i64 0] pPhase := by
  refine ⟨fun xs w => by kernel_rfl, mon_phase, thing_rot (n := 2) (cs := [dI 0, dS [], dN]) hta rfl rfl (fun j d hd => ?_) (fun E w xb r hE hS hr hl => ?_)⟩
  · match j, hd with
    | 0, hd => simp at hd; subst hd; exact ⟨.int .i64 0, rfl, dI_rd 0⟩
    | 1, hd => simp at hd; subst hd; exact ⟨.string ⟨#[]⟩, rfl, dS_rd []⟩
    | 2, hd => simp at hd; subst hd; exact ⟨.slice none 0 0, rfl, dN_rd⟩
    | j + 3, hd => simp at hd
  · subst hE
    exact phase_core _ xb w r (hide rfl) (hide rfl) (hide rfl) (hide hS) (hide (Nat.le_refl _)) (hide hr) (hide hl)
theorem row_thing {rb : Nat} {l : List Tok} {ta : Addr} {cap : Nat} (hta : ta.block ≠ rb) : ThingM rb l ta cap 100 117 [.bool false, .slice none 0 0] pRing := by
  refine ⟨fun xs w => by kernel_rfl, mon_ring, thing_plain (cs := [dB false, dN]) hta rfl (fun j d hd => ?_) (fun E w xb r hE hS hr hl => ?_)⟩
  · match j, hd with
    | 0, hd => simp at hd; subst hd; exact ⟨.bool false, rfl, dB_rd false⟩
    | 1, hd => simp at hd; subst hd; exact ⟨.slice none 0 0, rfl, dN_rd⟩
    | j + 2, hd => simp at hd
  · subst hE
    exact ring_core _ xb w r (hide rfl) (hide rfl) (hide hS) (hide (Nat.le_refl _)) (hide hr) (hide hl)
theorem group_thing {rb : Nat} {l : List Tok} {ta : Addr} {cap : Nat} (hta : ta.block ≠ rb) : ThingM rb l ta cap 79 109 [.slice none 0 0] pGroup := by
  refine ⟨fun xs w => by kernel_rfl, mon_group, thing_plain (cs := [dN]) hta rfl (fun j d hd => ?_) (fun E w xb r hE hS hr hl => ?_)⟩
  · match j, hd with
    | 0, hd => simp at hd; subst hd; exact ⟨.slice none 0 0, rfl, dN_rd⟩
    | j + 1, hd => simp at hd
  · subst hE
    exact group_core _ xb w r (hide rfl) (hide hS) (hide (Nat.le_refl _)) (hide hr) (hide hl) (hide (row_thing hta))
theorem node_thing {rb : Nat} {l : List Tok} {ta : Addr} {cap : Nat} (hta : ta.block ≠ rb) : ThingM rb l ta cap 52 61 [.string ⟨#[]⟩, .slice none 0 0, .slice none 0 0, .slice none 0 0, .slice none 0 0, .slice none 0 0, .int .i64 0] pNode := by
  refine ⟨fun xs w => by kernel_rfl, mon_node, thing_rot (n := 6) (cs := [dI 0, dS [], dN, dN, dN, dN, dN]) hta rfl rfl (fun j d hd => ?_) (fun E w xb r hE hS hr hl => ?_)⟩
  · match j, hd with
    | 0, hd => simp at hd; subst hd; exact ⟨.int .i64 0, rfl, dI_rd 0⟩
    | 1, hd => simp at hd; subst hd; exact ⟨.string ⟨#[]⟩, rfl, dS_rd []⟩
    | 2, hd => simp at hd; subst hd; exact ⟨.slice none 0 0, rfl, dN_rd⟩
    | 3, hd => simp at hd; subst hd; exact ⟨.slice none 0 0, rfl, dN_rd⟩
    | 4, hd => simp at hd; subst hd; exact ⟨.slice none 0 0, rfl, dN_rd⟩
    | 5, hd => simp at hd; subst hd; exact ⟨.slice none 0 0, rfl, dN_rd⟩
    | 6, hd => simp at hd; subst hd; exact ⟨.slice none 0 0, rfl, dN_rd⟩
    | j + 7, hd => simp at hd
  · subst hE
    exact node_core _ xb w r (hide rfl) (hide rfl) (hide rfl) (hide rfl) (hide rfl) (hide rfl) (hide rfl) (hide hS) (hide (Nat.le_refl _)) (hide hr) (hide hl) (hide (head_thing hta)) (hide (ped_thing hta)) (hide (phase_thing hta)) (hide (group_thing hta)) (hide (foe_thing hta))
end Go.Proofs.YtmplckdpddmifaaGreatDoor
