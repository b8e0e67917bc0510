/- Package group: the search of a right job. -/
import Derived.Test.YtakandlehneciaaGpK
import Derived.Test.YtakandlehneciaaGpV
namespace Go.Proofs.Ytakandlehneciaa
open Go.RowKit
set_option linter.unusedVariables false
set_option linter.unusedSimpArgs false
set_option maxRecDepth 10000
namespace Gp
open Pa
theorem run_any (RR : List (List Int)) (FR : List Bool) (AP : List P2) (w9 w : World) (sb : Nat) (vr vf va vd : Value) (bud : Int) (hJ : Jb w9 (.agg #[vr, vf, va]) RR FR AP) (hrt : Rt RR FR AP) (hD : Ps w9 vd (dn [] AP)) (hb : 0 ≤ bud ∧ bud ≤ 9223372036854775807)
    (h0 : Sv RR w9 w sb vr vf va vd (flr RR (dn [] AP)) bud bud.toNat none) :
    Calls Try.prog 20 #[.pointer (some ⟨sb, 0, none⟩)] w (Rq RR (dn [] AP) (flr RR (dn [] AP)) bud (osN RR FR 0) (osN RR FR 1) w9 sb vr vf va vd bud.toNat) := by
  have hn : (dn [] AP).length ≤ 16 := Nat.le_trans (dn_len AP []) hrt.few
  have hla : ∀ i j, i < (osN RR FR 0).length → j < (osN RR FR 1).length → La RR (dn [] AP) ((osN RR FR 0).getD i [], (osN RR FR 1).getD j []) := fun i j hi hj => (la_os hrt (getD_mem hi) (getD_mem hj)).sub (fun x hx => dn_in hx)
  have hJ1 := hJ.at
  obtain ⟨⟨ar, cr, er, -, -⟩, ⟨af, cf, ef, -⟩, ⟨aa, ca, ea, -, -⟩⟩ := hJ1
  have hD1 := hD
  obtain ⟨ad, cd, ed, -, -⟩ := hD1
  refine run_core RR (dn [] AP) _ _ w9 w sb vr vf va vd _ bud _ hrt.rows ⟨ar, cr, er⟩ ⟨af, _, cf, ef⟩ ⟨aa, _, ca, ea⟩ ⟨ad, cd, ed⟩ hn (Nat.le_trans (osN_len hrt 0) (by omega)) (Nat.le_trans (osN_len hrt 1) (by omega)) ⟨hb.1, hb.2, by omega⟩ (flr_bd hrt hn (fun x hx => dn_in hx)) h0
    (hide fun w' hk => ordersOf_any _ RR FR AP 0 w' (hJ.keep hk) hrt (by omega))
    (hide fun w' hk => ordersOf_any _ RR FR AP 1 w' (hJ.keep hk) hrt (by omega))
    (hide fun i j vo w' hi hj hk ho => graph_core vr vo RR _ w' (hJ.at.1.keep hk) ho (by rcases hrt.rows with h | h <;> omega) (oo_len hrt.rows _) (hide fun r hr => la_row (hla i j hi hj) hr))
    (hide fun i j gb vo L w' hi hj hL hk hG => edges_core gb _ vo vd _ _ _ (dn [] AP) L w' hG (Ps.keep hD hk) hn hL (Nat.le_trans (ph_len RR _ hrt.row RR.length) (by rcases hrt.rows with h | h <;> omega)) (hide fun k hk => la_ed (hla i j hi hj) (Nat.lt_of_lt_of_le hk hL)))
    (hide fun i j L v w' hi hj hL he => longest_any v _ _ w' he (by
      have h1 := edX_len (hla i j hi hj) ((dn [] AP).zip L)
      have h2 : ((dn [] AP).zip L).length ≤ 16 := by rw [List.length_zip]; omega
      exact Nat.le_trans h1 (by omega)))
    (hide fun i j gb vo vu d w' hi hj hG ho hd hdl => fit_core gb _ vo vu _ _ _ _ d w' hG ho hd (by rw [hdl]; exact ptN_ge RR RR.length) (by rw [oo_len hrt.rows]; rcases hrt.rows with h | h <;> omega) (by simp [MKn, oo_len hrt.rows]) (hide fun r hr => by
      rw [oo_len hrt.rows] at hr
      obtain ⟨h1, h2⟩ := (hla i j hi hj).ord r hr
      have h3 := (hrt.row _ (getD_mem (z := []) hr)).2.1
      rw [MK_at _ hr]
      have h4 := mkR_len hrt.row hr
      refine ⟨by omega, by omega, fun k hk => ?_⟩
      rw [hdl]
      exact mk_in hrt.row hr (by omega)))
    (hide fun i j L hi hj hL h => la_hv (hla i j hi hj) L h)
end Gp
end Go.Proofs.Ytakandlehneciaa
