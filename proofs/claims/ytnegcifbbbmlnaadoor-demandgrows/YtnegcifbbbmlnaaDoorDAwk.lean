/- Layer 9's examples. -/
import Derived.Test.YtnegcifbbbmlnaaDoorDLaw
import Derived.Test.YtnegcifbbbmlnaaDoorDOpn
import Derived.Test.YtnegcifbbbmlnaaDoorDWk
import Derived.Test.YtnegcifbbbmlnaaDoorDRat
import Derived.Test.YtnegcifbbbmlnaaDoorDRt
namespace Go.Proofs.YtnegcifbbbmlnaaDoor
open Go.RowKit
set_option linter.unusedVariables false
set_option maxRecDepth 10000
namespace W
theorem ex_vol : volF 400 21 20 9 10 = (1400, 3, 0) := by kernel_rfl
theorem ex_rat : ratF 400 1800 21 20 9 10 = (7, 27, 0) := by kernel_rfl
theorem ex_rnd : rnd 7 27 3 = 259 := by decide
theorem ex_dig : Lib.itoa 259 = [50, 53, 57] := by rw [itoa_size]; simp [Lib.decDigits]
theorem ex_err : rtE 7 27 3 = 0 := by
  unfold rtE
  rw [if_neg (by decide), show (3 : Int).toNat = 3 from rfl, ex_rnd]
  decide
theorem ex_txt : rtS 7 27 3 = ⟨#[48, 46, 50, 53, 57]⟩ := by
  unfold rtS
  rw [ex_err, if_pos rfl, show (3 : Int).toNat = 3 from rfl, ex_rnd, ex_dig]
  decide
theorem awake_any (w : World) (ht : Tab w) : Calls Tryd.prog 11 #[] w fun e w' => e = .returned (.bool true) ∧ Keep w w' := by
  refine awake_core w (hide fun w => ?_) (hide fun w => ?_) (hide fun w' hk => ?_)
  · have h := volume_any (.string ⟨#[]⟩) (.int .i64 0) (.int .i64 0) (.int .i64 0) (.int .i64 0) (.int .i64 0) (.int .i64 0) (v := 400) (s := 1800) (un := 21) (ud := 20) (pn := 9) (pd := 10) (by constructor <;> decide) (by constructor <;> decide) (by constructor <;> decide) (by constructor <;> decide) (by constructor <;> decide) w
    rw [ex_vol] at h
    exact h
  · have h := ratio_any (.string ⟨#[]⟩) (.int .i64 0) (.int .i64 0) (.int .i64 0) (.int .i64 0) (.int .i64 0) (.int .i64 0) (v := 400) (s := 1800) (un := 21) (ud := 20) (pn := 9) (pd := 10) (by constructor <;> decide) (by constructor <;> decide) (by constructor <;> decide) (by constructor <;> decide) (by constructor <;> decide) (by constructor <;> decide) w
    rw [ex_rat] at h
    exact h
  · have h := rate_any (n := 7) (d := 27) (p := 3) (by constructor <;> decide) (by constructor <;> decide) (ht.keep hk)
    rw [ex_err, ex_txt] at h
    exact h
end W
end Go.Proofs.YtnegcifbbbmlnaaDoor
