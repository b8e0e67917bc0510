/- Plain numbers: sums and products of fractions in any order. No program is met here. -/
import Derived.Test.YtnfhkgdgkfanhaaDoorFNum
namespace Go.Proofs.YtnfhkgdgkfanhaaDoor
set_option linter.unusedVariables false
/-- two pairs of numbers are one fraction -/
def FEq (n d N D : Int) : Prop := n * D = N * d
theorem FEq.trans {n d N D M E : Int} (hD : 0 < D) (h : FEq n d N D) (k : FEq N D M E) : FEq n d M E := by
  unfold FEq at *
  have : n * E * D = M * d * D := by
    rw [Int.mul_right_comm, h, Int.mul_right_comm, k, Int.mul_right_comm]
  exact Int.eq_of_mul_eq_mul_right (by omega) this
theorem FEq.symm {n d N D : Int} (h : FEq n d N D) : FEq N D n d := by unfold FEq at *; exact h.symm
theorem feq_red {N D : Int} (hD : 0 < D) : FEq (rn N D) (rd N D) N D := (red_spec hD).2.2
theorem feq_one {n d m e N D : Int} (hd : 0 < d) (he : 0 < e) (hD : 0 < D) (g1 : Int.gcd n d = 1) (g2 : Int.gcd m e = 1) (h : FEq n d N D) (k : FEq m e N D) : n = m ∧ d = e := by
  obtain ⟨a1, a2⟩ := red_one hd hD g1 h
  obtain ⟨b1, b2⟩ := red_one he hD g2 k
  exact ⟨a1.symm.trans b1, a2.symm.trans b2⟩
theorem feq_add {x y N D m e : Int} (h : FEq x y N D) : FEq (x * e + m * y) (y * e) (N * e + m * D) (D * e) := by
  unfold FEq at *
  have h1 : x * D * (e * e) = N * y * (e * e) := by rw [h]
  simp only [Int.add_mul]
  have a : x * e * (D * e) = x * D * (e * e) := by ac_rfl
  have b : N * e * (y * e) = N * y * (e * e) := by ac_rfl
  have c : m * y * (D * e) = m * D * (y * e) := by ac_rfl
  omega
theorem feq_add' {x y N D m e : Int} (h : FEq x y N D) : FEq (m * y + x * e) (e * y) (m * D + N * e) (e * D) := by
  have := feq_add (m := m) (e := e) h
  rw [Int.add_comm (m * y), Int.add_comm (m * D), Int.mul_comm e y, Int.mul_comm e D]
  exact this
theorem feq_mul {x y N D m e : Int} (h : FEq x y N D) : FEq (x * m) (y * e) (N * m) (D * e) := by
  unfold FEq at *
  have a : x * m * (D * e) = x * D * (m * e) := by ac_rfl
  have b : N * m * (y * e) = N * y * (m * e) := by ac_rfl
  rw [a, b, h]
theorem feq_mul' {x y N D m e : Int} (h : FEq x y N D) : FEq (m * x) (e * y) (m * N) (e * D) := by
  have := feq_mul (m := m) (e := e) h
  rw [Int.mul_comm m x, Int.mul_comm e y, Int.mul_comm m N, Int.mul_comm e D]
  exact this
/-- an answer that fits: the fraction in lowest terms -/
def Fits (N D X Y : Int) : Prop := X = rn N D ∧ Y = rd N D
/-- sums, in two orders -/
theorem sum_assoc {p0 q0 p1 q1 p2 q2 X1 Y1 X2 Y2 X3 Y3 X4 Y4 : Int} (h0 : 0 < q0) (h1 : 0 < q1) (h2 : 0 < q2)
    (f1 : Fits (p0 * q1 + p1 * q0) (q0 * q1) X1 Y1) (f2 : Fits (X1 * q2 + p2 * Y1) (Y1 * q2) X2 Y2)
    (f3 : Fits (p1 * q2 + p2 * q1) (q1 * q2) X3 Y3) (f4 : Fits (p0 * Y3 + X3 * q0) (q0 * Y3) X4 Y4) : X2 = X4 ∧ Y2 = Y4 := by
  obtain ⟨rfl, rfl⟩ := f1
  obtain ⟨rfl, rfl⟩ := f3
  have d01 := Int.mul_pos h0 h1
  have d12 := Int.mul_pos h1 h2
  have s1 := red_spec (N := p0 * q1 + p1 * q0) d01
  have s3 := red_spec (N := p1 * q2 + p2 * q1) d12
  have e1 := feq_red (N := p0 * q1 + p1 * q0) d01
  have e3 := feq_red (N := p1 * q2 + p2 * q1) d12
  generalize rn (p0 * q1 + p1 * q0) (q0 * q1) = X1 at *
  generalize rd (p0 * q1 + p1 * q0) (q0 * q1) = Y1 at *
  generalize rn (p1 * q2 + p2 * q1) (q1 * q2) = X3 at *
  generalize rd (p1 * q2 + p2 * q1) (q1 * q2) = Y3 at *
  obtain ⟨rfl, rfl⟩ := f2
  obtain ⟨rfl, rfl⟩ := f4
  have t1 := Int.mul_pos s1.1 h2
  have t3 := Int.mul_pos h0 s3.1
  have s2 := red_spec (N := X1 * q2 + p2 * Y1) t1
  have s4 := red_spec (N := p0 * Y3 + X3 * q0) t3
  have e2 := FEq.trans t1 (feq_red (N := X1 * q2 + p2 * Y1) t1) (feq_add (m := p2) (e := q2) e1)
  have e4 := FEq.trans t3 (feq_red (N := p0 * Y3 + X3 * q0) t3) (feq_add' (m := p0) (e := q0) e3)
  have k1 : q0 * (q1 * q2) = q0 * q1 * q2 := by rw [Int.mul_assoc]
  have k2 : p0 * (q1 * q2) + (p1 * q2 + p2 * q1) * q0 = (p0 * q1 + p1 * q0) * q2 + p2 * (q0 * q1) := by
    simp only [Int.add_mul]
    have a : p0 * (q1 * q2) = p0 * q1 * q2 := by ac_rfl
    have b : p1 * q2 * q0 = p1 * q0 * q2 := by ac_rfl
    have c : p2 * q1 * q0 = p2 * (q0 * q1) := by ac_rfl
    omega
  rw [k1, k2] at e4
  exact feq_one s2.1 s4.1 (Int.mul_pos d01 h2) s2.2.1 s4.2.1 e2 e4
theorem sum_comm {p0 q0 p1 q1 X1 Y1 X5 Y5 : Int} (f1 : Fits (p0 * q1 + p1 * q0) (q0 * q1) X1 Y1) (f5 : Fits (p1 * q0 + p0 * q1) (q1 * q0) X5 Y5) : X5 = X1 ∧ Y5 = Y1 := by
  obtain ⟨rfl, rfl⟩ := f1
  obtain ⟨rfl, rfl⟩ := f5
  rw [Int.add_comm, Int.mul_comm q1 q0]
  exact ⟨rfl, rfl⟩
/-- products, in two orders -/
theorem prod_assoc {p0 q0 p1 q1 p2 q2 X1 Y1 X2 Y2 X3 Y3 X4 Y4 : Int} (h0 : 0 < q0) (h1 : 0 < q1) (h2 : 0 < q2)
    (f1 : Fits (p0 * p1) (q0 * q1) X1 Y1) (f2 : Fits (X1 * p2) (Y1 * q2) X2 Y2)
    (f3 : Fits (p1 * p2) (q1 * q2) X3 Y3) (f4 : Fits (p0 * X3) (q0 * Y3) X4 Y4) : X2 = X4 ∧ Y2 = Y4 := by
  obtain ⟨rfl, rfl⟩ := f1
  obtain ⟨rfl, rfl⟩ := f3
  have d01 := Int.mul_pos h0 h1
  have d12 := Int.mul_pos h1 h2
  have s1 := red_spec (N := p0 * p1) d01
  have s3 := red_spec (N := p1 * p2) d12
  have e1 := feq_red (N := p0 * p1) d01
  have e3 := feq_red (N := p1 * p2) d12
  generalize rn (p0 * p1) (q0 * q1) = X1 at *
  generalize rd (p0 * p1) (q0 * q1) = Y1 at *
  generalize rn (p1 * p2) (q1 * q2) = X3 at *
  generalize rd (p1 * p2) (q1 * q2) = Y3 at *
  obtain ⟨rfl, rfl⟩ := f2
  obtain ⟨rfl, rfl⟩ := f4
  have t1 := Int.mul_pos s1.1 h2
  have t3 := Int.mul_pos h0 s3.1
  have s2 := red_spec (N := X1 * p2) t1
  have s4 := red_spec (N := p0 * X3) t3
  have e2 := FEq.trans t1 (feq_red (N := X1 * p2) t1) (feq_mul (m := p2) (e := q2) e1)
  have e4 := FEq.trans t3 (feq_red (N := p0 * X3) t3) (feq_mul' (m := p0) (e := q0) e3)
  rw [← Int.mul_assoc q0, ← Int.mul_assoc p0] at e4
  exact feq_one s2.1 s4.1 (Int.mul_pos d01 h2) s2.2.1 s4.2.1 e2 e4
theorem prod_comm {p0 q0 p1 q1 X1 Y1 X5 Y5 : Int} (f1 : Fits (p0 * p1) (q0 * q1) X1 Y1) (f5 : Fits (p1 * p0) (q1 * q0) X5 Y5) : X5 = X1 ∧ Y5 = Y1 := by
  obtain ⟨rfl, rfl⟩ := f1
  obtain ⟨rfl, rfl⟩ := f5
  rw [Int.mul_comm p1 p0, Int.mul_comm q1 q0]
  exact ⟨rfl, rfl⟩
/-- a product of a sum is the sum of products -/
theorem prod_sum {p0 q0 p1 q1 p2 q2 X1 Y1 X2 Y2 XP YP XQ YQ X5 Y5 : Int} (h0 : 0 < q0) (h1 : 0 < q1) (h2 : 0 < q2)
    (f1 : Fits (p0 * q1 + p1 * q0) (q0 * q1) X1 Y1) (f2 : Fits (X1 * p2) (Y1 * q2) X2 Y2)
    (fp : Fits (p0 * p2) (q0 * q2) XP YP) (fq : Fits (p1 * p2) (q1 * q2) XQ YQ) (f5 : Fits (XP * YQ + XQ * YP) (YP * YQ) X5 Y5) : X2 = X5 ∧ Y2 = Y5 := by
  obtain ⟨rfl, rfl⟩ := f1
  obtain ⟨rfl, rfl⟩ := fp
  obtain ⟨rfl, rfl⟩ := fq
  have d01 := Int.mul_pos h0 h1
  have d02 := Int.mul_pos h0 h2
  have d12 := Int.mul_pos h1 h2
  have s1 := red_spec (N := p0 * q1 + p1 * q0) d01
  have sp := red_spec (N := p0 * p2) d02
  have sq := red_spec (N := p1 * p2) d12
  have e1 := feq_red (N := p0 * q1 + p1 * q0) d01
  have ep := feq_red (N := p0 * p2) d02
  have eq := feq_red (N := p1 * p2) d12
  generalize rn (p0 * q1 + p1 * q0) (q0 * q1) = X1 at *
  generalize rd (p0 * q1 + p1 * q0) (q0 * q1) = Y1 at *
  generalize rn (p0 * p2) (q0 * q2) = XP at *
  generalize rd (p0 * p2) (q0 * q2) = YP at *
  generalize rn (p1 * p2) (q1 * q2) = XQ at *
  generalize rd (p1 * p2) (q1 * q2) = YQ at *
  obtain ⟨rfl, rfl⟩ := f2
  obtain ⟨rfl, rfl⟩ := f5
  have t1 := Int.mul_pos s1.1 h2
  have t5 := Int.mul_pos sp.1 sq.1
  have s2 := red_spec (N := X1 * p2) t1
  have s5 := red_spec (N := XP * YQ + XQ * YP) t5
  have e2 := FEq.trans t1 (feq_red (N := X1 * p2) t1) (feq_mul (m := p2) (e := q2) e1)
  have e5a := FEq.trans t5 (feq_red (N := XP * YQ + XQ * YP) t5) (feq_add (m := XQ) (e := YQ) ep)
  have e5b := feq_add' (m := p0 * p2) (e := q0 * q2) eq
  have e5 := FEq.trans (Int.mul_pos d02 sq.1) e5a e5b
  have k : FEq (p0 * p2 * (q1 * q2) + p1 * p2 * (q0 * q2)) (q0 * q2 * (q1 * q2)) ((p0 * q1 + p1 * q0) * p2) (q0 * q1 * q2) := by
    unfold FEq
    simp only [Int.add_mul]
    have a : p0 * p2 * (q1 * q2) * (q0 * q1 * q2) = p0 * q1 * p2 * (q0 * q2 * (q1 * q2)) := by ac_rfl
    have b : p1 * p2 * (q0 * q2) * (q0 * q1 * q2) = p1 * q0 * p2 * (q0 * q2 * (q1 * q2)) := by ac_rfl
    omega
  have e6 := FEq.trans (Int.mul_pos d02 d12) e5 k
  exact feq_one s2.1 s5.1 (Int.mul_pos d01 h2) s2.2.1 s5.2.1 e2 e6
/-- a sum less one part is the other one -/
theorem sum_less {p0 q0 p1 q1 X1 Y1 X Y : Int} (h0 : 0 < q0) (h1 : 0 < q1) (g0 : Int.gcd p0 q0 = 1)
    (f1 : Fits (p0 * q1 + p1 * q0) (q0 * q1) X1 Y1) (f : Fits (X1 * q1 + -p1 * Y1) (Y1 * q1) X Y) : X = p0 ∧ Y = q0 := by
  obtain ⟨rfl, rfl⟩ := f1
  have d01 := Int.mul_pos h0 h1
  have s1 := red_spec (N := p0 * q1 + p1 * q0) d01
  have e1 := feq_red (N := p0 * q1 + p1 * q0) d01
  generalize rn (p0 * q1 + p1 * q0) (q0 * q1) = X1 at *
  generalize rd (p0 * q1 + p1 * q0) (q0 * q1) = Y1 at *
  obtain ⟨rfl, rfl⟩ := f
  have t1 := Int.mul_pos s1.1 h1
  have s2 := red_spec (N := X1 * q1 + -p1 * Y1) t1
  have e2 := FEq.trans t1 (feq_red (N := X1 * q1 + -p1 * Y1) t1) (feq_add (m := -p1) (e := q1) e1)
  have k : FEq ((p0 * q1 + p1 * q0) * q1 + -p1 * (q0 * q1)) (q0 * q1 * q1) p0 q0 := by
    unfold FEq
    simp only [Int.add_mul, Int.neg_mul]
    have a : p0 * q1 * q1 * q0 = p0 * (q0 * q1 * q1) := by ac_rfl
    have b : p1 * q0 * q1 * q0 = p1 * (q0 * q1) * q0 := by ac_rfl
    omega
  have e3 := FEq.trans (Int.mul_pos d01 h1) e2 k
  refine feq_one s2.1 h0 h0 s2.2.1 g0 e3 ?_
  unfold FEq; rfl
end Go.Proofs.YtnfhkgdgkfanhaaDoor
