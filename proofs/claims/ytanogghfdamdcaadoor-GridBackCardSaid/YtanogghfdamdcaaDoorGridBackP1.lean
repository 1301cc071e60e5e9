/-
  What the functions that are called give: for GridBack.
-/
import Derived.Test.YtanogghfdamdcaaDoorRows
import Derived.Test.YtanogghfdamdcaaDoorFl
import Derived.Test.YtanogghfdamdcaaDoorFv
set_option linter.unusedSimpArgs false
set_option linter.unusedVariables false
namespace Go.Fw
open Go Ieee
set_option exponentiation.threshold 2200
theorem log2_shift (m d : Nat) (hm : 0 < m) : (m * 2 ^ d).log2 = m.log2 + d := by
  have h1 : 2 ^ m.log2 ≤ m := Nat.log2_self_le (by omega)
  have h2 : m < 2 ^ (m.log2 + 1) := Nat.lt_log2_self
  have hp := Nat.two_pow_pos d
  have h3 : 2 ^ (m.log2 + d) ≤ m * 2 ^ d := by rw [Nat.pow_add]; exact Nat.mul_le_mul_right _ h1
  have h4 : m * 2 ^ d < 2 ^ (m.log2 + d + 1) := by
    rw [show m.log2 + d + 1 = (m.log2 + 1) + d by omega, Nat.pow_add]
    exact Nat.mul_lt_mul_of_pos_right h2 hp
  have hz : m * 2 ^ d ≠ 0 := by have := Nat.mul_pos hm hp; omega
  have h5 : (m * 2 ^ d).log2 < m.log2 + d + 1 := (Nat.log2_lt hz).2 h4
  have h6 : m.log2 + d ≤ (m * 2 ^ d).log2 := (Nat.le_log2 hz).2 h3
  omega
theorem nearest_shift (neg : Bool) (m d : Nat) (p : Int) (hm : 0 < m) (h : lst m (p + d) ≤ p + d) : D.nearest neg (m * 2 ^ d) p = D.nearest neg m (p + d) := by
  have hp := Nat.two_pow_pos d
  have hz : m * 2 ^ d ≠ 0 := by have := Nat.mul_pos hm hp; omega
  have hl : lst (m * 2 ^ d) p = lst m (p + d) := by
    unfold lst; rw [log2_shift m d hm]; push_cast; congr 1; omega
  unfold Format.nearest
  rw [if_neg hz, if_neg (by omega), d_least, d_bin, d_inf]
  show D.word neg (min ((lst (m * 2 ^ d) p - -1074).toNat * 4503599627370496 + Toward.even.cut neg ((m * 2 ^ d) <<< (p - lst (m * 2 ^ d) p).toNat) (lst (m * 2 ^ d) p - p).toNat) 9218868437227405312) = D.word neg (min ((lst m (p + d) - -1074).toNat * 4503599627370496 + Toward.even.cut neg (m <<< (p + d - lst m (p + d)).toNat) (lst m (p + d) - (p + d)).toNat) 9218868437227405312)
  rw [hl]
  generalize hL : lst m (p + d) = L at *
  congr 3
  by_cases hc : L ≤ p
  · rw [show (L - p).toNat = 0 by omega, show (L - (p + d)).toNat = 0 by omega, Nat.shiftLeft_eq, Nat.shiftLeft_eq, show (p + d - L).toNat = d + (p - L).toNat by omega, Nat.pow_add, Nat.mul_assoc]
  · rw [show (p - L).toNat = 0 by omega, show (L - (p + d)).toNat = 0 by omega, Nat.shiftLeft_zero, cut_zero, Nat.shiftLeft_eq]
    have e : m * 2 ^ d = m * 2 ^ (p + d - L).toNat * 2 ^ (L - p).toNat := by
      rw [Nat.mul_assoc, ← Nat.pow_add]; congr 2; omega
    have hg : (L - p).toNat ≤ (m * 2 ^ d).log2 + 2 := by rw [log2_shift m d hm]; omega
    rw [e] at hg ⊢
    exact cut_exact neg _ _ hg
/-- Any number times 2 ^ j, if it is not too great. -/
theorem V_scale {b c j : Nat} {X : Int} (h : V 1074 b X) (hc : D.read c = .number false 4503599627370496 (-52 + j)) (hX : X.natAbs < 2 ^ (2097 - j)) (hj : j ≤ 1000) : ∃ r, D.mul b c = some r ∧ V 1074 r (X * 2 ^ j) := by
  unfold V at h
  obtain ⟨s, m, P, e1, e2⟩ := h
  have b1 := read_bound e1
  unfold Format.mul
  rw [e1, hc]
  simp only [Datum.product, Option.map_some]
  refine ⟨_, rfl, ?_⟩
  rw [Nat.sub_self, Int.pow_zero, Int.mul_one] at e2
  rw [show (s ^^ false) = s by cases s <;> rfl]
  by_cases h0 : m = 0
  · subst h0
    have hX0 : X = 0 := by rw [← e2, signed_eq]; cases s <;> simp
    rw [Nat.zero_mul]
    unfold V
    exact ⟨s, 0, -1074, write_read0 s _, by rw [hX0, signed_eq]; cases s <;> simp⟩
  have hm : 0 < m := by omega
  have hlog : m.log2 ≤ 52 := by
    have h53 : (2 : Nat) ^ 53 = 9007199254740992 := by decide
    have : m.log2 < 53 := (Nat.log2_lt (by omega)).2 (by omega)
    omega
  have hmag : m * 2 ^ (P + 1074).toNat = X.natAbs := by rw [← e2, signed_abs]
  have hup : m.log2 + (P + 1074).toNat < 2097 - j := by
    have h1 : 2 ^ m.log2 ≤ m := Nat.log2_self_le (by omega)
    have h2 : 2 ^ m.log2 * 2 ^ (P + 1074).toNat ≤ m * 2 ^ (P + 1074).toNat := Nat.mul_le_mul_right _ h1
    rw [← Nat.pow_add, hmag] at h2
    exact (Nat.pow_lt_pow_iff_right (by decide : 1 < 2)).1 (Nat.lt_of_le_of_lt h2 hX)
  have hw : D.write (.number s (m * 4503599627370496) (P + (-52 + j))) = D.write (.number s (m * 2 ^ 0) (P + j)) := by
    show D.nearest s (m * 4503599627370496) _ = D.nearest s (m * 2 ^ 0) _
    rw [show (4503599627370496 : Nat) = 2 ^ 52 by decide, nearest_shift s m 52 _ hm (by unfold lst; omega), Nat.pow_zero, Nat.mul_one]
    congr 1; omega
  obtain ⟨M, Q, k1, k2, k3⟩ := write_exact s m 0 (P + j) hm b1.1 (by omega) (by rw [Nat.pow_zero, Nat.mul_one]; omega)
  rw [hw]
  unfold V
  refine ⟨s, M, Q, k1, ?_⟩
  rw [Nat.sub_self, Int.pow_zero, Int.mul_one, ← e2, signed_shift]
  rw [Nat.pow_zero, Nat.mul_one] at k3
  rw [signed_eq, signed_eq]
  have k4 := congrArg (Nat.cast : Nat → Int) k3
  push_cast at k4
  rw [k4]
  congr 3
  omega
end Go.Fw

namespace Go.Fw
open Go Ieee
set_option exponentiation.threshold 2200
theorem V_fin {b : Nat} {s : Bool} {m : Nat} {P : Int} (h : D.read b = .number s m P) : V 1074 b (signed s m (P + 1074).toNat) := by
  unfold V
  exact ⟨s, m, P, h, by rw [Nat.sub_self, Int.pow_zero, Int.mul_one]⟩
theorem V_all {q b : Nat} {x : Int} (h : V q b x) (hq : q ≤ 1074) : V 1074 b (x * 2 ^ (1074 - q)) := by
  have := V_up h (1074 - q) (by omega)
  rw [show q + (1074 - q) = 1074 by omega] at this
  exact this
/-- No number at all. -/
inductive Wild (b : Nat) : Prop
  | inf (s : Bool) (h : D.read b = .infinity s)
  | nan (s : Bool) (f : Nat) (h : D.read b = .nan s f)
theorem fin_or (b : Nat) : (∃ X, V 1074 b X) ∨ Wild b := by
  rcases h : D.read b with ⟨s, m, P⟩ | s | ⟨s, f⟩
  · exact .inl ⟨_, V_fin h⟩
  · exact .inr (.inf s h)
  · exact .inr (.nan s f h)
theorem wild_out {b c d : Nat} {y z : Int} {q : Nat} (h : Wild b) (hc : V q c y) (hd : V q d z) : ((D.order b c == some .gt || D.order b c == some .eq) && (D.order b d == some .lt || D.order b d == some .eq)) = false := by
  unfold V at hc hd
  obtain ⟨s1, m1, P1, e1, -⟩ := hc
  obtain ⟨s2, m2, P2, e2, -⟩ := hd
  rcases h with ⟨s, h⟩ | ⟨s, f, h⟩
  · unfold Format.order
    rw [h, e1, e2]
    cases s <;> rfl
  · unfold Format.order
    rw [h, e1, e2]
    rfl
theorem zcut (neg : Bool) (n d : Nat) : Toward.zero.cut neg n d = n / 2 ^ d := by
  unfold Toward.cut
  simp only [Nat.one_shiftLeft, Bool.toNat_false, Nat.add_zero]
  by_cases h : d ≤ n.log2 + 2
  · rw [Nat.min_eq_left h]
  · rw [Nat.min_eq_right (by omega)]
    have h1 : n < 2 ^ (n.log2 + 1) := Nat.lt_log2_self
    have h2 : 2 ^ (n.log2 + 1) ≤ 2 ^ (n.log2 + 2) := Nat.pow_le_pow_right (by decide) (by omega)
    have h3 : 2 ^ (n.log2 + 1) ≤ 2 ^ d := Nat.pow_le_pow_right (by decide) (by omega)
    rw [Nat.div_eq_of_lt (by omega), Nat.div_eq_of_lt (by omega)]
/-- The whole part, towards nought. -/
theorem V_toInt {b : Nat} {X : Int} (h : V 1074 b X) : (D.read b).toInt .zero = some (X.tdiv (2 ^ 1074)) := by
  unfold V at h
  obtain ⟨s, m, P, e1, e2⟩ := h
  have b1 := read_bound e1
  rw [Nat.sub_self, Int.pow_zero, Int.mul_one] at e2
  rw [e1]
  show some (signed s (Toward.zero.cut s (m <<< P.toNat) (-P).toNat) 0) = _
  congr 1
  rw [zcut, Nat.shiftLeft_eq]
  have key : m * 2 ^ P.toNat / 2 ^ (-P).toNat = m * 2 ^ (P + 1074).toNat / 2 ^ 1074 := by
    by_cases hc : 0 ≤ P
    · rw [show (-P).toNat = 0 by omega, Nat.pow_zero, Nat.div_one, show (P + 1074).toNat = P.toNat + 1074 by omega, Nat.pow_add, ← Nat.mul_assoc, Nat.mul_div_cancel _ (Nat.two_pow_pos 1074)]
    · have hp := Nat.two_pow_pos (P + 1074).toNat
      rw [show P.toNat = 0 by omega, Nat.pow_zero, Nat.mul_one]
      have : (2 : Nat) ^ 1074 = 2 ^ (-P).toNat * 2 ^ (P + 1074).toNat := by rw [← Nat.pow_add]; congr 1; omega
      rw [this, Nat.mul_div_mul_right _ _ hp]
  rw [key, ← e2, signed_eq, signed_eq]
  have hcast : ((m * 2 ^ (P + 1074).toNat / 2 ^ 1074 : Nat) : Int) = ((m : Int) * 2 ^ (P + 1074).toNat).tdiv (2 ^ 1074) := by
    have h1 : ((m : Int) * 2 ^ (P + 1074).toNat) = ((m * 2 ^ (P + 1074).toNat : Nat) : Int) := by rw [Int.natCast_mul, Int.natCast_pow]; rfl
    have h2 : ((2 : Int) ^ 1074) = ((2 ^ 1074 : Nat) : Int) := by rw [Int.natCast_pow]; rfl
    rw [h1, h2]; rfl
  rw [hcast, Int.pow_zero, Int.mul_one]
  cases s
  · simp
  · simp only [if_true, Int.neg_one_mul, Int.neg_tdiv]
theorem V_conv {b : Nat} {X : Int} (h : V 1074 b X) (k : IntKind) (h1 : k.min ≤ X.tdiv (2 ^ 1074)) (h2 : X.tdiv (2 ^ 1074) ≤ k.max) : floatToIntVal .f64 b k = some (X.tdiv (2 ^ 1074)) := by
  unfold floatToIntVal
  rw [show (FloatKind.f64.decode b).toInt .zero = some (X.tdiv (2 ^ 1074)) from V_toInt h]
  exact if_pos ⟨h1, h2⟩
end Go.Fw

namespace Go.Fw
open Go Ieee
set_option exponentiation.threshold 2200
/-- A number of few digits by a power of two. -/
theorem V_div {q a c j : Nat} {n : Int} (h : V q a n) (hc : D.read c = .number false 4503599627370496 (-52 + j)) (h1 : -9007199254740992 < n) (h2 : n < 9007199254740992) (hq : q + j ≤ 900) : ∃ r, D.div a c = some r ∧ V (q + j) r n := by
  unfold V at h
  obtain ⟨s, m, i, e1, e2⟩ := h
  have b1 := read_bound e1
  have hfb : D.fractionBits + 2 = 54 := by decide
  unfold Format.div
  rw [e1, hc, hfb]
  by_cases h0 : m = 0
  · subst h0
    have hn : n = 0 := by
      have h3 : signed s 0 (i + 1074).toNat = 0 := by rw [signed_eq]; cases s <;> simp
      rw [h3] at e2
      exact (Int.mul_eq_zero.1 e2.symm).resolve_right (by have : (0 : Int) < 2 ^ (1074 - q) := Int.pow_pos (by decide)
                                                          omega)
    subst hn
    refine ⟨_, rfl, ?_⟩
    unfold V
    refine ⟨s, 0, -1074, ?_, by rw [signed_eq]; cases s <;> simp⟩
    have : ∀ k : Nat, 0 <<< k = 0 := fun k => Nat.zero_shiftLeft k
    simp only [this, Nat.zero_div, Nat.zero_mod, Nat.mul_zero, Nat.zero_add]
    rw [show (s ^^ false) = s by cases s <;> rfl]
    exact write_read0 _ _
  have hm : 0 < m := by omega
  have h53 : (2 : Nat) ^ 53 = 9007199254740992 := by decide
  have hlog : m.log2 ≤ 52 := by
    have : m.log2 < 53 := (Nat.log2_lt (by omega)).2 (by omega)
    omega
  have hn0 : n ≠ 0 := by
    intro h3
    rw [h3, Int.zero_mul] at e2
    have := congrArg Int.natAbs e2
    rw [signed_abs] at this
    have h5 : m = 0 := (Nat.mul_eq_zero.1 this).resolve_right (by have := Nat.two_pow_pos ((i + 1074).toNat); omega)
    omega
  have hpl := V_place e2 b1.1 b1.2 hn0 (by omega)
  have hup : m.log2 + (i + 1074).toNat < 53 + (1074 - q) := by
    have k1 : 2 ^ m.log2 ≤ m := Nat.log2_self_le (by omega)
    have k2 : 2 ^ m.log2 * 2 ^ (i + 1074).toNat ≤ m * 2 ^ (i + 1074).toNat := Nat.mul_le_mul_right _ k1
    have k3 := congrArg Int.natAbs e2
    rw [signed_abs, Int.natAbs_mul, Int.natAbs_pow] at k3
    rw [← Nat.pow_add, k3] at k2
    have k4 : n.natAbs * (Int.natAbs 2) ^ (1074 - q) < 2 ^ 53 * 2 ^ (1074 - q) := Nat.mul_lt_mul_of_pos_right (by omega) (Nat.two_pow_pos _)
    rw [← Nat.pow_add] at k4
    exact (Nat.pow_lt_pow_iff_right (by decide : 1 < 2)).1 (Nat.lt_of_le_of_lt k2 k4)
  have hl2 : Nat.log2 4503599627370496 = 52 := by decide
  refine ⟨_, by simp only [Datum.quotient, show ¬ (4503599627370496 = 0) by decide, if_false, Option.map_some]; rfl, ?_⟩
  rw [hl2, Nat.shiftLeft_eq]
  obtain ⟨t, ht⟩ : ∃ t, 54 + 52 - m.log2 = 52 + t := ⟨54 - m.log2, by omega⟩
  have ht' : 0 < t := by omega
  have h52 : (2 : Nat) ^ 52 = 4503599627370496 := by decide
  have hd : m * 2 ^ (52 + t) = m * 2 ^ t * 4503599627370496 := by rw [Nat.pow_add, h52, ← Nat.mul_assoc, Nat.mul_right_comm]
  rw [ht, hd, Nat.mul_div_cancel _ (by decide), Nat.mul_mod_left]
  have hmag : 2 * (m * 2 ^ t) + ((0 : Nat) != 0).toNat = m * 2 ^ (t + 1) := by
    show 2 * (m * 2 ^ t) + 0 = _
    rw [Nat.pow_succ]; rw [Nat.add_zero, Nat.mul_comm 2, Nat.mul_assoc]
  have hw : D.write (.number s (m * 2 ^ (t + 1)) (i - (-52 + (j : Int)) - ((52 + t : Nat) : Int) - 1)) = D.write (.number s (m * 2 ^ 0) (i - j)) := by
    show D.nearest s _ _ = D.nearest s (m * 2 ^ 0) _
    rw [nearest_shift s m (t + 1) _ hm (by unfold lst; omega), Nat.pow_zero, Nat.mul_one]
    congr 1; omega
  rw [hmag]
  rw [show (s ^^ false) = s by cases s <;> rfl, hw]
  obtain ⟨M, Q, k1, k2, k3⟩ := write_exact s m 0 (i - j) hm b1.1 (by omega) (by rw [Nat.pow_zero, Nat.mul_one]; omega)
  unfold V
  refine ⟨s, M, Q, k1, ?_⟩
  rw [Nat.pow_zero, Nat.mul_one] at k3
  have hp : (0 : Int) < 2 ^ j := Int.pow_pos (by decide)
  apply Int.eq_of_mul_eq_mul_right (show (2 : Int) ^ j ≠ 0 by omega)
  rw [Int.mul_assoc, ← Int.pow_add, show 1074 - (q + j) + j = 1074 - q by omega, ← e2, signed_eq, signed_eq]
  have k4 := congrArg (Nat.cast : Nat → Int) k3
  push_cast at k4
  rw [k4, Int.mul_assoc, Int.mul_assoc, ← Int.pow_add]
  congr 3
  omega
end Go.Fw

namespace Go.Fw
open Go Ieee
set_option exponentiation.threshold 2200
/-- |x| in units of 2^-1074, rounded to whole numbers, ties to the even one. -/
def evn (n d : Nat) : Nat := n / 2 ^ d + (if 2 ^ d < 2 * (n % 2 ^ d) ∨ (2 ^ d = 2 * (n % 2 ^ d) ∧ n / 2 ^ d % 2 = 1) then 1 else 0)
theorem ecut (neg : Bool) (n d : Nat) : Toward.even.cut neg n d = evn n d := by
  unfold Toward.cut evn
  simp only [Nat.one_shiftLeft]
  by_cases h : d ≤ n.log2 + 2
  · rw [Nat.min_eq_left h]
    congr 1
    by_cases c1 : 2 ^ d < 2 * (n % 2 ^ d)
    · simp [c1]
    · by_cases c2 : 2 ^ d = 2 * (n % 2 ^ d)
      · by_cases c3 : n / 2 ^ d % 2 = 1
        · rw [if_pos (.inr ⟨c2, c3⟩), decide_eq_false c1]
          simp [← c2, c3]
        · rw [if_neg (fun q => q.elim c1 (fun q => c3 q.2)), decide_eq_false c1]
          have : (n / 2 ^ d % 2 == 1) = false := by rw [beq_eq_false_iff_ne]; exact c3
          simp [this]
      · rw [if_neg (fun q => q.elim c1 (fun q => c2 q.1)), decide_eq_false c1]
        have : (2 ^ d == 2 * (n % 2 ^ d)) = false := by rw [beq_eq_false_iff_ne]; exact c2
        simp [this]
  · rw [Nat.min_eq_right (by omega)]
    have h1 : n < 2 ^ (n.log2 + 1) := Nat.lt_log2_self
    have h2 : 2 ^ (n.log2 + 2) = 2 * 2 ^ (n.log2 + 1) := by rw [Nat.pow_succ 2 (n.log2 + 1), Nat.mul_comm]
    have h3 : 2 ^ (n.log2 + 2) ≤ 2 ^ d := Nat.pow_le_pow_right (by decide) (by omega)
    have g1 : n < 2 ^ (n.log2 + 2) := by omega
    have g2 : n < 2 ^ d := by omega
    rw [Nat.div_eq_of_lt g1, Nat.div_eq_of_lt g2, Nat.mod_eq_of_lt g1, Nat.mod_eq_of_lt g2]
    have g3 : 2 * n < 2 ^ (n.log2 + 2) := by omega
    have g4 : 2 * n < 2 ^ d := by omega
    rw [if_neg (by omega), decide_eq_false (by omega)]
    have : (2 ^ (n.log2 + 2) == 2 * n) = false := by rw [beq_eq_false_iff_ne]; omega
    simp [this]
theorem evn_shift (m a b : Nat) : evn (m * 2 ^ a) (b + a) = evn m b := by
  unfold evn
  have hp := Nat.two_pow_pos a
  have h1 : m * 2 ^ a / 2 ^ (b + a) = m / 2 ^ b := by rw [Nat.pow_add, Nat.mul_div_mul_right _ _ hp]
  have h2 : m * 2 ^ a % 2 ^ (b + a) = m % 2 ^ b * 2 ^ a := by rw [Nat.pow_add, Nat.mul_mod_mul_right]
  rw [h1, h2, Nat.pow_add]
  have h3 : (2 ^ b * 2 ^ a < 2 * (m % 2 ^ b * 2 ^ a)) ↔ (2 ^ b < 2 * (m % 2 ^ b)) := by
    rw [← Nat.mul_assoc]; exact ⟨fun q => Nat.lt_of_mul_lt_mul_right q, fun q => Nat.mul_lt_mul_of_pos_right q hp⟩
  have h4 : (2 ^ b * 2 ^ a = 2 * (m % 2 ^ b * 2 ^ a)) ↔ (2 ^ b = 2 * (m % 2 ^ b)) := by
    rw [← Nat.mul_assoc]; exact ⟨fun q => Nat.eq_of_mul_eq_mul_right hp q, fun q => congrArg (· * 2 ^ a) q⟩
  simp only [h3, h4]
/-- The nearest whole number, of a number told in units of 2 ^ -1074. -/
def nrst (X : Int) : Int := (if X < 0 then -1 else 1) * ((evn X.natAbs 1074 : Nat) : Int)
theorem evn_zero (n : Nat) : evn n 0 = n := by
  unfold evn
  rw [Nat.pow_zero, Nat.div_one, Nat.mod_one, if_neg (by omega), Nat.add_zero]
theorem int_cut (way : Toward) (f : Nat → Nat → Nat) (hf : ∀ neg n d, way.cut neg n d = f n d) (h0 : ∀ n, f n 0 = n) (hs : ∀ m a b, f (m * 2 ^ a) (b + a) = f m b) (m : Nat) (P : Int) (hP : -1074 ≤ P) (s : Bool) : way.cut s (m <<< P.toNat) (-P).toNat = f (m * 2 ^ (P + 1074).toNat) 1074 := by
  rw [hf, Nat.shiftLeft_eq]
  by_cases hc : 0 ≤ P
  · rw [show (-P).toNat = 0 by omega, show (P + 1074).toNat = P.toNat + 1074 by omega, Nat.pow_add, ← Nat.mul_assoc]
    have := hs (m * 2 ^ P.toNat) 1074 0
    rw [Nat.zero_add] at this
    rw [this]
  · have := hs m (P + 1074).toNat (-P).toNat
    rw [show (-P).toNat + (P + 1074).toNat = 1074 by omega] at this
    rw [this, show P.toNat = 0 by omega, Nat.pow_zero, Nat.mul_one]
theorem integral_V {b : Nat} {X : Int} {f : Nat → Nat → Nat} (way : Toward) (hf : ∀ neg n d, way.cut neg n d = f n d) (h0 : ∀ n, f n 0 = n) (hs : ∀ m a b, f (m * 2 ^ a) (b + a) = f m b) (h : V 1074 b X) (hb : f X.natAbs 1074 < 9007199254740992) :
    V 0 (D.write ((D.read b).integral way)) ((if X < 0 then -1 else 1) * ((f X.natAbs 1074 : Nat) : Int)) ∧ ∃ s m P, D.read b = .number s m P := by
  unfold V at h
  obtain ⟨s, m, P, e1, e2⟩ := h
  have b1 := read_bound e1
  refine ⟨?_, s, m, P, e1⟩
  rw [Nat.sub_self, Int.pow_zero, Int.mul_one] at e2
  have hN : X.natAbs = m * 2 ^ (P + 1074).toNat := by rw [← e2, signed_abs]
  rw [e1]
  show V 0 (D.write (.number s (way.cut s (m <<< P.toNat) (-P).toNat) 0)) _
  rw [int_cut way f hf h0 hs m P b1.2 s, ← hN]
  generalize hF : f X.natAbs 1074 = F at *
  by_cases hF0 : F = 0
  · subst hF0
    unfold V
    exact ⟨s, 0, -1074, write_read0 s 0, by rw [signed_eq]; cases s <;> simp⟩
  have hX0 : X ≠ 0 := by
    intro q
    rw [q] at hF
    have := hs 0 1074 0
    rw [Nat.zero_mul, Nat.zero_add, h0] at this
    have e : Int.natAbs 0 = 0 := rfl
    rw [e] at hF
    omega
  have hs' : s = decide (X < 0) := by
    rw [signed_eq] at e2
    have hpos : (0 : Int) ≤ (m : Int) * 2 ^ (P + 1074).toNat := Int.mul_nonneg (by omega) (Int.le_of_lt (Int.pow_pos (by decide)))
    cases s
    · simp at e2
      symm; rw [decide_eq_false_iff_not]; omega
    · simp only [if_true] at e2
      symm; rw [decide_eq_true_iff]; omega
  have hval : ((if X < 0 then -1 else 1) * (F : Int)).natAbs = F := by split <;> omega
  have := V_write (q := 0) (base := 0) (tot := (if X < 0 then -1 else 1) * (F : Int)) (w := s) (x := (if X < 0 then -1 else 1) * (F : Int)) (.inl (by rw [hs']; congr 1; split <;> simp <;> omega)) (.inr (by omega)) rfl (by split <;> omega) (by split <;> omega) (by omega)
  rw [hval] at this
  exact this
end Go.Fw

namespace Go.Fw
open Go Ieee
set_option exponentiation.threshold 2200
theorem pow_pos' (k : Nat) : (0 : Int) < 2 ^ k := Int.pow_pos (by decide)
end Go.Fw

namespace Go.Fw
open Go Ieee
set_option exponentiation.threshold 2200
/-- One, in the least units. -/
def U : Int := 2 ^ 1074
def H : Int := 2 ^ 1073
theorem U_pos : 0 < U := pow_pos' 1074
theorem H_pos : 0 < H := pow_pos' 1073
theorem U_H : U = 2 * H := by
  unfold U H
  rw [show (1074 : Nat) = 1073 + 1 by rfl, Int.pow_succ, Int.mul_comm]
theorem V0_U {b : Nat} {n : Int} (h : V 0 b n) : V 1074 b (n * U) := by
  have := V_all h (Nat.zero_le _)
  rw [Nat.sub_zero] at this
  unfold U
  exact this
end Go.Fw

namespace Go.Fw
open Go Ieee
set_option exponentiation.threshold 2200
theorem fl_uniq {n a W f : Int} (hW : 0 < W) (h0 : 0 ≤ f) (hf : f < W) (h1 : n * W ≤ a * W + f) (h2 : a * W + f < (n + 1) * W) : n = a := by
  rcases Int.lt_trichotomy n a with q | q | q
  · have := Int.mul_le_mul_of_nonneg_right (show n + 1 ≤ a by omega) (Int.le_of_lt hW); omega
  · exact q
  · have := Int.mul_le_mul_of_nonneg_right (show a + 1 ≤ n by omega) (Int.le_of_lt hW)
    rw [Int.add_mul, Int.one_mul] at this; omega
theorem U_nat : U = ((2 ^ 1074 : Nat) : Int) := by unfold U; rw [Int.natCast_pow]; rfl
theorem nrst_floor {Y n : Int} (h1 : n * U ≤ Y) (h2 : Y < (n + 1) * U) : nrst Y = if H < Y - n * U ∨ (Y - n * U = H ∧ n % 2 = 1) then n + 1 else n := by
  have hU := U_pos
  have hUH := U_H
  have hUn := U_nat
  unfold nrst evn
  have hdm := Nat.div_add_mod Y.natAbs (2 ^ 1074)
  have hml := Nat.mod_lt Y.natAbs (Nat.two_pow_pos 1074)
  generalize Y.natAbs % 2 ^ 1074 = f at *
  generalize Y.natAbs / 2 ^ 1074 = a at *
  generalize (2 : Nat) ^ 1074 = W at *
  have hdi : (a : Int) * U + f = (Y.natAbs : Int) := by
    rw [hUn, ← hdm]; push_cast; rw [Int.mul_comm]
  by_cases hY : Y < 0
  · rw [if_pos hY]
    by_cases hf : f = 0
    · have hn : n = -(a : Int) := by
        refine fl_uniq (f := 0) hU (by omega) hU ?_ ?_
        · rw [Int.neg_mul]; omega
        · rw [Int.neg_mul]; omega
      have hE : Y - n * U = 0 := by rw [hn, Int.neg_mul]; omega
      rw [hE, if_neg (by omega), if_neg (by omega), hn]; omega
    · have hn : n = -(a : Int) - 1 := by
        refine fl_uniq (f := U - f) hU (by omega) (by omega) ?_ ?_
        · rw [Int.sub_mul, Int.neg_mul]; omega
        · rw [Int.sub_mul, Int.neg_mul]; omega
      have hE : Y - n * U = U - f := by rw [hn, Int.sub_mul, Int.neg_mul]; omega
      rw [hE]
      split <;> split <;> omega
  · rw [if_neg hY]
    have hn : n = (a : Int) := by
      refine fl_uniq (f := f) hU (by omega) (by omega) ?_ ?_ <;> omega
    have hE : Y - n * U = f := by rw [hn]; omega
    rw [hE]
    split <;> split <;> omega
theorem read_abs (b : Nat) : D.read (b % 9223372036854775808) = match D.read b with | .number _ m P => .number false m P | .infinity _ => .infinity false | .nan _ f => .nan false f := by
  unfold Format.read
  rw [d_sw]
  have e1 : b % 9223372036854775808 / 9223372036854775808 % 2 = 0 := by omega
  have e2 : b % 9223372036854775808 % 9223372036854775808 = b % 9223372036854775808 := by omega
  simp only [e1, e2]
  split
  · rfl
  · split
    · rfl
    · split <;> rfl
theorem V_abs {b : Nat} {X : Int} (h : V 1074 b X) : V 1074 (b % 9223372036854775808) X.natAbs := by
  unfold V at h
  obtain ⟨s, m, P, e1, e2⟩ := h
  rw [Nat.sub_self, Int.pow_zero, Int.mul_one] at e2
  have := V_fin (b := b % 9223372036854775808) (s := false) (m := m) (P := P) (by rw [read_abs, e1])
  rw [← e2, signed_abs]
  rw [signed_eq, if_neg (by decide), Int.one_mul] at this
  rw [Int.natCast_mul, Int.natCast_pow]
  exact this
theorem wild_abs {b d : Nat} {z : Int} {q : Nat} (h : Wild b) (hd : V q d z) : (D.order (b % 9223372036854775808) d == some .lt || D.order (b % 9223372036854775808) d == some .eq) = false := by
  unfold V at hd
  obtain ⟨s2, m2, P2, e2, -⟩ := hd
  unfold Format.order
  rw [read_abs, e2]
  rcases h with ⟨s, h⟩ | ⟨s, f, h⟩
  · rw [h]; rfl
  · rw [h]; rfl
end Go.Fw

namespace Go.Fw
open Go Ieee
set_option exponentiation.threshold 2200
theorem V_leb {q a b : Nat} {x y : Int} (ha : V q a x) (hb : V q b y) : (D.order a b == some .lt || D.order a b == some .eq) = decide (x ≤ y) := by
  rw [V_ltb ha hb, V_eqb ha hb]
  by_cases h1 : x < y
  · rw [decide_eq_true h1, decide_eq_true (Int.le_of_lt h1)]; rfl
  · by_cases h2 : x = y
    · rw [decide_eq_false h1, decide_eq_true h2, decide_eq_true (show x ≤ y by omega)]; rfl
    · rw [decide_eq_false h1, decide_eq_false h2, decide_eq_false (show ¬ x ≤ y by omega)]; rfl
theorem V_gtb {q a b : Nat} {x y : Int} (ha : V q a x) (hb : V q b y) : (D.order a b == some .gt) = decide (y < x) := by
  rw [V_order ha hb]
  by_cases h : y < x
  · rw [decide_eq_true h, Int.compare_eq_gt.2 h]; rfl
  · rw [decide_eq_false h]
    have : compare x y ≠ .gt := fun q => h (Int.compare_eq_gt.1 q)
    cases hc : compare x y
    · rfl
    · rfl
    · exact absurd hc this
theorem V_geb {q a b : Nat} {x y : Int} (ha : V q a x) (hb : V q b y) : (D.order a b == some .gt || D.order a b == some .eq) = decide (y ≤ x) := by
  rw [V_gtb ha hb, V_eqb ha hb]
  by_cases h1 : y < x
  · rw [decide_eq_true h1, decide_eq_true (Int.le_of_lt h1)]; rfl
  · by_cases h2 : x = y
    · rw [decide_eq_false h1, decide_eq_true h2, decide_eq_true (show y ≤ x by omega)]; rfl
    · rw [decide_eq_false h1, decide_eq_false h2, decide_eq_false (show ¬ y ≤ x by omega)]; rfl
theorem V_cP : V 1074 4652218415073722368 (1024 * U) := V0_U (V_lit (q := 0) (s := false) (m := 4503599627370496) (i := -42) (by decide) (by decide) (by decide))
theorem V_cM : V 1074 13875590451928498176 ((-1024) * U) := V0_U (V_lit (q := 0) (s := true) (m := 4503599627370496) (i := -42) (by decide) (by decide) (by decide))
structure InE (b : Nat) (X : Int) : Prop where
  v : V 1074 b X
  lo : (-1024) * U ≤ X
  hi : X ≤ 1024 * U
structure OutE (b : Nat) : Prop where
  two : ((D.order b 13875590451928498176 == some .gt || D.order b 13875590451928498176 == some .eq) && (D.order b 4652218415073722368 == some .lt || D.order b 4652218415073722368 == some .eq)) = false
  abs : (D.order (b % 9223372036854775808) 4652218415073722368 == some .lt || D.order (b % 9223372036854775808) 4652218415073722368 == some .eq) = false
theorem in_or (b : Nat) : (∃ X, InE b X) ∨ OutE b := by
  have hU := U_pos
  rcases fin_or b with ⟨X, h⟩ | h
  · by_cases h1 : (-1024) * U ≤ X
    · by_cases h2 : X ≤ 1024 * U
      · exact .inl ⟨X, h, h1, h2⟩
      · refine .inr ⟨?_, ?_⟩
        · rw [V_geb h V_cM, V_leb h V_cP, decide_eq_false h2, Bool.and_false]
        · rw [V_leb (V_abs h) V_cP]; exact decide_eq_false (by omega)
    · refine .inr ⟨?_, ?_⟩
      · rw [V_geb h V_cM, decide_eq_false h1, Bool.false_and]
      · rw [V_leb (V_abs h) V_cP]; exact decide_eq_false (by omega)
  · exact .inr ⟨wild_out h V_cM V_cP, wild_abs h V_cP⟩
theorem InE.le {b : Nat} {X : Int} (h : InE b X) : (D.order b 4652218415073722368 == some .lt || D.order b 4652218415073722368 == some .eq) = true := by rw [V_leb h.v V_cP]; exact decide_eq_true h.hi
theorem InE.ab {b : Nat} {X : Int} (h : InE b X) : (D.order (b % 9223372036854775808) 4652218415073722368 == some .lt || D.order (b % 9223372036854775808) 4652218415073722368 == some .eq) = true := by
  have h1 := h.lo
  have h2 := h.hi
  rw [V_leb (V_abs h.v) V_cP]; exact decide_eq_true (by omega)
theorem InE.natAbs_lt {b : Nat} {X : Int} (h : InE b X) : X.natAbs < 2 ^ 1085 := by
  have h1 := h.lo
  have h2 := h.hi
  have hUn := U_nat
  have e : (2 : Nat) ^ 1085 = 2048 * 2 ^ 1074 := by rw [show (1085 : Nat) = 11 + 1074 by rfl, Nat.pow_add]
  have hp := Nat.two_pow_pos 1074
  rw [e]
  generalize (2 : Nat) ^ 1074 = W at *
  omega
theorem InE.mul {b : Nat} {X : Int} (h : InE b X) : ∃ y, D.mul b 4661225614328463360 = some y ∧ V 1074 y (X * 4096) := by
  have hn := h.natAbs_lt
  obtain ⟨r, k1, k2⟩ := V_scale (j := 12) h.v (c := 4661225614328463360) (by decide) (Nat.lt_of_lt_of_le hn (Nat.pow_le_pow_right (by decide) (by decide))) (by decide)
  exact ⟨r, k1, k2⟩
end Go.Fw

namespace Go.Fw
open Go Ieee
set_option exponentiation.threshold 2200
theorem tdiv_nat (Y : Int) : (if Y < 0 then -1 else 1) * ((Y.natAbs / 2 ^ 1074 : Nat) : Int) = Y.tdiv U := by
  have hUn := U_nat
  rw [hUn]
  generalize (2 : Nat) ^ 1074 = W
  by_cases h : Y < 0
  · rw [if_pos h]
    obtain ⟨k, rfl⟩ : ∃ k : Nat, Y = -(k : Int) := ⟨Y.natAbs, by omega⟩
    rw [Int.neg_tdiv, Int.natAbs_neg, Int.natAbs_natCast, Int.neg_one_mul]; rfl
  · rw [if_neg h]
    obtain ⟨k, rfl⟩ : ∃ k : Nat, Y = (k : Int) := ⟨Y.natAbs, by omega⟩
    rw [Int.natAbs_natCast, Int.one_mul]; rfl
theorem U_pow : U = 2 ^ 1074 := by unfold U; rfl
structure Pk (b : Nat) (X : Int) (y : Nat) (t : Int) : Prop where
  mul : floatBits .mul .f64 b 4661225614328463360 = some y
  v : V 1074 y (X * 4096)
  tt : t = (X * 4096).tdiv U
  lo : -4194304 ≤ t
  hi : t ≤ 4194304
  c64 : floatToIntVal .f64 y .i64 = some t
  c32 : floatToIntVal .f64 y .i32 = some t
  num : ∃ s m P, D.read y = .number s m P
  tr : V 0 (D.write ((D.read y).integral .zero)) t
  ev : V 0 (D.write ((D.read y).integral .even)) (nrst (X * 4096))
  nr : -4194305 ≤ nrst (X * 4096) ∧ nrst (X * 4096) ≤ 4194305
  big : (X * 4096).natAbs < 2 ^ 2097
theorem InE.pk {b : Nat} {X : Int} (h : InE b X) : ∃ y t, Pk b X y t := by
  have hU := U_pos
  obtain ⟨y, k1, k2⟩ := h.mul
  have l1 := h.lo
  have l2 := h.hi
  have hna := h.natAbs_lt
  have hY1 : (-4194304) * U ≤ X * 4096 := by omega
  have hY2 : X * 4096 ≤ 4194304 * U := by omega
  have hbig : (X * 4096).natAbs < 2 ^ 2097 := by
    have e : (2 : Nat) ^ 1097 = 2 ^ 1085 * 4096 := by rw [show (1097 : Nat) = 1085 + 12 by rfl, Nat.pow_add]
    have e2 : (2 : Nat) ^ 1097 ≤ 2 ^ 2097 := Nat.pow_le_pow_right (by decide) (by decide)
    generalize (2 : Nat) ^ 1097 = A at *
    generalize (2 : Nat) ^ 2097 = B at *
    generalize (2 : Nat) ^ 1085 = C at *
    omega
  generalize hYd : X * 4096 = Y at *
  have d1 : U * Y.tdiv U + Y.tmod U = Y := Int.mul_tdiv_add_tmod Y U
  have d2 : Y.tmod U < U := Int.tmod_lt_of_pos Y hU
  have d3 : -U < Y.tmod U := by
    have h4 := Int.tmod_lt_of_pos (-Y) hU
    rw [Int.neg_tmod] at h4
    omega
  have hq : (Y.natAbs / 2 ^ 1074 : Nat) ≤ 4194304 := by
    have hUn := U_nat
    have hp := Nat.two_pow_pos 1074
    generalize (2 : Nat) ^ 1074 = W at *
    apply Nat.le_of_lt_succ
    rw [Nat.div_lt_iff_lt_mul hp]
    omega
  have ht : -4194304 ≤ Y.tdiv U ∧ Y.tdiv U ≤ 4194304 := by
    rw [← tdiv_nat]
    generalize Y.natAbs / 2 ^ 1074 = k at *
    split <;> omega
  have hev : evn Y.natAbs 1074 ≤ 4194305 := by
    unfold evn
    generalize Y.natAbs / 2 ^ 1074 = k at *
    split <;> omega
  have T := integral_V (f := fun n d => n / 2 ^ d) .zero (fun _ _ _ => zcut _ _ _) (fun n => by rw [Nat.pow_zero, Nat.div_one]) (fun m a b => by rw [Nat.pow_add, Nat.mul_div_mul_right _ _ (Nat.two_pow_pos a)]) k2 (Nat.lt_of_le_of_lt hq (by decide))
  have E := integral_V (f := evn) .even (fun _ _ _ => ecut _ _ _) evn_zero evn_shift k2 (Nat.lt_of_le_of_lt hev (by decide))
  rw [tdiv_nat] at T
  have c (k : IntKind) (m1 : k.min ≤ -4194304) (m2 : 4194304 ≤ k.max) : floatToIntVal .f64 y k = some (Y.tdiv U) := by
    have := V_conv k2 k (by rw [← U_pow]; omega) (by rw [← U_pow]; omega)
    rw [← U_pow] at this
    exact this
  have hnr : -4194305 ≤ nrst Y ∧ nrst Y ≤ 4194305 := by unfold nrst; split <;> omega
  refine ⟨y, Y.tdiv U, ?_⟩
  subst hYd
  exact ⟨k1, k2, rfl, ht.1, ht.2, c .i64 (by decide) (by decide), c .i32 (by decide) (by decide), T.2, T.1, E.1, hnr, hbig⟩
end Go.Fw

namespace Go.Fw
open Go Ieee
set_option exponentiation.threshold 2200
theorem add0 {w : Nat} {N : Int} (hw : V 12 w N) (b1 : -9007199254740992 < N) (b2 : N < 9007199254740992) : ∃ r, floatBits .add .f64 w 0 = some r ∧ V 12 r N ∧ r ≠ 9223372036854775808 := by
  obtain ⟨r, k1, k2⟩ := V_add hw (V_zero 12 (by omega)) (by omega) (by omega) (by omega)
  rw [Int.add_zero] at k2
  refine ⟨r, k1, k2, fun hr => ?_⟩
  subst hr
  have hz : V 12 9223372036854775808 0 := by
    unfold V
    exact ⟨true, 0, -1074, by decide, by rw [Int.zero_mul, signed_eq]; simp⟩
  have hN := V_inj k2 hz
  subst hN
  unfold V at hw
  obtain ⟨s, m, i, e1, e2⟩ := hw
  rw [Int.zero_mul] at e2
  have hm : m = 0 := by
    have := congrArg Int.natAbs e2
    rw [signed_abs] at this
    exact (Nat.mul_eq_zero.1 this).resolve_right (by have := Nat.two_pow_pos ((i + 1074).toNat); omega)
  subst hm
  unfold Format.add at k1
  rw [e1, show D.read 0 = .number false 0 (-1074) by decide] at k1
  have hs : ∀ (x : Bool) (a : Nat), signed x 0 a = 0 := fun x a => by rw [signed_eq]; cases x <;> simp
  simp only [Datum.sum, Option.map_some, hs, Int.add_zero, if_true, Bool.and_false, Int.natAbs_zero] at k1
  have hw0 : D.write (.number false 0 (min i (-1074))) = 0 := by
    show D.nearest false 0 _ = 0
    unfold Format.nearest
    rw [if_pos rfl]; decide
  rw [hw0] at k1
  cases k1
theorem odd_mod (n : Int) : (n.tmod 2 = 0) ↔ ¬ (n % 2 = 1) := by
  constructor
  · intro h
    have := Int.mul_tdiv_add_tmod n 2
    omega
  · intro h
    exact Int.tmod_eq_zero_of_dvd (by omega)
end Go.Fw

namespace Go.Fw
open Go Ieee
set_option exponentiation.threshold 2200
theorem sum_lt {a b r : Nat} (h : floatBits .add .f64 a b = some r) : r < 18446744073709551616 := Format.add_lt D h
end Go.Fw

namespace Go.Fw
open Go Ieee
set_option exponentiation.threshold 2200
end Go.Fw

namespace Go.Fw
open Go Ieee
set_option exponentiation.threshold 2200
end Go.Fw

namespace Go.Fw
open Go Ieee
set_option exponentiation.threshold 2200
/-- A number and its negative have one bit in common: the lowest. -/
theorem low_bit {n o k : Nat} (hn : n = o * 2 ^ k) (ho : o % 2 = 1) (hk : n < 2 ^ 64) : n &&& (2 ^ 64 - n) = 2 ^ k := by
  have hk64 : k < 64 := by
    refine Classical.byContradiction fun q => ?_
    have h1 : (2 : Nat) ^ 64 ≤ 2 ^ k := Nat.pow_le_pow_right (by decide) (by omega)
    have h2 : 1 * 2 ^ k ≤ o * 2 ^ k := Nat.mul_le_mul_right _ (by omega)
    omega
  obtain ⟨j, hj⟩ : ∃ j, 64 = (j + 1) + k := ⟨63 - k, by omega⟩
  have hoj : o < 2 ^ (j + 1) := by
    rw [hn, hj, Nat.pow_add] at hk
    exact Nat.lt_of_mul_lt_mul_right hk
  have e1 : 2 ^ 64 - n = (2 ^ (j + 1) - o) * 2 ^ k := by rw [hn, hj, Nat.pow_add, Nat.sub_mul]
  rw [e1, hn, ← Nat.shiftLeft_eq, ← Nat.shiftLeft_eq, ← Nat.shiftLeft_and_distrib]
  have e2 : o &&& (2 ^ (j + 1) - o) = 1 := by
    obtain ⟨a, rfl⟩ : ∃ a, o = 2 * a + 1 := ⟨o / 2, by omega⟩
    have ha : a < 2 ^ j := by rw [Nat.pow_succ] at hoj; omega
    have e3 : 2 ^ (j + 1) - (2 * a + 1) = 2 * (2 ^ j - (a + 1)) + 1 := by rw [Nat.pow_succ]; omega
    rw [e3]
    apply Nat.eq_of_testBit_eq
    intro i
    rw [Nat.testBit_and]
    cases i with
    | zero => simp
    | succ i =>
      rw [Nat.testBit_succ, Nat.testBit_succ, Nat.testBit_succ, show (2 * a + 1) / 2 = a by omega, show (2 * (2 ^ j - (a + 1)) + 1) / 2 = 2 ^ j - (a + 1) by omega, Nat.testBit_two_pow_sub_succ ha]
      cases a.testBit i <;> simp
  rw [e2, Nat.shiftLeft_eq, Nat.one_mul]
theorem bits_of {b : Nat} {s : Bool} {m : Nat} {P : Int} (hb : b < 18446744073709551616) (h : D.read b = .number s m P) :
    s = decide (9223372036854775808 ≤ b) ∧ b / 4503599627370496 % 2048 < 2047 ∧ ((b / 4503599627370496 % 2048 = 0 ∧ m = b % 4503599627370496 ∧ P = -1074) ∨ (0 < b / 4503599627370496 % 2048 ∧ m = 4503599627370496 + b % 4503599627370496 ∧ P = -1075 + (b / 4503599627370496 % 2048 : Nat))) := by
  unfold Format.read at h
  rw [d_sw, d_bin, d_inf, d_least] at h
  dsimp only at h
  have hs : ∀ x : Bool, (b / 9223372036854775808 % 2 == 1) = x → x = decide (9223372036854775808 ≤ b) := by
    intro x hx
    rw [← hx]
    by_cases q : 9223372036854775808 ≤ b
    · rw [decide_eq_true q, show b / 9223372036854775808 % 2 = 1 by omega]; rfl
    · rw [decide_eq_false q, show b / 9223372036854775808 % 2 = 0 by omega]; rfl
  split at h
  · injection h with h1 h2 h3
    exact ⟨hs _ h1, by omega, .inl ⟨by omega, by omega, h3.symm⟩⟩
  · split at h
    · injection h with h1 h2 h3
      exact ⟨hs _ h1, by omega, .inr ⟨by omega, by omega, by omega⟩⟩
    · split at h <;> cases h
/-- A number, odd but for a power of two. -/
theorem odd_part (n : Nat) (hn : 0 < n) : ∃ o k, n = o * 2 ^ k ∧ o % 2 = 1 := by
  induction n using Nat.strongRecOn with
  | ind n ih =>
    by_cases h : n % 2 = 1
    · exact ⟨n, 0, by rw [Nat.pow_zero, Nat.mul_one], h⟩
    · obtain ⟨o, k, h1, h2⟩ := ih (n / 2) (by omega) (by omega)
      exact ⟨o, k + 1, by rw [Nat.pow_succ, ← Nat.mul_assoc, ← h1]; omega, h2⟩
theorem odd_uniq {o k p l : Nat} (h : o * 2 ^ k = p * 2 ^ l) (ho : o % 2 = 1) (hp : p % 2 = 1) : o = p ∧ k = l := by
  rcases Nat.lt_trichotomy k l with q | q | q
  · exfalso
    obtain ⟨d, rfl⟩ : ∃ d, l = k + (d + 1) := ⟨l - k - 1, by omega⟩
    rw [Nat.pow_add, Nat.mul_comm (2 ^ k), ← Nat.mul_assoc] at h
    have := Nat.eq_of_mul_eq_mul_right (Nat.two_pow_pos k) h
    rw [Nat.pow_succ, ← Nat.mul_assoc] at this
    omega
  · subst q
    exact ⟨Nat.eq_of_mul_eq_mul_right (Nat.two_pow_pos k) h, rfl⟩
  · exfalso
    obtain ⟨d, rfl⟩ : ∃ d, k = l + (d + 1) := ⟨k - l - 1, by omega⟩
    rw [Nat.pow_add, Nat.mul_comm (2 ^ l), ← Nat.mul_assoc] at h
    have := Nat.eq_of_mul_eq_mul_right (Nat.two_pow_pos l) h
    rw [Nat.pow_succ, ← Nat.mul_assoc] at this
    omega
end Go.Fw

namespace Go.Fw
open Go Ieee
/-- No number. -/
def Nn (r : Nat) : Prop := ∃ s f, FloatKind.f64.format.read r = .nan s f
theorem Nn.left {op : BinOp} {a b : Nat} (h : Nn a) (ho : op = .add ∨ op = .sub ∨ op = .mul ∨ op = .quo) : floatBits op .f64 a b = none := by
  obtain ⟨s, f, h⟩ := h
  rcases ho with rfl | rfl | rfl | rfl
  · show Format.add _ a b = none
    unfold Format.add; rw [h]; cases FloatKind.f64.format.read b <;> rfl
  · show Format.sub _ a b = none
    unfold Format.sub; rw [h]; cases FloatKind.f64.format.read b <;> rfl
  · show Format.mul _ a b = none
    unfold Format.mul; rw [h]; cases FloatKind.f64.format.read b <;> rfl
  · show Format.div _ a b = none
    unfold Format.div; rw [h]; cases FloatKind.f64.format.read b <;> rfl
theorem Nn.right {op : BinOp} {a b : Nat} (h : Nn b) (ho : op = .add ∨ op = .sub ∨ op = .mul ∨ op = .quo) : floatBits op .f64 a b = none := by
  obtain ⟨s, f, h⟩ := h
  rcases ho with rfl | rfl | rfl | rfl
  · show Format.add _ a b = none
    unfold Format.add; rw [h]; cases FloatKind.f64.format.read a <;> rfl
  · show Format.sub _ a b = none
    unfold Format.sub; rw [h]; cases FloatKind.f64.format.read a <;> rfl
  · show Format.mul _ a b = none
    unfold Format.mul; rw [h]; cases FloatKind.f64.format.read a <;> rfl
  · show Format.div _ a b = none
    unfold Format.div; rw [h]; cases FloatKind.f64.format.read a <;> rfl
theorem Nn.ne {r c : Nat} (h : Nn r) : (FloatKind.f64.format.order r c == some .eq) = false := by
  obtain ⟨s, f, h⟩ := h
  unfold Format.order
  rw [h]
  cases FloatKind.f64.format.read c <;> rfl
end Go.Fw

namespace Go.Fw
open Go Ieee
set_option exponentiation.threshold 2200
/-- A float that is an odd number (or any) times a power of two. -/
def NM (s : Bool) (o : Nat) (e : Int) (b : Nat) : Prop := ∃ (d : Nat) (P : Int), D.read b = .number s (o * 2 ^ d) P ∧ P + d = e
theorem log52 {o : Nat} (h0 : 0 < o) (h : o < 9007199254740992) : o.log2 ≤ 52 := by
  have h53 : (2 : Nat) ^ 53 = 9007199254740992 := by decide
  have : o.log2 < 53 := (Nat.log2_lt (by omega)).2 (by omega)
  omega
theorem NM_write (s : Bool) {o d : Nat} {base e : Int} (h0 : 0 < o) (h : o < 9007199254740992) (he : -1074 ≤ e) (hL : e + o.log2 ≤ 1023) (hd : base + d = e) : NM s o e (D.write (.number s (o * 2 ^ d) base)) := by
  have hl := log52 h0 h
  have hls : lst o e ≤ e := by unfold lst; omega
  have hw : D.write (.number s (o * 2 ^ d) base) = D.write (.number s o e) := by
    show D.nearest s (o * 2 ^ d) base = D.nearest s o e
    rw [nearest_shift s o d base h0 (by rw [hd]; exact hls), hd]
  rw [hw]
  exact ⟨(e - lst o e).toNat, lst o e, write_read s o e h0 h he hL, by omega⟩
theorem NM_mul {s : Bool} {o : Nat} {e f : Int} {a c : Nat} (ha : NM s o e a) (hc : NM false 1 f c) (h0 : 0 < o) (h : o < 9007199254740992) (he : -1074 ≤ e + f) (hL : e + f + o.log2 ≤ 1023) : ∃ r, floatBits .mul .f64 a c = some r ∧ NM s o (e + f) r := by
  obtain ⟨d, P, h1, h2⟩ := ha
  obtain ⟨d', P', g1, g2⟩ := hc
  show ∃ r, D.mul a c = some r ∧ _
  unfold Format.mul
  rw [h1, g1]
  simp only [Datum.product, Option.map_some]
  refine ⟨_, rfl, ?_⟩
  rw [show (s ^^ false) = s by cases s <;> rfl, Nat.one_mul, Nat.mul_assoc, ← Nat.pow_add]
  exact NM_write s h0 h he hL (by push_cast; omega)
theorem NM_int {o : Nat} (h0 : 0 < o) (h : o < 9007199254740992) : NM false o 0 (floatOfInt .f64 (o : Int)) := by
  show NM false o 0 (D.write (.number (decide ((o : Int) < 0)) (o : Int).natAbs 0))
  rw [decide_eq_false (by omega), Int.natAbs_natCast]
  have := NM_write false (o := o) (d := 0) (base := 0) (e := 0) h0 h (by omega) (by have := log52 h0 h; omega) (by omega)
  rw [Nat.pow_zero, Nat.mul_one] at this
  exact this
theorem NM_neg {s : Bool} {o : Nat} {e : Int} {b : Nat} (h : NM s o e b) : NM (!s) o e (Op.negFloat .f64 b) := by
  obtain ⟨d, P, h1, h2⟩ := h
  refine ⟨d, P, ?_, h2⟩
  rw [read_neg, h1]; rfl
theorem NM_V {s : Bool} {o : Nat} {e : Int} {b : Nat} (h : NM s o e b) : V 1074 b (signed s o (e + 1074).toNat) := by
  obtain ⟨d, P, h1, h2⟩ := h
  have hb := read_bound h1
  have hv := V_fin h1
  rw [show signed s o (e + 1074).toNat = signed s (o * 2 ^ d) (P + 1074).toNat from ?_]
  · exact hv
  · rw [signed_eq, signed_eq, show (e + 1074).toNat = d + (P + 1074).toNat by omega, Int.pow_add]
    push_cast
    rw [Int.mul_assoc]
theorem NM_eq {s : Bool} {o : Nat} {e : Int} {a b : Nat} (ha : NM s o e a) (hb : NM s o e b) : (FloatKind.f64.format.order a b == some .eq) = true :=
  (V_eqb (NM_V ha) (NM_V hb)).trans (decide_eq_true rfl)
theorem NM_low {r : Nat} (o d : Nat) (hr : r = o * 2 ^ d) (h : r < 4503599627370496) : NM false o (-1074 + d) r := by
  refine ⟨d, -1074, ?_, by omega⟩
  have := read_word false r (by omega)
  rw [if_pos h] at this
  rw [← hr, ← this]
  rfl
theorem NM_high {x y : Nat} (o d : Nat) (hy : y < 4503599627370496) (hx0 : 0 < x) (hx : x < 2047) (hr : 4503599627370496 + y = o * 2 ^ d) : NM false o (-1075 + x + d) (x * 4503599627370496 + y) := by
  refine ⟨d, -1075 + x, ?_, by omega⟩
  have := read_word false (x * 4503599627370496 + y) (by omega)
  rw [if_neg (by omega), show (x * 4503599627370496 + y) % 4503599627370496 = y by omega, show (x * 4503599627370496 + y) / 4503599627370496 = x by omega, hr] at this
  refine Eq.trans ?_ (this.trans ?_)
  · rfl
  · congr 1; omega
theorem NM_sign {o : Nat} {e : Int} {b : Nat} (h : NM false o e b) (hb : b < 9218868437227405312) : NM true o e (b + 9223372036854775808) := by
  obtain ⟨d, P, h1, h2⟩ := h
  refine ⟨d, P, ?_, h2⟩
  have a1 := read_word false b hb
  have a2 := read_word true b hb
  have a3 : D.word false b = b := rfl
  have a4 : D.word true b = b + 9223372036854775808 := by unfold Format.word; rw [d_sw]; simp; omega
  rw [a3, h1] at a1
  rw [a4] at a2
  rw [a2]
  by_cases q : b < 4503599627370496
  · rw [if_pos q] at a1 ⊢
    obtain ⟨_, g2, g3⟩ := Datum.number.inj a1
    exact congr (congrArg (Datum.number true) g2.symm) g3.symm
  · rw [if_neg q] at a1 ⊢
    obtain ⟨_, g2, g3⟩ := Datum.number.inj a1
    exact congr (congrArg (Datum.number true) g2.symm) g3.symm
theorem NM_pow {p : Int} (h1 : -1022 ≤ p) (h2 : p ≤ 1023) : NM false 1 p ((p + 1023).toNat * 4503599627370496) := by
  have := NM_high (x := (p + 1023).toNat) (y := 0) 1 52 (by omega) (by omega) (by omega) (by decide)
  rw [Nat.add_zero, show -1075 + (((p + 1023).toNat : Nat) : Int) + ((52 : Nat) : Int) = p by omega] at this
  exact this
theorem NM_tiny {p : Int} (h1 : -1074 ≤ p) (h2 : p < -1022) : NM false 1 p (2 ^ (p + 1074).toNat) := by
  have h : 2 ^ (p + 1074).toNat < 4503599627370496 := by
    have : 2 ^ (p + 1074).toNat ≤ 2 ^ 51 := Nat.pow_le_pow_right (by decide) (by omega)
    exact Nat.lt_of_le_of_lt this (by decide)
  have := NM_low (r := 2 ^ (p + 1074).toNat) 1 (p + 1074).toNat (by rw [Nat.one_mul]) h
  rw [show -1074 + (((p + 1074).toNat : Nat) : Int) = p by omega] at this
  exact this
/-- How many digits. -/
def sz (n : Nat) : Nat := if n = 0 then 0 else n.log2 + 1
theorem sz_half {n : Nat} (h : 0 < n) : sz n = sz (n / 2) + 1 := by
  unfold sz
  rw [if_neg (by omega)]
  by_cases q : n / 2 = 0
  · rw [if_pos q, show n = 1 by omega]; rfl
  · rw [if_neg q, Nat.log2_def n, if_pos (by omega)]
theorem sz_lt {n k : Nat} : sz n ≤ k ↔ n < 2 ^ k := by
  unfold sz
  by_cases q : n = 0
  · rw [if_pos q, q]; exact ⟨fun _ => Nat.two_pow_pos k, fun _ => Nat.zero_le _⟩
  · rw [if_neg q]
    have := Nat.log2_lt q (k := k)
    omega
theorem sz_log {n : Nat} (h : 0 < n) : sz n = n.log2 + 1 := by unfold sz; rw [if_neg (by omega)]
theorem sz_pos {n : Nat} (h : 0 < n) : 0 < sz n := by rw [sz_log h]; omega
theorem sz_ge {n : Nat} (h : 0 < n) : 2 ^ (sz n - 1) ≤ n := by rw [sz_log h]; exact Nat.log2_self_le (by omega)
theorem sz_up (n : Nat) : n < 2 ^ sz n := sz_lt.1 (Nat.le_refl _)
theorem sz_shift {n d : Nat} (h : n / 2 ^ d ≠ 0) : sz n = sz (n / 2 ^ d) + d := by
  induction d with
  | zero => rw [Nat.pow_zero, Nat.div_one, Nat.add_zero]
  | succ d ih =>
    rw [Nat.pow_succ, ← Nat.div_div_eq_div_mul] at h ⊢
    generalize n / 2 ^ d = z at *
    have h2 : z ≠ 0 := fun q => h (by rw [q])
    rw [ih h2, sz_half (by omega : 0 < z)]
    omega
end Go.Fw

namespace Go.Fw
open Go Ieee
set_option exponentiation.threshold 2200
/-- The float's bits, put together. -/
def asm (o : Nat) (p : Int) : Nat := if p + (sz o : Nat) + 1022 < 1 then o * 2 ^ (p + 1074).toNat else (p + (sz o : Nat) + 1022).toNat * 4503599627370496 + (o * 2 ^ (53 - sz o) - 4503599627370496)
theorem asm_low {o : Nat} {p : Int} (h0 : 0 < o) (h1 : -1074 ≤ p) (hc : p + (sz o : Nat) + 1022 < 1) : o * 2 ^ (p + 1074).toNat < 4503599627370496 := by
  have h2 : o < 2 ^ sz o := sz_up o
  have h3 : o * 2 ^ (p + 1074).toNat < 2 ^ sz o * 2 ^ (p + 1074).toNat := Nat.mul_lt_mul_of_pos_right h2 (Nat.two_pow_pos _)
  rw [← Nat.pow_add] at h3
  have h4 : 2 ^ (sz o + (p + 1074).toNat) ≤ 2 ^ 52 := Nat.pow_le_pow_right (by decide) (by omega)
  exact Nat.lt_of_lt_of_le h3 h4
theorem asm_high {o : Nat} (h0 : 0 < o) (h53 : sz o ≤ 53) : 4503599627370496 ≤ o * 2 ^ (53 - sz o) ∧ o * 2 ^ (53 - sz o) < 9007199254740992 := by
  have h2 : o < 2 ^ sz o := sz_up o
  have h1 := sz_ge h0
  have hp := sz_pos h0
  have h3 : o * 2 ^ (53 - sz o) < 2 ^ sz o * 2 ^ (53 - sz o) := Nat.mul_lt_mul_of_pos_right h2 (Nat.two_pow_pos _)
  rw [← Nat.pow_add, show sz o + (53 - sz o) = 53 by omega] at h3
  have h4 : 2 ^ (sz o - 1) * 2 ^ (53 - sz o) ≤ o * 2 ^ (53 - sz o) := Nat.mul_le_mul_right _ h1
  rw [← Nat.pow_add, show sz o - 1 + (53 - sz o) = 52 by omega] at h4
  exact ⟨h4, h3⟩
theorem NM_asm {o : Nat} {p : Int} (h0 : 0 < o) (h53 : sz o ≤ 53) (h1 : -1074 ≤ p) (h2 : p + (sz o : Nat) ≤ 1024) : NM false o p (asm o p) ∧ asm o p < 9218868437227405312 := by
  unfold asm
  by_cases hc : p + (sz o : Nat) + 1022 < 1
  · rw [if_pos hc]
    have hl := asm_low h0 h1 hc
    have := NM_low o (p + 1074).toNat rfl hl
    rw [show -1074 + (((p + 1074).toNat : Nat) : Int) = p by omega] at this
    exact ⟨this, by omega⟩
  · rw [if_neg hc]
    obtain ⟨a1, a2⟩ := asm_high h0 h53
    have := NM_high (x := (p + (sz o : Nat) + 1022).toNat) (y := o * 2 ^ (53 - sz o) - 4503599627370496) o (53 - sz o) (by omega) (by omega) (by omega) (by omega)
    rw [show -1075 + (((p + (sz o : Nat) + 1022).toNat : Nat) : Int) + ((53 - sz o : Nat) : Int) = p by omega] at this
    exact ⟨this, by omega⟩
end Go.Fw

set_option linter.unusedVariables false
set_option linter.unusedSimpArgs false
namespace Go.Proofs.YtanogghfdamdcaaDoor
open Go Go.Fw
def tyL : List (Nat × TyI) := [
  (1, ⟨.func, 1, 8, .nilFunc⟩),
  (2, ⟨.int .i64, 1, 8, .int .i64 0⟩),
  (3, ⟨.int .i64, 1, 8, .int .i64 0⟩),
  (4, ⟨.bool, 1, 1, .bool false⟩),
  (5, ⟨.int .u8, 1, 1, .int .u8 0⟩),
  (9, ⟨.str, 1, 16, .string (ByteArray.mk #[])⟩),
  (12, ⟨.int .u64, 1, 8, .int .u64 0⟩),
  (21, ⟨.int .i32, 1, 4, .int .i32 0⟩),
  (22, ⟨.slice 28, 1, 24, .slice none 0 0⟩),
  (23, ⟨.struct [(0, 3), (1, 3)], 2, 16, .agg #[.int .i64 0, .int .i64 0]⟩),
  (24, ⟨.struct [(0, 3), (1, 3)], 2, 16, .agg #[.int .i64 0, .int .i64 0]⟩),
  (25, ⟨.slice 26, 1, 24, .slice none 0 0⟩),
  (26, ⟨.float .f64, 1, 8, .float .f64 0⟩),
  (27, ⟨.func, 1, 8, .nilFunc⟩),
  (28, ⟨.int .u64, 1, 8, .int .u64 0⟩),
  (29, ⟨.int .i64, 1, 8, .int .i64 0⟩),
  (31, ⟨.func, 1, 8, .nilFunc⟩),
  (32, ⟨.struct [(0, 3), (1, 3)], 2, 16, .agg #[.int .i64 0, .int .i64 0]⟩),
  (34, ⟨.func, 1, 8, .nilFunc⟩),
  (35, ⟨.func, 1, 8, .nilFunc⟩),
  (36, ⟨.func, 1, 8, .nilFunc⟩),
  (37, ⟨.func, 1, 8, .nilFunc⟩),
  (38, ⟨.func, 1, 8, .nilFunc⟩),
  (39, ⟨.func, 1, 8, .nilFunc⟩),
  (40, ⟨.func, 1, 8, .nilFunc⟩),
  (41, ⟨.func, 1, 8, .nilFunc⟩),
  (42, ⟨.func, 1, 8, .nilFunc⟩),
  (43, ⟨.func, 1, 8, .nilFunc⟩),
  (44, ⟨.func, 1, 8, .nilFunc⟩),
  (46, ⟨.func, 1, 8, .nilFunc⟩),
  (48, ⟨.func, 1, 8, .nilFunc⟩),
  (49, ⟨.func, 1, 8, .nilFunc⟩),
  (50, ⟨.func, 1, 8, .nilFunc⟩),
  (51, ⟨.func, 1, 8, .nilFunc⟩),
  (52, ⟨.func, 1, 8, .nilFunc⟩),
  (54, ⟨.func, 1, 8, .nilFunc⟩),
  (56, ⟨.func, 1, 8, .nilFunc⟩),
  (57, ⟨.func, 1, 8, .nilFunc⟩),
  (58, ⟨.func, 1, 8, .nilFunc⟩),
  (59, ⟨.slice 2, 1, 24, .slice none 0 0⟩),
  (60, ⟨.func, 1, 8, .nilFunc⟩),
  (61, ⟨.func, 1, 8, .nilFunc⟩),
  (62, ⟨.func, 1, 8, .nilFunc⟩),
  (63, ⟨.func, 1, 8, .nilFunc⟩),
  (64, ⟨.func, 1, 8, .nilFunc⟩),
  (65, ⟨.func, 1, 8, .nilFunc⟩),
  (66, ⟨.func, 1, 8, .nilFunc⟩),
  (67, ⟨.func, 1, 8, .nilFunc⟩),
  (68, ⟨.func, 1, 8, .nilFunc⟩),
  (69, ⟨.int .u64, 1, 8, .int .u64 0⟩),
  (70, ⟨.func, 1, 8, .nilFunc⟩),
  (71, ⟨.func, 1, 8, .nilFunc⟩),
  (72, ⟨.func, 1, 8, .nilFunc⟩),
  (73, ⟨.func, 1, 8, .nilFunc⟩),
  (74, ⟨.func, 1, 8, .nilFunc⟩),
  (75, ⟨.func, 1, 8, .nilFunc⟩),
  (76, ⟨.int .u32, 1, 4, .int .u32 0⟩),
  (77, ⟨.array 64 5, 64, 64, .agg ⟨List.replicate 64 (.int .u8 0)⟩⟩),
  (78, ⟨.func, 1, 8, .nilFunc⟩),
  (79, ⟨.func, 1, 8, .nilFunc⟩),
  (85, ⟨.func, 1, 8, .nilFunc⟩),
  (88, ⟨.func, 1, 8, .nilFunc⟩),
  (89, ⟨.ptr 5, 1, 8, .pointer none⟩)]
theorem tokL : TOk Tryd.prog tyL := tokl_of ⟨⟨by kernel_rfl, by kernel_rfl⟩, ⟨by kernel_rfl, by kernel_rfl⟩, ⟨by kernel_rfl, by kernel_rfl⟩, ⟨by kernel_rfl, by kernel_rfl⟩, ⟨by kernel_rfl, by kernel_rfl⟩, ⟨by kernel_rfl, by kernel_rfl⟩, ⟨by kernel_rfl, by kernel_rfl⟩, ⟨by kernel_rfl, by kernel_rfl⟩, ⟨by kernel_rfl, by kernel_rfl⟩, ⟨by kernel_rfl, by kernel_rfl⟩, ⟨by kernel_rfl, by kernel_rfl⟩, ⟨by kernel_rfl, by kernel_rfl⟩, ⟨by kernel_rfl, by kernel_rfl⟩, ⟨by kernel_rfl, by kernel_rfl⟩, ⟨by kernel_rfl, by kernel_rfl⟩, ⟨by kernel_rfl, by kernel_rfl⟩, ⟨by kernel_rfl, by kernel_rfl⟩, ⟨by kernel_rfl, by kernel_rfl⟩, ⟨by kernel_rfl, by kernel_rfl⟩, ⟨by kernel_rfl, by kernel_rfl⟩, ⟨by kernel_rfl, by kernel_rfl⟩, ⟨by kernel_rfl, by kernel_rfl⟩, ⟨by kernel_rfl, by kernel_rfl⟩, ⟨by kernel_rfl, by kernel_rfl⟩, ⟨by kernel_rfl, by kernel_rfl⟩, ⟨by kernel_rfl, by kernel_rfl⟩, ⟨by kernel_rfl, by kernel_rfl⟩, ⟨by kernel_rfl, by kernel_rfl⟩, ⟨by kernel_rfl, by kernel_rfl⟩, ⟨by kernel_rfl, by kernel_rfl⟩, ⟨by kernel_rfl, by kernel_rfl⟩, ⟨by kernel_rfl, by kernel_rfl⟩, ⟨by kernel_rfl, by kernel_rfl⟩, ⟨by kernel_rfl, by kernel_rfl⟩, ⟨by kernel_rfl, by kernel_rfl⟩, ⟨by kernel_rfl, by kernel_rfl⟩, ⟨by kernel_rfl, by kernel_rfl⟩, ⟨by kernel_rfl, by kernel_rfl⟩, ⟨by kernel_rfl, by kernel_rfl⟩, ⟨by kernel_rfl, by kernel_rfl⟩, ⟨by kernel_rfl, by kernel_rfl⟩, ⟨by kernel_rfl, by kernel_rfl⟩, ⟨by kernel_rfl, by kernel_rfl⟩, ⟨by kernel_rfl, by kernel_rfl⟩, ⟨by kernel_rfl, by kernel_rfl⟩, ⟨by kernel_rfl, by kernel_rfl⟩, ⟨by kernel_rfl, by kernel_rfl⟩, ⟨by kernel_rfl, by kernel_rfl⟩, ⟨by kernel_rfl, by kernel_rfl⟩, ⟨by kernel_rfl, by kernel_rfl⟩, ⟨by kernel_rfl, by kernel_rfl⟩, ⟨by kernel_rfl, by kernel_rfl⟩, ⟨by kernel_rfl, by kernel_rfl⟩, ⟨by kernel_rfl, by kernel_rfl⟩, ⟨by kernel_rfl, by kernel_rfl⟩, ⟨by kernel_rfl, by kernel_rfl⟩, ⟨by kernel_rfl, by kernel_rfl⟩, ⟨by kernel_rfl, by kernel_rfl⟩, ⟨by kernel_rfl, by kernel_rfl⟩, ⟨by kernel_rfl, by kernel_rfl⟩, ⟨by kernel_rfl, by kernel_rfl⟩, ⟨by kernel_rfl, by kernel_rfl⟩, ⟨by kernel_rfl, by kernel_rfl⟩, True.intro⟩
theorem mixedL : Tryd.prog.follows .mixedOrders = true := by kernel_rfl
theorem i64max : IntKind.i64.max = 9223372036854775807 := rfl
theorem u8max : IntKind.u8.max = 255 := rfl
theorem u16max : IntKind.u16.max = 65535 := rfl
theorem u32max : IntKind.u32.max = 4294967295 := rfl
theorem u64max : IntKind.u64.max = 18446744073709551615 := rfl
def numOut (D : List Seg) (x : AV) : FOut := ⟨Unit, fun _ => True, fun _ => x, fun _ => D⟩
theorem andNot63 (b : Nat) (h : b < 18446744073709551616) : rawBits .andNot .u64 b 9223372036854775808 = ((b % 9223372036854775808 : Nat) : Int) := by
  show IntKind.u64.wrap ((BitVec.ofInt 64 b &&& ~~~ BitVec.ofInt 64 9223372036854775808).toNat : Int) = _
  have e : (BitVec.ofInt 64 b &&& ~~~ BitVec.ofInt 64 9223372036854775808).toNat = b % 9223372036854775808 := by
    rw [BitVec.toNat_and, BitVec.toNat_ofInt, show (~~~ BitVec.ofInt 64 9223372036854775808).toNat = 2 ^ 63 - 1 by decide, Nat.and_two_pow_sub_one_eq_mod]
    show ((b : Int) % 18446744073709551616).toNat % 9223372036854775808 = _
    omega
  rw [e]
  unfold IntKind.wrap
  simp [IntKind.bits, IntKind.signed]
  omega
def qf : Nat → Bool := fun f => match f with | 2000012 => true | 2000038 => true | 2000053 => true | 2000056 => true | 9 => true | 29 => true | 31 => true | 32 => true | 33 => true | 34 => true | 45 => true | 46 => true | 52 => true | 54 => true | 57 => true | 47 => true | 50 => true | 24 => true | _ => false
def cfgk (k : Nat) : Cfg := { T := tyL, sgn := fun _ => true, wr := fun _ => false, k := k, q := qf }
attribute [local irreducible] rawBits
theorem fb_x (n : Int) : Go.Fw.XRun Tryd.prog 38 [.int .u64 n] (.flt .f64 n.toNat) := by
  refine ⟨.float .f64 n.toNat, fun ρ => by simp only [Den], fun ρ vs h w => ?_⟩
  simp only [Dens, Den] at h
  obtain ⟨v, r, rfl, rfl, rfl⟩ := h
  kernel_rfl
theorem bf_x (n : Nat) : Go.Fw.XRun Tryd.prog 12 [.flt .f64 n] (.int .u64 n) := by
  refine ⟨.int .u64 n, fun ρ => by simp only [Den], fun ρ vs h w => ?_⟩
  simp only [Dens, Den] at h
  obtain ⟨v, r, rfl, rfl, rfl⟩ := h
  kernel_rfl
section
attribute [local irreducible] Ieee.Format.read
theorem int_num (nm : String) (way : Ieee.Toward) (n : Nat) {s : Bool} {m : Nat} {P : Int} (hr : D.read n = .number s m P) : Go.Extern.MathFloor.toIntegral nm way #[.float .f64 n] = pure (.float .f64 (D.write ((D.read n).integral way))) := by
  have e : FloatKind.f64.decode n = .number s m P := hr
  conv =>
    lhs
    whnf
  rw [e, hr]
  rfl
end
theorem even_x (n : Nat) {s : Bool} {m : Nat} {P : Int} (hr : D.read n = .number s m P) : Go.Fw.XRun Tryd.prog 53 [.flt .f64 n] (.flt .f64 (D.write ((D.read n).integral .even))) := by
  refine ⟨.float .f64 (D.write ((D.read n).integral .even)), fun ρ => by simp only [Den], fun ρ vs h w => ?_⟩
  simp only [Dens, Den] at h
  obtain ⟨v, r, rfl, rfl, rfl⟩ := h
  have h1 : (callFunc 53 #[Value.float .f64 n]).run Tryd.prog w = (Go.Extern.MathFloor.toIntegral "math.RoundToEven" .even #[.float .f64 n] >>= fun v => pure (Next.value v)).run Tryd.prog w := by kernel_rfl
  refine h1.trans ?_
  rw [int_num _ _ n hr]
  rfl
noncomputable def k22 : Code := (Tryd.f52.body).getD .skip
set_option maxHeartbeats 0 in
set_option maxRecDepth 100000 in
theorem Abs_q (b : Nat) (hb : b < 18446744073709551616) : QFits Tryd.prog 52 ⟨[.flt .f64 b], [], .flt .f64 (b % 9223372036854775808)⟩ := by
  have FB := fb_x ((b % 9223372036854775808 : Nat) : Int)
  rw [Int.toNat_natCast] at FB
  have BF := bf_x b
  have hn := andNot63 b hb
  generalize b % 9223372036854775808 = a at *
  refine qfits_of_body (C := cfgk 0) (c := k22) (ts := [2]) tokL mixedL (fun _ => none) (fun _ => none)
    Tryd.func52 (by kernel_rfl) (by kernel_rfl) (by kernel_rfl) (by kernel_rfl) (by kernel_rfl) rfl rfl ?_
  conv => whnf
  repeat (first
    | (refine And.intro ?_ ?_; (focus (first | omega | decide | exact EqOk.mk (by kernel_rfl) (by kernel_rfl) (by kernel_rfl) | exact Int.natCast_nonneg _ | ((repeat' refine And.intro ?_ ?_) <;> first | omega | exact Int.natCast_nonneg _ | (simp only [i64max, u8max, u16max, u32max, u64max]; omega) | (simp only [mulSz_eq, Cont.len, colsLen, Col.len, List.length_cons, List.length_nil, List.length_replicate, List.length_append]; first | done | omega) | (simp [mulSz, Cont.len, bne]; first | done | omega)))); conv => whnf)
    | (refine tst_in ?_ ?_; (focus (intro h_; exfalso; first | omega | ((try simp only [decide_eq_true_eq, decide_eq_false_iff_not] at h_); omega) | (simp [mulSz, Cont.len, bne] at h_; first | done | omega))); intro _; conv => whnf)
    | (refine tst_in ?_ ?_; rotate_left; (focus (intro h_; exfalso; first | omega | ((try simp only [decide_eq_true_eq, decide_eq_false_iff_not] at h_); omega) | (simp [mulSz, Cont.len, bne] at h_; first | done | omega))); intro _; conv => whnf)
    | (refine ⟨0, (show _ = _ by omega), ?_⟩; conv => whnf))
  refine ⟨_, _, BF, rfl, ?_⟩
  conv => whnf
  conv => whnf
  repeat (first
    | (refine And.intro ?_ ?_; (focus (first | omega | decide | exact EqOk.mk (by kernel_rfl) (by kernel_rfl) (by kernel_rfl) | exact Int.natCast_nonneg _ | ((repeat' refine And.intro ?_ ?_) <;> first | omega | exact Int.natCast_nonneg _ | (simp only [i64max, u8max, u16max, u32max, u64max]; omega) | (simp only [mulSz_eq, Cont.len, colsLen, Col.len, List.length_cons, List.length_nil, List.length_replicate, List.length_append]; first | done | omega) | (simp [mulSz, Cont.len, bne]; first | done | omega)))); conv => whnf)
    | (refine tst_in ?_ ?_; (focus (intro h_; exfalso; first | omega | ((try simp only [decide_eq_true_eq, decide_eq_false_iff_not] at h_); omega) | (simp [mulSz, Cont.len, bne] at h_; first | done | omega))); intro _; conv => whnf)
    | (refine tst_in ?_ ?_; rotate_left; (focus (intro h_; exfalso; first | omega | ((try simp only [decide_eq_true_eq, decide_eq_false_iff_not] at h_); omega) | (simp [mulSz, Cont.len, bne] at h_; first | done | omega))); intro _; conv => whnf)
    | (refine ⟨0, (show _ = _ by omega), ?_⟩; conv => whnf))
  rw [hn]
  refine ⟨_, _, FB, rfl, ?_⟩
  conv => whnf
noncomputable def k6 : Code := (Tryd.f9.body).getD .skip
set_option maxHeartbeats 0 in
set_option maxRecDepth 100000 in
theorem float_q (n : Int) : QFits Tryd.prog 9 ⟨[.int .u64 n], [], .flt .f64 n.toNat⟩ := by
  have FB := fb_x n
  refine qfits_of_body (C := cfgk 0) (c := k6) (ts := [2]) tokL mixedL (fun _ => none) (fun _ => none)
    Tryd.func9 (by kernel_rfl) (by kernel_rfl) (by kernel_rfl) (by kernel_rfl) (by kernel_rfl) rfl rfl ?_
  conv => whnf
  repeat (first
    | (refine And.intro ?_ ?_; (focus (first | omega | decide | exact EqOk.mk (by kernel_rfl) (by kernel_rfl) (by kernel_rfl) | exact Int.natCast_nonneg _ | ((repeat' refine And.intro ?_ ?_) <;> first | omega | exact Int.natCast_nonneg _ | (simp only [i64max, u8max, u16max, u32max, u64max]; omega) | (simp only [mulSz_eq, Cont.len, colsLen, Col.len, List.length_cons, List.length_nil, List.length_replicate, List.length_append]; first | done | omega) | (simp [mulSz, Cont.len, bne]; first | done | omega)))); conv => whnf)
    | (refine tst_in ?_ ?_; (focus (intro h_; exfalso; first | omega | ((try simp only [decide_eq_true_eq, decide_eq_false_iff_not] at h_); omega) | (simp [mulSz, Cont.len, bne] at h_; first | done | omega))); intro _; conv => whnf)
    | (refine tst_in ?_ ?_; rotate_left; (focus (intro h_; exfalso; first | omega | ((try simp only [decide_eq_true_eq, decide_eq_false_iff_not] at h_); omega) | (simp [mulSz, Cont.len, bne] at h_; first | done | omega))); intro _; conv => whnf)
    | (refine ⟨0, (show _ = _ by omega), ?_⟩; conv => whnf))
  refine ⟨_, _, FB, rfl, ?_⟩
  conv => whnf
theorem div4k {a : Nat} {n : Int} (h : V 0 a n) (h1 : -4194306 < n) (h2 : n < 4194306) : ∃ r, floatBits .quo .f64 a 4661225614328463360 = some r ∧ V 12 r n := by
  obtain ⟨r, k1, k2⟩ := V_div (j := 12) (c := 4661225614328463360) h (by decide) (by omega) (by omega) (by omega)
  rw [Nat.zero_add] at k2
  exact ⟨r, k1, k2⟩
noncomputable def k8 : Code := (Tryd.f31.body).getD .skip
set_option maxHeartbeats 0 in
set_option maxRecDepth 100000 in
theorem Near_in {b y : Nat} {X t : Int} (hb : b < 18446744073709551616) (h : InE b X) (p : Pk b X y t) : ∃ r, V 12 r (nrst (X * 4096)) ∧ (r ≠ 9223372036854775808 ∧ r < 18446744073709551616) ∧ QFits Tryd.prog 31 ⟨[.flt .f64 b], [], .tup [.flt .f64 r, .bool true]⟩ := by
  have h1 := h.ab
  have AQ := Abs_q b hb
  have p1 := p.mul
  obtain ⟨s, m, P, hr⟩ := p.num
  have EX := even_x y hr
  have n1 := p.nr.1
  have n2 := p.nr.2
  obtain ⟨w, w1, w2⟩ := div4k p.ev (by omega) (by omega)
  obtain ⟨r, r1, r2, r3⟩ := add0 w2 (by omega) (by omega)
  refine ⟨r, r2, ⟨r3, sum_lt r1⟩, ?_⟩
  generalize D.write ((D.read y).integral .even) = z at *
  generalize b % 9223372036854775808 = a at *
  refine qfits_of_body (C := cfgk 0) (c := k8) (ts := [2, 3]) tokL mixedL (fun _ => none) (fun _ => none)
    Tryd.func31 (by kernel_rfl) (by kernel_rfl) (by kernel_rfl) (by kernel_rfl) (by kernel_rfl) rfl rfl ?_
  conv => whnf
  repeat (first
    | (refine And.intro ?_ ?_; (focus (first | omega | decide | exact EqOk.mk (by kernel_rfl) (by kernel_rfl) (by kernel_rfl) | exact Int.natCast_nonneg _ | ((repeat' refine And.intro ?_ ?_) <;> first | omega | exact Int.natCast_nonneg _ | (simp only [i64max, u8max, u16max, u32max, u64max]; omega) | (simp only [mulSz_eq, Cont.len, colsLen, Col.len, List.length_cons, List.length_nil, List.length_replicate, List.length_append]; first | done | omega) | (simp [mulSz, Cont.len, bne]; first | done | omega)))); conv => whnf)
    | (refine tst_in ?_ ?_; (focus (intro h_; exfalso; first | omega | ((try simp only [decide_eq_true_eq, decide_eq_false_iff_not] at h_); omega) | (simp [mulSz, Cont.len, bne] at h_; first | done | omega))); intro _; conv => whnf)
    | (refine tst_in ?_ ?_; rotate_left; (focus (intro h_; exfalso; first | omega | ((try simp only [decide_eq_true_eq, decide_eq_false_iff_not] at h_); omega) | (simp [mulSz, Cont.len, bne] at h_; first | done | omega))); intro _; conv => whnf)
    | (refine ⟨0, (show _ = _ by omega), ?_⟩; conv => whnf))
  refine ⟨_, [], AQ, ?_⟩
  conv => whnf
  iterate 2
   refine And.intro ?_ ?_
   focus
    conv => whnf
    repeat' (first | exact True.intro | rfl | refine And.intro ?_ ?_ | omega)
    all_goals (conv => whnf)
    all_goals (try (first | rfl | omega | (simp; done)))
  conv => whnf
  conv => whnf
  repeat (first
    | (refine And.intro ?_ ?_; (focus (first | omega | decide | exact EqOk.mk (by kernel_rfl) (by kernel_rfl) (by kernel_rfl) | exact Int.natCast_nonneg _ | ((repeat' refine And.intro ?_ ?_) <;> first | omega | exact Int.natCast_nonneg _ | (simp only [i64max, u8max, u16max, u32max, u64max]; omega) | (simp only [mulSz_eq, Cont.len, colsLen, Col.len, List.length_cons, List.length_nil, List.length_replicate, List.length_append]; first | done | omega) | (simp [mulSz, Cont.len, bne]; first | done | omega)))); conv => whnf)
    | (refine tst_in ?_ ?_; (focus (intro h_; exfalso; first | omega | ((try simp only [decide_eq_true_eq, decide_eq_false_iff_not] at h_); omega) | (simp [mulSz, Cont.len, bne] at h_; first | done | omega))); intro _; conv => whnf)
    | (refine tst_in ?_ ?_; rotate_left; (focus (intro h_; exfalso; first | omega | ((try simp only [decide_eq_true_eq, decide_eq_false_iff_not] at h_); omega) | (simp [mulSz, Cont.len, bne] at h_; first | done | omega))); intro _; conv => whnf)
    | (refine ⟨0, (show _ = _ by omega), ?_⟩; conv => whnf))
  refine tst_in (fun u => absurd u (by rw [show (D.order a 4652218415073722368 == some Ordering.lt || D.order a 4652218415073722368 == some Ordering.eq) = true from h1]; decide)) (fun u => ?_)
  conv => whnf
  repeat (first
    | (refine And.intro ?_ ?_; (focus (first | omega | decide | exact EqOk.mk (by kernel_rfl) (by kernel_rfl) (by kernel_rfl) | exact Int.natCast_nonneg _ | ((repeat' refine And.intro ?_ ?_) <;> first | omega | exact Int.natCast_nonneg _ | (simp only [i64max, u8max, u16max, u32max, u64max]; omega) | (simp only [mulSz_eq, Cont.len, colsLen, Col.len, List.length_cons, List.length_nil, List.length_replicate, List.length_append]; first | done | omega) | (simp [mulSz, Cont.len, bne]; first | done | omega)))); conv => whnf)
    | (refine tst_in ?_ ?_; (focus (intro h_; exfalso; first | omega | ((try simp only [decide_eq_true_eq, decide_eq_false_iff_not] at h_); omega) | (simp [mulSz, Cont.len, bne] at h_; first | done | omega))); intro _; conv => whnf)
    | (refine tst_in ?_ ?_; rotate_left; (focus (intro h_; exfalso; first | omega | ((try simp only [decide_eq_true_eq, decide_eq_false_iff_not] at h_); omega) | (simp [mulSz, Cont.len, bne] at h_; first | done | omega))); intro _; conv => whnf)
    | (refine ⟨0, (show _ = _ by omega), ?_⟩; conv => whnf))
  refine ⟨y, p1, ?_⟩
  conv => whnf
  repeat (first
    | (refine And.intro ?_ ?_; (focus (first | omega | decide | exact EqOk.mk (by kernel_rfl) (by kernel_rfl) (by kernel_rfl) | exact Int.natCast_nonneg _ | ((repeat' refine And.intro ?_ ?_) <;> first | omega | exact Int.natCast_nonneg _ | (simp only [i64max, u8max, u16max, u32max, u64max]; omega) | (simp only [mulSz_eq, Cont.len, colsLen, Col.len, List.length_cons, List.length_nil, List.length_replicate, List.length_append]; first | done | omega) | (simp [mulSz, Cont.len, bne]; first | done | omega)))); conv => whnf)
    | (refine tst_in ?_ ?_; (focus (intro h_; exfalso; first | omega | ((try simp only [decide_eq_true_eq, decide_eq_false_iff_not] at h_); omega) | (simp [mulSz, Cont.len, bne] at h_; first | done | omega))); intro _; conv => whnf)
    | (refine tst_in ?_ ?_; rotate_left; (focus (intro h_; exfalso; first | omega | ((try simp only [decide_eq_true_eq, decide_eq_false_iff_not] at h_); omega) | (simp [mulSz, Cont.len, bne] at h_; first | done | omega))); intro _; conv => whnf)
    | (refine ⟨0, (show _ = _ by omega), ?_⟩; conv => whnf))
  refine ⟨_, _, EX, rfl, ?_⟩
  conv => whnf
  conv => whnf
  repeat (first
    | (refine And.intro ?_ ?_; (focus (first | omega | decide | exact EqOk.mk (by kernel_rfl) (by kernel_rfl) (by kernel_rfl) | exact Int.natCast_nonneg _ | ((repeat' refine And.intro ?_ ?_) <;> first | omega | exact Int.natCast_nonneg _ | (simp only [i64max, u8max, u16max, u32max, u64max]; omega) | (simp only [mulSz_eq, Cont.len, colsLen, Col.len, List.length_cons, List.length_nil, List.length_replicate, List.length_append]; first | done | omega) | (simp [mulSz, Cont.len, bne]; first | done | omega)))); conv => whnf)
    | (refine tst_in ?_ ?_; (focus (intro h_; exfalso; first | omega | ((try simp only [decide_eq_true_eq, decide_eq_false_iff_not] at h_); omega) | (simp [mulSz, Cont.len, bne] at h_; first | done | omega))); intro _; conv => whnf)
    | (refine tst_in ?_ ?_; rotate_left; (focus (intro h_; exfalso; first | omega | ((try simp only [decide_eq_true_eq, decide_eq_false_iff_not] at h_); omega) | (simp [mulSz, Cont.len, bne] at h_; first | done | omega))); intro _; conv => whnf)
    | (refine ⟨0, (show _ = _ by omega), ?_⟩; conv => whnf))
  refine ⟨w, w1, ?_⟩
  conv => whnf
  repeat (first
    | (refine And.intro ?_ ?_; (focus (first | omega | decide | exact EqOk.mk (by kernel_rfl) (by kernel_rfl) (by kernel_rfl) | exact Int.natCast_nonneg _ | ((repeat' refine And.intro ?_ ?_) <;> first | omega | exact Int.natCast_nonneg _ | (simp only [i64max, u8max, u16max, u32max, u64max]; omega) | (simp only [mulSz_eq, Cont.len, colsLen, Col.len, List.length_cons, List.length_nil, List.length_replicate, List.length_append]; first | done | omega) | (simp [mulSz, Cont.len, bne]; first | done | omega)))); conv => whnf)
    | (refine tst_in ?_ ?_; (focus (intro h_; exfalso; first | omega | ((try simp only [decide_eq_true_eq, decide_eq_false_iff_not] at h_); omega) | (simp [mulSz, Cont.len, bne] at h_; first | done | omega))); intro _; conv => whnf)
    | (refine tst_in ?_ ?_; rotate_left; (focus (intro h_; exfalso; first | omega | ((try simp only [decide_eq_true_eq, decide_eq_false_iff_not] at h_); omega) | (simp [mulSz, Cont.len, bne] at h_; first | done | omega))); intro _; conv => whnf)
    | (refine ⟨0, (show _ = _ by omega), ?_⟩; conv => whnf))
  refine ⟨r, r1, ?_⟩
  conv => whnf
  repeat (first
    | (refine And.intro ?_ ?_; (focus (first | omega | decide | exact EqOk.mk (by kernel_rfl) (by kernel_rfl) (by kernel_rfl) | exact Int.natCast_nonneg _ | ((repeat' refine And.intro ?_ ?_) <;> first | omega | exact Int.natCast_nonneg _ | (simp only [i64max, u8max, u16max, u32max, u64max]; omega) | (simp only [mulSz_eq, Cont.len, colsLen, Col.len, List.length_cons, List.length_nil, List.length_replicate, List.length_append]; first | done | omega) | (simp [mulSz, Cont.len, bne]; first | done | omega)))); conv => whnf)
    | (refine tst_in ?_ ?_; (focus (intro h_; exfalso; first | omega | ((try simp only [decide_eq_true_eq, decide_eq_false_iff_not] at h_); omega) | (simp [mulSz, Cont.len, bne] at h_; first | done | omega))); intro _; conv => whnf)
    | (refine tst_in ?_ ?_; rotate_left; (focus (intro h_; exfalso; first | omega | ((try simp only [decide_eq_true_eq, decide_eq_false_iff_not] at h_); omega) | (simp [mulSz, Cont.len, bne] at h_; first | done | omega))); intro _; conv => whnf)
    | (refine ⟨0, (show _ = _ by omega), ?_⟩; conv => whnf))
  conv => whnf
  repeat' (first | exact True.intro | rfl | refine And.intro ?_ ?_)
  all_goals (conv => whnf)
  repeat' (first | exact True.intro | rfl | refine And.intro ?_ ?_)
  all_goals (try omega)
set_option maxHeartbeats 0 in
set_option maxRecDepth 100000 in
theorem Near_out {b : Nat} (hb : b < 18446744073709551616) (h : OutE b) : QFits Tryd.prog 31 ⟨[.flt .f64 b], [], .tup [.flt .f64 0, .bool false]⟩ := by
  have h1 := h.abs
  have AQ := Abs_q b hb
  generalize b % 9223372036854775808 = a at *
  refine qfits_of_body (C := cfgk 0) (c := k8) (ts := [2, 3]) tokL mixedL (fun _ => none) (fun _ => none)
    Tryd.func31 (by kernel_rfl) (by kernel_rfl) (by kernel_rfl) (by kernel_rfl) (by kernel_rfl) rfl rfl ?_
  conv => whnf
  repeat (first
    | (refine And.intro ?_ ?_; (focus (first | omega | decide | exact EqOk.mk (by kernel_rfl) (by kernel_rfl) (by kernel_rfl) | exact Int.natCast_nonneg _ | ((repeat' refine And.intro ?_ ?_) <;> first | omega | exact Int.natCast_nonneg _ | (simp only [i64max, u8max, u16max, u32max, u64max]; omega) | (simp only [mulSz_eq, Cont.len, colsLen, Col.len, List.length_cons, List.length_nil, List.length_replicate, List.length_append]; first | done | omega) | (simp [mulSz, Cont.len, bne]; first | done | omega)))); conv => whnf)
    | (refine tst_in ?_ ?_; (focus (intro h_; exfalso; first | omega | ((try simp only [decide_eq_true_eq, decide_eq_false_iff_not] at h_); omega) | (simp [mulSz, Cont.len, bne] at h_; first | done | omega))); intro _; conv => whnf)
    | (refine tst_in ?_ ?_; rotate_left; (focus (intro h_; exfalso; first | omega | ((try simp only [decide_eq_true_eq, decide_eq_false_iff_not] at h_); omega) | (simp [mulSz, Cont.len, bne] at h_; first | done | omega))); intro _; conv => whnf)
    | (refine ⟨0, (show _ = _ by omega), ?_⟩; conv => whnf))
  refine ⟨_, [], AQ, ?_⟩
  conv => whnf
  iterate 2
   refine And.intro ?_ ?_
   focus
    conv => whnf
    repeat' (first | exact True.intro | rfl | refine And.intro ?_ ?_ | omega)
    all_goals (conv => whnf)
    all_goals (try (first | rfl | omega | (simp; done)))
  conv => whnf
  conv => whnf
  repeat (first
    | (refine And.intro ?_ ?_; (focus (first | omega | decide | exact EqOk.mk (by kernel_rfl) (by kernel_rfl) (by kernel_rfl) | exact Int.natCast_nonneg _ | ((repeat' refine And.intro ?_ ?_) <;> first | omega | exact Int.natCast_nonneg _ | (simp only [i64max, u8max, u16max, u32max, u64max]; omega) | (simp only [mulSz_eq, Cont.len, colsLen, Col.len, List.length_cons, List.length_nil, List.length_replicate, List.length_append]; first | done | omega) | (simp [mulSz, Cont.len, bne]; first | done | omega)))); conv => whnf)
    | (refine tst_in ?_ ?_; (focus (intro h_; exfalso; first | omega | ((try simp only [decide_eq_true_eq, decide_eq_false_iff_not] at h_); omega) | (simp [mulSz, Cont.len, bne] at h_; first | done | omega))); intro _; conv => whnf)
    | (refine tst_in ?_ ?_; rotate_left; (focus (intro h_; exfalso; first | omega | ((try simp only [decide_eq_true_eq, decide_eq_false_iff_not] at h_); omega) | (simp [mulSz, Cont.len, bne] at h_; first | done | omega))); intro _; conv => whnf)
    | (refine ⟨0, (show _ = _ by omega), ?_⟩; conv => whnf))
  refine tst_in (fun u => ?_) (fun u => absurd u (by rw [show (D.order a 4652218415073722368 == some Ordering.lt || D.order a 4652218415073722368 == some Ordering.eq) = false from h1]; decide))
  conv => whnf
  repeat (first
    | (refine And.intro ?_ ?_; (focus (first | omega | decide | exact EqOk.mk (by kernel_rfl) (by kernel_rfl) (by kernel_rfl) | exact Int.natCast_nonneg _ | ((repeat' refine And.intro ?_ ?_) <;> first | omega | exact Int.natCast_nonneg _ | (simp only [i64max, u8max, u16max, u32max, u64max]; omega) | (simp only [mulSz_eq, Cont.len, colsLen, Col.len, List.length_cons, List.length_nil, List.length_replicate, List.length_append]; first | done | omega) | (simp [mulSz, Cont.len, bne]; first | done | omega)))); conv => whnf)
    | (refine tst_in ?_ ?_; (focus (intro h_; exfalso; first | omega | ((try simp only [decide_eq_true_eq, decide_eq_false_iff_not] at h_); omega) | (simp [mulSz, Cont.len, bne] at h_; first | done | omega))); intro _; conv => whnf)
    | (refine tst_in ?_ ?_; rotate_left; (focus (intro h_; exfalso; first | omega | ((try simp only [decide_eq_true_eq, decide_eq_false_iff_not] at h_); omega) | (simp [mulSz, Cont.len, bne] at h_; first | done | omega))); intro _; conv => whnf)
    | (refine ⟨0, (show _ = _ by omega), ?_⟩; conv => whnf))
  conv => whnf
  repeat' (first | exact True.intro | rfl | refine And.intro ?_ ?_)
  all_goals (conv => whnf)
  repeat' (first | exact True.intro | rfl | refine And.intro ?_ ?_)
  all_goals (try omega)
end Go.Proofs.YtanogghfdamdcaaDoor

set_option linter.unusedVariables false
set_option linter.unusedSimpArgs false
namespace Go.Proofs.YtanogghfdamdcaaDoor
open Go Go.Fw
def tabL : List Int := [0, 1, 56, 2, 57, 49, 28, 3, 61, 58, 42, 50, 38, 29, 17, 4, 62, 47, 59, 36, 45, 43, 51, 22, 53, 39, 33, 30, 24, 18, 12, 5, 63, 55, 48, 27, 60, 41, 37, 16, 46, 35, 44, 21, 52, 32, 23, 11, 54, 26, 40, 15, 34, 20, 31, 10, 25, 14, 19, 9, 13, 8, 7, 6]
def gS : Seg := .glob 1 (.ints .u8 [0, 1, 56, 2, 57, 49, 28, 3, 61, 58, 42, 50, 38, 29, 17, 4, 62, 47, 59, 36, 45, 43, 51, 22, 53, 39, 33, 30, 24, 18, 12, 5, 63, 55, 48, 27, 60, 41, 37, 16, 46, 35, 44, 21, 52, 32, 23, 11, 54, 26, 40, 15, 34, 20, 31, 10, 25, 14, 19, 9, 13, 8, 7, 6])
set_option maxHeartbeats 0 in
set_option maxRecDepth 100000 in
theorem TZ_12 : QFits Tryd.prog 47 ⟨[.int .u64 6755399441055744], [gS], .int .i64 51⟩ := by
  unfold gS
  refine qfits_of_body (C := cfgk 1) (c := (Tryd.f47.body).getD .skip) (ts := [2]) tokL mixedL (fun _ => none) (fun _ => none)
    Tryd.func47 (by kernel_rfl) (by kernel_rfl) (by kernel_rfl) (by kernel_rfl) (by kernel_rfl) rfl rfl ?_
  conv => whnf
  repeat (first
    | (refine And.intro ?_ ?_; (focus (first | omega | decide | exact EqOk.mk (by kernel_rfl) (by kernel_rfl) (by kernel_rfl) | exact Int.natCast_nonneg _ | ((repeat' refine And.intro ?_ ?_) <;> first | omega | exact Int.natCast_nonneg _ | (simp only [i64max, u8max, u16max, u32max, u64max]; omega) | (simp only [mulSz_eq, Cont.len, colsLen, Col.len, List.length_cons, List.length_nil, List.length_replicate, List.length_append]; first | done | omega) | (simp [mulSz, Cont.len, bne]; first | done | omega)))); conv => whnf)
    | (refine tst_in ?_ ?_; (focus (intro h_; exfalso; first | omega | ((try simp only [decide_eq_true_eq, decide_eq_false_iff_not] at h_); omega) | (simp [mulSz, Cont.len, bne] at h_; first | done | omega))); intro _; conv => whnf)
    | (refine tst_in ?_ ?_; rotate_left; (focus (intro h_; exfalso; first | omega | ((try simp only [decide_eq_true_eq, decide_eq_false_iff_not] at h_); omega) | (simp [mulSz, Cont.len, bne] at h_; first | done | omega))); intro _; conv => whnf)
    | (refine ⟨0, (show _ = _ by omega), ?_⟩; conv => whnf))
  decide +kernel
set_option maxHeartbeats 0 in
set_option maxRecDepth 100000 in
theorem IsNaN_12 : QFits Tryd.prog 45 ⟨[.flt .f64 4622945017495814144], [], .bool false⟩ := by
  refine qfits_of_body (C := cfgk 0) (c := (Tryd.f45.body).getD .skip) (ts := [2]) tokL mixedL (fun _ => none) (fun _ => none)
    Tryd.func45 (by kernel_rfl) (by kernel_rfl) (by kernel_rfl) (by kernel_rfl) (by kernel_rfl) rfl rfl ?_
  conv => whnf
  repeat (first
    | (refine And.intro ?_ ?_; (focus (first | omega | decide | exact EqOk.mk (by kernel_rfl) (by kernel_rfl) (by kernel_rfl) | exact Int.natCast_nonneg _ | ((repeat' refine And.intro ?_ ?_) <;> first | omega | exact Int.natCast_nonneg _ | (simp only [i64max, u8max, u16max, u32max, u64max]; omega) | (simp only [mulSz_eq, Cont.len, colsLen, Col.len, List.length_cons, List.length_nil, List.length_replicate, List.length_append]; first | done | omega) | (simp [mulSz, Cont.len, bne]; first | done | omega)))); conv => whnf)
    | (refine tst_in ?_ ?_; (focus (intro h_; exfalso; first | omega | ((try simp only [decide_eq_true_eq, decide_eq_false_iff_not] at h_); omega) | (simp [mulSz, Cont.len, bne] at h_; first | done | omega))); intro _; conv => whnf)
    | (refine tst_in ?_ ?_; rotate_left; (focus (intro h_; exfalso; first | omega | ((try simp only [decide_eq_true_eq, decide_eq_false_iff_not] at h_); omega) | (simp [mulSz, Cont.len, bne] at h_; first | done | omega))); intro _; conv => whnf)
    | (refine ⟨0, (show _ = _ by omega), ?_⟩; conv => whnf))
  decide +kernel
set_option maxHeartbeats 0 in
set_option maxRecDepth 100000 in
theorem IsInf_12 : QFits Tryd.prog 46 ⟨[.flt .f64 4622945017495814144, .int .i64 0], [], .bool false⟩ := by
  have AQ := Abs_q 4622945017495814144 (by decide)
  rw [show 4622945017495814144 % 9223372036854775808 = 4622945017495814144 by decide] at AQ
  refine qfits_of_body (C := cfgk 0) (c := (Tryd.f46.body).getD .skip) (ts := [4]) tokL mixedL (fun _ => none) (fun _ => none)
    Tryd.func46 (by kernel_rfl) (by kernel_rfl) (by kernel_rfl) (by kernel_rfl) (by kernel_rfl) rfl rfl ?_
  conv => whnf
  repeat (first
    | (refine And.intro ?_ ?_; (focus (first | omega | decide | exact EqOk.mk (by kernel_rfl) (by kernel_rfl) (by kernel_rfl) | exact Int.natCast_nonneg _ | ((repeat' refine And.intro ?_ ?_) <;> first | omega | exact Int.natCast_nonneg _ | (simp only [i64max, u8max, u16max, u32max, u64max]; omega) | (simp only [mulSz_eq, Cont.len, colsLen, Col.len, List.length_cons, List.length_nil, List.length_replicate, List.length_append]; first | done | omega) | (simp [mulSz, Cont.len, bne]; first | done | omega)))); conv => whnf)
    | (refine tst_in ?_ ?_; (focus (intro h_; exfalso; first | omega | ((try simp only [decide_eq_true_eq, decide_eq_false_iff_not] at h_); omega) | (simp [mulSz, Cont.len, bne] at h_; first | done | omega))); intro _; conv => whnf)
    | (refine tst_in ?_ ?_; rotate_left; (focus (intro h_; exfalso; first | omega | ((try simp only [decide_eq_true_eq, decide_eq_false_iff_not] at h_); omega) | (simp [mulSz, Cont.len, bne] at h_; first | done | omega))); intro _; conv => whnf)
    | (refine ⟨0, (show _ = _ by omega), ?_⟩; conv => whnf))
  refine ⟨_, [], AQ, ?_⟩
  conv => whnf
  iterate 2
   refine And.intro ?_ ?_
   focus
    conv => whnf
    repeat' (first | exact True.intro | rfl | refine And.intro ?_ ?_ | omega)
    all_goals (conv => whnf)
    all_goals (try (first | rfl | omega | (simp; done)))
  conv => whnf
  conv => whnf
  repeat (first
    | (refine And.intro ?_ ?_; (focus (first | omega | decide | exact EqOk.mk (by kernel_rfl) (by kernel_rfl) (by kernel_rfl) | exact Int.natCast_nonneg _ | ((repeat' refine And.intro ?_ ?_) <;> first | omega | exact Int.natCast_nonneg _ | (simp only [i64max, u8max, u16max, u32max, u64max]; omega) | (simp only [mulSz_eq, Cont.len, colsLen, Col.len, List.length_cons, List.length_nil, List.length_replicate, List.length_append]; first | done | omega) | (simp [mulSz, Cont.len, bne]; first | done | omega)))); conv => whnf)
    | (refine tst_in ?_ ?_; (focus (intro h_; exfalso; first | omega | ((try simp only [decide_eq_true_eq, decide_eq_false_iff_not] at h_); omega) | (simp [mulSz, Cont.len, bne] at h_; first | done | omega))); intro _; conv => whnf)
    | (refine tst_in ?_ ?_; rotate_left; (focus (intro h_; exfalso; first | omega | ((try simp only [decide_eq_true_eq, decide_eq_false_iff_not] at h_); omega) | (simp [mulSz, Cont.len, bne] at h_; first | done | omega))); intro _; conv => whnf)
    | (refine ⟨0, (show _ = _ by omega), ?_⟩; conv => whnf))
  decide +kernel
set_option maxHeartbeats 0 in
set_option maxRecDepth 100000 in
theorem Split_12 : QFits Tryd.prog 24 ⟨[.flt .f64 4622945017495814144], [gS], .tup [.int .i64 3, .int .i64 2, .int .i64 0]⟩ := by
  have BF : Go.Fw.XRun Tryd.prog 12 [.flt .f64 4622945017495814144] (.int .u64 4622945017495814144) := bf_x 4622945017495814144
  have e1 : rawBits BinOp.and IntKind.u64 4622945017495814144 4503599627370495 = 2251799813685248 := by decide +kernel
  have e2 : rawBits BinOp.or IntKind.u64 2251799813685248 4503599627370496 = 6755399441055744 := by decide +kernel
  have e3 : rawBits BinOp.and IntKind.u64 (4622945017495814144 / 2 ^ min (Int.toNat 52) IntKind.u64.bits) 2047 = 1026 := by decide +kernel
  have TZ := TZ_12
  unfold gS at *
  refine qfits_of_body (C := cfgk 1) (c := (Tryd.f24.body).getD .skip) (ts := [2, 3, 4]) tokL mixedL (fun _ => none) (fun _ => none)
    Tryd.func24 (by kernel_rfl) (by kernel_rfl) (by kernel_rfl) (by kernel_rfl) (by kernel_rfl) rfl rfl ?_
  conv => whnf
  repeat (first
    | (refine And.intro ?_ ?_; (focus (first | omega | decide | exact EqOk.mk (by kernel_rfl) (by kernel_rfl) (by kernel_rfl) | exact Int.natCast_nonneg _ | ((repeat' refine And.intro ?_ ?_) <;> first | omega | exact Int.natCast_nonneg _ | (simp only [i64max, u8max, u16max, u32max, u64max]; omega) | (simp only [mulSz_eq, Cont.len, colsLen, Col.len, List.length_cons, List.length_nil, List.length_replicate, List.length_append]; first | done | omega) | (simp [mulSz, Cont.len, bne]; first | done | omega)))); conv => whnf)
    | (refine tst_in ?_ ?_; (focus (intro h_; exfalso; first | omega | ((try simp only [decide_eq_true_eq, decide_eq_false_iff_not] at h_); omega) | (simp [mulSz, Cont.len, bne] at h_; first | done | omega))); intro _; conv => whnf)
    | (refine tst_in ?_ ?_; rotate_left; (focus (intro h_; exfalso; first | omega | ((try simp only [decide_eq_true_eq, decide_eq_false_iff_not] at h_); omega) | (simp [mulSz, Cont.len, bne] at h_; first | done | omega))); intro _; conv => whnf)
    | (refine ⟨0, (show _ = _ by omega), ?_⟩; conv => whnf))
  refine ⟨_, [], IsNaN_12, ?_⟩
  conv => whnf
  iterate 2
   refine And.intro ?_ ?_
   focus
    conv => whnf
    repeat' (first | exact True.intro | rfl | refine And.intro ?_ ?_ | omega)
    all_goals (conv => whnf)
    all_goals (try (first | rfl | omega | (simp; done)))
  conv => whnf
  conv => whnf
  repeat (first
    | (refine And.intro ?_ ?_; (focus (first | omega | decide | exact EqOk.mk (by kernel_rfl) (by kernel_rfl) (by kernel_rfl) | exact Int.natCast_nonneg _ | ((repeat' refine And.intro ?_ ?_) <;> first | omega | exact Int.natCast_nonneg _ | (simp only [i64max, u8max, u16max, u32max, u64max]; omega) | (simp only [mulSz_eq, Cont.len, colsLen, Col.len, List.length_cons, List.length_nil, List.length_replicate, List.length_append]; first | done | omega) | (simp [mulSz, Cont.len, bne]; first | done | omega)))); conv => whnf)
    | (refine tst_in ?_ ?_; (focus (intro h_; exfalso; first | omega | ((try simp only [decide_eq_true_eq, decide_eq_false_iff_not] at h_); omega) | (simp [mulSz, Cont.len, bne] at h_; first | done | omega))); intro _; conv => whnf)
    | (refine tst_in ?_ ?_; rotate_left; (focus (intro h_; exfalso; first | omega | ((try simp only [decide_eq_true_eq, decide_eq_false_iff_not] at h_); omega) | (simp [mulSz, Cont.len, bne] at h_; first | done | omega))); intro _; conv => whnf)
    | (refine ⟨0, (show _ = _ by omega), ?_⟩; conv => whnf))
  refine ⟨_, [], IsInf_12, ?_⟩
  conv => whnf
  iterate 2
   refine And.intro ?_ ?_
   focus
    conv => whnf
    repeat' (first | exact True.intro | rfl | refine And.intro ?_ ?_ | omega)
    all_goals (conv => whnf)
    all_goals (try (first | rfl | omega | (simp; done)))
  conv => whnf
  conv => whnf
  repeat (first
    | (refine And.intro ?_ ?_; (focus (first | omega | decide | exact EqOk.mk (by kernel_rfl) (by kernel_rfl) (by kernel_rfl) | exact Int.natCast_nonneg _ | ((repeat' refine And.intro ?_ ?_) <;> first | omega | exact Int.natCast_nonneg _ | (simp only [i64max, u8max, u16max, u32max, u64max]; omega) | (simp only [mulSz_eq, Cont.len, colsLen, Col.len, List.length_cons, List.length_nil, List.length_replicate, List.length_append]; first | done | omega) | (simp [mulSz, Cont.len, bne]; first | done | omega)))); conv => whnf)
    | (refine tst_in ?_ ?_; (focus (intro h_; exfalso; first | omega | ((try simp only [decide_eq_true_eq, decide_eq_false_iff_not] at h_); omega) | (simp [mulSz, Cont.len, bne] at h_; first | done | omega))); intro _; conv => whnf)
    | (refine tst_in ?_ ?_; rotate_left; (focus (intro h_; exfalso; first | omega | ((try simp only [decide_eq_true_eq, decide_eq_false_iff_not] at h_); omega) | (simp [mulSz, Cont.len, bne] at h_; first | done | omega))); intro _; conv => whnf)
    | (refine ⟨0, (show _ = _ by omega), ?_⟩; conv => whnf))
  refine ⟨_, _, BF, rfl, ?_⟩
  conv => whnf
  conv => whnf
  repeat (first
    | (refine And.intro ?_ ?_; (focus (first | omega | decide | exact EqOk.mk (by kernel_rfl) (by kernel_rfl) (by kernel_rfl) | exact Int.natCast_nonneg _ | ((repeat' refine And.intro ?_ ?_) <;> first | omega | exact Int.natCast_nonneg _ | (simp only [i64max, u8max, u16max, u32max, u64max]; omega) | (simp only [mulSz_eq, Cont.len, colsLen, Col.len, List.length_cons, List.length_nil, List.length_replicate, List.length_append]; first | done | omega) | (simp [mulSz, Cont.len, bne]; first | done | omega)))); conv => whnf)
    | (refine tst_in ?_ ?_; (focus (intro h_; exfalso; first | omega | ((try simp only [decide_eq_true_eq, decide_eq_false_iff_not] at h_); omega) | (simp [mulSz, Cont.len, bne] at h_; first | done | omega))); intro _; conv => whnf)
    | (refine tst_in ?_ ?_; rotate_left; (focus (intro h_; exfalso; first | omega | ((try simp only [decide_eq_true_eq, decide_eq_false_iff_not] at h_); omega) | (simp [mulSz, Cont.len, bne] at h_; first | done | omega))); intro _; conv => whnf)
    | (refine ⟨0, (show _ = _ by omega), ?_⟩; conv => whnf))
  rw [e1, e2, e3]
  refine ⟨_, [0], TZ, ?_⟩
  conv => whnf
  iterate 2
   refine And.intro ?_ ?_
   focus
    conv => whnf
    repeat' (first | exact True.intro | rfl | refine And.intro ?_ ?_)
    all_goals (conv => whnf)
    repeat' (first | exact True.intro | rfl | refine And.intro ?_ ?_)
    all_goals (try (first | rfl | omega | (simp; first | done | omega)))
  conv => whnf
  conv => whnf
  repeat (first
    | (refine And.intro ?_ ?_; (focus (first | omega | decide | exact EqOk.mk (by kernel_rfl) (by kernel_rfl) (by kernel_rfl) | exact Int.natCast_nonneg _ | ((repeat' refine And.intro ?_ ?_) <;> first | omega | exact Int.natCast_nonneg _ | (simp only [i64max, u8max, u16max, u32max, u64max]; omega) | (simp only [mulSz_eq, Cont.len, colsLen, Col.len, List.length_cons, List.length_nil, List.length_replicate, List.length_append]; first | done | omega) | (simp [mulSz, Cont.len, bne]; first | done | omega)))); conv => whnf)
    | (refine tst_in ?_ ?_; (focus (intro h_; exfalso; first | omega | ((try simp only [decide_eq_true_eq, decide_eq_false_iff_not] at h_); omega) | (simp [mulSz, Cont.len, bne] at h_; first | done | omega))); intro _; conv => whnf)
    | (refine tst_in ?_ ?_; rotate_left; (focus (intro h_; exfalso; first | omega | ((try simp only [decide_eq_true_eq, decide_eq_false_iff_not] at h_); omega) | (simp [mulSz, Cont.len, bne] at h_; first | done | omega))); intro _; conv => whnf)
    | (refine ⟨0, (show _ = _ by omega), ?_⟩; conv => whnf))
  conv => whnf
  repeat' (first | exact True.intro | rfl | refine And.intro ?_ ?_)
  all_goals (conv => whnf)
  repeat' (first | exact True.intro | rfl | refine And.intro ?_ ?_)
  all_goals (try omega)
  all_goals decide +kernel
def fmA (f m : Int) : AV := .agg [.int .i64 f, .int .i64 m]
set_option maxHeartbeats 0 in
set_option maxRecDepth 100000 in
theorem counted_f (f m : Int) (hf : 0 ≤ f ∧ f ≤ 100) (hm : 0 ≤ m ∧ m ≤ 100) : Fits Tryd.prog 41 ⟨[fmA f m], [], [numOut [] (fmA f m)]⟩ := by
  unfold fmA
  refine fits_of_res (C := cfgk 0) (c := (Tryd.f41.body).getD .skip) (rs := [.cell 2 32]) tokL mixedL (fun _ => none) (fun _ => none)
    Tryd.func41 (by kernel_rfl) (by kernel_rfl) (by kernel_rfl) (by kernel_rfl) rfl ?_
  conv => whnf
  repeat (first
    | (refine And.intro ?_ ?_; (focus (first | omega | decide | exact EqOk.mk (by kernel_rfl) (by kernel_rfl) (by kernel_rfl) | exact Int.natCast_nonneg _ | ((repeat' refine And.intro ?_ ?_) <;> first | omega | exact Int.natCast_nonneg _ | (simp only [i64max, u8max, u16max, u32max, u64max]; omega) | (simp only [mulSz_eq, Cont.len, colsLen, Col.len, List.length_cons, List.length_nil, List.length_replicate, List.length_append]; first | done | omega) | (simp [mulSz, Cont.len, bne]; first | done | omega)))); conv => whnf)
    | (refine tst_in ?_ ?_; (focus (intro h_; exfalso; first | omega | ((try simp only [decide_eq_true_eq, decide_eq_false_iff_not] at h_); omega) | (simp [mulSz, Cont.len, bne] at h_; first | done | omega))); intro _; conv => whnf)
    | (refine tst_in ?_ ?_; rotate_left; (focus (intro h_; exfalso; first | omega | ((try simp only [decide_eq_true_eq, decide_eq_false_iff_not] at h_); omega) | (simp [mulSz, Cont.len, bne] at h_; first | done | omega))); intro _; conv => whnf)
    | (refine ⟨0, (show _ = _ by omega), ?_⟩; conv => whnf))
  refine .inl ⟨(), [], ?_⟩
  conv => whnf
  repeat' (first | exact True.intro | rfl | refine And.intro ?_ ?_)
  all_goals (conv => whnf)
  repeat' (first | exact True.intro | rfl | refine And.intro ?_ ?_)
  all_goals (try omega)
  done
set_option maxHeartbeats 0 in
set_option maxRecDepth 100000 in
theorem stopped_f (f m : Int) (hf : 0 ≤ f ∧ f ≤ 100) (hm : 0 ≤ m ∧ m ≤ 100) : Fits Tryd.prog 44 ⟨[fmA f m], [], [numOut [] (fmA f m)]⟩ := by
  unfold fmA
  refine fits_of_res (C := cfgk 0) (c := (Tryd.f44.body).getD .skip) (rs := [.cell 2 32]) tokL mixedL (fun _ => none) (fun _ => none)
    Tryd.func44 (by kernel_rfl) (by kernel_rfl) (by kernel_rfl) (by kernel_rfl) rfl ?_
  conv => whnf
  repeat (first
    | (refine And.intro ?_ ?_; (focus (first | omega | decide | exact EqOk.mk (by kernel_rfl) (by kernel_rfl) (by kernel_rfl) | exact Int.natCast_nonneg _ | ((repeat' refine And.intro ?_ ?_) <;> first | omega | exact Int.natCast_nonneg _ | (simp only [i64max, u8max, u16max, u32max, u64max]; omega) | (simp only [mulSz_eq, Cont.len, colsLen, Col.len, List.length_cons, List.length_nil, List.length_replicate, List.length_append]; first | done | omega) | (simp [mulSz, Cont.len, bne]; first | done | omega)))); conv => whnf)
    | (refine tst_in ?_ ?_; (focus (intro h_; exfalso; first | omega | ((try simp only [decide_eq_true_eq, decide_eq_false_iff_not] at h_); omega) | (simp [mulSz, Cont.len, bne] at h_; first | done | omega))); intro _; conv => whnf)
    | (refine tst_in ?_ ?_; rotate_left; (focus (intro h_; exfalso; first | omega | ((try simp only [decide_eq_true_eq, decide_eq_false_iff_not] at h_); omega) | (simp [mulSz, Cont.len, bne] at h_; first | done | omega))); intro _; conv => whnf)
    | (refine ⟨0, (show _ = _ by omega), ?_⟩; conv => whnf))
  refine .inl ⟨(), [], ?_⟩
  conv => whnf
  repeat' (first | exact True.intro | rfl | refine And.intro ?_ ?_)
  all_goals (conv => whnf)
  repeat' (first | exact True.intro | rfl | refine And.intro ?_ ?_)
  all_goals (try omega)
  done
set_option maxHeartbeats 0 in
set_option maxRecDepth 100000 in
theorem Exact_f (f m : Int) (hf : 0 ≤ f ∧ f ≤ 40) (hm : 0 ≤ m ∧ m ≤ 40) : Fits Tryd.prog 21 ⟨[fmA f m], [], [numOut [] (.bool (decide (f + m ≤ 53)))]⟩ := by
  have C1 := counted_f f m (by omega) (by omega)
  have S1 := stopped_f (f + m) m (by omega) (by omega)
  unfold fmA at *
  refine fits_of_body (C := cfgk 0) (c := (Tryd.f21.body).getD .skip) (ts := [2]) tokL mixedL (fun _ => none) (fun _ => none)
    Tryd.func21 (by kernel_rfl) (by kernel_rfl) (by kernel_rfl) (by kernel_rfl) rfl ?_
  conv => whnf
  repeat (first
    | (refine And.intro ?_ ?_; (focus (first | omega | decide | exact EqOk.mk (by kernel_rfl) (by kernel_rfl) (by kernel_rfl) | exact Int.natCast_nonneg _ | ((repeat' refine And.intro ?_ ?_) <;> first | omega | exact Int.natCast_nonneg _ | (simp only [i64max, u8max, u16max, u32max, u64max]; omega) | (simp only [mulSz_eq, Cont.len, colsLen, Col.len, List.length_cons, List.length_nil, List.length_replicate, List.length_append]; first | done | omega) | (simp [mulSz, Cont.len, bne]; first | done | omega)))); conv => whnf)
    | (refine tst_in ?_ ?_; (focus (intro h_; exfalso; first | omega | ((try simp only [decide_eq_true_eq, decide_eq_false_iff_not] at h_); omega) | (simp [mulSz, Cont.len, bne] at h_; first | done | omega))); intro _; conv => whnf)
    | (refine tst_in ?_ ?_; rotate_left; (focus (intro h_; exfalso; first | omega | ((try simp only [decide_eq_true_eq, decide_eq_false_iff_not] at h_); omega) | (simp [mulSz, Cont.len, bne] at h_; first | done | omega))); intro _; conv => whnf)
    | (refine ⟨0, (show _ = _ by omega), ?_⟩; conv => whnf))
  refine ⟨_, [], C1, ?_⟩
  conv => whnf
  iterate 2
   refine And.intro ?_ ?_
   focus
    conv => whnf
    repeat' (first | exact True.intro | rfl | refine And.intro ?_ ?_ | omega)
    all_goals (conv => whnf)
    all_goals (try (first | rfl | omega | (simp; done)))
  conv => whnf
  refine ⟨?_, True.intro⟩
  intro _ _
  conv => whnf
  conv => whnf
  repeat (first
    | (refine And.intro ?_ ?_; (focus (first | omega | decide | exact EqOk.mk (by kernel_rfl) (by kernel_rfl) (by kernel_rfl) | exact Int.natCast_nonneg _ | ((repeat' refine And.intro ?_ ?_) <;> first | omega | exact Int.natCast_nonneg _ | (simp only [i64max, u8max, u16max, u32max, u64max]; omega) | (simp only [mulSz_eq, Cont.len, colsLen, Col.len, List.length_cons, List.length_nil, List.length_replicate, List.length_append]; first | done | omega) | (simp [mulSz, Cont.len, bne]; first | done | omega)))); conv => whnf)
    | (refine tst_in ?_ ?_; (focus (intro h_; exfalso; first | omega | ((try simp only [decide_eq_true_eq, decide_eq_false_iff_not] at h_); omega) | (simp [mulSz, Cont.len, bne] at h_; first | done | omega))); intro _; conv => whnf)
    | (refine tst_in ?_ ?_; rotate_left; (focus (intro h_; exfalso; first | omega | ((try simp only [decide_eq_true_eq, decide_eq_false_iff_not] at h_); omega) | (simp [mulSz, Cont.len, bne] at h_; first | done | omega))); intro _; conv => whnf)
    | (refine ⟨0, (show _ = _ by omega), ?_⟩; conv => whnf))
  refine ⟨_, [], S1, ?_⟩
  conv => whnf
  iterate 2
   refine And.intro ?_ ?_
   focus
    conv => whnf
    repeat' (first | exact True.intro | rfl | refine And.intro ?_ ?_ | omega)
    all_goals (conv => whnf)
    all_goals (try (first | rfl | omega | (simp; done)))
  conv => whnf
  refine ⟨?_, True.intro⟩
  intro _ _
  conv => whnf
  conv => whnf
  repeat (first
    | (refine And.intro ?_ ?_; (focus (first | omega | decide | exact EqOk.mk (by kernel_rfl) (by kernel_rfl) (by kernel_rfl) | exact Int.natCast_nonneg _ | ((repeat' refine And.intro ?_ ?_) <;> first | omega | exact Int.natCast_nonneg _ | (simp only [i64max, u8max, u16max, u32max, u64max]; omega) | (simp only [mulSz_eq, Cont.len, colsLen, Col.len, List.length_cons, List.length_nil, List.length_replicate, List.length_append]; first | done | omega) | (simp [mulSz, Cont.len, bne]; first | done | omega)))); conv => whnf)
    | (refine tst_in ?_ ?_; (focus (intro h_; exfalso; first | omega | ((try simp only [decide_eq_true_eq, decide_eq_false_iff_not] at h_); omega) | (simp [mulSz, Cont.len, bne] at h_; first | done | omega))); intro _; conv => whnf)
    | (refine tst_in ?_ ?_; rotate_left; (focus (intro h_; exfalso; first | omega | ((try simp only [decide_eq_true_eq, decide_eq_false_iff_not] at h_); omega) | (simp [mulSz, Cont.len, bne] at h_; first | done | omega))); intro _; conv => whnf)
    | (refine ⟨0, (show _ = _ by omega), ?_⟩; conv => whnf))
  refine .inl ⟨(), [], ?_⟩
  conv => whnf
  repeat' (first | exact True.intro | rfl | refine And.intro ?_ ?_)
  all_goals (conv => whnf)
  repeat' (first | exact True.intro | rfl | refine And.intro ?_ ?_)
  all_goals (try (first | omega | exact True.intro | rfl | assumption | (change LE.le (α := Nat) _ _; first | omega | (simp only [dLe_eq]; omega)) | (simp only [dLe_eq]; first | done | omega) | (simp [dLe_eq]; first | done | omega)))
end Go.Proofs.YtanogghfdamdcaaDoor

set_option linter.unusedVariables false
set_option linter.unusedSimpArgs false
namespace Go.Proofs.YtanogghfdamdcaaDoor
open Go Go.Fw
set_option exponentiation.threshold 2200
theorem near_is {b : Nat} {X : Int} (hb : b < 18446744073709551616) (h : InE b X) : ∃ r, V 12 r (nrst (X * 4096)) ∧ r < 18446744073709551616 ∧ QFits Tryd.prog 31 ⟨[.flt .f64 b], [], .tup [.flt .f64 r, .bool true]⟩ := by
  obtain ⟨y, t, p⟩ := h.pk
  obtain ⟨r, a, ⟨_, c⟩, d⟩ := Near_in hb h p
  exact ⟨r, a, c, d⟩
theorem pw61 : (2 : Int) ^ (1074 - 13) * 4096 = H := by unfold H; rw [show (4096 : Int) = 2 ^ 12 by decide, ← Int.pow_add]
theorem U2 : U = H * 2 := by unfold U H; rw [show (1074 : Nat) = 1073 + 1 from rfl, Int.pow_succ]
theorem V_x1 : V 1074 4548635623644200960 (1 * 2 ^ (1074 - 13)) := V_all (q := 13) (V_lit (q := 13) (s := false) (m := 4503599627370496) (i := -65) (by decide) (by decide) (by decide)) (by omega)
theorem V_x2 : V 1074 4555391023085256704 (3 * 2 ^ (1074 - 13)) := V_all (q := 13) (V_lit (q := 13) (s := false) (m := 6755399441055744) (i := -64) (by decide) (by decide) (by decide)) (by omega)
theorem V_x4 : V 12 4557642822898941952 2 := V_lit (q := 12) (s := false) (m := 4503599627370496) (i := -63) (by decide) (by decide) (by decide)
theorem lit_in {b : Nat} {n : Int} (hv : V 1074 b (n * 2 ^ (1074 - 13))) (h1 : 0 ≤ n) (h2 : n ≤ 3) : InE b (n * 2 ^ (1074 - 13)) ∧ n * 2 ^ (1074 - 13) * 4096 = n * H := by
  have e := pw61
  have u := U2
  have hp : (0 : Int) < 2 ^ (1074 - 13) := Int.pow_pos (by decide)
  have hm : n * 2 ^ (1074 - 13) * 4096 = n * H := by rw [Int.mul_assoc, e]
  refine ⟨⟨hv, ?_, ?_⟩, hm⟩
  · have := Int.mul_nonneg h1 (Int.le_of_lt hp)
    rw [u, ← e]
    generalize (2 : Int) ^ (1074 - 13) = q at *
    omega
  · rw [u, ← e]
    have := Int.mul_le_mul_of_nonneg_right h2 (Int.le_of_lt hp)
    generalize (2 : Int) ^ (1074 - 13) = q at *
    omega
theorem near_x1 : ∃ r, V 12 r 0 ∧ QFits Tryd.prog 31 ⟨[.flt .f64 4548635623644200960], [], .tup [.flt .f64 r, .bool true]⟩ := by
  obtain ⟨h, e⟩ := lit_in V_x1 (by decide) (by decide)
  obtain ⟨r, a, _, c⟩ := near_is (by decide) h
  refine ⟨r, ?_, c⟩
  rw [e, nrst_floor (n := 0) (by have := H_pos; omega) (by have := U2; have := H_pos; omega), if_neg (by omega)] at a
  exact a
theorem near_x2 : ∃ r, V 12 r 2 ∧ QFits Tryd.prog 31 ⟨[.flt .f64 4555391023085256704], [], .tup [.flt .f64 r, .bool true]⟩ := by
  obtain ⟨h, e⟩ := lit_in V_x2 (by decide) (by decide)
  obtain ⟨r, a, _, c⟩ := near_is (by decide) h
  refine ⟨r, ?_, c⟩
  rw [e, nrst_floor (n := 1) (by have := U2; have := H_pos; omega) (by have := U2; have := H_pos; omega), if_pos (by have := U2; right; constructor <;> omega)] at a
  exact a
theorem out_x3 : OutE 4652222813120233472 := by
  rcases in_or 4652222813120233472 with ⟨X, h⟩ | h
  · exact absurd h.le (by decide +kernel)
  · exact h
set_option maxHeartbeats 0 in
set_option maxRecDepth 100000 in
theorem awake_f : Fits Tryd.prog 30 ⟨[], [gS], [numOut [.dead] (.bool true)]⟩ := by
  obtain ⟨r1, a1, N1⟩ := near_x1
  obtain ⟨r2, a2, N2⟩ := near_x2
  have N3 := Near_out (by decide) out_x3
  have o1 : (D.order r1 0 == some .eq) = true := by rw [V_eqb a1 (V_zero 12 (by omega))]; decide
  have o2 : (D.order r2 4557642822898941952 == some .eq) = true := by rw [V_eqb a2 V_x4]; decide
  have SP := Split_12
  have X1 := Exact_f 20 33 (by decide) (by decide)
  have X2 := Exact_f 21 33 (by decide) (by decide)
  unfold fmA at X1 X2
  unfold gS at *
  refine fits_of_body (C := cfgk 1) (c := (Tryd.f30.body).getD .skip) (ts := [0]) tokL mixedL (fun _ => none) (fun _ => none)
    Tryd.func30 (by kernel_rfl) (by kernel_rfl) (by kernel_rfl) (by kernel_rfl) rfl ?_
  conv => whnf
  repeat (first
    | (refine And.intro ?_ ?_; (focus (first | omega | decide | exact EqOk.mk (by kernel_rfl) (by kernel_rfl) (by kernel_rfl) | exact Int.natCast_nonneg _ | ((repeat' refine And.intro ?_ ?_) <;> first | omega | exact Int.natCast_nonneg _ | (simp only [i64max, u8max, u16max, u32max, u64max]; omega) | (simp only [mulSz_eq, Cont.len, colsLen, Col.len, List.length_cons, List.length_nil, List.length_replicate, List.length_append]; first | done | omega) | (simp [mulSz, Cont.len, bne]; first | done | omega)))); conv => whnf)
    | (refine tst_in ?_ ?_; (focus (intro h_; exfalso; first | omega | ((try simp only [decide_eq_true_eq, decide_eq_false_iff_not] at h_); omega) | (simp [mulSz, Cont.len, bne] at h_; first | done | omega))); intro _; conv => whnf)
    | (refine tst_in ?_ ?_; rotate_left; (focus (intro h_; exfalso; first | omega | ((try simp only [decide_eq_true_eq, decide_eq_false_iff_not] at h_); omega) | (simp [mulSz, Cont.len, bne] at h_; first | done | omega))); intro _; conv => whnf)
    | (refine ⟨0, (show _ = _ by omega), ?_⟩; conv => whnf))
  refine ⟨_, [], N1, ?_⟩
  conv => whnf
  iterate 2
   refine And.intro ?_ ?_
   focus
    conv => whnf
    repeat' (first | exact True.intro | rfl | refine And.intro ?_ ?_ | omega)
    all_goals (conv => whnf)
    all_goals (try (first | rfl | omega | (simp; done)))
  conv => whnf
  conv => whnf
  repeat (first
    | (refine And.intro ?_ ?_; (focus (first | omega | decide | exact EqOk.mk (by kernel_rfl) (by kernel_rfl) (by kernel_rfl) | exact Int.natCast_nonneg _ | ((repeat' refine And.intro ?_ ?_) <;> first | omega | exact Int.natCast_nonneg _ | (simp only [i64max, u8max, u16max, u32max, u64max]; omega) | (simp only [mulSz_eq, Cont.len, colsLen, Col.len, List.length_cons, List.length_nil, List.length_replicate, List.length_append]; first | done | omega) | (simp [mulSz, Cont.len, bne]; first | done | omega)))); conv => whnf)
    | (refine tst_in ?_ ?_; (focus (intro h_; exfalso; first | omega | ((try simp only [decide_eq_true_eq, decide_eq_false_iff_not] at h_); omega) | (simp [mulSz, Cont.len, bne] at h_; first | done | omega))); intro _; conv => whnf)
    | (refine tst_in ?_ ?_; rotate_left; (focus (intro h_; exfalso; first | omega | ((try simp only [decide_eq_true_eq, decide_eq_false_iff_not] at h_); omega) | (simp [mulSz, Cont.len, bne] at h_; first | done | omega))); intro _; conv => whnf)
    | (refine ⟨0, (show _ = _ by omega), ?_⟩; conv => whnf))
  refine ⟨_, [], N2, ?_⟩
  conv => whnf
  iterate 2
   refine And.intro ?_ ?_
   focus
    conv => whnf
    repeat' (first | exact True.intro | rfl | refine And.intro ?_ ?_ | omega)
    all_goals (conv => whnf)
    all_goals (try (first | rfl | omega | (simp; done)))
  conv => whnf
  conv => whnf
  repeat (first
    | (refine And.intro ?_ ?_; (focus (first | omega | decide | exact EqOk.mk (by kernel_rfl) (by kernel_rfl) (by kernel_rfl) | exact Int.natCast_nonneg _ | ((repeat' refine And.intro ?_ ?_) <;> first | omega | exact Int.natCast_nonneg _ | (simp only [i64max, u8max, u16max, u32max, u64max]; omega) | (simp only [mulSz_eq, Cont.len, colsLen, Col.len, List.length_cons, List.length_nil, List.length_replicate, List.length_append]; first | done | omega) | (simp [mulSz, Cont.len, bne]; first | done | omega)))); conv => whnf)
    | (refine tst_in ?_ ?_; (focus (intro h_; exfalso; first | omega | ((try simp only [decide_eq_true_eq, decide_eq_false_iff_not] at h_); omega) | (simp [mulSz, Cont.len, bne] at h_; first | done | omega))); intro _; conv => whnf)
    | (refine tst_in ?_ ?_; rotate_left; (focus (intro h_; exfalso; first | omega | ((try simp only [decide_eq_true_eq, decide_eq_false_iff_not] at h_); omega) | (simp [mulSz, Cont.len, bne] at h_; first | done | omega))); intro _; conv => whnf)
    | (refine ⟨0, (show _ = _ by omega), ?_⟩; conv => whnf))
  refine ⟨_, [], N3, ?_⟩
  conv => whnf
  iterate 2
   refine And.intro ?_ ?_
   focus
    conv => whnf
    repeat' (first | exact True.intro | rfl | refine And.intro ?_ ?_ | omega)
    all_goals (conv => whnf)
    all_goals (try (first | rfl | omega | (simp; done)))
  conv => whnf
  conv => whnf
  repeat (first
    | (refine And.intro ?_ ?_; (focus (first | omega | decide | exact EqOk.mk (by kernel_rfl) (by kernel_rfl) (by kernel_rfl) | exact Int.natCast_nonneg _ | ((repeat' refine And.intro ?_ ?_) <;> first | omega | exact Int.natCast_nonneg _ | (simp only [i64max, u8max, u16max, u32max, u64max]; omega) | (simp only [mulSz_eq, Cont.len, colsLen, Col.len, List.length_cons, List.length_nil, List.length_replicate, List.length_append]; first | done | omega) | (simp [mulSz, Cont.len, bne]; first | done | omega)))); conv => whnf)
    | (refine tst_in ?_ ?_; (focus (intro h_; exfalso; first | omega | ((try simp only [decide_eq_true_eq, decide_eq_false_iff_not] at h_); omega) | (simp [mulSz, Cont.len, bne] at h_; first | done | omega))); intro _; conv => whnf)
    | (refine tst_in ?_ ?_; rotate_left; (focus (intro h_; exfalso; first | omega | ((try simp only [decide_eq_true_eq, decide_eq_false_iff_not] at h_); omega) | (simp [mulSz, Cont.len, bne] at h_; first | done | omega))); intro _; conv => whnf)
    | (refine ⟨0, (show _ = _ by omega), ?_⟩; conv => whnf))
  refine ⟨_, [0], SP, ?_⟩
  conv => whnf
  iterate 2
   refine And.intro ?_ ?_
   focus
    conv => whnf
    repeat' (first | exact True.intro | rfl | refine And.intro ?_ ?_)
    all_goals (conv => whnf)
    repeat' (first | exact True.intro | rfl | refine And.intro ?_ ?_)
    all_goals (try (first | rfl | omega | (simp; first | done | omega)))
  conv => whnf
  conv => whnf
  repeat (first
    | (refine And.intro ?_ ?_; (focus (first | omega | decide | exact EqOk.mk (by kernel_rfl) (by kernel_rfl) (by kernel_rfl) | exact Int.natCast_nonneg _ | ((repeat' refine And.intro ?_ ?_) <;> first | omega | exact Int.natCast_nonneg _ | (simp only [i64max, u8max, u16max, u32max, u64max]; omega) | (simp only [mulSz_eq, Cont.len, colsLen, Col.len, List.length_cons, List.length_nil, List.length_replicate, List.length_append]; first | done | omega) | (simp [mulSz, Cont.len, bne]; first | done | omega)))); conv => whnf)
    | (refine tst_in ?_ ?_; (focus (intro h_; exfalso; first | omega | ((try simp only [decide_eq_true_eq, decide_eq_false_iff_not] at h_); omega) | (simp [mulSz, Cont.len, bne] at h_; first | done | omega))); intro _; conv => whnf)
    | (refine tst_in ?_ ?_; rotate_left; (focus (intro h_; exfalso; first | omega | ((try simp only [decide_eq_true_eq, decide_eq_false_iff_not] at h_); omega) | (simp [mulSz, Cont.len, bne] at h_; first | done | omega))); intro _; conv => whnf)
    | (refine ⟨0, (show _ = _ by omega), ?_⟩; conv => whnf))
  refine tst_in (fun u => ?_) (fun u => absurd (o1.symm.trans u) (by decide))
  conv => whnf
  repeat (first
    | (refine And.intro ?_ ?_; (focus (first | omega | decide | exact EqOk.mk (by kernel_rfl) (by kernel_rfl) (by kernel_rfl) | exact Int.natCast_nonneg _ | ((repeat' refine And.intro ?_ ?_) <;> first | omega | exact Int.natCast_nonneg _ | (simp only [i64max, u8max, u16max, u32max, u64max]; omega) | (simp only [mulSz_eq, Cont.len, colsLen, Col.len, List.length_cons, List.length_nil, List.length_replicate, List.length_append]; first | done | omega) | (simp [mulSz, Cont.len, bne]; first | done | omega)))); conv => whnf)
    | (refine tst_in ?_ ?_; (focus (intro h_; exfalso; first | omega | ((try simp only [decide_eq_true_eq, decide_eq_false_iff_not] at h_); omega) | (simp [mulSz, Cont.len, bne] at h_; first | done | omega))); intro _; conv => whnf)
    | (refine tst_in ?_ ?_; rotate_left; (focus (intro h_; exfalso; first | omega | ((try simp only [decide_eq_true_eq, decide_eq_false_iff_not] at h_); omega) | (simp [mulSz, Cont.len, bne] at h_; first | done | omega))); intro _; conv => whnf)
    | (refine ⟨0, (show _ = _ by omega), ?_⟩; conv => whnf))
  refine tst_in (fun u => ?_) (fun u => absurd (o2.symm.trans u) (by decide))
  conv => whnf
  repeat (first
    | (refine And.intro ?_ ?_; (focus (first | omega | decide | exact EqOk.mk (by kernel_rfl) (by kernel_rfl) (by kernel_rfl) | exact Int.natCast_nonneg _ | ((repeat' refine And.intro ?_ ?_) <;> first | omega | exact Int.natCast_nonneg _ | (simp only [i64max, u8max, u16max, u32max, u64max]; omega) | (simp only [mulSz_eq, Cont.len, colsLen, Col.len, List.length_cons, List.length_nil, List.length_replicate, List.length_append]; first | done | omega) | (simp [mulSz, Cont.len, bne]; first | done | omega)))); conv => whnf)
    | (refine tst_in ?_ ?_; (focus (intro h_; exfalso; first | omega | ((try simp only [decide_eq_true_eq, decide_eq_false_iff_not] at h_); omega) | (simp [mulSz, Cont.len, bne] at h_; first | done | omega))); intro _; conv => whnf)
    | (refine tst_in ?_ ?_; rotate_left; (focus (intro h_; exfalso; first | omega | ((try simp only [decide_eq_true_eq, decide_eq_false_iff_not] at h_); omega) | (simp [mulSz, Cont.len, bne] at h_; first | done | omega))); intro _; conv => whnf)
    | (refine ⟨0, (show _ = _ by omega), ?_⟩; conv => whnf))
  refine ⟨_, [], X1, ?_⟩
  conv => whnf
  iterate 2
   refine And.intro ?_ ?_
   focus
    conv => whnf
    repeat' (first | exact True.intro | rfl | refine And.intro ?_ ?_ | omega)
    all_goals (conv => whnf)
    all_goals (try (first | rfl | omega | (simp; done)))
  conv => whnf
  refine ⟨?_, True.intro⟩
  intro _ _
  conv => whnf
  conv => whnf
  repeat (first
    | (refine And.intro ?_ ?_; (focus (first | omega | decide | exact EqOk.mk (by kernel_rfl) (by kernel_rfl) (by kernel_rfl) | exact Int.natCast_nonneg _ | ((repeat' refine And.intro ?_ ?_) <;> first | omega | exact Int.natCast_nonneg _ | (simp only [i64max, u8max, u16max, u32max, u64max]; omega) | (simp only [mulSz_eq, Cont.len, colsLen, Col.len, List.length_cons, List.length_nil, List.length_replicate, List.length_append]; first | done | omega) | (simp [mulSz, Cont.len, bne]; first | done | omega)))); conv => whnf)
    | (refine tst_in ?_ ?_; (focus (intro h_; exfalso; first | omega | ((try simp only [decide_eq_true_eq, decide_eq_false_iff_not] at h_); omega) | (simp [mulSz, Cont.len, bne] at h_; first | done | omega))); intro _; conv => whnf)
    | (refine tst_in ?_ ?_; rotate_left; (focus (intro h_; exfalso; first | omega | ((try simp only [decide_eq_true_eq, decide_eq_false_iff_not] at h_); omega) | (simp [mulSz, Cont.len, bne] at h_; first | done | omega))); intro _; conv => whnf)
    | (refine ⟨0, (show _ = _ by omega), ?_⟩; conv => whnf))
  refine ⟨_, [], X2, ?_⟩
  conv => whnf
  iterate 2
   refine And.intro ?_ ?_
   focus
    conv => whnf
    repeat' (first | exact True.intro | rfl | refine And.intro ?_ ?_ | omega)
    all_goals (conv => whnf)
    all_goals (try (first | rfl | omega | (simp; done)))
  conv => whnf
  refine ⟨?_, True.intro⟩
  intro _ _
  conv => whnf
  conv => whnf
  repeat (first
    | (refine And.intro ?_ ?_; (focus (first | omega | decide | exact EqOk.mk (by kernel_rfl) (by kernel_rfl) (by kernel_rfl) | exact Int.natCast_nonneg _ | ((repeat' refine And.intro ?_ ?_) <;> first | omega | exact Int.natCast_nonneg _ | (simp only [i64max, u8max, u16max, u32max, u64max]; omega) | (simp only [mulSz_eq, Cont.len, colsLen, Col.len, List.length_cons, List.length_nil, List.length_replicate, List.length_append]; first | done | omega) | (simp [mulSz, Cont.len, bne]; first | done | omega)))); conv => whnf)
    | (refine tst_in ?_ ?_; (focus (intro h_; exfalso; first | omega | ((try simp only [decide_eq_true_eq, decide_eq_false_iff_not] at h_); omega) | (simp [mulSz, Cont.len, bne] at h_; first | done | omega))); intro _; conv => whnf)
    | (refine tst_in ?_ ?_; rotate_left; (focus (intro h_; exfalso; first | omega | ((try simp only [decide_eq_true_eq, decide_eq_false_iff_not] at h_); omega) | (simp [mulSz, Cont.len, bne] at h_; first | done | omega))); intro _; conv => whnf)
    | (refine ⟨0, (show _ = _ by omega), ?_⟩; conv => whnf))
  refine .inl ⟨(), [0], ?_⟩
  conv => whnf
  repeat' (first | exact True.intro | rfl | refine And.intro ?_ ?_)
  all_goals (conv => whnf)
  repeat' (first | exact True.intro | rfl | refine And.intro ?_ ?_)
  all_goals (try omega)
end Go.Proofs.YtanogghfdamdcaaDoor

set_option linter.unusedVariables false
set_option linter.unusedSimpArgs false
namespace Go.Proofs.YtanogghfdamdcaaDoor
open Go Go.Fw
theorem uw (x : Int) : IntKind.u64.wrap x = x % 18446744073709551616 := by
  unfold IntKind.wrap; simp [IntKind.bits, IntKind.signed]
theorem and_u (a b : Nat) (ha : a < 18446744073709551616) (hb : b < 18446744073709551616) : rawBits .and .u64 a b = ((a &&& b : Nat) : Int) := by
  show IntKind.u64.wrap ((BitVec.ofInt 64 a &&& BitVec.ofInt 64 b).toNat : Int) = _
  have e : (BitVec.ofInt 64 (a : Int) &&& BitVec.ofInt 64 (b : Int)).toNat = a &&& b := by
    rw [BitVec.toNat_and, BitVec.toNat_ofInt, BitVec.toNat_ofInt]
    congr 1
    · show ((a : Int) % 18446744073709551616).toNat = a
      omega
    · show ((b : Int) % 18446744073709551616).toNat = b
      omega
  rw [e, uw]
  have : a &&& b ≤ a := Nat.and_le_left
  omega
theorem or_u (a b : Nat) (ha : a < 18446744073709551616) (hb : b < 18446744073709551616) : rawBits .or .u64 a b = ((a ||| b : Nat) : Int) := by
  show IntKind.u64.wrap ((BitVec.ofInt 64 a ||| BitVec.ofInt 64 b).toNat : Int) = _
  have e : (BitVec.ofInt 64 (a : Int) ||| BitVec.ofInt 64 (b : Int)).toNat = a ||| b := by
    rw [BitVec.toNat_or, BitVec.toNat_ofInt, BitVec.toNat_ofInt]
    congr 1
    · show ((a : Int) % 18446744073709551616).toNat = a
      omega
    · show ((b : Int) % 18446744073709551616).toNat = b
      omega
  rw [e, uw]
  have : a ||| b < 2 ^ 64 := Nat.or_lt_two_pow (by omega) (by omega)
  omega
theorem tz_all : ∀ k : Fin 64, tabL.getD (2 ^ k.1 * 285870213051353865 % 18446744073709551616 / 288230376151711744) 0 = (k.1 : Int) := by decide +kernel
theorem tz_val {n o k : Nat} (hn : n = o * 2 ^ k) (ho : o % 2 = 1) (hk : n < 18446744073709551616) :
    tabL.getD (0 + (IntKind.u64.wrap (rawBits BinOp.and IntKind.u64 (n : Int) (IntKind.u64.wrap (0 - (n : Int))) * 285870213051353865) / 2 ^ min (Int.toNat 58) IntKind.u64.bits).toNat) 0 = (k : Int) := by
  have h64 : (2 : Nat) ^ 64 = 18446744073709551616 := by decide
  have hlow := low_bit hn ho (by rw [h64]; exact hk)
  rw [h64] at hlow
  have hn0 : 0 < n := by
    rw [hn]; exact Nat.mul_pos (by omega) (Nat.two_pow_pos k)
  have hk64 : k < 64 := by
    refine Classical.byContradiction fun q => ?_
    have h1 : (2 : Nat) ^ 64 ≤ 2 ^ k := Nat.pow_le_pow_right (by decide) (by omega)
    have h2 : 1 * 2 ^ k ≤ o * 2 ^ k := Nat.mul_le_mul_right _ (by omega)
    omega
  have e1 : IntKind.u64.wrap (0 - (n : Int)) = ((18446744073709551616 - n : Nat) : Int) := by rw [uw]; omega
  rw [e1, and_u _ _ hk (by omega), hlow, uw, show min (Int.toNat 58) IntKind.u64.bits = 58 from rfl, show (2 : Int) ^ 58 = 288230376151711744 by decide]
  have e2 : ∀ w : Nat, ((w : Int) * 285870213051353865 % 18446744073709551616 / 288230376151711744).toNat = w * 285870213051353865 % 18446744073709551616 / 288230376151711744 := fun w => by
    have : (w : Int) * 285870213051353865 % 18446744073709551616 / 288230376151711744 = ((w * 285870213051353865 % 18446744073709551616 / 288230376151711744 : Nat) : Int) := by rw [Int.natCast_ediv, Int.natCast_emod, Int.natCast_mul]; rfl
    rw [this, Int.toNat_natCast]
  rw [e2 (2 ^ k), Nat.zero_add]
  exact tz_all ⟨k, hk64⟩
set_option maxHeartbeats 0 in
set_option maxRecDepth 100000 in
theorem TZ_q {n o k : Nat} (hn : n = o * 2 ^ k) (ho : o % 2 = 1) (hk : n < 18446744073709551616) : QFits Tryd.prog 47 ⟨[.int .u64 n], [gS], .int .i64 k⟩ := by
  have hv := tz_val hn ho hk
  have hn0 : 0 < n := by rw [hn]; exact Nat.mul_pos (by omega) (Nat.two_pow_pos k)
  have hk64 : k < 64 := by
    refine Classical.byContradiction fun q => ?_
    have h1 : (2 : Nat) ^ 64 ≤ 2 ^ k := Nat.pow_le_pow_right (by decide) (by omega)
    have h2 : 1 * 2 ^ k ≤ o * 2 ^ k := Nat.mul_le_mul_right _ (by omega)
    omega
  have e1 : IntKind.u64.wrap (0 - (n : Int)) = ((18446744073709551616 - n : Nat) : Int) := by rw [uw]; omega
  have hidx : 0 ≤ (IntKind.u64.wrap (rawBits BinOp.and IntKind.u64 (n : Int) (IntKind.u64.wrap (0 - (n : Int))) * 285870213051353865) / 2 ^ min (Int.toNat 58) IntKind.u64.bits) ∧ (IntKind.u64.wrap (rawBits BinOp.and IntKind.u64 (n : Int) (IntKind.u64.wrap (0 - (n : Int))) * 285870213051353865) / 2 ^ min (Int.toNat 58) IntKind.u64.bits) < 64 := by
    rw [uw (_ * _), show min (Int.toNat 58) IntKind.u64.bits = 58 from rfl, show (2 : Int) ^ 58 = 288230376151711744 by decide]
    generalize rawBits BinOp.and IntKind.u64 (n : Int) (IntKind.u64.wrap (0 - (n : Int))) = z
    omega
  unfold gS
  unfold tabL at hv
  refine qfits_of_body (C := cfgk 1) (c := (Tryd.f47.body).getD .skip) (ts := [2]) tokL mixedL (fun _ => none) (fun _ => none)
    Tryd.func47 (by kernel_rfl) (by kernel_rfl) (by kernel_rfl) (by kernel_rfl) (by kernel_rfl) rfl rfl ?_
  conv => whnf
  repeat (first
    | (refine And.intro ?_ ?_; (focus (first | omega | decide | exact EqOk.mk (by kernel_rfl) (by kernel_rfl) (by kernel_rfl) | exact Int.natCast_nonneg _ | ((repeat' refine And.intro ?_ ?_) <;> first | omega | exact Int.natCast_nonneg _ | (simp only [i64max, u8max, u16max, u32max, u64max]; omega) | (simp only [mulSz_eq, Cont.len, colsLen, Col.len, List.length_cons, List.length_nil, List.length_replicate, List.length_append]; first | done | omega) | (simp [mulSz, Cont.len, bne]; first | done | omega)))); conv => whnf)
    | (refine tst_in ?_ ?_; (focus (intro h_; exfalso; first | omega | ((try simp only [decide_eq_true_eq, decide_eq_false_iff_not] at h_); omega) | (simp [mulSz, Cont.len, bne] at h_; first | done | omega))); intro _; conv => whnf)
    | (refine tst_in ?_ ?_; rotate_left; (focus (intro h_; exfalso; first | omega | ((try simp only [decide_eq_true_eq, decide_eq_false_iff_not] at h_); omega) | (simp [mulSz, Cont.len, bne] at h_; first | done | omega))); intro _; conv => whnf)
    | (refine ⟨0, (show _ = _ by omega), ?_⟩; conv => whnf))
  exact ((congrArg IntKind.i64.wrap hv).trans (wrap_i64 (by omega))).symm
end Go.Proofs.YtanogghfdamdcaaDoor

set_option linter.unusedVariables false
set_option linter.unusedSimpArgs false
namespace Go.Proofs.YtanogghfdamdcaaDoor
open Go Go.Fw
set_option exponentiation.threshold 2200
theorem pow_nat (n : Nat) : (2 : Int) ^ n = ((2 ^ n : Nat) : Int) := by rw [Int.natCast_pow]; rfl
theorem max_read : D.read 9218868437227405311 = .number false 9007199254740991 971 := by decide +kernel
theorem max_abs {b : Nat} {s : Bool} {m : Nat} {P : Int} (hb : b < 18446744073709551616) (h : D.read b = .number s m P) : (D.order (b % 9223372036854775808) 9218868437227405311 == some .gt) = false := by
  obtain ⟨-, k1, k2⟩ := bits_of hb h
  have hm : m ≤ 9007199254740991 := by omega
  have hP : (P + 1074).toNat ≤ 2045 := by omega
  have ha : D.read (b % 9223372036854775808) = .number false m P := by rw [read_abs, h]
  have hv := V_fin ha
  have hw := V_fin max_read
  rw [V_gtb hv hw]
  apply decide_eq_false
  rw [signed_eq, signed_eq, if_neg (by decide), Int.one_mul, Int.one_mul]
  have l := Nat.mul_le_mul hm (Nat.pow_le_pow_right (show 0 < 2 by decide) hP)
  rw [show ((971 : Int) + 1074).toNat = 2045 from rfl, pow_nat, pow_nat]
  generalize (2 : Nat) ^ 2045 = A at *
  generalize (2 : Nat) ^ (P + 1074).toNat = B at *
  rw [← Int.natCast_mul, ← Int.natCast_mul, Int.ofNat_lt]
  omega
theorem num_eq {b : Nat} {s : Bool} {m : Nat} {P : Int} (h : D.read b = .number s m P) : (D.order b b == some .eq) = true := by
  rw [V_eqb (V_fin h) (V_fin h)]; exact decide_eq_true rfl
theorem nan_neq {b : Nat} {s : Bool} {f : Nat} (h : D.read b = .nan s f) : (D.order b b == some .eq) = false := by
  unfold Ieee.Format.order; rw [h]; rfl
theorem inf_gt {b : Nat} {s : Bool} (h : D.read b = .infinity s) : (D.order (b % 9223372036854775808) 9218868437227405311 == some .gt) = true := by
  unfold Ieee.Format.order
  rw [read_abs, h, max_read]; rfl
theorem inf_eq {b : Nat} {s : Bool} (h : D.read b = .infinity s) : (D.order b b == some .eq) = true := by
  unfold Ieee.Format.order; rw [h]; cases s <;> rfl
set_option maxHeartbeats 0 in
set_option maxRecDepth 100000 in
theorem IsNaN_q (b : Nat) {e : Bool} (he : (D.order b b == some .eq) = e) : QFits Tryd.prog 45 ⟨[.flt .f64 b], [], .bool (!e)⟩ := by
  subst he
  refine qfits_of_body (C := cfgk 0) (c := (Tryd.f45.body).getD .skip) (ts := [2]) tokL mixedL (fun _ => none) (fun _ => none)
    Tryd.func45 (by kernel_rfl) (by kernel_rfl) (by kernel_rfl) (by kernel_rfl) (by kernel_rfl) rfl rfl ?_
  conv => whnf
  repeat (first
    | (refine And.intro ?_ ?_; (focus (first | omega | decide | exact EqOk.mk (by kernel_rfl) (by kernel_rfl) (by kernel_rfl) | exact Int.natCast_nonneg _ | ((repeat' refine And.intro ?_ ?_) <;> first | omega | exact Int.natCast_nonneg _ | (simp only [i64max, u8max, u16max, u32max, u64max]; omega) | (simp only [mulSz_eq, Cont.len, colsLen, Col.len, List.length_cons, List.length_nil, List.length_replicate, List.length_append]; first | done | omega) | (simp [mulSz, Cont.len, bne]; first | done | omega)))); conv => whnf)
    | (refine tst_in ?_ ?_; (focus (intro h_; exfalso; first | omega | ((try simp only [decide_eq_true_eq, decide_eq_false_iff_not] at h_); omega) | (simp [mulSz, Cont.len, bne] at h_; first | done | omega))); intro _; conv => whnf)
    | (refine tst_in ?_ ?_; rotate_left; (focus (intro h_; exfalso; first | omega | ((try simp only [decide_eq_true_eq, decide_eq_false_iff_not] at h_); omega) | (simp [mulSz, Cont.len, bne] at h_; first | done | omega))); intro _; conv => whnf)
    | (refine ⟨0, (show _ = _ by omega), ?_⟩; conv => whnf))
  unfold bne
  rfl
set_option maxHeartbeats 0 in
set_option maxRecDepth 100000 in
theorem IsInf_q (b : Nat) {e : Bool} (hb : b < 18446744073709551616) (he : (D.order (b % 9223372036854775808) 9218868437227405311 == some .gt) = e) : QFits Tryd.prog 46 ⟨[.flt .f64 b, .int .i64 0], [], .bool e⟩ := by
  subst he
  have AQ := Abs_q b hb
  generalize b % 9223372036854775808 = a at *
  refine qfits_of_body (C := cfgk 0) (c := (Tryd.f46.body).getD .skip) (ts := [4]) tokL mixedL (fun _ => none) (fun _ => none)
    Tryd.func46 (by kernel_rfl) (by kernel_rfl) (by kernel_rfl) (by kernel_rfl) (by kernel_rfl) rfl rfl ?_
  conv => whnf
  repeat (first
    | (refine And.intro ?_ ?_; (focus (first | omega | decide | exact EqOk.mk (by kernel_rfl) (by kernel_rfl) (by kernel_rfl) | exact Int.natCast_nonneg _ | ((repeat' refine And.intro ?_ ?_) <;> first | omega | exact Int.natCast_nonneg _ | (simp only [i64max, u8max, u16max, u32max, u64max]; omega) | (simp only [mulSz_eq, Cont.len, colsLen, Col.len, List.length_cons, List.length_nil, List.length_replicate, List.length_append]; first | done | omega) | (simp [mulSz, Cont.len, bne]; first | done | omega)))); conv => whnf)
    | (refine tst_in ?_ ?_; (focus (intro h_; exfalso; first | omega | ((try simp only [decide_eq_true_eq, decide_eq_false_iff_not] at h_); omega) | (simp [mulSz, Cont.len, bne] at h_; first | done | omega))); intro _; conv => whnf)
    | (refine tst_in ?_ ?_; rotate_left; (focus (intro h_; exfalso; first | omega | ((try simp only [decide_eq_true_eq, decide_eq_false_iff_not] at h_); omega) | (simp [mulSz, Cont.len, bne] at h_; first | done | omega))); intro _; conv => whnf)
    | (refine ⟨0, (show _ = _ by omega), ?_⟩; conv => whnf))
  refine ⟨_, [], AQ, ?_⟩
  conv => whnf
  iterate 2
   refine And.intro ?_ ?_
   focus
    conv => whnf
    repeat' (first | exact True.intro | rfl | refine And.intro ?_ ?_ | omega)
    all_goals (conv => whnf)
    all_goals (try (first | rfl | omega | (simp; done)))
  conv => whnf
end Go.Proofs.YtanogghfdamdcaaDoor

set_option linter.unusedVariables false
set_option linter.unusedSimpArgs false
namespace Go.Proofs.YtanogghfdamdcaaDoor
open Go Go.Fw
set_option exponentiation.threshold 2200
def qn : Nat → Bool := fun f => match f with | 3000026 => true | _ => false
def cfgn (k : Nat) : Cfg := { T := tyL, sgn := fun _ => true, wr := fun _ => false, k := k, q := qn }
theorem V_zer : V 1074 0 0 := by
  unfold V
  exact ⟨false, 0, -1074, by decide, by rw [Int.zero_mul]; rfl⟩
theorem fin_sub {b : Nat} {s : Bool} {m : Nat} {P : Int} (h : D.read b = .number s m P) : ∃ r, floatBits .sub .f64 b b = some r ∧ (D.order r 0 == some .eq) = true := by
  obtain ⟨r, r1, r2⟩ := V_subL (V_fin h) (V_fin h) (by omega) (by omega) (Nat.le_refl _)
  rw [Int.sub_self] at r2
  exact ⟨r, r1, by rw [V_eqb r2 V_zer]; exact decide_eq_true rfl⟩
theorem wild_sub {b : Nat} (h : Wild b) : floatBits .sub .f64 b b = none := by
  show Ieee.Format.sub _ b b = none
  unfold Ieee.Format.sub
  rcases h with ⟨s, h⟩ | ⟨s, f, h⟩
  · rw [show FloatKind.f64.format.read b = .infinity s from h]; cases s <;> rfl
  · rw [show FloatKind.f64.format.read b = .nan s f from h]; rfl
set_option maxHeartbeats 0 in
set_option maxRecDepth 100000 in
theorem Finite_y {b : Nat} {s : Bool} {m : Nat} {P : Int} (h : D.read b = .number s m P) : Fits Tryd.prog 37 ⟨[.flt .f64 b], [], [numOut [] (.bool true)]⟩ := by
  obtain ⟨r, r1, r2⟩ := fin_sub h
  refine fits_of_body (C := cfgn 0) (c := (Tryd.f37.body).getD .skip) (ts := [2]) tokL mixedL (fun _ => none) (fun _ => none)
    Tryd.func37 (by kernel_rfl) (by kernel_rfl) (by kernel_rfl) (by kernel_rfl) rfl ?_
  conv => whnf
  repeat (first
    | (refine And.intro ?_ ?_; (focus (first | omega | decide | exact EqOk.mk (by kernel_rfl) (by kernel_rfl) (by kernel_rfl) | exact Int.natCast_nonneg _ | ((repeat' refine And.intro ?_ ?_) <;> first | omega | exact Int.natCast_nonneg _ | (simp only [i64max, u8max, u16max, u32max, u64max]; omega) | (simp only [mulSz_eq, Cont.len, colsLen, Col.len, List.length_cons, List.length_nil, List.length_replicate, List.length_append]; first | done | omega) | (simp [mulSz, Cont.len, bne]; first | done | omega)))); conv => whnf)
    | (refine tst_in ?_ ?_; (focus (intro h_; exfalso; first | omega | ((try simp only [decide_eq_true_eq, decide_eq_false_iff_not] at h_); omega) | (simp [mulSz, Cont.len, bne] at h_; first | done | omega))); intro _; conv => whnf)
    | (refine tst_in ?_ ?_; rotate_left; (focus (intro h_; exfalso; first | omega | ((try simp only [decide_eq_true_eq, decide_eq_false_iff_not] at h_); omega) | (simp [mulSz, Cont.len, bne] at h_; first | done | omega))); intro _; conv => whnf)
    | (refine ⟨0, (show _ = _ by omega), ?_⟩; conv => whnf))
  refine .inl ⟨r, r1, ?_⟩
  conv => whnf
  repeat (first
    | (refine And.intro ?_ ?_; (focus (first | omega | decide | exact EqOk.mk (by kernel_rfl) (by kernel_rfl) (by kernel_rfl) | exact Int.natCast_nonneg _ | ((repeat' refine And.intro ?_ ?_) <;> first | omega | exact Int.natCast_nonneg _ | (simp only [i64max, u8max, u16max, u32max, u64max]; omega) | (simp only [mulSz_eq, Cont.len, colsLen, Col.len, List.length_cons, List.length_nil, List.length_replicate, List.length_append]; first | done | omega) | (simp [mulSz, Cont.len, bne]; first | done | omega)))); conv => whnf)
    | (refine tst_in ?_ ?_; (focus (intro h_; exfalso; first | omega | ((try simp only [decide_eq_true_eq, decide_eq_false_iff_not] at h_); omega) | (simp [mulSz, Cont.len, bne] at h_; first | done | omega))); intro _; conv => whnf)
    | (refine tst_in ?_ ?_; rotate_left; (focus (intro h_; exfalso; first | omega | ((try simp only [decide_eq_true_eq, decide_eq_false_iff_not] at h_); omega) | (simp [mulSz, Cont.len, bne] at h_; first | done | omega))); intro _; conv => whnf)
    | (refine ⟨0, (show _ = _ by omega), ?_⟩; conv => whnf))
  refine .inl ⟨(), [], ?_⟩
  conv => whnf
  repeat' (first | exact True.intro | rfl | refine And.intro ?_ ?_)
  all_goals (conv => whnf)
  repeat' (first | exact True.intro | rfl | refine And.intro ?_ ?_)
  all_goals (try omega)
  all_goals exact r2.symm
set_option maxHeartbeats 0 in
set_option maxRecDepth 100000 in
theorem Finite_n {b : Nat} (h : Wild b) : Fits Tryd.prog 37 ⟨[.flt .f64 b], [], [numOut [] (.bool false)]⟩ := by
  refine fits_of_body (C := cfgn 0) (c := (Tryd.f37.body).getD .skip) (ts := [2]) tokL mixedL (fun _ => none) (fun _ => none)
    Tryd.func37 (by kernel_rfl) (by kernel_rfl) (by kernel_rfl) (by kernel_rfl) rfl ?_
  conv => whnf
  repeat (first
    | (refine And.intro ?_ ?_; (focus (first | omega | decide | exact EqOk.mk (by kernel_rfl) (by kernel_rfl) (by kernel_rfl) | exact Int.natCast_nonneg _ | ((repeat' refine And.intro ?_ ?_) <;> first | omega | exact Int.natCast_nonneg _ | (simp only [i64max, u8max, u16max, u32max, u64max]; omega) | (simp only [mulSz_eq, Cont.len, colsLen, Col.len, List.length_cons, List.length_nil, List.length_replicate, List.length_append]; first | done | omega) | (simp [mulSz, Cont.len, bne]; first | done | omega)))); conv => whnf)
    | (refine tst_in ?_ ?_; (focus (intro h_; exfalso; first | omega | ((try simp only [decide_eq_true_eq, decide_eq_false_iff_not] at h_); omega) | (simp [mulSz, Cont.len, bne] at h_; first | done | omega))); intro _; conv => whnf)
    | (refine tst_in ?_ ?_; rotate_left; (focus (intro h_; exfalso; first | omega | ((try simp only [decide_eq_true_eq, decide_eq_false_iff_not] at h_); omega) | (simp [mulSz, Cont.len, bne] at h_; first | done | omega))); intro _; conv => whnf)
    | (refine ⟨0, (show _ = _ by omega), ?_⟩; conv => whnf))
  refine .inr ⟨wild_sub h, fun r s f n _ => ?_⟩
  conv => whnf
  repeat (first
    | (refine And.intro ?_ ?_; (focus (first | omega | decide | exact EqOk.mk (by kernel_rfl) (by kernel_rfl) (by kernel_rfl) | exact Int.natCast_nonneg _ | ((repeat' refine And.intro ?_ ?_) <;> first | omega | exact Int.natCast_nonneg _ | (simp only [i64max, u8max, u16max, u32max, u64max]; omega) | (simp only [mulSz_eq, Cont.len, colsLen, Col.len, List.length_cons, List.length_nil, List.length_replicate, List.length_append]; first | done | omega) | (simp [mulSz, Cont.len, bne]; first | done | omega)))); conv => whnf)
    | (refine tst_in ?_ ?_; (focus (intro h_; exfalso; first | omega | ((try simp only [decide_eq_true_eq, decide_eq_false_iff_not] at h_); omega) | (simp [mulSz, Cont.len, bne] at h_; first | done | omega))); intro _; conv => whnf)
    | (refine tst_in ?_ ?_; rotate_left; (focus (intro h_; exfalso; first | omega | ((try simp only [decide_eq_true_eq, decide_eq_false_iff_not] at h_); omega) | (simp [mulSz, Cont.len, bne] at h_; first | done | omega))); intro _; conv => whnf)
    | (refine ⟨0, (show _ = _ by omega), ?_⟩; conv => whnf))
  refine .inl ⟨(), [], ?_⟩
  conv => whnf
  repeat' (first | exact True.intro | rfl | refine And.intro ?_ ?_)
  all_goals (conv => whnf)
  repeat' (first | exact True.intro | rfl | refine And.intro ?_ ?_)
  all_goals (try omega)
  all_goals exact (Nn.ne ⟨s, f, n⟩).symm
/-- What Split says of a number. -/
def spl (s : Bool) (o k : Nat) (P : Int) : AV := .tup [.int .i64 (if s then -(o : Int) else o), .int .i64 (P + k), .int .i64 0]
set_option maxHeartbeats 0 in
set_option maxRecDepth 100000 in
theorem Split_w {b : Nat} (hb : b < 18446744073709551616) (h : Wild b) : QFits Tryd.prog 24 ⟨[.flt .f64 b], [gS], .tup [.int .i64 0, .int .i64 0, .int .i64 1]⟩ := by
  unfold gS
  rcases h with ⟨s, h⟩ | ⟨s, f, h⟩
  · have N := IsNaN_q b (inf_eq h)
    have I := IsInf_q b hb (inf_gt h)
    refine qfits_of_body (C := cfgk 1) (c := (Tryd.f24.body).getD .skip) (ts := [2, 3, 4]) tokL mixedL (fun _ => none) (fun _ => none)
      Tryd.func24 (by kernel_rfl) (by kernel_rfl) (by kernel_rfl) (by kernel_rfl) (by kernel_rfl) rfl rfl ?_
    conv => whnf
    repeat (first
      | (refine And.intro ?_ ?_; (focus (first | omega | decide | exact EqOk.mk (by kernel_rfl) (by kernel_rfl) (by kernel_rfl) | exact Int.natCast_nonneg _ | ((repeat' refine And.intro ?_ ?_) <;> first | omega | exact Int.natCast_nonneg _ | (simp only [i64max, u8max, u16max, u32max, u64max]; omega) | (simp only [mulSz_eq, Cont.len, colsLen, Col.len, List.length_cons, List.length_nil, List.length_replicate, List.length_append]; first | done | omega) | (simp [mulSz, Cont.len, bne]; first | done | omega)))); conv => whnf)
      | (refine tst_in ?_ ?_; (focus (intro h_; exfalso; first | omega | ((try simp only [decide_eq_true_eq, decide_eq_false_iff_not] at h_); omega) | (simp [mulSz, Cont.len, bne] at h_; first | done | omega))); intro _; conv => whnf)
      | (refine tst_in ?_ ?_; rotate_left; (focus (intro h_; exfalso; first | omega | ((try simp only [decide_eq_true_eq, decide_eq_false_iff_not] at h_); omega) | (simp [mulSz, Cont.len, bne] at h_; first | done | omega))); intro _; conv => whnf)
      | (refine ⟨0, (show _ = _ by omega), ?_⟩; conv => whnf))
    refine ⟨_, [], N, ?_⟩
    conv => whnf
    iterate 2
     refine And.intro ?_ ?_
     focus
      conv => whnf
      repeat' (first | exact True.intro | rfl | refine And.intro ?_ ?_ | omega)
      all_goals (conv => whnf)
      all_goals (try (first | rfl | omega | (simp; done)))
    conv => whnf
    conv => whnf
    repeat (first
      | (refine And.intro ?_ ?_; (focus (first | omega | decide | exact EqOk.mk (by kernel_rfl) (by kernel_rfl) (by kernel_rfl) | exact Int.natCast_nonneg _ | ((repeat' refine And.intro ?_ ?_) <;> first | omega | exact Int.natCast_nonneg _ | (simp only [i64max, u8max, u16max, u32max, u64max]; omega) | (simp only [mulSz_eq, Cont.len, colsLen, Col.len, List.length_cons, List.length_nil, List.length_replicate, List.length_append]; first | done | omega) | (simp [mulSz, Cont.len, bne]; first | done | omega)))); conv => whnf)
      | (refine tst_in ?_ ?_; (focus (intro h_; exfalso; first | omega | ((try simp only [decide_eq_true_eq, decide_eq_false_iff_not] at h_); omega) | (simp [mulSz, Cont.len, bne] at h_; first | done | omega))); intro _; conv => whnf)
      | (refine tst_in ?_ ?_; rotate_left; (focus (intro h_; exfalso; first | omega | ((try simp only [decide_eq_true_eq, decide_eq_false_iff_not] at h_); omega) | (simp [mulSz, Cont.len, bne] at h_; first | done | omega))); intro _; conv => whnf)
      | (refine ⟨0, (show _ = _ by omega), ?_⟩; conv => whnf))
    refine ⟨_, [], I, ?_⟩
    conv => whnf
    iterate 2
     refine And.intro ?_ ?_
     focus
      conv => whnf
      repeat' (first | exact True.intro | rfl | refine And.intro ?_ ?_ | omega)
      all_goals (conv => whnf)
      all_goals (try (first | rfl | omega | (simp; done)))
    conv => whnf
    conv => whnf
    repeat (first
      | (refine And.intro ?_ ?_; (focus (first | omega | decide | exact EqOk.mk (by kernel_rfl) (by kernel_rfl) (by kernel_rfl) | exact Int.natCast_nonneg _ | ((repeat' refine And.intro ?_ ?_) <;> first | omega | exact Int.natCast_nonneg _ | (simp only [i64max, u8max, u16max, u32max, u64max]; omega) | (simp only [mulSz_eq, Cont.len, colsLen, Col.len, List.length_cons, List.length_nil, List.length_replicate, List.length_append]; first | done | omega) | (simp [mulSz, Cont.len, bne]; first | done | omega)))); conv => whnf)
      | (refine tst_in ?_ ?_; (focus (intro h_; exfalso; first | omega | ((try simp only [decide_eq_true_eq, decide_eq_false_iff_not] at h_); omega) | (simp [mulSz, Cont.len, bne] at h_; first | done | omega))); intro _; conv => whnf)
      | (refine tst_in ?_ ?_; rotate_left; (focus (intro h_; exfalso; first | omega | ((try simp only [decide_eq_true_eq, decide_eq_false_iff_not] at h_); omega) | (simp [mulSz, Cont.len, bne] at h_; first | done | omega))); intro _; conv => whnf)
      | (refine ⟨0, (show _ = _ by omega), ?_⟩; conv => whnf))
    conv => whnf
    repeat' (first | exact True.intro | rfl | refine And.intro ?_ ?_)
    all_goals (conv => whnf)
    repeat' (first | exact True.intro | rfl | refine And.intro ?_ ?_)
    all_goals (try omega)
  · have N := IsNaN_q b (nan_neq h)
    refine qfits_of_body (C := cfgk 1) (c := (Tryd.f24.body).getD .skip) (ts := [2, 3, 4]) tokL mixedL (fun _ => none) (fun _ => none)
      Tryd.func24 (by kernel_rfl) (by kernel_rfl) (by kernel_rfl) (by kernel_rfl) (by kernel_rfl) rfl rfl ?_
    conv => whnf
    repeat (first
      | (refine And.intro ?_ ?_; (focus (first | omega | decide | exact EqOk.mk (by kernel_rfl) (by kernel_rfl) (by kernel_rfl) | exact Int.natCast_nonneg _ | ((repeat' refine And.intro ?_ ?_) <;> first | omega | exact Int.natCast_nonneg _ | (simp only [i64max, u8max, u16max, u32max, u64max]; omega) | (simp only [mulSz_eq, Cont.len, colsLen, Col.len, List.length_cons, List.length_nil, List.length_replicate, List.length_append]; first | done | omega) | (simp [mulSz, Cont.len, bne]; first | done | omega)))); conv => whnf)
      | (refine tst_in ?_ ?_; (focus (intro h_; exfalso; first | omega | ((try simp only [decide_eq_true_eq, decide_eq_false_iff_not] at h_); omega) | (simp [mulSz, Cont.len, bne] at h_; first | done | omega))); intro _; conv => whnf)
      | (refine tst_in ?_ ?_; rotate_left; (focus (intro h_; exfalso; first | omega | ((try simp only [decide_eq_true_eq, decide_eq_false_iff_not] at h_); omega) | (simp [mulSz, Cont.len, bne] at h_; first | done | omega))); intro _; conv => whnf)
      | (refine ⟨0, (show _ = _ by omega), ?_⟩; conv => whnf))
    refine ⟨_, [], N, ?_⟩
    conv => whnf
    iterate 2
     refine And.intro ?_ ?_
     focus
      conv => whnf
      repeat' (first | exact True.intro | rfl | refine And.intro ?_ ?_ | omega)
      all_goals (conv => whnf)
      all_goals (try (first | rfl | omega | (simp; done)))
    conv => whnf
    conv => whnf
    repeat (first
      | (refine And.intro ?_ ?_; (focus (first | omega | decide | exact EqOk.mk (by kernel_rfl) (by kernel_rfl) (by kernel_rfl) | exact Int.natCast_nonneg _ | ((repeat' refine And.intro ?_ ?_) <;> first | omega | exact Int.natCast_nonneg _ | (simp only [i64max, u8max, u16max, u32max, u64max]; omega) | (simp only [mulSz_eq, Cont.len, colsLen, Col.len, List.length_cons, List.length_nil, List.length_replicate, List.length_append]; first | done | omega) | (simp [mulSz, Cont.len, bne]; first | done | omega)))); conv => whnf)
      | (refine tst_in ?_ ?_; (focus (intro h_; exfalso; first | omega | ((try simp only [decide_eq_true_eq, decide_eq_false_iff_not] at h_); omega) | (simp [mulSz, Cont.len, bne] at h_; first | done | omega))); intro _; conv => whnf)
      | (refine tst_in ?_ ?_; rotate_left; (focus (intro h_; exfalso; first | omega | ((try simp only [decide_eq_true_eq, decide_eq_false_iff_not] at h_); omega) | (simp [mulSz, Cont.len, bne] at h_; first | done | omega))); intro _; conv => whnf)
      | (refine ⟨0, (show _ = _ by omega), ?_⟩; conv => whnf))
    conv => whnf
    repeat' (first | exact True.intro | rfl | refine And.intro ?_ ?_)
    all_goals (conv => whnf)
    repeat' (first | exact True.intro | rfl | refine And.intro ?_ ?_)
    all_goals (try omega)
end Go.Proofs.YtanogghfdamdcaaDoor

set_option linter.unusedVariables false
set_option linter.unusedSimpArgs false
namespace Go.Proofs.YtanogghfdamdcaaDoor
open Go Go.Fw
set_option exponentiation.threshold 2200
theorem zer_eq {b : Nat} {s : Bool} {m : Nat} {P : Int} (h : D.read b = .number s m P) : (D.order b 0 == some .eq) = decide (m = 0) := by
  rw [V_eqb (V_fin h) V_zer, signed_eq]
  rw [decide_eq_decide]
  have hp := Nat.two_pow_pos (P + 1074).toNat
  rw [pow_nat]
  generalize (2 : Nat) ^ (P + 1074).toNat = B at *
  rw [← Int.natCast_mul]
  have hz : m * B = 0 ↔ m = 0 := by rw [Nat.mul_eq_zero]; omega
  rw [← hz]
  generalize m * B = y
  cases s <;> simp <;> omega
theorem zer_lt {b : Nat} {s : Bool} {m : Nat} {P : Int} (h : D.read b = .number s m P) (hm : 0 < m) : (D.order b 0 == some .lt) = s := by
  rw [V_ltb (V_fin h) V_zer, signed_eq]
  have hp := Nat.two_pow_pos (P + 1074).toNat
  rw [pow_nat]
  generalize (2 : Nat) ^ (P + 1074).toNat = B at *
  rw [← Int.natCast_mul]
  have hz : 0 < m * B := Nat.mul_pos hm hp
  generalize m * B = y at *
  cases s
  · exact decide_eq_false (by simp <;> omega)
  · exact decide_eq_true (by simp <;> omega)
theorem and52 {b : Nat} (hb : b < 18446744073709551616) : rawBits .and .u64 b 4503599627370495 = ((b % 4503599627370496 : Nat) : Int) := by
  have := and_u b 4503599627370495 hb (by decide)
  rw [show ((4503599627370495 : Nat) : Int) = 4503599627370495 from rfl, show (4503599627370495 : Nat) = 2 ^ 52 - 1 by decide, Nat.and_two_pow_sub_one_eq_mod] at this
  exact this
theorem and11 {b : Nat} (hb : b < 18446744073709551616) : rawBits .and .u64 b 2047 = ((b % 2048 : Nat) : Int) := by
  have := and_u b 2047 hb (by decide)
  rw [show ((2047 : Nat) : Int) = 2047 from rfl, show (2047 : Nat) = 2 ^ 11 - 1 by decide, Nat.and_two_pow_sub_one_eq_mod] at this
  exact this
theorem or52 {x : Nat} (hx : x < 4503599627370496) : rawBits .or .u64 x 4503599627370496 = ((4503599627370496 + x : Nat) : Int) := by
  have := or_u x 4503599627370496 (by omega) (by decide)
  rw [show ((4503599627370496 : Nat) : Int) = 4503599627370496 from rfl] at this
  rw [this]
  congr 1
  have e := Nat.two_pow_add_eq_or_of_lt (i := 52) (b := x) (by omega) 1
  rw [Nat.or_comm, show (4503599627370496 : Nat) = 2 ^ 52 * 1 by decide, ← e]
set_option maxHeartbeats 0 in
set_option maxRecDepth 100000 in
theorem Split_z {b : Nat} (hb : b < 18446744073709551616) {s : Bool} {P : Int} (h : D.read b = .number s 0 P) : QFits Tryd.prog 24 ⟨[.flt .f64 b], [gS], .tup [.int .i64 0, .int .i64 0, .int .i64 0]⟩ := by
  have N := IsNaN_q b (num_eq h)
  have I := IsInf_q b hb (max_abs hb h)
  have z : (D.order b 0 == some .eq) = true := zer_eq h
  unfold gS
  refine qfits_of_body (C := cfgk 1) (c := (Tryd.f24.body).getD .skip) (ts := [2, 3, 4]) tokL mixedL (fun _ => none) (fun _ => none)
    Tryd.func24 (by kernel_rfl) (by kernel_rfl) (by kernel_rfl) (by kernel_rfl) (by kernel_rfl) rfl rfl ?_
  conv => whnf
  repeat (first
    | (refine And.intro ?_ ?_; (focus (first | omega | decide | exact EqOk.mk (by kernel_rfl) (by kernel_rfl) (by kernel_rfl) | exact Int.natCast_nonneg _ | ((repeat' refine And.intro ?_ ?_) <;> first | omega | exact Int.natCast_nonneg _ | (simp only [i64max, u8max, u16max, u32max, u64max]; omega) | (simp only [mulSz_eq, Cont.len, colsLen, Col.len, List.length_cons, List.length_nil, List.length_replicate, List.length_append]; first | done | omega) | (simp [mulSz, Cont.len, bne]; first | done | omega)))); conv => whnf)
    | (refine tst_in ?_ ?_; (focus (intro h_; exfalso; first | omega | ((try simp only [decide_eq_true_eq, decide_eq_false_iff_not] at h_); omega) | (simp [mulSz, Cont.len, bne] at h_; first | done | omega))); intro _; conv => whnf)
    | (refine tst_in ?_ ?_; rotate_left; (focus (intro h_; exfalso; first | omega | ((try simp only [decide_eq_true_eq, decide_eq_false_iff_not] at h_); omega) | (simp [mulSz, Cont.len, bne] at h_; first | done | omega))); intro _; conv => whnf)
    | (refine ⟨0, (show _ = _ by omega), ?_⟩; conv => whnf))
  refine ⟨_, [], N, ?_⟩
  conv => whnf
  iterate 2
   refine And.intro ?_ ?_
   focus
    conv => whnf
    repeat' (first | exact True.intro | rfl | refine And.intro ?_ ?_ | omega)
    all_goals (conv => whnf)
    all_goals (try (first | rfl | omega | (simp; done)))
  conv => whnf
  conv => whnf
  repeat (first
    | (refine And.intro ?_ ?_; (focus (first | omega | decide | exact EqOk.mk (by kernel_rfl) (by kernel_rfl) (by kernel_rfl) | exact Int.natCast_nonneg _ | ((repeat' refine And.intro ?_ ?_) <;> first | omega | exact Int.natCast_nonneg _ | (simp only [i64max, u8max, u16max, u32max, u64max]; omega) | (simp only [mulSz_eq, Cont.len, colsLen, Col.len, List.length_cons, List.length_nil, List.length_replicate, List.length_append]; first | done | omega) | (simp [mulSz, Cont.len, bne]; first | done | omega)))); conv => whnf)
    | (refine tst_in ?_ ?_; (focus (intro h_; exfalso; first | omega | ((try simp only [decide_eq_true_eq, decide_eq_false_iff_not] at h_); omega) | (simp [mulSz, Cont.len, bne] at h_; first | done | omega))); intro _; conv => whnf)
    | (refine tst_in ?_ ?_; rotate_left; (focus (intro h_; exfalso; first | omega | ((try simp only [decide_eq_true_eq, decide_eq_false_iff_not] at h_); omega) | (simp [mulSz, Cont.len, bne] at h_; first | done | omega))); intro _; conv => whnf)
    | (refine ⟨0, (show _ = _ by omega), ?_⟩; conv => whnf))
  refine ⟨_, [], I, ?_⟩
  conv => whnf
  iterate 2
   refine And.intro ?_ ?_
   focus
    conv => whnf
    repeat' (first | exact True.intro | rfl | refine And.intro ?_ ?_ | omega)
    all_goals (conv => whnf)
    all_goals (try (first | rfl | omega | (simp; done)))
  conv => whnf
  conv => whnf
  repeat (first
    | (refine And.intro ?_ ?_; (focus (first | omega | decide | exact EqOk.mk (by kernel_rfl) (by kernel_rfl) (by kernel_rfl) | exact Int.natCast_nonneg _ | ((repeat' refine And.intro ?_ ?_) <;> first | omega | exact Int.natCast_nonneg _ | (simp only [i64max, u8max, u16max, u32max, u64max]; omega) | (simp only [mulSz_eq, Cont.len, colsLen, Col.len, List.length_cons, List.length_nil, List.length_replicate, List.length_append]; first | done | omega) | (simp [mulSz, Cont.len, bne]; first | done | omega)))); conv => whnf)
    | (refine tst_in ?_ ?_; (focus (intro h_; exfalso; first | omega | ((try simp only [decide_eq_true_eq, decide_eq_false_iff_not] at h_); omega) | (simp [mulSz, Cont.len, bne] at h_; first | done | omega))); intro _; conv => whnf)
    | (refine tst_in ?_ ?_; rotate_left; (focus (intro h_; exfalso; first | omega | ((try simp only [decide_eq_true_eq, decide_eq_false_iff_not] at h_); omega) | (simp [mulSz, Cont.len, bne] at h_; first | done | omega))); intro _; conv => whnf)
    | (refine ⟨0, (show _ = _ by omega), ?_⟩; conv => whnf))
  refine tst_in (fun u => ?_) (fun u => absurd (z.symm.trans u) (by decide))
  conv => whnf
  repeat (first
    | (refine And.intro ?_ ?_; (focus (first | omega | decide | exact EqOk.mk (by kernel_rfl) (by kernel_rfl) (by kernel_rfl) | exact Int.natCast_nonneg _ | ((repeat' refine And.intro ?_ ?_) <;> first | omega | exact Int.natCast_nonneg _ | (simp only [i64max, u8max, u16max, u32max, u64max]; omega) | (simp only [mulSz_eq, Cont.len, colsLen, Col.len, List.length_cons, List.length_nil, List.length_replicate, List.length_append]; first | done | omega) | (simp [mulSz, Cont.len, bne]; first | done | omega)))); conv => whnf)
    | (refine tst_in ?_ ?_; (focus (intro h_; exfalso; first | omega | ((try simp only [decide_eq_true_eq, decide_eq_false_iff_not] at h_); omega) | (simp [mulSz, Cont.len, bne] at h_; first | done | omega))); intro _; conv => whnf)
    | (refine tst_in ?_ ?_; rotate_left; (focus (intro h_; exfalso; first | omega | ((try simp only [decide_eq_true_eq, decide_eq_false_iff_not] at h_); omega) | (simp [mulSz, Cont.len, bne] at h_; first | done | omega))); intro _; conv => whnf)
    | (refine ⟨0, (show _ = _ by omega), ?_⟩; conv => whnf))
  conv => whnf
  repeat' (first | exact True.intro | rfl | refine And.intro ?_ ?_)
  all_goals (conv => whnf)
  repeat' (first | exact True.intro | rfl | refine And.intro ?_ ?_)
  all_goals (try omega)
set_option maxHeartbeats 0 in
set_option maxRecDepth 100000 in
theorem Split_y {b o k : Nat} (hb : b < 18446744073709551616) {s : Bool} {m : Nat} {P : Int} (h : D.read b = .number s m P) (hm : m = o * 2 ^ k) (ho : o % 2 = 1) : QFits Tryd.prog 24 ⟨[.flt .f64 b], [gS], spl s o k P⟩ := by
  have N := IsNaN_q b (num_eq h)
  have I := IsInf_q b hb (max_abs hb h)
  have hk := Nat.two_pow_pos k
  have hm0 : 0 < m := by rw [hm]; exact Nat.mul_pos (by omega) hk
  have z : (D.order b 0 == some .eq) = false := by rw [zer_eq h]; exact decide_eq_false (by omega)
  obtain ⟨hs, k1, k2⟩ := bits_of hb h
  have BF := bf_x b
  have A1 := and52 hb
  have A2 : rawBits .and .u64 ((b / 4503599627370496 : Nat) : Int) 2047 = _ := and11 (b := b / 4503599627370496) (by omega)
  have TZ := TZ_q hm ho (by omega)
  have hk52 : k ≤ 52 := by
    refine Classical.byContradiction fun q => ?_
    have h1 : (2 : Nat) ^ 53 ≤ 2 ^ k := Nat.pow_le_pow_right (by decide) (by omega)
    have h2 : 1 * 2 ^ k ≤ o * 2 ^ k := Nat.mul_le_mul_right _ (by omega)
    omega
  have ho2 : o ≤ m := by rw [hm]; exact Nat.le_mul_of_pos_right _ hk
  have SH : (m : Int) / 2 ^ min ((k : Int)).toNat IntKind.u64.bits = (o : Int) := by
    rw [show min ((k : Int)).toNat IntKind.u64.bits = k from Nat.min_eq_left (by show k ≤ 64; omega), pow_nat, ← Int.natCast_ediv, hm, Nat.mul_div_cancel _ hk]
  have LT := zer_lt h hm0
  have WO : IntKind.i64.wrap (o : Int) = (o : Int) := wrap_i64 (by show (-9223372036854775808 : Int) ≤ (o : Int) ∧ (o : Int) ≤ 9223372036854775807; omega)
  unfold gS at *
  refine qfits_of_body (C := cfgk 1) (c := (Tryd.f24.body).getD .skip) (ts := [2, 3, 4]) tokL mixedL (fun _ => none) (fun _ => none)
    Tryd.func24 (by kernel_rfl) (by kernel_rfl) (by kernel_rfl) (by kernel_rfl) (by kernel_rfl) rfl rfl ?_
  conv => whnf
  repeat (first
    | (refine And.intro ?_ ?_; (focus (first | omega | decide | exact EqOk.mk (by kernel_rfl) (by kernel_rfl) (by kernel_rfl) | exact Int.natCast_nonneg _ | ((repeat' refine And.intro ?_ ?_) <;> first | omega | exact Int.natCast_nonneg _ | (simp only [i64max, u8max, u16max, u32max, u64max]; omega) | (simp only [mulSz_eq, Cont.len, colsLen, Col.len, List.length_cons, List.length_nil, List.length_replicate, List.length_append]; first | done | omega) | (simp [mulSz, Cont.len, bne]; first | done | omega)))); conv => whnf)
    | (refine tst_in ?_ ?_; (focus (intro h_; exfalso; first | omega | ((try simp only [decide_eq_true_eq, decide_eq_false_iff_not] at h_); omega) | (simp [mulSz, Cont.len, bne] at h_; first | done | omega))); intro _; conv => whnf)
    | (refine tst_in ?_ ?_; rotate_left; (focus (intro h_; exfalso; first | omega | ((try simp only [decide_eq_true_eq, decide_eq_false_iff_not] at h_); omega) | (simp [mulSz, Cont.len, bne] at h_; first | done | omega))); intro _; conv => whnf)
    | (refine ⟨0, (show _ = _ by omega), ?_⟩; conv => whnf))
  refine ⟨_, [], N, ?_⟩
  conv => whnf
  iterate 2
   refine And.intro ?_ ?_
   focus
    conv => whnf
    repeat' (first | exact True.intro | rfl | refine And.intro ?_ ?_ | omega)
    all_goals (conv => whnf)
    all_goals (try (first | rfl | omega | (simp; done)))
  conv => whnf
  conv => whnf
  repeat (first
    | (refine And.intro ?_ ?_; (focus (first | omega | decide | exact EqOk.mk (by kernel_rfl) (by kernel_rfl) (by kernel_rfl) | exact Int.natCast_nonneg _ | ((repeat' refine And.intro ?_ ?_) <;> first | omega | exact Int.natCast_nonneg _ | (simp only [i64max, u8max, u16max, u32max, u64max]; omega) | (simp only [mulSz_eq, Cont.len, colsLen, Col.len, List.length_cons, List.length_nil, List.length_replicate, List.length_append]; first | done | omega) | (simp [mulSz, Cont.len, bne]; first | done | omega)))); conv => whnf)
    | (refine tst_in ?_ ?_; (focus (intro h_; exfalso; first | omega | ((try simp only [decide_eq_true_eq, decide_eq_false_iff_not] at h_); omega) | (simp [mulSz, Cont.len, bne] at h_; first | done | omega))); intro _; conv => whnf)
    | (refine tst_in ?_ ?_; rotate_left; (focus (intro h_; exfalso; first | omega | ((try simp only [decide_eq_true_eq, decide_eq_false_iff_not] at h_); omega) | (simp [mulSz, Cont.len, bne] at h_; first | done | omega))); intro _; conv => whnf)
    | (refine ⟨0, (show _ = _ by omega), ?_⟩; conv => whnf))
  refine ⟨_, [], I, ?_⟩
  conv => whnf
  iterate 2
   refine And.intro ?_ ?_
   focus
    conv => whnf
    repeat' (first | exact True.intro | rfl | refine And.intro ?_ ?_ | omega)
    all_goals (conv => whnf)
    all_goals (try (first | rfl | omega | (simp; done)))
  conv => whnf
  conv => whnf
  repeat (first
    | (refine And.intro ?_ ?_; (focus (first | omega | decide | exact EqOk.mk (by kernel_rfl) (by kernel_rfl) (by kernel_rfl) | exact Int.natCast_nonneg _ | ((repeat' refine And.intro ?_ ?_) <;> first | omega | exact Int.natCast_nonneg _ | (simp only [i64max, u8max, u16max, u32max, u64max]; omega) | (simp only [mulSz_eq, Cont.len, colsLen, Col.len, List.length_cons, List.length_nil, List.length_replicate, List.length_append]; first | done | omega) | (simp [mulSz, Cont.len, bne]; first | done | omega)))); conv => whnf)
    | (refine tst_in ?_ ?_; (focus (intro h_; exfalso; first | omega | ((try simp only [decide_eq_true_eq, decide_eq_false_iff_not] at h_); omega) | (simp [mulSz, Cont.len, bne] at h_; first | done | omega))); intro _; conv => whnf)
    | (refine tst_in ?_ ?_; rotate_left; (focus (intro h_; exfalso; first | omega | ((try simp only [decide_eq_true_eq, decide_eq_false_iff_not] at h_); omega) | (simp [mulSz, Cont.len, bne] at h_; first | done | omega))); intro _; conv => whnf)
    | (refine ⟨0, (show _ = _ by omega), ?_⟩; conv => whnf))
  refine tst_in (fun u => absurd (z.symm.trans u) (by decide)) (fun u => ?_)
  conv => whnf
  repeat (first
    | (refine And.intro ?_ ?_; (focus (first | omega | decide | exact EqOk.mk (by kernel_rfl) (by kernel_rfl) (by kernel_rfl) | exact Int.natCast_nonneg _ | ((repeat' refine And.intro ?_ ?_) <;> first | omega | exact Int.natCast_nonneg _ | (simp only [i64max, u8max, u16max, u32max, u64max]; omega) | (simp only [mulSz_eq, Cont.len, colsLen, Col.len, List.length_cons, List.length_nil, List.length_replicate, List.length_append]; first | done | omega) | (simp [mulSz, Cont.len, bne]; first | done | omega)))); conv => whnf)
    | (refine tst_in ?_ ?_; (focus (intro h_; exfalso; first | omega | ((try simp only [decide_eq_true_eq, decide_eq_false_iff_not] at h_); omega) | (simp [mulSz, Cont.len, bne] at h_; first | done | omega))); intro _; conv => whnf)
    | (refine tst_in ?_ ?_; rotate_left; (focus (intro h_; exfalso; first | omega | ((try simp only [decide_eq_true_eq, decide_eq_false_iff_not] at h_); omega) | (simp [mulSz, Cont.len, bne] at h_; first | done | omega))); intro _; conv => whnf)
    | (refine ⟨0, (show _ = _ by omega), ?_⟩; conv => whnf))
  refine ⟨_, _, BF, rfl, ?_⟩
  conv => whnf
  conv => whnf
  repeat (first
    | (refine And.intro ?_ ?_; (focus (first | omega | decide | exact EqOk.mk (by kernel_rfl) (by kernel_rfl) (by kernel_rfl) | exact Int.natCast_nonneg _ | ((repeat' refine And.intro ?_ ?_) <;> first | omega | exact Int.natCast_nonneg _ | (simp only [i64max, u8max, u16max, u32max, u64max]; omega) | (simp only [mulSz_eq, Cont.len, colsLen, Col.len, List.length_cons, List.length_nil, List.length_replicate, List.length_append]; first | done | omega) | (simp [mulSz, Cont.len, bne]; first | done | omega)))); conv => whnf)
    | (refine tst_in ?_ ?_; (focus (intro h_; exfalso; first | omega | ((try simp only [decide_eq_true_eq, decide_eq_false_iff_not] at h_); omega) | (simp [mulSz, Cont.len, bne] at h_; first | done | omega))); intro _; conv => whnf)
    | (refine tst_in ?_ ?_; rotate_left; (focus (intro h_; exfalso; first | omega | ((try simp only [decide_eq_true_eq, decide_eq_false_iff_not] at h_); omega) | (simp [mulSz, Cont.len, bne] at h_; first | done | omega))); intro _; conv => whnf)
    | (refine ⟨0, (show _ = _ by omega), ?_⟩; conv => whnf))
  rw [show (b : Int) / 2 ^ min (Int.toNat 52) IntKind.u64.bits = ((b / 4503599627370496 : Nat) : Int) from by rw [Int.natCast_ediv]; rfl, A2, A1, wrap_i64 (by show (-9223372036854775808 : Int) ≤ ((b / 4503599627370496 % 2048 : Nat) : Int) ∧ ((b / 4503599627370496 % 2048 : Nat) : Int) ≤ 9223372036854775807; omega)]
  have hx : b % 4503599627370496 < 4503599627370496 := by omega
  have OR := or52 hx
  generalize b % 4503599627370496 = x at *
  generalize b / 4503599627370496 % 2048 = e at *
  rcases k2 with ⟨q1, q2, q3⟩ | ⟨q1, q2, q3⟩
  · subst q1
    conv => whnf
    repeat (first
      | (refine And.intro ?_ ?_; (focus (first | omega | decide | exact EqOk.mk (by kernel_rfl) (by kernel_rfl) (by kernel_rfl) | exact Int.natCast_nonneg _ | ((repeat' refine And.intro ?_ ?_) <;> first | omega | exact Int.natCast_nonneg _ | (simp only [i64max, u8max, u16max, u32max, u64max]; omega) | (simp only [mulSz_eq, Cont.len, colsLen, Col.len, List.length_cons, List.length_nil, List.length_replicate, List.length_append]; first | done | omega) | (simp [mulSz, Cont.len, bne]; first | done | omega)))); conv => whnf)
      | (refine tst_in ?_ ?_; (focus (intro h_; exfalso; first | omega | ((try simp only [decide_eq_true_eq, decide_eq_false_iff_not] at h_); omega) | (simp [mulSz, Cont.len, bne] at h_; first | done | omega))); intro _; conv => whnf)
      | (refine tst_in ?_ ?_; rotate_left; (focus (intro h_; exfalso; first | omega | ((try simp only [decide_eq_true_eq, decide_eq_false_iff_not] at h_); omega) | (simp [mulSz, Cont.len, bne] at h_; first | done | omega))); intro _; conv => whnf)
      | (refine ⟨0, (show _ = _ by omega), ?_⟩; conv => whnf))
    subst q2
    refine ⟨_, [0], TZ, ?_⟩
    conv => whnf
    iterate 2
     refine And.intro ?_ ?_
     focus
      conv => whnf
      repeat' (first | exact True.intro | rfl | refine And.intro ?_ ?_)
      all_goals (conv => whnf)
      repeat' (first | exact True.intro | rfl | refine And.intro ?_ ?_)
      all_goals (try (first | rfl | omega | (simp; first | done | omega)))
    conv => whnf
    conv => whnf
    repeat (first
      | (refine And.intro ?_ ?_; (focus (first | omega | decide | exact EqOk.mk (by kernel_rfl) (by kernel_rfl) (by kernel_rfl) | exact Int.natCast_nonneg _ | ((repeat' refine And.intro ?_ ?_) <;> first | omega | exact Int.natCast_nonneg _ | (simp only [i64max, u8max, u16max, u32max, u64max]; omega) | (simp only [mulSz_eq, Cont.len, colsLen, Col.len, List.length_cons, List.length_nil, List.length_replicate, List.length_append]; first | done | omega) | (simp [mulSz, Cont.len, bne]; first | done | omega)))); conv => whnf)
      | (refine tst_in ?_ ?_; (focus (intro h_; exfalso; first | omega | ((try simp only [decide_eq_true_eq, decide_eq_false_iff_not] at h_); omega) | (simp [mulSz, Cont.len, bne] at h_; first | done | omega))); intro _; conv => whnf)
      | (refine tst_in ?_ ?_; rotate_left; (focus (intro h_; exfalso; first | omega | ((try simp only [decide_eq_true_eq, decide_eq_false_iff_not] at h_); omega) | (simp [mulSz, Cont.len, bne] at h_; first | done | omega))); intro _; conv => whnf)
      | (refine ⟨0, (show _ = _ by omega), ?_⟩; conv => whnf))
    rw [SH]
    conv => whnf
    repeat (first
      | (refine And.intro ?_ ?_; (focus (first | omega | decide | exact EqOk.mk (by kernel_rfl) (by kernel_rfl) (by kernel_rfl) | exact Int.natCast_nonneg _ | ((repeat' refine And.intro ?_ ?_) <;> first | omega | exact Int.natCast_nonneg _ | (simp only [i64max, u8max, u16max, u32max, u64max]; omega) | (simp only [mulSz_eq, Cont.len, colsLen, Col.len, List.length_cons, List.length_nil, List.length_replicate, List.length_append]; first | done | omega) | (simp [mulSz, Cont.len, bne]; first | done | omega)))); conv => whnf)
      | (refine tst_in ?_ ?_; (focus (intro h_; exfalso; first | omega | ((try simp only [decide_eq_true_eq, decide_eq_false_iff_not] at h_); omega) | (simp [mulSz, Cont.len, bne] at h_; first | done | omega))); intro _; conv => whnf)
      | (refine tst_in ?_ ?_; rotate_left; (focus (intro h_; exfalso; first | omega | ((try simp only [decide_eq_true_eq, decide_eq_false_iff_not] at h_); omega) | (simp [mulSz, Cont.len, bne] at h_; first | done | omega))); intro _; conv => whnf)
      | (refine ⟨0, (show _ = _ by omega), ?_⟩; conv => whnf))
    clear hs
    cases s
    · refine tst_in (fun u => absurd (LT.symm.trans u) (by decide)) (fun u => ?_)
      conv => whnf
      repeat (first
        | (refine And.intro ?_ ?_; (focus (first | omega | decide | exact EqOk.mk (by kernel_rfl) (by kernel_rfl) (by kernel_rfl) | exact Int.natCast_nonneg _ | ((repeat' refine And.intro ?_ ?_) <;> first | omega | exact Int.natCast_nonneg _ | (simp only [i64max, u8max, u16max, u32max, u64max]; omega) | (simp only [mulSz_eq, Cont.len, colsLen, Col.len, List.length_cons, List.length_nil, List.length_replicate, List.length_append]; first | done | omega) | (simp [mulSz, Cont.len, bne]; first | done | omega)))); conv => whnf)
        | (refine tst_in ?_ ?_; (focus (intro h_; exfalso; first | omega | ((try simp only [decide_eq_true_eq, decide_eq_false_iff_not] at h_); omega) | (simp [mulSz, Cont.len, bne] at h_; first | done | omega))); intro _; conv => whnf)
        | (refine tst_in ?_ ?_; rotate_left; (focus (intro h_; exfalso; first | omega | ((try simp only [decide_eq_true_eq, decide_eq_false_iff_not] at h_); omega) | (simp [mulSz, Cont.len, bne] at h_; first | done | omega))); intro _; conv => whnf)
        | (refine ⟨0, (show _ = _ by omega), ?_⟩; conv => whnf))
      conv => whnf
      repeat' (first | exact True.intro | rfl | refine And.intro ?_ ?_)
      all_goals (conv => whnf)
      repeat' (first | exact True.intro | rfl | refine And.intro ?_ ?_)
      all_goals (try omega)
      all_goals (rw [WO]; rfl)
    · refine tst_in (fun u => ?_) (fun u => absurd (LT.symm.trans u) (by decide))
      conv => whnf
      repeat (first
        | (refine And.intro ?_ ?_; (focus (first | omega | decide | exact EqOk.mk (by kernel_rfl) (by kernel_rfl) (by kernel_rfl) | exact Int.natCast_nonneg _ | ((repeat' refine And.intro ?_ ?_) <;> first | omega | exact Int.natCast_nonneg _ | (simp only [i64max, u8max, u16max, u32max, u64max]; omega) | (simp only [mulSz_eq, Cont.len, colsLen, Col.len, List.length_cons, List.length_nil, List.length_replicate, List.length_append]; first | done | omega) | (simp [mulSz, Cont.len, bne]; first | done | omega)))); conv => whnf)
        | (refine tst_in ?_ ?_; (focus (intro h_; exfalso; first | omega | ((try simp only [decide_eq_true_eq, decide_eq_false_iff_not] at h_); omega) | (simp [mulSz, Cont.len, bne] at h_; first | done | omega))); intro _; conv => whnf)
        | (refine tst_in ?_ ?_; rotate_left; (focus (intro h_; exfalso; first | omega | ((try simp only [decide_eq_true_eq, decide_eq_false_iff_not] at h_); omega) | (simp [mulSz, Cont.len, bne] at h_; first | done | omega))); intro _; conv => whnf)
        | (refine ⟨0, (show _ = _ by omega), ?_⟩; conv => whnf))
      conv => whnf
      repeat' (first | exact True.intro | rfl | refine And.intro ?_ ?_)
      all_goals (conv => whnf)
      repeat' (first | exact True.intro | rfl | refine And.intro ?_ ?_)
      all_goals (try omega)
      all_goals (rw [WO, Int.zero_sub]; rfl)
  · refine tst_in (fun u => ?_) (fun u => False.elim (by have := @of_decide_eq_false _ (dLt _ _) u; omega))
    conv => whnf
    repeat (first
      | (refine And.intro ?_ ?_; (focus (first | omega | decide | exact EqOk.mk (by kernel_rfl) (by kernel_rfl) (by kernel_rfl) | exact Int.natCast_nonneg _ | ((repeat' refine And.intro ?_ ?_) <;> first | omega | exact Int.natCast_nonneg _ | (simp only [i64max, u8max, u16max, u32max, u64max]; omega) | (simp only [mulSz_eq, Cont.len, colsLen, Col.len, List.length_cons, List.length_nil, List.length_replicate, List.length_append]; first | done | omega) | (simp [mulSz, Cont.len, bne]; first | done | omega)))); conv => whnf)
      | (refine tst_in ?_ ?_; (focus (intro h_; exfalso; first | omega | ((try simp only [decide_eq_true_eq, decide_eq_false_iff_not] at h_); omega) | (simp [mulSz, Cont.len, bne] at h_; first | done | omega))); intro _; conv => whnf)
      | (refine tst_in ?_ ?_; rotate_left; (focus (intro h_; exfalso; first | omega | ((try simp only [decide_eq_true_eq, decide_eq_false_iff_not] at h_); omega) | (simp [mulSz, Cont.len, bne] at h_; first | done | omega))); intro _; conv => whnf)
      | (refine ⟨0, (show _ = _ by omega), ?_⟩; conv => whnf))
    rw [OR, ← q2]
    conv => whnf
    repeat (first
      | (refine And.intro ?_ ?_; (focus (first | omega | decide | exact EqOk.mk (by kernel_rfl) (by kernel_rfl) (by kernel_rfl) | exact Int.natCast_nonneg _ | ((repeat' refine And.intro ?_ ?_) <;> first | omega | exact Int.natCast_nonneg _ | (simp only [i64max, u8max, u16max, u32max, u64max]; omega) | (simp only [mulSz_eq, Cont.len, colsLen, Col.len, List.length_cons, List.length_nil, List.length_replicate, List.length_append]; first | done | omega) | (simp [mulSz, Cont.len, bne]; first | done | omega)))); conv => whnf)
      | (refine tst_in ?_ ?_; (focus (intro h_; exfalso; first | omega | ((try simp only [decide_eq_true_eq, decide_eq_false_iff_not] at h_); omega) | (simp [mulSz, Cont.len, bne] at h_; first | done | omega))); intro _; conv => whnf)
      | (refine tst_in ?_ ?_; rotate_left; (focus (intro h_; exfalso; first | omega | ((try simp only [decide_eq_true_eq, decide_eq_false_iff_not] at h_); omega) | (simp [mulSz, Cont.len, bne] at h_; first | done | omega))); intro _; conv => whnf)
      | (refine ⟨0, (show _ = _ by omega), ?_⟩; conv => whnf))
    refine ⟨_, [0], TZ, ?_⟩
    conv => whnf
    iterate 2
     refine And.intro ?_ ?_
     focus
      conv => whnf
      repeat' (first | exact True.intro | rfl | refine And.intro ?_ ?_)
      all_goals (conv => whnf)
      repeat' (first | exact True.intro | rfl | refine And.intro ?_ ?_)
      all_goals (try (first | rfl | omega | (simp; first | done | omega)))
    conv => whnf
    conv => whnf
    repeat (first
      | (refine And.intro ?_ ?_; (focus (first | omega | decide | exact EqOk.mk (by kernel_rfl) (by kernel_rfl) (by kernel_rfl) | exact Int.natCast_nonneg _ | ((repeat' refine And.intro ?_ ?_) <;> first | omega | exact Int.natCast_nonneg _ | (simp only [i64max, u8max, u16max, u32max, u64max]; omega) | (simp only [mulSz_eq, Cont.len, colsLen, Col.len, List.length_cons, List.length_nil, List.length_replicate, List.length_append]; first | done | omega) | (simp [mulSz, Cont.len, bne]; first | done | omega)))); conv => whnf)
      | (refine tst_in ?_ ?_; (focus (intro h_; exfalso; first | omega | ((try simp only [decide_eq_true_eq, decide_eq_false_iff_not] at h_); omega) | (simp [mulSz, Cont.len, bne] at h_; first | done | omega))); intro _; conv => whnf)
      | (refine tst_in ?_ ?_; rotate_left; (focus (intro h_; exfalso; first | omega | ((try simp only [decide_eq_true_eq, decide_eq_false_iff_not] at h_); omega) | (simp [mulSz, Cont.len, bne] at h_; first | done | omega))); intro _; conv => whnf)
      | (refine ⟨0, (show _ = _ by omega), ?_⟩; conv => whnf))
    rw [SH]
    conv => whnf
    repeat (first
      | (refine And.intro ?_ ?_; (focus (first | omega | decide | exact EqOk.mk (by kernel_rfl) (by kernel_rfl) (by kernel_rfl) | exact Int.natCast_nonneg _ | ((repeat' refine And.intro ?_ ?_) <;> first | omega | exact Int.natCast_nonneg _ | (simp only [i64max, u8max, u16max, u32max, u64max]; omega) | (simp only [mulSz_eq, Cont.len, colsLen, Col.len, List.length_cons, List.length_nil, List.length_replicate, List.length_append]; first | done | omega) | (simp [mulSz, Cont.len, bne]; first | done | omega)))); conv => whnf)
      | (refine tst_in ?_ ?_; (focus (intro h_; exfalso; first | omega | ((try simp only [decide_eq_true_eq, decide_eq_false_iff_not] at h_); omega) | (simp [mulSz, Cont.len, bne] at h_; first | done | omega))); intro _; conv => whnf)
      | (refine tst_in ?_ ?_; rotate_left; (focus (intro h_; exfalso; first | omega | ((try simp only [decide_eq_true_eq, decide_eq_false_iff_not] at h_); omega) | (simp [mulSz, Cont.len, bne] at h_; first | done | omega))); intro _; conv => whnf)
      | (refine ⟨0, (show _ = _ by omega), ?_⟩; conv => whnf))
    clear hs
    cases s
    · refine tst_in (fun u => absurd (LT.symm.trans u) (by decide)) (fun u => ?_)
      conv => whnf
      repeat (first
        | (refine And.intro ?_ ?_; (focus (first | omega | decide | exact EqOk.mk (by kernel_rfl) (by kernel_rfl) (by kernel_rfl) | exact Int.natCast_nonneg _ | ((repeat' refine And.intro ?_ ?_) <;> first | omega | exact Int.natCast_nonneg _ | (simp only [i64max, u8max, u16max, u32max, u64max]; omega) | (simp only [mulSz_eq, Cont.len, colsLen, Col.len, List.length_cons, List.length_nil, List.length_replicate, List.length_append]; first | done | omega) | (simp [mulSz, Cont.len, bne]; first | done | omega)))); conv => whnf)
        | (refine tst_in ?_ ?_; (focus (intro h_; exfalso; first | omega | ((try simp only [decide_eq_true_eq, decide_eq_false_iff_not] at h_); omega) | (simp [mulSz, Cont.len, bne] at h_; first | done | omega))); intro _; conv => whnf)
        | (refine tst_in ?_ ?_; rotate_left; (focus (intro h_; exfalso; first | omega | ((try simp only [decide_eq_true_eq, decide_eq_false_iff_not] at h_); omega) | (simp [mulSz, Cont.len, bne] at h_; first | done | omega))); intro _; conv => whnf)
        | (refine ⟨0, (show _ = _ by omega), ?_⟩; conv => whnf))
      conv => whnf
      repeat' (first | exact True.intro | rfl | refine And.intro ?_ ?_)
      all_goals (conv => whnf)
      repeat' (first | exact True.intro | rfl | refine And.intro ?_ ?_)
      all_goals (try omega)
      all_goals (rw [WO]; rfl)
    · refine tst_in (fun u => ?_) (fun u => absurd (LT.symm.trans u) (by decide))
      conv => whnf
      repeat (first
        | (refine And.intro ?_ ?_; (focus (first | omega | decide | exact EqOk.mk (by kernel_rfl) (by kernel_rfl) (by kernel_rfl) | exact Int.natCast_nonneg _ | ((repeat' refine And.intro ?_ ?_) <;> first | omega | exact Int.natCast_nonneg _ | (simp only [i64max, u8max, u16max, u32max, u64max]; omega) | (simp only [mulSz_eq, Cont.len, colsLen, Col.len, List.length_cons, List.length_nil, List.length_replicate, List.length_append]; first | done | omega) | (simp [mulSz, Cont.len, bne]; first | done | omega)))); conv => whnf)
        | (refine tst_in ?_ ?_; (focus (intro h_; exfalso; first | omega | ((try simp only [decide_eq_true_eq, decide_eq_false_iff_not] at h_); omega) | (simp [mulSz, Cont.len, bne] at h_; first | done | omega))); intro _; conv => whnf)
        | (refine tst_in ?_ ?_; rotate_left; (focus (intro h_; exfalso; first | omega | ((try simp only [decide_eq_true_eq, decide_eq_false_iff_not] at h_); omega) | (simp [mulSz, Cont.len, bne] at h_; first | done | omega))); intro _; conv => whnf)
        | (refine ⟨0, (show _ = _ by omega), ?_⟩; conv => whnf))
      conv => whnf
      repeat' (first | exact True.intro | rfl | refine And.intro ?_ ?_)
      all_goals (conv => whnf)
      repeat' (first | exact True.intro | rfl | refine And.intro ?_ ?_)
      all_goals (try omega)
      all_goals (rw [WO, Int.zero_sub]; rfl)
end Go.Proofs.YtanogghfdamdcaaDoor

set_option linter.unusedVariables false
set_option linter.unusedSimpArgs false
namespace Go.Proofs.YtanogghfdamdcaaDoor
open Go Go.Fw
set_option exponentiation.threshold 2200
def cfgf (k : Nat) : Cfg := { T := tyL, sgn := fun _ => true, wr := fun _ => false, k := k, q := fun f => match f with | 2000012 => true | _ => false }
structure W12 where
  o : Nat
  k : Nat
def st23 (b n k : Nat) (P : Int) : St := ⟨slotsAt 41 [(0, .flt .f64 b), (6, .int .i64 n), (7, .int .i64 (P + k))], []⟩
/-- The loop: what is left is o times a power of two, k twos are gone. -/
def inv23 (b m : Nat) (P : Int) : LInv := ⟨W12, fun x => st23 b x.o x.k P, fun x => m = x.o * 2 ^ x.k, fun x => x.o⟩
set_option maxHeartbeats 0 in
set_option maxRecDepth 100000 in
theorem rSplit_w {b : Nat} (h : Wild b) : Fits Tryd.prog 23 ⟨[.flt .f64 b], [], [numOut [] (.tup [.int .i64 0, .int .i64 0, .int .i64 1])]⟩ := by
  have FN := Finite_n h
  refine fits_of_body (C := cfgf 0) (c := (Tryd.f23.body).getD .skip) (ts := [2, 3, 4]) tokL mixedL (fun _ => none) (fun _ => none)
    Tryd.func23 (by kernel_rfl) (by kernel_rfl) (by kernel_rfl) (by kernel_rfl) rfl ?_
  conv => whnf
  repeat (first
    | (refine And.intro ?_ ?_; (focus (first | omega | decide | exact EqOk.mk (by kernel_rfl) (by kernel_rfl) (by kernel_rfl) | exact Int.natCast_nonneg _ | ((repeat' refine And.intro ?_ ?_) <;> first | omega | exact Int.natCast_nonneg _ | (simp only [i64max, u8max, u16max, u32max, u64max]; omega) | (simp only [mulSz_eq, Cont.len, colsLen, Col.len, List.length_cons, List.length_nil, List.length_replicate, List.length_append]; first | done | omega) | (simp [mulSz, Cont.len, bne]; first | done | omega)))); conv => whnf)
    | (refine tst_in ?_ ?_; (focus (intro h_; exfalso; first | omega | ((try simp only [decide_eq_true_eq, decide_eq_false_iff_not] at h_); omega) | (simp [mulSz, Cont.len, bne] at h_; first | done | omega))); intro _; conv => whnf)
    | (refine tst_in ?_ ?_; rotate_left; (focus (intro h_; exfalso; first | omega | ((try simp only [decide_eq_true_eq, decide_eq_false_iff_not] at h_); omega) | (simp [mulSz, Cont.len, bne] at h_; first | done | omega))); intro _; conv => whnf)
    | (refine ⟨0, (show _ = _ by omega), ?_⟩; conv => whnf))
  refine ⟨_, [], FN, ?_⟩
  conv => whnf
  iterate 2
   refine And.intro ?_ ?_
   focus
    conv => whnf
    repeat' (first | exact True.intro | rfl | refine And.intro ?_ ?_ | omega)
    all_goals (conv => whnf)
    all_goals (try (first | rfl | omega | (simp; done)))
  conv => whnf
  refine ⟨?_, True.intro⟩
  intro _ _
  conv => whnf
  conv => whnf
  repeat (first
    | (refine And.intro ?_ ?_; (focus (first | omega | decide | exact EqOk.mk (by kernel_rfl) (by kernel_rfl) (by kernel_rfl) | exact Int.natCast_nonneg _ | ((repeat' refine And.intro ?_ ?_) <;> first | omega | exact Int.natCast_nonneg _ | (simp only [i64max, u8max, u16max, u32max, u64max]; omega) | (simp only [mulSz_eq, Cont.len, colsLen, Col.len, List.length_cons, List.length_nil, List.length_replicate, List.length_append]; first | done | omega) | (simp [mulSz, Cont.len, bne]; first | done | omega)))); conv => whnf)
    | (refine tst_in ?_ ?_; (focus (intro h_; exfalso; first | omega | ((try simp only [decide_eq_true_eq, decide_eq_false_iff_not] at h_); omega) | (simp [mulSz, Cont.len, bne] at h_; first | done | omega))); intro _; conv => whnf)
    | (refine tst_in ?_ ?_; rotate_left; (focus (intro h_; exfalso; first | omega | ((try simp only [decide_eq_true_eq, decide_eq_false_iff_not] at h_); omega) | (simp [mulSz, Cont.len, bne] at h_; first | done | omega))); intro _; conv => whnf)
    | (refine ⟨0, (show _ = _ by omega), ?_⟩; conv => whnf))
  refine .inl ⟨(), [], ?_⟩
  conv => whnf
  repeat' (first | exact True.intro | rfl | refine And.intro ?_ ?_)
  all_goals (conv => whnf)
  repeat' (first | exact True.intro | rfl | refine And.intro ?_ ?_)
  all_goals (try omega)
end Go.Proofs.YtanogghfdamdcaaDoor

set_option linter.unusedVariables false
set_option linter.unusedSimpArgs false
namespace Go.Proofs.YtanogghfdamdcaaDoor
open Go Go.Fw
def stx (b x e : Nat) : St := ⟨slotsAt 41 [(0, .flt .f64 b), (6, .int .i64 x), (7, .int .i64 e)], []⟩
def cut6 (b x e : Nat) : LInv := ⟨Unit, fun _ => stx b x e, fun _ => True, fun _ => 0⟩
def cut10 (b m : Nat) (P : Int) : LInv := ⟨Unit, fun _ => st23 b m 0 P, fun _ => True, fun _ => 0⟩
set_option maxHeartbeats 0 in
set_option maxRecDepth 100000 in
theorem rSplit_y {b o k : Nat} (hb : b < 18446744073709551616) {s : Bool} {m : Nat} {P : Int} (h : D.read b = .number s m P) (hm : m = o * 2 ^ k) (ho : o % 2 = 1) : Fits Tryd.prog 23 ⟨[.flt .f64 b], [], [numOut [] (spl s o k P)]⟩ := by
  have FY := Finite_y h
  have hk := Nat.two_pow_pos k
  have hmP : m < 9007199254740992 ∧ -1074 ≤ P := read_bound h
  have hm0 : 0 < m := by rw [hm]; exact Nat.mul_pos (by omega) hk
  obtain ⟨hs, k1, k2⟩ := bits_of hb h
  have BF := bf_x b
  have LT := zer_lt h hm0
  have R1 : IntKind.i64.wrap ((b : Int).tmod 4503599627370496) = ((b % 4503599627370496 : Nat) : Int) := by
    rw [show (4503599627370496 : Int) = ((4503599627370496 : Nat) : Int) from rfl, ← Int.ofNat_tmod]
    exact wrap_i64 (by show (-9223372036854775808 : Int) ≤ ((b % 4503599627370496 : Nat) : Int) ∧ ((b % 4503599627370496 : Nat) : Int) ≤ 9223372036854775807; omega)
  have R2 : IntKind.i64.wrap (((b : Int) / 2 ^ min (Int.toNat 52) IntKind.u64.bits).tmod 2048) = ((b / 4503599627370496 % 2048 : Nat) : Int) := by
    rw [show (b : Int) / 2 ^ min (Int.toNat 52) IntKind.u64.bits = ((b / 4503599627370496 : Nat) : Int) from by rw [Int.natCast_ediv]; rfl, show (2048 : Int) = ((2048 : Nat) : Int) from rfl, ← Int.ofNat_tmod]
    exact wrap_i64 (by show (-9223372036854775808 : Int) ≤ ((b / 4503599627370496 % 2048 : Nat) : Int) ∧ ((b / 4503599627370496 % 2048 : Nat) : Int) ≤ 9223372036854775807; omega)
  have hx : b % 4503599627370496 < 4503599627370496 := by omega
  obtain ⟨x, hxd⟩ : ∃ x, x = b % 4503599627370496 := ⟨_, rfl⟩
  obtain ⟨e, hed⟩ : ∃ e, e = b / 4503599627370496 % 2048 := ⟨_, rfl⟩
  rw [← hxd] at R1 hx k2
  rw [← hed] at R2 k2 k1
  refine fits_of_body (C := cfgf 0) (c := (Tryd.f23.body).getD .skip) (ts := [2, 3, 4]) tokL mixedL (fun | 12 => some (inv23 b m P) | _ => none) (fun | 6 => some (cut6 b x e) | 10 => some (cut10 b m P) | _ => none)
    Tryd.func23 (by kernel_rfl) (by kernel_rfl) (by kernel_rfl) (by kernel_rfl) rfl ?_
  conv => whnf
  repeat (first
    | (refine And.intro ?_ ?_; (focus (first | omega | decide | exact EqOk.mk (by kernel_rfl) (by kernel_rfl) (by kernel_rfl) | exact Int.natCast_nonneg _ | ((repeat' refine And.intro ?_ ?_) <;> first | omega | exact Int.natCast_nonneg _ | (simp only [i64max, u8max, u16max, u32max, u64max]; omega) | (simp only [mulSz_eq, Cont.len, colsLen, Col.len, List.length_cons, List.length_nil, List.length_replicate, List.length_append]; first | done | omega) | (simp [mulSz, Cont.len, bne]; first | done | omega)))); conv => whnf)
    | (refine tst_in ?_ ?_; (focus (intro h_; exfalso; first | omega | ((try simp only [decide_eq_true_eq, decide_eq_false_iff_not] at h_); omega) | (simp [mulSz, Cont.len, bne] at h_; first | done | omega))); intro _; conv => whnf)
    | (refine tst_in ?_ ?_; rotate_left; (focus (intro h_; exfalso; first | omega | ((try simp only [decide_eq_true_eq, decide_eq_false_iff_not] at h_); omega) | (simp [mulSz, Cont.len, bne] at h_; first | done | omega))); intro _; conv => whnf)
    | (refine ⟨0, (show _ = _ by omega), ?_⟩; conv => whnf))
  refine ⟨_, [], FY, ?_⟩
  conv => whnf
  iterate 2
   refine And.intro ?_ ?_
   focus
    conv => whnf
    repeat' (first | exact True.intro | rfl | refine And.intro ?_ ?_ | omega)
    all_goals (conv => whnf)
    all_goals (try (first | rfl | omega | (simp; done)))
  conv => whnf
  refine ⟨?_, True.intro⟩
  intro _ _
  conv => whnf
  conv => whnf
  repeat (first
    | (refine And.intro ?_ ?_; (focus (first | omega | decide | exact EqOk.mk (by kernel_rfl) (by kernel_rfl) (by kernel_rfl) | exact Int.natCast_nonneg _ | ((repeat' refine And.intro ?_ ?_) <;> first | omega | exact Int.natCast_nonneg _ | (simp only [i64max, u8max, u16max, u32max, u64max]; omega) | (simp only [mulSz_eq, Cont.len, colsLen, Col.len, List.length_cons, List.length_nil, List.length_replicate, List.length_append]; first | done | omega) | (simp [mulSz, Cont.len, bne]; first | done | omega)))); conv => whnf)
    | (refine tst_in ?_ ?_; (focus (intro h_; exfalso; first | omega | ((try simp only [decide_eq_true_eq, decide_eq_false_iff_not] at h_); omega) | (simp [mulSz, Cont.len, bne] at h_; first | done | omega))); intro _; conv => whnf)
    | (refine tst_in ?_ ?_; rotate_left; (focus (intro h_; exfalso; first | omega | ((try simp only [decide_eq_true_eq, decide_eq_false_iff_not] at h_); omega) | (simp [mulSz, Cont.len, bne] at h_; first | done | omega))); intro _; conv => whnf)
    | (refine ⟨0, (show _ = _ by omega), ?_⟩; conv => whnf))
  refine ⟨_, _, BF, rfl, ?_⟩
  conv => whnf
  conv => whnf
  repeat (first
    | (refine And.intro ?_ ?_; (focus (first | omega | decide | exact EqOk.mk (by kernel_rfl) (by kernel_rfl) (by kernel_rfl) | exact Int.natCast_nonneg _ | ((repeat' refine And.intro ?_ ?_) <;> first | omega | exact Int.natCast_nonneg _ | (simp only [i64max, u8max, u16max, u32max, u64max]; omega) | (simp only [mulSz_eq, Cont.len, colsLen, Col.len, List.length_cons, List.length_nil, List.length_replicate, List.length_append]; first | done | omega) | (simp [mulSz, Cont.len, bne]; first | done | omega)))); conv => whnf)
    | (refine tst_in ?_ ?_; (focus (intro h_; exfalso; first | omega | ((try simp only [decide_eq_true_eq, decide_eq_false_iff_not] at h_); omega) | (simp [mulSz, Cont.len, bne] at h_; first | done | omega))); intro _; conv => whnf)
    | (refine tst_in ?_ ?_; rotate_left; (focus (intro h_; exfalso; first | omega | ((try simp only [decide_eq_true_eq, decide_eq_false_iff_not] at h_); omega) | (simp [mulSz, Cont.len, bne] at h_; first | done | omega))); intro _; conv => whnf)
    | (refine ⟨0, (show _ = _ by omega), ?_⟩; conv => whnf))
  refine ⟨?_, ?_⟩
  · skip
    conv => whnf
    repeat (first
      | (refine And.intro ?_ ?_; (focus (first | omega | decide | exact EqOk.mk (by kernel_rfl) (by kernel_rfl) (by kernel_rfl) | exact Int.natCast_nonneg _ | ((repeat' refine And.intro ?_ ?_) <;> first | omega | exact Int.natCast_nonneg _ | (simp only [i64max, u8max, u16max, u32max, u64max]; omega) | (simp only [mulSz_eq, Cont.len, colsLen, Col.len, List.length_cons, List.length_nil, List.length_replicate, List.length_append]; first | done | omega) | (simp [mulSz, Cont.len, bne]; first | done | omega)))); conv => whnf)
      | (refine tst_in ?_ ?_; (focus (intro h_; exfalso; first | omega | ((try simp only [decide_eq_true_eq, decide_eq_false_iff_not] at h_); omega) | (simp [mulSz, Cont.len, bne] at h_; first | done | omega))); intro _; conv => whnf)
      | (refine tst_in ?_ ?_; rotate_left; (focus (intro h_; exfalso; first | omega | ((try simp only [decide_eq_true_eq, decide_eq_false_iff_not] at h_); omega) | (simp [mulSz, Cont.len, bne] at h_; first | done | omega))); intro _; conv => whnf)
      | (refine ⟨0, (show _ = _ by omega), ?_⟩; conv => whnf))
    refine ⟨[], (), ?_, True.intro⟩
    conv => whnf
    repeat' (first | exact True.intro | rfl | refine And.intro ?_ ?_)
    all_goals (conv => whnf)
    repeat' (first | exact True.intro | rfl | refine And.intro ?_ ?_)
    all_goals (try omega)
    all_goals (first | exact R1.symm | exact R2.symm)
  have hP2 : P ≤ 1000 := by rcases k2 with ⟨_, _, q3⟩ | ⟨_, _, q3⟩ <;> omega
  intro _ _
  clear R1 R2 hs hxd hed FY BF
  show forceSt (stx b x e) _
  conv => whnf
  repeat (first
    | (refine And.intro ?_ ?_; (focus (first | omega | decide | exact EqOk.mk (by kernel_rfl) (by kernel_rfl) (by kernel_rfl) | exact Int.natCast_nonneg _ | ((repeat' refine And.intro ?_ ?_) <;> first | omega | exact Int.natCast_nonneg _ | (simp only [i64max, u8max, u16max, u32max, u64max]; omega) | (simp only [mulSz_eq, Cont.len, colsLen, Col.len, List.length_cons, List.length_nil, List.length_replicate, List.length_append]; first | done | omega) | (simp [mulSz, Cont.len, bne]; first | done | omega)))); conv => whnf)
    | (refine tst_in ?_ ?_; (focus (intro h_; exfalso; first | omega | ((try simp only [decide_eq_true_eq, decide_eq_false_iff_not] at h_); omega) | (simp [mulSz, Cont.len, bne] at h_; first | done | omega))); intro _; conv => whnf)
    | (refine tst_in ?_ ?_; rotate_left; (focus (intro h_; exfalso; first | omega | ((try simp only [decide_eq_true_eq, decide_eq_false_iff_not] at h_); omega) | (simp [mulSz, Cont.len, bne] at h_; first | done | omega))); intro _; conv => whnf)
    | (refine ⟨0, (show _ = _ by omega), ?_⟩; conv => whnf))
  refine tst_in (fun u => ?_) (fun u => ?_)
  · have u : (e : Int) = 0 := of_decide_eq_true u
    have q2 : m = x ∧ P = -1074 := by rcases k2 with ⟨_, q2, q3⟩ | ⟨q1, _, _⟩ <;> omega
    conv => whnf
    repeat (first
      | (refine And.intro ?_ ?_; (focus (first | omega | decide | exact EqOk.mk (by kernel_rfl) (by kernel_rfl) (by kernel_rfl) | exact Int.natCast_nonneg _ | ((repeat' refine And.intro ?_ ?_) <;> first | omega | exact Int.natCast_nonneg _ | (simp only [i64max, u8max, u16max, u32max, u64max]; omega) | (simp only [mulSz_eq, Cont.len, colsLen, Col.len, List.length_cons, List.length_nil, List.length_replicate, List.length_append]; first | done | omega) | (simp [mulSz, Cont.len, bne]; first | done | omega)))); conv => whnf)
      | (refine tst_in ?_ ?_; (focus (intro h_; exfalso; first | omega | ((try simp only [decide_eq_true_eq, decide_eq_false_iff_not] at h_); omega) | (simp [mulSz, Cont.len, bne] at h_; first | done | omega))); intro _; conv => whnf)
      | (refine tst_in ?_ ?_; rotate_left; (focus (intro h_; exfalso; first | omega | ((try simp only [decide_eq_true_eq, decide_eq_false_iff_not] at h_); omega) | (simp [mulSz, Cont.len, bne] at h_; first | done | omega))); intro _; conv => whnf)
      | (refine ⟨0, (show _ = _ by omega), ?_⟩; conv => whnf))
    refine ⟨?_, ?_⟩
    · skip
      conv => whnf
      repeat (first
        | (refine And.intro ?_ ?_; (focus (first | omega | decide | exact EqOk.mk (by kernel_rfl) (by kernel_rfl) (by kernel_rfl) | exact Int.natCast_nonneg _ | ((repeat' refine And.intro ?_ ?_) <;> first | omega | exact Int.natCast_nonneg _ | (simp only [i64max, u8max, u16max, u32max, u64max]; omega) | (simp only [mulSz_eq, Cont.len, colsLen, Col.len, List.length_cons, List.length_nil, List.length_replicate, List.length_append]; first | done | omega) | (simp [mulSz, Cont.len, bne]; first | done | omega)))); conv => whnf)
        | (refine tst_in ?_ ?_; (focus (intro h_; exfalso; first | omega | ((try simp only [decide_eq_true_eq, decide_eq_false_iff_not] at h_); omega) | (simp [mulSz, Cont.len, bne] at h_; first | done | omega))); intro _; conv => whnf)
        | (refine tst_in ?_ ?_; rotate_left; (focus (intro h_; exfalso; first | omega | ((try simp only [decide_eq_true_eq, decide_eq_false_iff_not] at h_); omega) | (simp [mulSz, Cont.len, bne] at h_; first | done | omega))); intro _; conv => whnf)
        | (refine ⟨0, (show _ = _ by omega), ?_⟩; conv => whnf))
      refine ⟨[], (), ?_, True.intro⟩
      conv => whnf
      repeat' (first | exact True.intro | rfl | refine And.intro ?_ ?_)
      all_goals (conv => whnf)
      repeat' (first | exact True.intro | rfl | refine And.intro ?_ ?_)
      all_goals (try omega)
    · skip
      clear k2 q2 u
      intro _ _
      show forceSt (st23 b m 0 P) _
      conv => whnf
      repeat (first
        | (refine And.intro ?_ ?_; (focus (first | omega | decide | exact EqOk.mk (by kernel_rfl) (by kernel_rfl) (by kernel_rfl) | exact Int.natCast_nonneg _ | ((repeat' refine And.intro ?_ ?_) <;> first | omega | exact Int.natCast_nonneg _ | (simp only [i64max, u8max, u16max, u32max, u64max]; omega) | (simp only [mulSz_eq, Cont.len, colsLen, Col.len, List.length_cons, List.length_nil, List.length_replicate, List.length_append]; first | done | omega) | (simp [mulSz, Cont.len, bne]; first | done | omega)))); conv => whnf)
        | (refine tst_in ?_ ?_; (focus (intro h_; exfalso; first | omega | ((try simp only [decide_eq_true_eq, decide_eq_false_iff_not] at h_); omega) | (simp [mulSz, Cont.len, bne] at h_; first | done | omega))); intro _; conv => whnf)
        | (refine tst_in ?_ ?_; rotate_left; (focus (intro h_; exfalso; first | omega | ((try simp only [decide_eq_true_eq, decide_eq_false_iff_not] at h_); omega) | (simp [mulSz, Cont.len, bne] at h_; first | done | omega))); intro _; conv => whnf)
        | (refine ⟨0, (show _ = _ by omega), ?_⟩; conv => whnf))
      refine ⟨⟨[], (⟨m, 0⟩ : W12), ?_, by show m = m * 2 ^ 0; rw [Nat.pow_zero, Nat.mul_one]⟩, ?_⟩
      · show stLe _ _ (st23 b m 0 P) _
        conv => whnf
        repeat' (first | exact True.intro | rfl | refine And.intro ?_ ?_)
        all_goals (conv => whnf)
        repeat' (first | exact True.intro | rfl | refine And.intro ?_ ?_)
        all_goals (try omega)
      · rintro ⟨o', k'⟩ hi
        have hi : m = o' * 2 ^ k' := hi
        have hk' := Nat.two_pow_pos k'
        have ho0 : 0 < o' := by
          refine Nat.pos_of_ne_zero fun q => ?_
          rw [q, Nat.zero_mul] at hi
          omega
        have ho' : o' ≤ m := by rw [hi]; exact Nat.le_mul_of_pos_right _ hk'
        have hkk : k' ≤ 52 := by
          refine Classical.byContradiction fun q => ?_
          have h1 : (2 : Nat) ^ 53 ≤ 2 ^ k' := Nat.pow_le_pow_right (by decide) (by omega)
          have h2 : 1 * 2 ^ k' ≤ o' * 2 ^ k' := Nat.mul_le_mul_right _ (by omega)
          omega
        have TM : (o' : Int).tmod 2 = ((o' % 2 : Nat) : Int) := (Int.ofNat_tmod o' 2).symm
        have TD : (o' : Int).tdiv 2 = ((o' / 2 : Nat) : Int) := (Int.ofNat_tdiv o' 2).symm
        show forceSt (st23 b o' k' P) _
        conv => whnf
        repeat (first
          | (refine And.intro ?_ ?_; (focus (first | omega | decide | exact EqOk.mk (by kernel_rfl) (by kernel_rfl) (by kernel_rfl) | exact Int.natCast_nonneg _ | ((repeat' refine And.intro ?_ ?_) <;> first | omega | exact Int.natCast_nonneg _ | (simp only [i64max, u8max, u16max, u32max, u64max]; omega) | (simp only [mulSz_eq, Cont.len, colsLen, Col.len, List.length_cons, List.length_nil, List.length_replicate, List.length_append]; first | done | omega) | (simp [mulSz, Cont.len, bne]; first | done | omega)))); conv => whnf)
          | (refine tst_in ?_ ?_; (focus (intro h_; exfalso; first | omega | ((try simp only [decide_eq_true_eq, decide_eq_false_iff_not] at h_); omega) | (simp [mulSz, Cont.len, bne] at h_; first | done | omega))); intro _; conv => whnf)
          | (refine tst_in ?_ ?_; rotate_left; (focus (intro h_; exfalso; first | omega | ((try simp only [decide_eq_true_eq, decide_eq_false_iff_not] at h_); omega) | (simp [mulSz, Cont.len, bne] at h_; first | done | omega))); intro _; conv => whnf)
          | (refine ⟨0, (show _ = _ by omega), ?_⟩; conv => whnf))
        refine tst_in (fun u => ?_) (fun u => ?_)
        · have u : (o' : Int).tmod 2 = 0 := of_decide_eq_true u
          rw [TM] at u
          have hi2 : m = o' / 2 * 2 ^ (k' + 1) := by
            rw [Nat.pow_succ, Nat.mul_comm (2 ^ k') 2, ← Nat.mul_assoc, hi]
            congr 1; omega
          have hk2 : k' + 1 ≤ 52 := by
            refine Classical.byContradiction fun q => ?_
            have h1 : (2 : Nat) ^ 53 ≤ 2 ^ (k' + 1) := Nat.pow_le_pow_right (by decide) (by omega)
            have h2 : 1 * 2 ^ (k' + 1) ≤ o' / 2 * 2 ^ (k' + 1) := Nat.mul_le_mul_right _ (by omega)
            omega
          have W1 : IntKind.i64.wrap ((o' : Int).tdiv 2) = ((o' / 2 : Nat) : Int) := by
            rw [TD]; exact wrap_i64 (by show (-9223372036854775808 : Int) ≤ ((o' / 2 : Nat) : Int) ∧ ((o' / 2 : Nat) : Int) ≤ 9223372036854775807; omega)
          conv => whnf
          repeat (first
            | (refine And.intro ?_ ?_; (focus (first | omega | decide | exact EqOk.mk (by kernel_rfl) (by kernel_rfl) (by kernel_rfl) | exact Int.natCast_nonneg _ | ((repeat' refine And.intro ?_ ?_) <;> first | omega | exact Int.natCast_nonneg _ | (simp only [i64max, u8max, u16max, u32max, u64max]; omega) | (simp only [mulSz_eq, Cont.len, colsLen, Col.len, List.length_cons, List.length_nil, List.length_replicate, List.length_append]; first | done | omega) | (simp [mulSz, Cont.len, bne]; first | done | omega)))); conv => whnf)
            | (refine tst_in ?_ ?_; (focus (intro h_; exfalso; first | omega | ((try simp only [decide_eq_true_eq, decide_eq_false_iff_not] at h_); omega) | (simp [mulSz, Cont.len, bne] at h_; first | done | omega))); intro _; conv => whnf)
            | (refine tst_in ?_ ?_; rotate_left; (focus (intro h_; exfalso; first | omega | ((try simp only [decide_eq_true_eq, decide_eq_false_iff_not] at h_); omega) | (simp [mulSz, Cont.len, bne] at h_; first | done | omega))); intro _; conv => whnf)
            | (refine ⟨0, (show _ = _ by omega), ?_⟩; conv => whnf))
          refine ⟨[], (⟨o' / 2, k' + 1⟩ : W12), ?_, hi2, by show o' / 2 < o'; omega⟩
          show stLe _ _ (st23 b (o' / 2) (k' + 1) P) _
          conv => whnf
          repeat' (first | exact True.intro | rfl | refine And.intro ?_ ?_)
          all_goals (conv => whnf)
          repeat' (first | exact True.intro | rfl | refine And.intro ?_ ?_)
          all_goals (try omega)
          all_goals (first | exact W1.symm | omega)
        · have u : ¬ (o' : Int).tmod 2 = 0 := of_decide_eq_false u
          rw [TM] at u
          obtain ⟨e1, e2⟩ := odd_uniq (hm.symm.trans hi) ho (by omega)
          subst e1 e2
          clear TM TD u hi
          conv => whnf
          repeat (first
            | (refine And.intro ?_ ?_; (focus (first | omega | decide | exact EqOk.mk (by kernel_rfl) (by kernel_rfl) (by kernel_rfl) | exact Int.natCast_nonneg _ | ((repeat' refine And.intro ?_ ?_) <;> first | omega | exact Int.natCast_nonneg _ | (simp only [i64max, u8max, u16max, u32max, u64max]; omega) | (simp only [mulSz_eq, Cont.len, colsLen, Col.len, List.length_cons, List.length_nil, List.length_replicate, List.length_append]; first | done | omega) | (simp [mulSz, Cont.len, bne]; first | done | omega)))); conv => whnf)
            | (refine tst_in ?_ ?_; (focus (intro h_; exfalso; first | omega | ((try simp only [decide_eq_true_eq, decide_eq_false_iff_not] at h_); omega) | (simp [mulSz, Cont.len, bne] at h_; first | done | omega))); intro _; conv => whnf)
            | (refine tst_in ?_ ?_; rotate_left; (focus (intro h_; exfalso; first | omega | ((try simp only [decide_eq_true_eq, decide_eq_false_iff_not] at h_); omega) | (simp [mulSz, Cont.len, bne] at h_; first | done | omega))); intro _; conv => whnf)
            | (refine ⟨0, (show _ = _ by omega), ?_⟩; conv => whnf))
          refine tst_in (fun u => ?_) (fun u => ?_)
          · rw [show s = true from LT.symm.trans u]
            conv => whnf
            repeat (first
              | (refine And.intro ?_ ?_; (focus (first | omega | decide | exact EqOk.mk (by kernel_rfl) (by kernel_rfl) (by kernel_rfl) | exact Int.natCast_nonneg _ | ((repeat' refine And.intro ?_ ?_) <;> first | omega | exact Int.natCast_nonneg _ | (simp only [i64max, u8max, u16max, u32max, u64max]; omega) | (simp only [mulSz_eq, Cont.len, colsLen, Col.len, List.length_cons, List.length_nil, List.length_replicate, List.length_append]; first | done | omega) | (simp [mulSz, Cont.len, bne]; first | done | omega)))); conv => whnf)
              | (refine tst_in ?_ ?_; (focus (intro h_; exfalso; first | omega | ((try simp only [decide_eq_true_eq, decide_eq_false_iff_not] at h_); omega) | (simp [mulSz, Cont.len, bne] at h_; first | done | omega))); intro _; conv => whnf)
              | (refine tst_in ?_ ?_; rotate_left; (focus (intro h_; exfalso; first | omega | ((try simp only [decide_eq_true_eq, decide_eq_false_iff_not] at h_); omega) | (simp [mulSz, Cont.len, bne] at h_; first | done | omega))); intro _; conv => whnf)
              | (refine ⟨0, (show _ = _ by omega), ?_⟩; conv => whnf))
            refine .inl ⟨(), [], ?_⟩
            conv => whnf
            repeat' (first | exact True.intro | rfl | refine And.intro ?_ ?_)
            all_goals (conv => whnf)
            repeat' (first | exact True.intro | rfl | refine And.intro ?_ ?_)
            all_goals (try omega)
            all_goals (rw [Int.zero_sub]; rfl)
          · rw [show s = false from LT.symm.trans u]
            conv => whnf
            repeat (first
              | (refine And.intro ?_ ?_; (focus (first | omega | decide | exact EqOk.mk (by kernel_rfl) (by kernel_rfl) (by kernel_rfl) | exact Int.natCast_nonneg _ | ((repeat' refine And.intro ?_ ?_) <;> first | omega | exact Int.natCast_nonneg _ | (simp only [i64max, u8max, u16max, u32max, u64max]; omega) | (simp only [mulSz_eq, Cont.len, colsLen, Col.len, List.length_cons, List.length_nil, List.length_replicate, List.length_append]; first | done | omega) | (simp [mulSz, Cont.len, bne]; first | done | omega)))); conv => whnf)
              | (refine tst_in ?_ ?_; (focus (intro h_; exfalso; first | omega | ((try simp only [decide_eq_true_eq, decide_eq_false_iff_not] at h_); omega) | (simp [mulSz, Cont.len, bne] at h_; first | done | omega))); intro _; conv => whnf)
              | (refine tst_in ?_ ?_; rotate_left; (focus (intro h_; exfalso; first | omega | ((try simp only [decide_eq_true_eq, decide_eq_false_iff_not] at h_); omega) | (simp [mulSz, Cont.len, bne] at h_; first | done | omega))); intro _; conv => whnf)
              | (refine ⟨0, (show _ = _ by omega), ?_⟩; conv => whnf))
            refine .inl ⟨(), [], ?_⟩
            conv => whnf
            repeat' (first | exact True.intro | rfl | refine And.intro ?_ ?_)
            all_goals (conv => whnf)
            repeat' (first | exact True.intro | rfl | refine And.intro ?_ ?_)
            all_goals (try omega)
  · have u : ¬ (e : Int) = 0 := of_decide_eq_false u
    have q2 : m = 4503599627370496 + x ∧ P = -1075 + (e : Int) := by rcases k2 with ⟨q1, q2, q3⟩ | ⟨_, q2, q3⟩ <;> omega
    conv => whnf
    repeat (first
      | (refine And.intro ?_ ?_; (focus (first | omega | decide | exact EqOk.mk (by kernel_rfl) (by kernel_rfl) (by kernel_rfl) | exact Int.natCast_nonneg _ | ((repeat' refine And.intro ?_ ?_) <;> first | omega | exact Int.natCast_nonneg _ | (simp only [i64max, u8max, u16max, u32max, u64max]; omega) | (simp only [mulSz_eq, Cont.len, colsLen, Col.len, List.length_cons, List.length_nil, List.length_replicate, List.length_append]; first | done | omega) | (simp [mulSz, Cont.len, bne]; first | done | omega)))); conv => whnf)
      | (refine tst_in ?_ ?_; (focus (intro h_; exfalso; first | omega | ((try simp only [decide_eq_true_eq, decide_eq_false_iff_not] at h_); omega) | (simp [mulSz, Cont.len, bne] at h_; first | done | omega))); intro _; conv => whnf)
      | (refine tst_in ?_ ?_; rotate_left; (focus (intro h_; exfalso; first | omega | ((try simp only [decide_eq_true_eq, decide_eq_false_iff_not] at h_); omega) | (simp [mulSz, Cont.len, bne] at h_; first | done | omega))); intro _; conv => whnf)
      | (refine ⟨0, (show _ = _ by omega), ?_⟩; conv => whnf))
    refine ⟨?_, ?_⟩
    · skip
      conv => whnf
      repeat (first
        | (refine And.intro ?_ ?_; (focus (first | omega | decide | exact EqOk.mk (by kernel_rfl) (by kernel_rfl) (by kernel_rfl) | exact Int.natCast_nonneg _ | ((repeat' refine And.intro ?_ ?_) <;> first | omega | exact Int.natCast_nonneg _ | (simp only [i64max, u8max, u16max, u32max, u64max]; omega) | (simp only [mulSz_eq, Cont.len, colsLen, Col.len, List.length_cons, List.length_nil, List.length_replicate, List.length_append]; first | done | omega) | (simp [mulSz, Cont.len, bne]; first | done | omega)))); conv => whnf)
        | (refine tst_in ?_ ?_; (focus (intro h_; exfalso; first | omega | ((try simp only [decide_eq_true_eq, decide_eq_false_iff_not] at h_); omega) | (simp [mulSz, Cont.len, bne] at h_; first | done | omega))); intro _; conv => whnf)
        | (refine tst_in ?_ ?_; rotate_left; (focus (intro h_; exfalso; first | omega | ((try simp only [decide_eq_true_eq, decide_eq_false_iff_not] at h_); omega) | (simp [mulSz, Cont.len, bne] at h_; first | done | omega))); intro _; conv => whnf)
        | (refine ⟨0, (show _ = _ by omega), ?_⟩; conv => whnf))
      refine ⟨[], (), ?_, True.intro⟩
      conv => whnf
      repeat' (first | exact True.intro | rfl | refine And.intro ?_ ?_)
      all_goals (conv => whnf)
      repeat' (first | exact True.intro | rfl | refine And.intro ?_ ?_)
      all_goals (try omega)
    · skip
      clear k2 q2 u
      intro _ _
      show forceSt (st23 b m 0 P) _
      conv => whnf
      repeat (first
        | (refine And.intro ?_ ?_; (focus (first | omega | decide | exact EqOk.mk (by kernel_rfl) (by kernel_rfl) (by kernel_rfl) | exact Int.natCast_nonneg _ | ((repeat' refine And.intro ?_ ?_) <;> first | omega | exact Int.natCast_nonneg _ | (simp only [i64max, u8max, u16max, u32max, u64max]; omega) | (simp only [mulSz_eq, Cont.len, colsLen, Col.len, List.length_cons, List.length_nil, List.length_replicate, List.length_append]; first | done | omega) | (simp [mulSz, Cont.len, bne]; first | done | omega)))); conv => whnf)
        | (refine tst_in ?_ ?_; (focus (intro h_; exfalso; first | omega | ((try simp only [decide_eq_true_eq, decide_eq_false_iff_not] at h_); omega) | (simp [mulSz, Cont.len, bne] at h_; first | done | omega))); intro _; conv => whnf)
        | (refine tst_in ?_ ?_; rotate_left; (focus (intro h_; exfalso; first | omega | ((try simp only [decide_eq_true_eq, decide_eq_false_iff_not] at h_); omega) | (simp [mulSz, Cont.len, bne] at h_; first | done | omega))); intro _; conv => whnf)
        | (refine ⟨0, (show _ = _ by omega), ?_⟩; conv => whnf))
      refine ⟨⟨[], (⟨m, 0⟩ : W12), ?_, by show m = m * 2 ^ 0; rw [Nat.pow_zero, Nat.mul_one]⟩, ?_⟩
      · show stLe _ _ (st23 b m 0 P) _
        conv => whnf
        repeat' (first | exact True.intro | rfl | refine And.intro ?_ ?_)
        all_goals (conv => whnf)
        repeat' (first | exact True.intro | rfl | refine And.intro ?_ ?_)
        all_goals (try omega)
      · rintro ⟨o', k'⟩ hi
        have hi : m = o' * 2 ^ k' := hi
        have hk' := Nat.two_pow_pos k'
        have ho0 : 0 < o' := by
          refine Nat.pos_of_ne_zero fun q => ?_
          rw [q, Nat.zero_mul] at hi
          omega
        have ho' : o' ≤ m := by rw [hi]; exact Nat.le_mul_of_pos_right _ hk'
        have hkk : k' ≤ 52 := by
          refine Classical.byContradiction fun q => ?_
          have h1 : (2 : Nat) ^ 53 ≤ 2 ^ k' := Nat.pow_le_pow_right (by decide) (by omega)
          have h2 : 1 * 2 ^ k' ≤ o' * 2 ^ k' := Nat.mul_le_mul_right _ (by omega)
          omega
        have TM : (o' : Int).tmod 2 = ((o' % 2 : Nat) : Int) := (Int.ofNat_tmod o' 2).symm
        have TD : (o' : Int).tdiv 2 = ((o' / 2 : Nat) : Int) := (Int.ofNat_tdiv o' 2).symm
        show forceSt (st23 b o' k' P) _
        conv => whnf
        repeat (first
          | (refine And.intro ?_ ?_; (focus (first | omega | decide | exact EqOk.mk (by kernel_rfl) (by kernel_rfl) (by kernel_rfl) | exact Int.natCast_nonneg _ | ((repeat' refine And.intro ?_ ?_) <;> first | omega | exact Int.natCast_nonneg _ | (simp only [i64max, u8max, u16max, u32max, u64max]; omega) | (simp only [mulSz_eq, Cont.len, colsLen, Col.len, List.length_cons, List.length_nil, List.length_replicate, List.length_append]; first | done | omega) | (simp [mulSz, Cont.len, bne]; first | done | omega)))); conv => whnf)
          | (refine tst_in ?_ ?_; (focus (intro h_; exfalso; first | omega | ((try simp only [decide_eq_true_eq, decide_eq_false_iff_not] at h_); omega) | (simp [mulSz, Cont.len, bne] at h_; first | done | omega))); intro _; conv => whnf)
          | (refine tst_in ?_ ?_; rotate_left; (focus (intro h_; exfalso; first | omega | ((try simp only [decide_eq_true_eq, decide_eq_false_iff_not] at h_); omega) | (simp [mulSz, Cont.len, bne] at h_; first | done | omega))); intro _; conv => whnf)
          | (refine ⟨0, (show _ = _ by omega), ?_⟩; conv => whnf))
        refine tst_in (fun u => ?_) (fun u => ?_)
        · have u : (o' : Int).tmod 2 = 0 := of_decide_eq_true u
          rw [TM] at u
          have hi2 : m = o' / 2 * 2 ^ (k' + 1) := by
            rw [Nat.pow_succ, Nat.mul_comm (2 ^ k') 2, ← Nat.mul_assoc, hi]
            congr 1; omega
          have hk2 : k' + 1 ≤ 52 := by
            refine Classical.byContradiction fun q => ?_
            have h1 : (2 : Nat) ^ 53 ≤ 2 ^ (k' + 1) := Nat.pow_le_pow_right (by decide) (by omega)
            have h2 : 1 * 2 ^ (k' + 1) ≤ o' / 2 * 2 ^ (k' + 1) := Nat.mul_le_mul_right _ (by omega)
            omega
          have W1 : IntKind.i64.wrap ((o' : Int).tdiv 2) = ((o' / 2 : Nat) : Int) := by
            rw [TD]; exact wrap_i64 (by show (-9223372036854775808 : Int) ≤ ((o' / 2 : Nat) : Int) ∧ ((o' / 2 : Nat) : Int) ≤ 9223372036854775807; omega)
          conv => whnf
          repeat (first
            | (refine And.intro ?_ ?_; (focus (first | omega | decide | exact EqOk.mk (by kernel_rfl) (by kernel_rfl) (by kernel_rfl) | exact Int.natCast_nonneg _ | ((repeat' refine And.intro ?_ ?_) <;> first | omega | exact Int.natCast_nonneg _ | (simp only [i64max, u8max, u16max, u32max, u64max]; omega) | (simp only [mulSz_eq, Cont.len, colsLen, Col.len, List.length_cons, List.length_nil, List.length_replicate, List.length_append]; first | done | omega) | (simp [mulSz, Cont.len, bne]; first | done | omega)))); conv => whnf)
            | (refine tst_in ?_ ?_; (focus (intro h_; exfalso; first | omega | ((try simp only [decide_eq_true_eq, decide_eq_false_iff_not] at h_); omega) | (simp [mulSz, Cont.len, bne] at h_; first | done | omega))); intro _; conv => whnf)
            | (refine tst_in ?_ ?_; rotate_left; (focus (intro h_; exfalso; first | omega | ((try simp only [decide_eq_true_eq, decide_eq_false_iff_not] at h_); omega) | (simp [mulSz, Cont.len, bne] at h_; first | done | omega))); intro _; conv => whnf)
            | (refine ⟨0, (show _ = _ by omega), ?_⟩; conv => whnf))
          refine ⟨[], (⟨o' / 2, k' + 1⟩ : W12), ?_, hi2, by show o' / 2 < o'; omega⟩
          show stLe _ _ (st23 b (o' / 2) (k' + 1) P) _
          conv => whnf
          repeat' (first | exact True.intro | rfl | refine And.intro ?_ ?_)
          all_goals (conv => whnf)
          repeat' (first | exact True.intro | rfl | refine And.intro ?_ ?_)
          all_goals (try omega)
          all_goals (first | exact W1.symm | omega)
        · have u : ¬ (o' : Int).tmod 2 = 0 := of_decide_eq_false u
          rw [TM] at u
          obtain ⟨e1, e2⟩ := odd_uniq (hm.symm.trans hi) ho (by omega)
          subst e1 e2
          clear TM TD u hi
          conv => whnf
          repeat (first
            | (refine And.intro ?_ ?_; (focus (first | omega | decide | exact EqOk.mk (by kernel_rfl) (by kernel_rfl) (by kernel_rfl) | exact Int.natCast_nonneg _ | ((repeat' refine And.intro ?_ ?_) <;> first | omega | exact Int.natCast_nonneg _ | (simp only [i64max, u8max, u16max, u32max, u64max]; omega) | (simp only [mulSz_eq, Cont.len, colsLen, Col.len, List.length_cons, List.length_nil, List.length_replicate, List.length_append]; first | done | omega) | (simp [mulSz, Cont.len, bne]; first | done | omega)))); conv => whnf)
            | (refine tst_in ?_ ?_; (focus (intro h_; exfalso; first | omega | ((try simp only [decide_eq_true_eq, decide_eq_false_iff_not] at h_); omega) | (simp [mulSz, Cont.len, bne] at h_; first | done | omega))); intro _; conv => whnf)
            | (refine tst_in ?_ ?_; rotate_left; (focus (intro h_; exfalso; first | omega | ((try simp only [decide_eq_true_eq, decide_eq_false_iff_not] at h_); omega) | (simp [mulSz, Cont.len, bne] at h_; first | done | omega))); intro _; conv => whnf)
            | (refine ⟨0, (show _ = _ by omega), ?_⟩; conv => whnf))
          refine tst_in (fun u => ?_) (fun u => ?_)
          · rw [show s = true from LT.symm.trans u]
            conv => whnf
            repeat (first
              | (refine And.intro ?_ ?_; (focus (first | omega | decide | exact EqOk.mk (by kernel_rfl) (by kernel_rfl) (by kernel_rfl) | exact Int.natCast_nonneg _ | ((repeat' refine And.intro ?_ ?_) <;> first | omega | exact Int.natCast_nonneg _ | (simp only [i64max, u8max, u16max, u32max, u64max]; omega) | (simp only [mulSz_eq, Cont.len, colsLen, Col.len, List.length_cons, List.length_nil, List.length_replicate, List.length_append]; first | done | omega) | (simp [mulSz, Cont.len, bne]; first | done | omega)))); conv => whnf)
              | (refine tst_in ?_ ?_; (focus (intro h_; exfalso; first | omega | ((try simp only [decide_eq_true_eq, decide_eq_false_iff_not] at h_); omega) | (simp [mulSz, Cont.len, bne] at h_; first | done | omega))); intro _; conv => whnf)
              | (refine tst_in ?_ ?_; rotate_left; (focus (intro h_; exfalso; first | omega | ((try simp only [decide_eq_true_eq, decide_eq_false_iff_not] at h_); omega) | (simp [mulSz, Cont.len, bne] at h_; first | done | omega))); intro _; conv => whnf)
              | (refine ⟨0, (show _ = _ by omega), ?_⟩; conv => whnf))
            refine .inl ⟨(), [], ?_⟩
            conv => whnf
            repeat' (first | exact True.intro | rfl | refine And.intro ?_ ?_)
            all_goals (conv => whnf)
            repeat' (first | exact True.intro | rfl | refine And.intro ?_ ?_)
            all_goals (try omega)
            all_goals (rw [Int.zero_sub]; rfl)
          · rw [show s = false from LT.symm.trans u]
            conv => whnf
            repeat (first
              | (refine And.intro ?_ ?_; (focus (first | omega | decide | exact EqOk.mk (by kernel_rfl) (by kernel_rfl) (by kernel_rfl) | exact Int.natCast_nonneg _ | ((repeat' refine And.intro ?_ ?_) <;> first | omega | exact Int.natCast_nonneg _ | (simp only [i64max, u8max, u16max, u32max, u64max]; omega) | (simp only [mulSz_eq, Cont.len, colsLen, Col.len, List.length_cons, List.length_nil, List.length_replicate, List.length_append]; first | done | omega) | (simp [mulSz, Cont.len, bne]; first | done | omega)))); conv => whnf)
              | (refine tst_in ?_ ?_; (focus (intro h_; exfalso; first | omega | ((try simp only [decide_eq_true_eq, decide_eq_false_iff_not] at h_); omega) | (simp [mulSz, Cont.len, bne] at h_; first | done | omega))); intro _; conv => whnf)
              | (refine tst_in ?_ ?_; rotate_left; (focus (intro h_; exfalso; first | omega | ((try simp only [decide_eq_true_eq, decide_eq_false_iff_not] at h_); omega) | (simp [mulSz, Cont.len, bne] at h_; first | done | omega))); intro _; conv => whnf)
              | (refine ⟨0, (show _ = _ by omega), ?_⟩; conv => whnf))
            refine .inl ⟨(), [], ?_⟩
            conv => whnf
            repeat' (first | exact True.intro | rfl | refine And.intro ?_ ?_)
            all_goals (conv => whnf)
            repeat' (first | exact True.intro | rfl | refine And.intro ?_ ?_)
            all_goals (try omega)
end Go.Proofs.YtanogghfdamdcaaDoor

set_option linter.unusedVariables false
set_option linter.unusedSimpArgs false
namespace Go.Proofs.YtanogghfdamdcaaDoor
open Go Go.Fw
set_option maxHeartbeats 0 in
set_option maxRecDepth 100000 in
theorem rSplit_z {b : Nat} (hb : b < 18446744073709551616) {s : Bool} {m : Nat} {P : Int} (h : D.read b = .number s m P) (hm0 : m = 0) : Fits Tryd.prog 23 ⟨[.flt .f64 b], [], [numOut [] (.tup [.int .i64 0, .int .i64 0, .int .i64 0])]⟩ := by
  have FY := Finite_y h
  have hmP : m < 9007199254740992 ∧ -1074 ≤ P := read_bound h
  obtain ⟨hs, k1, k2⟩ := bits_of hb h
  have BF := bf_x b
  have R1 : IntKind.i64.wrap ((b : Int).tmod 4503599627370496) = ((b % 4503599627370496 : Nat) : Int) := by
    rw [show (4503599627370496 : Int) = ((4503599627370496 : Nat) : Int) from rfl, ← Int.ofNat_tmod]
    exact wrap_i64 (by show (-9223372036854775808 : Int) ≤ ((b % 4503599627370496 : Nat) : Int) ∧ ((b % 4503599627370496 : Nat) : Int) ≤ 9223372036854775807; omega)
  have R2 : IntKind.i64.wrap (((b : Int) / 2 ^ min (Int.toNat 52) IntKind.u64.bits).tmod 2048) = ((b / 4503599627370496 % 2048 : Nat) : Int) := by
    rw [show (b : Int) / 2 ^ min (Int.toNat 52) IntKind.u64.bits = ((b / 4503599627370496 : Nat) : Int) from by rw [Int.natCast_ediv]; rfl, show (2048 : Int) = ((2048 : Nat) : Int) from rfl, ← Int.ofNat_tmod]
    exact wrap_i64 (by show (-9223372036854775808 : Int) ≤ ((b / 4503599627370496 % 2048 : Nat) : Int) ∧ ((b / 4503599627370496 % 2048 : Nat) : Int) ≤ 9223372036854775807; omega)
  have hx : b % 4503599627370496 < 4503599627370496 := by omega
  obtain ⟨x, hxd⟩ : ∃ x, x = b % 4503599627370496 := ⟨_, rfl⟩
  obtain ⟨e, hed⟩ : ∃ e, e = b / 4503599627370496 % 2048 := ⟨_, rfl⟩
  rw [← hxd] at R1 hx k2
  rw [← hed] at R2 k2 k1
  refine fits_of_body (C := cfgf 0) (c := (Tryd.f23.body).getD .skip) (ts := [2, 3, 4]) tokL mixedL (fun _ => none) (fun | 6 => some (cut6 b x e) | 10 => some (cut10 b m P) | _ => none)
    Tryd.func23 (by kernel_rfl) (by kernel_rfl) (by kernel_rfl) (by kernel_rfl) rfl ?_
  conv => whnf
  repeat (first
    | (refine And.intro ?_ ?_; (focus (first | omega | decide | exact EqOk.mk (by kernel_rfl) (by kernel_rfl) (by kernel_rfl) | exact Int.natCast_nonneg _ | ((repeat' refine And.intro ?_ ?_) <;> first | omega | exact Int.natCast_nonneg _ | (simp only [i64max, u8max, u16max, u32max, u64max]; omega) | (simp only [mulSz_eq, Cont.len, colsLen, Col.len, List.length_cons, List.length_nil, List.length_replicate, List.length_append]; first | done | omega) | (simp [mulSz, Cont.len, bne]; first | done | omega)))); conv => whnf)
    | (refine tst_in ?_ ?_; (focus (intro h_; exfalso; first | omega | ((try simp only [decide_eq_true_eq, decide_eq_false_iff_not] at h_); omega) | (simp [mulSz, Cont.len, bne] at h_; first | done | omega))); intro _; conv => whnf)
    | (refine tst_in ?_ ?_; rotate_left; (focus (intro h_; exfalso; first | omega | ((try simp only [decide_eq_true_eq, decide_eq_false_iff_not] at h_); omega) | (simp [mulSz, Cont.len, bne] at h_; first | done | omega))); intro _; conv => whnf)
    | (refine ⟨0, (show _ = _ by omega), ?_⟩; conv => whnf))
  refine ⟨_, [], FY, ?_⟩
  conv => whnf
  iterate 2
   refine And.intro ?_ ?_
   focus
    conv => whnf
    repeat' (first | exact True.intro | rfl | refine And.intro ?_ ?_ | omega)
    all_goals (conv => whnf)
    all_goals (try (first | rfl | omega | (simp; done)))
  conv => whnf
  refine ⟨?_, True.intro⟩
  intro _ _
  conv => whnf
  conv => whnf
  repeat (first
    | (refine And.intro ?_ ?_; (focus (first | omega | decide | exact EqOk.mk (by kernel_rfl) (by kernel_rfl) (by kernel_rfl) | exact Int.natCast_nonneg _ | ((repeat' refine And.intro ?_ ?_) <;> first | omega | exact Int.natCast_nonneg _ | (simp only [i64max, u8max, u16max, u32max, u64max]; omega) | (simp only [mulSz_eq, Cont.len, colsLen, Col.len, List.length_cons, List.length_nil, List.length_replicate, List.length_append]; first | done | omega) | (simp [mulSz, Cont.len, bne]; first | done | omega)))); conv => whnf)
    | (refine tst_in ?_ ?_; (focus (intro h_; exfalso; first | omega | ((try simp only [decide_eq_true_eq, decide_eq_false_iff_not] at h_); omega) | (simp [mulSz, Cont.len, bne] at h_; first | done | omega))); intro _; conv => whnf)
    | (refine tst_in ?_ ?_; rotate_left; (focus (intro h_; exfalso; first | omega | ((try simp only [decide_eq_true_eq, decide_eq_false_iff_not] at h_); omega) | (simp [mulSz, Cont.len, bne] at h_; first | done | omega))); intro _; conv => whnf)
    | (refine ⟨0, (show _ = _ by omega), ?_⟩; conv => whnf))
  refine ⟨_, _, BF, rfl, ?_⟩
  conv => whnf
  conv => whnf
  repeat (first
    | (refine And.intro ?_ ?_; (focus (first | omega | decide | exact EqOk.mk (by kernel_rfl) (by kernel_rfl) (by kernel_rfl) | exact Int.natCast_nonneg _ | ((repeat' refine And.intro ?_ ?_) <;> first | omega | exact Int.natCast_nonneg _ | (simp only [i64max, u8max, u16max, u32max, u64max]; omega) | (simp only [mulSz_eq, Cont.len, colsLen, Col.len, List.length_cons, List.length_nil, List.length_replicate, List.length_append]; first | done | omega) | (simp [mulSz, Cont.len, bne]; first | done | omega)))); conv => whnf)
    | (refine tst_in ?_ ?_; (focus (intro h_; exfalso; first | omega | ((try simp only [decide_eq_true_eq, decide_eq_false_iff_not] at h_); omega) | (simp [mulSz, Cont.len, bne] at h_; first | done | omega))); intro _; conv => whnf)
    | (refine tst_in ?_ ?_; rotate_left; (focus (intro h_; exfalso; first | omega | ((try simp only [decide_eq_true_eq, decide_eq_false_iff_not] at h_); omega) | (simp [mulSz, Cont.len, bne] at h_; first | done | omega))); intro _; conv => whnf)
    | (refine ⟨0, (show _ = _ by omega), ?_⟩; conv => whnf))
  refine ⟨?_, ?_⟩
  · skip
    conv => whnf
    repeat (first
      | (refine And.intro ?_ ?_; (focus (first | omega | decide | exact EqOk.mk (by kernel_rfl) (by kernel_rfl) (by kernel_rfl) | exact Int.natCast_nonneg _ | ((repeat' refine And.intro ?_ ?_) <;> first | omega | exact Int.natCast_nonneg _ | (simp only [i64max, u8max, u16max, u32max, u64max]; omega) | (simp only [mulSz_eq, Cont.len, colsLen, Col.len, List.length_cons, List.length_nil, List.length_replicate, List.length_append]; first | done | omega) | (simp [mulSz, Cont.len, bne]; first | done | omega)))); conv => whnf)
      | (refine tst_in ?_ ?_; (focus (intro h_; exfalso; first | omega | ((try simp only [decide_eq_true_eq, decide_eq_false_iff_not] at h_); omega) | (simp [mulSz, Cont.len, bne] at h_; first | done | omega))); intro _; conv => whnf)
      | (refine tst_in ?_ ?_; rotate_left; (focus (intro h_; exfalso; first | omega | ((try simp only [decide_eq_true_eq, decide_eq_false_iff_not] at h_); omega) | (simp [mulSz, Cont.len, bne] at h_; first | done | omega))); intro _; conv => whnf)
      | (refine ⟨0, (show _ = _ by omega), ?_⟩; conv => whnf))
    refine ⟨[], (), ?_, True.intro⟩
    conv => whnf
    repeat' (first | exact True.intro | rfl | refine And.intro ?_ ?_)
    all_goals (conv => whnf)
    repeat' (first | exact True.intro | rfl | refine And.intro ?_ ?_)
    all_goals (try omega)
    all_goals (first | exact R1.symm | exact R2.symm)
  have hP2 : P ≤ 1000 := by rcases k2 with ⟨_, _, q3⟩ | ⟨_, _, q3⟩ <;> omega
  intro _ _
  clear R1 R2 hs hxd hed FY BF
  show forceSt (stx b x e) _
  conv => whnf
  repeat (first
    | (refine And.intro ?_ ?_; (focus (first | omega | decide | exact EqOk.mk (by kernel_rfl) (by kernel_rfl) (by kernel_rfl) | exact Int.natCast_nonneg _ | ((repeat' refine And.intro ?_ ?_) <;> first | omega | exact Int.natCast_nonneg _ | (simp only [i64max, u8max, u16max, u32max, u64max]; omega) | (simp only [mulSz_eq, Cont.len, colsLen, Col.len, List.length_cons, List.length_nil, List.length_replicate, List.length_append]; first | done | omega) | (simp [mulSz, Cont.len, bne]; first | done | omega)))); conv => whnf)
    | (refine tst_in ?_ ?_; (focus (intro h_; exfalso; first | omega | ((try simp only [decide_eq_true_eq, decide_eq_false_iff_not] at h_); omega) | (simp [mulSz, Cont.len, bne] at h_; first | done | omega))); intro _; conv => whnf)
    | (refine tst_in ?_ ?_; rotate_left; (focus (intro h_; exfalso; first | omega | ((try simp only [decide_eq_true_eq, decide_eq_false_iff_not] at h_); omega) | (simp [mulSz, Cont.len, bne] at h_; first | done | omega))); intro _; conv => whnf)
    | (refine ⟨0, (show _ = _ by omega), ?_⟩; conv => whnf))
  have q2 : m = x ∧ P = -1074 ∧ e = 0 := by rcases k2 with ⟨_, q2, q3⟩ | ⟨q1, _, _⟩ <;> omega
  refine ⟨?_, ?_⟩
  · skip
    conv => whnf
    repeat (first
      | (refine And.intro ?_ ?_; (focus (first | omega | decide | exact EqOk.mk (by kernel_rfl) (by kernel_rfl) (by kernel_rfl) | exact Int.natCast_nonneg _ | ((repeat' refine And.intro ?_ ?_) <;> first | omega | exact Int.natCast_nonneg _ | (simp only [i64max, u8max, u16max, u32max, u64max]; omega) | (simp only [mulSz_eq, Cont.len, colsLen, Col.len, List.length_cons, List.length_nil, List.length_replicate, List.length_append]; first | done | omega) | (simp [mulSz, Cont.len, bne]; first | done | omega)))); conv => whnf)
      | (refine tst_in ?_ ?_; (focus (intro h_; exfalso; first | omega | ((try simp only [decide_eq_true_eq, decide_eq_false_iff_not] at h_); omega) | (simp [mulSz, Cont.len, bne] at h_; first | done | omega))); intro _; conv => whnf)
      | (refine tst_in ?_ ?_; rotate_left; (focus (intro h_; exfalso; first | omega | ((try simp only [decide_eq_true_eq, decide_eq_false_iff_not] at h_); omega) | (simp [mulSz, Cont.len, bne] at h_; first | done | omega))); intro _; conv => whnf)
      | (refine ⟨0, (show _ = _ by omega), ?_⟩; conv => whnf))
    refine ⟨[], (), ?_, True.intro⟩
    conv => whnf
    repeat' (first | exact True.intro | rfl | refine And.intro ?_ ?_)
    all_goals (conv => whnf)
    repeat' (first | exact True.intro | rfl | refine And.intro ?_ ?_)
    all_goals (try omega)
  · skip
    clear k2 q2
    intro _ _
    show forceSt (st23 b m 0 P) _
    conv => whnf
    repeat (first
      | (refine And.intro ?_ ?_; (focus (first | omega | decide | exact EqOk.mk (by kernel_rfl) (by kernel_rfl) (by kernel_rfl) | exact Int.natCast_nonneg _ | ((repeat' refine And.intro ?_ ?_) <;> first | omega | exact Int.natCast_nonneg _ | (simp only [i64max, u8max, u16max, u32max, u64max]; omega) | (simp only [mulSz_eq, Cont.len, colsLen, Col.len, List.length_cons, List.length_nil, List.length_replicate, List.length_append]; first | done | omega) | (simp [mulSz, Cont.len, bne]; first | done | omega)))); conv => whnf)
      | (refine tst_in ?_ ?_; (focus (intro h_; exfalso; first | omega | ((try simp only [decide_eq_true_eq, decide_eq_false_iff_not] at h_); omega) | (simp [mulSz, Cont.len, bne] at h_; first | done | omega))); intro _; conv => whnf)
      | (refine tst_in ?_ ?_; rotate_left; (focus (intro h_; exfalso; first | omega | ((try simp only [decide_eq_true_eq, decide_eq_false_iff_not] at h_); omega) | (simp [mulSz, Cont.len, bne] at h_; first | done | omega))); intro _; conv => whnf)
      | (refine ⟨0, (show _ = _ by omega), ?_⟩; conv => whnf))
    refine .inl ⟨(), [], ?_⟩
    conv => whnf
    repeat' (first | exact True.intro | rfl | refine And.intro ?_ ?_)
    all_goals (conv => whnf)
    repeat' (first | exact True.intro | rfl | refine And.intro ?_ ?_)
    all_goals (try omega)
end Go.Proofs.YtanogghfdamdcaaDoor

set_option linter.unusedVariables false
set_option linter.unusedSimpArgs false
namespace Go.Proofs.YtanogghfdamdcaaDoor
open Go Go.Fw
theorem uw8 (x : Int) : IntKind.u8.wrap x = x % 256 := rfl
theorem at_all {L : ByteArray} {f : Nat → Nat} (z : Nat) (h : z < 256) (H : ∀ z, z < 256 → byteAt L z = f z) : byteAt L z = f z := H z h
structure LZ where
  z : Nat
  c : Nat
def stL (z c : Nat) : St := ⟨slotsAt 25 [(0, .int .u64 z), (2, .int .i64 c)], []⟩
def cutL (n b m : Nat) : LInv := ⟨LZ, fun x => stL x.z x.c, fun x => x.z < b ∧ x.c ≤ m ∧ sz n = sz x.z + x.c, fun _ => 0⟩
theorem shr_n (n : Nat) (k : Nat) (hk : k ≤ 64) : (n : Int) / 2 ^ min (Int.toNat (k : Int)) IntKind.u64.bits = ((n / 2 ^ k : Nat) : Int) := by
  rw [Int.toNat_natCast, show min k IntKind.u64.bits = k from Nat.min_eq_left (by show k ≤ 64; omega), Int.natCast_ediv, Int.natCast_pow]; rfl
set_option maxHeartbeats 0 in
set_option maxRecDepth 100000 in
theorem Len64_q (n : Nat) (h : n < 18446744073709551616) : QFits Tryd.prog 50 ⟨[.int .u64 n], [], .int .i64 (sz n : Nat)⟩ := by
  refine qfits_of_body (C := cfgk 0) (c := (Tryd.f50.body).getD .skip) (ts := [2]) tokL mixedL (fun _ => none) (fun | 1 => some (cutL n 18446744073709551616 0) | 4 => some (cutL n 4294967296 32) | 7 => some (cutL n 65536 48) | 10 => some (cutL n 256 56) | _ => none)
    Tryd.func50 (by kernel_rfl) (by kernel_rfl) (by kernel_rfl) (by kernel_rfl) (by kernel_rfl) rfl rfl ?_
  conv => whnf
  repeat (first
    | (refine And.intro ?_ ?_; (focus (first | omega | decide | exact EqOk.mk (by kernel_rfl) (by kernel_rfl) (by kernel_rfl) | exact Int.natCast_nonneg _ | ((repeat' refine And.intro ?_ ?_) <;> first | omega | exact Int.natCast_nonneg _ | (simp only [i64max, u8max, u16max, u32max, u64max]; omega) | (simp only [mulSz_eq, Cont.len, colsLen, Col.len, List.length_cons, List.length_nil, List.length_replicate, List.length_append]; first | done | omega) | (simp [mulSz, Cont.len, bne]; first | done | omega)))); conv => whnf)
    | (refine tst_in ?_ ?_; (focus (intro h_; exfalso; first | omega | ((try simp only [decide_eq_true_eq, decide_eq_false_iff_not] at h_); omega) | (simp [mulSz, Cont.len, bne] at h_; first | done | omega))); intro _; conv => whnf)
    | (refine tst_in ?_ ?_; rotate_left; (focus (intro h_; exfalso; first | omega | ((try simp only [decide_eq_true_eq, decide_eq_false_iff_not] at h_); omega) | (simp [mulSz, Cont.len, bne] at h_; first | done | omega))); intro _; conv => whnf)
    | (refine ⟨0, (show _ = _ by omega), ?_⟩; conv => whnf))
  refine ⟨?_, ?_⟩
  · skip
    conv => whnf
    repeat (first
      | (refine And.intro ?_ ?_; (focus (first | omega | decide | exact EqOk.mk (by kernel_rfl) (by kernel_rfl) (by kernel_rfl) | exact Int.natCast_nonneg _ | ((repeat' refine And.intro ?_ ?_) <;> first | omega | exact Int.natCast_nonneg _ | (simp only [i64max, u8max, u16max, u32max, u64max]; omega) | (simp only [mulSz_eq, Cont.len, colsLen, Col.len, List.length_cons, List.length_nil, List.length_replicate, List.length_append]; first | done | omega) | (simp [mulSz, Cont.len, bne]; first | done | omega)))); conv => whnf)
      | (refine tst_in ?_ ?_; (focus (intro h_; exfalso; first | omega | ((try simp only [decide_eq_true_eq, decide_eq_false_iff_not] at h_); omega) | (simp [mulSz, Cont.len, bne] at h_; first | done | omega))); intro _; conv => whnf)
      | (refine tst_in ?_ ?_; rotate_left; (focus (intro h_; exfalso; first | omega | ((try simp only [decide_eq_true_eq, decide_eq_false_iff_not] at h_); omega) | (simp [mulSz, Cont.len, bne] at h_; first | done | omega))); intro _; conv => whnf)
      | (refine ⟨0, (show _ = _ by omega), ?_⟩; conv => whnf))
    refine ⟨[], (⟨n, 0⟩ : LZ), ?_, h, Nat.le_refl 0, rfl⟩
    conv => whnf
    repeat' (first | exact True.intro | rfl | refine And.intro ?_ ?_)
    all_goals (conv => whnf)
    repeat' (first | exact True.intro | rfl | refine And.intro ?_ ?_)
    all_goals (try omega)
  rintro ⟨z, c⟩ ⟨h1, h2, h3⟩
  have h1 : z < 18446744073709551616 := h1
  have h2 : c ≤ 0 := h2
  have h3 : sz n = sz z + c := h3
  show forceSt (stL z c) _
  conv => whnf
  repeat (first
    | (refine And.intro ?_ ?_; (focus (first | omega | decide | exact EqOk.mk (by kernel_rfl) (by kernel_rfl) (by kernel_rfl) | exact Int.natCast_nonneg _ | ((repeat' refine And.intro ?_ ?_) <;> first | omega | exact Int.natCast_nonneg _ | (simp only [i64max, u8max, u16max, u32max, u64max]; omega) | (simp only [mulSz_eq, Cont.len, colsLen, Col.len, List.length_cons, List.length_nil, List.length_replicate, List.length_append]; first | done | omega) | (simp [mulSz, Cont.len, bne]; first | done | omega)))); conv => whnf)
    | (refine tst_in ?_ ?_; (focus (intro h_; exfalso; first | omega | ((try simp only [decide_eq_true_eq, decide_eq_false_iff_not] at h_); omega) | (simp [mulSz, Cont.len, bne] at h_; first | done | omega))); intro _; conv => whnf)
    | (refine tst_in ?_ ?_; rotate_left; (focus (intro h_; exfalso; first | omega | ((try simp only [decide_eq_true_eq, decide_eq_false_iff_not] at h_); omega) | (simp [mulSz, Cont.len, bne] at h_; first | done | omega))); intro _; conv => whnf)
    | (refine ⟨0, (show _ = _ by omega), ?_⟩; conv => whnf))
  refine ⟨?_, ?_⟩
  · skip
    conv => whnf
    repeat (first
      | (refine And.intro ?_ ?_; (focus (first | omega | decide | exact EqOk.mk (by kernel_rfl) (by kernel_rfl) (by kernel_rfl) | exact Int.natCast_nonneg _ | ((repeat' refine And.intro ?_ ?_) <;> first | omega | exact Int.natCast_nonneg _ | (simp only [i64max, u8max, u16max, u32max, u64max]; omega) | (simp only [mulSz_eq, Cont.len, colsLen, Col.len, List.length_cons, List.length_nil, List.length_replicate, List.length_append]; first | done | omega) | (simp [mulSz, Cont.len, bne]; first | done | omega)))); conv => whnf)
      | (refine tst_in ?_ ?_; (focus (intro h_; exfalso; first | omega | ((try simp only [decide_eq_true_eq, decide_eq_false_iff_not] at h_); omega) | (simp [mulSz, Cont.len, bne] at h_; first | done | omega))); intro _; conv => whnf)
      | (refine tst_in ?_ ?_; rotate_left; (focus (intro h_; exfalso; first | omega | ((try simp only [decide_eq_true_eq, decide_eq_false_iff_not] at h_); omega) | (simp [mulSz, Cont.len, bne] at h_; first | done | omega))); intro _; conv => whnf)
      | (refine ⟨0, (show _ = _ by omega), ?_⟩; conv => whnf))
    refine tst_in (fun u => ?_) (fun u => ?_)
    · have u : (4294967296 : Int) ≤ (z : Int) := @of_decide_eq_true _ (dLe _ _) u
      have e : (z : Int) / 2 ^ min (Int.toNat 32) IntKind.u64.bits = ((z / 4294967296 : Nat) : Int) := shr_n z 32 (by decide)
      have hs : sz z = sz (z / 4294967296) + 32 := sz_shift (n := z) (d := 32) (by show z / 4294967296 ≠ 0; omega)
      conv => whnf
      repeat (first
        | (refine And.intro ?_ ?_; (focus (first | omega | decide | exact EqOk.mk (by kernel_rfl) (by kernel_rfl) (by kernel_rfl) | exact Int.natCast_nonneg _ | ((repeat' refine And.intro ?_ ?_) <;> first | omega | exact Int.natCast_nonneg _ | (simp only [i64max, u8max, u16max, u32max, u64max]; omega) | (simp only [mulSz_eq, Cont.len, colsLen, Col.len, List.length_cons, List.length_nil, List.length_replicate, List.length_append]; first | done | omega) | (simp [mulSz, Cont.len, bne]; first | done | omega)))); conv => whnf)
        | (refine tst_in ?_ ?_; (focus (intro h_; exfalso; first | omega | ((try simp only [decide_eq_true_eq, decide_eq_false_iff_not] at h_); omega) | (simp [mulSz, Cont.len, bne] at h_; first | done | omega))); intro _; conv => whnf)
        | (refine tst_in ?_ ?_; rotate_left; (focus (intro h_; exfalso; first | omega | ((try simp only [decide_eq_true_eq, decide_eq_false_iff_not] at h_); omega) | (simp [mulSz, Cont.len, bne] at h_; first | done | omega))); intro _; conv => whnf)
        | (refine ⟨0, (show _ = _ by omega), ?_⟩; conv => whnf))
      refine ⟨[], (⟨z / 4294967296, c + 32⟩ : LZ), ?_, by show z / 4294967296 < 4294967296; omega, by show c + 32 ≤ 32; omega, by show sz n = sz (z / 4294967296) + (c + 32); omega⟩
      conv => whnf
      repeat' (first | exact True.intro | rfl | refine And.intro ?_ ?_)
      all_goals (conv => whnf)
      repeat' (first | exact True.intro | rfl | refine And.intro ?_ ?_)
      all_goals (try omega)
      all_goals (first | exact e.symm | rfl | exact Int.natCast_add c 32 | (show (((c + 32 : Nat)) : Int) = 32; omega))
    · have u : ¬ (4294967296 : Int) ≤ (z : Int) := @of_decide_eq_false _ (dLe _ _) u
      conv => whnf
      repeat (first
        | (refine And.intro ?_ ?_; (focus (first | omega | decide | exact EqOk.mk (by kernel_rfl) (by kernel_rfl) (by kernel_rfl) | exact Int.natCast_nonneg _ | ((repeat' refine And.intro ?_ ?_) <;> first | omega | exact Int.natCast_nonneg _ | (simp only [i64max, u8max, u16max, u32max, u64max]; omega) | (simp only [mulSz_eq, Cont.len, colsLen, Col.len, List.length_cons, List.length_nil, List.length_replicate, List.length_append]; first | done | omega) | (simp [mulSz, Cont.len, bne]; first | done | omega)))); conv => whnf)
        | (refine tst_in ?_ ?_; (focus (intro h_; exfalso; first | omega | ((try simp only [decide_eq_true_eq, decide_eq_false_iff_not] at h_); omega) | (simp [mulSz, Cont.len, bne] at h_; first | done | omega))); intro _; conv => whnf)
        | (refine tst_in ?_ ?_; rotate_left; (focus (intro h_; exfalso; first | omega | ((try simp only [decide_eq_true_eq, decide_eq_false_iff_not] at h_); omega) | (simp [mulSz, Cont.len, bne] at h_; first | done | omega))); intro _; conv => whnf)
        | (refine ⟨0, (show _ = _ by omega), ?_⟩; conv => whnf))
      refine ⟨[], (⟨z, c⟩ : LZ), ?_, by show z < 4294967296; omega, by show c ≤ 32; omega, by show sz n = sz z + c; omega⟩
      conv => whnf
      repeat' (first | exact True.intro | rfl | refine And.intro ?_ ?_)
      all_goals (conv => whnf)
      repeat' (first | exact True.intro | rfl | refine And.intro ?_ ?_)
      all_goals (try omega)
  rintro ⟨z, c⟩ ⟨h1, h2, h3⟩
  have h1 : z < 4294967296 := h1
  have h2 : c ≤ 32 := h2
  have h3 : sz n = sz z + c := h3
  show forceSt (stL z c) _
  conv => whnf
  repeat (first
    | (refine And.intro ?_ ?_; (focus (first | omega | decide | exact EqOk.mk (by kernel_rfl) (by kernel_rfl) (by kernel_rfl) | exact Int.natCast_nonneg _ | ((repeat' refine And.intro ?_ ?_) <;> first | omega | exact Int.natCast_nonneg _ | (simp only [i64max, u8max, u16max, u32max, u64max]; omega) | (simp only [mulSz_eq, Cont.len, colsLen, Col.len, List.length_cons, List.length_nil, List.length_replicate, List.length_append]; first | done | omega) | (simp [mulSz, Cont.len, bne]; first | done | omega)))); conv => whnf)
    | (refine tst_in ?_ ?_; (focus (intro h_; exfalso; first | omega | ((try simp only [decide_eq_true_eq, decide_eq_false_iff_not] at h_); omega) | (simp [mulSz, Cont.len, bne] at h_; first | done | omega))); intro _; conv => whnf)
    | (refine tst_in ?_ ?_; rotate_left; (focus (intro h_; exfalso; first | omega | ((try simp only [decide_eq_true_eq, decide_eq_false_iff_not] at h_); omega) | (simp [mulSz, Cont.len, bne] at h_; first | done | omega))); intro _; conv => whnf)
    | (refine ⟨0, (show _ = _ by omega), ?_⟩; conv => whnf))
  refine ⟨?_, ?_⟩
  · skip
    conv => whnf
    repeat (first
      | (refine And.intro ?_ ?_; (focus (first | omega | decide | exact EqOk.mk (by kernel_rfl) (by kernel_rfl) (by kernel_rfl) | exact Int.natCast_nonneg _ | ((repeat' refine And.intro ?_ ?_) <;> first | omega | exact Int.natCast_nonneg _ | (simp only [i64max, u8max, u16max, u32max, u64max]; omega) | (simp only [mulSz_eq, Cont.len, colsLen, Col.len, List.length_cons, List.length_nil, List.length_replicate, List.length_append]; first | done | omega) | (simp [mulSz, Cont.len, bne]; first | done | omega)))); conv => whnf)
      | (refine tst_in ?_ ?_; (focus (intro h_; exfalso; first | omega | ((try simp only [decide_eq_true_eq, decide_eq_false_iff_not] at h_); omega) | (simp [mulSz, Cont.len, bne] at h_; first | done | omega))); intro _; conv => whnf)
      | (refine tst_in ?_ ?_; rotate_left; (focus (intro h_; exfalso; first | omega | ((try simp only [decide_eq_true_eq, decide_eq_false_iff_not] at h_); omega) | (simp [mulSz, Cont.len, bne] at h_; first | done | omega))); intro _; conv => whnf)
      | (refine ⟨0, (show _ = _ by omega), ?_⟩; conv => whnf))
    refine tst_in (fun u => ?_) (fun u => ?_)
    · have u : (65536 : Int) ≤ (z : Int) := @of_decide_eq_true _ (dLe _ _) u
      have e : (z : Int) / 2 ^ min (Int.toNat 16) IntKind.u64.bits = ((z / 65536 : Nat) : Int) := shr_n z 16 (by decide)
      have hs : sz z = sz (z / 65536) + 16 := sz_shift (n := z) (d := 16) (by show z / 65536 ≠ 0; omega)
      conv => whnf
      repeat (first
        | (refine And.intro ?_ ?_; (focus (first | omega | decide | exact EqOk.mk (by kernel_rfl) (by kernel_rfl) (by kernel_rfl) | exact Int.natCast_nonneg _ | ((repeat' refine And.intro ?_ ?_) <;> first | omega | exact Int.natCast_nonneg _ | (simp only [i64max, u8max, u16max, u32max, u64max]; omega) | (simp only [mulSz_eq, Cont.len, colsLen, Col.len, List.length_cons, List.length_nil, List.length_replicate, List.length_append]; first | done | omega) | (simp [mulSz, Cont.len, bne]; first | done | omega)))); conv => whnf)
        | (refine tst_in ?_ ?_; (focus (intro h_; exfalso; first | omega | ((try simp only [decide_eq_true_eq, decide_eq_false_iff_not] at h_); omega) | (simp [mulSz, Cont.len, bne] at h_; first | done | omega))); intro _; conv => whnf)
        | (refine tst_in ?_ ?_; rotate_left; (focus (intro h_; exfalso; first | omega | ((try simp only [decide_eq_true_eq, decide_eq_false_iff_not] at h_); omega) | (simp [mulSz, Cont.len, bne] at h_; first | done | omega))); intro _; conv => whnf)
        | (refine ⟨0, (show _ = _ by omega), ?_⟩; conv => whnf))
      refine ⟨[], (⟨z / 65536, c + 16⟩ : LZ), ?_, by show z / 65536 < 65536; omega, by show c + 16 ≤ 48; omega, by show sz n = sz (z / 65536) + (c + 16); omega⟩
      conv => whnf
      repeat' (first | exact True.intro | rfl | refine And.intro ?_ ?_)
      all_goals (conv => whnf)
      repeat' (first | exact True.intro | rfl | refine And.intro ?_ ?_)
      all_goals (try omega)
      all_goals (first | exact e.symm | rfl | exact Int.natCast_add c 16 | (show (((c + 16 : Nat)) : Int) = 16; omega))
    · have u : ¬ (65536 : Int) ≤ (z : Int) := @of_decide_eq_false _ (dLe _ _) u
      conv => whnf
      repeat (first
        | (refine And.intro ?_ ?_; (focus (first | omega | decide | exact EqOk.mk (by kernel_rfl) (by kernel_rfl) (by kernel_rfl) | exact Int.natCast_nonneg _ | ((repeat' refine And.intro ?_ ?_) <;> first | omega | exact Int.natCast_nonneg _ | (simp only [i64max, u8max, u16max, u32max, u64max]; omega) | (simp only [mulSz_eq, Cont.len, colsLen, Col.len, List.length_cons, List.length_nil, List.length_replicate, List.length_append]; first | done | omega) | (simp [mulSz, Cont.len, bne]; first | done | omega)))); conv => whnf)
        | (refine tst_in ?_ ?_; (focus (intro h_; exfalso; first | omega | ((try simp only [decide_eq_true_eq, decide_eq_false_iff_not] at h_); omega) | (simp [mulSz, Cont.len, bne] at h_; first | done | omega))); intro _; conv => whnf)
        | (refine tst_in ?_ ?_; rotate_left; (focus (intro h_; exfalso; first | omega | ((try simp only [decide_eq_true_eq, decide_eq_false_iff_not] at h_); omega) | (simp [mulSz, Cont.len, bne] at h_; first | done | omega))); intro _; conv => whnf)
        | (refine ⟨0, (show _ = _ by omega), ?_⟩; conv => whnf))
      refine ⟨[], (⟨z, c⟩ : LZ), ?_, by show z < 65536; omega, by show c ≤ 48; omega, by show sz n = sz z + c; omega⟩
      conv => whnf
      repeat' (first | exact True.intro | rfl | refine And.intro ?_ ?_)
      all_goals (conv => whnf)
      repeat' (first | exact True.intro | rfl | refine And.intro ?_ ?_)
      all_goals (try omega)
  rintro ⟨z, c⟩ ⟨h1, h2, h3⟩
  have h1 : z < 65536 := h1
  have h2 : c ≤ 48 := h2
  have h3 : sz n = sz z + c := h3
  show forceSt (stL z c) _
  conv => whnf
  repeat (first
    | (refine And.intro ?_ ?_; (focus (first | omega | decide | exact EqOk.mk (by kernel_rfl) (by kernel_rfl) (by kernel_rfl) | exact Int.natCast_nonneg _ | ((repeat' refine And.intro ?_ ?_) <;> first | omega | exact Int.natCast_nonneg _ | (simp only [i64max, u8max, u16max, u32max, u64max]; omega) | (simp only [mulSz_eq, Cont.len, colsLen, Col.len, List.length_cons, List.length_nil, List.length_replicate, List.length_append]; first | done | omega) | (simp [mulSz, Cont.len, bne]; first | done | omega)))); conv => whnf)
    | (refine tst_in ?_ ?_; (focus (intro h_; exfalso; first | omega | ((try simp only [decide_eq_true_eq, decide_eq_false_iff_not] at h_); omega) | (simp [mulSz, Cont.len, bne] at h_; first | done | omega))); intro _; conv => whnf)
    | (refine tst_in ?_ ?_; rotate_left; (focus (intro h_; exfalso; first | omega | ((try simp only [decide_eq_true_eq, decide_eq_false_iff_not] at h_); omega) | (simp [mulSz, Cont.len, bne] at h_; first | done | omega))); intro _; conv => whnf)
    | (refine ⟨0, (show _ = _ by omega), ?_⟩; conv => whnf))
  refine ⟨?_, ?_⟩
  · skip
    conv => whnf
    repeat (first
      | (refine And.intro ?_ ?_; (focus (first | omega | decide | exact EqOk.mk (by kernel_rfl) (by kernel_rfl) (by kernel_rfl) | exact Int.natCast_nonneg _ | ((repeat' refine And.intro ?_ ?_) <;> first | omega | exact Int.natCast_nonneg _ | (simp only [i64max, u8max, u16max, u32max, u64max]; omega) | (simp only [mulSz_eq, Cont.len, colsLen, Col.len, List.length_cons, List.length_nil, List.length_replicate, List.length_append]; first | done | omega) | (simp [mulSz, Cont.len, bne]; first | done | omega)))); conv => whnf)
      | (refine tst_in ?_ ?_; (focus (intro h_; exfalso; first | omega | ((try simp only [decide_eq_true_eq, decide_eq_false_iff_not] at h_); omega) | (simp [mulSz, Cont.len, bne] at h_; first | done | omega))); intro _; conv => whnf)
      | (refine tst_in ?_ ?_; rotate_left; (focus (intro h_; exfalso; first | omega | ((try simp only [decide_eq_true_eq, decide_eq_false_iff_not] at h_); omega) | (simp [mulSz, Cont.len, bne] at h_; first | done | omega))); intro _; conv => whnf)
      | (refine ⟨0, (show _ = _ by omega), ?_⟩; conv => whnf))
    refine tst_in (fun u => ?_) (fun u => ?_)
    · have u : (256 : Int) ≤ (z : Int) := @of_decide_eq_true _ (dLe _ _) u
      have e : (z : Int) / 2 ^ min (Int.toNat 8) IntKind.u64.bits = ((z / 256 : Nat) : Int) := shr_n z 8 (by decide)
      have hs : sz z = sz (z / 256) + 8 := sz_shift (n := z) (d := 8) (by show z / 256 ≠ 0; omega)
      conv => whnf
      repeat (first
        | (refine And.intro ?_ ?_; (focus (first | omega | decide | exact EqOk.mk (by kernel_rfl) (by kernel_rfl) (by kernel_rfl) | exact Int.natCast_nonneg _ | ((repeat' refine And.intro ?_ ?_) <;> first | omega | exact Int.natCast_nonneg _ | (simp only [i64max, u8max, u16max, u32max, u64max]; omega) | (simp only [mulSz_eq, Cont.len, colsLen, Col.len, List.length_cons, List.length_nil, List.length_replicate, List.length_append]; first | done | omega) | (simp [mulSz, Cont.len, bne]; first | done | omega)))); conv => whnf)
        | (refine tst_in ?_ ?_; (focus (intro h_; exfalso; first | omega | ((try simp only [decide_eq_true_eq, decide_eq_false_iff_not] at h_); omega) | (simp [mulSz, Cont.len, bne] at h_; first | done | omega))); intro _; conv => whnf)
        | (refine tst_in ?_ ?_; rotate_left; (focus (intro h_; exfalso; first | omega | ((try simp only [decide_eq_true_eq, decide_eq_false_iff_not] at h_); omega) | (simp [mulSz, Cont.len, bne] at h_; first | done | omega))); intro _; conv => whnf)
        | (refine ⟨0, (show _ = _ by omega), ?_⟩; conv => whnf))
      refine ⟨[], (⟨z / 256, c + 8⟩ : LZ), ?_, by show z / 256 < 256; omega, by show c + 8 ≤ 56; omega, by show sz n = sz (z / 256) + (c + 8); omega⟩
      conv => whnf
      repeat' (first | exact True.intro | rfl | refine And.intro ?_ ?_)
      all_goals (conv => whnf)
      repeat' (first | exact True.intro | rfl | refine And.intro ?_ ?_)
      all_goals (try omega)
      all_goals (first | exact e.symm | rfl | exact Int.natCast_add c 8 | (show (((c + 8 : Nat)) : Int) = 8; omega))
    · have u : ¬ (256 : Int) ≤ (z : Int) := @of_decide_eq_false _ (dLe _ _) u
      conv => whnf
      repeat (first
        | (refine And.intro ?_ ?_; (focus (first | omega | decide | exact EqOk.mk (by kernel_rfl) (by kernel_rfl) (by kernel_rfl) | exact Int.natCast_nonneg _ | ((repeat' refine And.intro ?_ ?_) <;> first | omega | exact Int.natCast_nonneg _ | (simp only [i64max, u8max, u16max, u32max, u64max]; omega) | (simp only [mulSz_eq, Cont.len, colsLen, Col.len, List.length_cons, List.length_nil, List.length_replicate, List.length_append]; first | done | omega) | (simp [mulSz, Cont.len, bne]; first | done | omega)))); conv => whnf)
        | (refine tst_in ?_ ?_; (focus (intro h_; exfalso; first | omega | ((try simp only [decide_eq_true_eq, decide_eq_false_iff_not] at h_); omega) | (simp [mulSz, Cont.len, bne] at h_; first | done | omega))); intro _; conv => whnf)
        | (refine tst_in ?_ ?_; rotate_left; (focus (intro h_; exfalso; first | omega | ((try simp only [decide_eq_true_eq, decide_eq_false_iff_not] at h_); omega) | (simp [mulSz, Cont.len, bne] at h_; first | done | omega))); intro _; conv => whnf)
        | (refine ⟨0, (show _ = _ by omega), ?_⟩; conv => whnf))
      refine ⟨[], (⟨z, c⟩ : LZ), ?_, by show z < 256; omega, by show c ≤ 56; omega, by show sz n = sz z + c; omega⟩
      conv => whnf
      repeat' (first | exact True.intro | rfl | refine And.intro ?_ ?_)
      all_goals (conv => whnf)
      repeat' (first | exact True.intro | rfl | refine And.intro ?_ ?_)
      all_goals (try omega)
  rintro ⟨z, c⟩ ⟨h1, h2, h3⟩
  have h1 : z < 256 := h1
  have h2 : c ≤ 56 := h2
  have h3 : sz n = sz z + c := h3
  show forceSt (stL z c) _
  conv => whnf
  repeat (first
    | (refine And.intro ?_ ?_; (focus (first | omega | decide | exact EqOk.mk (by kernel_rfl) (by kernel_rfl) (by kernel_rfl) | exact Int.natCast_nonneg _ | ((repeat' refine And.intro ?_ ?_) <;> first | omega | exact Int.natCast_nonneg _ | (simp only [i64max, u8max, u16max, u32max, u64max]; omega) | (simp only [mulSz_eq, Cont.len, colsLen, Col.len, List.length_cons, List.length_nil, List.length_replicate, List.length_append]; first | done | omega) | (simp [mulSz, Cont.len, bne]; first | done | omega)))); conv => whnf)
    | (refine tst_in ?_ ?_; (focus (intro h_; exfalso; first | omega | ((try simp only [decide_eq_true_eq, decide_eq_false_iff_not] at h_); omega) | (simp [mulSz, Cont.len, bne] at h_; first | done | omega))); intro _; conv => whnf)
    | (refine tst_in ?_ ?_; rotate_left; (focus (intro h_; exfalso; first | omega | ((try simp only [decide_eq_true_eq, decide_eq_false_iff_not] at h_); omega) | (simp [mulSz, Cont.len, bne] at h_; first | done | omega))); intro _; conv => whnf)
    | (refine ⟨0, (show _ = _ by omega), ?_⟩; conv => whnf))
  have W8 : IntKind.u8.wrap (z : Int) = (z : Int) := by
    rw [uw8]; omega
  refine ⟨⟨by rw [W8]; omega, by rw [W8]; exact (Int.ofNat_lt.2 h1 : ((z : Nat) : Int) < ((256 : Nat) : Int))⟩, ?_⟩
  conv => whnf
  repeat (first
    | (refine And.intro ?_ ?_; (focus (first | omega | decide | exact EqOk.mk (by kernel_rfl) (by kernel_rfl) (by kernel_rfl) | exact Int.natCast_nonneg _ | ((repeat' refine And.intro ?_ ?_) <;> first | omega | exact Int.natCast_nonneg _ | (simp only [i64max, u8max, u16max, u32max, u64max]; omega) | (simp only [mulSz_eq, Cont.len, colsLen, Col.len, List.length_cons, List.length_nil, List.length_replicate, List.length_append]; first | done | omega) | (simp [mulSz, Cont.len, bne]; first | done | omega)))); conv => whnf)
    | (refine tst_in ?_ ?_; (focus (intro h_; exfalso; first | omega | ((try simp only [decide_eq_true_eq, decide_eq_false_iff_not] at h_); omega) | (simp [mulSz, Cont.len, bne] at h_; first | done | omega))); intro _; conv => whnf)
    | (refine tst_in ?_ ?_; rotate_left; (focus (intro h_; exfalso; first | omega | ((try simp only [decide_eq_true_eq, decide_eq_false_iff_not] at h_); omega) | (simp [mulSz, Cont.len, bne] at h_; first | done | omega))); intro _; conv => whnf)
    | (refine ⟨0, (show _ = _ by omega), ?_⟩; conv => whnf))
  generalize hL : byteAt _ (IntKind.u8.wrap (z : Int)).toNat = B
  have hB : B = sz z := by
    rw [← hL, W8, Int.toNat_natCast]
    refine at_all z h1 ?_
    decide +kernel
  clear hL
  have h8 : sz z ≤ 8 := sz_lt.2 h1
  have WB : IntKind.i64.wrap (B : Int) = (B : Int) := wrap_i64 (by show (-9223372036854775808 : Int) ≤ (B : Int) ∧ (B : Int) ≤ 9223372036854775807; omega)
  rw [WB]
  conv => whnf
  repeat (first
    | (refine And.intro ?_ ?_; (focus (first | omega | decide | exact EqOk.mk (by kernel_rfl) (by kernel_rfl) (by kernel_rfl) | exact Int.natCast_nonneg _ | ((repeat' refine And.intro ?_ ?_) <;> first | omega | exact Int.natCast_nonneg _ | (simp only [i64max, u8max, u16max, u32max, u64max]; omega) | (simp only [mulSz_eq, Cont.len, colsLen, Col.len, List.length_cons, List.length_nil, List.length_replicate, List.length_append]; first | done | omega) | (simp [mulSz, Cont.len, bne]; first | done | omega)))); conv => whnf)
    | (refine tst_in ?_ ?_; (focus (intro h_; exfalso; first | omega | ((try simp only [decide_eq_true_eq, decide_eq_false_iff_not] at h_); omega) | (simp [mulSz, Cont.len, bne] at h_; first | done | omega))); intro _; conv => whnf)
    | (refine tst_in ?_ ?_; rotate_left; (focus (intro h_; exfalso; first | omega | ((try simp only [decide_eq_true_eq, decide_eq_false_iff_not] at h_); omega) | (simp [mulSz, Cont.len, bne] at h_; first | done | omega))); intro _; conv => whnf)
    | (refine ⟨0, (show _ = _ by omega), ?_⟩; conv => whnf))
  omega
end Go.Proofs.YtanogghfdamdcaaDoor

set_option linter.unusedVariables false
set_option linter.unusedSimpArgs false
namespace Go.Proofs.YtanogghfdamdcaaDoor
open Go Go.Fw
def cfgj (k : Nat) : Cfg := { T := tyL, sgn := fun _ => true, wr := fun _ => false, k := k, q := fun f => match f with | 2000012 => true | 2000038 => true | 9 => true | 29 => true | 47 => true | 50 => true | 24 => true | 48 => true | 49 => true | 51 => true | _ => false }
def stS (z c : Nat) : St := ⟨slotsAt 11 [(0, .int .u64 z), (3, .int .i64 c)], []⟩
def invS (n : Nat) : LInv := ⟨LZ, fun x => stS x.z x.c, fun x => x.z < 18446744073709551616 ∧ x.c ≤ 64 ∧ sz n = sz x.z + x.c, fun x => x.z⟩
set_option maxHeartbeats 0 in
set_option maxRecDepth 100000 in
theorem size_q (n : Nat) (h : n < 18446744073709551616) : QFits Tryd.prog 48 ⟨[.int .u64 n], [], .int .i64 (sz n : Nat)⟩ := by
  have hn : sz n ≤ 64 := sz_lt.2 h
  refine qfits_of_body (C := cfgj 0) (c := (Tryd.f48.body).getD .skip) (ts := [2]) tokL mixedL (fun | 2 => some (invS n) | _ => none) (fun _ => none)
    Tryd.func48 (by kernel_rfl) (by kernel_rfl) (by kernel_rfl) (by kernel_rfl) (by kernel_rfl) rfl rfl ?_
  conv => whnf
  repeat (first
    | (refine And.intro ?_ ?_; (focus (first | omega | decide | exact EqOk.mk (by kernel_rfl) (by kernel_rfl) (by kernel_rfl) | exact Int.natCast_nonneg _ | ((repeat' refine And.intro ?_ ?_) <;> first | omega | exact Int.natCast_nonneg _ | (simp only [i64max, u8max, u16max, u32max, u64max]; omega) | (simp only [mulSz_eq, Cont.len, colsLen, Col.len, List.length_cons, List.length_nil, List.length_replicate, List.length_append]; first | done | omega) | (simp [mulSz, Cont.len, bne]; first | done | omega)))); conv => whnf)
    | (refine tst_in ?_ ?_; (focus (intro h_; exfalso; first | omega | ((try simp only [decide_eq_true_eq, decide_eq_false_iff_not] at h_); omega) | (simp [mulSz, Cont.len, bne] at h_; first | done | omega))); intro _; conv => whnf)
    | (refine tst_in ?_ ?_; rotate_left; (focus (intro h_; exfalso; first | omega | ((try simp only [decide_eq_true_eq, decide_eq_false_iff_not] at h_); omega) | (simp [mulSz, Cont.len, bne] at h_; first | done | omega))); intro _; conv => whnf)
    | (refine ⟨0, (show _ = _ by omega), ?_⟩; conv => whnf))
  refine ⟨⟨[], (⟨n, 0⟩ : LZ), ?_, h, by show 0 ≤ 64; omega, rfl⟩, ?_⟩
  · show stLe _ _ (stS n 0) _
    conv => whnf
    repeat' (first | exact True.intro | rfl | refine And.intro ?_ ?_)
    all_goals (conv => whnf)
    repeat' (first | exact True.intro | rfl | refine And.intro ?_ ?_)
    all_goals (try omega)
  · rintro ⟨z, c⟩ ⟨h1, h2, h3⟩
    have h1 : z < 18446744073709551616 := h1
    have h2 : c ≤ 64 := h2
    have h3 : sz n = sz z + c := h3
    show forceSt (stS z c) _
    conv => whnf
    repeat (first
      | (refine And.intro ?_ ?_; (focus (first | omega | decide | exact EqOk.mk (by kernel_rfl) (by kernel_rfl) (by kernel_rfl) | exact Int.natCast_nonneg _ | ((repeat' refine And.intro ?_ ?_) <;> first | omega | exact Int.natCast_nonneg _ | (simp only [i64max, u8max, u16max, u32max, u64max]; omega) | (simp only [mulSz_eq, Cont.len, colsLen, Col.len, List.length_cons, List.length_nil, List.length_replicate, List.length_append]; first | done | omega) | (simp [mulSz, Cont.len, bne]; first | done | omega)))); conv => whnf)
      | (refine tst_in ?_ ?_; (focus (intro h_; exfalso; first | omega | ((try simp only [decide_eq_true_eq, decide_eq_false_iff_not] at h_); omega) | (simp [mulSz, Cont.len, bne] at h_; first | done | omega))); intro _; conv => whnf)
      | (refine tst_in ?_ ?_; rotate_left; (focus (intro h_; exfalso; first | omega | ((try simp only [decide_eq_true_eq, decide_eq_false_iff_not] at h_); omega) | (simp [mulSz, Cont.len, bne] at h_; first | done | omega))); intro _; conv => whnf)
      | (refine ⟨0, (show _ = _ by omega), ?_⟩; conv => whnf))
    refine tst_in (fun u => ?_) (fun u => ?_)
    · have u : (0 : Int) < (z : Int) := @of_decide_eq_true _ (dLt _ _) u
      have hs := sz_half (n := z) (by omega)
      have TD : (z : Int).tdiv 2 = ((z / 2 : Nat) : Int) := (Int.ofNat_tdiv z 2).symm
      have W : IntKind.u64.wrap ((z : Int).tdiv 2) = ((z / 2 : Nat) : Int) := by rw [TD, uw]; omega
      conv => whnf
      repeat (first
        | (refine And.intro ?_ ?_; (focus (first | omega | decide | exact EqOk.mk (by kernel_rfl) (by kernel_rfl) (by kernel_rfl) | exact Int.natCast_nonneg _ | ((repeat' refine And.intro ?_ ?_) <;> first | omega | exact Int.natCast_nonneg _ | (simp only [i64max, u8max, u16max, u32max, u64max]; omega) | (simp only [mulSz_eq, Cont.len, colsLen, Col.len, List.length_cons, List.length_nil, List.length_replicate, List.length_append]; first | done | omega) | (simp [mulSz, Cont.len, bne]; first | done | omega)))); conv => whnf)
        | (refine tst_in ?_ ?_; (focus (intro h_; exfalso; first | omega | ((try simp only [decide_eq_true_eq, decide_eq_false_iff_not] at h_); omega) | (simp [mulSz, Cont.len, bne] at h_; first | done | omega))); intro _; conv => whnf)
        | (refine tst_in ?_ ?_; rotate_left; (focus (intro h_; exfalso; first | omega | ((try simp only [decide_eq_true_eq, decide_eq_false_iff_not] at h_); omega) | (simp [mulSz, Cont.len, bne] at h_; first | done | omega))); intro _; conv => whnf)
        | (refine ⟨0, (show _ = _ by omega), ?_⟩; conv => whnf))
      refine ⟨[], (⟨z / 2, c + 1⟩ : LZ), ?_, ⟨by show z / 2 < 18446744073709551616; omega, by have h0 : sz n = sz z + c := h3; show c + 1 ≤ 64; omega, by show sz n = sz (z / 2) + (c + 1); omega⟩, by show z / 2 < z; omega⟩
      show stLe _ _ (stS (z / 2) (c + 1)) _
      conv => whnf
      repeat' (first | exact True.intro | rfl | refine And.intro ?_ ?_)
      all_goals (conv => whnf)
      repeat' (first | exact True.intro | rfl | refine And.intro ?_ ?_)
      all_goals (try omega)
      all_goals (first | exact W.symm | rfl)
    · have u : ¬ (0 : Int) < (z : Int) := @of_decide_eq_false _ (dLt _ _) u
      have hz : z = 0 := by omega
      have h4 : sz n = c := by rw [h3, hz]; show 0 + c = c; omega
      conv => whnf
      repeat (first
        | (refine And.intro ?_ ?_; (focus (first | omega | decide | exact EqOk.mk (by kernel_rfl) (by kernel_rfl) (by kernel_rfl) | exact Int.natCast_nonneg _ | ((repeat' refine And.intro ?_ ?_) <;> first | omega | exact Int.natCast_nonneg _ | (simp only [i64max, u8max, u16max, u32max, u64max]; omega) | (simp only [mulSz_eq, Cont.len, colsLen, Col.len, List.length_cons, List.length_nil, List.length_replicate, List.length_append]; first | done | omega) | (simp [mulSz, Cont.len, bne]; first | done | omega)))); conv => whnf)
        | (refine tst_in ?_ ?_; (focus (intro h_; exfalso; first | omega | ((try simp only [decide_eq_true_eq, decide_eq_false_iff_not] at h_); omega) | (simp [mulSz, Cont.len, bne] at h_; first | done | omega))); intro _; conv => whnf)
        | (refine tst_in ?_ ?_; rotate_left; (focus (intro h_; exfalso; first | omega | ((try simp only [decide_eq_true_eq, decide_eq_false_iff_not] at h_); omega) | (simp [mulSz, Cont.len, bne] at h_; first | done | omega))); intro _; conv => whnf)
        | (refine ⟨0, (show _ = _ by omega), ?_⟩; conv => whnf))
      omega
def pwb (p : Int) : Nat := if -1022 ≤ p then (p + 1023).toNat * 4503599627370496 else 2 ^ (p + 1074).toNat
theorem NM_pwb {p : Int} (h1 : -1074 ≤ p) (h2 : p ≤ 1023) : NM false 1 p (pwb p) := by
  unfold pwb
  by_cases q : -1022 ≤ p
  · rw [if_pos q]; exact NM_pow q h2
  · rw [if_neg q]; exact NM_tiny h1 (by omega)
set_option maxHeartbeats 0 in
set_option maxRecDepth 100000 in
theorem power_q {p : Int} (h1 : -1074 ≤ p) (h2 : p ≤ 1023) : QFits Tryd.prog 49 ⟨[.int .i64 p], [], .flt .f64 (pwb p)⟩ := by
  refine qfits_of_body (C := cfgj 0) (c := (Tryd.f49.body).getD .skip) (ts := [2]) tokL mixedL (fun _ => none) (fun _ => none)
    Tryd.func49 (by kernel_rfl) (by kernel_rfl) (by kernel_rfl) (by kernel_rfl) (by kernel_rfl) rfl rfl ?_
  conv => whnf
  repeat (first
    | (refine And.intro ?_ ?_; (focus (first | omega | decide | exact EqOk.mk (by kernel_rfl) (by kernel_rfl) (by kernel_rfl) | exact Int.natCast_nonneg _ | ((repeat' refine And.intro ?_ ?_) <;> first | omega | exact Int.natCast_nonneg _ | (simp only [i64max, u8max, u16max, u32max, u64max]; omega) | (simp only [mulSz_eq, Cont.len, colsLen, Col.len, List.length_cons, List.length_nil, List.length_replicate, List.length_append]; first | done | omega) | (simp [mulSz, Cont.len, bne]; first | done | omega)))); conv => whnf)
    | (refine tst_in ?_ ?_; (focus (intro h_; exfalso; first | omega | ((try simp only [decide_eq_true_eq, decide_eq_false_iff_not] at h_); omega) | (simp [mulSz, Cont.len, bne] at h_; first | done | omega))); intro _; conv => whnf)
    | (refine tst_in ?_ ?_; rotate_left; (focus (intro h_; exfalso; first | omega | ((try simp only [decide_eq_true_eq, decide_eq_false_iff_not] at h_); omega) | (simp [mulSz, Cont.len, bne] at h_; first | done | omega))); intro _; conv => whnf)
    | (refine ⟨0, (show _ = _ by omega), ?_⟩; conv => whnf))
  refine tst_in (fun u => ?_) (fun u => ?_)
  · have u : (-1022 : Int) ≤ p := @of_decide_eq_true _ (dLe _ _) u
    have E : (IntKind.u64.wrap (IntKind.u64.wrap (p + 1023) * 2 ^ min (Int.toNat 52) IntKind.u64.bits)).toNat = pwb p := by
      unfold pwb
      rw [if_pos u, uw, uw, show (2 : Int) ^ min (Int.toNat 52) IntKind.u64.bits = 4503599627370496 by decide]
      omega
    have FB := fb_x (IntKind.u64.wrap (IntKind.u64.wrap (p + 1023) * 2 ^ min (Int.toNat 52) IntKind.u64.bits))
    rw [E] at FB
    conv => whnf
    repeat (first
      | (refine And.intro ?_ ?_; (focus (first | omega | decide | exact EqOk.mk (by kernel_rfl) (by kernel_rfl) (by kernel_rfl) | exact Int.natCast_nonneg _ | ((repeat' refine And.intro ?_ ?_) <;> first | omega | exact Int.natCast_nonneg _ | (simp only [i64max, u8max, u16max, u32max, u64max]; omega) | (simp only [mulSz_eq, Cont.len, colsLen, Col.len, List.length_cons, List.length_nil, List.length_replicate, List.length_append]; first | done | omega) | (simp [mulSz, Cont.len, bne]; first | done | omega)))); conv => whnf)
      | (refine tst_in ?_ ?_; (focus (intro h_; exfalso; first | omega | ((try simp only [decide_eq_true_eq, decide_eq_false_iff_not] at h_); omega) | (simp [mulSz, Cont.len, bne] at h_; first | done | omega))); intro _; conv => whnf)
      | (refine tst_in ?_ ?_; rotate_left; (focus (intro h_; exfalso; first | omega | ((try simp only [decide_eq_true_eq, decide_eq_false_iff_not] at h_); omega) | (simp [mulSz, Cont.len, bne] at h_; first | done | omega))); intro _; conv => whnf)
      | (refine ⟨0, (show _ = _ by omega), ?_⟩; conv => whnf))
    refine ⟨_, _, FB, rfl, ?_⟩
    conv => whnf
  · have u : ¬ (-1022 : Int) ≤ p := @of_decide_eq_false _ (dLe _ _) u
    have hk : 2 ^ (p + 1074).toNat ≤ 2 ^ 51 := Nat.pow_le_pow_right (by decide) (by omega)
    have E : (IntKind.u64.wrap (1 * 2 ^ min (p + 1074).toNat IntKind.u64.bits)).toNat = pwb p := by
      unfold pwb
      rw [if_neg u, uw, show min (p + 1074).toNat IntKind.u64.bits = (p + 1074).toNat from Nat.min_eq_left (by show _ ≤ 64; omega), Int.one_mul, pow_nat, Int.emod_eq_of_lt (Int.natCast_nonneg _) (by
        have : (2 : Nat) ^ 51 < 18446744073709551616 := by decide
        omega)]
      rfl
    have FB := fb_x (IntKind.u64.wrap (1 * 2 ^ min (p + 1074).toNat IntKind.u64.bits))
    rw [E] at FB
    conv => whnf
    repeat (first
      | (refine And.intro ?_ ?_; (focus (first | omega | decide | exact EqOk.mk (by kernel_rfl) (by kernel_rfl) (by kernel_rfl) | exact Int.natCast_nonneg _ | ((repeat' refine And.intro ?_ ?_) <;> first | omega | exact Int.natCast_nonneg _ | (simp only [i64max, u8max, u16max, u32max, u64max]; omega) | (simp only [mulSz_eq, Cont.len, colsLen, Col.len, List.length_cons, List.length_nil, List.length_replicate, List.length_append]; first | done | omega) | (simp [mulSz, Cont.len, bne]; first | done | omega)))); conv => whnf)
      | (refine tst_in ?_ ?_; (focus (intro h_; exfalso; first | omega | ((try simp only [decide_eq_true_eq, decide_eq_false_iff_not] at h_); omega) | (simp [mulSz, Cont.len, bne] at h_; first | done | omega))); intro _; conv => whnf)
      | (refine tst_in ?_ ?_; rotate_left; (focus (intro h_; exfalso; first | omega | ((try simp only [decide_eq_true_eq, decide_eq_false_iff_not] at h_); omega) | (simp [mulSz, Cont.len, bne] at h_; first | done | omega))); intro _; conv => whnf)
      | (refine ⟨0, (show _ = _ by omega), ?_⟩; conv => whnf))
    refine ⟨_, _, FB, rfl, ?_⟩
    conv => whnf
end Go.Proofs.YtanogghfdamdcaaDoor

set_option linter.unusedVariables false
set_option linter.unusedSimpArgs false
namespace Go.Proofs.YtanogghfdamdcaaDoor
open Go Go.Fw
set_option maxHeartbeats 0 in
set_option maxRecDepth 100000 in
theorem assembled_q {o : Nat} {p : Int} (h0 : 0 < o) (h53 : sz o ≤ 53) (h1 : -1074 ≤ p) (h2 : p + (sz o : Nat) ≤ 1024) : QFits Tryd.prog 51 ⟨[.int .u64 o, .int .i64 p], [], .int .u64 (asm o p : Nat)⟩ := by
  have hp := sz_pos h0
  have ho : o < 9007199254740992 := sz_lt.1 h53
  have LQ := Len64_q o (by omega)
  obtain ⟨a1, a2⟩ := asm_high h0 h53
  refine qfits_of_body (C := cfgj 0) (c := (Tryd.f51.body).getD .skip) (ts := [4]) tokL mixedL (fun _ => none) (fun _ => none)
    Tryd.func51 (by kernel_rfl) (by kernel_rfl) (by kernel_rfl) (by kernel_rfl) (by kernel_rfl) rfl rfl ?_
  conv => whnf
  repeat (first
    | (refine And.intro ?_ ?_; (focus (first | omega | decide | exact EqOk.mk (by kernel_rfl) (by kernel_rfl) (by kernel_rfl) | exact Int.natCast_nonneg _ | ((repeat' refine And.intro ?_ ?_) <;> first | omega | exact Int.natCast_nonneg _ | (simp only [i64max, u8max, u16max, u32max, u64max]; omega) | (simp only [mulSz_eq, Cont.len, colsLen, Col.len, List.length_cons, List.length_nil, List.length_replicate, List.length_append]; first | done | omega) | (simp [mulSz, Cont.len, bne]; first | done | omega)))); conv => whnf)
    | (refine tst_in ?_ ?_; (focus (intro h_; exfalso; first | omega | ((try simp only [decide_eq_true_eq, decide_eq_false_iff_not] at h_); omega) | (simp [mulSz, Cont.len, bne] at h_; first | done | omega))); intro _; conv => whnf)
    | (refine tst_in ?_ ?_; rotate_left; (focus (intro h_; exfalso; first | omega | ((try simp only [decide_eq_true_eq, decide_eq_false_iff_not] at h_); omega) | (simp [mulSz, Cont.len, bne] at h_; first | done | omega))); intro _; conv => whnf)
    | (refine ⟨0, (show _ = _ by omega), ?_⟩; conv => whnf))
  refine ⟨_, [], LQ, ?_⟩
  conv => whnf
  iterate 2
   refine And.intro ?_ ?_
   focus
    conv => whnf
    repeat' (first | exact True.intro | rfl | refine And.intro ?_ ?_ | omega)
    all_goals (conv => whnf)
    all_goals (try (first | rfl | omega | (simp; done)))
  conv => whnf
  conv => whnf
  repeat (first
    | (refine And.intro ?_ ?_; (focus (first | omega | decide | exact EqOk.mk (by kernel_rfl) (by kernel_rfl) (by kernel_rfl) | exact Int.natCast_nonneg _ | ((repeat' refine And.intro ?_ ?_) <;> first | omega | exact Int.natCast_nonneg _ | (simp only [i64max, u8max, u16max, u32max, u64max]; omega) | (simp only [mulSz_eq, Cont.len, colsLen, Col.len, List.length_cons, List.length_nil, List.length_replicate, List.length_append]; first | done | omega) | (simp [mulSz, Cont.len, bne]; first | done | omega)))); conv => whnf)
    | (refine tst_in ?_ ?_; (focus (intro h_; exfalso; first | omega | ((try simp only [decide_eq_true_eq, decide_eq_false_iff_not] at h_); omega) | (simp [mulSz, Cont.len, bne] at h_; first | done | omega))); intro _; conv => whnf)
    | (refine tst_in ?_ ?_; rotate_left; (focus (intro h_; exfalso; first | omega | ((try simp only [decide_eq_true_eq, decide_eq_false_iff_not] at h_); omega) | (simp [mulSz, Cont.len, bne] at h_; first | done | omega))); intro _; conv => whnf)
    | (refine ⟨0, (show _ = _ by omega), ?_⟩; conv => whnf))
  refine tst_in (fun u => ?_) (fun u => ?_)
  · have u := @of_decide_eq_true _ (dLt _ _) u
    have hl := asm_low h0 h1 (by omega)
    conv => whnf
    repeat (first
      | (refine And.intro ?_ ?_; (focus (first | omega | decide | exact EqOk.mk (by kernel_rfl) (by kernel_rfl) (by kernel_rfl) | exact Int.natCast_nonneg _ | ((repeat' refine And.intro ?_ ?_) <;> first | omega | exact Int.natCast_nonneg _ | (simp only [i64max, u8max, u16max, u32max, u64max]; omega) | (simp only [mulSz_eq, Cont.len, colsLen, Col.len, List.length_cons, List.length_nil, List.length_replicate, List.length_append]; first | done | omega) | (simp [mulSz, Cont.len, bne]; first | done | omega)))); conv => whnf)
      | (refine tst_in ?_ ?_; (focus (intro h_; exfalso; first | omega | ((try simp only [decide_eq_true_eq, decide_eq_false_iff_not] at h_); omega) | (simp [mulSz, Cont.len, bne] at h_; first | done | omega))); intro _; conv => whnf)
      | (refine tst_in ?_ ?_; rotate_left; (focus (intro h_; exfalso; first | omega | ((try simp only [decide_eq_true_eq, decide_eq_false_iff_not] at h_); omega) | (simp [mulSz, Cont.len, bne] at h_; first | done | omega))); intro _; conv => whnf)
      | (refine ⟨0, (show _ = _ by omega), ?_⟩; conv => whnf))
    unfold asm
    rw [if_pos (by omega), show p - -1074 = p + 1074 by omega, show min (p + 1074).toNat IntKind.u64.bits = (p + 1074).toNat from Nat.min_eq_left (by show _ ≤ 64; omega), pow_nat, ← Int.natCast_mul, uw]
    exact (Int.emod_eq_of_lt (Int.natCast_nonneg _) (by omega)).symm
  · have u := @of_decide_eq_false _ (dLt _ _) u
    conv => whnf
    repeat (first
      | (refine And.intro ?_ ?_; (focus (first | omega | decide | exact EqOk.mk (by kernel_rfl) (by kernel_rfl) (by kernel_rfl) | exact Int.natCast_nonneg _ | ((repeat' refine And.intro ?_ ?_) <;> first | omega | exact Int.natCast_nonneg _ | (simp only [i64max, u8max, u16max, u32max, u64max]; omega) | (simp only [mulSz_eq, Cont.len, colsLen, Col.len, List.length_cons, List.length_nil, List.length_replicate, List.length_append]; first | done | omega) | (simp [mulSz, Cont.len, bne]; first | done | omega)))); conv => whnf)
      | (refine tst_in ?_ ?_; (focus (intro h_; exfalso; first | omega | ((try simp only [decide_eq_true_eq, decide_eq_false_iff_not] at h_); omega) | (simp [mulSz, Cont.len, bne] at h_; first | done | omega))); intro _; conv => whnf)
      | (refine tst_in ?_ ?_; rotate_left; (focus (intro h_; exfalso; first | omega | ((try simp only [decide_eq_true_eq, decide_eq_false_iff_not] at h_); omega) | (simp [mulSz, Cont.len, bne] at h_; first | done | omega))); intro _; conv => whnf)
      | (refine ⟨0, (show _ = _ by omega), ?_⟩; conv => whnf))
    unfold asm
    rw [if_neg (by omega), show min (53 - (sz o : Int)).toNat IntKind.u64.bits = 53 - sz o from by rw [show (53 - (sz o : Int)).toNat = 53 - sz o by omega]; exact Nat.min_eq_left (by show _ ≤ 64; omega), pow_nat (53 - sz o), ← Int.natCast_mul]
    generalize o * 2 ^ (53 - sz o) = S at *
    have hS : IntKind.u64.wrap ((S : Nat) : Int) = S := by rw [uw]; omega
    rw [hS, and52 (b := S) (by omega)]
    obtain ⟨X, hX⟩ : ∃ X, X = (p + (sz o : Nat) + 1022).toNat := ⟨_, rfl⟩
    have hW : IntKind.u64.wrap (IntKind.u64.wrap (p + (sz o : Nat) - 1 + 1023) * 2 ^ min (Int.toNat 52) IntKind.u64.bits) = ((X * 4503599627370496 : Nat) : Int) := by
      rw [uw, uw, show (2 : Int) ^ min (Int.toNat 52) IntKind.u64.bits = 4503599627370496 by decide]; omega
    rw [hW, or_u _ _ (by omega) (by omega), ← hX]
    have e := Nat.two_pow_add_eq_or_of_lt (i := 52) (b := S % 4503599627370496) (by omega) X
    rw [show (2 : Nat) ^ 52 = 4503599627370496 by decide, Nat.mul_comm 4503599627370496 X] at e
    rw [← e, show S - 4503599627370496 = S % 4503599627370496 by omega]
end Go.Proofs.YtanogghfdamdcaaDoor
