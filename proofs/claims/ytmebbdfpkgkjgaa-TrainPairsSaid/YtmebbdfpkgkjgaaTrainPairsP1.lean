/-
  What the functions that are called give: for TrainPairs.
-/
import Derived.Test.YtmebbdfpkgkjgaaRows
import Derived.Test.YtmebbdfpkgkjgaaFl
import Derived.Test.YtmebbdfpkgkjgaaFv
set_option linter.unusedSimpArgs false
set_option linter.unusedVariables false
namespace Go.Fw
open Go Ieee
set_option exponentiation.threshold 2200
theorem log2_shift (m d : Nat) (hm : 0 < m) : (m * 2 ^ d).log2 = m.log2 + d := by
  have h1 : 2 ^ m.log2 ≤ m := Nat.log2_self_le (by omega)
  have h2 : m < 2 ^ (m.log2 + 1) := Nat.lt_log2_self
  have hp := Nat.two_pow_pos d
  have h3 : 2 ^ (m.log2 + d) ≤ m * 2 ^ d := by rw [Nat.pow_add]; exact Nat.mul_le_mul_right _ h1
  have h4 : m * 2 ^ d < 2 ^ (m.log2 + d + 1) := by
    rw [show m.log2 + d + 1 = (m.log2 + 1) + d by omega, Nat.pow_add]
    exact Nat.mul_lt_mul_of_pos_right h2 hp
  have hz : m * 2 ^ d ≠ 0 := by have := Nat.mul_pos hm hp; omega
  have h5 : (m * 2 ^ d).log2 < m.log2 + d + 1 := (Nat.log2_lt hz).2 h4
  have h6 : m.log2 + d ≤ (m * 2 ^ d).log2 := (Nat.le_log2 hz).2 h3
  omega
theorem nearest_shift (neg : Bool) (m d : Nat) (p : Int) (hm : 0 < m) (h : lst m (p + d) ≤ p + d) : D.nearest neg (m * 2 ^ d) p = D.nearest neg m (p + d) := by
  have hp := Nat.two_pow_pos d
  have hz : m * 2 ^ d ≠ 0 := by have := Nat.mul_pos hm hp; omega
  have hl : lst (m * 2 ^ d) p = lst m (p + d) := by
    unfold lst; rw [log2_shift m d hm]; push_cast; congr 1; omega
  unfold Format.nearest
  rw [if_neg hz, if_neg (by omega), d_least, d_bin, d_inf]
  show D.word neg (min ((lst (m * 2 ^ d) p - -1074).toNat * 4503599627370496 + Toward.even.cut neg ((m * 2 ^ d) <<< (p - lst (m * 2 ^ d) p).toNat) (lst (m * 2 ^ d) p - p).toNat) 9218868437227405312) = D.word neg (min ((lst m (p + d) - -1074).toNat * 4503599627370496 + Toward.even.cut neg (m <<< (p + d - lst m (p + d)).toNat) (lst m (p + d) - (p + d)).toNat) 9218868437227405312)
  rw [hl]
  generalize hL : lst m (p + d) = L at *
  congr 3
  by_cases hc : L ≤ p
  · rw [show (L - p).toNat = 0 by omega, show (L - (p + d)).toNat = 0 by omega, Nat.shiftLeft_eq, Nat.shiftLeft_eq, show (p + d - L).toNat = d + (p - L).toNat by omega, Nat.pow_add, Nat.mul_assoc]
  · rw [show (p - L).toNat = 0 by omega, show (L - (p + d)).toNat = 0 by omega, Nat.shiftLeft_zero, cut_zero, Nat.shiftLeft_eq]
    have e : m * 2 ^ d = m * 2 ^ (p + d - L).toNat * 2 ^ (L - p).toNat := by
      rw [Nat.mul_assoc, ← Nat.pow_add]; congr 2; omega
    have hg : (L - p).toNat ≤ (m * 2 ^ d).log2 + 2 := by rw [log2_shift m d hm]; omega
    rw [e] at hg ⊢
    exact cut_exact neg _ _ hg
/-- Any number times 2 ^ j, if it is not too great. -/
theorem V_scale {b c j : Nat} {X : Int} (h : V 1074 b X) (hc : D.read c = .number false 4503599627370496 (-52 + j)) (hX : X.natAbs < 2 ^ (2097 - j)) (hj : j ≤ 1000) : ∃ r, D.mul b c = some r ∧ V 1074 r (X * 2 ^ j) := by
  unfold V at h
  obtain ⟨s, m, P, e1, e2⟩ := h
  have b1 := read_bound e1
  unfold Format.mul
  rw [e1, hc]
  simp only [Datum.product, Option.map_some]
  refine ⟨_, rfl, ?_⟩
  rw [Nat.sub_self, Int.pow_zero, Int.mul_one] at e2
  rw [show (s ^^ false) = s by cases s <;> rfl]
  by_cases h0 : m = 0
  · subst h0
    have hX0 : X = 0 := by rw [← e2, signed_eq]; cases s <;> simp
    rw [Nat.zero_mul]
    unfold V
    exact ⟨s, 0, -1074, write_read0 s _, by rw [hX0, signed_eq]; cases s <;> simp⟩
  have hm : 0 < m := by omega
  have hlog : m.log2 ≤ 52 := by
    have h53 : (2 : Nat) ^ 53 = 9007199254740992 := by decide
    have : m.log2 < 53 := (Nat.log2_lt (by omega)).2 (by omega)
    omega
  have hmag : m * 2 ^ (P + 1074).toNat = X.natAbs := by rw [← e2, signed_abs]
  have hup : m.log2 + (P + 1074).toNat < 2097 - j := by
    have h1 : 2 ^ m.log2 ≤ m := Nat.log2_self_le (by omega)
    have h2 : 2 ^ m.log2 * 2 ^ (P + 1074).toNat ≤ m * 2 ^ (P + 1074).toNat := Nat.mul_le_mul_right _ h1
    rw [← Nat.pow_add, hmag] at h2
    exact (Nat.pow_lt_pow_iff_right (by decide : 1 < 2)).1 (Nat.lt_of_le_of_lt h2 hX)
  have hw : D.write (.number s (m * 4503599627370496) (P + (-52 + j))) = D.write (.number s (m * 2 ^ 0) (P + j)) := by
    show D.nearest s (m * 4503599627370496) _ = D.nearest s (m * 2 ^ 0) _
    rw [show (4503599627370496 : Nat) = 2 ^ 52 by decide, nearest_shift s m 52 _ hm (by unfold lst; omega), Nat.pow_zero, Nat.mul_one]
    congr 1; omega
  obtain ⟨M, Q, k1, k2, k3⟩ := write_exact s m 0 (P + j) hm b1.1 (by omega) (by rw [Nat.pow_zero, Nat.mul_one]; omega)
  rw [hw]
  unfold V
  refine ⟨s, M, Q, k1, ?_⟩
  rw [Nat.sub_self, Int.pow_zero, Int.mul_one, ← e2, signed_shift]
  rw [Nat.pow_zero, Nat.mul_one] at k3
  rw [signed_eq, signed_eq]
  have k4 := congrArg (Nat.cast : Nat → Int) k3
  push_cast at k4
  rw [k4]
  congr 3
  omega
end Go.Fw

namespace Go.Fw
open Go Ieee
set_option exponentiation.threshold 2200
theorem V_fin {b : Nat} {s : Bool} {m : Nat} {P : Int} (h : D.read b = .number s m P) : V 1074 b (signed s m (P + 1074).toNat) := by
  unfold V
  exact ⟨s, m, P, h, by rw [Nat.sub_self, Int.pow_zero, Int.mul_one]⟩
theorem V_all {q b : Nat} {x : Int} (h : V q b x) (hq : q ≤ 1074) : V 1074 b (x * 2 ^ (1074 - q)) := by
  have := V_up h (1074 - q) (by omega)
  rw [show q + (1074 - q) = 1074 by omega] at this
  exact this
/-- No number at all. -/
inductive Wild (b : Nat) : Prop
  | inf (s : Bool) (h : D.read b = .infinity s)
  | nan (s : Bool) (f : Nat) (h : D.read b = .nan s f)
theorem fin_or (b : Nat) : (∃ X, V 1074 b X) ∨ Wild b := by
  rcases h : D.read b with ⟨s, m, P⟩ | s | ⟨s, f⟩
  · exact .inl ⟨_, V_fin h⟩
  · exact .inr (.inf s h)
  · exact .inr (.nan s f h)
theorem wild_out {b c d : Nat} {y z : Int} {q : Nat} (h : Wild b) (hc : V q c y) (hd : V q d z) : ((D.order b c == some .gt || D.order b c == some .eq) && (D.order b d == some .lt || D.order b d == some .eq)) = false := by
  unfold V at hc hd
  obtain ⟨s1, m1, P1, e1, -⟩ := hc
  obtain ⟨s2, m2, P2, e2, -⟩ := hd
  rcases h with ⟨s, h⟩ | ⟨s, f, h⟩
  · unfold Format.order
    rw [h, e1, e2]
    cases s <;> rfl
  · unfold Format.order
    rw [h, e1, e2]
    rfl
theorem zcut (neg : Bool) (n d : Nat) : Toward.zero.cut neg n d = n / 2 ^ d := by
  unfold Toward.cut
  simp only [Nat.one_shiftLeft, Bool.toNat_false, Nat.add_zero]
  by_cases h : d ≤ n.log2 + 2
  · rw [Nat.min_eq_left h]
  · rw [Nat.min_eq_right (by omega)]
    have h1 : n < 2 ^ (n.log2 + 1) := Nat.lt_log2_self
    have h2 : 2 ^ (n.log2 + 1) ≤ 2 ^ (n.log2 + 2) := Nat.pow_le_pow_right (by decide) (by omega)
    have h3 : 2 ^ (n.log2 + 1) ≤ 2 ^ d := Nat.pow_le_pow_right (by decide) (by omega)
    rw [Nat.div_eq_of_lt (by omega), Nat.div_eq_of_lt (by omega)]
/-- The whole part, towards nought. -/
theorem V_toInt {b : Nat} {X : Int} (h : V 1074 b X) : (D.read b).toInt .zero = some (X.tdiv (2 ^ 1074)) := by
  unfold V at h
  obtain ⟨s, m, P, e1, e2⟩ := h
  have b1 := read_bound e1
  rw [Nat.sub_self, Int.pow_zero, Int.mul_one] at e2
  rw [e1]
  show some (signed s (Toward.zero.cut s (m <<< P.toNat) (-P).toNat) 0) = _
  congr 1
  rw [zcut, Nat.shiftLeft_eq]
  have key : m * 2 ^ P.toNat / 2 ^ (-P).toNat = m * 2 ^ (P + 1074).toNat / 2 ^ 1074 := by
    by_cases hc : 0 ≤ P
    · rw [show (-P).toNat = 0 by omega, Nat.pow_zero, Nat.div_one, show (P + 1074).toNat = P.toNat + 1074 by omega, Nat.pow_add, ← Nat.mul_assoc, Nat.mul_div_cancel _ (Nat.two_pow_pos 1074)]
    · have hp := Nat.two_pow_pos (P + 1074).toNat
      rw [show P.toNat = 0 by omega, Nat.pow_zero, Nat.mul_one]
      have : (2 : Nat) ^ 1074 = 2 ^ (-P).toNat * 2 ^ (P + 1074).toNat := by rw [← Nat.pow_add]; congr 1; omega
      rw [this, Nat.mul_div_mul_right _ _ hp]
  rw [key, ← e2, signed_eq, signed_eq]
  have hcast : ((m * 2 ^ (P + 1074).toNat / 2 ^ 1074 : Nat) : Int) = ((m : Int) * 2 ^ (P + 1074).toNat).tdiv (2 ^ 1074) := by
    have h1 : ((m : Int) * 2 ^ (P + 1074).toNat) = ((m * 2 ^ (P + 1074).toNat : Nat) : Int) := by rw [Int.natCast_mul, Int.natCast_pow]; rfl
    have h2 : ((2 : Int) ^ 1074) = ((2 ^ 1074 : Nat) : Int) := by rw [Int.natCast_pow]; rfl
    rw [h1, h2]; rfl
  rw [hcast, Int.pow_zero, Int.mul_one]
  cases s
  · simp
  · simp only [if_true, Int.neg_one_mul, Int.neg_tdiv]
theorem V_conv {b : Nat} {X : Int} (h : V 1074 b X) (k : IntKind) (h1 : k.min ≤ X.tdiv (2 ^ 1074)) (h2 : X.tdiv (2 ^ 1074) ≤ k.max) : floatToIntVal .f64 b k = some (X.tdiv (2 ^ 1074)) := by
  unfold floatToIntVal
  rw [show (FloatKind.f64.decode b).toInt .zero = some (X.tdiv (2 ^ 1074)) from V_toInt h]
  exact if_pos ⟨h1, h2⟩
end Go.Fw

namespace Go.Fw
open Go Ieee
set_option exponentiation.threshold 2200
/-- A number of few digits by a power of two. -/
theorem V_div {q a c j : Nat} {n : Int} (h : V q a n) (hc : D.read c = .number false 4503599627370496 (-52 + j)) (h1 : -9007199254740992 < n) (h2 : n < 9007199254740992) (hq : q + j ≤ 900) : ∃ r, D.div a c = some r ∧ V (q + j) r n := by
  unfold V at h
  obtain ⟨s, m, i, e1, e2⟩ := h
  have b1 := read_bound e1
  have hfb : D.fractionBits + 2 = 54 := by decide
  unfold Format.div
  rw [e1, hc, hfb]
  by_cases h0 : m = 0
  · subst h0
    have hn : n = 0 := by
      have h3 : signed s 0 (i + 1074).toNat = 0 := by rw [signed_eq]; cases s <;> simp
      rw [h3] at e2
      exact (Int.mul_eq_zero.1 e2.symm).resolve_right (by have : (0 : Int) < 2 ^ (1074 - q) := Int.pow_pos (by decide)
                                                          omega)
    subst hn
    refine ⟨_, rfl, ?_⟩
    unfold V
    refine ⟨s, 0, -1074, ?_, by rw [signed_eq]; cases s <;> simp⟩
    have : ∀ k : Nat, 0 <<< k = 0 := fun k => Nat.zero_shiftLeft k
    simp only [this, Nat.zero_div, Nat.zero_mod, Nat.mul_zero, Nat.zero_add]
    rw [show (s ^^ false) = s by cases s <;> rfl]
    exact write_read0 _ _
  have hm : 0 < m := by omega
  have h53 : (2 : Nat) ^ 53 = 9007199254740992 := by decide
  have hlog : m.log2 ≤ 52 := by
    have : m.log2 < 53 := (Nat.log2_lt (by omega)).2 (by omega)
    omega
  have hn0 : n ≠ 0 := by
    intro h3
    rw [h3, Int.zero_mul] at e2
    have := congrArg Int.natAbs e2
    rw [signed_abs] at this
    have h5 : m = 0 := (Nat.mul_eq_zero.1 this).resolve_right (by have := Nat.two_pow_pos ((i + 1074).toNat); omega)
    omega
  have hpl := V_place e2 b1.1 b1.2 hn0 (by omega)
  have hup : m.log2 + (i + 1074).toNat < 53 + (1074 - q) := by
    have k1 : 2 ^ m.log2 ≤ m := Nat.log2_self_le (by omega)
    have k2 : 2 ^ m.log2 * 2 ^ (i + 1074).toNat ≤ m * 2 ^ (i + 1074).toNat := Nat.mul_le_mul_right _ k1
    have k3 := congrArg Int.natAbs e2
    rw [signed_abs, Int.natAbs_mul, Int.natAbs_pow] at k3
    rw [← Nat.pow_add, k3] at k2
    have k4 : n.natAbs * (Int.natAbs 2) ^ (1074 - q) < 2 ^ 53 * 2 ^ (1074 - q) := Nat.mul_lt_mul_of_pos_right (by omega) (Nat.two_pow_pos _)
    rw [← Nat.pow_add] at k4
    exact (Nat.pow_lt_pow_iff_right (by decide : 1 < 2)).1 (Nat.lt_of_le_of_lt k2 k4)
  have hl2 : Nat.log2 4503599627370496 = 52 := by decide
  refine ⟨_, by simp only [Datum.quotient, show ¬ (4503599627370496 = 0) by decide, if_false, Option.map_some]; rfl, ?_⟩
  rw [hl2, Nat.shiftLeft_eq]
  obtain ⟨t, ht⟩ : ∃ t, 54 + 52 - m.log2 = 52 + t := ⟨54 - m.log2, by omega⟩
  have ht' : 0 < t := by omega
  have h52 : (2 : Nat) ^ 52 = 4503599627370496 := by decide
  have hd : m * 2 ^ (52 + t) = m * 2 ^ t * 4503599627370496 := by rw [Nat.pow_add, h52, ← Nat.mul_assoc, Nat.mul_right_comm]
  rw [ht, hd, Nat.mul_div_cancel _ (by decide), Nat.mul_mod_left]
  have hmag : 2 * (m * 2 ^ t) + ((0 : Nat) != 0).toNat = m * 2 ^ (t + 1) := by
    show 2 * (m * 2 ^ t) + 0 = _
    rw [Nat.pow_succ]; rw [Nat.add_zero, Nat.mul_comm 2, Nat.mul_assoc]
  have hw : D.write (.number s (m * 2 ^ (t + 1)) (i - (-52 + (j : Int)) - ((52 + t : Nat) : Int) - 1)) = D.write (.number s (m * 2 ^ 0) (i - j)) := by
    show D.nearest s _ _ = D.nearest s (m * 2 ^ 0) _
    rw [nearest_shift s m (t + 1) _ hm (by unfold lst; omega), Nat.pow_zero, Nat.mul_one]
    congr 1; omega
  rw [hmag]
  rw [show (s ^^ false) = s by cases s <;> rfl, hw]
  obtain ⟨M, Q, k1, k2, k3⟩ := write_exact s m 0 (i - j) hm b1.1 (by omega) (by rw [Nat.pow_zero, Nat.mul_one]; omega)
  unfold V
  refine ⟨s, M, Q, k1, ?_⟩
  rw [Nat.pow_zero, Nat.mul_one] at k3
  have hp : (0 : Int) < 2 ^ j := Int.pow_pos (by decide)
  apply Int.eq_of_mul_eq_mul_right (show (2 : Int) ^ j ≠ 0 by omega)
  rw [Int.mul_assoc, ← Int.pow_add, show 1074 - (q + j) + j = 1074 - q by omega, ← e2, signed_eq, signed_eq]
  have k4 := congrArg (Nat.cast : Nat → Int) k3
  push_cast at k4
  rw [k4, Int.mul_assoc, Int.mul_assoc, ← Int.pow_add]
  congr 3
  omega
end Go.Fw

namespace Go.Fw
open Go Ieee
set_option exponentiation.threshold 2200
/-- |x| in units of 2^-1074, rounded to whole numbers, ties to the even one. -/
def evn (n d : Nat) : Nat := n / 2 ^ d + (if 2 ^ d < 2 * (n % 2 ^ d) ∨ (2 ^ d = 2 * (n % 2 ^ d) ∧ n / 2 ^ d % 2 = 1) then 1 else 0)
theorem ecut (neg : Bool) (n d : Nat) : Toward.even.cut neg n d = evn n d := by
  unfold Toward.cut evn
  simp only [Nat.one_shiftLeft]
  by_cases h : d ≤ n.log2 + 2
  · rw [Nat.min_eq_left h]
    congr 1
    by_cases c1 : 2 ^ d < 2 * (n % 2 ^ d)
    · simp [c1]
    · by_cases c2 : 2 ^ d = 2 * (n % 2 ^ d)
      · by_cases c3 : n / 2 ^ d % 2 = 1
        · rw [if_pos (.inr ⟨c2, c3⟩), decide_eq_false c1]
          simp [← c2, c3]
        · rw [if_neg (fun q => q.elim c1 (fun q => c3 q.2)), decide_eq_false c1]
          have : (n / 2 ^ d % 2 == 1) = false := by rw [beq_eq_false_iff_ne]; exact c3
          simp [this]
      · rw [if_neg (fun q => q.elim c1 (fun q => c2 q.1)), decide_eq_false c1]
        have : (2 ^ d == 2 * (n % 2 ^ d)) = false := by rw [beq_eq_false_iff_ne]; exact c2
        simp [this]
  · rw [Nat.min_eq_right (by omega)]
    have h1 : n < 2 ^ (n.log2 + 1) := Nat.lt_log2_self
    have h2 : 2 ^ (n.log2 + 2) = 2 * 2 ^ (n.log2 + 1) := by rw [Nat.pow_succ 2 (n.log2 + 1), Nat.mul_comm]
    have h3 : 2 ^ (n.log2 + 2) ≤ 2 ^ d := Nat.pow_le_pow_right (by decide) (by omega)
    have g1 : n < 2 ^ (n.log2 + 2) := by omega
    have g2 : n < 2 ^ d := by omega
    rw [Nat.div_eq_of_lt g1, Nat.div_eq_of_lt g2, Nat.mod_eq_of_lt g1, Nat.mod_eq_of_lt g2]
    have g3 : 2 * n < 2 ^ (n.log2 + 2) := by omega
    have g4 : 2 * n < 2 ^ d := by omega
    rw [if_neg (by omega), decide_eq_false (by omega)]
    have : (2 ^ (n.log2 + 2) == 2 * n) = false := by rw [beq_eq_false_iff_ne]; omega
    simp [this]
theorem evn_shift (m a b : Nat) : evn (m * 2 ^ a) (b + a) = evn m b := by
  unfold evn
  have hp := Nat.two_pow_pos a
  have h1 : m * 2 ^ a / 2 ^ (b + a) = m / 2 ^ b := by rw [Nat.pow_add, Nat.mul_div_mul_right _ _ hp]
  have h2 : m * 2 ^ a % 2 ^ (b + a) = m % 2 ^ b * 2 ^ a := by rw [Nat.pow_add, Nat.mul_mod_mul_right]
  rw [h1, h2, Nat.pow_add]
  have h3 : (2 ^ b * 2 ^ a < 2 * (m % 2 ^ b * 2 ^ a)) ↔ (2 ^ b < 2 * (m % 2 ^ b)) := by
    rw [← Nat.mul_assoc]; exact ⟨fun q => Nat.lt_of_mul_lt_mul_right q, fun q => Nat.mul_lt_mul_of_pos_right q hp⟩
  have h4 : (2 ^ b * 2 ^ a = 2 * (m % 2 ^ b * 2 ^ a)) ↔ (2 ^ b = 2 * (m % 2 ^ b)) := by
    rw [← Nat.mul_assoc]; exact ⟨fun q => Nat.eq_of_mul_eq_mul_right hp q, fun q => congrArg (· * 2 ^ a) q⟩
  simp only [h3, h4]
/-- The nearest whole number, of a number told in units of 2 ^ -1074. -/
def nrst (X : Int) : Int := (if X < 0 then -1 else 1) * ((evn X.natAbs 1074 : Nat) : Int)
theorem evn_zero (n : Nat) : evn n 0 = n := by
  unfold evn
  rw [Nat.pow_zero, Nat.div_one, Nat.mod_one, if_neg (by omega), Nat.add_zero]
theorem int_cut (way : Toward) (f : Nat → Nat → Nat) (hf : ∀ neg n d, way.cut neg n d = f n d) (h0 : ∀ n, f n 0 = n) (hs : ∀ m a b, f (m * 2 ^ a) (b + a) = f m b) (m : Nat) (P : Int) (hP : -1074 ≤ P) (s : Bool) : way.cut s (m <<< P.toNat) (-P).toNat = f (m * 2 ^ (P + 1074).toNat) 1074 := by
  rw [hf, Nat.shiftLeft_eq]
  by_cases hc : 0 ≤ P
  · rw [show (-P).toNat = 0 by omega, show (P + 1074).toNat = P.toNat + 1074 by omega, Nat.pow_add, ← Nat.mul_assoc]
    have := hs (m * 2 ^ P.toNat) 1074 0
    rw [Nat.zero_add] at this
    rw [this]
  · have := hs m (P + 1074).toNat (-P).toNat
    rw [show (-P).toNat + (P + 1074).toNat = 1074 by omega] at this
    rw [this, show P.toNat = 0 by omega, Nat.pow_zero, Nat.mul_one]
theorem integral_V {b : Nat} {X : Int} {f : Nat → Nat → Nat} (way : Toward) (hf : ∀ neg n d, way.cut neg n d = f n d) (h0 : ∀ n, f n 0 = n) (hs : ∀ m a b, f (m * 2 ^ a) (b + a) = f m b) (h : V 1074 b X) (hb : f X.natAbs 1074 < 9007199254740992) :
    V 0 (D.write ((D.read b).integral way)) ((if X < 0 then -1 else 1) * ((f X.natAbs 1074 : Nat) : Int)) ∧ ∃ s m P, D.read b = .number s m P := by
  unfold V at h
  obtain ⟨s, m, P, e1, e2⟩ := h
  have b1 := read_bound e1
  refine ⟨?_, s, m, P, e1⟩
  rw [Nat.sub_self, Int.pow_zero, Int.mul_one] at e2
  have hN : X.natAbs = m * 2 ^ (P + 1074).toNat := by rw [← e2, signed_abs]
  rw [e1]
  show V 0 (D.write (.number s (way.cut s (m <<< P.toNat) (-P).toNat) 0)) _
  rw [int_cut way f hf h0 hs m P b1.2 s, ← hN]
  generalize hF : f X.natAbs 1074 = F at *
  by_cases hF0 : F = 0
  · subst hF0
    unfold V
    exact ⟨s, 0, -1074, write_read0 s 0, by rw [signed_eq]; cases s <;> simp⟩
  have hX0 : X ≠ 0 := by
    intro q
    rw [q] at hF
    have := hs 0 1074 0
    rw [Nat.zero_mul, Nat.zero_add, h0] at this
    have e : Int.natAbs 0 = 0 := rfl
    rw [e] at hF
    omega
  have hs' : s = decide (X < 0) := by
    rw [signed_eq] at e2
    have hpos : (0 : Int) ≤ (m : Int) * 2 ^ (P + 1074).toNat := Int.mul_nonneg (by omega) (Int.le_of_lt (Int.pow_pos (by decide)))
    cases s
    · simp at e2
      symm; rw [decide_eq_false_iff_not]; omega
    · simp only [if_true] at e2
      symm; rw [decide_eq_true_iff]; omega
  have hval : ((if X < 0 then -1 else 1) * (F : Int)).natAbs = F := by split <;> omega
  have := V_write (q := 0) (base := 0) (tot := (if X < 0 then -1 else 1) * (F : Int)) (w := s) (x := (if X < 0 then -1 else 1) * (F : Int)) (.inl (by rw [hs']; congr 1; split <;> simp <;> omega)) (.inr (by omega)) rfl (by split <;> omega) (by split <;> omega) (by omega)
  rw [hval] at this
  exact this
end Go.Fw

namespace Go.Fw
open Go Ieee
set_option exponentiation.threshold 2200
theorem pow_pos' (k : Nat) : (0 : Int) < 2 ^ k := Int.pow_pos (by decide)
theorem sub_zero' {b c : Nat} {Y : Int} (h : V 1074 b Y) (hc : D.read c = .number false 0 (-1074)) (hY : Y.natAbs < 2 ^ 2097) : ∃ r, D.sub b c = some r ∧ V 1074 r Y := by
  unfold V at h
  obtain ⟨s, m, P, e1, e2⟩ := h
  have b1 := read_bound e1
  rw [Nat.sub_self, Int.pow_zero, Int.mul_one] at e2
  unfold Format.sub
  rw [e1, hc]
  refine ⟨_, rfl, ?_⟩
  have hz : signed (!false) 0 ((-1074 : Int) - min P (-1074)).toNat = 0 := by rw [signed_eq]; simp
  show V 1074 (D.write (.number (if signed s m (P - min P (-1074)).toNat + signed (!false) 0 ((-1074 : Int) - min P (-1074)).toNat = 0 then s && !false else _) (signed s m (P - min P (-1074)).toNat + signed (!false) 0 ((-1074 : Int) - min P (-1074)).toNat).natAbs (min P (-1074)))) Y
  rw [hz, Int.add_zero, show min P (-1074) = -1074 by omega, show P - -1074 = P + 1074 by omega, e2]
  have hN : Y.natAbs = m * 2 ^ (P + 1074).toNat := by rw [← e2, signed_abs]
  by_cases h0 : Y = 0
  · rw [if_pos h0, h0]
    unfold V
    exact ⟨_, 0, -1074, write_read0 _ _, by rw [signed_eq]; cases (s && !false) <;> simp⟩
  rw [if_neg h0, hN]
  have hm : 0 < m := by
    rcases Nat.eq_zero_or_pos m with q | q
    · rw [q, Nat.zero_mul] at hN; omega
    · exact q
  have hlt : (m * 2 ^ (P + 1074).toNat).log2 < 2097 := (Nat.log2_lt (by omega)).2 (by rw [← hN]; exact hY)
  obtain ⟨M, Q, k1, k2, k3⟩ := write_exact (decide (Y < 0)) m (P + 1074).toNat (-1074) hm b1.1 (by omega) (by omega)
  unfold V
  refine ⟨decide (Y < 0), M, Q, k1, ?_⟩
  rw [show ((-1074 : Int) + 1074).toNat = 0 by omega, Nat.pow_zero, Nat.mul_one, ← hN] at k3
  rw [signed_eq, Nat.sub_self, Int.pow_zero, Int.mul_one]
  have k4 := congrArg (Nat.cast : Nat → Int) k3
  push_cast at k4
  rw [k4]
  by_cases hn : Y < 0
  · rw [decide_eq_true hn, if_pos rfl]; omega
  · rw [decide_eq_false hn, if_neg (by decide)]; omega
/-- 1 less a number below one half: what is written is one half or more. -/
theorem sub_half {b c : Nat} {m : Nat} {P : Int} (h : D.read b = .number true m P) (hc : D.read c = .number true 4503599627370496 (-52)) (hm : 0 < m) (hP : P < -53) : ∃ r Z, D.sub b c = some r ∧ V 1074 r Z ∧ 2 ^ 1073 ≤ Z := by
  have b1 := read_bound h
  unfold Format.sub
  rw [h, hc]
  obtain ⟨u, hu⟩ : ∃ u : Nat, P = -54 - (u : Int) := ⟨(-54 - P).toNat, by omega⟩
  subst hu
  have h52 : (2 : Nat) ^ 52 = 4503599627370496 := by decide
  have hS : signed true m ((-54 - (u : Int)) - min (-54 - (u : Int)) (-52)).toNat + signed (!true) 4503599627370496 ((-52 : Int) - min (-54 - (u : Int)) (-52)).toNat = ((2 ^ (u + 54) - m : Nat) : Int) := by
    rw [show min (-54 - (u : Int)) (-52) = -54 - (u : Int) by omega, show (-54 - (u : Int) - (-54 - (u : Int))).toNat = 0 by omega, show ((-52 : Int) - (-54 - (u : Int))).toNat = u + 2 by omega, signed_eq, signed_eq]
    have h54 : m ≤ 2 ^ (u + 54) := by
      have : (2 : Nat) ^ 54 ≤ 2 ^ (u + 54) := Nat.pow_le_pow_right (by decide) (by omega)
      have h54 : (2 : Nat) ^ 54 = 18014398509481984 := by decide
      omega
    have e : (2 : Nat) ^ (u + 54) = 4503599627370496 * 2 ^ (u + 2) := by rw [← h52, ← Nat.pow_add]; congr 1; omega
    rw [Int.natCast_sub h54, e, Int.natCast_mul, Int.natCast_pow, if_pos rfl, if_neg (by decide), Int.pow_zero]
    have e2 : (((2 : Nat) : Int)) = 2 := rfl
    rw [e2]
    omega
  have hgoal : ∀ r, D.write (.number (if signed true m ((-54 - (u : Int)) - min (-54 - (u : Int)) (-52)).toNat + signed (!true) 4503599627370496 ((-52 : Int) - min (-54 - (u : Int)) (-52)).toNat = 0 then true && !true else decide (signed true m ((-54 - (u : Int)) - min (-54 - (u : Int)) (-52)).toNat + signed (!true) 4503599627370496 ((-52 : Int) - min (-54 - (u : Int)) (-52)).toNat < 0)) (signed true m ((-54 - (u : Int)) - min (-54 - (u : Int)) (-52)).toNat + signed (!true) 4503599627370496 ((-52 : Int) - min (-54 - (u : Int)) (-52)).toNat).natAbs (min (-54 - (u : Int)) (-52))) = r → (∃ Z, V 1074 r Z ∧ 2 ^ 1073 ≤ Z) → ∃ r Z, Option.map D.write ((Datum.number true m (-54 - (u : Int))).sum (Datum.number true 4503599627370496 (-52)).opposite) = some r ∧ V 1074 r Z ∧ 2 ^ 1073 ≤ Z := by
    rintro r rfl ⟨Z, h1, h2⟩
    exact ⟨_, Z, rfl, h1, h2⟩
  refine hgoal _ rfl ?_
  rw [hS]
  have hT1 : 2 ^ (u + 53) < 2 ^ (u + 54) - m := by
    have e1 : (2 : Nat) ^ (u + 54) = 2 * 2 ^ (u + 53) := by rw [show u + 54 = (u + 53) + 1 by omega, Nat.pow_succ, Nat.mul_comm]
    have : (2 : Nat) ^ 53 ≤ 2 ^ (u + 53) := Nat.pow_le_pow_right (by decide) (by omega)
    have h53 : (2 : Nat) ^ 53 = 9007199254740992 := by decide
    omega
  have hT2 : 2 ^ (u + 54) - m < 2 ^ (u + 54) := by have := Nat.two_pow_pos (u + 54); omega
  generalize 2 ^ (u + 54) - m = T at *
  have hT0 : 0 < T := Nat.lt_of_le_of_lt (Nat.zero_le _) hT1
  rw [if_neg (show ¬ ((T : Nat) : Int) = 0 by omega), decide_eq_false (show ¬ ((T : Nat) : Int) < 0 by omega), Int.natAbs_natCast, show min (-54 - (u : Int)) (-52) = -54 - (u : Int) by omega]
  have hlog : T.log2 = u + 53 := by
    have g1 : T.log2 < u + 54 := (Nat.log2_lt (by omega)).2 hT2
    have g2 : u + 53 ≤ T.log2 := (Nat.le_log2 (by omega)).2 (by omega)
    omega
  have hl : lst T (-54 - (u : Int)) = -53 := by unfold lst; rw [hlog]; omega
  have hk1 : 4503599627370496 ≤ evn T (u + 1) := by
    unfold evn
    have : 2 ^ 52 ≤ T / 2 ^ (u + 1) := by
      rw [Nat.le_div_iff_mul_le (Nat.two_pow_pos _), ← Nat.pow_add, show 52 + (u + 1) = u + 53 by omega]; omega
    omega
  have hk2 : evn T (u + 1) ≤ 9007199254740992 := by
    unfold evn
    have : T / 2 ^ (u + 1) < 2 ^ 53 := by
      rw [Nat.div_lt_iff_lt_mul (Nat.two_pow_pos _), ← Nat.pow_add, show 53 + (u + 1) = u + 54 by omega]; exact hT2
    have h53 : (2 : Nat) ^ 53 = 9007199254740992 := by decide
    split <;> omega
  have hw : D.write (.number false T (-54 - (u : Int))) = D.word false (1021 * 4503599627370496 + evn T (u + 1)) := by
    show D.nearest false T _ = _
    unfold Format.nearest
    rw [if_neg (by omega), d_least, d_bin, d_inf]
    show D.word false (min ((lst T (-54 - (u : Int)) - -1074).toNat * 4503599627370496 + Toward.even.cut false (T <<< (-54 - (u : Int) - lst T (-54 - (u : Int))).toNat) (lst T (-54 - (u : Int)) - (-54 - (u : Int))).toNat) 9218868437227405312) = _
    rw [hl, show (-54 - (u : Int) - -53).toNat = 0 by omega, show ((-53 : Int) - (-54 - (u : Int))).toNat = u + 1 by omega, Nat.shiftLeft_zero, ecut, Nat.min_eq_left (by omega)]
    congr 2
  rw [hw]
  generalize evn T (u + 1) = K at *
  have hr := read_word false (1021 * 4503599627370496 + K) (by omega)
  rw [if_neg (by omega)] at hr
  refine ⟨_, V_fin hr, ?_⟩
  rw [signed_eq, if_neg (by decide), Int.one_mul]
  have hq : 1021 ≤ ((1021 * 4503599627370496 + K) / 4503599627370496 - 1) := by omega
  generalize (1021 * 4503599627370496 + K) / 4503599627370496 - 1 = q at *
  generalize (1021 * 4503599627370496 + K) % 4503599627370496 = z
  rw [show (-1074 + (q : Int) + 1074).toNat = q by omega]
  have e1 : (2 : Int) ^ 1073 = 2 ^ 52 * 2 ^ 1021 := by rw [← Int.pow_add]
  have e2 : (2 : Int) ^ 1021 ≤ 2 ^ q := by
    have := Nat.pow_le_pow_right (show 0 < 2 by decide) hq
    exact_mod_cast this
  have e3 : (2 : Int) ^ 52 ≤ ((4503599627370496 + z : Nat) : Int) := by
    have : (2 : Int) ^ 52 = 4503599627370496 := by decide
    omega
  rw [e1]
  exact Int.mul_le_mul e3 e2 (Int.le_of_lt (pow_pos' _)) (by omega)
end Go.Fw

namespace Go.Fw
open Go Ieee
set_option exponentiation.threshold 2200
/-- One, in the least units. -/
def U : Int := 2 ^ 1074
def H : Int := 2 ^ 1073
theorem U_pos : 0 < U := pow_pos' 1074
theorem H_pos : 0 < H := pow_pos' 1073
theorem U_H : U = 2 * H := by
  unfold U H
  rw [show (1074 : Nat) = 1073 + 1 by rfl, Int.pow_succ, Int.mul_comm]
theorem V0_U {b : Nat} {n : Int} (h : V 0 b n) : V 1074 b (n * U) := by
  have := V_all h (Nat.zero_le _)
  rw [Nat.sub_zero] at this
  unfold U
  exact this
theorem pow_mono {a b : Nat} (h : a ≤ b) : (2 : Int) ^ a ≤ 2 ^ b := by
  have := Nat.pow_le_pow_right (show 0 < 2 by decide) h
  exact_mod_cast this
theorem H_split {q : Nat} (h : q ≤ 1074) : U = 2 ^ q * 2 ^ (1074 - q) := by
  unfold U; rw [← Int.pow_add]; congr 1; omega
attribute [irreducible] U H
theorem small_P {s : Bool} {m : Nat} {P : Int} (hm : m < 9007199254740992) (hP : P < -53) (hP2 : -1074 ≤ P) : -H < signed s m (P + 1074).toNat ∧ signed s m (P + 1074).toNat < H := by
  have h53 : (2 : Int) ^ 53 = 9007199254740992 := by decide
  have hp := pow_pos' (P + 1074).toNat
  have h1 : ((m : Int) * 2 ^ (P + 1074).toNat) < 2 ^ 53 * 2 ^ (P + 1074).toNat := Int.mul_lt_mul_of_pos_right (by omega) hp
  have h2 : (2 : Int) ^ 53 * 2 ^ (P + 1074).toNat ≤ H := by
    rw [← Int.pow_add]
    unfold H
    exact pow_mono (by omega)
  have h4 : 0 ≤ (m : Int) * 2 ^ (P + 1074).toNat := Int.mul_nonneg (by omega) (Int.le_of_lt hp)
  rw [signed_eq]
  cases s
  · rw [if_neg (by decide)]; omega
  · rw [if_pos rfl]; omega
/-- What is left above the whole number below: told rightly enough to round by. -/
theorem rest_in {y : Nat} {Y n : Int} (hy : V 1074 y Y) (h1 : n * U ≤ Y) (h2 : Y < (n + 1) * U) (hb : -9007199254740992 < n) (hb2 : n < 9007199254740992) (hY : Y.natAbs < 2 ^ 2097) :
    ∃ r Z, D.sub y (floatOfInt .f64 n) = some r ∧ V 1074 r Z ∧ ((H < Z ∨ (Z = H ∧ n % 2 = 1)) ↔ (H < Y - n * U ∨ (Y - n * U = H ∧ n % 2 = 1))) := by
  have hc := V_ofInt n hb hb2
  have hU := U_pos
  have hUH := U_H
  have hH := H_pos
  have hy0 := hy
  unfold V at hy
  obtain ⟨s, m, P, e1, e2⟩ := hy
  have b1 := read_bound e1
  rw [Nat.sub_self, Int.pow_zero, Int.mul_one] at e2
  rw [Int.add_mul, Int.one_mul] at h2
  by_cases hn0 : n = 0
  · subst hn0
    obtain ⟨r, k1, k2⟩ := sub_zero' hy0 (show D.read (floatOfInt .f64 0) = .number false 0 (-1074) by decide) hY
    exact ⟨r, Y, k1, k2, by rw [Int.zero_mul, Int.sub_zero]⟩
  by_cases hP : P < -53
  · have hs := small_P (s := s) b1.1 hP b1.2
    rw [e2] at hs
    have hn1 : n = -1 := by
      rcases Int.lt_or_le n (-1) with q | q
      · exfalso
        have : n * U ≤ (-2) * U := Int.mul_le_mul_of_nonneg_right (by omega) (by omega)
        omega
      · rcases Int.lt_or_le 0 n with q2 | q2
        · exfalso
          have : 1 * U ≤ n * U := Int.mul_le_mul_of_nonneg_right (by omega) (by omega)
          omega
        · omega
    subst hn1
    rw [Int.neg_one_mul] at h1 h2 ⊢
    have hneg : Y < 0 := by omega
    have hst : s = true ∧ 0 < m := by
      rw [signed_eq] at e2
      have hp := pow_pos' (P + 1074).toNat
      have h4 : 0 ≤ (m : Int) * 2 ^ (P + 1074).toNat := Int.mul_nonneg (by omega) (Int.le_of_lt hp)
      cases s
      · rw [if_neg (by decide)] at e2; omega
      · refine ⟨rfl, ?_⟩
        rcases Nat.eq_zero_or_pos m with q | q
        · subst q; rw [if_pos rfl] at e2; simp at e2; omega
        · exact q
    obtain ⟨rfl, hm⟩ := hst
    obtain ⟨r, Z, k1, k2, k3⟩ := sub_half e1 (show D.read (floatOfInt .f64 (-1)) = .number true 4503599627370496 (-52) by decide) hm hP
    have k3 : H ≤ Z := by unfold H; exact k3
    refine ⟨r, Z, k1, k2, ?_⟩
    constructor
    · intro _; left; omega
    · intro _
      rcases Int.lt_or_le H Z with q | q
      · exact .inl q
      · exact .inr ⟨by omega, by decide⟩
  · obtain ⟨q, hq, hq2⟩ : ∃ q : Nat, q ≤ 53 ∧ 0 ≤ P + q ∧ (q = 0 ∨ P + q = 0) := ⟨(-P).toNat, by omega, by omega, by omega⟩
    have hsplit := H_split (q := q) (by omega)
    have hp := pow_pos' (1074 - q)
    have hVq : V q y (signed s m (P + q).toNat) := by
      unfold V
      exact ⟨s, m, P, e1, by rw [signed_shift]; congr 1; omega⟩
    have hYx : Y = signed s m (P + q).toNat * 2 ^ (1074 - q) := by rw [← e2, signed_shift]; congr 1; omega
    generalize signed s m (P + q).toNat = x at *
    have hcq : V q (floatOfInt .f64 n) (n * 2 ^ q) := by
      have := V_up hc q (by omega)
      rw [Nat.zero_add] at this
      exact this
    have hE : Y - n * U = (x - n * 2 ^ q) * 2 ^ (1074 - q) := by rw [hYx, hsplit, Int.sub_mul, Int.mul_assoc]
    have hx0 : 0 ≤ x - n * 2 ^ q := by
      apply Classical.byContradiction; intro hlt
      have := Int.mul_neg_of_neg_of_pos (show x - n * 2 ^ q < 0 by omega) hp
      omega
    have hx1 : x - n * 2 ^ q < 2 ^ q := by
      apply Classical.byContradiction; intro hge
      have := Int.mul_le_mul_of_nonneg_right (show (2 : Int) ^ q ≤ x - n * 2 ^ q by omega) (Int.le_of_lt hp)
      omega
    have hq53 : (2 : Int) ^ q ≤ 9007199254740992 := by
      have h8 : (2 : Int) ^ q ≤ 2 ^ 53 := pow_mono hq
      have h9 : (2 : Int) ^ 53 = 9007199254740992 := by decide
      omega
    obtain ⟨r, k1, k2⟩ := V_sub hVq hcq (by omega) (by omega) (by omega)
    refine ⟨r, Y - n * U, k1, ?_, Iff.rfl⟩
    rw [hE]
    exact V_all k2 (by omega)
end Go.Fw

namespace Go.Fw
open Go Ieee
set_option exponentiation.threshold 2200
theorem fl_uniq {n a W f : Int} (hW : 0 < W) (h0 : 0 ≤ f) (hf : f < W) (h1 : n * W ≤ a * W + f) (h2 : a * W + f < (n + 1) * W) : n = a := by
  rcases Int.lt_trichotomy n a with q | q | q
  · have := Int.mul_le_mul_of_nonneg_right (show n + 1 ≤ a by omega) (Int.le_of_lt hW); omega
  · exact q
  · have := Int.mul_le_mul_of_nonneg_right (show a + 1 ≤ n by omega) (Int.le_of_lt hW)
    rw [Int.add_mul, Int.one_mul] at this; omega
theorem U_nat : U = ((2 ^ 1074 : Nat) : Int) := by unfold U; rw [Int.natCast_pow]; rfl
theorem nrst_floor {Y n : Int} (h1 : n * U ≤ Y) (h2 : Y < (n + 1) * U) : nrst Y = if H < Y - n * U ∨ (Y - n * U = H ∧ n % 2 = 1) then n + 1 else n := by
  have hU := U_pos
  have hUH := U_H
  have hUn := U_nat
  unfold nrst evn
  have hdm := Nat.div_add_mod Y.natAbs (2 ^ 1074)
  have hml := Nat.mod_lt Y.natAbs (Nat.two_pow_pos 1074)
  generalize Y.natAbs % 2 ^ 1074 = f at *
  generalize Y.natAbs / 2 ^ 1074 = a at *
  generalize (2 : Nat) ^ 1074 = W at *
  have hdi : (a : Int) * U + f = (Y.natAbs : Int) := by
    rw [hUn, ← hdm]; push_cast; rw [Int.mul_comm]
  by_cases hY : Y < 0
  · rw [if_pos hY]
    by_cases hf : f = 0
    · have hn : n = -(a : Int) := by
        refine fl_uniq (f := 0) hU (by omega) hU ?_ ?_
        · rw [Int.neg_mul]; omega
        · rw [Int.neg_mul]; omega
      have hE : Y - n * U = 0 := by rw [hn, Int.neg_mul]; omega
      rw [hE, if_neg (by omega), if_neg (by omega), hn]; omega
    · have hn : n = -(a : Int) - 1 := by
        refine fl_uniq (f := U - f) hU (by omega) (by omega) ?_ ?_
        · rw [Int.sub_mul, Int.neg_mul]; omega
        · rw [Int.sub_mul, Int.neg_mul]; omega
      have hE : Y - n * U = U - f := by rw [hn, Int.sub_mul, Int.neg_mul]; omega
      rw [hE]
      split <;> split <;> omega
  · rw [if_neg hY]
    have hn : n = (a : Int) := by
      refine fl_uniq (f := f) hU (by omega) (by omega) ?_ ?_ <;> omega
    have hE : Y - n * U = f := by rw [hn]; omega
    rw [hE]
    split <;> split <;> omega
/-- The whole part and the floor. -/
theorem tdiv_floor {Y t : Int} (ht : t = Y.tdiv U) : (Y < t * U → (t - 1) * U ≤ Y ∧ Y < (t - 1 + 1) * U) ∧ (t * U ≤ Y → Y < (t + 1) * U) := by
  have hU := U_pos
  have h1 : U * t + Y.tmod U = Y := by rw [ht]; exact Int.mul_tdiv_add_tmod Y U
  have h2 : Y.tmod U < U := Int.tmod_lt_of_pos Y hU
  have h3 : -U < Y.tmod U := by
    have h4 := Int.tmod_lt_of_pos (-Y) hU
    rw [Int.neg_tmod] at h4
    omega
  rw [Int.mul_comm] at h1
  rw [Int.sub_mul, Int.add_mul, Int.add_mul, Int.sub_mul, Int.one_mul]
  constructor
  · intro q; constructor <;> omega
  · intro q; omega
theorem read_abs (b : Nat) : D.read (b % 9223372036854775808) = match D.read b with | .number _ m P => .number false m P | .infinity _ => .infinity false | .nan _ f => .nan false f := by
  unfold Format.read
  rw [d_sw]
  have e1 : b % 9223372036854775808 / 9223372036854775808 % 2 = 0 := by omega
  have e2 : b % 9223372036854775808 % 9223372036854775808 = b % 9223372036854775808 := by omega
  simp only [e1, e2]
  split
  · rfl
  · split
    · rfl
    · split <;> rfl
theorem V_abs {b : Nat} {X : Int} (h : V 1074 b X) : V 1074 (b % 9223372036854775808) X.natAbs := by
  unfold V at h
  obtain ⟨s, m, P, e1, e2⟩ := h
  rw [Nat.sub_self, Int.pow_zero, Int.mul_one] at e2
  have := V_fin (b := b % 9223372036854775808) (s := false) (m := m) (P := P) (by rw [read_abs, e1])
  rw [← e2, signed_abs]
  rw [signed_eq, if_neg (by decide), Int.one_mul] at this
  rw [Int.natCast_mul, Int.natCast_pow]
  exact this
theorem wild_abs {b d : Nat} {z : Int} {q : Nat} (h : Wild b) (hd : V q d z) : (D.order (b % 9223372036854775808) d == some .lt || D.order (b % 9223372036854775808) d == some .eq) = false := by
  unfold V at hd
  obtain ⟨s2, m2, P2, e2, -⟩ := hd
  unfold Format.order
  rw [read_abs, e2]
  rcases h with ⟨s, h⟩ | ⟨s, f, h⟩
  · rw [h]; rfl
  · rw [h]; rfl
end Go.Fw

namespace Go.Fw
open Go Ieee
set_option exponentiation.threshold 2200
theorem V_leb {q a b : Nat} {x y : Int} (ha : V q a x) (hb : V q b y) : (D.order a b == some .lt || D.order a b == some .eq) = decide (x ≤ y) := by
  rw [V_ltb ha hb, V_eqb ha hb]
  by_cases h1 : x < y
  · rw [decide_eq_true h1, decide_eq_true (Int.le_of_lt h1)]; rfl
  · by_cases h2 : x = y
    · rw [decide_eq_false h1, decide_eq_true h2, decide_eq_true (show x ≤ y by omega)]; rfl
    · rw [decide_eq_false h1, decide_eq_false h2, decide_eq_false (show ¬ x ≤ y by omega)]; rfl
theorem V_gtb {q a b : Nat} {x y : Int} (ha : V q a x) (hb : V q b y) : (D.order a b == some .gt) = decide (y < x) := by
  rw [V_order ha hb]
  by_cases h : y < x
  · rw [decide_eq_true h, Int.compare_eq_gt.2 h]; rfl
  · rw [decide_eq_false h]
    have : compare x y ≠ .gt := fun q => h (Int.compare_eq_gt.1 q)
    cases hc : compare x y
    · rfl
    · rfl
    · exact absurd hc this
theorem V_geb {q a b : Nat} {x y : Int} (ha : V q a x) (hb : V q b y) : (D.order a b == some .gt || D.order a b == some .eq) = decide (y ≤ x) := by
  rw [V_gtb ha hb, V_eqb ha hb]
  by_cases h1 : y < x
  · rw [decide_eq_true h1, decide_eq_true (Int.le_of_lt h1)]; rfl
  · by_cases h2 : x = y
    · rw [decide_eq_false h1, decide_eq_true h2, decide_eq_true (show y ≤ x by omega)]; rfl
    · rw [decide_eq_false h1, decide_eq_false h2, decide_eq_false (show ¬ y ≤ x by omega)]; rfl
theorem V_cP : V 1074 4652218415073722368 (1024 * U) := V0_U (V_lit (q := 0) (s := false) (m := 4503599627370496) (i := -42) (by decide) (by decide) (by decide))
theorem V_cM : V 1074 13875590451928498176 ((-1024) * U) := V0_U (V_lit (q := 0) (s := true) (m := 4503599627370496) (i := -42) (by decide) (by decide) (by decide))
theorem V_cH : V 1074 4602678819172646912 H := by
  have := V_up V_half 1073 (by decide)
  unfold H
  rw [Int.one_mul] at this
  exact this
structure InE (b : Nat) (X : Int) : Prop where
  v : V 1074 b X
  lo : (-1024) * U ≤ X
  hi : X ≤ 1024 * U
theorem InE.ge {b : Nat} {X : Int} (h : InE b X) : (D.order b 13875590451928498176 == some .gt || D.order b 13875590451928498176 == some .eq) = true := by rw [V_geb h.v V_cM]; exact decide_eq_true h.lo
theorem InE.le {b : Nat} {X : Int} (h : InE b X) : (D.order b 4652218415073722368 == some .lt || D.order b 4652218415073722368 == some .eq) = true := by rw [V_leb h.v V_cP]; exact decide_eq_true h.hi
theorem InE.ab {b : Nat} {X : Int} (h : InE b X) : (D.order (b % 9223372036854775808) 4652218415073722368 == some .lt || D.order (b % 9223372036854775808) 4652218415073722368 == some .eq) = true := by
  have h1 := h.lo
  have h2 := h.hi
  rw [V_leb (V_abs h.v) V_cP]; exact decide_eq_true (by omega)
theorem InE.natAbs_lt {b : Nat} {X : Int} (h : InE b X) : X.natAbs < 2 ^ 1085 := by
  have h1 := h.lo
  have h2 := h.hi
  have hUn := U_nat
  have e : (2 : Nat) ^ 1085 = 2048 * 2 ^ 1074 := by rw [show (1085 : Nat) = 11 + 1074 by rfl, Nat.pow_add]
  have hp := Nat.two_pow_pos 1074
  rw [e]
  generalize (2 : Nat) ^ 1074 = W at *
  omega
theorem InE.mul {b : Nat} {X : Int} (h : InE b X) : ∃ y, D.mul b 4661225614328463360 = some y ∧ V 1074 y (X * 4096) := by
  have hn := h.natAbs_lt
  obtain ⟨r, k1, k2⟩ := V_scale (j := 12) h.v (c := 4661225614328463360) (by decide) (Nat.lt_of_lt_of_le hn (Nat.pow_le_pow_right (by decide) (by decide))) (by decide)
  exact ⟨r, k1, k2⟩
end Go.Fw

namespace Go.Fw
open Go Ieee
set_option exponentiation.threshold 2200
theorem tdiv_nat (Y : Int) : (if Y < 0 then -1 else 1) * ((Y.natAbs / 2 ^ 1074 : Nat) : Int) = Y.tdiv U := by
  have hUn := U_nat
  rw [hUn]
  generalize (2 : Nat) ^ 1074 = W
  by_cases h : Y < 0
  · rw [if_pos h]
    obtain ⟨k, rfl⟩ : ∃ k : Nat, Y = -(k : Int) := ⟨Y.natAbs, by omega⟩
    rw [Int.neg_tdiv, Int.natAbs_neg, Int.natAbs_natCast, Int.neg_one_mul]; rfl
  · rw [if_neg h]
    obtain ⟨k, rfl⟩ : ∃ k : Nat, Y = (k : Int) := ⟨Y.natAbs, by omega⟩
    rw [Int.natAbs_natCast, Int.one_mul]; rfl
theorem U_pow : U = 2 ^ 1074 := by unfold U; rfl
structure Pk (b : Nat) (X : Int) (y : Nat) (t : Int) : Prop where
  mul : floatBits .mul .f64 b 4661225614328463360 = some y
  v : V 1074 y (X * 4096)
  tt : t = (X * 4096).tdiv U
  lo : -4194304 ≤ t
  hi : t ≤ 4194304
  c64 : floatToIntVal .f64 y .i64 = some t
  c32 : floatToIntVal .f64 y .i32 = some t
  num : ∃ s m P, D.read y = .number s m P
  tr : V 0 (D.write ((D.read y).integral .zero)) t
  ev : V 0 (D.write ((D.read y).integral .even)) (nrst (X * 4096))
  nr : -4194305 ≤ nrst (X * 4096) ∧ nrst (X * 4096) ≤ 4194305
  big : (X * 4096).natAbs < 2 ^ 2097
theorem InE.pk {b : Nat} {X : Int} (h : InE b X) : ∃ y t, Pk b X y t := by
  have hU := U_pos
  obtain ⟨y, k1, k2⟩ := h.mul
  have l1 := h.lo
  have l2 := h.hi
  have hna := h.natAbs_lt
  have hY1 : (-4194304) * U ≤ X * 4096 := by omega
  have hY2 : X * 4096 ≤ 4194304 * U := by omega
  have hbig : (X * 4096).natAbs < 2 ^ 2097 := by
    have e : (2 : Nat) ^ 1097 = 2 ^ 1085 * 4096 := by rw [show (1097 : Nat) = 1085 + 12 by rfl, Nat.pow_add]
    have e2 : (2 : Nat) ^ 1097 ≤ 2 ^ 2097 := Nat.pow_le_pow_right (by decide) (by decide)
    generalize (2 : Nat) ^ 1097 = A at *
    generalize (2 : Nat) ^ 2097 = B at *
    generalize (2 : Nat) ^ 1085 = C at *
    omega
  generalize hYd : X * 4096 = Y at *
  have d1 : U * Y.tdiv U + Y.tmod U = Y := Int.mul_tdiv_add_tmod Y U
  have d2 : Y.tmod U < U := Int.tmod_lt_of_pos Y hU
  have d3 : -U < Y.tmod U := by
    have h4 := Int.tmod_lt_of_pos (-Y) hU
    rw [Int.neg_tmod] at h4
    omega
  have hq : (Y.natAbs / 2 ^ 1074 : Nat) ≤ 4194304 := by
    have hUn := U_nat
    have hp := Nat.two_pow_pos 1074
    generalize (2 : Nat) ^ 1074 = W at *
    apply Nat.le_of_lt_succ
    rw [Nat.div_lt_iff_lt_mul hp]
    omega
  have ht : -4194304 ≤ Y.tdiv U ∧ Y.tdiv U ≤ 4194304 := by
    rw [← tdiv_nat]
    generalize Y.natAbs / 2 ^ 1074 = k at *
    split <;> omega
  have hev : evn Y.natAbs 1074 ≤ 4194305 := by
    unfold evn
    generalize Y.natAbs / 2 ^ 1074 = k at *
    split <;> omega
  have T := integral_V (f := fun n d => n / 2 ^ d) .zero (fun _ _ _ => zcut _ _ _) (fun n => by rw [Nat.pow_zero, Nat.div_one]) (fun m a b => by rw [Nat.pow_add, Nat.mul_div_mul_right _ _ (Nat.two_pow_pos a)]) k2 (Nat.lt_of_le_of_lt hq (by decide))
  have E := integral_V (f := evn) .even (fun _ _ _ => ecut _ _ _) evn_zero evn_shift k2 (Nat.lt_of_le_of_lt hev (by decide))
  rw [tdiv_nat] at T
  have c (k : IntKind) (m1 : k.min ≤ -4194304) (m2 : 4194304 ≤ k.max) : floatToIntVal .f64 y k = some (Y.tdiv U) := by
    have := V_conv k2 k (by rw [← U_pow]; omega) (by rw [← U_pow]; omega)
    rw [← U_pow] at this
    exact this
  have hnr : -4194305 ≤ nrst Y ∧ nrst Y ≤ 4194305 := by unfold nrst; split <;> omega
  refine ⟨y, Y.tdiv U, ?_⟩
  subst hYd
  exact ⟨k1, k2, rfl, ht.1, ht.2, c .i64 (by decide) (by decide), c .i32 (by decide) (by decide), T.2, T.1, E.1, hnr, hbig⟩
end Go.Fw

namespace Go.Fw
open Go Ieee
set_option exponentiation.threshold 2200
theorem odd_mod (n : Int) : (n.tmod 2 = 0) ↔ ¬ (n % 2 = 1) := by
  constructor
  · intro h
    have := Int.mul_tdiv_add_tmod n 2
    omega
  · intro h
    exact Int.tmod_eq_zero_of_dvd (by omega)
end Go.Fw

namespace Go.Fw
open Go Ieee
set_option exponentiation.threshold 2200
theorem V_tP : V 1074 4697254411347427328 (1048576 * U) := V0_U (V_lit (q := 0) (s := false) (m := 4503599627370496) (i := -32) (by decide) (by decide) (by decide))
theorem V_tM : V 1074 13920626448202203136 ((-1048576) * U) := V0_U (V_lit (q := 0) (s := true) (m := 4503599627370496) (i := -32) (by decide) (by decide) (by decide))
structure InT (b : Nat) (X : Int) : Prop where
  v : V 1074 b X
  lo : (-1048576) * U ≤ X
  hi : X ≤ 1048576 * U
structure OutT (b : Nat) : Prop where
  two : ((D.order b 13920626448202203136 == some .gt || D.order b 13920626448202203136 == some .eq) && (D.order b 4697254411347427328 == some .lt || D.order b 4697254411347427328 == some .eq)) = false
  abs : (D.order (b % 9223372036854775808) 4697254411347427328 == some .lt || D.order (b % 9223372036854775808) 4697254411347427328 == some .eq) = false
theorem in_orT (b : Nat) : (∃ X, InT b X) ∨ OutT b := by
  have hU := U_pos
  rcases fin_or b with ⟨X, h⟩ | h
  · by_cases h1 : (-1048576) * U ≤ X
    · by_cases h2 : X ≤ 1048576 * U
      · exact .inl ⟨X, h, h1, h2⟩
      · refine .inr ⟨?_, ?_⟩
        · rw [V_geb h V_tM, V_leb h V_tP, decide_eq_false h2, Bool.and_false]
        · rw [V_leb (V_abs h) V_tP]; exact decide_eq_false (by omega)
    · refine .inr ⟨?_, ?_⟩
      · rw [V_geb h V_tM, decide_eq_false h1, Bool.false_and]
      · rw [V_leb (V_abs h) V_tP]; exact decide_eq_false (by omega)
  · exact .inr ⟨wild_out h V_tM V_tP, wild_abs h V_tP⟩
theorem InT.ge {b : Nat} {X : Int} (h : InT b X) : (D.order b 13920626448202203136 == some .gt || D.order b 13920626448202203136 == some .eq) = true := by rw [V_geb h.v V_tM]; exact decide_eq_true h.lo
theorem InT.le {b : Nat} {X : Int} (h : InT b X) : (D.order b 4697254411347427328 == some .lt || D.order b 4697254411347427328 == some .eq) = true := by rw [V_leb h.v V_tP]; exact decide_eq_true h.hi
theorem InT.ab {b : Nat} {X : Int} (h : InT b X) : (D.order (b % 9223372036854775808) 4697254411347427328 == some .lt || D.order (b % 9223372036854775808) 4697254411347427328 == some .eq) = true := by
  have h1 := h.lo
  have h2 := h.hi
  rw [V_leb (V_abs h.v) V_tP]; exact decide_eq_true (by omega)
theorem InT.natAbs_lt {b : Nat} {X : Int} (h : InT b X) : X.natAbs < 2 ^ 1095 := by
  have h1 := h.lo
  have h2 := h.hi
  have hUn := U_nat
  have e : (2 : Nat) ^ 1095 = 2097152 * 2 ^ 1074 := by rw [show (1095 : Nat) = 21 + 1074 by rfl, Nat.pow_add]
  have hp := Nat.two_pow_pos 1074
  rw [e]
  generalize (2 : Nat) ^ 1074 = W at *
  omega
theorem InT.mul {b : Nat} {X : Int} (h : InT b X) : ∃ y, D.mul b 4634204016564240384 = some y ∧ V 1074 y (X * 64) := by
  have hn := h.natAbs_lt
  obtain ⟨r, k1, k2⟩ := V_scale (j := 6) h.v (c := 4634204016564240384) (by decide) (Nat.lt_of_lt_of_le hn (Nat.pow_le_pow_right (by decide) (by decide))) (by decide)
  exact ⟨r, k1, k2⟩
structure PkT (b : Nat) (X : Int) (y : Nat) (t : Int) : Prop where
  mul : floatBits .mul .f64 b 4634204016564240384 = some y
  v : V 1074 y (X * 64)
  tt : t = (X * 64).tdiv U
  lo : -67108864 ≤ t
  hi : t ≤ 67108864
  c64 : floatToIntVal .f64 y .i64 = some t
  c32 : floatToIntVal .f64 y .i32 = some t
  num : ∃ s m P, D.read y = .number s m P
  tr : V 0 (D.write ((D.read y).integral .zero)) t
  ev : V 0 (D.write ((D.read y).integral .even)) (nrst (X * 64))
  nr : -67108865 ≤ nrst (X * 64) ∧ nrst (X * 64) ≤ 67108865
  big : (X * 64).natAbs < 2 ^ 2097
theorem InT.pk {b : Nat} {X : Int} (h : InT b X) : ∃ y t, PkT b X y t := by
  have hU := U_pos
  obtain ⟨y, k1, k2⟩ := h.mul
  have l1 := h.lo
  have l2 := h.hi
  have hna := h.natAbs_lt
  have hY1 : (-67108864) * U ≤ X * 64 := by omega
  have hY2 : X * 64 ≤ 67108864 * U := by omega
  have hbig : (X * 64).natAbs < 2 ^ 2097 := by
    have e : (2 : Nat) ^ 1101 = 2 ^ 1095 * 64 := by rw [show (1101 : Nat) = 1095 + 6 by rfl, Nat.pow_add]
    have e2 : (2 : Nat) ^ 1101 ≤ 2 ^ 2097 := Nat.pow_le_pow_right (by decide) (by decide)
    generalize (2 : Nat) ^ 1101 = A at *
    generalize (2 : Nat) ^ 2097 = B at *
    generalize (2 : Nat) ^ 1095 = C at *
    omega
  generalize hYd : X * 64 = Y at *
  have d1 : U * Y.tdiv U + Y.tmod U = Y := Int.mul_tdiv_add_tmod Y U
  have d2 : Y.tmod U < U := Int.tmod_lt_of_pos Y hU
  have d3 : -U < Y.tmod U := by
    have h4 := Int.tmod_lt_of_pos (-Y) hU
    rw [Int.neg_tmod] at h4
    omega
  have hq : (Y.natAbs / 2 ^ 1074 : Nat) ≤ 67108864 := by
    have hUn := U_nat
    have hp := Nat.two_pow_pos 1074
    generalize (2 : Nat) ^ 1074 = W at *
    apply Nat.le_of_lt_succ
    rw [Nat.div_lt_iff_lt_mul hp]
    omega
  have ht : -67108864 ≤ Y.tdiv U ∧ Y.tdiv U ≤ 67108864 := by
    rw [← tdiv_nat]
    generalize Y.natAbs / 2 ^ 1074 = k at *
    split <;> omega
  have hev : evn Y.natAbs 1074 ≤ 67108865 := by
    unfold evn
    generalize Y.natAbs / 2 ^ 1074 = k at *
    split <;> omega
  have T := integral_V (f := fun n d => n / 2 ^ d) .zero (fun _ _ _ => zcut _ _ _) (fun n => by rw [Nat.pow_zero, Nat.div_one]) (fun m a b => by rw [Nat.pow_add, Nat.mul_div_mul_right _ _ (Nat.two_pow_pos a)]) k2 (Nat.lt_of_le_of_lt hq (by decide))
  have E := integral_V (f := evn) .even (fun _ _ _ => ecut _ _ _) evn_zero evn_shift k2 (Nat.lt_of_le_of_lt hev (by decide))
  rw [tdiv_nat] at T
  have c (k : IntKind) (m1 : k.min ≤ -67108864) (m2 : 67108864 ≤ k.max) : floatToIntVal .f64 y k = some (Y.tdiv U) := by
    have := V_conv k2 k (by rw [← U_pow]; omega) (by rw [← U_pow]; omega)
    rw [← U_pow] at this
    exact this
  have hnr : -67108865 ≤ nrst Y ∧ nrst Y ≤ 67108865 := by unfold nrst; split <;> omega
  refine ⟨y, Y.tdiv U, ?_⟩
  subst hYd
  exact ⟨k1, k2, rfl, ht.1, ht.2, c .i64 (by decide) (by decide), c .i32 (by decide) (by decide), T.2, T.1, E.1, hnr, hbig⟩
end Go.Fw

set_option linter.unusedVariables false
set_option linter.unusedSimpArgs false
namespace Go.Proofs.Ytmebbdfpkgkjgaa
open Go Go.Fw
def tyL : List (Nat × TyI) := [
  (1, ⟨.func, 1, 8, .nilFunc⟩),
  (2, ⟨.int .i64, 1, 8, .int .i64 0⟩),
  (3, ⟨.int .i64, 1, 8, .int .i64 0⟩),
  (4, ⟨.bool, 1, 1, .bool false⟩),
  (5, ⟨.int .u8, 1, 1, .int .u8 0⟩),
  (9, ⟨.str, 1, 16, .string (ByteArray.mk #[])⟩),
  (12, ⟨.int .u64, 1, 8, .int .u64 0⟩),
  (21, ⟨.int .i32, 1, 4, .int .i32 0⟩),
  (22, ⟨.slice 28, 1, 24, .slice none 0 0⟩),
  (23, ⟨.int .u64, 1, 8, .int .u64 0⟩),
  (24, ⟨.int .i64, 1, 8, .int .i64 0⟩),
  (26, ⟨.func, 1, 8, .nilFunc⟩),
  (27, ⟨.func, 1, 8, .nilFunc⟩),
  (28, ⟨.int .i8, 1, 1, .int .i8 0⟩),
  (29, ⟨.slice 3, 1, 24, .slice none 0 0⟩),
  (31, ⟨.func, 1, 8, .nilFunc⟩),
  (32, ⟨.float .f64, 1, 8, .float .f64 0⟩),
  (34, ⟨.func, 1, 8, .nilFunc⟩),
  (35, ⟨.func, 1, 8, .nilFunc⟩),
  (36, ⟨.func, 1, 8, .nilFunc⟩),
  (37, ⟨.struct [(0, 3), (1, 3), (2, 3)], 3, 24, .agg #[.int .i64 0, .int .i64 0, .int .i64 0]⟩),
  (38, ⟨.struct [(0, 3), (1, 3), (2, 3)], 3, 24, .agg #[.int .i64 0, .int .i64 0, .int .i64 0]⟩),
  (39, ⟨.struct [(0, 3), (1, 3), (2, 3)], 3, 24, .agg #[.int .i64 0, .int .i64 0, .int .i64 0]⟩),
  (41, ⟨.func, 1, 8, .nilFunc⟩),
  (42, ⟨.func, 1, 8, .nilFunc⟩),
  (43, ⟨.slice 48, 1, 24, .slice none 0 0⟩),
  (45, ⟨.func, 1, 8, .nilFunc⟩),
  (46, ⟨.func, 1, 8, .nilFunc⟩),
  (47, ⟨.func, 1, 8, .nilFunc⟩),
  (48, ⟨.cpx .f64, 1, 16, .complex .f64 0 0⟩),
  (49, ⟨.func, 1, 8, .nilFunc⟩),
  (50, ⟨.slice 76, 1, 24, .slice none 0 0⟩),
  (51, ⟨.slice 59, 1, 24, .slice none 0 0⟩),
  (52, ⟨.func, 1, 8, .nilFunc⟩),
  (54, ⟨.func, 1, 8, .nilFunc⟩),
  (55, ⟨.func, 1, 8, .nilFunc⟩),
  (56, ⟨.func, 1, 8, .nilFunc⟩),
  (57, ⟨.func, 1, 8, .nilFunc⟩),
  (58, ⟨.struct [(0, 48), (1, 4)], 2, 24, .agg #[.complex .f64 0 0, .bool false]⟩),
  (59, ⟨.struct [(0, 48), (1, 4)], 2, 24, .agg #[.complex .f64 0 0, .bool false]⟩),
  (60, ⟨.func, 1, 8, .nilFunc⟩),
  (61, ⟨.slice 67, 1, 24, .slice none 0 0⟩),
  (62, ⟨.func, 1, 8, .nilFunc⟩),
  (63, ⟨.func, 1, 8, .nilFunc⟩),
  (64, ⟨.func, 1, 8, .nilFunc⟩),
  (65, ⟨.func, 1, 8, .nilFunc⟩),
  (66, ⟨.struct [(0, 21), (1, 21)], 2, 8, .agg #[.int .i32 0, .int .i32 0]⟩),
  (67, ⟨.struct [(0, 21), (1, 21)], 2, 8, .agg #[.int .i32 0, .int .i32 0]⟩),
  (68, ⟨.func, 1, 8, .nilFunc⟩),
  (69, ⟨.func, 1, 8, .nilFunc⟩),
  (71, ⟨.func, 1, 8, .nilFunc⟩),
  (72, ⟨.func, 1, 8, .nilFunc⟩),
  (73, ⟨.func, 1, 8, .nilFunc⟩),
  (74, ⟨.func, 1, 8, .nilFunc⟩),
  (75, ⟨.struct [(0, 21), (1, 21), (2, 4)], 3, 12, .agg #[.int .i32 0, .int .i32 0, .bool false]⟩),
  (76, ⟨.struct [(0, 21), (1, 21), (2, 4)], 3, 12, .agg #[.int .i32 0, .int .i32 0, .bool false]⟩),
  (77, ⟨.func, 1, 8, .nilFunc⟩),
  (78, ⟨.func, 1, 8, .nilFunc⟩),
  (80, ⟨.func, 1, 8, .nilFunc⟩),
  (81, ⟨.func, 1, 8, .nilFunc⟩),
  (82, ⟨.func, 1, 8, .nilFunc⟩),
  (83, ⟨.func, 1, 8, .nilFunc⟩),
  (84, ⟨.func, 1, 8, .nilFunc⟩),
  (85, ⟨.func, 1, 8, .nilFunc⟩),
  (86, ⟨.func, 1, 8, .nilFunc⟩),
  (87, ⟨.func, 1, 8, .nilFunc⟩),
  (88, ⟨.func, 1, 8, .nilFunc⟩),
  (89, ⟨.int .u64, 1, 8, .int .u64 0⟩),
  (90, ⟨.func, 1, 8, .nilFunc⟩),
  (96, ⟨.int .u32, 1, 4, .int .u32 0⟩),
  (99, ⟨.func, 1, 8, .nilFunc⟩),
  (100, ⟨.ptr 5, 1, 8, .pointer none⟩)]
theorem tokL : TOk Try.prog tyL := tokl_of ⟨⟨by kernel_rfl, by kernel_rfl⟩, ⟨by kernel_rfl, by kernel_rfl⟩, ⟨by kernel_rfl, by kernel_rfl⟩, ⟨by kernel_rfl, by kernel_rfl⟩, ⟨by kernel_rfl, by kernel_rfl⟩, ⟨by kernel_rfl, by kernel_rfl⟩, ⟨by kernel_rfl, by kernel_rfl⟩, ⟨by kernel_rfl, by kernel_rfl⟩, ⟨by kernel_rfl, by kernel_rfl⟩, ⟨by kernel_rfl, by kernel_rfl⟩, ⟨by kernel_rfl, by kernel_rfl⟩, ⟨by kernel_rfl, by kernel_rfl⟩, ⟨by kernel_rfl, by kernel_rfl⟩, ⟨by kernel_rfl, by kernel_rfl⟩, ⟨by kernel_rfl, by kernel_rfl⟩, ⟨by kernel_rfl, by kernel_rfl⟩, ⟨by kernel_rfl, by kernel_rfl⟩, ⟨by kernel_rfl, by kernel_rfl⟩, ⟨by kernel_rfl, by kernel_rfl⟩, ⟨by kernel_rfl, by kernel_rfl⟩, ⟨by kernel_rfl, by kernel_rfl⟩, ⟨by kernel_rfl, by kernel_rfl⟩, ⟨by kernel_rfl, by kernel_rfl⟩, ⟨by kernel_rfl, by kernel_rfl⟩, ⟨by kernel_rfl, by kernel_rfl⟩, ⟨by kernel_rfl, by kernel_rfl⟩, ⟨by kernel_rfl, by kernel_rfl⟩, ⟨by kernel_rfl, by kernel_rfl⟩, ⟨by kernel_rfl, by kernel_rfl⟩, ⟨by kernel_rfl, by kernel_rfl⟩, ⟨by kernel_rfl, by kernel_rfl⟩, ⟨by kernel_rfl, by kernel_rfl⟩, ⟨by kernel_rfl, by kernel_rfl⟩, ⟨by kernel_rfl, by kernel_rfl⟩, ⟨by kernel_rfl, by kernel_rfl⟩, ⟨by kernel_rfl, by kernel_rfl⟩, ⟨by kernel_rfl, by kernel_rfl⟩, ⟨by kernel_rfl, by kernel_rfl⟩, ⟨by kernel_rfl, by kernel_rfl⟩, ⟨by kernel_rfl, by kernel_rfl⟩, ⟨by kernel_rfl, by kernel_rfl⟩, ⟨by kernel_rfl, by kernel_rfl⟩, ⟨by kernel_rfl, by kernel_rfl⟩, ⟨by kernel_rfl, by kernel_rfl⟩, ⟨by kernel_rfl, by kernel_rfl⟩, ⟨by kernel_rfl, by kernel_rfl⟩, ⟨by kernel_rfl, by kernel_rfl⟩, ⟨by kernel_rfl, by kernel_rfl⟩, ⟨by kernel_rfl, by kernel_rfl⟩, ⟨by kernel_rfl, by kernel_rfl⟩, ⟨by kernel_rfl, by kernel_rfl⟩, ⟨by kernel_rfl, by kernel_rfl⟩, ⟨by kernel_rfl, by kernel_rfl⟩, ⟨by kernel_rfl, by kernel_rfl⟩, ⟨by kernel_rfl, by kernel_rfl⟩, ⟨by kernel_rfl, by kernel_rfl⟩, ⟨by kernel_rfl, by kernel_rfl⟩, ⟨by kernel_rfl, by kernel_rfl⟩, ⟨by kernel_rfl, by kernel_rfl⟩, ⟨by kernel_rfl, by kernel_rfl⟩, ⟨by kernel_rfl, by kernel_rfl⟩, ⟨by kernel_rfl, by kernel_rfl⟩, ⟨by kernel_rfl, by kernel_rfl⟩, ⟨by kernel_rfl, by kernel_rfl⟩, ⟨by kernel_rfl, by kernel_rfl⟩, ⟨by kernel_rfl, by kernel_rfl⟩, ⟨by kernel_rfl, by kernel_rfl⟩, ⟨by kernel_rfl, by kernel_rfl⟩, ⟨by kernel_rfl, by kernel_rfl⟩, ⟨by kernel_rfl, by kernel_rfl⟩, ⟨by kernel_rfl, by kernel_rfl⟩, ⟨by kernel_rfl, by kernel_rfl⟩, True.intro⟩
theorem mixedL : Try.prog.follows .mixedOrders = true := by kernel_rfl
theorem i64max : IntKind.i64.max = 9223372036854775807 := rfl
theorem u8max : IntKind.u8.max = 255 := rfl
theorem u16max : IntKind.u16.max = 65535 := rfl
theorem u32max : IntKind.u32.max = 4294967295 := rfl
theorem u64max : IntKind.u64.max = 18446744073709551615 := rfl
def numOut (D : List Seg) (x : AV) : FOut := ⟨Unit, fun _ => True, fun _ => x, fun _ => D⟩
theorem i8wrap (n : Int) (h : -128 ≤ n ∧ n ≤ 127) : IntKind.i8.wrap n = n := by
  unfold IntKind.wrap
  simp [IntKind.bits, IntKind.signed]
  omega
def qf : Nat → Bool := fun f => match f with | 30 => true | 38 => true | 39 => true | 40 => true | 47 => true | 20 => true | 16 => true | 17 => true | _ => false
def cfgN (k : Nat) : Cfg := { T := tyL, sgn := fun _ => true, wr := fun _ => false, k := k, q := qf }
end Go.Proofs.Ytmebbdfpkgkjgaa

set_option linter.unusedVariables false
set_option linter.unusedSimpArgs false
namespace Go.Proofs.Ytmebbdfpkgkjgaa
open Go Go.Fw
/-- The two rows of signs of an order. -/
def sAB : Nat → (Nat → Int) × (Nat → Int)
  | 0 => (fun _ => 1, fun _ => 1)
  | o + 1 => (fun k => if k < 2 ^ o then (sAB o).1 k else (sAB o).2 (k - 2 ^ o), fun k => if k < 2 ^ o then (sAB o).1 k else -(sAB o).2 (k - 2 ^ o))
def sA (o k : Nat) : Int := (sAB o).1 k
def sB (o k : Nat) : Int := (sAB o).2 k
theorem sA_succ (o k : Nat) : sA (o + 1) k = if k < 2 ^ o then sA o k else sB o (k - 2 ^ o) := rfl
theorem sB_succ (o k : Nat) : sB (o + 1) k = if k < 2 ^ o then sA o k else -sB o (k - 2 ^ o) := rfl
theorem s_is : ∀ o k, (sA o k = 1 ∨ sA o k = -1) ∧ (sB o k = 1 ∨ sB o k = -1)
  | 0, _ => ⟨.inl rfl, .inl rfl⟩
  | o + 1, k => by
    rw [sA_succ, sB_succ]
    have h1 := s_is o k
    have h2 := s_is o (k - 2 ^ o)
    by_cases h : k < 2 ^ o
    · rw [if_pos h, if_pos h]; exact ⟨h1.1, h1.1⟩
    · rw [if_neg h, if_neg h]; refine ⟨h2.2, ?_⟩; omega
noncomputable def k35 : Code := (Try.f35.body).getD .skip
abbrev zs (n : Nat) : List Int := List.replicate n 0
theorem one_row (R : Nat) (hR : 1 ≤ R) (f : Nat → Int) (hf : f 0 = 1) : tb f (2 ^ 0) ++ zs (R - 2 ^ 0) = (List.replicate R 0).set 0 1 := by
  apply row_ext 0
  · simp [tab_len]; omega
  · intro k hk
    simp only [List.length_append, tab_len, List.length_replicate] at hk
    rw [g_app, tab_len, g_set, g_rep, g_rep, List.length_replicate]
    by_cases h : k = 0
    · subst h; rw [if_pos (by decide), if_pos ⟨rfl, by omega⟩, tab_get _ _ (by decide), hf]
    · rw [if_neg (by simp; omega), if_neg (show ¬ (0 = k ∧ 0 < R) from fun q => h q.1.symm)]
      repeat' split
      all_goals rfl
def pairOut (o R : Nat) : FOut := numOut [.seg true (.ints .i8 (tb (sA o) (2 ^ o) ++ zs (R - 2 ^ o))), .seg true (.ints .i8 (tb (sB o) (2 ^ o) ++ zs (R - 2 ^ o)))] (.tup [.slice 0 0 (2 ^ o) R, .slice 1 0 (2 ^ o) R])
def plan35 : PlanN := .op 0 (.op 2 (.alt 1 (.op 4 (.op 3 (.op 5 .done))) (.alt 3 (.op 1 (.op 4 (.op 5 .done))) .fin)))
def cfg35 : Cfg := { cfgN 0 with plan := fun | 2 => some (.nn plan35) | _ => none }
set_option maxHeartbeats 0 in
set_option maxRecDepth 100000 in
theorem pair0_f (R : Nat) (hR : 1 ≤ R) (hR2 : R ≤ 256) : Fits Try.prog 35 ⟨[.int .i64 0, .int .i64 R], [], [pairOut 0 R]⟩ := by
  refine fits_of_body (C := cfg35) (c := k35) (ts := [4, 5]) tokL mixedL (fun _ => none) (fun _ => none)
    Try.func35 (by kernel_rfl) (by kernel_rfl) (by kernel_rfl) (by kernel_rfl) rfl ?_
  conv => whnf
  repeat (first
    | (refine And.intro ?_ ?_; (focus (first | omega | decide | exact EqOk.mk (by kernel_rfl) (by kernel_rfl) (by kernel_rfl) | exact Int.natCast_nonneg _ | ((repeat' refine And.intro ?_ ?_) <;> first | omega | exact Int.natCast_nonneg _ | (simp only [i64max, u8max, u16max, u32max, u64max]; omega) | (simp only [mulSz_eq, Cont.len, colsLen, Col.len, List.length_cons, List.length_nil, List.length_replicate, List.length_append]; first | done | omega) | (simp [mulSz, Cont.len, bne]; first | done | omega)))); conv => whnf)
    | (refine tst_in ?_ ?_; (focus (intro h_; exfalso; first | omega | ((try simp only [decide_eq_true_eq, decide_eq_false_iff_not] at h_); omega) | (simp [mulSz, Cont.len, bne] at h_; first | done | omega))); intro _; conv => whnf)
    | (refine tst_in ?_ ?_; rotate_left; (focus (intro h_; exfalso; first | omega | ((try simp only [decide_eq_true_eq, decide_eq_false_iff_not] at h_); omega) | (simp [mulSz, Cont.len, bne] at h_; first | done | omega))); intro _; conv => whnf)
    | (refine ⟨0, (show _ = _ by omega), ?_⟩; conv => whnf))
  refine ⟨?_, ⟨?_, True.intro⟩⟩
  · skip
    conv => whnf
    repeat (first
      | (refine And.intro ?_ ?_; (focus (first | omega | decide | exact EqOk.mk (by kernel_rfl) (by kernel_rfl) (by kernel_rfl) | exact Int.natCast_nonneg _ | ((repeat' refine And.intro ?_ ?_) <;> first | omega | exact Int.natCast_nonneg _ | (simp only [i64max, u8max, u16max, u32max, u64max]; omega) | (simp only [mulSz_eq, Cont.len, colsLen, Col.len, List.length_cons, List.length_nil, List.length_replicate, List.length_append]; first | done | omega) | (simp [mulSz, Cont.len, bne]; first | done | omega)))); conv => whnf)
      | (refine tst_in ?_ ?_; (focus (intro h_; exfalso; first | omega | ((try simp only [decide_eq_true_eq, decide_eq_false_iff_not] at h_); omega) | (simp [mulSz, Cont.len, bne] at h_; first | done | omega))); intro _; conv => whnf)
      | (refine tst_in ?_ ?_; rotate_left; (focus (intro h_; exfalso; first | omega | ((try simp only [decide_eq_true_eq, decide_eq_false_iff_not] at h_); omega) | (simp [mulSz, Cont.len, bne] at h_; first | done | omega))); intro _; conv => whnf)
      | (refine ⟨0, (show _ = _ by omega), ?_⟩; conv => whnf))
    refine .inl ⟨(), [0, 1], ?_⟩
    conv => whnf
    repeat' (first | exact True.intro | rfl | refine And.intro ?_ ?_)
    all_goals (conv => whnf)
    repeat' (first | exact True.intro | rfl | refine And.intro ?_ ?_)
    all_goals (try omega)
    all_goals (rw [show ((R : Int)).toNat = R by omega]; exact one_row R hR _ rfl)
  · skip
    conv => whnf
    repeat (first
      | (refine And.intro ?_ ?_; (focus (first | omega | decide | exact EqOk.mk (by kernel_rfl) (by kernel_rfl) (by kernel_rfl) | exact Int.natCast_nonneg _ | ((repeat' refine And.intro ?_ ?_) <;> first | omega | exact Int.natCast_nonneg _ | (simp only [i64max, u8max, u16max, u32max, u64max]; omega) | (simp only [mulSz_eq, Cont.len, colsLen, Col.len, List.length_cons, List.length_nil, List.length_replicate, List.length_append]; first | done | omega) | (simp [mulSz, Cont.len, bne]; first | done | omega)))); conv => whnf)
      | (refine tst_in ?_ ?_; (focus (intro h_; exfalso; first | omega | ((try simp only [decide_eq_true_eq, decide_eq_false_iff_not] at h_); omega) | (simp [mulSz, Cont.len, bne] at h_; first | done | omega))); intro _; conv => whnf)
      | (refine tst_in ?_ ?_; rotate_left; (focus (intro h_; exfalso; first | omega | ((try simp only [decide_eq_true_eq, decide_eq_false_iff_not] at h_); omega) | (simp [mulSz, Cont.len, bne] at h_; first | done | omega))); intro _; conv => whnf)
      | (refine ⟨0, (show _ = _ by omega), ?_⟩; conv => whnf))
    refine .inl ⟨(), [1, 0], ?_⟩
    conv => whnf
    repeat' (first | exact True.intro | rfl | refine And.intro ?_ ?_)
    all_goals (conv => whnf)
    repeat' (first | exact True.intro | rfl | refine And.intro ?_ ?_)
    all_goals (try omega)
    all_goals (rw [show ((R : Int)).toNat = R by omega]; exact one_row R hR _ rfl)
set_option maxHeartbeats 0 in
set_option maxRecDepth 100000 in
theorem pairS_f (o R : Nat) (ho : o ≤ 8) (hR : 2 ^ (o + 1) ≤ R) (hR2 : R ≤ 256) (ih : Fits Try.prog 35 ⟨[.int .i64 o, .int .i64 R], [], [pairOut o R]⟩) : Fits Try.prog 35 ⟨[.int .i64 (o + 1 : Nat), .int .i64 R], [], [pairOut (o + 1) R]⟩ := by
  have hp : 2 ^ (o + 1) = 2 * 2 ^ o := by rw [Nat.pow_succ, Nat.mul_comm]
  have h1 : 1 ≤ 2 ^ o := Nat.one_le_two_pow
  have hsA := sA_succ o
  have hsB := sB_succ o
  have his := fun k => s_is (o + 1) k
  have hiB := fun k => (s_is o k).2
  unfold pairOut at ih ⊢
  rw [hp] at hR ⊢
  generalize hn : 2 ^ o = n at *
  have e2 : (2 * (n : Int)).toNat = 2 * n := by omega
  have e3 : ((n : Int)).toNat = n := by omega
  have e4 : ((R : Int)).toNat = R := by omega
  refine fits_of_body (C := cfg35) (c := k35) (ts := [4, 5]) tokL mixedL (fun | 11 => some ⟨Nat, fun i => ⟨slotsAt 69 [(4, .slice 0 0 (2 * n) R), (5, .slice 1 0 (2 * n) R), (6, .int .i64 n), (52, .slice 0 n n (R - n)), (53, .int .i64 n), (54, .int .i64 i)],
  [.seg true (.ints .i8 (tb (sA (o + 1)) (2 * n) ++ zs (R - 2 * n))), .seg true (.ints .i8 (tb (fun k => if k < n + i then sB (o + 1) k else 0) (2 * n) ++ zs (R - 2 * n)))]⟩, fun i => i ≤ n, fun i => n - i⟩ | _ => none) (fun _ => none)
    Try.func35 (by kernel_rfl) (by kernel_rfl) (by kernel_rfl) (by kernel_rfl) rfl ?_
  conv => whnf
  repeat (first
    | (refine And.intro ?_ ?_; (focus (first | omega | decide | exact EqOk.mk (by kernel_rfl) (by kernel_rfl) (by kernel_rfl) | exact Int.natCast_nonneg _ | ((repeat' refine And.intro ?_ ?_) <;> first | omega | exact Int.natCast_nonneg _ | (simp only [i64max, u8max, u16max, u32max, u64max]; omega) | (simp only [mulSz_eq, Cont.len, colsLen, Col.len, List.length_cons, List.length_nil, List.length_replicate, List.length_append]; first | done | omega) | (simp [mulSz, Cont.len, bne]; first | done | omega)))); conv => whnf)
    | (refine tst_in ?_ ?_; (focus (intro h_; exfalso; first | omega | ((try simp only [decide_eq_true_eq, decide_eq_false_iff_not] at h_); omega) | (simp [mulSz, Cont.len, bne] at h_; first | done | omega))); intro _; conv => whnf)
    | (refine tst_in ?_ ?_; rotate_left; (focus (intro h_; exfalso; first | omega | ((try simp only [decide_eq_true_eq, decide_eq_false_iff_not] at h_); omega) | (simp [mulSz, Cont.len, bne] at h_; first | done | omega))); intro _; conv => whnf)
    | (refine ⟨0, (show _ = _ by omega), ?_⟩; conv => whnf))
  rw [show ((o + 1 : Nat) : Int) - 1 = (o : Int) by omega]
  conv => whnf
  repeat (first
    | (refine And.intro ?_ ?_; (focus (first | omega | decide | exact EqOk.mk (by kernel_rfl) (by kernel_rfl) (by kernel_rfl) | exact Int.natCast_nonneg _ | ((repeat' refine And.intro ?_ ?_) <;> first | omega | exact Int.natCast_nonneg _ | (simp only [i64max, u8max, u16max, u32max, u64max]; omega) | (simp only [mulSz_eq, Cont.len, colsLen, Col.len, List.length_cons, List.length_nil, List.length_replicate, List.length_append]; first | done | omega) | (simp [mulSz, Cont.len, bne]; first | done | omega)))); conv => whnf)
    | (refine tst_in ?_ ?_; (focus (intro h_; exfalso; first | omega | ((try simp only [decide_eq_true_eq, decide_eq_false_iff_not] at h_); omega) | (simp [mulSz, Cont.len, bne] at h_; first | done | omega))); intro _; conv => whnf)
    | (refine tst_in ?_ ?_; rotate_left; (focus (intro h_; exfalso; first | omega | ((try simp only [decide_eq_true_eq, decide_eq_false_iff_not] at h_); omega) | (simp [mulSz, Cont.len, bne] at h_; first | done | omega))); intro _; conv => whnf)
    | (refine ⟨0, (show _ = _ by omega), ?_⟩; conv => whnf))
  refine ⟨_, [], ih, ?_⟩
  conv => whnf
  iterate 2
   refine And.intro ?_ ?_
   focus
    conv => whnf
    repeat' (first | exact True.intro | rfl | refine And.intro ?_ ?_ | omega)
    all_goals (conv => whnf)
    all_goals (try (first | rfl | omega | (simp; done)))
  conv => whnf
  refine ⟨?_, True.intro⟩
  intro _ _
  conv => whnf
  conv => whnf
  repeat (first
    | (refine And.intro ?_ ?_; (focus (first | omega | decide | exact EqOk.mk (by kernel_rfl) (by kernel_rfl) (by kernel_rfl) | exact Int.natCast_nonneg _ | ((repeat' refine And.intro ?_ ?_) <;> first | omega | exact Int.natCast_nonneg _ | (simp only [i64max, u8max, u16max, u32max, u64max]; omega) | (simp only [mulSz_eq, Cont.len, colsLen, Col.len, List.length_cons, List.length_nil, List.length_replicate, List.length_append, tab_len, List.length_replicate, e2, e3, e4]; first | done | omega) | (simp [mulSz, Cont.len, bne, tab_len, List.length_replicate, e2, e3, e4]; first | done | omega)))); conv => whnf)
    | (refine tst_in ?_ ?_; (focus (intro h_; exfalso; first | omega | ((try simp only [decide_eq_true_eq, decide_eq_false_iff_not] at h_); omega) | (simp [mulSz, Cont.len, bne, tab_len, List.length_replicate, e2, e3, e4] at h_; first | done | omega))); intro _; conv => whnf)
    | (refine tst_in ?_ ?_; rotate_left; (focus (intro h_; exfalso; first | omega | ((try simp only [decide_eq_true_eq, decide_eq_false_iff_not] at h_); omega) | (simp [mulSz, Cont.len, bne, tab_len, List.length_replicate, e2, e3, e4] at h_; first | done | omega))); intro _; conv => whnf)
    | (refine ⟨0, (show _ = _ by omega), ?_⟩; conv => whnf))
  refine ⟨⟨[0, 1], (0 : Nat), ?_, Nat.zero_le _⟩, ?_⟩
  · show stLe _ _ ⟨slotsAt 69 [(4, .slice 0 0 (2 * n) R), (5, .slice 1 0 (2 * n) R), (6, .int .i64 n), (52, .slice 0 n n (R - n)), (53, .int .i64 n), (54, .int .i64 (0 : Nat))],
      [.seg true (.ints .i8 (tb (sA (o + 1)) (2 * n) ++ zs (R - 2 * n))), .seg true (.ints .i8 (tb (fun k => if k < n + 0 then sB (o + 1) k else 0) (2 * n) ++ zs (R - 2 * n)))]⟩ _
    conv => whnf
    repeat' (first | exact True.intro | rfl | refine And.intro ?_ ?_)
    all_goals (conv => whnf)
    repeat' (first | exact True.intro | rfl | refine And.intro ?_ ?_)
    all_goals (try omega)
    · simp only [mulSz_eq, Nat.mul_one, e2, e3, List.drop_zero, Nat.zero_add]
      refine row_ext 0 ?_ ?_
      · simp only [List.length_append, List.length_take, List.length_drop, List.length_replicate, tab_len]; omega
      · intro k hk
        simp only [List.length_append, tab_len, List.length_replicate] at hk
        simp only [g_app, g_take, g_drop, g_rep, g_tab, List.length_append, List.length_take, List.length_drop, List.length_replicate, tab_len, hsA]
        repeat' split
        all_goals (first | rfl | omega | (congr 1; omega))
    · simp only [mulSz_eq, Nat.mul_one, e2, e3, List.drop_zero, Nat.zero_add]
      refine row_ext 0 ?_ ?_
      · simp only [List.length_append, List.length_take, List.length_drop, List.length_replicate, tab_len]; omega
      · intro k hk
        simp only [List.length_append, tab_len, List.length_replicate] at hk
        simp only [g_app, g_take, g_drop, g_rep, g_tab, List.length_append, List.length_take, List.length_drop, List.length_replicate, tab_len, hsB]
        repeat' split
        all_goals (first | rfl | omega | (congr 1; omega))
  · intro (i : Nat) (hi : i ≤ n)
    show forceSt ⟨slotsAt 69 [(4, .slice 0 0 (2 * n) R), (5, .slice 1 0 (2 * n) R), (6, .int .i64 n), (52, .slice 0 n n (R - n)), (53, .int .i64 n), (54, .int .i64 i)],
      [.seg true (.ints .i8 (tb (sA (o + 1)) (2 * n) ++ zs (R - 2 * n))), .seg true (.ints .i8 (tb (fun k => if k < n + i then sB (o + 1) k else 0) (2 * n) ++ zs (R - 2 * n)))]⟩ _
    conv => whnf
    repeat (first
      | (refine And.intro ?_ ?_; (focus (first | omega | decide | exact EqOk.mk (by kernel_rfl) (by kernel_rfl) (by kernel_rfl) | exact Int.natCast_nonneg _ | ((repeat' refine And.intro ?_ ?_) <;> first | omega | exact Int.natCast_nonneg _ | (simp only [i64max, u8max, u16max, u32max, u64max]; omega) | (simp only [mulSz_eq, Cont.len, colsLen, Col.len, List.length_cons, List.length_nil, List.length_replicate, List.length_append]; first | done | omega) | (simp [mulSz, Cont.len, bne]; first | done | omega)))); conv => whnf)
      | (refine tst_in ?_ ?_; (focus (intro h_; exfalso; first | omega | ((try simp only [decide_eq_true_eq, decide_eq_false_iff_not] at h_); omega) | (simp [mulSz, Cont.len, bne] at h_; first | done | omega))); intro _; conv => whnf)
      | (refine tst_in ?_ ?_; rotate_left; (focus (intro h_; exfalso; first | omega | ((try simp only [decide_eq_true_eq, decide_eq_false_iff_not] at h_); omega) | (simp [mulSz, Cont.len, bne] at h_; first | done | omega))); intro _; conv => whnf)
      | (refine ⟨0, (show _ = _ by omega), ?_⟩; conv => whnf))
    refine tst_in (fun g1 => ?_) (fun g1' => ?_)
    · have g1 : i < n := by simp at g1; omega
      have ea : (tb (sA (o + 1)) (2 * n) ++ zs (R - 2 * n)).getD (n + ((i : Int)).toNat) 0 = sB o i := by
        rw [show n + ((i : Int)).toNat = n + i by omega, tab_app _ _ _ (by omega), hsA, if_neg (by omega)]; congr 1; omega
      have hb := hiB i
      conv => whnf
      repeat (first
        | (refine And.intro ?_ ?_; (focus (first | omega | decide | exact EqOk.mk (by kernel_rfl) (by kernel_rfl) (by kernel_rfl) | exact Int.natCast_nonneg _ | ((repeat' refine And.intro ?_ ?_) <;> first | omega | exact Int.natCast_nonneg _ | (simp only [i64max, u8max, u16max, u32max, u64max]; omega) | (simp only [mulSz_eq, Cont.len, colsLen, Col.len, List.length_cons, List.length_nil, List.length_replicate, List.length_append, tab_len, List.length_replicate]; first | done | omega) | (simp [mulSz, Cont.len, bne, tab_len, List.length_replicate]; first | done | omega)))); conv => whnf)
        | (refine tst_in ?_ ?_; (focus (intro h_; exfalso; first | omega | ((try simp only [decide_eq_true_eq, decide_eq_false_iff_not] at h_); omega) | (simp [mulSz, Cont.len, bne, tab_len, List.length_replicate] at h_; first | done | omega))); intro _; conv => whnf)
        | (refine tst_in ?_ ?_; rotate_left; (focus (intro h_; exfalso; first | omega | ((try simp only [decide_eq_true_eq, decide_eq_false_iff_not] at h_); omega) | (simp [mulSz, Cont.len, bne, tab_len, List.length_replicate] at h_; first | done | omega))); intro _; conv => whnf)
        | (refine ⟨(n+i), (show _ = _ by omega), ?_⟩; conv => whnf)
        | (refine ⟨(n+i), 0, (show _ = _ by omega), ?_⟩; conv => whnf)
        | (refine ⟨(n+i), 1, (show _ = _ by omega), ?_⟩; conv => whnf)
        | (refine ⟨(n+i), 2, (show _ = _ by omega), ?_⟩; conv => whnf)
        | (refine ⟨(n+i), 3, (show _ = _ by omega), ?_⟩; conv => whnf)
        | (refine ⟨(n+i), 4, (show _ = _ by omega), ?_⟩; conv => whnf)
        | (refine ⟨(n+i), 5, (show _ = _ by omega), ?_⟩; conv => whnf)
        | (refine ⟨0, (show _ = _ by omega), ?_⟩; conv => whnf))
      refine ⟨[0, 1], i + 1, ?_, (by show i + 1 ≤ n; omega), (by show n - (i + 1) < n - i; omega)⟩
      show stLe _ _ ⟨slotsAt 69 [(4, .slice 0 0 (2 * n) R), (5, .slice 1 0 (2 * n) R), (6, .int .i64 n), (52, .slice 0 n n (R - n)), (53, .int .i64 n), (54, .int .i64 (i + 1 : Nat))],
        [.seg true (.ints .i8 (tb (sA (o + 1)) (2 * n) ++ zs (R - 2 * n))), .seg true (.ints .i8 (tb (fun k => if k < n + (i + 1) then sB (o + 1) k else 0) (2 * n) ++ zs (R - 2 * n)))]⟩ _
      conv => whnf
      repeat' (first | exact True.intro | rfl | refine And.intro ?_ ?_)
      all_goals (conv => whnf)
      repeat' (first | exact True.intro | rfl | refine And.intro ?_ ?_)
      all_goals (try omega)
      rw [ea, i8wrap _ (by omega), show 0 + ((n : Int) + (i : Int)).toNat = n + i by omega]
      rw [List.set_append_left _ _ (by rw [tab_len]; omega)]
      congr 1
      refine row_ext 0 (by simp [tab_len]) ?_
      intro k hk
      rw [tab_len] at hk
      simp only [g_set, g_tab, tab_len, List.length_set, hsB]
      repeat' split
      all_goals (first | rfl | omega | (congr 1; omega) | (congr 2; omega) | (rw [show k - n = i by omega]; omega))
    · have g1 : i = n := by simp at g1'; omega
      conv => whnf
      repeat (first
        | (refine And.intro ?_ ?_; (focus (first | omega | decide | exact EqOk.mk (by kernel_rfl) (by kernel_rfl) (by kernel_rfl) | exact Int.natCast_nonneg _ | ((repeat' refine And.intro ?_ ?_) <;> first | omega | exact Int.natCast_nonneg _ | (simp only [i64max, u8max, u16max, u32max, u64max]; omega) | (simp only [mulSz_eq, Cont.len, colsLen, Col.len, List.length_cons, List.length_nil, List.length_replicate, List.length_append]; first | done | omega) | (simp [mulSz, Cont.len, bne]; first | done | omega)))); conv => whnf)
        | (refine tst_in ?_ ?_; (focus (intro h_; exfalso; first | omega | ((try simp only [decide_eq_true_eq, decide_eq_false_iff_not] at h_); omega) | (simp [mulSz, Cont.len, bne] at h_; first | done | omega))); intro _; conv => whnf)
        | (refine tst_in ?_ ?_; rotate_left; (focus (intro h_; exfalso; first | omega | ((try simp only [decide_eq_true_eq, decide_eq_false_iff_not] at h_); omega) | (simp [mulSz, Cont.len, bne] at h_; first | done | omega))); intro _; conv => whnf)
        | (refine ⟨0, (show _ = _ by omega), ?_⟩; conv => whnf))
      refine .inl ⟨(), [0, 1], ?_⟩
      conv => whnf
      repeat' (first | exact True.intro | rfl | refine And.intro ?_ ?_)
      all_goals (conv => whnf)
      repeat' (first | exact True.intro | rfl | refine And.intro ?_ ?_)
      all_goals (try omega)
      rw [tab_congr (n := 2 * n) fun k hk => show sB (o + 1) k = if k < n + i then sB (o + 1) k else 0 by rw [if_pos (by omega)]]
end Go.Proofs.Ytmebbdfpkgkjgaa

set_option linter.unusedVariables false
set_option linter.unusedSimpArgs false
namespace Go.Proofs.Ytmebbdfpkgkjgaa
open Go Go.Fw
theorem dlt_t {a b : Int} (h : @decide (a < b) (dLt a b) = true) : a < b := @of_decide_eq_true _ (dLt a b) h
theorem dlt_f {a b : Int} (h : @decide (a < b) (dLt a b) = false) : b ≤ a := by have := @of_decide_eq_false _ (dLt a b) h; omega
theorem pair_f (R : Nat) (hR2 : R ≤ 256) : ∀ o : Nat, o ≤ 8 → 2 ^ o ≤ R → Fits Try.prog 35 ⟨[.int .i64 o, .int .i64 R], [], [pairOut o R]⟩
  | 0, _, h => pair0_f R h hR2
  | o + 1, ho, h => pairS_f o R (by omega) h hR2 (pair_f R hR2 o (by omega) (by have : 2 ^ o ≤ 2 ^ (o + 1) := Nat.pow_le_pow_right (by omega) (by omega); omega))
noncomputable def k9 : Code := (Try.f9.body).getD .skip
theorem pow8 {o : Nat} (h : o ≤ 8) : 2 ^ o ≤ 256 ∧ 1 ≤ 2 ^ o := ⟨Nat.le_trans (Nat.pow_le_pow_right (by omega) h) (by decide), Nat.one_le_two_pow⟩
def prsOut (o : Nat) : FOut := numOut [.seg true (.ints .i8 (tb (sA o) (2 ^ o))), .seg true (.ints .i8 (tb (sB o) (2 ^ o)))] (.tup [.slice 0 0 (2 ^ o) (2 ^ o), .slice 1 0 (2 ^ o) (2 ^ o), .int .i64 0])
set_option maxHeartbeats 0 in
set_option maxRecDepth 100000 in
theorem Pair_f (o : Nat) (ho : o ≤ 8) : Fits Try.prog 9 ⟨[.int .i64 o], [], [prsOut o]⟩ := by
  obtain ⟨h1, h2⟩ := pow8 ho
  have PF := pair_f (2 ^ o) h1 o ho (Nat.le_refl _)
  unfold pairOut at PF
  rw [Nat.sub_self, show zs 0 = [] from rfl, List.append_nil, List.append_nil] at PF
  unfold prsOut
  refine fits_of_body (C := cfgN 0) (c := k9) (ts := [2, 3, 4]) tokL mixedL (fun _ => none) (fun _ => none)
    Try.func9 (by kernel_rfl) (by kernel_rfl) (by kernel_rfl) (by kernel_rfl) rfl ?_
  have e : 1 * 2 ^ min ((o : Int)).toNat IntKind.i64.bits = ((2 ^ o : Nat) : Int) := by
    rw [show min ((o : Int)).toNat IntKind.i64.bits = o from Nat.min_eq_left (by show o ≤ 64; omega), Int.one_mul]; simp
  conv => whnf
  repeat (first
    | (refine And.intro ?_ ?_; (focus (first | omega | decide | exact EqOk.mk (by kernel_rfl) (by kernel_rfl) (by kernel_rfl) | exact Int.natCast_nonneg _ | ((repeat' refine And.intro ?_ ?_) <;> first | omega | exact Int.natCast_nonneg _ | (simp only [i64max, u8max, u16max, u32max, u64max]; omega) | (simp only [mulSz_eq, Cont.len, colsLen, Col.len, List.length_cons, List.length_nil, List.length_replicate, List.length_append]; first | done | omega) | (simp [mulSz, Cont.len, bne]; first | done | omega)))); conv => whnf)
    | (refine tst_in ?_ ?_; (focus (intro h_; exfalso; first | omega | ((try simp only [decide_eq_true_eq, decide_eq_false_iff_not] at h_); omega) | (simp [mulSz, Cont.len, bne] at h_; first | done | omega))); intro _; conv => whnf)
    | (refine tst_in ?_ ?_; rotate_left; (focus (intro h_; exfalso; first | omega | ((try simp only [decide_eq_true_eq, decide_eq_false_iff_not] at h_); omega) | (simp [mulSz, Cont.len, bne] at h_; first | done | omega))); intro _; conv => whnf)
    | (refine ⟨0, (show _ = _ by omega), ?_⟩; conv => whnf))
  rw [e]
  generalize 2 ^ o = p at *
  refine ⟨_, [], PF, ?_⟩
  conv => whnf
  iterate 2
   refine And.intro ?_ ?_
   focus
    conv => whnf
    repeat' (first | exact True.intro | rfl | refine And.intro ?_ ?_ | omega)
    all_goals (conv => whnf)
    all_goals (try (first | rfl | omega | (simp; done)))
  conv => whnf
  refine ⟨?_, True.intro⟩
  intro _ _
  conv => whnf
  conv => whnf
  repeat (first
    | (refine And.intro ?_ ?_; (focus (first | omega | decide | exact EqOk.mk (by kernel_rfl) (by kernel_rfl) (by kernel_rfl) | exact Int.natCast_nonneg _ | ((repeat' refine And.intro ?_ ?_) <;> first | omega | exact Int.natCast_nonneg _ | (simp only [i64max, u8max, u16max, u32max, u64max]; omega) | (simp only [mulSz_eq, Cont.len, colsLen, Col.len, List.length_cons, List.length_nil, List.length_replicate, List.length_append]; first | done | omega) | (simp [mulSz, Cont.len, bne]; first | done | omega)))); conv => whnf)
    | (refine tst_in ?_ ?_; (focus (intro h_; exfalso; first | omega | ((try simp only [decide_eq_true_eq, decide_eq_false_iff_not] at h_); omega) | (simp [mulSz, Cont.len, bne] at h_; first | done | omega))); intro _; conv => whnf)
    | (refine tst_in ?_ ?_; rotate_left; (focus (intro h_; exfalso; first | omega | ((try simp only [decide_eq_true_eq, decide_eq_false_iff_not] at h_); omega) | (simp [mulSz, Cont.len, bne] at h_; first | done | omega))); intro _; conv => whnf)
    | (refine ⟨0, (show _ = _ by omega), ?_⟩; conv => whnf))
  refine .inl ⟨(), [0, 1], ?_⟩
  conv => whnf
  repeat' (first | exact True.intro | rfl | refine And.intro ?_ ?_)
  all_goals (conv => whnf)
  repeat' (first | exact True.intro | rfl | refine And.intro ?_ ?_)
  all_goals (try omega)
def qf2 : Nat → Bool := fun f => match f with | 20 => true | _ => false
def cfgM (k : Nat) : Cfg := { cfgN k with q := qf2 }
end Go.Proofs.Ytmebbdfpkgkjgaa

set_option linter.unusedVariables false
set_option linter.unusedSimpArgs false
namespace Go.Proofs.Ytmebbdfpkgkjgaa
open Go Go.Fw
def hf (o r g : Nat) : Nat := 2 ^ o * r + g
end Go.Proofs.Ytmebbdfpkgkjgaa

set_option linter.unusedVariables false
set_option linter.unusedSimpArgs false
namespace Go.Proofs.Ytmebbdfpkgkjgaa
open Go Go.Fw
def natAt (st : St) (t : Nat) : Nat := match slot st.sl t with | .int _ n => n.toNat | _ => 0
def rprOut (o : Nat) : FOut := ⟨List Int × List Int, fun _ => True, fun t => .tup [.slice 0 0 (2 ^ o) (2 ^ o + t.1.length), .slice 1 0 (2 ^ o) (2 ^ o + t.2.length), .int .i64 0], fun t => [.seg true (.ints .i8 (tb (sA o) (2 ^ o) ++ t.1)), .seg true (.ints .i8 (tb (sB o) (2 ^ o) ++ t.2))]⟩
def st8 (o m : Nat) (ta tc : List Int) : St := ⟨slotsAt 51 [(0, .int .i64 o), (5, .slice 0 0 (2 ^ m) (2 ^ m + ta.length)), (6, .slice 1 0 (2 ^ m) (2 ^ m + tc.length)), (7, .int .i64 m)], [.seg true (.ints .i8 (tb (sA m) (2 ^ m) ++ ta)), .seg true (.ints .i8 (tb (sB m) (2 ^ m) ++ tc))]⟩
def st8b (o m n j : Nat) (ta tc tx ty : List Int) : St := ⟨slotsAt 51 [(0, .int .i64 o), (5, .slice 0 0 n (n + ta.length)), (6, .slice 1 0 n (n + tc.length)), (7, .int .i64 m), (8, .slice 2 0 (n + n) (n + n + tx.length)), (9, .slice 3 0 (n + j) (n + j + ty.length)), (10, .int .i64 j)],
  [.seg true (.ints .i8 (tb (sA m) n ++ ta)), .seg true (.ints .i8 (tb (sB m) n ++ tc)), .seg true (.ints .i8 (tb (sA (m + 1)) (n + n) ++ tx)), .seg true (.ints .i8 (tb (sB (m + 1)) (n + j) ++ ty))]⟩
structure PX where
  j : Nat
  ta : List Int
  tc : List Int
  tx : List Int
  ty : List Int
def cfg8 (o : Nat) : Cfg := { cfgM 0 with dep := fun | 13 => some fun st => ⟨PX, fun x => st8b o (natAt st 7) (2 ^ natAt st 7) x.j x.ta x.tc x.tx x.ty, fun x => x.j ≤ 2 ^ natAt st 7, fun x => 2 ^ natAt st 7 - x.j⟩ | _ => none }
theorem take_tb {α : Type} (f : Nat → α) (n : Nat) (u : List α) : List.take n (List.drop 0 (tb f n ++ u)) = tb f n := by
  rw [List.drop_zero, List.take_left' (tab_len f n)]
theorem tb_app2 {α : Type} (f g h : Nat → α) (n m : Nat) (h1 : ∀ k, k < n → f k = h k) (h2 : ∀ k, k < m → g k = h (n + k)) : tb f n ++ tb g m = tb h (n + m) := by
  refine row_ext (h 0) (by rw [List.length_append, tab_len, tab_len, tab_len]) fun i hi => ?_
  rw [List.length_append, tab_len, tab_len] at hi
  rw [g_app, tab_len, g_tab, g_tab, g_tab, if_pos hi]
  by_cases e : i < n
  · rw [if_pos e, if_pos e, h1 i e]
  · rw [if_neg e, if_pos (by omega), h2 (i - n) (by omega)]; congr 1; omega
set_option maxHeartbeats 0 in
set_option maxRecDepth 100000 in
theorem rPair_f (o : Nat) (ho : o ≤ 8) : Fits Try.prog 8 ⟨[.int .i64 o], [], [rprOut o]⟩ := by
  unfold rprOut
  refine fits_of_body (C := cfg8 o) (c := (Try.f8.body).getD .skip) (ts := [2, 3, 4]) tokL mixedL (fun | 6 => some ⟨Nat × List Int × List Int, fun p => st8 o p.1 p.2.1 p.2.2, fun p => p.1 ≤ o, fun p => o - p.1⟩ | _ => none) (fun _ => none)
    Try.func8 (by kernel_rfl) (by kernel_rfl) (by kernel_rfl) (by kernel_rfl) rfl ?_
  conv => whnf
  repeat (first
    | (refine And.intro ?_ ?_; (focus (first | omega | decide | exact EqOk.mk (by kernel_rfl) (by kernel_rfl) (by kernel_rfl) | exact Int.natCast_nonneg _ | ((repeat' refine And.intro ?_ ?_) <;> first | omega | exact Int.natCast_nonneg _ | (simp only [i64max, u8max, u16max, u32max, u64max]; omega) | (simp only [mulSz_eq, Cont.len, colsLen, Col.len, List.length_cons, List.length_nil, List.length_replicate, List.length_append]; first | done | omega) | (simp [mulSz, Cont.len, bne]; first | done | omega)))); conv => whnf)
    | (refine tst_in ?_ ?_; (focus (intro h_; exfalso; first | omega | ((try simp only [decide_eq_true_eq, decide_eq_false_iff_not] at h_); omega) | (simp [mulSz, Cont.len, bne] at h_; first | done | omega))); intro _; conv => whnf)
    | (refine tst_in ?_ ?_; rotate_left; (focus (intro h_; exfalso; first | omega | ((try simp only [decide_eq_true_eq, decide_eq_false_iff_not] at h_); omega) | (simp [mulSz, Cont.len, bne] at h_; first | done | omega))); intro _; conv => whnf)
    | (refine ⟨0, (show _ = _ by omega), ?_⟩; conv => whnf))
  refine ⟨⟨[0, 1], ((0, [], []) : Nat × List Int × List Int), ?_, Nat.zero_le _⟩, ?_⟩
  · show stLe _ _ (st8 o 0 [] []) _
    conv => whnf
    repeat' (first | exact True.intro | rfl | refine And.intro ?_ ?_)
    all_goals (conv => whnf)
    repeat' (first | exact True.intro | rfl | refine And.intro ?_ ?_)
    all_goals (try omega)
  · intro ⟨m, ta, tc⟩ (hm : m ≤ o)
    show forceSt (st8 o m ta tc) _
    obtain ⟨p1, p2⟩ := pow8 (show m ≤ 8 by omega)
    have hA := sA_succ m
    have hB := sB_succ m
    have hs := s_is m
    have hpw : 2 ^ (m + 1) = 2 ^ m + 2 ^ m := by rw [Nat.pow_succ]; omega
    unfold st8
    generalize hn : 2 ^ m = n at *
    conv => whnf
    repeat (first
      | (refine And.intro ?_ ?_; (focus (first | omega | decide | exact EqOk.mk (by kernel_rfl) (by kernel_rfl) (by kernel_rfl) | exact Int.natCast_nonneg _ | ((repeat' refine And.intro ?_ ?_) <;> first | omega | exact Int.natCast_nonneg _ | (simp only [i64max, u8max, u16max, u32max, u64max]; omega) | (simp only [mulSz_eq, Cont.len, colsLen, Col.len, List.length_cons, List.length_nil, List.length_replicate, List.length_append]; first | done | omega) | (simp [mulSz, Cont.len, bne]; first | done | omega)))); conv => whnf)
      | (refine tst_in ?_ ?_; (focus (intro h_; exfalso; first | omega | ((try simp only [decide_eq_true_eq, decide_eq_false_iff_not] at h_); omega) | (simp [mulSz, Cont.len, bne] at h_; first | done | omega))); intro _; conv => whnf)
      | (refine tst_in ?_ ?_; rotate_left; (focus (intro h_; exfalso; first | omega | ((try simp only [decide_eq_true_eq, decide_eq_false_iff_not] at h_); omega) | (simp [mulSz, Cont.len, bne] at h_; first | done | omega))); intro _; conv => whnf)
      | (refine ⟨0, (show _ = _ by omega), ?_⟩; conv => whnf))
    refine tst_in (fun h => ?_) (fun h' => ?_)
    · have h : m < o := by have := dlt_t h; omega
      conv => whnf
      repeat (first
        | (refine And.intro ?_ ?_; (focus (first | omega | decide | exact EqOk.mk (by kernel_rfl) (by kernel_rfl) (by kernel_rfl) | exact Int.natCast_nonneg _ | ((repeat' refine And.intro ?_ ?_) <;> first | omega | exact Int.natCast_nonneg _ | (simp only [i64max, u8max, u16max, u32max, u64max]; omega) | (simp only [mulSz_eq, Cont.len, colsLen, Col.len, List.length_cons, List.length_nil, List.length_replicate, List.length_append, tab_len]; first | done | omega) | (simp [mulSz, Cont.len, bne, tab_len]; first | done | omega)))); conv => whnf)
        | (refine tst_in ?_ ?_; (focus (intro h_; exfalso; first | omega | ((try simp only [decide_eq_true_eq, decide_eq_false_iff_not] at h_); omega) | (simp [mulSz, Cont.len, bne, tab_len] at h_; first | done | omega))); intro _; conv => whnf)
        | (refine tst_in ?_ ?_; rotate_left; (focus (intro h_; exfalso; first | omega | ((try simp only [decide_eq_true_eq, decide_eq_false_iff_not] at h_); omega) | (simp [mulSz, Cont.len, bne, tab_len] at h_; first | done | omega))); intro _; conv => whnf)
        | (refine ⟨0, (show _ = _ by omega), ?_⟩; conv => whnf))
      intro t1
      change List Int at t1
      conv => whnf
      repeat (first
        | (refine And.intro ?_ ?_; (focus (first | omega | decide | exact EqOk.mk (by kernel_rfl) (by kernel_rfl) (by kernel_rfl) | exact Int.natCast_nonneg _ | ((repeat' refine And.intro ?_ ?_) <;> first | omega | exact Int.natCast_nonneg _ | (simp only [i64max, u8max, u16max, u32max, u64max]; omega) | (simp only [mulSz_eq, Cont.len, colsLen, Col.len, List.length_cons, List.length_nil, List.length_replicate, List.length_append, tab_len]; first | done | omega) | (simp [mulSz, Cont.len, bne, tab_len]; first | done | omega)))); conv => whnf)
        | (refine tst_in ?_ ?_; (focus (intro h_; exfalso; first | omega | ((try simp only [decide_eq_true_eq, decide_eq_false_iff_not] at h_); omega) | (simp [mulSz, Cont.len, bne, tab_len] at h_; first | done | omega))); intro _; conv => whnf)
        | (refine tst_in ?_ ?_; rotate_left; (focus (intro h_; exfalso; first | omega | ((try simp only [decide_eq_true_eq, decide_eq_false_iff_not] at h_); omega) | (simp [mulSz, Cont.len, bne, tab_len] at h_; first | done | omega))); intro _; conv => whnf)
        | (refine ⟨0, (show _ = _ by omega), ?_⟩; conv => whnf))
      intro t2
      change List Int at t2
      conv => whnf
      repeat (first
        | (refine And.intro ?_ ?_; (focus (first | omega | decide | exact EqOk.mk (by kernel_rfl) (by kernel_rfl) (by kernel_rfl) | exact Int.natCast_nonneg _ | ((repeat' refine And.intro ?_ ?_) <;> first | omega | exact Int.natCast_nonneg _ | (simp only [i64max, u8max, u16max, u32max, u64max]; omega) | (simp only [mulSz_eq, Cont.len, colsLen, Col.len, List.length_cons, List.length_nil, List.length_replicate, List.length_append, tab_len]; first | done | omega) | (simp [mulSz, Cont.len, bne, tab_len]; first | done | omega)))); conv => whnf)
        | (refine tst_in ?_ ?_; (focus (intro h_; exfalso; first | omega | ((try simp only [decide_eq_true_eq, decide_eq_false_iff_not] at h_); omega) | (simp [mulSz, Cont.len, bne, tab_len] at h_; first | done | omega))); intro _; conv => whnf)
        | (refine tst_in ?_ ?_; rotate_left; (focus (intro h_; exfalso; first | omega | ((try simp only [decide_eq_true_eq, decide_eq_false_iff_not] at h_); omega) | (simp [mulSz, Cont.len, bne, tab_len] at h_; first | done | omega))); intro _; conv => whnf)
        | (refine ⟨0, (show _ = _ by omega), ?_⟩; conv => whnf))
      intro t3
      change List Int at t3
      conv => whnf
      repeat (first
        | (refine And.intro ?_ ?_; (focus (first | omega | decide | exact EqOk.mk (by kernel_rfl) (by kernel_rfl) (by kernel_rfl) | exact Int.natCast_nonneg _ | ((repeat' refine And.intro ?_ ?_) <;> first | omega | exact Int.natCast_nonneg _ | (simp only [i64max, u8max, u16max, u32max, u64max]; omega) | (simp only [mulSz_eq, Cont.len, colsLen, Col.len, List.length_cons, List.length_nil, List.length_replicate, List.length_append, tab_len]; first | done | omega) | (simp [mulSz, Cont.len, bne, tab_len]; first | done | omega)))); conv => whnf)
        | (refine tst_in ?_ ?_; (focus (intro h_; exfalso; first | omega | ((try simp only [decide_eq_true_eq, decide_eq_false_iff_not] at h_); omega) | (simp [mulSz, Cont.len, bne, tab_len] at h_; first | done | omega))); intro _; conv => whnf)
        | (refine tst_in ?_ ?_; rotate_left; (focus (intro h_; exfalso; first | omega | ((try simp only [decide_eq_true_eq, decide_eq_false_iff_not] at h_); omega) | (simp [mulSz, Cont.len, bne, tab_len] at h_; first | done | omega))); intro _; conv => whnf)
        | (refine ⟨0, (show _ = _ by omega), ?_⟩; conv => whnf))
      have hx : tb (sA m) n ++ tb (sB m) n = tb (sA (m + 1)) (n + n) := tb_app2 _ _ _ n n (fun k hk => by rw [hA, if_pos hk]) (fun k hk => by rw [hA, if_neg (by omega)]; congr 1; omega)
      have hy0 : tb (sA m) n = tb (sB (m + 1)) n := tab_congr fun k hk => by rw [hB, if_pos hk]
      rw [show 0 + n = n by omega]
      refine ⟨⟨[0, 1, 3, 4], (⟨0, ta, tc, t2, t3⟩ : PX), ?_, Nat.zero_le _⟩, ?_⟩
      · show stLe _ _ (st8b o m (2 ^ m) 0 ta tc t2 t3) _
        rw [hn]
        conv => whnf
        repeat' (first | exact True.intro | rfl | refine And.intro ?_ ?_)
        all_goals (conv => whnf)
        repeat' (first | exact True.intro | rfl | refine And.intro ?_ ?_)
        all_goals (try omega)
        · show tb (sA (m + 1)) (n + n) ++ t2 = List.take n (List.drop 0 (List.take n (List.drop 0 (tb (sA m) n ++ ta)) ++ t1)) ++ List.take n (List.drop 0 (tb (sB m) n ++ tc)) ++ t2
          rw [take_tb, take_tb, take_tb, hx]
        · show tb (sB (m + 1)) n ++ t3 = List.take n (List.drop 0 (tb (sA m) n ++ ta)) ++ t3
          rw [take_tb, hy0]
      · intro ⟨j, a1, c1, x1, y1⟩ hj
        have hj : j ≤ 2 ^ m := hj
        show forceSt (st8b o m (2 ^ m) j a1 c1 x1 y1) _
        rw [hn] at hj ⊢
        unfold st8b
        conv => whnf
        repeat (first
          | (refine And.intro ?_ ?_; (focus (first | omega | decide | exact EqOk.mk (by kernel_rfl) (by kernel_rfl) (by kernel_rfl) | exact Int.natCast_nonneg _ | ((repeat' refine And.intro ?_ ?_) <;> first | omega | exact Int.natCast_nonneg _ | (simp only [i64max, u8max, u16max, u32max, u64max]; omega) | (simp only [mulSz_eq, Cont.len, colsLen, Col.len, List.length_cons, List.length_nil, List.length_replicate, List.length_append]; first | done | omega) | (simp [mulSz, Cont.len, bne]; first | done | omega)))); conv => whnf)
          | (refine tst_in ?_ ?_; (focus (intro h_; exfalso; first | omega | ((try simp only [decide_eq_true_eq, decide_eq_false_iff_not] at h_); omega) | (simp [mulSz, Cont.len, bne] at h_; first | done | omega))); intro _; conv => whnf)
          | (refine tst_in ?_ ?_; rotate_left; (focus (intro h_; exfalso; first | omega | ((try simp only [decide_eq_true_eq, decide_eq_false_iff_not] at h_); omega) | (simp [mulSz, Cont.len, bne] at h_; first | done | omega))); intro _; conv => whnf)
          | (refine ⟨0, (show _ = _ by omega), ?_⟩; conv => whnf))
        refine tst_in (fun g => ?_) (fun g' => ?_)
        · have g : j < n := by have := dlt_t g; omega
          have hsj := (hs j).2
          have hrd : (tb (sB m) n ++ c1).getD j 0 = sB m j := tab_app _ _ _ g
          have hbj : sB (m + 1) (n + j) = -sB m j := by rw [hB, if_neg (by omega)]; congr 2; omega
          conv => whnf
          repeat (first
            | (refine And.intro ?_ ?_; (focus (first | omega | decide | exact EqOk.mk (by kernel_rfl) (by kernel_rfl) (by kernel_rfl) | exact Int.natCast_nonneg _ | ((repeat' refine And.intro ?_ ?_) <;> first | omega | exact Int.natCast_nonneg _ | (simp only [i64max, u8max, u16max, u32max, u64max]; omega) | (simp only [mulSz_eq, Cont.len, colsLen, Col.len, List.length_cons, List.length_nil, List.length_replicate, List.length_append, tab_len]; first | done | omega) | (simp [mulSz, Cont.len, bne, tab_len]; first | done | omega)))); conv => whnf)
            | (refine tst_in ?_ ?_; (focus (intro h_; exfalso; first | omega | ((try simp only [decide_eq_true_eq, decide_eq_false_iff_not] at h_); omega) | (simp [mulSz, Cont.len, bne, tab_len] at h_; first | done | omega))); intro _; conv => whnf)
            | (refine tst_in ?_ ?_; rotate_left; (focus (intro h_; exfalso; first | omega | ((try simp only [decide_eq_true_eq, decide_eq_false_iff_not] at h_); omega) | (simp [mulSz, Cont.len, bne, tab_len] at h_; first | done | omega))); intro _; conv => whnf)
            | (refine ⟨0, (show _ = _ by omega), ?_⟩; conv => whnf))
          rw [show (0 + ((j : Nat) : Int).toNat) = j by omega, hrd]
          conv => whnf
          repeat (first
            | (refine And.intro ?_ ?_; (focus (first | omega | decide | exact EqOk.mk (by kernel_rfl) (by kernel_rfl) (by kernel_rfl) | exact Int.natCast_nonneg _ | ((repeat' refine And.intro ?_ ?_) <;> first | omega | exact Int.natCast_nonneg _ | (simp only [i64max, u8max, u16max, u32max, u64max]; omega) | (simp only [mulSz_eq, Cont.len, colsLen, Col.len, List.length_cons, List.length_nil, List.length_replicate, List.length_append, tab_len]; first | done | omega) | (simp [mulSz, Cont.len, bne, tab_len]; first | done | omega)))); conv => whnf)
            | (refine tst_in ?_ ?_; (focus (intro h_; exfalso; first | omega | ((try simp only [decide_eq_true_eq, decide_eq_false_iff_not] at h_); omega) | (simp [mulSz, Cont.len, bne, tab_len] at h_; first | done | omega))); intro _; conv => whnf)
            | (refine tst_in ?_ ?_; rotate_left; (focus (intro h_; exfalso; first | omega | ((try simp only [decide_eq_true_eq, decide_eq_false_iff_not] at h_); omega) | (simp [mulSz, Cont.len, bne, tab_len] at h_; first | done | omega))); intro _; conv => whnf)
            | (refine ⟨0, (show _ = _ by omega), ?_⟩; conv => whnf))
          intro w
          change List Int at w
          conv => whnf
          repeat (first
            | (refine And.intro ?_ ?_; (focus (first | omega | decide | exact EqOk.mk (by kernel_rfl) (by kernel_rfl) (by kernel_rfl) | exact Int.natCast_nonneg _ | ((repeat' refine And.intro ?_ ?_) <;> first | omega | exact Int.natCast_nonneg _ | (simp only [i64max, u8max, u16max, u32max, u64max]; omega) | (simp only [mulSz_eq, Cont.len, colsLen, Col.len, List.length_cons, List.length_nil, List.length_replicate, List.length_append, tab_len]; first | done | omega) | (simp [mulSz, Cont.len, bne, tab_len]; first | done | omega)))); conv => whnf)
            | (refine tst_in ?_ ?_; (focus (intro h_; exfalso; first | omega | ((try simp only [decide_eq_true_eq, decide_eq_false_iff_not] at h_); omega) | (simp [mulSz, Cont.len, bne, tab_len] at h_; first | done | omega))); intro _; conv => whnf)
            | (refine tst_in ?_ ?_; rotate_left; (focus (intro h_; exfalso; first | omega | ((try simp only [decide_eq_true_eq, decide_eq_false_iff_not] at h_); omega) | (simp [mulSz, Cont.len, bne, tab_len] at h_; first | done | omega))); intro _; conv => whnf)
            | (refine ⟨0, (show _ = _ by omega), ?_⟩; conv => whnf))
          refine ⟨[0, 1, 2, 5], (⟨j + 1, a1, c1, x1, w⟩ : PX), ?_, (by show j + 1 ≤ 2 ^ m; omega), (by show 2 ^ m - (j + 1) < 2 ^ m - j; omega)⟩
          show stLe _ _ (st8b o m (2 ^ m) (j + 1) a1 c1 x1 w) _
          rw [hn]
          unfold st8b
          conv => whnf
          repeat' (first | exact True.intro | rfl | refine And.intro ?_ ?_)
          all_goals (conv => whnf)
          repeat' (first | exact True.intro | rfl | refine And.intro ?_ ?_)
          all_goals (try omega)
          show tb (sB (m + 1)) (n + (j + 1)) ++ w = List.take (n + j) (List.drop 0 (tb (sB (m + 1)) (n + j) ++ y1)) ++ [IntKind.i8.wrap (0 - sB m j)] ++ w
          rw [take_tb, i8wrap _ (by omega), show 0 - sB m j = sB (m + 1) (n + j) by rw [hbj]; omega, tab_snoc]; rfl
        · have g : j = n := by have := dlt_f g'; omega
          subst g
          conv => whnf
          repeat (first
            | (refine And.intro ?_ ?_; (focus (first | omega | decide | exact EqOk.mk (by kernel_rfl) (by kernel_rfl) (by kernel_rfl) | exact Int.natCast_nonneg _ | ((repeat' refine And.intro ?_ ?_) <;> first | omega | exact Int.natCast_nonneg _ | (simp only [i64max, u8max, u16max, u32max, u64max]; omega) | (simp only [mulSz_eq, Cont.len, colsLen, Col.len, List.length_cons, List.length_nil, List.length_replicate, List.length_append]; first | done | omega) | (simp [mulSz, Cont.len, bne]; first | done | omega)))); conv => whnf)
            | (refine tst_in ?_ ?_; (focus (intro h_; exfalso; first | omega | ((try simp only [decide_eq_true_eq, decide_eq_false_iff_not] at h_); omega) | (simp [mulSz, Cont.len, bne] at h_; first | done | omega))); intro _; conv => whnf)
            | (refine tst_in ?_ ?_; rotate_left; (focus (intro h_; exfalso; first | omega | ((try simp only [decide_eq_true_eq, decide_eq_false_iff_not] at h_); omega) | (simp [mulSz, Cont.len, bne] at h_; first | done | omega))); intro _; conv => whnf)
            | (refine ⟨0, (show _ = _ by omega), ?_⟩; conv => whnf))
          refine ⟨[2, 3], ((m + 1, x1, y1) : Nat × List Int × List Int), ?_, h, (by show o - (m + 1) < o - m; omega)⟩
          show stLe _ _ (st8 o (m + 1) x1 y1) _
          unfold st8
          rw [hpw]
          conv => whnf
          repeat' (first | exact True.intro | rfl | refine And.intro ?_ ?_)
          all_goals (conv => whnf)
          repeat' (first | exact True.intro | rfl | refine And.intro ?_ ?_)
          all_goals (try omega)
    · have h : m = o := by have := dlt_f h'; omega
      subst h
      rw [hn]
      conv => whnf
      repeat (first
        | (refine And.intro ?_ ?_; (focus (first | omega | decide | exact EqOk.mk (by kernel_rfl) (by kernel_rfl) (by kernel_rfl) | exact Int.natCast_nonneg _ | ((repeat' refine And.intro ?_ ?_) <;> first | omega | exact Int.natCast_nonneg _ | (simp only [i64max, u8max, u16max, u32max, u64max]; omega) | (simp only [mulSz_eq, Cont.len, colsLen, Col.len, List.length_cons, List.length_nil, List.length_replicate, List.length_append]; first | done | omega) | (simp [mulSz, Cont.len, bne]; first | done | omega)))); conv => whnf)
        | (refine tst_in ?_ ?_; (focus (intro h_; exfalso; first | omega | ((try simp only [decide_eq_true_eq, decide_eq_false_iff_not] at h_); omega) | (simp [mulSz, Cont.len, bne] at h_; first | done | omega))); intro _; conv => whnf)
        | (refine tst_in ?_ ?_; rotate_left; (focus (intro h_; exfalso; first | omega | ((try simp only [decide_eq_true_eq, decide_eq_false_iff_not] at h_); omega) | (simp [mulSz, Cont.len, bne] at h_; first | done | omega))); intro _; conv => whnf)
        | (refine ⟨0, (show _ = _ by omega), ?_⟩; conv => whnf))
      refine .inl ⟨(ta, tc), [0, 1], ?_⟩
      conv => whnf
      repeat' (first | exact True.intro | rfl | refine And.intro ?_ ?_)
      all_goals (conv => whnf)
      repeat' (first | exact True.intro | rfl | refine And.intro ?_ ?_)
      all_goals (try omega)
end Go.Proofs.Ytmebbdfpkgkjgaa

set_option linter.unusedVariables false
set_option linter.unusedSimpArgs false
namespace Go.Proofs.Ytmebbdfpkgkjgaa
open Go Go.Fw
def nat5 (st : St) (t : Nat) : Nat := match slot st.sl t with | .int _ n => n.toNat | _ => 0
def su (p : Nat → Int) : Nat → Int
  | 0 => 0
  | n + 1 => su p n + p n
def ac (F : Nat → Int) (k i : Nat) : Int := su (fun j => F j * F (j + k)) i
def au (F : Nat → Int) (n k : Nat) : Int := ac F k (n - k)
theorem ac_s (F : Nat → Int) (k i : Nat) : ac F k (i + 1) = ac F k i + F i * F (i + k) := rfl
theorem ac_au (F : Nat → Int) (n k : Nat) : ac F k (n - k) = au F n k := rfl
theorem mul8 {x y : Int} (h : -128 ≤ x ∧ x ≤ 127) (g : -128 ≤ y ∧ y ≤ 127) : -16384 ≤ x * y ∧ x * y ≤ 16384 := by
  have e := Int.natAbs_mul x y
  have l := Nat.mul_le_mul (show x.natAbs ≤ 128 by omega) (show y.natAbs ≤ 128 by omega)
  rw [← e] at l
  omega
theorem ac_b {F : Nat → Int} (h : ∀ i, -128 ≤ F i ∧ F i ≤ 127) (k : Nat) : ∀ i : Nat, -((i : Int) * 16384) ≤ ac F k i ∧ ac F k i ≤ (i : Int) * 16384
  | 0 => by show -(((0 : Nat) : Int) * 16384) ≤ 0 ∧ (0 : Int) ≤ ((0 : Nat) : Int) * 16384; omega
  | i + 1 => by
    have ih := ac_b h k i
    have := mul8 (h i) (h (i + k))
    rw [ac_s]
    omega
theorem i8in {x : Int} (h : -128 ≤ x ∧ x ≤ 127) : IntKind.i64.wrap x = x := wrap_i64 (by show (-9223372036854775808 : Int) ≤ x ∧ x ≤ 9223372036854775807; omega)
theorem mid_set {α : Type} (f : Nat → α) (x v : α) (t : List α) (k : Nat) : (tb f k ++ x :: t).set k v = tb f k ++ v :: t := by
  rw [List.set_append_right k v (s := tb f k) (t := x :: t) (by rw [tab_len]; exact Nat.le_refl _), tab_len, Nat.sub_self, List.set_cons_zero]
theorem mid_get {α : Type} (f : Nat → α) (x d : α) (t : List α) (k : Nat) : (tb f k ++ x :: t).getD k d = x := by
  rw [List.getD_eq_getElem?_getD, List.getElem?_append_right (by rw [tab_len]; exact Nat.le_refl _), tab_len, Nat.sub_self]; rfl
theorem mid_len {α : Type} (f : Nat → α) (x : α) (k r : Nat) (z : α) : (tb f k ++ x :: List.replicate r z).length = k + r + 1 := by
  rw [List.length_append, tab_len, List.length_cons, List.length_replicate]; omega
def By (F : Nat → Int) : Prop := ∀ i, -128 ≤ F i ∧ F i ≤ 127
def stO (A : List Int) (F : Nat → Int) (n ca k : Nat) : St := ⟨slotsAt 50 [(0, .slice 0 0 n ca), (4, .slice 1 0 n n), (15, .int .i64 n), (16, .int .i64 k)], [.seg false (.ints .i8 A), .seg true (.ints .i64 (tb (au F n) k ++ List.replicate (n - k) 0))]⟩
def invO (A : List Int) (F : Nat → Int) (n ca : Nat) : LInv := ⟨Nat, fun k => stO A F n ca k, fun k => k ≤ n, fun k => n - k⟩
def stI (A : List Int) (F : Nat → Int) (n ca k i : Nat) : St := ⟨slotsAt 50 [(0, .slice 0 0 n ca), (4, .slice 1 0 n n), (5, .int .i64 k), (15, .int .i64 n), (16, .int .i64 k), (24, .slice 0 0 (n - k) ca), (25, .int .i64 (n - k : Nat)), (26, .int .i64 i)], [.seg false (.ints .i8 A), .seg true (.ints .i64 (tb (au F n) k ++ ac F k i :: List.replicate (n - (k + 1)) 0))]⟩
def invI (A : List Int) (F : Nat → Int) (n ca : Nat) (st : St) : LInv := ⟨Nat, fun i => stI A F n ca (nat5 st 5) i, fun i => i ≤ n - nat5 st 5, fun i => (n - nat5 st 5) - i⟩
def cfgA (A : List Int) (F : Nat → Int) (n ca : Nat) : Cfg := { cfgN 1 with sgn := fun _ => false, dep := fun | 8 => some (invI A F n ca) | _ => none }
def dm (n m : Nat) (e : Int) : Prop := (n ≤ 4096 ∧ n = m ∧ e = 0) ∨ (4096 < n ∧ m = 0 ∧ e = 1)
def autoOut (F : Nat → Int) (n : Nat) (e : Int) : FOut := ⟨Unit, fun _ => True, fun _ => .tup [.slice 1 0 n n, .int .i64 e], fun _ => [.dead, .seg true (.ints .i64 (tb (au F n) n))]⟩
set_option maxHeartbeats 0 in
set_option maxRecDepth 100000 in
theorem Auto_f (A : List Int) (F : Nat → Int) (n ca m : Nat) (e : Int) (hA : n ≤ A.length) (hca : n ≤ ca) (hN : n ≤ 9223372036854775807) (hm : dm n m e) (hF : ∀ i, i < n → A.getD i 0 = F i) (h1 : By F) :
    Fits Try.prog 12 ⟨[.slice 0 0 n ca], [.seg false (.ints .i8 A)], [autoOut F m e]⟩ := by
  refine fits_of_body (C := cfgA A F n ca) (c := (Try.f12.body).getD .skip) (ts := [2, 3]) tokL mixedL (fun | 5 => some (invO A F n ca) | _ => none) (fun _ => none)
    Try.func12 (by kernel_rfl) (by kernel_rfl) (by kernel_rfl) (by kernel_rfl) rfl ?_
  rcases hm with ⟨hn, rfl, rfl⟩ | ⟨hn, rfl, rfl⟩
  rotate_left
  · skip
    conv => whnf
    repeat (first
      | (refine And.intro ?_ ?_; (focus (first | omega | decide | exact EqOk.mk (by kernel_rfl) (by kernel_rfl) (by kernel_rfl) | exact Int.natCast_nonneg _ | ((repeat' refine And.intro ?_ ?_) <;> first | omega | exact Int.natCast_nonneg _ | (simp only [i64max, u8max, u16max, u32max, u64max]; omega) | (simp only [mulSz_eq, Cont.len, colsLen, Col.len, List.length_cons, List.length_nil, List.length_replicate, List.length_append]; first | done | omega) | (simp [mulSz, Cont.len, bne]; first | done | omega)))); conv => whnf)
      | (refine tst_in ?_ ?_; (focus (intro h_; exfalso; first | omega | ((try simp only [decide_eq_true_eq, decide_eq_false_iff_not] at h_); omega) | (simp [mulSz, Cont.len, bne] at h_; first | done | omega))); intro _; conv => whnf)
      | (refine tst_in ?_ ?_; rotate_left; (focus (intro h_; exfalso; first | omega | ((try simp only [decide_eq_true_eq, decide_eq_false_iff_not] at h_); omega) | (simp [mulSz, Cont.len, bne] at h_; first | done | omega))); intro _; conv => whnf)
      | (refine ⟨0, (show _ = _ by omega), ?_⟩; conv => whnf))
    refine .inl ⟨(), [0, 9], ?_⟩
    conv => whnf
    repeat' (first | exact True.intro | rfl | refine And.intro ?_ ?_)
    all_goals (conv => whnf)
    repeat' (first | exact True.intro | rfl | refine And.intro ?_ ?_)
    all_goals (try omega)
  conv => whnf
  repeat (first
    | (refine And.intro ?_ ?_; (focus (first | omega | decide | exact EqOk.mk (by kernel_rfl) (by kernel_rfl) (by kernel_rfl) | exact Int.natCast_nonneg _ | ((repeat' refine And.intro ?_ ?_) <;> first | omega | exact Int.natCast_nonneg _ | (simp only [i64max, u8max, u16max, u32max, u64max]; omega) | (simp only [mulSz_eq, Cont.len, colsLen, Col.len, List.length_cons, List.length_nil, List.length_replicate, List.length_append]; first | done | omega) | (simp [mulSz, Cont.len, bne]; first | done | omega)))); conv => whnf)
    | (refine tst_in ?_ ?_; (focus (intro h_; exfalso; first | omega | ((try simp only [decide_eq_true_eq, decide_eq_false_iff_not] at h_); omega) | (simp [mulSz, Cont.len, bne] at h_; first | done | omega))); intro _; conv => whnf)
    | (refine tst_in ?_ ?_; rotate_left; (focus (intro h_; exfalso; first | omega | ((try simp only [decide_eq_true_eq, decide_eq_false_iff_not] at h_); omega) | (simp [mulSz, Cont.len, bne] at h_; first | done | omega))); intro _; conv => whnf)
    | (refine ⟨0, (show _ = _ by omega), ?_⟩; conv => whnf))
  refine ⟨⟨[0, 1], (0 : Nat), ?_, Nat.zero_le _⟩, ?_⟩
  · conv => whnf
    repeat' (first | exact True.intro | rfl | refine And.intro ?_ ?_)
    all_goals (conv => whnf)
    repeat' (first | exact True.intro | rfl | refine And.intro ?_ ?_)
    all_goals (try (first | omega | exact True.intro | rfl | assumption | (change LE.le (α := Nat) _ _; omega) | (simp; first | done | omega)))
  · intro (k : Nat) (hk : k ≤ n)
    show forceSt (stO A F n ca k) _
    conv => whnf
    refine tst_in (fun hlt => ?_) (fun hge => ?_)
    · skip
      have hlt : k < n := by simp at hlt; omega
      have hsub : ((n : Int) - (k : Int)).toNat = n - k := by omega
      conv => whnf
      repeat (first
        | (refine And.intro ?_ ?_; (focus (first | omega | decide | exact EqOk.mk (by kernel_rfl) (by kernel_rfl) (by kernel_rfl) | exact Int.natCast_nonneg _ | ((repeat' refine And.intro ?_ ?_) <;> first | omega | exact Int.natCast_nonneg _ | (simp only [i64max, u8max, u16max, u32max, u64max]; omega) | (simp only [mulSz_eq, Cont.len, colsLen, Col.len, List.length_cons, List.length_nil, List.length_replicate, List.length_append]; first | done | omega) | (simp [mulSz, Cont.len, bne]; first | done | omega)))); conv => whnf)
        | (refine tst_in ?_ ?_; (focus (intro h_; exfalso; first | omega | ((try simp only [decide_eq_true_eq, decide_eq_false_iff_not] at h_); omega) | (simp [mulSz, Cont.len, bne] at h_; first | done | omega))); intro _; conv => whnf)
        | (refine tst_in ?_ ?_; rotate_left; (focus (intro h_; exfalso; first | omega | ((try simp only [decide_eq_true_eq, decide_eq_false_iff_not] at h_); omega) | (simp [mulSz, Cont.len, bne] at h_; first | done | omega))); intro _; conv => whnf)
        | (refine ⟨0, (show _ = _ by omega), ?_⟩; conv => whnf))
      rw [hsub]
      refine ⟨⟨[0, 1], (0 : Nat), ?_, Nat.zero_le _⟩, ?_⟩
      · show stLe _ _ (stI A F n ca k 0) _
        unfold stI
        rw [show n - k = n - (k + 1) + 1 by omega]
        conv => whnf
        repeat' (first | exact True.intro | rfl | refine And.intro ?_ ?_)
        all_goals (conv => whnf)
        repeat' (first | exact True.intro | rfl | refine And.intro ?_ ?_)
        all_goals (try omega)
      · intro (i : Nat) hi
        have hi : i ≤ n - k := hi
        have hX0 : 0 + ((k : Int)).toNat = k := by omega
        have hXi : 0 + ((i : Int)).toNat = i := by omega
        have hXs : 0 + ((i : Int) + (k : Int)).toNat = i + k := by omega
        have hlen := mid_len (au F n) (ac F k i) k (n - (k + 1)) 0
        have hb := ac_b h1 k i
        have hm := mul8 (h1 i) (h1 (i + k))
        show forceSt (stI A F n ca k i) _
        conv => whnf
        refine tst_in (fun hlt2 => ?_) (fun hge2 => ?_)
        · skip
          have hlt2 : i < n - k := by simp at hlt2; omega
          have v1 := hF i (by omega)
          have v2 := hF (i + k) (by omega)
          conv => whnf
          repeat (first
            | (refine And.intro ?_ ?_; (focus (first | omega | decide | exact EqOk.mk (by kernel_rfl) (by kernel_rfl) (by kernel_rfl) | exact Int.natCast_nonneg _ | ((repeat' refine And.intro ?_ ?_) <;> first | omega | exact Int.natCast_nonneg _ | (simp only [i64max, u8max, u16max, u32max, u64max]; omega) | (simp only [mulSz_eq, Cont.len, colsLen, Col.len, List.length_cons, List.length_nil, List.length_replicate, List.length_append, hlen]; first | done | omega) | (simp [mulSz, Cont.len, bne, hlen]; first | done | omega)))); conv => whnf)
            | (refine tst_in ?_ ?_; (focus (intro h_; exfalso; first | omega | ((try simp only [decide_eq_true_eq, decide_eq_false_iff_not] at h_); omega) | (simp [mulSz, Cont.len, bne, hlen] at h_; first | done | omega))); intro _; conv => whnf)
            | (refine tst_in ?_ ?_; rotate_left; (focus (intro h_; exfalso; first | omega | ((try simp only [decide_eq_true_eq, decide_eq_false_iff_not] at h_); omega) | (simp [mulSz, Cont.len, bne, hlen] at h_; first | done | omega))); intro _; conv => whnf)
            | (refine ⟨0, (show _ = _ by omega), ?_⟩; conv => whnf))
          rw [hXi, hXs, hX0, v1, v2, i8in (h1 i), i8in (h1 (i + k)), mid_get]
          conv => whnf
          repeat (first
            | (refine And.intro ?_ ?_; (focus (first | omega | decide | exact EqOk.mk (by kernel_rfl) (by kernel_rfl) (by kernel_rfl) | exact Int.natCast_nonneg _ | ((repeat' refine And.intro ?_ ?_) <;> first | omega | exact Int.natCast_nonneg _ | (simp only [i64max, u8max, u16max, u32max, u64max]; omega) | (simp only [mulSz_eq, Cont.len, colsLen, Col.len, List.length_cons, List.length_nil, List.length_replicate, List.length_append, hlen]; first | done | omega) | (simp [mulSz, Cont.len, bne, hlen]; first | done | omega)))); conv => whnf)
            | (refine tst_in ?_ ?_; (focus (intro h_; exfalso; first | omega | ((try simp only [decide_eq_true_eq, decide_eq_false_iff_not] at h_); omega) | (simp [mulSz, Cont.len, bne, hlen] at h_; first | done | omega))); intro _; conv => whnf)
            | (refine tst_in ?_ ?_; rotate_left; (focus (intro h_; exfalso; first | omega | ((try simp only [decide_eq_true_eq, decide_eq_false_iff_not] at h_); omega) | (simp [mulSz, Cont.len, bne, hlen] at h_; first | done | omega))); intro _; conv => whnf)
            | (refine ⟨0, (show _ = _ by omega), ?_⟩; conv => whnf))
          refine ⟨[0, 1], i + 1, ?_, (by show i + 1 ≤ n - k; omega), (by show n - k - (i + 1) < n - k - i; omega)⟩
          show stLe _ _ (stI A F n ca k (i + 1)) _
          conv => whnf
          repeat' (first | exact True.intro | rfl | refine And.intro ?_ ?_)
          all_goals (conv => whnf)
          repeat' (first | exact True.intro | rfl | refine And.intro ?_ ?_)
          all_goals (try omega)
          all_goals (rw [hX0, mid_set]; rfl)
        · skip
          have hge2 : i = n - k := by simp at hge2; omega
          subst hge2
          rw [ac_au]
          conv => whnf
          repeat (first
            | (refine And.intro ?_ ?_; (focus (first | omega | decide | exact EqOk.mk (by kernel_rfl) (by kernel_rfl) (by kernel_rfl) | exact Int.natCast_nonneg _ | ((repeat' refine And.intro ?_ ?_) <;> first | omega | exact Int.natCast_nonneg _ | (simp only [i64max, u8max, u16max, u32max, u64max]; omega) | (simp only [mulSz_eq, Cont.len, colsLen, Col.len, List.length_cons, List.length_nil, List.length_replicate, List.length_append]; first | done | omega) | (simp [mulSz, Cont.len, bne]; first | done | omega)))); conv => whnf)
            | (refine tst_in ?_ ?_; (focus (intro h_; exfalso; first | omega | ((try simp only [decide_eq_true_eq, decide_eq_false_iff_not] at h_); omega) | (simp [mulSz, Cont.len, bne] at h_; first | done | omega))); intro _; conv => whnf)
            | (refine tst_in ?_ ?_; rotate_left; (focus (intro h_; exfalso; first | omega | ((try simp only [decide_eq_true_eq, decide_eq_false_iff_not] at h_); omega) | (simp [mulSz, Cont.len, bne] at h_; first | done | omega))); intro _; conv => whnf)
            | (refine ⟨0, (show _ = _ by omega), ?_⟩; conv => whnf))
          refine ⟨[0, 1], k + 1, ?_, (by show k + 1 ≤ n; omega), (by show n - (k + 1) < n - k; omega)⟩
          show stLe _ _ (stO A F n ca (k + 1)) _
          unfold stO
          rw [← tab_snoc, List.append_assoc]
          conv => whnf
          repeat' (first | exact True.intro | rfl | refine And.intro ?_ ?_)
          all_goals (conv => whnf)
          repeat' (first | exact True.intro | rfl | refine And.intro ?_ ?_)
          all_goals (try omega)
    · skip
      have hge : k = n := by simp at hge; omega
      subst hge
      rw [Nat.sub_self]
      conv => whnf
      repeat (first
        | (refine And.intro ?_ ?_; (focus (first | omega | decide | exact EqOk.mk (by kernel_rfl) (by kernel_rfl) (by kernel_rfl) | exact Int.natCast_nonneg _ | ((repeat' refine And.intro ?_ ?_) <;> first | omega | exact Int.natCast_nonneg _ | (simp only [i64max, u8max, u16max, u32max, u64max]; omega) | (simp only [mulSz_eq, Cont.len, colsLen, Col.len, List.length_cons, List.length_nil, List.length_replicate, List.length_append]; first | done | omega) | (simp [mulSz, Cont.len, bne]; first | done | omega)))); conv => whnf)
        | (refine tst_in ?_ ?_; (focus (intro h_; exfalso; first | omega | ((try simp only [decide_eq_true_eq, decide_eq_false_iff_not] at h_); omega) | (simp [mulSz, Cont.len, bne] at h_; first | done | omega))); intro _; conv => whnf)
        | (refine tst_in ?_ ?_; rotate_left; (focus (intro h_; exfalso; first | omega | ((try simp only [decide_eq_true_eq, decide_eq_false_iff_not] at h_); omega) | (simp [mulSz, Cont.len, bne] at h_; first | done | omega))); intro _; conv => whnf)
        | (refine ⟨0, (show _ = _ by omega), ?_⟩; conv => whnf))
      refine .inl ⟨(), [0, 1], ?_⟩
      conv => whnf
      repeat' (first | exact True.intro | rfl | refine And.intro ?_ ?_)
      all_goals (conv => whnf)
      repeat' (first | exact True.intro | rfl | refine And.intro ?_ ?_)
      all_goals (try omega)
      all_goals (show tb (au F k) k = tb (au F k) k ++ []; rw [List.append_nil])
end Go.Proofs.Ytmebbdfpkgkjgaa

set_option linter.unusedVariables false
set_option linter.unusedSimpArgs false
namespace Go.Proofs.Ytmebbdfpkgkjgaa
open Go Go.Fw
theorem andNot63 (b : Nat) (h : b < 18446744073709551616) : rawBits .andNot .u64 b 9223372036854775808 = ((b % 9223372036854775808 : Nat) : Int) := by
  show IntKind.u64.wrap ((BitVec.ofInt 64 b &&& ~~~ BitVec.ofInt 64 9223372036854775808).toNat : Int) = _
  have e : (BitVec.ofInt 64 b &&& ~~~ BitVec.ofInt 64 9223372036854775808).toNat = b % 9223372036854775808 := by
    rw [BitVec.toNat_and, BitVec.toNat_ofInt, show (~~~ BitVec.ofInt 64 9223372036854775808).toNat = 2 ^ 63 - 1 by decide, Nat.and_two_pow_sub_one_eq_mod]
    show ((b : Int) % 18446744073709551616).toNat % 9223372036854775808 = _
    omega
  rw [e]
  unfold IntKind.wrap
  simp [IntKind.bits, IntKind.signed]
  omega
def qz : Nat → Bool := fun f => match f with | 36 => true | 2000051 => true | 2000014 => true | 2000037 => true | _ => false
def cfgz (k : Nat) : Cfg := { T := tyL, sgn := fun _ => true, wr := fun _ => false, k := k, q := qz }
attribute [local irreducible] rawBits
theorem fb_x (n : Int) : Go.Fw.XRun Try.prog 14 [.int .u64 n] (.flt .f64 n.toNat) := by
  refine ⟨.float .f64 n.toNat, fun ρ => by simp only [Den], fun ρ vs h w => ?_⟩
  simp only [Dens, Den] at h
  obtain ⟨v, r, rfl, rfl, rfl⟩ := h
  kernel_rfl
theorem bf_x (n : Nat) : Go.Fw.XRun Try.prog 51 [.flt .f64 n] (.int .u64 n) := by
  refine ⟨.int .u64 n, fun ρ => by simp only [Den], fun ρ vs h w => ?_⟩
  simp only [Dens, Den] at h
  obtain ⟨v, r, rfl, rfl, rfl⟩ := h
  kernel_rfl
section
attribute [local irreducible] Ieee.Format.read
theorem int_num (nm : String) (way : Ieee.Toward) (n : Nat) {s : Bool} {m : Nat} {P : Int} (hr : D.read n = .number s m P) : Go.Extern.MathFloor.toIntegral nm way #[.float .f64 n] = pure (.float .f64 (D.write ((D.read n).integral way))) := by
  have e : FloatKind.f64.decode n = .number s m P := hr
  conv =>
    lhs
    whnf
  rw [e, hr]
  rfl
end
theorem even_x (n : Nat) {s : Bool} {m : Nat} {P : Int} (hr : D.read n = .number s m P) : Go.Fw.XRun Try.prog 37 [.flt .f64 n] (.flt .f64 (D.write ((D.read n).integral .even))) := by
  refine ⟨.float .f64 (D.write ((D.read n).integral .even)), fun ρ => by simp only [Den], fun ρ vs h w => ?_⟩
  simp only [Dens, Den] at h
  obtain ⟨v, r, rfl, rfl, rfl⟩ := h
  have h1 : (callFunc 37 #[Value.float .f64 n]).run Try.prog w = (Go.Extern.MathFloor.toIntegral "math.RoundToEven" .even #[.float .f64 n] >>= fun v => pure (Next.value v)).run Try.prog w := by kernel_rfl
  refine h1.trans ?_
  rw [int_num _ _ n hr]
  rfl
noncomputable def k22 : Code := (Try.f36.body).getD .skip
set_option maxHeartbeats 0 in
set_option maxRecDepth 100000 in
theorem Abs_q (b : Nat) (hb : b < 18446744073709551616) : QFits Try.prog 36 ⟨[.flt .f64 b], [], .flt .f64 (b % 9223372036854775808)⟩ := by
  have FB := fb_x ((b % 9223372036854775808 : Nat) : Int)
  rw [Int.toNat_natCast] at FB
  have BF := bf_x b
  have hn := andNot63 b hb
  generalize b % 9223372036854775808 = a at *
  refine qfits_of_body (C := cfgz 0) (c := k22) (ts := [2]) tokL mixedL (fun _ => none) (fun _ => none)
    Try.func36 (by kernel_rfl) (by kernel_rfl) (by kernel_rfl) (by kernel_rfl) (by kernel_rfl) rfl rfl ?_
  conv => whnf
  repeat (first
    | (refine And.intro ?_ ?_; (focus (first | omega | decide | exact EqOk.mk (by kernel_rfl) (by kernel_rfl) (by kernel_rfl) | exact Int.natCast_nonneg _ | ((repeat' refine And.intro ?_ ?_) <;> first | omega | exact Int.natCast_nonneg _ | (simp only [i64max, u8max, u16max, u32max, u64max]; omega) | (simp only [mulSz_eq, Cont.len, colsLen, Col.len, List.length_cons, List.length_nil, List.length_replicate, List.length_append]; first | done | omega) | (simp [mulSz, Cont.len, bne]; first | done | omega)))); conv => whnf)
    | (refine tst_in ?_ ?_; (focus (intro h_; exfalso; first | omega | ((try simp only [decide_eq_true_eq, decide_eq_false_iff_not] at h_); omega) | (simp [mulSz, Cont.len, bne] at h_; first | done | omega))); intro _; conv => whnf)
    | (refine tst_in ?_ ?_; rotate_left; (focus (intro h_; exfalso; first | omega | ((try simp only [decide_eq_true_eq, decide_eq_false_iff_not] at h_); omega) | (simp [mulSz, Cont.len, bne] at h_; first | done | omega))); intro _; conv => whnf)
    | (refine ⟨0, (show _ = _ by omega), ?_⟩; conv => whnf))
  refine ⟨_, _, BF, rfl, ?_⟩
  conv => whnf
  conv => whnf
  repeat (first
    | (refine And.intro ?_ ?_; (focus (first | omega | decide | exact EqOk.mk (by kernel_rfl) (by kernel_rfl) (by kernel_rfl) | exact Int.natCast_nonneg _ | ((repeat' refine And.intro ?_ ?_) <;> first | omega | exact Int.natCast_nonneg _ | (simp only [i64max, u8max, u16max, u32max, u64max]; omega) | (simp only [mulSz_eq, Cont.len, colsLen, Col.len, List.length_cons, List.length_nil, List.length_replicate, List.length_append]; first | done | omega) | (simp [mulSz, Cont.len, bne]; first | done | omega)))); conv => whnf)
    | (refine tst_in ?_ ?_; (focus (intro h_; exfalso; first | omega | ((try simp only [decide_eq_true_eq, decide_eq_false_iff_not] at h_); omega) | (simp [mulSz, Cont.len, bne] at h_; first | done | omega))); intro _; conv => whnf)
    | (refine tst_in ?_ ?_; rotate_left; (focus (intro h_; exfalso; first | omega | ((try simp only [decide_eq_true_eq, decide_eq_false_iff_not] at h_); omega) | (simp [mulSz, Cont.len, bne] at h_; first | done | omega))); intro _; conv => whnf)
    | (refine ⟨0, (show _ = _ by omega), ?_⟩; conv => whnf))
  rw [hn]
  refine ⟨_, _, FB, rfl, ?_⟩
  conv => whnf

end Go.Proofs.Ytmebbdfpkgkjgaa

set_option linter.unusedVariables false
set_option linter.unusedSimpArgs false
namespace Go.Proofs.Ytmebbdfpkgkjgaa
open Go Go.Fw
def qs : Nat → Bool := fun f => match f with | 36 => true | 2000037 => true | _ => false
def cfgs (k : Nat) : Cfg := { T := tyL, sgn := fun _ => true, wr := fun _ => false, k := k, q := qs }
noncomputable def k13 : Code := (Try.f13.body).getD .skip
noncomputable def k15 : Code := (Try.f15.body).getD .skip
theorem div64 {a : Nat} {n : Int} (h : V 0 a n) (h1 : -67108866 < n) (h2 : n < 67108866) : ∃ r, floatBits .quo .f64 a 4634204016564240384 = some r ∧ V 6 r n := by
  obtain ⟨r, k1, k2⟩ := V_div (j := 6) (c := 4634204016564240384) h (by decide) (by omega) (by omega) (by omega)
  rw [Nat.zero_add] at k2
  exact ⟨r, k1, k2⟩
set_option maxHeartbeats 0 in
set_option maxRecDepth 100000 in
theorem Step_in {b y : Nat} {X t : Int} (hb : b < 18446744073709551616) (h : InT b X) (p : PkT b X y t) : ∃ r, V 6 r (nrst (X * 64)) ∧ QFits Try.prog 15 ⟨[.flt .f64 b], [], .tup [.flt .f64 r, .int .i64 0]⟩ := by
  have h1 := h.ab
  have AQ := Abs_q b hb
  have p1 := p.mul
  obtain ⟨s, m, P, hr⟩ := p.num
  have EX := even_x y hr
  have n1 := p.nr.1
  have n2 := p.nr.2
  obtain ⟨w, w1, w2⟩ := div64 p.ev (by omega) (by omega)
  refine ⟨w, w2, ?_⟩
  generalize D.write ((D.read y).integral .even) = z at *
  generalize b % 9223372036854775808 = a at *
  refine qfits_of_body (C := cfgs 0) (c := k15) (ts := [2, 3]) tokL mixedL (fun _ => none) (fun _ => none)
    Try.func15 (by kernel_rfl) (by kernel_rfl) (by kernel_rfl) (by kernel_rfl) (by kernel_rfl) rfl rfl ?_
  conv => whnf
  repeat (first
    | (refine And.intro ?_ ?_; (focus (first | omega | decide | exact EqOk.mk (by kernel_rfl) (by kernel_rfl) (by kernel_rfl) | exact Int.natCast_nonneg _ | ((repeat' refine And.intro ?_ ?_) <;> first | omega | exact Int.natCast_nonneg _ | (simp only [i64max, u8max, u16max, u32max, u64max]; omega) | (simp only [mulSz_eq, Cont.len, colsLen, Col.len, List.length_cons, List.length_nil, List.length_replicate, List.length_append]; first | done | omega) | (simp [mulSz, Cont.len, bne]; first | done | omega)))); conv => whnf)
    | (refine tst_in ?_ ?_; (focus (intro h_; exfalso; first | omega | ((try simp only [decide_eq_true_eq, decide_eq_false_iff_not] at h_); omega) | (simp [mulSz, Cont.len, bne] at h_; first | done | omega))); intro _; conv => whnf)
    | (refine tst_in ?_ ?_; rotate_left; (focus (intro h_; exfalso; first | omega | ((try simp only [decide_eq_true_eq, decide_eq_false_iff_not] at h_); omega) | (simp [mulSz, Cont.len, bne] at h_; first | done | omega))); intro _; conv => whnf)
    | (refine ⟨0, (show _ = _ by omega), ?_⟩; conv => whnf))
  refine ⟨_, [], AQ, ?_⟩
  conv => whnf
  iterate 2
   refine And.intro ?_ ?_
   focus
    conv => whnf
    repeat' (first | exact True.intro | rfl | refine And.intro ?_ ?_ | omega)
    all_goals (conv => whnf)
    all_goals (try (first | rfl | omega | (simp; done)))
  conv => whnf
  conv => whnf
  repeat (first
    | (refine And.intro ?_ ?_; (focus (first | omega | decide | exact EqOk.mk (by kernel_rfl) (by kernel_rfl) (by kernel_rfl) | exact Int.natCast_nonneg _ | ((repeat' refine And.intro ?_ ?_) <;> first | omega | exact Int.natCast_nonneg _ | (simp only [i64max, u8max, u16max, u32max, u64max]; omega) | (simp only [mulSz_eq, Cont.len, colsLen, Col.len, List.length_cons, List.length_nil, List.length_replicate, List.length_append]; first | done | omega) | (simp [mulSz, Cont.len, bne]; first | done | omega)))); conv => whnf)
    | (refine tst_in ?_ ?_; (focus (intro h_; exfalso; first | omega | ((try simp only [decide_eq_true_eq, decide_eq_false_iff_not] at h_); omega) | (simp [mulSz, Cont.len, bne] at h_; first | done | omega))); intro _; conv => whnf)
    | (refine tst_in ?_ ?_; rotate_left; (focus (intro h_; exfalso; first | omega | ((try simp only [decide_eq_true_eq, decide_eq_false_iff_not] at h_); omega) | (simp [mulSz, Cont.len, bne] at h_; first | done | omega))); intro _; conv => whnf)
    | (refine ⟨0, (show _ = _ by omega), ?_⟩; conv => whnf))
  refine tst_in (fun u => absurd u (by rw [show (D.order a 4697254411347427328 == some Ordering.lt || D.order a 4697254411347427328 == some Ordering.eq) = true from h1]; decide)) (fun u => ?_)
  conv => whnf
  repeat (first
    | (refine And.intro ?_ ?_; (focus (first | omega | decide | exact EqOk.mk (by kernel_rfl) (by kernel_rfl) (by kernel_rfl) | exact Int.natCast_nonneg _ | ((repeat' refine And.intro ?_ ?_) <;> first | omega | exact Int.natCast_nonneg _ | (simp only [i64max, u8max, u16max, u32max, u64max]; omega) | (simp only [mulSz_eq, Cont.len, colsLen, Col.len, List.length_cons, List.length_nil, List.length_replicate, List.length_append]; first | done | omega) | (simp [mulSz, Cont.len, bne]; first | done | omega)))); conv => whnf)
    | (refine tst_in ?_ ?_; (focus (intro h_; exfalso; first | omega | ((try simp only [decide_eq_true_eq, decide_eq_false_iff_not] at h_); omega) | (simp [mulSz, Cont.len, bne] at h_; first | done | omega))); intro _; conv => whnf)
    | (refine tst_in ?_ ?_; rotate_left; (focus (intro h_; exfalso; first | omega | ((try simp only [decide_eq_true_eq, decide_eq_false_iff_not] at h_); omega) | (simp [mulSz, Cont.len, bne] at h_; first | done | omega))); intro _; conv => whnf)
    | (refine ⟨0, (show _ = _ by omega), ?_⟩; conv => whnf))
  refine ⟨y, p1, ?_⟩
  conv => whnf
  repeat (first
    | (refine And.intro ?_ ?_; (focus (first | omega | decide | exact EqOk.mk (by kernel_rfl) (by kernel_rfl) (by kernel_rfl) | exact Int.natCast_nonneg _ | ((repeat' refine And.intro ?_ ?_) <;> first | omega | exact Int.natCast_nonneg _ | (simp only [i64max, u8max, u16max, u32max, u64max]; omega) | (simp only [mulSz_eq, Cont.len, colsLen, Col.len, List.length_cons, List.length_nil, List.length_replicate, List.length_append]; first | done | omega) | (simp [mulSz, Cont.len, bne]; first | done | omega)))); conv => whnf)
    | (refine tst_in ?_ ?_; (focus (intro h_; exfalso; first | omega | ((try simp only [decide_eq_true_eq, decide_eq_false_iff_not] at h_); omega) | (simp [mulSz, Cont.len, bne] at h_; first | done | omega))); intro _; conv => whnf)
    | (refine tst_in ?_ ?_; rotate_left; (focus (intro h_; exfalso; first | omega | ((try simp only [decide_eq_true_eq, decide_eq_false_iff_not] at h_); omega) | (simp [mulSz, Cont.len, bne] at h_; first | done | omega))); intro _; conv => whnf)
    | (refine ⟨0, (show _ = _ by omega), ?_⟩; conv => whnf))
  refine ⟨_, _, EX, rfl, ?_⟩
  conv => whnf
  conv => whnf
  repeat (first
    | (refine And.intro ?_ ?_; (focus (first | omega | decide | exact EqOk.mk (by kernel_rfl) (by kernel_rfl) (by kernel_rfl) | exact Int.natCast_nonneg _ | ((repeat' refine And.intro ?_ ?_) <;> first | omega | exact Int.natCast_nonneg _ | (simp only [i64max, u8max, u16max, u32max, u64max]; omega) | (simp only [mulSz_eq, Cont.len, colsLen, Col.len, List.length_cons, List.length_nil, List.length_replicate, List.length_append]; first | done | omega) | (simp [mulSz, Cont.len, bne]; first | done | omega)))); conv => whnf)
    | (refine tst_in ?_ ?_; (focus (intro h_; exfalso; first | omega | ((try simp only [decide_eq_true_eq, decide_eq_false_iff_not] at h_); omega) | (simp [mulSz, Cont.len, bne] at h_; first | done | omega))); intro _; conv => whnf)
    | (refine tst_in ?_ ?_; rotate_left; (focus (intro h_; exfalso; first | omega | ((try simp only [decide_eq_true_eq, decide_eq_false_iff_not] at h_); omega) | (simp [mulSz, Cont.len, bne] at h_; first | done | omega))); intro _; conv => whnf)
    | (refine ⟨0, (show _ = _ by omega), ?_⟩; conv => whnf))
  refine ⟨w, w1, ?_⟩
  conv => whnf
  repeat (first
    | (refine And.intro ?_ ?_; (focus (first | omega | decide | exact EqOk.mk (by kernel_rfl) (by kernel_rfl) (by kernel_rfl) | exact Int.natCast_nonneg _ | ((repeat' refine And.intro ?_ ?_) <;> first | omega | exact Int.natCast_nonneg _ | (simp only [i64max, u8max, u16max, u32max, u64max]; omega) | (simp only [mulSz_eq, Cont.len, colsLen, Col.len, List.length_cons, List.length_nil, List.length_replicate, List.length_append]; first | done | omega) | (simp [mulSz, Cont.len, bne]; first | done | omega)))); conv => whnf)
    | (refine tst_in ?_ ?_; (focus (intro h_; exfalso; first | omega | ((try simp only [decide_eq_true_eq, decide_eq_false_iff_not] at h_); omega) | (simp [mulSz, Cont.len, bne] at h_; first | done | omega))); intro _; conv => whnf)
    | (refine tst_in ?_ ?_; rotate_left; (focus (intro h_; exfalso; first | omega | ((try simp only [decide_eq_true_eq, decide_eq_false_iff_not] at h_); omega) | (simp [mulSz, Cont.len, bne] at h_; first | done | omega))); intro _; conv => whnf)
    | (refine ⟨0, (show _ = _ by omega), ?_⟩; conv => whnf))
  conv => whnf
  repeat' (first | exact True.intro | rfl | refine And.intro ?_ ?_)
  all_goals (conv => whnf)
  repeat' (first | exact True.intro | rfl | refine And.intro ?_ ?_)
  all_goals (try omega)
set_option maxHeartbeats 0 in
set_option maxRecDepth 100000 in
theorem Step_out {b : Nat} (hb : b < 18446744073709551616) (h : OutT b) : QFits Try.prog 15 ⟨[.flt .f64 b], [], .tup [.flt .f64 0, .int .i64 1]⟩ := by
  have h1 := h.abs
  have AQ := Abs_q b hb
  generalize b % 9223372036854775808 = a at *
  refine qfits_of_body (C := cfgs 0) (c := k15) (ts := [2, 3]) tokL mixedL (fun _ => none) (fun _ => none)
    Try.func15 (by kernel_rfl) (by kernel_rfl) (by kernel_rfl) (by kernel_rfl) (by kernel_rfl) rfl rfl ?_
  conv => whnf
  repeat (first
    | (refine And.intro ?_ ?_; (focus (first | omega | decide | exact EqOk.mk (by kernel_rfl) (by kernel_rfl) (by kernel_rfl) | exact Int.natCast_nonneg _ | ((repeat' refine And.intro ?_ ?_) <;> first | omega | exact Int.natCast_nonneg _ | (simp only [i64max, u8max, u16max, u32max, u64max]; omega) | (simp only [mulSz_eq, Cont.len, colsLen, Col.len, List.length_cons, List.length_nil, List.length_replicate, List.length_append]; first | done | omega) | (simp [mulSz, Cont.len, bne]; first | done | omega)))); conv => whnf)
    | (refine tst_in ?_ ?_; (focus (intro h_; exfalso; first | omega | ((try simp only [decide_eq_true_eq, decide_eq_false_iff_not] at h_); omega) | (simp [mulSz, Cont.len, bne] at h_; first | done | omega))); intro _; conv => whnf)
    | (refine tst_in ?_ ?_; rotate_left; (focus (intro h_; exfalso; first | omega | ((try simp only [decide_eq_true_eq, decide_eq_false_iff_not] at h_); omega) | (simp [mulSz, Cont.len, bne] at h_; first | done | omega))); intro _; conv => whnf)
    | (refine ⟨0, (show _ = _ by omega), ?_⟩; conv => whnf))
  refine ⟨_, [], AQ, ?_⟩
  conv => whnf
  iterate 2
   refine And.intro ?_ ?_
   focus
    conv => whnf
    repeat' (first | exact True.intro | rfl | refine And.intro ?_ ?_ | omega)
    all_goals (conv => whnf)
    all_goals (try (first | rfl | omega | (simp; done)))
  conv => whnf
  conv => whnf
  repeat (first
    | (refine And.intro ?_ ?_; (focus (first | omega | decide | exact EqOk.mk (by kernel_rfl) (by kernel_rfl) (by kernel_rfl) | exact Int.natCast_nonneg _ | ((repeat' refine And.intro ?_ ?_) <;> first | omega | exact Int.natCast_nonneg _ | (simp only [i64max, u8max, u16max, u32max, u64max]; omega) | (simp only [mulSz_eq, Cont.len, colsLen, Col.len, List.length_cons, List.length_nil, List.length_replicate, List.length_append]; first | done | omega) | (simp [mulSz, Cont.len, bne]; first | done | omega)))); conv => whnf)
    | (refine tst_in ?_ ?_; (focus (intro h_; exfalso; first | omega | ((try simp only [decide_eq_true_eq, decide_eq_false_iff_not] at h_); omega) | (simp [mulSz, Cont.len, bne] at h_; first | done | omega))); intro _; conv => whnf)
    | (refine tst_in ?_ ?_; rotate_left; (focus (intro h_; exfalso; first | omega | ((try simp only [decide_eq_true_eq, decide_eq_false_iff_not] at h_); omega) | (simp [mulSz, Cont.len, bne] at h_; first | done | omega))); intro _; conv => whnf)
    | (refine ⟨0, (show _ = _ by omega), ?_⟩; conv => whnf))
  refine tst_in (fun u => ?_) (fun u => absurd u (by rw [show (D.order a 4697254411347427328 == some Ordering.lt || D.order a 4697254411347427328 == some Ordering.eq) = false from h1]; decide))
  conv => whnf
  repeat (first
    | (refine And.intro ?_ ?_; (focus (first | omega | decide | exact EqOk.mk (by kernel_rfl) (by kernel_rfl) (by kernel_rfl) | exact Int.natCast_nonneg _ | ((repeat' refine And.intro ?_ ?_) <;> first | omega | exact Int.natCast_nonneg _ | (simp only [i64max, u8max, u16max, u32max, u64max]; omega) | (simp only [mulSz_eq, Cont.len, colsLen, Col.len, List.length_cons, List.length_nil, List.length_replicate, List.length_append]; first | done | omega) | (simp [mulSz, Cont.len, bne]; first | done | omega)))); conv => whnf)
    | (refine tst_in ?_ ?_; (focus (intro h_; exfalso; first | omega | ((try simp only [decide_eq_true_eq, decide_eq_false_iff_not] at h_); omega) | (simp [mulSz, Cont.len, bne] at h_; first | done | omega))); intro _; conv => whnf)
    | (refine tst_in ?_ ?_; rotate_left; (focus (intro h_; exfalso; first | omega | ((try simp only [decide_eq_true_eq, decide_eq_false_iff_not] at h_); omega) | (simp [mulSz, Cont.len, bne] at h_; first | done | omega))); intro _; conv => whnf)
    | (refine ⟨0, (show _ = _ by omega), ?_⟩; conv => whnf))
  conv => whnf
  repeat' (first | exact True.intro | rfl | refine And.intro ?_ ?_)
  all_goals (conv => whnf)
  repeat' (first | exact True.intro | rfl | refine And.intro ?_ ?_)
  all_goals (try omega)
set_option maxHeartbeats 0 in
set_option maxRecDepth 100000 in
theorem rStep_out {b : Nat} (h : OutT b) : QFits Try.prog 13 ⟨[.flt .f64 b], [], .tup [.flt .f64 0, .int .i64 1]⟩ := by
  have h1 := h.two
  refine qfits_of_body (C := cfgs 0) (c := k13) (ts := [2, 3]) tokL mixedL (fun _ => none) (fun _ => none)
    Try.func13 (by kernel_rfl) (by kernel_rfl) (by kernel_rfl) (by kernel_rfl) (by kernel_rfl) rfl rfl ?_
  conv => whnf
  repeat (first
    | (refine And.intro ?_ ?_; (focus (first | omega | decide | exact EqOk.mk (by kernel_rfl) (by kernel_rfl) (by kernel_rfl) | exact Int.natCast_nonneg _ | ((repeat' refine And.intro ?_ ?_) <;> first | omega | exact Int.natCast_nonneg _ | (simp only [i64max, u8max, u16max, u32max, u64max]; omega) | (simp only [mulSz_eq, Cont.len, colsLen, Col.len, List.length_cons, List.length_nil, List.length_replicate, List.length_append]; first | done | omega) | (simp [mulSz, Cont.len, bne]; first | done | omega)))); conv => whnf)
    | (refine tst_in ?_ ?_; (focus (intro h_; exfalso; first | omega | ((try simp only [decide_eq_true_eq, decide_eq_false_iff_not] at h_); omega) | (simp [mulSz, Cont.len, bne] at h_; first | done | omega))); intro _; conv => whnf)
    | (refine tst_in ?_ ?_; rotate_left; (focus (intro h_; exfalso; first | omega | ((try simp only [decide_eq_true_eq, decide_eq_false_iff_not] at h_); omega) | (simp [mulSz, Cont.len, bne] at h_; first | done | omega))); intro _; conv => whnf)
    | (refine ⟨0, (show _ = _ by omega), ?_⟩; conv => whnf))
  refine tst_in (fun u => ?_) (fun u => ?_)
  · rw [show (D.order b 13920626448202203136 == some Ordering.gt || D.order b 13920626448202203136 == some Ordering.eq) = true from u, Bool.true_and] at h1
    conv => whnf
    repeat (first
      | (refine And.intro ?_ ?_; (focus (first | omega | decide | exact EqOk.mk (by kernel_rfl) (by kernel_rfl) (by kernel_rfl) | exact Int.natCast_nonneg _ | ((repeat' refine And.intro ?_ ?_) <;> first | omega | exact Int.natCast_nonneg _ | (simp only [i64max, u8max, u16max, u32max, u64max]; omega) | (simp only [mulSz_eq, Cont.len, colsLen, Col.len, List.length_cons, List.length_nil, List.length_replicate, List.length_append]; first | done | omega) | (simp [mulSz, Cont.len, bne]; first | done | omega)))); conv => whnf)
      | (refine tst_in ?_ ?_; (focus (intro h_; exfalso; first | omega | ((try simp only [decide_eq_true_eq, decide_eq_false_iff_not] at h_); omega) | (simp [mulSz, Cont.len, bne] at h_; first | done | omega))); intro _; conv => whnf)
      | (refine tst_in ?_ ?_; rotate_left; (focus (intro h_; exfalso; first | omega | ((try simp only [decide_eq_true_eq, decide_eq_false_iff_not] at h_); omega) | (simp [mulSz, Cont.len, bne] at h_; first | done | omega))); intro _; conv => whnf)
      | (refine ⟨0, (show _ = _ by omega), ?_⟩; conv => whnf))
    refine tst_in (fun u2 => ?_) (fun u2 => absurd u2 (by rw [show (D.order b 4697254411347427328 == some Ordering.lt || D.order b 4697254411347427328 == some Ordering.eq) = false from h1]; decide))
    conv => whnf
    repeat (first
      | (refine And.intro ?_ ?_; (focus (first | omega | decide | exact EqOk.mk (by kernel_rfl) (by kernel_rfl) (by kernel_rfl) | exact Int.natCast_nonneg _ | ((repeat' refine And.intro ?_ ?_) <;> first | omega | exact Int.natCast_nonneg _ | (simp only [i64max, u8max, u16max, u32max, u64max]; omega) | (simp only [mulSz_eq, Cont.len, colsLen, Col.len, List.length_cons, List.length_nil, List.length_replicate, List.length_append]; first | done | omega) | (simp [mulSz, Cont.len, bne]; first | done | omega)))); conv => whnf)
      | (refine tst_in ?_ ?_; (focus (intro h_; exfalso; first | omega | ((try simp only [decide_eq_true_eq, decide_eq_false_iff_not] at h_); omega) | (simp [mulSz, Cont.len, bne] at h_; first | done | omega))); intro _; conv => whnf)
      | (refine tst_in ?_ ?_; rotate_left; (focus (intro h_; exfalso; first | omega | ((try simp only [decide_eq_true_eq, decide_eq_false_iff_not] at h_); omega) | (simp [mulSz, Cont.len, bne] at h_; first | done | omega))); intro _; conv => whnf)
      | (refine ⟨0, (show _ = _ by omega), ?_⟩; conv => whnf))
    conv => whnf
    repeat' (first | exact True.intro | rfl | refine And.intro ?_ ?_)
    all_goals (conv => whnf)
    repeat' (first | exact True.intro | rfl | refine And.intro ?_ ?_)
    all_goals (try omega)
  · conv => whnf
    repeat (first
      | (refine And.intro ?_ ?_; (focus (first | omega | decide | exact EqOk.mk (by kernel_rfl) (by kernel_rfl) (by kernel_rfl) | exact Int.natCast_nonneg _ | ((repeat' refine And.intro ?_ ?_) <;> first | omega | exact Int.natCast_nonneg _ | (simp only [i64max, u8max, u16max, u32max, u64max]; omega) | (simp only [mulSz_eq, Cont.len, colsLen, Col.len, List.length_cons, List.length_nil, List.length_replicate, List.length_append]; first | done | omega) | (simp [mulSz, Cont.len, bne]; first | done | omega)))); conv => whnf)
      | (refine tst_in ?_ ?_; (focus (intro h_; exfalso; first | omega | ((try simp only [decide_eq_true_eq, decide_eq_false_iff_not] at h_); omega) | (simp [mulSz, Cont.len, bne] at h_; first | done | omega))); intro _; conv => whnf)
      | (refine tst_in ?_ ?_; rotate_left; (focus (intro h_; exfalso; first | omega | ((try simp only [decide_eq_true_eq, decide_eq_false_iff_not] at h_); omega) | (simp [mulSz, Cont.len, bne] at h_; first | done | omega))); intro _; conv => whnf)
      | (refine ⟨0, (show _ = _ by omega), ?_⟩; conv => whnf))
    conv => whnf
    repeat' (first | exact True.intro | rfl | refine And.intro ?_ ?_)
    all_goals (conv => whnf)
    repeat' (first | exact True.intro | rfl | refine And.intro ?_ ?_)
    all_goals (try omega)
set_option maxHeartbeats 0 in
set_option maxRecDepth 100000 in
theorem rStep_w {b y r w : Nat} {t n N : Int} {g e : Bool} (h1 : (D.order b 13920626448202203136 == some .gt || D.order b 13920626448202203136 == some .eq) = true) (h2 : (D.order b 4697254411347427328 == some .lt || D.order b 4697254411347427328 == some .eq) = true)
    (p1 : floatBits .mul .f64 b 4634204016564240384 = some y) (p2 : floatToIntVal .f64 y .i64 = some t) (l1 : -67108864 ≤ t) (l2 : t ≤ 67108864)
    (hn : ((D.order (floatOfInt .f64 t) y == some .gt) = true ∧ n = t - 1) ∨ ((D.order (floatOfInt .f64 t) y == some .gt) = false ∧ n = t))
    (s1 : floatBits .sub .f64 y (floatOfInt .f64 n) = some r) (hg : (D.order r 4602678819172646912 == some .gt) = g) (he : (D.order r 4602678819172646912 == some .eq) = e)
    (hN : N = if g = true ∨ (e = true ∧ n % 2 = 1) then n + 1 else n) (q1 : floatBits .quo .f64 (floatOfInt .f64 N) 4634204016564240384 = some w) :
    QFits Try.prog 13 ⟨[.flt .f64 b], [], .tup [.flt .f64 w, .int .i64 0]⟩ := by
  refine qfits_of_body (C := cfgs 0) (c := k13) (ts := [2, 3]) tokL mixedL (fun _ => none) (fun _ => none)
    Try.func13 (by kernel_rfl) (by kernel_rfl) (by kernel_rfl) (by kernel_rfl) (by kernel_rfl) rfl rfl ?_
  conv => whnf
  repeat (first
    | (refine And.intro ?_ ?_; (focus (first | omega | decide | exact EqOk.mk (by kernel_rfl) (by kernel_rfl) (by kernel_rfl) | exact Int.natCast_nonneg _ | ((repeat' refine And.intro ?_ ?_) <;> first | omega | exact Int.natCast_nonneg _ | (simp only [i64max, u8max, u16max, u32max, u64max]; omega) | (simp only [mulSz_eq, Cont.len, colsLen, Col.len, List.length_cons, List.length_nil, List.length_replicate, List.length_append]; first | done | omega) | (simp [mulSz, Cont.len, bne]; first | done | omega)))); conv => whnf)
    | (refine tst_in ?_ ?_; (focus (intro h_; exfalso; first | omega | ((try simp only [decide_eq_true_eq, decide_eq_false_iff_not] at h_); omega) | (simp [mulSz, Cont.len, bne] at h_; first | done | omega))); intro _; conv => whnf)
    | (refine tst_in ?_ ?_; rotate_left; (focus (intro h_; exfalso; first | omega | ((try simp only [decide_eq_true_eq, decide_eq_false_iff_not] at h_); omega) | (simp [mulSz, Cont.len, bne] at h_; first | done | omega))); intro _; conv => whnf)
    | (refine ⟨0, (show _ = _ by omega), ?_⟩; conv => whnf))
  refine tst_in (fun u => ?_) (fun u => absurd (h1.symm.trans u) (by decide))
  conv => whnf
  repeat (first
    | (refine And.intro ?_ ?_; (focus (first | omega | decide | exact EqOk.mk (by kernel_rfl) (by kernel_rfl) (by kernel_rfl) | exact Int.natCast_nonneg _ | ((repeat' refine And.intro ?_ ?_) <;> first | omega | exact Int.natCast_nonneg _ | (simp only [i64max, u8max, u16max, u32max, u64max]; omega) | (simp only [mulSz_eq, Cont.len, colsLen, Col.len, List.length_cons, List.length_nil, List.length_replicate, List.length_append]; first | done | omega) | (simp [mulSz, Cont.len, bne]; first | done | omega)))); conv => whnf)
    | (refine tst_in ?_ ?_; (focus (intro h_; exfalso; first | omega | ((try simp only [decide_eq_true_eq, decide_eq_false_iff_not] at h_); omega) | (simp [mulSz, Cont.len, bne] at h_; first | done | omega))); intro _; conv => whnf)
    | (refine tst_in ?_ ?_; rotate_left; (focus (intro h_; exfalso; first | omega | ((try simp only [decide_eq_true_eq, decide_eq_false_iff_not] at h_); omega) | (simp [mulSz, Cont.len, bne] at h_; first | done | omega))); intro _; conv => whnf)
    | (refine ⟨0, (show _ = _ by omega), ?_⟩; conv => whnf))
  refine tst_in (fun u => absurd u (by rw [show (D.order b 4697254411347427328 == some Ordering.lt || D.order b 4697254411347427328 == some Ordering.eq) = true from h2]; decide)) (fun u => ?_)
  conv => whnf
  repeat (first
    | (refine And.intro ?_ ?_; (focus (first | omega | decide | exact EqOk.mk (by kernel_rfl) (by kernel_rfl) (by kernel_rfl) | exact Int.natCast_nonneg _ | ((repeat' refine And.intro ?_ ?_) <;> first | omega | exact Int.natCast_nonneg _ | (simp only [i64max, u8max, u16max, u32max, u64max]; omega) | (simp only [mulSz_eq, Cont.len, colsLen, Col.len, List.length_cons, List.length_nil, List.length_replicate, List.length_append]; first | done | omega) | (simp [mulSz, Cont.len, bne]; first | done | omega)))); conv => whnf)
    | (refine tst_in ?_ ?_; (focus (intro h_; exfalso; first | omega | ((try simp only [decide_eq_true_eq, decide_eq_false_iff_not] at h_); omega) | (simp [mulSz, Cont.len, bne] at h_; first | done | omega))); intro _; conv => whnf)
    | (refine tst_in ?_ ?_; rotate_left; (focus (intro h_; exfalso; first | omega | ((try simp only [decide_eq_true_eq, decide_eq_false_iff_not] at h_); omega) | (simp [mulSz, Cont.len, bne] at h_; first | done | omega))); intro _; conv => whnf)
    | (refine ⟨0, (show _ = _ by omega), ?_⟩; conv => whnf))
  refine ⟨y, p1, ?_⟩
  conv => whnf
  repeat (first
    | (refine And.intro ?_ ?_; (focus (first | omega | decide | exact EqOk.mk (by kernel_rfl) (by kernel_rfl) (by kernel_rfl) | exact Int.natCast_nonneg _ | ((repeat' refine And.intro ?_ ?_) <;> first | omega | exact Int.natCast_nonneg _ | (simp only [i64max, u8max, u16max, u32max, u64max]; omega) | (simp only [mulSz_eq, Cont.len, colsLen, Col.len, List.length_cons, List.length_nil, List.length_replicate, List.length_append]; first | done | omega) | (simp [mulSz, Cont.len, bne]; first | done | omega)))); conv => whnf)
    | (refine tst_in ?_ ?_; (focus (intro h_; exfalso; first | omega | ((try simp only [decide_eq_true_eq, decide_eq_false_iff_not] at h_); omega) | (simp [mulSz, Cont.len, bne] at h_; first | done | omega))); intro _; conv => whnf)
    | (refine tst_in ?_ ?_; rotate_left; (focus (intro h_; exfalso; first | omega | ((try simp only [decide_eq_true_eq, decide_eq_false_iff_not] at h_); omega) | (simp [mulSz, Cont.len, bne] at h_; first | done | omega))); intro _; conv => whnf)
    | (refine ⟨0, (show _ = _ by omega), ?_⟩; conv => whnf))
  refine ⟨t, p2, ?_⟩
  conv => whnf
  repeat (first
    | (refine And.intro ?_ ?_; (focus (first | omega | decide | exact EqOk.mk (by kernel_rfl) (by kernel_rfl) (by kernel_rfl) | exact Int.natCast_nonneg _ | ((repeat' refine And.intro ?_ ?_) <;> first | omega | exact Int.natCast_nonneg _ | (simp only [i64max, u8max, u16max, u32max, u64max]; omega) | (simp only [mulSz_eq, Cont.len, colsLen, Col.len, List.length_cons, List.length_nil, List.length_replicate, List.length_append]; first | done | omega) | (simp [mulSz, Cont.len, bne]; first | done | omega)))); conv => whnf)
    | (refine tst_in ?_ ?_; (focus (intro h_; exfalso; first | omega | ((try simp only [decide_eq_true_eq, decide_eq_false_iff_not] at h_); omega) | (simp [mulSz, Cont.len, bne] at h_; first | done | omega))); intro _; conv => whnf)
    | (refine tst_in ?_ ?_; rotate_left; (focus (intro h_; exfalso; first | omega | ((try simp only [decide_eq_true_eq, decide_eq_false_iff_not] at h_); omega) | (simp [mulSz, Cont.len, bne] at h_; first | done | omega))); intro _; conv => whnf)
    | (refine ⟨0, (show _ = _ by omega), ?_⟩; conv => whnf))
  rcases hn with ⟨e1, rfl⟩ | ⟨e1, rfl⟩
  · refine tst_in (fun u => ?_) (fun u => absurd (e1.symm.trans u) (by decide))
    conv => whnf
    repeat (first
      | (refine And.intro ?_ ?_; (focus (first | omega | decide | exact EqOk.mk (by kernel_rfl) (by kernel_rfl) (by kernel_rfl) | exact Int.natCast_nonneg _ | ((repeat' refine And.intro ?_ ?_) <;> first | omega | exact Int.natCast_nonneg _ | (simp only [i64max, u8max, u16max, u32max, u64max]; omega) | (simp only [mulSz_eq, Cont.len, colsLen, Col.len, List.length_cons, List.length_nil, List.length_replicate, List.length_append]; first | done | omega) | (simp [mulSz, Cont.len, bne]; first | done | omega)))); conv => whnf)
      | (refine tst_in ?_ ?_; (focus (intro h_; exfalso; first | omega | ((try simp only [decide_eq_true_eq, decide_eq_false_iff_not] at h_); omega) | (simp [mulSz, Cont.len, bne] at h_; first | done | omega))); intro _; conv => whnf)
      | (refine tst_in ?_ ?_; rotate_left; (focus (intro h_; exfalso; first | omega | ((try simp only [decide_eq_true_eq, decide_eq_false_iff_not] at h_); omega) | (simp [mulSz, Cont.len, bne] at h_; first | done | omega))); intro _; conv => whnf)
      | (refine ⟨0, (show _ = _ by omega), ?_⟩; conv => whnf))
    refine ⟨r, s1, ?_⟩
    conv => whnf
    repeat (first
      | (refine And.intro ?_ ?_; (focus (first | omega | decide | exact EqOk.mk (by kernel_rfl) (by kernel_rfl) (by kernel_rfl) | exact Int.natCast_nonneg _ | ((repeat' refine And.intro ?_ ?_) <;> first | omega | exact Int.natCast_nonneg _ | (simp only [i64max, u8max, u16max, u32max, u64max]; omega) | (simp only [mulSz_eq, Cont.len, colsLen, Col.len, List.length_cons, List.length_nil, List.length_replicate, List.length_append]; first | done | omega) | (simp [mulSz, Cont.len, bne]; first | done | omega)))); conv => whnf)
      | (refine tst_in ?_ ?_; (focus (intro h_; exfalso; first | omega | ((try simp only [decide_eq_true_eq, decide_eq_false_iff_not] at h_); omega) | (simp [mulSz, Cont.len, bne] at h_; first | done | omega))); intro _; conv => whnf)
      | (refine tst_in ?_ ?_; rotate_left; (focus (intro h_; exfalso; first | omega | ((try simp only [decide_eq_true_eq, decide_eq_false_iff_not] at h_); omega) | (simp [mulSz, Cont.len, bne] at h_; first | done | omega))); intro _; conv => whnf)
      | (refine ⟨0, (show _ = _ by omega), ?_⟩; conv => whnf))
    cases g
    · refine tst_in (fun u => absurd (hg.symm.trans u) (by decide)) (fun u => ?_)
      conv => whnf
      repeat (first
        | (refine And.intro ?_ ?_; (focus (first | omega | decide | exact EqOk.mk (by kernel_rfl) (by kernel_rfl) (by kernel_rfl) | exact Int.natCast_nonneg _ | ((repeat' refine And.intro ?_ ?_) <;> first | omega | exact Int.natCast_nonneg _ | (simp only [i64max, u8max, u16max, u32max, u64max]; omega) | (simp only [mulSz_eq, Cont.len, colsLen, Col.len, List.length_cons, List.length_nil, List.length_replicate, List.length_append]; first | done | omega) | (simp [mulSz, Cont.len, bne]; first | done | omega)))); conv => whnf)
        | (refine tst_in ?_ ?_; (focus (intro h_; exfalso; first | omega | ((try simp only [decide_eq_true_eq, decide_eq_false_iff_not] at h_); omega) | (simp [mulSz, Cont.len, bne] at h_; first | done | omega))); intro _; conv => whnf)
        | (refine tst_in ?_ ?_; rotate_left; (focus (intro h_; exfalso; first | omega | ((try simp only [decide_eq_true_eq, decide_eq_false_iff_not] at h_); omega) | (simp [mulSz, Cont.len, bne] at h_; first | done | omega))); intro _; conv => whnf)
        | (refine ⟨0, (show _ = _ by omega), ?_⟩; conv => whnf))
      cases e
      · refine tst_in (fun u => absurd (he.symm.trans u) (by decide)) (fun u => ?_)
        conv => whnf
        repeat (first
          | (refine And.intro ?_ ?_; (focus (first | omega | decide | exact EqOk.mk (by kernel_rfl) (by kernel_rfl) (by kernel_rfl) | exact Int.natCast_nonneg _ | ((repeat' refine And.intro ?_ ?_) <;> first | omega | exact Int.natCast_nonneg _ | (simp only [i64max, u8max, u16max, u32max, u64max]; omega) | (simp only [mulSz_eq, Cont.len, colsLen, Col.len, List.length_cons, List.length_nil, List.length_replicate, List.length_append]; first | done | omega) | (simp [mulSz, Cont.len, bne]; first | done | omega)))); conv => whnf)
          | (refine tst_in ?_ ?_; (focus (intro h_; exfalso; first | omega | ((try simp only [decide_eq_true_eq, decide_eq_false_iff_not] at h_); omega) | (simp [mulSz, Cont.len, bne] at h_; first | done | omega))); intro _; conv => whnf)
          | (refine tst_in ?_ ?_; rotate_left; (focus (intro h_; exfalso; first | omega | ((try simp only [decide_eq_true_eq, decide_eq_false_iff_not] at h_); omega) | (simp [mulSz, Cont.len, bne] at h_; first | done | omega))); intro _; conv => whnf)
          | (refine ⟨0, (show _ = _ by omega), ?_⟩; conv => whnf))
        rw [if_neg (by simp)] at hN
        subst hN
        refine ⟨w, q1, ?_⟩
        conv => whnf
        repeat (first
          | (refine And.intro ?_ ?_; (focus (first | omega | decide | exact EqOk.mk (by kernel_rfl) (by kernel_rfl) (by kernel_rfl) | exact Int.natCast_nonneg _ | ((repeat' refine And.intro ?_ ?_) <;> first | omega | exact Int.natCast_nonneg _ | (simp only [i64max, u8max, u16max, u32max, u64max]; omega) | (simp only [mulSz_eq, Cont.len, colsLen, Col.len, List.length_cons, List.length_nil, List.length_replicate, List.length_append]; first | done | omega) | (simp [mulSz, Cont.len, bne]; first | done | omega)))); conv => whnf)
          | (refine tst_in ?_ ?_; (focus (intro h_; exfalso; first | omega | ((try simp only [decide_eq_true_eq, decide_eq_false_iff_not] at h_); omega) | (simp [mulSz, Cont.len, bne] at h_; first | done | omega))); intro _; conv => whnf)
          | (refine tst_in ?_ ?_; rotate_left; (focus (intro h_; exfalso; first | omega | ((try simp only [decide_eq_true_eq, decide_eq_false_iff_not] at h_); omega) | (simp [mulSz, Cont.len, bne] at h_; first | done | omega))); intro _; conv => whnf)
          | (refine ⟨0, (show _ = _ by omega), ?_⟩; conv => whnf))
        conv => whnf
        repeat' (first | exact True.intro | rfl | refine And.intro ?_ ?_)
        all_goals (conv => whnf)
        repeat' (first | exact True.intro | rfl | refine And.intro ?_ ?_)
        all_goals (try omega)
      · refine tst_in (fun u => ?_) (fun u => absurd (he.symm.trans u) (by decide))
        conv => whnf
        repeat (first
          | (refine And.intro ?_ ?_; (focus (first | omega | decide | exact EqOk.mk (by kernel_rfl) (by kernel_rfl) (by kernel_rfl) | exact Int.natCast_nonneg _ | ((repeat' refine And.intro ?_ ?_) <;> first | omega | exact Int.natCast_nonneg _ | (simp only [i64max, u8max, u16max, u32max, u64max]; omega) | (simp only [mulSz_eq, Cont.len, colsLen, Col.len, List.length_cons, List.length_nil, List.length_replicate, List.length_append]; first | done | omega) | (simp [mulSz, Cont.len, bne]; first | done | omega)))); conv => whnf)
          | (refine tst_in ?_ ?_; (focus (intro h_; exfalso; first | omega | ((try simp only [decide_eq_true_eq, decide_eq_false_iff_not] at h_); omega) | (simp [mulSz, Cont.len, bne] at h_; first | done | omega))); intro _; conv => whnf)
          | (refine tst_in ?_ ?_; rotate_left; (focus (intro h_; exfalso; first | omega | ((try simp only [decide_eq_true_eq, decide_eq_false_iff_not] at h_); omega) | (simp [mulSz, Cont.len, bne] at h_; first | done | omega))); intro _; conv => whnf)
          | (refine ⟨0, (show _ = _ by omega), ?_⟩; conv => whnf))
        refine tst_in (fun u => ?_) (fun u => ?_)
        · rw [Bool.not_eq_true', decide_eq_false_iff_not] at u
          rw [if_pos (.inr ⟨rfl, Classical.byContradiction fun q => u ((odd_mod _).2 q)⟩)] at hN
          subst hN
          conv => whnf
          repeat (first
            | (refine And.intro ?_ ?_; (focus (first | omega | decide | exact EqOk.mk (by kernel_rfl) (by kernel_rfl) (by kernel_rfl) | exact Int.natCast_nonneg _ | ((repeat' refine And.intro ?_ ?_) <;> first | omega | exact Int.natCast_nonneg _ | (simp only [i64max, u8max, u16max, u32max, u64max]; omega) | (simp only [mulSz_eq, Cont.len, colsLen, Col.len, List.length_cons, List.length_nil, List.length_replicate, List.length_append]; first | done | omega) | (simp [mulSz, Cont.len, bne]; first | done | omega)))); conv => whnf)
            | (refine tst_in ?_ ?_; (focus (intro h_; exfalso; first | omega | ((try simp only [decide_eq_true_eq, decide_eq_false_iff_not] at h_); omega) | (simp [mulSz, Cont.len, bne] at h_; first | done | omega))); intro _; conv => whnf)
            | (refine tst_in ?_ ?_; rotate_left; (focus (intro h_; exfalso; first | omega | ((try simp only [decide_eq_true_eq, decide_eq_false_iff_not] at h_); omega) | (simp [mulSz, Cont.len, bne] at h_; first | done | omega))); intro _; conv => whnf)
            | (refine ⟨0, (show _ = _ by omega), ?_⟩; conv => whnf))
          refine ⟨w, q1, ?_⟩
          conv => whnf
          repeat (first
            | (refine And.intro ?_ ?_; (focus (first | omega | decide | exact EqOk.mk (by kernel_rfl) (by kernel_rfl) (by kernel_rfl) | exact Int.natCast_nonneg _ | ((repeat' refine And.intro ?_ ?_) <;> first | omega | exact Int.natCast_nonneg _ | (simp only [i64max, u8max, u16max, u32max, u64max]; omega) | (simp only [mulSz_eq, Cont.len, colsLen, Col.len, List.length_cons, List.length_nil, List.length_replicate, List.length_append]; first | done | omega) | (simp [mulSz, Cont.len, bne]; first | done | omega)))); conv => whnf)
            | (refine tst_in ?_ ?_; (focus (intro h_; exfalso; first | omega | ((try simp only [decide_eq_true_eq, decide_eq_false_iff_not] at h_); omega) | (simp [mulSz, Cont.len, bne] at h_; first | done | omega))); intro _; conv => whnf)
            | (refine tst_in ?_ ?_; rotate_left; (focus (intro h_; exfalso; first | omega | ((try simp only [decide_eq_true_eq, decide_eq_false_iff_not] at h_); omega) | (simp [mulSz, Cont.len, bne] at h_; first | done | omega))); intro _; conv => whnf)
            | (refine ⟨0, (show _ = _ by omega), ?_⟩; conv => whnf))
          conv => whnf
          repeat' (first | exact True.intro | rfl | refine And.intro ?_ ?_)
          all_goals (conv => whnf)
          repeat' (first | exact True.intro | rfl | refine And.intro ?_ ?_)
          all_goals (try omega)
        · rw [Bool.not_eq_false', decide_eq_true_iff] at u
          rw [if_neg (fun q => q.elim (fun q => by cases q) (fun q => (odd_mod _).1 u q.2))] at hN
          subst hN
          conv => whnf
          repeat (first
            | (refine And.intro ?_ ?_; (focus (first | omega | decide | exact EqOk.mk (by kernel_rfl) (by kernel_rfl) (by kernel_rfl) | exact Int.natCast_nonneg _ | ((repeat' refine And.intro ?_ ?_) <;> first | omega | exact Int.natCast_nonneg _ | (simp only [i64max, u8max, u16max, u32max, u64max]; omega) | (simp only [mulSz_eq, Cont.len, colsLen, Col.len, List.length_cons, List.length_nil, List.length_replicate, List.length_append]; first | done | omega) | (simp [mulSz, Cont.len, bne]; first | done | omega)))); conv => whnf)
            | (refine tst_in ?_ ?_; (focus (intro h_; exfalso; first | omega | ((try simp only [decide_eq_true_eq, decide_eq_false_iff_not] at h_); omega) | (simp [mulSz, Cont.len, bne] at h_; first | done | omega))); intro _; conv => whnf)
            | (refine tst_in ?_ ?_; rotate_left; (focus (intro h_; exfalso; first | omega | ((try simp only [decide_eq_true_eq, decide_eq_false_iff_not] at h_); omega) | (simp [mulSz, Cont.len, bne] at h_; first | done | omega))); intro _; conv => whnf)
            | (refine ⟨0, (show _ = _ by omega), ?_⟩; conv => whnf))
          refine ⟨w, q1, ?_⟩
          conv => whnf
          repeat (first
            | (refine And.intro ?_ ?_; (focus (first | omega | decide | exact EqOk.mk (by kernel_rfl) (by kernel_rfl) (by kernel_rfl) | exact Int.natCast_nonneg _ | ((repeat' refine And.intro ?_ ?_) <;> first | omega | exact Int.natCast_nonneg _ | (simp only [i64max, u8max, u16max, u32max, u64max]; omega) | (simp only [mulSz_eq, Cont.len, colsLen, Col.len, List.length_cons, List.length_nil, List.length_replicate, List.length_append]; first | done | omega) | (simp [mulSz, Cont.len, bne]; first | done | omega)))); conv => whnf)
            | (refine tst_in ?_ ?_; (focus (intro h_; exfalso; first | omega | ((try simp only [decide_eq_true_eq, decide_eq_false_iff_not] at h_); omega) | (simp [mulSz, Cont.len, bne] at h_; first | done | omega))); intro _; conv => whnf)
            | (refine tst_in ?_ ?_; rotate_left; (focus (intro h_; exfalso; first | omega | ((try simp only [decide_eq_true_eq, decide_eq_false_iff_not] at h_); omega) | (simp [mulSz, Cont.len, bne] at h_; first | done | omega))); intro _; conv => whnf)
            | (refine ⟨0, (show _ = _ by omega), ?_⟩; conv => whnf))
          conv => whnf
          repeat' (first | exact True.intro | rfl | refine And.intro ?_ ?_)
          all_goals (conv => whnf)
          repeat' (first | exact True.intro | rfl | refine And.intro ?_ ?_)
          all_goals (try omega)
    · refine tst_in (fun u => ?_) (fun u => absurd (hg.symm.trans u) (by decide))
      conv => whnf
      repeat (first
        | (refine And.intro ?_ ?_; (focus (first | omega | decide | exact EqOk.mk (by kernel_rfl) (by kernel_rfl) (by kernel_rfl) | exact Int.natCast_nonneg _ | ((repeat' refine And.intro ?_ ?_) <;> first | omega | exact Int.natCast_nonneg _ | (simp only [i64max, u8max, u16max, u32max, u64max]; omega) | (simp only [mulSz_eq, Cont.len, colsLen, Col.len, List.length_cons, List.length_nil, List.length_replicate, List.length_append]; first | done | omega) | (simp [mulSz, Cont.len, bne]; first | done | omega)))); conv => whnf)
        | (refine tst_in ?_ ?_; (focus (intro h_; exfalso; first | omega | ((try simp only [decide_eq_true_eq, decide_eq_false_iff_not] at h_); omega) | (simp [mulSz, Cont.len, bne] at h_; first | done | omega))); intro _; conv => whnf)
        | (refine tst_in ?_ ?_; rotate_left; (focus (intro h_; exfalso; first | omega | ((try simp only [decide_eq_true_eq, decide_eq_false_iff_not] at h_); omega) | (simp [mulSz, Cont.len, bne] at h_; first | done | omega))); intro _; conv => whnf)
        | (refine ⟨0, (show _ = _ by omega), ?_⟩; conv => whnf))
      rw [if_pos (.inl rfl)] at hN
      subst hN
      refine ⟨w, q1, ?_⟩
      conv => whnf
      repeat (first
        | (refine And.intro ?_ ?_; (focus (first | omega | decide | exact EqOk.mk (by kernel_rfl) (by kernel_rfl) (by kernel_rfl) | exact Int.natCast_nonneg _ | ((repeat' refine And.intro ?_ ?_) <;> first | omega | exact Int.natCast_nonneg _ | (simp only [i64max, u8max, u16max, u32max, u64max]; omega) | (simp only [mulSz_eq, Cont.len, colsLen, Col.len, List.length_cons, List.length_nil, List.length_replicate, List.length_append]; first | done | omega) | (simp [mulSz, Cont.len, bne]; first | done | omega)))); conv => whnf)
        | (refine tst_in ?_ ?_; (focus (intro h_; exfalso; first | omega | ((try simp only [decide_eq_true_eq, decide_eq_false_iff_not] at h_); omega) | (simp [mulSz, Cont.len, bne] at h_; first | done | omega))); intro _; conv => whnf)
        | (refine tst_in ?_ ?_; rotate_left; (focus (intro h_; exfalso; first | omega | ((try simp only [decide_eq_true_eq, decide_eq_false_iff_not] at h_); omega) | (simp [mulSz, Cont.len, bne] at h_; first | done | omega))); intro _; conv => whnf)
        | (refine ⟨0, (show _ = _ by omega), ?_⟩; conv => whnf))
      conv => whnf
      repeat' (first | exact True.intro | rfl | refine And.intro ?_ ?_)
      all_goals (conv => whnf)
      repeat' (first | exact True.intro | rfl | refine And.intro ?_ ?_)
      all_goals (try omega)
  · refine tst_in (fun u => absurd (e1.symm.trans u) (by decide)) (fun u => ?_)
    conv => whnf
    repeat (first
      | (refine And.intro ?_ ?_; (focus (first | omega | decide | exact EqOk.mk (by kernel_rfl) (by kernel_rfl) (by kernel_rfl) | exact Int.natCast_nonneg _ | ((repeat' refine And.intro ?_ ?_) <;> first | omega | exact Int.natCast_nonneg _ | (simp only [i64max, u8max, u16max, u32max, u64max]; omega) | (simp only [mulSz_eq, Cont.len, colsLen, Col.len, List.length_cons, List.length_nil, List.length_replicate, List.length_append]; first | done | omega) | (simp [mulSz, Cont.len, bne]; first | done | omega)))); conv => whnf)
      | (refine tst_in ?_ ?_; (focus (intro h_; exfalso; first | omega | ((try simp only [decide_eq_true_eq, decide_eq_false_iff_not] at h_); omega) | (simp [mulSz, Cont.len, bne] at h_; first | done | omega))); intro _; conv => whnf)
      | (refine tst_in ?_ ?_; rotate_left; (focus (intro h_; exfalso; first | omega | ((try simp only [decide_eq_true_eq, decide_eq_false_iff_not] at h_); omega) | (simp [mulSz, Cont.len, bne] at h_; first | done | omega))); intro _; conv => whnf)
      | (refine ⟨0, (show _ = _ by omega), ?_⟩; conv => whnf))
    refine ⟨r, s1, ?_⟩
    conv => whnf
    repeat (first
      | (refine And.intro ?_ ?_; (focus (first | omega | decide | exact EqOk.mk (by kernel_rfl) (by kernel_rfl) (by kernel_rfl) | exact Int.natCast_nonneg _ | ((repeat' refine And.intro ?_ ?_) <;> first | omega | exact Int.natCast_nonneg _ | (simp only [i64max, u8max, u16max, u32max, u64max]; omega) | (simp only [mulSz_eq, Cont.len, colsLen, Col.len, List.length_cons, List.length_nil, List.length_replicate, List.length_append]; first | done | omega) | (simp [mulSz, Cont.len, bne]; first | done | omega)))); conv => whnf)
      | (refine tst_in ?_ ?_; (focus (intro h_; exfalso; first | omega | ((try simp only [decide_eq_true_eq, decide_eq_false_iff_not] at h_); omega) | (simp [mulSz, Cont.len, bne] at h_; first | done | omega))); intro _; conv => whnf)
      | (refine tst_in ?_ ?_; rotate_left; (focus (intro h_; exfalso; first | omega | ((try simp only [decide_eq_true_eq, decide_eq_false_iff_not] at h_); omega) | (simp [mulSz, Cont.len, bne] at h_; first | done | omega))); intro _; conv => whnf)
      | (refine ⟨0, (show _ = _ by omega), ?_⟩; conv => whnf))
    cases g
    · refine tst_in (fun u => absurd (hg.symm.trans u) (by decide)) (fun u => ?_)
      conv => whnf
      repeat (first
        | (refine And.intro ?_ ?_; (focus (first | omega | decide | exact EqOk.mk (by kernel_rfl) (by kernel_rfl) (by kernel_rfl) | exact Int.natCast_nonneg _ | ((repeat' refine And.intro ?_ ?_) <;> first | omega | exact Int.natCast_nonneg _ | (simp only [i64max, u8max, u16max, u32max, u64max]; omega) | (simp only [mulSz_eq, Cont.len, colsLen, Col.len, List.length_cons, List.length_nil, List.length_replicate, List.length_append]; first | done | omega) | (simp [mulSz, Cont.len, bne]; first | done | omega)))); conv => whnf)
        | (refine tst_in ?_ ?_; (focus (intro h_; exfalso; first | omega | ((try simp only [decide_eq_true_eq, decide_eq_false_iff_not] at h_); omega) | (simp [mulSz, Cont.len, bne] at h_; first | done | omega))); intro _; conv => whnf)
        | (refine tst_in ?_ ?_; rotate_left; (focus (intro h_; exfalso; first | omega | ((try simp only [decide_eq_true_eq, decide_eq_false_iff_not] at h_); omega) | (simp [mulSz, Cont.len, bne] at h_; first | done | omega))); intro _; conv => whnf)
        | (refine ⟨0, (show _ = _ by omega), ?_⟩; conv => whnf))
      cases e
      · refine tst_in (fun u => absurd (he.symm.trans u) (by decide)) (fun u => ?_)
        conv => whnf
        repeat (first
          | (refine And.intro ?_ ?_; (focus (first | omega | decide | exact EqOk.mk (by kernel_rfl) (by kernel_rfl) (by kernel_rfl) | exact Int.natCast_nonneg _ | ((repeat' refine And.intro ?_ ?_) <;> first | omega | exact Int.natCast_nonneg _ | (simp only [i64max, u8max, u16max, u32max, u64max]; omega) | (simp only [mulSz_eq, Cont.len, colsLen, Col.len, List.length_cons, List.length_nil, List.length_replicate, List.length_append]; first | done | omega) | (simp [mulSz, Cont.len, bne]; first | done | omega)))); conv => whnf)
          | (refine tst_in ?_ ?_; (focus (intro h_; exfalso; first | omega | ((try simp only [decide_eq_true_eq, decide_eq_false_iff_not] at h_); omega) | (simp [mulSz, Cont.len, bne] at h_; first | done | omega))); intro _; conv => whnf)
          | (refine tst_in ?_ ?_; rotate_left; (focus (intro h_; exfalso; first | omega | ((try simp only [decide_eq_true_eq, decide_eq_false_iff_not] at h_); omega) | (simp [mulSz, Cont.len, bne] at h_; first | done | omega))); intro _; conv => whnf)
          | (refine ⟨0, (show _ = _ by omega), ?_⟩; conv => whnf))
        rw [if_neg (by simp)] at hN
        subst hN
        refine ⟨w, q1, ?_⟩
        conv => whnf
        repeat (first
          | (refine And.intro ?_ ?_; (focus (first | omega | decide | exact EqOk.mk (by kernel_rfl) (by kernel_rfl) (by kernel_rfl) | exact Int.natCast_nonneg _ | ((repeat' refine And.intro ?_ ?_) <;> first | omega | exact Int.natCast_nonneg _ | (simp only [i64max, u8max, u16max, u32max, u64max]; omega) | (simp only [mulSz_eq, Cont.len, colsLen, Col.len, List.length_cons, List.length_nil, List.length_replicate, List.length_append]; first | done | omega) | (simp [mulSz, Cont.len, bne]; first | done | omega)))); conv => whnf)
          | (refine tst_in ?_ ?_; (focus (intro h_; exfalso; first | omega | ((try simp only [decide_eq_true_eq, decide_eq_false_iff_not] at h_); omega) | (simp [mulSz, Cont.len, bne] at h_; first | done | omega))); intro _; conv => whnf)
          | (refine tst_in ?_ ?_; rotate_left; (focus (intro h_; exfalso; first | omega | ((try simp only [decide_eq_true_eq, decide_eq_false_iff_not] at h_); omega) | (simp [mulSz, Cont.len, bne] at h_; first | done | omega))); intro _; conv => whnf)
          | (refine ⟨0, (show _ = _ by omega), ?_⟩; conv => whnf))
        conv => whnf
        repeat' (first | exact True.intro | rfl | refine And.intro ?_ ?_)
        all_goals (conv => whnf)
        repeat' (first | exact True.intro | rfl | refine And.intro ?_ ?_)
        all_goals (try omega)
      · refine tst_in (fun u => ?_) (fun u => absurd (he.symm.trans u) (by decide))
        conv => whnf
        repeat (first
          | (refine And.intro ?_ ?_; (focus (first | omega | decide | exact EqOk.mk (by kernel_rfl) (by kernel_rfl) (by kernel_rfl) | exact Int.natCast_nonneg _ | ((repeat' refine And.intro ?_ ?_) <;> first | omega | exact Int.natCast_nonneg _ | (simp only [i64max, u8max, u16max, u32max, u64max]; omega) | (simp only [mulSz_eq, Cont.len, colsLen, Col.len, List.length_cons, List.length_nil, List.length_replicate, List.length_append]; first | done | omega) | (simp [mulSz, Cont.len, bne]; first | done | omega)))); conv => whnf)
          | (refine tst_in ?_ ?_; (focus (intro h_; exfalso; first | omega | ((try simp only [decide_eq_true_eq, decide_eq_false_iff_not] at h_); omega) | (simp [mulSz, Cont.len, bne] at h_; first | done | omega))); intro _; conv => whnf)
          | (refine tst_in ?_ ?_; rotate_left; (focus (intro h_; exfalso; first | omega | ((try simp only [decide_eq_true_eq, decide_eq_false_iff_not] at h_); omega) | (simp [mulSz, Cont.len, bne] at h_; first | done | omega))); intro _; conv => whnf)
          | (refine ⟨0, (show _ = _ by omega), ?_⟩; conv => whnf))
        refine tst_in (fun u => ?_) (fun u => ?_)
        · rw [Bool.not_eq_true', decide_eq_false_iff_not] at u
          rw [if_pos (.inr ⟨rfl, Classical.byContradiction fun q => u ((odd_mod _).2 q)⟩)] at hN
          subst hN
          conv => whnf
          repeat (first
            | (refine And.intro ?_ ?_; (focus (first | omega | decide | exact EqOk.mk (by kernel_rfl) (by kernel_rfl) (by kernel_rfl) | exact Int.natCast_nonneg _ | ((repeat' refine And.intro ?_ ?_) <;> first | omega | exact Int.natCast_nonneg _ | (simp only [i64max, u8max, u16max, u32max, u64max]; omega) | (simp only [mulSz_eq, Cont.len, colsLen, Col.len, List.length_cons, List.length_nil, List.length_replicate, List.length_append]; first | done | omega) | (simp [mulSz, Cont.len, bne]; first | done | omega)))); conv => whnf)
            | (refine tst_in ?_ ?_; (focus (intro h_; exfalso; first | omega | ((try simp only [decide_eq_true_eq, decide_eq_false_iff_not] at h_); omega) | (simp [mulSz, Cont.len, bne] at h_; first | done | omega))); intro _; conv => whnf)
            | (refine tst_in ?_ ?_; rotate_left; (focus (intro h_; exfalso; first | omega | ((try simp only [decide_eq_true_eq, decide_eq_false_iff_not] at h_); omega) | (simp [mulSz, Cont.len, bne] at h_; first | done | omega))); intro _; conv => whnf)
            | (refine ⟨0, (show _ = _ by omega), ?_⟩; conv => whnf))
          refine ⟨w, q1, ?_⟩
          conv => whnf
          repeat (first
            | (refine And.intro ?_ ?_; (focus (first | omega | decide | exact EqOk.mk (by kernel_rfl) (by kernel_rfl) (by kernel_rfl) | exact Int.natCast_nonneg _ | ((repeat' refine And.intro ?_ ?_) <;> first | omega | exact Int.natCast_nonneg _ | (simp only [i64max, u8max, u16max, u32max, u64max]; omega) | (simp only [mulSz_eq, Cont.len, colsLen, Col.len, List.length_cons, List.length_nil, List.length_replicate, List.length_append]; first | done | omega) | (simp [mulSz, Cont.len, bne]; first | done | omega)))); conv => whnf)
            | (refine tst_in ?_ ?_; (focus (intro h_; exfalso; first | omega | ((try simp only [decide_eq_true_eq, decide_eq_false_iff_not] at h_); omega) | (simp [mulSz, Cont.len, bne] at h_; first | done | omega))); intro _; conv => whnf)
            | (refine tst_in ?_ ?_; rotate_left; (focus (intro h_; exfalso; first | omega | ((try simp only [decide_eq_true_eq, decide_eq_false_iff_not] at h_); omega) | (simp [mulSz, Cont.len, bne] at h_; first | done | omega))); intro _; conv => whnf)
            | (refine ⟨0, (show _ = _ by omega), ?_⟩; conv => whnf))
          conv => whnf
          repeat' (first | exact True.intro | rfl | refine And.intro ?_ ?_)
          all_goals (conv => whnf)
          repeat' (first | exact True.intro | rfl | refine And.intro ?_ ?_)
          all_goals (try omega)
        · rw [Bool.not_eq_false', decide_eq_true_iff] at u
          rw [if_neg (fun q => q.elim (fun q => by cases q) (fun q => (odd_mod _).1 u q.2))] at hN
          subst hN
          conv => whnf
          repeat (first
            | (refine And.intro ?_ ?_; (focus (first | omega | decide | exact EqOk.mk (by kernel_rfl) (by kernel_rfl) (by kernel_rfl) | exact Int.natCast_nonneg _ | ((repeat' refine And.intro ?_ ?_) <;> first | omega | exact Int.natCast_nonneg _ | (simp only [i64max, u8max, u16max, u32max, u64max]; omega) | (simp only [mulSz_eq, Cont.len, colsLen, Col.len, List.length_cons, List.length_nil, List.length_replicate, List.length_append]; first | done | omega) | (simp [mulSz, Cont.len, bne]; first | done | omega)))); conv => whnf)
            | (refine tst_in ?_ ?_; (focus (intro h_; exfalso; first | omega | ((try simp only [decide_eq_true_eq, decide_eq_false_iff_not] at h_); omega) | (simp [mulSz, Cont.len, bne] at h_; first | done | omega))); intro _; conv => whnf)
            | (refine tst_in ?_ ?_; rotate_left; (focus (intro h_; exfalso; first | omega | ((try simp only [decide_eq_true_eq, decide_eq_false_iff_not] at h_); omega) | (simp [mulSz, Cont.len, bne] at h_; first | done | omega))); intro _; conv => whnf)
            | (refine ⟨0, (show _ = _ by omega), ?_⟩; conv => whnf))
          refine ⟨w, q1, ?_⟩
          conv => whnf
          repeat (first
            | (refine And.intro ?_ ?_; (focus (first | omega | decide | exact EqOk.mk (by kernel_rfl) (by kernel_rfl) (by kernel_rfl) | exact Int.natCast_nonneg _ | ((repeat' refine And.intro ?_ ?_) <;> first | omega | exact Int.natCast_nonneg _ | (simp only [i64max, u8max, u16max, u32max, u64max]; omega) | (simp only [mulSz_eq, Cont.len, colsLen, Col.len, List.length_cons, List.length_nil, List.length_replicate, List.length_append]; first | done | omega) | (simp [mulSz, Cont.len, bne]; first | done | omega)))); conv => whnf)
            | (refine tst_in ?_ ?_; (focus (intro h_; exfalso; first | omega | ((try simp only [decide_eq_true_eq, decide_eq_false_iff_not] at h_); omega) | (simp [mulSz, Cont.len, bne] at h_; first | done | omega))); intro _; conv => whnf)
            | (refine tst_in ?_ ?_; rotate_left; (focus (intro h_; exfalso; first | omega | ((try simp only [decide_eq_true_eq, decide_eq_false_iff_not] at h_); omega) | (simp [mulSz, Cont.len, bne] at h_; first | done | omega))); intro _; conv => whnf)
            | (refine ⟨0, (show _ = _ by omega), ?_⟩; conv => whnf))
          conv => whnf
          repeat' (first | exact True.intro | rfl | refine And.intro ?_ ?_)
          all_goals (conv => whnf)
          repeat' (first | exact True.intro | rfl | refine And.intro ?_ ?_)
          all_goals (try omega)
    · refine tst_in (fun u => ?_) (fun u => absurd (hg.symm.trans u) (by decide))
      conv => whnf
      repeat (first
        | (refine And.intro ?_ ?_; (focus (first | omega | decide | exact EqOk.mk (by kernel_rfl) (by kernel_rfl) (by kernel_rfl) | exact Int.natCast_nonneg _ | ((repeat' refine And.intro ?_ ?_) <;> first | omega | exact Int.natCast_nonneg _ | (simp only [i64max, u8max, u16max, u32max, u64max]; omega) | (simp only [mulSz_eq, Cont.len, colsLen, Col.len, List.length_cons, List.length_nil, List.length_replicate, List.length_append]; first | done | omega) | (simp [mulSz, Cont.len, bne]; first | done | omega)))); conv => whnf)
        | (refine tst_in ?_ ?_; (focus (intro h_; exfalso; first | omega | ((try simp only [decide_eq_true_eq, decide_eq_false_iff_not] at h_); omega) | (simp [mulSz, Cont.len, bne] at h_; first | done | omega))); intro _; conv => whnf)
        | (refine tst_in ?_ ?_; rotate_left; (focus (intro h_; exfalso; first | omega | ((try simp only [decide_eq_true_eq, decide_eq_false_iff_not] at h_); omega) | (simp [mulSz, Cont.len, bne] at h_; first | done | omega))); intro _; conv => whnf)
        | (refine ⟨0, (show _ = _ by omega), ?_⟩; conv => whnf))
      rw [if_pos (.inl rfl)] at hN
      subst hN
      refine ⟨w, q1, ?_⟩
      conv => whnf
      repeat (first
        | (refine And.intro ?_ ?_; (focus (first | omega | decide | exact EqOk.mk (by kernel_rfl) (by kernel_rfl) (by kernel_rfl) | exact Int.natCast_nonneg _ | ((repeat' refine And.intro ?_ ?_) <;> first | omega | exact Int.natCast_nonneg _ | (simp only [i64max, u8max, u16max, u32max, u64max]; omega) | (simp only [mulSz_eq, Cont.len, colsLen, Col.len, List.length_cons, List.length_nil, List.length_replicate, List.length_append]; first | done | omega) | (simp [mulSz, Cont.len, bne]; first | done | omega)))); conv => whnf)
        | (refine tst_in ?_ ?_; (focus (intro h_; exfalso; first | omega | ((try simp only [decide_eq_true_eq, decide_eq_false_iff_not] at h_); omega) | (simp [mulSz, Cont.len, bne] at h_; first | done | omega))); intro _; conv => whnf)
        | (refine tst_in ?_ ?_; rotate_left; (focus (intro h_; exfalso; first | omega | ((try simp only [decide_eq_true_eq, decide_eq_false_iff_not] at h_); omega) | (simp [mulSz, Cont.len, bne] at h_; first | done | omega))); intro _; conv => whnf)
        | (refine ⟨0, (show _ = _ by omega), ?_⟩; conv => whnf))
      conv => whnf
      repeat' (first | exact True.intro | rfl | refine And.intro ?_ ?_)
      all_goals (conv => whnf)
      repeat' (first | exact True.intro | rfl | refine And.intro ?_ ?_)
      all_goals (try omega)
theorem rStep_in {b y : Nat} {X t : Int} (h : InT b X) (p : PkT b X y t) : ∃ r, V 6 r (nrst (X * 64)) ∧ QFits Try.prog 13 ⟨[.flt .f64 b], [], .tup [.flt .f64 r, .int .i64 0]⟩ := by
  have hTF := tdiv_floor p.tt
  have l1 := p.lo
  have l2 := p.hi
  have n1 := p.nr.1
  have n2 := p.nr.2
  obtain ⟨w, w1, w2⟩ := div64 (V_ofInt (nrst (X * 64)) (by omega) (by omega)) (by omega) (by omega)
  refine ⟨w, w2, ?_⟩
  have hT := V0_U (V_ofInt t (by omega) (by omega))
  have key : ∀ n : Int, -67108866 ≤ n → n ≤ 67108866 → n * U ≤ X * 64 → X * 64 < (n + 1) * U → (((D.order (floatOfInt .f64 t) y == some .gt) = true ∧ n = t - 1) ∨ ((D.order (floatOfInt .f64 t) y == some .gt) = false ∧ n = t)) → QFits Try.prog 13 ⟨[.flt .f64 b], [], .tup [.flt .f64 w, .int .i64 0]⟩ := by
    intro n m1 m2 f1 f2 hn
    obtain ⟨r, Z, s1, s2, s3⟩ := rest_in p.v f1 f2 (by omega) (by omega) p.big
    have hN := nrst_floor f1 f2
    have hN2 : nrst (X * 64) = if decide (H < Z) = true ∨ (decide (Z = H) = true ∧ n % 2 = 1) then n + 1 else n := by
      rw [hN]
      have s4 : (decide (H < Z) = true ∨ (decide (Z = H) = true ∧ n % 2 = 1)) ↔ (H < X * 64 - n * U ∨ (X * 64 - n * U = H ∧ n % 2 = 1)) := by rw [decide_eq_true_iff, decide_eq_true_iff]; exact s3
      by_cases c : H < X * 64 - n * U ∨ (X * 64 - n * U = H ∧ n % 2 = 1)
      · rw [if_pos c, if_pos (s4.2 c)]
      · rw [if_neg c, if_neg (fun q => c (s4.1 q))]
    exact rStep_w h.ge h.le p.mul p.c64 p.lo p.hi hn s1 (V_gtb s2 V_cH) (V_eqb s2 V_cH) hN2 w1
  rcases Int.lt_or_le (X * 64) (t * U) with q | q
  · obtain ⟨f1, f2⟩ := hTF.1 q
    exact key (t - 1) (by omega) (by omega) f1 f2 (.inl ⟨by rw [V_gtb hT p.v]; exact decide_eq_true q, rfl⟩)
  · exact key t (by omega) (by omega) q (hTF.2 q) (.inr ⟨by rw [V_gtb hT p.v]; exact decide_eq_false (by omega), rfl⟩)
structure SB (b : Nat) (a c : Nat) (e : Int) : Prop where
  rq : QFits Try.prog 13 ⟨[.flt .f64 b], [], .tup [.flt .f64 a, .int .i64 e]⟩
  pq : QFits Try.prog 15 ⟨[.flt .f64 b], [], .tup [.flt .f64 c, .int .i64 e]⟩
  ca : (D.order a c == some .eq) = true
theorem SB_ex {b : Nat} (hb : b < 18446744073709551616) : ∃ a c e, SB b a c e := by
  rcases in_orT b with ⟨X, h⟩ | h
  · obtain ⟨y, t, p⟩ := h.pk
    obtain ⟨a, a1, a2⟩ := rStep_in h p
    obtain ⟨c, c1, c2⟩ := Step_in hb h p
    exact ⟨a, c, 0, a2, c2, by rw [V_eqb a1 c1, decide_eq_true rfl]⟩
  · exact ⟨0, 0, 1, rStep_out h, Step_out hb h, by decide⟩
end Go.Proofs.Ytmebbdfpkgkjgaa

set_option linter.unusedVariables false
set_option linter.unusedSimpArgs false
namespace Go.Proofs.Ytmebbdfpkgkjgaa
open Go Go.Fw
def qy : Nat → Bool := fun _ => false
def cfgy (k : Nat) : Cfg := { T := tyL, sgn := fun _ => true, wr := fun _ => false, k := k, q := qy }
noncomputable def k10 : Code := (Try.f10.body).getD .skip
def st7 (A B : List Int) (o n ca p cb k : Nat) : St := ⟨slotsAt 26 [(0, .slice 0 o n ca), (1, .slice 1 p n cb), (5, .int .i64 k)], [.seg false (.ints .i8 A), .seg false (.ints .i8 B)]⟩
def inv7 (A B : List Int) (o n ca p cb : Nat) : LInv := ⟨Nat, fun k => st7 A B o n ca p cb k, fun k => k ≤ n, fun k => n - k⟩
set_option maxHeartbeats 0 in
set_option maxRecDepth 100000 in
theorem signs_q (A B : List Int) (o n ca p cb : Nat) (hA : o + n ≤ A.length) (hB : p + n ≤ B.length) (hN : n ≤ 4611686018427387904) (hE : ∀ i, i < n → A.getD (o + i) 0 = B.getD (p + i) 0) :
    QFits Try.prog 10 ⟨[.slice 0 o n ca, .slice 1 p n cb], [.seg false (.ints .i8 A), .seg false (.ints .i8 B)], .bool true⟩ := by
  refine qfits_of_body (C := cfgy 2) (c := k10) (ts := [4]) tokL mixedL (fun | 4 => some (inv7 A B o n ca p cb) | _ => none) (fun _ => none)
    Try.func10 (by kernel_rfl) (by kernel_rfl) (by kernel_rfl) (by kernel_rfl) (by kernel_rfl) rfl rfl ?_
  conv => whnf
  repeat (first
    | (refine And.intro ?_ ?_; (focus (first | omega | decide | exact EqOk.mk (by kernel_rfl) (by kernel_rfl) (by kernel_rfl) | exact Int.natCast_nonneg _ | ((repeat' refine And.intro ?_ ?_) <;> first | omega | exact Int.natCast_nonneg _ | (simp only [i64max, u8max, u16max, u32max, u64max]; omega) | (simp only [mulSz_eq, Cont.len, colsLen, Col.len, List.length_cons, List.length_nil, List.length_replicate, List.length_append]; first | done | omega) | (simp [mulSz, Cont.len, bne]; first | done | omega)))); conv => whnf)
    | (refine tst_in ?_ ?_; (focus (intro h_; exfalso; first | omega | ((try simp only [decide_eq_true_eq, decide_eq_false_iff_not] at h_); omega) | (simp [mulSz, Cont.len, bne] at h_; first | done | omega))); intro _; conv => whnf)
    | (refine tst_in ?_ ?_; rotate_left; (focus (intro h_; exfalso; first | omega | ((try simp only [decide_eq_true_eq, decide_eq_false_iff_not] at h_); omega) | (simp [mulSz, Cont.len, bne] at h_; first | done | omega))); intro _; conv => whnf)
    | (refine ⟨0, (show _ = _ by omega), ?_⟩; conv => whnf))
  refine ⟨⟨[0, 1], (0 : Nat), ?_, Nat.zero_le _⟩, ?_⟩
  · conv => whnf
    repeat' (first | exact True.intro | rfl | refine And.intro ?_ ?_)
    all_goals (conv => whnf)
    repeat' (first | exact True.intro | rfl | refine And.intro ?_ ?_)
    all_goals (try (first | omega | exact True.intro | rfl | assumption | (change LE.le (α := Nat) _ _; omega) | (simp; first | done | omega)))
  · intro (k : Nat) (hk : k ≤ n)
    show forceSt (st7 A B o n ca p cb k) _
    conv => whnf
    refine tst_in (fun hlt => ?_) (fun hge => ?_)
    · skip
      have hlt : k < n := by simp at hlt; omega
      have hX : o + ((k : Int)).toNat = o + k := by omega
      have hY : p + ((k : Int)).toNat = p + k := by omega
      have hv := hE k hlt
      conv => whnf
      repeat (first
        | (refine And.intro ?_ ?_; (focus (first | omega | decide | exact EqOk.mk (by kernel_rfl) (by kernel_rfl) (by kernel_rfl) | exact Int.natCast_nonneg _ | ((repeat' refine And.intro ?_ ?_) <;> first | omega | exact Int.natCast_nonneg _ | (simp only [i64max, u8max, u16max, u32max, u64max]; omega) | (simp only [mulSz_eq, Cont.len, colsLen, Col.len, List.length_cons, List.length_nil, List.length_replicate, List.length_append]; first | done | omega) | (simp [mulSz, Cont.len, bne]; first | done | omega)))); conv => whnf)
        | (refine tst_in ?_ ?_; (focus (intro h_; exfalso; first | omega | ((try simp only [decide_eq_true_eq, decide_eq_false_iff_not] at h_); omega) | (simp [mulSz, Cont.len, bne] at h_; first | done | omega))); intro _; conv => whnf)
        | (refine tst_in ?_ ?_; rotate_left; (focus (intro h_; exfalso; first | omega | ((try simp only [decide_eq_true_eq, decide_eq_false_iff_not] at h_); omega) | (simp [mulSz, Cont.len, bne] at h_; first | done | omega))); intro _; conv => whnf)
        | (refine ⟨0, (show _ = _ by omega), ?_⟩; conv => whnf))
      rw [hX, hY, hv]
      conv => whnf
      repeat (first
        | (refine And.intro ?_ ?_; (focus (first | omega | decide | exact EqOk.mk (by kernel_rfl) (by kernel_rfl) (by kernel_rfl) | exact Int.natCast_nonneg _ | ((repeat' refine And.intro ?_ ?_) <;> first | omega | exact Int.natCast_nonneg _ | (simp only [i64max, u8max, u16max, u32max, u64max]; omega) | (simp only [mulSz_eq, Cont.len, colsLen, Col.len, List.length_cons, List.length_nil, List.length_replicate, List.length_append]; first | done | omega) | (simp [mulSz, Cont.len, bne]; first | done | omega)))); conv => whnf)
        | (refine tst_in ?_ ?_; (focus (intro h_; exfalso; first | omega | ((try simp only [decide_eq_true_eq, decide_eq_false_iff_not] at h_); omega) | (simp [mulSz, Cont.len, bne] at h_; first | done | omega))); intro _; conv => whnf)
        | (refine tst_in ?_ ?_; rotate_left; (focus (intro h_; exfalso; first | omega | ((try simp only [decide_eq_true_eq, decide_eq_false_iff_not] at h_); omega) | (simp [mulSz, Cont.len, bne] at h_; first | done | omega))); intro _; conv => whnf)
        | (refine ⟨0, (show _ = _ by omega), ?_⟩; conv => whnf))
      refine ⟨[0, 1], k + 1, ?_, (by show k + 1 ≤ n; omega), (by show n - (k + 1) < n - k; omega)⟩
      conv => whnf
      repeat' (first | exact True.intro | rfl | refine And.intro ?_ ?_)
      all_goals (conv => whnf)
      repeat' (first | exact True.intro | rfl | refine And.intro ?_ ?_)
      all_goals (try (first | omega | exact True.intro | rfl | assumption | (change LE.le (α := Nat) _ _; omega) | (simp; first | done | omega)))
    · skip
      have hge : k = n := by simp at hge; omega
      conv => whnf
      repeat (first
        | (refine And.intro ?_ ?_; (focus (first | omega | decide | exact EqOk.mk (by kernel_rfl) (by kernel_rfl) (by kernel_rfl) | exact Int.natCast_nonneg _ | ((repeat' refine And.intro ?_ ?_) <;> first | omega | exact Int.natCast_nonneg _ | (simp only [i64max, u8max, u16max, u32max, u64max]; omega) | (simp only [mulSz_eq, Cont.len, colsLen, Col.len, List.length_cons, List.length_nil, List.length_replicate, List.length_append]; first | done | omega) | (simp [mulSz, Cont.len, bne]; first | done | omega)))); conv => whnf)
        | (refine tst_in ?_ ?_; (focus (intro h_; exfalso; first | omega | ((try simp only [decide_eq_true_eq, decide_eq_false_iff_not] at h_); omega) | (simp [mulSz, Cont.len, bne] at h_; first | done | omega))); intro _; conv => whnf)
        | (refine tst_in ?_ ?_; rotate_left; (focus (intro h_; exfalso; first | omega | ((try simp only [decide_eq_true_eq, decide_eq_false_iff_not] at h_); omega) | (simp [mulSz, Cont.len, bne] at h_; first | done | omega))); intro _; conv => whnf)
        | (refine ⟨0, (show _ = _ by omega), ?_⟩; conv => whnf))
set_option maxHeartbeats 0 in
set_option maxRecDepth 100000 in
theorem signs_n : QFits Try.prog 10 ⟨[.nils, .nils], [], .bool true⟩ := by
  refine qfits_of_body (C := cfgy 0) (c := k10) (ts := [4]) tokL mixedL (fun | 4 => some ⟨Unit, fun _ => ⟨slotsAt 26 [(0, .nils), (1, .nils), (5, .int .i64 0)], []⟩, fun _ => True, fun _ => 0⟩ | _ => none) (fun _ => none)
    Try.func10 (by kernel_rfl) (by kernel_rfl) (by kernel_rfl) (by kernel_rfl) (by kernel_rfl) rfl rfl ?_
  conv => whnf
  repeat (first
    | (refine And.intro ?_ ?_; (focus (first | omega | decide | exact EqOk.mk (by kernel_rfl) (by kernel_rfl) (by kernel_rfl) | exact Int.natCast_nonneg _ | ((repeat' refine And.intro ?_ ?_) <;> first | omega | exact Int.natCast_nonneg _ | (simp only [i64max, u8max, u16max, u32max, u64max]; omega) | (simp only [mulSz_eq, Cont.len, colsLen, Col.len, List.length_cons, List.length_nil, List.length_replicate, List.length_append]; first | done | omega) | (simp [mulSz, Cont.len, bne]; first | done | omega)))); conv => whnf)
    | (refine tst_in ?_ ?_; (focus (intro h_; exfalso; first | omega | ((try simp only [decide_eq_true_eq, decide_eq_false_iff_not] at h_); omega) | (simp [mulSz, Cont.len, bne] at h_; first | done | omega))); intro _; conv => whnf)
    | (refine tst_in ?_ ?_; rotate_left; (focus (intro h_; exfalso; first | omega | ((try simp only [decide_eq_true_eq, decide_eq_false_iff_not] at h_); omega) | (simp [mulSz, Cont.len, bne] at h_; first | done | omega))); intro _; conv => whnf)
    | (refine ⟨0, (show _ = _ by omega), ?_⟩; conv => whnf))
  refine ⟨⟨[], (), ?_, True.intro⟩, ?_⟩
  · conv => whnf
    repeat' (first | exact True.intro | rfl | refine And.intro ?_ ?_)
    all_goals (conv => whnf)
    repeat' (first | exact True.intro | rfl | refine And.intro ?_ ?_)
    all_goals (try omega)
  · intro _ _
    conv => whnf
    repeat (first
      | (refine And.intro ?_ ?_; (focus (first | omega | decide | exact EqOk.mk (by kernel_rfl) (by kernel_rfl) (by kernel_rfl) | exact Int.natCast_nonneg _ | ((repeat' refine And.intro ?_ ?_) <;> first | omega | exact Int.natCast_nonneg _ | (simp only [i64max, u8max, u16max, u32max, u64max]; omega) | (simp only [mulSz_eq, Cont.len, colsLen, Col.len, List.length_cons, List.length_nil, List.length_replicate, List.length_append]; first | done | omega) | (simp [mulSz, Cont.len, bne]; first | done | omega)))); conv => whnf)
      | (refine tst_in ?_ ?_; (focus (intro h_; exfalso; first | omega | ((try simp only [decide_eq_true_eq, decide_eq_false_iff_not] at h_); omega) | (simp [mulSz, Cont.len, bne] at h_; first | done | omega))); intro _; conv => whnf)
      | (refine tst_in ?_ ?_; rotate_left; (focus (intro h_; exfalso; first | omega | ((try simp only [decide_eq_true_eq, decide_eq_false_iff_not] at h_); omega) | (simp [mulSz, Cont.len, bne] at h_; first | done | omega))); intro _; conv => whnf)
      | (refine ⟨0, (show _ = _ by omega), ?_⟩; conv => whnf))
end Go.Proofs.Ytmebbdfpkgkjgaa

set_option linter.unusedVariables false
set_option linter.unusedSimpArgs false
namespace Go.Proofs.Ytmebbdfpkgkjgaa
open Go Go.Fw
structure RX where
  t : List Int
  i : Nat
def st11 (A : List Int) (F : Nat → Int) (n ca k : Nat) (t : List Int) : St := ⟨slotsAt 45 [(0, .slice 0 0 n ca), (4, .slice 1 0 k (k + t.length)), (5, .int .i64 k)], [.seg false (.ints .i8 A), .seg true (.ints .i64 (tb (au F n) k ++ t))]⟩
def inv11 (A : List Int) (F : Nat → Int) (n ca : Nat) : LInv := ⟨RX, fun x => st11 A F n ca x.i x.t, fun x => x.i ≤ n, fun x => n - x.i⟩
def st11b (A : List Int) (F : Nat → Int) (n ca k i : Nat) (t : List Int) : St := ⟨slotsAt 45 [(0, .slice 0 0 n ca), (4, .slice 1 0 k (k + t.length)), (5, .int .i64 k), (6, .int .i64 (ac F k i)), (7, .int .i64 i)], [.seg false (.ints .i8 A), .seg true (.ints .i64 (tb (au F n) k ++ t))]⟩
def inv11b (A : List Int) (F : Nat → Int) (n ca : Nat) (st : St) : LInv := ⟨RX, fun x => st11b A F n ca (nat5 st 5) x.i x.t, fun x => x.i ≤ n - nat5 st 5, fun x => (n - nat5 st 5) - x.i⟩
def cfgR (A : List Int) (F : Nat → Int) (n ca : Nat) : Cfg := { cfgN 1 with sgn := fun _ => false, dep := fun | 9 => some (inv11b A F n ca) | _ => none }
def rautoOut (F : Nat → Int) (n : Nat) (e : Int) : FOut := ⟨List Int, fun _ => True, fun t => .tup [.slice 1 0 n (n + t.length), .int .i64 e], fun t => [.dead, .seg true (.ints .i64 (tb (au F n) n ++ t))]⟩
theorem push_tb {α : Type} (F : Nat → α) (t t1 : List α) (i : Nat) (x : α) (hx : x = F i) : List.take i (List.drop 0 (tb F i ++ t)) ++ [x] ++ t1 = tb F (i + 1) ++ t1 := by
  rw [List.drop_zero, List.take_left' (tab_len F i), hx, tab_snoc]
set_option maxHeartbeats 0 in
set_option maxRecDepth 100000 in
theorem rAuto_f (A : List Int) (F : Nat → Int) (n ca m : Nat) (e : Int) (hA : n ≤ A.length) (hca : n ≤ ca) (hN : n ≤ 9223372036854775807) (hm : dm n m e) (hF : ∀ i, i < n → A.getD i 0 = F i) (h1 : By F) :
    Fits Try.prog 11 ⟨[.slice 0 0 n ca], [.seg false (.ints .i8 A)], [rautoOut F m e]⟩ := by
  refine fits_of_body (C := cfgR A F n ca) (c := (Try.f11.body).getD .skip) (ts := [2, 3]) tokL mixedL (fun | 5 => some (inv11 A F n ca) | _ => none) (fun _ => none)
    Try.func11 (by kernel_rfl) (by kernel_rfl) (by kernel_rfl) (by kernel_rfl) rfl ?_
  rcases hm with ⟨hn, rfl, rfl⟩ | ⟨hn, rfl, rfl⟩
  rotate_left
  · skip
    conv => whnf
    repeat (first
      | (refine And.intro ?_ ?_; (focus (first | omega | decide | exact EqOk.mk (by kernel_rfl) (by kernel_rfl) (by kernel_rfl) | exact Int.natCast_nonneg _ | ((repeat' refine And.intro ?_ ?_) <;> first | omega | exact Int.natCast_nonneg _ | (simp only [i64max, u8max, u16max, u32max, u64max]; omega) | (simp only [mulSz_eq, Cont.len, colsLen, Col.len, List.length_cons, List.length_nil, List.length_replicate, List.length_append]; first | done | omega) | (simp [mulSz, Cont.len, bne]; first | done | omega)))); conv => whnf)
      | (refine tst_in ?_ ?_; (focus (intro h_; exfalso; first | omega | ((try simp only [decide_eq_true_eq, decide_eq_false_iff_not] at h_); omega) | (simp [mulSz, Cont.len, bne] at h_; first | done | omega))); intro _; conv => whnf)
      | (refine tst_in ?_ ?_; rotate_left; (focus (intro h_; exfalso; first | omega | ((try simp only [decide_eq_true_eq, decide_eq_false_iff_not] at h_); omega) | (simp [mulSz, Cont.len, bne] at h_; first | done | omega))); intro _; conv => whnf)
      | (refine ⟨0, (show _ = _ by omega), ?_⟩; conv => whnf))
    refine .inl ⟨[], [0, 9], ?_⟩
    conv => whnf
    repeat' (first | exact True.intro | rfl | refine And.intro ?_ ?_)
    all_goals (conv => whnf)
    repeat' (first | exact True.intro | rfl | refine And.intro ?_ ?_)
    all_goals (try omega)
  conv => whnf
  repeat (first
    | (refine And.intro ?_ ?_; (focus (first | omega | decide | exact EqOk.mk (by kernel_rfl) (by kernel_rfl) (by kernel_rfl) | exact Int.natCast_nonneg _ | ((repeat' refine And.intro ?_ ?_) <;> first | omega | exact Int.natCast_nonneg _ | (simp only [i64max, u8max, u16max, u32max, u64max]; omega) | (simp only [mulSz_eq, Cont.len, colsLen, Col.len, List.length_cons, List.length_nil, List.length_replicate, List.length_append]; first | done | omega) | (simp [mulSz, Cont.len, bne]; first | done | omega)))); conv => whnf)
    | (refine tst_in ?_ ?_; (focus (intro h_; exfalso; first | omega | ((try simp only [decide_eq_true_eq, decide_eq_false_iff_not] at h_); omega) | (simp [mulSz, Cont.len, bne] at h_; first | done | omega))); intro _; conv => whnf)
    | (refine tst_in ?_ ?_; rotate_left; (focus (intro h_; exfalso; first | omega | ((try simp only [decide_eq_true_eq, decide_eq_false_iff_not] at h_); omega) | (simp [mulSz, Cont.len, bne] at h_; first | done | omega))); intro _; conv => whnf)
    | (refine ⟨0, (show _ = _ by omega), ?_⟩; conv => whnf))
  refine ⟨⟨[0, 9], ⟨[], 0⟩, ?_, Nat.zero_le _⟩, ?_⟩
  · show stLe _ _ (st11 A F n ca 0 []) _
    conv => whnf
    repeat' (first | exact True.intro | rfl | refine And.intro ?_ ?_)
    all_goals (conv => whnf)
    repeat' (first | exact True.intro | rfl | refine And.intro ?_ ?_)
    all_goals (try omega)
  · rintro ⟨t, k⟩ hk
    have hk : k ≤ n := hk
    show forceSt (st11 A F n ca k t) _
    conv => whnf
    refine tst_in (fun hlt => ?_) (fun hge => ?_)
    · skip
      have hlt : k < n := by simp at hlt; omega
      conv => whnf
      repeat (first
        | (refine And.intro ?_ ?_; (focus (first | omega | decide | exact EqOk.mk (by kernel_rfl) (by kernel_rfl) (by kernel_rfl) | exact Int.natCast_nonneg _ | ((repeat' refine And.intro ?_ ?_) <;> first | omega | exact Int.natCast_nonneg _ | (simp only [i64max, u8max, u16max, u32max, u64max]; omega) | (simp only [mulSz_eq, Cont.len, colsLen, Col.len, List.length_cons, List.length_nil, List.length_replicate, List.length_append]; first | done | omega) | (simp [mulSz, Cont.len, bne]; first | done | omega)))); conv => whnf)
        | (refine tst_in ?_ ?_; (focus (intro h_; exfalso; first | omega | ((try simp only [decide_eq_true_eq, decide_eq_false_iff_not] at h_); omega) | (simp [mulSz, Cont.len, bne] at h_; first | done | omega))); intro _; conv => whnf)
        | (refine tst_in ?_ ?_; rotate_left; (focus (intro h_; exfalso; first | omega | ((try simp only [decide_eq_true_eq, decide_eq_false_iff_not] at h_); omega) | (simp [mulSz, Cont.len, bne] at h_; first | done | omega))); intro _; conv => whnf)
        | (refine ⟨0, (show _ = _ by omega), ?_⟩; conv => whnf))
      refine ⟨⟨[0, 1], ⟨t, 0⟩, ?_, Nat.zero_le _⟩, ?_⟩
      · show stLe _ _ (st11b A F n ca k 0 t) _
        conv => whnf
        repeat' (first | exact True.intro | rfl | refine And.intro ?_ ?_)
        all_goals (conv => whnf)
        repeat' (first | exact True.intro | rfl | refine And.intro ?_ ?_)
        all_goals (try omega)
      · rintro ⟨t2, i⟩ hi
        have hi : i ≤ n - k := hi
        have hXi : 0 + ((i : Int)).toNat = i := by omega
        have hXs : 0 + ((i : Int) + (k : Int)).toNat = i + k := by omega
        have hb := ac_b h1 k i
        have hm := mul8 (h1 i) (h1 (i + k))
        show forceSt (st11b A F n ca k i t2) _
        conv => whnf
        refine ⟨by repeat' (first | omega | exact Int.natCast_nonneg _ | (simp only [i64max]; omega) | (simp only [u8max]; omega) | refine And.intro ?_ ?_), ?_⟩
        conv => whnf
        refine tst_in (fun hlt2 => ?_) (fun hge2 => ?_)
        · skip
          have hlt2 : i < n - k := by simp at hlt2; omega
          have v1 := hF i (by omega)
          have v2 := hF (i + k) (by omega)
          conv => whnf
          repeat (first
            | (refine And.intro ?_ ?_; (focus (first | omega | decide | exact EqOk.mk (by kernel_rfl) (by kernel_rfl) (by kernel_rfl) | exact Int.natCast_nonneg _ | ((repeat' refine And.intro ?_ ?_) <;> first | omega | exact Int.natCast_nonneg _ | (simp only [i64max, u8max, u16max, u32max, u64max]; omega) | (simp only [mulSz_eq, Cont.len, colsLen, Col.len, List.length_cons, List.length_nil, List.length_replicate, List.length_append]; first | done | omega) | (simp [mulSz, Cont.len, bne]; first | done | omega)))); conv => whnf)
            | (refine tst_in ?_ ?_; (focus (intro h_; exfalso; first | omega | ((try simp only [decide_eq_true_eq, decide_eq_false_iff_not] at h_); omega) | (simp [mulSz, Cont.len, bne] at h_; first | done | omega))); intro _; conv => whnf)
            | (refine tst_in ?_ ?_; rotate_left; (focus (intro h_; exfalso; first | omega | ((try simp only [decide_eq_true_eq, decide_eq_false_iff_not] at h_); omega) | (simp [mulSz, Cont.len, bne] at h_; first | done | omega))); intro _; conv => whnf)
            | (refine ⟨0, (show _ = _ by omega), ?_⟩; conv => whnf))
          rw [hXi, hXs, v1, v2, i8in (h1 i), i8in (h1 (i + k))]
          conv => whnf
          repeat (first
            | (refine And.intro ?_ ?_; (focus (first | omega | decide | exact EqOk.mk (by kernel_rfl) (by kernel_rfl) (by kernel_rfl) | exact Int.natCast_nonneg _ | ((repeat' refine And.intro ?_ ?_) <;> first | omega | exact Int.natCast_nonneg _ | (simp only [i64max, u8max, u16max, u32max, u64max]; omega) | (simp only [mulSz_eq, Cont.len, colsLen, Col.len, List.length_cons, List.length_nil, List.length_replicate, List.length_append]; first | done | omega) | (simp [mulSz, Cont.len, bne]; first | done | omega)))); conv => whnf)
            | (refine tst_in ?_ ?_; (focus (intro h_; exfalso; first | omega | ((try simp only [decide_eq_true_eq, decide_eq_false_iff_not] at h_); omega) | (simp [mulSz, Cont.len, bne] at h_; first | done | omega))); intro _; conv => whnf)
            | (refine tst_in ?_ ?_; rotate_left; (focus (intro h_; exfalso; first | omega | ((try simp only [decide_eq_true_eq, decide_eq_false_iff_not] at h_); omega) | (simp [mulSz, Cont.len, bne] at h_; first | done | omega))); intro _; conv => whnf)
            | (refine ⟨0, (show _ = _ by omega), ?_⟩; conv => whnf))
          refine ⟨[0, 1], ⟨t2, i + 1⟩, ?_, (by show i + 1 ≤ n - k; omega), (by show n - k - (i + 1) < n - k - i; omega)⟩
          show stLe _ _ (st11b A F n ca k (i + 1) t2) _
          conv => whnf
          repeat' (first | exact True.intro | rfl | refine And.intro ?_ ?_)
          all_goals (conv => whnf)
          repeat' (first | exact True.intro | rfl | refine And.intro ?_ ?_)
          all_goals (try omega)
        · skip
          have hge2 : i = n - k := by simp at hge2; omega
          subst hge2
          rw [ac_au]
          conv => whnf
          repeat (first
            | (refine And.intro ?_ ?_; (focus (first | omega | decide | exact EqOk.mk (by kernel_rfl) (by kernel_rfl) (by kernel_rfl) | exact Int.natCast_nonneg _ | ((repeat' refine And.intro ?_ ?_) <;> first | omega | exact Int.natCast_nonneg _ | (simp only [i64max, u8max, u16max, u32max, u64max]; omega) | (simp only [mulSz_eq, Cont.len, colsLen, Col.len, List.length_cons, List.length_nil, List.length_replicate, List.length_append, tab_len]; first | done | omega) | (simp [mulSz, Cont.len, bne, tab_len]; first | done | omega)))); conv => whnf)
            | (refine tst_in ?_ ?_; (focus (intro h_; exfalso; first | omega | ((try simp only [decide_eq_true_eq, decide_eq_false_iff_not] at h_); omega) | (simp [mulSz, Cont.len, bne, tab_len] at h_; first | done | omega))); intro _; conv => whnf)
            | (refine tst_in ?_ ?_; rotate_left; (focus (intro h_; exfalso; first | omega | ((try simp only [decide_eq_true_eq, decide_eq_false_iff_not] at h_); omega) | (simp [mulSz, Cont.len, bne, tab_len] at h_; first | done | omega))); intro _; conv => whnf)
            | (refine ⟨0, (show _ = _ by omega), ?_⟩; conv => whnf))
          intro t1
          conv => whnf
          repeat (first
            | (refine And.intro ?_ ?_; (focus (first | omega | decide | exact EqOk.mk (by kernel_rfl) (by kernel_rfl) (by kernel_rfl) | exact Int.natCast_nonneg _ | ((repeat' refine And.intro ?_ ?_) <;> first | omega | exact Int.natCast_nonneg _ | (simp only [i64max, u8max, u16max, u32max, u64max]; omega) | (simp only [mulSz_eq, Cont.len, colsLen, Col.len, List.length_cons, List.length_nil, List.length_replicate, List.length_append]; first | done | omega) | (simp [mulSz, Cont.len, bne]; first | done | omega)))); conv => whnf)
            | (refine tst_in ?_ ?_; (focus (intro h_; exfalso; first | omega | ((try simp only [decide_eq_true_eq, decide_eq_false_iff_not] at h_); omega) | (simp [mulSz, Cont.len, bne] at h_; first | done | omega))); intro _; conv => whnf)
            | (refine tst_in ?_ ?_; rotate_left; (focus (intro h_; exfalso; first | omega | ((try simp only [decide_eq_true_eq, decide_eq_false_iff_not] at h_); omega) | (simp [mulSz, Cont.len, bne] at h_; first | done | omega))); intro _; conv => whnf)
            | (refine ⟨0, (show _ = _ by omega), ?_⟩; conv => whnf))
          refine ⟨[0, 3], ⟨t1, k + 1⟩, ?_, (by show k + 1 ≤ n; omega), (by show n - (k + 1) < n - k; omega)⟩
          show stLe _ _ (st11 A F n ca (k + 1) t1) _
          conv => whnf
          repeat' (first | exact True.intro | rfl | refine And.intro ?_ ?_)
          all_goals (conv => whnf)
          repeat' (first | exact True.intro | rfl | refine And.intro ?_ ?_)
          all_goals (try omega)
          all_goals (exact (push_tb (au F n) t2 t1 k _ rfl).symm)
    · skip
      have hge : k = n := by simp at hge; omega
      subst hge
      conv => whnf
      repeat (first
        | (refine And.intro ?_ ?_; (focus (first | omega | decide | exact EqOk.mk (by kernel_rfl) (by kernel_rfl) (by kernel_rfl) | exact Int.natCast_nonneg _ | ((repeat' refine And.intro ?_ ?_) <;> first | omega | exact Int.natCast_nonneg _ | (simp only [i64max, u8max, u16max, u32max, u64max]; omega) | (simp only [mulSz_eq, Cont.len, colsLen, Col.len, List.length_cons, List.length_nil, List.length_replicate, List.length_append]; first | done | omega) | (simp [mulSz, Cont.len, bne]; first | done | omega)))); conv => whnf)
        | (refine tst_in ?_ ?_; (focus (intro h_; exfalso; first | omega | ((try simp only [decide_eq_true_eq, decide_eq_false_iff_not] at h_); omega) | (simp [mulSz, Cont.len, bne] at h_; first | done | omega))); intro _; conv => whnf)
        | (refine tst_in ?_ ?_; rotate_left; (focus (intro h_; exfalso; first | omega | ((try simp only [decide_eq_true_eq, decide_eq_false_iff_not] at h_); omega) | (simp [mulSz, Cont.len, bne] at h_; first | done | omega))); intro _; conv => whnf)
        | (refine ⟨0, (show _ = _ by omega), ?_⟩; conv => whnf))
      refine .inl ⟨t, [0, 1], ?_⟩
      conv => whnf
      repeat' (first | exact True.intro | rfl | refine And.intro ?_ ?_)
      all_goals (conv => whnf)
      repeat' (first | exact True.intro | rfl | refine And.intro ?_ ?_)
      all_goals (try omega)
end Go.Proofs.Ytmebbdfpkgkjgaa

set_option linter.unusedVariables false
set_option linter.unusedSimpArgs false
namespace Go.Proofs.Ytmebbdfpkgkjgaa
open Go Go.Fw
def qw : Nat → Bool := fun f => match f with | 10 => true | 13 => true | 15 => true | 2000014 => true | _ => false
def cfgw (k : Nat) : Cfg := { T := tyL, sgn := fun _ => true, wr := fun i => Nat.beq i 36, k := k, q := qw }
set_option maxHeartbeats 0 in
set_option maxRecDepth 100000 in
theorem Pair_n (o : Int) (h : o < 0 ∨ 8 < o) : Fits Try.prog 9 ⟨[.int .i64 o], [], [numOut [] (.tup [.nils, .nils, .int .i64 1])]⟩ := by
  refine fits_of_body (C := cfgN 0) (c := (Try.f9.body).getD .skip) (ts := [2, 3, 4]) tokL mixedL (fun _ => none) (fun _ => none)
    Try.func9 (by kernel_rfl) (by kernel_rfl) (by kernel_rfl) (by kernel_rfl) rfl ?_
  conv => whnf
  repeat (first
    | (refine And.intro ?_ ?_; (focus (first | omega | decide | exact EqOk.mk (by kernel_rfl) (by kernel_rfl) (by kernel_rfl) | exact Int.natCast_nonneg _ | ((repeat' refine And.intro ?_ ?_) <;> first | omega | exact Int.natCast_nonneg _ | (simp only [i64max, u8max, u16max, u32max, u64max]; omega) | (simp only [mulSz_eq, Cont.len, colsLen, Col.len, List.length_cons, List.length_nil, List.length_replicate, List.length_append]; first | done | omega) | (simp [mulSz, Cont.len, bne]; first | done | omega)))); conv => whnf)
    | (refine tst_in ?_ ?_; (focus (intro h_; exfalso; first | omega | ((try simp only [decide_eq_true_eq, decide_eq_false_iff_not] at h_); omega) | (simp [mulSz, Cont.len, bne] at h_; first | done | omega))); intro _; conv => whnf)
    | (refine tst_in ?_ ?_; rotate_left; (focus (intro h_; exfalso; first | omega | ((try simp only [decide_eq_true_eq, decide_eq_false_iff_not] at h_); omega) | (simp [mulSz, Cont.len, bne] at h_; first | done | omega))); intro _; conv => whnf)
    | (refine ⟨0, (show _ = _ by omega), ?_⟩; conv => whnf))
  refine tst_in (fun u => ?_) (fun u' => ?_)
  · conv => whnf
    repeat (first
      | (refine And.intro ?_ ?_; (focus (first | omega | decide | exact EqOk.mk (by kernel_rfl) (by kernel_rfl) (by kernel_rfl) | exact Int.natCast_nonneg _ | ((repeat' refine And.intro ?_ ?_) <;> first | omega | exact Int.natCast_nonneg _ | (simp only [i64max, u8max, u16max, u32max, u64max]; omega) | (simp only [mulSz_eq, Cont.len, colsLen, Col.len, List.length_cons, List.length_nil, List.length_replicate, List.length_append]; first | done | omega) | (simp [mulSz, Cont.len, bne]; first | done | omega)))); conv => whnf)
      | (refine tst_in ?_ ?_; (focus (intro h_; exfalso; first | omega | ((try simp only [decide_eq_true_eq, decide_eq_false_iff_not] at h_); omega) | (simp [mulSz, Cont.len, bne] at h_; first | done | omega))); intro _; conv => whnf)
      | (refine tst_in ?_ ?_; rotate_left; (focus (intro h_; exfalso; first | omega | ((try simp only [decide_eq_true_eq, decide_eq_false_iff_not] at h_); omega) | (simp [mulSz, Cont.len, bne] at h_; first | done | omega))); intro _; conv => whnf)
      | (refine ⟨0, (show _ = _ by omega), ?_⟩; conv => whnf))
    refine .inl ⟨(), [], ?_⟩
    conv => whnf
    repeat' (first | exact True.intro | rfl | refine And.intro ?_ ?_)
    all_goals (conv => whnf)
    repeat' (first | exact True.intro | rfl | refine And.intro ?_ ?_)
    all_goals (try omega)
  · have hu := dlt_f u'
    conv => whnf
    repeat (first
      | (refine And.intro ?_ ?_; (focus (first | omega | decide | exact EqOk.mk (by kernel_rfl) (by kernel_rfl) (by kernel_rfl) | exact Int.natCast_nonneg _ | ((repeat' refine And.intro ?_ ?_) <;> first | omega | exact Int.natCast_nonneg _ | (simp only [i64max, u8max, u16max, u32max, u64max]; omega) | (simp only [mulSz_eq, Cont.len, colsLen, Col.len, List.length_cons, List.length_nil, List.length_replicate, List.length_append]; first | done | omega) | (simp [mulSz, Cont.len, bne]; first | done | omega)))); conv => whnf)
      | (refine tst_in ?_ ?_; (focus (intro h_; exfalso; first | omega | ((try simp only [decide_eq_true_eq, decide_eq_false_iff_not] at h_); omega) | (simp [mulSz, Cont.len, bne] at h_; first | done | omega))); intro _; conv => whnf)
      | (refine tst_in ?_ ?_; rotate_left; (focus (intro h_; exfalso; first | omega | ((try simp only [decide_eq_true_eq, decide_eq_false_iff_not] at h_); omega) | (simp [mulSz, Cont.len, bne] at h_; first | done | omega))); intro _; conv => whnf)
      | (refine ⟨0, (show _ = _ by omega), ?_⟩; conv => whnf))
    refine .inl ⟨(), [], ?_⟩
    conv => whnf
    repeat' (first | exact True.intro | rfl | refine And.intro ?_ ?_)
    all_goals (conv => whnf)
    repeat' (first | exact True.intro | rfl | refine And.intro ?_ ?_)
    all_goals (try omega)
set_option maxHeartbeats 0 in
set_option maxRecDepth 100000 in
theorem rPair_n (o : Int) (h : o < 0 ∨ 8 < o) : Fits Try.prog 8 ⟨[.int .i64 o], [], [numOut [] (.tup [.nils, .nils, .int .i64 1])]⟩ := by
  refine fits_of_body (C := cfgN 0) (c := (Try.f8.body).getD .skip) (ts := [2, 3, 4]) tokL mixedL (fun _ => none) (fun _ => none)
    Try.func8 (by kernel_rfl) (by kernel_rfl) (by kernel_rfl) (by kernel_rfl) rfl ?_
  conv => whnf
  repeat (first
    | (refine And.intro ?_ ?_; (focus (first | omega | decide | exact EqOk.mk (by kernel_rfl) (by kernel_rfl) (by kernel_rfl) | exact Int.natCast_nonneg _ | ((repeat' refine And.intro ?_ ?_) <;> first | omega | exact Int.natCast_nonneg _ | (simp only [i64max, u8max, u16max, u32max, u64max]; omega) | (simp only [mulSz_eq, Cont.len, colsLen, Col.len, List.length_cons, List.length_nil, List.length_replicate, List.length_append]; first | done | omega) | (simp [mulSz, Cont.len, bne]; first | done | omega)))); conv => whnf)
    | (refine tst_in ?_ ?_; (focus (intro h_; exfalso; first | omega | ((try simp only [decide_eq_true_eq, decide_eq_false_iff_not] at h_); omega) | (simp [mulSz, Cont.len, bne] at h_; first | done | omega))); intro _; conv => whnf)
    | (refine tst_in ?_ ?_; rotate_left; (focus (intro h_; exfalso; first | omega | ((try simp only [decide_eq_true_eq, decide_eq_false_iff_not] at h_); omega) | (simp [mulSz, Cont.len, bne] at h_; first | done | omega))); intro _; conv => whnf)
    | (refine ⟨0, (show _ = _ by omega), ?_⟩; conv => whnf))
  refine tst_in (fun u => ?_) (fun u' => ?_)
  · conv => whnf
    repeat (first
      | (refine And.intro ?_ ?_; (focus (first | omega | decide | exact EqOk.mk (by kernel_rfl) (by kernel_rfl) (by kernel_rfl) | exact Int.natCast_nonneg _ | ((repeat' refine And.intro ?_ ?_) <;> first | omega | exact Int.natCast_nonneg _ | (simp only [i64max, u8max, u16max, u32max, u64max]; omega) | (simp only [mulSz_eq, Cont.len, colsLen, Col.len, List.length_cons, List.length_nil, List.length_replicate, List.length_append]; first | done | omega) | (simp [mulSz, Cont.len, bne]; first | done | omega)))); conv => whnf)
      | (refine tst_in ?_ ?_; (focus (intro h_; exfalso; first | omega | ((try simp only [decide_eq_true_eq, decide_eq_false_iff_not] at h_); omega) | (simp [mulSz, Cont.len, bne] at h_; first | done | omega))); intro _; conv => whnf)
      | (refine tst_in ?_ ?_; rotate_left; (focus (intro h_; exfalso; first | omega | ((try simp only [decide_eq_true_eq, decide_eq_false_iff_not] at h_); omega) | (simp [mulSz, Cont.len, bne] at h_; first | done | omega))); intro _; conv => whnf)
      | (refine ⟨0, (show _ = _ by omega), ?_⟩; conv => whnf))
    refine .inl ⟨(), [], ?_⟩
    conv => whnf
    repeat' (first | exact True.intro | rfl | refine And.intro ?_ ?_)
    all_goals (conv => whnf)
    repeat' (first | exact True.intro | rfl | refine And.intro ?_ ?_)
    all_goals (try omega)
  · have hu := dlt_f u'
    conv => whnf
    repeat (first
      | (refine And.intro ?_ ?_; (focus (first | omega | decide | exact EqOk.mk (by kernel_rfl) (by kernel_rfl) (by kernel_rfl) | exact Int.natCast_nonneg _ | ((repeat' refine And.intro ?_ ?_) <;> first | omega | exact Int.natCast_nonneg _ | (simp only [i64max, u8max, u16max, u32max, u64max]; omega) | (simp only [mulSz_eq, Cont.len, colsLen, Col.len, List.length_cons, List.length_nil, List.length_replicate, List.length_append]; first | done | omega) | (simp [mulSz, Cont.len, bne]; first | done | omega)))); conv => whnf)
      | (refine tst_in ?_ ?_; (focus (intro h_; exfalso; first | omega | ((try simp only [decide_eq_true_eq, decide_eq_false_iff_not] at h_); omega) | (simp [mulSz, Cont.len, bne] at h_; first | done | omega))); intro _; conv => whnf)
      | (refine tst_in ?_ ?_; rotate_left; (focus (intro h_; exfalso; first | omega | ((try simp only [decide_eq_true_eq, decide_eq_false_iff_not] at h_); omega) | (simp [mulSz, Cont.len, bne] at h_; first | done | omega))); intro _; conv => whnf)
      | (refine ⟨0, (show _ = _ by omega), ?_⟩; conv => whnf))
    refine .inl ⟨(), [], ?_⟩
    conv => whnf
    repeat' (first | exact True.intro | rfl | refine And.intro ?_ ?_)
    all_goals (conv => whnf)
    repeat' (first | exact True.intro | rfl | refine And.intro ?_ ?_)
    all_goals (try omega)
theorem at_n {α : Type} (F : Nat → α) (x z : α) (t : List α) (n : Nat) : (tb F n ++ x :: t).getD n z = x := by
  rw [List.getD_eq_getElem?_getD, List.getElem?_append_right (by rw [tab_len]; exact Nat.le_refl _), tab_len, Nat.sub_self]; rfl
theorem at_i {α : Type} (F : Nat → α) (z : α) (t : List α) (n i : Nat) (h : i < n) : (tb F n ++ t).getD i z = F i := by
  rw [List.getD_eq_getElem?_getD, List.getElem?_append_left (by rw [tab_len]; exact h), ← List.getD_eq_getElem?_getD]; exact tab_get F z h
theorem rows_eq (f : Nat → Int) (n : Nat) (t : List Int) : ∀ i, i < n → (tb f n).getD (0 + i) 0 = (tb f n ++ t).getD (0 + i) 0 := by
  intro i hi
  rw [Nat.zero_add, at_i f 0 t n i hi, tab_get f 0 hi]
end Go.Proofs.Ytmebbdfpkgkjgaa

set_option linter.unusedVariables false
set_option linter.unusedSimpArgs false
namespace Go.Proofs.Ytmebbdfpkgkjgaa
open Go Go.Fw
noncomputable def k3 : Code := (Try.f3.body).getD .skip
def lS (l : List Int) : Seg := .seg false (.ints .i8 l)
def cut20 (l : List Int) (nl ca b : Nat) : LInv := ⟨Unit, fun _ => ⟨slotsAt 234 [(1, .slice 0 0 nl ca), (2, .int .u64 b)], [lS l]⟩, fun _ => True, fun _ => 0⟩
/-- The rows that are written in the first two loops. -/
structure W2 where
  i : Nat
  C : List Int
  D : List Int
  u : List Int
  v : List Int
def sq1 (l : List Int) (nl ca b n : Nat) (ta tc : List Int) (x y : AV) (k i : Nat) : List AV :=
  slotsAt 234 [(1, .slice 0 0 nl ca), (2, .int .u64 b), (7, .slice 1 0 n (n + ta.length)), (8, .slice 2 0 n (n + tc.length)), (10, x), (11, y), (13, .slice 5 0 n n), (14, .slice 6 0 n n), (k, .int .i64 i)]
def hp1 (l : List Int) (n : Nat) (f g : Nat → Int) (ta tc C D : List Int) : List Seg :=
  [lS l, .seg true (.ints .i8 (tb f n ++ ta)), .seg true (.ints .i8 (tb g n ++ tc)), .seg true (.ints .i8 C), .seg true (.ints .i8 D), .seg true (.ints .i8 (tb f n)), .seg true (.ints .i8 (tb g n))]
def stW (l : List Int) (nl ca b n : Nat) (f g : Nat → Int) (ta tc C D : List Int) (i : Nat) : St := ⟨sq1 l nl ca b n ta tc (.slice 3 0 n n) (.slice 4 0 n n) 16 i, hp1 l n f g ta tc C D⟩
def invW (l : List Int) (nl ca b n : Nat) (f g : Nat → Int) : LInv := ⟨W2, fun x => stW l nl ca b n f g x.u x.v x.C x.D x.i, fun x => x.i ≤ n ∧ x.C.length = n ∧ x.D.length = n ∧ ∀ j, x.i ≤ j → j < n → x.D.getD j 0 = g j, fun x => n - x.i⟩
structure W3 where
  i : Nat
  C : List Int
  D : List Int
  u : List Int
  v : List Int
  p : List Int
  q : List Int
def stV (l : List Int) (nl ca b n : Nat) (f g : Nat → Int) (ta tc C D p q : List Int) (i : Nat) : St := ⟨sq1 l nl ca b n ta tc (.slice 3 0 (n + i) (n + i + p.length)) (.slice 4 0 (n + i) (n + i + q.length)) 17 i, hp1 l n f g ta tc (C ++ p) (D ++ q)⟩
def invV (l : List Int) (nl ca b n : Nat) (f g : Nat → Int) : LInv := ⟨W3, fun x => stV l nl ca b n f g x.u x.v x.C x.D x.p x.q x.i, fun x => x.i ≤ 300 ∧ x.C.length = n + x.i ∧ x.D.length = n + x.i, fun x => 300 - x.i⟩
def sq0 (nl ca b : Nat) (x y : AV) (k i : Nat) : List AV :=
  slotsAt 234 [(1, .slice 0 0 nl ca), (2, .int .u64 b), (7, .nils), (8, .nils), (10, x), (11, y), (13, .nils), (14, .nils), (k, .int .i64 i)]
def stW0 (l : List Int) (nl ca b : Nat) : St := ⟨sq0 nl ca b .nils .nils 16 0, [lS l]⟩
def invW0 (l : List Int) (nl ca b : Nat) : LInv := ⟨Unit, fun _ => stW0 l nl ca b, fun _ => True, fun _ => 0⟩
def stV0 (l : List Int) (nl ca b : Nat) (C D p q : List Int) (i : Nat) : St := ⟨sq0 nl ca b (.slice 1 0 i (i + p.length)) (.slice 2 0 i (i + q.length)) 17 i, [lS l, .seg true (.ints .i8 (C ++ p)), .seg true (.ints .i8 (D ++ q))]⟩
def invV0 (l : List Int) (nl ca b : Nat) : LInv := ⟨W3, fun x => stV0 l nl ca b x.C x.D x.p x.q x.i, fun x => x.i ≤ 300 ∧ x.C.length = x.i ∧ x.D.length = x.i, fun x => 300 - x.i⟩
def gl (l : List Int) (i : Nat) : Int := l.getD i 0
structure W4 where
  r : Nat
  F : Nat → Int
  t : List Int
def stR (l : List Int) (nl ca b r : Nat) (F : Nat → Int) (t : List Int) : St := ⟨slotsAt 234 [(1, .slice 0 0 nl ca), (2, .int .u64 b), (18, .slice 1 0 (nl + 1) (nl + 1 + t.length)), (19, .int .i64 r)], [lS l, .seg true (.ints .i8 (tb F nl ++ 77 :: t))]⟩
def invR (l : List Int) (nl ca b : Nat) : LInv := ⟨W4, fun x => stR l nl ca b x.r x.F x.t, fun x => x.r ≤ 2 ∧ By x.F ∧ (x.r = 0 → ∀ i, i < nl → x.F i = l.getD i 0), fun x => 2 - x.r⟩
theorem row_len (F : Nat → Int) (n : Nat) (t : List Int) : (tb F n ++ 77 :: t).length = n + 1 + t.length := by
  rw [List.length_append, tab_len, List.length_cons]; omega
theorem tb_gl (l : List Int) (n : Nat) (h : n ≤ l.length) : tb (gl l) n = List.take n l := by
  refine List.ext_getElem (by rw [tab_len, List.length_take]; omega) ?_
  intro i h1 h2
  rw [tab_len] at h1
  rw [List.getElem_take]
  have := tab_get (gl l) 0 h1
  rw [List.getD_eq_getElem?_getD, List.getElem?_eq_getElem (by rw [tab_len]; exact h1)] at this
  unfold gl at this
  rw [List.getD_eq_getElem?_getD, List.getElem?_eq_getElem (by omega)] at this
  exact this
theorem lent_l (l : List Int) (n : Nat) (t1 t3 : List Int) (h : n ≤ l.length) : tb (gl l) n ++ 77 :: t3 =
    List.take (0 + n) (List.drop 0 (List.take 0 (List.drop 0 []) ++ List.take n (List.drop 0 l) ++ t1)) ++ List.take 1 (List.drop 0 [77]) ++ t3 := by
  rw [tb_gl l n h]
  show _ = List.take (0 + n) ([] ++ List.take n l ++ t1) ++ [77] ++ t3
  rw [Nat.zero_add, List.nil_append, List.take_left' (by rw [List.length_take]; omega), List.append_assoc]; rfl
theorem dm_ex (n : Nat) : ∃ m e, dm n m e := by
  by_cases h : n ≤ 4096
  · exact ⟨n, 0, .inl ⟨h, rfl, rfl⟩⟩
  · exact ⟨0, 1, .inr ⟨by omega, rfl, rfl⟩⟩
theorem lent_e (F : Nat → Int) (n : Nat) (t t5 : List Int) : List.take 0 (List.drop 0 ([] : List Int)) ++ List.take n (List.drop 0 (tb F n ++ 77 :: t)) ++ t5 = tb F n ++ t5 := by
  show [] ++ List.take n (tb F n ++ 77 :: t) ++ t5 = _
  rw [List.nil_append, List.take_left' (tab_len F n)]
theorem lent_n (F : Nat → Int) (n : Nat) (t t5 : List Int) : n ≤ (List.take 0 (List.drop 0 ([] : List Int)) ++ List.take n (List.drop 0 (tb F n ++ 77 :: t)) ++ t5).length ∧ ∀ i, i < n → (List.take 0 (List.drop 0 ([] : List Int)) ++ List.take n (List.drop 0 (tb F n ++ 77 :: t)) ++ t5).getD i 0 = F i := by
  rw [lent_e]
  exact ⟨by rw [List.length_append, tab_len]; omega, fun i hi => at_i F 0 t5 n i hi⟩
theorem dm_le {n m : Nat} {e : Int} (h : dm n m e) : m ≤ n := by rcases h with h | h <;> omega
structure W5 where
  i : Nat
  m : Nat
  F : Nat → Int
  t : List Int
  w : List Int
def stC (l : List Int) (nl ca b r i m : Nat) (F : Nat → Int) (t w : List Int) : St := ⟨slotsAt 234 [(1, .slice 0 0 nl ca), (2, .int .u64 b), (18, .slice 1 0 (nl + 1) (nl + 1 + t.length)), (19, .int .i64 r), (20, .slice 2 0 m (m + w.length)), (22, .slice 3 0 m m), (24, .int .i64 i)], [lS l, .seg true (.ints .i8 (tb F nl ++ 77 :: t)), .seg true (.ints .i64 (tb (au F m) m ++ w)), .seg true (.ints .i64 (tb (au F m) m))]⟩
def invC (l : List Int) (nl ca b : Nat) (st : St) : LInv := ⟨W5, fun x => stC l nl ca b (nat5 st 19) x.i x.m x.F x.t x.w, fun x => x.i ≤ x.m ∧ x.m ≤ nl ∧ By x.F ∧ (nat5 st 19 = 0 → ∀ i, i < nl → x.F i = l.getD i 0), fun x => x.m - x.i⟩
def stN (l : List Int) (nl ca b r j : Nat) (F : Nat → Int) (t : List Int) : St := ⟨slotsAt 234 [(1, .slice 0 0 nl ca), (2, .int .u64 b), (18, .slice 1 0 (nl + 1) (nl + 1 + t.length)), (19, .int .i64 r), (25, .int .i64 j)], [lS l, .seg true (.ints .i8 (tb F nl ++ 77 :: t))]⟩
def invN (l : List Int) (nl ca b : Nat) (st : St) : LInv := ⟨W4, fun x => stN l nl ca b (nat5 st 19) x.r x.F x.t, fun x => x.r ≤ nl ∧ By x.F, fun x => nl - x.r⟩
def cfgx (l : List Int) (nl ca b : Nat) : Cfg := { cfgw 1 with dep := fun | 29 => some (invC l nl ca b) | 34 => some (invN l nl ca b) | _ => none }
def ng (x : Int) : Int := IntKind.i8.wrap ((IntKind.i8.wrap (0 - x)).tdiv 2)
def upd (F : Nat → Int) (i : Nat) (v : Int) (j : Nat) : Int := if j = i then v else F j
theorem ng_in (x : Int) : -128 ≤ ng x ∧ ng x ≤ 127 := by
  unfold ng
  generalize (IntKind.i8.wrap (0 - x)).tdiv 2 = y
  unfold IntKind.wrap
  simp [IntKind.bits, IntKind.signed]
  omega
theorem By_upd {F : Nat → Int} (h : By F) (i : Nat) : By (upd F i (ng (F i))) := by
  intro j
  unfold upd
  split
  · exact ng_in _
  · exact h j
theorem set_upd (F : Nat → Int) (n i : Nat) (v : Int) (t : List Int) (h : i < n) : (tb F n ++ t).set i v = tb (upd F i v) n ++ t := by
  rw [List.set_append_left _ _ (by rw [tab_len]; exact h)]
  congr 1
  refine List.ext_getElem (by rw [List.length_set, tab_len, tab_len]) ?_
  intro j h1 h2
  rw [List.getElem_set]
  rw [tab_len] at h2
  have e1 := tab_get (upd F i v) 0 h2
  have e2 := tab_get F 0 h2
  rw [List.getD_eq_getElem?_getD, List.getElem?_eq_getElem (by rw [tab_len]; exact h2)] at e1 e2
  have e1 : (tb (upd F i v) n)[j]'(by rw [tab_len]; exact h2) = upd F i v j := e1
  have e2 : (tb F n)[j]'(by rw [tab_len]; exact h2) = F j := e2
  rw [e1]
  unfold upd
  split
  · rename_i q; rw [if_pos q.symm]
  · rename_i q; rw [if_neg (fun z => q z.symm), e2]
end Go.Proofs.Ytmebbdfpkgkjgaa
