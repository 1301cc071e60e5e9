/-
  What the functions that are called give: for GridDoors.
-/
import Derived.Test.YtanogghfdamdcaaRows
import Derived.Test.YtanogghfdamdcaaFl
import Derived.Test.YtanogghfdamdcaaFv
set_option linter.unusedSimpArgs false
set_option linter.unusedVariables false
namespace Go.Fw
open Go Ieee
set_option exponentiation.threshold 2200
theorem log2_shift (m d : Nat) (hm : 0 < m) : (m * 2 ^ d).log2 = m.log2 + d := by
  have h1 : 2 ^ m.log2 ≤ m := Nat.log2_self_le (by omega)
  have h2 : m < 2 ^ (m.log2 + 1) := Nat.lt_log2_self
  have hp := Nat.two_pow_pos d
  have h3 : 2 ^ (m.log2 + d) ≤ m * 2 ^ d := by rw [Nat.pow_add]; exact Nat.mul_le_mul_right _ h1
  have h4 : m * 2 ^ d < 2 ^ (m.log2 + d + 1) := by
    rw [show m.log2 + d + 1 = (m.log2 + 1) + d by omega, Nat.pow_add]
    exact Nat.mul_lt_mul_of_pos_right h2 hp
  have hz : m * 2 ^ d ≠ 0 := by have := Nat.mul_pos hm hp; omega
  have h5 : (m * 2 ^ d).log2 < m.log2 + d + 1 := (Nat.log2_lt hz).2 h4
  have h6 : m.log2 + d ≤ (m * 2 ^ d).log2 := (Nat.le_log2 hz).2 h3
  omega
theorem nearest_shift (neg : Bool) (m d : Nat) (p : Int) (hm : 0 < m) (h : lst m (p + d) ≤ p + d) : D.nearest neg (m * 2 ^ d) p = D.nearest neg m (p + d) := by
  have hp := Nat.two_pow_pos d
  have hz : m * 2 ^ d ≠ 0 := by have := Nat.mul_pos hm hp; omega
  have hl : lst (m * 2 ^ d) p = lst m (p + d) := by
    unfold lst; rw [log2_shift m d hm]; push_cast; congr 1; omega
  unfold Format.nearest
  rw [if_neg hz, if_neg (by omega), d_least, d_bin, d_inf]
  show D.word neg (min ((lst (m * 2 ^ d) p - -1074).toNat * 4503599627370496 + Toward.even.cut neg ((m * 2 ^ d) <<< (p - lst (m * 2 ^ d) p).toNat) (lst (m * 2 ^ d) p - p).toNat) 9218868437227405312) = D.word neg (min ((lst m (p + d) - -1074).toNat * 4503599627370496 + Toward.even.cut neg (m <<< (p + d - lst m (p + d)).toNat) (lst m (p + d) - (p + d)).toNat) 9218868437227405312)
  rw [hl]
  generalize hL : lst m (p + d) = L at *
  congr 3
  by_cases hc : L ≤ p
  · rw [show (L - p).toNat = 0 by omega, show (L - (p + d)).toNat = 0 by omega, Nat.shiftLeft_eq, Nat.shiftLeft_eq, show (p + d - L).toNat = d + (p - L).toNat by omega, Nat.pow_add, Nat.mul_assoc]
  · rw [show (p - L).toNat = 0 by omega, show (L - (p + d)).toNat = 0 by omega, Nat.shiftLeft_zero, cut_zero, Nat.shiftLeft_eq]
    have e : m * 2 ^ d = m * 2 ^ (p + d - L).toNat * 2 ^ (L - p).toNat := by
      rw [Nat.mul_assoc, ← Nat.pow_add]; congr 2; omega
    have hg : (L - p).toNat ≤ (m * 2 ^ d).log2 + 2 := by rw [log2_shift m d hm]; omega
    rw [e] at hg ⊢
    exact cut_exact neg _ _ hg
/-- Any number times 2 ^ j, if it is not too great. -/
theorem V_scale {b c j : Nat} {X : Int} (h : V 1074 b X) (hc : D.read c = .number false 4503599627370496 (-52 + j)) (hX : X.natAbs < 2 ^ (2097 - j)) (hj : j ≤ 1000) : ∃ r, D.mul b c = some r ∧ V 1074 r (X * 2 ^ j) := by
  unfold V at h
  obtain ⟨s, m, P, e1, e2⟩ := h
  have b1 := read_bound e1
  unfold Format.mul
  rw [e1, hc]
  simp only [Datum.product, Option.map_some]
  refine ⟨_, rfl, ?_⟩
  rw [Nat.sub_self, Int.pow_zero, Int.mul_one] at e2
  rw [show (s ^^ false) = s by cases s <;> rfl]
  by_cases h0 : m = 0
  · subst h0
    have hX0 : X = 0 := by rw [← e2, signed_eq]; cases s <;> simp
    rw [Nat.zero_mul]
    unfold V
    exact ⟨s, 0, -1074, write_read0 s _, by rw [hX0, signed_eq]; cases s <;> simp⟩
  have hm : 0 < m := by omega
  have hlog : m.log2 ≤ 52 := by
    have h53 : (2 : Nat) ^ 53 = 9007199254740992 := by decide
    have : m.log2 < 53 := (Nat.log2_lt (by omega)).2 (by omega)
    omega
  have hmag : m * 2 ^ (P + 1074).toNat = X.natAbs := by rw [← e2, signed_abs]
  have hup : m.log2 + (P + 1074).toNat < 2097 - j := by
    have h1 : 2 ^ m.log2 ≤ m := Nat.log2_self_le (by omega)
    have h2 : 2 ^ m.log2 * 2 ^ (P + 1074).toNat ≤ m * 2 ^ (P + 1074).toNat := Nat.mul_le_mul_right _ h1
    rw [← Nat.pow_add, hmag] at h2
    exact (Nat.pow_lt_pow_iff_right (by decide : 1 < 2)).1 (Nat.lt_of_le_of_lt h2 hX)
  have hw : D.write (.number s (m * 4503599627370496) (P + (-52 + j))) = D.write (.number s (m * 2 ^ 0) (P + j)) := by
    show D.nearest s (m * 4503599627370496) _ = D.nearest s (m * 2 ^ 0) _
    rw [show (4503599627370496 : Nat) = 2 ^ 52 by decide, nearest_shift s m 52 _ hm (by unfold lst; omega), Nat.pow_zero, Nat.mul_one]
    congr 1; omega
  obtain ⟨M, Q, k1, k2, k3⟩ := write_exact s m 0 (P + j) hm b1.1 (by omega) (by rw [Nat.pow_zero, Nat.mul_one]; omega)
  rw [hw]
  unfold V
  refine ⟨s, M, Q, k1, ?_⟩
  rw [Nat.sub_self, Int.pow_zero, Int.mul_one, ← e2, signed_shift]
  rw [Nat.pow_zero, Nat.mul_one] at k3
  rw [signed_eq, signed_eq]
  have k4 := congrArg (Nat.cast : Nat → Int) k3
  push_cast at k4
  rw [k4]
  congr 3
  omega
end Go.Fw

namespace Go.Fw
open Go Ieee
set_option exponentiation.threshold 2200
theorem V_fin {b : Nat} {s : Bool} {m : Nat} {P : Int} (h : D.read b = .number s m P) : V 1074 b (signed s m (P + 1074).toNat) := by
  unfold V
  exact ⟨s, m, P, h, by rw [Nat.sub_self, Int.pow_zero, Int.mul_one]⟩
theorem V_all {q b : Nat} {x : Int} (h : V q b x) (hq : q ≤ 1074) : V 1074 b (x * 2 ^ (1074 - q)) := by
  have := V_up h (1074 - q) (by omega)
  rw [show q + (1074 - q) = 1074 by omega] at this
  exact this
/-- No number at all. -/
inductive Wild (b : Nat) : Prop
  | inf (s : Bool) (h : D.read b = .infinity s)
  | nan (s : Bool) (f : Nat) (h : D.read b = .nan s f)
theorem fin_or (b : Nat) : (∃ X, V 1074 b X) ∨ Wild b := by
  rcases h : D.read b with ⟨s, m, P⟩ | s | ⟨s, f⟩
  · exact .inl ⟨_, V_fin h⟩
  · exact .inr (.inf s h)
  · exact .inr (.nan s f h)
theorem wild_out {b c d : Nat} {y z : Int} {q : Nat} (h : Wild b) (hc : V q c y) (hd : V q d z) : ((D.order b c == some .gt || D.order b c == some .eq) && (D.order b d == some .lt || D.order b d == some .eq)) = false := by
  unfold V at hc hd
  obtain ⟨s1, m1, P1, e1, -⟩ := hc
  obtain ⟨s2, m2, P2, e2, -⟩ := hd
  rcases h with ⟨s, h⟩ | ⟨s, f, h⟩
  · unfold Format.order
    rw [h, e1, e2]
    cases s <;> rfl
  · unfold Format.order
    rw [h, e1, e2]
    rfl
theorem zcut (neg : Bool) (n d : Nat) : Toward.zero.cut neg n d = n / 2 ^ d := by
  unfold Toward.cut
  simp only [Nat.one_shiftLeft, Bool.toNat_false, Nat.add_zero]
  by_cases h : d ≤ n.log2 + 2
  · rw [Nat.min_eq_left h]
  · rw [Nat.min_eq_right (by omega)]
    have h1 : n < 2 ^ (n.log2 + 1) := Nat.lt_log2_self
    have h2 : 2 ^ (n.log2 + 1) ≤ 2 ^ (n.log2 + 2) := Nat.pow_le_pow_right (by decide) (by omega)
    have h3 : 2 ^ (n.log2 + 1) ≤ 2 ^ d := Nat.pow_le_pow_right (by decide) (by omega)
    rw [Nat.div_eq_of_lt (by omega), Nat.div_eq_of_lt (by omega)]
/-- The whole part, towards nought. -/
theorem V_toInt {b : Nat} {X : Int} (h : V 1074 b X) : (D.read b).toInt .zero = some (X.tdiv (2 ^ 1074)) := by
  unfold V at h
  obtain ⟨s, m, P, e1, e2⟩ := h
  have b1 := read_bound e1
  rw [Nat.sub_self, Int.pow_zero, Int.mul_one] at e2
  rw [e1]
  show some (signed s (Toward.zero.cut s (m <<< P.toNat) (-P).toNat) 0) = _
  congr 1
  rw [zcut, Nat.shiftLeft_eq]
  have key : m * 2 ^ P.toNat / 2 ^ (-P).toNat = m * 2 ^ (P + 1074).toNat / 2 ^ 1074 := by
    by_cases hc : 0 ≤ P
    · rw [show (-P).toNat = 0 by omega, Nat.pow_zero, Nat.div_one, show (P + 1074).toNat = P.toNat + 1074 by omega, Nat.pow_add, ← Nat.mul_assoc, Nat.mul_div_cancel _ (Nat.two_pow_pos 1074)]
    · have hp := Nat.two_pow_pos (P + 1074).toNat
      rw [show P.toNat = 0 by omega, Nat.pow_zero, Nat.mul_one]
      have : (2 : Nat) ^ 1074 = 2 ^ (-P).toNat * 2 ^ (P + 1074).toNat := by rw [← Nat.pow_add]; congr 1; omega
      rw [this, Nat.mul_div_mul_right _ _ hp]
  rw [key, ← e2, signed_eq, signed_eq]
  have hcast : ((m * 2 ^ (P + 1074).toNat / 2 ^ 1074 : Nat) : Int) = ((m : Int) * 2 ^ (P + 1074).toNat).tdiv (2 ^ 1074) := by
    have h1 : ((m : Int) * 2 ^ (P + 1074).toNat) = ((m * 2 ^ (P + 1074).toNat : Nat) : Int) := by rw [Int.natCast_mul, Int.natCast_pow]; rfl
    have h2 : ((2 : Int) ^ 1074) = ((2 ^ 1074 : Nat) : Int) := by rw [Int.natCast_pow]; rfl
    rw [h1, h2]; rfl
  rw [hcast, Int.pow_zero, Int.mul_one]
  cases s
  · simp
  · simp only [if_true, Int.neg_one_mul, Int.neg_tdiv]
theorem V_conv {b : Nat} {X : Int} (h : V 1074 b X) (k : IntKind) (h1 : k.min ≤ X.tdiv (2 ^ 1074)) (h2 : X.tdiv (2 ^ 1074) ≤ k.max) : floatToIntVal .f64 b k = some (X.tdiv (2 ^ 1074)) := by
  unfold floatToIntVal
  rw [show (FloatKind.f64.decode b).toInt .zero = some (X.tdiv (2 ^ 1074)) from V_toInt h]
  exact if_pos ⟨h1, h2⟩
end Go.Fw

namespace Go.Fw
open Go Ieee
set_option exponentiation.threshold 2200
/-- A number of few digits by a power of two. -/
theorem V_div {q a c j : Nat} {n : Int} (h : V q a n) (hc : D.read c = .number false 4503599627370496 (-52 + j)) (h1 : -9007199254740992 < n) (h2 : n < 9007199254740992) (hq : q + j ≤ 900) : ∃ r, D.div a c = some r ∧ V (q + j) r n := by
  unfold V at h
  obtain ⟨s, m, i, e1, e2⟩ := h
  have b1 := read_bound e1
  have hfb : D.fractionBits + 2 = 54 := by decide
  unfold Format.div
  rw [e1, hc, hfb]
  by_cases h0 : m = 0
  · subst h0
    have hn : n = 0 := by
      have h3 : signed s 0 (i + 1074).toNat = 0 := by rw [signed_eq]; cases s <;> simp
      rw [h3] at e2
      exact (Int.mul_eq_zero.1 e2.symm).resolve_right (by have : (0 : Int) < 2 ^ (1074 - q) := Int.pow_pos (by decide)
                                                          omega)
    subst hn
    refine ⟨_, rfl, ?_⟩
    unfold V
    refine ⟨s, 0, -1074, ?_, by rw [signed_eq]; cases s <;> simp⟩
    have : ∀ k : Nat, 0 <<< k = 0 := fun k => Nat.zero_shiftLeft k
    simp only [this, Nat.zero_div, Nat.zero_mod, Nat.mul_zero, Nat.zero_add]
    rw [show (s ^^ false) = s by cases s <;> rfl]
    exact write_read0 _ _
  have hm : 0 < m := by omega
  have h53 : (2 : Nat) ^ 53 = 9007199254740992 := by decide
  have hlog : m.log2 ≤ 52 := by
    have : m.log2 < 53 := (Nat.log2_lt (by omega)).2 (by omega)
    omega
  have hn0 : n ≠ 0 := by
    intro h3
    rw [h3, Int.zero_mul] at e2
    have := congrArg Int.natAbs e2
    rw [signed_abs] at this
    have h5 : m = 0 := (Nat.mul_eq_zero.1 this).resolve_right (by have := Nat.two_pow_pos ((i + 1074).toNat); omega)
    omega
  have hpl := V_place e2 b1.1 b1.2 hn0 (by omega)
  have hup : m.log2 + (i + 1074).toNat < 53 + (1074 - q) := by
    have k1 : 2 ^ m.log2 ≤ m := Nat.log2_self_le (by omega)
    have k2 : 2 ^ m.log2 * 2 ^ (i + 1074).toNat ≤ m * 2 ^ (i + 1074).toNat := Nat.mul_le_mul_right _ k1
    have k3 := congrArg Int.natAbs e2
    rw [signed_abs, Int.natAbs_mul, Int.natAbs_pow] at k3
    rw [← Nat.pow_add, k3] at k2
    have k4 : n.natAbs * (Int.natAbs 2) ^ (1074 - q) < 2 ^ 53 * 2 ^ (1074 - q) := Nat.mul_lt_mul_of_pos_right (by omega) (Nat.two_pow_pos _)
    rw [← Nat.pow_add] at k4
    exact (Nat.pow_lt_pow_iff_right (by decide : 1 < 2)).1 (Nat.lt_of_le_of_lt k2 k4)
  have hl2 : Nat.log2 4503599627370496 = 52 := by decide
  refine ⟨_, by simp only [Datum.quotient, show ¬ (4503599627370496 = 0) by decide, if_false, Option.map_some]; rfl, ?_⟩
  rw [hl2, Nat.shiftLeft_eq]
  obtain ⟨t, ht⟩ : ∃ t, 54 + 52 - m.log2 = 52 + t := ⟨54 - m.log2, by omega⟩
  have ht' : 0 < t := by omega
  have h52 : (2 : Nat) ^ 52 = 4503599627370496 := by decide
  have hd : m * 2 ^ (52 + t) = m * 2 ^ t * 4503599627370496 := by rw [Nat.pow_add, h52, ← Nat.mul_assoc, Nat.mul_right_comm]
  rw [ht, hd, Nat.mul_div_cancel _ (by decide), Nat.mul_mod_left]
  have hmag : 2 * (m * 2 ^ t) + ((0 : Nat) != 0).toNat = m * 2 ^ (t + 1) := by
    show 2 * (m * 2 ^ t) + 0 = _
    rw [Nat.pow_succ]; rw [Nat.add_zero, Nat.mul_comm 2, Nat.mul_assoc]
  have hw : D.write (.number s (m * 2 ^ (t + 1)) (i - (-52 + (j : Int)) - ((52 + t : Nat) : Int) - 1)) = D.write (.number s (m * 2 ^ 0) (i - j)) := by
    show D.nearest s _ _ = D.nearest s (m * 2 ^ 0) _
    rw [nearest_shift s m (t + 1) _ hm (by unfold lst; omega), Nat.pow_zero, Nat.mul_one]
    congr 1; omega
  rw [hmag]
  rw [show (s ^^ false) = s by cases s <;> rfl, hw]
  obtain ⟨M, Q, k1, k2, k3⟩ := write_exact s m 0 (i - j) hm b1.1 (by omega) (by rw [Nat.pow_zero, Nat.mul_one]; omega)
  unfold V
  refine ⟨s, M, Q, k1, ?_⟩
  rw [Nat.pow_zero, Nat.mul_one] at k3
  have hp : (0 : Int) < 2 ^ j := Int.pow_pos (by decide)
  apply Int.eq_of_mul_eq_mul_right (show (2 : Int) ^ j ≠ 0 by omega)
  rw [Int.mul_assoc, ← Int.pow_add, show 1074 - (q + j) + j = 1074 - q by omega, ← e2, signed_eq, signed_eq]
  have k4 := congrArg (Nat.cast : Nat → Int) k3
  push_cast at k4
  rw [k4, Int.mul_assoc, Int.mul_assoc, ← Int.pow_add]
  congr 3
  omega
end Go.Fw

namespace Go.Fw
open Go Ieee
set_option exponentiation.threshold 2200
/-- |x| in units of 2^-1074, rounded to whole numbers, ties to the even one. -/
def evn (n d : Nat) : Nat := n / 2 ^ d + (if 2 ^ d < 2 * (n % 2 ^ d) ∨ (2 ^ d = 2 * (n % 2 ^ d) ∧ n / 2 ^ d % 2 = 1) then 1 else 0)
theorem ecut (neg : Bool) (n d : Nat) : Toward.even.cut neg n d = evn n d := by
  unfold Toward.cut evn
  simp only [Nat.one_shiftLeft]
  by_cases h : d ≤ n.log2 + 2
  · rw [Nat.min_eq_left h]
    congr 1
    by_cases c1 : 2 ^ d < 2 * (n % 2 ^ d)
    · simp [c1]
    · by_cases c2 : 2 ^ d = 2 * (n % 2 ^ d)
      · by_cases c3 : n / 2 ^ d % 2 = 1
        · rw [if_pos (.inr ⟨c2, c3⟩), decide_eq_false c1]
          simp [← c2, c3]
        · rw [if_neg (fun q => q.elim c1 (fun q => c3 q.2)), decide_eq_false c1]
          have : (n / 2 ^ d % 2 == 1) = false := by rw [beq_eq_false_iff_ne]; exact c3
          simp [this]
      · rw [if_neg (fun q => q.elim c1 (fun q => c2 q.1)), decide_eq_false c1]
        have : (2 ^ d == 2 * (n % 2 ^ d)) = false := by rw [beq_eq_false_iff_ne]; exact c2
        simp [this]
  · rw [Nat.min_eq_right (by omega)]
    have h1 : n < 2 ^ (n.log2 + 1) := Nat.lt_log2_self
    have h2 : 2 ^ (n.log2 + 2) = 2 * 2 ^ (n.log2 + 1) := by rw [Nat.pow_succ 2 (n.log2 + 1), Nat.mul_comm]
    have h3 : 2 ^ (n.log2 + 2) ≤ 2 ^ d := Nat.pow_le_pow_right (by decide) (by omega)
    have g1 : n < 2 ^ (n.log2 + 2) := by omega
    have g2 : n < 2 ^ d := by omega
    rw [Nat.div_eq_of_lt g1, Nat.div_eq_of_lt g2, Nat.mod_eq_of_lt g1, Nat.mod_eq_of_lt g2]
    have g3 : 2 * n < 2 ^ (n.log2 + 2) := by omega
    have g4 : 2 * n < 2 ^ d := by omega
    rw [if_neg (by omega), decide_eq_false (by omega)]
    have : (2 ^ (n.log2 + 2) == 2 * n) = false := by rw [beq_eq_false_iff_ne]; omega
    simp [this]
theorem evn_shift (m a b : Nat) : evn (m * 2 ^ a) (b + a) = evn m b := by
  unfold evn
  have hp := Nat.two_pow_pos a
  have h1 : m * 2 ^ a / 2 ^ (b + a) = m / 2 ^ b := by rw [Nat.pow_add, Nat.mul_div_mul_right _ _ hp]
  have h2 : m * 2 ^ a % 2 ^ (b + a) = m % 2 ^ b * 2 ^ a := by rw [Nat.pow_add, Nat.mul_mod_mul_right]
  rw [h1, h2, Nat.pow_add]
  have h3 : (2 ^ b * 2 ^ a < 2 * (m % 2 ^ b * 2 ^ a)) ↔ (2 ^ b < 2 * (m % 2 ^ b)) := by
    rw [← Nat.mul_assoc]; exact ⟨fun q => Nat.lt_of_mul_lt_mul_right q, fun q => Nat.mul_lt_mul_of_pos_right q hp⟩
  have h4 : (2 ^ b * 2 ^ a = 2 * (m % 2 ^ b * 2 ^ a)) ↔ (2 ^ b = 2 * (m % 2 ^ b)) := by
    rw [← Nat.mul_assoc]; exact ⟨fun q => Nat.eq_of_mul_eq_mul_right hp q, fun q => congrArg (· * 2 ^ a) q⟩
  simp only [h3, h4]
/-- The nearest whole number, of a number told in units of 2 ^ -1074. -/
def nrst (X : Int) : Int := (if X < 0 then -1 else 1) * ((evn X.natAbs 1074 : Nat) : Int)
theorem evn_zero (n : Nat) : evn n 0 = n := by
  unfold evn
  rw [Nat.pow_zero, Nat.div_one, Nat.mod_one, if_neg (by omega), Nat.add_zero]
theorem int_cut (way : Toward) (f : Nat → Nat → Nat) (hf : ∀ neg n d, way.cut neg n d = f n d) (h0 : ∀ n, f n 0 = n) (hs : ∀ m a b, f (m * 2 ^ a) (b + a) = f m b) (m : Nat) (P : Int) (hP : -1074 ≤ P) (s : Bool) : way.cut s (m <<< P.toNat) (-P).toNat = f (m * 2 ^ (P + 1074).toNat) 1074 := by
  rw [hf, Nat.shiftLeft_eq]
  by_cases hc : 0 ≤ P
  · rw [show (-P).toNat = 0 by omega, show (P + 1074).toNat = P.toNat + 1074 by omega, Nat.pow_add, ← Nat.mul_assoc]
    have := hs (m * 2 ^ P.toNat) 1074 0
    rw [Nat.zero_add] at this
    rw [this]
  · have := hs m (P + 1074).toNat (-P).toNat
    rw [show (-P).toNat + (P + 1074).toNat = 1074 by omega] at this
    rw [this, show P.toNat = 0 by omega, Nat.pow_zero, Nat.mul_one]
theorem integral_V {b : Nat} {X : Int} {f : Nat → Nat → Nat} (way : Toward) (hf : ∀ neg n d, way.cut neg n d = f n d) (h0 : ∀ n, f n 0 = n) (hs : ∀ m a b, f (m * 2 ^ a) (b + a) = f m b) (h : V 1074 b X) (hb : f X.natAbs 1074 < 9007199254740992) :
    V 0 (D.write ((D.read b).integral way)) ((if X < 0 then -1 else 1) * ((f X.natAbs 1074 : Nat) : Int)) ∧ ∃ s m P, D.read b = .number s m P := by
  unfold V at h
  obtain ⟨s, m, P, e1, e2⟩ := h
  have b1 := read_bound e1
  refine ⟨?_, s, m, P, e1⟩
  rw [Nat.sub_self, Int.pow_zero, Int.mul_one] at e2
  have hN : X.natAbs = m * 2 ^ (P + 1074).toNat := by rw [← e2, signed_abs]
  rw [e1]
  show V 0 (D.write (.number s (way.cut s (m <<< P.toNat) (-P).toNat) 0)) _
  rw [int_cut way f hf h0 hs m P b1.2 s, ← hN]
  generalize hF : f X.natAbs 1074 = F at *
  by_cases hF0 : F = 0
  · subst hF0
    unfold V
    exact ⟨s, 0, -1074, write_read0 s 0, by rw [signed_eq]; cases s <;> simp⟩
  have hX0 : X ≠ 0 := by
    intro q
    rw [q] at hF
    have := hs 0 1074 0
    rw [Nat.zero_mul, Nat.zero_add, h0] at this
    have e : Int.natAbs 0 = 0 := rfl
    rw [e] at hF
    omega
  have hs' : s = decide (X < 0) := by
    rw [signed_eq] at e2
    have hpos : (0 : Int) ≤ (m : Int) * 2 ^ (P + 1074).toNat := Int.mul_nonneg (by omega) (Int.le_of_lt (Int.pow_pos (by decide)))
    cases s
    · simp at e2
      symm; rw [decide_eq_false_iff_not]; omega
    · simp only [if_true] at e2
      symm; rw [decide_eq_true_iff]; omega
  have hval : ((if X < 0 then -1 else 1) * (F : Int)).natAbs = F := by split <;> omega
  have := V_write (q := 0) (base := 0) (tot := (if X < 0 then -1 else 1) * (F : Int)) (w := s) (x := (if X < 0 then -1 else 1) * (F : Int)) (.inl (by rw [hs']; congr 1; split <;> simp <;> omega)) (.inr (by omega)) rfl (by split <;> omega) (by split <;> omega) (by omega)
  rw [hval] at this
  exact this
end Go.Fw

namespace Go.Fw
open Go Ieee
set_option exponentiation.threshold 2200
theorem pow_pos' (k : Nat) : (0 : Int) < 2 ^ k := Int.pow_pos (by decide)
theorem sub_zero' {b c : Nat} {Y : Int} (h : V 1074 b Y) (hc : D.read c = .number false 0 (-1074)) (hY : Y.natAbs < 2 ^ 2097) : ∃ r, D.sub b c = some r ∧ V 1074 r Y := by
  unfold V at h
  obtain ⟨s, m, P, e1, e2⟩ := h
  have b1 := read_bound e1
  rw [Nat.sub_self, Int.pow_zero, Int.mul_one] at e2
  unfold Format.sub
  rw [e1, hc]
  refine ⟨_, rfl, ?_⟩
  have hz : signed (!false) 0 ((-1074 : Int) - min P (-1074)).toNat = 0 := by rw [signed_eq]; simp
  show V 1074 (D.write (.number (if signed s m (P - min P (-1074)).toNat + signed (!false) 0 ((-1074 : Int) - min P (-1074)).toNat = 0 then s && !false else _) (signed s m (P - min P (-1074)).toNat + signed (!false) 0 ((-1074 : Int) - min P (-1074)).toNat).natAbs (min P (-1074)))) Y
  rw [hz, Int.add_zero, show min P (-1074) = -1074 by omega, show P - -1074 = P + 1074 by omega, e2]
  have hN : Y.natAbs = m * 2 ^ (P + 1074).toNat := by rw [← e2, signed_abs]
  by_cases h0 : Y = 0
  · rw [if_pos h0, h0]
    unfold V
    exact ⟨_, 0, -1074, write_read0 _ _, by rw [signed_eq]; cases (s && !false) <;> simp⟩
  rw [if_neg h0, hN]
  have hm : 0 < m := by
    rcases Nat.eq_zero_or_pos m with q | q
    · rw [q, Nat.zero_mul] at hN; omega
    · exact q
  have hlt : (m * 2 ^ (P + 1074).toNat).log2 < 2097 := (Nat.log2_lt (by omega)).2 (by rw [← hN]; exact hY)
  obtain ⟨M, Q, k1, k2, k3⟩ := write_exact (decide (Y < 0)) m (P + 1074).toNat (-1074) hm b1.1 (by omega) (by omega)
  unfold V
  refine ⟨decide (Y < 0), M, Q, k1, ?_⟩
  rw [show ((-1074 : Int) + 1074).toNat = 0 by omega, Nat.pow_zero, Nat.mul_one, ← hN] at k3
  rw [signed_eq, Nat.sub_self, Int.pow_zero, Int.mul_one]
  have k4 := congrArg (Nat.cast : Nat → Int) k3
  push_cast at k4
  rw [k4]
  by_cases hn : Y < 0
  · rw [decide_eq_true hn, if_pos rfl]; omega
  · rw [decide_eq_false hn, if_neg (by decide)]; omega
/-- 1 less a number below one half: what is written is one half or more. -/
theorem sub_half {b c : Nat} {m : Nat} {P : Int} (h : D.read b = .number true m P) (hc : D.read c = .number true 4503599627370496 (-52)) (hm : 0 < m) (hP : P < -53) : ∃ r Z, D.sub b c = some r ∧ V 1074 r Z ∧ 2 ^ 1073 ≤ Z := by
  have b1 := read_bound h
  unfold Format.sub
  rw [h, hc]
  obtain ⟨u, hu⟩ : ∃ u : Nat, P = -54 - (u : Int) := ⟨(-54 - P).toNat, by omega⟩
  subst hu
  have h52 : (2 : Nat) ^ 52 = 4503599627370496 := by decide
  have hS : signed true m ((-54 - (u : Int)) - min (-54 - (u : Int)) (-52)).toNat + signed (!true) 4503599627370496 ((-52 : Int) - min (-54 - (u : Int)) (-52)).toNat = ((2 ^ (u + 54) - m : Nat) : Int) := by
    rw [show min (-54 - (u : Int)) (-52) = -54 - (u : Int) by omega, show (-54 - (u : Int) - (-54 - (u : Int))).toNat = 0 by omega, show ((-52 : Int) - (-54 - (u : Int))).toNat = u + 2 by omega, signed_eq, signed_eq]
    have h54 : m ≤ 2 ^ (u + 54) := by
      have : (2 : Nat) ^ 54 ≤ 2 ^ (u + 54) := Nat.pow_le_pow_right (by decide) (by omega)
      have h54 : (2 : Nat) ^ 54 = 18014398509481984 := by decide
      omega
    have e : (2 : Nat) ^ (u + 54) = 4503599627370496 * 2 ^ (u + 2) := by rw [← h52, ← Nat.pow_add]; congr 1; omega
    rw [Int.natCast_sub h54, e, Int.natCast_mul, Int.natCast_pow, if_pos rfl, if_neg (by decide), Int.pow_zero]
    have e2 : (((2 : Nat) : Int)) = 2 := rfl
    rw [e2]
    omega
  have hgoal : ∀ r, D.write (.number (if signed true m ((-54 - (u : Int)) - min (-54 - (u : Int)) (-52)).toNat + signed (!true) 4503599627370496 ((-52 : Int) - min (-54 - (u : Int)) (-52)).toNat = 0 then true && !true else decide (signed true m ((-54 - (u : Int)) - min (-54 - (u : Int)) (-52)).toNat + signed (!true) 4503599627370496 ((-52 : Int) - min (-54 - (u : Int)) (-52)).toNat < 0)) (signed true m ((-54 - (u : Int)) - min (-54 - (u : Int)) (-52)).toNat + signed (!true) 4503599627370496 ((-52 : Int) - min (-54 - (u : Int)) (-52)).toNat).natAbs (min (-54 - (u : Int)) (-52))) = r → (∃ Z, V 1074 r Z ∧ 2 ^ 1073 ≤ Z) → ∃ r Z, Option.map D.write ((Datum.number true m (-54 - (u : Int))).sum (Datum.number true 4503599627370496 (-52)).opposite) = some r ∧ V 1074 r Z ∧ 2 ^ 1073 ≤ Z := by
    rintro r rfl ⟨Z, h1, h2⟩
    exact ⟨_, Z, rfl, h1, h2⟩
  refine hgoal _ rfl ?_
  rw [hS]
  have hT1 : 2 ^ (u + 53) < 2 ^ (u + 54) - m := by
    have e1 : (2 : Nat) ^ (u + 54) = 2 * 2 ^ (u + 53) := by rw [show u + 54 = (u + 53) + 1 by omega, Nat.pow_succ, Nat.mul_comm]
    have : (2 : Nat) ^ 53 ≤ 2 ^ (u + 53) := Nat.pow_le_pow_right (by decide) (by omega)
    have h53 : (2 : Nat) ^ 53 = 9007199254740992 := by decide
    omega
  have hT2 : 2 ^ (u + 54) - m < 2 ^ (u + 54) := by have := Nat.two_pow_pos (u + 54); omega
  generalize 2 ^ (u + 54) - m = T at *
  have hT0 : 0 < T := Nat.lt_of_le_of_lt (Nat.zero_le _) hT1
  rw [if_neg (show ¬ ((T : Nat) : Int) = 0 by omega), decide_eq_false (show ¬ ((T : Nat) : Int) < 0 by omega), Int.natAbs_natCast, show min (-54 - (u : Int)) (-52) = -54 - (u : Int) by omega]
  have hlog : T.log2 = u + 53 := by
    have g1 : T.log2 < u + 54 := (Nat.log2_lt (by omega)).2 hT2
    have g2 : u + 53 ≤ T.log2 := (Nat.le_log2 (by omega)).2 (by omega)
    omega
  have hl : lst T (-54 - (u : Int)) = -53 := by unfold lst; rw [hlog]; omega
  have hk1 : 4503599627370496 ≤ evn T (u + 1) := by
    unfold evn
    have : 2 ^ 52 ≤ T / 2 ^ (u + 1) := by
      rw [Nat.le_div_iff_mul_le (Nat.two_pow_pos _), ← Nat.pow_add, show 52 + (u + 1) = u + 53 by omega]; omega
    omega
  have hk2 : evn T (u + 1) ≤ 9007199254740992 := by
    unfold evn
    have : T / 2 ^ (u + 1) < 2 ^ 53 := by
      rw [Nat.div_lt_iff_lt_mul (Nat.two_pow_pos _), ← Nat.pow_add, show 53 + (u + 1) = u + 54 by omega]; exact hT2
    have h53 : (2 : Nat) ^ 53 = 9007199254740992 := by decide
    split <;> omega
  have hw : D.write (.number false T (-54 - (u : Int))) = D.word false (1021 * 4503599627370496 + evn T (u + 1)) := by
    show D.nearest false T _ = _
    unfold Format.nearest
    rw [if_neg (by omega), d_least, d_bin, d_inf]
    show D.word false (min ((lst T (-54 - (u : Int)) - -1074).toNat * 4503599627370496 + Toward.even.cut false (T <<< (-54 - (u : Int) - lst T (-54 - (u : Int))).toNat) (lst T (-54 - (u : Int)) - (-54 - (u : Int))).toNat) 9218868437227405312) = _
    rw [hl, show (-54 - (u : Int) - -53).toNat = 0 by omega, show ((-53 : Int) - (-54 - (u : Int))).toNat = u + 1 by omega, Nat.shiftLeft_zero, ecut, Nat.min_eq_left (by omega)]
    congr 2
  rw [hw]
  generalize evn T (u + 1) = K at *
  have hr := read_word false (1021 * 4503599627370496 + K) (by omega)
  rw [if_neg (by omega)] at hr
  refine ⟨_, V_fin hr, ?_⟩
  rw [signed_eq, if_neg (by decide), Int.one_mul]
  have hq : 1021 ≤ ((1021 * 4503599627370496 + K) / 4503599627370496 - 1) := by omega
  generalize (1021 * 4503599627370496 + K) / 4503599627370496 - 1 = q at *
  generalize (1021 * 4503599627370496 + K) % 4503599627370496 = z
  rw [show (-1074 + (q : Int) + 1074).toNat = q by omega]
  have e1 : (2 : Int) ^ 1073 = 2 ^ 52 * 2 ^ 1021 := by rw [← Int.pow_add]
  have e2 : (2 : Int) ^ 1021 ≤ 2 ^ q := by
    have := Nat.pow_le_pow_right (show 0 < 2 by decide) hq
    exact_mod_cast this
  have e3 : (2 : Int) ^ 52 ≤ ((4503599627370496 + z : Nat) : Int) := by
    have : (2 : Int) ^ 52 = 4503599627370496 := by decide
    omega
  rw [e1]
  exact Int.mul_le_mul e3 e2 (Int.le_of_lt (pow_pos' _)) (by omega)
end Go.Fw

namespace Go.Fw
open Go Ieee
set_option exponentiation.threshold 2200
/-- One, in the least units. -/
def U : Int := 2 ^ 1074
def H : Int := 2 ^ 1073
theorem U_pos : 0 < U := pow_pos' 1074
theorem H_pos : 0 < H := pow_pos' 1073
theorem U_H : U = 2 * H := by
  unfold U H
  rw [show (1074 : Nat) = 1073 + 1 by rfl, Int.pow_succ, Int.mul_comm]
theorem V0_U {b : Nat} {n : Int} (h : V 0 b n) : V 1074 b (n * U) := by
  have := V_all h (Nat.zero_le _)
  rw [Nat.sub_zero] at this
  unfold U
  exact this
theorem pow_mono {a b : Nat} (h : a ≤ b) : (2 : Int) ^ a ≤ 2 ^ b := by
  have := Nat.pow_le_pow_right (show 0 < 2 by decide) h
  exact_mod_cast this
theorem H_split {q : Nat} (h : q ≤ 1074) : U = 2 ^ q * 2 ^ (1074 - q) := by
  unfold U; rw [← Int.pow_add]; congr 1; omega
attribute [irreducible] U H
theorem small_P {s : Bool} {m : Nat} {P : Int} (hm : m < 9007199254740992) (hP : P < -53) (hP2 : -1074 ≤ P) : -H < signed s m (P + 1074).toNat ∧ signed s m (P + 1074).toNat < H := by
  have h53 : (2 : Int) ^ 53 = 9007199254740992 := by decide
  have hp := pow_pos' (P + 1074).toNat
  have h1 : ((m : Int) * 2 ^ (P + 1074).toNat) < 2 ^ 53 * 2 ^ (P + 1074).toNat := Int.mul_lt_mul_of_pos_right (by omega) hp
  have h2 : (2 : Int) ^ 53 * 2 ^ (P + 1074).toNat ≤ H := by
    rw [← Int.pow_add]
    unfold H
    exact pow_mono (by omega)
  have h4 : 0 ≤ (m : Int) * 2 ^ (P + 1074).toNat := Int.mul_nonneg (by omega) (Int.le_of_lt hp)
  rw [signed_eq]
  cases s
  · rw [if_neg (by decide)]; omega
  · rw [if_pos rfl]; omega
/-- What is left above the whole number below: told rightly enough to round by. -/
theorem rest_in {y : Nat} {Y n : Int} (hy : V 1074 y Y) (h1 : n * U ≤ Y) (h2 : Y < (n + 1) * U) (hb : -9007199254740992 < n) (hb2 : n < 9007199254740992) (hY : Y.natAbs < 2 ^ 2097) :
    ∃ r Z, D.sub y (floatOfInt .f64 n) = some r ∧ V 1074 r Z ∧ ((H < Z ∨ (Z = H ∧ n % 2 = 1)) ↔ (H < Y - n * U ∨ (Y - n * U = H ∧ n % 2 = 1))) := by
  have hc := V_ofInt n hb hb2
  have hU := U_pos
  have hUH := U_H
  have hH := H_pos
  have hy0 := hy
  unfold V at hy
  obtain ⟨s, m, P, e1, e2⟩ := hy
  have b1 := read_bound e1
  rw [Nat.sub_self, Int.pow_zero, Int.mul_one] at e2
  rw [Int.add_mul, Int.one_mul] at h2
  by_cases hn0 : n = 0
  · subst hn0
    obtain ⟨r, k1, k2⟩ := sub_zero' hy0 (show D.read (floatOfInt .f64 0) = .number false 0 (-1074) by decide) hY
    exact ⟨r, Y, k1, k2, by rw [Int.zero_mul, Int.sub_zero]⟩
  by_cases hP : P < -53
  · have hs := small_P (s := s) b1.1 hP b1.2
    rw [e2] at hs
    have hn1 : n = -1 := by
      rcases Int.lt_or_le n (-1) with q | q
      · exfalso
        have : n * U ≤ (-2) * U := Int.mul_le_mul_of_nonneg_right (by omega) (by omega)
        omega
      · rcases Int.lt_or_le 0 n with q2 | q2
        · exfalso
          have : 1 * U ≤ n * U := Int.mul_le_mul_of_nonneg_right (by omega) (by omega)
          omega
        · omega
    subst hn1
    rw [Int.neg_one_mul] at h1 h2 ⊢
    have hneg : Y < 0 := by omega
    have hst : s = true ∧ 0 < m := by
      rw [signed_eq] at e2
      have hp := pow_pos' (P + 1074).toNat
      have h4 : 0 ≤ (m : Int) * 2 ^ (P + 1074).toNat := Int.mul_nonneg (by omega) (Int.le_of_lt hp)
      cases s
      · rw [if_neg (by decide)] at e2; omega
      · refine ⟨rfl, ?_⟩
        rcases Nat.eq_zero_or_pos m with q | q
        · subst q; rw [if_pos rfl] at e2; simp at e2; omega
        · exact q
    obtain ⟨rfl, hm⟩ := hst
    obtain ⟨r, Z, k1, k2, k3⟩ := sub_half e1 (show D.read (floatOfInt .f64 (-1)) = .number true 4503599627370496 (-52) by decide) hm hP
    have k3 : H ≤ Z := by unfold H; exact k3
    refine ⟨r, Z, k1, k2, ?_⟩
    constructor
    · intro _; left; omega
    · intro _
      rcases Int.lt_or_le H Z with q | q
      · exact .inl q
      · exact .inr ⟨by omega, by decide⟩
  · obtain ⟨q, hq, hq2⟩ : ∃ q : Nat, q ≤ 53 ∧ 0 ≤ P + q ∧ (q = 0 ∨ P + q = 0) := ⟨(-P).toNat, by omega, by omega, by omega⟩
    have hsplit := H_split (q := q) (by omega)
    have hp := pow_pos' (1074 - q)
    have hVq : V q y (signed s m (P + q).toNat) := by
      unfold V
      exact ⟨s, m, P, e1, by rw [signed_shift]; congr 1; omega⟩
    have hYx : Y = signed s m (P + q).toNat * 2 ^ (1074 - q) := by rw [← e2, signed_shift]; congr 1; omega
    generalize signed s m (P + q).toNat = x at *
    have hcq : V q (floatOfInt .f64 n) (n * 2 ^ q) := by
      have := V_up hc q (by omega)
      rw [Nat.zero_add] at this
      exact this
    have hE : Y - n * U = (x - n * 2 ^ q) * 2 ^ (1074 - q) := by rw [hYx, hsplit, Int.sub_mul, Int.mul_assoc]
    have hx0 : 0 ≤ x - n * 2 ^ q := by
      apply Classical.byContradiction; intro hlt
      have := Int.mul_neg_of_neg_of_pos (show x - n * 2 ^ q < 0 by omega) hp
      omega
    have hx1 : x - n * 2 ^ q < 2 ^ q := by
      apply Classical.byContradiction; intro hge
      have := Int.mul_le_mul_of_nonneg_right (show (2 : Int) ^ q ≤ x - n * 2 ^ q by omega) (Int.le_of_lt hp)
      omega
    have hq53 : (2 : Int) ^ q ≤ 9007199254740992 := by
      have h8 : (2 : Int) ^ q ≤ 2 ^ 53 := pow_mono hq
      have h9 : (2 : Int) ^ 53 = 9007199254740992 := by decide
      omega
    obtain ⟨r, k1, k2⟩ := V_sub hVq hcq (by omega) (by omega) (by omega)
    refine ⟨r, Y - n * U, k1, ?_, Iff.rfl⟩
    rw [hE]
    exact V_all k2 (by omega)
end Go.Fw

namespace Go.Fw
open Go Ieee
set_option exponentiation.threshold 2200
theorem fl_uniq {n a W f : Int} (hW : 0 < W) (h0 : 0 ≤ f) (hf : f < W) (h1 : n * W ≤ a * W + f) (h2 : a * W + f < (n + 1) * W) : n = a := by
  rcases Int.lt_trichotomy n a with q | q | q
  · have := Int.mul_le_mul_of_nonneg_right (show n + 1 ≤ a by omega) (Int.le_of_lt hW); omega
  · exact q
  · have := Int.mul_le_mul_of_nonneg_right (show a + 1 ≤ n by omega) (Int.le_of_lt hW)
    rw [Int.add_mul, Int.one_mul] at this; omega
theorem U_nat : U = ((2 ^ 1074 : Nat) : Int) := by unfold U; rw [Int.natCast_pow]; rfl
theorem nrst_floor {Y n : Int} (h1 : n * U ≤ Y) (h2 : Y < (n + 1) * U) : nrst Y = if H < Y - n * U ∨ (Y - n * U = H ∧ n % 2 = 1) then n + 1 else n := by
  have hU := U_pos
  have hUH := U_H
  have hUn := U_nat
  unfold nrst evn
  have hdm := Nat.div_add_mod Y.natAbs (2 ^ 1074)
  have hml := Nat.mod_lt Y.natAbs (Nat.two_pow_pos 1074)
  generalize Y.natAbs % 2 ^ 1074 = f at *
  generalize Y.natAbs / 2 ^ 1074 = a at *
  generalize (2 : Nat) ^ 1074 = W at *
  have hdi : (a : Int) * U + f = (Y.natAbs : Int) := by
    rw [hUn, ← hdm]; push_cast; rw [Int.mul_comm]
  by_cases hY : Y < 0
  · rw [if_pos hY]
    by_cases hf : f = 0
    · have hn : n = -(a : Int) := by
        refine fl_uniq (f := 0) hU (by omega) hU ?_ ?_
        · rw [Int.neg_mul]; omega
        · rw [Int.neg_mul]; omega
      have hE : Y - n * U = 0 := by rw [hn, Int.neg_mul]; omega
      rw [hE, if_neg (by omega), if_neg (by omega), hn]; omega
    · have hn : n = -(a : Int) - 1 := by
        refine fl_uniq (f := U - f) hU (by omega) (by omega) ?_ ?_
        · rw [Int.sub_mul, Int.neg_mul]; omega
        · rw [Int.sub_mul, Int.neg_mul]; omega
      have hE : Y - n * U = U - f := by rw [hn, Int.sub_mul, Int.neg_mul]; omega
      rw [hE]
      split <;> split <;> omega
  · rw [if_neg hY]
    have hn : n = (a : Int) := by
      refine fl_uniq (f := f) hU (by omega) (by omega) ?_ ?_ <;> omega
    have hE : Y - n * U = f := by rw [hn]; omega
    rw [hE]
    split <;> split <;> omega
/-- The whole part and the floor. -/
theorem tdiv_floor {Y t : Int} (ht : t = Y.tdiv U) : (Y < t * U → (t - 1) * U ≤ Y ∧ Y < (t - 1 + 1) * U) ∧ (t * U ≤ Y → Y < (t + 1) * U) := by
  have hU := U_pos
  have h1 : U * t + Y.tmod U = Y := by rw [ht]; exact Int.mul_tdiv_add_tmod Y U
  have h2 : Y.tmod U < U := Int.tmod_lt_of_pos Y hU
  have h3 : -U < Y.tmod U := by
    have h4 := Int.tmod_lt_of_pos (-Y) hU
    rw [Int.neg_tmod] at h4
    omega
  rw [Int.mul_comm] at h1
  rw [Int.sub_mul, Int.add_mul, Int.add_mul, Int.sub_mul, Int.one_mul]
  constructor
  · intro q; constructor <;> omega
  · intro q; omega
theorem read_abs (b : Nat) : D.read (b % 9223372036854775808) = match D.read b with | .number _ m P => .number false m P | .infinity _ => .infinity false | .nan _ f => .nan false f := by
  unfold Format.read
  rw [d_sw]
  have e1 : b % 9223372036854775808 / 9223372036854775808 % 2 = 0 := by omega
  have e2 : b % 9223372036854775808 % 9223372036854775808 = b % 9223372036854775808 := by omega
  simp only [e1, e2]
  split
  · rfl
  · split
    · rfl
    · split <;> rfl
theorem V_abs {b : Nat} {X : Int} (h : V 1074 b X) : V 1074 (b % 9223372036854775808) X.natAbs := by
  unfold V at h
  obtain ⟨s, m, P, e1, e2⟩ := h
  rw [Nat.sub_self, Int.pow_zero, Int.mul_one] at e2
  have := V_fin (b := b % 9223372036854775808) (s := false) (m := m) (P := P) (by rw [read_abs, e1])
  rw [← e2, signed_abs]
  rw [signed_eq, if_neg (by decide), Int.one_mul] at this
  rw [Int.natCast_mul, Int.natCast_pow]
  exact this
theorem wild_abs {b d : Nat} {z : Int} {q : Nat} (h : Wild b) (hd : V q d z) : (D.order (b % 9223372036854775808) d == some .lt || D.order (b % 9223372036854775808) d == some .eq) = false := by
  unfold V at hd
  obtain ⟨s2, m2, P2, e2, -⟩ := hd
  unfold Format.order
  rw [read_abs, e2]
  rcases h with ⟨s, h⟩ | ⟨s, f, h⟩
  · rw [h]; rfl
  · rw [h]; rfl
end Go.Fw

namespace Go.Fw
open Go Ieee
set_option exponentiation.threshold 2200
theorem V_leb {q a b : Nat} {x y : Int} (ha : V q a x) (hb : V q b y) : (D.order a b == some .lt || D.order a b == some .eq) = decide (x ≤ y) := by
  rw [V_ltb ha hb, V_eqb ha hb]
  by_cases h1 : x < y
  · rw [decide_eq_true h1, decide_eq_true (Int.le_of_lt h1)]; rfl
  · by_cases h2 : x = y
    · rw [decide_eq_false h1, decide_eq_true h2, decide_eq_true (show x ≤ y by omega)]; rfl
    · rw [decide_eq_false h1, decide_eq_false h2, decide_eq_false (show ¬ x ≤ y by omega)]; rfl
theorem V_gtb {q a b : Nat} {x y : Int} (ha : V q a x) (hb : V q b y) : (D.order a b == some .gt) = decide (y < x) := by
  rw [V_order ha hb]
  by_cases h : y < x
  · rw [decide_eq_true h, Int.compare_eq_gt.2 h]; rfl
  · rw [decide_eq_false h]
    have : compare x y ≠ .gt := fun q => h (Int.compare_eq_gt.1 q)
    cases hc : compare x y
    · rfl
    · rfl
    · exact absurd hc this
theorem V_geb {q a b : Nat} {x y : Int} (ha : V q a x) (hb : V q b y) : (D.order a b == some .gt || D.order a b == some .eq) = decide (y ≤ x) := by
  rw [V_gtb ha hb, V_eqb ha hb]
  by_cases h1 : y < x
  · rw [decide_eq_true h1, decide_eq_true (Int.le_of_lt h1)]; rfl
  · by_cases h2 : x = y
    · rw [decide_eq_false h1, decide_eq_true h2, decide_eq_true (show y ≤ x by omega)]; rfl
    · rw [decide_eq_false h1, decide_eq_false h2, decide_eq_false (show ¬ y ≤ x by omega)]; rfl
theorem V_cP : V 1074 4652218415073722368 (1024 * U) := V0_U (V_lit (q := 0) (s := false) (m := 4503599627370496) (i := -42) (by decide) (by decide) (by decide))
theorem V_cM : V 1074 13875590451928498176 ((-1024) * U) := V0_U (V_lit (q := 0) (s := true) (m := 4503599627370496) (i := -42) (by decide) (by decide) (by decide))
theorem V_cH : V 1074 4602678819172646912 H := by
  have := V_up V_half 1073 (by decide)
  unfold H
  rw [Int.one_mul] at this
  exact this
structure InE (b : Nat) (X : Int) : Prop where
  v : V 1074 b X
  lo : (-1024) * U ≤ X
  hi : X ≤ 1024 * U
structure OutE (b : Nat) : Prop where
  two : ((D.order b 13875590451928498176 == some .gt || D.order b 13875590451928498176 == some .eq) && (D.order b 4652218415073722368 == some .lt || D.order b 4652218415073722368 == some .eq)) = false
  abs : (D.order (b % 9223372036854775808) 4652218415073722368 == some .lt || D.order (b % 9223372036854775808) 4652218415073722368 == some .eq) = false
theorem in_or (b : Nat) : (∃ X, InE b X) ∨ OutE b := by
  have hU := U_pos
  rcases fin_or b with ⟨X, h⟩ | h
  · by_cases h1 : (-1024) * U ≤ X
    · by_cases h2 : X ≤ 1024 * U
      · exact .inl ⟨X, h, h1, h2⟩
      · refine .inr ⟨?_, ?_⟩
        · rw [V_geb h V_cM, V_leb h V_cP, decide_eq_false h2, Bool.and_false]
        · rw [V_leb (V_abs h) V_cP]; exact decide_eq_false (by omega)
    · refine .inr ⟨?_, ?_⟩
      · rw [V_geb h V_cM, decide_eq_false h1, Bool.false_and]
      · rw [V_leb (V_abs h) V_cP]; exact decide_eq_false (by omega)
  · exact .inr ⟨wild_out h V_cM V_cP, wild_abs h V_cP⟩
theorem InE.ge {b : Nat} {X : Int} (h : InE b X) : (D.order b 13875590451928498176 == some .gt || D.order b 13875590451928498176 == some .eq) = true := by rw [V_geb h.v V_cM]; exact decide_eq_true h.lo
theorem InE.le {b : Nat} {X : Int} (h : InE b X) : (D.order b 4652218415073722368 == some .lt || D.order b 4652218415073722368 == some .eq) = true := by rw [V_leb h.v V_cP]; exact decide_eq_true h.hi
theorem InE.ab {b : Nat} {X : Int} (h : InE b X) : (D.order (b % 9223372036854775808) 4652218415073722368 == some .lt || D.order (b % 9223372036854775808) 4652218415073722368 == some .eq) = true := by
  have h1 := h.lo
  have h2 := h.hi
  rw [V_leb (V_abs h.v) V_cP]; exact decide_eq_true (by omega)
theorem InE.natAbs_lt {b : Nat} {X : Int} (h : InE b X) : X.natAbs < 2 ^ 1085 := by
  have h1 := h.lo
  have h2 := h.hi
  have hUn := U_nat
  have e : (2 : Nat) ^ 1085 = 2048 * 2 ^ 1074 := by rw [show (1085 : Nat) = 11 + 1074 by rfl, Nat.pow_add]
  have hp := Nat.two_pow_pos 1074
  rw [e]
  generalize (2 : Nat) ^ 1074 = W at *
  omega
theorem InE.mul {b : Nat} {X : Int} (h : InE b X) : ∃ y, D.mul b 4661225614328463360 = some y ∧ V 1074 y (X * 4096) := by
  have hn := h.natAbs_lt
  obtain ⟨r, k1, k2⟩ := V_scale (j := 12) h.v (c := 4661225614328463360) (by decide) (Nat.lt_of_lt_of_le hn (Nat.pow_le_pow_right (by decide) (by decide))) (by decide)
  exact ⟨r, k1, k2⟩
end Go.Fw

namespace Go.Fw
open Go Ieee
set_option exponentiation.threshold 2200
theorem tdiv_nat (Y : Int) : (if Y < 0 then -1 else 1) * ((Y.natAbs / 2 ^ 1074 : Nat) : Int) = Y.tdiv U := by
  have hUn := U_nat
  rw [hUn]
  generalize (2 : Nat) ^ 1074 = W
  by_cases h : Y < 0
  · rw [if_pos h]
    obtain ⟨k, rfl⟩ : ∃ k : Nat, Y = -(k : Int) := ⟨Y.natAbs, by omega⟩
    rw [Int.neg_tdiv, Int.natAbs_neg, Int.natAbs_natCast, Int.neg_one_mul]; rfl
  · rw [if_neg h]
    obtain ⟨k, rfl⟩ : ∃ k : Nat, Y = (k : Int) := ⟨Y.natAbs, by omega⟩
    rw [Int.natAbs_natCast, Int.one_mul]; rfl
theorem U_pow : U = 2 ^ 1074 := by unfold U; rfl
structure Pk (b : Nat) (X : Int) (y : Nat) (t : Int) : Prop where
  mul : floatBits .mul .f64 b 4661225614328463360 = some y
  v : V 1074 y (X * 4096)
  tt : t = (X * 4096).tdiv U
  lo : -4194304 ≤ t
  hi : t ≤ 4194304
  c64 : floatToIntVal .f64 y .i64 = some t
  c32 : floatToIntVal .f64 y .i32 = some t
  num : ∃ s m P, D.read y = .number s m P
  tr : V 0 (D.write ((D.read y).integral .zero)) t
  ev : V 0 (D.write ((D.read y).integral .even)) (nrst (X * 4096))
  nr : -4194305 ≤ nrst (X * 4096) ∧ nrst (X * 4096) ≤ 4194305
  big : (X * 4096).natAbs < 2 ^ 2097
theorem InE.pk {b : Nat} {X : Int} (h : InE b X) : ∃ y t, Pk b X y t := by
  have hU := U_pos
  obtain ⟨y, k1, k2⟩ := h.mul
  have l1 := h.lo
  have l2 := h.hi
  have hna := h.natAbs_lt
  have hY1 : (-4194304) * U ≤ X * 4096 := by omega
  have hY2 : X * 4096 ≤ 4194304 * U := by omega
  have hbig : (X * 4096).natAbs < 2 ^ 2097 := by
    have e : (2 : Nat) ^ 1097 = 2 ^ 1085 * 4096 := by rw [show (1097 : Nat) = 1085 + 12 by rfl, Nat.pow_add]
    have e2 : (2 : Nat) ^ 1097 ≤ 2 ^ 2097 := Nat.pow_le_pow_right (by decide) (by decide)
    generalize (2 : Nat) ^ 1097 = A at *
    generalize (2 : Nat) ^ 2097 = B at *
    generalize (2 : Nat) ^ 1085 = C at *
    omega
  generalize hYd : X * 4096 = Y at *
  have d1 : U * Y.tdiv U + Y.tmod U = Y := Int.mul_tdiv_add_tmod Y U
  have d2 : Y.tmod U < U := Int.tmod_lt_of_pos Y hU
  have d3 : -U < Y.tmod U := by
    have h4 := Int.tmod_lt_of_pos (-Y) hU
    rw [Int.neg_tmod] at h4
    omega
  have hq : (Y.natAbs / 2 ^ 1074 : Nat) ≤ 4194304 := by
    have hUn := U_nat
    have hp := Nat.two_pow_pos 1074
    generalize (2 : Nat) ^ 1074 = W at *
    apply Nat.le_of_lt_succ
    rw [Nat.div_lt_iff_lt_mul hp]
    omega
  have ht : -4194304 ≤ Y.tdiv U ∧ Y.tdiv U ≤ 4194304 := by
    rw [← tdiv_nat]
    generalize Y.natAbs / 2 ^ 1074 = k at *
    split <;> omega
  have hev : evn Y.natAbs 1074 ≤ 4194305 := by
    unfold evn
    generalize Y.natAbs / 2 ^ 1074 = k at *
    split <;> omega
  have T := integral_V (f := fun n d => n / 2 ^ d) .zero (fun _ _ _ => zcut _ _ _) (fun n => by rw [Nat.pow_zero, Nat.div_one]) (fun m a b => by rw [Nat.pow_add, Nat.mul_div_mul_right _ _ (Nat.two_pow_pos a)]) k2 (Nat.lt_of_le_of_lt hq (by decide))
  have E := integral_V (f := evn) .even (fun _ _ _ => ecut _ _ _) evn_zero evn_shift k2 (Nat.lt_of_le_of_lt hev (by decide))
  rw [tdiv_nat] at T
  have c (k : IntKind) (m1 : k.min ≤ -4194304) (m2 : 4194304 ≤ k.max) : floatToIntVal .f64 y k = some (Y.tdiv U) := by
    have := V_conv k2 k (by rw [← U_pow]; omega) (by rw [← U_pow]; omega)
    rw [← U_pow] at this
    exact this
  have hnr : -4194305 ≤ nrst Y ∧ nrst Y ≤ 4194305 := by unfold nrst; split <;> omega
  refine ⟨y, Y.tdiv U, ?_⟩
  subst hYd
  exact ⟨k1, k2, rfl, ht.1, ht.2, c .i64 (by decide) (by decide), c .i32 (by decide) (by decide), T.2, T.1, E.1, hnr, hbig⟩
end Go.Fw

namespace Go.Fw
open Go Ieee
set_option exponentiation.threshold 2200
theorem add0 {w : Nat} {N : Int} (hw : V 12 w N) (b1 : -9007199254740992 < N) (b2 : N < 9007199254740992) : ∃ r, floatBits .add .f64 w 0 = some r ∧ V 12 r N ∧ r ≠ 9223372036854775808 := by
  obtain ⟨r, k1, k2⟩ := V_add hw (V_zero 12 (by omega)) (by omega) (by omega) (by omega)
  rw [Int.add_zero] at k2
  refine ⟨r, k1, k2, fun hr => ?_⟩
  subst hr
  have hz : V 12 9223372036854775808 0 := by
    unfold V
    exact ⟨true, 0, -1074, by decide, by rw [Int.zero_mul, signed_eq]; simp⟩
  have hN := V_inj k2 hz
  subst hN
  unfold V at hw
  obtain ⟨s, m, i, e1, e2⟩ := hw
  rw [Int.zero_mul] at e2
  have hm : m = 0 := by
    have := congrArg Int.natAbs e2
    rw [signed_abs] at this
    exact (Nat.mul_eq_zero.1 this).resolve_right (by have := Nat.two_pow_pos ((i + 1074).toNat); omega)
  subst hm
  unfold Format.add at k1
  rw [e1, show D.read 0 = .number false 0 (-1074) by decide] at k1
  have hs : ∀ (x : Bool) (a : Nat), signed x 0 a = 0 := fun x a => by rw [signed_eq]; cases x <;> simp
  simp only [Datum.sum, Option.map_some, hs, Int.add_zero, if_true, Bool.and_false, Int.natAbs_zero] at k1
  have hw0 : D.write (.number false 0 (min i (-1074))) = 0 := by
    show D.nearest false 0 _ = 0
    unfold Format.nearest
    rw [if_pos rfl]; decide
  rw [hw0] at k1
  cases k1
theorem odd_mod (n : Int) : (n.tmod 2 = 0) ↔ ¬ (n % 2 = 1) := by
  constructor
  · intro h
    have := Int.mul_tdiv_add_tmod n 2
    omega
  · intro h
    exact Int.tmod_eq_zero_of_dvd (by omega)
end Go.Fw

namespace Go.Fw
open Go Ieee
set_option exponentiation.threshold 2200
theorem U_pos' : 0 < U := by unfold U; exact Int.pow_pos (by decide)
theorem nrst_in {X : Int} (h1 : (-1024) * U ≤ X) (h2 : X ≤ 1024 * U) : -4194304 ≤ nrst (X * 4096) ∧ nrst (X * 4096) ≤ 4194304 := by
  have hU := U_pos'
  have hH : 0 < H := by unfold H; exact Int.pow_pos (by decide)
  obtain ⟨Y, hY⟩ : ∃ Y, Y = X * 4096 := ⟨_, rfl⟩
  rw [← hY]
  have d1 : (Y / U) * U ≤ Y := Int.ediv_mul_le Y (by omega)
  have d2 : Y < (Y / U + 1) * U := Int.lt_ediv_add_one_mul_self Y hU
  obtain ⟨n, hn⟩ : ∃ n, n = Y / U := ⟨_, rfl⟩
  rw [← hn] at d1 d2
  have l1 : -4194304 ≤ n := by
    refine Classical.byContradiction fun q => ?_
    have : (n + 1) * U ≤ (-4194304) * U := Int.mul_le_mul_of_nonneg_right (by omega) (by omega)
    omega
  have l2 : n ≤ 4194304 := by
    refine Classical.byContradiction fun q => ?_
    have : (4194304 + 1) * U ≤ n * U := Int.mul_le_mul_of_nonneg_right (by omega) (by omega)
    omega
  rw [nrst_floor d1 d2]
  by_cases hq : n = 4194304
  · subst hq
    rw [if_neg (by omega)]; omega
  · split <;> omega
/-- A number of the grid. -/
theorem grid_in {c : Nat} {N : Int} (hv : V 12 c N) (h1 : -4194304 ≤ N) (h2 : N ≤ 4194304) : ∃ X, InE c X ∧ X * 4096 = N * U := by
  have e : (2 : Int) ^ (1074 - 12) * 4096 = U := by unfold U; rw [show (4096 : Int) = 2 ^ 12 by decide, ← Int.pow_add]
  have hv := V_all hv (by omega)
  have hp : (0 : Int) < 2 ^ (1074 - 12) := Int.pow_pos (by decide)
  generalize (2 : Int) ^ (1074 - 12) = p at *
  refine ⟨N * p, ⟨hv, ?_, ?_⟩, by rw [Int.mul_assoc, e]⟩
  · rw [← e]
    have := Int.mul_le_mul_of_nonneg_right h1 (Int.le_of_lt hp)
    omega
  · rw [← e]
    have := Int.mul_le_mul_of_nonneg_right h2 (Int.le_of_lt hp)
    omega
theorem grid_t {X N : Int} (h : X * 4096 = N * U) : (X * 4096).tdiv U = N := by
  rw [h]; exact Int.mul_tdiv_cancel _ (by have := U_pos'; omega)
theorem sum_lt {a b r : Nat} (h : floatBits .add .f64 a b = some r) : r < 18446744073709551616 := Format.add_lt D h
end Go.Fw

set_option linter.unusedVariables false
set_option linter.unusedSimpArgs false
namespace Go.Proofs.Ytanogghfdamdcaa
open Go Go.Fw
def tyL : List (Nat × TyI) := [
  (1, ⟨.func, 1, 8, .nilFunc⟩),
  (2, ⟨.int .i64, 1, 8, .int .i64 0⟩),
  (3, ⟨.int .i64, 1, 8, .int .i64 0⟩),
  (4, ⟨.bool, 1, 1, .bool false⟩),
  (5, ⟨.int .u8, 1, 1, .int .u8 0⟩),
  (9, ⟨.str, 1, 16, .string (ByteArray.mk #[])⟩),
  (12, ⟨.int .u64, 1, 8, .int .u64 0⟩),
  (21, ⟨.int .i32, 1, 4, .int .i32 0⟩),
  (22, ⟨.int .u64, 1, 8, .int .u64 0⟩),
  (23, ⟨.float .f64, 1, 8, .float .f64 0⟩),
  (24, ⟨.func, 1, 8, .nilFunc⟩),
  (26, ⟨.func, 1, 8, .nilFunc⟩),
  (27, ⟨.int .i64, 1, 8, .int .i64 0⟩),
  (29, ⟨.func, 1, 8, .nilFunc⟩),
  (30, ⟨.func, 1, 8, .nilFunc⟩),
  (32, ⟨.func, 1, 8, .nilFunc⟩),
  (33, ⟨.func, 1, 8, .nilFunc⟩),
  (34, ⟨.func, 1, 8, .nilFunc⟩),
  (35, ⟨.func, 1, 8, .nilFunc⟩),
  (36, ⟨.slice 22, 1, 24, .slice none 0 0⟩),
  (37, ⟨.slice 39, 1, 24, .slice none 0 0⟩),
  (38, ⟨.func, 1, 8, .nilFunc⟩),
  (39, ⟨.cpx .f64, 1, 16, .complex .f64 0 0⟩),
  (40, ⟨.slice 45, 1, 24, .slice none 0 0⟩),
  (42, ⟨.func, 1, 8, .nilFunc⟩),
  (43, ⟨.func, 1, 8, .nilFunc⟩),
  (44, ⟨.struct [(0, 39), (1, 4)], 2, 24, .agg #[.complex .f64 0 0, .bool false]⟩),
  (45, ⟨.struct [(0, 39), (1, 4)], 2, 24, .agg #[.complex .f64 0 0, .bool false]⟩),
  (47, ⟨.func, 1, 8, .nilFunc⟩),
  (48, ⟨.func, 1, 8, .nilFunc⟩),
  (49, ⟨.slice 4, 1, 24, .slice none 0 0⟩),
  (50, ⟨.func, 1, 8, .nilFunc⟩),
  (51, ⟨.func, 1, 8, .nilFunc⟩),
  (52, ⟨.func, 1, 8, .nilFunc⟩),
  (53, ⟨.func, 1, 8, .nilFunc⟩),
  (54, ⟨.func, 1, 8, .nilFunc⟩),
  (55, ⟨.int .u64, 1, 8, .int .u64 0⟩),
  (56, ⟨.func, 1, 8, .nilFunc⟩),
  (62, ⟨.func, 1, 8, .nilFunc⟩),
  (63, ⟨.int .u32, 1, 4, .int .u32 0⟩),
  (66, ⟨.func, 1, 8, .nilFunc⟩),
  (67, ⟨.ptr 5, 1, 8, .pointer none⟩)]
theorem tokL : TOk Try.prog tyL := tokl_of ⟨⟨by kernel_rfl, by kernel_rfl⟩, ⟨by kernel_rfl, by kernel_rfl⟩, ⟨by kernel_rfl, by kernel_rfl⟩, ⟨by kernel_rfl, by kernel_rfl⟩, ⟨by kernel_rfl, by kernel_rfl⟩, ⟨by kernel_rfl, by kernel_rfl⟩, ⟨by kernel_rfl, by kernel_rfl⟩, ⟨by kernel_rfl, by kernel_rfl⟩, ⟨by kernel_rfl, by kernel_rfl⟩, ⟨by kernel_rfl, by kernel_rfl⟩, ⟨by kernel_rfl, by kernel_rfl⟩, ⟨by kernel_rfl, by kernel_rfl⟩, ⟨by kernel_rfl, by kernel_rfl⟩, ⟨by kernel_rfl, by kernel_rfl⟩, ⟨by kernel_rfl, by kernel_rfl⟩, ⟨by kernel_rfl, by kernel_rfl⟩, ⟨by kernel_rfl, by kernel_rfl⟩, ⟨by kernel_rfl, by kernel_rfl⟩, ⟨by kernel_rfl, by kernel_rfl⟩, ⟨by kernel_rfl, by kernel_rfl⟩, ⟨by kernel_rfl, by kernel_rfl⟩, ⟨by kernel_rfl, by kernel_rfl⟩, ⟨by kernel_rfl, by kernel_rfl⟩, ⟨by kernel_rfl, by kernel_rfl⟩, ⟨by kernel_rfl, by kernel_rfl⟩, ⟨by kernel_rfl, by kernel_rfl⟩, ⟨by kernel_rfl, by kernel_rfl⟩, ⟨by kernel_rfl, by kernel_rfl⟩, ⟨by kernel_rfl, by kernel_rfl⟩, ⟨by kernel_rfl, by kernel_rfl⟩, ⟨by kernel_rfl, by kernel_rfl⟩, ⟨by kernel_rfl, by kernel_rfl⟩, ⟨by kernel_rfl, by kernel_rfl⟩, ⟨by kernel_rfl, by kernel_rfl⟩, ⟨by kernel_rfl, by kernel_rfl⟩, ⟨by kernel_rfl, by kernel_rfl⟩, ⟨by kernel_rfl, by kernel_rfl⟩, ⟨by kernel_rfl, by kernel_rfl⟩, ⟨by kernel_rfl, by kernel_rfl⟩, ⟨by kernel_rfl, by kernel_rfl⟩, ⟨by kernel_rfl, by kernel_rfl⟩, ⟨by kernel_rfl, by kernel_rfl⟩, True.intro⟩
theorem mixedL : Try.prog.follows .mixedOrders = true := by kernel_rfl
theorem i64max : IntKind.i64.max = 9223372036854775807 := rfl
theorem u8max : IntKind.u8.max = 255 := rfl
theorem u16max : IntKind.u16.max = 65535 := rfl
theorem u32max : IntKind.u32.max = 4294967295 := rfl
theorem u64max : IntKind.u64.max = 18446744073709551615 := rfl
def numOut (D : List Seg) (x : AV) : FOut := ⟨Unit, fun _ => True, fun _ => x, fun _ => D⟩
theorem andNot63 (b : Nat) (h : b < 18446744073709551616) : rawBits .andNot .u64 b 9223372036854775808 = ((b % 9223372036854775808 : Nat) : Int) := by
  show IntKind.u64.wrap ((BitVec.ofInt 64 b &&& ~~~ BitVec.ofInt 64 9223372036854775808).toNat : Int) = _
  have e : (BitVec.ofInt 64 b &&& ~~~ BitVec.ofInt 64 9223372036854775808).toNat = b % 9223372036854775808 := by
    rw [BitVec.toNat_and, BitVec.toNat_ofInt, show (~~~ BitVec.ofInt 64 9223372036854775808).toNat = 2 ^ 63 - 1 by decide, Nat.and_two_pow_sub_one_eq_mod]
    show ((b : Int) % 18446744073709551616).toNat % 9223372036854775808 = _
    omega
  rw [e]
  unfold IntKind.wrap
  simp [IntKind.bits, IntKind.signed]
  omega
def qf : Nat → Bool := fun f => match f with | 2000014 => true | 2000021 => true | 2000023 => true | 2000028 => true | 6 => true | 7 => true | 8 => true | 9 => true | 10 => true | 11 => true | 12 => true | 13 => true | 22 => true | 24 => true | 29 => true | _ => false
def cfgk (k : Nat) : Cfg := { T := tyL, sgn := fun _ => true, wr := fun _ => false, k := k, q := qf }
attribute [local irreducible] rawBits
theorem fb_x (n : Int) : Go.Fw.XRun Try.prog 21 [.int .u64 n] (.flt .f64 n.toNat) := by
  refine ⟨.float .f64 n.toNat, fun ρ => by simp only [Den], fun ρ vs h w => ?_⟩
  simp only [Dens, Den] at h
  obtain ⟨v, r, rfl, rfl, rfl⟩ := h
  kernel_rfl
theorem bf_x (n : Nat) : Go.Fw.XRun Try.prog 14 [.flt .f64 n] (.int .u64 n) := by
  refine ⟨.int .u64 n, fun ρ => by simp only [Den], fun ρ vs h w => ?_⟩
  simp only [Dens, Den] at h
  obtain ⟨v, r, rfl, rfl, rfl⟩ := h
  kernel_rfl
section
attribute [local irreducible] Ieee.Format.read
theorem int_num (nm : String) (way : Ieee.Toward) (n : Nat) {s : Bool} {m : Nat} {P : Int} (hr : D.read n = .number s m P) : Go.Extern.MathFloor.toIntegral nm way #[.float .f64 n] = pure (.float .f64 (D.write ((D.read n).integral way))) := by
  have e : FloatKind.f64.decode n = .number s m P := hr
  conv =>
    lhs
    whnf
  rw [e, hr]
  rfl
end
theorem even_x (n : Nat) {s : Bool} {m : Nat} {P : Int} (hr : D.read n = .number s m P) : Go.Fw.XRun Try.prog 23 [.flt .f64 n] (.flt .f64 (D.write ((D.read n).integral .even))) := by
  refine ⟨.float .f64 (D.write ((D.read n).integral .even)), fun ρ => by simp only [Den], fun ρ vs h w => ?_⟩
  simp only [Dens, Den] at h
  obtain ⟨v, r, rfl, rfl, rfl⟩ := h
  have h1 : (callFunc 23 #[Value.float .f64 n]).run Try.prog w = (Go.Extern.MathFloor.toIntegral "math.RoundToEven" .even #[.float .f64 n] >>= fun v => pure (Next.value v)).run Try.prog w := by kernel_rfl
  refine h1.trans ?_
  rw [int_num _ _ n hr]
  rfl
theorem zero_x (n : Nat) {s : Bool} {m : Nat} {P : Int} (hr : D.read n = .number s m P) : Go.Fw.XRun Try.prog 28 [.flt .f64 n] (.flt .f64 (D.write ((D.read n).integral .zero))) := by
  refine ⟨.float .f64 (D.write ((D.read n).integral .zero)), fun ρ => by simp only [Den], fun ρ vs h w => ?_⟩
  simp only [Dens, Den] at h
  obtain ⟨v, r, rfl, rfl, rfl⟩ := h
  have h1 : (callFunc 28 #[Value.float .f64 n]).run Try.prog w = (Go.Extern.MathFloor.toIntegral "math.archTrunc" .zero #[.float .f64 n] >>= fun v => pure (Next.value v)).run Try.prog w := by kernel_rfl
  refine h1.trans ?_
  rw [int_num _ _ n hr]
  rfl
noncomputable def k22 : Code := (Try.f22.body).getD .skip
set_option maxHeartbeats 0 in
set_option maxRecDepth 100000 in
theorem Abs_q (b : Nat) (hb : b < 18446744073709551616) : QFits Try.prog 22 ⟨[.flt .f64 b], [], .flt .f64 (b % 9223372036854775808)⟩ := by
  have FB := fb_x ((b % 9223372036854775808 : Nat) : Int)
  rw [Int.toNat_natCast] at FB
  have BF := bf_x b
  have hn := andNot63 b hb
  generalize b % 9223372036854775808 = a at *
  refine qfits_of_body (C := cfgk 0) (c := k22) (ts := [2]) tokL mixedL (fun _ => none) (fun _ => none)
    Try.func22 (by kernel_rfl) (by kernel_rfl) (by kernel_rfl) (by kernel_rfl) (by kernel_rfl) rfl rfl ?_
  conv => whnf
  repeat (first
    | (refine And.intro ?_ ?_; (focus (first | omega | decide | exact EqOk.mk (by kernel_rfl) (by kernel_rfl) (by kernel_rfl) | exact Int.natCast_nonneg _ | ((repeat' refine And.intro ?_ ?_) <;> first | omega | exact Int.natCast_nonneg _ | (simp only [i64max, u8max, u16max, u32max, u64max]; omega) | (simp only [mulSz_eq, Cont.len, colsLen, Col.len, List.length_cons, List.length_nil, List.length_replicate, List.length_append]; first | done | omega) | (simp [mulSz, Cont.len, bne]; first | done | omega)))); conv => whnf)
    | (refine tst_in ?_ ?_; (focus (intro h_; exfalso; first | omega | ((try simp only [decide_eq_true_eq, decide_eq_false_iff_not] at h_); omega) | (simp [mulSz, Cont.len, bne] at h_; first | done | omega))); intro _; conv => whnf)
    | (refine tst_in ?_ ?_; rotate_left; (focus (intro h_; exfalso; first | omega | ((try simp only [decide_eq_true_eq, decide_eq_false_iff_not] at h_); omega) | (simp [mulSz, Cont.len, bne] at h_; first | done | omega))); intro _; conv => whnf)
    | (refine ⟨0, (show _ = _ by omega), ?_⟩; conv => whnf))
  refine ⟨_, _, BF, rfl, ?_⟩
  conv => whnf
  conv => whnf
  repeat (first
    | (refine And.intro ?_ ?_; (focus (first | omega | decide | exact EqOk.mk (by kernel_rfl) (by kernel_rfl) (by kernel_rfl) | exact Int.natCast_nonneg _ | ((repeat' refine And.intro ?_ ?_) <;> first | omega | exact Int.natCast_nonneg _ | (simp only [i64max, u8max, u16max, u32max, u64max]; omega) | (simp only [mulSz_eq, Cont.len, colsLen, Col.len, List.length_cons, List.length_nil, List.length_replicate, List.length_append]; first | done | omega) | (simp [mulSz, Cont.len, bne]; first | done | omega)))); conv => whnf)
    | (refine tst_in ?_ ?_; (focus (intro h_; exfalso; first | omega | ((try simp only [decide_eq_true_eq, decide_eq_false_iff_not] at h_); omega) | (simp [mulSz, Cont.len, bne] at h_; first | done | omega))); intro _; conv => whnf)
    | (refine tst_in ?_ ?_; rotate_left; (focus (intro h_; exfalso; first | omega | ((try simp only [decide_eq_true_eq, decide_eq_false_iff_not] at h_); omega) | (simp [mulSz, Cont.len, bne] at h_; first | done | omega))); intro _; conv => whnf)
    | (refine ⟨0, (show _ = _ by omega), ?_⟩; conv => whnf))
  rw [hn]
  refine ⟨_, _, FB, rfl, ?_⟩
  conv => whnf
end Go.Proofs.Ytanogghfdamdcaa

set_option linter.unusedVariables false
set_option linter.unusedSimpArgs false
namespace Go.Proofs.Ytanogghfdamdcaa
open Go Go.Fw
noncomputable def k24 : Code := (Try.f24.body).getD .skip
noncomputable def k6 : Code := (Try.f6.body).getD .skip
set_option maxHeartbeats 0 in
set_option maxRecDepth 100000 in
theorem Trunc_q (b : Nat) {s : Bool} {m : Nat} {P : Int} (hr : D.read b = .number s m P) : QFits Try.prog 24 ⟨[.flt .f64 b], [], .flt .f64 (D.write ((D.read b).integral .zero))⟩ := by
  have ZX := zero_x b hr
  generalize D.write ((D.read b).integral .zero) = z at *
  refine qfits_of_body (C := cfgk 0) (c := k24) (ts := [2]) tokL mixedL (fun _ => none) (fun _ => none)
    Try.func24 (by kernel_rfl) (by kernel_rfl) (by kernel_rfl) (by kernel_rfl) (by kernel_rfl) rfl rfl ?_
  conv => whnf
  repeat (first
    | (refine And.intro ?_ ?_; (focus (first | omega | decide | exact EqOk.mk (by kernel_rfl) (by kernel_rfl) (by kernel_rfl) | exact Int.natCast_nonneg _ | ((repeat' refine And.intro ?_ ?_) <;> first | omega | exact Int.natCast_nonneg _ | (simp only [i64max, u8max, u16max, u32max, u64max]; omega) | (simp only [mulSz_eq, Cont.len, colsLen, Col.len, List.length_cons, List.length_nil, List.length_replicate, List.length_append]; first | done | omega) | (simp [mulSz, Cont.len, bne]; first | done | omega)))); conv => whnf)
    | (refine tst_in ?_ ?_; (focus (intro h_; exfalso; first | omega | ((try simp only [decide_eq_true_eq, decide_eq_false_iff_not] at h_); omega) | (simp [mulSz, Cont.len, bne] at h_; first | done | omega))); intro _; conv => whnf)
    | (refine tst_in ?_ ?_; rotate_left; (focus (intro h_; exfalso; first | omega | ((try simp only [decide_eq_true_eq, decide_eq_false_iff_not] at h_); omega) | (simp [mulSz, Cont.len, bne] at h_; first | done | omega))); intro _; conv => whnf)
    | (refine ⟨0, (show _ = _ by omega), ?_⟩; conv => whnf))
  refine ⟨_, _, ZX, rfl, ?_⟩
  conv => whnf
set_option maxHeartbeats 0 in
set_option maxRecDepth 100000 in
theorem float_q (n : Int) : QFits Try.prog 6 ⟨[.int .u64 n], [], .flt .f64 n.toNat⟩ := by
  have FB := fb_x n
  refine qfits_of_body (C := cfgk 0) (c := k6) (ts := [2]) tokL mixedL (fun _ => none) (fun _ => none)
    Try.func6 (by kernel_rfl) (by kernel_rfl) (by kernel_rfl) (by kernel_rfl) (by kernel_rfl) rfl rfl ?_
  conv => whnf
  repeat (first
    | (refine And.intro ?_ ?_; (focus (first | omega | decide | exact EqOk.mk (by kernel_rfl) (by kernel_rfl) (by kernel_rfl) | exact Int.natCast_nonneg _ | ((repeat' refine And.intro ?_ ?_) <;> first | omega | exact Int.natCast_nonneg _ | (simp only [i64max, u8max, u16max, u32max, u64max]; omega) | (simp only [mulSz_eq, Cont.len, colsLen, Col.len, List.length_cons, List.length_nil, List.length_replicate, List.length_append]; first | done | omega) | (simp [mulSz, Cont.len, bne]; first | done | omega)))); conv => whnf)
    | (refine tst_in ?_ ?_; (focus (intro h_; exfalso; first | omega | ((try simp only [decide_eq_true_eq, decide_eq_false_iff_not] at h_); omega) | (simp [mulSz, Cont.len, bne] at h_; first | done | omega))); intro _; conv => whnf)
    | (refine tst_in ?_ ?_; rotate_left; (focus (intro h_; exfalso; first | omega | ((try simp only [decide_eq_true_eq, decide_eq_false_iff_not] at h_); omega) | (simp [mulSz, Cont.len, bne] at h_; first | done | omega))); intro _; conv => whnf)
    | (refine ⟨0, (show _ = _ by omega), ?_⟩; conv => whnf))
  refine ⟨_, _, FB, rfl, ?_⟩
  conv => whnf
noncomputable def k10 : Code := (Try.f10.body).getD .skip
noncomputable def k12 : Code := (Try.f12.body).getD .skip
def onV (X t : Int) : Bool := decide (t * U = X * 4096)
set_option maxHeartbeats 0 in
set_option maxRecDepth 100000 in
theorem rOn_in {b y : Nat} {X t : Int} (h : InE b X) (p : Pk b X y t) : QFits Try.prog 10 ⟨[.flt .f64 b], [], .bool (onV X t)⟩ := by
  have h1 := h.ge
  have h2 := h.le
  have p1 := p.mul
  have p2 := p.c64
  have l1 := p.lo
  have l2 := p.hi
  have hv : onV X t = (D.order (floatOfInt .f64 t) y == some .eq) := (V_eqb (V0_U (V_ofInt t (by omega) (by omega))) p.v).symm
  rw [hv]
  refine qfits_of_body (C := cfgk 0) (c := k10) (ts := [2]) tokL mixedL (fun _ => none) (fun _ => none)
    Try.func10 (by kernel_rfl) (by kernel_rfl) (by kernel_rfl) (by kernel_rfl) (by kernel_rfl) rfl rfl ?_
  conv => whnf
  repeat (first
    | (refine And.intro ?_ ?_; (focus (first | omega | decide | exact EqOk.mk (by kernel_rfl) (by kernel_rfl) (by kernel_rfl) | exact Int.natCast_nonneg _ | ((repeat' refine And.intro ?_ ?_) <;> first | omega | exact Int.natCast_nonneg _ | (simp only [i64max, u8max, u16max, u32max, u64max]; omega) | (simp only [mulSz_eq, Cont.len, colsLen, Col.len, List.length_cons, List.length_nil, List.length_replicate, List.length_append]; first | done | omega) | (simp [mulSz, Cont.len, bne]; first | done | omega)))); conv => whnf)
    | (refine tst_in ?_ ?_; (focus (intro h_; exfalso; first | omega | ((try simp only [decide_eq_true_eq, decide_eq_false_iff_not] at h_); omega) | (simp [mulSz, Cont.len, bne] at h_; first | done | omega))); intro _; conv => whnf)
    | (refine tst_in ?_ ?_; rotate_left; (focus (intro h_; exfalso; first | omega | ((try simp only [decide_eq_true_eq, decide_eq_false_iff_not] at h_); omega) | (simp [mulSz, Cont.len, bne] at h_; first | done | omega))); intro _; conv => whnf)
    | (refine ⟨0, (show _ = _ by omega), ?_⟩; conv => whnf))
  refine tst_in (fun u => ?_) (fun u => absurd (h1.symm.trans u) (by decide))
  conv => whnf
  repeat (first
    | (refine And.intro ?_ ?_; (focus (first | omega | decide | exact EqOk.mk (by kernel_rfl) (by kernel_rfl) (by kernel_rfl) | exact Int.natCast_nonneg _ | ((repeat' refine And.intro ?_ ?_) <;> first | omega | exact Int.natCast_nonneg _ | (simp only [i64max, u8max, u16max, u32max, u64max]; omega) | (simp only [mulSz_eq, Cont.len, colsLen, Col.len, List.length_cons, List.length_nil, List.length_replicate, List.length_append]; first | done | omega) | (simp [mulSz, Cont.len, bne]; first | done | omega)))); conv => whnf)
    | (refine tst_in ?_ ?_; (focus (intro h_; exfalso; first | omega | ((try simp only [decide_eq_true_eq, decide_eq_false_iff_not] at h_); omega) | (simp [mulSz, Cont.len, bne] at h_; first | done | omega))); intro _; conv => whnf)
    | (refine tst_in ?_ ?_; rotate_left; (focus (intro h_; exfalso; first | omega | ((try simp only [decide_eq_true_eq, decide_eq_false_iff_not] at h_); omega) | (simp [mulSz, Cont.len, bne] at h_; first | done | omega))); intro _; conv => whnf)
    | (refine ⟨0, (show _ = _ by omega), ?_⟩; conv => whnf))
  refine tst_in (fun u => absurd u (by rw [show (D.order b 4652218415073722368 == some Ordering.lt || D.order b 4652218415073722368 == some Ordering.eq) = true from h2]; decide)) (fun u => ?_)
  conv => whnf
  repeat (first
    | (refine And.intro ?_ ?_; (focus (first | omega | decide | exact EqOk.mk (by kernel_rfl) (by kernel_rfl) (by kernel_rfl) | exact Int.natCast_nonneg _ | ((repeat' refine And.intro ?_ ?_) <;> first | omega | exact Int.natCast_nonneg _ | (simp only [i64max, u8max, u16max, u32max, u64max]; omega) | (simp only [mulSz_eq, Cont.len, colsLen, Col.len, List.length_cons, List.length_nil, List.length_replicate, List.length_append]; first | done | omega) | (simp [mulSz, Cont.len, bne]; first | done | omega)))); conv => whnf)
    | (refine tst_in ?_ ?_; (focus (intro h_; exfalso; first | omega | ((try simp only [decide_eq_true_eq, decide_eq_false_iff_not] at h_); omega) | (simp [mulSz, Cont.len, bne] at h_; first | done | omega))); intro _; conv => whnf)
    | (refine tst_in ?_ ?_; rotate_left; (focus (intro h_; exfalso; first | omega | ((try simp only [decide_eq_true_eq, decide_eq_false_iff_not] at h_); omega) | (simp [mulSz, Cont.len, bne] at h_; first | done | omega))); intro _; conv => whnf)
    | (refine ⟨0, (show _ = _ by omega), ?_⟩; conv => whnf))
  refine ⟨y, p1, ?_⟩
  conv => whnf
  repeat (first
    | (refine And.intro ?_ ?_; (focus (first | omega | decide | exact EqOk.mk (by kernel_rfl) (by kernel_rfl) (by kernel_rfl) | exact Int.natCast_nonneg _ | ((repeat' refine And.intro ?_ ?_) <;> first | omega | exact Int.natCast_nonneg _ | (simp only [i64max, u8max, u16max, u32max, u64max]; omega) | (simp only [mulSz_eq, Cont.len, colsLen, Col.len, List.length_cons, List.length_nil, List.length_replicate, List.length_append]; first | done | omega) | (simp [mulSz, Cont.len, bne]; first | done | omega)))); conv => whnf)
    | (refine tst_in ?_ ?_; (focus (intro h_; exfalso; first | omega | ((try simp only [decide_eq_true_eq, decide_eq_false_iff_not] at h_); omega) | (simp [mulSz, Cont.len, bne] at h_; first | done | omega))); intro _; conv => whnf)
    | (refine tst_in ?_ ?_; rotate_left; (focus (intro h_; exfalso; first | omega | ((try simp only [decide_eq_true_eq, decide_eq_false_iff_not] at h_); omega) | (simp [mulSz, Cont.len, bne] at h_; first | done | omega))); intro _; conv => whnf)
    | (refine ⟨0, (show _ = _ by omega), ?_⟩; conv => whnf))
  refine ⟨t, p2, ?_⟩
  conv => whnf
  repeat (first
    | (refine And.intro ?_ ?_; (focus (first | omega | decide | exact EqOk.mk (by kernel_rfl) (by kernel_rfl) (by kernel_rfl) | exact Int.natCast_nonneg _ | ((repeat' refine And.intro ?_ ?_) <;> first | omega | exact Int.natCast_nonneg _ | (simp only [i64max, u8max, u16max, u32max, u64max]; omega) | (simp only [mulSz_eq, Cont.len, colsLen, Col.len, List.length_cons, List.length_nil, List.length_replicate, List.length_append]; first | done | omega) | (simp [mulSz, Cont.len, bne]; first | done | omega)))); conv => whnf)
    | (refine tst_in ?_ ?_; (focus (intro h_; exfalso; first | omega | ((try simp only [decide_eq_true_eq, decide_eq_false_iff_not] at h_); omega) | (simp [mulSz, Cont.len, bne] at h_; first | done | omega))); intro _; conv => whnf)
    | (refine tst_in ?_ ?_; rotate_left; (focus (intro h_; exfalso; first | omega | ((try simp only [decide_eq_true_eq, decide_eq_false_iff_not] at h_); omega) | (simp [mulSz, Cont.len, bne] at h_; first | done | omega))); intro _; conv => whnf)
    | (refine ⟨0, (show _ = _ by omega), ?_⟩; conv => whnf))
set_option maxHeartbeats 0 in
set_option maxRecDepth 100000 in
theorem rOn_out {b : Nat} (h : OutE b) : QFits Try.prog 10 ⟨[.flt .f64 b], [], .bool false⟩ := by
  have h1 := h.two
  refine qfits_of_body (C := cfgk 0) (c := k10) (ts := [2]) tokL mixedL (fun _ => none) (fun _ => none)
    Try.func10 (by kernel_rfl) (by kernel_rfl) (by kernel_rfl) (by kernel_rfl) (by kernel_rfl) rfl rfl ?_
  conv => whnf
  repeat (first
    | (refine And.intro ?_ ?_; (focus (first | omega | decide | exact EqOk.mk (by kernel_rfl) (by kernel_rfl) (by kernel_rfl) | exact Int.natCast_nonneg _ | ((repeat' refine And.intro ?_ ?_) <;> first | omega | exact Int.natCast_nonneg _ | (simp only [i64max, u8max, u16max, u32max, u64max]; omega) | (simp only [mulSz_eq, Cont.len, colsLen, Col.len, List.length_cons, List.length_nil, List.length_replicate, List.length_append]; first | done | omega) | (simp [mulSz, Cont.len, bne]; first | done | omega)))); conv => whnf)
    | (refine tst_in ?_ ?_; (focus (intro h_; exfalso; first | omega | ((try simp only [decide_eq_true_eq, decide_eq_false_iff_not] at h_); omega) | (simp [mulSz, Cont.len, bne] at h_; first | done | omega))); intro _; conv => whnf)
    | (refine tst_in ?_ ?_; rotate_left; (focus (intro h_; exfalso; first | omega | ((try simp only [decide_eq_true_eq, decide_eq_false_iff_not] at h_); omega) | (simp [mulSz, Cont.len, bne] at h_; first | done | omega))); intro _; conv => whnf)
    | (refine ⟨0, (show _ = _ by omega), ?_⟩; conv => whnf))
  refine tst_in (fun u => ?_) (fun u => ?_)
  · rw [show (D.order b 13875590451928498176 == some Ordering.gt || D.order b 13875590451928498176 == some Ordering.eq) = true from u, Bool.true_and] at h1
    conv => whnf
    repeat (first
      | (refine And.intro ?_ ?_; (focus (first | omega | decide | exact EqOk.mk (by kernel_rfl) (by kernel_rfl) (by kernel_rfl) | exact Int.natCast_nonneg _ | ((repeat' refine And.intro ?_ ?_) <;> first | omega | exact Int.natCast_nonneg _ | (simp only [i64max, u8max, u16max, u32max, u64max]; omega) | (simp only [mulSz_eq, Cont.len, colsLen, Col.len, List.length_cons, List.length_nil, List.length_replicate, List.length_append]; first | done | omega) | (simp [mulSz, Cont.len, bne]; first | done | omega)))); conv => whnf)
      | (refine tst_in ?_ ?_; (focus (intro h_; exfalso; first | omega | ((try simp only [decide_eq_true_eq, decide_eq_false_iff_not] at h_); omega) | (simp [mulSz, Cont.len, bne] at h_; first | done | omega))); intro _; conv => whnf)
      | (refine tst_in ?_ ?_; rotate_left; (focus (intro h_; exfalso; first | omega | ((try simp only [decide_eq_true_eq, decide_eq_false_iff_not] at h_); omega) | (simp [mulSz, Cont.len, bne] at h_; first | done | omega))); intro _; conv => whnf)
      | (refine ⟨0, (show _ = _ by omega), ?_⟩; conv => whnf))
    refine tst_in (fun u2 => ?_) (fun u2 => absurd u2 (by rw [show (D.order b 4652218415073722368 == some Ordering.lt || D.order b 4652218415073722368 == some Ordering.eq) = false from h1]; decide))
    conv => whnf
    repeat (first
      | (refine And.intro ?_ ?_; (focus (first | omega | decide | exact EqOk.mk (by kernel_rfl) (by kernel_rfl) (by kernel_rfl) | exact Int.natCast_nonneg _ | ((repeat' refine And.intro ?_ ?_) <;> first | omega | exact Int.natCast_nonneg _ | (simp only [i64max, u8max, u16max, u32max, u64max]; omega) | (simp only [mulSz_eq, Cont.len, colsLen, Col.len, List.length_cons, List.length_nil, List.length_replicate, List.length_append]; first | done | omega) | (simp [mulSz, Cont.len, bne]; first | done | omega)))); conv => whnf)
      | (refine tst_in ?_ ?_; (focus (intro h_; exfalso; first | omega | ((try simp only [decide_eq_true_eq, decide_eq_false_iff_not] at h_); omega) | (simp [mulSz, Cont.len, bne] at h_; first | done | omega))); intro _; conv => whnf)
      | (refine tst_in ?_ ?_; rotate_left; (focus (intro h_; exfalso; first | omega | ((try simp only [decide_eq_true_eq, decide_eq_false_iff_not] at h_); omega) | (simp [mulSz, Cont.len, bne] at h_; first | done | omega))); intro _; conv => whnf)
      | (refine ⟨0, (show _ = _ by omega), ?_⟩; conv => whnf))
  · conv => whnf
    repeat (first
      | (refine And.intro ?_ ?_; (focus (first | omega | decide | exact EqOk.mk (by kernel_rfl) (by kernel_rfl) (by kernel_rfl) | exact Int.natCast_nonneg _ | ((repeat' refine And.intro ?_ ?_) <;> first | omega | exact Int.natCast_nonneg _ | (simp only [i64max, u8max, u16max, u32max, u64max]; omega) | (simp only [mulSz_eq, Cont.len, colsLen, Col.len, List.length_cons, List.length_nil, List.length_replicate, List.length_append]; first | done | omega) | (simp [mulSz, Cont.len, bne]; first | done | omega)))); conv => whnf)
      | (refine tst_in ?_ ?_; (focus (intro h_; exfalso; first | omega | ((try simp only [decide_eq_true_eq, decide_eq_false_iff_not] at h_); omega) | (simp [mulSz, Cont.len, bne] at h_; first | done | omega))); intro _; conv => whnf)
      | (refine tst_in ?_ ?_; rotate_left; (focus (intro h_; exfalso; first | omega | ((try simp only [decide_eq_true_eq, decide_eq_false_iff_not] at h_); omega) | (simp [mulSz, Cont.len, bne] at h_; first | done | omega))); intro _; conv => whnf)
      | (refine ⟨0, (show _ = _ by omega), ?_⟩; conv => whnf))
end Go.Proofs.Ytanogghfdamdcaa

set_option linter.unusedVariables false
set_option linter.unusedSimpArgs false
namespace Go.Proofs.Ytanogghfdamdcaa
open Go Go.Fw
set_option maxHeartbeats 0 in
set_option maxRecDepth 100000 in
theorem On_in {b y : Nat} {X t : Int} (hb : b < 18446744073709551616) (h : InE b X) (p : Pk b X y t) : QFits Try.prog 12 ⟨[.flt .f64 b], [], .bool (onV X t)⟩ := by
  have h1 := h.ab
  have AQ := Abs_q b hb
  have p1 := p.mul
  obtain ⟨s, m, P, hr⟩ := p.num
  have TQ := Trunc_q y hr
  have hv : onV X t = (D.order y (D.write ((D.read y).integral .zero)) == some .eq) := by
    rw [V_eqb p.v (V0_U p.tr)]
    exact decide_eq_decide.2 eq_comm
  rw [hv]
  generalize D.write ((D.read y).integral .zero) = z at *
  generalize b % 9223372036854775808 = a at *
  refine qfits_of_body (C := cfgk 0) (c := k12) (ts := [2]) tokL mixedL (fun _ => none) (fun _ => none)
    Try.func12 (by kernel_rfl) (by kernel_rfl) (by kernel_rfl) (by kernel_rfl) (by kernel_rfl) rfl rfl ?_
  conv => whnf
  repeat (first
    | (refine And.intro ?_ ?_; (focus (first | omega | decide | exact EqOk.mk (by kernel_rfl) (by kernel_rfl) (by kernel_rfl) | exact Int.natCast_nonneg _ | ((repeat' refine And.intro ?_ ?_) <;> first | omega | exact Int.natCast_nonneg _ | (simp only [i64max, u8max, u16max, u32max, u64max]; omega) | (simp only [mulSz_eq, Cont.len, colsLen, Col.len, List.length_cons, List.length_nil, List.length_replicate, List.length_append]; first | done | omega) | (simp [mulSz, Cont.len, bne]; first | done | omega)))); conv => whnf)
    | (refine tst_in ?_ ?_; (focus (intro h_; exfalso; first | omega | ((try simp only [decide_eq_true_eq, decide_eq_false_iff_not] at h_); omega) | (simp [mulSz, Cont.len, bne] at h_; first | done | omega))); intro _; conv => whnf)
    | (refine tst_in ?_ ?_; rotate_left; (focus (intro h_; exfalso; first | omega | ((try simp only [decide_eq_true_eq, decide_eq_false_iff_not] at h_); omega) | (simp [mulSz, Cont.len, bne] at h_; first | done | omega))); intro _; conv => whnf)
    | (refine ⟨0, (show _ = _ by omega), ?_⟩; conv => whnf))
  refine ⟨_, [], AQ, ?_⟩
  conv => whnf
  iterate 2
   refine And.intro ?_ ?_
   focus
    conv => whnf
    repeat' (first | exact True.intro | rfl | refine And.intro ?_ ?_ | omega)
    all_goals (conv => whnf)
    all_goals (try (first | rfl | omega | (simp; done)))
  conv => whnf
  conv => whnf
  repeat (first
    | (refine And.intro ?_ ?_; (focus (first | omega | decide | exact EqOk.mk (by kernel_rfl) (by kernel_rfl) (by kernel_rfl) | exact Int.natCast_nonneg _ | ((repeat' refine And.intro ?_ ?_) <;> first | omega | exact Int.natCast_nonneg _ | (simp only [i64max, u8max, u16max, u32max, u64max]; omega) | (simp only [mulSz_eq, Cont.len, colsLen, Col.len, List.length_cons, List.length_nil, List.length_replicate, List.length_append]; first | done | omega) | (simp [mulSz, Cont.len, bne]; first | done | omega)))); conv => whnf)
    | (refine tst_in ?_ ?_; (focus (intro h_; exfalso; first | omega | ((try simp only [decide_eq_true_eq, decide_eq_false_iff_not] at h_); omega) | (simp [mulSz, Cont.len, bne] at h_; first | done | omega))); intro _; conv => whnf)
    | (refine tst_in ?_ ?_; rotate_left; (focus (intro h_; exfalso; first | omega | ((try simp only [decide_eq_true_eq, decide_eq_false_iff_not] at h_); omega) | (simp [mulSz, Cont.len, bne] at h_; first | done | omega))); intro _; conv => whnf)
    | (refine ⟨0, (show _ = _ by omega), ?_⟩; conv => whnf))
  refine tst_in (fun u => ?_) (fun u => absurd (h1.symm.trans u) (by decide))
  conv => whnf
  repeat (first
    | (refine And.intro ?_ ?_; (focus (first | omega | decide | exact EqOk.mk (by kernel_rfl) (by kernel_rfl) (by kernel_rfl) | exact Int.natCast_nonneg _ | ((repeat' refine And.intro ?_ ?_) <;> first | omega | exact Int.natCast_nonneg _ | (simp only [i64max, u8max, u16max, u32max, u64max]; omega) | (simp only [mulSz_eq, Cont.len, colsLen, Col.len, List.length_cons, List.length_nil, List.length_replicate, List.length_append]; first | done | omega) | (simp [mulSz, Cont.len, bne]; first | done | omega)))); conv => whnf)
    | (refine tst_in ?_ ?_; (focus (intro h_; exfalso; first | omega | ((try simp only [decide_eq_true_eq, decide_eq_false_iff_not] at h_); omega) | (simp [mulSz, Cont.len, bne] at h_; first | done | omega))); intro _; conv => whnf)
    | (refine tst_in ?_ ?_; rotate_left; (focus (intro h_; exfalso; first | omega | ((try simp only [decide_eq_true_eq, decide_eq_false_iff_not] at h_); omega) | (simp [mulSz, Cont.len, bne] at h_; first | done | omega))); intro _; conv => whnf)
    | (refine ⟨0, (show _ = _ by omega), ?_⟩; conv => whnf))
  refine ⟨y, p1, ?_⟩
  conv => whnf
  repeat (first
    | (refine And.intro ?_ ?_; (focus (first | omega | decide | exact EqOk.mk (by kernel_rfl) (by kernel_rfl) (by kernel_rfl) | exact Int.natCast_nonneg _ | ((repeat' refine And.intro ?_ ?_) <;> first | omega | exact Int.natCast_nonneg _ | (simp only [i64max, u8max, u16max, u32max, u64max]; omega) | (simp only [mulSz_eq, Cont.len, colsLen, Col.len, List.length_cons, List.length_nil, List.length_replicate, List.length_append]; first | done | omega) | (simp [mulSz, Cont.len, bne]; first | done | omega)))); conv => whnf)
    | (refine tst_in ?_ ?_; (focus (intro h_; exfalso; first | omega | ((try simp only [decide_eq_true_eq, decide_eq_false_iff_not] at h_); omega) | (simp [mulSz, Cont.len, bne] at h_; first | done | omega))); intro _; conv => whnf)
    | (refine tst_in ?_ ?_; rotate_left; (focus (intro h_; exfalso; first | omega | ((try simp only [decide_eq_true_eq, decide_eq_false_iff_not] at h_); omega) | (simp [mulSz, Cont.len, bne] at h_; first | done | omega))); intro _; conv => whnf)
    | (refine ⟨0, (show _ = _ by omega), ?_⟩; conv => whnf))
  refine ⟨y, p1, ?_⟩
  conv => whnf
  repeat (first
    | (refine And.intro ?_ ?_; (focus (first | omega | decide | exact EqOk.mk (by kernel_rfl) (by kernel_rfl) (by kernel_rfl) | exact Int.natCast_nonneg _ | ((repeat' refine And.intro ?_ ?_) <;> first | omega | exact Int.natCast_nonneg _ | (simp only [i64max, u8max, u16max, u32max, u64max]; omega) | (simp only [mulSz_eq, Cont.len, colsLen, Col.len, List.length_cons, List.length_nil, List.length_replicate, List.length_append]; first | done | omega) | (simp [mulSz, Cont.len, bne]; first | done | omega)))); conv => whnf)
    | (refine tst_in ?_ ?_; (focus (intro h_; exfalso; first | omega | ((try simp only [decide_eq_true_eq, decide_eq_false_iff_not] at h_); omega) | (simp [mulSz, Cont.len, bne] at h_; first | done | omega))); intro _; conv => whnf)
    | (refine tst_in ?_ ?_; rotate_left; (focus (intro h_; exfalso; first | omega | ((try simp only [decide_eq_true_eq, decide_eq_false_iff_not] at h_); omega) | (simp [mulSz, Cont.len, bne] at h_; first | done | omega))); intro _; conv => whnf)
    | (refine ⟨0, (show _ = _ by omega), ?_⟩; conv => whnf))
  refine ⟨_, [], TQ, ?_⟩
  conv => whnf
  iterate 2
   refine And.intro ?_ ?_
   focus
    conv => whnf
    repeat' (first | exact True.intro | rfl | refine And.intro ?_ ?_ | omega)
    all_goals (conv => whnf)
    all_goals (try (first | rfl | omega | (simp; done)))
  conv => whnf
set_option maxHeartbeats 0 in
set_option maxRecDepth 100000 in
theorem On_out {b : Nat} (hb : b < 18446744073709551616) (h : OutE b) : QFits Try.prog 12 ⟨[.flt .f64 b], [], .bool false⟩ := by
  have h1 := h.abs
  have AQ := Abs_q b hb
  generalize b % 9223372036854775808 = a at *
  refine qfits_of_body (C := cfgk 0) (c := k12) (ts := [2]) tokL mixedL (fun _ => none) (fun _ => none)
    Try.func12 (by kernel_rfl) (by kernel_rfl) (by kernel_rfl) (by kernel_rfl) (by kernel_rfl) rfl rfl ?_
  conv => whnf
  repeat (first
    | (refine And.intro ?_ ?_; (focus (first | omega | decide | exact EqOk.mk (by kernel_rfl) (by kernel_rfl) (by kernel_rfl) | exact Int.natCast_nonneg _ | ((repeat' refine And.intro ?_ ?_) <;> first | omega | exact Int.natCast_nonneg _ | (simp only [i64max, u8max, u16max, u32max, u64max]; omega) | (simp only [mulSz_eq, Cont.len, colsLen, Col.len, List.length_cons, List.length_nil, List.length_replicate, List.length_append]; first | done | omega) | (simp [mulSz, Cont.len, bne]; first | done | omega)))); conv => whnf)
    | (refine tst_in ?_ ?_; (focus (intro h_; exfalso; first | omega | ((try simp only [decide_eq_true_eq, decide_eq_false_iff_not] at h_); omega) | (simp [mulSz, Cont.len, bne] at h_; first | done | omega))); intro _; conv => whnf)
    | (refine tst_in ?_ ?_; rotate_left; (focus (intro h_; exfalso; first | omega | ((try simp only [decide_eq_true_eq, decide_eq_false_iff_not] at h_); omega) | (simp [mulSz, Cont.len, bne] at h_; first | done | omega))); intro _; conv => whnf)
    | (refine ⟨0, (show _ = _ by omega), ?_⟩; conv => whnf))
  refine ⟨_, [], AQ, ?_⟩
  conv => whnf
  iterate 2
   refine And.intro ?_ ?_
   focus
    conv => whnf
    repeat' (first | exact True.intro | rfl | refine And.intro ?_ ?_ | omega)
    all_goals (conv => whnf)
    all_goals (try (first | rfl | omega | (simp; done)))
  conv => whnf
  conv => whnf
  repeat (first
    | (refine And.intro ?_ ?_; (focus (first | omega | decide | exact EqOk.mk (by kernel_rfl) (by kernel_rfl) (by kernel_rfl) | exact Int.natCast_nonneg _ | ((repeat' refine And.intro ?_ ?_) <;> first | omega | exact Int.natCast_nonneg _ | (simp only [i64max, u8max, u16max, u32max, u64max]; omega) | (simp only [mulSz_eq, Cont.len, colsLen, Col.len, List.length_cons, List.length_nil, List.length_replicate, List.length_append]; first | done | omega) | (simp [mulSz, Cont.len, bne]; first | done | omega)))); conv => whnf)
    | (refine tst_in ?_ ?_; (focus (intro h_; exfalso; first | omega | ((try simp only [decide_eq_true_eq, decide_eq_false_iff_not] at h_); omega) | (simp [mulSz, Cont.len, bne] at h_; first | done | omega))); intro _; conv => whnf)
    | (refine tst_in ?_ ?_; rotate_left; (focus (intro h_; exfalso; first | omega | ((try simp only [decide_eq_true_eq, decide_eq_false_iff_not] at h_); omega) | (simp [mulSz, Cont.len, bne] at h_; first | done | omega))); intro _; conv => whnf)
    | (refine ⟨0, (show _ = _ by omega), ?_⟩; conv => whnf))
  refine tst_in (fun u => absurd (h1.symm.trans u) (by decide)) (fun u => ?_)
  conv => whnf
  repeat (first
    | (refine And.intro ?_ ?_; (focus (first | omega | decide | exact EqOk.mk (by kernel_rfl) (by kernel_rfl) (by kernel_rfl) | exact Int.natCast_nonneg _ | ((repeat' refine And.intro ?_ ?_) <;> first | omega | exact Int.natCast_nonneg _ | (simp only [i64max, u8max, u16max, u32max, u64max]; omega) | (simp only [mulSz_eq, Cont.len, colsLen, Col.len, List.length_cons, List.length_nil, List.length_replicate, List.length_append]; first | done | omega) | (simp [mulSz, Cont.len, bne]; first | done | omega)))); conv => whnf)
    | (refine tst_in ?_ ?_; (focus (intro h_; exfalso; first | omega | ((try simp only [decide_eq_true_eq, decide_eq_false_iff_not] at h_); omega) | (simp [mulSz, Cont.len, bne] at h_; first | done | omega))); intro _; conv => whnf)
    | (refine tst_in ?_ ?_; rotate_left; (focus (intro h_; exfalso; first | omega | ((try simp only [decide_eq_true_eq, decide_eq_false_iff_not] at h_); omega) | (simp [mulSz, Cont.len, bne] at h_; first | done | omega))); intro _; conv => whnf)
    | (refine ⟨0, (show _ = _ by omega), ?_⟩; conv => whnf))
theorem div4k {a : Nat} {n : Int} (h : V 0 a n) (h1 : -4194306 < n) (h2 : n < 4194306) : ∃ r, floatBits .quo .f64 a 4661225614328463360 = some r ∧ V 12 r n := by
  obtain ⟨r, k1, k2⟩ := V_div (j := 12) (c := 4661225614328463360) h (by decide) (by omega) (by omega) (by omega)
  rw [Nat.zero_add] at k2
  exact ⟨r, k1, k2⟩
end Go.Proofs.Ytanogghfdamdcaa

set_option linter.unusedVariables false
set_option linter.unusedSimpArgs false
namespace Go.Proofs.Ytanogghfdamdcaa
open Go Go.Fw
noncomputable def k8 : Code := (Try.f8.body).getD .skip
noncomputable def k7 : Code := (Try.f7.body).getD .skip
set_option maxHeartbeats 0 in
set_option maxRecDepth 100000 in
theorem Near_in {b y : Nat} {X t : Int} (hb : b < 18446744073709551616) (h : InE b X) (p : Pk b X y t) : ∃ r, V 12 r (nrst (X * 4096)) ∧ (r ≠ 9223372036854775808 ∧ r < 18446744073709551616) ∧ QFits Try.prog 8 ⟨[.flt .f64 b], [], .tup [.flt .f64 r, .bool true]⟩ := by
  have h1 := h.ab
  have AQ := Abs_q b hb
  have p1 := p.mul
  obtain ⟨s, m, P, hr⟩ := p.num
  have EX := even_x y hr
  have n1 := p.nr.1
  have n2 := p.nr.2
  obtain ⟨w, w1, w2⟩ := div4k p.ev (by omega) (by omega)
  obtain ⟨r, r1, r2, r3⟩ := add0 w2 (by omega) (by omega)
  refine ⟨r, r2, ⟨r3, sum_lt r1⟩, ?_⟩
  generalize D.write ((D.read y).integral .even) = z at *
  generalize b % 9223372036854775808 = a at *
  refine qfits_of_body (C := cfgk 0) (c := k8) (ts := [2, 3]) tokL mixedL (fun _ => none) (fun _ => none)
    Try.func8 (by kernel_rfl) (by kernel_rfl) (by kernel_rfl) (by kernel_rfl) (by kernel_rfl) rfl rfl ?_
  conv => whnf
  repeat (first
    | (refine And.intro ?_ ?_; (focus (first | omega | decide | exact EqOk.mk (by kernel_rfl) (by kernel_rfl) (by kernel_rfl) | exact Int.natCast_nonneg _ | ((repeat' refine And.intro ?_ ?_) <;> first | omega | exact Int.natCast_nonneg _ | (simp only [i64max, u8max, u16max, u32max, u64max]; omega) | (simp only [mulSz_eq, Cont.len, colsLen, Col.len, List.length_cons, List.length_nil, List.length_replicate, List.length_append]; first | done | omega) | (simp [mulSz, Cont.len, bne]; first | done | omega)))); conv => whnf)
    | (refine tst_in ?_ ?_; (focus (intro h_; exfalso; first | omega | ((try simp only [decide_eq_true_eq, decide_eq_false_iff_not] at h_); omega) | (simp [mulSz, Cont.len, bne] at h_; first | done | omega))); intro _; conv => whnf)
    | (refine tst_in ?_ ?_; rotate_left; (focus (intro h_; exfalso; first | omega | ((try simp only [decide_eq_true_eq, decide_eq_false_iff_not] at h_); omega) | (simp [mulSz, Cont.len, bne] at h_; first | done | omega))); intro _; conv => whnf)
    | (refine ⟨0, (show _ = _ by omega), ?_⟩; conv => whnf))
  refine ⟨_, [], AQ, ?_⟩
  conv => whnf
  iterate 2
   refine And.intro ?_ ?_
   focus
    conv => whnf
    repeat' (first | exact True.intro | rfl | refine And.intro ?_ ?_ | omega)
    all_goals (conv => whnf)
    all_goals (try (first | rfl | omega | (simp; done)))
  conv => whnf
  conv => whnf
  repeat (first
    | (refine And.intro ?_ ?_; (focus (first | omega | decide | exact EqOk.mk (by kernel_rfl) (by kernel_rfl) (by kernel_rfl) | exact Int.natCast_nonneg _ | ((repeat' refine And.intro ?_ ?_) <;> first | omega | exact Int.natCast_nonneg _ | (simp only [i64max, u8max, u16max, u32max, u64max]; omega) | (simp only [mulSz_eq, Cont.len, colsLen, Col.len, List.length_cons, List.length_nil, List.length_replicate, List.length_append]; first | done | omega) | (simp [mulSz, Cont.len, bne]; first | done | omega)))); conv => whnf)
    | (refine tst_in ?_ ?_; (focus (intro h_; exfalso; first | omega | ((try simp only [decide_eq_true_eq, decide_eq_false_iff_not] at h_); omega) | (simp [mulSz, Cont.len, bne] at h_; first | done | omega))); intro _; conv => whnf)
    | (refine tst_in ?_ ?_; rotate_left; (focus (intro h_; exfalso; first | omega | ((try simp only [decide_eq_true_eq, decide_eq_false_iff_not] at h_); omega) | (simp [mulSz, Cont.len, bne] at h_; first | done | omega))); intro _; conv => whnf)
    | (refine ⟨0, (show _ = _ by omega), ?_⟩; conv => whnf))
  refine tst_in (fun u => absurd u (by rw [show (D.order a 4652218415073722368 == some Ordering.lt || D.order a 4652218415073722368 == some Ordering.eq) = true from h1]; decide)) (fun u => ?_)
  conv => whnf
  repeat (first
    | (refine And.intro ?_ ?_; (focus (first | omega | decide | exact EqOk.mk (by kernel_rfl) (by kernel_rfl) (by kernel_rfl) | exact Int.natCast_nonneg _ | ((repeat' refine And.intro ?_ ?_) <;> first | omega | exact Int.natCast_nonneg _ | (simp only [i64max, u8max, u16max, u32max, u64max]; omega) | (simp only [mulSz_eq, Cont.len, colsLen, Col.len, List.length_cons, List.length_nil, List.length_replicate, List.length_append]; first | done | omega) | (simp [mulSz, Cont.len, bne]; first | done | omega)))); conv => whnf)
    | (refine tst_in ?_ ?_; (focus (intro h_; exfalso; first | omega | ((try simp only [decide_eq_true_eq, decide_eq_false_iff_not] at h_); omega) | (simp [mulSz, Cont.len, bne] at h_; first | done | omega))); intro _; conv => whnf)
    | (refine tst_in ?_ ?_; rotate_left; (focus (intro h_; exfalso; first | omega | ((try simp only [decide_eq_true_eq, decide_eq_false_iff_not] at h_); omega) | (simp [mulSz, Cont.len, bne] at h_; first | done | omega))); intro _; conv => whnf)
    | (refine ⟨0, (show _ = _ by omega), ?_⟩; conv => whnf))
  refine ⟨y, p1, ?_⟩
  conv => whnf
  repeat (first
    | (refine And.intro ?_ ?_; (focus (first | omega | decide | exact EqOk.mk (by kernel_rfl) (by kernel_rfl) (by kernel_rfl) | exact Int.natCast_nonneg _ | ((repeat' refine And.intro ?_ ?_) <;> first | omega | exact Int.natCast_nonneg _ | (simp only [i64max, u8max, u16max, u32max, u64max]; omega) | (simp only [mulSz_eq, Cont.len, colsLen, Col.len, List.length_cons, List.length_nil, List.length_replicate, List.length_append]; first | done | omega) | (simp [mulSz, Cont.len, bne]; first | done | omega)))); conv => whnf)
    | (refine tst_in ?_ ?_; (focus (intro h_; exfalso; first | omega | ((try simp only [decide_eq_true_eq, decide_eq_false_iff_not] at h_); omega) | (simp [mulSz, Cont.len, bne] at h_; first | done | omega))); intro _; conv => whnf)
    | (refine tst_in ?_ ?_; rotate_left; (focus (intro h_; exfalso; first | omega | ((try simp only [decide_eq_true_eq, decide_eq_false_iff_not] at h_); omega) | (simp [mulSz, Cont.len, bne] at h_; first | done | omega))); intro _; conv => whnf)
    | (refine ⟨0, (show _ = _ by omega), ?_⟩; conv => whnf))
  refine ⟨_, _, EX, rfl, ?_⟩
  conv => whnf
  conv => whnf
  repeat (first
    | (refine And.intro ?_ ?_; (focus (first | omega | decide | exact EqOk.mk (by kernel_rfl) (by kernel_rfl) (by kernel_rfl) | exact Int.natCast_nonneg _ | ((repeat' refine And.intro ?_ ?_) <;> first | omega | exact Int.natCast_nonneg _ | (simp only [i64max, u8max, u16max, u32max, u64max]; omega) | (simp only [mulSz_eq, Cont.len, colsLen, Col.len, List.length_cons, List.length_nil, List.length_replicate, List.length_append]; first | done | omega) | (simp [mulSz, Cont.len, bne]; first | done | omega)))); conv => whnf)
    | (refine tst_in ?_ ?_; (focus (intro h_; exfalso; first | omega | ((try simp only [decide_eq_true_eq, decide_eq_false_iff_not] at h_); omega) | (simp [mulSz, Cont.len, bne] at h_; first | done | omega))); intro _; conv => whnf)
    | (refine tst_in ?_ ?_; rotate_left; (focus (intro h_; exfalso; first | omega | ((try simp only [decide_eq_true_eq, decide_eq_false_iff_not] at h_); omega) | (simp [mulSz, Cont.len, bne] at h_; first | done | omega))); intro _; conv => whnf)
    | (refine ⟨0, (show _ = _ by omega), ?_⟩; conv => whnf))
  refine ⟨w, w1, ?_⟩
  conv => whnf
  repeat (first
    | (refine And.intro ?_ ?_; (focus (first | omega | decide | exact EqOk.mk (by kernel_rfl) (by kernel_rfl) (by kernel_rfl) | exact Int.natCast_nonneg _ | ((repeat' refine And.intro ?_ ?_) <;> first | omega | exact Int.natCast_nonneg _ | (simp only [i64max, u8max, u16max, u32max, u64max]; omega) | (simp only [mulSz_eq, Cont.len, colsLen, Col.len, List.length_cons, List.length_nil, List.length_replicate, List.length_append]; first | done | omega) | (simp [mulSz, Cont.len, bne]; first | done | omega)))); conv => whnf)
    | (refine tst_in ?_ ?_; (focus (intro h_; exfalso; first | omega | ((try simp only [decide_eq_true_eq, decide_eq_false_iff_not] at h_); omega) | (simp [mulSz, Cont.len, bne] at h_; first | done | omega))); intro _; conv => whnf)
    | (refine tst_in ?_ ?_; rotate_left; (focus (intro h_; exfalso; first | omega | ((try simp only [decide_eq_true_eq, decide_eq_false_iff_not] at h_); omega) | (simp [mulSz, Cont.len, bne] at h_; first | done | omega))); intro _; conv => whnf)
    | (refine ⟨0, (show _ = _ by omega), ?_⟩; conv => whnf))
  refine ⟨r, r1, ?_⟩
  conv => whnf
  repeat (first
    | (refine And.intro ?_ ?_; (focus (first | omega | decide | exact EqOk.mk (by kernel_rfl) (by kernel_rfl) (by kernel_rfl) | exact Int.natCast_nonneg _ | ((repeat' refine And.intro ?_ ?_) <;> first | omega | exact Int.natCast_nonneg _ | (simp only [i64max, u8max, u16max, u32max, u64max]; omega) | (simp only [mulSz_eq, Cont.len, colsLen, Col.len, List.length_cons, List.length_nil, List.length_replicate, List.length_append]; first | done | omega) | (simp [mulSz, Cont.len, bne]; first | done | omega)))); conv => whnf)
    | (refine tst_in ?_ ?_; (focus (intro h_; exfalso; first | omega | ((try simp only [decide_eq_true_eq, decide_eq_false_iff_not] at h_); omega) | (simp [mulSz, Cont.len, bne] at h_; first | done | omega))); intro _; conv => whnf)
    | (refine tst_in ?_ ?_; rotate_left; (focus (intro h_; exfalso; first | omega | ((try simp only [decide_eq_true_eq, decide_eq_false_iff_not] at h_); omega) | (simp [mulSz, Cont.len, bne] at h_; first | done | omega))); intro _; conv => whnf)
    | (refine ⟨0, (show _ = _ by omega), ?_⟩; conv => whnf))
  conv => whnf
  repeat' (first | exact True.intro | rfl | refine And.intro ?_ ?_)
  all_goals (conv => whnf)
  repeat' (first | exact True.intro | rfl | refine And.intro ?_ ?_)
  all_goals (try omega)
set_option maxHeartbeats 0 in
set_option maxRecDepth 100000 in
theorem Near_out {b : Nat} (hb : b < 18446744073709551616) (h : OutE b) : QFits Try.prog 8 ⟨[.flt .f64 b], [], .tup [.flt .f64 0, .bool false]⟩ := by
  have h1 := h.abs
  have AQ := Abs_q b hb
  generalize b % 9223372036854775808 = a at *
  refine qfits_of_body (C := cfgk 0) (c := k8) (ts := [2, 3]) tokL mixedL (fun _ => none) (fun _ => none)
    Try.func8 (by kernel_rfl) (by kernel_rfl) (by kernel_rfl) (by kernel_rfl) (by kernel_rfl) rfl rfl ?_
  conv => whnf
  repeat (first
    | (refine And.intro ?_ ?_; (focus (first | omega | decide | exact EqOk.mk (by kernel_rfl) (by kernel_rfl) (by kernel_rfl) | exact Int.natCast_nonneg _ | ((repeat' refine And.intro ?_ ?_) <;> first | omega | exact Int.natCast_nonneg _ | (simp only [i64max, u8max, u16max, u32max, u64max]; omega) | (simp only [mulSz_eq, Cont.len, colsLen, Col.len, List.length_cons, List.length_nil, List.length_replicate, List.length_append]; first | done | omega) | (simp [mulSz, Cont.len, bne]; first | done | omega)))); conv => whnf)
    | (refine tst_in ?_ ?_; (focus (intro h_; exfalso; first | omega | ((try simp only [decide_eq_true_eq, decide_eq_false_iff_not] at h_); omega) | (simp [mulSz, Cont.len, bne] at h_; first | done | omega))); intro _; conv => whnf)
    | (refine tst_in ?_ ?_; rotate_left; (focus (intro h_; exfalso; first | omega | ((try simp only [decide_eq_true_eq, decide_eq_false_iff_not] at h_); omega) | (simp [mulSz, Cont.len, bne] at h_; first | done | omega))); intro _; conv => whnf)
    | (refine ⟨0, (show _ = _ by omega), ?_⟩; conv => whnf))
  refine ⟨_, [], AQ, ?_⟩
  conv => whnf
  iterate 2
   refine And.intro ?_ ?_
   focus
    conv => whnf
    repeat' (first | exact True.intro | rfl | refine And.intro ?_ ?_ | omega)
    all_goals (conv => whnf)
    all_goals (try (first | rfl | omega | (simp; done)))
  conv => whnf
  conv => whnf
  repeat (first
    | (refine And.intro ?_ ?_; (focus (first | omega | decide | exact EqOk.mk (by kernel_rfl) (by kernel_rfl) (by kernel_rfl) | exact Int.natCast_nonneg _ | ((repeat' refine And.intro ?_ ?_) <;> first | omega | exact Int.natCast_nonneg _ | (simp only [i64max, u8max, u16max, u32max, u64max]; omega) | (simp only [mulSz_eq, Cont.len, colsLen, Col.len, List.length_cons, List.length_nil, List.length_replicate, List.length_append]; first | done | omega) | (simp [mulSz, Cont.len, bne]; first | done | omega)))); conv => whnf)
    | (refine tst_in ?_ ?_; (focus (intro h_; exfalso; first | omega | ((try simp only [decide_eq_true_eq, decide_eq_false_iff_not] at h_); omega) | (simp [mulSz, Cont.len, bne] at h_; first | done | omega))); intro _; conv => whnf)
    | (refine tst_in ?_ ?_; rotate_left; (focus (intro h_; exfalso; first | omega | ((try simp only [decide_eq_true_eq, decide_eq_false_iff_not] at h_); omega) | (simp [mulSz, Cont.len, bne] at h_; first | done | omega))); intro _; conv => whnf)
    | (refine ⟨0, (show _ = _ by omega), ?_⟩; conv => whnf))
  refine tst_in (fun u => ?_) (fun u => absurd u (by rw [show (D.order a 4652218415073722368 == some Ordering.lt || D.order a 4652218415073722368 == some Ordering.eq) = false from h1]; decide))
  conv => whnf
  repeat (first
    | (refine And.intro ?_ ?_; (focus (first | omega | decide | exact EqOk.mk (by kernel_rfl) (by kernel_rfl) (by kernel_rfl) | exact Int.natCast_nonneg _ | ((repeat' refine And.intro ?_ ?_) <;> first | omega | exact Int.natCast_nonneg _ | (simp only [i64max, u8max, u16max, u32max, u64max]; omega) | (simp only [mulSz_eq, Cont.len, colsLen, Col.len, List.length_cons, List.length_nil, List.length_replicate, List.length_append]; first | done | omega) | (simp [mulSz, Cont.len, bne]; first | done | omega)))); conv => whnf)
    | (refine tst_in ?_ ?_; (focus (intro h_; exfalso; first | omega | ((try simp only [decide_eq_true_eq, decide_eq_false_iff_not] at h_); omega) | (simp [mulSz, Cont.len, bne] at h_; first | done | omega))); intro _; conv => whnf)
    | (refine tst_in ?_ ?_; rotate_left; (focus (intro h_; exfalso; first | omega | ((try simp only [decide_eq_true_eq, decide_eq_false_iff_not] at h_); omega) | (simp [mulSz, Cont.len, bne] at h_; first | done | omega))); intro _; conv => whnf)
    | (refine ⟨0, (show _ = _ by omega), ?_⟩; conv => whnf))
  conv => whnf
  repeat' (first | exact True.intro | rfl | refine And.intro ?_ ?_)
  all_goals (conv => whnf)
  repeat' (first | exact True.intro | rfl | refine And.intro ?_ ?_)
  all_goals (try omega)
set_option maxHeartbeats 0 in
set_option maxRecDepth 100000 in
theorem rNear_out {b : Nat} (h : OutE b) : QFits Try.prog 7 ⟨[.flt .f64 b], [], .tup [.flt .f64 0, .bool false]⟩ := by
  have h1 := h.two
  refine qfits_of_body (C := cfgk 0) (c := k7) (ts := [2, 3]) tokL mixedL (fun _ => none) (fun _ => none)
    Try.func7 (by kernel_rfl) (by kernel_rfl) (by kernel_rfl) (by kernel_rfl) (by kernel_rfl) rfl rfl ?_
  conv => whnf
  repeat (first
    | (refine And.intro ?_ ?_; (focus (first | omega | decide | exact EqOk.mk (by kernel_rfl) (by kernel_rfl) (by kernel_rfl) | exact Int.natCast_nonneg _ | ((repeat' refine And.intro ?_ ?_) <;> first | omega | exact Int.natCast_nonneg _ | (simp only [i64max, u8max, u16max, u32max, u64max]; omega) | (simp only [mulSz_eq, Cont.len, colsLen, Col.len, List.length_cons, List.length_nil, List.length_replicate, List.length_append]; first | done | omega) | (simp [mulSz, Cont.len, bne]; first | done | omega)))); conv => whnf)
    | (refine tst_in ?_ ?_; (focus (intro h_; exfalso; first | omega | ((try simp only [decide_eq_true_eq, decide_eq_false_iff_not] at h_); omega) | (simp [mulSz, Cont.len, bne] at h_; first | done | omega))); intro _; conv => whnf)
    | (refine tst_in ?_ ?_; rotate_left; (focus (intro h_; exfalso; first | omega | ((try simp only [decide_eq_true_eq, decide_eq_false_iff_not] at h_); omega) | (simp [mulSz, Cont.len, bne] at h_; first | done | omega))); intro _; conv => whnf)
    | (refine ⟨0, (show _ = _ by omega), ?_⟩; conv => whnf))
  refine tst_in (fun u => ?_) (fun u => ?_)
  · rw [show (D.order b 13875590451928498176 == some Ordering.gt || D.order b 13875590451928498176 == some Ordering.eq) = true from u, Bool.true_and] at h1
    conv => whnf
    repeat (first
      | (refine And.intro ?_ ?_; (focus (first | omega | decide | exact EqOk.mk (by kernel_rfl) (by kernel_rfl) (by kernel_rfl) | exact Int.natCast_nonneg _ | ((repeat' refine And.intro ?_ ?_) <;> first | omega | exact Int.natCast_nonneg _ | (simp only [i64max, u8max, u16max, u32max, u64max]; omega) | (simp only [mulSz_eq, Cont.len, colsLen, Col.len, List.length_cons, List.length_nil, List.length_replicate, List.length_append]; first | done | omega) | (simp [mulSz, Cont.len, bne]; first | done | omega)))); conv => whnf)
      | (refine tst_in ?_ ?_; (focus (intro h_; exfalso; first | omega | ((try simp only [decide_eq_true_eq, decide_eq_false_iff_not] at h_); omega) | (simp [mulSz, Cont.len, bne] at h_; first | done | omega))); intro _; conv => whnf)
      | (refine tst_in ?_ ?_; rotate_left; (focus (intro h_; exfalso; first | omega | ((try simp only [decide_eq_true_eq, decide_eq_false_iff_not] at h_); omega) | (simp [mulSz, Cont.len, bne] at h_; first | done | omega))); intro _; conv => whnf)
      | (refine ⟨0, (show _ = _ by omega), ?_⟩; conv => whnf))
    refine tst_in (fun u2 => ?_) (fun u2 => absurd u2 (by rw [show (D.order b 4652218415073722368 == some Ordering.lt || D.order b 4652218415073722368 == some Ordering.eq) = false from h1]; decide))
    conv => whnf
    repeat (first
      | (refine And.intro ?_ ?_; (focus (first | omega | decide | exact EqOk.mk (by kernel_rfl) (by kernel_rfl) (by kernel_rfl) | exact Int.natCast_nonneg _ | ((repeat' refine And.intro ?_ ?_) <;> first | omega | exact Int.natCast_nonneg _ | (simp only [i64max, u8max, u16max, u32max, u64max]; omega) | (simp only [mulSz_eq, Cont.len, colsLen, Col.len, List.length_cons, List.length_nil, List.length_replicate, List.length_append]; first | done | omega) | (simp [mulSz, Cont.len, bne]; first | done | omega)))); conv => whnf)
      | (refine tst_in ?_ ?_; (focus (intro h_; exfalso; first | omega | ((try simp only [decide_eq_true_eq, decide_eq_false_iff_not] at h_); omega) | (simp [mulSz, Cont.len, bne] at h_; first | done | omega))); intro _; conv => whnf)
      | (refine tst_in ?_ ?_; rotate_left; (focus (intro h_; exfalso; first | omega | ((try simp only [decide_eq_true_eq, decide_eq_false_iff_not] at h_); omega) | (simp [mulSz, Cont.len, bne] at h_; first | done | omega))); intro _; conv => whnf)
      | (refine ⟨0, (show _ = _ by omega), ?_⟩; conv => whnf))
    conv => whnf
    repeat' (first | exact True.intro | rfl | refine And.intro ?_ ?_)
    all_goals (conv => whnf)
    repeat' (first | exact True.intro | rfl | refine And.intro ?_ ?_)
    all_goals (try omega)
  · conv => whnf
    repeat (first
      | (refine And.intro ?_ ?_; (focus (first | omega | decide | exact EqOk.mk (by kernel_rfl) (by kernel_rfl) (by kernel_rfl) | exact Int.natCast_nonneg _ | ((repeat' refine And.intro ?_ ?_) <;> first | omega | exact Int.natCast_nonneg _ | (simp only [i64max, u8max, u16max, u32max, u64max]; omega) | (simp only [mulSz_eq, Cont.len, colsLen, Col.len, List.length_cons, List.length_nil, List.length_replicate, List.length_append]; first | done | omega) | (simp [mulSz, Cont.len, bne]; first | done | omega)))); conv => whnf)
      | (refine tst_in ?_ ?_; (focus (intro h_; exfalso; first | omega | ((try simp only [decide_eq_true_eq, decide_eq_false_iff_not] at h_); omega) | (simp [mulSz, Cont.len, bne] at h_; first | done | omega))); intro _; conv => whnf)
      | (refine tst_in ?_ ?_; rotate_left; (focus (intro h_; exfalso; first | omega | ((try simp only [decide_eq_true_eq, decide_eq_false_iff_not] at h_); omega) | (simp [mulSz, Cont.len, bne] at h_; first | done | omega))); intro _; conv => whnf)
      | (refine ⟨0, (show _ = _ by omega), ?_⟩; conv => whnf))
    conv => whnf
    repeat' (first | exact True.intro | rfl | refine And.intro ?_ ?_)
    all_goals (conv => whnf)
    repeat' (first | exact True.intro | rfl | refine And.intro ?_ ?_)
    all_goals (try omega)
set_option maxHeartbeats 0 in
set_option maxRecDepth 100000 in
theorem rNear_w {b y r w : Nat} {t n N : Int} {g e : Bool} (h1 : (D.order b 13875590451928498176 == some .gt || D.order b 13875590451928498176 == some .eq) = true) (h2 : (D.order b 4652218415073722368 == some .lt || D.order b 4652218415073722368 == some .eq) = true)
    (p1 : floatBits .mul .f64 b 4661225614328463360 = some y) (p2 : floatToIntVal .f64 y .i64 = some t) (l1 : -4194304 ≤ t) (l2 : t ≤ 4194304)
    (hn : ((D.order (floatOfInt .f64 t) y == some .gt) = true ∧ n = t - 1) ∨ ((D.order (floatOfInt .f64 t) y == some .gt) = false ∧ n = t))
    (s1 : floatBits .sub .f64 y (floatOfInt .f64 n) = some r) (hg : (D.order r 4602678819172646912 == some .gt) = g) (he : (D.order r 4602678819172646912 == some .eq) = e)
    (hN : N = if g = true ∨ (e = true ∧ n % 2 = 1) then n + 1 else n) (q1 : floatBits .quo .f64 (floatOfInt .f64 N) 4661225614328463360 = some w) :
    QFits Try.prog 7 ⟨[.flt .f64 b], [], .tup [.flt .f64 w, .bool true]⟩ := by
  refine qfits_of_body (C := cfgk 0) (c := k7) (ts := [2, 3]) tokL mixedL (fun _ => none) (fun _ => none)
    Try.func7 (by kernel_rfl) (by kernel_rfl) (by kernel_rfl) (by kernel_rfl) (by kernel_rfl) rfl rfl ?_
  conv => whnf
  repeat (first
    | (refine And.intro ?_ ?_; (focus (first | omega | decide | exact EqOk.mk (by kernel_rfl) (by kernel_rfl) (by kernel_rfl) | exact Int.natCast_nonneg _ | ((repeat' refine And.intro ?_ ?_) <;> first | omega | exact Int.natCast_nonneg _ | (simp only [i64max, u8max, u16max, u32max, u64max]; omega) | (simp only [mulSz_eq, Cont.len, colsLen, Col.len, List.length_cons, List.length_nil, List.length_replicate, List.length_append]; first | done | omega) | (simp [mulSz, Cont.len, bne]; first | done | omega)))); conv => whnf)
    | (refine tst_in ?_ ?_; (focus (intro h_; exfalso; first | omega | ((try simp only [decide_eq_true_eq, decide_eq_false_iff_not] at h_); omega) | (simp [mulSz, Cont.len, bne] at h_; first | done | omega))); intro _; conv => whnf)
    | (refine tst_in ?_ ?_; rotate_left; (focus (intro h_; exfalso; first | omega | ((try simp only [decide_eq_true_eq, decide_eq_false_iff_not] at h_); omega) | (simp [mulSz, Cont.len, bne] at h_; first | done | omega))); intro _; conv => whnf)
    | (refine ⟨0, (show _ = _ by omega), ?_⟩; conv => whnf))
  refine tst_in (fun u => ?_) (fun u => absurd (h1.symm.trans u) (by decide))
  conv => whnf
  repeat (first
    | (refine And.intro ?_ ?_; (focus (first | omega | decide | exact EqOk.mk (by kernel_rfl) (by kernel_rfl) (by kernel_rfl) | exact Int.natCast_nonneg _ | ((repeat' refine And.intro ?_ ?_) <;> first | omega | exact Int.natCast_nonneg _ | (simp only [i64max, u8max, u16max, u32max, u64max]; omega) | (simp only [mulSz_eq, Cont.len, colsLen, Col.len, List.length_cons, List.length_nil, List.length_replicate, List.length_append]; first | done | omega) | (simp [mulSz, Cont.len, bne]; first | done | omega)))); conv => whnf)
    | (refine tst_in ?_ ?_; (focus (intro h_; exfalso; first | omega | ((try simp only [decide_eq_true_eq, decide_eq_false_iff_not] at h_); omega) | (simp [mulSz, Cont.len, bne] at h_; first | done | omega))); intro _; conv => whnf)
    | (refine tst_in ?_ ?_; rotate_left; (focus (intro h_; exfalso; first | omega | ((try simp only [decide_eq_true_eq, decide_eq_false_iff_not] at h_); omega) | (simp [mulSz, Cont.len, bne] at h_; first | done | omega))); intro _; conv => whnf)
    | (refine ⟨0, (show _ = _ by omega), ?_⟩; conv => whnf))
  refine tst_in (fun u => absurd u (by rw [show (D.order b 4652218415073722368 == some Ordering.lt || D.order b 4652218415073722368 == some Ordering.eq) = true from h2]; decide)) (fun u => ?_)
  conv => whnf
  repeat (first
    | (refine And.intro ?_ ?_; (focus (first | omega | decide | exact EqOk.mk (by kernel_rfl) (by kernel_rfl) (by kernel_rfl) | exact Int.natCast_nonneg _ | ((repeat' refine And.intro ?_ ?_) <;> first | omega | exact Int.natCast_nonneg _ | (simp only [i64max, u8max, u16max, u32max, u64max]; omega) | (simp only [mulSz_eq, Cont.len, colsLen, Col.len, List.length_cons, List.length_nil, List.length_replicate, List.length_append]; first | done | omega) | (simp [mulSz, Cont.len, bne]; first | done | omega)))); conv => whnf)
    | (refine tst_in ?_ ?_; (focus (intro h_; exfalso; first | omega | ((try simp only [decide_eq_true_eq, decide_eq_false_iff_not] at h_); omega) | (simp [mulSz, Cont.len, bne] at h_; first | done | omega))); intro _; conv => whnf)
    | (refine tst_in ?_ ?_; rotate_left; (focus (intro h_; exfalso; first | omega | ((try simp only [decide_eq_true_eq, decide_eq_false_iff_not] at h_); omega) | (simp [mulSz, Cont.len, bne] at h_; first | done | omega))); intro _; conv => whnf)
    | (refine ⟨0, (show _ = _ by omega), ?_⟩; conv => whnf))
  refine ⟨y, p1, ?_⟩
  conv => whnf
  repeat (first
    | (refine And.intro ?_ ?_; (focus (first | omega | decide | exact EqOk.mk (by kernel_rfl) (by kernel_rfl) (by kernel_rfl) | exact Int.natCast_nonneg _ | ((repeat' refine And.intro ?_ ?_) <;> first | omega | exact Int.natCast_nonneg _ | (simp only [i64max, u8max, u16max, u32max, u64max]; omega) | (simp only [mulSz_eq, Cont.len, colsLen, Col.len, List.length_cons, List.length_nil, List.length_replicate, List.length_append]; first | done | omega) | (simp [mulSz, Cont.len, bne]; first | done | omega)))); conv => whnf)
    | (refine tst_in ?_ ?_; (focus (intro h_; exfalso; first | omega | ((try simp only [decide_eq_true_eq, decide_eq_false_iff_not] at h_); omega) | (simp [mulSz, Cont.len, bne] at h_; first | done | omega))); intro _; conv => whnf)
    | (refine tst_in ?_ ?_; rotate_left; (focus (intro h_; exfalso; first | omega | ((try simp only [decide_eq_true_eq, decide_eq_false_iff_not] at h_); omega) | (simp [mulSz, Cont.len, bne] at h_; first | done | omega))); intro _; conv => whnf)
    | (refine ⟨0, (show _ = _ by omega), ?_⟩; conv => whnf))
  refine ⟨t, p2, ?_⟩
  conv => whnf
  repeat (first
    | (refine And.intro ?_ ?_; (focus (first | omega | decide | exact EqOk.mk (by kernel_rfl) (by kernel_rfl) (by kernel_rfl) | exact Int.natCast_nonneg _ | ((repeat' refine And.intro ?_ ?_) <;> first | omega | exact Int.natCast_nonneg _ | (simp only [i64max, u8max, u16max, u32max, u64max]; omega) | (simp only [mulSz_eq, Cont.len, colsLen, Col.len, List.length_cons, List.length_nil, List.length_replicate, List.length_append]; first | done | omega) | (simp [mulSz, Cont.len, bne]; first | done | omega)))); conv => whnf)
    | (refine tst_in ?_ ?_; (focus (intro h_; exfalso; first | omega | ((try simp only [decide_eq_true_eq, decide_eq_false_iff_not] at h_); omega) | (simp [mulSz, Cont.len, bne] at h_; first | done | omega))); intro _; conv => whnf)
    | (refine tst_in ?_ ?_; rotate_left; (focus (intro h_; exfalso; first | omega | ((try simp only [decide_eq_true_eq, decide_eq_false_iff_not] at h_); omega) | (simp [mulSz, Cont.len, bne] at h_; first | done | omega))); intro _; conv => whnf)
    | (refine ⟨0, (show _ = _ by omega), ?_⟩; conv => whnf))
  rcases hn with ⟨e1, rfl⟩ | ⟨e1, rfl⟩
  · refine tst_in (fun u => ?_) (fun u => absurd (e1.symm.trans u) (by decide))
    conv => whnf
    repeat (first
      | (refine And.intro ?_ ?_; (focus (first | omega | decide | exact EqOk.mk (by kernel_rfl) (by kernel_rfl) (by kernel_rfl) | exact Int.natCast_nonneg _ | ((repeat' refine And.intro ?_ ?_) <;> first | omega | exact Int.natCast_nonneg _ | (simp only [i64max, u8max, u16max, u32max, u64max]; omega) | (simp only [mulSz_eq, Cont.len, colsLen, Col.len, List.length_cons, List.length_nil, List.length_replicate, List.length_append]; first | done | omega) | (simp [mulSz, Cont.len, bne]; first | done | omega)))); conv => whnf)
      | (refine tst_in ?_ ?_; (focus (intro h_; exfalso; first | omega | ((try simp only [decide_eq_true_eq, decide_eq_false_iff_not] at h_); omega) | (simp [mulSz, Cont.len, bne] at h_; first | done | omega))); intro _; conv => whnf)
      | (refine tst_in ?_ ?_; rotate_left; (focus (intro h_; exfalso; first | omega | ((try simp only [decide_eq_true_eq, decide_eq_false_iff_not] at h_); omega) | (simp [mulSz, Cont.len, bne] at h_; first | done | omega))); intro _; conv => whnf)
      | (refine ⟨0, (show _ = _ by omega), ?_⟩; conv => whnf))
    refine ⟨r, s1, ?_⟩
    conv => whnf
    repeat (first
      | (refine And.intro ?_ ?_; (focus (first | omega | decide | exact EqOk.mk (by kernel_rfl) (by kernel_rfl) (by kernel_rfl) | exact Int.natCast_nonneg _ | ((repeat' refine And.intro ?_ ?_) <;> first | omega | exact Int.natCast_nonneg _ | (simp only [i64max, u8max, u16max, u32max, u64max]; omega) | (simp only [mulSz_eq, Cont.len, colsLen, Col.len, List.length_cons, List.length_nil, List.length_replicate, List.length_append]; first | done | omega) | (simp [mulSz, Cont.len, bne]; first | done | omega)))); conv => whnf)
      | (refine tst_in ?_ ?_; (focus (intro h_; exfalso; first | omega | ((try simp only [decide_eq_true_eq, decide_eq_false_iff_not] at h_); omega) | (simp [mulSz, Cont.len, bne] at h_; first | done | omega))); intro _; conv => whnf)
      | (refine tst_in ?_ ?_; rotate_left; (focus (intro h_; exfalso; first | omega | ((try simp only [decide_eq_true_eq, decide_eq_false_iff_not] at h_); omega) | (simp [mulSz, Cont.len, bne] at h_; first | done | omega))); intro _; conv => whnf)
      | (refine ⟨0, (show _ = _ by omega), ?_⟩; conv => whnf))
    cases g
    · refine tst_in (fun u => absurd (hg.symm.trans u) (by decide)) (fun u => ?_)
      conv => whnf
      repeat (first
        | (refine And.intro ?_ ?_; (focus (first | omega | decide | exact EqOk.mk (by kernel_rfl) (by kernel_rfl) (by kernel_rfl) | exact Int.natCast_nonneg _ | ((repeat' refine And.intro ?_ ?_) <;> first | omega | exact Int.natCast_nonneg _ | (simp only [i64max, u8max, u16max, u32max, u64max]; omega) | (simp only [mulSz_eq, Cont.len, colsLen, Col.len, List.length_cons, List.length_nil, List.length_replicate, List.length_append]; first | done | omega) | (simp [mulSz, Cont.len, bne]; first | done | omega)))); conv => whnf)
        | (refine tst_in ?_ ?_; (focus (intro h_; exfalso; first | omega | ((try simp only [decide_eq_true_eq, decide_eq_false_iff_not] at h_); omega) | (simp [mulSz, Cont.len, bne] at h_; first | done | omega))); intro _; conv => whnf)
        | (refine tst_in ?_ ?_; rotate_left; (focus (intro h_; exfalso; first | omega | ((try simp only [decide_eq_true_eq, decide_eq_false_iff_not] at h_); omega) | (simp [mulSz, Cont.len, bne] at h_; first | done | omega))); intro _; conv => whnf)
        | (refine ⟨0, (show _ = _ by omega), ?_⟩; conv => whnf))
      cases e
      · refine tst_in (fun u => absurd (he.symm.trans u) (by decide)) (fun u => ?_)
        conv => whnf
        repeat (first
          | (refine And.intro ?_ ?_; (focus (first | omega | decide | exact EqOk.mk (by kernel_rfl) (by kernel_rfl) (by kernel_rfl) | exact Int.natCast_nonneg _ | ((repeat' refine And.intro ?_ ?_) <;> first | omega | exact Int.natCast_nonneg _ | (simp only [i64max, u8max, u16max, u32max, u64max]; omega) | (simp only [mulSz_eq, Cont.len, colsLen, Col.len, List.length_cons, List.length_nil, List.length_replicate, List.length_append]; first | done | omega) | (simp [mulSz, Cont.len, bne]; first | done | omega)))); conv => whnf)
          | (refine tst_in ?_ ?_; (focus (intro h_; exfalso; first | omega | ((try simp only [decide_eq_true_eq, decide_eq_false_iff_not] at h_); omega) | (simp [mulSz, Cont.len, bne] at h_; first | done | omega))); intro _; conv => whnf)
          | (refine tst_in ?_ ?_; rotate_left; (focus (intro h_; exfalso; first | omega | ((try simp only [decide_eq_true_eq, decide_eq_false_iff_not] at h_); omega) | (simp [mulSz, Cont.len, bne] at h_; first | done | omega))); intro _; conv => whnf)
          | (refine ⟨0, (show _ = _ by omega), ?_⟩; conv => whnf))
        rw [if_neg (by simp)] at hN
        subst hN
        refine ⟨w, q1, ?_⟩
        conv => whnf
        repeat (first
          | (refine And.intro ?_ ?_; (focus (first | omega | decide | exact EqOk.mk (by kernel_rfl) (by kernel_rfl) (by kernel_rfl) | exact Int.natCast_nonneg _ | ((repeat' refine And.intro ?_ ?_) <;> first | omega | exact Int.natCast_nonneg _ | (simp only [i64max, u8max, u16max, u32max, u64max]; omega) | (simp only [mulSz_eq, Cont.len, colsLen, Col.len, List.length_cons, List.length_nil, List.length_replicate, List.length_append]; first | done | omega) | (simp [mulSz, Cont.len, bne]; first | done | omega)))); conv => whnf)
          | (refine tst_in ?_ ?_; (focus (intro h_; exfalso; first | omega | ((try simp only [decide_eq_true_eq, decide_eq_false_iff_not] at h_); omega) | (simp [mulSz, Cont.len, bne] at h_; first | done | omega))); intro _; conv => whnf)
          | (refine tst_in ?_ ?_; rotate_left; (focus (intro h_; exfalso; first | omega | ((try simp only [decide_eq_true_eq, decide_eq_false_iff_not] at h_); omega) | (simp [mulSz, Cont.len, bne] at h_; first | done | omega))); intro _; conv => whnf)
          | (refine ⟨0, (show _ = _ by omega), ?_⟩; conv => whnf))
        conv => whnf
        repeat' (first | exact True.intro | rfl | refine And.intro ?_ ?_)
        all_goals (conv => whnf)
        repeat' (first | exact True.intro | rfl | refine And.intro ?_ ?_)
        all_goals (try omega)
      · refine tst_in (fun u => ?_) (fun u => absurd (he.symm.trans u) (by decide))
        conv => whnf
        repeat (first
          | (refine And.intro ?_ ?_; (focus (first | omega | decide | exact EqOk.mk (by kernel_rfl) (by kernel_rfl) (by kernel_rfl) | exact Int.natCast_nonneg _ | ((repeat' refine And.intro ?_ ?_) <;> first | omega | exact Int.natCast_nonneg _ | (simp only [i64max, u8max, u16max, u32max, u64max]; omega) | (simp only [mulSz_eq, Cont.len, colsLen, Col.len, List.length_cons, List.length_nil, List.length_replicate, List.length_append]; first | done | omega) | (simp [mulSz, Cont.len, bne]; first | done | omega)))); conv => whnf)
          | (refine tst_in ?_ ?_; (focus (intro h_; exfalso; first | omega | ((try simp only [decide_eq_true_eq, decide_eq_false_iff_not] at h_); omega) | (simp [mulSz, Cont.len, bne] at h_; first | done | omega))); intro _; conv => whnf)
          | (refine tst_in ?_ ?_; rotate_left; (focus (intro h_; exfalso; first | omega | ((try simp only [decide_eq_true_eq, decide_eq_false_iff_not] at h_); omega) | (simp [mulSz, Cont.len, bne] at h_; first | done | omega))); intro _; conv => whnf)
          | (refine ⟨0, (show _ = _ by omega), ?_⟩; conv => whnf))
        refine tst_in (fun u => ?_) (fun u => ?_)
        · rw [Bool.not_eq_true', decide_eq_false_iff_not] at u
          rw [if_pos (.inr ⟨rfl, Classical.byContradiction fun q => u ((odd_mod _).2 q)⟩)] at hN
          subst hN
          conv => whnf
          repeat (first
            | (refine And.intro ?_ ?_; (focus (first | omega | decide | exact EqOk.mk (by kernel_rfl) (by kernel_rfl) (by kernel_rfl) | exact Int.natCast_nonneg _ | ((repeat' refine And.intro ?_ ?_) <;> first | omega | exact Int.natCast_nonneg _ | (simp only [i64max, u8max, u16max, u32max, u64max]; omega) | (simp only [mulSz_eq, Cont.len, colsLen, Col.len, List.length_cons, List.length_nil, List.length_replicate, List.length_append]; first | done | omega) | (simp [mulSz, Cont.len, bne]; first | done | omega)))); conv => whnf)
            | (refine tst_in ?_ ?_; (focus (intro h_; exfalso; first | omega | ((try simp only [decide_eq_true_eq, decide_eq_false_iff_not] at h_); omega) | (simp [mulSz, Cont.len, bne] at h_; first | done | omega))); intro _; conv => whnf)
            | (refine tst_in ?_ ?_; rotate_left; (focus (intro h_; exfalso; first | omega | ((try simp only [decide_eq_true_eq, decide_eq_false_iff_not] at h_); omega) | (simp [mulSz, Cont.len, bne] at h_; first | done | omega))); intro _; conv => whnf)
            | (refine ⟨0, (show _ = _ by omega), ?_⟩; conv => whnf))
          refine ⟨w, q1, ?_⟩
          conv => whnf
          repeat (first
            | (refine And.intro ?_ ?_; (focus (first | omega | decide | exact EqOk.mk (by kernel_rfl) (by kernel_rfl) (by kernel_rfl) | exact Int.natCast_nonneg _ | ((repeat' refine And.intro ?_ ?_) <;> first | omega | exact Int.natCast_nonneg _ | (simp only [i64max, u8max, u16max, u32max, u64max]; omega) | (simp only [mulSz_eq, Cont.len, colsLen, Col.len, List.length_cons, List.length_nil, List.length_replicate, List.length_append]; first | done | omega) | (simp [mulSz, Cont.len, bne]; first | done | omega)))); conv => whnf)
            | (refine tst_in ?_ ?_; (focus (intro h_; exfalso; first | omega | ((try simp only [decide_eq_true_eq, decide_eq_false_iff_not] at h_); omega) | (simp [mulSz, Cont.len, bne] at h_; first | done | omega))); intro _; conv => whnf)
            | (refine tst_in ?_ ?_; rotate_left; (focus (intro h_; exfalso; first | omega | ((try simp only [decide_eq_true_eq, decide_eq_false_iff_not] at h_); omega) | (simp [mulSz, Cont.len, bne] at h_; first | done | omega))); intro _; conv => whnf)
            | (refine ⟨0, (show _ = _ by omega), ?_⟩; conv => whnf))
          conv => whnf
          repeat' (first | exact True.intro | rfl | refine And.intro ?_ ?_)
          all_goals (conv => whnf)
          repeat' (first | exact True.intro | rfl | refine And.intro ?_ ?_)
          all_goals (try omega)
        · rw [Bool.not_eq_false', decide_eq_true_iff] at u
          rw [if_neg (fun q => q.elim (fun q => by cases q) (fun q => (odd_mod _).1 u q.2))] at hN
          subst hN
          conv => whnf
          repeat (first
            | (refine And.intro ?_ ?_; (focus (first | omega | decide | exact EqOk.mk (by kernel_rfl) (by kernel_rfl) (by kernel_rfl) | exact Int.natCast_nonneg _ | ((repeat' refine And.intro ?_ ?_) <;> first | omega | exact Int.natCast_nonneg _ | (simp only [i64max, u8max, u16max, u32max, u64max]; omega) | (simp only [mulSz_eq, Cont.len, colsLen, Col.len, List.length_cons, List.length_nil, List.length_replicate, List.length_append]; first | done | omega) | (simp [mulSz, Cont.len, bne]; first | done | omega)))); conv => whnf)
            | (refine tst_in ?_ ?_; (focus (intro h_; exfalso; first | omega | ((try simp only [decide_eq_true_eq, decide_eq_false_iff_not] at h_); omega) | (simp [mulSz, Cont.len, bne] at h_; first | done | omega))); intro _; conv => whnf)
            | (refine tst_in ?_ ?_; rotate_left; (focus (intro h_; exfalso; first | omega | ((try simp only [decide_eq_true_eq, decide_eq_false_iff_not] at h_); omega) | (simp [mulSz, Cont.len, bne] at h_; first | done | omega))); intro _; conv => whnf)
            | (refine ⟨0, (show _ = _ by omega), ?_⟩; conv => whnf))
          refine ⟨w, q1, ?_⟩
          conv => whnf
          repeat (first
            | (refine And.intro ?_ ?_; (focus (first | omega | decide | exact EqOk.mk (by kernel_rfl) (by kernel_rfl) (by kernel_rfl) | exact Int.natCast_nonneg _ | ((repeat' refine And.intro ?_ ?_) <;> first | omega | exact Int.natCast_nonneg _ | (simp only [i64max, u8max, u16max, u32max, u64max]; omega) | (simp only [mulSz_eq, Cont.len, colsLen, Col.len, List.length_cons, List.length_nil, List.length_replicate, List.length_append]; first | done | omega) | (simp [mulSz, Cont.len, bne]; first | done | omega)))); conv => whnf)
            | (refine tst_in ?_ ?_; (focus (intro h_; exfalso; first | omega | ((try simp only [decide_eq_true_eq, decide_eq_false_iff_not] at h_); omega) | (simp [mulSz, Cont.len, bne] at h_; first | done | omega))); intro _; conv => whnf)
            | (refine tst_in ?_ ?_; rotate_left; (focus (intro h_; exfalso; first | omega | ((try simp only [decide_eq_true_eq, decide_eq_false_iff_not] at h_); omega) | (simp [mulSz, Cont.len, bne] at h_; first | done | omega))); intro _; conv => whnf)
            | (refine ⟨0, (show _ = _ by omega), ?_⟩; conv => whnf))
          conv => whnf
          repeat' (first | exact True.intro | rfl | refine And.intro ?_ ?_)
          all_goals (conv => whnf)
          repeat' (first | exact True.intro | rfl | refine And.intro ?_ ?_)
          all_goals (try omega)
    · refine tst_in (fun u => ?_) (fun u => absurd (hg.symm.trans u) (by decide))
      conv => whnf
      repeat (first
        | (refine And.intro ?_ ?_; (focus (first | omega | decide | exact EqOk.mk (by kernel_rfl) (by kernel_rfl) (by kernel_rfl) | exact Int.natCast_nonneg _ | ((repeat' refine And.intro ?_ ?_) <;> first | omega | exact Int.natCast_nonneg _ | (simp only [i64max, u8max, u16max, u32max, u64max]; omega) | (simp only [mulSz_eq, Cont.len, colsLen, Col.len, List.length_cons, List.length_nil, List.length_replicate, List.length_append]; first | done | omega) | (simp [mulSz, Cont.len, bne]; first | done | omega)))); conv => whnf)
        | (refine tst_in ?_ ?_; (focus (intro h_; exfalso; first | omega | ((try simp only [decide_eq_true_eq, decide_eq_false_iff_not] at h_); omega) | (simp [mulSz, Cont.len, bne] at h_; first | done | omega))); intro _; conv => whnf)
        | (refine tst_in ?_ ?_; rotate_left; (focus (intro h_; exfalso; first | omega | ((try simp only [decide_eq_true_eq, decide_eq_false_iff_not] at h_); omega) | (simp [mulSz, Cont.len, bne] at h_; first | done | omega))); intro _; conv => whnf)
        | (refine ⟨0, (show _ = _ by omega), ?_⟩; conv => whnf))
      rw [if_pos (.inl rfl)] at hN
      subst hN
      refine ⟨w, q1, ?_⟩
      conv => whnf
      repeat (first
        | (refine And.intro ?_ ?_; (focus (first | omega | decide | exact EqOk.mk (by kernel_rfl) (by kernel_rfl) (by kernel_rfl) | exact Int.natCast_nonneg _ | ((repeat' refine And.intro ?_ ?_) <;> first | omega | exact Int.natCast_nonneg _ | (simp only [i64max, u8max, u16max, u32max, u64max]; omega) | (simp only [mulSz_eq, Cont.len, colsLen, Col.len, List.length_cons, List.length_nil, List.length_replicate, List.length_append]; first | done | omega) | (simp [mulSz, Cont.len, bne]; first | done | omega)))); conv => whnf)
        | (refine tst_in ?_ ?_; (focus (intro h_; exfalso; first | omega | ((try simp only [decide_eq_true_eq, decide_eq_false_iff_not] at h_); omega) | (simp [mulSz, Cont.len, bne] at h_; first | done | omega))); intro _; conv => whnf)
        | (refine tst_in ?_ ?_; rotate_left; (focus (intro h_; exfalso; first | omega | ((try simp only [decide_eq_true_eq, decide_eq_false_iff_not] at h_); omega) | (simp [mulSz, Cont.len, bne] at h_; first | done | omega))); intro _; conv => whnf)
        | (refine ⟨0, (show _ = _ by omega), ?_⟩; conv => whnf))
      conv => whnf
      repeat' (first | exact True.intro | rfl | refine And.intro ?_ ?_)
      all_goals (conv => whnf)
      repeat' (first | exact True.intro | rfl | refine And.intro ?_ ?_)
      all_goals (try omega)
  · refine tst_in (fun u => absurd (e1.symm.trans u) (by decide)) (fun u => ?_)
    conv => whnf
    repeat (first
      | (refine And.intro ?_ ?_; (focus (first | omega | decide | exact EqOk.mk (by kernel_rfl) (by kernel_rfl) (by kernel_rfl) | exact Int.natCast_nonneg _ | ((repeat' refine And.intro ?_ ?_) <;> first | omega | exact Int.natCast_nonneg _ | (simp only [i64max, u8max, u16max, u32max, u64max]; omega) | (simp only [mulSz_eq, Cont.len, colsLen, Col.len, List.length_cons, List.length_nil, List.length_replicate, List.length_append]; first | done | omega) | (simp [mulSz, Cont.len, bne]; first | done | omega)))); conv => whnf)
      | (refine tst_in ?_ ?_; (focus (intro h_; exfalso; first | omega | ((try simp only [decide_eq_true_eq, decide_eq_false_iff_not] at h_); omega) | (simp [mulSz, Cont.len, bne] at h_; first | done | omega))); intro _; conv => whnf)
      | (refine tst_in ?_ ?_; rotate_left; (focus (intro h_; exfalso; first | omega | ((try simp only [decide_eq_true_eq, decide_eq_false_iff_not] at h_); omega) | (simp [mulSz, Cont.len, bne] at h_; first | done | omega))); intro _; conv => whnf)
      | (refine ⟨0, (show _ = _ by omega), ?_⟩; conv => whnf))
    refine ⟨r, s1, ?_⟩
    conv => whnf
    repeat (first
      | (refine And.intro ?_ ?_; (focus (first | omega | decide | exact EqOk.mk (by kernel_rfl) (by kernel_rfl) (by kernel_rfl) | exact Int.natCast_nonneg _ | ((repeat' refine And.intro ?_ ?_) <;> first | omega | exact Int.natCast_nonneg _ | (simp only [i64max, u8max, u16max, u32max, u64max]; omega) | (simp only [mulSz_eq, Cont.len, colsLen, Col.len, List.length_cons, List.length_nil, List.length_replicate, List.length_append]; first | done | omega) | (simp [mulSz, Cont.len, bne]; first | done | omega)))); conv => whnf)
      | (refine tst_in ?_ ?_; (focus (intro h_; exfalso; first | omega | ((try simp only [decide_eq_true_eq, decide_eq_false_iff_not] at h_); omega) | (simp [mulSz, Cont.len, bne] at h_; first | done | omega))); intro _; conv => whnf)
      | (refine tst_in ?_ ?_; rotate_left; (focus (intro h_; exfalso; first | omega | ((try simp only [decide_eq_true_eq, decide_eq_false_iff_not] at h_); omega) | (simp [mulSz, Cont.len, bne] at h_; first | done | omega))); intro _; conv => whnf)
      | (refine ⟨0, (show _ = _ by omega), ?_⟩; conv => whnf))
    cases g
    · refine tst_in (fun u => absurd (hg.symm.trans u) (by decide)) (fun u => ?_)
      conv => whnf
      repeat (first
        | (refine And.intro ?_ ?_; (focus (first | omega | decide | exact EqOk.mk (by kernel_rfl) (by kernel_rfl) (by kernel_rfl) | exact Int.natCast_nonneg _ | ((repeat' refine And.intro ?_ ?_) <;> first | omega | exact Int.natCast_nonneg _ | (simp only [i64max, u8max, u16max, u32max, u64max]; omega) | (simp only [mulSz_eq, Cont.len, colsLen, Col.len, List.length_cons, List.length_nil, List.length_replicate, List.length_append]; first | done | omega) | (simp [mulSz, Cont.len, bne]; first | done | omega)))); conv => whnf)
        | (refine tst_in ?_ ?_; (focus (intro h_; exfalso; first | omega | ((try simp only [decide_eq_true_eq, decide_eq_false_iff_not] at h_); omega) | (simp [mulSz, Cont.len, bne] at h_; first | done | omega))); intro _; conv => whnf)
        | (refine tst_in ?_ ?_; rotate_left; (focus (intro h_; exfalso; first | omega | ((try simp only [decide_eq_true_eq, decide_eq_false_iff_not] at h_); omega) | (simp [mulSz, Cont.len, bne] at h_; first | done | omega))); intro _; conv => whnf)
        | (refine ⟨0, (show _ = _ by omega), ?_⟩; conv => whnf))
      cases e
      · refine tst_in (fun u => absurd (he.symm.trans u) (by decide)) (fun u => ?_)
        conv => whnf
        repeat (first
          | (refine And.intro ?_ ?_; (focus (first | omega | decide | exact EqOk.mk (by kernel_rfl) (by kernel_rfl) (by kernel_rfl) | exact Int.natCast_nonneg _ | ((repeat' refine And.intro ?_ ?_) <;> first | omega | exact Int.natCast_nonneg _ | (simp only [i64max, u8max, u16max, u32max, u64max]; omega) | (simp only [mulSz_eq, Cont.len, colsLen, Col.len, List.length_cons, List.length_nil, List.length_replicate, List.length_append]; first | done | omega) | (simp [mulSz, Cont.len, bne]; first | done | omega)))); conv => whnf)
          | (refine tst_in ?_ ?_; (focus (intro h_; exfalso; first | omega | ((try simp only [decide_eq_true_eq, decide_eq_false_iff_not] at h_); omega) | (simp [mulSz, Cont.len, bne] at h_; first | done | omega))); intro _; conv => whnf)
          | (refine tst_in ?_ ?_; rotate_left; (focus (intro h_; exfalso; first | omega | ((try simp only [decide_eq_true_eq, decide_eq_false_iff_not] at h_); omega) | (simp [mulSz, Cont.len, bne] at h_; first | done | omega))); intro _; conv => whnf)
          | (refine ⟨0, (show _ = _ by omega), ?_⟩; conv => whnf))
        rw [if_neg (by simp)] at hN
        subst hN
        refine ⟨w, q1, ?_⟩
        conv => whnf
        repeat (first
          | (refine And.intro ?_ ?_; (focus (first | omega | decide | exact EqOk.mk (by kernel_rfl) (by kernel_rfl) (by kernel_rfl) | exact Int.natCast_nonneg _ | ((repeat' refine And.intro ?_ ?_) <;> first | omega | exact Int.natCast_nonneg _ | (simp only [i64max, u8max, u16max, u32max, u64max]; omega) | (simp only [mulSz_eq, Cont.len, colsLen, Col.len, List.length_cons, List.length_nil, List.length_replicate, List.length_append]; first | done | omega) | (simp [mulSz, Cont.len, bne]; first | done | omega)))); conv => whnf)
          | (refine tst_in ?_ ?_; (focus (intro h_; exfalso; first | omega | ((try simp only [decide_eq_true_eq, decide_eq_false_iff_not] at h_); omega) | (simp [mulSz, Cont.len, bne] at h_; first | done | omega))); intro _; conv => whnf)
          | (refine tst_in ?_ ?_; rotate_left; (focus (intro h_; exfalso; first | omega | ((try simp only [decide_eq_true_eq, decide_eq_false_iff_not] at h_); omega) | (simp [mulSz, Cont.len, bne] at h_; first | done | omega))); intro _; conv => whnf)
          | (refine ⟨0, (show _ = _ by omega), ?_⟩; conv => whnf))
        conv => whnf
        repeat' (first | exact True.intro | rfl | refine And.intro ?_ ?_)
        all_goals (conv => whnf)
        repeat' (first | exact True.intro | rfl | refine And.intro ?_ ?_)
        all_goals (try omega)
      · refine tst_in (fun u => ?_) (fun u => absurd (he.symm.trans u) (by decide))
        conv => whnf
        repeat (first
          | (refine And.intro ?_ ?_; (focus (first | omega | decide | exact EqOk.mk (by kernel_rfl) (by kernel_rfl) (by kernel_rfl) | exact Int.natCast_nonneg _ | ((repeat' refine And.intro ?_ ?_) <;> first | omega | exact Int.natCast_nonneg _ | (simp only [i64max, u8max, u16max, u32max, u64max]; omega) | (simp only [mulSz_eq, Cont.len, colsLen, Col.len, List.length_cons, List.length_nil, List.length_replicate, List.length_append]; first | done | omega) | (simp [mulSz, Cont.len, bne]; first | done | omega)))); conv => whnf)
          | (refine tst_in ?_ ?_; (focus (intro h_; exfalso; first | omega | ((try simp only [decide_eq_true_eq, decide_eq_false_iff_not] at h_); omega) | (simp [mulSz, Cont.len, bne] at h_; first | done | omega))); intro _; conv => whnf)
          | (refine tst_in ?_ ?_; rotate_left; (focus (intro h_; exfalso; first | omega | ((try simp only [decide_eq_true_eq, decide_eq_false_iff_not] at h_); omega) | (simp [mulSz, Cont.len, bne] at h_; first | done | omega))); intro _; conv => whnf)
          | (refine ⟨0, (show _ = _ by omega), ?_⟩; conv => whnf))
        refine tst_in (fun u => ?_) (fun u => ?_)
        · rw [Bool.not_eq_true', decide_eq_false_iff_not] at u
          rw [if_pos (.inr ⟨rfl, Classical.byContradiction fun q => u ((odd_mod _).2 q)⟩)] at hN
          subst hN
          conv => whnf
          repeat (first
            | (refine And.intro ?_ ?_; (focus (first | omega | decide | exact EqOk.mk (by kernel_rfl) (by kernel_rfl) (by kernel_rfl) | exact Int.natCast_nonneg _ | ((repeat' refine And.intro ?_ ?_) <;> first | omega | exact Int.natCast_nonneg _ | (simp only [i64max, u8max, u16max, u32max, u64max]; omega) | (simp only [mulSz_eq, Cont.len, colsLen, Col.len, List.length_cons, List.length_nil, List.length_replicate, List.length_append]; first | done | omega) | (simp [mulSz, Cont.len, bne]; first | done | omega)))); conv => whnf)
            | (refine tst_in ?_ ?_; (focus (intro h_; exfalso; first | omega | ((try simp only [decide_eq_true_eq, decide_eq_false_iff_not] at h_); omega) | (simp [mulSz, Cont.len, bne] at h_; first | done | omega))); intro _; conv => whnf)
            | (refine tst_in ?_ ?_; rotate_left; (focus (intro h_; exfalso; first | omega | ((try simp only [decide_eq_true_eq, decide_eq_false_iff_not] at h_); omega) | (simp [mulSz, Cont.len, bne] at h_; first | done | omega))); intro _; conv => whnf)
            | (refine ⟨0, (show _ = _ by omega), ?_⟩; conv => whnf))
          refine ⟨w, q1, ?_⟩
          conv => whnf
          repeat (first
            | (refine And.intro ?_ ?_; (focus (first | omega | decide | exact EqOk.mk (by kernel_rfl) (by kernel_rfl) (by kernel_rfl) | exact Int.natCast_nonneg _ | ((repeat' refine And.intro ?_ ?_) <;> first | omega | exact Int.natCast_nonneg _ | (simp only [i64max, u8max, u16max, u32max, u64max]; omega) | (simp only [mulSz_eq, Cont.len, colsLen, Col.len, List.length_cons, List.length_nil, List.length_replicate, List.length_append]; first | done | omega) | (simp [mulSz, Cont.len, bne]; first | done | omega)))); conv => whnf)
            | (refine tst_in ?_ ?_; (focus (intro h_; exfalso; first | omega | ((try simp only [decide_eq_true_eq, decide_eq_false_iff_not] at h_); omega) | (simp [mulSz, Cont.len, bne] at h_; first | done | omega))); intro _; conv => whnf)
            | (refine tst_in ?_ ?_; rotate_left; (focus (intro h_; exfalso; first | omega | ((try simp only [decide_eq_true_eq, decide_eq_false_iff_not] at h_); omega) | (simp [mulSz, Cont.len, bne] at h_; first | done | omega))); intro _; conv => whnf)
            | (refine ⟨0, (show _ = _ by omega), ?_⟩; conv => whnf))
          conv => whnf
          repeat' (first | exact True.intro | rfl | refine And.intro ?_ ?_)
          all_goals (conv => whnf)
          repeat' (first | exact True.intro | rfl | refine And.intro ?_ ?_)
          all_goals (try omega)
        · rw [Bool.not_eq_false', decide_eq_true_iff] at u
          rw [if_neg (fun q => q.elim (fun q => by cases q) (fun q => (odd_mod _).1 u q.2))] at hN
          subst hN
          conv => whnf
          repeat (first
            | (refine And.intro ?_ ?_; (focus (first | omega | decide | exact EqOk.mk (by kernel_rfl) (by kernel_rfl) (by kernel_rfl) | exact Int.natCast_nonneg _ | ((repeat' refine And.intro ?_ ?_) <;> first | omega | exact Int.natCast_nonneg _ | (simp only [i64max, u8max, u16max, u32max, u64max]; omega) | (simp only [mulSz_eq, Cont.len, colsLen, Col.len, List.length_cons, List.length_nil, List.length_replicate, List.length_append]; first | done | omega) | (simp [mulSz, Cont.len, bne]; first | done | omega)))); conv => whnf)
            | (refine tst_in ?_ ?_; (focus (intro h_; exfalso; first | omega | ((try simp only [decide_eq_true_eq, decide_eq_false_iff_not] at h_); omega) | (simp [mulSz, Cont.len, bne] at h_; first | done | omega))); intro _; conv => whnf)
            | (refine tst_in ?_ ?_; rotate_left; (focus (intro h_; exfalso; first | omega | ((try simp only [decide_eq_true_eq, decide_eq_false_iff_not] at h_); omega) | (simp [mulSz, Cont.len, bne] at h_; first | done | omega))); intro _; conv => whnf)
            | (refine ⟨0, (show _ = _ by omega), ?_⟩; conv => whnf))
          refine ⟨w, q1, ?_⟩
          conv => whnf
          repeat (first
            | (refine And.intro ?_ ?_; (focus (first | omega | decide | exact EqOk.mk (by kernel_rfl) (by kernel_rfl) (by kernel_rfl) | exact Int.natCast_nonneg _ | ((repeat' refine And.intro ?_ ?_) <;> first | omega | exact Int.natCast_nonneg _ | (simp only [i64max, u8max, u16max, u32max, u64max]; omega) | (simp only [mulSz_eq, Cont.len, colsLen, Col.len, List.length_cons, List.length_nil, List.length_replicate, List.length_append]; first | done | omega) | (simp [mulSz, Cont.len, bne]; first | done | omega)))); conv => whnf)
            | (refine tst_in ?_ ?_; (focus (intro h_; exfalso; first | omega | ((try simp only [decide_eq_true_eq, decide_eq_false_iff_not] at h_); omega) | (simp [mulSz, Cont.len, bne] at h_; first | done | omega))); intro _; conv => whnf)
            | (refine tst_in ?_ ?_; rotate_left; (focus (intro h_; exfalso; first | omega | ((try simp only [decide_eq_true_eq, decide_eq_false_iff_not] at h_); omega) | (simp [mulSz, Cont.len, bne] at h_; first | done | omega))); intro _; conv => whnf)
            | (refine ⟨0, (show _ = _ by omega), ?_⟩; conv => whnf))
          conv => whnf
          repeat' (first | exact True.intro | rfl | refine And.intro ?_ ?_)
          all_goals (conv => whnf)
          repeat' (first | exact True.intro | rfl | refine And.intro ?_ ?_)
          all_goals (try omega)
    · refine tst_in (fun u => ?_) (fun u => absurd (hg.symm.trans u) (by decide))
      conv => whnf
      repeat (first
        | (refine And.intro ?_ ?_; (focus (first | omega | decide | exact EqOk.mk (by kernel_rfl) (by kernel_rfl) (by kernel_rfl) | exact Int.natCast_nonneg _ | ((repeat' refine And.intro ?_ ?_) <;> first | omega | exact Int.natCast_nonneg _ | (simp only [i64max, u8max, u16max, u32max, u64max]; omega) | (simp only [mulSz_eq, Cont.len, colsLen, Col.len, List.length_cons, List.length_nil, List.length_replicate, List.length_append]; first | done | omega) | (simp [mulSz, Cont.len, bne]; first | done | omega)))); conv => whnf)
        | (refine tst_in ?_ ?_; (focus (intro h_; exfalso; first | omega | ((try simp only [decide_eq_true_eq, decide_eq_false_iff_not] at h_); omega) | (simp [mulSz, Cont.len, bne] at h_; first | done | omega))); intro _; conv => whnf)
        | (refine tst_in ?_ ?_; rotate_left; (focus (intro h_; exfalso; first | omega | ((try simp only [decide_eq_true_eq, decide_eq_false_iff_not] at h_); omega) | (simp [mulSz, Cont.len, bne] at h_; first | done | omega))); intro _; conv => whnf)
        | (refine ⟨0, (show _ = _ by omega), ?_⟩; conv => whnf))
      rw [if_pos (.inl rfl)] at hN
      subst hN
      refine ⟨w, q1, ?_⟩
      conv => whnf
      repeat (first
        | (refine And.intro ?_ ?_; (focus (first | omega | decide | exact EqOk.mk (by kernel_rfl) (by kernel_rfl) (by kernel_rfl) | exact Int.natCast_nonneg _ | ((repeat' refine And.intro ?_ ?_) <;> first | omega | exact Int.natCast_nonneg _ | (simp only [i64max, u8max, u16max, u32max, u64max]; omega) | (simp only [mulSz_eq, Cont.len, colsLen, Col.len, List.length_cons, List.length_nil, List.length_replicate, List.length_append]; first | done | omega) | (simp [mulSz, Cont.len, bne]; first | done | omega)))); conv => whnf)
        | (refine tst_in ?_ ?_; (focus (intro h_; exfalso; first | omega | ((try simp only [decide_eq_true_eq, decide_eq_false_iff_not] at h_); omega) | (simp [mulSz, Cont.len, bne] at h_; first | done | omega))); intro _; conv => whnf)
        | (refine tst_in ?_ ?_; rotate_left; (focus (intro h_; exfalso; first | omega | ((try simp only [decide_eq_true_eq, decide_eq_false_iff_not] at h_); omega) | (simp [mulSz, Cont.len, bne] at h_; first | done | omega))); intro _; conv => whnf)
        | (refine ⟨0, (show _ = _ by omega), ?_⟩; conv => whnf))
      conv => whnf
      repeat' (first | exact True.intro | rfl | refine And.intro ?_ ?_)
      all_goals (conv => whnf)
      repeat' (first | exact True.intro | rfl | refine And.intro ?_ ?_)
      all_goals (try omega)
theorem rNear_in {b y : Nat} {X t : Int} (h : InE b X) (p : Pk b X y t) : ∃ r, V 12 r (nrst (X * 4096)) ∧ QFits Try.prog 7 ⟨[.flt .f64 b], [], .tup [.flt .f64 r, .bool true]⟩ := by
  have hTF := tdiv_floor p.tt
  have l1 := p.lo
  have l2 := p.hi
  have n1 := p.nr.1
  have n2 := p.nr.2
  obtain ⟨w, w1, w2⟩ := div4k (V_ofInt (nrst (X * 4096)) (by omega) (by omega)) (by omega) (by omega)
  refine ⟨w, w2, ?_⟩
  have hT := V0_U (V_ofInt t (by omega) (by omega))
  have key : ∀ n : Int, -4194306 ≤ n → n ≤ 4194306 → n * U ≤ X * 4096 → X * 4096 < (n + 1) * U → (((D.order (floatOfInt .f64 t) y == some .gt) = true ∧ n = t - 1) ∨ ((D.order (floatOfInt .f64 t) y == some .gt) = false ∧ n = t)) → QFits Try.prog 7 ⟨[.flt .f64 b], [], .tup [.flt .f64 w, .bool true]⟩ := by
    intro n m1 m2 f1 f2 hn
    obtain ⟨r, Z, s1, s2, s3⟩ := rest_in p.v f1 f2 (by omega) (by omega) p.big
    have hN := nrst_floor f1 f2
    have hN2 : nrst (X * 4096) = if decide (H < Z) = true ∨ (decide (Z = H) = true ∧ n % 2 = 1) then n + 1 else n := by
      rw [hN]
      have s4 : (decide (H < Z) = true ∨ (decide (Z = H) = true ∧ n % 2 = 1)) ↔ (H < X * 4096 - n * U ∨ (X * 4096 - n * U = H ∧ n % 2 = 1)) := by rw [decide_eq_true_iff, decide_eq_true_iff]; exact s3
      by_cases c : H < X * 4096 - n * U ∨ (X * 4096 - n * U = H ∧ n % 2 = 1)
      · rw [if_pos c, if_pos (s4.2 c)]
      · rw [if_neg c, if_neg (fun q => c (s4.1 q))]
    exact rNear_w h.ge h.le p.mul p.c64 p.lo p.hi hn s1 (V_gtb s2 V_cH) (V_eqb s2 V_cH) hN2 w1
  rcases Int.lt_or_le (X * 4096) (t * U) with q | q
  · obtain ⟨f1, f2⟩ := hTF.1 q
    exact key (t - 1) (by omega) (by omega) f1 f2 (.inl ⟨by rw [V_gtb hT p.v]; exact decide_eq_true q, rfl⟩)
  · exact key t (by omega) (by omega) q (hTF.2 q) (.inr ⟨by rw [V_gtb hT p.v]; exact decide_eq_false (by omega), rfl⟩)
end Go.Proofs.Ytanogghfdamdcaa

set_option linter.unusedVariables false
set_option linter.unusedSimpArgs false
namespace Go.Proofs.Ytanogghfdamdcaa
open Go Go.Fw
theorem push_tb {α : Type} (F : Nat → α) (t t1 : List α) (i : Nat) (x : α) (hx : x = F i) : List.take i (List.drop 0 (tb F i ++ t)) ++ [x] ++ t1 = tb F (i + 1) ++ t1 := by
  rw [List.drop_zero, List.take_left' (tab_len F i), hx, tab_snoc]
def u8S (l : List Int) : Seg := .seg false (.ints .u64 l)
def cxS (o : Bool) (A : List (Nat × Nat)) : Seg := .seg o (.cpxs .f64 A)
def rowS (o : Bool) (A : List (Nat × Nat)) (B : List Bool) : Seg := .seg o (.cols [.cpxs .f64 A, .bools B])
def zF (l : List Int) (i : Nat) : Nat × Nat := ((l.getD (2 * i) 0).toNat, (l.getD (2 * i + 1) 0).toNat)
abbrev YT := List (Nat × Nat)
def rOut (D : List Seg) (k : Nat) (x : AV → AV) (F : Nat → Nat × Nat) (n : Nat) : FOut :=
  ⟨YT, fun _ => True, fun y => x (.slice k 0 n (n + y.length)), fun y => D ++ [cxS true (tb F n ++ y)]⟩
noncomputable def k15 : Code := (Try.f15.body).getD .skip
def st15 (l : List Int) (nl ca j : Nat) (t : YT) : St :=
  ⟨slotsAt 28 [(0, .slice 0 0 nl ca), (3, .slice 1 0 j (j + t.length)), (4, .int .i64 ((2 * j : Nat) : Int))], [u8S l, cxS true (tb (zF l) j ++ t)]⟩
def inv15 (l : List Int) (nl ca : Nat) : LInv := ⟨Nat × YT, fun y => st15 l nl ca y.1 y.2, fun y => 2 * y.1 ≤ nl, fun y => nl - 2 * y.1⟩
set_option maxHeartbeats 0 in
set_option maxRecDepth 100000 in
theorem numbers_f (l : List Int) (nl ca n : Nat) (hl : nl ≤ l.length) (hca : nl ≤ ca) (hn : nl ≤ 17592186043904) (h2 : n = nl / 2) :
    Fits Try.prog 15 ⟨[.slice 0 0 nl ca], [u8S l], [rOut [.dead] 1 (fun s => s) (zF l) n]⟩ := by
  refine fits_of_body (C := { cfgk 1 with sgn := fun _ => false, plan := fun | 5 => some (.nn (.op 0 (.op 1 (.op 2 (.op 3 (.op 4 (.op 6 (.op 7 (.rd 8 (.rd 9 (.rd 10 (.op 5 (.chk [10, 9, 8] (.op 11 (.op 12 (.op 13 (.op 14 (.op 15 .done)))))))))))))))))) | _ => none }) (c := k15) (ts := [2]) tokL mixedL (fun | 3 => some (inv15 l nl ca) | _ => none) (fun _ => none)
    Try.func15 (by kernel_rfl) (by kernel_rfl) (by kernel_rfl) (by kernel_rfl) rfl ?_
  conv => whnf
  repeat (first
    | (refine And.intro ?_ ?_; (focus (first | omega | decide | exact EqOk.mk (by kernel_rfl) (by kernel_rfl) (by kernel_rfl) | exact Int.natCast_nonneg _ | ((repeat' refine And.intro ?_ ?_) <;> first | omega | exact Int.natCast_nonneg _ | (simp only [i64max, u8max, u16max, u32max, u64max]; omega) | (simp only [mulSz_eq, Cont.len, colsLen, Col.len, List.length_cons, List.length_nil, List.length_replicate, List.length_append]; first | done | omega) | (simp [mulSz, Cont.len, bne]; first | done | omega)))); conv => whnf)
    | (refine tst_in ?_ ?_; (focus (intro h_; exfalso; first | omega | ((try simp only [decide_eq_true_eq, decide_eq_false_iff_not] at h_); omega) | (simp [mulSz, Cont.len, bne] at h_; first | done | omega))); intro _; conv => whnf)
    | (refine tst_in ?_ ?_; rotate_left; (focus (intro h_; exfalso; first | omega | ((try simp only [decide_eq_true_eq, decide_eq_false_iff_not] at h_); omega) | (simp [mulSz, Cont.len, bne] at h_; first | done | omega))); intro _; conv => whnf)
    | (refine ⟨0, (show _ = _ by omega), ?_⟩; conv => whnf))
  refine ⟨⟨[0, 9], (0, []), ?_, Nat.zero_le _⟩, ?_⟩
  · show stLe _ _ (st15 l nl ca 0 []) _
    conv => whnf
    repeat' (first | exact True.intro | rfl | refine And.intro ?_ ?_)
    all_goals (conv => whnf)
    repeat' (first | exact True.intro | rfl | refine And.intro ?_ ?_)
    all_goals (try omega)
  · intro ⟨j, t⟩ (hj : 2 * j ≤ nl)
    show forceSt (st15 l nl ca j t) _
    conv => whnf
    repeat (first
      | (refine And.intro ?_ ?_; (focus (first | omega | decide | exact EqOk.mk (by kernel_rfl) (by kernel_rfl) (by kernel_rfl) | exact Int.natCast_nonneg _ | ((repeat' refine And.intro ?_ ?_) <;> first | omega | exact Int.natCast_nonneg _ | (simp only [i64max, u8max, u16max, u32max, u64max]; omega) | (simp only [mulSz_eq, Cont.len, colsLen, Col.len, List.length_cons, List.length_nil, List.length_replicate, List.length_append]; first | done | omega) | (simp [mulSz, Cont.len, bne]; first | done | omega)))); conv => whnf)
      | (refine tst_in ?_ ?_; (focus (intro h_; exfalso; first | omega | ((try simp only [decide_eq_true_eq, decide_eq_false_iff_not] at h_); omega) | (simp [mulSz, Cont.len, bne] at h_; first | done | omega))); intro _; conv => whnf)
      | (refine tst_in ?_ ?_; rotate_left; (focus (intro h_; exfalso; first | omega | ((try simp only [decide_eq_true_eq, decide_eq_false_iff_not] at h_); omega) | (simp [mulSz, Cont.len, bne] at h_; first | done | omega))); intro _; conv => whnf)
      | (refine ⟨0, (show _ = _ by omega), ?_⟩; conv => whnf))
    refine tst_in (fun h1 => ?_) (fun h1' => ?_)
    · skip
      have h1 : 2 * j + 1 < nl := by simp at h1; omega
      have ez : ((l.getD (0 + ((2 * j : Nat) : Int).toNat) 0).toNat, (l.getD (0 + (((2 * j : Nat) : Int) + 1).toNat) 0).toNat) = zF l j := by
        unfold zF; rw [show 0 + ((2 * j : Nat) : Int).toNat = 2 * j by omega, show 0 + (((2 * j : Nat) : Int) + 1).toNat = 2 * j + 1 by omega]
      have F1 := float_q (l.getD (0 + ((2 * j : Nat) : Int).toNat) 0)
      have F2 := float_q (l.getD (0 + (((2 * j : Nat) : Int) + 1).toNat) 0)
      conv => whnf
      repeat (first
        | (refine And.intro ?_ ?_; (focus (first | omega | decide | exact EqOk.mk (by kernel_rfl) (by kernel_rfl) (by kernel_rfl) | exact Int.natCast_nonneg _ | ((repeat' refine And.intro ?_ ?_) <;> first | omega | exact Int.natCast_nonneg _ | (simp only [i64max, u8max, u16max, u32max, u64max]; omega) | (simp only [mulSz_eq, Cont.len, colsLen, Col.len, List.length_cons, List.length_nil, List.length_replicate, List.length_append]; first | done | omega) | (simp [mulSz, Cont.len, bne]; first | done | omega)))); conv => whnf)
        | (refine tst_in ?_ ?_; (focus (intro h_; exfalso; first | omega | ((try simp only [decide_eq_true_eq, decide_eq_false_iff_not] at h_); omega) | (simp [mulSz, Cont.len, bne] at h_; first | done | omega))); intro _; conv => whnf)
        | (refine tst_in ?_ ?_; rotate_left; (focus (intro h_; exfalso; first | omega | ((try simp only [decide_eq_true_eq, decide_eq_false_iff_not] at h_); omega) | (simp [mulSz, Cont.len, bne] at h_; first | done | omega))); intro _; conv => whnf)
        | (refine ⟨0, (show _ = _ by omega), ?_⟩; conv => whnf))
      refine ⟨_, [], F1, ?_⟩
      conv => whnf
      iterate 2
       refine And.intro ?_ ?_
       focus
        conv => whnf
        repeat' (first | exact True.intro | rfl | refine And.intro ?_ ?_ | omega)
        all_goals (conv => whnf)
        all_goals (try (first | rfl | omega | (simp; done)))
      conv => whnf
      conv => whnf
      repeat (first
        | (refine And.intro ?_ ?_; (focus (first | omega | decide | exact EqOk.mk (by kernel_rfl) (by kernel_rfl) (by kernel_rfl) | exact Int.natCast_nonneg _ | ((repeat' refine And.intro ?_ ?_) <;> first | omega | exact Int.natCast_nonneg _ | (simp only [i64max, u8max, u16max, u32max, u64max]; omega) | (simp only [mulSz_eq, Cont.len, colsLen, Col.len, List.length_cons, List.length_nil, List.length_replicate, List.length_append]; first | done | omega) | (simp [mulSz, Cont.len, bne]; first | done | omega)))); conv => whnf)
        | (refine tst_in ?_ ?_; (focus (intro h_; exfalso; first | omega | ((try simp only [decide_eq_true_eq, decide_eq_false_iff_not] at h_); omega) | (simp [mulSz, Cont.len, bne] at h_; first | done | omega))); intro _; conv => whnf)
        | (refine tst_in ?_ ?_; rotate_left; (focus (intro h_; exfalso; first | omega | ((try simp only [decide_eq_true_eq, decide_eq_false_iff_not] at h_); omega) | (simp [mulSz, Cont.len, bne] at h_; first | done | omega))); intro _; conv => whnf)
        | (refine ⟨0, (show _ = _ by omega), ?_⟩; conv => whnf))
      refine ⟨_, [], F2, ?_⟩
      conv => whnf
      iterate 2
       refine And.intro ?_ ?_
       focus
        conv => whnf
        repeat' (first | exact True.intro | rfl | refine And.intro ?_ ?_ | omega)
        all_goals (conv => whnf)
        all_goals (try (first | rfl | omega | (simp; done)))
      conv => whnf
      conv => whnf
      repeat (first
        | (refine And.intro ?_ ?_; (focus (first | omega | decide | exact EqOk.mk (by kernel_rfl) (by kernel_rfl) (by kernel_rfl) | exact Int.natCast_nonneg _ | ((repeat' refine And.intro ?_ ?_) <;> first | omega | exact Int.natCast_nonneg _ | (simp only [i64max, u8max, u16max, u32max, u64max]; omega) | (simp only [mulSz_eq, Cont.len, colsLen, Col.len, List.length_cons, List.length_nil, List.length_replicate, List.length_append, tab_len, List.length_take, List.length_drop]; first | done | omega) | (simp [mulSz, Cont.len, bne, tab_len, List.length_take, List.length_drop]; first | done | omega)))); conv => whnf)
        | (refine tst_in ?_ ?_; (focus (intro h_; exfalso; first | omega | ((try simp only [decide_eq_true_eq, decide_eq_false_iff_not] at h_); omega) | (simp [mulSz, Cont.len, bne, tab_len, List.length_take, List.length_drop] at h_; first | done | omega))); intro _; conv => whnf)
        | (refine tst_in ?_ ?_; rotate_left; (focus (intro h_; exfalso; first | omega | ((try simp only [decide_eq_true_eq, decide_eq_false_iff_not] at h_); omega) | (simp [mulSz, Cont.len, bne, tab_len, List.length_take, List.length_drop] at h_; first | done | omega))); intro _; conv => whnf)
        | (refine ⟨0, (show _ = _ by omega), ?_⟩; conv => whnf))
      intro t1
      conv => whnf
      repeat (first
        | (refine And.intro ?_ ?_; (focus (first | omega | decide | exact EqOk.mk (by kernel_rfl) (by kernel_rfl) (by kernel_rfl) | exact Int.natCast_nonneg _ | ((repeat' refine And.intro ?_ ?_) <;> first | omega | exact Int.natCast_nonneg _ | (simp only [i64max, u8max, u16max, u32max, u64max]; omega) | (simp only [mulSz_eq, Cont.len, colsLen, Col.len, List.length_cons, List.length_nil, List.length_replicate, List.length_append]; first | done | omega) | (simp [mulSz, Cont.len, bne]; first | done | omega)))); conv => whnf)
        | (refine tst_in ?_ ?_; (focus (intro h_; exfalso; first | omega | ((try simp only [decide_eq_true_eq, decide_eq_false_iff_not] at h_); omega) | (simp [mulSz, Cont.len, bne] at h_; first | done | omega))); intro _; conv => whnf)
        | (refine tst_in ?_ ?_; rotate_left; (focus (intro h_; exfalso; first | omega | ((try simp only [decide_eq_true_eq, decide_eq_false_iff_not] at h_); omega) | (simp [mulSz, Cont.len, bne] at h_; first | done | omega))); intro _; conv => whnf)
        | (refine ⟨0, (show _ = _ by omega), ?_⟩; conv => whnf))
      refine ⟨[0, 3], (j + 1, t1), ?_, (by show 2 * (j + 1) ≤ nl; omega), (by show nl - 2 * (j + 1) < nl - 2 * j; omega)⟩
      show stLe _ _ (st15 l nl ca (j + 1) t1) _
      conv => whnf
      repeat' (first | exact True.intro | rfl | refine And.intro ?_ ?_)
      all_goals (conv => whnf)
      repeat' (first | exact True.intro | rfl | refine And.intro ?_ ?_)
      all_goals (try omega)
      exact (push_tb (zF l) t t1 j _ ez).symm
    · skip
      have h1 : ¬ 2 * j + 1 < nl := by simp at h1'; omega
      have h3 : j = n := by omega
      subst h3
      conv => whnf
      repeat (first
        | (refine And.intro ?_ ?_; (focus (first | omega | decide | exact EqOk.mk (by kernel_rfl) (by kernel_rfl) (by kernel_rfl) | exact Int.natCast_nonneg _ | ((repeat' refine And.intro ?_ ?_) <;> first | omega | exact Int.natCast_nonneg _ | (simp only [i64max, u8max, u16max, u32max, u64max]; omega) | (simp only [mulSz_eq, Cont.len, colsLen, Col.len, List.length_cons, List.length_nil, List.length_replicate, List.length_append]; first | done | omega) | (simp [mulSz, Cont.len, bne]; first | done | omega)))); conv => whnf)
        | (refine tst_in ?_ ?_; (focus (intro h_; exfalso; first | omega | ((try simp only [decide_eq_true_eq, decide_eq_false_iff_not] at h_); omega) | (simp [mulSz, Cont.len, bne] at h_; first | done | omega))); intro _; conv => whnf)
        | (refine tst_in ?_ ?_; rotate_left; (focus (intro h_; exfalso; first | omega | ((try simp only [decide_eq_true_eq, decide_eq_false_iff_not] at h_); omega) | (simp [mulSz, Cont.len, bne] at h_; first | done | omega))); intro _; conv => whnf)
        | (refine ⟨0, (show _ = _ by omega), ?_⟩; conv => whnf))
      refine .inl ⟨t, [0, 1], ?_⟩
      conv => whnf
      repeat' (first | exact True.intro | rfl | refine And.intro ?_ ?_)
      all_goals (conv => whnf)
      repeat' (first | exact True.intro | rfl | refine And.intro ?_ ?_)
      all_goals (try omega)
/-! Whether a number is on the grid; a sample. -/
theorem On_both (b : Nat) (hb : b < 18446744073709551616) : ∃ k, (QFits Try.prog 10 ⟨[.flt .f64 b], [], .bool k⟩ ∧ QFits Try.prog 12 ⟨[.flt .f64 b], [], .bool k⟩) ∧ ∀ X, InE b X → k = onV X ((X * 4096).tdiv U) := by
  rcases in_or b with ⟨X, h⟩ | h
  · obtain ⟨y, t, p⟩ := h.pk
    exact ⟨onV X t, ⟨rOn_in h p, On_in hb h p⟩, fun X' h' => by rw [V_inj h'.v h.v, p.tt]⟩
  · refine ⟨false, ⟨rOn_out h, On_out hb h⟩, fun X' h' => ?_⟩
    have h1 := h.two
    rw [h'.ge, h'.le] at h1
    cases h1
noncomputable def ond (b : Nat) : Bool := if h : b < 18446744073709551616 then (On_both b h).choose else false
theorem ond_is {b : Nat} (hb : b < 18446744073709551616) : QFits Try.prog 10 ⟨[.flt .f64 b], [], .bool (ond b)⟩ ∧ QFits Try.prog 12 ⟨[.flt .f64 b], [], .bool (ond b)⟩ := by
  unfold ond; rw [dif_pos hb]; exact (On_both b hb).choose_spec.1
theorem ond_in {b : Nat} (hb : b < 18446744073709551616) {X : Int} (h : InE b X) : ond b = onV X ((X * 4096).tdiv U) := by
  unfold ond; rw [dif_pos hb]; exact (On_both b hb).choose_spec.2 X h
noncomputable def mayV (p : Nat × Nat) (k : Bool) : Bool := if k then (D.order p.1 0 == some .eq) && (D.order p.2 0 == some .eq) else ond p.1 && ond p.2
def W64 (p : Nat × Nat) : Prop := p.1 < 18446744073709551616 ∧ p.2 < 18446744073709551616
def smA (p : Nat × Nat) (k : Bool) : AV := .agg [.cpx .f64 p.1 p.2, .bool k]
set_option maxHeartbeats 0 in
set_option maxRecDepth 100000 in
theorem mayBe_f (p : Nat × Nat) (k : Bool) (w : W64 p) : Fits Try.prog 26 ⟨[smA p k], [], [numOut [] (.bool (mayV p k))]⟩ := by
  obtain ⟨a, b⟩ := p
  obtain ⟨w1, w2⟩ := w
  have A1 := (ond_is w1).2
  have B1 := (ond_is w2).2
  show Fits Try.prog 26 ⟨[.agg [.cpx .f64 a b, .bool k]], [], [numOut [] (.bool (if k then (D.order a 0 == some .eq) && (D.order b 0 == some .eq) else ond a && ond b))]⟩
  generalize ond a = oa at *
  generalize ond b = ob at *
  refine fits_of_body (C := cfgk 0) (c := (Try.f26.body).getD .skip) (ts := [2]) tokL mixedL (fun _ => none) (fun _ => none)
    Try.func26 (by kernel_rfl) (by kernel_rfl) (by kernel_rfl) (by kernel_rfl) rfl ?_
  cases k
  · conv => whnf
    repeat (first
      | (refine And.intro ?_ ?_; (focus (first | omega | decide | exact EqOk.mk (by kernel_rfl) (by kernel_rfl) (by kernel_rfl) | exact Int.natCast_nonneg _ | ((repeat' refine And.intro ?_ ?_) <;> first | omega | exact Int.natCast_nonneg _ | (simp only [i64max, u8max, u16max, u32max, u64max]; omega) | (simp only [mulSz_eq, Cont.len, colsLen, Col.len, List.length_cons, List.length_nil, List.length_replicate, List.length_append]; first | done | omega) | (simp [mulSz, Cont.len, bne]; first | done | omega)))); conv => whnf)
      | (refine tst_in ?_ ?_; (focus (intro h_; exfalso; first | omega | ((try simp only [decide_eq_true_eq, decide_eq_false_iff_not] at h_); omega) | (simp [mulSz, Cont.len, bne] at h_; first | done | omega))); intro _; conv => whnf)
      | (refine tst_in ?_ ?_; rotate_left; (focus (intro h_; exfalso; first | omega | ((try simp only [decide_eq_true_eq, decide_eq_false_iff_not] at h_); omega) | (simp [mulSz, Cont.len, bne] at h_; first | done | omega))); intro _; conv => whnf)
      | (refine ⟨0, (show _ = _ by omega), ?_⟩; conv => whnf))
    refine ⟨_, [], A1, ?_⟩
    conv => whnf
    iterate 2
     refine And.intro ?_ ?_
     focus
      conv => whnf
      repeat' (first | exact True.intro | rfl | refine And.intro ?_ ?_ | omega)
      all_goals (conv => whnf)
      all_goals (try (first | rfl | omega | (simp; done)))
    conv => whnf
    cases oa
    · conv => whnf
      repeat (first
        | (refine And.intro ?_ ?_; (focus (first | omega | decide | exact EqOk.mk (by kernel_rfl) (by kernel_rfl) (by kernel_rfl) | exact Int.natCast_nonneg _ | ((repeat' refine And.intro ?_ ?_) <;> first | omega | exact Int.natCast_nonneg _ | (simp only [i64max, u8max, u16max, u32max, u64max]; omega) | (simp only [mulSz_eq, Cont.len, colsLen, Col.len, List.length_cons, List.length_nil, List.length_replicate, List.length_append]; first | done | omega) | (simp [mulSz, Cont.len, bne]; first | done | omega)))); conv => whnf)
        | (refine tst_in ?_ ?_; (focus (intro h_; exfalso; first | omega | ((try simp only [decide_eq_true_eq, decide_eq_false_iff_not] at h_); omega) | (simp [mulSz, Cont.len, bne] at h_; first | done | omega))); intro _; conv => whnf)
        | (refine tst_in ?_ ?_; rotate_left; (focus (intro h_; exfalso; first | omega | ((try simp only [decide_eq_true_eq, decide_eq_false_iff_not] at h_); omega) | (simp [mulSz, Cont.len, bne] at h_; first | done | omega))); intro _; conv => whnf)
        | (refine ⟨0, (show _ = _ by omega), ?_⟩; conv => whnf))
      refine .inl ⟨(), [], ?_⟩
      conv => whnf
      repeat' (first | exact True.intro | rfl | refine And.intro ?_ ?_)
      all_goals (conv => whnf)
      repeat' (first | exact True.intro | rfl | refine And.intro ?_ ?_)
      all_goals (try omega)
    · conv => whnf
      repeat (first
        | (refine And.intro ?_ ?_; (focus (first | omega | decide | exact EqOk.mk (by kernel_rfl) (by kernel_rfl) (by kernel_rfl) | exact Int.natCast_nonneg _ | ((repeat' refine And.intro ?_ ?_) <;> first | omega | exact Int.natCast_nonneg _ | (simp only [i64max, u8max, u16max, u32max, u64max]; omega) | (simp only [mulSz_eq, Cont.len, colsLen, Col.len, List.length_cons, List.length_nil, List.length_replicate, List.length_append]; first | done | omega) | (simp [mulSz, Cont.len, bne]; first | done | omega)))); conv => whnf)
        | (refine tst_in ?_ ?_; (focus (intro h_; exfalso; first | omega | ((try simp only [decide_eq_true_eq, decide_eq_false_iff_not] at h_); omega) | (simp [mulSz, Cont.len, bne] at h_; first | done | omega))); intro _; conv => whnf)
        | (refine tst_in ?_ ?_; rotate_left; (focus (intro h_; exfalso; first | omega | ((try simp only [decide_eq_true_eq, decide_eq_false_iff_not] at h_); omega) | (simp [mulSz, Cont.len, bne] at h_; first | done | omega))); intro _; conv => whnf)
        | (refine ⟨0, (show _ = _ by omega), ?_⟩; conv => whnf))
      refine ⟨_, [], B1, ?_⟩
      conv => whnf
      iterate 2
       refine And.intro ?_ ?_
       focus
        conv => whnf
        repeat' (first | exact True.intro | rfl | refine And.intro ?_ ?_ | omega)
        all_goals (conv => whnf)
        all_goals (try (first | rfl | omega | (simp; done)))
      conv => whnf
      conv => whnf
      repeat (first
        | (refine And.intro ?_ ?_; (focus (first | omega | decide | exact EqOk.mk (by kernel_rfl) (by kernel_rfl) (by kernel_rfl) | exact Int.natCast_nonneg _ | ((repeat' refine And.intro ?_ ?_) <;> first | omega | exact Int.natCast_nonneg _ | (simp only [i64max, u8max, u16max, u32max, u64max]; omega) | (simp only [mulSz_eq, Cont.len, colsLen, Col.len, List.length_cons, List.length_nil, List.length_replicate, List.length_append]; first | done | omega) | (simp [mulSz, Cont.len, bne]; first | done | omega)))); conv => whnf)
        | (refine tst_in ?_ ?_; (focus (intro h_; exfalso; first | omega | ((try simp only [decide_eq_true_eq, decide_eq_false_iff_not] at h_); omega) | (simp [mulSz, Cont.len, bne] at h_; first | done | omega))); intro _; conv => whnf)
        | (refine tst_in ?_ ?_; rotate_left; (focus (intro h_; exfalso; first | omega | ((try simp only [decide_eq_true_eq, decide_eq_false_iff_not] at h_); omega) | (simp [mulSz, Cont.len, bne] at h_; first | done | omega))); intro _; conv => whnf)
        | (refine ⟨0, (show _ = _ by omega), ?_⟩; conv => whnf))
      refine .inl ⟨(), [], ?_⟩
      conv => whnf
      repeat' (first | exact True.intro | rfl | refine And.intro ?_ ?_)
      all_goals (conv => whnf)
      repeat' (first | exact True.intro | rfl | refine And.intro ?_ ?_)
      all_goals (try omega)
  · conv => whnf
    repeat (first
      | (refine And.intro ?_ ?_; (focus (first | omega | decide | exact EqOk.mk (by kernel_rfl) (by kernel_rfl) (by kernel_rfl) | exact Int.natCast_nonneg _ | ((repeat' refine And.intro ?_ ?_) <;> first | omega | exact Int.natCast_nonneg _ | (simp only [i64max, u8max, u16max, u32max, u64max]; omega) | (simp only [mulSz_eq, Cont.len, colsLen, Col.len, List.length_cons, List.length_nil, List.length_replicate, List.length_append]; first | done | omega) | (simp [mulSz, Cont.len, bne]; first | done | omega)))); conv => whnf)
      | (refine tst_in ?_ ?_; (focus (intro h_; exfalso; first | omega | ((try simp only [decide_eq_true_eq, decide_eq_false_iff_not] at h_); omega) | (simp [mulSz, Cont.len, bne] at h_; first | done | omega))); intro _; conv => whnf)
      | (refine tst_in ?_ ?_; rotate_left; (focus (intro h_; exfalso; first | omega | ((try simp only [decide_eq_true_eq, decide_eq_false_iff_not] at h_); omega) | (simp [mulSz, Cont.len, bne] at h_; first | done | omega))); intro _; conv => whnf)
      | (refine ⟨0, (show _ = _ by omega), ?_⟩; conv => whnf))
    refine tst_in (fun u => ?_) (fun u => ?_)
    · conv => whnf
      repeat (first
        | (refine And.intro ?_ ?_; (focus (first | omega | decide | exact EqOk.mk (by kernel_rfl) (by kernel_rfl) (by kernel_rfl) | exact Int.natCast_nonneg _ | ((repeat' refine And.intro ?_ ?_) <;> first | omega | exact Int.natCast_nonneg _ | (simp only [i64max, u8max, u16max, u32max, u64max]; omega) | (simp only [mulSz_eq, Cont.len, colsLen, Col.len, List.length_cons, List.length_nil, List.length_replicate, List.length_append]; first | done | omega) | (simp [mulSz, Cont.len, bne]; first | done | omega)))); conv => whnf)
        | (refine tst_in ?_ ?_; (focus (intro h_; exfalso; first | omega | ((try simp only [decide_eq_true_eq, decide_eq_false_iff_not] at h_); omega) | (simp [mulSz, Cont.len, bne] at h_; first | done | omega))); intro _; conv => whnf)
        | (refine tst_in ?_ ?_; rotate_left; (focus (intro h_; exfalso; first | omega | ((try simp only [decide_eq_true_eq, decide_eq_false_iff_not] at h_); omega) | (simp [mulSz, Cont.len, bne] at h_; first | done | omega))); intro _; conv => whnf)
        | (refine ⟨0, (show _ = _ by omega), ?_⟩; conv => whnf))
      refine .inl ⟨(), [], ?_⟩
      conv => whnf
      repeat' (first | exact True.intro | rfl | refine And.intro ?_ ?_)
      all_goals (conv => whnf)
      repeat' (first | exact True.intro | rfl | refine And.intro ?_ ?_)
      all_goals (try omega)
      rw [show (D.order a 0 == some Ordering.eq) = true from u]
      rfl
    · conv => whnf
      repeat (first
        | (refine And.intro ?_ ?_; (focus (first | omega | decide | exact EqOk.mk (by kernel_rfl) (by kernel_rfl) (by kernel_rfl) | exact Int.natCast_nonneg _ | ((repeat' refine And.intro ?_ ?_) <;> first | omega | exact Int.natCast_nonneg _ | (simp only [i64max, u8max, u16max, u32max, u64max]; omega) | (simp only [mulSz_eq, Cont.len, colsLen, Col.len, List.length_cons, List.length_nil, List.length_replicate, List.length_append]; first | done | omega) | (simp [mulSz, Cont.len, bne]; first | done | omega)))); conv => whnf)
        | (refine tst_in ?_ ?_; (focus (intro h_; exfalso; first | omega | ((try simp only [decide_eq_true_eq, decide_eq_false_iff_not] at h_); omega) | (simp [mulSz, Cont.len, bne] at h_; first | done | omega))); intro _; conv => whnf)
        | (refine tst_in ?_ ?_; rotate_left; (focus (intro h_; exfalso; first | omega | ((try simp only [decide_eq_true_eq, decide_eq_false_iff_not] at h_); omega) | (simp [mulSz, Cont.len, bne] at h_; first | done | omega))); intro _; conv => whnf)
        | (refine ⟨0, (show _ = _ by omega), ?_⟩; conv => whnf))
      refine .inl ⟨(), [], ?_⟩
      conv => whnf
      repeat' (first | exact True.intro | rfl | refine And.intro ?_ ?_)
      all_goals (conv => whnf)
      repeat' (first | exact True.intro | rfl | refine And.intro ?_ ?_)
      all_goals (try omega)
      rw [show (D.order a 0 == some Ordering.eq) = false from u]
      rfl
end Go.Proofs.Ytanogghfdamdcaa

set_option linter.unusedVariables false
set_option linter.unusedSimpArgs false
namespace Go.Proofs.Ytanogghfdamdcaa
open Go Go.Fw
noncomputable def smM (A : YT) (B : List Bool) (i : Nat) : Bool := mayV (A.getD i (0, 0)) (B.getD i false)
/-- What Check answers: the first that may not be. -/
def ckP (n : Nat) (M : Nat → Bool) (a e : Int) : Prop :=
  (65536 < n ∧ a = 0 ∧ e = 1) ∨ (n ≤ 65536 ∧ (∀ i, i < n → M i = true) ∧ a = 0 ∧ e = 0) ∨ (n ≤ 65536 ∧ ∃ j, j < n ∧ M j = false ∧ (∀ i, i < j → M i = true) ∧ a = (j : Int) ∧ e = 7)
theorem ck_big {n : Nat} {M : Nat → Bool} {a e : Int} (h : ckP n M a e) (hb : 65536 < n) : a = 0 ∧ e = 1 := by
  rcases h with h | h | ⟨h, _⟩
  · exact h.2
  · have := h.1; omega
  · omega
theorem ck_all {n : Nat} {M : Nat → Bool} {a e : Int} (h : ckP n M a e) (hb : n ≤ 65536) (hM : ∀ i, i < n → M i = true) : a = 0 ∧ e = 0 := by
  rcases h with h | h | ⟨_, j, h1, h2, _⟩
  · omega
  · exact h.2.2
  · rw [hM j h1] at h2; cases h2
theorem ck_bad {n : Nat} {M : Nat → Bool} {a e : Int} (h : ckP n M a e) (hb : n ≤ 65536) {i : Nat} (hi : i < n) (hM : M i = false) (hl : ∀ j, j < i → M j = true) : a = (i : Int) ∧ e = 7 := by
  rcases h with h | ⟨_, h, _⟩ | ⟨_, j, h1, h2, h3, h4⟩
  · omega
  · rw [h i hi] at hM; cases hM
  · rcases Nat.lt_trichotomy i j with q | q | q
    · rw [h3 i q] at hM; cases hM
    · subst q; exact h4
    · rw [hl j q] at h2; cases h2
def st19 (A : YT) (B : List Bool) (n ca i : Nat) : St := ⟨slotsAt 21 [(0, .slice 0 0 n ca), (9, .slice 0 0 n ca), (10, .int .i64 n), (11, .int .i64 i)], [rowS false A B]⟩
def inv19 (A : YT) (B : List Bool) (n ca : Nat) : LInv := ⟨Nat, fun i => st19 A B n ca i, fun i => i ≤ n ∧ ∀ j, j < i → smM A B j = true, fun i => n - i⟩
set_option maxHeartbeats 0 in
set_option maxRecDepth 100000 in
theorem Check_f (A : YT) (B : List Bool) (n ca : Nat) (a e : Int) (hA : n ≤ A.length) (hB : n ≤ B.length) (hca : n ≤ ca) (hn : n ≤ 8796093022208) (hW : ∀ i, i < n → W64 (A.getD i (0, 0))) (hc : ckP n (smM A B) a e) :
    Fits Try.prog 19 ⟨[.slice 0 0 n ca], [rowS false A B], [numOut [.dead] (.tup [.int .i64 a, .int .i64 e])]⟩ := by
  refine fits_of_body (C := cfgk 1) (c := (Try.f19.body).getD .skip) (ts := [2, 3]) tokL mixedL (fun | 4 => some (inv19 A B n ca) | _ => none) (fun _ => none)
    Try.func19 (by kernel_rfl) (by kernel_rfl) (by kernel_rfl) (by kernel_rfl) rfl ?_
  conv => whnf
  refine tst_in (fun h => ?_) (fun h' => ?_)
  · skip
    have h : 65536 < n := by simp at h; omega
    obtain ⟨rfl, rfl⟩ := ck_big hc h
    conv => whnf
    repeat (first
      | (refine And.intro ?_ ?_; (focus (first | omega | decide | exact EqOk.mk (by kernel_rfl) (by kernel_rfl) (by kernel_rfl) | exact Int.natCast_nonneg _ | ((repeat' refine And.intro ?_ ?_) <;> first | omega | exact Int.natCast_nonneg _ | (simp only [i64max, u8max, u16max, u32max, u64max]; omega) | (simp only [mulSz_eq, Cont.len, colsLen, Col.len, List.length_cons, List.length_nil, List.length_replicate, List.length_append]; first | done | omega) | (simp [mulSz, Cont.len, bne]; first | done | omega)))); conv => whnf)
      | (refine tst_in ?_ ?_; (focus (intro h_; exfalso; first | omega | ((try simp only [decide_eq_true_eq, decide_eq_false_iff_not] at h_); omega) | (simp [mulSz, Cont.len, bne] at h_; first | done | omega))); intro _; conv => whnf)
      | (refine tst_in ?_ ?_; rotate_left; (focus (intro h_; exfalso; first | omega | ((try simp only [decide_eq_true_eq, decide_eq_false_iff_not] at h_); omega) | (simp [mulSz, Cont.len, bne] at h_; first | done | omega))); intro _; conv => whnf)
      | (refine ⟨0, (show _ = _ by omega), ?_⟩; conv => whnf))
    refine .inl ⟨(), [0], ?_⟩
    conv => whnf
    repeat' (first | exact True.intro | rfl | refine And.intro ?_ ?_)
    all_goals (conv => whnf)
    repeat' (first | exact True.intro | rfl | refine And.intro ?_ ?_)
    all_goals (try omega)
  · skip
    have h : n ≤ 65536 := by simp at h'; omega
    conv => whnf
    repeat (first
      | (refine And.intro ?_ ?_; (focus (first | omega | decide | exact EqOk.mk (by kernel_rfl) (by kernel_rfl) (by kernel_rfl) | exact Int.natCast_nonneg _ | ((repeat' refine And.intro ?_ ?_) <;> first | omega | exact Int.natCast_nonneg _ | (simp only [i64max, u8max, u16max, u32max, u64max]; omega) | (simp only [mulSz_eq, Cont.len, colsLen, Col.len, List.length_cons, List.length_nil, List.length_replicate, List.length_append]; first | done | omega) | (simp [mulSz, Cont.len, bne]; first | done | omega)))); conv => whnf)
      | (refine tst_in ?_ ?_; (focus (intro h_; exfalso; first | omega | ((try simp only [decide_eq_true_eq, decide_eq_false_iff_not] at h_); omega) | (simp [mulSz, Cont.len, bne] at h_; first | done | omega))); intro _; conv => whnf)
      | (refine tst_in ?_ ?_; rotate_left; (focus (intro h_; exfalso; first | omega | ((try simp only [decide_eq_true_eq, decide_eq_false_iff_not] at h_); omega) | (simp [mulSz, Cont.len, bne] at h_; first | done | omega))); intro _; conv => whnf)
      | (refine ⟨0, (show _ = _ by omega), ?_⟩; conv => whnf))
    refine ⟨⟨[0], (0 : Nat), ?_, ⟨Nat.zero_le _, fun j hj => absurd hj (Nat.not_lt_zero j)⟩⟩, ?_⟩
    · show stLe _ _ (st19 A B n ca 0) _
      conv => whnf
      repeat' (first | exact True.intro | rfl | refine And.intro ?_ ?_)
      all_goals (conv => whnf)
      repeat' (first | exact True.intro | rfl | refine And.intro ?_ ?_)
      all_goals (try omega)
    · intro (i : Nat) ⟨(hi : i ≤ n), (hM : ∀ j, j < i → smM A B j = true)⟩
      show forceSt (st19 A B n ca i) _
      conv => whnf
      refine tst_in (fun hlt => ?_) (fun hge => ?_)
      · skip
        have hlt : i < n := by simp at hlt; omega
        have MF := mayBe_f (A.getD i (0, 0)) (B.getD i false) (hW i hlt)
        unfold smA at MF
        rw [show mayV (A.getD i (0, 0)) (B.getD i false) = smM A B i from rfl] at MF
        conv => whnf
        repeat (first
          | (refine And.intro ?_ ?_; (focus (first | omega | decide | exact EqOk.mk (by kernel_rfl) (by kernel_rfl) (by kernel_rfl) | exact Int.natCast_nonneg _ | ((repeat' refine And.intro ?_ ?_) <;> first | omega | exact Int.natCast_nonneg _ | (simp only [i64max, u8max, u16max, u32max, u64max]; omega) | (simp only [mulSz_eq, Cont.len, colsLen, Col.len, List.length_cons, List.length_nil, List.length_replicate, List.length_append]; first | done | omega) | (simp [mulSz, Cont.len, bne]; first | done | omega)))); conv => whnf)
          | (refine tst_in ?_ ?_; (focus (intro h_; exfalso; first | omega | ((try simp only [decide_eq_true_eq, decide_eq_false_iff_not] at h_); omega) | (simp [mulSz, Cont.len, bne] at h_; first | done | omega))); intro _; conv => whnf)
          | (refine tst_in ?_ ?_; rotate_left; (focus (intro h_; exfalso; first | omega | ((try simp only [decide_eq_true_eq, decide_eq_false_iff_not] at h_); omega) | (simp [mulSz, Cont.len, bne] at h_; first | done | omega))); intro _; conv => whnf)
          | (refine ⟨(i), (show _ = _ by omega), ?_⟩; conv => whnf)
          | (refine ⟨(i), 0, (show _ = _ by omega), ?_⟩; conv => whnf)
          | (refine ⟨(i), 1, (show _ = _ by omega), ?_⟩; conv => whnf)
          | (refine ⟨(i), 2, (show _ = _ by omega), ?_⟩; conv => whnf)
          | (refine ⟨(i), 3, (show _ = _ by omega), ?_⟩; conv => whnf)
          | (refine ⟨(i), 4, (show _ = _ by omega), ?_⟩; conv => whnf)
          | (refine ⟨(i), 5, (show _ = _ by omega), ?_⟩; conv => whnf)
          | (refine ⟨0, (show _ = _ by omega), ?_⟩; conv => whnf))
        cases hMi : smM A B i
        · rw [hMi] at MF
          obtain ⟨rfl, rfl⟩ := ck_bad hc h hlt hMi hM
          refine ⟨_, [], MF, ?_⟩
          conv => whnf
          iterate 2
           refine And.intro ?_ ?_
           focus
            conv => whnf
            repeat' (first | exact True.intro | rfl | refine And.intro ?_ ?_ | omega)
            all_goals (conv => whnf)
            all_goals (try (first | rfl | omega | (simp; done)))
          conv => whnf
          refine ⟨?_, True.intro⟩
          intro _ _
          conv => whnf
          conv => whnf
          repeat (first
            | (refine And.intro ?_ ?_; (focus (first | omega | decide | exact EqOk.mk (by kernel_rfl) (by kernel_rfl) (by kernel_rfl) | exact Int.natCast_nonneg _ | ((repeat' refine And.intro ?_ ?_) <;> first | omega | exact Int.natCast_nonneg _ | (simp only [i64max, u8max, u16max, u32max, u64max]; omega) | (simp only [mulSz_eq, Cont.len, colsLen, Col.len, List.length_cons, List.length_nil, List.length_replicate, List.length_append]; first | done | omega) | (simp [mulSz, Cont.len, bne]; first | done | omega)))); conv => whnf)
            | (refine tst_in ?_ ?_; (focus (intro h_; exfalso; first | omega | ((try simp only [decide_eq_true_eq, decide_eq_false_iff_not] at h_); omega) | (simp [mulSz, Cont.len, bne] at h_; first | done | omega))); intro _; conv => whnf)
            | (refine tst_in ?_ ?_; rotate_left; (focus (intro h_; exfalso; first | omega | ((try simp only [decide_eq_true_eq, decide_eq_false_iff_not] at h_); omega) | (simp [mulSz, Cont.len, bne] at h_; first | done | omega))); intro _; conv => whnf)
            | (refine ⟨0, (show _ = _ by omega), ?_⟩; conv => whnf))
          refine .inl ⟨(), [0], ?_⟩
          conv => whnf
          repeat' (first | exact True.intro | rfl | refine And.intro ?_ ?_)
          all_goals (conv => whnf)
          repeat' (first | exact True.intro | rfl | refine And.intro ?_ ?_)
          all_goals (try omega)
        · rw [hMi] at MF
          have hM2 : ∀ j, j < i + 1 → smM A B j = true := fun j hj => (Nat.lt_or_ge j i).elim (hM j) fun q => (show j = i by omega) ▸ hMi
          refine ⟨_, [], MF, ?_⟩
          conv => whnf
          iterate 2
           refine And.intro ?_ ?_
           focus
            conv => whnf
            repeat' (first | exact True.intro | rfl | refine And.intro ?_ ?_ | omega)
            all_goals (conv => whnf)
            all_goals (try (first | rfl | omega | (simp; done)))
          conv => whnf
          refine ⟨?_, True.intro⟩
          intro _ _
          conv => whnf
          conv => whnf
          repeat (first
            | (refine And.intro ?_ ?_; (focus (first | omega | decide | exact EqOk.mk (by kernel_rfl) (by kernel_rfl) (by kernel_rfl) | exact Int.natCast_nonneg _ | ((repeat' refine And.intro ?_ ?_) <;> first | omega | exact Int.natCast_nonneg _ | (simp only [i64max, u8max, u16max, u32max, u64max]; omega) | (simp only [mulSz_eq, Cont.len, colsLen, Col.len, List.length_cons, List.length_nil, List.length_replicate, List.length_append]; first | done | omega) | (simp [mulSz, Cont.len, bne]; first | done | omega)))); conv => whnf)
            | (refine tst_in ?_ ?_; (focus (intro h_; exfalso; first | omega | ((try simp only [decide_eq_true_eq, decide_eq_false_iff_not] at h_); omega) | (simp [mulSz, Cont.len, bne] at h_; first | done | omega))); intro _; conv => whnf)
            | (refine tst_in ?_ ?_; rotate_left; (focus (intro h_; exfalso; first | omega | ((try simp only [decide_eq_true_eq, decide_eq_false_iff_not] at h_); omega) | (simp [mulSz, Cont.len, bne] at h_; first | done | omega))); intro _; conv => whnf)
            | (refine ⟨0, (show _ = _ by omega), ?_⟩; conv => whnf))
          refine ⟨[0], i + 1, ?_, ⟨(by show i + 1 ≤ n; omega), hM2⟩, (by show n - (i + 1) < n - i; omega)⟩
          show stLe _ _ (st19 A B n ca (i + 1)) _
          conv => whnf
          repeat' (first | exact True.intro | rfl | refine And.intro ?_ ?_)
          all_goals (conv => whnf)
          repeat' (first | exact True.intro | rfl | refine And.intro ?_ ?_)
          all_goals (try omega)
      · skip
        have hge : i = n := by simp at hge; omega
        subst hge
        obtain ⟨rfl, rfl⟩ := ck_all hc h hM
        conv => whnf
        repeat (first
          | (refine And.intro ?_ ?_; (focus (first | omega | decide | exact EqOk.mk (by kernel_rfl) (by kernel_rfl) (by kernel_rfl) | exact Int.natCast_nonneg _ | ((repeat' refine And.intro ?_ ?_) <;> first | omega | exact Int.natCast_nonneg _ | (simp only [i64max, u8max, u16max, u32max, u64max]; omega) | (simp only [mulSz_eq, Cont.len, colsLen, Col.len, List.length_cons, List.length_nil, List.length_replicate, List.length_append]; first | done | omega) | (simp [mulSz, Cont.len, bne]; first | done | omega)))); conv => whnf)
          | (refine tst_in ?_ ?_; (focus (intro h_; exfalso; first | omega | ((try simp only [decide_eq_true_eq, decide_eq_false_iff_not] at h_); omega) | (simp [mulSz, Cont.len, bne] at h_; first | done | omega))); intro _; conv => whnf)
          | (refine tst_in ?_ ?_; rotate_left; (focus (intro h_; exfalso; first | omega | ((try simp only [decide_eq_true_eq, decide_eq_false_iff_not] at h_); omega) | (simp [mulSz, Cont.len, bne] at h_; first | done | omega))); intro _; conv => whnf)
          | (refine ⟨0, (show _ = _ by omega), ?_⟩; conv => whnf))
        refine .inl ⟨(), [0], ?_⟩
        conv => whnf
        repeat' (first | exact True.intro | rfl | refine And.intro ?_ ?_)
        all_goals (conv => whnf)
        repeat' (first | exact True.intro | rfl | refine And.intro ?_ ?_)
        all_goals (try omega)
end Go.Proofs.Ytanogghfdamdcaa

set_option linter.unusedVariables false
set_option linter.unusedSimpArgs false
namespace Go.Proofs.Ytanogghfdamdcaa
open Go Go.Fw
structure NB (b a c : Nat) (k : Bool) : Prop where
  rq : QFits Try.prog 7 ⟨[.flt .f64 b], [], .tup [.flt .f64 a, .bool k]⟩
  pq : QFits Try.prog 8 ⟨[.flt .f64 b], [], .tup [.flt .f64 c, .bool k]⟩
  ca : (D.order c a == some .eq) = true
  on : ond c = true
  lt : c < 18446744073709551616
theorem ond_grid {c : Nat} {N : Int} (hc : c < 18446744073709551616) (hv : V 12 c N) (h1 : -4194304 ≤ N) (h2 : N ≤ 4194304) : ond c = true := by
  obtain ⟨X, h, e⟩ := grid_in hv h1 h2
  rw [ond_in hc h, grid_t e]
  unfold onV
  exact decide_eq_true e.symm
theorem NB_ex {b : Nat} (hb : b < 18446744073709551616) : ∃ p : Nat × Nat × Bool, NB b p.1 p.2.1 p.2.2 := by
  rcases in_or b with ⟨X, h⟩ | h
  · obtain ⟨y, t, p⟩ := h.pk
    obtain ⟨a, a1, a2⟩ := rNear_in h p
    obtain ⟨c, c1, ⟨_, c2⟩, c3⟩ := Near_in hb h p
    obtain ⟨n1, n2⟩ := nrst_in h.lo h.hi
    exact ⟨(a, c, true), a2, c3, by rw [V_eqb c1 a1, decide_eq_true rfl], ond_grid c2 c1 n1 n2, c2⟩
  · exact ⟨(0, 0, false), rNear_out h, Near_out hb h, by decide, ond_grid (by decide) (V_zero 12 (by omega)) (by decide) (by decide), by decide⟩
noncomputable def nb (b : Nat) : Nat × Nat × Bool := if h : b < 18446744073709551616 then (NB_ex h).choose else (0, 0, false)
theorem nb_is {b : Nat} (hb : b < 18446744073709551616) : NB b (nb b).1 (nb b).2.1 (nb b).2.2 := by
  unfold nb; rw [dif_pos hb]; exact (NB_ex hb).choose_spec
noncomputable def okZ (z : Nat × Nat) : Bool := (nb z.1).2.2 && (nb z.2).2.2
noncomputable def sA (z : Nat × Nat) : Nat × Nat := if okZ z then ((nb z.1).1, (nb z.2).1) else (0, 0)
noncomputable def sC (z : Nat × Nat) : Nat × Nat := if okZ z then ((nb z.1).2.1, (nb z.2).2.1) else (0, 0)
noncomputable def sB (z : Nat × Nat) : Bool := !okZ z
theorem ord0 : (D.order 0 0 == some .eq) = true := by decide
theorem sCA {z : Nat × Nat} (w : W64 z) : (D.order (sC z).1 (sA z).1 == some .eq) = true ∧ (D.order (sC z).2 (sA z).2 == some .eq) = true := by
  unfold sC sA
  cases okZ z
  · exact ⟨ord0, ord0⟩
  · exact ⟨(nb_is w.1).ca, (nb_is w.2).ca⟩
theorem may_s {z : Nat × Nat} (w : W64 z) : mayV (sC z) (sB z) = true := by
  unfold sC sB mayV
  cases okZ z
  · show ((D.order 0 0 == some .eq) && (D.order 0 0 == some .eq)) = true
    rw [ord0]; rfl
  · show (ond (nb z.1).2.1 && ond (nb z.2).2.1) = true
    rw [(nb_is w.1).on, (nb_is w.2).on]; rfl
theorem W_s {z : Nat × Nat} (w : W64 z) : W64 (sC z) := by
  unfold sC
  cases okZ z
  · show (0 : Nat) < 18446744073709551616 ∧ (0 : Nat) < 18446744073709551616
    decide
  · exact ⟨(nb_is w.1).lt, (nb_is w.2).lt⟩
set_option maxHeartbeats 0 in
set_option maxRecDepth 100000 in
theorem Sample_f (z : Nat × Nat) (w : W64 z) : Fits Try.prog 25 ⟨[.cpx .f64 z.1 z.2], [], [numOut [] (smA (sA z) (sB z))]⟩ := by
  obtain ⟨x, y⟩ := z
  have A1 := (nb_is w.1).rq
  have B1 := (nb_is w.2).rq
  unfold smA sA sB okZ
  show Fits Try.prog 25 ⟨[.cpx .f64 x y], [], [numOut [] (.agg [.cpx .f64 (if ((nb x).2.2 && (nb y).2.2) = true then ((nb x).1, (nb y).1) else (0, 0)).1 (if ((nb x).2.2 && (nb y).2.2) = true then ((nb x).1, (nb y).1) else (0, 0)).2, .bool (!((nb x).2.2 && (nb y).2.2))])]⟩
  generalize (nb x).2.2 = kx at *
  generalize (nb y).2.2 = ky at *
  generalize (nb x).1 = ax at *
  generalize (nb y).1 = ay at *
  refine fits_of_res (C := cfgk 0) (c := (Try.f25.body).getD .skip) (rs := [.cell 2 45]) tokL mixedL (fun _ => none) (fun _ => none)
    Try.func25 (by kernel_rfl) (by kernel_rfl) (by kernel_rfl) (by kernel_rfl) rfl ?_
  conv => whnf
  repeat (first
    | (refine And.intro ?_ ?_; (focus (first | omega | decide | exact EqOk.mk (by kernel_rfl) (by kernel_rfl) (by kernel_rfl) | exact Int.natCast_nonneg _ | ((repeat' refine And.intro ?_ ?_) <;> first | omega | exact Int.natCast_nonneg _ | (simp only [i64max, u8max, u16max, u32max, u64max]; omega) | (simp only [mulSz_eq, Cont.len, colsLen, Col.len, List.length_cons, List.length_nil, List.length_replicate, List.length_append]; first | done | omega) | (simp [mulSz, Cont.len, bne]; first | done | omega)))); conv => whnf)
    | (refine tst_in ?_ ?_; (focus (intro h_; exfalso; first | omega | ((try simp only [decide_eq_true_eq, decide_eq_false_iff_not] at h_); omega) | (simp [mulSz, Cont.len, bne] at h_; first | done | omega))); intro _; conv => whnf)
    | (refine tst_in ?_ ?_; rotate_left; (focus (intro h_; exfalso; first | omega | ((try simp only [decide_eq_true_eq, decide_eq_false_iff_not] at h_); omega) | (simp [mulSz, Cont.len, bne] at h_; first | done | omega))); intro _; conv => whnf)
    | (refine ⟨0, (show _ = _ by omega), ?_⟩; conv => whnf))
  refine ⟨_, [], A1, ?_⟩
  conv => whnf
  iterate 2
   refine And.intro ?_ ?_
   focus
    conv => whnf
    repeat' (first | exact True.intro | rfl | refine And.intro ?_ ?_ | omega)
    all_goals (conv => whnf)
    all_goals (try (first | rfl | omega | (simp; done)))
  conv => whnf
  conv => whnf
  repeat (first
    | (refine And.intro ?_ ?_; (focus (first | omega | decide | exact EqOk.mk (by kernel_rfl) (by kernel_rfl) (by kernel_rfl) | exact Int.natCast_nonneg _ | ((repeat' refine And.intro ?_ ?_) <;> first | omega | exact Int.natCast_nonneg _ | (simp only [i64max, u8max, u16max, u32max, u64max]; omega) | (simp only [mulSz_eq, Cont.len, colsLen, Col.len, List.length_cons, List.length_nil, List.length_replicate, List.length_append]; first | done | omega) | (simp [mulSz, Cont.len, bne]; first | done | omega)))); conv => whnf)
    | (refine tst_in ?_ ?_; (focus (intro h_; exfalso; first | omega | ((try simp only [decide_eq_true_eq, decide_eq_false_iff_not] at h_); omega) | (simp [mulSz, Cont.len, bne] at h_; first | done | omega))); intro _; conv => whnf)
    | (refine tst_in ?_ ?_; rotate_left; (focus (intro h_; exfalso; first | omega | ((try simp only [decide_eq_true_eq, decide_eq_false_iff_not] at h_); omega) | (simp [mulSz, Cont.len, bne] at h_; first | done | omega))); intro _; conv => whnf)
    | (refine ⟨0, (show _ = _ by omega), ?_⟩; conv => whnf))
  refine ⟨_, [], B1, ?_⟩
  conv => whnf
  iterate 2
   refine And.intro ?_ ?_
   focus
    conv => whnf
    repeat' (first | exact True.intro | rfl | refine And.intro ?_ ?_ | omega)
    all_goals (conv => whnf)
    all_goals (try (first | rfl | omega | (simp; done)))
  conv => whnf
  cases kx
  · cases ky
    all_goals (
      conv => whnf
      repeat (first
        | (refine And.intro ?_ ?_; (focus (first | omega | decide | exact EqOk.mk (by kernel_rfl) (by kernel_rfl) (by kernel_rfl) | exact Int.natCast_nonneg _ | ((repeat' refine And.intro ?_ ?_) <;> first | omega | exact Int.natCast_nonneg _ | (simp only [i64max, u8max, u16max, u32max, u64max]; omega) | (simp only [mulSz_eq, Cont.len, colsLen, Col.len, List.length_cons, List.length_nil, List.length_replicate, List.length_append]; first | done | omega) | (simp [mulSz, Cont.len, bne]; first | done | omega)))); conv => whnf)
        | (refine tst_in ?_ ?_; (focus (intro h_; exfalso; first | omega | ((try simp only [decide_eq_true_eq, decide_eq_false_iff_not] at h_); omega) | (simp [mulSz, Cont.len, bne] at h_; first | done | omega))); intro _; conv => whnf)
        | (refine tst_in ?_ ?_; rotate_left; (focus (intro h_; exfalso; first | omega | ((try simp only [decide_eq_true_eq, decide_eq_false_iff_not] at h_); omega) | (simp [mulSz, Cont.len, bne] at h_; first | done | omega))); intro _; conv => whnf)
        | (refine ⟨0, (show _ = _ by omega), ?_⟩; conv => whnf))
      refine .inl ⟨(), [], ?_⟩
      conv => whnf
      repeat' (first | exact True.intro | rfl | refine And.intro ?_ ?_)
      all_goals (conv => whnf)
      repeat' (first | exact True.intro | rfl | refine And.intro ?_ ?_)
      all_goals (try omega)
    )
  · cases ky
    all_goals (
      conv => whnf
      repeat (first
        | (refine And.intro ?_ ?_; (focus (first | omega | decide | exact EqOk.mk (by kernel_rfl) (by kernel_rfl) (by kernel_rfl) | exact Int.natCast_nonneg _ | ((repeat' refine And.intro ?_ ?_) <;> first | omega | exact Int.natCast_nonneg _ | (simp only [i64max, u8max, u16max, u32max, u64max]; omega) | (simp only [mulSz_eq, Cont.len, colsLen, Col.len, List.length_cons, List.length_nil, List.length_replicate, List.length_append]; first | done | omega) | (simp [mulSz, Cont.len, bne]; first | done | omega)))); conv => whnf)
        | (refine tst_in ?_ ?_; (focus (intro h_; exfalso; first | omega | ((try simp only [decide_eq_true_eq, decide_eq_false_iff_not] at h_); omega) | (simp [mulSz, Cont.len, bne] at h_; first | done | omega))); intro _; conv => whnf)
        | (refine tst_in ?_ ?_; rotate_left; (focus (intro h_; exfalso; first | omega | ((try simp only [decide_eq_true_eq, decide_eq_false_iff_not] at h_); omega) | (simp [mulSz, Cont.len, bne] at h_; first | done | omega))); intro _; conv => whnf)
        | (refine ⟨0, (show _ = _ by omega), ?_⟩; conv => whnf))
      refine .inl ⟨(), [], ?_⟩
      conv => whnf
      repeat' (first | exact True.intro | rfl | refine And.intro ?_ ?_)
      all_goals (conv => whnf)
      repeat' (first | exact True.intro | rfl | refine And.intro ?_ ?_)
      all_goals (try omega)
    )
end Go.Proofs.Ytanogghfdamdcaa

set_option linter.unusedVariables false
set_option linter.unusedSimpArgs false
namespace Go.Proofs.Ytanogghfdamdcaa
open Go Go.Fw
theorem tb_set {α : Type} (f : Nat → α) (z : α) (k n : Nat) (x : α) (hx : x = f k) (hk : k < n) : (tb (fun i => if i < k then f i else z) n).set k x = tb (fun i => if i < k + 1 then f i else z) n := by
  subst hx
  refine row_ext (z) ?_ ?_
  · simp only [List.length_append, List.length_take, List.length_drop, List.length_set, List.length_replicate, tab_len, List.length_map, List.length_range, List.length_cons, List.length_nil]
    try omega
  · intro i_ hi_
    simp only [List.length_append, List.length_take, List.length_drop, List.length_set, List.length_replicate, tab_len, List.length_map, List.length_range, List.length_cons, List.length_nil] at hi_
    simp only [g_app, g_take, g_drop, g_set, g_rep, g_tab, g_one, g_nil, List.length_append, List.length_take, List.length_drop, List.length_set, List.length_replicate, tab_len, List.length_map, List.length_range, List.length_cons, List.length_nil]
    repeat' split
    all_goals (try (first | rfl | omega | (congr 1; omega) | (simp; omega) | (rw [decide_eq_decide]; omega) | (symm; simp; omega)))
  all_goals (have : i_ = k := by omega)
  all_goals (subst this; rfl)
theorem tb_stay {α : Type} (f : Nat → α) (z : α) (k n : Nat) (hz : z = f k) : tb (fun i => if i < k then f i else z) n = tb (fun i => if i < k + 1 then f i else z) n := by
  refine tab_congr ?_
  intro i hi
  by_cases h : i < k
  · rw [if_pos h, if_pos (by omega)]
  · rw [if_neg h]
    by_cases h2 : i < k + 1
    · rw [if_pos h2, hz, show i = k by omega]
    · rw [if_neg h2]
def aF (A : YT) (i : Nat) : Nat × Nat := A.getD i (0, 0)
structure RD where
  i : Nat
  r : Nat
  tA : YT
  tB : List Bool
noncomputable def st16 (A : YT) (n ca i r : Nat) (tA : YT) (tB : List Bool) : St :=
  ⟨slotsAt 24 [(0, .slice 0 0 n ca), (4, .slice 1 0 i (i + r)), (5, .int .i64 i)], [cxS false A, rowS true (tb (fun i => sA (aF A i)) i ++ tA) (tb (fun i => sB (aF A i)) i ++ tB)]⟩
noncomputable def inv16 (A : YT) (n ca : Nat) : LInv := ⟨RD, fun x => st16 A n ca x.i x.r x.tA x.tB, fun x => x.i ≤ n ∧ x.tA.length = x.r ∧ x.tB.length = x.r, fun x => n - x.i⟩
def dm (n m : Nat) (e : Int) : Prop := (n ≤ 65536 ∧ n = m ∧ e = 0) ∨ (65536 < n ∧ m = 0 ∧ e = 1)
noncomputable def rdOut (A : YT) (n : Nat) (e : Int) : FOut :=
  ⟨Nat × YT × List Bool, fun y => y.2.1.length = y.1 ∧ y.2.2.length = y.1, fun y => .tup [.slice 1 0 n (n + y.1), .int .i64 e], fun y => [.dead, rowS true (tb (fun i => sA (aF A i)) n ++ y.2.1) (tb (fun i => sB (aF A i)) n ++ y.2.2)]⟩
set_option maxHeartbeats 0 in
set_option maxRecDepth 100000 in
theorem rDoor_f (A : YT) (n ca m : Nat) (e : Int) (hA : n ≤ A.length) (hca : n ≤ ca) (hn2 : n ≤ 17592186043904) (hm : dm n m e) (hW : ∀ i, i < n → W64 (aF A i)) :
    Fits Try.prog 16 ⟨[.slice 0 0 n ca], [cxS false A], [rdOut A m e]⟩ := by
  refine fits_of_body (C := cfgk 1) (c := (Try.f16.body).getD .skip) (ts := [2, 3]) tokL mixedL (fun | 5 => some (inv16 A n ca) | _ => none) (fun _ => none)
    Try.func16 (by kernel_rfl) (by kernel_rfl) (by kernel_rfl) (by kernel_rfl) rfl ?_
  rcases hm with ⟨hn, rfl, rfl⟩ | ⟨hn, rfl, rfl⟩
  rotate_left
  · skip
    conv => whnf
    repeat (first
      | (refine And.intro ?_ ?_; (focus (first | omega | decide | exact EqOk.mk (by kernel_rfl) (by kernel_rfl) (by kernel_rfl) | exact Int.natCast_nonneg _ | ((repeat' refine And.intro ?_ ?_) <;> first | omega | exact Int.natCast_nonneg _ | (simp only [i64max, u8max, u16max, u32max, u64max]; omega) | (simp only [mulSz_eq, Cont.len, colsLen, Col.len, List.length_cons, List.length_nil, List.length_replicate, List.length_append]; first | done | omega) | (simp [mulSz, Cont.len, bne]; first | done | omega)))); conv => whnf)
      | (refine tst_in ?_ ?_; (focus (intro h_; exfalso; first | omega | ((try simp only [decide_eq_true_eq, decide_eq_false_iff_not] at h_); omega) | (simp [mulSz, Cont.len, bne] at h_; first | done | omega))); intro _; conv => whnf)
      | (refine tst_in ?_ ?_; rotate_left; (focus (intro h_; exfalso; first | omega | ((try simp only [decide_eq_true_eq, decide_eq_false_iff_not] at h_); omega) | (simp [mulSz, Cont.len, bne] at h_; first | done | omega))); intro _; conv => whnf)
      | (refine ⟨0, (show _ = _ by omega), ?_⟩; conv => whnf))
    refine .inl ⟨(0, [], []), [0, 9], ?_⟩
    conv => whnf
    repeat' (first | exact True.intro | rfl | refine And.intro ?_ ?_)
    all_goals (conv => whnf)
    repeat' (first | exact True.intro | rfl | refine And.intro ?_ ?_)
    all_goals (try omega)
  conv => whnf
  repeat (first
    | (refine And.intro ?_ ?_; (focus (first | omega | decide | exact EqOk.mk (by kernel_rfl) (by kernel_rfl) (by kernel_rfl) | exact Int.natCast_nonneg _ | ((repeat' refine And.intro ?_ ?_) <;> first | omega | exact Int.natCast_nonneg _ | (simp only [i64max, u8max, u16max, u32max, u64max]; omega) | (simp only [mulSz_eq, Cont.len, colsLen, Col.len, List.length_cons, List.length_nil, List.length_replicate, List.length_append]; first | done | omega) | (simp [mulSz, Cont.len, bne]; first | done | omega)))); conv => whnf)
    | (refine tst_in ?_ ?_; (focus (intro h_; exfalso; first | omega | ((try simp only [decide_eq_true_eq, decide_eq_false_iff_not] at h_); omega) | (simp [mulSz, Cont.len, bne] at h_; first | done | omega))); intro _; conv => whnf)
    | (refine tst_in ?_ ?_; rotate_left; (focus (intro h_; exfalso; first | omega | ((try simp only [decide_eq_true_eq, decide_eq_false_iff_not] at h_); omega) | (simp [mulSz, Cont.len, bne] at h_; first | done | omega))); intro _; conv => whnf)
    | (refine ⟨0, (show _ = _ by omega), ?_⟩; conv => whnf))
  refine ⟨⟨[0, 9], ⟨0, 0, [], []⟩, ?_, ⟨Nat.zero_le _, rfl, rfl⟩⟩, ?_⟩
  · show stLe _ _ (st16 A n ca 0 0 [] []) _
    conv => whnf
    repeat' (first | exact True.intro | rfl | refine And.intro ?_ ?_)
    all_goals (conv => whnf)
    repeat' (first | exact True.intro | rfl | refine And.intro ?_ ?_)
    all_goals (try omega)
  · rintro ⟨i, r, tA, tB⟩ ⟨hi, hA1, hB1⟩
    have hi : i ≤ n := hi
    have hA1 : tA.length = r := hA1
    have hB1 : tB.length = r := hB1
    show forceSt (st16 A n ca i r tA tB) _
    conv => whnf
    refine tst_in (fun hlt => ?_) (fun hge => ?_)
    · skip
      have hlt : i < n := by simp at hlt; omega
      have SF := Sample_f (aF A i) (hW i hlt)
      unfold smA aF at SF
      conv => whnf
      repeat (first
        | (refine And.intro ?_ ?_; (focus (first | omega | decide | exact EqOk.mk (by kernel_rfl) (by kernel_rfl) (by kernel_rfl) | exact Int.natCast_nonneg _ | ((repeat' refine And.intro ?_ ?_) <;> first | omega | exact Int.natCast_nonneg _ | (simp only [i64max, u8max, u16max, u32max, u64max]; omega) | (simp only [mulSz_eq, Cont.len, colsLen, Col.len, List.length_cons, List.length_nil, List.length_replicate, List.length_append]; first | done | omega) | (simp [mulSz, Cont.len, bne]; first | done | omega)))); conv => whnf)
        | (refine tst_in ?_ ?_; (focus (intro h_; exfalso; first | omega | ((try simp only [decide_eq_true_eq, decide_eq_false_iff_not] at h_); omega) | (simp [mulSz, Cont.len, bne] at h_; first | done | omega))); intro _; conv => whnf)
        | (refine tst_in ?_ ?_; rotate_left; (focus (intro h_; exfalso; first | omega | ((try simp only [decide_eq_true_eq, decide_eq_false_iff_not] at h_); omega) | (simp [mulSz, Cont.len, bne] at h_; first | done | omega))); intro _; conv => whnf)
        | (refine ⟨0, (show _ = _ by omega), ?_⟩; conv => whnf))
      rw [show 0 + ((i : Nat) : Int).toNat = i by omega]
      refine ⟨_, [], SF, ?_⟩
      conv => whnf
      iterate 2
       refine And.intro ?_ ?_
       focus
        conv => whnf
        repeat' (first | exact True.intro | rfl | refine And.intro ?_ ?_ | omega)
        all_goals (conv => whnf)
        all_goals (try (first | rfl | omega | (simp; done)))
      conv => whnf
      refine ⟨?_, True.intro⟩
      intro _ _
      conv => whnf
      conv => whnf
      repeat (first
        | (refine And.intro ?_ ?_; (focus (first | omega | decide | exact EqOk.mk (by kernel_rfl) (by kernel_rfl) (by kernel_rfl) | exact Int.natCast_nonneg _ | ((repeat' refine And.intro ?_ ?_) <;> first | omega | exact Int.natCast_nonneg _ | (simp only [i64max, u8max, u16max, u32max, u64max]; omega) | (simp only [mulSz_eq, Cont.len, colsLen, Col.len, List.length_cons, List.length_nil, List.length_replicate, List.length_append, tab_len, hA1, hB1, List.length_take, List.length_drop]; first | done | omega) | (simp [mulSz, Cont.len, bne, tab_len, hA1, hB1, List.length_take, List.length_drop]; first | done | omega)))); conv => whnf)
        | (refine tst_in ?_ ?_; (focus (intro h_; exfalso; first | omega | ((try simp only [decide_eq_true_eq, decide_eq_false_iff_not] at h_); omega) | (simp [mulSz, Cont.len, bne, tab_len, hA1, hB1, List.length_take, List.length_drop] at h_; first | done | omega))); intro _; conv => whnf)
        | (refine tst_in ?_ ?_; rotate_left; (focus (intro h_; exfalso; first | omega | ((try simp only [decide_eq_true_eq, decide_eq_false_iff_not] at h_); omega) | (simp [mulSz, Cont.len, bne, tab_len, hA1, hB1, List.length_take, List.length_drop] at h_; first | done | omega))); intro _; conv => whnf)
        | (refine ⟨0, (show _ = _ by omega), ?_⟩; conv => whnf))
      intro r' u1 g1 u2 g2
      conv => whnf
      repeat (first
        | (refine And.intro ?_ ?_; (focus (first | omega | decide | exact EqOk.mk (by kernel_rfl) (by kernel_rfl) (by kernel_rfl) | exact Int.natCast_nonneg _ | ((repeat' refine And.intro ?_ ?_) <;> first | omega | exact Int.natCast_nonneg _ | (simp only [i64max, u8max, u16max, u32max, u64max]; omega) | (simp only [mulSz_eq, Cont.len, colsLen, Col.len, List.length_cons, List.length_nil, List.length_replicate, List.length_append]; first | done | omega) | (simp [mulSz, Cont.len, bne]; first | done | omega)))); conv => whnf)
        | (refine tst_in ?_ ?_; (focus (intro h_; exfalso; first | omega | ((try simp only [decide_eq_true_eq, decide_eq_false_iff_not] at h_); omega) | (simp [mulSz, Cont.len, bne] at h_; first | done | omega))); intro _; conv => whnf)
        | (refine tst_in ?_ ?_; rotate_left; (focus (intro h_; exfalso; first | omega | ((try simp only [decide_eq_true_eq, decide_eq_false_iff_not] at h_); omega) | (simp [mulSz, Cont.len, bne] at h_; first | done | omega))); intro _; conv => whnf)
        | (refine ⟨0, (show _ = _ by omega), ?_⟩; conv => whnf))
      refine ⟨[0, 3], ⟨i + 1, r', u1, u2⟩, ?_, ⟨(by show i + 1 ≤ n; omega), g1, g2⟩, (by show n - (i + 1) < n - i; omega)⟩
      show stLe _ _ (st16 A n ca (i + 1) r' u1 u2) _
      conv => whnf
      repeat' (first | exact True.intro | rfl | refine And.intro ?_ ?_)
      all_goals (conv => whnf)
      repeat' (first | exact True.intro | rfl | refine And.intro ?_ ?_)
      all_goals (try omega)
      · exact (push_tb (fun i => sA (aF A i)) tA u1 i _ rfl).symm
      · exact (push_tb (fun i => sB (aF A i)) tB u2 i _ rfl).symm
    · skip
      have hge : i = n := by simp at hge; omega
      subst hge
      conv => whnf
      repeat (first
        | (refine And.intro ?_ ?_; (focus (first | omega | decide | exact EqOk.mk (by kernel_rfl) (by kernel_rfl) (by kernel_rfl) | exact Int.natCast_nonneg _ | ((repeat' refine And.intro ?_ ?_) <;> first | omega | exact Int.natCast_nonneg _ | (simp only [i64max, u8max, u16max, u32max, u64max]; omega) | (simp only [mulSz_eq, Cont.len, colsLen, Col.len, List.length_cons, List.length_nil, List.length_replicate, List.length_append]; first | done | omega) | (simp [mulSz, Cont.len, bne]; first | done | omega)))); conv => whnf)
        | (refine tst_in ?_ ?_; (focus (intro h_; exfalso; first | omega | ((try simp only [decide_eq_true_eq, decide_eq_false_iff_not] at h_); omega) | (simp [mulSz, Cont.len, bne] at h_; first | done | omega))); intro _; conv => whnf)
        | (refine tst_in ?_ ?_; rotate_left; (focus (intro h_; exfalso; first | omega | ((try simp only [decide_eq_true_eq, decide_eq_false_iff_not] at h_); omega) | (simp [mulSz, Cont.len, bne] at h_; first | done | omega))); intro _; conv => whnf)
        | (refine ⟨0, (show _ = _ by omega), ?_⟩; conv => whnf))
      refine .inl ⟨(r, tA, tB), [0, 1], ?_⟩
      conv => whnf
      repeat' (first | exact True.intro | rfl | refine And.intro ?_ ?_)
      all_goals (conv => whnf)
      repeat' (first | exact True.intro | rfl | refine And.intro ?_ ?_)
      all_goals (try omega)
noncomputable def cA (A : YT) (n i : Nat) : YT := tb (fun j => if j < i then sC (aF A j) else (0, 0)) n
noncomputable def cB (A : YT) (n i : Nat) : List Bool := tb (fun j => if j < i then sB (aF A j) else false) n
noncomputable def st17 (A : YT) (n ca i : Nat) : St := ⟨slotsAt 53 [(0, .slice 0 0 n ca), (4, .slice 1 0 n n), (17, .slice 0 0 n ca), (18, .int .i64 n), (19, .int .i64 i)], [cxS false A, rowS true (cA A n i) (cB A n i)]⟩
noncomputable def inv17 (A : YT) (n ca : Nat) : LInv := ⟨Nat, fun i => st17 A n ca i, fun i => i ≤ n, fun i => n - i⟩
noncomputable def pdOut (A : YT) (n : Nat) (e : Int) : FOut := ⟨Unit, fun _ => True, fun _ => .tup [.slice 1 0 n n, .int .i64 e], fun _ => [.dead, rowS true (tb (fun i => sC (aF A i)) n) (tb (fun i => sB (aF A i)) n)]⟩
set_option maxHeartbeats 0 in
set_option maxRecDepth 100000 in
theorem Door_f (A : YT) (n ca m : Nat) (e : Int) (hA : n ≤ A.length) (hca : n ≤ ca) (hn2 : n ≤ 17592186043904) (hm : dm n m e) (hW : ∀ i, i < n → W64 (aF A i)) :
    Fits Try.prog 17 ⟨[.slice 0 0 n ca], [cxS false A], [pdOut A m e]⟩ := by
  refine fits_of_body (C := cfgk 1) (c := (Try.f17.body).getD .skip) (ts := [2, 3]) tokL mixedL (fun | 5 => some (inv17 A n ca) | _ => none) (fun _ => none)
    Try.func17 (by kernel_rfl) (by kernel_rfl) (by kernel_rfl) (by kernel_rfl) rfl ?_
  rcases hm with ⟨hn, rfl, rfl⟩ | ⟨hn, rfl, rfl⟩
  rotate_left
  · skip
    conv => whnf
    repeat (first
      | (refine And.intro ?_ ?_; (focus (first | omega | decide | exact EqOk.mk (by kernel_rfl) (by kernel_rfl) (by kernel_rfl) | exact Int.natCast_nonneg _ | ((repeat' refine And.intro ?_ ?_) <;> first | omega | exact Int.natCast_nonneg _ | (simp only [i64max, u8max, u16max, u32max, u64max]; omega) | (simp only [mulSz_eq, Cont.len, colsLen, Col.len, List.length_cons, List.length_nil, List.length_replicate, List.length_append]; first | done | omega) | (simp [mulSz, Cont.len, bne]; first | done | omega)))); conv => whnf)
      | (refine tst_in ?_ ?_; (focus (intro h_; exfalso; first | omega | ((try simp only [decide_eq_true_eq, decide_eq_false_iff_not] at h_); omega) | (simp [mulSz, Cont.len, bne] at h_; first | done | omega))); intro _; conv => whnf)
      | (refine tst_in ?_ ?_; rotate_left; (focus (intro h_; exfalso; first | omega | ((try simp only [decide_eq_true_eq, decide_eq_false_iff_not] at h_); omega) | (simp [mulSz, Cont.len, bne] at h_; first | done | omega))); intro _; conv => whnf)
      | (refine ⟨0, (show _ = _ by omega), ?_⟩; conv => whnf))
    refine .inl ⟨(), [0, 9], ?_⟩
    conv => whnf
    repeat' (first | exact True.intro | rfl | refine And.intro ?_ ?_)
    all_goals (conv => whnf)
    repeat' (first | exact True.intro | rfl | refine And.intro ?_ ?_)
    all_goals (try omega)
  conv => whnf
  repeat (first
    | (refine And.intro ?_ ?_; (focus (first | omega | decide | exact EqOk.mk (by kernel_rfl) (by kernel_rfl) (by kernel_rfl) | exact Int.natCast_nonneg _ | ((repeat' refine And.intro ?_ ?_) <;> first | omega | exact Int.natCast_nonneg _ | (simp only [i64max, u8max, u16max, u32max, u64max]; omega) | (simp only [mulSz_eq, Cont.len, colsLen, Col.len, List.length_cons, List.length_nil, List.length_replicate, List.length_append]; first | done | omega) | (simp [mulSz, Cont.len, bne]; first | done | omega)))); conv => whnf)
    | (refine tst_in ?_ ?_; (focus (intro h_; exfalso; first | omega | ((try simp only [decide_eq_true_eq, decide_eq_false_iff_not] at h_); omega) | (simp [mulSz, Cont.len, bne] at h_; first | done | omega))); intro _; conv => whnf)
    | (refine tst_in ?_ ?_; rotate_left; (focus (intro h_; exfalso; first | omega | ((try simp only [decide_eq_true_eq, decide_eq_false_iff_not] at h_); omega) | (simp [mulSz, Cont.len, bne] at h_; first | done | omega))); intro _; conv => whnf)
    | (refine ⟨0, (show _ = _ by omega), ?_⟩; conv => whnf))
  rw [show ((n : Nat) : Int).toNat = n by omega]
  refine ⟨⟨[0, 1], (0 : Nat), ?_, Nat.zero_le _⟩, ?_⟩
  · show stLe _ _ (st17 A n ca 0) _
    conv => whnf
    repeat' (first | exact True.intro | rfl | refine And.intro ?_ ?_)
    all_goals (conv => whnf)
    repeat' (first | exact True.intro | rfl | refine And.intro ?_ ?_)
    all_goals (try omega)
    · unfold cA
      refine row_ext ((0, 0)) ?_ ?_
      · simp only [List.length_append, List.length_take, List.length_drop, List.length_set, List.length_replicate, tab_len, List.length_map, List.length_range, List.length_cons, List.length_nil]
        try omega
      · intro i_ hi_
        simp only [List.length_append, List.length_take, List.length_drop, List.length_set, List.length_replicate, tab_len, List.length_map, List.length_range, List.length_cons, List.length_nil] at hi_
        simp only [g_app, g_take, g_drop, g_set, g_rep, g_tab, g_one, g_nil, List.length_append, List.length_take, List.length_drop, List.length_set, List.length_replicate, tab_len, List.length_map, List.length_range, List.length_cons, List.length_nil]
        repeat' split
        all_goals (try (first | rfl | omega | (congr 1; omega) | (simp; omega) | (rw [decide_eq_decide]; omega) | (symm; simp; omega)))
    · unfold cB
      refine row_ext (false) ?_ ?_
      · simp only [List.length_append, List.length_take, List.length_drop, List.length_set, List.length_replicate, tab_len, List.length_map, List.length_range, List.length_cons, List.length_nil]
        try omega
      · intro i_ hi_
        simp only [List.length_append, List.length_take, List.length_drop, List.length_set, List.length_replicate, tab_len, List.length_map, List.length_range, List.length_cons, List.length_nil] at hi_
        simp only [g_app, g_take, g_drop, g_set, g_rep, g_tab, g_one, g_nil, List.length_append, List.length_take, List.length_drop, List.length_set, List.length_replicate, tab_len, List.length_map, List.length_range, List.length_cons, List.length_nil]
        repeat' split
        all_goals (try (first | rfl | omega | (congr 1; omega) | (simp; omega) | (rw [decide_eq_decide]; omega) | (symm; simp; omega)))
  · intro (i : Nat) (hi : i ≤ n)
    show forceSt (st17 A n ca i) _
    conv => whnf
    refine tst_in (fun hlt => ?_) (fun hge => ?_)
    · skip
      have hlt : i < n := by simp at hlt; omega
      have w := hW i hlt
      unfold aF at w
      have A1 := (nb_is w.1).pq
      have B1 := (nb_is w.2).pq
      have e1 : ∀ x : Nat × Nat, x = sC (aF A i) → (cA A n i).set i x = cA A n (i + 1) := fun x hx => tb_set _ _ _ _ _ hx hlt
      have e2 : sB (aF A i) = true → (cB A n i).set i true = cB A n (i + 1) := fun hx => tb_set _ _ _ _ _ hx.symm hlt
      have e3 : (0, 0) = sC (aF A i) → cA A n i = cA A n (i + 1) := fun hx => tb_stay _ _ _ _ hx
      have e4 : false = sB (aF A i) → cB A n i = cB A n (i + 1) := fun hx => tb_stay _ _ _ _ hx
      have hsC : sC (aF A i) = if ((nb (A.getD i (0, 0)).1).2.2 && (nb (A.getD i (0, 0)).2).2.2) = true then ((nb (A.getD i (0, 0)).1).2.1, (nb (A.getD i (0, 0)).2).2.1) else (0, 0) := rfl
      have hsB : sB (aF A i) = !((nb (A.getD i (0, 0)).1).2.2 && (nb (A.getD i (0, 0)).2).2.2) := rfl
      have lA : (cA A n i).length = n := tab_len _ _
      have lB : (cB A n i).length = n := tab_len _ _
      conv => whnf
      repeat (first
        | (refine And.intro ?_ ?_; (focus (first | omega | decide | exact EqOk.mk (by kernel_rfl) (by kernel_rfl) (by kernel_rfl) | exact Int.natCast_nonneg _ | ((repeat' refine And.intro ?_ ?_) <;> first | omega | exact Int.natCast_nonneg _ | (simp only [i64max, u8max, u16max, u32max, u64max]; omega) | (simp only [mulSz_eq, Cont.len, colsLen, Col.len, List.length_cons, List.length_nil, List.length_replicate, List.length_append]; first | done | omega) | (simp [mulSz, Cont.len, bne]; first | done | omega)))); conv => whnf)
        | (refine tst_in ?_ ?_; (focus (intro h_; exfalso; first | omega | ((try simp only [decide_eq_true_eq, decide_eq_false_iff_not] at h_); omega) | (simp [mulSz, Cont.len, bne] at h_; first | done | omega))); intro _; conv => whnf)
        | (refine tst_in ?_ ?_; rotate_left; (focus (intro h_; exfalso; first | omega | ((try simp only [decide_eq_true_eq, decide_eq_false_iff_not] at h_); omega) | (simp [mulSz, Cont.len, bne] at h_; first | done | omega))); intro _; conv => whnf)
        | (refine ⟨0, (show _ = _ by omega), ?_⟩; conv => whnf))
      rw [show 0 + ((i : Nat) : Int).toNat = i by omega]
      generalize (nb (A.getD i (0, 0)).1).2.2 = kx at *
      generalize (nb (A.getD i (0, 0)).2).2.2 = ky at *
      generalize (nb (A.getD i (0, 0)).1).2.1 = ax at *
      generalize (nb (A.getD i (0, 0)).2).2.1 = ay at *
      refine ⟨_, [], A1, ?_⟩
      conv => whnf
      iterate 2
       refine And.intro ?_ ?_
       focus
        conv => whnf
        repeat' (first | exact True.intro | rfl | refine And.intro ?_ ?_ | omega)
        all_goals (conv => whnf)
        all_goals (try (first | rfl | omega | (simp; done)))
      conv => whnf
      conv => whnf
      repeat (first
        | (refine And.intro ?_ ?_; (focus (first | omega | decide | exact EqOk.mk (by kernel_rfl) (by kernel_rfl) (by kernel_rfl) | exact Int.natCast_nonneg _ | ((repeat' refine And.intro ?_ ?_) <;> first | omega | exact Int.natCast_nonneg _ | (simp only [i64max, u8max, u16max, u32max, u64max]; omega) | (simp only [mulSz_eq, Cont.len, colsLen, Col.len, List.length_cons, List.length_nil, List.length_replicate, List.length_append]; first | done | omega) | (simp [mulSz, Cont.len, bne]; first | done | omega)))); conv => whnf)
        | (refine tst_in ?_ ?_; (focus (intro h_; exfalso; first | omega | ((try simp only [decide_eq_true_eq, decide_eq_false_iff_not] at h_); omega) | (simp [mulSz, Cont.len, bne] at h_; first | done | omega))); intro _; conv => whnf)
        | (refine tst_in ?_ ?_; rotate_left; (focus (intro h_; exfalso; first | omega | ((try simp only [decide_eq_true_eq, decide_eq_false_iff_not] at h_); omega) | (simp [mulSz, Cont.len, bne] at h_; first | done | omega))); intro _; conv => whnf)
        | (refine ⟨0, (show _ = _ by omega), ?_⟩; conv => whnf))
      refine ⟨_, [], B1, ?_⟩
      conv => whnf
      iterate 2
       refine And.intro ?_ ?_
       focus
        conv => whnf
        repeat' (first | exact True.intro | rfl | refine And.intro ?_ ?_ | omega)
        all_goals (conv => whnf)
        all_goals (try (first | rfl | omega | (simp; done)))
      conv => whnf
      cases kx
      · skip
        conv => whnf
        repeat (first
          | (refine And.intro ?_ ?_; (focus (first | omega | decide | exact EqOk.mk (by kernel_rfl) (by kernel_rfl) (by kernel_rfl) | exact Int.natCast_nonneg _ | ((repeat' refine And.intro ?_ ?_) <;> first | omega | exact Int.natCast_nonneg _ | (simp only [i64max, u8max, u16max, u32max, u64max]; omega) | (simp only [mulSz_eq, Cont.len, colsLen, Col.len, List.length_cons, List.length_nil, List.length_replicate, List.length_append, lA, lB]; first | done | omega) | (simp [mulSz, Cont.len, bne, lA, lB]; first | done | omega)))); conv => whnf)
          | (refine tst_in ?_ ?_; (focus (intro h_; exfalso; first | omega | ((try simp only [decide_eq_true_eq, decide_eq_false_iff_not] at h_); omega) | (simp [mulSz, Cont.len, bne, lA, lB] at h_; first | done | omega))); intro _; conv => whnf)
          | (refine tst_in ?_ ?_; rotate_left; (focus (intro h_; exfalso; first | omega | ((try simp only [decide_eq_true_eq, decide_eq_false_iff_not] at h_); omega) | (simp [mulSz, Cont.len, bne, lA, lB] at h_; first | done | omega))); intro _; conv => whnf)
          | (refine ⟨(i), (show _ = _ by omega), ?_⟩; conv => whnf)
          | (refine ⟨(i), 0, (show _ = _ by omega), ?_⟩; conv => whnf)
          | (refine ⟨(i), 1, (show _ = _ by omega), ?_⟩; conv => whnf)
          | (refine ⟨(i), 2, (show _ = _ by omega), ?_⟩; conv => whnf)
          | (refine ⟨(i), 3, (show _ = _ by omega), ?_⟩; conv => whnf)
          | (refine ⟨(i), 4, (show _ = _ by omega), ?_⟩; conv => whnf)
          | (refine ⟨(i), 5, (show _ = _ by omega), ?_⟩; conv => whnf)
          | (refine ⟨0, (show _ = _ by omega), ?_⟩; conv => whnf))
        refine ⟨[0, 1], i + 1, ?_, (by show i + 1 ≤ n; omega), (by show n - (i + 1) < n - i; omega)⟩
        show stLe _ _ (st17 A n ca (i + 1)) _
        conv => whnf
        repeat' (first | exact True.intro | rfl | refine And.intro ?_ ?_)
        all_goals (conv => whnf)
        repeat' (first | exact True.intro | rfl | refine And.intro ?_ ?_)
        all_goals (try omega)
        · exact (e3 hsC.symm).symm
        · exact (e2 hsB).symm
      · cases ky
        · skip
          conv => whnf
          repeat (first
            | (refine And.intro ?_ ?_; (focus (first | omega | decide | exact EqOk.mk (by kernel_rfl) (by kernel_rfl) (by kernel_rfl) | exact Int.natCast_nonneg _ | ((repeat' refine And.intro ?_ ?_) <;> first | omega | exact Int.natCast_nonneg _ | (simp only [i64max, u8max, u16max, u32max, u64max]; omega) | (simp only [mulSz_eq, Cont.len, colsLen, Col.len, List.length_cons, List.length_nil, List.length_replicate, List.length_append, lA, lB]; first | done | omega) | (simp [mulSz, Cont.len, bne, lA, lB]; first | done | omega)))); conv => whnf)
            | (refine tst_in ?_ ?_; (focus (intro h_; exfalso; first | omega | ((try simp only [decide_eq_true_eq, decide_eq_false_iff_not] at h_); omega) | (simp [mulSz, Cont.len, bne, lA, lB] at h_; first | done | omega))); intro _; conv => whnf)
            | (refine tst_in ?_ ?_; rotate_left; (focus (intro h_; exfalso; first | omega | ((try simp only [decide_eq_true_eq, decide_eq_false_iff_not] at h_); omega) | (simp [mulSz, Cont.len, bne, lA, lB] at h_; first | done | omega))); intro _; conv => whnf)
            | (refine ⟨(i), (show _ = _ by omega), ?_⟩; conv => whnf)
            | (refine ⟨(i), 0, (show _ = _ by omega), ?_⟩; conv => whnf)
            | (refine ⟨(i), 1, (show _ = _ by omega), ?_⟩; conv => whnf)
            | (refine ⟨(i), 2, (show _ = _ by omega), ?_⟩; conv => whnf)
            | (refine ⟨(i), 3, (show _ = _ by omega), ?_⟩; conv => whnf)
            | (refine ⟨(i), 4, (show _ = _ by omega), ?_⟩; conv => whnf)
            | (refine ⟨(i), 5, (show _ = _ by omega), ?_⟩; conv => whnf)
            | (refine ⟨0, (show _ = _ by omega), ?_⟩; conv => whnf))
          refine ⟨[0, 1], i + 1, ?_, (by show i + 1 ≤ n; omega), (by show n - (i + 1) < n - i; omega)⟩
          show stLe _ _ (st17 A n ca (i + 1)) _
          conv => whnf
          repeat' (first | exact True.intro | rfl | refine And.intro ?_ ?_)
          all_goals (conv => whnf)
          repeat' (first | exact True.intro | rfl | refine And.intro ?_ ?_)
          all_goals (try omega)
          · exact (e3 hsC.symm).symm
          · exact (e2 hsB).symm
        · skip
          conv => whnf
          repeat (first
            | (refine And.intro ?_ ?_; (focus (first | omega | decide | exact EqOk.mk (by kernel_rfl) (by kernel_rfl) (by kernel_rfl) | exact Int.natCast_nonneg _ | ((repeat' refine And.intro ?_ ?_) <;> first | omega | exact Int.natCast_nonneg _ | (simp only [i64max, u8max, u16max, u32max, u64max]; omega) | (simp only [mulSz_eq, Cont.len, colsLen, Col.len, List.length_cons, List.length_nil, List.length_replicate, List.length_append, lA, lB]; first | done | omega) | (simp [mulSz, Cont.len, bne, lA, lB]; first | done | omega)))); conv => whnf)
            | (refine tst_in ?_ ?_; (focus (intro h_; exfalso; first | omega | ((try simp only [decide_eq_true_eq, decide_eq_false_iff_not] at h_); omega) | (simp [mulSz, Cont.len, bne, lA, lB] at h_; first | done | omega))); intro _; conv => whnf)
            | (refine tst_in ?_ ?_; rotate_left; (focus (intro h_; exfalso; first | omega | ((try simp only [decide_eq_true_eq, decide_eq_false_iff_not] at h_); omega) | (simp [mulSz, Cont.len, bne, lA, lB] at h_; first | done | omega))); intro _; conv => whnf)
            | (refine ⟨(i), (show _ = _ by omega), ?_⟩; conv => whnf)
            | (refine ⟨(i), 0, (show _ = _ by omega), ?_⟩; conv => whnf)
            | (refine ⟨(i), 1, (show _ = _ by omega), ?_⟩; conv => whnf)
            | (refine ⟨(i), 2, (show _ = _ by omega), ?_⟩; conv => whnf)
            | (refine ⟨(i), 3, (show _ = _ by omega), ?_⟩; conv => whnf)
            | (refine ⟨(i), 4, (show _ = _ by omega), ?_⟩; conv => whnf)
            | (refine ⟨(i), 5, (show _ = _ by omega), ?_⟩; conv => whnf)
            | (refine ⟨0, (show _ = _ by omega), ?_⟩; conv => whnf))
          refine ⟨[0, 1], i + 1, ?_, (by show i + 1 ≤ n; omega), (by show n - (i + 1) < n - i; omega)⟩
          show stLe _ _ (st17 A n ca (i + 1)) _
          conv => whnf
          repeat' (first | exact True.intro | rfl | refine And.intro ?_ ?_)
          all_goals (conv => whnf)
          repeat' (first | exact True.intro | rfl | refine And.intro ?_ ?_)
          all_goals (try omega)
          · exact (e1 _ hsC.symm).symm
          · exact (e4 hsB.symm).symm
    · skip
      have hge : i = n := by simp at hge; omega
      subst hge
      conv => whnf
      repeat (first
        | (refine And.intro ?_ ?_; (focus (first | omega | decide | exact EqOk.mk (by kernel_rfl) (by kernel_rfl) (by kernel_rfl) | exact Int.natCast_nonneg _ | ((repeat' refine And.intro ?_ ?_) <;> first | omega | exact Int.natCast_nonneg _ | (simp only [i64max, u8max, u16max, u32max, u64max]; omega) | (simp only [mulSz_eq, Cont.len, colsLen, Col.len, List.length_cons, List.length_nil, List.length_replicate, List.length_append]; first | done | omega) | (simp [mulSz, Cont.len, bne]; first | done | omega)))); conv => whnf)
        | (refine tst_in ?_ ?_; (focus (intro h_; exfalso; first | omega | ((try simp only [decide_eq_true_eq, decide_eq_false_iff_not] at h_); omega) | (simp [mulSz, Cont.len, bne] at h_; first | done | omega))); intro _; conv => whnf)
        | (refine tst_in ?_ ?_; rotate_left; (focus (intro h_; exfalso; first | omega | ((try simp only [decide_eq_true_eq, decide_eq_false_iff_not] at h_); omega) | (simp [mulSz, Cont.len, bne] at h_; first | done | omega))); intro _; conv => whnf)
        | (refine ⟨0, (show _ = _ by omega), ?_⟩; conv => whnf))
      refine .inl ⟨(), [0, 1], ?_⟩
      conv => whnf
      repeat' (first | exact True.intro | rfl | refine And.intro ?_ ?_)
      all_goals (conv => whnf)
      repeat' (first | exact True.intro | rfl | refine And.intro ?_ ?_)
      all_goals (try omega)
      · unfold cA
        refine row_ext ((0, 0)) ?_ ?_
        · simp only [List.length_append, List.length_take, List.length_drop, List.length_set, List.length_replicate, tab_len, List.length_map, List.length_range, List.length_cons, List.length_nil]
          try omega
        · intro i_ hi_
          simp only [List.length_append, List.length_take, List.length_drop, List.length_set, List.length_replicate, tab_len, List.length_map, List.length_range, List.length_cons, List.length_nil] at hi_
          simp only [g_app, g_take, g_drop, g_set, g_rep, g_tab, g_one, g_nil, List.length_append, List.length_take, List.length_drop, List.length_set, List.length_replicate, tab_len, List.length_map, List.length_range, List.length_cons, List.length_nil]
          repeat' split
          all_goals (try (first | rfl | omega | (congr 1; omega) | (simp; omega) | (rw [decide_eq_decide]; omega) | (symm; simp; omega)))
      · unfold cB
        refine row_ext (false) ?_ ?_
        · simp only [List.length_append, List.length_take, List.length_drop, List.length_set, List.length_replicate, tab_len, List.length_map, List.length_range, List.length_cons, List.length_nil]
          try omega
        · intro i_ hi_
          simp only [List.length_append, List.length_take, List.length_drop, List.length_set, List.length_replicate, tab_len, List.length_map, List.length_range, List.length_cons, List.length_nil] at hi_
          simp only [g_app, g_take, g_drop, g_set, g_rep, g_tab, g_one, g_nil, List.length_append, List.length_take, List.length_drop, List.length_set, List.length_replicate, tab_len, List.length_map, List.length_range, List.length_cons, List.length_nil]
          repeat' split
          all_goals (try (first | rfl | omega | (congr 1; omega) | (simp; omega) | (rw [decide_eq_decide]; omega) | (symm; simp; omega)))
end Go.Proofs.Ytanogghfdamdcaa

set_option linter.unusedVariables false
set_option linter.unusedSimpArgs false
namespace Go.Proofs.Ytanogghfdamdcaa
open Go Go.Fw
def st18 (A A' : YT) (B B' : List Bool) (n ca cb i : Nat) : St := ⟨slotsAt 41 [(0, .slice 0 0 n ca), (1, .slice 1 0 n cb), (5, .int .i64 i)], [rowS false A B, rowS false A' B']⟩
def inv18 (A A' : YT) (B B' : List Bool) (n ca cb : Nat) : LInv := ⟨Nat, fun i => st18 A A' B B' n ca cb i, fun i => i ≤ n, fun i => n - i⟩
set_option maxHeartbeats 0 in
set_option maxRecDepth 100000 in
theorem Same_q (A A' : YT) (B B' : List Bool) (n ca cb : Nat) (hA : n ≤ A.length) (hB : n ≤ B.length) (hA' : n ≤ A'.length) (hB' : n ≤ B'.length) (hca : n ≤ ca) (hcb : n ≤ cb) (hn : n ≤ 8796093022208)
    (hE : ∀ i, i < n → (D.order (aF A i).1 (aF A' i).1 == some .eq) = true ∧ (D.order (aF A i).2 (aF A' i).2 == some .eq) = true ∧ B'.getD i false = B.getD i false) :
    QFits Try.prog 18 ⟨[.slice 0 0 n ca, .slice 1 0 n cb], [rowS false A B, rowS false A' B'], .bool true⟩ := by
  refine qfits_of_body (C := cfgk 2) (c := (Try.f18.body).getD .skip) (ts := [4]) tokL mixedL (fun | 4 => some (inv18 A A' B B' n ca cb) | _ => none) (fun _ => none)
    Try.func18 (by kernel_rfl) (by kernel_rfl) (by kernel_rfl) (by kernel_rfl) (by kernel_rfl) rfl rfl ?_
  conv => whnf
  repeat (first
    | (refine And.intro ?_ ?_; (focus (first | omega | decide | exact EqOk.mk (by kernel_rfl) (by kernel_rfl) (by kernel_rfl) | exact Int.natCast_nonneg _ | ((repeat' refine And.intro ?_ ?_) <;> first | omega | exact Int.natCast_nonneg _ | (simp only [i64max, u8max, u16max, u32max, u64max]; omega) | (simp only [mulSz_eq, Cont.len, colsLen, Col.len, List.length_cons, List.length_nil, List.length_replicate, List.length_append]; first | done | omega) | (simp [mulSz, Cont.len, bne]; first | done | omega)))); conv => whnf)
    | (refine tst_in ?_ ?_; (focus (intro h_; exfalso; first | omega | ((try simp only [decide_eq_true_eq, decide_eq_false_iff_not] at h_); omega) | (simp [mulSz, Cont.len, bne] at h_; first | done | omega))); intro _; conv => whnf)
    | (refine tst_in ?_ ?_; rotate_left; (focus (intro h_; exfalso; first | omega | ((try simp only [decide_eq_true_eq, decide_eq_false_iff_not] at h_); omega) | (simp [mulSz, Cont.len, bne] at h_; first | done | omega))); intro _; conv => whnf)
    | (refine ⟨0, (show _ = _ by omega), ?_⟩; conv => whnf))
  refine ⟨⟨[0, 1], (0 : Nat), ?_, Nat.zero_le _⟩, ?_⟩
  · show stLe _ _ (st18 A A' B B' n ca cb 0) _
    conv => whnf
    repeat' (first | exact True.intro | rfl | refine And.intro ?_ ?_)
    all_goals (conv => whnf)
    repeat' (first | exact True.intro | rfl | refine And.intro ?_ ?_)
    all_goals (try omega)
  · intro (i : Nat) (hi : i ≤ n)
    show forceSt (st18 A A' B B' n ca cb i) _
    conv => whnf
    refine tst_in (fun hlt => ?_) (fun hge => ?_)
    · skip
      have hlt : i < n := by simp at hlt; omega
      obtain ⟨e1, e2, e3⟩ := hE i hlt
      unfold aF at e1 e2
      conv => whnf
      repeat (first
        | (refine And.intro ?_ ?_; (focus (first | omega | decide | exact EqOk.mk (by kernel_rfl) (by kernel_rfl) (by kernel_rfl) | exact Int.natCast_nonneg _ | ((repeat' refine And.intro ?_ ?_) <;> first | omega | exact Int.natCast_nonneg _ | (simp only [i64max, u8max, u16max, u32max, u64max]; omega) | (simp only [mulSz_eq, Cont.len, colsLen, Col.len, List.length_cons, List.length_nil, List.length_replicate, List.length_append]; first | done | omega) | (simp [mulSz, Cont.len, bne]; first | done | omega)))); conv => whnf)
        | (refine tst_in ?_ ?_; (focus (intro h_; exfalso; first | omega | ((try simp only [decide_eq_true_eq, decide_eq_false_iff_not] at h_); omega) | (simp [mulSz, Cont.len, bne] at h_; first | done | omega))); intro _; conv => whnf)
        | (refine tst_in ?_ ?_; rotate_left; (focus (intro h_; exfalso; first | omega | ((try simp only [decide_eq_true_eq, decide_eq_false_iff_not] at h_); omega) | (simp [mulSz, Cont.len, bne] at h_; first | done | omega))); intro _; conv => whnf)
        | (refine ⟨(i), (show _ = _ by omega), ?_⟩; conv => whnf)
        | (refine ⟨(i), 0, (show _ = _ by omega), ?_⟩; conv => whnf)
        | (refine ⟨(i), 1, (show _ = _ by omega), ?_⟩; conv => whnf)
        | (refine ⟨(i), 2, (show _ = _ by omega), ?_⟩; conv => whnf)
        | (refine ⟨(i), 3, (show _ = _ by omega), ?_⟩; conv => whnf)
        | (refine ⟨(i), 4, (show _ = _ by omega), ?_⟩; conv => whnf)
        | (refine ⟨(i), 5, (show _ = _ by omega), ?_⟩; conv => whnf)
        | (refine ⟨0, (show _ = _ by omega), ?_⟩; conv => whnf))
      rw [e3]
      cases B.getD i false
      all_goals (
        conv => whnf
        repeat (first
          | (refine And.intro ?_ ?_; (focus (first | omega | decide | exact EqOk.mk (by kernel_rfl) (by kernel_rfl) (by kernel_rfl) | exact Int.natCast_nonneg _ | ((repeat' refine And.intro ?_ ?_) <;> first | omega | exact Int.natCast_nonneg _ | (simp only [i64max, u8max, u16max, u32max, u64max]; omega) | (simp only [mulSz_eq, Cont.len, colsLen, Col.len, List.length_cons, List.length_nil, List.length_replicate, List.length_append]; first | done | omega) | (simp [mulSz, Cont.len, bne]; first | done | omega)))); conv => whnf)
          | (refine tst_in ?_ ?_; (focus (intro h_; exfalso; first | omega | ((try simp only [decide_eq_true_eq, decide_eq_false_iff_not] at h_); omega) | (simp [mulSz, Cont.len, bne] at h_; first | done | omega))); intro _; conv => whnf)
          | (refine tst_in ?_ ?_; rotate_left; (focus (intro h_; exfalso; first | omega | ((try simp only [decide_eq_true_eq, decide_eq_false_iff_not] at h_); omega) | (simp [mulSz, Cont.len, bne] at h_; first | done | omega))); intro _; conv => whnf)
          | (refine ⟨(i), (show _ = _ by omega), ?_⟩; conv => whnf)
          | (refine ⟨(i), 0, (show _ = _ by omega), ?_⟩; conv => whnf)
          | (refine ⟨(i), 1, (show _ = _ by omega), ?_⟩; conv => whnf)
          | (refine ⟨(i), 2, (show _ = _ by omega), ?_⟩; conv => whnf)
          | (refine ⟨(i), 3, (show _ = _ by omega), ?_⟩; conv => whnf)
          | (refine ⟨(i), 4, (show _ = _ by omega), ?_⟩; conv => whnf)
          | (refine ⟨(i), 5, (show _ = _ by omega), ?_⟩; conv => whnf)
          | (refine ⟨0, (show _ = _ by omega), ?_⟩; conv => whnf))
        rw [show (FloatKind.f64.format.order (A.getD i (0, 0)).1 (A'.getD i (0, 0)).1 == some Ordering.eq) = true from e1, show (FloatKind.f64.format.order (A.getD i (0, 0)).2 (A'.getD i (0, 0)).2 == some Ordering.eq) = true from e2]
        conv => whnf
        repeat (first
          | (refine And.intro ?_ ?_; (focus (first | omega | decide | exact EqOk.mk (by kernel_rfl) (by kernel_rfl) (by kernel_rfl) | exact Int.natCast_nonneg _ | ((repeat' refine And.intro ?_ ?_) <;> first | omega | exact Int.natCast_nonneg _ | (simp only [i64max, u8max, u16max, u32max, u64max]; omega) | (simp only [mulSz_eq, Cont.len, colsLen, Col.len, List.length_cons, List.length_nil, List.length_replicate, List.length_append]; first | done | omega) | (simp [mulSz, Cont.len, bne]; first | done | omega)))); conv => whnf)
          | (refine tst_in ?_ ?_; (focus (intro h_; exfalso; first | omega | ((try simp only [decide_eq_true_eq, decide_eq_false_iff_not] at h_); omega) | (simp [mulSz, Cont.len, bne] at h_; first | done | omega))); intro _; conv => whnf)
          | (refine tst_in ?_ ?_; rotate_left; (focus (intro h_; exfalso; first | omega | ((try simp only [decide_eq_true_eq, decide_eq_false_iff_not] at h_); omega) | (simp [mulSz, Cont.len, bne] at h_; first | done | omega))); intro _; conv => whnf)
          | (refine ⟨0, (show _ = _ by omega), ?_⟩; conv => whnf))
        refine ⟨[0, 1], i + 1, ?_, (by show i + 1 ≤ n; omega), (by show n - (i + 1) < n - i; omega)⟩
        show stLe _ _ (st18 A A' B B' n ca cb (i + 1)) _
        conv => whnf
        repeat' (first | exact True.intro | rfl | refine And.intro ?_ ?_)
        all_goals (conv => whnf)
        repeat' (first | exact True.intro | rfl | refine And.intro ?_ ?_)
        all_goals (try omega)
      )
    · skip
      have hge : i = n := by simp at hge; omega
      subst hge
      conv => whnf
      repeat (first
        | (refine And.intro ?_ ?_; (focus (first | omega | decide | exact EqOk.mk (by kernel_rfl) (by kernel_rfl) (by kernel_rfl) | exact Int.natCast_nonneg _ | ((repeat' refine And.intro ?_ ?_) <;> first | omega | exact Int.natCast_nonneg _ | (simp only [i64max, u8max, u16max, u32max, u64max]; omega) | (simp only [mulSz_eq, Cont.len, colsLen, Col.len, List.length_cons, List.length_nil, List.length_replicate, List.length_append]; first | done | omega) | (simp [mulSz, Cont.len, bne]; first | done | omega)))); conv => whnf)
        | (refine tst_in ?_ ?_; (focus (intro h_; exfalso; first | omega | ((try simp only [decide_eq_true_eq, decide_eq_false_iff_not] at h_); omega) | (simp [mulSz, Cont.len, bne] at h_; first | done | omega))); intro _; conv => whnf)
        | (refine tst_in ?_ ?_; rotate_left; (focus (intro h_; exfalso; first | omega | ((try simp only [decide_eq_true_eq, decide_eq_false_iff_not] at h_); omega) | (simp [mulSz, Cont.len, bne] at h_; first | done | omega))); intro _; conv => whnf)
        | (refine ⟨0, (show _ = _ by omega), ?_⟩; conv => whnf))
end Go.Proofs.Ytanogghfdamdcaa
