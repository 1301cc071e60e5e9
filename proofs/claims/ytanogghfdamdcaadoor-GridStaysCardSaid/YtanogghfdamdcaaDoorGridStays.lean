/-
  For any number on the grid and any bits of a float below half a step: their sum, unless it is rounded or beyond the edge, comes in as that number.
-/
import Derived.Test.YtanogghfdamdcaaDoorRows
import Derived.Test.YtanogghfdamdcaaDoorFl
import Derived.Test.YtanogghfdamdcaaDoorFa
import Derived.WalkKit
import Derived.ProofKit
import Derived.OpenShut
import Derived.SizedLaws
import Derived.ChangeMaps5
import Derived.Test.YtanogghfdamdcaaDoorFv
import Derived.LaidMore
import Derived.Stop.Joined
import Derived.SevenTiedAt
import Derived.Test.YtanogghfdamdcaaDoorTie
import Derived.Test.YtanogghfdamdcaaDoorCards
set_option linter.unusedSimpArgs false
set_option linter.unusedVariables false
namespace Go.Fw
open Go Ieee
set_option exponentiation.threshold 2200
theorem log2_shift (m d : Nat) (hm : 0 < m) : (m * 2 ^ d).log2 = m.log2 + d := by
  have h1 : 2 ^ m.log2 ≤ m := Nat.log2_self_le (by omega)
  have h2 : m < 2 ^ (m.log2 + 1) := Nat.lt_log2_self
  have hp := Nat.two_pow_pos d
  have h3 : 2 ^ (m.log2 + d) ≤ m * 2 ^ d := by rw [Nat.pow_add]; exact Nat.mul_le_mul_right _ h1
  have h4 : m * 2 ^ d < 2 ^ (m.log2 + d + 1) := by
    rw [show m.log2 + d + 1 = (m.log2 + 1) + d by omega, Nat.pow_add]
    exact Nat.mul_lt_mul_of_pos_right h2 hp
  have hz : m * 2 ^ d ≠ 0 := by have := Nat.mul_pos hm hp; omega
  have h5 : (m * 2 ^ d).log2 < m.log2 + d + 1 := (Nat.log2_lt hz).2 h4
  have h6 : m.log2 + d ≤ (m * 2 ^ d).log2 := (Nat.le_log2 hz).2 h3
  omega
theorem nearest_shift (neg : Bool) (m d : Nat) (p : Int) (hm : 0 < m) (h : lst m (p + d) ≤ p + d) : D.nearest neg (m * 2 ^ d) p = D.nearest neg m (p + d) := by
  have hp := Nat.two_pow_pos d
  have hz : m * 2 ^ d ≠ 0 := by have := Nat.mul_pos hm hp; omega
  have hl : lst (m * 2 ^ d) p = lst m (p + d) := by
    unfold lst; rw [log2_shift m d hm]; push_cast; congr 1; omega
  unfold Format.nearest
  rw [if_neg hz, if_neg (by omega), d_least, d_bin, d_inf]
  show D.word neg (min ((lst (m * 2 ^ d) p - -1074).toNat * 4503599627370496 + Toward.even.cut neg ((m * 2 ^ d) <<< (p - lst (m * 2 ^ d) p).toNat) (lst (m * 2 ^ d) p - p).toNat) 9218868437227405312) = D.word neg (min ((lst m (p + d) - -1074).toNat * 4503599627370496 + Toward.even.cut neg (m <<< (p + d - lst m (p + d)).toNat) (lst m (p + d) - (p + d)).toNat) 9218868437227405312)
  rw [hl]
  generalize hL : lst m (p + d) = L at *
  congr 3
  by_cases hc : L ≤ p
  · rw [show (L - p).toNat = 0 by omega, show (L - (p + d)).toNat = 0 by omega, Nat.shiftLeft_eq, Nat.shiftLeft_eq, show (p + d - L).toNat = d + (p - L).toNat by omega, Nat.pow_add, Nat.mul_assoc]
  · rw [show (p - L).toNat = 0 by omega, show (L - (p + d)).toNat = 0 by omega, Nat.shiftLeft_zero, cut_zero, Nat.shiftLeft_eq]
    have e : m * 2 ^ d = m * 2 ^ (p + d - L).toNat * 2 ^ (L - p).toNat := by
      rw [Nat.mul_assoc, ← Nat.pow_add]; congr 2; omega
    have hg : (L - p).toNat ≤ (m * 2 ^ d).log2 + 2 := by rw [log2_shift m d hm]; omega
    rw [e] at hg ⊢
    exact cut_exact neg _ _ hg
/-- Any number times 2 ^ j, if it is not too great. -/
theorem V_scale {b c j : Nat} {X : Int} (h : V 1074 b X) (hc : D.read c = .number false 4503599627370496 (-52 + j)) (hX : X.natAbs < 2 ^ (2097 - j)) (hj : j ≤ 1000) : ∃ r, D.mul b c = some r ∧ V 1074 r (X * 2 ^ j) := by
  unfold V at h
  obtain ⟨s, m, P, e1, e2⟩ := h
  have b1 := read_bound e1
  unfold Format.mul
  rw [e1, hc]
  simp only [Datum.product, Option.map_some]
  refine ⟨_, rfl, ?_⟩
  rw [Nat.sub_self, Int.pow_zero, Int.mul_one] at e2
  rw [show (s ^^ false) = s by cases s <;> rfl]
  by_cases h0 : m = 0
  · subst h0
    have hX0 : X = 0 := by rw [← e2, signed_eq]; cases s <;> simp
    rw [Nat.zero_mul]
    unfold V
    exact ⟨s, 0, -1074, write_read0 s _, by rw [hX0, signed_eq]; cases s <;> simp⟩
  have hm : 0 < m := by omega
  have hlog : m.log2 ≤ 52 := by
    have h53 : (2 : Nat) ^ 53 = 9007199254740992 := by decide
    have : m.log2 < 53 := (Nat.log2_lt (by omega)).2 (by omega)
    omega
  have hmag : m * 2 ^ (P + 1074).toNat = X.natAbs := by rw [← e2, signed_abs]
  have hup : m.log2 + (P + 1074).toNat < 2097 - j := by
    have h1 : 2 ^ m.log2 ≤ m := Nat.log2_self_le (by omega)
    have h2 : 2 ^ m.log2 * 2 ^ (P + 1074).toNat ≤ m * 2 ^ (P + 1074).toNat := Nat.mul_le_mul_right _ h1
    rw [← Nat.pow_add, hmag] at h2
    exact (Nat.pow_lt_pow_iff_right (by decide : 1 < 2)).1 (Nat.lt_of_le_of_lt h2 hX)
  have hw : D.write (.number s (m * 4503599627370496) (P + (-52 + j))) = D.write (.number s (m * 2 ^ 0) (P + j)) := by
    show D.nearest s (m * 4503599627370496) _ = D.nearest s (m * 2 ^ 0) _
    rw [show (4503599627370496 : Nat) = 2 ^ 52 by decide, nearest_shift s m 52 _ hm (by unfold lst; omega), Nat.pow_zero, Nat.mul_one]
    congr 1; omega
  obtain ⟨M, Q, k1, k2, k3⟩ := write_exact s m 0 (P + j) hm b1.1 (by omega) (by rw [Nat.pow_zero, Nat.mul_one]; omega)
  rw [hw]
  unfold V
  refine ⟨s, M, Q, k1, ?_⟩
  rw [Nat.sub_self, Int.pow_zero, Int.mul_one, ← e2, signed_shift]
  rw [Nat.pow_zero, Nat.mul_one] at k3
  rw [signed_eq, signed_eq]
  have k4 := congrArg (Nat.cast : Nat → Int) k3
  push_cast at k4
  rw [k4]
  congr 3
  omega
end Go.Fw

namespace Go.Fw
open Go Ieee
set_option exponentiation.threshold 2200
theorem V_fin {b : Nat} {s : Bool} {m : Nat} {P : Int} (h : D.read b = .number s m P) : V 1074 b (signed s m (P + 1074).toNat) := by
  unfold V
  exact ⟨s, m, P, h, by rw [Nat.sub_self, Int.pow_zero, Int.mul_one]⟩
theorem V_all {q b : Nat} {x : Int} (h : V q b x) (hq : q ≤ 1074) : V 1074 b (x * 2 ^ (1074 - q)) := by
  have := V_up h (1074 - q) (by omega)
  rw [show q + (1074 - q) = 1074 by omega] at this
  exact this
/-- No number at all. -/
inductive Wild (b : Nat) : Prop
  | inf (s : Bool) (h : D.read b = .infinity s)
  | nan (s : Bool) (f : Nat) (h : D.read b = .nan s f)
theorem fin_or (b : Nat) : (∃ X, V 1074 b X) ∨ Wild b := by
  rcases h : D.read b with ⟨s, m, P⟩ | s | ⟨s, f⟩
  · exact .inl ⟨_, V_fin h⟩
  · exact .inr (.inf s h)
  · exact .inr (.nan s f h)
theorem wild_out {b c d : Nat} {y z : Int} {q : Nat} (h : Wild b) (hc : V q c y) (hd : V q d z) : ((D.order b c == some .gt || D.order b c == some .eq) && (D.order b d == some .lt || D.order b d == some .eq)) = false := by
  unfold V at hc hd
  obtain ⟨s1, m1, P1, e1, -⟩ := hc
  obtain ⟨s2, m2, P2, e2, -⟩ := hd
  rcases h with ⟨s, h⟩ | ⟨s, f, h⟩
  · unfold Format.order
    rw [h, e1, e2]
    cases s <;> rfl
  · unfold Format.order
    rw [h, e1, e2]
    rfl
theorem zcut (neg : Bool) (n d : Nat) : Toward.zero.cut neg n d = n / 2 ^ d := by
  unfold Toward.cut
  simp only [Nat.one_shiftLeft, Bool.toNat_false, Nat.add_zero]
  by_cases h : d ≤ n.log2 + 2
  · rw [Nat.min_eq_left h]
  · rw [Nat.min_eq_right (by omega)]
    have h1 : n < 2 ^ (n.log2 + 1) := Nat.lt_log2_self
    have h2 : 2 ^ (n.log2 + 1) ≤ 2 ^ (n.log2 + 2) := Nat.pow_le_pow_right (by decide) (by omega)
    have h3 : 2 ^ (n.log2 + 1) ≤ 2 ^ d := Nat.pow_le_pow_right (by decide) (by omega)
    rw [Nat.div_eq_of_lt (by omega), Nat.div_eq_of_lt (by omega)]
/-- The whole part, towards nought. -/
theorem V_toInt {b : Nat} {X : Int} (h : V 1074 b X) : (D.read b).toInt .zero = some (X.tdiv (2 ^ 1074)) := by
  unfold V at h
  obtain ⟨s, m, P, e1, e2⟩ := h
  have b1 := read_bound e1
  rw [Nat.sub_self, Int.pow_zero, Int.mul_one] at e2
  rw [e1]
  show some (signed s (Toward.zero.cut s (m <<< P.toNat) (-P).toNat) 0) = _
  congr 1
  rw [zcut, Nat.shiftLeft_eq]
  have key : m * 2 ^ P.toNat / 2 ^ (-P).toNat = m * 2 ^ (P + 1074).toNat / 2 ^ 1074 := by
    by_cases hc : 0 ≤ P
    · rw [show (-P).toNat = 0 by omega, Nat.pow_zero, Nat.div_one, show (P + 1074).toNat = P.toNat + 1074 by omega, Nat.pow_add, ← Nat.mul_assoc, Nat.mul_div_cancel _ (Nat.two_pow_pos 1074)]
    · have hp := Nat.two_pow_pos (P + 1074).toNat
      rw [show P.toNat = 0 by omega, Nat.pow_zero, Nat.mul_one]
      have : (2 : Nat) ^ 1074 = 2 ^ (-P).toNat * 2 ^ (P + 1074).toNat := by rw [← Nat.pow_add]; congr 1; omega
      rw [this, Nat.mul_div_mul_right _ _ hp]
  rw [key, ← e2, signed_eq, signed_eq]
  have hcast : ((m * 2 ^ (P + 1074).toNat / 2 ^ 1074 : Nat) : Int) = ((m : Int) * 2 ^ (P + 1074).toNat).tdiv (2 ^ 1074) := by
    have h1 : ((m : Int) * 2 ^ (P + 1074).toNat) = ((m * 2 ^ (P + 1074).toNat : Nat) : Int) := by rw [Int.natCast_mul, Int.natCast_pow]; rfl
    have h2 : ((2 : Int) ^ 1074) = ((2 ^ 1074 : Nat) : Int) := by rw [Int.natCast_pow]; rfl
    rw [h1, h2]; rfl
  rw [hcast, Int.pow_zero, Int.mul_one]
  cases s
  · simp
  · simp only [if_true, Int.neg_one_mul, Int.neg_tdiv]
theorem V_conv {b : Nat} {X : Int} (h : V 1074 b X) (k : IntKind) (h1 : k.min ≤ X.tdiv (2 ^ 1074)) (h2 : X.tdiv (2 ^ 1074) ≤ k.max) : floatToIntVal .f64 b k = some (X.tdiv (2 ^ 1074)) := by
  unfold floatToIntVal
  rw [show (FloatKind.f64.decode b).toInt .zero = some (X.tdiv (2 ^ 1074)) from V_toInt h]
  exact if_pos ⟨h1, h2⟩
end Go.Fw

namespace Go.Fw
open Go Ieee
set_option exponentiation.threshold 2200
/-- A number of few digits by a power of two. -/
theorem V_div {q a c j : Nat} {n : Int} (h : V q a n) (hc : D.read c = .number false 4503599627370496 (-52 + j)) (h1 : -9007199254740992 < n) (h2 : n < 9007199254740992) (hq : q + j ≤ 900) : ∃ r, D.div a c = some r ∧ V (q + j) r n := by
  unfold V at h
  obtain ⟨s, m, i, e1, e2⟩ := h
  have b1 := read_bound e1
  have hfb : D.fractionBits + 2 = 54 := by decide
  unfold Format.div
  rw [e1, hc, hfb]
  by_cases h0 : m = 0
  · subst h0
    have hn : n = 0 := by
      have h3 : signed s 0 (i + 1074).toNat = 0 := by rw [signed_eq]; cases s <;> simp
      rw [h3] at e2
      exact (Int.mul_eq_zero.1 e2.symm).resolve_right (by have : (0 : Int) < 2 ^ (1074 - q) := Int.pow_pos (by decide)
                                                          omega)
    subst hn
    refine ⟨_, rfl, ?_⟩
    unfold V
    refine ⟨s, 0, -1074, ?_, by rw [signed_eq]; cases s <;> simp⟩
    have : ∀ k : Nat, 0 <<< k = 0 := fun k => Nat.zero_shiftLeft k
    simp only [this, Nat.zero_div, Nat.zero_mod, Nat.mul_zero, Nat.zero_add]
    rw [show (s ^^ false) = s by cases s <;> rfl]
    exact write_read0 _ _
  have hm : 0 < m := by omega
  have h53 : (2 : Nat) ^ 53 = 9007199254740992 := by decide
  have hlog : m.log2 ≤ 52 := by
    have : m.log2 < 53 := (Nat.log2_lt (by omega)).2 (by omega)
    omega
  have hn0 : n ≠ 0 := by
    intro h3
    rw [h3, Int.zero_mul] at e2
    have := congrArg Int.natAbs e2
    rw [signed_abs] at this
    have h5 : m = 0 := (Nat.mul_eq_zero.1 this).resolve_right (by have := Nat.two_pow_pos ((i + 1074).toNat); omega)
    omega
  have hpl := V_place e2 b1.1 b1.2 hn0 (by omega)
  have hup : m.log2 + (i + 1074).toNat < 53 + (1074 - q) := by
    have k1 : 2 ^ m.log2 ≤ m := Nat.log2_self_le (by omega)
    have k2 : 2 ^ m.log2 * 2 ^ (i + 1074).toNat ≤ m * 2 ^ (i + 1074).toNat := Nat.mul_le_mul_right _ k1
    have k3 := congrArg Int.natAbs e2
    rw [signed_abs, Int.natAbs_mul, Int.natAbs_pow] at k3
    rw [← Nat.pow_add, k3] at k2
    have k4 : n.natAbs * (Int.natAbs 2) ^ (1074 - q) < 2 ^ 53 * 2 ^ (1074 - q) := Nat.mul_lt_mul_of_pos_right (by omega) (Nat.two_pow_pos _)
    rw [← Nat.pow_add] at k4
    exact (Nat.pow_lt_pow_iff_right (by decide : 1 < 2)).1 (Nat.lt_of_le_of_lt k2 k4)
  have hl2 : Nat.log2 4503599627370496 = 52 := by decide
  refine ⟨_, by simp only [Datum.quotient, show ¬ (4503599627370496 = 0) by decide, if_false, Option.map_some]; rfl, ?_⟩
  rw [hl2, Nat.shiftLeft_eq]
  obtain ⟨t, ht⟩ : ∃ t, 54 + 52 - m.log2 = 52 + t := ⟨54 - m.log2, by omega⟩
  have ht' : 0 < t := by omega
  have h52 : (2 : Nat) ^ 52 = 4503599627370496 := by decide
  have hd : m * 2 ^ (52 + t) = m * 2 ^ t * 4503599627370496 := by rw [Nat.pow_add, h52, ← Nat.mul_assoc, Nat.mul_right_comm]
  rw [ht, hd, Nat.mul_div_cancel _ (by decide), Nat.mul_mod_left]
  have hmag : 2 * (m * 2 ^ t) + ((0 : Nat) != 0).toNat = m * 2 ^ (t + 1) := by
    show 2 * (m * 2 ^ t) + 0 = _
    rw [Nat.pow_succ]; rw [Nat.add_zero, Nat.mul_comm 2, Nat.mul_assoc]
  have hw : D.write (.number s (m * 2 ^ (t + 1)) (i - (-52 + (j : Int)) - ((52 + t : Nat) : Int) - 1)) = D.write (.number s (m * 2 ^ 0) (i - j)) := by
    show D.nearest s _ _ = D.nearest s (m * 2 ^ 0) _
    rw [nearest_shift s m (t + 1) _ hm (by unfold lst; omega), Nat.pow_zero, Nat.mul_one]
    congr 1; omega
  rw [hmag]
  rw [show (s ^^ false) = s by cases s <;> rfl, hw]
  obtain ⟨M, Q, k1, k2, k3⟩ := write_exact s m 0 (i - j) hm b1.1 (by omega) (by rw [Nat.pow_zero, Nat.mul_one]; omega)
  unfold V
  refine ⟨s, M, Q, k1, ?_⟩
  rw [Nat.pow_zero, Nat.mul_one] at k3
  have hp : (0 : Int) < 2 ^ j := Int.pow_pos (by decide)
  apply Int.eq_of_mul_eq_mul_right (show (2 : Int) ^ j ≠ 0 by omega)
  rw [Int.mul_assoc, ← Int.pow_add, show 1074 - (q + j) + j = 1074 - q by omega, ← e2, signed_eq, signed_eq]
  have k4 := congrArg (Nat.cast : Nat → Int) k3
  push_cast at k4
  rw [k4, Int.mul_assoc, Int.mul_assoc, ← Int.pow_add]
  congr 3
  omega
end Go.Fw

namespace Go.Fw
open Go Ieee
set_option exponentiation.threshold 2200
/-- |x| in units of 2^-1074, rounded to whole numbers, ties to the even one. -/
def evn (n d : Nat) : Nat := n / 2 ^ d + (if 2 ^ d < 2 * (n % 2 ^ d) ∨ (2 ^ d = 2 * (n % 2 ^ d) ∧ n / 2 ^ d % 2 = 1) then 1 else 0)
theorem ecut (neg : Bool) (n d : Nat) : Toward.even.cut neg n d = evn n d := by
  unfold Toward.cut evn
  simp only [Nat.one_shiftLeft]
  by_cases h : d ≤ n.log2 + 2
  · rw [Nat.min_eq_left h]
    congr 1
    by_cases c1 : 2 ^ d < 2 * (n % 2 ^ d)
    · simp [c1]
    · by_cases c2 : 2 ^ d = 2 * (n % 2 ^ d)
      · by_cases c3 : n / 2 ^ d % 2 = 1
        · rw [if_pos (.inr ⟨c2, c3⟩), decide_eq_false c1]
          simp [← c2, c3]
        · rw [if_neg (fun q => q.elim c1 (fun q => c3 q.2)), decide_eq_false c1]
          have : (n / 2 ^ d % 2 == 1) = false := by rw [beq_eq_false_iff_ne]; exact c3
          simp [this]
      · rw [if_neg (fun q => q.elim c1 (fun q => c2 q.1)), decide_eq_false c1]
        have : (2 ^ d == 2 * (n % 2 ^ d)) = false := by rw [beq_eq_false_iff_ne]; exact c2
        simp [this]
  · rw [Nat.min_eq_right (by omega)]
    have h1 : n < 2 ^ (n.log2 + 1) := Nat.lt_log2_self
    have h2 : 2 ^ (n.log2 + 2) = 2 * 2 ^ (n.log2 + 1) := by rw [Nat.pow_succ 2 (n.log2 + 1), Nat.mul_comm]
    have h3 : 2 ^ (n.log2 + 2) ≤ 2 ^ d := Nat.pow_le_pow_right (by decide) (by omega)
    have g1 : n < 2 ^ (n.log2 + 2) := by omega
    have g2 : n < 2 ^ d := by omega
    rw [Nat.div_eq_of_lt g1, Nat.div_eq_of_lt g2, Nat.mod_eq_of_lt g1, Nat.mod_eq_of_lt g2]
    have g3 : 2 * n < 2 ^ (n.log2 + 2) := by omega
    have g4 : 2 * n < 2 ^ d := by omega
    rw [if_neg (by omega), decide_eq_false (by omega)]
    have : (2 ^ (n.log2 + 2) == 2 * n) = false := by rw [beq_eq_false_iff_ne]; omega
    simp [this]
theorem evn_shift (m a b : Nat) : evn (m * 2 ^ a) (b + a) = evn m b := by
  unfold evn
  have hp := Nat.two_pow_pos a
  have h1 : m * 2 ^ a / 2 ^ (b + a) = m / 2 ^ b := by rw [Nat.pow_add, Nat.mul_div_mul_right _ _ hp]
  have h2 : m * 2 ^ a % 2 ^ (b + a) = m % 2 ^ b * 2 ^ a := by rw [Nat.pow_add, Nat.mul_mod_mul_right]
  rw [h1, h2, Nat.pow_add]
  have h3 : (2 ^ b * 2 ^ a < 2 * (m % 2 ^ b * 2 ^ a)) ↔ (2 ^ b < 2 * (m % 2 ^ b)) := by
    rw [← Nat.mul_assoc]; exact ⟨fun q => Nat.lt_of_mul_lt_mul_right q, fun q => Nat.mul_lt_mul_of_pos_right q hp⟩
  have h4 : (2 ^ b * 2 ^ a = 2 * (m % 2 ^ b * 2 ^ a)) ↔ (2 ^ b = 2 * (m % 2 ^ b)) := by
    rw [← Nat.mul_assoc]; exact ⟨fun q => Nat.eq_of_mul_eq_mul_right hp q, fun q => congrArg (· * 2 ^ a) q⟩
  simp only [h3, h4]
/-- The nearest whole number, of a number told in units of 2 ^ -1074. -/
def nrst (X : Int) : Int := (if X < 0 then -1 else 1) * ((evn X.natAbs 1074 : Nat) : Int)
theorem evn_zero (n : Nat) : evn n 0 = n := by
  unfold evn
  rw [Nat.pow_zero, Nat.div_one, Nat.mod_one, if_neg (by omega), Nat.add_zero]
theorem int_cut (way : Toward) (f : Nat → Nat → Nat) (hf : ∀ neg n d, way.cut neg n d = f n d) (h0 : ∀ n, f n 0 = n) (hs : ∀ m a b, f (m * 2 ^ a) (b + a) = f m b) (m : Nat) (P : Int) (hP : -1074 ≤ P) (s : Bool) : way.cut s (m <<< P.toNat) (-P).toNat = f (m * 2 ^ (P + 1074).toNat) 1074 := by
  rw [hf, Nat.shiftLeft_eq]
  by_cases hc : 0 ≤ P
  · rw [show (-P).toNat = 0 by omega, show (P + 1074).toNat = P.toNat + 1074 by omega, Nat.pow_add, ← Nat.mul_assoc]
    have := hs (m * 2 ^ P.toNat) 1074 0
    rw [Nat.zero_add] at this
    rw [this]
  · have := hs m (P + 1074).toNat (-P).toNat
    rw [show (-P).toNat + (P + 1074).toNat = 1074 by omega] at this
    rw [this, show P.toNat = 0 by omega, Nat.pow_zero, Nat.mul_one]
theorem integral_V {b : Nat} {X : Int} {f : Nat → Nat → Nat} (way : Toward) (hf : ∀ neg n d, way.cut neg n d = f n d) (h0 : ∀ n, f n 0 = n) (hs : ∀ m a b, f (m * 2 ^ a) (b + a) = f m b) (h : V 1074 b X) (hb : f X.natAbs 1074 < 9007199254740992) :
    V 0 (D.write ((D.read b).integral way)) ((if X < 0 then -1 else 1) * ((f X.natAbs 1074 : Nat) : Int)) ∧ ∃ s m P, D.read b = .number s m P := by
  unfold V at h
  obtain ⟨s, m, P, e1, e2⟩ := h
  have b1 := read_bound e1
  refine ⟨?_, s, m, P, e1⟩
  rw [Nat.sub_self, Int.pow_zero, Int.mul_one] at e2
  have hN : X.natAbs = m * 2 ^ (P + 1074).toNat := by rw [← e2, signed_abs]
  rw [e1]
  show V 0 (D.write (.number s (way.cut s (m <<< P.toNat) (-P).toNat) 0)) _
  rw [int_cut way f hf h0 hs m P b1.2 s, ← hN]
  generalize hF : f X.natAbs 1074 = F at *
  by_cases hF0 : F = 0
  · subst hF0
    unfold V
    exact ⟨s, 0, -1074, write_read0 s 0, by rw [signed_eq]; cases s <;> simp⟩
  have hX0 : X ≠ 0 := by
    intro q
    rw [q] at hF
    have := hs 0 1074 0
    rw [Nat.zero_mul, Nat.zero_add, h0] at this
    have e : Int.natAbs 0 = 0 := rfl
    rw [e] at hF
    omega
  have hs' : s = decide (X < 0) := by
    rw [signed_eq] at e2
    have hpos : (0 : Int) ≤ (m : Int) * 2 ^ (P + 1074).toNat := Int.mul_nonneg (by omega) (Int.le_of_lt (Int.pow_pos (by decide)))
    cases s
    · simp at e2
      symm; rw [decide_eq_false_iff_not]; omega
    · simp only [if_true] at e2
      symm; rw [decide_eq_true_iff]; omega
  have hval : ((if X < 0 then -1 else 1) * (F : Int)).natAbs = F := by split <;> omega
  have := V_write (q := 0) (base := 0) (tot := (if X < 0 then -1 else 1) * (F : Int)) (w := s) (x := (if X < 0 then -1 else 1) * (F : Int)) (.inl (by rw [hs']; congr 1; split <;> simp <;> omega)) (.inr (by omega)) rfl (by split <;> omega) (by split <;> omega) (by omega)
  rw [hval] at this
  exact this
end Go.Fw

namespace Go.Fw
open Go Ieee
set_option exponentiation.threshold 2200
theorem pow_pos' (k : Nat) : (0 : Int) < 2 ^ k := Int.pow_pos (by decide)
end Go.Fw

namespace Go.Fw
open Go Ieee
set_option exponentiation.threshold 2200
/-- One, in the least units. -/
def U : Int := 2 ^ 1074
def H : Int := 2 ^ 1073
theorem U_pos : 0 < U := pow_pos' 1074
theorem H_pos : 0 < H := pow_pos' 1073
theorem U_H : U = 2 * H := by
  unfold U H
  rw [show (1074 : Nat) = 1073 + 1 by rfl, Int.pow_succ, Int.mul_comm]
theorem V0_U {b : Nat} {n : Int} (h : V 0 b n) : V 1074 b (n * U) := by
  have := V_all h (Nat.zero_le _)
  rw [Nat.sub_zero] at this
  unfold U
  exact this
end Go.Fw

namespace Go.Fw
open Go Ieee
set_option exponentiation.threshold 2200
theorem fl_uniq {n a W f : Int} (hW : 0 < W) (h0 : 0 ≤ f) (hf : f < W) (h1 : n * W ≤ a * W + f) (h2 : a * W + f < (n + 1) * W) : n = a := by
  rcases Int.lt_trichotomy n a with q | q | q
  · have := Int.mul_le_mul_of_nonneg_right (show n + 1 ≤ a by omega) (Int.le_of_lt hW); omega
  · exact q
  · have := Int.mul_le_mul_of_nonneg_right (show a + 1 ≤ n by omega) (Int.le_of_lt hW)
    rw [Int.add_mul, Int.one_mul] at this; omega
theorem U_nat : U = ((2 ^ 1074 : Nat) : Int) := by unfold U; rw [Int.natCast_pow]; rfl
theorem nrst_floor {Y n : Int} (h1 : n * U ≤ Y) (h2 : Y < (n + 1) * U) : nrst Y = if H < Y - n * U ∨ (Y - n * U = H ∧ n % 2 = 1) then n + 1 else n := by
  have hU := U_pos
  have hUH := U_H
  have hUn := U_nat
  unfold nrst evn
  have hdm := Nat.div_add_mod Y.natAbs (2 ^ 1074)
  have hml := Nat.mod_lt Y.natAbs (Nat.two_pow_pos 1074)
  generalize Y.natAbs % 2 ^ 1074 = f at *
  generalize Y.natAbs / 2 ^ 1074 = a at *
  generalize (2 : Nat) ^ 1074 = W at *
  have hdi : (a : Int) * U + f = (Y.natAbs : Int) := by
    rw [hUn, ← hdm]; push_cast; rw [Int.mul_comm]
  by_cases hY : Y < 0
  · rw [if_pos hY]
    by_cases hf : f = 0
    · have hn : n = -(a : Int) := by
        refine fl_uniq (f := 0) hU (by omega) hU ?_ ?_
        · rw [Int.neg_mul]; omega
        · rw [Int.neg_mul]; omega
      have hE : Y - n * U = 0 := by rw [hn, Int.neg_mul]; omega
      rw [hE, if_neg (by omega), if_neg (by omega), hn]; omega
    · have hn : n = -(a : Int) - 1 := by
        refine fl_uniq (f := U - f) hU (by omega) (by omega) ?_ ?_
        · rw [Int.sub_mul, Int.neg_mul]; omega
        · rw [Int.sub_mul, Int.neg_mul]; omega
      have hE : Y - n * U = U - f := by rw [hn, Int.sub_mul, Int.neg_mul]; omega
      rw [hE]
      split <;> split <;> omega
  · rw [if_neg hY]
    have hn : n = (a : Int) := by
      refine fl_uniq (f := f) hU (by omega) (by omega) ?_ ?_ <;> omega
    have hE : Y - n * U = f := by rw [hn]; omega
    rw [hE]
    split <;> split <;> omega
theorem read_abs (b : Nat) : D.read (b % 9223372036854775808) = match D.read b with | .number _ m P => .number false m P | .infinity _ => .infinity false | .nan _ f => .nan false f := by
  unfold Format.read
  rw [d_sw]
  have e1 : b % 9223372036854775808 / 9223372036854775808 % 2 = 0 := by omega
  have e2 : b % 9223372036854775808 % 9223372036854775808 = b % 9223372036854775808 := by omega
  simp only [e1, e2]
  split
  · rfl
  · split
    · rfl
    · split <;> rfl
theorem V_abs {b : Nat} {X : Int} (h : V 1074 b X) : V 1074 (b % 9223372036854775808) X.natAbs := by
  unfold V at h
  obtain ⟨s, m, P, e1, e2⟩ := h
  rw [Nat.sub_self, Int.pow_zero, Int.mul_one] at e2
  have := V_fin (b := b % 9223372036854775808) (s := false) (m := m) (P := P) (by rw [read_abs, e1])
  rw [← e2, signed_abs]
  rw [signed_eq, if_neg (by decide), Int.one_mul] at this
  rw [Int.natCast_mul, Int.natCast_pow]
  exact this
theorem wild_abs {b d : Nat} {z : Int} {q : Nat} (h : Wild b) (hd : V q d z) : (D.order (b % 9223372036854775808) d == some .lt || D.order (b % 9223372036854775808) d == some .eq) = false := by
  unfold V at hd
  obtain ⟨s2, m2, P2, e2, -⟩ := hd
  unfold Format.order
  rw [read_abs, e2]
  rcases h with ⟨s, h⟩ | ⟨s, f, h⟩
  · rw [h]; rfl
  · rw [h]; rfl
end Go.Fw

namespace Go.Fw
open Go Ieee
set_option exponentiation.threshold 2200
theorem V_leb {q a b : Nat} {x y : Int} (ha : V q a x) (hb : V q b y) : (D.order a b == some .lt || D.order a b == some .eq) = decide (x ≤ y) := by
  rw [V_ltb ha hb, V_eqb ha hb]
  by_cases h1 : x < y
  · rw [decide_eq_true h1, decide_eq_true (Int.le_of_lt h1)]; rfl
  · by_cases h2 : x = y
    · rw [decide_eq_false h1, decide_eq_true h2, decide_eq_true (show x ≤ y by omega)]; rfl
    · rw [decide_eq_false h1, decide_eq_false h2, decide_eq_false (show ¬ x ≤ y by omega)]; rfl
theorem V_gtb {q a b : Nat} {x y : Int} (ha : V q a x) (hb : V q b y) : (D.order a b == some .gt) = decide (y < x) := by
  rw [V_order ha hb]
  by_cases h : y < x
  · rw [decide_eq_true h, Int.compare_eq_gt.2 h]; rfl
  · rw [decide_eq_false h]
    have : compare x y ≠ .gt := fun q => h (Int.compare_eq_gt.1 q)
    cases hc : compare x y
    · rfl
    · rfl
    · exact absurd hc this
theorem V_geb {q a b : Nat} {x y : Int} (ha : V q a x) (hb : V q b y) : (D.order a b == some .gt || D.order a b == some .eq) = decide (y ≤ x) := by
  rw [V_gtb ha hb, V_eqb ha hb]
  by_cases h1 : y < x
  · rw [decide_eq_true h1, decide_eq_true (Int.le_of_lt h1)]; rfl
  · by_cases h2 : x = y
    · rw [decide_eq_false h1, decide_eq_true h2, decide_eq_true (show y ≤ x by omega)]; rfl
    · rw [decide_eq_false h1, decide_eq_false h2, decide_eq_false (show ¬ y ≤ x by omega)]; rfl
theorem V_cP : V 1074 4652218415073722368 (1024 * U) := V0_U (V_lit (q := 0) (s := false) (m := 4503599627370496) (i := -42) (by decide) (by decide) (by decide))
theorem V_cM : V 1074 13875590451928498176 ((-1024) * U) := V0_U (V_lit (q := 0) (s := true) (m := 4503599627370496) (i := -42) (by decide) (by decide) (by decide))
structure InE (b : Nat) (X : Int) : Prop where
  v : V 1074 b X
  lo : (-1024) * U ≤ X
  hi : X ≤ 1024 * U
structure OutE (b : Nat) : Prop where
  two : ((D.order b 13875590451928498176 == some .gt || D.order b 13875590451928498176 == some .eq) && (D.order b 4652218415073722368 == some .lt || D.order b 4652218415073722368 == some .eq)) = false
  abs : (D.order (b % 9223372036854775808) 4652218415073722368 == some .lt || D.order (b % 9223372036854775808) 4652218415073722368 == some .eq) = false
theorem in_or (b : Nat) : (∃ X, InE b X) ∨ OutE b := by
  have hU := U_pos
  rcases fin_or b with ⟨X, h⟩ | h
  · by_cases h1 : (-1024) * U ≤ X
    · by_cases h2 : X ≤ 1024 * U
      · exact .inl ⟨X, h, h1, h2⟩
      · refine .inr ⟨?_, ?_⟩
        · rw [V_geb h V_cM, V_leb h V_cP, decide_eq_false h2, Bool.and_false]
        · rw [V_leb (V_abs h) V_cP]; exact decide_eq_false (by omega)
    · refine .inr ⟨?_, ?_⟩
      · rw [V_geb h V_cM, decide_eq_false h1, Bool.false_and]
      · rw [V_leb (V_abs h) V_cP]; exact decide_eq_false (by omega)
  · exact .inr ⟨wild_out h V_cM V_cP, wild_abs h V_cP⟩
theorem InE.le {b : Nat} {X : Int} (h : InE b X) : (D.order b 4652218415073722368 == some .lt || D.order b 4652218415073722368 == some .eq) = true := by rw [V_leb h.v V_cP]; exact decide_eq_true h.hi
theorem InE.ab {b : Nat} {X : Int} (h : InE b X) : (D.order (b % 9223372036854775808) 4652218415073722368 == some .lt || D.order (b % 9223372036854775808) 4652218415073722368 == some .eq) = true := by
  have h1 := h.lo
  have h2 := h.hi
  rw [V_leb (V_abs h.v) V_cP]; exact decide_eq_true (by omega)
theorem InE.natAbs_lt {b : Nat} {X : Int} (h : InE b X) : X.natAbs < 2 ^ 1085 := by
  have h1 := h.lo
  have h2 := h.hi
  have hUn := U_nat
  have e : (2 : Nat) ^ 1085 = 2048 * 2 ^ 1074 := by rw [show (1085 : Nat) = 11 + 1074 by rfl, Nat.pow_add]
  have hp := Nat.two_pow_pos 1074
  rw [e]
  generalize (2 : Nat) ^ 1074 = W at *
  omega
theorem InE.mul {b : Nat} {X : Int} (h : InE b X) : ∃ y, D.mul b 4661225614328463360 = some y ∧ V 1074 y (X * 4096) := by
  have hn := h.natAbs_lt
  obtain ⟨r, k1, k2⟩ := V_scale (j := 12) h.v (c := 4661225614328463360) (by decide) (Nat.lt_of_lt_of_le hn (Nat.pow_le_pow_right (by decide) (by decide))) (by decide)
  exact ⟨r, k1, k2⟩
end Go.Fw

namespace Go.Fw
open Go Ieee
set_option exponentiation.threshold 2200
theorem tdiv_nat (Y : Int) : (if Y < 0 then -1 else 1) * ((Y.natAbs / 2 ^ 1074 : Nat) : Int) = Y.tdiv U := by
  have hUn := U_nat
  rw [hUn]
  generalize (2 : Nat) ^ 1074 = W
  by_cases h : Y < 0
  · rw [if_pos h]
    obtain ⟨k, rfl⟩ : ∃ k : Nat, Y = -(k : Int) := ⟨Y.natAbs, by omega⟩
    rw [Int.neg_tdiv, Int.natAbs_neg, Int.natAbs_natCast, Int.neg_one_mul]; rfl
  · rw [if_neg h]
    obtain ⟨k, rfl⟩ : ∃ k : Nat, Y = (k : Int) := ⟨Y.natAbs, by omega⟩
    rw [Int.natAbs_natCast, Int.one_mul]; rfl
theorem U_pow : U = 2 ^ 1074 := by unfold U; rfl
structure Pk (b : Nat) (X : Int) (y : Nat) (t : Int) : Prop where
  mul : floatBits .mul .f64 b 4661225614328463360 = some y
  v : V 1074 y (X * 4096)
  tt : t = (X * 4096).tdiv U
  lo : -4194304 ≤ t
  hi : t ≤ 4194304
  c64 : floatToIntVal .f64 y .i64 = some t
  c32 : floatToIntVal .f64 y .i32 = some t
  num : ∃ s m P, D.read y = .number s m P
  tr : V 0 (D.write ((D.read y).integral .zero)) t
  ev : V 0 (D.write ((D.read y).integral .even)) (nrst (X * 4096))
  nr : -4194305 ≤ nrst (X * 4096) ∧ nrst (X * 4096) ≤ 4194305
  big : (X * 4096).natAbs < 2 ^ 2097
theorem InE.pk {b : Nat} {X : Int} (h : InE b X) : ∃ y t, Pk b X y t := by
  have hU := U_pos
  obtain ⟨y, k1, k2⟩ := h.mul
  have l1 := h.lo
  have l2 := h.hi
  have hna := h.natAbs_lt
  have hY1 : (-4194304) * U ≤ X * 4096 := by omega
  have hY2 : X * 4096 ≤ 4194304 * U := by omega
  have hbig : (X * 4096).natAbs < 2 ^ 2097 := by
    have e : (2 : Nat) ^ 1097 = 2 ^ 1085 * 4096 := by rw [show (1097 : Nat) = 1085 + 12 by rfl, Nat.pow_add]
    have e2 : (2 : Nat) ^ 1097 ≤ 2 ^ 2097 := Nat.pow_le_pow_right (by decide) (by decide)
    generalize (2 : Nat) ^ 1097 = A at *
    generalize (2 : Nat) ^ 2097 = B at *
    generalize (2 : Nat) ^ 1085 = C at *
    omega
  generalize hYd : X * 4096 = Y at *
  have d1 : U * Y.tdiv U + Y.tmod U = Y := Int.mul_tdiv_add_tmod Y U
  have d2 : Y.tmod U < U := Int.tmod_lt_of_pos Y hU
  have d3 : -U < Y.tmod U := by
    have h4 := Int.tmod_lt_of_pos (-Y) hU
    rw [Int.neg_tmod] at h4
    omega
  have hq : (Y.natAbs / 2 ^ 1074 : Nat) ≤ 4194304 := by
    have hUn := U_nat
    have hp := Nat.two_pow_pos 1074
    generalize (2 : Nat) ^ 1074 = W at *
    apply Nat.le_of_lt_succ
    rw [Nat.div_lt_iff_lt_mul hp]
    omega
  have ht : -4194304 ≤ Y.tdiv U ∧ Y.tdiv U ≤ 4194304 := by
    rw [← tdiv_nat]
    generalize Y.natAbs / 2 ^ 1074 = k at *
    split <;> omega
  have hev : evn Y.natAbs 1074 ≤ 4194305 := by
    unfold evn
    generalize Y.natAbs / 2 ^ 1074 = k at *
    split <;> omega
  have T := integral_V (f := fun n d => n / 2 ^ d) .zero (fun _ _ _ => zcut _ _ _) (fun n => by rw [Nat.pow_zero, Nat.div_one]) (fun m a b => by rw [Nat.pow_add, Nat.mul_div_mul_right _ _ (Nat.two_pow_pos a)]) k2 (Nat.lt_of_le_of_lt hq (by decide))
  have E := integral_V (f := evn) .even (fun _ _ _ => ecut _ _ _) evn_zero evn_shift k2 (Nat.lt_of_le_of_lt hev (by decide))
  rw [tdiv_nat] at T
  have c (k : IntKind) (m1 : k.min ≤ -4194304) (m2 : 4194304 ≤ k.max) : floatToIntVal .f64 y k = some (Y.tdiv U) := by
    have := V_conv k2 k (by rw [← U_pow]; omega) (by rw [← U_pow]; omega)
    rw [← U_pow] at this
    exact this
  have hnr : -4194305 ≤ nrst Y ∧ nrst Y ≤ 4194305 := by unfold nrst; split <;> omega
  refine ⟨y, Y.tdiv U, ?_⟩
  subst hYd
  exact ⟨k1, k2, rfl, ht.1, ht.2, c .i64 (by decide) (by decide), c .i32 (by decide) (by decide), T.2, T.1, E.1, hnr, hbig⟩
end Go.Fw

namespace Go.Fw
open Go Ieee
set_option exponentiation.threshold 2200
theorem add0 {w : Nat} {N : Int} (hw : V 12 w N) (b1 : -9007199254740992 < N) (b2 : N < 9007199254740992) : ∃ r, floatBits .add .f64 w 0 = some r ∧ V 12 r N ∧ r ≠ 9223372036854775808 := by
  obtain ⟨r, k1, k2⟩ := V_add hw (V_zero 12 (by omega)) (by omega) (by omega) (by omega)
  rw [Int.add_zero] at k2
  refine ⟨r, k1, k2, fun hr => ?_⟩
  subst hr
  have hz : V 12 9223372036854775808 0 := by
    unfold V
    exact ⟨true, 0, -1074, by decide, by rw [Int.zero_mul, signed_eq]; simp⟩
  have hN := V_inj k2 hz
  subst hN
  unfold V at hw
  obtain ⟨s, m, i, e1, e2⟩ := hw
  rw [Int.zero_mul] at e2
  have hm : m = 0 := by
    have := congrArg Int.natAbs e2
    rw [signed_abs] at this
    exact (Nat.mul_eq_zero.1 this).resolve_right (by have := Nat.two_pow_pos ((i + 1074).toNat); omega)
  subst hm
  unfold Format.add at k1
  rw [e1, show D.read 0 = .number false 0 (-1074) by decide] at k1
  have hs : ∀ (x : Bool) (a : Nat), signed x 0 a = 0 := fun x a => by rw [signed_eq]; cases x <;> simp
  simp only [Datum.sum, Option.map_some, hs, Int.add_zero, if_true, Bool.and_false, Int.natAbs_zero] at k1
  have hw0 : D.write (.number false 0 (min i (-1074))) = 0 := by
    show D.nearest false 0 _ = 0
    unfold Format.nearest
    rw [if_pos rfl]; decide
  rw [hw0] at k1
  cases k1
end Go.Fw

namespace Go.Fw
open Go Ieee
set_option exponentiation.threshold 2200
theorem sum_lt {a b r : Nat} (h : floatBits .add .f64 a b = some r) : r < 18446744073709551616 := Format.add_lt D h
end Go.Fw

namespace Go.Fw
open Go Ieee
set_option exponentiation.threshold 2200
theorem U_HH : U = H * 2 := by unfold U H; rw [show (1074 : Nat) = 1073 + 1 from rfl, Int.pow_succ]
theorem flo (Y : Int) : ∃ n, n * U ≤ Y ∧ Y < (n + 1) * U := ⟨Y / U, Int.ediv_mul_le Y (by have := U_pos; omega), Int.lt_ediv_add_one_mul_self Y U_pos⟩
theorem nrst_near (Y : Int) : nrst Y * U - Y ≤ H ∧ Y - nrst Y * U ≤ H := by
  obtain ⟨n, h1, h2⟩ := flo Y
  have hu := U_HH
  have hH := H_pos
  rw [nrst_floor h1 h2]
  rw [Int.add_mul, Int.one_mul] at h2
  split
  · rename_i c
    rw [Int.add_mul, Int.one_mul]
    rcases c with c | c <;> omega
  · rename_i c
    have : ¬ H < Y - n * U := fun q => c (.inl q)
    omega
end Go.Fw

namespace Go.Fw
open Go Ieee
set_option exponentiation.threshold 2200
theorem read_inf (neg : Bool) : D.read (D.word neg 9218868437227405312) = .infinity neg := by cases neg <;> decide
/-- What is written of a number is finite or infinite; and not below a power of two that the number reaches. -/
theorem write_ge (neg : Bool) (T : Nat) (base : Int) (hT : 0 < T) (hb : -1074 ≤ base) :
    D.read (D.write (.number neg T base)) = .infinity neg ∨ ∃ M P, D.read (D.write (.number neg T base)) = .number neg M P ∧ -1074 ≤ P ∧ ((2 : Nat) ^ 1061 ≤ T * 2 ^ (base + 1074).toNat → 2 ^ 1061 ≤ M * 2 ^ (P + 1074).toNat) := by
  have hl1 : 2 ^ T.log2 ≤ T := Nat.log2_self_le (by omega)
  have hl2 : T < 2 ^ (T.log2 + 1) := Nat.lt_log2_self
  have hlge : -1074 ≤ lst T base := by unfold lst; omega
  obtain ⟨K, hK⟩ : ∃ K, K = Toward.even.cut neg (T <<< (base - lst T base).toNat) (lst T base - base).toNat := ⟨_, rfl⟩
  have hw : D.write (.number neg T base) = D.word neg (min ((lst T base + 1074).toNat * 4503599627370496 + K) 9218868437227405312) := by
    show D.nearest neg T base = _
    unfold Format.nearest
    rw [if_neg (by omega), d_least, d_bin, d_inf]
    subst hK
    show D.word neg (min ((lst T base - -1074).toNat * 4503599627370496 + Toward.even.cut neg (T <<< (base - lst T base).toNat) (lst T base - base).toNat) 9218868437227405312) = _
    rw [show lst T base - -1074 = lst T base + 1074 by omega]
  have hbK : (2 : Nat) ^ 1061 ≤ T * 2 ^ (base + 1074).toNat → 1061 ≤ T.log2 + (base + 1074).toNat ∧ lst T base = base + T.log2 - 52 ∧ 4503599627370496 ≤ K := by
    intro hbig
    have h1 : 1061 ≤ T.log2 + (base + 1074).toNat := by
      refine Classical.byContradiction fun q => ?_
      have a1 : T * 2 ^ (base + 1074).toNat < 2 ^ (T.log2 + 1) * 2 ^ (base + 1074).toNat := Nat.mul_lt_mul_of_pos_right hl2 (Nat.two_pow_pos _)
      rw [← Nat.pow_add] at a1
      have a2 : (2 : Nat) ^ (T.log2 + 1 + (base + 1074).toNat) ≤ 2 ^ 1061 := Nat.pow_le_pow_right (by decide) (by omega)
      exact absurd (Nat.lt_of_lt_of_le a1 a2) (Nat.not_lt.2 hbig)
    have h2 : lst T base = base + T.log2 - 52 := by unfold lst; omega
    refine ⟨h1, h2, ?_⟩
    rw [hK, h2]
    have h52 : (2 : Nat) ^ 52 = 4503599627370496 := by decide
    by_cases hL : T.log2 ≤ 52
    · rw [show (base + (T.log2 : Int) - 52 - base).toNat = 0 by omega, cut_zero, show (base - (base + (T.log2 : Int) - 52)).toNat = 52 - T.log2 by omega, Nat.shiftLeft_eq]
      have a1 : 2 ^ T.log2 * 2 ^ (52 - T.log2) ≤ T * 2 ^ (52 - T.log2) := Nat.mul_le_mul_right _ hl1
      rw [← Nat.pow_add, show T.log2 + (52 - T.log2) = 52 by omega, h52] at a1
      exact a1
    · rw [show (base - (base + (T.log2 : Int) - 52)).toNat = 0 by omega, Nat.shiftLeft_zero, ecut, show (base + (T.log2 : Int) - 52 - base).toNat = T.log2 - 52 by omega]
      unfold evn
      have a1 : 4503599627370496 ≤ T / 2 ^ (T.log2 - 52) := by
        rw [Nat.le_div_iff_mul_le (Nat.two_pow_pos _), ← h52, ← Nat.pow_add, show 52 + (T.log2 - 52) = T.log2 by omega]
        exact hl1
      exact Nat.le_trans a1 (Nat.le_add_right _ _)
  clear hK
  rw [hw]
  by_cases hinf : 9218868437227405312 ≤ (lst T base + 1074).toNat * 4503599627370496 + K
  · left
    rw [Nat.min_eq_right hinf, read_inf]
  · right
    rw [Nat.min_eq_left (by omega)]
    have hr := read_word neg ((lst T base + 1074).toNat * 4503599627370496 + K) (by omega)
    by_cases hs : (lst T base + 1074).toNat * 4503599627370496 + K < 4503599627370496
    · rw [if_pos hs] at hr
      refine ⟨_, _, hr, Int.le_refl _, fun hbig => ?_⟩
      obtain ⟨h1, h2, h3⟩ := hbK hbig
      omega
    · rw [if_neg hs] at hr
      refine ⟨_, _, hr, by omega, fun hbig => ?_⟩
      obtain ⟨h1, h2, h3⟩ := hbK hbig
      rw [h2] at hs ⊢
      have hq : T.log2 + (base + 1074).toNat - 52 ≤ ((base + (T.log2 : Int) - 52 + 1074).toNat * 4503599627370496 + K) / 4503599627370496 - 1 := by omega
      have h52 : (2 : Nat) ^ 52 = 4503599627370496 := by decide
      obtain ⟨q, hq'⟩ : ∃ q, q = ((base + (T.log2 : Int) - 52 + 1074).toNat * 4503599627370496 + K) / 4503599627370496 - 1 := ⟨_, rfl⟩
      rw [← hq'] at hq ⊢
      rw [show (-1074 + (q : Int) + 1074).toNat = q by omega]
      have e1 : (2 : Nat) ^ 1061 ≤ 2 ^ (52 + q) := Nat.pow_le_pow_right (by decide) (by omega)
      rw [Nat.pow_add] at e1
      refine Nat.le_trans e1 (Nat.mul_le_mul_right _ ?_)
      rw [h52]
      exact Nat.le_add_right _ _
theorem neg_place {b : Nat} {s : Bool} {m : Nat} {P : Int} (h : D.read b = .number s m P) : (D.read b).opposite = .number (!s) m P := by rw [h]; rfl
/-- A sum or difference of finite numbers, as it is written. -/
theorem sum_write {a b : Nat} {s t : Bool} {m n : Nat} {i j : Int} (h1 : D.read a = .number s m i) (h2 : D.read b = .number t n j) :
    ∃ w : Bool, ∃ T : Int, ∃ base : Int, -1074 ≤ base ∧ (w = decide (T < 0) ∨ T = 0) ∧ D.add a b = some (D.write (.number w T.natAbs base)) ∧ T * 2 ^ (base + 1074).toNat = signed s m (i + 1074).toNat + signed t n (j + 1074).toNat := by
  have b1 := read_bound h1
  have b2 := read_bound h2
  unfold Format.add
  rw [h1, h2]
  simp only [Datum.sum, Option.map_some]
  refine ⟨_, _, _, ?_, ?_, rfl, ?_⟩
  · omega
  · by_cases h : signed s m (i - min i j).toNat + signed t n (j - min i j).toNat = 0
    · exact .inr h
    · left; rw [if_neg h]
  · rw [Int.add_mul, signed_shift, signed_shift, show (i - min i j).toNat + (min i j + 1074).toNat = (i + 1074).toNat by omega, show (j - min i j).toNat + (min i j + 1074).toNat = (j + 1074).toNat by omega]
theorem dif_write {a b : Nat} {s t : Bool} {m n : Nat} {i j : Int} (h1 : D.read a = .number s m i) (h2 : D.read b = .number t n j) :
    ∃ w : Bool, ∃ T : Int, ∃ base : Int, -1074 ≤ base ∧ (w = decide (T < 0) ∨ T = 0) ∧ D.sub a b = some (D.write (.number w T.natAbs base)) ∧ T * 2 ^ (base + 1074).toNat = signed s m (i + 1074).toNat - signed t n (j + 1074).toNat := by
  have b1 := read_bound h1
  have b2 := read_bound h2
  unfold Format.sub
  rw [h1, neg_place h2]
  simp only [Datum.sum, Option.map_some]
  refine ⟨_, _, _, ?_, ?_, rfl, ?_⟩
  · omega
  · by_cases h : signed s m (i - min i j).toNat + signed (!t) n (j - min i j).toNat = 0
    · exact .inr h
    · left; rw [if_neg h]
  · rw [Int.add_mul, signed_shift, signed_shift, show (i - min i j).toNat + (min i j + 1074).toNat = (i + 1074).toNat by omega, show (j - min i j).toNat + (min i j + 1074).toNat = (j + 1074).toNat by omega]
    have : signed (!t) n (j + 1074).toNat = - signed t n (j + 1074).toNat := by rw [signed_eq, signed_eq]; cases t <;> simp
    rw [this]; omega
theorem wr_two (w : Bool) (T : Nat) (base : Int) (hb : -1074 ≤ base) : D.read (D.write (.number w T base)) = .infinity w ∨ ∃ M P, D.read (D.write (.number w T base)) = .number w M P := by
  rcases Nat.eq_zero_or_pos T with h | h
  · subst h; exact .inr ⟨_, _, write_read0 w base⟩
  · rcases write_ge w T base h hb with q | ⟨M, P, q, _⟩
    · exact .inl q
    · exact .inr ⟨M, P, q⟩
/-- Less a number: if that is a number below 2^-13, then the difference was. -/
theorem dif_small {r g v d : Nat} {S G X : Int} (hr : V 1074 r S) (hg : V 1074 g G) (hv : V 1074 v X) (hX : X.natAbs < 2 ^ 1061) (hd : D.sub r g = some d) (he : (D.order d v == some .eq) = true) : (S - G).natAbs < 2 ^ 1061 := by
  have hv0 := hv
  unfold V at hr hg hv
  obtain ⟨s, m, i, e1, e2⟩ := hr
  obtain ⟨t, n, j, e3, e4⟩ := hg
  obtain ⟨z, k, l, e5, e6⟩ := hv
  rw [Nat.sub_self, Int.pow_zero, Int.mul_one] at e2 e4
  obtain ⟨w, T, base, hb, _, h1, h2⟩ := dif_write e1 e3
  rw [h1] at hd
  cases hd
  rw [e2, e4] at h2
  refine Classical.byContradiction fun q => ?_
  have hbig : 2 ^ 1061 ≤ T.natAbs * 2 ^ (base + 1074).toNat := by
    have := congrArg Int.natAbs h2
    rw [Int.natAbs_mul, Int.natAbs_pow] at this
    have a5 : ((2 : Int).natAbs) ^ (base + 1074).toNat = 2 ^ (base + 1074).toNat := rfl
    rw [a5] at this
    rw [this]; exact Nat.not_lt.1 q
  have hT : 0 < T.natAbs := by
    rcases Nat.eq_zero_or_pos T.natAbs with h | h
    · rw [h, Nat.zero_mul] at hbig
      exact absurd hbig (by have := Nat.two_pow_pos 1061; omega)
    · exact h
  rcases write_ge w T.natAbs base hT hb with c | ⟨M, P, c, _, c2⟩
  · have : (D.order (D.write (.number w T.natAbs base)) v == some .eq) = false := by
      unfold Format.order
      rw [c, e5]
      cases w <;> rfl
    rw [this] at he; cases he
  · have c3 := c2 hbig
    rw [V_eqb (V_fin c) hv0] at he
    have c4 := of_decide_eq_true he
    rw [← c4, signed_abs] at hX
    exact absurd hX (Nat.not_lt.2 c3)
theorem inf_dif {r g v : Nat} {w : Bool} {G X : Int} (hr : D.read r = .infinity w) (hg : V 1074 g G) (hv : V 1074 v X) : ∃ d, D.sub r g = some d ∧ (D.order d v == some .eq) = false := by
  unfold V at hg hv
  obtain ⟨t, n, j, e3, e4⟩ := hg
  obtain ⟨z, k, l, e5, e6⟩ := hv
  have h1 : D.sub r g = some (D.write (.infinity w)) := by
    unfold Format.sub
    rw [hr, neg_place e3]
    rfl
  refine ⟨_, h1, ?_⟩
  have h2 : D.read (D.write (.infinity w)) = .infinity w := by cases w <;> decide
  unfold Format.order
  rw [h2, e5]
  cases w <;> rfl
theorem nrst_at {Y N : Int} (h1 : Y - N * U < H) (h2 : N * U - Y < H) : nrst Y = N := by
  have hu := U_HH
  have hH := H_pos
  obtain ⟨a, b⟩ := nrst_near Y
  rcases Int.lt_trichotomy (nrst Y) N with q | q | q
  · exfalso
    have : (nrst Y + 1) * U ≤ N * U := Int.mul_le_mul_of_nonneg_right (by omega) (by omega)
    rw [Int.add_mul, Int.one_mul] at this
    omega
  · exact q
  · exfalso
    have : (N + 1) * U ≤ nrst Y * U := Int.mul_le_mul_of_nonneg_right (by omega) (by omega)
    rw [Int.add_mul, Int.one_mul] at this
    omega
end Go.Fw

namespace Go.Fw
open Go
/-- A table of numbers in a package's variable, as its cells. -/
theorem tab_of_trod {H : Type} {enc : TypeId × Value → H} {P : Program} {w : World} {base : Nat} {spare : Nat → Bool} {held : Bool} {fuel : Nat} {t e : TypeId} {k : IntKind} {n : Nat} {cs : List Value} {l : List Int} {q : List MemPlace}
    (ht : P.underlying t = some (.array n e)) (he : P.underlying e = some (.int k)) (hc : P.cellsOf e = 1) (h : DataW.trod enc P w base spare held fuel t cs = some ((DataW.agg (l.map fun i => DataW.lit (Lit.int k i)), q) : DataW H × List MemPlace)) :
    ∀ (i : Nat) (c : Int), l[i]? = some c → cs[i]? = some (Value.int k c) := by
  obtain ⟨xs, m, _, hx, _, hn, hel⟩ := DataW.trod_array ht h
  simp only [Prod.mk.injEq, DataW.agg.injEq] at hx
  intro i c hi
  have hxl : xs.length = l.length := by
    have := congrArg List.length hx.1
    simpa using this.symm
  have hil : i < l.length := (List.getElem?_eq_some_iff.1 hi).1
  have h0 := hel i (by omega)
  rw [hc, Nat.mul_one, List.getElem?_eq_getElem (by omega : i < xs.length)] at h0
  obtain ⟨v, e1, e2, _⟩ := DataW.trod_int he h0
  have e3 : (xs.map (·.1))[i]? = some (DataW.lit (Lit.int k c)) := by rw [← hx.1, List.getElem?_map, hi]; rfl
  rw [List.getElem?_map, List.getElem?_eq_getElem (by omega : i < xs.length)] at e3
  simp only [Option.map_some, Option.some.injEq] at e3
  rw [e2] at e3
  simp only [DataW.lit.injEq, Lit.int.injEq, true_and] at e3
  subst e3
  have := congrArg (fun z => z[0]?) e1
  simp only [List.getElem?_take, List.getElem?_drop] at this
  simpa using this
end Go.Fw

set_option linter.unusedVariables false
set_option linter.unusedSimpArgs false
namespace Go.Proofs.YtanogghfdamdcaaDoor
open Go Go.Fw
def tyL : List (Nat × TyI) := [
  (1, ⟨.func, 1, 8, .nilFunc⟩),
  (2, ⟨.int .i64, 1, 8, .int .i64 0⟩),
  (3, ⟨.int .i64, 1, 8, .int .i64 0⟩),
  (4, ⟨.bool, 1, 1, .bool false⟩),
  (5, ⟨.int .u8, 1, 1, .int .u8 0⟩),
  (9, ⟨.str, 1, 16, .string (ByteArray.mk #[])⟩),
  (12, ⟨.int .u64, 1, 8, .int .u64 0⟩),
  (21, ⟨.int .i32, 1, 4, .int .i32 0⟩),
  (22, ⟨.slice 28, 1, 24, .slice none 0 0⟩),
  (23, ⟨.struct [(0, 3), (1, 3)], 2, 16, .agg #[.int .i64 0, .int .i64 0]⟩),
  (24, ⟨.struct [(0, 3), (1, 3)], 2, 16, .agg #[.int .i64 0, .int .i64 0]⟩),
  (25, ⟨.slice 26, 1, 24, .slice none 0 0⟩),
  (26, ⟨.float .f64, 1, 8, .float .f64 0⟩),
  (27, ⟨.func, 1, 8, .nilFunc⟩),
  (28, ⟨.int .u64, 1, 8, .int .u64 0⟩),
  (29, ⟨.int .i64, 1, 8, .int .i64 0⟩),
  (31, ⟨.func, 1, 8, .nilFunc⟩),
  (32, ⟨.struct [(0, 3), (1, 3)], 2, 16, .agg #[.int .i64 0, .int .i64 0]⟩),
  (34, ⟨.func, 1, 8, .nilFunc⟩),
  (35, ⟨.func, 1, 8, .nilFunc⟩),
  (36, ⟨.func, 1, 8, .nilFunc⟩),
  (37, ⟨.func, 1, 8, .nilFunc⟩),
  (38, ⟨.func, 1, 8, .nilFunc⟩),
  (39, ⟨.func, 1, 8, .nilFunc⟩),
  (40, ⟨.func, 1, 8, .nilFunc⟩),
  (41, ⟨.func, 1, 8, .nilFunc⟩),
  (42, ⟨.func, 1, 8, .nilFunc⟩),
  (43, ⟨.func, 1, 8, .nilFunc⟩),
  (44, ⟨.func, 1, 8, .nilFunc⟩),
  (46, ⟨.func, 1, 8, .nilFunc⟩),
  (48, ⟨.func, 1, 8, .nilFunc⟩),
  (49, ⟨.func, 1, 8, .nilFunc⟩),
  (50, ⟨.func, 1, 8, .nilFunc⟩),
  (51, ⟨.func, 1, 8, .nilFunc⟩),
  (52, ⟨.func, 1, 8, .nilFunc⟩),
  (54, ⟨.func, 1, 8, .nilFunc⟩),
  (56, ⟨.func, 1, 8, .nilFunc⟩),
  (57, ⟨.func, 1, 8, .nilFunc⟩),
  (58, ⟨.func, 1, 8, .nilFunc⟩),
  (59, ⟨.slice 2, 1, 24, .slice none 0 0⟩),
  (60, ⟨.func, 1, 8, .nilFunc⟩),
  (61, ⟨.func, 1, 8, .nilFunc⟩),
  (62, ⟨.func, 1, 8, .nilFunc⟩),
  (63, ⟨.func, 1, 8, .nilFunc⟩),
  (64, ⟨.func, 1, 8, .nilFunc⟩),
  (65, ⟨.func, 1, 8, .nilFunc⟩),
  (66, ⟨.func, 1, 8, .nilFunc⟩),
  (67, ⟨.func, 1, 8, .nilFunc⟩),
  (68, ⟨.func, 1, 8, .nilFunc⟩),
  (69, ⟨.int .u64, 1, 8, .int .u64 0⟩),
  (70, ⟨.func, 1, 8, .nilFunc⟩),
  (71, ⟨.func, 1, 8, .nilFunc⟩),
  (72, ⟨.func, 1, 8, .nilFunc⟩),
  (73, ⟨.func, 1, 8, .nilFunc⟩),
  (74, ⟨.func, 1, 8, .nilFunc⟩),
  (75, ⟨.func, 1, 8, .nilFunc⟩),
  (76, ⟨.int .u32, 1, 4, .int .u32 0⟩),
  (77, ⟨.array 64 5, 64, 64, .agg ⟨List.replicate 64 (.int .u8 0)⟩⟩),
  (78, ⟨.func, 1, 8, .nilFunc⟩),
  (79, ⟨.func, 1, 8, .nilFunc⟩),
  (85, ⟨.func, 1, 8, .nilFunc⟩),
  (88, ⟨.func, 1, 8, .nilFunc⟩),
  (89, ⟨.ptr 5, 1, 8, .pointer none⟩)]
theorem tokL : TOk Tryd.prog tyL := tokl_of ⟨⟨by kernel_rfl, by kernel_rfl⟩, ⟨by kernel_rfl, by kernel_rfl⟩, ⟨by kernel_rfl, by kernel_rfl⟩, ⟨by kernel_rfl, by kernel_rfl⟩, ⟨by kernel_rfl, by kernel_rfl⟩, ⟨by kernel_rfl, by kernel_rfl⟩, ⟨by kernel_rfl, by kernel_rfl⟩, ⟨by kernel_rfl, by kernel_rfl⟩, ⟨by kernel_rfl, by kernel_rfl⟩, ⟨by kernel_rfl, by kernel_rfl⟩, ⟨by kernel_rfl, by kernel_rfl⟩, ⟨by kernel_rfl, by kernel_rfl⟩, ⟨by kernel_rfl, by kernel_rfl⟩, ⟨by kernel_rfl, by kernel_rfl⟩, ⟨by kernel_rfl, by kernel_rfl⟩, ⟨by kernel_rfl, by kernel_rfl⟩, ⟨by kernel_rfl, by kernel_rfl⟩, ⟨by kernel_rfl, by kernel_rfl⟩, ⟨by kernel_rfl, by kernel_rfl⟩, ⟨by kernel_rfl, by kernel_rfl⟩, ⟨by kernel_rfl, by kernel_rfl⟩, ⟨by kernel_rfl, by kernel_rfl⟩, ⟨by kernel_rfl, by kernel_rfl⟩, ⟨by kernel_rfl, by kernel_rfl⟩, ⟨by kernel_rfl, by kernel_rfl⟩, ⟨by kernel_rfl, by kernel_rfl⟩, ⟨by kernel_rfl, by kernel_rfl⟩, ⟨by kernel_rfl, by kernel_rfl⟩, ⟨by kernel_rfl, by kernel_rfl⟩, ⟨by kernel_rfl, by kernel_rfl⟩, ⟨by kernel_rfl, by kernel_rfl⟩, ⟨by kernel_rfl, by kernel_rfl⟩, ⟨by kernel_rfl, by kernel_rfl⟩, ⟨by kernel_rfl, by kernel_rfl⟩, ⟨by kernel_rfl, by kernel_rfl⟩, ⟨by kernel_rfl, by kernel_rfl⟩, ⟨by kernel_rfl, by kernel_rfl⟩, ⟨by kernel_rfl, by kernel_rfl⟩, ⟨by kernel_rfl, by kernel_rfl⟩, ⟨by kernel_rfl, by kernel_rfl⟩, ⟨by kernel_rfl, by kernel_rfl⟩, ⟨by kernel_rfl, by kernel_rfl⟩, ⟨by kernel_rfl, by kernel_rfl⟩, ⟨by kernel_rfl, by kernel_rfl⟩, ⟨by kernel_rfl, by kernel_rfl⟩, ⟨by kernel_rfl, by kernel_rfl⟩, ⟨by kernel_rfl, by kernel_rfl⟩, ⟨by kernel_rfl, by kernel_rfl⟩, ⟨by kernel_rfl, by kernel_rfl⟩, ⟨by kernel_rfl, by kernel_rfl⟩, ⟨by kernel_rfl, by kernel_rfl⟩, ⟨by kernel_rfl, by kernel_rfl⟩, ⟨by kernel_rfl, by kernel_rfl⟩, ⟨by kernel_rfl, by kernel_rfl⟩, ⟨by kernel_rfl, by kernel_rfl⟩, ⟨by kernel_rfl, by kernel_rfl⟩, ⟨by kernel_rfl, by kernel_rfl⟩, ⟨by kernel_rfl, by kernel_rfl⟩, ⟨by kernel_rfl, by kernel_rfl⟩, ⟨by kernel_rfl, by kernel_rfl⟩, ⟨by kernel_rfl, by kernel_rfl⟩, ⟨by kernel_rfl, by kernel_rfl⟩, ⟨by kernel_rfl, by kernel_rfl⟩, True.intro⟩
theorem mixedL : Tryd.prog.follows .mixedOrders = true := by kernel_rfl
theorem i64max : IntKind.i64.max = 9223372036854775807 := rfl
theorem u8max : IntKind.u8.max = 255 := rfl
theorem u16max : IntKind.u16.max = 65535 := rfl
theorem u32max : IntKind.u32.max = 4294967295 := rfl
theorem u64max : IntKind.u64.max = 18446744073709551615 := rfl
def numOut (D : List Seg) (x : AV) : FOut := ⟨Unit, fun _ => True, fun _ => x, fun _ => D⟩
theorem andNot63 (b : Nat) (h : b < 18446744073709551616) : rawBits .andNot .u64 b 9223372036854775808 = ((b % 9223372036854775808 : Nat) : Int) := by
  show IntKind.u64.wrap ((BitVec.ofInt 64 b &&& ~~~ BitVec.ofInt 64 9223372036854775808).toNat : Int) = _
  have e : (BitVec.ofInt 64 b &&& ~~~ BitVec.ofInt 64 9223372036854775808).toNat = b % 9223372036854775808 := by
    rw [BitVec.toNat_and, BitVec.toNat_ofInt, show (~~~ BitVec.ofInt 64 9223372036854775808).toNat = 2 ^ 63 - 1 by decide, Nat.and_two_pow_sub_one_eq_mod]
    show ((b : Int) % 18446744073709551616).toNat % 9223372036854775808 = _
    omega
  rw [e]
  unfold IntKind.wrap
  simp [IntKind.bits, IntKind.signed]
  omega
def qf : Nat → Bool := fun f => match f with | 2000012 => true | 2000038 => true | 2000053 => true | 2000056 => true | 9 => true | 29 => true | 31 => true | 32 => true | 33 => true | 34 => true | 45 => true | 46 => true | 52 => true | 54 => true | 57 => true | 47 => true | 50 => true | 24 => true | _ => false
def cfgk (k : Nat) : Cfg := { T := tyL, sgn := fun _ => true, wr := fun _ => false, k := k, q := qf }
attribute [local irreducible] rawBits
theorem fb_x (n : Int) : Go.Fw.XRun Tryd.prog 38 [.int .u64 n] (.flt .f64 n.toNat) := by
  refine ⟨.float .f64 n.toNat, fun ρ => by simp only [Den], fun ρ vs h w => ?_⟩
  simp only [Dens, Den] at h
  obtain ⟨v, r, rfl, rfl, rfl⟩ := h
  kernel_rfl
theorem bf_x (n : Nat) : Go.Fw.XRun Tryd.prog 12 [.flt .f64 n] (.int .u64 n) := by
  refine ⟨.int .u64 n, fun ρ => by simp only [Den], fun ρ vs h w => ?_⟩
  simp only [Dens, Den] at h
  obtain ⟨v, r, rfl, rfl, rfl⟩ := h
  kernel_rfl
section
attribute [local irreducible] Ieee.Format.read
theorem int_num (nm : String) (way : Ieee.Toward) (n : Nat) {s : Bool} {m : Nat} {P : Int} (hr : D.read n = .number s m P) : Go.Extern.MathFloor.toIntegral nm way #[.float .f64 n] = pure (.float .f64 (D.write ((D.read n).integral way))) := by
  have e : FloatKind.f64.decode n = .number s m P := hr
  conv =>
    lhs
    whnf
  rw [e, hr]
  rfl
end
theorem even_x (n : Nat) {s : Bool} {m : Nat} {P : Int} (hr : D.read n = .number s m P) : Go.Fw.XRun Tryd.prog 53 [.flt .f64 n] (.flt .f64 (D.write ((D.read n).integral .even))) := by
  refine ⟨.float .f64 (D.write ((D.read n).integral .even)), fun ρ => by simp only [Den], fun ρ vs h w => ?_⟩
  simp only [Dens, Den] at h
  obtain ⟨v, r, rfl, rfl, rfl⟩ := h
  have h1 : (callFunc 53 #[Value.float .f64 n]).run Tryd.prog w = (Go.Extern.MathFloor.toIntegral "math.RoundToEven" .even #[.float .f64 n] >>= fun v => pure (Next.value v)).run Tryd.prog w := by kernel_rfl
  refine h1.trans ?_
  rw [int_num _ _ n hr]
  rfl
noncomputable def k22 : Code := (Tryd.f52.body).getD .skip
set_option maxHeartbeats 0 in
set_option maxRecDepth 100000 in
theorem Abs_q (b : Nat) (hb : b < 18446744073709551616) : QFits Tryd.prog 52 ⟨[.flt .f64 b], [], .flt .f64 (b % 9223372036854775808)⟩ := by
  have FB := fb_x ((b % 9223372036854775808 : Nat) : Int)
  rw [Int.toNat_natCast] at FB
  have BF := bf_x b
  have hn := andNot63 b hb
  generalize b % 9223372036854775808 = a at *
  refine qfits_of_body (C := cfgk 0) (c := k22) (ts := [2]) tokL mixedL (fun _ => none) (fun _ => none)
    Tryd.func52 (by kernel_rfl) (by kernel_rfl) (by kernel_rfl) (by kernel_rfl) (by kernel_rfl) rfl rfl ?_
  conv => whnf
  repeat (first
    | (refine And.intro ?_ ?_; (focus (first | omega | decide | exact EqOk.mk (by kernel_rfl) (by kernel_rfl) (by kernel_rfl) | exact Int.natCast_nonneg _ | ((repeat' refine And.intro ?_ ?_) <;> first | omega | exact Int.natCast_nonneg _ | (simp only [i64max, u8max, u16max, u32max, u64max]; omega) | (simp only [mulSz_eq, Cont.len, colsLen, Col.len, List.length_cons, List.length_nil, List.length_replicate, List.length_append]; first | done | omega) | (simp [mulSz, Cont.len, bne]; first | done | omega)))); conv => whnf)
    | (refine tst_in ?_ ?_; (focus (intro h_; exfalso; first | omega | ((try simp only [decide_eq_true_eq, decide_eq_false_iff_not] at h_); omega) | (simp [mulSz, Cont.len, bne] at h_; first | done | omega))); intro _; conv => whnf)
    | (refine tst_in ?_ ?_; rotate_left; (focus (intro h_; exfalso; first | omega | ((try simp only [decide_eq_true_eq, decide_eq_false_iff_not] at h_); omega) | (simp [mulSz, Cont.len, bne] at h_; first | done | omega))); intro _; conv => whnf)
    | (refine ⟨0, (show _ = _ by omega), ?_⟩; conv => whnf))
  refine ⟨_, _, BF, rfl, ?_⟩
  conv => whnf
  conv => whnf
  repeat (first
    | (refine And.intro ?_ ?_; (focus (first | omega | decide | exact EqOk.mk (by kernel_rfl) (by kernel_rfl) (by kernel_rfl) | exact Int.natCast_nonneg _ | ((repeat' refine And.intro ?_ ?_) <;> first | omega | exact Int.natCast_nonneg _ | (simp only [i64max, u8max, u16max, u32max, u64max]; omega) | (simp only [mulSz_eq, Cont.len, colsLen, Col.len, List.length_cons, List.length_nil, List.length_replicate, List.length_append]; first | done | omega) | (simp [mulSz, Cont.len, bne]; first | done | omega)))); conv => whnf)
    | (refine tst_in ?_ ?_; (focus (intro h_; exfalso; first | omega | ((try simp only [decide_eq_true_eq, decide_eq_false_iff_not] at h_); omega) | (simp [mulSz, Cont.len, bne] at h_; first | done | omega))); intro _; conv => whnf)
    | (refine tst_in ?_ ?_; rotate_left; (focus (intro h_; exfalso; first | omega | ((try simp only [decide_eq_true_eq, decide_eq_false_iff_not] at h_); omega) | (simp [mulSz, Cont.len, bne] at h_; first | done | omega))); intro _; conv => whnf)
    | (refine ⟨0, (show _ = _ by omega), ?_⟩; conv => whnf))
  rw [hn]
  refine ⟨_, _, FB, rfl, ?_⟩
  conv => whnf
noncomputable def k6 : Code := (Tryd.f9.body).getD .skip
set_option maxHeartbeats 0 in
set_option maxRecDepth 100000 in
theorem float_q (n : Int) : QFits Tryd.prog 9 ⟨[.int .u64 n], [], .flt .f64 n.toNat⟩ := by
  have FB := fb_x n
  refine qfits_of_body (C := cfgk 0) (c := k6) (ts := [2]) tokL mixedL (fun _ => none) (fun _ => none)
    Tryd.func9 (by kernel_rfl) (by kernel_rfl) (by kernel_rfl) (by kernel_rfl) (by kernel_rfl) rfl rfl ?_
  conv => whnf
  repeat (first
    | (refine And.intro ?_ ?_; (focus (first | omega | decide | exact EqOk.mk (by kernel_rfl) (by kernel_rfl) (by kernel_rfl) | exact Int.natCast_nonneg _ | ((repeat' refine And.intro ?_ ?_) <;> first | omega | exact Int.natCast_nonneg _ | (simp only [i64max, u8max, u16max, u32max, u64max]; omega) | (simp only [mulSz_eq, Cont.len, colsLen, Col.len, List.length_cons, List.length_nil, List.length_replicate, List.length_append]; first | done | omega) | (simp [mulSz, Cont.len, bne]; first | done | omega)))); conv => whnf)
    | (refine tst_in ?_ ?_; (focus (intro h_; exfalso; first | omega | ((try simp only [decide_eq_true_eq, decide_eq_false_iff_not] at h_); omega) | (simp [mulSz, Cont.len, bne] at h_; first | done | omega))); intro _; conv => whnf)
    | (refine tst_in ?_ ?_; rotate_left; (focus (intro h_; exfalso; first | omega | ((try simp only [decide_eq_true_eq, decide_eq_false_iff_not] at h_); omega) | (simp [mulSz, Cont.len, bne] at h_; first | done | omega))); intro _; conv => whnf)
    | (refine ⟨0, (show _ = _ by omega), ?_⟩; conv => whnf))
  refine ⟨_, _, FB, rfl, ?_⟩
  conv => whnf
noncomputable def k11 : Code := (Tryd.f33.body).getD .skip
theorem div4k {a : Nat} {n : Int} (h : V 0 a n) (h1 : -4194306 < n) (h2 : n < 4194306) : ∃ r, floatBits .quo .f64 a 4661225614328463360 = some r ∧ V 12 r n := by
  obtain ⟨r, k1, k2⟩ := V_div (j := 12) (c := 4661225614328463360) h (by decide) (by omega) (by omega) (by omega)
  rw [Nat.zero_add] at k2
  exact ⟨r, k1, k2⟩
set_option maxHeartbeats 0 in
set_option maxRecDepth 100000 in
theorem Of_y {n : Int} {r : Nat} (h1 : -4194304 ≤ n) (h2 : n ≤ 4194304) (hr : floatBits .quo .f64 (floatOfInt .f64 n) 4661225614328463360 = some r) : QFits Tryd.prog 33 ⟨[.int .i32 n], [], .tup [.flt .f64 r, .int .i64 0]⟩ := by
  refine qfits_of_body (C := cfgk 0) (c := k11) (ts := [2, 3]) tokL mixedL (fun _ => none) (fun _ => none)
    Tryd.func33 (by kernel_rfl) (by kernel_rfl) (by kernel_rfl) (by kernel_rfl) (by kernel_rfl) rfl rfl ?_
  conv => whnf
  repeat (first
    | (refine And.intro ?_ ?_; (focus (first | omega | decide | exact EqOk.mk (by kernel_rfl) (by kernel_rfl) (by kernel_rfl) | exact Int.natCast_nonneg _ | ((repeat' refine And.intro ?_ ?_) <;> first | omega | exact Int.natCast_nonneg _ | (simp only [i64max, u8max, u16max, u32max, u64max]; omega) | (simp only [mulSz_eq, Cont.len, colsLen, Col.len, List.length_cons, List.length_nil, List.length_replicate, List.length_append]; first | done | omega) | (simp [mulSz, Cont.len, bne]; first | done | omega)))); conv => whnf)
    | (refine tst_in ?_ ?_; (focus (intro h_; exfalso; first | omega | ((try simp only [decide_eq_true_eq, decide_eq_false_iff_not] at h_); omega) | (simp [mulSz, Cont.len, bne] at h_; first | done | omega))); intro _; conv => whnf)
    | (refine tst_in ?_ ?_; rotate_left; (focus (intro h_; exfalso; first | omega | ((try simp only [decide_eq_true_eq, decide_eq_false_iff_not] at h_); omega) | (simp [mulSz, Cont.len, bne] at h_; first | done | omega))); intro _; conv => whnf)
    | (refine ⟨0, (show _ = _ by omega), ?_⟩; conv => whnf))
  refine ⟨r, hr, ?_⟩
  conv => whnf
  repeat (first
    | (refine And.intro ?_ ?_; (focus (first | omega | decide | exact EqOk.mk (by kernel_rfl) (by kernel_rfl) (by kernel_rfl) | exact Int.natCast_nonneg _ | ((repeat' refine And.intro ?_ ?_) <;> first | omega | exact Int.natCast_nonneg _ | (simp only [i64max, u8max, u16max, u32max, u64max]; omega) | (simp only [mulSz_eq, Cont.len, colsLen, Col.len, List.length_cons, List.length_nil, List.length_replicate, List.length_append]; first | done | omega) | (simp [mulSz, Cont.len, bne]; first | done | omega)))); conv => whnf)
    | (refine tst_in ?_ ?_; (focus (intro h_; exfalso; first | omega | ((try simp only [decide_eq_true_eq, decide_eq_false_iff_not] at h_); omega) | (simp [mulSz, Cont.len, bne] at h_; first | done | omega))); intro _; conv => whnf)
    | (refine tst_in ?_ ?_; rotate_left; (focus (intro h_; exfalso; first | omega | ((try simp only [decide_eq_true_eq, decide_eq_false_iff_not] at h_); omega) | (simp [mulSz, Cont.len, bne] at h_; first | done | omega))); intro _; conv => whnf)
    | (refine ⟨0, (show _ = _ by omega), ?_⟩; conv => whnf))
  conv => whnf
  repeat' (first | exact True.intro | rfl | refine And.intro ?_ ?_)
  all_goals (conv => whnf)
  repeat' (first | exact True.intro | rfl | refine And.intro ?_ ?_)
  all_goals (try omega)
noncomputable def k8 : Code := (Tryd.f31.body).getD .skip
set_option maxHeartbeats 0 in
set_option maxRecDepth 100000 in
theorem Near_in {b y : Nat} {X t : Int} (hb : b < 18446744073709551616) (h : InE b X) (p : Pk b X y t) : ∃ r, V 12 r (nrst (X * 4096)) ∧ (r ≠ 9223372036854775808 ∧ r < 18446744073709551616) ∧ QFits Tryd.prog 31 ⟨[.flt .f64 b], [], .tup [.flt .f64 r, .bool true]⟩ := by
  have h1 := h.ab
  have AQ := Abs_q b hb
  have p1 := p.mul
  obtain ⟨s, m, P, hr⟩ := p.num
  have EX := even_x y hr
  have n1 := p.nr.1
  have n2 := p.nr.2
  obtain ⟨w, w1, w2⟩ := div4k p.ev (by omega) (by omega)
  obtain ⟨r, r1, r2, r3⟩ := add0 w2 (by omega) (by omega)
  refine ⟨r, r2, ⟨r3, sum_lt r1⟩, ?_⟩
  generalize D.write ((D.read y).integral .even) = z at *
  generalize b % 9223372036854775808 = a at *
  refine qfits_of_body (C := cfgk 0) (c := k8) (ts := [2, 3]) tokL mixedL (fun _ => none) (fun _ => none)
    Tryd.func31 (by kernel_rfl) (by kernel_rfl) (by kernel_rfl) (by kernel_rfl) (by kernel_rfl) rfl rfl ?_
  conv => whnf
  repeat (first
    | (refine And.intro ?_ ?_; (focus (first | omega | decide | exact EqOk.mk (by kernel_rfl) (by kernel_rfl) (by kernel_rfl) | exact Int.natCast_nonneg _ | ((repeat' refine And.intro ?_ ?_) <;> first | omega | exact Int.natCast_nonneg _ | (simp only [i64max, u8max, u16max, u32max, u64max]; omega) | (simp only [mulSz_eq, Cont.len, colsLen, Col.len, List.length_cons, List.length_nil, List.length_replicate, List.length_append]; first | done | omega) | (simp [mulSz, Cont.len, bne]; first | done | omega)))); conv => whnf)
    | (refine tst_in ?_ ?_; (focus (intro h_; exfalso; first | omega | ((try simp only [decide_eq_true_eq, decide_eq_false_iff_not] at h_); omega) | (simp [mulSz, Cont.len, bne] at h_; first | done | omega))); intro _; conv => whnf)
    | (refine tst_in ?_ ?_; rotate_left; (focus (intro h_; exfalso; first | omega | ((try simp only [decide_eq_true_eq, decide_eq_false_iff_not] at h_); omega) | (simp [mulSz, Cont.len, bne] at h_; first | done | omega))); intro _; conv => whnf)
    | (refine ⟨0, (show _ = _ by omega), ?_⟩; conv => whnf))
  refine ⟨_, [], AQ, ?_⟩
  conv => whnf
  iterate 2
   refine And.intro ?_ ?_
   focus
    conv => whnf
    repeat' (first | exact True.intro | rfl | refine And.intro ?_ ?_ | omega)
    all_goals (conv => whnf)
    all_goals (try (first | rfl | omega | (simp; done)))
  conv => whnf
  conv => whnf
  repeat (first
    | (refine And.intro ?_ ?_; (focus (first | omega | decide | exact EqOk.mk (by kernel_rfl) (by kernel_rfl) (by kernel_rfl) | exact Int.natCast_nonneg _ | ((repeat' refine And.intro ?_ ?_) <;> first | omega | exact Int.natCast_nonneg _ | (simp only [i64max, u8max, u16max, u32max, u64max]; omega) | (simp only [mulSz_eq, Cont.len, colsLen, Col.len, List.length_cons, List.length_nil, List.length_replicate, List.length_append]; first | done | omega) | (simp [mulSz, Cont.len, bne]; first | done | omega)))); conv => whnf)
    | (refine tst_in ?_ ?_; (focus (intro h_; exfalso; first | omega | ((try simp only [decide_eq_true_eq, decide_eq_false_iff_not] at h_); omega) | (simp [mulSz, Cont.len, bne] at h_; first | done | omega))); intro _; conv => whnf)
    | (refine tst_in ?_ ?_; rotate_left; (focus (intro h_; exfalso; first | omega | ((try simp only [decide_eq_true_eq, decide_eq_false_iff_not] at h_); omega) | (simp [mulSz, Cont.len, bne] at h_; first | done | omega))); intro _; conv => whnf)
    | (refine ⟨0, (show _ = _ by omega), ?_⟩; conv => whnf))
  refine tst_in (fun u => absurd u (by rw [show (D.order a 4652218415073722368 == some Ordering.lt || D.order a 4652218415073722368 == some Ordering.eq) = true from h1]; decide)) (fun u => ?_)
  conv => whnf
  repeat (first
    | (refine And.intro ?_ ?_; (focus (first | omega | decide | exact EqOk.mk (by kernel_rfl) (by kernel_rfl) (by kernel_rfl) | exact Int.natCast_nonneg _ | ((repeat' refine And.intro ?_ ?_) <;> first | omega | exact Int.natCast_nonneg _ | (simp only [i64max, u8max, u16max, u32max, u64max]; omega) | (simp only [mulSz_eq, Cont.len, colsLen, Col.len, List.length_cons, List.length_nil, List.length_replicate, List.length_append]; first | done | omega) | (simp [mulSz, Cont.len, bne]; first | done | omega)))); conv => whnf)
    | (refine tst_in ?_ ?_; (focus (intro h_; exfalso; first | omega | ((try simp only [decide_eq_true_eq, decide_eq_false_iff_not] at h_); omega) | (simp [mulSz, Cont.len, bne] at h_; first | done | omega))); intro _; conv => whnf)
    | (refine tst_in ?_ ?_; rotate_left; (focus (intro h_; exfalso; first | omega | ((try simp only [decide_eq_true_eq, decide_eq_false_iff_not] at h_); omega) | (simp [mulSz, Cont.len, bne] at h_; first | done | omega))); intro _; conv => whnf)
    | (refine ⟨0, (show _ = _ by omega), ?_⟩; conv => whnf))
  refine ⟨y, p1, ?_⟩
  conv => whnf
  repeat (first
    | (refine And.intro ?_ ?_; (focus (first | omega | decide | exact EqOk.mk (by kernel_rfl) (by kernel_rfl) (by kernel_rfl) | exact Int.natCast_nonneg _ | ((repeat' refine And.intro ?_ ?_) <;> first | omega | exact Int.natCast_nonneg _ | (simp only [i64max, u8max, u16max, u32max, u64max]; omega) | (simp only [mulSz_eq, Cont.len, colsLen, Col.len, List.length_cons, List.length_nil, List.length_replicate, List.length_append]; first | done | omega) | (simp [mulSz, Cont.len, bne]; first | done | omega)))); conv => whnf)
    | (refine tst_in ?_ ?_; (focus (intro h_; exfalso; first | omega | ((try simp only [decide_eq_true_eq, decide_eq_false_iff_not] at h_); omega) | (simp [mulSz, Cont.len, bne] at h_; first | done | omega))); intro _; conv => whnf)
    | (refine tst_in ?_ ?_; rotate_left; (focus (intro h_; exfalso; first | omega | ((try simp only [decide_eq_true_eq, decide_eq_false_iff_not] at h_); omega) | (simp [mulSz, Cont.len, bne] at h_; first | done | omega))); intro _; conv => whnf)
    | (refine ⟨0, (show _ = _ by omega), ?_⟩; conv => whnf))
  refine ⟨_, _, EX, rfl, ?_⟩
  conv => whnf
  conv => whnf
  repeat (first
    | (refine And.intro ?_ ?_; (focus (first | omega | decide | exact EqOk.mk (by kernel_rfl) (by kernel_rfl) (by kernel_rfl) | exact Int.natCast_nonneg _ | ((repeat' refine And.intro ?_ ?_) <;> first | omega | exact Int.natCast_nonneg _ | (simp only [i64max, u8max, u16max, u32max, u64max]; omega) | (simp only [mulSz_eq, Cont.len, colsLen, Col.len, List.length_cons, List.length_nil, List.length_replicate, List.length_append]; first | done | omega) | (simp [mulSz, Cont.len, bne]; first | done | omega)))); conv => whnf)
    | (refine tst_in ?_ ?_; (focus (intro h_; exfalso; first | omega | ((try simp only [decide_eq_true_eq, decide_eq_false_iff_not] at h_); omega) | (simp [mulSz, Cont.len, bne] at h_; first | done | omega))); intro _; conv => whnf)
    | (refine tst_in ?_ ?_; rotate_left; (focus (intro h_; exfalso; first | omega | ((try simp only [decide_eq_true_eq, decide_eq_false_iff_not] at h_); omega) | (simp [mulSz, Cont.len, bne] at h_; first | done | omega))); intro _; conv => whnf)
    | (refine ⟨0, (show _ = _ by omega), ?_⟩; conv => whnf))
  refine ⟨w, w1, ?_⟩
  conv => whnf
  repeat (first
    | (refine And.intro ?_ ?_; (focus (first | omega | decide | exact EqOk.mk (by kernel_rfl) (by kernel_rfl) (by kernel_rfl) | exact Int.natCast_nonneg _ | ((repeat' refine And.intro ?_ ?_) <;> first | omega | exact Int.natCast_nonneg _ | (simp only [i64max, u8max, u16max, u32max, u64max]; omega) | (simp only [mulSz_eq, Cont.len, colsLen, Col.len, List.length_cons, List.length_nil, List.length_replicate, List.length_append]; first | done | omega) | (simp [mulSz, Cont.len, bne]; first | done | omega)))); conv => whnf)
    | (refine tst_in ?_ ?_; (focus (intro h_; exfalso; first | omega | ((try simp only [decide_eq_true_eq, decide_eq_false_iff_not] at h_); omega) | (simp [mulSz, Cont.len, bne] at h_; first | done | omega))); intro _; conv => whnf)
    | (refine tst_in ?_ ?_; rotate_left; (focus (intro h_; exfalso; first | omega | ((try simp only [decide_eq_true_eq, decide_eq_false_iff_not] at h_); omega) | (simp [mulSz, Cont.len, bne] at h_; first | done | omega))); intro _; conv => whnf)
    | (refine ⟨0, (show _ = _ by omega), ?_⟩; conv => whnf))
  refine ⟨r, r1, ?_⟩
  conv => whnf
  repeat (first
    | (refine And.intro ?_ ?_; (focus (first | omega | decide | exact EqOk.mk (by kernel_rfl) (by kernel_rfl) (by kernel_rfl) | exact Int.natCast_nonneg _ | ((repeat' refine And.intro ?_ ?_) <;> first | omega | exact Int.natCast_nonneg _ | (simp only [i64max, u8max, u16max, u32max, u64max]; omega) | (simp only [mulSz_eq, Cont.len, colsLen, Col.len, List.length_cons, List.length_nil, List.length_replicate, List.length_append]; first | done | omega) | (simp [mulSz, Cont.len, bne]; first | done | omega)))); conv => whnf)
    | (refine tst_in ?_ ?_; (focus (intro h_; exfalso; first | omega | ((try simp only [decide_eq_true_eq, decide_eq_false_iff_not] at h_); omega) | (simp [mulSz, Cont.len, bne] at h_; first | done | omega))); intro _; conv => whnf)
    | (refine tst_in ?_ ?_; rotate_left; (focus (intro h_; exfalso; first | omega | ((try simp only [decide_eq_true_eq, decide_eq_false_iff_not] at h_); omega) | (simp [mulSz, Cont.len, bne] at h_; first | done | omega))); intro _; conv => whnf)
    | (refine ⟨0, (show _ = _ by omega), ?_⟩; conv => whnf))
  conv => whnf
  repeat' (first | exact True.intro | rfl | refine And.intro ?_ ?_)
  all_goals (conv => whnf)
  repeat' (first | exact True.intro | rfl | refine And.intro ?_ ?_)
  all_goals (try omega)
set_option maxHeartbeats 0 in
set_option maxRecDepth 100000 in
theorem Near_out {b : Nat} (hb : b < 18446744073709551616) (h : OutE b) : QFits Tryd.prog 31 ⟨[.flt .f64 b], [], .tup [.flt .f64 0, .bool false]⟩ := by
  have h1 := h.abs
  have AQ := Abs_q b hb
  generalize b % 9223372036854775808 = a at *
  refine qfits_of_body (C := cfgk 0) (c := k8) (ts := [2, 3]) tokL mixedL (fun _ => none) (fun _ => none)
    Tryd.func31 (by kernel_rfl) (by kernel_rfl) (by kernel_rfl) (by kernel_rfl) (by kernel_rfl) rfl rfl ?_
  conv => whnf
  repeat (first
    | (refine And.intro ?_ ?_; (focus (first | omega | decide | exact EqOk.mk (by kernel_rfl) (by kernel_rfl) (by kernel_rfl) | exact Int.natCast_nonneg _ | ((repeat' refine And.intro ?_ ?_) <;> first | omega | exact Int.natCast_nonneg _ | (simp only [i64max, u8max, u16max, u32max, u64max]; omega) | (simp only [mulSz_eq, Cont.len, colsLen, Col.len, List.length_cons, List.length_nil, List.length_replicate, List.length_append]; first | done | omega) | (simp [mulSz, Cont.len, bne]; first | done | omega)))); conv => whnf)
    | (refine tst_in ?_ ?_; (focus (intro h_; exfalso; first | omega | ((try simp only [decide_eq_true_eq, decide_eq_false_iff_not] at h_); omega) | (simp [mulSz, Cont.len, bne] at h_; first | done | omega))); intro _; conv => whnf)
    | (refine tst_in ?_ ?_; rotate_left; (focus (intro h_; exfalso; first | omega | ((try simp only [decide_eq_true_eq, decide_eq_false_iff_not] at h_); omega) | (simp [mulSz, Cont.len, bne] at h_; first | done | omega))); intro _; conv => whnf)
    | (refine ⟨0, (show _ = _ by omega), ?_⟩; conv => whnf))
  refine ⟨_, [], AQ, ?_⟩
  conv => whnf
  iterate 2
   refine And.intro ?_ ?_
   focus
    conv => whnf
    repeat' (first | exact True.intro | rfl | refine And.intro ?_ ?_ | omega)
    all_goals (conv => whnf)
    all_goals (try (first | rfl | omega | (simp; done)))
  conv => whnf
  conv => whnf
  repeat (first
    | (refine And.intro ?_ ?_; (focus (first | omega | decide | exact EqOk.mk (by kernel_rfl) (by kernel_rfl) (by kernel_rfl) | exact Int.natCast_nonneg _ | ((repeat' refine And.intro ?_ ?_) <;> first | omega | exact Int.natCast_nonneg _ | (simp only [i64max, u8max, u16max, u32max, u64max]; omega) | (simp only [mulSz_eq, Cont.len, colsLen, Col.len, List.length_cons, List.length_nil, List.length_replicate, List.length_append]; first | done | omega) | (simp [mulSz, Cont.len, bne]; first | done | omega)))); conv => whnf)
    | (refine tst_in ?_ ?_; (focus (intro h_; exfalso; first | omega | ((try simp only [decide_eq_true_eq, decide_eq_false_iff_not] at h_); omega) | (simp [mulSz, Cont.len, bne] at h_; first | done | omega))); intro _; conv => whnf)
    | (refine tst_in ?_ ?_; rotate_left; (focus (intro h_; exfalso; first | omega | ((try simp only [decide_eq_true_eq, decide_eq_false_iff_not] at h_); omega) | (simp [mulSz, Cont.len, bne] at h_; first | done | omega))); intro _; conv => whnf)
    | (refine ⟨0, (show _ = _ by omega), ?_⟩; conv => whnf))
  refine tst_in (fun u => ?_) (fun u => absurd u (by rw [show (D.order a 4652218415073722368 == some Ordering.lt || D.order a 4652218415073722368 == some Ordering.eq) = false from h1]; decide))
  conv => whnf
  repeat (first
    | (refine And.intro ?_ ?_; (focus (first | omega | decide | exact EqOk.mk (by kernel_rfl) (by kernel_rfl) (by kernel_rfl) | exact Int.natCast_nonneg _ | ((repeat' refine And.intro ?_ ?_) <;> first | omega | exact Int.natCast_nonneg _ | (simp only [i64max, u8max, u16max, u32max, u64max]; omega) | (simp only [mulSz_eq, Cont.len, colsLen, Col.len, List.length_cons, List.length_nil, List.length_replicate, List.length_append]; first | done | omega) | (simp [mulSz, Cont.len, bne]; first | done | omega)))); conv => whnf)
    | (refine tst_in ?_ ?_; (focus (intro h_; exfalso; first | omega | ((try simp only [decide_eq_true_eq, decide_eq_false_iff_not] at h_); omega) | (simp [mulSz, Cont.len, bne] at h_; first | done | omega))); intro _; conv => whnf)
    | (refine tst_in ?_ ?_; rotate_left; (focus (intro h_; exfalso; first | omega | ((try simp only [decide_eq_true_eq, decide_eq_false_iff_not] at h_); omega) | (simp [mulSz, Cont.len, bne] at h_; first | done | omega))); intro _; conv => whnf)
    | (refine ⟨0, (show _ = _ by omega), ?_⟩; conv => whnf))
  conv => whnf
  repeat' (first | exact True.intro | rfl | refine And.intro ?_ ?_)
  all_goals (conv => whnf)
  repeat' (first | exact True.intro | rfl | refine And.intro ?_ ?_)
  all_goals (try omega)
end Go.Proofs.YtanogghfdamdcaaDoor

set_option linter.unusedVariables false
set_option linter.unusedSimpArgs false
namespace Go.Proofs.YtanogghfdamdcaaDoor
open Go Go.Fw
def tabL : List Int := [0, 1, 56, 2, 57, 49, 28, 3, 61, 58, 42, 50, 38, 29, 17, 4, 62, 47, 59, 36, 45, 43, 51, 22, 53, 39, 33, 30, 24, 18, 12, 5, 63, 55, 48, 27, 60, 41, 37, 16, 46, 35, 44, 21, 52, 32, 23, 11, 54, 26, 40, 15, 34, 20, 31, 10, 25, 14, 19, 9, 13, 8, 7, 6]
def gS : Seg := .glob 1 (.ints .u8 [0, 1, 56, 2, 57, 49, 28, 3, 61, 58, 42, 50, 38, 29, 17, 4, 62, 47, 59, 36, 45, 43, 51, 22, 53, 39, 33, 30, 24, 18, 12, 5, 63, 55, 48, 27, 60, 41, 37, 16, 46, 35, 44, 21, 52, 32, 23, 11, 54, 26, 40, 15, 34, 20, 31, 10, 25, 14, 19, 9, 13, 8, 7, 6])
set_option maxHeartbeats 0 in
set_option maxRecDepth 100000 in
theorem TZ_12 : QFits Tryd.prog 47 ⟨[.int .u64 6755399441055744], [gS], .int .i64 51⟩ := by
  unfold gS
  refine qfits_of_body (C := cfgk 1) (c := (Tryd.f47.body).getD .skip) (ts := [2]) tokL mixedL (fun _ => none) (fun _ => none)
    Tryd.func47 (by kernel_rfl) (by kernel_rfl) (by kernel_rfl) (by kernel_rfl) (by kernel_rfl) rfl rfl ?_
  conv => whnf
  repeat (first
    | (refine And.intro ?_ ?_; (focus (first | omega | decide | exact EqOk.mk (by kernel_rfl) (by kernel_rfl) (by kernel_rfl) | exact Int.natCast_nonneg _ | ((repeat' refine And.intro ?_ ?_) <;> first | omega | exact Int.natCast_nonneg _ | (simp only [i64max, u8max, u16max, u32max, u64max]; omega) | (simp only [mulSz_eq, Cont.len, colsLen, Col.len, List.length_cons, List.length_nil, List.length_replicate, List.length_append]; first | done | omega) | (simp [mulSz, Cont.len, bne]; first | done | omega)))); conv => whnf)
    | (refine tst_in ?_ ?_; (focus (intro h_; exfalso; first | omega | ((try simp only [decide_eq_true_eq, decide_eq_false_iff_not] at h_); omega) | (simp [mulSz, Cont.len, bne] at h_; first | done | omega))); intro _; conv => whnf)
    | (refine tst_in ?_ ?_; rotate_left; (focus (intro h_; exfalso; first | omega | ((try simp only [decide_eq_true_eq, decide_eq_false_iff_not] at h_); omega) | (simp [mulSz, Cont.len, bne] at h_; first | done | omega))); intro _; conv => whnf)
    | (refine ⟨0, (show _ = _ by omega), ?_⟩; conv => whnf))
  decide +kernel
set_option maxHeartbeats 0 in
set_option maxRecDepth 100000 in
theorem IsNaN_12 : QFits Tryd.prog 45 ⟨[.flt .f64 4622945017495814144], [], .bool false⟩ := by
  refine qfits_of_body (C := cfgk 0) (c := (Tryd.f45.body).getD .skip) (ts := [2]) tokL mixedL (fun _ => none) (fun _ => none)
    Tryd.func45 (by kernel_rfl) (by kernel_rfl) (by kernel_rfl) (by kernel_rfl) (by kernel_rfl) rfl rfl ?_
  conv => whnf
  repeat (first
    | (refine And.intro ?_ ?_; (focus (first | omega | decide | exact EqOk.mk (by kernel_rfl) (by kernel_rfl) (by kernel_rfl) | exact Int.natCast_nonneg _ | ((repeat' refine And.intro ?_ ?_) <;> first | omega | exact Int.natCast_nonneg _ | (simp only [i64max, u8max, u16max, u32max, u64max]; omega) | (simp only [mulSz_eq, Cont.len, colsLen, Col.len, List.length_cons, List.length_nil, List.length_replicate, List.length_append]; first | done | omega) | (simp [mulSz, Cont.len, bne]; first | done | omega)))); conv => whnf)
    | (refine tst_in ?_ ?_; (focus (intro h_; exfalso; first | omega | ((try simp only [decide_eq_true_eq, decide_eq_false_iff_not] at h_); omega) | (simp [mulSz, Cont.len, bne] at h_; first | done | omega))); intro _; conv => whnf)
    | (refine tst_in ?_ ?_; rotate_left; (focus (intro h_; exfalso; first | omega | ((try simp only [decide_eq_true_eq, decide_eq_false_iff_not] at h_); omega) | (simp [mulSz, Cont.len, bne] at h_; first | done | omega))); intro _; conv => whnf)
    | (refine ⟨0, (show _ = _ by omega), ?_⟩; conv => whnf))
  decide +kernel
set_option maxHeartbeats 0 in
set_option maxRecDepth 100000 in
theorem IsInf_12 : QFits Tryd.prog 46 ⟨[.flt .f64 4622945017495814144, .int .i64 0], [], .bool false⟩ := by
  have AQ := Abs_q 4622945017495814144 (by decide)
  rw [show 4622945017495814144 % 9223372036854775808 = 4622945017495814144 by decide] at AQ
  refine qfits_of_body (C := cfgk 0) (c := (Tryd.f46.body).getD .skip) (ts := [4]) tokL mixedL (fun _ => none) (fun _ => none)
    Tryd.func46 (by kernel_rfl) (by kernel_rfl) (by kernel_rfl) (by kernel_rfl) (by kernel_rfl) rfl rfl ?_
  conv => whnf
  repeat (first
    | (refine And.intro ?_ ?_; (focus (first | omega | decide | exact EqOk.mk (by kernel_rfl) (by kernel_rfl) (by kernel_rfl) | exact Int.natCast_nonneg _ | ((repeat' refine And.intro ?_ ?_) <;> first | omega | exact Int.natCast_nonneg _ | (simp only [i64max, u8max, u16max, u32max, u64max]; omega) | (simp only [mulSz_eq, Cont.len, colsLen, Col.len, List.length_cons, List.length_nil, List.length_replicate, List.length_append]; first | done | omega) | (simp [mulSz, Cont.len, bne]; first | done | omega)))); conv => whnf)
    | (refine tst_in ?_ ?_; (focus (intro h_; exfalso; first | omega | ((try simp only [decide_eq_true_eq, decide_eq_false_iff_not] at h_); omega) | (simp [mulSz, Cont.len, bne] at h_; first | done | omega))); intro _; conv => whnf)
    | (refine tst_in ?_ ?_; rotate_left; (focus (intro h_; exfalso; first | omega | ((try simp only [decide_eq_true_eq, decide_eq_false_iff_not] at h_); omega) | (simp [mulSz, Cont.len, bne] at h_; first | done | omega))); intro _; conv => whnf)
    | (refine ⟨0, (show _ = _ by omega), ?_⟩; conv => whnf))
  refine ⟨_, [], AQ, ?_⟩
  conv => whnf
  iterate 2
   refine And.intro ?_ ?_
   focus
    conv => whnf
    repeat' (first | exact True.intro | rfl | refine And.intro ?_ ?_ | omega)
    all_goals (conv => whnf)
    all_goals (try (first | rfl | omega | (simp; done)))
  conv => whnf
  conv => whnf
  repeat (first
    | (refine And.intro ?_ ?_; (focus (first | omega | decide | exact EqOk.mk (by kernel_rfl) (by kernel_rfl) (by kernel_rfl) | exact Int.natCast_nonneg _ | ((repeat' refine And.intro ?_ ?_) <;> first | omega | exact Int.natCast_nonneg _ | (simp only [i64max, u8max, u16max, u32max, u64max]; omega) | (simp only [mulSz_eq, Cont.len, colsLen, Col.len, List.length_cons, List.length_nil, List.length_replicate, List.length_append]; first | done | omega) | (simp [mulSz, Cont.len, bne]; first | done | omega)))); conv => whnf)
    | (refine tst_in ?_ ?_; (focus (intro h_; exfalso; first | omega | ((try simp only [decide_eq_true_eq, decide_eq_false_iff_not] at h_); omega) | (simp [mulSz, Cont.len, bne] at h_; first | done | omega))); intro _; conv => whnf)
    | (refine tst_in ?_ ?_; rotate_left; (focus (intro h_; exfalso; first | omega | ((try simp only [decide_eq_true_eq, decide_eq_false_iff_not] at h_); omega) | (simp [mulSz, Cont.len, bne] at h_; first | done | omega))); intro _; conv => whnf)
    | (refine ⟨0, (show _ = _ by omega), ?_⟩; conv => whnf))
  decide +kernel
set_option maxHeartbeats 0 in
set_option maxRecDepth 100000 in
theorem Split_12 : QFits Tryd.prog 24 ⟨[.flt .f64 4622945017495814144], [gS], .tup [.int .i64 3, .int .i64 2, .int .i64 0]⟩ := by
  have BF : Go.Fw.XRun Tryd.prog 12 [.flt .f64 4622945017495814144] (.int .u64 4622945017495814144) := bf_x 4622945017495814144
  have e1 : rawBits BinOp.and IntKind.u64 4622945017495814144 4503599627370495 = 2251799813685248 := by decide +kernel
  have e2 : rawBits BinOp.or IntKind.u64 2251799813685248 4503599627370496 = 6755399441055744 := by decide +kernel
  have e3 : rawBits BinOp.and IntKind.u64 (4622945017495814144 / 2 ^ min (Int.toNat 52) IntKind.u64.bits) 2047 = 1026 := by decide +kernel
  have TZ := TZ_12
  unfold gS at *
  refine qfits_of_body (C := cfgk 1) (c := (Tryd.f24.body).getD .skip) (ts := [2, 3, 4]) tokL mixedL (fun _ => none) (fun _ => none)
    Tryd.func24 (by kernel_rfl) (by kernel_rfl) (by kernel_rfl) (by kernel_rfl) (by kernel_rfl) rfl rfl ?_
  conv => whnf
  repeat (first
    | (refine And.intro ?_ ?_; (focus (first | omega | decide | exact EqOk.mk (by kernel_rfl) (by kernel_rfl) (by kernel_rfl) | exact Int.natCast_nonneg _ | ((repeat' refine And.intro ?_ ?_) <;> first | omega | exact Int.natCast_nonneg _ | (simp only [i64max, u8max, u16max, u32max, u64max]; omega) | (simp only [mulSz_eq, Cont.len, colsLen, Col.len, List.length_cons, List.length_nil, List.length_replicate, List.length_append]; first | done | omega) | (simp [mulSz, Cont.len, bne]; first | done | omega)))); conv => whnf)
    | (refine tst_in ?_ ?_; (focus (intro h_; exfalso; first | omega | ((try simp only [decide_eq_true_eq, decide_eq_false_iff_not] at h_); omega) | (simp [mulSz, Cont.len, bne] at h_; first | done | omega))); intro _; conv => whnf)
    | (refine tst_in ?_ ?_; rotate_left; (focus (intro h_; exfalso; first | omega | ((try simp only [decide_eq_true_eq, decide_eq_false_iff_not] at h_); omega) | (simp [mulSz, Cont.len, bne] at h_; first | done | omega))); intro _; conv => whnf)
    | (refine ⟨0, (show _ = _ by omega), ?_⟩; conv => whnf))
  refine ⟨_, [], IsNaN_12, ?_⟩
  conv => whnf
  iterate 2
   refine And.intro ?_ ?_
   focus
    conv => whnf
    repeat' (first | exact True.intro | rfl | refine And.intro ?_ ?_ | omega)
    all_goals (conv => whnf)
    all_goals (try (first | rfl | omega | (simp; done)))
  conv => whnf
  conv => whnf
  repeat (first
    | (refine And.intro ?_ ?_; (focus (first | omega | decide | exact EqOk.mk (by kernel_rfl) (by kernel_rfl) (by kernel_rfl) | exact Int.natCast_nonneg _ | ((repeat' refine And.intro ?_ ?_) <;> first | omega | exact Int.natCast_nonneg _ | (simp only [i64max, u8max, u16max, u32max, u64max]; omega) | (simp only [mulSz_eq, Cont.len, colsLen, Col.len, List.length_cons, List.length_nil, List.length_replicate, List.length_append]; first | done | omega) | (simp [mulSz, Cont.len, bne]; first | done | omega)))); conv => whnf)
    | (refine tst_in ?_ ?_; (focus (intro h_; exfalso; first | omega | ((try simp only [decide_eq_true_eq, decide_eq_false_iff_not] at h_); omega) | (simp [mulSz, Cont.len, bne] at h_; first | done | omega))); intro _; conv => whnf)
    | (refine tst_in ?_ ?_; rotate_left; (focus (intro h_; exfalso; first | omega | ((try simp only [decide_eq_true_eq, decide_eq_false_iff_not] at h_); omega) | (simp [mulSz, Cont.len, bne] at h_; first | done | omega))); intro _; conv => whnf)
    | (refine ⟨0, (show _ = _ by omega), ?_⟩; conv => whnf))
  refine ⟨_, [], IsInf_12, ?_⟩
  conv => whnf
  iterate 2
   refine And.intro ?_ ?_
   focus
    conv => whnf
    repeat' (first | exact True.intro | rfl | refine And.intro ?_ ?_ | omega)
    all_goals (conv => whnf)
    all_goals (try (first | rfl | omega | (simp; done)))
  conv => whnf
  conv => whnf
  repeat (first
    | (refine And.intro ?_ ?_; (focus (first | omega | decide | exact EqOk.mk (by kernel_rfl) (by kernel_rfl) (by kernel_rfl) | exact Int.natCast_nonneg _ | ((repeat' refine And.intro ?_ ?_) <;> first | omega | exact Int.natCast_nonneg _ | (simp only [i64max, u8max, u16max, u32max, u64max]; omega) | (simp only [mulSz_eq, Cont.len, colsLen, Col.len, List.length_cons, List.length_nil, List.length_replicate, List.length_append]; first | done | omega) | (simp [mulSz, Cont.len, bne]; first | done | omega)))); conv => whnf)
    | (refine tst_in ?_ ?_; (focus (intro h_; exfalso; first | omega | ((try simp only [decide_eq_true_eq, decide_eq_false_iff_not] at h_); omega) | (simp [mulSz, Cont.len, bne] at h_; first | done | omega))); intro _; conv => whnf)
    | (refine tst_in ?_ ?_; rotate_left; (focus (intro h_; exfalso; first | omega | ((try simp only [decide_eq_true_eq, decide_eq_false_iff_not] at h_); omega) | (simp [mulSz, Cont.len, bne] at h_; first | done | omega))); intro _; conv => whnf)
    | (refine ⟨0, (show _ = _ by omega), ?_⟩; conv => whnf))
  refine ⟨_, _, BF, rfl, ?_⟩
  conv => whnf
  conv => whnf
  repeat (first
    | (refine And.intro ?_ ?_; (focus (first | omega | decide | exact EqOk.mk (by kernel_rfl) (by kernel_rfl) (by kernel_rfl) | exact Int.natCast_nonneg _ | ((repeat' refine And.intro ?_ ?_) <;> first | omega | exact Int.natCast_nonneg _ | (simp only [i64max, u8max, u16max, u32max, u64max]; omega) | (simp only [mulSz_eq, Cont.len, colsLen, Col.len, List.length_cons, List.length_nil, List.length_replicate, List.length_append]; first | done | omega) | (simp [mulSz, Cont.len, bne]; first | done | omega)))); conv => whnf)
    | (refine tst_in ?_ ?_; (focus (intro h_; exfalso; first | omega | ((try simp only [decide_eq_true_eq, decide_eq_false_iff_not] at h_); omega) | (simp [mulSz, Cont.len, bne] at h_; first | done | omega))); intro _; conv => whnf)
    | (refine tst_in ?_ ?_; rotate_left; (focus (intro h_; exfalso; first | omega | ((try simp only [decide_eq_true_eq, decide_eq_false_iff_not] at h_); omega) | (simp [mulSz, Cont.len, bne] at h_; first | done | omega))); intro _; conv => whnf)
    | (refine ⟨0, (show _ = _ by omega), ?_⟩; conv => whnf))
  rw [e1, e2, e3]
  refine ⟨_, [0], TZ, ?_⟩
  conv => whnf
  iterate 2
   refine And.intro ?_ ?_
   focus
    conv => whnf
    repeat' (first | exact True.intro | rfl | refine And.intro ?_ ?_)
    all_goals (conv => whnf)
    repeat' (first | exact True.intro | rfl | refine And.intro ?_ ?_)
    all_goals (try (first | rfl | omega | (simp; first | done | omega)))
  conv => whnf
  conv => whnf
  repeat (first
    | (refine And.intro ?_ ?_; (focus (first | omega | decide | exact EqOk.mk (by kernel_rfl) (by kernel_rfl) (by kernel_rfl) | exact Int.natCast_nonneg _ | ((repeat' refine And.intro ?_ ?_) <;> first | omega | exact Int.natCast_nonneg _ | (simp only [i64max, u8max, u16max, u32max, u64max]; omega) | (simp only [mulSz_eq, Cont.len, colsLen, Col.len, List.length_cons, List.length_nil, List.length_replicate, List.length_append]; first | done | omega) | (simp [mulSz, Cont.len, bne]; first | done | omega)))); conv => whnf)
    | (refine tst_in ?_ ?_; (focus (intro h_; exfalso; first | omega | ((try simp only [decide_eq_true_eq, decide_eq_false_iff_not] at h_); omega) | (simp [mulSz, Cont.len, bne] at h_; first | done | omega))); intro _; conv => whnf)
    | (refine tst_in ?_ ?_; rotate_left; (focus (intro h_; exfalso; first | omega | ((try simp only [decide_eq_true_eq, decide_eq_false_iff_not] at h_); omega) | (simp [mulSz, Cont.len, bne] at h_; first | done | omega))); intro _; conv => whnf)
    | (refine ⟨0, (show _ = _ by omega), ?_⟩; conv => whnf))
  conv => whnf
  repeat' (first | exact True.intro | rfl | refine And.intro ?_ ?_)
  all_goals (conv => whnf)
  repeat' (first | exact True.intro | rfl | refine And.intro ?_ ?_)
  all_goals (try omega)
  all_goals decide +kernel
def fmA (f m : Int) : AV := .agg [.int .i64 f, .int .i64 m]
set_option maxHeartbeats 0 in
set_option maxRecDepth 100000 in
theorem counted_f (f m : Int) (hf : 0 ≤ f ∧ f ≤ 100) (hm : 0 ≤ m ∧ m ≤ 100) : Fits Tryd.prog 41 ⟨[fmA f m], [], [numOut [] (fmA f m)]⟩ := by
  unfold fmA
  refine fits_of_res (C := cfgk 0) (c := (Tryd.f41.body).getD .skip) (rs := [.cell 2 32]) tokL mixedL (fun _ => none) (fun _ => none)
    Tryd.func41 (by kernel_rfl) (by kernel_rfl) (by kernel_rfl) (by kernel_rfl) rfl ?_
  conv => whnf
  repeat (first
    | (refine And.intro ?_ ?_; (focus (first | omega | decide | exact EqOk.mk (by kernel_rfl) (by kernel_rfl) (by kernel_rfl) | exact Int.natCast_nonneg _ | ((repeat' refine And.intro ?_ ?_) <;> first | omega | exact Int.natCast_nonneg _ | (simp only [i64max, u8max, u16max, u32max, u64max]; omega) | (simp only [mulSz_eq, Cont.len, colsLen, Col.len, List.length_cons, List.length_nil, List.length_replicate, List.length_append]; first | done | omega) | (simp [mulSz, Cont.len, bne]; first | done | omega)))); conv => whnf)
    | (refine tst_in ?_ ?_; (focus (intro h_; exfalso; first | omega | ((try simp only [decide_eq_true_eq, decide_eq_false_iff_not] at h_); omega) | (simp [mulSz, Cont.len, bne] at h_; first | done | omega))); intro _; conv => whnf)
    | (refine tst_in ?_ ?_; rotate_left; (focus (intro h_; exfalso; first | omega | ((try simp only [decide_eq_true_eq, decide_eq_false_iff_not] at h_); omega) | (simp [mulSz, Cont.len, bne] at h_; first | done | omega))); intro _; conv => whnf)
    | (refine ⟨0, (show _ = _ by omega), ?_⟩; conv => whnf))
  refine .inl ⟨(), [], ?_⟩
  conv => whnf
  repeat' (first | exact True.intro | rfl | refine And.intro ?_ ?_)
  all_goals (conv => whnf)
  repeat' (first | exact True.intro | rfl | refine And.intro ?_ ?_)
  all_goals (try omega)
  done
set_option maxHeartbeats 0 in
set_option maxRecDepth 100000 in
theorem stopped_f (f m : Int) (hf : 0 ≤ f ∧ f ≤ 100) (hm : 0 ≤ m ∧ m ≤ 100) : Fits Tryd.prog 44 ⟨[fmA f m], [], [numOut [] (fmA f m)]⟩ := by
  unfold fmA
  refine fits_of_res (C := cfgk 0) (c := (Tryd.f44.body).getD .skip) (rs := [.cell 2 32]) tokL mixedL (fun _ => none) (fun _ => none)
    Tryd.func44 (by kernel_rfl) (by kernel_rfl) (by kernel_rfl) (by kernel_rfl) rfl ?_
  conv => whnf
  repeat (first
    | (refine And.intro ?_ ?_; (focus (first | omega | decide | exact EqOk.mk (by kernel_rfl) (by kernel_rfl) (by kernel_rfl) | exact Int.natCast_nonneg _ | ((repeat' refine And.intro ?_ ?_) <;> first | omega | exact Int.natCast_nonneg _ | (simp only [i64max, u8max, u16max, u32max, u64max]; omega) | (simp only [mulSz_eq, Cont.len, colsLen, Col.len, List.length_cons, List.length_nil, List.length_replicate, List.length_append]; first | done | omega) | (simp [mulSz, Cont.len, bne]; first | done | omega)))); conv => whnf)
    | (refine tst_in ?_ ?_; (focus (intro h_; exfalso; first | omega | ((try simp only [decide_eq_true_eq, decide_eq_false_iff_not] at h_); omega) | (simp [mulSz, Cont.len, bne] at h_; first | done | omega))); intro _; conv => whnf)
    | (refine tst_in ?_ ?_; rotate_left; (focus (intro h_; exfalso; first | omega | ((try simp only [decide_eq_true_eq, decide_eq_false_iff_not] at h_); omega) | (simp [mulSz, Cont.len, bne] at h_; first | done | omega))); intro _; conv => whnf)
    | (refine ⟨0, (show _ = _ by omega), ?_⟩; conv => whnf))
  refine .inl ⟨(), [], ?_⟩
  conv => whnf
  repeat' (first | exact True.intro | rfl | refine And.intro ?_ ?_)
  all_goals (conv => whnf)
  repeat' (first | exact True.intro | rfl | refine And.intro ?_ ?_)
  all_goals (try omega)
  done
set_option maxHeartbeats 0 in
set_option maxRecDepth 100000 in
theorem Exact_f (f m : Int) (hf : 0 ≤ f ∧ f ≤ 40) (hm : 0 ≤ m ∧ m ≤ 40) : Fits Tryd.prog 21 ⟨[fmA f m], [], [numOut [] (.bool (decide (f + m ≤ 53)))]⟩ := by
  have C1 := counted_f f m (by omega) (by omega)
  have S1 := stopped_f (f + m) m (by omega) (by omega)
  unfold fmA at *
  refine fits_of_body (C := cfgk 0) (c := (Tryd.f21.body).getD .skip) (ts := [2]) tokL mixedL (fun _ => none) (fun _ => none)
    Tryd.func21 (by kernel_rfl) (by kernel_rfl) (by kernel_rfl) (by kernel_rfl) rfl ?_
  conv => whnf
  repeat (first
    | (refine And.intro ?_ ?_; (focus (first | omega | decide | exact EqOk.mk (by kernel_rfl) (by kernel_rfl) (by kernel_rfl) | exact Int.natCast_nonneg _ | ((repeat' refine And.intro ?_ ?_) <;> first | omega | exact Int.natCast_nonneg _ | (simp only [i64max, u8max, u16max, u32max, u64max]; omega) | (simp only [mulSz_eq, Cont.len, colsLen, Col.len, List.length_cons, List.length_nil, List.length_replicate, List.length_append]; first | done | omega) | (simp [mulSz, Cont.len, bne]; first | done | omega)))); conv => whnf)
    | (refine tst_in ?_ ?_; (focus (intro h_; exfalso; first | omega | ((try simp only [decide_eq_true_eq, decide_eq_false_iff_not] at h_); omega) | (simp [mulSz, Cont.len, bne] at h_; first | done | omega))); intro _; conv => whnf)
    | (refine tst_in ?_ ?_; rotate_left; (focus (intro h_; exfalso; first | omega | ((try simp only [decide_eq_true_eq, decide_eq_false_iff_not] at h_); omega) | (simp [mulSz, Cont.len, bne] at h_; first | done | omega))); intro _; conv => whnf)
    | (refine ⟨0, (show _ = _ by omega), ?_⟩; conv => whnf))
  refine ⟨_, [], C1, ?_⟩
  conv => whnf
  iterate 2
   refine And.intro ?_ ?_
   focus
    conv => whnf
    repeat' (first | exact True.intro | rfl | refine And.intro ?_ ?_ | omega)
    all_goals (conv => whnf)
    all_goals (try (first | rfl | omega | (simp; done)))
  conv => whnf
  refine ⟨?_, True.intro⟩
  intro _ _
  conv => whnf
  conv => whnf
  repeat (first
    | (refine And.intro ?_ ?_; (focus (first | omega | decide | exact EqOk.mk (by kernel_rfl) (by kernel_rfl) (by kernel_rfl) | exact Int.natCast_nonneg _ | ((repeat' refine And.intro ?_ ?_) <;> first | omega | exact Int.natCast_nonneg _ | (simp only [i64max, u8max, u16max, u32max, u64max]; omega) | (simp only [mulSz_eq, Cont.len, colsLen, Col.len, List.length_cons, List.length_nil, List.length_replicate, List.length_append]; first | done | omega) | (simp [mulSz, Cont.len, bne]; first | done | omega)))); conv => whnf)
    | (refine tst_in ?_ ?_; (focus (intro h_; exfalso; first | omega | ((try simp only [decide_eq_true_eq, decide_eq_false_iff_not] at h_); omega) | (simp [mulSz, Cont.len, bne] at h_; first | done | omega))); intro _; conv => whnf)
    | (refine tst_in ?_ ?_; rotate_left; (focus (intro h_; exfalso; first | omega | ((try simp only [decide_eq_true_eq, decide_eq_false_iff_not] at h_); omega) | (simp [mulSz, Cont.len, bne] at h_; first | done | omega))); intro _; conv => whnf)
    | (refine ⟨0, (show _ = _ by omega), ?_⟩; conv => whnf))
  refine ⟨_, [], S1, ?_⟩
  conv => whnf
  iterate 2
   refine And.intro ?_ ?_
   focus
    conv => whnf
    repeat' (first | exact True.intro | rfl | refine And.intro ?_ ?_ | omega)
    all_goals (conv => whnf)
    all_goals (try (first | rfl | omega | (simp; done)))
  conv => whnf
  refine ⟨?_, True.intro⟩
  intro _ _
  conv => whnf
  conv => whnf
  repeat (first
    | (refine And.intro ?_ ?_; (focus (first | omega | decide | exact EqOk.mk (by kernel_rfl) (by kernel_rfl) (by kernel_rfl) | exact Int.natCast_nonneg _ | ((repeat' refine And.intro ?_ ?_) <;> first | omega | exact Int.natCast_nonneg _ | (simp only [i64max, u8max, u16max, u32max, u64max]; omega) | (simp only [mulSz_eq, Cont.len, colsLen, Col.len, List.length_cons, List.length_nil, List.length_replicate, List.length_append]; first | done | omega) | (simp [mulSz, Cont.len, bne]; first | done | omega)))); conv => whnf)
    | (refine tst_in ?_ ?_; (focus (intro h_; exfalso; first | omega | ((try simp only [decide_eq_true_eq, decide_eq_false_iff_not] at h_); omega) | (simp [mulSz, Cont.len, bne] at h_; first | done | omega))); intro _; conv => whnf)
    | (refine tst_in ?_ ?_; rotate_left; (focus (intro h_; exfalso; first | omega | ((try simp only [decide_eq_true_eq, decide_eq_false_iff_not] at h_); omega) | (simp [mulSz, Cont.len, bne] at h_; first | done | omega))); intro _; conv => whnf)
    | (refine ⟨0, (show _ = _ by omega), ?_⟩; conv => whnf))
  refine .inl ⟨(), [], ?_⟩
  conv => whnf
  repeat' (first | exact True.intro | rfl | refine And.intro ?_ ?_)
  all_goals (conv => whnf)
  repeat' (first | exact True.intro | rfl | refine And.intro ?_ ?_)
  all_goals (try (first | omega | exact True.intro | rfl | assumption | (change LE.le (α := Nat) _ _; first | omega | (simp only [dLe_eq]; omega)) | (simp only [dLe_eq]; first | done | omega) | (simp [dLe_eq]; first | done | omega)))
end Go.Proofs.YtanogghfdamdcaaDoor

set_option linter.unusedVariables false
set_option linter.unusedSimpArgs false
namespace Go.Proofs.YtanogghfdamdcaaDoor
open Go Go.Fw
set_option exponentiation.threshold 2200
theorem near_is {b : Nat} {X : Int} (hb : b < 18446744073709551616) (h : InE b X) : ∃ r, V 12 r (nrst (X * 4096)) ∧ r < 18446744073709551616 ∧ QFits Tryd.prog 31 ⟨[.flt .f64 b], [], .tup [.flt .f64 r, .bool true]⟩ := by
  obtain ⟨y, t, p⟩ := h.pk
  obtain ⟨r, a, ⟨_, c⟩, d⟩ := Near_in hb h p
  exact ⟨r, a, c, d⟩
theorem pw61 : (2 : Int) ^ (1074 - 13) * 4096 = H := by unfold H; rw [show (4096 : Int) = 2 ^ 12 by decide, ← Int.pow_add]
theorem U2 : U = H * 2 := by unfold U H; rw [show (1074 : Nat) = 1073 + 1 from rfl, Int.pow_succ]
theorem V_x1 : V 1074 4548635623644200960 (1 * 2 ^ (1074 - 13)) := V_all (q := 13) (V_lit (q := 13) (s := false) (m := 4503599627370496) (i := -65) (by decide) (by decide) (by decide)) (by omega)
theorem V_x2 : V 1074 4555391023085256704 (3 * 2 ^ (1074 - 13)) := V_all (q := 13) (V_lit (q := 13) (s := false) (m := 6755399441055744) (i := -64) (by decide) (by decide) (by decide)) (by omega)
theorem V_x4 : V 12 4557642822898941952 2 := V_lit (q := 12) (s := false) (m := 4503599627370496) (i := -63) (by decide) (by decide) (by decide)
theorem lit_in {b : Nat} {n : Int} (hv : V 1074 b (n * 2 ^ (1074 - 13))) (h1 : 0 ≤ n) (h2 : n ≤ 3) : InE b (n * 2 ^ (1074 - 13)) ∧ n * 2 ^ (1074 - 13) * 4096 = n * H := by
  have e := pw61
  have u := U2
  have hp : (0 : Int) < 2 ^ (1074 - 13) := Int.pow_pos (by decide)
  have hm : n * 2 ^ (1074 - 13) * 4096 = n * H := by rw [Int.mul_assoc, e]
  refine ⟨⟨hv, ?_, ?_⟩, hm⟩
  · have := Int.mul_nonneg h1 (Int.le_of_lt hp)
    rw [u, ← e]
    generalize (2 : Int) ^ (1074 - 13) = q at *
    omega
  · rw [u, ← e]
    have := Int.mul_le_mul_of_nonneg_right h2 (Int.le_of_lt hp)
    generalize (2 : Int) ^ (1074 - 13) = q at *
    omega
theorem near_x1 : ∃ r, V 12 r 0 ∧ QFits Tryd.prog 31 ⟨[.flt .f64 4548635623644200960], [], .tup [.flt .f64 r, .bool true]⟩ := by
  obtain ⟨h, e⟩ := lit_in V_x1 (by decide) (by decide)
  obtain ⟨r, a, _, c⟩ := near_is (by decide) h
  refine ⟨r, ?_, c⟩
  rw [e, nrst_floor (n := 0) (by have := H_pos; omega) (by have := U2; have := H_pos; omega), if_neg (by omega)] at a
  exact a
theorem near_x2 : ∃ r, V 12 r 2 ∧ QFits Tryd.prog 31 ⟨[.flt .f64 4555391023085256704], [], .tup [.flt .f64 r, .bool true]⟩ := by
  obtain ⟨h, e⟩ := lit_in V_x2 (by decide) (by decide)
  obtain ⟨r, a, _, c⟩ := near_is (by decide) h
  refine ⟨r, ?_, c⟩
  rw [e, nrst_floor (n := 1) (by have := U2; have := H_pos; omega) (by have := U2; have := H_pos; omega), if_pos (by have := U2; right; constructor <;> omega)] at a
  exact a
theorem out_x3 : OutE 4652222813120233472 := by
  rcases in_or 4652222813120233472 with ⟨X, h⟩ | h
  · exact absurd h.le (by decide +kernel)
  · exact h
set_option maxHeartbeats 0 in
set_option maxRecDepth 100000 in
theorem awake_f : Fits Tryd.prog 30 ⟨[], [gS], [numOut [.dead] (.bool true)]⟩ := by
  obtain ⟨r1, a1, N1⟩ := near_x1
  obtain ⟨r2, a2, N2⟩ := near_x2
  have N3 := Near_out (by decide) out_x3
  have o1 : (D.order r1 0 == some .eq) = true := by rw [V_eqb a1 (V_zero 12 (by omega))]; decide
  have o2 : (D.order r2 4557642822898941952 == some .eq) = true := by rw [V_eqb a2 V_x4]; decide
  have SP := Split_12
  have X1 := Exact_f 20 33 (by decide) (by decide)
  have X2 := Exact_f 21 33 (by decide) (by decide)
  unfold fmA at X1 X2
  unfold gS at *
  refine fits_of_body (C := cfgk 1) (c := (Tryd.f30.body).getD .skip) (ts := [0]) tokL mixedL (fun _ => none) (fun _ => none)
    Tryd.func30 (by kernel_rfl) (by kernel_rfl) (by kernel_rfl) (by kernel_rfl) rfl ?_
  conv => whnf
  repeat (first
    | (refine And.intro ?_ ?_; (focus (first | omega | decide | exact EqOk.mk (by kernel_rfl) (by kernel_rfl) (by kernel_rfl) | exact Int.natCast_nonneg _ | ((repeat' refine And.intro ?_ ?_) <;> first | omega | exact Int.natCast_nonneg _ | (simp only [i64max, u8max, u16max, u32max, u64max]; omega) | (simp only [mulSz_eq, Cont.len, colsLen, Col.len, List.length_cons, List.length_nil, List.length_replicate, List.length_append]; first | done | omega) | (simp [mulSz, Cont.len, bne]; first | done | omega)))); conv => whnf)
    | (refine tst_in ?_ ?_; (focus (intro h_; exfalso; first | omega | ((try simp only [decide_eq_true_eq, decide_eq_false_iff_not] at h_); omega) | (simp [mulSz, Cont.len, bne] at h_; first | done | omega))); intro _; conv => whnf)
    | (refine tst_in ?_ ?_; rotate_left; (focus (intro h_; exfalso; first | omega | ((try simp only [decide_eq_true_eq, decide_eq_false_iff_not] at h_); omega) | (simp [mulSz, Cont.len, bne] at h_; first | done | omega))); intro _; conv => whnf)
    | (refine ⟨0, (show _ = _ by omega), ?_⟩; conv => whnf))
  refine ⟨_, [], N1, ?_⟩
  conv => whnf
  iterate 2
   refine And.intro ?_ ?_
   focus
    conv => whnf
    repeat' (first | exact True.intro | rfl | refine And.intro ?_ ?_ | omega)
    all_goals (conv => whnf)
    all_goals (try (first | rfl | omega | (simp; done)))
  conv => whnf
  conv => whnf
  repeat (first
    | (refine And.intro ?_ ?_; (focus (first | omega | decide | exact EqOk.mk (by kernel_rfl) (by kernel_rfl) (by kernel_rfl) | exact Int.natCast_nonneg _ | ((repeat' refine And.intro ?_ ?_) <;> first | omega | exact Int.natCast_nonneg _ | (simp only [i64max, u8max, u16max, u32max, u64max]; omega) | (simp only [mulSz_eq, Cont.len, colsLen, Col.len, List.length_cons, List.length_nil, List.length_replicate, List.length_append]; first | done | omega) | (simp [mulSz, Cont.len, bne]; first | done | omega)))); conv => whnf)
    | (refine tst_in ?_ ?_; (focus (intro h_; exfalso; first | omega | ((try simp only [decide_eq_true_eq, decide_eq_false_iff_not] at h_); omega) | (simp [mulSz, Cont.len, bne] at h_; first | done | omega))); intro _; conv => whnf)
    | (refine tst_in ?_ ?_; rotate_left; (focus (intro h_; exfalso; first | omega | ((try simp only [decide_eq_true_eq, decide_eq_false_iff_not] at h_); omega) | (simp [mulSz, Cont.len, bne] at h_; first | done | omega))); intro _; conv => whnf)
    | (refine ⟨0, (show _ = _ by omega), ?_⟩; conv => whnf))
  refine ⟨_, [], N2, ?_⟩
  conv => whnf
  iterate 2
   refine And.intro ?_ ?_
   focus
    conv => whnf
    repeat' (first | exact True.intro | rfl | refine And.intro ?_ ?_ | omega)
    all_goals (conv => whnf)
    all_goals (try (first | rfl | omega | (simp; done)))
  conv => whnf
  conv => whnf
  repeat (first
    | (refine And.intro ?_ ?_; (focus (first | omega | decide | exact EqOk.mk (by kernel_rfl) (by kernel_rfl) (by kernel_rfl) | exact Int.natCast_nonneg _ | ((repeat' refine And.intro ?_ ?_) <;> first | omega | exact Int.natCast_nonneg _ | (simp only [i64max, u8max, u16max, u32max, u64max]; omega) | (simp only [mulSz_eq, Cont.len, colsLen, Col.len, List.length_cons, List.length_nil, List.length_replicate, List.length_append]; first | done | omega) | (simp [mulSz, Cont.len, bne]; first | done | omega)))); conv => whnf)
    | (refine tst_in ?_ ?_; (focus (intro h_; exfalso; first | omega | ((try simp only [decide_eq_true_eq, decide_eq_false_iff_not] at h_); omega) | (simp [mulSz, Cont.len, bne] at h_; first | done | omega))); intro _; conv => whnf)
    | (refine tst_in ?_ ?_; rotate_left; (focus (intro h_; exfalso; first | omega | ((try simp only [decide_eq_true_eq, decide_eq_false_iff_not] at h_); omega) | (simp [mulSz, Cont.len, bne] at h_; first | done | omega))); intro _; conv => whnf)
    | (refine ⟨0, (show _ = _ by omega), ?_⟩; conv => whnf))
  refine ⟨_, [], N3, ?_⟩
  conv => whnf
  iterate 2
   refine And.intro ?_ ?_
   focus
    conv => whnf
    repeat' (first | exact True.intro | rfl | refine And.intro ?_ ?_ | omega)
    all_goals (conv => whnf)
    all_goals (try (first | rfl | omega | (simp; done)))
  conv => whnf
  conv => whnf
  repeat (first
    | (refine And.intro ?_ ?_; (focus (first | omega | decide | exact EqOk.mk (by kernel_rfl) (by kernel_rfl) (by kernel_rfl) | exact Int.natCast_nonneg _ | ((repeat' refine And.intro ?_ ?_) <;> first | omega | exact Int.natCast_nonneg _ | (simp only [i64max, u8max, u16max, u32max, u64max]; omega) | (simp only [mulSz_eq, Cont.len, colsLen, Col.len, List.length_cons, List.length_nil, List.length_replicate, List.length_append]; first | done | omega) | (simp [mulSz, Cont.len, bne]; first | done | omega)))); conv => whnf)
    | (refine tst_in ?_ ?_; (focus (intro h_; exfalso; first | omega | ((try simp only [decide_eq_true_eq, decide_eq_false_iff_not] at h_); omega) | (simp [mulSz, Cont.len, bne] at h_; first | done | omega))); intro _; conv => whnf)
    | (refine tst_in ?_ ?_; rotate_left; (focus (intro h_; exfalso; first | omega | ((try simp only [decide_eq_true_eq, decide_eq_false_iff_not] at h_); omega) | (simp [mulSz, Cont.len, bne] at h_; first | done | omega))); intro _; conv => whnf)
    | (refine ⟨0, (show _ = _ by omega), ?_⟩; conv => whnf))
  refine ⟨_, [0], SP, ?_⟩
  conv => whnf
  iterate 2
   refine And.intro ?_ ?_
   focus
    conv => whnf
    repeat' (first | exact True.intro | rfl | refine And.intro ?_ ?_)
    all_goals (conv => whnf)
    repeat' (first | exact True.intro | rfl | refine And.intro ?_ ?_)
    all_goals (try (first | rfl | omega | (simp; first | done | omega)))
  conv => whnf
  conv => whnf
  repeat (first
    | (refine And.intro ?_ ?_; (focus (first | omega | decide | exact EqOk.mk (by kernel_rfl) (by kernel_rfl) (by kernel_rfl) | exact Int.natCast_nonneg _ | ((repeat' refine And.intro ?_ ?_) <;> first | omega | exact Int.natCast_nonneg _ | (simp only [i64max, u8max, u16max, u32max, u64max]; omega) | (simp only [mulSz_eq, Cont.len, colsLen, Col.len, List.length_cons, List.length_nil, List.length_replicate, List.length_append]; first | done | omega) | (simp [mulSz, Cont.len, bne]; first | done | omega)))); conv => whnf)
    | (refine tst_in ?_ ?_; (focus (intro h_; exfalso; first | omega | ((try simp only [decide_eq_true_eq, decide_eq_false_iff_not] at h_); omega) | (simp [mulSz, Cont.len, bne] at h_; first | done | omega))); intro _; conv => whnf)
    | (refine tst_in ?_ ?_; rotate_left; (focus (intro h_; exfalso; first | omega | ((try simp only [decide_eq_true_eq, decide_eq_false_iff_not] at h_); omega) | (simp [mulSz, Cont.len, bne] at h_; first | done | omega))); intro _; conv => whnf)
    | (refine ⟨0, (show _ = _ by omega), ?_⟩; conv => whnf))
  refine tst_in (fun u => ?_) (fun u => absurd (o1.symm.trans u) (by decide))
  conv => whnf
  repeat (first
    | (refine And.intro ?_ ?_; (focus (first | omega | decide | exact EqOk.mk (by kernel_rfl) (by kernel_rfl) (by kernel_rfl) | exact Int.natCast_nonneg _ | ((repeat' refine And.intro ?_ ?_) <;> first | omega | exact Int.natCast_nonneg _ | (simp only [i64max, u8max, u16max, u32max, u64max]; omega) | (simp only [mulSz_eq, Cont.len, colsLen, Col.len, List.length_cons, List.length_nil, List.length_replicate, List.length_append]; first | done | omega) | (simp [mulSz, Cont.len, bne]; first | done | omega)))); conv => whnf)
    | (refine tst_in ?_ ?_; (focus (intro h_; exfalso; first | omega | ((try simp only [decide_eq_true_eq, decide_eq_false_iff_not] at h_); omega) | (simp [mulSz, Cont.len, bne] at h_; first | done | omega))); intro _; conv => whnf)
    | (refine tst_in ?_ ?_; rotate_left; (focus (intro h_; exfalso; first | omega | ((try simp only [decide_eq_true_eq, decide_eq_false_iff_not] at h_); omega) | (simp [mulSz, Cont.len, bne] at h_; first | done | omega))); intro _; conv => whnf)
    | (refine ⟨0, (show _ = _ by omega), ?_⟩; conv => whnf))
  refine tst_in (fun u => ?_) (fun u => absurd (o2.symm.trans u) (by decide))
  conv => whnf
  repeat (first
    | (refine And.intro ?_ ?_; (focus (first | omega | decide | exact EqOk.mk (by kernel_rfl) (by kernel_rfl) (by kernel_rfl) | exact Int.natCast_nonneg _ | ((repeat' refine And.intro ?_ ?_) <;> first | omega | exact Int.natCast_nonneg _ | (simp only [i64max, u8max, u16max, u32max, u64max]; omega) | (simp only [mulSz_eq, Cont.len, colsLen, Col.len, List.length_cons, List.length_nil, List.length_replicate, List.length_append]; first | done | omega) | (simp [mulSz, Cont.len, bne]; first | done | omega)))); conv => whnf)
    | (refine tst_in ?_ ?_; (focus (intro h_; exfalso; first | omega | ((try simp only [decide_eq_true_eq, decide_eq_false_iff_not] at h_); omega) | (simp [mulSz, Cont.len, bne] at h_; first | done | omega))); intro _; conv => whnf)
    | (refine tst_in ?_ ?_; rotate_left; (focus (intro h_; exfalso; first | omega | ((try simp only [decide_eq_true_eq, decide_eq_false_iff_not] at h_); omega) | (simp [mulSz, Cont.len, bne] at h_; first | done | omega))); intro _; conv => whnf)
    | (refine ⟨0, (show _ = _ by omega), ?_⟩; conv => whnf))
  refine ⟨_, [], X1, ?_⟩
  conv => whnf
  iterate 2
   refine And.intro ?_ ?_
   focus
    conv => whnf
    repeat' (first | exact True.intro | rfl | refine And.intro ?_ ?_ | omega)
    all_goals (conv => whnf)
    all_goals (try (first | rfl | omega | (simp; done)))
  conv => whnf
  refine ⟨?_, True.intro⟩
  intro _ _
  conv => whnf
  conv => whnf
  repeat (first
    | (refine And.intro ?_ ?_; (focus (first | omega | decide | exact EqOk.mk (by kernel_rfl) (by kernel_rfl) (by kernel_rfl) | exact Int.natCast_nonneg _ | ((repeat' refine And.intro ?_ ?_) <;> first | omega | exact Int.natCast_nonneg _ | (simp only [i64max, u8max, u16max, u32max, u64max]; omega) | (simp only [mulSz_eq, Cont.len, colsLen, Col.len, List.length_cons, List.length_nil, List.length_replicate, List.length_append]; first | done | omega) | (simp [mulSz, Cont.len, bne]; first | done | omega)))); conv => whnf)
    | (refine tst_in ?_ ?_; (focus (intro h_; exfalso; first | omega | ((try simp only [decide_eq_true_eq, decide_eq_false_iff_not] at h_); omega) | (simp [mulSz, Cont.len, bne] at h_; first | done | omega))); intro _; conv => whnf)
    | (refine tst_in ?_ ?_; rotate_left; (focus (intro h_; exfalso; first | omega | ((try simp only [decide_eq_true_eq, decide_eq_false_iff_not] at h_); omega) | (simp [mulSz, Cont.len, bne] at h_; first | done | omega))); intro _; conv => whnf)
    | (refine ⟨0, (show _ = _ by omega), ?_⟩; conv => whnf))
  refine ⟨_, [], X2, ?_⟩
  conv => whnf
  iterate 2
   refine And.intro ?_ ?_
   focus
    conv => whnf
    repeat' (first | exact True.intro | rfl | refine And.intro ?_ ?_ | omega)
    all_goals (conv => whnf)
    all_goals (try (first | rfl | omega | (simp; done)))
  conv => whnf
  refine ⟨?_, True.intro⟩
  intro _ _
  conv => whnf
  conv => whnf
  repeat (first
    | (refine And.intro ?_ ?_; (focus (first | omega | decide | exact EqOk.mk (by kernel_rfl) (by kernel_rfl) (by kernel_rfl) | exact Int.natCast_nonneg _ | ((repeat' refine And.intro ?_ ?_) <;> first | omega | exact Int.natCast_nonneg _ | (simp only [i64max, u8max, u16max, u32max, u64max]; omega) | (simp only [mulSz_eq, Cont.len, colsLen, Col.len, List.length_cons, List.length_nil, List.length_replicate, List.length_append]; first | done | omega) | (simp [mulSz, Cont.len, bne]; first | done | omega)))); conv => whnf)
    | (refine tst_in ?_ ?_; (focus (intro h_; exfalso; first | omega | ((try simp only [decide_eq_true_eq, decide_eq_false_iff_not] at h_); omega) | (simp [mulSz, Cont.len, bne] at h_; first | done | omega))); intro _; conv => whnf)
    | (refine tst_in ?_ ?_; rotate_left; (focus (intro h_; exfalso; first | omega | ((try simp only [decide_eq_true_eq, decide_eq_false_iff_not] at h_); omega) | (simp [mulSz, Cont.len, bne] at h_; first | done | omega))); intro _; conv => whnf)
    | (refine ⟨0, (show _ = _ by omega), ?_⟩; conv => whnf))
  refine .inl ⟨(), [0], ?_⟩
  conv => whnf
  repeat' (first | exact True.intro | rfl | refine And.intro ?_ ?_)
  all_goals (conv => whnf)
  repeat' (first | exact True.intro | rfl | refine And.intro ?_ ?_)
  all_goals (try omega)
end Go.Proofs.YtanogghfdamdcaaDoor

set_option linter.unusedVariables false
set_option linter.unusedSimpArgs false
namespace Go.Proofs.YtanogghfdamdcaaDoor
open Go Go.Fw
set_option exponentiation.threshold 2200
theorem V_ltb {q a b : Nat} {x y : Int} (ha : V q a x) (hb : V q b y) : (D.order a b == some .lt) = decide (x < y) := by
  rw [V_order ha hb]
  by_cases h : x < y
  · rw [decide_eq_true h, Int.compare_eq_lt.2 h]; rfl
  · rw [decide_eq_false h]
    have : compare x y ≠ .lt := fun q => h (Int.compare_eq_lt.1 q)
    cases hc : compare x y
    · exact absurd hc this
    · rfl
    · rfl
theorem V_xm : V 1074 13772007660498976768 ((-1) * 2 ^ (1074 - 13)) := V_all (q := 13) (V_lit (q := 13) (s := true) (m := 4503599627370496) (i := -65) (by decide) (by decide) (by decide)) (by omega)
set_option maxHeartbeats 0 in
set_option maxRecDepth 100000 in
theorem law_w {b g r d : Nat} {x n m : Int} {p1 p2 : Bool} (FQ : QFits Tryd.prog 9 ⟨[.int .u64 x], [], .flt .f64 b⟩) (hm : m = n.tmod 4194304)
    (OQ : QFits Tryd.prog 33 ⟨[.int .i32 m], [], .tup [.flt .f64 g, .int .i64 0]⟩) (h1 : (D.order b 13772007660498976768 == some .gt) = p1) (h2 : (D.order b 4548635623644200960 == some .lt) = p2)
    (hw : p1 = true → p2 = true → floatBits .add .f64 g b = some r ∧ floatBits .sub .f64 r g = some d ∧ ((D.order d b != some .eq) = false → (D.order r 4652218415073722368 == some .gt) = false → (D.order r 13875590451928498176 == some .lt) = false → ∃ a, QFits Tryd.prog 31 ⟨[.flt .f64 r], [], .tup [.flt .f64 a, .bool true]⟩ ∧ (D.order a g == some .eq) = true)) :
    Fits Tryd.prog 6 ⟨[.int .i32 n, .int .u64 x], [gS], [numOut [.dead] (.bool true)]⟩ := by
  have AW := awake_f
  unfold gS at *
  refine fits_of_body (C := cfgk 1) (c := (Tryd.f6.body).getD .skip) (ts := [4]) tokL mixedL (fun _ => none) (fun _ => none)
    Tryd.func6 (by kernel_rfl) (by kernel_rfl) (by kernel_rfl) (by kernel_rfl) rfl ?_
  conv => whnf
  repeat (first
    | (refine And.intro ?_ ?_; (focus (first | omega | decide | exact EqOk.mk (by kernel_rfl) (by kernel_rfl) (by kernel_rfl) | exact Int.natCast_nonneg _ | ((repeat' refine And.intro ?_ ?_) <;> first | omega | exact Int.natCast_nonneg _ | (simp only [i64max, u8max, u16max, u32max, u64max]; omega) | (simp only [mulSz_eq, Cont.len, colsLen, Col.len, List.length_cons, List.length_nil, List.length_replicate, List.length_append]; first | done | omega) | (simp [mulSz, Cont.len, bne]; first | done | omega)))); conv => whnf)
    | (refine tst_in ?_ ?_; (focus (intro h_; exfalso; first | omega | ((try simp only [decide_eq_true_eq, decide_eq_false_iff_not] at h_); omega) | (simp [mulSz, Cont.len, bne] at h_; first | done | omega))); intro _; conv => whnf)
    | (refine tst_in ?_ ?_; rotate_left; (focus (intro h_; exfalso; first | omega | ((try simp only [decide_eq_true_eq, decide_eq_false_iff_not] at h_); omega) | (simp [mulSz, Cont.len, bne] at h_; first | done | omega))); intro _; conv => whnf)
    | (refine ⟨0, (show _ = _ by omega), ?_⟩; conv => whnf))
  refine ⟨_, [0], AW, ?_⟩
  conv => whnf
  iterate 2
   refine And.intro ?_ ?_
   focus
    conv => whnf
    repeat' (first | exact True.intro | rfl | refine And.intro ?_ ?_ | omega)
    all_goals (conv => whnf)
    all_goals (try (first | rfl | omega | (simp; done)))
  conv => whnf
  refine ⟨?_, True.intro⟩
  intro _ _
  conv => whnf
  conv => whnf
  repeat (first
    | (refine And.intro ?_ ?_; (focus (first | omega | decide | exact EqOk.mk (by kernel_rfl) (by kernel_rfl) (by kernel_rfl) | exact Int.natCast_nonneg _ | ((repeat' refine And.intro ?_ ?_) <;> first | omega | exact Int.natCast_nonneg _ | (simp only [i64max, u8max, u16max, u32max, u64max]; omega) | (simp only [mulSz_eq, Cont.len, colsLen, Col.len, List.length_cons, List.length_nil, List.length_replicate, List.length_append]; first | done | omega) | (simp [mulSz, Cont.len, bne]; first | done | omega)))); conv => whnf)
    | (refine tst_in ?_ ?_; (focus (intro h_; exfalso; first | omega | ((try simp only [decide_eq_true_eq, decide_eq_false_iff_not] at h_); omega) | (simp [mulSz, Cont.len, bne] at h_; first | done | omega))); intro _; conv => whnf)
    | (refine tst_in ?_ ?_; rotate_left; (focus (intro h_; exfalso; first | omega | ((try simp only [decide_eq_true_eq, decide_eq_false_iff_not] at h_); omega) | (simp [mulSz, Cont.len, bne] at h_; first | done | omega))); intro _; conv => whnf)
    | (refine ⟨0, (show _ = _ by omega), ?_⟩; conv => whnf))
  rw [← hm]
  refine ⟨_, [], OQ, ?_⟩
  conv => whnf
  iterate 2
   refine And.intro ?_ ?_
   focus
    conv => whnf
    repeat' (first | exact True.intro | rfl | refine And.intro ?_ ?_ | omega)
    all_goals (conv => whnf)
    all_goals (try (first | rfl | omega | (simp; done)))
  conv => whnf
  conv => whnf
  repeat (first
    | (refine And.intro ?_ ?_; (focus (first | omega | decide | exact EqOk.mk (by kernel_rfl) (by kernel_rfl) (by kernel_rfl) | exact Int.natCast_nonneg _ | ((repeat' refine And.intro ?_ ?_) <;> first | omega | exact Int.natCast_nonneg _ | (simp only [i64max, u8max, u16max, u32max, u64max]; omega) | (simp only [mulSz_eq, Cont.len, colsLen, Col.len, List.length_cons, List.length_nil, List.length_replicate, List.length_append]; first | done | omega) | (simp [mulSz, Cont.len, bne]; first | done | omega)))); conv => whnf)
    | (refine tst_in ?_ ?_; (focus (intro h_; exfalso; first | omega | ((try simp only [decide_eq_true_eq, decide_eq_false_iff_not] at h_); omega) | (simp [mulSz, Cont.len, bne] at h_; first | done | omega))); intro _; conv => whnf)
    | (refine tst_in ?_ ?_; rotate_left; (focus (intro h_; exfalso; first | omega | ((try simp only [decide_eq_true_eq, decide_eq_false_iff_not] at h_); omega) | (simp [mulSz, Cont.len, bne] at h_; first | done | omega))); intro _; conv => whnf)
    | (refine ⟨0, (show _ = _ by omega), ?_⟩; conv => whnf))
  refine ⟨_, [], FQ, ?_⟩
  conv => whnf
  iterate 2
   refine And.intro ?_ ?_
   focus
    conv => whnf
    repeat' (first | exact True.intro | rfl | refine And.intro ?_ ?_ | omega)
    all_goals (conv => whnf)
    all_goals (try (first | rfl | omega | (simp; done)))
  conv => whnf
  conv => whnf
  repeat (first
    | (refine And.intro ?_ ?_; (focus (first | omega | decide | exact EqOk.mk (by kernel_rfl) (by kernel_rfl) (by kernel_rfl) | exact Int.natCast_nonneg _ | ((repeat' refine And.intro ?_ ?_) <;> first | omega | exact Int.natCast_nonneg _ | (simp only [i64max, u8max, u16max, u32max, u64max]; omega) | (simp only [mulSz_eq, Cont.len, colsLen, Col.len, List.length_cons, List.length_nil, List.length_replicate, List.length_append]; first | done | omega) | (simp [mulSz, Cont.len, bne]; first | done | omega)))); conv => whnf)
    | (refine tst_in ?_ ?_; (focus (intro h_; exfalso; first | omega | ((try simp only [decide_eq_true_eq, decide_eq_false_iff_not] at h_); omega) | (simp [mulSz, Cont.len, bne] at h_; first | done | omega))); intro _; conv => whnf)
    | (refine tst_in ?_ ?_; rotate_left; (focus (intro h_; exfalso; first | omega | ((try simp only [decide_eq_true_eq, decide_eq_false_iff_not] at h_); omega) | (simp [mulSz, Cont.len, bne] at h_; first | done | omega))); intro _; conv => whnf)
    | (refine ⟨0, (show _ = _ by omega), ?_⟩; conv => whnf))
  cases p1
  · refine tst_in (fun u => absurd (h1.symm.trans u) (by decide)) (fun u => ?_)
    conv => whnf
    repeat (first
      | (refine And.intro ?_ ?_; (focus (first | omega | decide | exact EqOk.mk (by kernel_rfl) (by kernel_rfl) (by kernel_rfl) | exact Int.natCast_nonneg _ | ((repeat' refine And.intro ?_ ?_) <;> first | omega | exact Int.natCast_nonneg _ | (simp only [i64max, u8max, u16max, u32max, u64max]; omega) | (simp only [mulSz_eq, Cont.len, colsLen, Col.len, List.length_cons, List.length_nil, List.length_replicate, List.length_append]; first | done | omega) | (simp [mulSz, Cont.len, bne]; first | done | omega)))); conv => whnf)
      | (refine tst_in ?_ ?_; (focus (intro h_; exfalso; first | omega | ((try simp only [decide_eq_true_eq, decide_eq_false_iff_not] at h_); omega) | (simp [mulSz, Cont.len, bne] at h_; first | done | omega))); intro _; conv => whnf)
      | (refine tst_in ?_ ?_; rotate_left; (focus (intro h_; exfalso; first | omega | ((try simp only [decide_eq_true_eq, decide_eq_false_iff_not] at h_); omega) | (simp [mulSz, Cont.len, bne] at h_; first | done | omega))); intro _; conv => whnf)
      | (refine ⟨0, (show _ = _ by omega), ?_⟩; conv => whnf))
    refine .inl ⟨(), [0], ?_⟩
    conv => whnf
    repeat' (first | exact True.intro | rfl | refine And.intro ?_ ?_)
    all_goals (conv => whnf)
    repeat' (first | exact True.intro | rfl | refine And.intro ?_ ?_)
    all_goals (try omega)
  · refine tst_in (fun u => ?_) (fun u => absurd (h1.symm.trans u) (by decide))
    conv => whnf
    repeat (first
      | (refine And.intro ?_ ?_; (focus (first | omega | decide | exact EqOk.mk (by kernel_rfl) (by kernel_rfl) (by kernel_rfl) | exact Int.natCast_nonneg _ | ((repeat' refine And.intro ?_ ?_) <;> first | omega | exact Int.natCast_nonneg _ | (simp only [i64max, u8max, u16max, u32max, u64max]; omega) | (simp only [mulSz_eq, Cont.len, colsLen, Col.len, List.length_cons, List.length_nil, List.length_replicate, List.length_append]; first | done | omega) | (simp [mulSz, Cont.len, bne]; first | done | omega)))); conv => whnf)
      | (refine tst_in ?_ ?_; (focus (intro h_; exfalso; first | omega | ((try simp only [decide_eq_true_eq, decide_eq_false_iff_not] at h_); omega) | (simp [mulSz, Cont.len, bne] at h_; first | done | omega))); intro _; conv => whnf)
      | (refine tst_in ?_ ?_; rotate_left; (focus (intro h_; exfalso; first | omega | ((try simp only [decide_eq_true_eq, decide_eq_false_iff_not] at h_); omega) | (simp [mulSz, Cont.len, bne] at h_; first | done | omega))); intro _; conv => whnf)
      | (refine ⟨0, (show _ = _ by omega), ?_⟩; conv => whnf))
    cases p2
    · refine tst_in (fun u => ?_) (fun u => absurd u (by rw [show (FloatKind.f64.format.order b 4548635623644200960 == some Ordering.lt) = false from h2]; decide))
      conv => whnf
      repeat (first
        | (refine And.intro ?_ ?_; (focus (first | omega | decide | exact EqOk.mk (by kernel_rfl) (by kernel_rfl) (by kernel_rfl) | exact Int.natCast_nonneg _ | ((repeat' refine And.intro ?_ ?_) <;> first | omega | exact Int.natCast_nonneg _ | (simp only [i64max, u8max, u16max, u32max, u64max]; omega) | (simp only [mulSz_eq, Cont.len, colsLen, Col.len, List.length_cons, List.length_nil, List.length_replicate, List.length_append]; first | done | omega) | (simp [mulSz, Cont.len, bne]; first | done | omega)))); conv => whnf)
        | (refine tst_in ?_ ?_; (focus (intro h_; exfalso; first | omega | ((try simp only [decide_eq_true_eq, decide_eq_false_iff_not] at h_); omega) | (simp [mulSz, Cont.len, bne] at h_; first | done | omega))); intro _; conv => whnf)
        | (refine tst_in ?_ ?_; rotate_left; (focus (intro h_; exfalso; first | omega | ((try simp only [decide_eq_true_eq, decide_eq_false_iff_not] at h_); omega) | (simp [mulSz, Cont.len, bne] at h_; first | done | omega))); intro _; conv => whnf)
        | (refine ⟨0, (show _ = _ by omega), ?_⟩; conv => whnf))
      refine .inl ⟨(), [0], ?_⟩
      conv => whnf
      repeat' (first | exact True.intro | rfl | refine And.intro ?_ ?_)
      all_goals (conv => whnf)
      repeat' (first | exact True.intro | rfl | refine And.intro ?_ ?_)
      all_goals (try omega)
    · refine tst_in (fun u => absurd u (by rw [show (FloatKind.f64.format.order b 4548635623644200960 == some Ordering.lt) = true from h2]; decide)) (fun u => ?_)
      obtain ⟨w1, w2, w3⟩ := hw rfl rfl
      conv => whnf
      repeat (first
        | (refine And.intro ?_ ?_; (focus (first | omega | decide | exact EqOk.mk (by kernel_rfl) (by kernel_rfl) (by kernel_rfl) | exact Int.natCast_nonneg _ | ((repeat' refine And.intro ?_ ?_) <;> first | omega | exact Int.natCast_nonneg _ | (simp only [i64max, u8max, u16max, u32max, u64max]; omega) | (simp only [mulSz_eq, Cont.len, colsLen, Col.len, List.length_cons, List.length_nil, List.length_replicate, List.length_append]; first | done | omega) | (simp [mulSz, Cont.len, bne]; first | done | omega)))); conv => whnf)
        | (refine tst_in ?_ ?_; (focus (intro h_; exfalso; first | omega | ((try simp only [decide_eq_true_eq, decide_eq_false_iff_not] at h_); omega) | (simp [mulSz, Cont.len, bne] at h_; first | done | omega))); intro _; conv => whnf)
        | (refine tst_in ?_ ?_; rotate_left; (focus (intro h_; exfalso; first | omega | ((try simp only [decide_eq_true_eq, decide_eq_false_iff_not] at h_); omega) | (simp [mulSz, Cont.len, bne] at h_; first | done | omega))); intro _; conv => whnf)
        | (refine ⟨0, (show _ = _ by omega), ?_⟩; conv => whnf))
      refine ⟨r, w1, ?_⟩
      conv => whnf
      repeat (first
        | (refine And.intro ?_ ?_; (focus (first | omega | decide | exact EqOk.mk (by kernel_rfl) (by kernel_rfl) (by kernel_rfl) | exact Int.natCast_nonneg _ | ((repeat' refine And.intro ?_ ?_) <;> first | omega | exact Int.natCast_nonneg _ | (simp only [i64max, u8max, u16max, u32max, u64max]; omega) | (simp only [mulSz_eq, Cont.len, colsLen, Col.len, List.length_cons, List.length_nil, List.length_replicate, List.length_append]; first | done | omega) | (simp [mulSz, Cont.len, bne]; first | done | omega)))); conv => whnf)
        | (refine tst_in ?_ ?_; (focus (intro h_; exfalso; first | omega | ((try simp only [decide_eq_true_eq, decide_eq_false_iff_not] at h_); omega) | (simp [mulSz, Cont.len, bne] at h_; first | done | omega))); intro _; conv => whnf)
        | (refine tst_in ?_ ?_; rotate_left; (focus (intro h_; exfalso; first | omega | ((try simp only [decide_eq_true_eq, decide_eq_false_iff_not] at h_); omega) | (simp [mulSz, Cont.len, bne] at h_; first | done | omega))); intro _; conv => whnf)
        | (refine ⟨0, (show _ = _ by omega), ?_⟩; conv => whnf))
      refine ⟨d, w2, ?_⟩
      conv => whnf
      repeat (first
        | (refine And.intro ?_ ?_; (focus (first | omega | decide | exact EqOk.mk (by kernel_rfl) (by kernel_rfl) (by kernel_rfl) | exact Int.natCast_nonneg _ | ((repeat' refine And.intro ?_ ?_) <;> first | omega | exact Int.natCast_nonneg _ | (simp only [i64max, u8max, u16max, u32max, u64max]; omega) | (simp only [mulSz_eq, Cont.len, colsLen, Col.len, List.length_cons, List.length_nil, List.length_replicate, List.length_append]; first | done | omega) | (simp [mulSz, Cont.len, bne]; first | done | omega)))); conv => whnf)
        | (refine tst_in ?_ ?_; (focus (intro h_; exfalso; first | omega | ((try simp only [decide_eq_true_eq, decide_eq_false_iff_not] at h_); omega) | (simp [mulSz, Cont.len, bne] at h_; first | done | omega))); intro _; conv => whnf)
        | (refine tst_in ?_ ?_; rotate_left; (focus (intro h_; exfalso; first | omega | ((try simp only [decide_eq_true_eq, decide_eq_false_iff_not] at h_); omega) | (simp [mulSz, Cont.len, bne] at h_; first | done | omega))); intro _; conv => whnf)
        | (refine ⟨0, (show _ = _ by omega), ?_⟩; conv => whnf))
      refine tst_in (fun u1 => ?_) (fun u1 => ?_)
      · skip
        conv => whnf
        repeat (first
          | (refine And.intro ?_ ?_; (focus (first | omega | decide | exact EqOk.mk (by kernel_rfl) (by kernel_rfl) (by kernel_rfl) | exact Int.natCast_nonneg _ | ((repeat' refine And.intro ?_ ?_) <;> first | omega | exact Int.natCast_nonneg _ | (simp only [i64max, u8max, u16max, u32max, u64max]; omega) | (simp only [mulSz_eq, Cont.len, colsLen, Col.len, List.length_cons, List.length_nil, List.length_replicate, List.length_append]; first | done | omega) | (simp [mulSz, Cont.len, bne]; first | done | omega)))); conv => whnf)
          | (refine tst_in ?_ ?_; (focus (intro h_; exfalso; first | omega | ((try simp only [decide_eq_true_eq, decide_eq_false_iff_not] at h_); omega) | (simp [mulSz, Cont.len, bne] at h_; first | done | omega))); intro _; conv => whnf)
          | (refine tst_in ?_ ?_; rotate_left; (focus (intro h_; exfalso; first | omega | ((try simp only [decide_eq_true_eq, decide_eq_false_iff_not] at h_); omega) | (simp [mulSz, Cont.len, bne] at h_; first | done | omega))); intro _; conv => whnf)
          | (refine ⟨0, (show _ = _ by omega), ?_⟩; conv => whnf))
        refine .inl ⟨(), [0], ?_⟩
        conv => whnf
        repeat' (first | exact True.intro | rfl | refine And.intro ?_ ?_)
        all_goals (conv => whnf)
        repeat' (first | exact True.intro | rfl | refine And.intro ?_ ?_)
        all_goals (try omega)
      · skip
        conv => whnf
        repeat (first
          | (refine And.intro ?_ ?_; (focus (first | omega | decide | exact EqOk.mk (by kernel_rfl) (by kernel_rfl) (by kernel_rfl) | exact Int.natCast_nonneg _ | ((repeat' refine And.intro ?_ ?_) <;> first | omega | exact Int.natCast_nonneg _ | (simp only [i64max, u8max, u16max, u32max, u64max]; omega) | (simp only [mulSz_eq, Cont.len, colsLen, Col.len, List.length_cons, List.length_nil, List.length_replicate, List.length_append]; first | done | omega) | (simp [mulSz, Cont.len, bne]; first | done | omega)))); conv => whnf)
          | (refine tst_in ?_ ?_; (focus (intro h_; exfalso; first | omega | ((try simp only [decide_eq_true_eq, decide_eq_false_iff_not] at h_); omega) | (simp [mulSz, Cont.len, bne] at h_; first | done | omega))); intro _; conv => whnf)
          | (refine tst_in ?_ ?_; rotate_left; (focus (intro h_; exfalso; first | omega | ((try simp only [decide_eq_true_eq, decide_eq_false_iff_not] at h_); omega) | (simp [mulSz, Cont.len, bne] at h_; first | done | omega))); intro _; conv => whnf)
          | (refine ⟨0, (show _ = _ by omega), ?_⟩; conv => whnf))
        refine tst_in (fun u2 => ?_) (fun u2 => ?_)
        · skip
          conv => whnf
          repeat (first
            | (refine And.intro ?_ ?_; (focus (first | omega | decide | exact EqOk.mk (by kernel_rfl) (by kernel_rfl) (by kernel_rfl) | exact Int.natCast_nonneg _ | ((repeat' refine And.intro ?_ ?_) <;> first | omega | exact Int.natCast_nonneg _ | (simp only [i64max, u8max, u16max, u32max, u64max]; omega) | (simp only [mulSz_eq, Cont.len, colsLen, Col.len, List.length_cons, List.length_nil, List.length_replicate, List.length_append]; first | done | omega) | (simp [mulSz, Cont.len, bne]; first | done | omega)))); conv => whnf)
            | (refine tst_in ?_ ?_; (focus (intro h_; exfalso; first | omega | ((try simp only [decide_eq_true_eq, decide_eq_false_iff_not] at h_); omega) | (simp [mulSz, Cont.len, bne] at h_; first | done | omega))); intro _; conv => whnf)
            | (refine tst_in ?_ ?_; rotate_left; (focus (intro h_; exfalso; first | omega | ((try simp only [decide_eq_true_eq, decide_eq_false_iff_not] at h_); omega) | (simp [mulSz, Cont.len, bne] at h_; first | done | omega))); intro _; conv => whnf)
            | (refine ⟨0, (show _ = _ by omega), ?_⟩; conv => whnf))
          refine .inl ⟨(), [0], ?_⟩
          conv => whnf
          repeat' (first | exact True.intro | rfl | refine And.intro ?_ ?_)
          all_goals (conv => whnf)
          repeat' (first | exact True.intro | rfl | refine And.intro ?_ ?_)
          all_goals (try omega)
        · skip
          conv => whnf
          repeat (first
            | (refine And.intro ?_ ?_; (focus (first | omega | decide | exact EqOk.mk (by kernel_rfl) (by kernel_rfl) (by kernel_rfl) | exact Int.natCast_nonneg _ | ((repeat' refine And.intro ?_ ?_) <;> first | omega | exact Int.natCast_nonneg _ | (simp only [i64max, u8max, u16max, u32max, u64max]; omega) | (simp only [mulSz_eq, Cont.len, colsLen, Col.len, List.length_cons, List.length_nil, List.length_replicate, List.length_append]; first | done | omega) | (simp [mulSz, Cont.len, bne]; first | done | omega)))); conv => whnf)
            | (refine tst_in ?_ ?_; (focus (intro h_; exfalso; first | omega | ((try simp only [decide_eq_true_eq, decide_eq_false_iff_not] at h_); omega) | (simp [mulSz, Cont.len, bne] at h_; first | done | omega))); intro _; conv => whnf)
            | (refine tst_in ?_ ?_; rotate_left; (focus (intro h_; exfalso; first | omega | ((try simp only [decide_eq_true_eq, decide_eq_false_iff_not] at h_); omega) | (simp [mulSz, Cont.len, bne] at h_; first | done | omega))); intro _; conv => whnf)
            | (refine ⟨0, (show _ = _ by omega), ?_⟩; conv => whnf))
          refine tst_in (fun u3 => ?_) (fun u3 => ?_)
          · skip
            conv => whnf
            repeat (first
              | (refine And.intro ?_ ?_; (focus (first | omega | decide | exact EqOk.mk (by kernel_rfl) (by kernel_rfl) (by kernel_rfl) | exact Int.natCast_nonneg _ | ((repeat' refine And.intro ?_ ?_) <;> first | omega | exact Int.natCast_nonneg _ | (simp only [i64max, u8max, u16max, u32max, u64max]; omega) | (simp only [mulSz_eq, Cont.len, colsLen, Col.len, List.length_cons, List.length_nil, List.length_replicate, List.length_append]; first | done | omega) | (simp [mulSz, Cont.len, bne]; first | done | omega)))); conv => whnf)
              | (refine tst_in ?_ ?_; (focus (intro h_; exfalso; first | omega | ((try simp only [decide_eq_true_eq, decide_eq_false_iff_not] at h_); omega) | (simp [mulSz, Cont.len, bne] at h_; first | done | omega))); intro _; conv => whnf)
              | (refine tst_in ?_ ?_; rotate_left; (focus (intro h_; exfalso; first | omega | ((try simp only [decide_eq_true_eq, decide_eq_false_iff_not] at h_); omega) | (simp [mulSz, Cont.len, bne] at h_; first | done | omega))); intro _; conv => whnf)
              | (refine ⟨0, (show _ = _ by omega), ?_⟩; conv => whnf))
            refine .inl ⟨(), [0], ?_⟩
            conv => whnf
            repeat' (first | exact True.intro | rfl | refine And.intro ?_ ?_)
            all_goals (conv => whnf)
            repeat' (first | exact True.intro | rfl | refine And.intro ?_ ?_)
            all_goals (try omega)
          · skip
            obtain ⟨a, a1, a2⟩ := w3 u1 u2 u3
            conv => whnf
            repeat (first
              | (refine And.intro ?_ ?_; (focus (first | omega | decide | exact EqOk.mk (by kernel_rfl) (by kernel_rfl) (by kernel_rfl) | exact Int.natCast_nonneg _ | ((repeat' refine And.intro ?_ ?_) <;> first | omega | exact Int.natCast_nonneg _ | (simp only [i64max, u8max, u16max, u32max, u64max]; omega) | (simp only [mulSz_eq, Cont.len, colsLen, Col.len, List.length_cons, List.length_nil, List.length_replicate, List.length_append]; first | done | omega) | (simp [mulSz, Cont.len, bne]; first | done | omega)))); conv => whnf)
              | (refine tst_in ?_ ?_; (focus (intro h_; exfalso; first | omega | ((try simp only [decide_eq_true_eq, decide_eq_false_iff_not] at h_); omega) | (simp [mulSz, Cont.len, bne] at h_; first | done | omega))); intro _; conv => whnf)
              | (refine tst_in ?_ ?_; rotate_left; (focus (intro h_; exfalso; first | omega | ((try simp only [decide_eq_true_eq, decide_eq_false_iff_not] at h_); omega) | (simp [mulSz, Cont.len, bne] at h_; first | done | omega))); intro _; conv => whnf)
              | (refine ⟨0, (show _ = _ by omega), ?_⟩; conv => whnf))
            refine ⟨_, [], a1, ?_⟩
            conv => whnf
            iterate 2
             refine And.intro ?_ ?_
             focus
              conv => whnf
              repeat' (first | exact True.intro | rfl | refine And.intro ?_ ?_ | omega)
              all_goals (conv => whnf)
              all_goals (try (first | rfl | omega | (simp; done)))
            conv => whnf
            conv => whnf
            repeat (first
              | (refine And.intro ?_ ?_; (focus (first | omega | decide | exact EqOk.mk (by kernel_rfl) (by kernel_rfl) (by kernel_rfl) | exact Int.natCast_nonneg _ | ((repeat' refine And.intro ?_ ?_) <;> first | omega | exact Int.natCast_nonneg _ | (simp only [i64max, u8max, u16max, u32max, u64max]; omega) | (simp only [mulSz_eq, Cont.len, colsLen, Col.len, List.length_cons, List.length_nil, List.length_replicate, List.length_append]; first | done | omega) | (simp [mulSz, Cont.len, bne]; first | done | omega)))); conv => whnf)
              | (refine tst_in ?_ ?_; (focus (intro h_; exfalso; first | omega | ((try simp only [decide_eq_true_eq, decide_eq_false_iff_not] at h_); omega) | (simp [mulSz, Cont.len, bne] at h_; first | done | omega))); intro _; conv => whnf)
              | (refine tst_in ?_ ?_; rotate_left; (focus (intro h_; exfalso; first | omega | ((try simp only [decide_eq_true_eq, decide_eq_false_iff_not] at h_); omega) | (simp [mulSz, Cont.len, bne] at h_; first | done | omega))); intro _; conv => whnf)
              | (refine ⟨0, (show _ = _ by omega), ?_⟩; conv => whnf))
            refine .inl ⟨(), [0], ?_⟩
            conv => whnf
            repeat' (first | exact True.intro | rfl | refine And.intro ?_ ?_)
            all_goals (conv => whnf)
            repeat' (first | exact True.intro | rfl | refine And.intro ?_ ?_)
            all_goals (try omega)
            exact a2.symm
theorem natabs_lt {D : Int} (h : D.natAbs < 2 ^ 1061) : D * 4096 < H ∧ -(D * 4096) < H := by
  have e : (2 : Int) ^ 1061 * 4096 = H := by unfold H; rw [show (4096 : Int) = 2 ^ 12 by decide, ← Int.pow_add]
  have c : ((2 ^ 1061 : Nat) : Int) = (2 : Int) ^ 1061 := by rw [Int.natCast_pow]; rfl
  rw [← e]
  generalize (2 : Int) ^ 1061 = p at *
  generalize (2 : Nat) ^ 1061 = q at *
  omega
theorem law_f {n x : Int} (hx0 : 0 ≤ x) (hx : x < 18446744073709551616) : Fits Tryd.prog 6 ⟨[.int .i32 n, .int .u64 x], [gS], [numOut [.dead] (.bool true)]⟩ := by
  have FQ := float_q x
  have hb : x.toNat < 18446744073709551616 := by omega
  generalize x.toNat = b at *
  obtain ⟨m, hm⟩ : ∃ m, m = n.tmod 4194304 := ⟨_, rfl⟩
  have m1 : -4194304 < m ∧ m < 4194304 := by
    have := Int.tmod_lt_of_pos n (show (0 : Int) < 4194304 by decide)
    have := Int.lt_tmod_of_pos n (show (0 : Int) < 4194304 by decide)
    omega
  obtain ⟨g, g1, g2⟩ := div4k (V_ofInt m (by omega) (by omega)) (by omega) (by omega)
  have OQ := Of_y (by omega) (by omega) g1
  have hg := V_all g2 (by omega)
  have pw := pw61
  have hp62 : (2 : Int) ^ (1074 - 12) * 4096 = U := by unfold U; rw [show (4096 : Int) = 2 ^ 12 by decide, ← Int.pow_add]
  rcases fin_or b with ⟨X, hv⟩ | hv
  · by_cases hsm : (-1) * 2 ^ (1074 - 13) < X ∧ X < 1 * 2 ^ (1074 - 13)
    · have hX : X.natAbs < 2 ^ 1061 := by
        have c : ((2 ^ 1061 : Nat) : Int) = (2 : Int) ^ (1074 - 13) := by rw [Int.natCast_pow]; rfl
        generalize (2 : Int) ^ (1074 - 13) = p at *
        generalize (2 : Nat) ^ 1061 = q at *
        omega
      have hg0 := hg
      have hv1 := hv
      unfold V at hg0 hv1
      obtain ⟨s, k, i, e1, e2⟩ := hg0
      obtain ⟨t, l, j, e3, e4⟩ := hv1
      obtain ⟨w, T, base, hbs, _, k1, _⟩ := sum_write e1 e3
      rcases wr_two w T.natAbs base hbs with c | ⟨M, P, c⟩
      · obtain ⟨d, d1, d2⟩ := inf_dif c hg hv
        refine law_w FQ hm OQ rfl rfl fun _ _ => ⟨k1, d1, fun u => ?_⟩
        rw [bne, d2] at u; cases u
      · have hS := V_fin c
        generalize Ieee.signed w M (P + 1074).toNat = S at hS
        generalize D.write (.number w T.natAbs base) = r at *
        have hS0 := hS
        unfold V at hS0
        obtain ⟨s5, k5, i5, e5, _⟩ := hS0
        obtain ⟨w6, T6, b6, _, _, d1, _⟩ := dif_write e5 e1
        refine law_w FQ hm OQ rfl rfl fun _ _ => ⟨k1, d1, fun u1 u2 u3 => ?_⟩
        have u1' : (D.order (D.write (.number w6 T6.natAbs b6)) b == some .eq) = true := by
          rw [bne] at u1
          cases hq : (D.order (D.write (.number w6 T6.natAbs b6)) b == some .eq)
          · rw [hq] at u1; cases u1
          · rfl
        have hd := natabs_lt (dif_small hS hg hv hX d1 u1')
        rw [V_gtb hS V_cP] at u2
        rw [V_ltb hS V_cM] at u3
        have u2 := of_decide_eq_false u2
        have u3 := of_decide_eq_false u3
        have hr : r < 18446744073709551616 := sum_lt k1
        obtain ⟨a, a1, _, a3⟩ := near_is hr ⟨hS, by omega, by omega⟩
        refine ⟨a, a3, ?_⟩
        have hmU : m * 2 ^ (1074 - 12) * 4096 = m * U := by rw [Int.mul_assoc, hp62]
        rw [nrst_at (N := m) (by rw [← hmU]; omega) (by rw [← hmU]; omega)] at a1
        rw [V_eqb a1 g2, decide_eq_true rfl]
    · refine law_w (r := 0) (d := 0) FQ hm OQ rfl rfl fun p1 p2 => ?_
      rw [V_gtb hv V_xm] at p1
      rw [V_ltb hv V_x1] at p2
      exact absurd ⟨of_decide_eq_true p1, of_decide_eq_true p2⟩ hsm
  · refine law_w (r := 0) (d := 0) FQ hm OQ rfl rfl fun p1 p2 => ?_
    exfalso
    have x1 := V_x1
    have x2 := V_xm
    unfold V at x1 x2
    obtain ⟨s1, m1, q1, r1, -⟩ := x1
    obtain ⟨s2, m2, q2, r2, -⟩ := x2
    unfold Ieee.Format.order at p1 p2
    rcases hv with ⟨s, h⟩ | ⟨s, f, h⟩
    · rw [h, r2] at p1
      rw [h, r1] at p2
      cases s
      · cases p2
      · cases p1
    · rw [h, r2] at p1
      cases p1
def lawSpec (n x : Int) : FSpec := ⟨[.int .i32 n, .int .u64 x], [gS], [⟨Unit, fun _ => True, fun _ => .bool true, fun _ => [.dead]⟩]⟩
theorem law_m (n x : Int) (hn : (Lit.int .i32 n).wf = true) (hx : (Lit.int .u64 x).wf = true) : Fits Tryd.prog 6 (lawSpec n x) := by
  simp [Lit.wf, IntKind.min, IntKind.max, IntKind.signed, IntKind.bits] at hx
  exact law_f (by omega) (by omega)
end Go.Proofs.YtanogghfdamdcaaDoor

namespace Go.Proofs.YtanogghfdamdcaaDoor
open Go Go.Fw
namespace gridStays
open Go.ChangeShapes Go.WideShapes Go.ChangeAt Go.RowKit
theorem own : ownKnob Tryd.prog.godebug = none := by kernel_rfl
theorem laid : laidOutB Tryd.prog = true := by kernel_rfl

def laidL : List (String × DataW Unit) := [("math/bits.deBruijn64tab", Rows.laid_math_bits_deBruijn64tab)]
theorem gTab : Tryd.prog.globalNamed "math/bits.deBruijn64tab" = some 1 := by kernel_rfl
theorem tTab : (Tryd.prog.globals[1]?).map (·.type) = some 77 := by kernel_rfl
theorem uTab : Tryd.prog.underlying 77 = some (.array 64 5) := by kernel_rfl
theorem eTab : Tryd.prog.underlying 5 = some (.int .u8) := by kernel_rfl
/-- The door's own heap meets the condition. -/
theorem door_met (os : Os) (args : Array Value) : laidMetH Tryd.prog laidL ((World.doorLaid Tryd.prog 400 os).forCall (fun _ _ => 0) ⟨#[], args, []⟩).memory :=
  laidMetH_of_parts3 (fuel := 8) (laidMet_of_run' 8 (by kernel_rfl) (by kernel_rfl)) (by kernel_rfl) (by kernel_rfl)
set_option maxRecDepth 100000 in
/-- What the condition gives the walk: the table's cells. -/
theorem of_laid {W : World} {r : Plc} (h : laidMetH Tryd.prog laidL W) : CellsAt ((1, 0) :: r) W 0 false (Cont.ints .u8 tabL).avl := by
  rw [MakeChecks.laidMetH_plain _ _ _ (by kernel_rfl)] at h
  obtain ⟨ps, ⟨g0, t0, cs0, f0, p0, q0, hg0, ht0, hv0, hd0, _, _⟩, _, _⟩ := h
  obtain rfl := Option.some.inj (gTab.symm.trans hg0)
  obtain rfl := Option.some.inj (tTab.symm.trans ht0)
  have key := tab_of_trod (l := tabL) (k := .u8) uTab eTab (by kernel_rfl) hd0
  intro i a hi
  have hi : (tabL.map (AV.int .u8))[i]? = some a := hi
  rw [List.getElem?_map] at hi
  obtain ⟨c, hc, rfl⟩ := Option.map_eq_some_iff.1 hi
  have h1 := World.var?_cell gTab hv0 i
  have h2 := key i c hc
  refine ⟨.int .u8 c, ?_, by simp [Den], rfl, fun h => by cases h⟩
  show W.cell? ⟨1, 0 + i, none⟩ = _
  rw [Nat.zero_add, h1]
  simpa using h2

set_option maxRecDepth 100000 in
theorem lifted (os : Os) (started : os.Started) (H : Type) (enc : TypeId × Value → H) :
    ReturnsInHanded {} Tryd.checked os 6 .any (fun w args => (Rows.gridStaysSpec.pre enc Tryd.prog Tryd.f6 [] false w args ∧ laidMetH Tryd.prog laidL w) ∧ sizedMet enc Tryd.prog Tryd.f6 (OpenSpec.ofChange Rows.gridStaysSpec) false w args) (Rows.gridStaysSpec.post enc Tryd.prog Tryd.f6 false true false false) := by
  refine returnsInHanded_of_change_and (C := Tryd.checked) (X := fun w _ => laidMetH Tryd.prog laidL w) (fun _ _ _ hh h => h.of_heap hh) own started (by kernel_rfl) Tryd.func6
    (ChangeSpec.witness_shaped (enc := enc) (C := Tryd.checked) (os := os) (X := fun w _ => laidMetH Tryd.prog laidL w) false (World.doorLaid Tryd.prog 400 os) #[.int .i32 0, .int .u64 0] 8 rfl (World.shaped_of_RefB (by kernel_rfl) (by kernel_rfl)) (by kernel_rfl) (by kernel_rfl) (by kernel_rfl) (door_met os _)) ?_
  intro W base args ds gs before hval0 hW _ hsz0 hL _
  have hsz : (DataW.weightsEach Tryd.prog (Tryd.f6.params.toList ++ Rows.gridStaysSpec.plain.varTypes Tryd.prog) (ds ++ gs)).all (· ≤ reachBytes) = true := hsz0
  clear hsz0
  have hval : ∀ (j : Nat) t v, Tryd.f6.params[j]? = some t → args[j]? = some v → Value.okWide Tryd.prog W .any base t v := hval0
  have hW' := hW
  obtain ⟨p, q, hA0, hV, rfl, hfz, hnd⟩ := hW
  have hA : DataW.TrodAll enc Tryd.prog W 0 (fun _ => true) true Tryd.f6.params.toList args.toList ds p := hA0
  rw [Tryd.params6] at hA hval hsz
  obtain ⟨v0, vs0, d0, ds0, p0, q0, hargs, rfl, rfl, h0, r0⟩ := trodAll_cons hA
  obtain ⟨v1, vs1, d1, ds1, p1, q1, rfl, rfl, rfl, h1, r1⟩ := trodAll_cons r0
  obtain ⟨rfl, rfl, rfl⟩ := trodAll_nil r1
  obtain rfl : args = #[v0, v1] := by cases args; simp_all
  obtain ⟨rfl, rfl⟩ := trodVars_none hV
  obtain ⟨x0_0, rfl, rfl, rfl, w0_0⟩ := open_int Tryd.underlying21 (hval 0 21 v0 rfl rfl) h0
  obtain ⟨x1_0, rfl, rfl, rfl, w1_0⟩ := open_int Tryd.underlying28 (hval 1 28 v1 rfl rfl) h1
  clear hA0 hval0
  have walk := ((law_m x0_0 x1_0 w0_0 w1_0)).calls W [(1, 0)] [.int .i32 x0_0, .int .u64 x1_0] (heap_argsG rfl fun i s hs => by
      match i, hs with
      | 0, hs => simp only [lawSpec, List.getElem?_cons_zero, Option.some.injEq] at hs; subst hs; exact .inr ⟨1, .ints .u8 tabL, rfl, rfl, of_laid hL⟩
      | i + 1, hs => simp [lawSpec] at hs) (by simp only [lawSpec, Dens]; exact ⟨_, _, rfl, by simp [Den], ⟨_, _, rfl, by simp [Den], rfl⟩⟩) (x := .bool true) (v := .bool true) rfl (by
      intro o ho y hy
      simp [lawSpec] at ho
      subst ho; rfl)
  refine walk.mono fun e W' ⟨he, hg⟩ => ?_
  subst he
  exact ⟨_, rfl, law_done laid rfl rfl Tryd.underlying4 (by kernel_rfl) hW' rfl hg⟩

theorem over : Rows.gridStaysRow.holds Tryd.pinned (OpenSpec.ofChange Rows.gridStaysSpec) :=
  OpenClaim.holds_of_wide 6 Tryd.f6 rfl rfl rfl rfl rfl rfl rfl ⟨rfl, rfl, rfl, rfl, rfl⟩ rfl rfl rfl rfl rfl (by kernel_rfl) Tryd.func6 (by kernel_rfl)
    (of_decide_eq_true (by kernel_rfl)) (by unfold Func.isWrapper; first | (rw [if_pos (by decide +kernel)]; kernel_rfl) | (rw [if_neg (by decide +kernel)]; exact ⟨rfl, rfl⟩))
    (fun os started H enc _ => lifted os started H enc)

theorem proved : Rows.GridStaysCardSaid :=
  Claim7.holds_tied_plain_at .later [] [.data] true (true, "49eb695230cf835a78befebcc1a731f64132b416785f181164be9fd638a5bfe3") false
    over (fun _ h => by cases h) (by kernel_rfl) (fun _ h => by cases h) gridStays_row_tie rfl ⟨rfl, rfl⟩ (by kernel_rfl) rfl
    (fun f fn hf hfn => by
      obtain rfl : f = 6 := Option.some.inj ((show Tryd.prog.funcNamed "foghorn/foghornlaw02.GridStays" = some 6 by kernel_rfl).symm.trans hf) |>.symm
      obtain rfl : fn = Tryd.f6 := (Option.some.inj (Tryd.func6.symm.trans hfn)).symm
      exact ⟨by kernel_rfl, fun j t ht => by
        rw [Tryd.params6] at ht
        have hm : t ∈ [21, 28] := by simpa using Array.mem_of_getElem? ht
        have hall : ([21, 28].all fun u => !Tryd.prog.wantsStandIn u) = true := by kernel_rfl
        exact (show Tryd.prog.wantsStandIn t = false by simpa using List.all_eq_true.1 hall t hm)⟩)
    (by kernel_rfl)
end gridStays
end Go.Proofs.YtanogghfdamdcaaDoor
