/-
  Floats that are whole numbers over a power of two: sums, differences, products, comparisons are exact within the bound. No condition: each theorem states its own.
-/
import Derived.Laws.FloatArith
set_option linter.unusedSimpArgs false
set_option linter.unusedVariables false
namespace Go.Fw
open Go Ieee
abbrev D : Format := FloatKind.f64.format
theorem d_bin : D.binade = 4503599627370496 := by decide
theorem d_sw : D.signWeight = 9223372036854775808 := by decide
theorem d_inf : D.infRung = 9218868437227405312 := by decide
theorem d_least : D.leastPlace = -1074 := by decide
theorem cut_zero (neg : Bool) (n : Nat) : Toward.even.cut neg n 0 = n := by
  unfold Toward.cut
  have h1 : (1 : Nat) <<< (min 0 (n.log2 + 2)) = 1 := by rw [Nat.zero_min]; rfl
  simp only [h1, Nat.div_one, Nat.mod_one, Nat.mul_zero]
  simp
theorem read_word (neg : Bool) (r : Nat) (h : r < 9218868437227405312) : D.read (D.word neg r) = if r < 4503599627370496 then .number neg r (-1074) else .number neg (4503599627370496 + r % 4503599627370496) (-1074 + (r / 4503599627370496 - 1 : Nat)) := by
  have e1 : (D.word neg r) / 9223372036854775808 % 2 = neg.toNat := by
    unfold Format.word; rw [d_sw]
    cases neg
    · simp only [Bool.toNat_false, Bool.false_eq_true, if_false]; omega
    · simp only [Bool.toNat_true, if_true]; omega
  have e2 : (D.word neg r) % 9223372036854775808 = r := by
    unfold Format.word; rw [d_sw]
    cases neg
    · simp only [Bool.false_eq_true, if_false]; omega
    · simp only [if_true]; omega
  unfold Format.read
  rw [d_sw, d_bin, d_inf, d_least, e1, e2]
  have e3 : (neg.toNat == 1) = neg := by cases neg <;> rfl
  rw [e3]
  by_cases hb : r < 4503599627370496
  · rw [if_pos hb, if_pos hb]
  · rw [if_neg hb, if_neg hb, if_pos h]
/-- The place of the last digit that is kept. -/
def lst (m : Nat) (p : Int) : Int := max (p + m.log2 - 52) (-1074)
theorem write_read (neg : Bool) (m : Nat) (p : Int) (hm : 0 < m) (h53 : m < 9007199254740992) (hp : -1074 ≤ p) (hL : p + m.log2 ≤ 1023) :
    D.read (D.write (.number neg m p)) = .number neg (m * 2 ^ (p - lst m p).toNat) (lst m p) := by
  have hl1 : 2 ^ m.log2 ≤ m := Nat.log2_self_le (by omega)
  have hl2 : m < 2 ^ (m.log2 + 1) := Nat.lt_log2_self
  have hl3 : m.log2 ≤ 52 := by
    have : m.log2 < 53 := (Nat.log2_lt (by omega)).2 (by exact h53)
    omega
  have hlp : lst m p ≤ p := by unfold lst; omega
  have hlge : -1074 ≤ lst m p := by unfold lst; omega
  have hw : D.write (.number neg m p) = D.word neg (min ((lst m p + 1074).toNat * 4503599627370496 + m * 2 ^ (p - lst m p).toNat) 9218868437227405312) := by
    show D.nearest neg m p = _
    unfold Format.nearest
    rw [if_neg (by omega), d_least, d_bin, d_inf]
    show D.word neg (min ((lst m p - -1074).toNat * 4503599627370496 + Toward.even.cut neg (m <<< (p - lst m p).toNat) (lst m p - p).toNat) 9218868437227405312) = _
    rw [show (lst m p - p).toNat = 0 by omega, cut_zero, Nat.shiftLeft_eq, show lst m p - -1074 = lst m p + 1074 by omega]
  rw [hw]
  rcases (show lst m p = p + m.log2 - 52 ∨ (lst m p = -1074 ∧ p + m.log2 - 52 < -1074) by unfold lst; omega) with h | ⟨h, h2⟩
  · have e : (p - lst m p).toNat = 52 - m.log2 := by omega
    have k1 : 4503599627370496 ≤ m * 2 ^ (52 - m.log2) := by
      have h5 : 2 ^ m.log2 * 2 ^ (52 - m.log2) ≤ m * 2 ^ (52 - m.log2) := Nat.mul_le_mul_right _ hl1
      rw [← Nat.pow_add, show m.log2 + (52 - m.log2) = 52 by omega] at h5
      exact h5
    have k2 : m * 2 ^ (52 - m.log2) < 9007199254740992 := by
      have h5 : m * 2 ^ (52 - m.log2) < 2 ^ (m.log2 + 1) * 2 ^ (52 - m.log2) := Nat.mul_lt_mul_of_pos_right hl2 (Nat.two_pow_pos _)
      rw [← Nat.pow_add, show m.log2 + 1 + (52 - m.log2) = 53 by omega] at h5
      exact h5
    rw [e]
    generalize m * 2 ^ (52 - m.log2) = K at *
    obtain ⟨q, hq⟩ : ∃ q : Nat, lst m p + 1074 = q := ⟨(lst m p + 1074).toNat, by omega⟩
    have hq2 : q ≤ 2045 := by omega
    rw [hq, Int.toNat_natCast, Nat.min_eq_left (by omega), read_word _ _ (by omega), if_neg (by omega)]
    congr 1
    · omega
    · omega
  · have e : (p - lst m p).toNat = (p + 1074).toNat := by omega
    have k2 : m * 2 ^ (p + 1074).toNat < 4503599627370496 := by
      have h5 : m * 2 ^ (p + 1074).toNat < 2 ^ (m.log2 + 1) * 2 ^ (p + 1074).toNat := Nat.mul_lt_mul_of_pos_right hl2 (Nat.two_pow_pos _)
      rw [← Nat.pow_add] at h5
      have h6 : 2 ^ (m.log2 + 1 + (p + 1074).toNat) ≤ 2 ^ 52 := Nat.pow_le_pow_right (by decide) (by omega)
      have h7 : (2 : Nat) ^ 52 = 4503599627370496 := by decide
      omega
    rw [e]
    generalize m * 2 ^ (p + 1074).toNat = K at *
    rw [show (lst m p + 1074).toNat = 0 by omega, Nat.zero_mul, Nat.zero_add, Nat.min_eq_left (by omega), read_word _ _ (by omega), if_pos k2, h]
theorem cut_exact (neg : Bool) (k d : Nat) (hd : d ≤ (k * 2 ^ d).log2 + 2) : Toward.even.cut neg (k * 2 ^ d) d = k := by
  unfold Toward.cut
  have hp := Nat.two_pow_pos d
  rw [Nat.min_eq_left hd]
  simp only [Nat.one_shiftLeft]
  have h1 : k * 2 ^ d / 2 ^ d = k := Nat.mul_div_cancel k hp
  have h2 : k * 2 ^ d % 2 ^ d = 0 := Nat.mul_mod_left k (2 ^ d)
  rw [h1, h2]
  have h3 : ¬ (2 ^ d < 2 * 0) := by omega
  have h4 : (2 ^ d == 2 * 0) = false := by rw [beq_eq_false_iff_ne]; omega
  simp [h4]
/-- A number that needs no more than 53 digits is written as it is. -/
theorem write_exact (neg : Bool) (k q : Nat) (p : Int) (hk0 : 0 < k) (hk : k < 9007199254740992) (hp : -1074 ≤ p) (hL : p + (k * 2 ^ q).log2 ≤ 1023) :
    ∃ M P, D.read (D.write (.number neg (k * 2 ^ q) p)) = .number neg M P ∧ -1074 ≤ P ∧ M * 2 ^ (P + 1074).toNat = k * 2 ^ q * 2 ^ (p + 1074).toNat := by
  have hm : 0 < k * 2 ^ q := Nat.mul_pos hk0 (Nat.two_pow_pos q)
  have hlog : (k * 2 ^ q).log2 ≤ 52 + q := by
    have h1 : k * 2 ^ q < 2 ^ (53 + q) := by
      rw [Nat.pow_add]
      exact Nat.mul_lt_mul_of_pos_right (by exact hk) (Nat.two_pow_pos q)
    have : (k * 2 ^ q).log2 < 53 + q := (Nat.log2_lt (by omega)).2 h1
    omega
  have hl1 : 2 ^ (k * 2 ^ q).log2 ≤ k * 2 ^ q := Nat.log2_self_le (by omega)
  have hl2 : k * 2 ^ q < 2 ^ ((k * 2 ^ q).log2 + 1) := Nat.lt_log2_self
  by_cases hle : (k * 2 ^ q).log2 ≤ 52
  · have h53 : k * 2 ^ q < 9007199254740992 := by
      have h6 : 2 ^ ((k * 2 ^ q).log2 + 1) ≤ 2 ^ 53 := Nat.pow_le_pow_right (by decide) (by omega)
      have h7 : (2 : Nat) ^ 53 = 9007199254740992 := by decide
      omega
    refine ⟨_, _, write_read neg _ p hm h53 hp hL, by unfold lst; omega, ?_⟩
    have hlp : lst (k * 2 ^ q) p ≤ p := by unfold lst; omega
    have hlge : -1074 ≤ lst (k * 2 ^ q) p := by unfold lst; omega
    rw [Nat.mul_assoc (k * 2 ^ q), ← Nat.pow_add]
    congr 2
    omega
  · obtain ⟨d, hd⟩ : ∃ d, (k * 2 ^ q).log2 = 52 + d := ⟨(k * 2 ^ q).log2 - 52, by omega⟩
    have hdq : d ≤ q := by omega
    have hmk : k * 2 ^ q = (k * 2 ^ (q - d)) * 2 ^ d := by rw [Nat.mul_assoc, ← Nat.pow_add]; congr 2; omega
    generalize hK : k * 2 ^ (q - d) = K at hmk
    rw [hmk] at hl1 hl2 hd ⊢
    rw [hd] at hl1 hl2
    have h7 : (2 : Nat) ^ 52 = 4503599627370496 := by decide
    have h8 : (2 : Nat) ^ 53 = 9007199254740992 := by decide
    have k1 : 4503599627370496 ≤ K := by
      rw [Nat.pow_add, h7] at hl1
      exact Nat.le_of_mul_le_mul_right hl1 (Nat.two_pow_pos d)
    have k2 : K < 9007199254740992 := by
      rw [show 52 + d + 1 = 53 + d by omega, Nat.pow_add, h8] at hl2
      exact Nat.lt_of_mul_lt_mul_right hl2
    have hls : lst (K * 2 ^ d) p = p + d := by unfold lst; rw [hd]; omega
    have hw : D.write (.number neg (K * 2 ^ d) p) = D.word neg (min ((p + d + 1074).toNat * 4503599627370496 + K) 9218868437227405312) := by
      show D.nearest neg (K * 2 ^ d) p = _
      unfold Format.nearest
      rw [if_neg (by have := Nat.mul_pos (show 0 < K by omega) (Nat.two_pow_pos d); omega), d_least, d_bin, d_inf]
      show D.word neg (min ((lst (K * 2 ^ d) p - -1074).toNat * 4503599627370496 + Toward.even.cut neg ((K * 2 ^ d) <<< (p - lst (K * 2 ^ d) p).toNat) (lst (K * 2 ^ d) p - p).toNat) 9218868437227405312) = _
      rw [hls, show (p - (p + d)).toNat = 0 by omega, show (p + d - p).toNat = d by omega, Nat.shiftLeft_zero, cut_exact _ _ _ (by omega), show p + (d : Int) - -1074 = p + d + 1074 by omega]
    rw [hmk] at hL
    rw [hd] at hL
    obtain ⟨w, hw2⟩ : ∃ w : Nat, p + d + 1074 = w := ⟨(p + d + 1074).toNat, by omega⟩
    refine ⟨K, p + d, ?_, by omega, ?_⟩
    · rw [hw, hw2, Int.toNat_natCast, Nat.min_eq_left (by omega), read_word _ _ (by omega), if_neg (by omega)]
      congr 1
      · omega
      · omega
    · rw [Nat.mul_assoc, ← Nat.pow_add]
      congr 2
      omega
theorem write_read0 (neg : Bool) (p : Int) : D.read (D.write (.number neg 0 p)) = .number neg 0 (-1074) := by
  show D.read (D.nearest neg 0 p) = _
  unfold Format.nearest
  rw [if_pos rfl, read_word _ _ (by decide), if_pos (by decide)]
theorem read_bound {b : Nat} {s : Bool} {m : Nat} {P : Int} (h : D.read b = .number s m P) : m < 9007199254740992 ∧ -1074 ≤ P := by
  unfold Format.read at h
  rw [d_sw, d_bin, d_inf, d_least] at h
  dsimp only at h
  split at h
  · injection h with h1 h2 h3; subst h2; subst h3; omega
  · split at h
    · injection h with h1 h2 h3; subst h2; subst h3
      have := Nat.mod_lt (b % 9223372036854775808) (show 4503599627370496 > 0 by decide)
      omega
    · split at h <;> cases h
theorem signed_eq (s : Bool) (m up : Nat) : signed s m up = (if s then -1 else 1) * ((m : Int) * 2 ^ up) := by
  unfold signed
  rw [Nat.shiftLeft_eq]
  cases s
  · simp only [Bool.false_eq_true, if_false]; push_cast; omega
  · simp only [if_true]; push_cast; omega
/-- The bits b stand for x / 2 ^ q. -/
def V (q b : Nat) (x : Int) : Prop := ∃ s m P, D.read b = .number s m P ∧ signed s m (P + 1074).toNat = x * 2 ^ (1074 - q)
theorem log_le {T a : Nat} (h : T < 2 ^ a) (h0 : 0 < T) : T.log2 + 1 ≤ a := (Nat.log2_lt (by omega)).2 h
theorem write_units (neg : Bool) (T : Nat) (base : Int) (q X : Nat) (hb : T = 0 ∨ -1074 ≤ base) (hT : T * 2 ^ (base + 1074).toNat = X * 2 ^ (1074 - q)) (hX : X < 9007199254740992) (hq : q ≤ 1074) :
    ∃ M P, D.read (D.write (.number neg T base)) = .number neg M P ∧ M * 2 ^ (P + 1074).toNat = X * 2 ^ (1074 - q) := by
  by_cases h0 : T = 0
  · subst h0
    rw [Nat.zero_mul] at hT
    exact ⟨0, _, write_read0 neg base, by rw [Nat.zero_mul]; exact hT⟩
  have hb' : -1074 ≤ base := hb.resolve_left h0
  have h53 : (2 : Nat) ^ 53 = 9007199254740992 := by decide
  obtain ⟨d, hd⟩ : ∃ d : Nat, base + 1074 = d := ⟨(base + 1074).toNat, by omega⟩
  rw [hd, Int.toNat_natCast] at hT
  by_cases hc : d ≤ 1074 - q
  · have hTX : T = X * 2 ^ (1074 - q - d) := by
      have hp := Nat.two_pow_pos d
      apply Nat.eq_of_mul_eq_mul_right hp
      rw [hT, Nat.mul_assoc, ← Nat.pow_add]
      congr 2; omega
    have hX0 : 0 < X := by
      rcases Nat.eq_zero_or_pos X with h | h
      · exfalso; apply h0; rw [hTX, h, Nat.zero_mul]
      · exact h
    subst hTX
    have hl : (X * 2 ^ (1074 - q - d)).log2 + 1 ≤ 53 + (1074 - q - d) := by
      refine log_le ?_ (by omega)
      rw [Nat.pow_add, h53]
      exact Nat.mul_lt_mul_of_pos_right hX (Nat.two_pow_pos _)
    obtain ⟨M, P, h1, _, h3⟩ := write_exact neg X (1074 - q - d) base hX0 hX hb' (by omega)
    refine ⟨M, P, h1, ?_⟩
    rw [h3, hd, Int.toNat_natCast, hT]
  · have hTX : X = T * 2 ^ (d - (1074 - q)) := by
      have hp := Nat.two_pow_pos (1074 - q)
      apply Nat.eq_of_mul_eq_mul_right hp
      rw [← hT, Nat.mul_assoc, ← Nat.pow_add]
      congr 2; omega
    have hTle : T < 9007199254740992 := by
      have : T * 1 ≤ T * 2 ^ (d - (1074 - q)) := Nat.mul_le_mul_left _ (Nat.two_pow_pos _)
      omega
    have hl : T.log2 + (d - (1074 - q)) + 1 ≤ 53 := by
      have h1 : 2 ^ T.log2 ≤ T := Nat.log2_self_le (by omega)
      have h2 : 2 ^ T.log2 * 2 ^ (d - (1074 - q)) ≤ T * 2 ^ (d - (1074 - q)) := Nat.mul_le_mul_right _ h1
      rw [← Nat.pow_add, ← hTX] at h2
      have h3 : 2 ^ (T.log2 + (d - (1074 - q))) < 2 ^ 53 := by omega
      have := (Nat.pow_lt_pow_iff_right (by decide : 1 < 2)).1 h3
      omega
    obtain ⟨M, P, h1, _, h3⟩ := write_exact neg T 0 base (by omega) hTle hb' (by rw [Nat.pow_zero, Nat.mul_one]; omega)
    rw [Nat.pow_zero, Nat.mul_one] at h1 h3
    refine ⟨M, P, h1, ?_⟩
    rw [h3, hd, Int.toNat_natCast, hT]
theorem signed_shift (s : Bool) (m a b : Nat) : signed s m a * 2 ^ b = signed s m (a + b) := by
  rw [signed_eq, signed_eq, Int.pow_add]
  cases s <;> simp [Int.mul_assoc, Int.neg_mul]
theorem V_write {q : Nat} {base tot : Int} {w : Bool} {x : Int} (hw : w = decide (tot < 0) ∨ tot = 0) (hb : tot = 0 ∨ -1074 ≤ base) (hT : tot * 2 ^ (base + 1074).toNat = x * 2 ^ (1074 - q)) (h1 : -9007199254740992 < x) (h2 : x < 9007199254740992) (hq : q ≤ 1074) :
    V q (D.write (.number w tot.natAbs base)) x := by
  have hp1 : (0 : Int) < 2 ^ (base + 1074).toNat := Int.pow_pos (by decide)
  have hp2 : (0 : Int) < 2 ^ (1074 - q) := Int.pow_pos (by decide)
  have hN : tot.natAbs * 2 ^ (base + 1074).toNat = x.natAbs * 2 ^ (1074 - q) := by
    have := congrArg Int.natAbs hT
    rw [Int.natAbs_mul, Int.natAbs_mul, Int.natAbs_pow, Int.natAbs_pow] at this
    exact this
  obtain ⟨M, P, e1, e2⟩ := write_units w tot.natAbs base q x.natAbs (by omega) hN (by omega) hq
  refine ⟨w, M, P, e1, ?_⟩
  rw [signed_eq]
  have e3 : (M : Int) * 2 ^ (P + 1074).toNat = (x.natAbs : Int) * 2 ^ (1074 - q) := by
    have e3 := congrArg (Nat.cast : Nat → Int) e2
    rw [Int.natCast_mul, Int.natCast_mul, Int.natCast_pow, Int.natCast_pow] at e3
    exact e3
  rw [e3, ← Int.mul_assoc]
  congr 1
  by_cases hx0 : x = 0
  · subst hx0; simp
  have ht0 : tot ≠ 0 := by
    intro h; subst h
    rw [Int.zero_mul] at hT
    exact hx0 ((Int.mul_eq_zero.1 hT.symm).resolve_right (by omega))
  have hw' : w = decide (tot < 0) := hw.resolve_right ht0
  by_cases hn : tot < 0
  · have hx : x < 0 := by
      have h7 := Int.mul_neg_of_neg_of_pos hn hp1
      rw [hT] at h7
      apply Classical.byContradiction; intro hx
      have := Int.mul_nonneg (show 0 ≤ x by omega) (Int.le_of_lt hp2)
      omega
    rw [hw', decide_eq_true hn, if_pos rfl]; omega
  · have hx : 0 ≤ x := by
      have h7 := Int.mul_nonneg (show 0 ≤ tot by omega) (Int.le_of_lt hp1)
      rw [hT] at h7
      apply Classical.byContradiction; intro hx
      have := Int.mul_neg_of_neg_of_pos (show x < 0 by omega) hp2
      omega
    rw [hw', decide_eq_false hn, if_neg (by decide)]; omega
theorem V_add {q a b : Nat} {x y : Int} (ha : V q a x) (hb : V q b y) (h1 : -9007199254740992 < x + y) (h2 : x + y < 9007199254740992) (hq : q ≤ 1000) : ∃ r, D.add a b = some r ∧ V q r (x + y) := by
  obtain ⟨s, m, i, e1, e2⟩ := ha
  obtain ⟨t, n, j, e3, e4⟩ := hb
  have b1 := read_bound e1
  have b2 := read_bound e3
  unfold Format.add
  rw [e1, e3]
  simp only [Datum.sum, Option.map_some]
  refine ⟨_, rfl, V_write ?_ (.inr (by omega)) ?_ h1 h2 (by omega)⟩
  · by_cases h : signed s m (i - min i j).toNat + signed t n (j - min i j).toNat = 0
    · exact .inr h
    · left; rw [if_neg h]
  · rw [Int.add_mul, signed_shift, signed_shift, show (i - min i j).toNat + (min i j + 1074).toNat = (i + 1074).toNat by omega, show (j - min i j).toNat + (min i j + 1074).toNat = (j + 1074).toNat by omega, e2, e4, Int.add_mul]
theorem V_opp {q b : Nat} {x : Int} (h : V q b x) : ∃ s m P, (D.read b).opposite = .number s m P ∧ m < 9007199254740992 ∧ -1074 ≤ P ∧ signed s m (P + 1074).toNat = (-x) * 2 ^ (1074 - q) := by
  obtain ⟨s, m, P, e1, e2⟩ := h
  have b1 := read_bound e1
  refine ⟨!s, m, P, by rw [e1]; rfl, b1.1, b1.2, ?_⟩
  rw [Int.neg_mul, ← e2, signed_eq, signed_eq]
  cases s
  · rw [Bool.not_false, if_pos rfl, if_neg (by decide)]; omega
  · rw [Bool.not_true, if_pos rfl, if_neg (by decide)]; omega
theorem V_subL {q a b : Nat} {x y : Int} (ha : V q a x) (hb : V q b y) (h1 : -9007199254740992 < x - y) (h2 : x - y < 9007199254740992) (hq : q ≤ 1074) : ∃ r, D.sub a b = some r ∧ V q r (x - y) := by
  obtain ⟨s, m, i, e1, e2⟩ := ha
  obtain ⟨t, n, j, e3, _, b3, e4⟩ := V_opp hb
  have b1 := read_bound e1
  unfold Format.sub
  rw [e1, e3]
  simp only [Datum.sum, Option.map_some]
  refine ⟨_, rfl, V_write ?_ (.inr (by omega)) ?_ h1 h2 hq⟩
  · by_cases h : signed s m (i - min i j).toNat + signed t n (j - min i j).toNat = 0
    · exact .inr h
    · left; rw [if_neg h]
  · rw [Int.add_mul, signed_shift, signed_shift, show (i - min i j).toNat + (min i j + 1074).toNat = (i + 1074).toNat by omega, show (j - min i j).toNat + (min i j + 1074).toNat = (j + 1074).toNat by omega, e2, e4, ← Int.add_mul]
    rfl
theorem V_sub {q a b : Nat} {x y : Int} (ha : V q a x) (hb : V q b y) (h1 : -9007199254740992 < x - y) (h2 : x - y < 9007199254740992) (hq : q ≤ 1000) : ∃ r, D.sub a b = some r ∧ V q r (x - y) := V_subL ha hb h1 h2 (by omega)
theorem V_order {q a b : Nat} {x y : Int} (ha : V q a x) (hb : V q b y) : D.order a b = some (compare x y) := by
  obtain ⟨s, m, i, e1, e2⟩ := ha
  obtain ⟨t, n, j, e3, e4⟩ := hb
  have b1 := read_bound e1
  have b2 := read_bound e3
  unfold Format.order
  rw [e1, e3]
  simp only [Datum.order]
  congr 1
  have hp1 : (0 : Int) < 2 ^ (min i j + 1074).toNat := Int.pow_pos (by decide)
  have hp2 : (0 : Int) < 2 ^ (1074 - q) := Int.pow_pos (by decide)
  have k1 : signed s m (i - min i j).toNat * 2 ^ (min i j + 1074).toNat = x * 2 ^ (1074 - q) := by
    rw [signed_shift, ← e2]; congr 1; omega
  have k2 : signed t n (j - min i j).toNat * 2 ^ (min i j + 1074).toNat = y * 2 ^ (1074 - q) := by
    rw [signed_shift, ← e4]; congr 1; omega
  generalize signed s m (i - min i j).toNat = A at *
  generalize signed t n (j - min i j).toNat = B at *
  generalize (2 : Int) ^ (min i j + 1074).toNat = C at *
  generalize (2 : Int) ^ (1074 - q) = E at *
  rcases Int.lt_trichotomy x y with h | h | h
  · have h3 := Int.mul_lt_mul_of_pos_right h hp2
    rw [← k1, ← k2] at h3
    have h4 := Int.lt_of_mul_lt_mul_right h3 (Int.le_of_lt hp1)
    rw [Int.compare_eq_lt.2 h, Int.compare_eq_lt.2 h4]
  · subst h
    have h4 := Int.eq_of_mul_eq_mul_right (by omega) (k1.trans k2.symm)
    rw [Int.compare_eq_eq.2 h4, Int.compare_eq_eq.2 rfl]
  · have h3 := Int.mul_lt_mul_of_pos_right h hp2
    rw [← k1, ← k2] at h3
    have h4 := Int.lt_of_mul_lt_mul_right h3 (Int.le_of_lt hp1)
    rw [Int.compare_eq_gt.2 h, Int.compare_eq_gt.2 h4]
theorem signed_mul (s t : Bool) (m n a b : Nat) : signed s m a * signed t n b = signed (s ^^ t) (m * n) (a + b) := by
  rw [signed_eq, signed_eq, signed_eq, Int.pow_add, Int.natCast_mul]
  cases s <;> cases t <;> simp [Int.mul_assoc, Int.mul_comm, Int.mul_left_comm, Int.neg_mul, Int.mul_neg]
theorem signed_natAbs (s : Bool) (m : Nat) : (signed s m 0).natAbs = m := by
  rw [signed_eq]; cases s <;> simp
theorem signed_neg (s : Bool) (m : Nat) : s = decide (signed s m 0 < 0) ∨ signed s m 0 = 0 := by
  rw [signed_eq, Int.pow_zero, Int.mul_one]
  cases s
  · left; rw [if_neg (by decide)]; symm; rw [decide_eq_false_iff_not]; omega
  · rw [if_pos rfl]
    by_cases h : m = 0
    · right; subst h; rfl
    · left; symm; rw [decide_eq_true_iff]; omega
theorem signed_abs (s : Bool) (m a : Nat) : (signed s m a).natAbs = m * 2 ^ a := by
  rw [signed_eq, Int.natAbs_mul, Int.natAbs_mul, Int.natAbs_pow]; cases s <;> simp
theorem V_place {q : Nat} {x : Int} {s : Bool} {m : Nat} {i : Int} (h : signed s m (i + 1074).toNat = x * 2 ^ (1074 - q)) (hm : m < 9007199254740992) (hi : -1074 ≤ i) (hx : x ≠ 0) (hq : q ≤ 1000) : -(q : Int) - 53 < i := by
  have h1 := congrArg Int.natAbs h
  rw [signed_abs, Int.natAbs_mul, Int.natAbs_pow] at h1
  have h2 : 1 * 2 ^ (1074 - q) ≤ x.natAbs * (2 : Int).natAbs ^ (1074 - q) := Nat.mul_le_mul_right _ (by omega)
  rw [← h1, Nat.one_mul] at h2
  have h3 : m * 2 ^ (i + 1074).toNat < 2 ^ (53 + (i + 1074).toNat) := by
    rw [Nat.pow_add]
    exact Nat.mul_lt_mul_of_pos_right (by exact hm) (Nat.two_pow_pos _)
  have h4 := (Nat.pow_lt_pow_iff_right (by decide : 1 < 2)).1 (Nat.lt_of_le_of_lt h2 h3)
  omega
theorem V_mul {q q' a b : Nat} {x y : Int} (ha : V q a x) (hb : V q' b y) (h1 : -9007199254740992 < x * y) (h2 : x * y < 9007199254740992) (hq : q + q' ≤ 900) : ∃ r, D.mul a b = some r ∧ V (q + q') r (x * y) := by
  obtain ⟨s, m, i, e1, e2⟩ := ha
  obtain ⟨t, n, j, e3, e4⟩ := hb
  have b1 := read_bound e1
  have b2 := read_bound e3
  unfold Format.mul
  rw [e1, e3]
  simp only [Datum.product, Option.map_some]
  have hmul : signed (s ^^ t) (m * n) ((i + 1074).toNat + (j + 1074).toNat) = x * y * 2 ^ (1074 - q + (1074 - q')) := by
    rw [← signed_mul, e2, e4, Int.pow_add]
    rw [Int.mul_assoc, Int.mul_assoc]
    congr 1
    rw [Int.mul_left_comm]
  refine ⟨_, rfl, ?_⟩
  rw [← signed_natAbs (s ^^ t) (m * n)]
  by_cases hz : x * y = 0
  · have hz2 : signed (s ^^ t) (m * n) 0 = 0 := by
      rw [hz, Int.zero_mul] at hmul
      have := congrArg Int.natAbs hmul
      rw [signed_abs] at this
      have h5 : m * n = 0 := (Nat.mul_eq_zero.1 this).resolve_right (by have := Nat.two_pow_pos ((i + 1074).toNat + (j + 1074).toNat); omega)
      rw [h5, signed_eq]; cases (s ^^ t) <;> simp
    exact V_write (.inr hz2) (.inl hz2) (by rw [hz2, hz, Int.zero_mul, Int.zero_mul]) h1 h2 (by omega)
  · have hx : x ≠ 0 := fun h => hz (by rw [h, Int.zero_mul])
    have hy : y ≠ 0 := fun h => hz (by rw [h, Int.mul_zero])
    have p1 := V_place e2 b1.1 b1.2 hx (by omega)
    have p2 := V_place e4 b2.1 b2.2 hy (by omega)
    refine V_write (signed_neg _ _) (.inr (by omega)) ?_ h1 h2 (by omega)
    have hp : (0 : Int) < 2 ^ 1074 := Int.pow_pos (by decide)
    apply Int.eq_of_mul_eq_mul_right (show (2 : Int) ^ 1074 ≠ 0 by omega)
    rw [signed_shift, signed_shift, Nat.zero_add, show (i + j + 1074).toNat + 1074 = (i + 1074).toNat + (j + 1074).toNat by omega, hmul, Int.mul_assoc (x * y), ← Int.pow_add]
    congr 2
    omega
theorem V_ofInt (n : Int) (h1 : -9007199254740992 < n) (h2 : n < 9007199254740992) : V 0 (floatOfInt .f64 n) n := by
  show V 0 (D.write (.number (decide (n < 0)) n.natAbs 0)) n
  exact V_write (q := 0) (base := 0) (tot := n) (.inl rfl) (.inr (by omega)) rfl h1 h2 (by omega)
theorem V_zero (q : Nat) (hq : q ≤ 1000) : V q 0 0 := ⟨false, 0, -1074, by decide, by rw [Int.zero_mul]; rfl⟩
theorem read_neg (b : Nat) : D.read (Op.negFloat .f64 b) = (D.read b).opposite := by
  have e1 : (Op.negFloat .f64 b) % 9223372036854775808 = b % 9223372036854775808 := by
    show (b ^^^ 2 ^ 63) % 2 ^ 63 = b % 2 ^ 63
    rw [Nat.xor_mod_two_pow, Nat.mod_self, Nat.xor_zero]
  have e2 : (Op.negFloat .f64 b) / 9223372036854775808 % 2 = (b / 9223372036854775808 + 1) % 2 := by
    show (b ^^^ 2 ^ 63) / 2 ^ 63 % 2 = (b / 2 ^ 63 + 1) % 2
    rw [Nat.xor_div_two_pow, Nat.div_self (Nat.two_pow_pos 63), show (2 : Nat) = 2 ^ 1 from rfl]
    generalize b / (2 ^ 1) ^ 63 = c
    rw [Nat.xor_mod_two_pow]
    rcases Nat.mod_two_eq_zero_or_one c with h | h
    · rw [show c % 2 ^ 1 = 0 from h, show (c + 1) % 2 ^ 1 = 1 by omega]; rfl
    · rw [show c % 2 ^ 1 = 1 from h, show (c + 1) % 2 ^ 1 = 0 by omega]; rfl
  have e3 : ((b / 9223372036854775808 + 1) % 2 == 1) = !(b / 9223372036854775808 % 2 == 1) := by
    rcases Nat.mod_two_eq_zero_or_one (b / 9223372036854775808) with h | h
    · rw [h, show (b / 9223372036854775808 + 1) % 2 = 1 by omega]; rfl
    · rw [h, show (b / 9223372036854775808 + 1) % 2 = 0 by omega]; rfl
  unfold Format.read
  rw [d_sw, e1, e2, e3]
  dsimp only
  split
  · rfl
  · split
    · rfl
    · split <;> rfl
theorem V_neg {q b : Nat} {x : Int} (h : V q b x) : V q (Op.negFloat .f64 b) (-x) := by
  obtain ⟨s, m, i, e1, _, _, e2⟩ := V_opp h
  exact ⟨s, m, i, by rw [read_neg, e1], e2⟩
/-! In a walk. -/
theorem V_eqb {q a b : Nat} {x y : Int} (ha : V q a x) (hb : V q b y) : (D.order a b == some .eq) = decide (x = y) := by
  rw [V_order ha hb]
  by_cases h : x = y
  · rw [Int.compare_eq_eq.2 h, decide_eq_true h]; rfl
  · rw [decide_eq_false h]
    rcases Int.lt_or_gt_of_ne h with h | h
    · rw [Int.compare_eq_lt.2 h]; rfl
    · rw [Int.compare_eq_gt.2 h]; rfl
attribute [irreducible] V
end Go.Fw
