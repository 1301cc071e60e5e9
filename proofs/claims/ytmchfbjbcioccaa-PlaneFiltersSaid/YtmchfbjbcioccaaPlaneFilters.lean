/-
  PlaneFilters: for any two filters of taps in sixty-fourths, any two rows of whole numbers and any quarter turns, the answer to a sum is the sum of the answers, to a turned row the turned answer, and one filter behind the other is the same either way round.
-/
import Derived.Test.YtmchfbjbcioccaaRows
import Derived.Test.YtmchfbjbcioccaaFl
import Derived.Test.YtmchfbjbcioccaaFv
import Derived.Test.YtmchfbjbcioccaaTwPlaneFilters
import Derived.Test.YtmchfbjbcioccaaFa
import Derived.WalkKit
import Derived.ProofKit
import Derived.OpenShut
import Derived.SizedLaws
import Derived.ChangeMaps5
import Derived.Laws.Cover2
set_option linter.unusedSimpArgs false
set_option linter.unusedVariables false
namespace Go.Fw
open Go Ieee
set_option exponentiation.threshold 2200
theorem log2_shift (m d : Nat) (hm : 0 < m) : (m * 2 ^ d).log2 = m.log2 + d := by
  have h1 : 2 ^ m.log2 ≤ m := Nat.log2_self_le (by omega)
  have h2 : m < 2 ^ (m.log2 + 1) := Nat.lt_log2_self
  have hp := Nat.two_pow_pos d
  have h3 : 2 ^ (m.log2 + d) ≤ m * 2 ^ d := by rw [Nat.pow_add]; exact Nat.mul_le_mul_right _ h1
  have h4 : m * 2 ^ d < 2 ^ (m.log2 + d + 1) := by
    rw [show m.log2 + d + 1 = (m.log2 + 1) + d by omega, Nat.pow_add]
    exact Nat.mul_lt_mul_of_pos_right h2 hp
  have hz : m * 2 ^ d ≠ 0 := by have := Nat.mul_pos hm hp; omega
  have h5 : (m * 2 ^ d).log2 < m.log2 + d + 1 := (Nat.log2_lt hz).2 h4
  have h6 : m.log2 + d ≤ (m * 2 ^ d).log2 := (Nat.le_log2 hz).2 h3
  omega
theorem nearest_shift (neg : Bool) (m d : Nat) (p : Int) (hm : 0 < m) (h : lst m (p + d) ≤ p + d) : D.nearest neg (m * 2 ^ d) p = D.nearest neg m (p + d) := by
  have hp := Nat.two_pow_pos d
  have hz : m * 2 ^ d ≠ 0 := by have := Nat.mul_pos hm hp; omega
  have hl : lst (m * 2 ^ d) p = lst m (p + d) := by
    unfold lst; rw [log2_shift m d hm]; push_cast; congr 1; omega
  unfold Format.nearest
  rw [if_neg hz, if_neg (by omega), d_least, d_bin, d_inf]
  show D.word neg (min ((lst (m * 2 ^ d) p - -1074).toNat * 4503599627370496 + Toward.even.cut neg ((m * 2 ^ d) <<< (p - lst (m * 2 ^ d) p).toNat) (lst (m * 2 ^ d) p - p).toNat) 9218868437227405312) = D.word neg (min ((lst m (p + d) - -1074).toNat * 4503599627370496 + Toward.even.cut neg (m <<< (p + d - lst m (p + d)).toNat) (lst m (p + d) - (p + d)).toNat) 9218868437227405312)
  rw [hl]
  generalize hL : lst m (p + d) = L at *
  congr 3
  by_cases hc : L ≤ p
  · rw [show (L - p).toNat = 0 by omega, show (L - (p + d)).toNat = 0 by omega, Nat.shiftLeft_eq, Nat.shiftLeft_eq, show (p + d - L).toNat = d + (p - L).toNat by omega, Nat.pow_add, Nat.mul_assoc]
  · rw [show (p - L).toNat = 0 by omega, show (L - (p + d)).toNat = 0 by omega, Nat.shiftLeft_zero, cut_zero, Nat.shiftLeft_eq]
    have e : m * 2 ^ d = m * 2 ^ (p + d - L).toNat * 2 ^ (L - p).toNat := by
      rw [Nat.mul_assoc, ← Nat.pow_add]; congr 2; omega
    have hg : (L - p).toNat ≤ (m * 2 ^ d).log2 + 2 := by rw [log2_shift m d hm]; omega
    rw [e] at hg ⊢
    exact cut_exact neg _ _ hg
end Go.Fw

namespace Go.Fw
open Go Ieee
set_option exponentiation.threshold 2200
end Go.Fw

namespace Go.Fw
open Go Ieee
set_option exponentiation.threshold 2200
/-- A number of few digits by a power of two. -/
theorem V_div {q a c j : Nat} {n : Int} (h : V q a n) (hc : D.read c = .number false 4503599627370496 (-52 + j)) (h1 : -9007199254740992 < n) (h2 : n < 9007199254740992) (hq : q + j ≤ 900) : ∃ r, D.div a c = some r ∧ V (q + j) r n := by
  unfold V at h
  obtain ⟨s, m, i, e1, e2⟩ := h
  have b1 := read_bound e1
  have hfb : D.fractionBits + 2 = 54 := by decide
  unfold Format.div
  rw [e1, hc, hfb]
  by_cases h0 : m = 0
  · subst h0
    have hn : n = 0 := by
      have h3 : signed s 0 (i + 1074).toNat = 0 := by rw [signed_eq]; cases s <;> simp
      rw [h3] at e2
      exact (Int.mul_eq_zero.1 e2.symm).resolve_right (by have : (0 : Int) < 2 ^ (1074 - q) := Int.pow_pos (by decide)
                                                          omega)
    subst hn
    refine ⟨_, rfl, ?_⟩
    unfold V
    refine ⟨s, 0, -1074, ?_, by rw [signed_eq]; cases s <;> simp⟩
    have : ∀ k : Nat, 0 <<< k = 0 := fun k => Nat.zero_shiftLeft k
    simp only [this, Nat.zero_div, Nat.zero_mod, Nat.mul_zero, Nat.zero_add]
    rw [show (s ^^ false) = s by cases s <;> rfl]
    exact write_read0 _ _
  have hm : 0 < m := by omega
  have h53 : (2 : Nat) ^ 53 = 9007199254740992 := by decide
  have hlog : m.log2 ≤ 52 := by
    have : m.log2 < 53 := (Nat.log2_lt (by omega)).2 (by omega)
    omega
  have hn0 : n ≠ 0 := by
    intro h3
    rw [h3, Int.zero_mul] at e2
    have := congrArg Int.natAbs e2
    rw [signed_abs] at this
    have h5 : m = 0 := (Nat.mul_eq_zero.1 this).resolve_right (by have := Nat.two_pow_pos ((i + 1074).toNat); omega)
    omega
  have hpl := V_place e2 b1.1 b1.2 hn0 (by omega)
  have hup : m.log2 + (i + 1074).toNat < 53 + (1074 - q) := by
    have k1 : 2 ^ m.log2 ≤ m := Nat.log2_self_le (by omega)
    have k2 : 2 ^ m.log2 * 2 ^ (i + 1074).toNat ≤ m * 2 ^ (i + 1074).toNat := Nat.mul_le_mul_right _ k1
    have k3 := congrArg Int.natAbs e2
    rw [signed_abs, Int.natAbs_mul, Int.natAbs_pow] at k3
    rw [← Nat.pow_add, k3] at k2
    have k4 : n.natAbs * (Int.natAbs 2) ^ (1074 - q) < 2 ^ 53 * 2 ^ (1074 - q) := Nat.mul_lt_mul_of_pos_right (by omega) (Nat.two_pow_pos _)
    rw [← Nat.pow_add] at k4
    exact (Nat.pow_lt_pow_iff_right (by decide : 1 < 2)).1 (Nat.lt_of_le_of_lt k2 k4)
  have hl2 : Nat.log2 4503599627370496 = 52 := by decide
  refine ⟨_, by simp only [Datum.quotient, show ¬ (4503599627370496 = 0) by decide, if_false, Option.map_some]; rfl, ?_⟩
  rw [hl2, Nat.shiftLeft_eq]
  obtain ⟨t, ht⟩ : ∃ t, 54 + 52 - m.log2 = 52 + t := ⟨54 - m.log2, by omega⟩
  have ht' : 0 < t := by omega
  have h52 : (2 : Nat) ^ 52 = 4503599627370496 := by decide
  have hd : m * 2 ^ (52 + t) = m * 2 ^ t * 4503599627370496 := by rw [Nat.pow_add, h52, ← Nat.mul_assoc, Nat.mul_right_comm]
  rw [ht, hd, Nat.mul_div_cancel _ (by decide), Nat.mul_mod_left]
  have hmag : 2 * (m * 2 ^ t) + ((0 : Nat) != 0).toNat = m * 2 ^ (t + 1) := by
    show 2 * (m * 2 ^ t) + 0 = _
    rw [Nat.pow_succ]; rw [Nat.add_zero, Nat.mul_comm 2, Nat.mul_assoc]
  have hw : D.write (.number s (m * 2 ^ (t + 1)) (i - (-52 + (j : Int)) - ((52 + t : Nat) : Int) - 1)) = D.write (.number s (m * 2 ^ 0) (i - j)) := by
    show D.nearest s _ _ = D.nearest s (m * 2 ^ 0) _
    rw [nearest_shift s m (t + 1) _ hm (by unfold lst; omega), Nat.pow_zero, Nat.mul_one]
    congr 1; omega
  rw [hmag]
  rw [show (s ^^ false) = s by cases s <;> rfl, hw]
  obtain ⟨M, Q, k1, k2, k3⟩ := write_exact s m 0 (i - j) hm b1.1 (by omega) (by rw [Nat.pow_zero, Nat.mul_one]; omega)
  unfold V
  refine ⟨s, M, Q, k1, ?_⟩
  rw [Nat.pow_zero, Nat.mul_one] at k3
  have hp : (0 : Int) < 2 ^ j := Int.pow_pos (by decide)
  apply Int.eq_of_mul_eq_mul_right (show (2 : Int) ^ j ≠ 0 by omega)
  rw [Int.mul_assoc, ← Int.pow_add, show 1074 - (q + j) + j = 1074 - q by omega, ← e2, signed_eq, signed_eq]
  have k4 := congrArg (Nat.cast : Nat → Int) k3
  push_cast at k4
  rw [k4, Int.mul_assoc, Int.mul_assoc, ← Int.pow_add]
  congr 3
  omega
end Go.Fw

namespace Go.Fw
open Go Ieee
/-- No number. -/
def Nn (r : Nat) : Prop := ∃ s f, FloatKind.f64.format.read r = .nan s f
/-- What an operation of two floats gives, no number included. -/
def Fo (op : BinOp) (a b r : Nat) : Prop := floatBits op .f64 a b = some r ∨ (floatBits op .f64 a b = none ∧ Nn r)
theorem nan_fo {op : BinOp} {a b : Nat} {Q : Nat → Prop} (h : ∀ r, Fo op a b r → Q r) : (∃ r, floatBits op .f64 a b = some r ∧ Q r) ∨ (floatBits op .f64 a b = none ∧ ∀ r s f, FloatKind.f64.format.read r = .nan s f → r < 18446744073709551616 → Q r) := by
  cases e : floatBits op .f64 a b with
  | none => exact .inr ⟨rfl, fun r s f n _ => h r (.inr ⟨e, s, f, n⟩)⟩
  | some r => exact .inl ⟨r, rfl, h r (.inl e)⟩
theorem Nn.right {op : BinOp} {a b : Nat} (h : Nn b) (ho : op = .add ∨ op = .sub ∨ op = .mul ∨ op = .quo) : floatBits op .f64 a b = none := by
  obtain ⟨s, f, h⟩ := h
  rcases ho with rfl | rfl | rfl | rfl
  · show Format.add _ a b = none
    unfold Format.add; rw [h]; cases FloatKind.f64.format.read a <;> rfl
  · show Format.sub _ a b = none
    unfold Format.sub; rw [h]; cases FloatKind.f64.format.read a <;> rfl
  · show Format.mul _ a b = none
    unfold Format.mul; rw [h]; cases FloatKind.f64.format.read a <;> rfl
  · show Format.div _ a b = none
    unfold Format.div; rw [h]; cases FloatKind.f64.format.read a <;> rfl
end Go.Fw

namespace Go.Fw
open Go Ieee
/-! Complex whole numbers: sums, products, a filter's answer. -/
def ca (a b : Int × Int) : Int × Int := (a.1 + b.1, a.2 + b.2)
def cm (a b : Int × Int) : Int × Int := (a.1 * b.1 - a.2 * b.2, a.1 * b.2 + a.2 * b.1)
def sm (f : Nat → Int × Int) : Nat → Int × Int
  | 0 => (0, 0)
  | n + 1 => ca (sm f n) (f n)
theorem ca_ac (a b c d : Int × Int) : ca (ca a b) (ca c d) = ca (ca a c) (ca b d) := by unfold ca; ext <;> simp <;> omega
theorem ca_as (a b c : Int × Int) : ca (ca a b) c = ca a (ca b c) := by unfold ca; ext <;> simp <;> omega
theorem ca_cm (a b : Int × Int) : ca a b = ca b a := by unfold ca; ext <;> simp <;> omega
theorem ca_z (a : Int × Int) : ca a (0, 0) = a := by unfold ca; ext <;> simp
theorem z_ca (a : Int × Int) : ca (0, 0) a = a := by unfold ca; ext <;> simp
theorem cm_ca (a b c : Int × Int) : cm a (ca b c) = ca (cm a b) (cm a c) := by unfold ca cm; ext <;> simp <;> grind
theorem cm_sw (a b c : Int × Int) : cm a (cm b c) = cm b (cm a c) := by unfold cm; ext <;> simp <;> grind
theorem cm_z (a : Int × Int) : cm a (0, 0) = (0, 0) := by unfold cm; simp
theorem z_cm (a : Int × Int) : cm (0, 0) a = (0, 0) := by unfold cm; simp
theorem sm_congr {f g : Nat → Int × Int} : ∀ {n : Nat}, (∀ i, i < n → f i = g i) → sm f n = sm g n
  | 0, _ => rfl
  | n + 1, h => by show ca (sm f n) (f n) = ca (sm g n) (g n); rw [sm_congr fun i hi => h i (by omega), h n (by omega)]
theorem sm_add (f g : Nat → Int × Int) : ∀ n, sm (fun i => ca (f i) (g i)) n = ca (sm f n) (sm g n)
  | 0 => by show ((0, 0) : Int × Int) = ca (0, 0) (0, 0); rw [ca_z]
  | n + 1 => by show ca (sm _ n) (ca (f n) (g n)) = ca (ca _ _) (ca _ _); rw [sm_add f g n, ca_ac]
theorem sm_mul (a : Int × Int) (f : Nat → Int × Int) : ∀ n, cm a (sm f n) = sm (fun i => cm a (f i)) n
  | 0 => cm_z a
  | n + 1 => by show cm a (ca _ _) = ca _ _; rw [cm_ca, sm_mul a f n]
theorem sm_head (f : Nat → Int × Int) : ∀ n, sm f (n + 1) = ca (f 0) (sm (fun i => f (i + 1)) n)
  | 0 => by show ca (0, 0) (f 0) = ca (f 0) (0, 0); rw [ca_z, z_ca]
  | n + 1 => by show ca (sm f (n + 1)) (f (n + 1)) = ca (f 0) (ca (sm _ n) (f (n + 1))); rw [sm_head f n, ca_as]
theorem sm_rev (f : Nat → Int × Int) : ∀ n, sm f (n + 1) = sm (fun i => f (n - i)) (n + 1)
  | 0 => rfl
  | n + 1 => by
    rw [sm_head (fun i => f (n + 1 - i)) (n + 1)]
    show ca (sm f (n + 1)) (f (n + 1)) = ca (f (n + 1)) _
    rw [sm_rev f n, ca_cm]
    refine congrArg _ (sm_congr fun i hi => ?_)
    show f (n - i) = f (n + 1 - (i + 1))
    congr 1; omega
theorem sm_diag (f : Nat → Nat → Int × Int) : ∀ n, sm (fun i => sm (fun j => f i j) (n + 1 - i)) (n + 1) = ca (sm (fun i => sm (fun j => f i j) (n - i)) n) (sm (fun i => f i (n - i)) (n + 1))
  | n => by
    rw [show sm (fun i => sm (fun j => f i j) (n + 1 - i)) (n + 1) = sm (fun i => ca (sm (fun j => f i j) (n - i)) (f i (n - i))) (n + 1) from sm_congr fun i hi => by
      rw [show n + 1 - i = (n - i) + 1 by omega]; rfl, sm_add]
    congr 1
    show ca _ (sm (fun j => f n j) (n - n)) = _
    rw [Nat.sub_self]
    exact ca_z _
theorem sm_swap (f : Nat → Nat → Int × Int) : ∀ n, sm (fun i => sm (fun j => f i j) (n - i)) n = sm (fun j => sm (fun i => f i j) (n - j)) n
  | 0 => rfl
  | n + 1 => by
    rw [sm_diag f n, sm_diag (fun j i => f i j) n, sm_swap f n, sm_rev (fun i => f i (n - i)) n]
    congr 1
    refine sm_congr fun i hi => ?_
    show f (n - i) (n - (n - i)) = f (n - i) i
    congr 1; omega
/-- So many terms of a filter's answer at n. -/
def cs (h r : Nat → Int × Int) (n k : Nat) : Int × Int := sm (fun i => cm (h i) (r (n - i))) k
/-- A filter's answer. -/
def fl (h r : Nat → Int × Int) (n : Nat) : Int × Int := cs h r n (n + 1)
/-- A row up to its end. -/
def upto (h : Nat → Int × Int) (m : Nat) (i : Nat) : Int × Int := if i < m then h i else (0, 0)
theorem sm_more (f : Nat → Int × Int) (m : Nat) (hf : ∀ i, m ≤ i → f i = (0, 0)) : ∀ d, sm f (m + d) = sm f m
  | 0 => rfl
  | d + 1 => by show ca (sm f (m + d)) (f (m + d)) = _; rw [sm_more f m hf d, hf _ (by omega), ca_z]
theorem cs_upto (h r : Nat → Int × Int) (n m : Nat) : cs h r n (min (n + 1) m) = fl (upto h m) r n := by
  unfold cs fl cs
  rw [show sm (fun i => cm (h i) (r (n - i))) (min (n + 1) m) = sm (fun i => cm (upto h m i) (r (n - i))) (min (n + 1) m) from sm_congr fun i hi => by
    unfold upto; rw [if_pos (by have := Nat.min_le_right (n + 1) m; omega)]]
  by_cases q : n + 1 ≤ m
  · rw [Nat.min_eq_left q]
  · rw [Nat.min_eq_right (by omega), show n + 1 = m + (n + 1 - m) by omega]
    refine (sm_more _ m (fun i hi => ?_) _).symm
    show cm (upto h m i) _ = _
    unfold upto; rw [if_neg (by omega), z_cm]
theorem fl_sum (h r s : Nat → Int × Int) (n : Nat) : fl h (fun i => ca (r i) (s i)) n = ca (fl h r n) (fl h s n) := by
  unfold fl cs
  rw [← sm_add]
  exact sm_congr fun i _ => cm_ca _ _ _
theorem fl_fl (u v r : Nat → Int × Int) (n : Nat) : fl v (fl u r) n = fl u (fl v r) n := by
  unfold fl cs
  have e1 : ∀ a b : Nat → Int × Int, sm (fun i => cm (a i) (sm (fun j => cm (b j) (r (n - i - j))) (n - i + 1))) (n + 1) = sm (fun i => sm (fun j => cm (a i) (cm (b j) (r (n - i - j)))) (n + 1 - i)) (n + 1) := fun a b =>
    sm_congr fun i hi => by rw [sm_mul, show n - i + 1 = n + 1 - i by omega]
  rw [e1 v u, e1 u v, sm_swap]
  refine sm_congr fun j hj => sm_congr fun i hi => ?_
  rw [cm_sw, show n - i - j = n - j - i by omega]
def tI (q : Nat) (p : Int × Int) : Int × Int := match q with | 0 => p | 1 => (-p.2, p.1) | 2 => (-p.1, -p.2) | _ => (p.2, -p.1)
theorem tI_cm (q : Nat) (a b : Int × Int) : cm a (tI q b) = tI q (cm a b) := by
  match q with
  | 0 => rfl
  | 1 => unfold tI cm; ext <;> simp <;> grind
  | 2 => unfold tI cm; ext <;> simp <;> grind
  | n + 3 => unfold tI cm; ext <;> simp <;> grind
theorem tI_ca (q : Nat) (a b : Int × Int) : tI q (ca a b) = ca (tI q a) (tI q b) := by
  match q with
  | 0 => rfl
  | 1 => unfold tI ca; ext <;> simp <;> omega
  | 2 => unfold tI ca; ext <;> simp <;> omega
  | n + 3 => unfold tI ca; ext <;> simp <;> omega
theorem tI_sm (q : Nat) (f : Nat → Int × Int) : ∀ n, sm (fun i => tI q (f i)) n = tI q (sm f n)
  | 0 => by show ((0, 0) : Int × Int) = tI q (0, 0); match q with | 0 => rfl | 1 => rfl | 2 => rfl | n + 3 => rfl
  | n + 1 => by show ca _ _ = tI q (ca _ _); rw [tI_sm q f n, tI_ca]
theorem fl_turn (q : Nat) (h r : Nat → Int × Int) (n : Nat) : fl h (fun i => tI q (r i)) n = tI q (fl h r n) := by
  unfold fl cs
  rw [← tI_sm]
  exact sm_congr fun i _ => tI_cm _ _ _
/-- How great a part can be. -/
def bd (B : Nat) (x : Int × Int) : Prop := -(B : Int) ≤ x.1 ∧ x.1 ≤ B ∧ -(B : Int) ≤ x.2 ∧ x.2 ≤ B
theorem mul_bd {A B : Nat} {x y : Int} (hx : -(A : Int) ≤ x ∧ x ≤ A) (hy : -(B : Int) ≤ y ∧ y ≤ B) : -((A * B : Nat) : Int) ≤ x * y ∧ x * y ≤ (A * B : Nat) := by
  have h1 : (x * y).natAbs ≤ A * B := by rw [Int.natAbs_mul]; exact Nat.mul_le_mul (by omega) (by omega)
  omega
theorem cm_bd {A B : Nat} {x y : Int × Int} (hx : bd A x) (hy : bd B y) : bd (2 * (A * B)) (cm x y) := by
  obtain ⟨a1, a2, a3, a4⟩ := hx
  obtain ⟨b1, b2, b3, b4⟩ := hy
  have p := mul_bd ⟨a1, a2⟩ ⟨b1, b2⟩
  have q := mul_bd ⟨a3, a4⟩ ⟨b3, b4⟩
  have r := mul_bd ⟨a1, a2⟩ ⟨b3, b4⟩
  have s := mul_bd ⟨a3, a4⟩ ⟨b1, b2⟩
  unfold bd cm
  refine ⟨?_, ?_, ?_, ?_⟩ <;> (simp only []; omega)
theorem bd_up {A B : Nat} {x : Int × Int} (h : bd A x) (hAB : A ≤ B) : bd B x := by
  unfold bd at *; omega
theorem ca_bd {A B : Nat} {x y : Int × Int} (hx : bd A x) (hy : bd B y) : bd (A + B) (ca x y) := by
  unfold bd ca at *; simp only []; omega
theorem tI_bd {A : Nat} {x : Int × Int} (h : bd A x) (q : Nat) : bd A (tI q x) := by
  unfold bd at *
  match q with
  | 0 => exact h
  | 1 => simp only [tI]; omega
  | 2 => simp only [tI]; omega
  | n + 3 => simp only [tI]; omega
theorem cs_bd {A B : Nat} {h r : Nat → Int × Int} {n : Nat} : ∀ {k : Nat}, (∀ i, i < k → bd A (h i)) → (∀ i, i ≤ n → bd B (r i)) → bd (k * (2 * (A * B))) (cs h r n k)
  | 0, _, _ => by unfold bd cs sm; simp
  | k + 1, hh, hr => by
    have := ca_bd (cs_bd (k := k) (fun i hi => hh i (by omega)) hr) (cm_bd (hh k (by omega)) (hr (n - k) (by omega)))
    rw [show (k + 1) * (2 * (A * B)) = k * (2 * (A * B)) + 2 * (A * B) from Nat.succ_mul _ _]
    exact this
/-- A complex number in units. -/
def VQ (q : Nat) (b : Nat × Nat) (x : Int × Int) : Prop := V q b.1 x.1 ∧ V q b.2 x.2
def bdx (x : Int) : Prop := -9007199254740992 < x ∧ x < 9007199254740992
theorem Fo_add {q a b r : Nat} {x y : Int} (h : Fo .add a b r) (ha : V q a x) (hb : V q b y) (hx : bdx (x + y)) (hq : q ≤ 1000) : V q r (x + y) := by
  obtain ⟨s, h1, h2⟩ := V_add ha hb hx.1 hx.2 hq
  have h1 : floatBits .add .f64 a b = some s := h1
  rcases h with h | ⟨h, _⟩
  · rw [h1] at h; cases h; exact h2
  · rw [h1] at h; cases h
theorem Fo_sub {q a b r : Nat} {x y : Int} (h : Fo .sub a b r) (ha : V q a x) (hb : V q b y) (hx : bdx (x - y)) (hq : q ≤ 1000) : V q r (x - y) := by
  obtain ⟨s, h1, h2⟩ := V_sub ha hb hx.1 hx.2 hq
  have h1 : floatBits .sub .f64 a b = some s := h1
  rcases h with h | ⟨h, _⟩
  · rw [h1] at h; cases h; exact h2
  · rw [h1] at h; cases h
theorem Fo_mul {q p a b r : Nat} {x y : Int} (h : Fo .mul a b r) (ha : V q a x) (hb : V p b y) (hx : bdx (x * y)) (hq : q + p ≤ 900) : V (q + p) r (x * y) := by
  obtain ⟨s, h1, h2⟩ := V_mul ha hb hx.1 hx.2 hq
  have h1 : floatBits .mul .f64 a b = some s := h1
  rcases h with h | ⟨h, _⟩
  · rw [h1] at h; cases h; exact h2
  · rw [h1] at h; cases h
theorem VQ_eq {q : Nat} {a b : Nat × Nat} {x : Int × Int} (ha : VQ q a x) (hb : VQ q b x) : (FloatKind.f64.format.order a.1 b.1 == some .eq && FloatKind.f64.format.order a.2 b.2 == some .eq) = true := by
  rw [Bool.and_eq_true]
  exact ⟨(V_eqb ha.1 hb.1).trans (by simp), (V_eqb ha.2 hb.2).trans (by simp)⟩
end Go.Fw

set_option linter.unusedVariables false
set_option linter.unusedSimpArgs false
namespace Go.Proofs.Ytmchfbjbcioccaa
open Go Go.Fw
def tyL : List (Nat × TyI) := [
  (1, ⟨.func, 1, 8, .nilFunc⟩),
  (2, ⟨.int .i64, 1, 8, .int .i64 0⟩),
  (3, ⟨.int .i64, 1, 8, .int .i64 0⟩),
  (4, ⟨.bool, 1, 1, .bool false⟩),
  (5, ⟨.int .u8, 1, 1, .int .u8 0⟩),
  (9, ⟨.str, 1, 16, .string (ByteArray.mk #[])⟩),
  (12, ⟨.int .u64, 1, 8, .int .u64 0⟩),
  (21, ⟨.int .i32, 1, 4, .int .i32 0⟩),
  (22, ⟨.slice 36, 1, 24, .slice none 0 0⟩),
  (23, ⟨.struct [(0, 22), (1, 22), (2, 22), (3, 22), (4, 3)], 5, 104, .agg #[.slice none 0 0, .slice none 0 0, .slice none 0 0, .slice none 0 0, .int .i64 0]⟩),
  (24, ⟨.struct [(0, 22), (1, 22), (2, 22), (3, 22), (4, 3)], 5, 104, .agg #[.slice none 0 0, .slice none 0 0, .slice none 0 0, .slice none 0 0, .int .i64 0]⟩),
  (25, ⟨.slice 29, 1, 24, .slice none 0 0⟩),
  (26, ⟨.func, 1, 8, .nilFunc⟩),
  (27, ⟨.float .f64, 1, 8, .float .f64 0⟩),
  (28, ⟨.func, 1, 8, .nilFunc⟩),
  (29, ⟨.cpx .f64, 1, 16, .complex .f64 0 0⟩),
  (30, ⟨.func, 1, 8, .nilFunc⟩),
  (31, ⟨.int .i64, 1, 8, .int .i64 0⟩),
  (33, ⟨.func, 1, 8, .nilFunc⟩),
  (34, ⟨.func, 1, 8, .nilFunc⟩),
  (35, ⟨.int .i8, 1, 1, .int .i8 0⟩),
  (36, ⟨.array 2 35, 2, 2, .agg #[.int .i8 0, .int .i8 0]⟩),
  (37, ⟨.int .u32, 1, 4, .int .u32 0⟩),
  (39, ⟨.struct [(0, 2), (1, 2)], 2, 16, .agg #[.int .i64 0, .int .i64 0]⟩),
  (40, ⟨.struct [(0, 2), (1, 2)], 2, 16, .agg #[.int .i64 0, .int .i64 0]⟩),
  (41, ⟨.func, 1, 8, .nilFunc⟩),
  (42, ⟨.func, 1, 8, .nilFunc⟩),
  (43, ⟨.func, 1, 8, .nilFunc⟩),
  (44, ⟨.func, 1, 8, .nilFunc⟩),
  (45, ⟨.func, 1, 8, .nilFunc⟩),
  (46, ⟨.func, 1, 8, .nilFunc⟩),
  (52, ⟨.func, 1, 8, .nilFunc⟩),
  (55, ⟨.func, 1, 8, .nilFunc⟩),
  (56, ⟨.ptr 5, 1, 8, .pointer none⟩),
  (61, ⟨.func, 1, 8, .nilFunc⟩)]
theorem tokL : TOk Try.prog tyL := tokl_of ⟨⟨by kernel_rfl, by kernel_rfl⟩, ⟨by kernel_rfl, by kernel_rfl⟩, ⟨by kernel_rfl, by kernel_rfl⟩, ⟨by kernel_rfl, by kernel_rfl⟩, ⟨by kernel_rfl, by kernel_rfl⟩, ⟨by kernel_rfl, by kernel_rfl⟩, ⟨by kernel_rfl, by kernel_rfl⟩, ⟨by kernel_rfl, by kernel_rfl⟩, ⟨by kernel_rfl, by kernel_rfl⟩, ⟨by kernel_rfl, by kernel_rfl⟩, ⟨by kernel_rfl, by kernel_rfl⟩, ⟨by kernel_rfl, by kernel_rfl⟩, ⟨by kernel_rfl, by kernel_rfl⟩, ⟨by kernel_rfl, by kernel_rfl⟩, ⟨by kernel_rfl, by kernel_rfl⟩, ⟨by kernel_rfl, by kernel_rfl⟩, ⟨by kernel_rfl, by kernel_rfl⟩, ⟨by kernel_rfl, by kernel_rfl⟩, ⟨by kernel_rfl, by kernel_rfl⟩, ⟨by kernel_rfl, by kernel_rfl⟩, ⟨by kernel_rfl, by kernel_rfl⟩, ⟨by kernel_rfl, by kernel_rfl⟩, ⟨by kernel_rfl, by kernel_rfl⟩, ⟨by kernel_rfl, by kernel_rfl⟩, ⟨by kernel_rfl, by kernel_rfl⟩, ⟨by kernel_rfl, by kernel_rfl⟩, ⟨by kernel_rfl, by kernel_rfl⟩, ⟨by kernel_rfl, by kernel_rfl⟩, ⟨by kernel_rfl, by kernel_rfl⟩, ⟨by kernel_rfl, by kernel_rfl⟩, ⟨by kernel_rfl, by kernel_rfl⟩, ⟨by kernel_rfl, by kernel_rfl⟩, ⟨by kernel_rfl, by kernel_rfl⟩, ⟨by kernel_rfl, by kernel_rfl⟩, ⟨by kernel_rfl, by kernel_rfl⟩, True.intro⟩
theorem mixedL : Try.prog.follows .mixedOrders = true := by kernel_rfl
theorem i64max : IntKind.i64.max = 9223372036854775807 := rfl
theorem u8max : IntKind.u8.max = 255 := rfl
theorem u16max : IntKind.u16.max = 65535 := rfl
theorem u32max : IntKind.u32.max = 4294967295 := rfl
theorem u64max : IntKind.u64.max = 18446744073709551615 := rfl
def numOut (D : List Seg) (x : AV) : FOut := ⟨Unit, fun _ => True, fun _ => x, fun _ => D⟩
def qf : Nat → Bool := fun f => match f with | 6 => true | 3000027 => true | _ => false
def cfgp (k : Nat) : Cfg := { T := tyL, sgn := fun _ => true, wr := fun _ => false, k := k, q := qf }
def ng (x : Nat) : Nat := Op.negFloat .f64 x
def trn (q : Nat) (p : Nat × Nat) : Nat × Nat := match q with | 0 => p | 1 => (ng p.2, p.1) | 2 => (ng p.1, ng p.2) | _ => (p.2, ng p.1)
theorem and3 (n : Int) : rawBits .and .i64 n 3 = n % 4 := by
  show IntKind.i64.wrap ((BitVec.ofInt 64 n &&& BitVec.ofInt 64 3).toNat : Int) = n % 4
  have e : (BitVec.ofInt 64 n &&& BitVec.ofInt 64 3).toNat = (n % 4).toNat := by
    rw [BitVec.toNat_and, BitVec.toNat_ofInt, BitVec.toNat_ofInt]
    rw [show ((3 : Int) % ((2 ^ 64 : Nat) : Int)).toNat = 2 ^ 2 - 1 by decide, Nat.and_two_pow_sub_one_eq_mod]
    show (n % 18446744073709551616).toNat % 4 = _
    omega
  rw [e]
  unfold IntKind.wrap
  have : 0 ≤ n % 4 ∧ n % 4 < 4 := by omega
  simp [IntKind.bits, IntKind.signed]
  omega
noncomputable def k9 : Code := (Try.f6.body).getD .skip
attribute [local irreducible] rawBits
set_option maxHeartbeats 0 in
set_option maxRecDepth 100000 in
theorem Turn_q (p : Nat × Nat) (n : Int) (q : Nat) (hq : n % 4 = (q : Int)) : QFits Try.prog 6 ⟨[.cpx .f64 p.1 p.2, .int .i64 n], [], .cpx .f64 (trn q p).1 (trn q p).2⟩ := by
  refine qfits_of_body (C := { T := tyL, sgn := fun _ => true, wr := fun _ => false, k := 0, q := qf }) (c := k9) (ts := [4]) tokL mixedL (fun _ => none) (fun _ => none)
    Try.func6 (by kernel_rfl) (by kernel_rfl) (by kernel_rfl) (by kernel_rfl) (by kernel_rfl) rfl rfl ?_
  conv => whnf
  have ha := and3 n
  generalize rawBits .and .i64 n 3 = t at *
  rw [hq] at ha
  subst ha
  obtain rfl | rfl | rfl | rfl : q = 0 ∨ q = 1 ∨ q = 2 ∨ q = 3 := by omega
  all_goals (
    conv => whnf
    repeat (first
      | (refine And.intro ?_ ?_; (focus (first | omega | decide | exact EqOk.mk (by kernel_rfl) (by kernel_rfl) (by kernel_rfl) | exact Int.natCast_nonneg _ | ((repeat' refine And.intro ?_ ?_) <;> first | omega | exact Int.natCast_nonneg _ | (simp only [i64max, u8max, u16max, u32max, u64max]; omega) | (simp only [mulSz_eq, Cont.len, colsLen, Col.len, List.length_cons, List.length_nil, List.length_replicate, List.length_append]; first | done | omega) | (simp [mulSz, Cont.len, bne]; first | done | omega)))); conv => whnf)
      | (refine tst_in ?_ ?_; (focus (intro h_; exfalso; first | omega | ((try simp only [decide_eq_true_eq, decide_eq_false_iff_not] at h_); omega) | (simp [mulSz, Cont.len, bne] at h_; first | done | omega))); intro _; conv => whnf)
      | (refine tst_in ?_ ?_; rotate_left; (focus (intro h_; exfalso; first | omega | ((try simp only [decide_eq_true_eq, decide_eq_false_iff_not] at h_); omega) | (simp [mulSz, Cont.len, bne] at h_; first | done | omega))); intro _; conv => whnf)
      | (refine ⟨0, (show _ = _ by omega), ?_⟩; conv => whnf))
    exact ⟨rfl, rfl⟩
  )

def MuR (a b r : Nat × Nat) : Prop := ∃ x y u v, Fo .mul a.1 b.1 x ∧ Fo .mul a.2 b.2 y ∧ Fo .mul a.1 b.2 u ∧ Fo .mul a.2 b.1 v ∧ Fo .sub x y r.1 ∧ Fo .add u v r.2
def mulOut (a b : Nat × Nat) : FOut := ⟨Nat × Nat, fun r => MuR a b r, fun r => .cpx .f64 r.1 r.2, fun _ => []⟩
set_option maxHeartbeats 0 in
set_option maxRecDepth 100000 in
theorem Mul_f (a b : Nat × Nat) : Fits Try.prog 9 ⟨[.cpx .f64 a.1 a.2, .cpx .f64 b.1 b.2], [], [mulOut a b]⟩ := by
  unfold mulOut
  obtain ⟨a1, a2⟩ := a
  obtain ⟨b1, b2⟩ := b
  refine fits_of_body (C := cfgp 0) (c := (Try.f9.body).getD .skip) (ts := [4]) tokL mixedL (fun _ => none) (fun _ => none)
    Try.func9 (by kernel_rfl) (by kernel_rfl) (by kernel_rfl) (by kernel_rfl) rfl ?_
  conv => whnf
  repeat (first
    | (refine And.intro ?_ ?_; (focus (first | omega | decide | exact EqOk.mk (by kernel_rfl) (by kernel_rfl) (by kernel_rfl) | exact Int.natCast_nonneg _ | ((repeat' refine And.intro ?_ ?_) <;> first | omega | exact Int.natCast_nonneg _ | (simp only [i64max, u8max, u16max, u32max, u64max]; omega) | (simp only [mulSz_eq, Cont.len, colsLen, Col.len, List.length_cons, List.length_nil, List.length_replicate, List.length_append]; first | done | omega) | (simp [mulSz, Cont.len, bne]; first | done | omega)))); conv => whnf)
    | (refine tst_in ?_ ?_; (focus (intro h_; exfalso; first | omega | ((try simp only [decide_eq_true_eq, decide_eq_false_iff_not] at h_); omega) | (simp [mulSz, Cont.len, bne] at h_; first | done | omega))); intro _; conv => whnf)
    | (refine tst_in ?_ ?_; rotate_left; (focus (intro h_; exfalso; first | omega | ((try simp only [decide_eq_true_eq, decide_eq_false_iff_not] at h_); omega) | (simp [mulSz, Cont.len, bne] at h_; first | done | omega))); intro _; conv => whnf)
    | (refine ⟨0, (show _ = _ by omega), ?_⟩; conv => whnf))
  refine nan_fo (fun x h1 => ?_)
  conv => whnf
  repeat (first
    | (refine And.intro ?_ ?_; (focus (first | omega | decide | exact EqOk.mk (by kernel_rfl) (by kernel_rfl) (by kernel_rfl) | exact Int.natCast_nonneg _ | ((repeat' refine And.intro ?_ ?_) <;> first | omega | exact Int.natCast_nonneg _ | (simp only [i64max, u8max, u16max, u32max, u64max]; omega) | (simp only [mulSz_eq, Cont.len, colsLen, Col.len, List.length_cons, List.length_nil, List.length_replicate, List.length_append]; first | done | omega) | (simp [mulSz, Cont.len, bne]; first | done | omega)))); conv => whnf)
    | (refine tst_in ?_ ?_; (focus (intro h_; exfalso; first | omega | ((try simp only [decide_eq_true_eq, decide_eq_false_iff_not] at h_); omega) | (simp [mulSz, Cont.len, bne] at h_; first | done | omega))); intro _; conv => whnf)
    | (refine tst_in ?_ ?_; rotate_left; (focus (intro h_; exfalso; first | omega | ((try simp only [decide_eq_true_eq, decide_eq_false_iff_not] at h_); omega) | (simp [mulSz, Cont.len, bne] at h_; first | done | omega))); intro _; conv => whnf)
    | (refine ⟨0, (show _ = _ by omega), ?_⟩; conv => whnf))
  refine nan_fo (fun y h2 => ?_)
  conv => whnf
  repeat (first
    | (refine And.intro ?_ ?_; (focus (first | omega | decide | exact EqOk.mk (by kernel_rfl) (by kernel_rfl) (by kernel_rfl) | exact Int.natCast_nonneg _ | ((repeat' refine And.intro ?_ ?_) <;> first | omega | exact Int.natCast_nonneg _ | (simp only [i64max, u8max, u16max, u32max, u64max]; omega) | (simp only [mulSz_eq, Cont.len, colsLen, Col.len, List.length_cons, List.length_nil, List.length_replicate, List.length_append]; first | done | omega) | (simp [mulSz, Cont.len, bne]; first | done | omega)))); conv => whnf)
    | (refine tst_in ?_ ?_; (focus (intro h_; exfalso; first | omega | ((try simp only [decide_eq_true_eq, decide_eq_false_iff_not] at h_); omega) | (simp [mulSz, Cont.len, bne] at h_; first | done | omega))); intro _; conv => whnf)
    | (refine tst_in ?_ ?_; rotate_left; (focus (intro h_; exfalso; first | omega | ((try simp only [decide_eq_true_eq, decide_eq_false_iff_not] at h_); omega) | (simp [mulSz, Cont.len, bne] at h_; first | done | omega))); intro _; conv => whnf)
    | (refine ⟨0, (show _ = _ by omega), ?_⟩; conv => whnf))
  refine nan_fo (fun u h3 => ?_)
  conv => whnf
  repeat (first
    | (refine And.intro ?_ ?_; (focus (first | omega | decide | exact EqOk.mk (by kernel_rfl) (by kernel_rfl) (by kernel_rfl) | exact Int.natCast_nonneg _ | ((repeat' refine And.intro ?_ ?_) <;> first | omega | exact Int.natCast_nonneg _ | (simp only [i64max, u8max, u16max, u32max, u64max]; omega) | (simp only [mulSz_eq, Cont.len, colsLen, Col.len, List.length_cons, List.length_nil, List.length_replicate, List.length_append]; first | done | omega) | (simp [mulSz, Cont.len, bne]; first | done | omega)))); conv => whnf)
    | (refine tst_in ?_ ?_; (focus (intro h_; exfalso; first | omega | ((try simp only [decide_eq_true_eq, decide_eq_false_iff_not] at h_); omega) | (simp [mulSz, Cont.len, bne] at h_; first | done | omega))); intro _; conv => whnf)
    | (refine tst_in ?_ ?_; rotate_left; (focus (intro h_; exfalso; first | omega | ((try simp only [decide_eq_true_eq, decide_eq_false_iff_not] at h_); omega) | (simp [mulSz, Cont.len, bne] at h_; first | done | omega))); intro _; conv => whnf)
    | (refine ⟨0, (show _ = _ by omega), ?_⟩; conv => whnf))
  refine nan_fo (fun v h4 => ?_)
  conv => whnf
  repeat (first
    | (refine And.intro ?_ ?_; (focus (first | omega | decide | exact EqOk.mk (by kernel_rfl) (by kernel_rfl) (by kernel_rfl) | exact Int.natCast_nonneg _ | ((repeat' refine And.intro ?_ ?_) <;> first | omega | exact Int.natCast_nonneg _ | (simp only [i64max, u8max, u16max, u32max, u64max]; omega) | (simp only [mulSz_eq, Cont.len, colsLen, Col.len, List.length_cons, List.length_nil, List.length_replicate, List.length_append]; first | done | omega) | (simp [mulSz, Cont.len, bne]; first | done | omega)))); conv => whnf)
    | (refine tst_in ?_ ?_; (focus (intro h_; exfalso; first | omega | ((try simp only [decide_eq_true_eq, decide_eq_false_iff_not] at h_); omega) | (simp [mulSz, Cont.len, bne] at h_; first | done | omega))); intro _; conv => whnf)
    | (refine tst_in ?_ ?_; rotate_left; (focus (intro h_; exfalso; first | omega | ((try simp only [decide_eq_true_eq, decide_eq_false_iff_not] at h_); omega) | (simp [mulSz, Cont.len, bne] at h_; first | done | omega))); intro _; conv => whnf)
    | (refine ⟨0, (show _ = _ by omega), ?_⟩; conv => whnf))
  refine nan_fo (fun r1 h5 => ?_)
  conv => whnf
  repeat (first
    | (refine And.intro ?_ ?_; (focus (first | omega | decide | exact EqOk.mk (by kernel_rfl) (by kernel_rfl) (by kernel_rfl) | exact Int.natCast_nonneg _ | ((repeat' refine And.intro ?_ ?_) <;> first | omega | exact Int.natCast_nonneg _ | (simp only [i64max, u8max, u16max, u32max, u64max]; omega) | (simp only [mulSz_eq, Cont.len, colsLen, Col.len, List.length_cons, List.length_nil, List.length_replicate, List.length_append]; first | done | omega) | (simp [mulSz, Cont.len, bne]; first | done | omega)))); conv => whnf)
    | (refine tst_in ?_ ?_; (focus (intro h_; exfalso; first | omega | ((try simp only [decide_eq_true_eq, decide_eq_false_iff_not] at h_); omega) | (simp [mulSz, Cont.len, bne] at h_; first | done | omega))); intro _; conv => whnf)
    | (refine tst_in ?_ ?_; rotate_left; (focus (intro h_; exfalso; first | omega | ((try simp only [decide_eq_true_eq, decide_eq_false_iff_not] at h_); omega) | (simp [mulSz, Cont.len, bne] at h_; first | done | omega))); intro _; conv => whnf)
    | (refine ⟨0, (show _ = _ by omega), ?_⟩; conv => whnf))
  refine nan_fo (fun r2 h6 => ?_)
  conv => whnf
  repeat (first
    | (refine And.intro ?_ ?_; (focus (first | omega | decide | exact EqOk.mk (by kernel_rfl) (by kernel_rfl) (by kernel_rfl) | exact Int.natCast_nonneg _ | ((repeat' refine And.intro ?_ ?_) <;> first | omega | exact Int.natCast_nonneg _ | (simp only [i64max, u8max, u16max, u32max, u64max]; omega) | (simp only [mulSz_eq, Cont.len, colsLen, Col.len, List.length_cons, List.length_nil, List.length_replicate, List.length_append]; first | done | omega) | (simp [mulSz, Cont.len, bne]; first | done | omega)))); conv => whnf)
    | (refine tst_in ?_ ?_; (focus (intro h_; exfalso; first | omega | ((try simp only [decide_eq_true_eq, decide_eq_false_iff_not] at h_); omega) | (simp [mulSz, Cont.len, bne] at h_; first | done | omega))); intro _; conv => whnf)
    | (refine tst_in ?_ ?_; rotate_left; (focus (intro h_; exfalso; first | omega | ((try simp only [decide_eq_true_eq, decide_eq_false_iff_not] at h_); omega) | (simp [mulSz, Cont.len, bne] at h_; first | done | omega))); intro _; conv => whnf)
    | (refine ⟨0, (show _ = _ by omega), ?_⟩; conv => whnf))
  refine .inl ⟨(r1, r2), [], ?_⟩
  conv => whnf
  repeat' (first | exact True.intro | rfl | refine And.intro ?_ ?_)
  all_goals (conv => whnf)
  repeat' (first | exact True.intro | rfl | refine And.intro ?_ ?_)
  all_goals (try omega)
  exact ⟨x, y, u, v, h1, h2, h3, h4, h5, h6⟩
def AdR (a b r : Nat × Nat) : Prop := Fo .add a.1 b.1 r.1 ∧ Fo .add a.2 b.2 r.2
def FlR (H R : Nat → Nat × Nat) (n : Nat) : Nat → Nat × Nat → Prop
  | 0, r => r = (0, 0)
  | k + 1, r => ∃ s m, FlR H R n k s ∧ MuR (H k) (R (n - k)) m ∧ AdR s m r
abbrev YT := List (Nat × Nat)
def cxS (o : Bool) (A : List (Nat × Nat)) : Seg := .seg o (.cpxs .f64 A)
def aF (A : YT) (i : Nat) : Nat × Nat := A.getD i (0, 0)
def cpxOut (P : Nat × Nat → Prop) (D : List Seg) : FOut := ⟨Nat × Nat, P, fun r => .cpx .f64 r.1 r.2, fun _ => D⟩
set_option maxHeartbeats 0 in
set_option maxRecDepth 100000 in
theorem plus_f (a b : Nat × Nat) : Fits Try.prog 10 ⟨[.cpx .f64 a.1 a.2, .cpx .f64 b.1 b.2], [], [cpxOut (AdR a b) []]⟩ := by
  unfold cpxOut
  obtain ⟨a1, a2⟩ := a
  obtain ⟨b1, b2⟩ := b
  refine fits_of_body (C := cfgp 0) (c := (Try.f10.body).getD .skip) (ts := [4]) tokL mixedL (fun _ => none) (fun _ => none)
    Try.func10 (by kernel_rfl) (by kernel_rfl) (by kernel_rfl) (by kernel_rfl) rfl ?_
  conv => whnf
  repeat (first
    | (refine And.intro ?_ ?_; (focus (first | omega | decide | exact EqOk.mk (by kernel_rfl) (by kernel_rfl) (by kernel_rfl) | exact Int.natCast_nonneg _ | ((repeat' refine And.intro ?_ ?_) <;> first | omega | exact Int.natCast_nonneg _ | (simp only [i64max, u8max, u16max, u32max, u64max]; omega) | (simp only [mulSz_eq, Cont.len, colsLen, Col.len, List.length_cons, List.length_nil, List.length_replicate, List.length_append]; first | done | omega) | (simp [mulSz, Cont.len, bne]; first | done | omega)))); conv => whnf)
    | (refine tst_in ?_ ?_; (focus (intro h_; exfalso; first | omega | ((try simp only [decide_eq_true_eq, decide_eq_false_iff_not] at h_); omega) | (simp [mulSz, Cont.len, bne] at h_; first | done | omega))); intro _; conv => whnf)
    | (refine tst_in ?_ ?_; rotate_left; (focus (intro h_; exfalso; first | omega | ((try simp only [decide_eq_true_eq, decide_eq_false_iff_not] at h_); omega) | (simp [mulSz, Cont.len, bne] at h_; first | done | omega))); intro _; conv => whnf)
    | (refine ⟨0, (show _ = _ by omega), ?_⟩; conv => whnf))
  refine nan_fo (fun x h1 => ?_)
  conv => whnf
  repeat (first
    | (refine And.intro ?_ ?_; (focus (first | omega | decide | exact EqOk.mk (by kernel_rfl) (by kernel_rfl) (by kernel_rfl) | exact Int.natCast_nonneg _ | ((repeat' refine And.intro ?_ ?_) <;> first | omega | exact Int.natCast_nonneg _ | (simp only [i64max, u8max, u16max, u32max, u64max]; omega) | (simp only [mulSz_eq, Cont.len, colsLen, Col.len, List.length_cons, List.length_nil, List.length_replicate, List.length_append]; first | done | omega) | (simp [mulSz, Cont.len, bne]; first | done | omega)))); conv => whnf)
    | (refine tst_in ?_ ?_; (focus (intro h_; exfalso; first | omega | ((try simp only [decide_eq_true_eq, decide_eq_false_iff_not] at h_); omega) | (simp [mulSz, Cont.len, bne] at h_; first | done | omega))); intro _; conv => whnf)
    | (refine tst_in ?_ ?_; rotate_left; (focus (intro h_; exfalso; first | omega | ((try simp only [decide_eq_true_eq, decide_eq_false_iff_not] at h_); omega) | (simp [mulSz, Cont.len, bne] at h_; first | done | omega))); intro _; conv => whnf)
    | (refine ⟨0, (show _ = _ by omega), ?_⟩; conv => whnf))
  refine nan_fo (fun y h2 => ?_)
  conv => whnf
  repeat (first
    | (refine And.intro ?_ ?_; (focus (first | omega | decide | exact EqOk.mk (by kernel_rfl) (by kernel_rfl) (by kernel_rfl) | exact Int.natCast_nonneg _ | ((repeat' refine And.intro ?_ ?_) <;> first | omega | exact Int.natCast_nonneg _ | (simp only [i64max, u8max, u16max, u32max, u64max]; omega) | (simp only [mulSz_eq, Cont.len, colsLen, Col.len, List.length_cons, List.length_nil, List.length_replicate, List.length_append]; first | done | omega) | (simp [mulSz, Cont.len, bne]; first | done | omega)))); conv => whnf)
    | (refine tst_in ?_ ?_; (focus (intro h_; exfalso; first | omega | ((try simp only [decide_eq_true_eq, decide_eq_false_iff_not] at h_); omega) | (simp [mulSz, Cont.len, bne] at h_; first | done | omega))); intro _; conv => whnf)
    | (refine tst_in ?_ ?_; rotate_left; (focus (intro h_; exfalso; first | omega | ((try simp only [decide_eq_true_eq, decide_eq_false_iff_not] at h_); omega) | (simp [mulSz, Cont.len, bne] at h_; first | done | omega))); intro _; conv => whnf)
    | (refine ⟨0, (show _ = _ by omega), ?_⟩; conv => whnf))
  refine .inl ⟨(x, y), [], ?_⟩
  conv => whnf
  repeat' (first | exact True.intro | rfl | refine And.intro ?_ ?_)
  all_goals (conv => whnf)
  repeat' (first | exact True.intro | rfl | refine And.intro ?_ ?_)
  all_goals (try omega)
  · exact h1
  · exact h2
def cfgr (k : Nat) : Cfg := { T := tyL, sgn := fun _ => false, wr := fun _ => false, k := k, q := fun _ => false }
end Go.Proofs.Ytmchfbjbcioccaa

set_option linter.unusedVariables false
set_option linter.unusedSimpArgs false
namespace Go.Proofs.Ytmchfbjbcioccaa
open Go Go.Fw
def natAt (st : St) (t : Nat) : Nat := match slot st.sl t with | .int _ n => n.toNat | _ => 0
def plan23 : PlanL := .nn (.op 0 (.op 1 (.op 2 (.op 3 (.op 6 (.op 7 (.op 8 (.op 9 (.op 10 (.op 11 (.op 12 (.op 13 (.op 14 (.op 15 (.rd 4 (.rd 5 (.op 16 (.chk [5, 4] (.op 17 (.op 18 (.op 19 .done)))))))))))))))))))))
/-- A part of the answer. -/
def FlA (A B : YT) (nh n : Nat) (O : YT) : Prop := ∀ i, i < n → FlR (aF A) (aF B) i (min (i + 1) nh) (O.getD i (0, 0))
structure RF where
  k : Nat
  O : YT
def st23 (A B : YT) (nh ch N cr : Nat) (n : Nat) (O : YT) : St :=
  ⟨slotsAt 60 [(0, .slice 0 0 nh ch), (1, .slice 1 0 N cr), (6, .slice 2 0 N N), (26, .int .i64 N), (27, .int .i64 n)], [cxS false A, cxS false B, cxS true O]⟩
def inv23 (A B : YT) (nh ch N cr : Nat) : LInv := ⟨RF, fun x => st23 A B nh ch N cr x.k x.O, fun x => x.k ≤ N ∧ x.O.length = N ∧ FlA A B nh x.k x.O ∧ ∀ i, x.k ≤ i → x.O.getD i (0, 0) = (0, 0), fun x => N - x.k⟩
def st23b (A B : YT) (nh ch N cr : Nat) (n k : Nat) (O : YT) : St :=
  ⟨slotsAt 60 [(0, .slice 0 0 nh ch), (1, .slice 1 0 N cr), (6, .slice 2 0 N N), (7, .int .i64 n), (26, .int .i64 N), (27, .int .i64 n), (34, .int .i64 ((min (n + 1) nh : Nat) : Int)), (35, .int .i64 k)], [cxS false A, cxS false B, cxS true O]⟩
def inv23b (A B : YT) (nh ch N cr : Nat) (st : St) : LInv := ⟨RF, fun x => st23b A B nh ch N cr (natAt st 7) x.k x.O, fun x => x.k ≤ min (natAt st 7 + 1) nh ∧ x.O.length = N ∧ FlA A B nh (natAt st 7) x.O ∧ FlR (aF A) (aF B) (natAt st 7) x.k (x.O.getD (natAt st 7) (0, 0)) ∧ ∀ i, natAt st 7 < i → x.O.getD i (0, 0) = (0, 0), fun x => min (natAt st 7 + 1) nh - x.k⟩
def dm (nh n m : Nat) (e : Int) : Prop := (1 ≤ nh ∧ nh ≤ 64 ∧ n ≤ 65536 ∧ n = m ∧ e = 0) ∨ ((nh < 1 ∨ 64 < nh ∨ 65536 < n) ∧ m = 0 ∧ e = 1)
def flOut (A B : YT) (nh m : Nat) (e : Int) : FOut := ⟨YT, fun O => O.length = m ∧ FlA A B nh m O, fun O => .tup [.slice 2 0 m m, .int .i64 e], fun O => [.dead, .dead, cxS true O]⟩
theorem getD_set {O : YT} {n i : Nat} {r : Nat × Nat} (hn : n < O.length) : (O.set n r).getD i (0, 0) = if i = n then r else O.getD i (0, 0) := by
  rw [List.getD_eq_getElem?_getD, List.getD_eq_getElem?_getD, List.getElem?_set]
  by_cases h : n = i
  · subst h; rw [if_pos rfl, if_pos hn, if_pos rfl]; rfl
  · rw [if_neg h, if_neg (fun q => h q.symm)]
theorem rep0 (n i : Nat) : (List.replicate n ((0, 0) : Nat × Nat)).getD i (0, 0) = (0, 0) := by
  rw [List.getD_eq_getElem?_getD, List.getElem?_replicate]
  split <;> rfl
set_option maxHeartbeats 0 in
set_option maxRecDepth 100000 in
theorem Filter_f (A B : YT) (nh ch n cr m : Nat) (e : Int) (hA : nh ≤ A.length) (hch : nh ≤ ch) (hB : n ≤ B.length) (hcr : n ≤ cr) (hn1 : nh ≤ 8796093022208) (hn2 : n ≤ 8796093022208) (hm : dm nh n m e) :
    Fits Try.prog 7 ⟨[.slice 0 0 nh ch, .slice 1 0 n cr], [cxS false A, cxS false B], [flOut A B nh m e]⟩ := by
  refine fits_of_body (C := { cfgr 2 with q := fun _ => false, plan := fun | 10 => some plan23 | _ => none, dep := fun | 8 => some (inv23b A B nh ch n cr) | _ => none }) (c := (Try.f7.body).getD .skip) (ts := [4, 5]) tokL mixedL (fun | 5 => some (inv23 A B nh ch n cr) | _ => none) (fun _ => none)
    Try.func7 (by kernel_rfl) (by kernel_rfl) (by kernel_rfl) (by kernel_rfl) rfl ?_
  rcases hm with ⟨h1, h2, h3, rfl, rfl⟩ | ⟨h, rfl, rfl⟩
  · conv => whnf
    repeat (first
      | (refine And.intro ?_ ?_; (focus (first | omega | decide | exact EqOk.mk (by kernel_rfl) (by kernel_rfl) (by kernel_rfl) | exact Int.natCast_nonneg _ | ((repeat' refine And.intro ?_ ?_) <;> first | omega | exact Int.natCast_nonneg _ | (simp only [i64max, u8max, u16max, u32max, u64max]; omega) | (simp only [mulSz_eq, Cont.len, colsLen, Col.len, List.length_cons, List.length_nil, List.length_replicate, List.length_append]; first | done | omega) | (simp [mulSz, Cont.len, bne]; first | done | omega)))); conv => whnf)
      | (refine tst_in ?_ ?_; (focus (intro h_; exfalso; first | omega | ((try simp only [decide_eq_true_eq, decide_eq_false_iff_not] at h_); omega) | (simp [mulSz, Cont.len, bne] at h_; first | done | omega))); intro _; conv => whnf)
      | (refine tst_in ?_ ?_; rotate_left; (focus (intro h_; exfalso; first | omega | ((try simp only [decide_eq_true_eq, decide_eq_false_iff_not] at h_); omega) | (simp [mulSz, Cont.len, bne] at h_; first | done | omega))); intro _; conv => whnf)
      | (refine ⟨0, (show _ = _ by omega), ?_⟩; conv => whnf))
    rw [show ((n : Nat) : Int).toNat = n by omega]
    refine ⟨⟨[0, 1, 2], ⟨0, List.replicate n (0, 0)⟩, ?_, ⟨Nat.zero_le _, List.length_replicate, fun i hi => absurd hi (Nat.not_lt_zero i), fun i _ => rep0 n i⟩⟩, ?_⟩
    · show stLe _ _ (st23 A B nh ch n cr 0 (List.replicate n (0, 0))) _
      conv => whnf
      repeat' (first | exact True.intro | rfl | refine And.intro ?_ ?_)
      all_goals (conv => whnf)
      repeat' (first | exact True.intro | rfl | refine And.intro ?_ ?_)
      all_goals (try omega)
    · rintro ⟨i, O⟩ ⟨hi, hO, hF, hZ⟩
      have hi : i ≤ n := hi
      have hO : O.length = n := hO
      have hF : FlA A B nh i O := hF
      have hZ : ∀ j, i ≤ j → O.getD j (0, 0) = (0, 0) := hZ
      show forceSt (st23 A B nh ch n cr i O) _
      conv => whnf
      refine tst_in (fun hlt => ?_) (fun hge => ?_)
      · skip
        have hlt : i < n := by simp at hlt; omega
        conv => whnf
        repeat (first
          | (refine And.intro ?_ ?_; (focus (first | omega | decide | exact EqOk.mk (by kernel_rfl) (by kernel_rfl) (by kernel_rfl) | exact Int.natCast_nonneg _ | ((repeat' refine And.intro ?_ ?_) <;> first | omega | exact Int.natCast_nonneg _ | (simp only [i64max, u8max, u16max, u32max, u64max]; omega) | (simp only [mulSz_eq, Cont.len, colsLen, Col.len, List.length_cons, List.length_nil, List.length_replicate, List.length_append]; first | done | omega) | (simp [mulSz, Cont.len, bne]; first | done | omega)))); conv => whnf)
          | (refine tst_in ?_ ?_; (focus (intro h_; exfalso; first | omega | ((try simp only [decide_eq_true_eq, decide_eq_false_iff_not] at h_); omega) | (simp [mulSz, Cont.len, bne] at h_; first | done | omega))); intro _; conv => whnf)
          | (refine tst_in ?_ ?_; rotate_left; (focus (intro h_; exfalso; first | omega | ((try simp only [decide_eq_true_eq, decide_eq_false_iff_not] at h_); omega) | (simp [mulSz, Cont.len, bne] at h_; first | done | omega))); intro _; conv => whnf)
          | (refine ⟨0, (show _ = _ by omega), ?_⟩; conv => whnf))
        refine ⟨⟨[0, 1, 2], ⟨0, O⟩, ?_, ⟨Nat.zero_le _, hO, hF, hZ i (Nat.le_refl i), fun j (hj : i < j) => hZ j (Nat.le_of_lt hj)⟩⟩, ?_⟩
        · show stLe _ _ (st23b A B nh ch n cr i 0 O) _
          conv => whnf
          repeat' (first | exact True.intro | rfl | refine And.intro ?_ ?_)
          all_goals (conv => whnf)
          repeat' (first | exact True.intro | rfl | refine And.intro ?_ ?_)
          all_goals (try omega)
        · clear hO hF hZ
          rintro ⟨k, O⟩ ⟨hk, hO, hF, hL, hZ⟩
          have hk : k ≤ min (i + 1) nh := hk
          have hO : O.length = n := hO
          have hF : FlA A B nh i O := hF
          have hL : FlR (aF A) (aF B) i k (O.getD i (0, 0)) := hL
          have hZ : ∀ j, i < j → O.getD j (0, 0) = (0, 0) := hZ
          have hM1 : min (i + 1) nh ≤ i + 1 := Nat.min_le_left _ _
          have hM2 : min (i + 1) nh ≤ nh := Nat.min_le_right _ _
          show forceSt (st23b A B nh ch n cr i k O) _
          unfold st23b
          generalize hM : min (i + 1) nh = M at *
          conv => whnf
          refine tst_in (fun hkt => ?_) (fun hkg => ?_)
          · skip
            have hkt : k < M := by simp at hkt; omega
            have hk1 : k ≤ i := by omega
            have hk2 : k < nh := by omega
            have MF := Mul_f (aF A k) (aF B (i - k))
            unfold mulOut aF at MF
            conv => whnf
            repeat (first
              | (refine And.intro ?_ ?_; (focus (first | omega | decide | exact EqOk.mk (by kernel_rfl) (by kernel_rfl) (by kernel_rfl) | exact Int.natCast_nonneg _ | ((repeat' refine And.intro ?_ ?_) <;> first | omega | exact Int.natCast_nonneg _ | (simp only [i64max, u8max, u16max, u32max, u64max]; omega) | (simp only [mulSz_eq, Cont.len, colsLen, Col.len, List.length_cons, List.length_nil, List.length_replicate, List.length_append]; first | done | omega) | (simp [mulSz, Cont.len, bne]; first | done | omega)))); conv => whnf)
              | (refine tst_in ?_ ?_; (focus (intro h_; exfalso; first | omega | ((try simp only [decide_eq_true_eq, decide_eq_false_iff_not] at h_); omega) | (simp [mulSz, Cont.len, bne] at h_; first | done | omega))); intro _; conv => whnf)
              | (refine tst_in ?_ ?_; rotate_left; (focus (intro h_; exfalso; first | omega | ((try simp only [decide_eq_true_eq, decide_eq_false_iff_not] at h_); omega) | (simp [mulSz, Cont.len, bne] at h_; first | done | omega))); intro _; conv => whnf)
              | (refine ⟨0, (show _ = _ by omega), ?_⟩; conv => whnf))
            rw [show 0 + ((k : Nat) : Int).toNat = k by omega, show 0 + (((i : Nat) : Int) - ((k : Nat) : Int)).toNat = i - k by omega]
            refine ⟨_, [], MF, ?_⟩
            conv => whnf
            iterate 2
             refine And.intro ?_ ?_
             focus
              conv => whnf
              repeat' (first | exact True.intro | rfl | refine And.intro ?_ ?_ | omega)
              all_goals (conv => whnf)
              all_goals (try (first | rfl | omega | (simp; done)))
            conv => whnf
            refine ⟨?_, True.intro⟩
            intro (m : Nat × Nat) _
            conv => whnf
            rename_i hm
            have hm : MuR (aF A k) (aF B (i - k)) m := hm
            have PF := plus_f (O.getD i (0, 0)) m
            unfold cpxOut at PF
            conv => whnf
            repeat (first
              | (refine And.intro ?_ ?_; (focus (first | omega | decide | exact EqOk.mk (by kernel_rfl) (by kernel_rfl) (by kernel_rfl) | exact Int.natCast_nonneg _ | ((repeat' refine And.intro ?_ ?_) <;> first | omega | exact Int.natCast_nonneg _ | (simp only [i64max, u8max, u16max, u32max, u64max]; omega) | (simp only [mulSz_eq, Cont.len, colsLen, Col.len, List.length_cons, List.length_nil, List.length_replicate, List.length_append]; first | done | omega) | (simp [mulSz, Cont.len, bne]; first | done | omega)))); conv => whnf)
              | (refine tst_in ?_ ?_; (focus (intro h_; exfalso; first | omega | ((try simp only [decide_eq_true_eq, decide_eq_false_iff_not] at h_); omega) | (simp [mulSz, Cont.len, bne] at h_; first | done | omega))); intro _; conv => whnf)
              | (refine tst_in ?_ ?_; rotate_left; (focus (intro h_; exfalso; first | omega | ((try simp only [decide_eq_true_eq, decide_eq_false_iff_not] at h_); omega) | (simp [mulSz, Cont.len, bne] at h_; first | done | omega))); intro _; conv => whnf)
              | (refine ⟨0, (show _ = _ by omega), ?_⟩; conv => whnf))
            rw [show 0 + ((i : Nat) : Int).toNat = i by omega]
            refine ⟨_, [], PF, ?_⟩
            conv => whnf
            iterate 2
             refine And.intro ?_ ?_
             focus
              conv => whnf
              repeat' (first | exact True.intro | rfl | refine And.intro ?_ ?_ | omega)
              all_goals (conv => whnf)
              all_goals (try (first | rfl | omega | (simp; done)))
            conv => whnf
            refine ⟨?_, True.intro⟩
            intro (r : Nat × Nat) _
            conv => whnf
            rename_i hr
            have hr : AdR (O.getD i (0, 0)) m r := hr
            conv => whnf
            repeat (first
              | (refine And.intro ?_ ?_; (focus (first | omega | decide | exact EqOk.mk (by kernel_rfl) (by kernel_rfl) (by kernel_rfl) | exact Int.natCast_nonneg _ | ((repeat' refine And.intro ?_ ?_) <;> first | omega | exact Int.natCast_nonneg _ | (simp only [i64max, u8max, u16max, u32max, u64max]; omega) | (simp only [mulSz_eq, Cont.len, colsLen, Col.len, List.length_cons, List.length_nil, List.length_replicate, List.length_append, hO]; first | done | omega) | (simp [mulSz, Cont.len, bne, hO]; first | done | omega)))); conv => whnf)
              | (refine tst_in ?_ ?_; (focus (intro h_; exfalso; first | omega | ((try simp only [decide_eq_true_eq, decide_eq_false_iff_not] at h_); omega) | (simp [mulSz, Cont.len, bne, hO] at h_; first | done | omega))); intro _; conv => whnf)
              | (refine tst_in ?_ ?_; rotate_left; (focus (intro h_; exfalso; first | omega | ((try simp only [decide_eq_true_eq, decide_eq_false_iff_not] at h_); omega) | (simp [mulSz, Cont.len, bne, hO] at h_; first | done | omega))); intro _; conv => whnf)
              | (refine ⟨0, (show _ = _ by omega), ?_⟩; conv => whnf))
            refine ⟨[0, 1, 2], ⟨k + 1, O.set i r⟩, ?_, ⟨(by show k + 1 ≤ min (i + 1) nh; omega), (by simp [hO]), ?_, ?_, ?_⟩, (by show min (i + 1) nh - (k + 1) < min (i + 1) nh - k; omega)⟩
            · show stLe _ _ (st23b A B nh ch n cr i (k + 1) (O.set i r)) _
              unfold st23b
              rw [hM]
              conv => whnf
              repeat' (first | exact True.intro | rfl | refine And.intro ?_ ?_)
              all_goals (conv => whnf)
              repeat' (first | exact True.intro | rfl | refine And.intro ?_ ?_)
              all_goals (try omega)
              rw [show 0 + ((i : Nat) : Int).toNat = i by omega]
            · intro j (hj : j < i)
              show FlR (aF A) (aF B) j (min (j + 1) nh) ((O.set i r).getD j (0, 0))
              rw [getD_set (show i < O.length by omega), if_neg (show ¬ j = i by omega)]
              exact hF j hj
            · show FlR (aF A) (aF B) i (k + 1) ((O.set i r).getD i (0, 0))
              rw [getD_set (show i < O.length by omega), if_pos rfl]
              exact ⟨_, m, hL, hm, hr⟩
            · intro j (hj : i < j)
              show (O.set i r).getD j (0, 0) = (0, 0)
              rw [getD_set (show i < O.length by omega), if_neg (show ¬ j = i by omega)]
              exact hZ j hj
          · skip
            have hkg : k = M := by simp at hkg; omega
            conv => whnf
            repeat (first
              | (refine And.intro ?_ ?_; (focus (first | omega | decide | exact EqOk.mk (by kernel_rfl) (by kernel_rfl) (by kernel_rfl) | exact Int.natCast_nonneg _ | ((repeat' refine And.intro ?_ ?_) <;> first | omega | exact Int.natCast_nonneg _ | (simp only [i64max, u8max, u16max, u32max, u64max]; omega) | (simp only [mulSz_eq, Cont.len, colsLen, Col.len, List.length_cons, List.length_nil, List.length_replicate, List.length_append]; first | done | omega) | (simp [mulSz, Cont.len, bne]; first | done | omega)))); conv => whnf)
              | (refine tst_in ?_ ?_; (focus (intro h_; exfalso; first | omega | ((try simp only [decide_eq_true_eq, decide_eq_false_iff_not] at h_); omega) | (simp [mulSz, Cont.len, bne] at h_; first | done | omega))); intro _; conv => whnf)
              | (refine tst_in ?_ ?_; rotate_left; (focus (intro h_; exfalso; first | omega | ((try simp only [decide_eq_true_eq, decide_eq_false_iff_not] at h_); omega) | (simp [mulSz, Cont.len, bne] at h_; first | done | omega))); intro _; conv => whnf)
              | (refine ⟨0, (show _ = _ by omega), ?_⟩; conv => whnf))
            refine ⟨[0, 1, 2], ⟨i + 1, O⟩, ?_, ⟨(by show i + 1 ≤ n; omega), hO, ?_, fun j (hj : i + 1 ≤ j) => hZ j (by omega)⟩, (by show n - (i + 1) < n - i; omega)⟩
            · show stLe _ _ (st23 A B nh ch n cr (i + 1) O) _
              conv => whnf
              repeat' (first | exact True.intro | rfl | refine And.intro ?_ ?_)
              all_goals (conv => whnf)
              repeat' (first | exact True.intro | rfl | refine And.intro ?_ ?_)
              all_goals (try omega)
            · intro j (hj : j < i + 1)
              rcases Nat.lt_or_ge j i with q | q
              · exact hF j q
              · rw [show j = i by omega, hM, ← hkg]; exact hL
      · skip
        have hge : i = n := by simp at hge; omega
        subst hge
        conv => whnf
        repeat (first
          | (refine And.intro ?_ ?_; (focus (first | omega | decide | exact EqOk.mk (by kernel_rfl) (by kernel_rfl) (by kernel_rfl) | exact Int.natCast_nonneg _ | ((repeat' refine And.intro ?_ ?_) <;> first | omega | exact Int.natCast_nonneg _ | (simp only [i64max, u8max, u16max, u32max, u64max]; omega) | (simp only [mulSz_eq, Cont.len, colsLen, Col.len, List.length_cons, List.length_nil, List.length_replicate, List.length_append]; first | done | omega) | (simp [mulSz, Cont.len, bne]; first | done | omega)))); conv => whnf)
          | (refine tst_in ?_ ?_; (focus (intro h_; exfalso; first | omega | ((try simp only [decide_eq_true_eq, decide_eq_false_iff_not] at h_); omega) | (simp [mulSz, Cont.len, bne] at h_; first | done | omega))); intro _; conv => whnf)
          | (refine tst_in ?_ ?_; rotate_left; (focus (intro h_; exfalso; first | omega | ((try simp only [decide_eq_true_eq, decide_eq_false_iff_not] at h_); omega) | (simp [mulSz, Cont.len, bne] at h_; first | done | omega))); intro _; conv => whnf)
          | (refine ⟨0, (show _ = _ by omega), ?_⟩; conv => whnf))
        refine .inl ⟨O, [0, 1, 2], ?_⟩
        conv => whnf
        repeat' (first | exact True.intro | rfl | refine And.intro ?_ ?_)
        all_goals (conv => whnf)
        repeat' (first | exact True.intro | rfl | refine And.intro ?_ ?_)
        all_goals (try omega)
        exact hF
  · rcases h with h | h | h
    · conv => whnf
      repeat (first
        | (refine And.intro ?_ ?_; (focus (first | omega | decide | exact EqOk.mk (by kernel_rfl) (by kernel_rfl) (by kernel_rfl) | exact Int.natCast_nonneg _ | ((repeat' refine And.intro ?_ ?_) <;> first | omega | exact Int.natCast_nonneg _ | (simp only [i64max, u8max, u16max, u32max, u64max]; omega) | (simp only [mulSz_eq, Cont.len, colsLen, Col.len, List.length_cons, List.length_nil, List.length_replicate, List.length_append]; first | done | omega) | (simp [mulSz, Cont.len, bne]; first | done | omega)))); conv => whnf)
        | (refine tst_in ?_ ?_; (focus (intro h_; exfalso; first | omega | ((try simp only [decide_eq_true_eq, decide_eq_false_iff_not] at h_); omega) | (simp [mulSz, Cont.len, bne] at h_; first | done | omega))); intro _; conv => whnf)
        | (refine tst_in ?_ ?_; rotate_left; (focus (intro h_; exfalso; first | omega | ((try simp only [decide_eq_true_eq, decide_eq_false_iff_not] at h_); omega) | (simp [mulSz, Cont.len, bne] at h_; first | done | omega))); intro _; conv => whnf)
        | (refine ⟨0, (show _ = _ by omega), ?_⟩; conv => whnf))
      refine .inl ⟨[], [0, 1, 9], ?_⟩
      conv => whnf
      repeat' (first | exact True.intro | rfl | refine And.intro ?_ ?_)
      all_goals (conv => whnf)
      repeat' (first | exact True.intro | rfl | refine And.intro ?_ ?_)
      all_goals (try omega)
    · conv => whnf
      repeat (first
        | (refine And.intro ?_ ?_; (focus (first | omega | decide | exact EqOk.mk (by kernel_rfl) (by kernel_rfl) (by kernel_rfl) | exact Int.natCast_nonneg _ | ((repeat' refine And.intro ?_ ?_) <;> first | omega | exact Int.natCast_nonneg _ | (simp only [i64max, u8max, u16max, u32max, u64max]; omega) | (simp only [mulSz_eq, Cont.len, colsLen, Col.len, List.length_cons, List.length_nil, List.length_replicate, List.length_append]; first | done | omega) | (simp [mulSz, Cont.len, bne]; first | done | omega)))); conv => whnf)
        | (refine tst_in ?_ ?_; (focus (intro h_; exfalso; first | omega | ((try simp only [decide_eq_true_eq, decide_eq_false_iff_not] at h_); omega) | (simp [mulSz, Cont.len, bne] at h_; first | done | omega))); intro _; conv => whnf)
        | (refine tst_in ?_ ?_; rotate_left; (focus (intro h_; exfalso; first | omega | ((try simp only [decide_eq_true_eq, decide_eq_false_iff_not] at h_); omega) | (simp [mulSz, Cont.len, bne] at h_; first | done | omega))); intro _; conv => whnf)
        | (refine ⟨0, (show _ = _ by omega), ?_⟩; conv => whnf))
      refine .inl ⟨[], [0, 1, 9], ?_⟩
      conv => whnf
      repeat' (first | exact True.intro | rfl | refine And.intro ?_ ?_)
      all_goals (conv => whnf)
      repeat' (first | exact True.intro | rfl | refine And.intro ?_ ?_)
      all_goals (try omega)
    · rcases Nat.lt_or_ge nh 1 with g | g
      · conv => whnf
        repeat (first
          | (refine And.intro ?_ ?_; (focus (first | omega | decide | exact EqOk.mk (by kernel_rfl) (by kernel_rfl) (by kernel_rfl) | exact Int.natCast_nonneg _ | ((repeat' refine And.intro ?_ ?_) <;> first | omega | exact Int.natCast_nonneg _ | (simp only [i64max, u8max, u16max, u32max, u64max]; omega) | (simp only [mulSz_eq, Cont.len, colsLen, Col.len, List.length_cons, List.length_nil, List.length_replicate, List.length_append]; first | done | omega) | (simp [mulSz, Cont.len, bne]; first | done | omega)))); conv => whnf)
          | (refine tst_in ?_ ?_; (focus (intro h_; exfalso; first | omega | ((try simp only [decide_eq_true_eq, decide_eq_false_iff_not] at h_); omega) | (simp [mulSz, Cont.len, bne] at h_; first | done | omega))); intro _; conv => whnf)
          | (refine tst_in ?_ ?_; rotate_left; (focus (intro h_; exfalso; first | omega | ((try simp only [decide_eq_true_eq, decide_eq_false_iff_not] at h_); omega) | (simp [mulSz, Cont.len, bne] at h_; first | done | omega))); intro _; conv => whnf)
          | (refine ⟨0, (show _ = _ by omega), ?_⟩; conv => whnf))
        refine .inl ⟨[], [0, 1, 9], ?_⟩
        conv => whnf
        repeat' (first | exact True.intro | rfl | refine And.intro ?_ ?_)
        all_goals (conv => whnf)
        repeat' (first | exact True.intro | rfl | refine And.intro ?_ ?_)
        all_goals (try omega)
      · rcases Nat.lt_or_ge 64 nh with g2 | g2
        · conv => whnf
          repeat (first
            | (refine And.intro ?_ ?_; (focus (first | omega | decide | exact EqOk.mk (by kernel_rfl) (by kernel_rfl) (by kernel_rfl) | exact Int.natCast_nonneg _ | ((repeat' refine And.intro ?_ ?_) <;> first | omega | exact Int.natCast_nonneg _ | (simp only [i64max, u8max, u16max, u32max, u64max]; omega) | (simp only [mulSz_eq, Cont.len, colsLen, Col.len, List.length_cons, List.length_nil, List.length_replicate, List.length_append]; first | done | omega) | (simp [mulSz, Cont.len, bne]; first | done | omega)))); conv => whnf)
            | (refine tst_in ?_ ?_; (focus (intro h_; exfalso; first | omega | ((try simp only [decide_eq_true_eq, decide_eq_false_iff_not] at h_); omega) | (simp [mulSz, Cont.len, bne] at h_; first | done | omega))); intro _; conv => whnf)
            | (refine tst_in ?_ ?_; rotate_left; (focus (intro h_; exfalso; first | omega | ((try simp only [decide_eq_true_eq, decide_eq_false_iff_not] at h_); omega) | (simp [mulSz, Cont.len, bne] at h_; first | done | omega))); intro _; conv => whnf)
            | (refine ⟨0, (show _ = _ by omega), ?_⟩; conv => whnf))
          refine .inl ⟨[], [0, 1, 9], ?_⟩
          conv => whnf
          repeat' (first | exact True.intro | rfl | refine And.intro ?_ ?_)
          all_goals (conv => whnf)
          repeat' (first | exact True.intro | rfl | refine And.intro ?_ ?_)
          all_goals (try omega)
        · conv => whnf
          repeat (first
            | (refine And.intro ?_ ?_; (focus (first | omega | decide | exact EqOk.mk (by kernel_rfl) (by kernel_rfl) (by kernel_rfl) | exact Int.natCast_nonneg _ | ((repeat' refine And.intro ?_ ?_) <;> first | omega | exact Int.natCast_nonneg _ | (simp only [i64max, u8max, u16max, u32max, u64max]; omega) | (simp only [mulSz_eq, Cont.len, colsLen, Col.len, List.length_cons, List.length_nil, List.length_replicate, List.length_append]; first | done | omega) | (simp [mulSz, Cont.len, bne]; first | done | omega)))); conv => whnf)
            | (refine tst_in ?_ ?_; (focus (intro h_; exfalso; first | omega | ((try simp only [decide_eq_true_eq, decide_eq_false_iff_not] at h_); omega) | (simp [mulSz, Cont.len, bne] at h_; first | done | omega))); intro _; conv => whnf)
            | (refine tst_in ?_ ?_; rotate_left; (focus (intro h_; exfalso; first | omega | ((try simp only [decide_eq_true_eq, decide_eq_false_iff_not] at h_); omega) | (simp [mulSz, Cont.len, bne] at h_; first | done | omega))); intro _; conv => whnf)
            | (refine ⟨0, (show _ = _ by omega), ?_⟩; conv => whnf))
          refine .inl ⟨[], [0, 1, 9], ?_⟩
          conv => whnf
          repeat' (first | exact True.intro | rfl | refine And.intro ?_ ?_)
          all_goals (conv => whnf)
          repeat' (first | exact True.intro | rfl | refine And.intro ?_ ?_)
          all_goals (try omega)

end Go.Proofs.Ytmchfbjbcioccaa

set_option linter.unusedVariables false
set_option linter.unusedSimpArgs false
namespace Go.Proofs.Ytmchfbjbcioccaa
open Go Go.Fw
/-! A filter of whole numbers, in units. -/
theorem MuR_V {q p A B : Nat} {a b r : Nat × Nat} {x y : Int × Int} (h : MuR a b r) (ha : VQ q a x) (hb : VQ p b y) (hA : bd A x) (hB : bd B y) (hAB : 2 * (A * B) < 9007199254740992) (hq : q + p ≤ 900) : VQ (q + p) r (cm x y) := by
  obtain ⟨e, f, g, i, h1, h2, h3, h4, h5, h6⟩ := h
  obtain ⟨a1, a2, a3, a4⟩ := hA
  obtain ⟨b1, b2, b3, b4⟩ := hB
  have p1 := mul_bd ⟨a1, a2⟩ ⟨b1, b2⟩
  have p2 := mul_bd ⟨a3, a4⟩ ⟨b3, b4⟩
  have p3 := mul_bd ⟨a1, a2⟩ ⟨b3, b4⟩
  have p4 := mul_bd ⟨a3, a4⟩ ⟨b1, b2⟩
  have v1 := Fo_mul h1 ha.1 hb.1 (by unfold bdx; omega) hq
  have v2 := Fo_mul h2 ha.2 hb.2 (by unfold bdx; omega) hq
  have v3 := Fo_mul h3 ha.1 hb.2 (by unfold bdx; omega) hq
  have v4 := Fo_mul h4 ha.2 hb.1 (by unfold bdx; omega) hq
  refine ⟨Fo_sub h5 v1 v2 (by unfold bdx; omega) (by omega), Fo_add h6 v3 v4 (by unfold bdx; omega) (by omega)⟩
theorem AdR_V {q : Nat} {a b r : Nat × Nat} {x y : Int × Int} (h : AdR a b r) (ha : VQ q a x) (hb : VQ q b y) (hx : bd 9007199254740991 (ca x y)) (hq : q ≤ 900) : VQ q r (ca x y) := by
  obtain ⟨a1, a2, a3, a4⟩ := hx
  unfold ca at a1 a2 a3 a4
  simp only [] at a1 a2 a3 a4
  exact ⟨Fo_add h.1 ha.1 hb.1 (by unfold bdx; omega) (by omega), Fo_add h.2 ha.2 hb.2 (by unfold bdx; omega) (by omega)⟩
theorem VQ_zero (q : Nat) (hq : q ≤ 1000) : VQ q (0, 0) (0, 0) := ⟨V_zero q hq, V_zero q hq⟩
theorem FlR_V {q p A B : Nat} {H R : Nat → Nat × Nat} {h r : Nat → Int × Int} {n : Nat} (hq : q + p ≤ 900) : ∀ {k : Nat} {z : Nat × Nat}, k ≤ n + 1 → (∀ i, i < k → VQ q (H i) (h i) ∧ bd A (h i)) → (∀ i, i ≤ n → VQ p (R i) (r i) ∧ bd B (r i)) → k * (2 * (A * B)) < 9007199254740992 → FlR H R n k z → VQ (q + p) z (cs h r n k)
  | 0, z, _, _, _, _, hz => by cases hz; exact VQ_zero _ (by omega)
  | k + 1, z, hk, hH, hR, hb, ⟨s, m, h1, h2, h3⟩ => by
    have hb' : (k + 1) * (2 * (A * B)) = k * (2 * (A * B)) + 2 * (A * B) := Nat.succ_mul _ _
    rw [hb'] at hb
    have v1 := FlR_V hq (by omega) (fun i hi => hH i (by omega)) hR (by omega) h1
    have v2 := MuR_V h2 (hH k (by omega)).1 (hR (n - k) (by omega)).1 (hH k (by omega)).2 (hR (n - k) (by omega)).2 (by omega) hq
    have b1 := cs_bd (A := A) (B := B) (h := h) (r := r) (n := n) (k := k) (fun i hi => (hH i (by omega)).2) (fun i hi => (hR i hi).2)
    have b2 := cm_bd (hH k (by omega)).2 (hR (n - k) (by omega)).2
    exact AdR_V h3 v1 v2 (bd_up (ca_bd b1 b2) (by omega)) (by omega)
/-- A row in units. -/
def RQ (q B n : Nat) (X : YT) (x : Nat → Int × Int) : Prop := ∀ i, i < n → VQ q (aF X i) (x i) ∧ bd B (x i)
theorem FlA_V {q p A B N nh n : Nat} {H R O : YT} {h r : Nat → Int × Int} (hf : FlA H R nh n O) (hq : q + p ≤ 900) (hN : nh ≤ N) (hH : RQ q A nh H h) (hR : RQ p B n R r) (hb : N * (2 * (A * B)) < 9007199254740992) : RQ (q + p) (N * (2 * (A * B))) n O (fl (upto h nh) r) := by
  intro i hi
  have hk1 : min (i + 1) nh ≤ i + 1 := Nat.min_le_left _ _
  have hk2 : min (i + 1) nh ≤ nh := Nat.min_le_right _ _
  have hkb : min (i + 1) nh * (2 * (A * B)) ≤ N * (2 * (A * B)) := Nat.mul_le_mul_right _ (by omega)
  have v := FlR_V hq (k := min (i + 1) nh) (n := i) hk1 (fun j hj => hH j (by omega)) (fun j hj => hR j (by omega)) (by omega) (hf i hi)
  have b := cs_bd (A := A) (B := B) (h := h) (r := r) (n := i) (k := min (i + 1) nh) (fun j hj => (hH j (by omega)).2) (fun j hj => (hR j (by omega)).2)
  rw [cs_upto] at v b
  exact ⟨v, bd_up b hkb⟩
theorem VQ_trn {q : Nat} {b : Nat × Nat} {x : Int × Int} (h : VQ q b x) (t : Nat) : VQ q (trn t b) (tI t x) := by
  obtain ⟨h1, h2⟩ := h
  match t with
  | 0 => exact ⟨h1, h2⟩
  | 1 => exact ⟨V_neg h2, h1⟩
  | 2 => exact ⟨V_neg h1, V_neg h2⟩
  | n + 3 => exact ⟨h2, V_neg h1⟩
end Go.Proofs.Ytmchfbjbcioccaa

set_option linter.unusedVariables false
set_option linter.unusedSimpArgs false
namespace Go.Proofs.Ytmchfbjbcioccaa
open Go Go.Fw
/-! A long region in the text's order: the check by masks. -/
theorem one_of_nodup {k : Nat} : ∀ {l : List Nat}, l.Nodup → (∀ x, x ∈ l ↔ x = k) → l = [k]
  | [], _, h => absurd ((h k).2 rfl) (by simp)
  | a :: t, hn, h => by
    have ha : a = k := (h a).1 (by simp)
    subst ha
    have ht : t = [] := by
      cases t with
      | nil => rfl
      | cons b r =>
        have hb : b = a := (h b).1 (by simp)
        subst hb
        simp at hn
    rw [ht]
def ancM (A : List Nat) : List Edge → Nat
  | [] => 0
  | e :: r => match Region.binds .any e with
    | true => Nat.lor (Nat.lor (Nat.shiftLeft 1 e.on) (A.getD e.on 0)) (ancM A r)
    | false => ancM A r
def buildM : List Oper → List Nat → List Nat
  | [], A => A
  | o :: r, A => buildM r (A ++ [ancM A o.after.toList])
theorem bit_one {k n : Nat} (h : Nat.testBit (Nat.shiftLeft 1 n) k = true) : k = n := by
  have h' : Nat.testBit (1 <<< n) k = true := h
  rw [Nat.testBit_shiftLeft] at h'
  simp at h'
  obtain ⟨h1, h2⟩ := h'
  have := Nat.testBit_one_eq_true_iff_self_eq_zero.1 h2
  omega
theorem ancM_sound {ops : Array Oper} {A : List Nat} {f : Nat} (hA : ∀ i k, Nat.testBit (A.getD i 0) k = true → waitsT ops f i k = true) : ∀ {l : List Edge} {k : Nat}, Nat.testBit (ancM A l) k = true →
    l.any (fun e => Region.binds .any e && (e.on == k || waitsT ops f e.on k)) = true
  | [], k, h => by simp [ancM] at h
  | e :: r, k, h => by
    unfold ancM at h
    rw [List.any_cons]
    cases hb : Region.binds .any e
    · rw [hb] at h
      rw [ancM_sound hA h]; simp
    · rw [hb] at h
      have h' : Nat.testBit (((1 <<< e.on) ||| A.getD e.on 0) ||| ancM A r) k = true := h
      rw [Nat.testBit_or, Nat.testBit_or, Bool.or_eq_true, Bool.or_eq_true] at h'
      rcases h' with (h1 | h1) | h1
      · have := bit_one h1
        rw [this]; simp
      · rw [hA _ _ h1]; simp
      · rw [ancM_sound hA h1]; simp
theorem waitsT_mono {ops : Array Oper} : ∀ {f j k : Nat}, waitsT ops f j k = true → waitsT ops (f + 1) j k = true
  | 0, j, k, h => by simp [waitsT] at h
  | f + 1, j, k, h => by
    unfold waitsT at h ⊢
    cases ho : ops[j]? with
    | none => rw [ho] at h; cases h
    | some o =>
      rw [ho] at h
      simp only [Array.any_eq_true, Bool.and_eq_true, Bool.or_eq_true] at h ⊢
      obtain ⟨i, hi, hb, hw⟩ := h
      exact ⟨i, hi, hb, hw.imp id waitsT_mono⟩
theorem buildM_sound {ops : Array Oper} : ∀ (r pre : List Oper) (A : List Nat), ops.toList = pre ++ r → A.length = pre.length → (∀ i k, Nat.testBit (A.getD i 0) k = true → waitsT ops pre.length i k = true) →
    ∀ i k, Nat.testBit ((buildM r A).getD i 0) k = true → waitsT ops ops.size i k = true
  | [], pre, A, e, hl, hA, i, k, h => by
    have hs : ops.size = pre.length := by rw [← Array.length_toList, e]; simp
    rw [hs]; exact hA i k h
  | o :: r, pre, A, e, hl, hA, i, k, h => by
    refine buildM_sound r (pre ++ [o]) (A ++ [ancM A o.after.toList]) (by rw [e]; simp) (by simp [hl]) ?_ i k h
    intro i k hk
    rw [List.length_append]
    show waitsT ops (pre.length + 1) i k = true
    by_cases h1 : i < A.length
    · rw [List.getD_eq_getElem?_getD, List.getElem?_append_left h1, ← List.getD_eq_getElem?_getD] at hk
      exact waitsT_mono (hA i k hk)
    · by_cases h2 : i = A.length
      · subst h2
        rw [List.getD_eq_getElem?_getD, List.getElem?_append_right (Nat.le_refl _)] at hk
        simp at hk
        have := ancM_sound hA hk
        unfold waitsT
        have ho : ops[A.length]? = some o := by
          rw [← Array.getElem?_toList, e, hl, List.getElem?_append_right (Nat.le_refl _)]; simp
        rw [ho]
        show o.after.any _ = true
        rw [← Array.any_toList]
        exact this
      · rw [List.getD_eq_getElem?_getD, List.getElem?_eq_none (by simp; omega)] at hk
        simp at hk

structure Stg (n k : Nat) (L : Array Bool) : Prop where
  size : L.size = n
  val : ∀ i, i < n → L.getD i true = decide (i < k)
theorem stg_f {n k : Nat} {L : Array Bool} (h : Stg n k L) (hk : k ≤ n) (i : Nat) : L.getD i false = decide (i < k) := by
  by_cases hi : i < n
  · rw [← h.val i hi]
    simp [Array.getD, h.size, hi]
  · rw [decide_eq_false (by omega)]
    simp [Array.getD, h.size, hi]
theorem stg_next {n k : Nat} {L : Array Bool} (h : Stg n k L) (hk : k < n) : Stg n (k + 1) (L.setIfInBounds k true) := by
  refine ⟨by rw [Array.size_setIfInBounds]; exact h.size, fun i hi => ?_⟩
  have hs := h.size
  have hv := h.val i hi
  by_cases e : i = k
  · subst e
    rw [decide_eq_true (by omega)]
    simp [Array.getD, hs, hi]
  · have e2 : (L.setIfInBounds k true).getD i true = L.getD i true := by
      simp only [Array.getD, Array.size_setIfInBounds, hs, hi, dite_true]
      show (L.setIfInBounds k true)[i]'(by rw [Array.size_setIfInBounds]; omega) = L[i]'(by omega)
      rw [Array.getElem_setIfInBounds, if_neg (fun hh => e hh.symm)]
    rw [e2, hv]
    by_cases hk2 : i < k
    · rw [decide_eq_true hk2, decide_eq_true (by omega)]
    · rw [decide_eq_false hk2, decide_eq_false (by omega)]
theorem stg_zero (n : Nat) : Stg n 0 (Array.replicate n false) := ⟨by simp, fun i hi => by simp [Array.getD, hi]⟩
theorem mem_ready {ops : Array Oper} {L : Array Bool} {i : Nat} : i ∈ Region.ready .any ops L ↔ i < ops.size ∧ L.getD i true = false ∧ ∃ o, ops[i]? = some o ∧ ∀ e ∈ o.after.toList, Region.binds .any e = true → L.getD e.on false = true := by
  unfold Region.ready
  rw [List.mem_filter, List.mem_range]
  constructor
  · rintro ⟨h1, h2⟩
    rw [Bool.and_eq_true] at h2
    refine ⟨h1, by simpa using h2.1, ?_⟩
    cases ho : ops[i]? with
    | none => rw [ho] at h2; simp at h2
    | some o =>
      rw [ho] at h2
      refine ⟨o, rfl, fun e he hb => ?_⟩
      have h3 := h2.2
      simp only [Option.map_some, Option.getD_some] at h3
      rw [← Array.all_toList, List.all_eq_true] at h3
      have := h3 e he
      rw [hb] at this
      simpa using this
  · rintro ⟨h1, h2, o, ho, h3⟩
    refine ⟨h1, ?_⟩
    rw [h2, ho]
    simp only [Bool.not_false, Bool.true_and, Option.map_some, Option.getD_some]
    rw [← Array.all_toList, List.all_eq_true]
    intro e he
    cases hb : Region.binds .any e
    · rfl
    · rw [h3 e he hb]; rfl
def backB (k : Nat) (o : Oper) : Bool := o.after.toList.all fun e => !Region.binds .any e || Nat.blt e.on k
def waitB (k : Nat) (o : Oper) : Bool := o.after.toList.any fun e => Region.binds .any e && Nat.ble k e.on
def linkB (ops : Array Oper) (k : Nat) (o oj : Oper) : Bool := (oj.after.any fun e => Region.binds .any e && e.on == k) || Oper.apart ops o oj
def plainO (q : Nat → Bool) (o : Oper) : Bool := !isEff q o && !isQ q o
def lateB (q : Nat → Bool) (k : Nat) : List Oper → List Nat → Bool
  | [], _ => true
  | oj :: r, w :: W => (plainO q oj || Nat.testBit w k) && lateB q k r W
  | oj :: r, [] => plainO q oj && lateB q k r []
def chkL (q : Nat → Bool) (ops : Array Oper) : List Oper → List Nat → Nat → Bool
  | [], _, _ => true
  | o :: r, W, k => backB k o && (match plainO q o with
      | true => r.all (linkB ops k o) && (blindB o || lateB q k r (W.drop 1))
      | false => r.all (waitB k)) && chkL q ops r (W.drop 1) (k + 1)
theorem nth_suf {ops : Array Oper} {pre r : List Oper} (e : ops.toList = pre ++ r) (i : Nat) : ops[pre.length + i]? = r[i]? := by
  rw [← Array.getElem?_toList, e, List.getElem?_append_right (by omega)]; congr 1; omega
theorem lateB_sound {q : Nat → Bool} {k : Nat} : ∀ {r : List Oper} {W : List Nat}, lateB q k r W = true → ∀ i o, r[i]? = some o → plainO q o = true ∨ Nat.testBit (W.getD i 0) k = true
  | [], W, _, i, o, h => by simp at h
  | oj :: r, w :: W, hl, i, o, h => by
    unfold lateB at hl
    rw [Bool.and_eq_true, Bool.or_eq_true] at hl
    cases i with
    | zero => simp at h; subst h; exact hl.1.imp id (by simp)
    | succ i =>
      have := lateB_sound hl.2 i o (by simpa using h)
      simpa using this
  | oj :: r, [], hl, i, o, h => by
    unfold lateB at hl
    rw [Bool.and_eq_true] at hl
    cases i with
    | zero => simp at h; subst h; exact .inl hl.1
    | succ i =>
      have := lateB_sound hl.2 i o (by simpa using h)
      simpa using this
theorem ready_mem {ops : Array Oper} {pre r : List Oper} {o : Oper} {L : Array Bool} (e : ops.toList = pre ++ o :: r) (hs : Stg ops.size pre.length L) (hb : backB pre.length o = true) : pre.length ∈ Region.ready .any ops L := by
  have hn : ops.size = pre.length + (r.length + 1) := by rw [← Array.length_toList, e]; simp
  rw [mem_ready]
  refine ⟨by omega, by rw [hs.val _ (by omega)]; simp, o, by have := nth_suf e 0; simpa using this, fun x hx hbx => ?_⟩
  unfold backB at hb
  rw [List.all_eq_true] at hb
  have h1 := hb x hx
  rw [hbx] at h1
  have h2 : x.on < pre.length := by simpa [Nat.blt_eq] using h1
  rw [stg_f hs (by omega)]; simpa using h2
theorem ready_one {ops : Array Oper} {pre r : List Oper} {o : Oper} {L : Array Bool} (e : ops.toList = pre ++ o :: r) (hs : Stg ops.size pre.length L) (hb : backB pre.length o = true) (hw : r.all (waitB pre.length) = true) : Region.ready .any ops L = [pre.length] := by
  have hn : ops.size = pre.length + (r.length + 1) := by rw [← Array.length_toList, e]; simp
  refine one_of_nodup (by unfold Region.ready; exact List.nodup_range.filter _) fun x => ⟨fun hx => ?_, fun hx => by rw [hx]; exact ready_mem e hs hb⟩
  obtain ⟨h1, h2, ox, hox, h3⟩ := mem_ready.1 hx
  rw [hs.val x h1, decide_eq_false_iff_not] at h2
  apply Decidable.byContradiction
  intro hne
  obtain ⟨i, rfl⟩ : ∃ i, x = pre.length + (i + 1) := ⟨x - pre.length - 1, by omega⟩
  rw [nth_suf e] at hox
  have hox : r[i]? = some ox := by simpa using hox
  rw [List.all_eq_true] at hw
  have hwx := hw ox (List.mem_of_getElem? hox)
  unfold waitB at hwx
  rw [List.any_eq_true] at hwx
  obtain ⟨ed, hed, hbd⟩ := hwx
  rw [Bool.and_eq_true] at hbd
  have h4 := h3 ed hed hbd.1
  rw [stg_f hs (by omega)] at h4
  have h5 : ed.on < pre.length := by simpa using h4
  have h6 : pre.length ≤ ed.on := Nat.le_of_ble_eq_true hbd.2
  omega
theorem free_ok {ops : Array Oper} {pre r : List Oper} {o : Oper} {L : Array Bool} (e : ops.toList = pre ++ o :: r) (hs : Stg ops.size pre.length L) (hl : r.all (linkB ops pre.length o) = true) : Region.free .any ops L pre.length = true := by
  unfold Region.free
  have ho : ops[pre.length]? = some o := by have := nth_suf e 0; simpa using this
  rw [ho]
  show (List.range ops.size).all _ = true
  rw [List.all_eq_true]
  intro j hj
  rw [List.mem_range] at hj
  by_cases h1 : j = pre.length
  · rw [h1]; simp
  · by_cases h2 : j < pre.length
    · rw [hs.val j hj, decide_eq_true h2]; simp
    · obtain ⟨i, rfl⟩ : ∃ i, j = pre.length + (i + 1) := ⟨j - pre.length - 1, by omega⟩
      rw [nth_suf e]
      cases hoj : (o :: r)[i + 1]? with
      | none => simp
      | some oj =>
        have hoj' : r[i]? = some oj := by simpa using hoj
        rw [List.all_eq_true] at hl
        have := hl oj (List.mem_of_getElem? hoj')
        unfold linkB at this
        show (_ || _ || ((oj.after.any fun x => Region.binds .any x && x.on == pre.length) || Oper.apart ops o oj)) = true
        rw [this]; simp
theorem chk_sound {q : Nat → Bool} {ops : Array Oper} {A : List Nat} (hA : ∀ i k, Nat.testBit (A.getD i 0) k = true → waitsT ops ops.size i k = true) : ∀ (r pre : List Oper) (L : Array Bool), ops.toList = pre ++ r → Stg ops.size pre.length L →
    chkL q ops r (A.drop pre.length) pre.length = true → planB q ops (opsThen (List.range' pre.length r.length) .done) false r.length L = true
  | [], pre, L, e, hs, _ => by
    have hn : ops.size = pre.length := by rw [← Array.length_toList, e]; simp
    show (!false && (Region.ready .any ops L).isEmpty) = true
    have : Region.ready .any ops L = [] := by
      rw [List.eq_nil_iff_forall_not_mem]
      intro x hx
      obtain ⟨h1, h2, _⟩ := mem_ready.1 hx
      rw [hs.val x h1, decide_eq_true (by omega)] at h2
      cases h2
    rw [this]; rfl
  | o :: r, pre, L, e, hs, h => by
    have hn : ops.size = pre.length + (r.length + 1) := by rw [← Array.length_toList, e]; simp
    unfold chkL at h
    rw [Bool.and_eq_true, Bool.and_eq_true] at h
    obtain ⟨⟨hb, hp⟩, hr⟩ := h
    rw [List.drop_drop] at hr
    have ho : ops[pre.length]? = some o := by have := nth_suf e 0; simpa using this
    have ih := chk_sound hA r (pre ++ [o]) (L.setIfInBounds pre.length true) (by rw [e]; simp) (by rw [List.length_append]; exact stg_next hs (by omega)) (by rw [List.length_append]; exact hr)
    rw [List.length_append] at ih
    show (!false && takeB q ops L pre.length && planB q ops (opsThen (List.range' (pre.length + 1) r.length) .done) false r.length (L.setIfInBounds pre.length true)) = true
    have ih' : planB q ops (opsThen (List.range' (pre.length + 1) r.length) .done) false r.length (L.setIfInBounds pre.length true) = true := ih
    rw [ih']
    have ht : takeB q ops L pre.length = true := by
      unfold takeB
      rw [ho]
      show (_ || _) = true
      cases hpl : plainO q o
      · rw [hpl] at hp
        rw [ready_one e hs hb hp]; simp
      · rw [hpl] at hp
        have hp : (r.all (linkB ops pre.length o) && (blindB o || lateB q pre.length r ((A.drop pre.length).drop 1))) = true := hp
        rw [Bool.and_eq_true] at hp
        have c1 : (Region.ready .any ops L).contains pre.length = true := by rw [List.contains_iff_mem]; exact ready_mem e hs hb
        have c2 := free_ok e hs hp.1
        have c3 : plainAt q ops pre.length = true := by unfold plainAt; rw [ho]; exact hpl
        have c4 : (blindB o || (List.range ops.size).all fun j => L.getD j true || plainAt q ops j || waitsT ops ops.size j pre.length) = true := by
          rw [Bool.or_eq_true]
          rcases Bool.or_eq_true _ _ ▸ hp.2 with h1 | h1
          · exact .inl h1
          · right
            rw [List.all_eq_true]
            intro j hj
            rw [List.mem_range] at hj
            by_cases h2 : j < pre.length
            · rw [hs.val j hj, decide_eq_true h2]; simp
            · by_cases h3 : j = pre.length
              · rw [h3, c3]; simp
              · obtain ⟨i, rfl⟩ : ∃ i, j = pre.length + (i + 1) := ⟨j - pre.length - 1, by omega⟩
                have hs2 := nth_suf e (i + 1)
                cases hoj : r[i]? with
                | none => rw [List.getElem?_eq_none_iff] at hoj; omega
                | some oj =>
                  have hoj2 : ops[pre.length + (i + 1)]? = some oj := by rw [hs2]; simpa using hoj
                  rcases lateB_sound h1 i oj hoj with h4 | h4
                  · have : plainAt q ops (pre.length + (i + 1)) = true := by unfold plainAt; rw [hoj2]; exact h4
                    rw [this]; simp
                  · rw [List.drop_drop] at h4
                    have h5 : (List.drop (pre.length + 1) A).getD i 0 = A.getD (pre.length + (i + 1)) 0 := by
                      rw [List.getD_eq_getElem?_getD, List.getElem?_drop, ← List.getD_eq_getElem?_getD]; congr 1; omega
                    rw [h5] at h4
                    rw [hA _ _ h4]; simp
        rw [c1, c2, c3, c4]; simp
    rw [ht]; rfl
def lineB (q : Nat → Bool) (ops : Array Oper) : Bool := chkL q ops ops.toList (buildM ops.toList []) 0
theorem line_sound {q : Nat → Bool} {ops : Array Oper} (h : lineB q ops = true) : planB q ops (opsThen (List.range' 0 ops.size) .done) false ops.size (Array.replicate ops.size false) = true := by
  have hA := buildM_sound (ops := ops) ops.toList [] [] rfl rfl (fun i k hk => by simp at hk)
  have := chk_sound (q := q) hA ops.toList [] (Array.replicate ops.size false) rfl (stg_zero _) h
  simpa using this
def codeBL (C : Cfg) : Code → Bool
  | .region id ops draw => (match C.plan id with
    | none => regionB C.q ops draw
    | some (.lin l .done) => draw && Region.noSelect ops && planIn ops.toList (.lin l .done) && (l == List.range' 0 ops.size) && lineB C.q ops
    | some p => planOk C.q ops draw p)
  | .seq a b => codeBL C a && codeBL C b
  | .cond _ x y => codeBL C x && codeBL C y
  | .block _ b => codeBL C b
  | .loop b => codeBL C b
  | .scope b => codeBL C b
  | _ => true
theorem codeBL_ok {C : Cfg} : ∀ {c : Code}, codeBL C c = true → codeB C c = true
  | .region id ops draw, h => by
    unfold codeBL at h
    unfold codeB
    split at h
    · rename_i hp; rw [hp]; exact h
    · rename_i l hp
      rw [hp]
      simp only [Bool.and_eq_true, beq_iff_eq] at h
      obtain ⟨⟨⟨⟨h1, h2⟩, h3⟩, h4⟩, h5⟩ := h
      have h6 := line_sound h5
      rw [← h4] at h6
      show (draw && Region.noSelect ops && planIn ops.toList (.lin l .done) && planB C.q ops (opsThen l .done) false ops.size (Array.replicate ops.size false)) = true
      rw [h1, h2, h3, h6]; rfl
    · rename_i p hn hp
      rw [hp]; exact h
  | .seq a b, h => by
    unfold codeBL at h; unfold codeB
    rw [Bool.and_eq_true] at h ⊢
    exact ⟨codeBL_ok h.1, codeBL_ok h.2⟩
  | .cond _ x y, h => by
    unfold codeBL at h; unfold codeB
    rw [Bool.and_eq_true] at h ⊢
    exact ⟨codeBL_ok h.1, codeBL_ok h.2⟩
  | .block _ b, h => codeBL_ok (c := b) h
  | .loop b, h => codeBL_ok (c := b) h
  | .scope b, h => codeBL_ok (c := b) h
  | .skip .., _ => rfl
  | .rangeFunc .., _ => rfl
  | .exit .., _ => rfl
  | .label .., _ => rfl
  | .goto .., _ => rfl
  | .ret .., _ => rfl
  | .refuse .., _ => rfl
end Go.Proofs.Ytmchfbjbcioccaa

set_option linter.unusedVariables false
set_option linter.unusedSimpArgs false
namespace Go.Proofs.Ytmchfbjbcioccaa
open Go Go.Fw
def i8S (A B : List Int) : Seg := .seg false (.cols [.ints .i8 A, .ints .i8 B])
def fQu (a c : Nat) : Nat := (floatBits .quo .f64 a c).getD 0
def md (A : List Int) (i : Nat) : Int := (A.getD i 0).tmod 64
def nmF (A B : List Int) (c i : Nat) : Nat × Nat := (fQu (floatOfInt .f64 (md A i)) c, fQu (floatOfInt .f64 (md B i)) c)
def nmI (A B : List Int) (i : Nat) : Int × Int := (md A i, md B i)
theorem md_in (A : List Int) (i : Nat) : -63 ≤ md A i ∧ md A i ≤ 63 := by
  unfold md
  have := Int.tmod_lt_of_pos (A.getD i 0) (show (0 : Int) < 64 by decide)
  have := Int.lt_tmod_of_pos (A.getD i 0) (show (0 : Int) < 64 by decide)
  omega
theorem fQu_is {c j : Nat} {n : Int} (hc : D.read c = .number false 4503599627370496 (-52 + j)) (h1 : -63 ≤ n) (h2 : n ≤ 63) (hj : j ≤ 900) : floatBits .quo .f64 (floatOfInt .f64 n) c = some (fQu (floatOfInt .f64 n) c) ∧ V j (fQu (floatOfInt .f64 n) c) n := by
  obtain ⟨r, e, v⟩ := V_div (V_ofInt n (by omega) (by omega)) hc (by omega) (by omega) (by omega)
  have e : floatBits .quo .f64 (floatOfInt .f64 n) c = some r := e
  rw [Nat.zero_add] at v
  unfold fQu; rw [e]; exact ⟨rfl, v⟩
theorem nm_RQ {c j : Nat} (hc : D.read c = .number false 4503599627370496 (-52 + j)) (hj : j ≤ 900) (A B : List Int) {X : YT} {n : Nat} (hX : ∀ i, i < n → aF X i = nmF A B c i) : RQ j 63 n X (nmI A B) := fun i hi => by
  have a := md_in A i
  have b := md_in B i
  rw [hX i hi]
  exact ⟨⟨(fQu_is hc a.1 a.2 hj).2, (fQu_is hc b.1 b.2 hj).2⟩, by unfold bd nmI; simp only []; omega⟩
theorem push_tb {α : Type} (F : Nat → α) (t t1 : List α) (i : Nat) (x : α) (hx : x = F i) : List.take i (List.drop 0 (tb F i ++ t)) ++ [x] ++ t1 = tb F (i + 1) ++ t1 := by
  rw [List.drop_zero, List.take_left' (tab_len F i), hx, tab_snoc]
def st4 (A B : List Int) (n ca : Nat) (most : Int) (c i : Nat) (t : YT) : St := ⟨slotsAt 43 [(0, .slice 0 0 n ca), (1, .int .i64 most), (2, .flt .f64 c), (7, .slice 1 0 i (i + t.length)), (8, .int .i64 i)], [i8S A B, cxS true (tb (nmF A B c) i ++ t)]⟩
def inv4 (A B : List Int) (n ca m : Nat) (c : Nat) : LInv := ⟨Nat × YT, fun x => st4 A B n ca m c x.1 x.2, fun x => x.1 ≤ min n m, fun x => n - x.1⟩
def nmOut (A B : List Int) (c n : Nat) : FOut := ⟨YT, fun _ => True, fun y => .slice 1 0 n (n + y.length), fun y => [.dead, cxS true (tb (nmF A B c) n ++ y)]⟩
def pl4 : PlanL := .lin [0, 1, 2, 3, 4, 5, 6, 7, 8, 9, 10, 11, 12, 13, 14, 15, 16, 17, 18, 19, 20, 21, 22] .done
set_option maxHeartbeats 0 in
set_option maxRecDepth 100000 in
theorem numbers_f {c j : Nat} (hc : D.read c = .number false 4503599627370496 (-52 + j)) (hj : j ≤ 900) (A B : List Int) (n ca m : Nat) (hA : n ≤ A.length) (hB : n ≤ B.length) (hca : n ≤ ca) (hn : n ≤ 70368744177664) (hm : m ≤ 40) :
    Fits Try.prog 4 ⟨[.slice 0 0 n ca, .int .i64 m, .flt .f64 c], [i8S A B], [nmOut A B c (min n m)]⟩ := by
  refine fits_of_body (C := { T := tyL, sgn := fun _ => true, wr := fun _ => false, k := 1, q := fun _ => false, plan := fun | 5 => some pl4 | _ => none }) (c := (Try.f4.body).getD .skip) (ts := [6]) tokL mixedL (fun | 3 => some (inv4 A B n ca m c) | _ => none) (fun _ => none)
    Try.func4 (by kernel_rfl) (by kernel_rfl) (by kernel_rfl) (codeBL_ok (by kernel_rfl)) rfl ?_
  conv => whnf
  repeat (first
    | (refine And.intro ?_ ?_; (focus (first | omega | decide | exact EqOk.mk (by kernel_rfl) (by kernel_rfl) (by kernel_rfl) | exact Int.natCast_nonneg _ | ((repeat' refine And.intro ?_ ?_) <;> first | omega | exact Int.natCast_nonneg _ | (simp only [i64max, u8max, u16max, u32max, u64max]; omega) | (simp only [mulSz_eq, Cont.len, colsLen, Col.len, List.length_cons, List.length_nil, List.length_replicate, List.length_append]; first | done | omega) | (simp [mulSz, Cont.len, bne]; first | done | omega)))); conv => whnf)
    | (refine tst_in ?_ ?_; (focus (intro h_; exfalso; first | omega | ((try simp only [decide_eq_true_eq, decide_eq_false_iff_not] at h_); omega) | (simp [mulSz, Cont.len, bne] at h_; first | done | omega))); intro _; conv => whnf)
    | (refine tst_in ?_ ?_; rotate_left; (focus (intro h_; exfalso; first | omega | ((try simp only [decide_eq_true_eq, decide_eq_false_iff_not] at h_); omega) | (simp [mulSz, Cont.len, bne] at h_; first | done | omega))); intro _; conv => whnf)
    | (refine ⟨0, (show _ = _ by omega), ?_⟩; conv => whnf))
  refine ⟨⟨[0, 9], ((0, []) : Nat × YT), ?_, Nat.zero_le _⟩, ?_⟩
  · show stLe _ _ (st4 A B n ca m c 0 []) _
    conv => whnf
    repeat' (first | exact True.intro | rfl | refine And.intro ?_ ?_)
    all_goals (conv => whnf)
    repeat' (first | exact True.intro | rfl | refine And.intro ?_ ?_)
    all_goals (try omega)
  · rintro ⟨i, t⟩ hi
    have hi : i ≤ min n m := hi
    have a1 := md_in A i
    have b1 := md_in B i
    have qa := (fQu_is hc a1.1 a1.2 hj).1
    have qb := (fQu_is hc b1.1 b1.2 hj).1
    show forceSt (st4 A B n ca m c i t) _
    conv => whnf
    repeat (first
      | (refine And.intro ?_ ?_; (focus (first | omega | decide | exact EqOk.mk (by kernel_rfl) (by kernel_rfl) (by kernel_rfl) | exact Int.natCast_nonneg _ | ((repeat' refine And.intro ?_ ?_) <;> first | omega | exact Int.natCast_nonneg _ | (simp only [i64max, u8max, u16max, u32max, u64max]; omega) | (simp only [mulSz_eq, Cont.len, colsLen, Col.len, List.length_cons, List.length_nil, List.length_replicate, List.length_append]; first | done | omega) | (simp [mulSz, Cont.len, bne]; first | done | omega)))); conv => whnf)
      | (refine tst_in ?_ ?_; (focus (intro h_; exfalso; first | omega | ((try simp only [decide_eq_true_eq, decide_eq_false_iff_not] at h_); omega) | (simp [mulSz, Cont.len, bne] at h_; first | done | omega))); intro _; conv => whnf)
      | (refine tst_in ?_ ?_; rotate_left; (focus (intro h_; exfalso; first | omega | ((try simp only [decide_eq_true_eq, decide_eq_false_iff_not] at h_); omega) | (simp [mulSz, Cont.len, bne] at h_; first | done | omega))); intro _; conv => whnf)
      | (refine ⟨0, (show _ = _ by omega), ?_⟩; conv => whnf))
    refine tst_in (fun u => ?_) (fun u => ?_)
    · have u : (i : Int) < (n : Int) := @of_decide_eq_true _ (dLt _ _) u
      conv => whnf
      repeat (first
        | (refine And.intro ?_ ?_; (focus (first | omega | decide | exact EqOk.mk (by kernel_rfl) (by kernel_rfl) (by kernel_rfl) | exact Int.natCast_nonneg _ | ((repeat' refine And.intro ?_ ?_) <;> first | omega | exact Int.natCast_nonneg _ | (simp only [i64max, u8max, u16max, u32max, u64max]; omega) | (simp only [mulSz_eq, Cont.len, colsLen, Col.len, List.length_cons, List.length_nil, List.length_replicate, List.length_append]; first | done | omega) | (simp [mulSz, Cont.len, bne]; first | done | omega)))); conv => whnf)
        | (refine tst_in ?_ ?_; (focus (intro h_; exfalso; first | omega | ((try simp only [decide_eq_true_eq, decide_eq_false_iff_not] at h_); omega) | (simp [mulSz, Cont.len, bne] at h_; first | done | omega))); intro _; conv => whnf)
        | (refine tst_in ?_ ?_; rotate_left; (focus (intro h_; exfalso; first | omega | ((try simp only [decide_eq_true_eq, decide_eq_false_iff_not] at h_); omega) | (simp [mulSz, Cont.len, bne] at h_; first | done | omega))); intro _; conv => whnf)
        | (refine ⟨0, (show _ = _ by omega), ?_⟩; conv => whnf))
      refine tst_in (fun v => ?_) (fun v => ?_)
      · have v : (i : Int) < (m : Int) := @of_decide_eq_true _ (dLt _ _) v
        conv => whnf
        repeat (first
          | (refine And.intro ?_ ?_; (focus (first | omega | decide | exact EqOk.mk (by kernel_rfl) (by kernel_rfl) (by kernel_rfl) | exact Int.natCast_nonneg _ | ((repeat' refine And.intro ?_ ?_) <;> first | omega | exact Int.natCast_nonneg _ | (simp only [i64max, u8max, u16max, u32max, u64max]; omega) | (simp only [mulSz_eq, Cont.len, colsLen, Col.len, List.length_cons, List.length_nil, List.length_replicate, List.length_append]; first | done | omega) | (simp [mulSz, Cont.len, bne]; first | done | omega)))); conv => whnf)
          | (refine tst_in ?_ ?_; (focus (intro h_; exfalso; first | omega | ((try simp only [decide_eq_true_eq, decide_eq_false_iff_not] at h_); omega) | (simp [mulSz, Cont.len, bne] at h_; first | done | omega))); intro _; conv => whnf)
          | (refine tst_in ?_ ?_; rotate_left; (focus (intro h_; exfalso; first | omega | ((try simp only [decide_eq_true_eq, decide_eq_false_iff_not] at h_); omega) | (simp [mulSz, Cont.len, bne] at h_; first | done | omega))); intro _; conv => whnf)
          | (refine ⟨i, (show _ = _ by omega), ?_⟩; conv => whnf)
          | (refine ⟨i, 0, (show _ = _ by omega), ?_⟩; conv => whnf)
          | (refine ⟨i, 1, (show _ = _ by omega), ?_⟩; conv => whnf)
          | (refine ⟨i, 2, (show _ = _ by omega), ?_⟩; conv => whnf)
          | (refine ⟨i, 3, (show _ = _ by omega), ?_⟩; conv => whnf)
          | (refine ⟨i, 4, (show _ = _ by omega), ?_⟩; conv => whnf)
          | (refine ⟨i, 5, (show _ = _ by omega), ?_⟩; conv => whnf)
          | (refine ⟨0, (show _ = _ by omega), ?_⟩; conv => whnf))
        refine ⟨_, qa, ?_⟩
        conv => whnf
        repeat (first
          | (refine And.intro ?_ ?_; (focus (first | omega | decide | exact EqOk.mk (by kernel_rfl) (by kernel_rfl) (by kernel_rfl) | exact Int.natCast_nonneg _ | ((repeat' refine And.intro ?_ ?_) <;> first | omega | exact Int.natCast_nonneg _ | (simp only [i64max, u8max, u16max, u32max, u64max]; omega) | (simp only [mulSz_eq, Cont.len, colsLen, Col.len, List.length_cons, List.length_nil, List.length_replicate, List.length_append]; first | done | omega) | (simp [mulSz, Cont.len, bne]; first | done | omega)))); conv => whnf)
          | (refine tst_in ?_ ?_; (focus (intro h_; exfalso; first | omega | ((try simp only [decide_eq_true_eq, decide_eq_false_iff_not] at h_); omega) | (simp [mulSz, Cont.len, bne] at h_; first | done | omega))); intro _; conv => whnf)
          | (refine tst_in ?_ ?_; rotate_left; (focus (intro h_; exfalso; first | omega | ((try simp only [decide_eq_true_eq, decide_eq_false_iff_not] at h_); omega) | (simp [mulSz, Cont.len, bne] at h_; first | done | omega))); intro _; conv => whnf)
          | (refine ⟨i, (show _ = _ by omega), ?_⟩; conv => whnf)
          | (refine ⟨i, 0, (show _ = _ by omega), ?_⟩; conv => whnf)
          | (refine ⟨i, 1, (show _ = _ by omega), ?_⟩; conv => whnf)
          | (refine ⟨i, 2, (show _ = _ by omega), ?_⟩; conv => whnf)
          | (refine ⟨i, 3, (show _ = _ by omega), ?_⟩; conv => whnf)
          | (refine ⟨i, 4, (show _ = _ by omega), ?_⟩; conv => whnf)
          | (refine ⟨i, 5, (show _ = _ by omega), ?_⟩; conv => whnf)
          | (refine ⟨0, (show _ = _ by omega), ?_⟩; conv => whnf))
        refine ⟨_, qb, ?_⟩
        conv => whnf
        repeat (first
          | (refine And.intro ?_ ?_; (focus (first | omega | decide | exact EqOk.mk (by kernel_rfl) (by kernel_rfl) (by kernel_rfl) | exact Int.natCast_nonneg _ | ((repeat' refine And.intro ?_ ?_) <;> first | omega | exact Int.natCast_nonneg _ | (simp only [i64max, u8max, u16max, u32max, u64max]; omega) | (simp only [mulSz_eq, Cont.len, colsLen, Col.len, List.length_cons, List.length_nil, List.length_replicate, List.length_append, tab_len, List.length_take, List.length_drop]; first | done | omega) | (simp [mulSz, Cont.len, bne, tab_len, List.length_take, List.length_drop]; first | done | omega)))); conv => whnf)
          | (refine tst_in ?_ ?_; (focus (intro h_; exfalso; first | omega | ((try simp only [decide_eq_true_eq, decide_eq_false_iff_not] at h_); omega) | (simp [mulSz, Cont.len, bne, tab_len, List.length_take, List.length_drop] at h_; first | done | omega))); intro _; conv => whnf)
          | (refine tst_in ?_ ?_; rotate_left; (focus (intro h_; exfalso; first | omega | ((try simp only [decide_eq_true_eq, decide_eq_false_iff_not] at h_); omega) | (simp [mulSz, Cont.len, bne, tab_len, List.length_take, List.length_drop] at h_; first | done | omega))); intro _; conv => whnf)
          | (refine ⟨0, (show _ = _ by omega), ?_⟩; conv => whnf))
        intro t1
        conv => whnf
        repeat (first
          | (refine And.intro ?_ ?_; (focus (first | omega | decide | exact EqOk.mk (by kernel_rfl) (by kernel_rfl) (by kernel_rfl) | exact Int.natCast_nonneg _ | ((repeat' refine And.intro ?_ ?_) <;> first | omega | exact Int.natCast_nonneg _ | (simp only [i64max, u8max, u16max, u32max, u64max]; omega) | (simp only [mulSz_eq, Cont.len, colsLen, Col.len, List.length_cons, List.length_nil, List.length_replicate, List.length_append]; first | done | omega) | (simp [mulSz, Cont.len, bne]; first | done | omega)))); conv => whnf)
          | (refine tst_in ?_ ?_; (focus (intro h_; exfalso; first | omega | ((try simp only [decide_eq_true_eq, decide_eq_false_iff_not] at h_); omega) | (simp [mulSz, Cont.len, bne] at h_; first | done | omega))); intro _; conv => whnf)
          | (refine tst_in ?_ ?_; rotate_left; (focus (intro h_; exfalso; first | omega | ((try simp only [decide_eq_true_eq, decide_eq_false_iff_not] at h_); omega) | (simp [mulSz, Cont.len, bne] at h_; first | done | omega))); intro _; conv => whnf)
          | (refine ⟨0, (show _ = _ by omega), ?_⟩; conv => whnf))
        refine ⟨[0, 3], ((i + 1, t1) : Nat × YT), ?_, (by show i + 1 ≤ min n m; omega), (by show n - (i + 1) < n - i; omega)⟩
        show stLe _ _ (st4 A B n ca m c (i + 1) t1) _
        conv => whnf
        repeat' (first | exact True.intro | rfl | refine And.intro ?_ ?_)
        all_goals (conv => whnf)
        repeat' (first | exact True.intro | rfl | refine And.intro ?_ ?_)
        all_goals (try omega)
        exact (push_tb (nmF A B c) t t1 i _ rfl).symm
      · have v : ¬ (i : Int) < (m : Int) := @of_decide_eq_false _ (dLt _ _) v
        have e : min n m = i := by omega
        rw [e]
        conv => whnf
        repeat (first
          | (refine And.intro ?_ ?_; (focus (first | omega | decide | exact EqOk.mk (by kernel_rfl) (by kernel_rfl) (by kernel_rfl) | exact Int.natCast_nonneg _ | ((repeat' refine And.intro ?_ ?_) <;> first | omega | exact Int.natCast_nonneg _ | (simp only [i64max, u8max, u16max, u32max, u64max]; omega) | (simp only [mulSz_eq, Cont.len, colsLen, Col.len, List.length_cons, List.length_nil, List.length_replicate, List.length_append]; first | done | omega) | (simp [mulSz, Cont.len, bne]; first | done | omega)))); conv => whnf)
          | (refine tst_in ?_ ?_; (focus (intro h_; exfalso; first | omega | ((try simp only [decide_eq_true_eq, decide_eq_false_iff_not] at h_); omega) | (simp [mulSz, Cont.len, bne] at h_; first | done | omega))); intro _; conv => whnf)
          | (refine tst_in ?_ ?_; rotate_left; (focus (intro h_; exfalso; first | omega | ((try simp only [decide_eq_true_eq, decide_eq_false_iff_not] at h_); omega) | (simp [mulSz, Cont.len, bne] at h_; first | done | omega))); intro _; conv => whnf)
          | (refine ⟨0, (show _ = _ by omega), ?_⟩; conv => whnf))
        refine .inl ⟨t, [0, 1], ?_⟩
        conv => whnf
        repeat' (first | exact True.intro | rfl | refine And.intro ?_ ?_)
        all_goals (conv => whnf)
        repeat' (first | exact True.intro | rfl | refine And.intro ?_ ?_)
        all_goals (try omega)
    · have u : ¬ (i : Int) < (n : Int) := @of_decide_eq_false _ (dLt _ _) u
      have e : min n m = i := by omega
      rw [e]
      conv => whnf
      repeat (first
        | (refine And.intro ?_ ?_; (focus (first | omega | decide | exact EqOk.mk (by kernel_rfl) (by kernel_rfl) (by kernel_rfl) | exact Int.natCast_nonneg _ | ((repeat' refine And.intro ?_ ?_) <;> first | omega | exact Int.natCast_nonneg _ | (simp only [i64max, u8max, u16max, u32max, u64max]; omega) | (simp only [mulSz_eq, Cont.len, colsLen, Col.len, List.length_cons, List.length_nil, List.length_replicate, List.length_append]; first | done | omega) | (simp [mulSz, Cont.len, bne]; first | done | omega)))); conv => whnf)
        | (refine tst_in ?_ ?_; (focus (intro h_; exfalso; first | omega | ((try simp only [decide_eq_true_eq, decide_eq_false_iff_not] at h_); omega) | (simp [mulSz, Cont.len, bne] at h_; first | done | omega))); intro _; conv => whnf)
        | (refine tst_in ?_ ?_; rotate_left; (focus (intro h_; exfalso; first | omega | ((try simp only [decide_eq_true_eq, decide_eq_false_iff_not] at h_); omega) | (simp [mulSz, Cont.len, bne] at h_; first | done | omega))); intro _; conv => whnf)
        | (refine ⟨0, (show _ = _ by omega), ?_⟩; conv => whnf))
      refine .inl ⟨t, [0, 1], ?_⟩
      conv => whnf
      repeat' (first | exact True.intro | rfl | refine And.intro ?_ ?_)
      all_goals (conv => whnf)
      repeat' (first | exact True.intro | rfl | refine And.intro ?_ ?_)
      all_goals (try omega)
end Go.Proofs.Ytmchfbjbcioccaa

set_option linter.unusedVariables false
set_option linter.unusedSimpArgs false
namespace Go.Proofs.Ytmchfbjbcioccaa
open Go Go.Fw
def pl3 : Nat → Option PlanL := fun | 15 => some (.lin [0, 1, 2, 3, 4, 5, 6, 7, 8, 9, 10, 11, 12] .done) | _ => none
def cfl : Cfg := { T := tyL, sgn := fun _ => true, wr := fun _ => false, k := 4, q := fun f => match f with | 6 => true | _ => false, plan := pl3 }
set_option maxHeartbeats 0 in
set_option maxRecDepth 100000 in
theorem cB3 : codeB cfl ((Try.f3.body).getD .skip) = true := codeBL_ok (by kernel_rfl)
end Go.Proofs.Ytmchfbjbcioccaa

set_option linter.unusedVariables false
set_option linter.unusedSimpArgs false
namespace Go.Proofs.Ytmchfbjbcioccaa
open Go Go.Fw
def c64 : Nat := 4634204016564240384
def c1 : Nat := 4607182418800017408
theorem c64_is : D.read c64 = .number false 4503599627370496 (-52 + (6 : Nat)) := by decide
theorem c1_is : D.read c1 = .number false 4503599627370496 (-52 + (0 : Nat)) := by decide
/-- A row that was lengthened by noughts. -/
def zF (F : Nat → Nat × Nat) (n i : Nat) : Nat × Nat := if i < n then F i else (0, 0)
structure HP where
  A0 : List Int
  B0 : List Int
  A1 : List Int
  B1 : List Int
  A2 : List Int
  B2 : List Int
  A3 : List Int
  B3 : List Int
def hpS (h : HP) : List Seg := [i8S h.A0 h.B0, i8S h.A1 h.B1, i8S h.A2 h.B2, i8S h.A3 h.B3]
structure Y4 where
  u : YT
  w : YT
  r : YT
  s : YT
def st7 (h : HP) (N : Int) (nu nw nr ns : Nat) (y : Y4) : St :=
  ⟨slotsAt 241 [(3, .int .i64 N), (4, .slice 4 0 nu (nu + y.u.length)), (5, .slice 5 0 nw (nw + y.w.length)), (6, .slice 6 0 nr (nr + y.r.length)), (7, .slice 7 0 ns (ns + y.s.length))],
    hpS h ++ [cxS true (tb (nmF h.A0 h.B0 c64) nu ++ y.u), cxS true (tb (nmF h.A1 h.B1 c64) nw ++ y.w), cxS true (tb (nmF h.A2 h.B2 c1) nr ++ y.r), cxS true (tb (nmF h.A3 h.B3 c1) ns ++ y.s)]⟩
structure L8 where
  y : Y4
  k : Nat
def inv8 (h : HP) (N : Int) (nu nw nr ns : Nat) : LInv := ⟨L8, fun x => ⟨slotsAt 241 [(3, .int .i64 N), (4, .slice 4 0 nu (nu + x.y.u.length)), (5, .slice 5 0 nw (nw + x.y.w.length)), (6, .slice 6 0 nr (nr + x.y.r.length)), (7, .slice 7 0 x.k (x.k + x.y.s.length))],
    hpS h ++ [cxS true (tb (nmF h.A0 h.B0 c64) nu ++ x.y.u), cxS true (tb (nmF h.A1 h.B1 c64) nw ++ x.y.w), cxS true (tb (nmF h.A2 h.B2 c1) nr ++ x.y.r), cxS true (tb (zF (nmF h.A3 h.B3 c1) ns) x.k ++ x.y.s)]⟩,
  fun x => ns ≤ x.k ∧ x.k ≤ max ns nr, fun x => nr - x.k⟩
def fAd (a b : Nat) : Nat := (floatBits .add .f64 a b).getD 0
def boF (F G : Nat → Nat × Nat) (i : Nat) : Nat × Nat := (fAd (F i).1 (G i).1, fAd (F i).2 (G i).2)
def tuF (q : Nat) (F : Nat → Nat × Nat) (i : Nat) : Nat × Nat := trn q (F i)
theorem at_lt {α : Type} (F : Nat → α) (t : List α) (z : α) {n i : Nat} (h : i < n) : (tb F n ++ t).getD i z = F i := by
  rw [List.getD_eq_getElem?_getD, List.getElem?_append_left (by rw [tab_len]; exact h), ← List.getD_eq_getElem?_getD]
  exact tab_get F z h
theorem cadd_q {q B C : Nat} {a b : Nat × Nat} {x y : Int × Int} (ha : VQ q a x) (hb : VQ q b y) (bx : bd B x) (by' : bd C y) (hB : B + C < 9007199254740992) (hq : q ≤ 900) :
    cSumBits .add .f64 a.1 a.2 b.1 b.2 = some (fAd a.1 b.1, fAd a.2 b.2) ∧ VQ q (fAd a.1 b.1, fAd a.2 b.2) (ca x y) := by
  obtain ⟨a1, a2, a3, a4⟩ := bx
  obtain ⟨c1, c2, c3, c4⟩ := by'
  obtain ⟨r, e1, v1⟩ := V_add ha.1 hb.1 (by omega) (by omega) (by omega)
  obtain ⟨s, e2, v2⟩ := V_add ha.2 hb.2 (by omega) (by omega) (by omega)
  have e1 : floatBits .add .f64 a.1 b.1 = some r := e1
  have e2 : floatBits .add .f64 a.2 b.2 = some s := e2
  unfold cSumBits fAd
  rw [e1, e2]
  exact ⟨rfl, v1, v2⟩
theorem nm_VQ {c j : Nat} (hc : D.read c = .number false 4503599627370496 (-52 + j)) (hj : j ≤ 900) (A B : List Int) (i : Nat) : VQ j (nmF A B c i) (nmI A B i) ∧ bd 63 (nmI A B i) := by
  have a := md_in A i
  have b := md_in B i
  exact ⟨⟨(fQu_is hc a.1 a.2 hj).2, (fQu_is hc b.1 b.2 hj).2⟩, by unfold bd nmI; simp only []; omega⟩
theorem zF_VQ {F : Nat → Nat × Nat} {f : Nat → Int × Int} (n i : Nat) (h : VQ 0 (F i) (f i) ∧ bd 63 (f i)) : VQ 0 (zF F n i) (upto f n i) ∧ bd 63 (upto f n i) := by
  unfold zF upto
  split
  · exact h
  · exact ⟨VQ_zero 0 (by decide), by unfold bd; decide⟩
structure L13 where
  y : Y4
  K : Nat
  i : Nat
  t1 : YT
  t2 : YT
def inv13 (h : HP) (N : Int) (q nu nw nr ns : Nat) : LInv := ⟨L13, fun x => ⟨slotsAt 241 [(3, .int .i64 N), (4, .slice 4 0 nu (nu + x.y.u.length)), (5, .slice 5 0 nw (nw + x.y.w.length)), (6, .slice 6 0 nr (nr + x.y.r.length)), (7, .slice 7 0 nr (x.K + x.y.s.length)), (8, .slice 8 0 x.i (x.i + x.t1.length)), (9, .slice 9 0 x.i (x.i + x.t2.length)), (10, .int .i64 x.i)],
    hpS h ++ [cxS true (tb (nmF h.A0 h.B0 c64) nu ++ x.y.u), cxS true (tb (nmF h.A1 h.B1 c64) nw ++ x.y.w), cxS true (tb (nmF h.A2 h.B2 c1) nr ++ x.y.r), cxS true (tb (zF (nmF h.A3 h.B3 c1) ns) x.K ++ x.y.s), cxS true (tb (boF (nmF h.A2 h.B2 c1) (zF (nmF h.A3 h.B3 c1) ns)) x.i ++ x.t1), cxS true (tb (tuF q (nmF h.A2 h.B2 c1)) x.i ++ x.t2)]⟩,
  fun x => nr ≤ x.K ∧ x.K ≤ 40 ∧ x.i ≤ nr, fun x => nr - x.i⟩
def eqC (a b : Nat × Nat) : Prop := (FloatKind.f64.format.order a.1 b.1 == some .eq && FloatKind.f64.format.order a.2 b.2 == some .eq) = true
structure P29 (q nr : Nat) (Oa Ob Oc Od Oe Oz : YT) : Prop where
  la : Oa.length = nr
  lb : Ob.length = nr
  lc : Oc.length = nr
  ld : Od.length = nr
  le : Oe.length = nr
  lz : Oz.length = nr
  s : ∀ p, p < nr → cSumBits .add .f64 (aF Oa p).1 (aF Oa p).2 (aF Ob p).1 (aF Ob p).2 = some (fAd (aF Oa p).1 (aF Ob p).1, fAd (aF Oa p).2 (aF Ob p).2)
  c : ∀ p, p < nr → eqC (aF Oc p) (fAd (aF Oa p).1 (aF Ob p).1, fAd (aF Oa p).2 (aF Ob p).2)
  d : ∀ p, p < nr → eqC (aF Od p) (trn q (aF Oa p))
  z : ∀ p, p < nr → eqC (aF Oe p) (aF Oz p)
structure L29 where
  R : YT
  cr : Nat
  Oa : YT
  Ob : YT
  Oc : YT
  Od : YT
  Oe : YT
  Oz : YT
  i : Nat
def inv29 (h : HP) (N : Int) (q nr : Nat) : LInv := ⟨L29, fun x => ⟨slotsAt 241 [(3, .int .i64 N), (6, .slice 4 0 nr x.cr), (11, .slice 5 0 nr nr), (13, .slice 6 0 nr nr), (15, .slice 7 0 nr nr), (17, .slice 8 0 nr nr), (19, .slice 9 0 nr nr), (23, .slice 10 0 nr nr), (25, .int .i64 x.i)],
    hpS h ++ [cxS true x.R, cxS true x.Oa, cxS true x.Ob, cxS true x.Oc, cxS true x.Od, cxS true x.Oe, cxS true x.Oz]⟩,
  fun x => x.i ≤ nr ∧ P29 q nr x.Oa x.Ob x.Oc x.Od x.Oe x.Oz, fun x => nr - x.i⟩
def cut8 (h : HP) (N : Int) (nu nw nr ns : Nat) : LInv := ⟨Y4, fun y => st7 h N nu nw nr ns y, fun _ => 0 < nu ∧ 0 < nw, fun _ => 0⟩
structure L17 where
  y : Y4
  K : Nat
  t1 : YT
  t2 : YT
def cut17 (h : HP) (N : Int) (q nu nw nr ns : Nat) : LInv := ⟨L17, fun x => ⟨slotsAt 241 [(3, .int .i64 N), (4, .slice 4 0 nu (nu + x.y.u.length)), (5, .slice 5 0 nw (nw + x.y.w.length)), (6, .slice 6 0 nr (nr + x.y.r.length)), (7, .slice 7 0 nr (x.K + x.y.s.length)), (8, .slice 8 0 nr (nr + x.t1.length)), (9, .slice 9 0 nr (nr + x.t2.length))],
    hpS h ++ [cxS true (tb (nmF h.A0 h.B0 c64) nu ++ x.y.u), cxS true (tb (nmF h.A1 h.B1 c64) nw ++ x.y.w), cxS true (tb (nmF h.A2 h.B2 c1) nr ++ x.y.r), cxS true (tb (zF (nmF h.A3 h.B3 c1) ns) x.K ++ x.y.s), cxS true (tb (boF (nmF h.A2 h.B2 c1) (zF (nmF h.A3 h.B3 c1) ns)) nr ++ x.t1), cxS true (tb (tuF q (nmF h.A2 h.B2 c1)) nr ++ x.t2)]⟩,
  fun x => nr ≤ x.K ∧ x.K ≤ 40, fun _ => 0⟩
structure L28 where
  R : YT
  cr : Nat
  Oa : YT
  Ob : YT
  Oc : YT
  Od : YT
  Oe : YT
  Oz : YT
def cut28 (h : HP) (N : Int) (q nr : Nat) : LInv := ⟨L28, fun x => ⟨slotsAt 241 [(3, .int .i64 N), (6, .slice 4 0 nr x.cr), (11, .slice 5 0 nr nr), (13, .slice 6 0 nr nr), (15, .slice 7 0 nr nr), (17, .slice 8 0 nr nr), (19, .slice 9 0 nr nr), (23, .slice 10 0 nr nr)],
    hpS h ++ [cxS true x.R, cxS true x.Oa, cxS true x.Ob, cxS true x.Oc, cxS true x.Od, cxS true x.Oe, cxS true x.Oz]⟩,
  fun x => P29 q nr x.Oa x.Ob x.Oc x.Od x.Oe x.Oz, fun _ => 0⟩
def Jf (h : HP) (N : Int) (q nu nw nr ns : Nat) : Nat → Option LInv := fun | 8 => some (inv8 h N nu nw nr ns) | 13 => some (inv13 h N q nu nw nr ns) | 29 => some (inv29 h N q nr) | _ => none
def Jcf (h : HP) (N : Int) (q nu nw nr ns : Nat) : Nat → Option LInv := fun | 8 => some (cut8 h N nu nw nr ns) | 17 => some (cut17 h N q nu nw nr ns) | 28 => some (cut28 h N q nr) | _ => none
/-- What is behind the region r. -/
def restOf (r : Nat) : Code → Code
  | .seq a b => if Nat.beq (firstRegion b) r then b else restOf r b
  | c => c
noncomputable def r17 : Code := restOf 17 ((Try.f3.body).getD .skip)
noncomputable def r28 : Code := restOf 28 ((Try.f3.body).getD .skip)
def post3 : Exit → St → Prop := fun e st => match e with | .normal => anyOut cfl.k [numOut [.dead, .dead, .dead, .dead] (.bool true)] (resAV st [2]) st.hp | .ret => anyOut cfl.k [numOut [.dead, .dead, .dead, .dead] (.bool true)] (resAV st [2]) st.hp | _ => False
set_option maxHeartbeats 0 in
set_option maxRecDepth 100000 in
theorem tail28 {A0 B0 A1 B1 A2 B2 A3 B3 : List Int} {N : Int} {q nu nw i ns : Nat} (mnr : i ≤ 40) (hq : N % 4 = (q : Int)) (AW : Fits Try.prog 5 ⟨[], [], [numOut [] (.bool true)]⟩) (x : L28) (hx : P29 q i x.Oa x.Ob x.Oc x.Od x.Oe x.Oz) :
    forceSt ((cut28 ⟨A0, B0, A1, B1, A2, B2, A3, B3⟩ N q i).st x) fun st => codeVC Try.prog cfl (Jf ⟨A0, B0, A1, B1, A2, B2, A3, B3⟩ N q nu nw i ns) (Jcf ⟨A0, B0, A1, B1, A2, B2, A3, B3⟩ N q nu nw i ns) r28 st post3 := by
  obtain ⟨R, cr, Oa, Ob, Oc, Od, Oe, Oz⟩ := x
  have PP : P29 q i Oa Ob Oc Od Oe Oz := hx
  show forceSt ⟨slotsAt 241 [(3, .int .i64 N), (6, .slice 4 0 i cr), (11, .slice 5 0 i i), (13, .slice 6 0 i i), (15, .slice 7 0 i i), (17, .slice 8 0 i i), (19, .slice 9 0 i i), (23, .slice 10 0 i i)],
    [i8S A0 B0, i8S A1 B1, i8S A2 B2, i8S A3 B3, cxS true R, cxS true Oa, cxS true Ob, cxS true Oc, cxS true Od, cxS true Oe, cxS true Oz]⟩ _
  conv => whnf
  refine ⟨⟨[0, 1, 2, 3, 4, 5, 6, 7, 8, 9, 10], (⟨R, cr, Oa, Ob, Oc, Od, Oe, Oz, 0⟩ : L29), ?_, ⟨Nat.zero_le _, PP⟩⟩, ?_⟩
  · conv => whnf
    repeat' (first | exact True.intro | rfl | refine And.intro ?_ ?_)
    all_goals (conv => whnf)
    repeat' (first | exact True.intro | rfl | refine And.intro ?_ ?_)
    all_goals (try omega)
  clear PP hx
  clear Oa Ob Oc Od Oe Oz R cr
  rintro ⟨R', cr, Oa, Ob, Oc, Od, Oe, Oz, p⟩ ⟨p1', PP⟩
  have p1 : p ≤ i := p1'
  clear p1'
  have PQ : P29 q i Oa Ob Oc Od Oe Oz := PP
  obtain ⟨la', lb', lc', ld', le', lz', ps', pc', pd', pz'⟩ := PP
  have la : Oa.length = i := la'
  have lb : Ob.length = i := lb'
  have lc : Oc.length = i := lc'
  have ld : Od.length = i := ld'
  have le : Oe.length = i := le'
  have lz : Oz.length = i := lz'
  clear la' lb' lc' ld' le' lz'
  show forceSt ⟨slotsAt 241 [(3, .int .i64 N), (6, .slice 4 0 i cr), (11, .slice 5 0 i i), (13, .slice 6 0 i i), (15, .slice 7 0 i i), (17, .slice 8 0 i i), (19, .slice 9 0 i i), (23, .slice 10 0 i i), (25, .int .i64 p)],
    [i8S A0 B0, i8S A1 B1, i8S A2 B2, i8S A3 B3, cxS true R', cxS true Oa, cxS true Ob, cxS true Oc, cxS true Od, cxS true Oe, cxS true Oz]⟩ _
  conv => whnf
  refine tst_in (fun u => ?_) (fun u => ?_)
  · have u : (p : Int) < (i : Int) := @of_decide_eq_true _ (dLt _ _) u
    have hpi : p < i := by omega
    have hj : 0 + ((p : Nat) : Int).toNat = p := by omega
    have ps : cSumBits .add .f64 (Oa.getD (0 + ((p : Nat) : Int).toNat) (0, 0)).1 (Oa.getD (0 + ((p : Nat) : Int).toNat) (0, 0)).2 (Ob.getD (0 + ((p : Nat) : Int).toNat) (0, 0)).1 (Ob.getD (0 + ((p : Nat) : Int).toNat) (0, 0)).2 = some (fAd (Oa.getD (0 + ((p : Nat) : Int).toNat) (0, 0)).1 (Ob.getD (0 + ((p : Nat) : Int).toNat) (0, 0)).1, fAd (Oa.getD (0 + ((p : Nat) : Int).toNat) (0, 0)).2 (Ob.getD (0 + ((p : Nat) : Int).toNat) (0, 0)).2) := by rw [hj]; exact ps' p hpi
    have pc : (FloatKind.f64.format.order (Oc.getD (0 + ((p : Nat) : Int).toNat) (0, 0)).1 (fAd (Oa.getD (0 + ((p : Nat) : Int).toNat) (0, 0)).1 (Ob.getD (0 + ((p : Nat) : Int).toNat) (0, 0)).1) == some .eq && FloatKind.f64.format.order (Oc.getD (0 + ((p : Nat) : Int).toNat) (0, 0)).2 (fAd (Oa.getD (0 + ((p : Nat) : Int).toNat) (0, 0)).2 (Ob.getD (0 + ((p : Nat) : Int).toNat) (0, 0)).2) == some .eq) = true := by rw [hj]; exact pc' p hpi
    have pd : (FloatKind.f64.format.order (Od.getD (0 + ((p : Nat) : Int).toNat) (0, 0)).1 (trn q (Oa.getD (0 + ((p : Nat) : Int).toNat) (0, 0))).1 == some .eq && FloatKind.f64.format.order (Od.getD (0 + ((p : Nat) : Int).toNat) (0, 0)).2 (trn q (Oa.getD (0 + ((p : Nat) : Int).toNat) (0, 0))).2 == some .eq) = true := by rw [hj]; exact pd' p hpi
    have pz : (FloatKind.f64.format.order (Oe.getD (0 + ((p : Nat) : Int).toNat) (0, 0)).1 (Oz.getD (0 + ((p : Nat) : Int).toNat) (0, 0)).1 == some .eq && FloatKind.f64.format.order (Oe.getD (0 + ((p : Nat) : Int).toNat) (0, 0)).2 (Oz.getD (0 + ((p : Nat) : Int).toNat) (0, 0)).2 == some .eq) = true := by rw [hj]; exact pz' p hpi
    have TQ : QFits Try.prog 6 ⟨[.cpx .f64 (Oa.getD (0 + ((p : Nat) : Int).toNat) (0, 0)).1 (Oa.getD (0 + ((p : Nat) : Int).toNat) (0, 0)).2, .int .i64 N], [], .cpx .f64 (trn q (Oa.getD (0 + ((p : Nat) : Int).toNat) (0, 0))).1 (trn q (Oa.getD (0 + ((p : Nat) : Int).toNat) (0, 0))).2⟩ := Turn_q (Oa.getD (0 + ((p : Nat) : Int).toNat) (0, 0)) N q hq
    clear hq hj ps' pc' pd' pz'
    as_aux_lemma =>
      conv => whnf
      repeat (refine And.intro ?_ ?_; (focus (first | omega | exact EqOk.mk (by kernel_rfl) (by kernel_rfl) (by kernel_rfl) | ((repeat' refine And.intro ?_ ?_) <;> omega))); conv => whnf)
      refine ⟨_, _, ps, ?_⟩
      conv => whnf
      repeat (refine And.intro ?_ ?_; (focus (first | omega | exact EqOk.mk (by kernel_rfl) (by kernel_rfl) (by kernel_rfl) | ((repeat' refine And.intro ?_ ?_) <;> omega))); conv => whnf)
      refine tst_in (fun v => absurd v (by rw [pc]; decide)) (fun v => ?_)
      conv => whnf
      repeat (refine And.intro ?_ ?_; (focus (first | omega | exact EqOk.mk (by kernel_rfl) (by kernel_rfl) (by kernel_rfl) | ((repeat' refine And.intro ?_ ?_) <;> omega))); conv => whnf)
      refine ⟨_, [], TQ, ?_⟩
      conv => whnf
      iterate 2
       refine And.intro ?_ ?_
       focus
        conv => whnf
        repeat' (first | exact True.intro | rfl | refine And.intro ?_ ?_ | omega)
        all_goals (conv => whnf)
        all_goals (try (first | rfl | omega | (simp; done)))
      conv => whnf
      refine tst_in (fun v => absurd v (by rw [pd]; decide)) (fun v => ?_)
      conv => whnf
      repeat (refine And.intro ?_ ?_; (focus (first | omega | exact EqOk.mk (by kernel_rfl) (by kernel_rfl) (by kernel_rfl) | ((repeat' refine And.intro ?_ ?_) <;> omega))); conv => whnf)
      have lz2 : 0 + ((p : Nat) : Int).toNat < Oz.length := by omega
      have le2 : 0 + ((p : Nat) : Int).toNat < Oe.length := by omega
      have pi2 : (0 : Int) ≤ (p : Int) ∧ (p : Int) < (i : Int) := by omega
      repeat (first | (refine And.intro le2 ?_; conv => whnf) | (refine And.intro lz2 ?_; conv => whnf) | (refine And.intro pi2 ?_; conv => whnf) | (refine And.intro (EqOk.mk (by kernel_rfl) (by kernel_rfl) (by kernel_rfl)) ?_; conv => whnf))
      refine tst_in (fun v => absurd v (by rw [pz]; decide)) (fun v => ?_)
      conv => whnf
      repeat (refine And.intro ?_ ?_; (focus (first | omega | exact EqOk.mk (by kernel_rfl) (by kernel_rfl) (by kernel_rfl) | ((repeat' refine And.intro ?_ ?_) <;> omega))); conv => whnf)
      refine ⟨[0, 1, 2, 3, 4, 5, 6, 7, 8, 9, 10], (⟨R', cr, Oa, Ob, Oc, Od, Oe, Oz, p + 1⟩ : L29), ?_, ⟨by show p + 1 ≤ i; omega, PQ⟩, by show i - (p + 1) < i - p; omega⟩
      conv => whnf
      repeat' (first | exact True.intro | rfl | refine And.intro ?_ ?_)
      all_goals (conv => whnf)
      repeat' (first | exact True.intro | rfl | refine And.intro ?_ ?_)
      all_goals (try omega)
  · have u : ¬ (p : Int) < (i : Int) := @of_decide_eq_false _ (dLt _ _) u
    as_aux_lemma =>
      clear ps' pc' pd' pz' la lb lc ld le lz
      conv => whnf
      repeat (first
        | (refine And.intro ?_ ?_; (focus (first | omega | decide | exact EqOk.mk (by kernel_rfl) (by kernel_rfl) (by kernel_rfl) | exact Int.natCast_nonneg _ | ((repeat' refine And.intro ?_ ?_) <;> first | omega | exact Int.natCast_nonneg _ | (simp only [i64max, u8max, u16max, u32max, u64max]; omega) | (simp only [mulSz_eq, Cont.len, colsLen, Col.len, List.length_cons, List.length_nil, List.length_replicate, List.length_append]; first | done | omega) | (simp [mulSz, Cont.len, bne]; first | done | omega)))); conv => whnf)
        | (refine tst_in ?_ ?_; (focus (intro h_; exfalso; first | omega | ((try simp only [decide_eq_true_eq, decide_eq_false_iff_not] at h_); omega) | (simp [mulSz, Cont.len, bne] at h_; first | done | omega))); intro _; conv => whnf)
        | (refine tst_in ?_ ?_; rotate_left; (focus (intro h_; exfalso; first | omega | ((try simp only [decide_eq_true_eq, decide_eq_false_iff_not] at h_); omega) | (simp [mulSz, Cont.len, bne] at h_; first | done | omega))); intro _; conv => whnf)
        | (refine ⟨0, (show _ = _ by omega), ?_⟩; conv => whnf))
      refine ⟨_, [], AW, ?_⟩
      conv => whnf
      iterate 2
       refine And.intro ?_ ?_
       focus
        conv => whnf
        repeat' (first | exact True.intro | rfl | refine And.intro ?_ ?_ | omega)
        all_goals (conv => whnf)
        all_goals (try (first | rfl | omega | (simp; done)))
      conv => whnf
      refine ⟨?_, True.intro⟩
      intro _ _
      conv => whnf
      conv => whnf
      repeat (first
        | (refine And.intro ?_ ?_; (focus (first | omega | decide | exact EqOk.mk (by kernel_rfl) (by kernel_rfl) (by kernel_rfl) | exact Int.natCast_nonneg _ | ((repeat' refine And.intro ?_ ?_) <;> first | omega | exact Int.natCast_nonneg _ | (simp only [i64max, u8max, u16max, u32max, u64max]; omega) | (simp only [mulSz_eq, Cont.len, colsLen, Col.len, List.length_cons, List.length_nil, List.length_replicate, List.length_append]; first | done | omega) | (simp [mulSz, Cont.len, bne]; first | done | omega)))); conv => whnf)
        | (refine tst_in ?_ ?_; (focus (intro h_; exfalso; first | omega | ((try simp only [decide_eq_true_eq, decide_eq_false_iff_not] at h_); omega) | (simp [mulSz, Cont.len, bne] at h_; first | done | omega))); intro _; conv => whnf)
        | (refine tst_in ?_ ?_; rotate_left; (focus (intro h_; exfalso; first | omega | ((try simp only [decide_eq_true_eq, decide_eq_false_iff_not] at h_); omega) | (simp [mulSz, Cont.len, bne] at h_; first | done | omega))); intro _; conv => whnf)
        | (refine ⟨0, (show _ = _ by omega), ?_⟩; conv => whnf))
      refine .inl ⟨(), [0, 1, 2, 3], ?_⟩
      conv => whnf
      repeat' (first | exact True.intro | rfl | refine And.intro ?_ ?_)
      all_goals (conv => whnf)
      repeat' (first | exact True.intro | rfl | refine And.intro ?_ ?_)
      all_goals (try omega)
end Go.Proofs.Ytmchfbjbcioccaa

set_option linter.unusedVariables false
set_option linter.unusedSimpArgs false
namespace Go.Proofs.Ytmchfbjbcioccaa
open Go Go.Fw
set_option maxHeartbeats 0 in
set_option maxRecDepth 100000 in
theorem tail17 {A0 B0 A1 B1 A2 B2 A3 B3 : List Int} {N : Int} {q nu nw i ns : Nat} (mnu : nu ≤ 8) (mnw : nw ≤ 8) (mnr : i ≤ 40) (w : 0 < nu) (w2 : 0 < nw) (hq : N % 4 = (q : Int)) (AW : Fits Try.prog 5 ⟨[], [], [numOut [] (.bool true)]⟩) (x : L17) (hx : i ≤ x.K ∧ x.K ≤ 40) :
    forceSt ((cut17 ⟨A0, B0, A1, B1, A2, B2, A3, B3⟩ N q nu nw i ns).st x) fun st => codeVC Try.prog cfl (Jf ⟨A0, B0, A1, B1, A2, B2, A3, B3⟩ N q nu nw i ns) (Jcf ⟨A0, B0, A1, B1, A2, B2, A3, B3⟩ N q nu nw i ns) r17 st post3 := by
  obtain ⟨⟨yu, yw, yr, ys⟩, K, t1, t2⟩ := x
  obtain ⟨k1, k2⟩ := hx
  have k1 : i ≤ K := k1
  have k2 : K ≤ 40 := k2
  show forceSt ⟨slotsAt 241 [(3, .int .i64 N), (4, .slice 4 0 nu (nu + yu.length)), (5, .slice 5 0 nw (nw + yw.length)), (6, .slice 6 0 i (i + yr.length)), (7, .slice 7 0 i (K + ys.length)), (8, .slice 8 0 i (i + t1.length)), (9, .slice 9 0 i (i + t2.length))],
    [i8S A0 B0, i8S A1 B1, i8S A2 B2, i8S A3 B3, cxS true (tb (nmF A0 B0 c64) nu ++ yu), cxS true (tb (nmF A1 B1 c64) nw ++ yw), cxS true (tb (nmF A2 B2 c1) i ++ yr), cxS true (tb (zF (nmF A3 B3 c1) ns) K ++ ys), cxS true (tb (boF (nmF A2 B2 c1) (zF (nmF A3 B3 c1) ns)) i ++ t1), cxS true (tb (tuF q (nmF A2 B2 c1)) i ++ t2)]⟩ _
  generalize hU : tb (nmF A0 B0 c64) nu ++ yu = U
  generalize hW : tb (nmF A1 B1 c64) nw ++ yw = W
  generalize hR : tb (nmF A2 B2 c1) i ++ yr = R
  generalize hS : tb (zF (nmF A3 B3 c1) ns) K ++ ys = S
  generalize hB : tb (boF (nmF A2 B2 c1) (zF (nmF A3 B3 c1) ns)) i ++ t1 = Bo
  generalize hT : tb (tuF q (nmF A2 B2 c1)) i ++ t2 = Tu
  have lU : U.length = nu + yu.length := by rw [← hU, List.length_append, tab_len]
  have lW : W.length = nw + yw.length := by rw [← hW, List.length_append, tab_len]
  have lR : R.length = i + yr.length := by rw [← hR, List.length_append, tab_len]
  have lS : S.length = K + ys.length := by rw [← hS, List.length_append, tab_len]
  have lB : Bo.length = i + t1.length := by rw [← hB, List.length_append, tab_len]
  have lT : Tu.length = i + t2.length := by rw [← hT, List.length_append, tab_len]
  have rU : RQ 6 63 nu U (nmI A0 B0) := nm_RQ c64_is (by decide) A0 B0 fun k hk => by rw [← hU]; exact at_lt _ _ _ hk
  have rW : RQ 6 63 nw W (nmI A1 B1) := nm_RQ c64_is (by decide) A1 B1 fun k hk => by rw [← hW]; exact at_lt _ _ _ hk
  have rR : RQ 0 63 i R (nmI A2 B2) := nm_RQ c1_is (by decide) A2 B2 fun k hk => by rw [← hR]; exact at_lt _ _ _ hk
  have rS : RQ 0 63 i S (upto (nmI A3 B3) ns) := fun k hk => by
    have := zF_VQ ns k (nm_VQ c1_is (by decide) A3 B3 k)
    have e : aF S k = zF (nmF A3 B3 c1) ns k := by rw [← hS]; exact at_lt _ _ _ (by omega)
    rw [e]; exact this
  have rB : RQ 0 126 i Bo (fun k => ca (nmI A2 B2 k) (upto (nmI A3 B3) ns k)) := fun k hk => by
    have v1 := nm_VQ c1_is (by decide) A2 B2 k
    have v2 := zF_VQ ns k (nm_VQ c1_is (by decide) A3 B3 k)
    have e : aF Bo k = boF (nmF A2 B2 c1) (zF (nmF A3 B3 c1) ns) k := by rw [← hB]; exact at_lt _ _ _ hk
    rw [e]; exact ⟨(cadd_q v1.1 v2.1 v1.2 v2.2 (by decide) (by decide)).2, ca_bd v1.2 v2.2⟩
  have rT : RQ 0 63 i Tu (fun k => tI q (nmI A2 B2 k)) := fun k hk => by
    have v1 := nm_VQ c1_is (by decide) A2 B2 k
    have e : aF Tu k = tuF q (nmF A2 B2 c1) k := by rw [← hT]; exact at_lt _ _ _ hk
    rw [e]; exact ⟨VQ_trn v1.1 q, tI_bd v1.2 q⟩
  clear hU hW hR hS hB hT
  have F1 := Filter_f U R nu (nu + yu.length) i (i + yr.length) i 0 (by omega) (by omega) (by omega) (by omega) (by omega) (by omega) (.inl ⟨by omega, by omega, by omega, rfl, rfl⟩)
  have F2 := Filter_f U S nu (nu + yu.length) i (K + ys.length) i 0 (by omega) (by omega) (by omega) (by omega) (by omega) (by omega) (.inl ⟨by omega, by omega, by omega, rfl, rfl⟩)
  have F3 := Filter_f U Bo nu (nu + yu.length) i (i + t1.length) i 0 (by omega) (by omega) (by omega) (by omega) (by omega) (by omega) (.inl ⟨by omega, by omega, by omega, rfl, rfl⟩)
  have F4 := Filter_f U Tu nu (nu + yu.length) i (i + t2.length) i 0 (by omega) (by omega) (by omega) (by omega) (by omega) (by omega) (.inl ⟨by omega, by omega, by omega, rfl, rfl⟩)
  have F6 := Filter_f W R nw (nw + yw.length) i (i + yr.length) i 0 (by omega) (by omega) (by omega) (by omega) (by omega) (by omega) (.inl ⟨by omega, by omega, by omega, rfl, rfl⟩)
  unfold flOut cxS at F1 F2 F3 F4 F6
  conv => whnf
  repeat (first
    | (refine And.intro ?_ ?_; (focus (first | omega | decide | exact EqOk.mk (by kernel_rfl) (by kernel_rfl) (by kernel_rfl) | exact Int.natCast_nonneg _ | ((repeat' refine And.intro ?_ ?_) <;> first | omega | exact Int.natCast_nonneg _ | (simp only [i64max, u8max, u16max, u32max, u64max]; omega) | (simp only [mulSz_eq, Cont.len, colsLen, Col.len, List.length_cons, List.length_nil, List.length_replicate, List.length_append]; first | done | omega) | (simp [mulSz, Cont.len, bne]; first | done | omega)))); conv => whnf)
    | (refine tst_in ?_ ?_; (focus (intro h_; exfalso; first | omega | ((try simp only [decide_eq_true_eq, decide_eq_false_iff_not] at h_); omega) | (simp [mulSz, Cont.len, bne] at h_; first | done | omega))); intro _; conv => whnf)
    | (refine tst_in ?_ ?_; rotate_left; (focus (intro h_; exfalso; first | omega | ((try simp only [decide_eq_true_eq, decide_eq_false_iff_not] at h_); omega) | (simp [mulSz, Cont.len, bne] at h_; first | done | omega))); intro _; conv => whnf)
    | (refine ⟨0, (show _ = _ by omega), ?_⟩; conv => whnf))
  refine ⟨_, [4, 6], F1, ?_⟩
  conv => whnf
  iterate 2
   refine And.intro ?_ ?_
   focus
    conv => whnf
    repeat' (first | exact True.intro | rfl | refine And.intro ?_ ?_ | omega)
    all_goals (conv => whnf)
    all_goals (try (first | rfl | omega | (simp; done)))
  conv => whnf
  refine ⟨?_, True.intro⟩
  intro (Oa : YT) _
  conv => whnf
  rename_i ha
  conv => whnf
  repeat (first
    | (refine And.intro ?_ ?_; (focus (first | omega | decide | exact EqOk.mk (by kernel_rfl) (by kernel_rfl) (by kernel_rfl) | exact Int.natCast_nonneg _ | ((repeat' refine And.intro ?_ ?_) <;> first | omega | exact Int.natCast_nonneg _ | (simp only [i64max, u8max, u16max, u32max, u64max]; omega) | (simp only [mulSz_eq, Cont.len, colsLen, Col.len, List.length_cons, List.length_nil, List.length_replicate, List.length_append]; first | done | omega) | (simp [mulSz, Cont.len, bne]; first | done | omega)))); conv => whnf)
    | (refine tst_in ?_ ?_; (focus (intro h_; exfalso; first | omega | ((try simp only [decide_eq_true_eq, decide_eq_false_iff_not] at h_); omega) | (simp [mulSz, Cont.len, bne] at h_; first | done | omega))); intro _; conv => whnf)
    | (refine tst_in ?_ ?_; rotate_left; (focus (intro h_; exfalso; first | omega | ((try simp only [decide_eq_true_eq, decide_eq_false_iff_not] at h_); omega) | (simp [mulSz, Cont.len, bne] at h_; first | done | omega))); intro _; conv => whnf)
    | (refine ⟨0, (show _ = _ by omega), ?_⟩; conv => whnf))
  refine ⟨_, [4, 7], F2, ?_⟩
  conv => whnf
  iterate 2
   refine And.intro ?_ ?_
   focus
    conv => whnf
    repeat' (first | exact True.intro | rfl | refine And.intro ?_ ?_ | omega)
    all_goals (conv => whnf)
    all_goals (try (first | rfl | omega | (simp; done)))
  conv => whnf
  refine ⟨?_, True.intro⟩
  intro (Ob : YT) _
  conv => whnf
  rename_i hb
  conv => whnf
  repeat (first
    | (refine And.intro ?_ ?_; (focus (first | omega | decide | exact EqOk.mk (by kernel_rfl) (by kernel_rfl) (by kernel_rfl) | exact Int.natCast_nonneg _ | ((repeat' refine And.intro ?_ ?_) <;> first | omega | exact Int.natCast_nonneg _ | (simp only [i64max, u8max, u16max, u32max, u64max]; omega) | (simp only [mulSz_eq, Cont.len, colsLen, Col.len, List.length_cons, List.length_nil, List.length_replicate, List.length_append]; first | done | omega) | (simp [mulSz, Cont.len, bne]; first | done | omega)))); conv => whnf)
    | (refine tst_in ?_ ?_; (focus (intro h_; exfalso; first | omega | ((try simp only [decide_eq_true_eq, decide_eq_false_iff_not] at h_); omega) | (simp [mulSz, Cont.len, bne] at h_; first | done | omega))); intro _; conv => whnf)
    | (refine tst_in ?_ ?_; rotate_left; (focus (intro h_; exfalso; first | omega | ((try simp only [decide_eq_true_eq, decide_eq_false_iff_not] at h_); omega) | (simp [mulSz, Cont.len, bne] at h_; first | done | omega))); intro _; conv => whnf)
    | (refine ⟨0, (show _ = _ by omega), ?_⟩; conv => whnf))
  refine ⟨_, [4, 8], F3, ?_⟩
  conv => whnf
  iterate 2
   refine And.intro ?_ ?_
   focus
    conv => whnf
    repeat' (first | exact True.intro | rfl | refine And.intro ?_ ?_ | omega)
    all_goals (conv => whnf)
    all_goals (try (first | rfl | omega | (simp; done)))
  conv => whnf
  refine ⟨?_, True.intro⟩
  intro (Oc : YT) _
  conv => whnf
  rename_i hc
  conv => whnf
  repeat (first
    | (refine And.intro ?_ ?_; (focus (first | omega | decide | exact EqOk.mk (by kernel_rfl) (by kernel_rfl) (by kernel_rfl) | exact Int.natCast_nonneg _ | ((repeat' refine And.intro ?_ ?_) <;> first | omega | exact Int.natCast_nonneg _ | (simp only [i64max, u8max, u16max, u32max, u64max]; omega) | (simp only [mulSz_eq, Cont.len, colsLen, Col.len, List.length_cons, List.length_nil, List.length_replicate, List.length_append]; first | done | omega) | (simp [mulSz, Cont.len, bne]; first | done | omega)))); conv => whnf)
    | (refine tst_in ?_ ?_; (focus (intro h_; exfalso; first | omega | ((try simp only [decide_eq_true_eq, decide_eq_false_iff_not] at h_); omega) | (simp [mulSz, Cont.len, bne] at h_; first | done | omega))); intro _; conv => whnf)
    | (refine tst_in ?_ ?_; rotate_left; (focus (intro h_; exfalso; first | omega | ((try simp only [decide_eq_true_eq, decide_eq_false_iff_not] at h_); omega) | (simp [mulSz, Cont.len, bne] at h_; first | done | omega))); intro _; conv => whnf)
    | (refine ⟨0, (show _ = _ by omega), ?_⟩; conv => whnf))
  refine ⟨_, [4, 9], F4, ?_⟩
  conv => whnf
  iterate 2
   refine And.intro ?_ ?_
   focus
    conv => whnf
    repeat' (first | exact True.intro | rfl | refine And.intro ?_ ?_ | omega)
    all_goals (conv => whnf)
    all_goals (try (first | rfl | omega | (simp; done)))
  conv => whnf
  refine ⟨?_, True.intro⟩
  intro (Od : YT) _
  conv => whnf
  rename_i hd
  conv => whnf
  repeat (first
    | (refine And.intro ?_ ?_; (focus (first | omega | decide | exact EqOk.mk (by kernel_rfl) (by kernel_rfl) (by kernel_rfl) | exact Int.natCast_nonneg _ | ((repeat' refine And.intro ?_ ?_) <;> first | omega | exact Int.natCast_nonneg _ | (simp only [i64max, u8max, u16max, u32max, u64max]; omega) | (simp only [mulSz_eq, Cont.len, colsLen, Col.len, List.length_cons, List.length_nil, List.length_replicate, List.length_append]; first | done | omega) | (simp [mulSz, Cont.len, bne]; first | done | omega)))); conv => whnf)
    | (refine tst_in ?_ ?_; (focus (intro h_; exfalso; first | omega | ((try simp only [decide_eq_true_eq, decide_eq_false_iff_not] at h_); omega) | (simp [mulSz, Cont.len, bne] at h_; first | done | omega))); intro _; conv => whnf)
    | (refine tst_in ?_ ?_; rotate_left; (focus (intro h_; exfalso; first | omega | ((try simp only [decide_eq_true_eq, decide_eq_false_iff_not] at h_); omega) | (simp [mulSz, Cont.len, bne] at h_; first | done | omega))); intro _; conv => whnf)
    | (refine ⟨0, (show _ = _ by omega), ?_⟩; conv => whnf))
  obtain ⟨la, fa⟩ := ha
  obtain ⟨lb, fb⟩ := hb
  obtain ⟨lc, fc⟩ := hc
  obtain ⟨ld, fd⟩ := hd
  have la : Oa.length = i := la
  have lb : Ob.length = i := lb
  have lc : Oc.length = i := lc
  have ld : Od.length = i := ld
  have qa := FlA_V (N := 8) fa (by decide) mnu rU rR (by decide)
  have qb := FlA_V (N := 8) fb (by decide) mnu rU rS (by decide)
  have qc := FlA_V (N := 8) fc (by decide) mnu rU rB (by decide)
  have qd := FlA_V (N := 8) fd (by decide) mnu rU rT (by decide)
  have F5 := Filter_f W Oa nw (nw + yw.length) i i i 0 (by omega) (by omega) (by omega) (by omega) (by omega) (by omega) (.inl ⟨by omega, by omega, by omega, rfl, rfl⟩)
  unfold flOut cxS at F5
  refine ⟨_, [5, 10], F5, ?_⟩
  conv => whnf
  iterate 2
   refine And.intro ?_ ?_
   focus
    conv => whnf
    repeat' (first | exact True.intro | rfl | refine And.intro ?_ ?_ | omega)
    all_goals (conv => whnf)
    all_goals (try (first | rfl | omega | (simp; done)))
  conv => whnf
  refine ⟨?_, True.intro⟩
  intro (Oe : YT) _
  conv => whnf
  rename_i he
  conv => whnf
  repeat (first
    | (refine And.intro ?_ ?_; (focus (first | omega | decide | exact EqOk.mk (by kernel_rfl) (by kernel_rfl) (by kernel_rfl) | exact Int.natCast_nonneg _ | ((repeat' refine And.intro ?_ ?_) <;> first | omega | exact Int.natCast_nonneg _ | (simp only [i64max, u8max, u16max, u32max, u64max]; omega) | (simp only [mulSz_eq, Cont.len, colsLen, Col.len, List.length_cons, List.length_nil, List.length_replicate, List.length_append]; first | done | omega) | (simp [mulSz, Cont.len, bne]; first | done | omega)))); conv => whnf)
    | (refine tst_in ?_ ?_; (focus (intro h_; exfalso; first | omega | ((try simp only [decide_eq_true_eq, decide_eq_false_iff_not] at h_); omega) | (simp [mulSz, Cont.len, bne] at h_; first | done | omega))); intro _; conv => whnf)
    | (refine tst_in ?_ ?_; rotate_left; (focus (intro h_; exfalso; first | omega | ((try simp only [decide_eq_true_eq, decide_eq_false_iff_not] at h_); omega) | (simp [mulSz, Cont.len, bne] at h_; first | done | omega))); intro _; conv => whnf)
    | (refine ⟨0, (show _ = _ by omega), ?_⟩; conv => whnf))
  refine ⟨_, [5, 6], F6, ?_⟩
  conv => whnf
  iterate 2
   refine And.intro ?_ ?_
   focus
    conv => whnf
    repeat' (first | exact True.intro | rfl | refine And.intro ?_ ?_ | omega)
    all_goals (conv => whnf)
    all_goals (try (first | rfl | omega | (simp; done)))
  conv => whnf
  refine ⟨?_, True.intro⟩
  intro (Oy : YT) _
  conv => whnf
  rename_i hy
  obtain ⟨le, fe⟩ := he
  obtain ⟨ly, fy⟩ := hy
  have le : Oe.length = i := le
  have ly : Oy.length = i := ly
  have qe := FlA_V (N := 8) fe (by decide) mnw rW qa (by decide)
  have qy := FlA_V (N := 8) fy (by decide) mnw rW rR (by decide)
  have F7 := Filter_f U Oy nu (nu + yu.length) i i i 0 (by omega) (by omega) (by omega) (by omega) (by omega) (by omega) (.inl ⟨by omega, by omega, by omega, rfl, rfl⟩)
  unfold flOut cxS at F7
  conv => whnf
  repeat (first
    | (refine And.intro ?_ ?_; (focus (first | omega | decide | exact EqOk.mk (by kernel_rfl) (by kernel_rfl) (by kernel_rfl) | exact Int.natCast_nonneg _ | ((repeat' refine And.intro ?_ ?_) <;> first | omega | exact Int.natCast_nonneg _ | (simp only [i64max, u8max, u16max, u32max, u64max]; omega) | (simp only [mulSz_eq, Cont.len, colsLen, Col.len, List.length_cons, List.length_nil, List.length_replicate, List.length_append]; first | done | omega) | (simp [mulSz, Cont.len, bne]; first | done | omega)))); conv => whnf)
    | (refine tst_in ?_ ?_; (focus (intro h_; exfalso; first | omega | ((try simp only [decide_eq_true_eq, decide_eq_false_iff_not] at h_); omega) | (simp [mulSz, Cont.len, bne] at h_; first | done | omega))); intro _; conv => whnf)
    | (refine tst_in ?_ ?_; rotate_left; (focus (intro h_; exfalso; first | omega | ((try simp only [decide_eq_true_eq, decide_eq_false_iff_not] at h_); omega) | (simp [mulSz, Cont.len, bne] at h_; first | done | omega))); intro _; conv => whnf)
    | (refine ⟨0, (show _ = _ by omega), ?_⟩; conv => whnf))
  refine ⟨_, [4, 15], F7, ?_⟩
  conv => whnf
  iterate 2
   refine And.intro ?_ ?_
   focus
    conv => whnf
    repeat' (first | exact True.intro | rfl | refine And.intro ?_ ?_ | omega)
    all_goals (conv => whnf)
    all_goals (try (first | rfl | omega | (simp; done)))
  conv => whnf
  refine ⟨?_, True.intro⟩
  intro (Oz : YT) _
  conv => whnf
  rename_i hz
  obtain ⟨lz, fz⟩ := hz
  have lz : Oz.length = i := lz
  have qz := FlA_V (N := 8) fz (by decide) mnu rU qy (by decide)
  have PP : P29 q i Oa Ob Oc Od Oe Oz := by
    refine ⟨la, lb, lc, ld, le, lz, fun p hp => ?_, fun p hp => ?_, fun p hp => ?_, fun p hp => ?_⟩
    · exact (cadd_q (qa p hp).1 (qb p hp).1 (qa p hp).2 (qb p hp).2 (by decide) (by decide)).1
    · have v := (cadd_q (qa p hp).1 (qb p hp).1 (qa p hp).2 (qb p hp).2 (by decide) (by decide)).2
      rw [← fl_sum] at v
      exact VQ_eq (qc p hp).1 v
    · have v := VQ_trn (qa p hp).1 q
      rw [← fl_turn] at v
      exact VQ_eq (qd p hp).1 v
    · have v := (qz p hp).1
      rw [fl_fl] at v
      exact VQ_eq (qe p hp).1 v
  clear qa qb qc qd qe qy qz fa fb fc fd fe fy fz F1 F2 F3 F4 F5 F6 F7 rU rW rR rS rB rT
  refine ⟨?_, fun t ht => tail28 mnr hq AW t ht⟩
  conv => whnf
  repeat (first
    | (refine And.intro ?_ ?_; (focus (first | omega | decide | exact EqOk.mk (by kernel_rfl) (by kernel_rfl) (by kernel_rfl) | exact Int.natCast_nonneg _ | ((repeat' refine And.intro ?_ ?_) <;> first | omega | exact Int.natCast_nonneg _ | (simp only [i64max, u8max, u16max, u32max, u64max]; omega) | (simp only [mulSz_eq, Cont.len, colsLen, Col.len, List.length_cons, List.length_nil, List.length_replicate, List.length_append]; first | done | omega) | (simp [mulSz, Cont.len, bne]; first | done | omega)))); conv => whnf)
    | (refine tst_in ?_ ?_; (focus (intro h_; exfalso; first | omega | ((try simp only [decide_eq_true_eq, decide_eq_false_iff_not] at h_); omega) | (simp [mulSz, Cont.len, bne] at h_; first | done | omega))); intro _; conv => whnf)
    | (refine tst_in ?_ ?_; rotate_left; (focus (intro h_; exfalso; first | omega | ((try simp only [decide_eq_true_eq, decide_eq_false_iff_not] at h_); omega) | (simp [mulSz, Cont.len, bne] at h_; first | done | omega))); intro _; conv => whnf)
    | (refine ⟨0, (show _ = _ by omega), ?_⟩; conv => whnf))
  refine ⟨[0, 1, 2, 3, 6, 10, 11, 12, 13, 14, 16], (⟨R, i + yr.length, Oa, Ob, Oc, Od, Oe, Oz⟩ : L28), ?_, PP⟩
  conv => whnf
  repeat' (first | exact True.intro | rfl | refine And.intro ?_ ?_)
  all_goals (conv => whnf)
  repeat' (first | exact True.intro | rfl | refine And.intro ?_ ?_)
  all_goals (try omega)
end Go.Proofs.Ytmchfbjbcioccaa

set_option linter.unusedVariables false
set_option linter.unusedSimpArgs false
namespace Go.Proofs.Ytmchfbjbcioccaa
open Go Go.Fw
set_option maxHeartbeats 0 in
set_option maxRecDepth 100000 in
theorem law_f (h : HP) (n0 c0 n1 c1' n2 c2 n3 c3 : Nat) (N : Int) (a0 : n0 ≤ h.A0.length) (b0 : n0 ≤ h.B0.length) (d0 : n0 ≤ c0) (e0 : n0 ≤ 70368744177664)
    (a1 : n1 ≤ h.A1.length) (b1 : n1 ≤ h.B1.length) (d1 : n1 ≤ c1') (e1 : n1 ≤ 70368744177664)
    (a2 : n2 ≤ h.A2.length) (b2 : n2 ≤ h.B2.length) (d2 : n2 ≤ c2) (e2 : n2 ≤ 70368744177664)
    (a3 : n3 ≤ h.A3.length) (b3 : n3 ≤ h.B3.length) (d3 : n3 ≤ c3) (e3 : n3 ≤ 70368744177664) (AW : Fits Try.prog 5 ⟨[], [], [numOut [] (.bool true)]⟩) :
    Fits Try.prog 3 ⟨[.agg [.slice 0 0 n0 c0, .slice 1 0 n1 c1', .slice 2 0 n2 c2, .slice 3 0 n3 c3, .int .i64 N]], hpS h, [numOut [.dead, .dead, .dead, .dead] (.bool true)]⟩ := by
  obtain ⟨A0, B0, A1, B1, A2, B2, A3, B3⟩ := h
  have N0 := numbers_f c64_is (by decide) A0 B0 n0 c0 8 a0 b0 d0 e0 (by decide)
  have N1 := numbers_f c64_is (by decide) A1 B1 n1 c1' 8 a1 b1 d1 e1 (by decide)
  have N2 := numbers_f c1_is (by decide) A2 B2 n2 c2 40 a2 b2 d2 e2 (by decide)
  have N3 := numbers_f c1_is (by decide) A3 B3 n3 c3 40 a3 b3 d3 e3 (by decide)
  unfold hpS i8S nmOut at *
  obtain ⟨q, hq⟩ : ∃ q : Nat, N % 4 = (q : Int) := ⟨(N % 4).toNat, by omega⟩
  generalize hnu : min n0 8 = nu at *
  generalize hnw : min n1 8 = nw at *
  generalize hnr : min n2 40 = nr at *
  generalize hns : min n3 40 = ns at *
  have mnu : nu ≤ 8 := by omega
  clear hnu
  have mnw : nw ≤ 8 := by omega
  clear hnw
  have mnr : nr ≤ 40 := by omega
  clear hnr
  have mns : ns ≤ 40 := by omega
  clear hns
  refine fits_of_body (C := cfl) (c := (Try.f3.body).getD .skip) (ts := [2]) tokL mixedL (Jf ⟨A0, B0, A1, B1, A2, B2, A3, B3⟩ N q nu nw nr ns) (Jcf ⟨A0, B0, A1, B1, A2, B2, A3, B3⟩ N q nu nw nr ns)
    Try.func3 (by kernel_rfl) (by kernel_rfl) (by kernel_rfl) cB3 rfl ?_
  conv => whnf
  repeat (first
    | (refine And.intro ?_ ?_; (focus (first | omega | decide | exact EqOk.mk (by kernel_rfl) (by kernel_rfl) (by kernel_rfl) | exact Int.natCast_nonneg _ | ((repeat' refine And.intro ?_ ?_) <;> first | omega | exact Int.natCast_nonneg _ | (simp only [i64max, u8max, u16max, u32max, u64max]; omega) | (simp only [mulSz_eq, Cont.len, colsLen, Col.len, List.length_cons, List.length_nil, List.length_replicate, List.length_append]; first | done | omega) | (simp [mulSz, Cont.len, bne]; first | done | omega)))); conv => whnf)
    | (refine tst_in ?_ ?_; (focus (intro h_; exfalso; first | omega | ((try simp only [decide_eq_true_eq, decide_eq_false_iff_not] at h_); omega) | (simp [mulSz, Cont.len, bne] at h_; first | done | omega))); intro _; conv => whnf)
    | (refine tst_in ?_ ?_; rotate_left; (focus (intro h_; exfalso; first | omega | ((try simp only [decide_eq_true_eq, decide_eq_false_iff_not] at h_); omega) | (simp [mulSz, Cont.len, bne] at h_; first | done | omega))); intro _; conv => whnf)
    | (refine ⟨0, (show _ = _ by omega), ?_⟩; conv => whnf))
  refine ⟨_, [0], N0, ?_⟩
  conv => whnf
  iterate 2
   refine And.intro ?_ ?_
   focus
    conv => whnf
    repeat' (first | exact True.intro | rfl | refine And.intro ?_ ?_ | omega)
    all_goals (conv => whnf)
    all_goals (try (first | rfl | omega | (simp; done)))
  conv => whnf
  refine ⟨?_, True.intro⟩
  intro (yu : YT) _
  conv => whnf
  conv => whnf
  repeat (first
    | (refine And.intro ?_ ?_; (focus (first | omega | decide | exact EqOk.mk (by kernel_rfl) (by kernel_rfl) (by kernel_rfl) | exact Int.natCast_nonneg _ | ((repeat' refine And.intro ?_ ?_) <;> first | omega | exact Int.natCast_nonneg _ | (simp only [i64max, u8max, u16max, u32max, u64max]; omega) | (simp only [mulSz_eq, Cont.len, colsLen, Col.len, List.length_cons, List.length_nil, List.length_replicate, List.length_append]; first | done | omega) | (simp [mulSz, Cont.len, bne]; first | done | omega)))); conv => whnf)
    | (refine tst_in ?_ ?_; (focus (intro h_; exfalso; first | omega | ((try simp only [decide_eq_true_eq, decide_eq_false_iff_not] at h_); omega) | (simp [mulSz, Cont.len, bne] at h_; first | done | omega))); intro _; conv => whnf)
    | (refine tst_in ?_ ?_; rotate_left; (focus (intro h_; exfalso; first | omega | ((try simp only [decide_eq_true_eq, decide_eq_false_iff_not] at h_); omega) | (simp [mulSz, Cont.len, bne] at h_; first | done | omega))); intro _; conv => whnf)
    | (refine ⟨0, (show _ = _ by omega), ?_⟩; conv => whnf))
  refine ⟨_, [1], N1, ?_⟩
  conv => whnf
  iterate 2
   refine And.intro ?_ ?_
   focus
    conv => whnf
    repeat' (first | exact True.intro | rfl | refine And.intro ?_ ?_ | omega)
    all_goals (conv => whnf)
    all_goals (try (first | rfl | omega | (simp; done)))
  conv => whnf
  refine ⟨?_, True.intro⟩
  intro (yw : YT) _
  conv => whnf
  conv => whnf
  repeat (first
    | (refine And.intro ?_ ?_; (focus (first | omega | decide | exact EqOk.mk (by kernel_rfl) (by kernel_rfl) (by kernel_rfl) | exact Int.natCast_nonneg _ | ((repeat' refine And.intro ?_ ?_) <;> first | omega | exact Int.natCast_nonneg _ | (simp only [i64max, u8max, u16max, u32max, u64max]; omega) | (simp only [mulSz_eq, Cont.len, colsLen, Col.len, List.length_cons, List.length_nil, List.length_replicate, List.length_append]; first | done | omega) | (simp [mulSz, Cont.len, bne]; first | done | omega)))); conv => whnf)
    | (refine tst_in ?_ ?_; (focus (intro h_; exfalso; first | omega | ((try simp only [decide_eq_true_eq, decide_eq_false_iff_not] at h_); omega) | (simp [mulSz, Cont.len, bne] at h_; first | done | omega))); intro _; conv => whnf)
    | (refine tst_in ?_ ?_; rotate_left; (focus (intro h_; exfalso; first | omega | ((try simp only [decide_eq_true_eq, decide_eq_false_iff_not] at h_); omega) | (simp [mulSz, Cont.len, bne] at h_; first | done | omega))); intro _; conv => whnf)
    | (refine ⟨0, (show _ = _ by omega), ?_⟩; conv => whnf))
  refine ⟨_, [2], N2, ?_⟩
  conv => whnf
  iterate 2
   refine And.intro ?_ ?_
   focus
    conv => whnf
    repeat' (first | exact True.intro | rfl | refine And.intro ?_ ?_ | omega)
    all_goals (conv => whnf)
    all_goals (try (first | rfl | omega | (simp; done)))
  conv => whnf
  refine ⟨?_, True.intro⟩
  intro (yr : YT) _
  conv => whnf
  conv => whnf
  repeat (first
    | (refine And.intro ?_ ?_; (focus (first | omega | decide | exact EqOk.mk (by kernel_rfl) (by kernel_rfl) (by kernel_rfl) | exact Int.natCast_nonneg _ | ((repeat' refine And.intro ?_ ?_) <;> first | omega | exact Int.natCast_nonneg _ | (simp only [i64max, u8max, u16max, u32max, u64max]; omega) | (simp only [mulSz_eq, Cont.len, colsLen, Col.len, List.length_cons, List.length_nil, List.length_replicate, List.length_append]; first | done | omega) | (simp [mulSz, Cont.len, bne]; first | done | omega)))); conv => whnf)
    | (refine tst_in ?_ ?_; (focus (intro h_; exfalso; first | omega | ((try simp only [decide_eq_true_eq, decide_eq_false_iff_not] at h_); omega) | (simp [mulSz, Cont.len, bne] at h_; first | done | omega))); intro _; conv => whnf)
    | (refine tst_in ?_ ?_; rotate_left; (focus (intro h_; exfalso; first | omega | ((try simp only [decide_eq_true_eq, decide_eq_false_iff_not] at h_); omega) | (simp [mulSz, Cont.len, bne] at h_; first | done | omega))); intro _; conv => whnf)
    | (refine ⟨0, (show _ = _ by omega), ?_⟩; conv => whnf))
  refine ⟨_, [3], N3, ?_⟩
  conv => whnf
  iterate 2
   refine And.intro ?_ ?_
   focus
    conv => whnf
    repeat' (first | exact True.intro | rfl | refine And.intro ?_ ?_ | omega)
    all_goals (conv => whnf)
    all_goals (try (first | rfl | omega | (simp; done)))
  conv => whnf
  refine ⟨?_, True.intro⟩
  intro (ys : YT) _
  conv => whnf
  conv => whnf
  repeat (first
    | (refine And.intro ?_ ?_; (focus (first | omega | decide | exact EqOk.mk (by kernel_rfl) (by kernel_rfl) (by kernel_rfl) | exact Int.natCast_nonneg _ | ((repeat' refine And.intro ?_ ?_) <;> first | omega | exact Int.natCast_nonneg _ | (simp only [i64max, u8max, u16max, u32max, u64max]; omega) | (simp only [mulSz_eq, Cont.len, colsLen, Col.len, List.length_cons, List.length_nil, List.length_replicate, List.length_append]; first | done | omega) | (simp [mulSz, Cont.len, bne]; first | done | omega)))); conv => whnf)
    | (refine tst_in ?_ ?_; (focus (intro h_; exfalso; first | omega | ((try simp only [decide_eq_true_eq, decide_eq_false_iff_not] at h_); omega) | (simp [mulSz, Cont.len, bne] at h_; first | done | omega))); intro _; conv => whnf)
    | (refine tst_in ?_ ?_; rotate_left; (focus (intro h_; exfalso; first | omega | ((try simp only [decide_eq_true_eq, decide_eq_false_iff_not] at h_); omega) | (simp [mulSz, Cont.len, bne] at h_; first | done | omega))); intro _; conv => whnf)
    | (refine ⟨0, (show _ = _ by omega), ?_⟩; conv => whnf))
  refine ⟨?_, ?_⟩
  · skip
    rcases (show nu = 0 ∨ (¬ nu = 0 ∧ nw = 0) ∨ (¬ nu = 0 ∧ ¬ nw = 0) by omega) with w | ⟨w, w2⟩ | ⟨w, w2⟩
    · conv => whnf
      repeat (first
        | (refine And.intro ?_ ?_; (focus (first | omega | decide | exact EqOk.mk (by kernel_rfl) (by kernel_rfl) (by kernel_rfl) | exact Int.natCast_nonneg _ | ((repeat' refine And.intro ?_ ?_) <;> first | omega | exact Int.natCast_nonneg _ | (simp only [i64max, u8max, u16max, u32max, u64max]; omega) | (simp only [mulSz_eq, Cont.len, colsLen, Col.len, List.length_cons, List.length_nil, List.length_replicate, List.length_append]; first | done | omega) | (simp [mulSz, Cont.len, bne]; first | done | omega)))); conv => whnf)
        | (refine tst_in ?_ ?_; (focus (intro h_; exfalso; first | omega | ((try simp only [decide_eq_true_eq, decide_eq_false_iff_not] at h_); omega) | (simp [mulSz, Cont.len, bne] at h_; first | done | omega))); intro _; conv => whnf)
        | (refine tst_in ?_ ?_; rotate_left; (focus (intro h_; exfalso; first | omega | ((try simp only [decide_eq_true_eq, decide_eq_false_iff_not] at h_); omega) | (simp [mulSz, Cont.len, bne] at h_; first | done | omega))); intro _; conv => whnf)
        | (refine ⟨0, (show _ = _ by omega), ?_⟩; conv => whnf))
      refine ⟨_, [], AW, ?_⟩
      conv => whnf
      iterate 2
       refine And.intro ?_ ?_
       focus
        conv => whnf
        repeat' (first | exact True.intro | rfl | refine And.intro ?_ ?_ | omega)
        all_goals (conv => whnf)
        all_goals (try (first | rfl | omega | (simp; done)))
      conv => whnf
      refine ⟨?_, True.intro⟩
      intro _ _
      conv => whnf
      conv => whnf
      repeat (first
        | (refine And.intro ?_ ?_; (focus (first | omega | decide | exact EqOk.mk (by kernel_rfl) (by kernel_rfl) (by kernel_rfl) | exact Int.natCast_nonneg _ | ((repeat' refine And.intro ?_ ?_) <;> first | omega | exact Int.natCast_nonneg _ | (simp only [i64max, u8max, u16max, u32max, u64max]; omega) | (simp only [mulSz_eq, Cont.len, colsLen, Col.len, List.length_cons, List.length_nil, List.length_replicate, List.length_append]; first | done | omega) | (simp [mulSz, Cont.len, bne]; first | done | omega)))); conv => whnf)
        | (refine tst_in ?_ ?_; (focus (intro h_; exfalso; first | omega | ((try simp only [decide_eq_true_eq, decide_eq_false_iff_not] at h_); omega) | (simp [mulSz, Cont.len, bne] at h_; first | done | omega))); intro _; conv => whnf)
        | (refine tst_in ?_ ?_; rotate_left; (focus (intro h_; exfalso; first | omega | ((try simp only [decide_eq_true_eq, decide_eq_false_iff_not] at h_); omega) | (simp [mulSz, Cont.len, bne] at h_; first | done | omega))); intro _; conv => whnf)
        | (refine ⟨0, (show _ = _ by omega), ?_⟩; conv => whnf))
      refine .inl ⟨(), [0, 1, 2, 3], ?_⟩
      conv => whnf
      repeat' (first | exact True.intro | rfl | refine And.intro ?_ ?_)
      all_goals (conv => whnf)
      repeat' (first | exact True.intro | rfl | refine And.intro ?_ ?_)
      all_goals (try omega)
    · conv => whnf
      repeat (first
        | (refine And.intro ?_ ?_; (focus (first | omega | decide | exact EqOk.mk (by kernel_rfl) (by kernel_rfl) (by kernel_rfl) | exact Int.natCast_nonneg _ | ((repeat' refine And.intro ?_ ?_) <;> first | omega | exact Int.natCast_nonneg _ | (simp only [i64max, u8max, u16max, u32max, u64max]; omega) | (simp only [mulSz_eq, Cont.len, colsLen, Col.len, List.length_cons, List.length_nil, List.length_replicate, List.length_append]; first | done | omega) | (simp [mulSz, Cont.len, bne]; first | done | omega)))); conv => whnf)
        | (refine tst_in ?_ ?_; (focus (intro h_; exfalso; first | omega | ((try simp only [decide_eq_true_eq, decide_eq_false_iff_not] at h_); omega) | (simp [mulSz, Cont.len, bne] at h_; first | done | omega))); intro _; conv => whnf)
        | (refine tst_in ?_ ?_; rotate_left; (focus (intro h_; exfalso; first | omega | ((try simp only [decide_eq_true_eq, decide_eq_false_iff_not] at h_); omega) | (simp [mulSz, Cont.len, bne] at h_; first | done | omega))); intro _; conv => whnf)
        | (refine ⟨0, (show _ = _ by omega), ?_⟩; conv => whnf))
      refine ⟨_, [], AW, ?_⟩
      conv => whnf
      iterate 2
       refine And.intro ?_ ?_
       focus
        conv => whnf
        repeat' (first | exact True.intro | rfl | refine And.intro ?_ ?_ | omega)
        all_goals (conv => whnf)
        all_goals (try (first | rfl | omega | (simp; done)))
      conv => whnf
      refine ⟨?_, True.intro⟩
      intro _ _
      conv => whnf
      conv => whnf
      repeat (first
        | (refine And.intro ?_ ?_; (focus (first | omega | decide | exact EqOk.mk (by kernel_rfl) (by kernel_rfl) (by kernel_rfl) | exact Int.natCast_nonneg _ | ((repeat' refine And.intro ?_ ?_) <;> first | omega | exact Int.natCast_nonneg _ | (simp only [i64max, u8max, u16max, u32max, u64max]; omega) | (simp only [mulSz_eq, Cont.len, colsLen, Col.len, List.length_cons, List.length_nil, List.length_replicate, List.length_append]; first | done | omega) | (simp [mulSz, Cont.len, bne]; first | done | omega)))); conv => whnf)
        | (refine tst_in ?_ ?_; (focus (intro h_; exfalso; first | omega | ((try simp only [decide_eq_true_eq, decide_eq_false_iff_not] at h_); omega) | (simp [mulSz, Cont.len, bne] at h_; first | done | omega))); intro _; conv => whnf)
        | (refine tst_in ?_ ?_; rotate_left; (focus (intro h_; exfalso; first | omega | ((try simp only [decide_eq_true_eq, decide_eq_false_iff_not] at h_); omega) | (simp [mulSz, Cont.len, bne] at h_; first | done | omega))); intro _; conv => whnf)
        | (refine ⟨0, (show _ = _ by omega), ?_⟩; conv => whnf))
      refine .inl ⟨(), [0, 1, 2, 3], ?_⟩
      conv => whnf
      repeat' (first | exact True.intro | rfl | refine And.intro ?_ ?_)
      all_goals (conv => whnf)
      repeat' (first | exact True.intro | rfl | refine And.intro ?_ ?_)
      all_goals (try omega)
    · conv => whnf
      repeat (first
        | (refine And.intro ?_ ?_; (focus (first | omega | decide | exact EqOk.mk (by kernel_rfl) (by kernel_rfl) (by kernel_rfl) | exact Int.natCast_nonneg _ | ((repeat' refine And.intro ?_ ?_) <;> first | omega | exact Int.natCast_nonneg _ | (simp only [i64max, u8max, u16max, u32max, u64max]; omega) | (simp only [mulSz_eq, Cont.len, colsLen, Col.len, List.length_cons, List.length_nil, List.length_replicate, List.length_append]; first | done | omega) | (simp [mulSz, Cont.len, bne]; first | done | omega)))); conv => whnf)
        | (refine tst_in ?_ ?_; (focus (intro h_; exfalso; first | omega | ((try simp only [decide_eq_true_eq, decide_eq_false_iff_not] at h_); omega) | (simp [mulSz, Cont.len, bne] at h_; first | done | omega))); intro _; conv => whnf)
        | (refine tst_in ?_ ?_; rotate_left; (focus (intro h_; exfalso; first | omega | ((try simp only [decide_eq_true_eq, decide_eq_false_iff_not] at h_); omega) | (simp [mulSz, Cont.len, bne] at h_; first | done | omega))); intro _; conv => whnf)
        | (refine ⟨0, (show _ = _ by omega), ?_⟩; conv => whnf))
      refine ⟨[0, 1, 2, 3, 5, 6, 7, 8], ⟨yu, yw, yr, ys⟩, ?_, ⟨Nat.pos_of_ne_zero w, Nat.pos_of_ne_zero w2⟩⟩
      conv => whnf
      repeat' (first | exact True.intro | rfl | refine And.intro ?_ ?_)
      all_goals (conv => whnf)
      repeat' (first | exact True.intro | rfl | refine And.intro ?_ ?_)
      all_goals (try omega)
  clear N0 N1 N2 N3
  rintro ⟨yu, yw, yr, ys⟩ ⟨w, w2⟩
  have w : 0 < nu := w
  have w2 : 0 < nw := w2
  show forceSt (st7 ⟨A0, B0, A1, B1, A2, B2, A3, B3⟩ N nu nw nr ns ⟨yu, yw, yr, ys⟩) _
  conv => whnf
  repeat (first
    | (refine And.intro ?_ ?_; (focus (first | omega | decide | exact EqOk.mk (by kernel_rfl) (by kernel_rfl) (by kernel_rfl) | exact Int.natCast_nonneg _ | ((repeat' refine And.intro ?_ ?_) <;> first | omega | exact Int.natCast_nonneg _ | (simp only [i64max, u8max, u16max, u32max, u64max]; omega) | (simp only [mulSz_eq, Cont.len, colsLen, Col.len, List.length_cons, List.length_nil, List.length_replicate, List.length_append]; first | done | omega) | (simp [mulSz, Cont.len, bne]; first | done | omega)))); conv => whnf)
    | (refine tst_in ?_ ?_; (focus (intro h_; exfalso; first | omega | ((try simp only [decide_eq_true_eq, decide_eq_false_iff_not] at h_); omega) | (simp [mulSz, Cont.len, bne] at h_; first | done | omega))); intro _; conv => whnf)
    | (refine tst_in ?_ ?_; rotate_left; (focus (intro h_; exfalso; first | omega | ((try simp only [decide_eq_true_eq, decide_eq_false_iff_not] at h_); omega) | (simp [mulSz, Cont.len, bne] at h_; first | done | omega))); intro _; conv => whnf)
    | (refine ⟨0, (show _ = _ by omega), ?_⟩; conv => whnf))
  refine ⟨⟨[0, 1, 2, 3, 4, 5, 6, 7], (⟨⟨yu, yw, yr, ys⟩, ns⟩ : L8), ?_, ⟨Nat.le_refl ns, Nat.le_max_left _ _⟩⟩, ?_⟩
  · conv => whnf
    repeat' (first | exact True.intro | rfl | refine And.intro ?_ ?_)
    all_goals (conv => whnf)
    repeat' (first | exact True.intro | rfl | refine And.intro ?_ ?_)
    all_goals (try omega)
    all_goals exact congrArg (· ++ ys) (tab_congr fun i hi => if_pos hi)
  clear yu yw yr ys
  rintro ⟨⟨yu, yw, yr, ys⟩, k⟩ ⟨k1, k2⟩
  have k1 : ns ≤ k := k1
  have k2 : k ≤ max ns nr := k2
  show forceSt ⟨slotsAt 241 [(3, .int .i64 N), (4, .slice 4 0 nu (nu + yu.length)), (5, .slice 5 0 nw (nw + yw.length)), (6, .slice 6 0 nr (nr + yr.length)), (7, .slice 7 0 k (k + ys.length))],
    [i8S A0 B0, i8S A1 B1, i8S A2 B2, i8S A3 B3, cxS true (tb (nmF A0 B0 c64) nu ++ yu), cxS true (tb (nmF A1 B1 c64) nw ++ yw), cxS true (tb (nmF A2 B2 c1) nr ++ yr), cxS true (tb (zF (nmF A3 B3 c1) ns) k ++ ys)]⟩ _
  conv => whnf
  repeat (first
    | (refine And.intro ?_ ?_; (focus (first | omega | decide | exact EqOk.mk (by kernel_rfl) (by kernel_rfl) (by kernel_rfl) | exact Int.natCast_nonneg _ | ((repeat' refine And.intro ?_ ?_) <;> first | omega | exact Int.natCast_nonneg _ | (simp only [i64max, u8max, u16max, u32max, u64max]; omega) | (simp only [mulSz_eq, Cont.len, colsLen, Col.len, List.length_cons, List.length_nil, List.length_replicate, List.length_append]; first | done | omega) | (simp [mulSz, Cont.len, bne]; first | done | omega)))); conv => whnf)
    | (refine tst_in ?_ ?_; (focus (intro h_; exfalso; first | omega | ((try simp only [decide_eq_true_eq, decide_eq_false_iff_not] at h_); omega) | (simp [mulSz, Cont.len, bne] at h_; first | done | omega))); intro _; conv => whnf)
    | (refine tst_in ?_ ?_; rotate_left; (focus (intro h_; exfalso; first | omega | ((try simp only [decide_eq_true_eq, decide_eq_false_iff_not] at h_); omega) | (simp [mulSz, Cont.len, bne] at h_; first | done | omega))); intro _; conv => whnf)
    | (refine ⟨0, (show _ = _ by omega), ?_⟩; conv => whnf))
  refine tst_in (fun u => ?_) (fun u => ?_)
  · have u : (k : Int) < (nr : Int) := @of_decide_eq_true _ (dLt _ _) u
    as_aux_lemma =>
      conv => whnf
      repeat (first
        | (refine And.intro ?_ ?_; (focus (first | omega | decide | exact EqOk.mk (by kernel_rfl) (by kernel_rfl) (by kernel_rfl) | exact Int.natCast_nonneg _ | ((repeat' refine And.intro ?_ ?_) <;> first | omega | exact Int.natCast_nonneg _ | (simp only [i64max, u8max, u16max, u32max, u64max]; omega) | (simp only [mulSz_eq, Cont.len, colsLen, Col.len, List.length_cons, List.length_nil, List.length_replicate, List.length_append, tab_len, List.length_take, List.length_drop]; first | done | omega) | (simp [mulSz, Cont.len, bne, tab_len, List.length_take, List.length_drop]; first | done | omega)))); conv => whnf)
        | (refine tst_in ?_ ?_; (focus (intro h_; exfalso; first | omega | ((try simp only [decide_eq_true_eq, decide_eq_false_iff_not] at h_); omega) | (simp [mulSz, Cont.len, bne, tab_len, List.length_take, List.length_drop] at h_; first | done | omega))); intro _; conv => whnf)
        | (refine tst_in ?_ ?_; rotate_left; (focus (intro h_; exfalso; first | omega | ((try simp only [decide_eq_true_eq, decide_eq_false_iff_not] at h_); omega) | (simp [mulSz, Cont.len, bne, tab_len, List.length_take, List.length_drop] at h_; first | done | omega))); intro _; conv => whnf)
        | (refine ⟨0, (show _ = _ by omega), ?_⟩; conv => whnf))
      intro t1
      conv => whnf
      repeat (first
        | (refine And.intro ?_ ?_; (focus (first | omega | decide | exact EqOk.mk (by kernel_rfl) (by kernel_rfl) (by kernel_rfl) | exact Int.natCast_nonneg _ | ((repeat' refine And.intro ?_ ?_) <;> first | omega | exact Int.natCast_nonneg _ | (simp only [i64max, u8max, u16max, u32max, u64max]; omega) | (simp only [mulSz_eq, Cont.len, colsLen, Col.len, List.length_cons, List.length_nil, List.length_replicate, List.length_append]; first | done | omega) | (simp [mulSz, Cont.len, bne]; first | done | omega)))); conv => whnf)
        | (refine tst_in ?_ ?_; (focus (intro h_; exfalso; first | omega | ((try simp only [decide_eq_true_eq, decide_eq_false_iff_not] at h_); omega) | (simp [mulSz, Cont.len, bne] at h_; first | done | omega))); intro _; conv => whnf)
        | (refine tst_in ?_ ?_; rotate_left; (focus (intro h_; exfalso; first | omega | ((try simp only [decide_eq_true_eq, decide_eq_false_iff_not] at h_); omega) | (simp [mulSz, Cont.len, bne] at h_; first | done | omega))); intro _; conv => whnf)
        | (refine ⟨0, (show _ = _ by omega), ?_⟩; conv => whnf))
      refine ⟨[0, 1, 2, 3, 4, 5, 6, 9], (⟨⟨yu, yw, yr, t1⟩, k + 1⟩ : L8), ?_, ⟨by show ns ≤ k + 1; omega, by show k + 1 ≤ max ns nr; omega⟩, by show nr - (k + 1) < nr - k; omega⟩
      conv => whnf
      repeat' (first | exact True.intro | rfl | refine And.intro ?_ ?_)
      all_goals (conv => whnf)
      repeat' (first | exact True.intro | rfl | refine And.intro ?_ ?_)
      all_goals (try omega)
      all_goals exact (push_tb (zF (nmF A3 B3 c1) ns) ys t1 k _ (if_neg (by omega)).symm).symm
  · have u : ¬ (k : Int) < (nr : Int) := @of_decide_eq_false _ (dLt _ _) u
    conv => whnf
    repeat (first
      | (refine And.intro ?_ ?_; (focus (first | omega | decide | exact EqOk.mk (by kernel_rfl) (by kernel_rfl) (by kernel_rfl) | exact Int.natCast_nonneg _ | ((repeat' refine And.intro ?_ ?_) <;> first | omega | exact Int.natCast_nonneg _ | (simp only [i64max, u8max, u16max, u32max, u64max]; omega) | (simp only [mulSz_eq, Cont.len, colsLen, Col.len, List.length_cons, List.length_nil, List.length_replicate, List.length_append]; first | done | omega) | (simp [mulSz, Cont.len, bne]; first | done | omega)))); conv => whnf)
      | (refine tst_in ?_ ?_; (focus (intro h_; exfalso; first | omega | ((try simp only [decide_eq_true_eq, decide_eq_false_iff_not] at h_); omega) | (simp [mulSz, Cont.len, bne] at h_; first | done | omega))); intro _; conv => whnf)
      | (refine tst_in ?_ ?_; rotate_left; (focus (intro h_; exfalso; first | omega | ((try simp only [decide_eq_true_eq, decide_eq_false_iff_not] at h_); omega) | (simp [mulSz, Cont.len, bne] at h_; first | done | omega))); intro _; conv => whnf)
      | (refine ⟨0, (show _ = _ by omega), ?_⟩; conv => whnf))
    refine ⟨?_, fun t ht => tail17 mnu mnw mnr w w2 hq AW t ht⟩
    conv => whnf
    repeat (first
      | (refine And.intro ?_ ?_; (focus (first | omega | decide | exact EqOk.mk (by kernel_rfl) (by kernel_rfl) (by kernel_rfl) | exact Int.natCast_nonneg _ | ((repeat' refine And.intro ?_ ?_) <;> first | omega | exact Int.natCast_nonneg _ | (simp only [i64max, u8max, u16max, u32max, u64max]; omega) | (simp only [mulSz_eq, Cont.len, colsLen, Col.len, List.length_cons, List.length_nil, List.length_replicate, List.length_append]; first | done | omega) | (simp [mulSz, Cont.len, bne]; first | done | omega)))); conv => whnf)
      | (refine tst_in ?_ ?_; (focus (intro h_; exfalso; first | omega | ((try simp only [decide_eq_true_eq, decide_eq_false_iff_not] at h_); omega) | (simp [mulSz, Cont.len, bne] at h_; first | done | omega))); intro _; conv => whnf)
      | (refine tst_in ?_ ?_; rotate_left; (focus (intro h_; exfalso; first | omega | ((try simp only [decide_eq_true_eq, decide_eq_false_iff_not] at h_); omega) | (simp [mulSz, Cont.len, bne] at h_; first | done | omega))); intro _; conv => whnf)
      | (refine ⟨0, (show _ = _ by omega), ?_⟩; conv => whnf))
    refine ⟨⟨[0, 1, 2, 3, 4, 5, 6, 7, 9, 10], (⟨⟨yu, yw, yr, ys⟩, k, 0, [], []⟩ : L13), ?_, ⟨by show nr ≤ k; omega, by show k ≤ 40; omega, Nat.zero_le _⟩⟩, ?_⟩
    · conv => whnf
      repeat' (first | exact True.intro | rfl | refine And.intro ?_ ?_)
      all_goals (conv => whnf)
      repeat' (first | exact True.intro | rfl | refine And.intro ?_ ?_)
      all_goals (try omega)
    rintro ⟨⟨yu, yw, yr, ys⟩, K, i, t1, t2⟩ ⟨k1, k2, k3⟩
    have k1 : nr ≤ K := k1
    have k2 : K ≤ 40 := k2
    have k3 : i ≤ nr := k3
    show forceSt ⟨slotsAt 241 [(3, .int .i64 N), (4, .slice 4 0 nu (nu + yu.length)), (5, .slice 5 0 nw (nw + yw.length)), (6, .slice 6 0 nr (nr + yr.length)), (7, .slice 7 0 nr (K + ys.length)), (8, .slice 8 0 i (i + t1.length)), (9, .slice 9 0 i (i + t2.length)), (10, .int .i64 i)],
      [i8S A0 B0, i8S A1 B1, i8S A2 B2, i8S A3 B3, cxS true (tb (nmF A0 B0 c64) nu ++ yu), cxS true (tb (nmF A1 B1 c64) nw ++ yw), cxS true (tb (nmF A2 B2 c1) nr ++ yr), cxS true (tb (zF (nmF A3 B3 c1) ns) K ++ ys), cxS true (tb (boF (nmF A2 B2 c1) (zF (nmF A3 B3 c1) ns)) i ++ t1), cxS true (tb (tuF q (nmF A2 B2 c1)) i ++ t2)]⟩ _
    conv => whnf
    repeat (first
      | (refine And.intro ?_ ?_; (focus (first | omega | decide | exact EqOk.mk (by kernel_rfl) (by kernel_rfl) (by kernel_rfl) | exact Int.natCast_nonneg _ | ((repeat' refine And.intro ?_ ?_) <;> first | omega | exact Int.natCast_nonneg _ | (simp only [i64max, u8max, u16max, u32max, u64max]; omega) | (simp only [mulSz_eq, Cont.len, colsLen, Col.len, List.length_cons, List.length_nil, List.length_replicate, List.length_append]; first | done | omega) | (simp [mulSz, Cont.len, bne]; first | done | omega)))); conv => whnf)
      | (refine tst_in ?_ ?_; (focus (intro h_; exfalso; first | omega | ((try simp only [decide_eq_true_eq, decide_eq_false_iff_not] at h_); omega) | (simp [mulSz, Cont.len, bne] at h_; first | done | omega))); intro _; conv => whnf)
      | (refine tst_in ?_ ?_; rotate_left; (focus (intro h_; exfalso; first | omega | ((try simp only [decide_eq_true_eq, decide_eq_false_iff_not] at h_); omega) | (simp [mulSz, Cont.len, bne] at h_; first | done | omega))); intro _; conv => whnf)
      | (refine ⟨0, (show _ = _ by omega), ?_⟩; conv => whnf))
    refine tst_in (fun u => ?_) (fun u => ?_)
    · have u : (i : Int) < (nr : Int) := @of_decide_eq_true _ (dLt _ _) u
      have TQ := Turn_q (nmF A2 B2 c1 i) N q hq
      have G1 : (tb (nmF A2 B2 c1) nr ++ yr).getD i (0, 0) = nmF A2 B2 c1 i := at_lt _ _ _ (by omega)
      have G2 : (tb (zF (nmF A3 B3 c1) ns) K ++ ys).getD i (0, 0) = zF (nmF A3 B3 c1) ns i := at_lt _ _ _ (by omega)
      have v1 := nm_VQ c1_is (by decide) A2 B2 i
      have v2 := zF_VQ ns i (nm_VQ c1_is (by decide) A3 B3 i)
      have CS := (cadd_q v1.1 v2.1 v1.2 v2.2 (by decide) (by decide)).1
      as_aux_lemma =>
        conv => whnf
        repeat (first
          | (refine And.intro ?_ ?_; (focus (first | omega | decide | exact EqOk.mk (by kernel_rfl) (by kernel_rfl) (by kernel_rfl) | exact Int.natCast_nonneg _ | ((repeat' refine And.intro ?_ ?_) <;> first | omega | exact Int.natCast_nonneg _ | (simp only [i64max, u8max, u16max, u32max, u64max]; omega) | (simp only [mulSz_eq, Cont.len, colsLen, Col.len, List.length_cons, List.length_nil, List.length_replicate, List.length_append, tab_len, List.length_take, List.length_drop]; first | done | omega) | (simp [mulSz, Cont.len, bne, tab_len, List.length_take, List.length_drop]; first | done | omega)))); conv => whnf)
          | (refine tst_in ?_ ?_; (focus (intro h_; exfalso; first | omega | ((try simp only [decide_eq_true_eq, decide_eq_false_iff_not] at h_); omega) | (simp [mulSz, Cont.len, bne, tab_len, List.length_take, List.length_drop] at h_; first | done | omega))); intro _; conv => whnf)
          | (refine tst_in ?_ ?_; rotate_left; (focus (intro h_; exfalso; first | omega | ((try simp only [decide_eq_true_eq, decide_eq_false_iff_not] at h_); omega) | (simp [mulSz, Cont.len, bne, tab_len, List.length_take, List.length_drop] at h_; first | done | omega))); intro _; conv => whnf)
          | (refine ⟨0, (show _ = _ by omega), ?_⟩; conv => whnf))
        rw [show 0 + ((i : Nat) : Int).toNat = i by omega, G1, G2]
        refine ⟨_, _, CS, ?_⟩
        conv => whnf
        repeat (first
          | (refine And.intro ?_ ?_; (focus (first | omega | decide | exact EqOk.mk (by kernel_rfl) (by kernel_rfl) (by kernel_rfl) | exact Int.natCast_nonneg _ | ((repeat' refine And.intro ?_ ?_) <;> first | omega | exact Int.natCast_nonneg _ | (simp only [i64max, u8max, u16max, u32max, u64max]; omega) | (simp only [mulSz_eq, Cont.len, colsLen, Col.len, List.length_cons, List.length_nil, List.length_replicate, List.length_append, tab_len, List.length_take, List.length_drop]; first | done | omega) | (simp [mulSz, Cont.len, bne, tab_len, List.length_take, List.length_drop]; first | done | omega)))); conv => whnf)
          | (refine tst_in ?_ ?_; (focus (intro h_; exfalso; first | omega | ((try simp only [decide_eq_true_eq, decide_eq_false_iff_not] at h_); omega) | (simp [mulSz, Cont.len, bne, tab_len, List.length_take, List.length_drop] at h_; first | done | omega))); intro _; conv => whnf)
          | (refine tst_in ?_ ?_; rotate_left; (focus (intro h_; exfalso; first | omega | ((try simp only [decide_eq_true_eq, decide_eq_false_iff_not] at h_); omega) | (simp [mulSz, Cont.len, bne, tab_len, List.length_take, List.length_drop] at h_; first | done | omega))); intro _; conv => whnf)
          | (refine ⟨0, (show _ = _ by omega), ?_⟩; conv => whnf))
        intro t3
        conv => whnf
        repeat (first
          | (refine And.intro ?_ ?_; (focus (first | omega | decide | exact EqOk.mk (by kernel_rfl) (by kernel_rfl) (by kernel_rfl) | exact Int.natCast_nonneg _ | ((repeat' refine And.intro ?_ ?_) <;> first | omega | exact Int.natCast_nonneg _ | (simp only [i64max, u8max, u16max, u32max, u64max]; omega) | (simp only [mulSz_eq, Cont.len, colsLen, Col.len, List.length_cons, List.length_nil, List.length_replicate, List.length_append, tab_len]; first | done | omega) | (simp [mulSz, Cont.len, bne, tab_len]; first | done | omega)))); conv => whnf)
          | (refine tst_in ?_ ?_; (focus (intro h_; exfalso; first | omega | ((try simp only [decide_eq_true_eq, decide_eq_false_iff_not] at h_); omega) | (simp [mulSz, Cont.len, bne, tab_len] at h_; first | done | omega))); intro _; conv => whnf)
          | (refine tst_in ?_ ?_; rotate_left; (focus (intro h_; exfalso; first | omega | ((try simp only [decide_eq_true_eq, decide_eq_false_iff_not] at h_); omega) | (simp [mulSz, Cont.len, bne, tab_len] at h_; first | done | omega))); intro _; conv => whnf)
          | (refine ⟨0, (show _ = _ by omega), ?_⟩; conv => whnf))
        rw [show 0 + ((i : Nat) : Int).toNat = i by omega, G1]
        refine ⟨_, [], TQ, ?_⟩
        conv => whnf
        iterate 2
         refine And.intro ?_ ?_
         focus
          conv => whnf
          repeat' (first | exact True.intro | rfl | refine And.intro ?_ ?_ | omega)
          all_goals (conv => whnf)
          all_goals (try (first | rfl | omega | (simp; done)))
        conv => whnf
        conv => whnf
        repeat (first
          | (refine And.intro ?_ ?_; (focus (first | omega | decide | exact EqOk.mk (by kernel_rfl) (by kernel_rfl) (by kernel_rfl) | exact Int.natCast_nonneg _ | ((repeat' refine And.intro ?_ ?_) <;> first | omega | exact Int.natCast_nonneg _ | (simp only [i64max, u8max, u16max, u32max, u64max]; omega) | (simp only [mulSz_eq, Cont.len, colsLen, Col.len, List.length_cons, List.length_nil, List.length_replicate, List.length_append, tab_len, List.length_take, List.length_drop]; first | done | omega) | (simp [mulSz, Cont.len, bne, tab_len, List.length_take, List.length_drop]; first | done | omega)))); conv => whnf)
          | (refine tst_in ?_ ?_; (focus (intro h_; exfalso; first | omega | ((try simp only [decide_eq_true_eq, decide_eq_false_iff_not] at h_); omega) | (simp [mulSz, Cont.len, bne, tab_len, List.length_take, List.length_drop] at h_; first | done | omega))); intro _; conv => whnf)
          | (refine tst_in ?_ ?_; rotate_left; (focus (intro h_; exfalso; first | omega | ((try simp only [decide_eq_true_eq, decide_eq_false_iff_not] at h_); omega) | (simp [mulSz, Cont.len, bne, tab_len, List.length_take, List.length_drop] at h_; first | done | omega))); intro _; conv => whnf)
          | (refine ⟨0, (show _ = _ by omega), ?_⟩; conv => whnf))
        intro t4
        conv => whnf
        repeat (first
          | (refine And.intro ?_ ?_; (focus (first | omega | decide | exact EqOk.mk (by kernel_rfl) (by kernel_rfl) (by kernel_rfl) | exact Int.natCast_nonneg _ | ((repeat' refine And.intro ?_ ?_) <;> first | omega | exact Int.natCast_nonneg _ | (simp only [i64max, u8max, u16max, u32max, u64max]; omega) | (simp only [mulSz_eq, Cont.len, colsLen, Col.len, List.length_cons, List.length_nil, List.length_replicate, List.length_append]; first | done | omega) | (simp [mulSz, Cont.len, bne]; first | done | omega)))); conv => whnf)
          | (refine tst_in ?_ ?_; (focus (intro h_; exfalso; first | omega | ((try simp only [decide_eq_true_eq, decide_eq_false_iff_not] at h_); omega) | (simp [mulSz, Cont.len, bne] at h_; first | done | omega))); intro _; conv => whnf)
          | (refine tst_in ?_ ?_; rotate_left; (focus (intro h_; exfalso; first | omega | ((try simp only [decide_eq_true_eq, decide_eq_false_iff_not] at h_); omega) | (simp [mulSz, Cont.len, bne] at h_; first | done | omega))); intro _; conv => whnf)
          | (refine ⟨0, (show _ = _ by omega), ?_⟩; conv => whnf))
        refine ⟨[0, 1, 2, 3, 4, 5, 6, 7, 11, 13], (⟨⟨yu, yw, yr, ys⟩, K, i + 1, t3, t4⟩ : L13), ?_, ⟨k1, k2, by show i + 1 ≤ nr; omega⟩, by show nr - (i + 1) < nr - i; omega⟩
        conv => whnf
        repeat' (first | exact True.intro | rfl | refine And.intro ?_ ?_)
        all_goals (conv => whnf)
        repeat' (first | exact True.intro | rfl | refine And.intro ?_ ?_)
        all_goals (try omega)
        all_goals first
          | exact (push_tb (boF (nmF A2 B2 c1) (zF (nmF A3 B3 c1) ns)) t1 t3 i _ rfl).symm
          | exact (push_tb (tuF q (nmF A2 B2 c1)) t2 t4 i _ rfl).symm
    · have u : ¬ (i : Int) < (nr : Int) := @of_decide_eq_false _ (dLt _ _) u
      have hi : i = nr := by omega
      subst hi
      conv => whnf
      repeat (first
        | (refine And.intro ?_ ?_; (focus (first | omega | decide | exact EqOk.mk (by kernel_rfl) (by kernel_rfl) (by kernel_rfl) | exact Int.natCast_nonneg _ | ((repeat' refine And.intro ?_ ?_) <;> first | omega | exact Int.natCast_nonneg _ | (simp only [i64max, u8max, u16max, u32max, u64max]; omega) | (simp only [mulSz_eq, Cont.len, colsLen, Col.len, List.length_cons, List.length_nil, List.length_replicate, List.length_append]; first | done | omega) | (simp [mulSz, Cont.len, bne]; first | done | omega)))); conv => whnf)
        | (refine tst_in ?_ ?_; (focus (intro h_; exfalso; first | omega | ((try simp only [decide_eq_true_eq, decide_eq_false_iff_not] at h_); omega) | (simp [mulSz, Cont.len, bne] at h_; first | done | omega))); intro _; conv => whnf)
        | (refine tst_in ?_ ?_; rotate_left; (focus (intro h_; exfalso; first | omega | ((try simp only [decide_eq_true_eq, decide_eq_false_iff_not] at h_); omega) | (simp [mulSz, Cont.len, bne] at h_; first | done | omega))); intro _; conv => whnf)
        | (refine ⟨0, (show _ = _ by omega), ?_⟩; conv => whnf))
      refine ⟨[0, 1, 2, 3, 4, 5, 6, 7, 8, 9], (⟨⟨yu, yw, yr, ys⟩, K, t1, t2⟩ : L17), ?_, ⟨by show i ≤ K; omega, by show K ≤ 40; omega⟩⟩
      conv => whnf
      repeat' (first | exact True.intro | rfl | refine And.intro ?_ ?_)
      all_goals (conv => whnf)
      repeat' (first | exact True.intro | rfl | refine And.intro ?_ ?_)
      all_goals (try omega)
end Go.Proofs.Ytmchfbjbcioccaa

set_option linter.unusedVariables false
set_option linter.unusedSimpArgs false
namespace Go.Proofs.Ytmchfbjbcioccaa
open Go Go.Fw
def iR (g : Nat → Int × Int) (c : Nat) : List Int := (List.range c).map fun i => (g i).1
def iI (g : Nat → Int × Int) (c : Nat) : List Int := (List.range c).map fun i => (g i).2
theorem getD_map_range {α : Type} (f : Nat → α) (z : α) (c i : Nat) (h : i < c) : ((List.range c).map f).getD i z = f i := by
  rw [List.getD_eq_getElem?_getD, List.getElem?_map, List.getElem?_range h]; rfl
theorem flat_ext {F G : Nat → List AV} {n : Nat} (h : ∀ i, i < n → F i = G i) : (List.range n).flatMap F = (List.range n).flatMap G := by
  rw [List.flatMap_def, List.flatMap_def]
  congr 1
  exact List.map_congr_left fun i hi => h i (List.mem_range.1 hi)
theorem avl_i8 (g : Nat → Int × Int) (c : Nat) : (Cont.cols [.ints .i8 (iR g c), .ints .i8 (iI g c)]).avl = (Cont.avs ((List.range c).flatMap fun i => [.int .i8 (g i).1, .int .i8 (g i).2])).avl := by
  show (List.range (iR g c).length).flatMap _ = _
  rw [show (iR g c).length = c by simp [iR]]
  refine flat_ext fun i hi => ?_
  show [AV.int .i8 ((iR g c).getD i 0), .int .i8 ((iI g c).getD i 0)] = _
  unfold iR iI
  rw [getD_map_range _ _ _ _ hi, getD_map_range _ _ _ _ hi]
def lawSpec (n0 c0 : Nat) (g0 : Nat → Int × Int) (n1 c1 : Nat) (g1 : Nat → Int × Int) (n2 c2 : Nat) (g2 : Nat → Int × Int) (n3 c3 : Nat) (g3 : Nat → Int × Int) (N : Int) : FSpec :=
  ⟨[.agg [.slice 0 0 n0 c0, .slice 1 0 n1 c1, .slice 2 0 n2 c2, .slice 3 0 n3 c3, .int .i64 N]], [.seg false (.cols [.ints .i8 (iR g0 c0), .ints .i8 (iI g0 c0)]), .seg false (.cols [.ints .i8 (iR g1 c1), .ints .i8 (iI g1 c1)]), .seg false (.cols [.ints .i8 (iR g2 c2), .ints .i8 (iI g2 c2)]), .seg false (.cols [.ints .i8 (iR g3 c3), .ints .i8 (iI g3 c3)])], [⟨Unit, fun _ => True, fun _ => .bool true, fun _ => [.dead, .dead, .dead, .dead]⟩]⟩
theorem law_m (n0 c0 : Nat) (g0 : Nat → Int × Int) (n1 c1' : Nat) (g1 : Nat → Int × Int) (n2 c2 : Nat) (g2 : Nat → Int × Int) (n3 c3 : Nat) (g3 : Nat → Int × Int) (N : Int) (hn0 : n0 ≤ c0) (hb0 : c0 * 2 ≤ reachBytes) (hn1 : n1 ≤ c1') (hb1 : c1' * 2 ≤ reachBytes) (hn2 : n2 ≤ c2) (hb2 : c2 * 2 ≤ reachBytes) (hn3 : n3 ≤ c3) (hb3 : c3 * 2 ≤ reachBytes) : Fits Try.prog 3 (lawSpec n0 c0 g0 n1 c1' g1 n2 c2 g2 n3 c3 g3 N) := by
  have hb0 : c0 * 2 ≤ 140737488351232 := hb0
  have hb1 : c1' * 2 ≤ 140737488351232 := hb1
  have hb2 : c2 * 2 ≤ 140737488351232 := hb2
  have hb3 : c3 * 2 ≤ 140737488351232 := hb3
  exact law_f ⟨iR g0 c0, iI g0 c0, iR g1 c1', iI g1 c1', iR g2 c2, iI g2 c2, iR g3 c3, iI g3 c3⟩ n0 c0 n1 c1' n2 c2 n3 c3 N (by simp [iR, hn0]) (by simp [iI, hn0]) hn0 (by omega) (by simp [iR, hn1]) (by simp [iI, hn1]) hn1 (by omega) (by simp [iR, hn2]) (by simp [iI, hn2]) hn2 (by omega) (by simp [iR, hn3]) (by simp [iI, hn3]) hn3 (by omega) awake_f
end Go.Proofs.Ytmchfbjbcioccaa

namespace Go.Proofs.Ytmchfbjbcioccaa
open Go Go.Fw
namespace planeFilters
open Go.ChangeShapes Go.WideShapes Go.ChangeAt Go.RowKit
theorem own : ownKnob Try.prog.godebug = none := by kernel_rfl
theorem laid : laidOutB Try.prog = true := by kernel_rfl

set_option maxRecDepth 100000 in
theorem lifted (os : Os) (started : os.Started) (H : Type) (enc : TypeId × Value → H) :
    ReturnsInHanded {} Try.checked os 3 .any (Rows.planeFiltersSpec.pre6 enc Try.prog Try.f3 Rows.planeFiltersRow.domain false) (Rows.planeFiltersSpec.post enc Try.prog Try.f3 false true false false) := by
  refine returnsInHanded_of_change_sized (C := Try.checked) own started (by kernel_rfl) Try.func3
    (ChangeSpec.witness6 (enc := enc) (C := Try.checked) false ⟨#[], #[.agg #[.slice none 0 0, .slice none 0 0, .slice none 0 0, .slice none 0 0, .int .i64 0]], []⟩ 8 (by kernel_rfl) (by kernel_rfl) (by kernel_rfl) (by kernel_rfl)) ?_
  intro W base args ds gs before hval0 hW _ hsz0 _
  have hsz : (DataW.weightsEach Try.prog (Try.f3.params.toList ++ Rows.planeFiltersSpec.plain.varTypes Try.prog) (ds ++ gs)).all (· ≤ reachBytes) = true := hsz0
  clear hsz0
  have hval : ∀ (j : Nat) t v, Try.f3.params[j]? = some t → args[j]? = some v → Value.okWide Try.prog W .any base t v := hval0
  have hW' := hW
  obtain ⟨p, q, hA0, hV, rfl, hfz, hnd⟩ := hW
  have hA : DataW.TrodAll enc Try.prog W 0 (fun _ => true) true Try.f3.params.toList args.toList ds p := hA0
  rw [Try.params3] at hA hval hsz
  obtain ⟨v0, vs0, d0, ds0, p0, q0, hargs, rfl, rfl, h0, r0⟩ := trodAll_cons hA
  obtain ⟨rfl, rfl, rfl⟩ := trodAll_nil r0
  obtain rfl : args = #[v0] := by cases args; simp_all
  obtain ⟨rfl, rfl⟩ := trodVars_none hV
  obtain ⟨c0c0, t0_0, e0_0, l0_0, c0c1, t0_1, e0_1, l0_1, c0c2, t0_2, e0_2, l0_2, c0c3, t0_3, e0_3, l0_3, c0c4, t0_4, e0_4, l0_4, e0_5⟩ : LeafsAre W [.row 2 [.int .i8, .int .i8], .row 2 [.int .i8, .int .i8], .row 2 [.int .i8, .int .i8], .row 2 [.int .i8, .int .i8], .int .i64] v0.cells.toList := arg_open 12 (by kernel_rfl) h0 (fine_of (j := 0) hsz rfl rfl)
  subst e0_5
  subst e0_4
  subst e0_3
  subst e0_2
  subst e0_1
  obtain rfl := agg_of e0_0 (by simp)
  obtain ⟨n0_0, c0_0, F0_0, pl0_0, hn0_0, hb0_0, hF0_0, hc0_0⟩ := row_avs (by simp) (by simp [plainSh]) l0_0
  obtain ⟨g0_0, hg0_0⟩ := choose_all (α := Int × Int) (n := c0_0) (p := fun i y => F0_0 i = [.int .i8 y.1, .int .i8 y.2] ∧ (Lit.int .i8 y.1).wf = true ∧ (Lit.int .i8 y.2).wf = true) fun i hi => by
    obtain ⟨y0, t0, e0, ⟨m0, u0, z0⟩, y1, t1, e1, ⟨m1, u1, z1⟩, e⟩ := hF0_0 i hi
    simp only [AvsAre] at e
    exact ⟨(m0, m1), by rw [e0, u0, e1, u1, e], z0, z1⟩
  have hw0_0 := fun i (hi : i < c0_0) => (hg0_0 i hi).2
  rw [flat_congr fun i hi => (hg0_0 i hi).1] at hc0_0
  obtain ⟨n0_1, c0_1, F0_1, pl0_1, hn0_1, hb0_1, hF0_1, hc0_1⟩ := row_avs (by simp) (by simp [plainSh]) l0_1
  obtain ⟨g0_1, hg0_1⟩ := choose_all (α := Int × Int) (n := c0_1) (p := fun i y => F0_1 i = [.int .i8 y.1, .int .i8 y.2] ∧ (Lit.int .i8 y.1).wf = true ∧ (Lit.int .i8 y.2).wf = true) fun i hi => by
    obtain ⟨y0, t0, e0, ⟨m0, u0, z0⟩, y1, t1, e1, ⟨m1, u1, z1⟩, e⟩ := hF0_1 i hi
    simp only [AvsAre] at e
    exact ⟨(m0, m1), by rw [e0, u0, e1, u1, e], z0, z1⟩
  have hw0_1 := fun i (hi : i < c0_1) => (hg0_1 i hi).2
  rw [flat_congr fun i hi => (hg0_1 i hi).1] at hc0_1
  obtain ⟨n0_2, c0_2, F0_2, pl0_2, hn0_2, hb0_2, hF0_2, hc0_2⟩ := row_avs (by simp) (by simp [plainSh]) l0_2
  obtain ⟨g0_2, hg0_2⟩ := choose_all (α := Int × Int) (n := c0_2) (p := fun i y => F0_2 i = [.int .i8 y.1, .int .i8 y.2] ∧ (Lit.int .i8 y.1).wf = true ∧ (Lit.int .i8 y.2).wf = true) fun i hi => by
    obtain ⟨y0, t0, e0, ⟨m0, u0, z0⟩, y1, t1, e1, ⟨m1, u1, z1⟩, e⟩ := hF0_2 i hi
    simp only [AvsAre] at e
    exact ⟨(m0, m1), by rw [e0, u0, e1, u1, e], z0, z1⟩
  have hw0_2 := fun i (hi : i < c0_2) => (hg0_2 i hi).2
  rw [flat_congr fun i hi => (hg0_2 i hi).1] at hc0_2
  obtain ⟨n0_3, c0_3, F0_3, pl0_3, hn0_3, hb0_3, hF0_3, hc0_3⟩ := row_avs (by simp) (by simp [plainSh]) l0_3
  obtain ⟨g0_3, hg0_3⟩ := choose_all (α := Int × Int) (n := c0_3) (p := fun i y => F0_3 i = [.int .i8 y.1, .int .i8 y.2] ∧ (Lit.int .i8 y.1).wf = true ∧ (Lit.int .i8 y.2).wf = true) fun i hi => by
    obtain ⟨y0, t0, e0, ⟨m0, u0, z0⟩, y1, t1, e1, ⟨m1, u1, z1⟩, e⟩ := hF0_3 i hi
    simp only [AvsAre] at e
    exact ⟨(m0, m1), by rw [e0, u0, e1, u1, e], z0, z1⟩
  have hw0_3 := fun i (hi : i < c0_3) => (hg0_3 i hi).2
  rw [flat_congr fun i hi => (hg0_3 i hi).1] at hc0_3
  obtain ⟨x0_4, rfl, w0_4⟩ := l0_4
  clear hA0 hval0
  obtain ⟨dd0_0, cc0_0⟩ := hc0_0 [pl0_0, pl0_1, pl0_2, pl0_3] 0 (by simp) rfl
  obtain ⟨dd0_1, cc0_1⟩ := hc0_1 [pl0_0, pl0_1, pl0_2, pl0_3] 1 (by simp) rfl
  obtain ⟨dd0_2, cc0_2⟩ := hc0_2 [pl0_0, pl0_1, pl0_2, pl0_3] 2 (by simp) rfl
  obtain ⟨dd0_3, cc0_3⟩ := hc0_3 [pl0_0, pl0_1, pl0_2, pl0_3] 3 (by simp) rfl
  have walk := ((law_m n0_0 c0_0 g0_0 n0_1 c0_1 g0_1 n0_2 c0_2 g0_2 n0_3 c0_3 g0_3 x0_4 hn0_0 hb0_0 hn0_1 hb0_1 hn0_2 hb0_2 hn0_3 hb0_3)).calls W [pl0_0, pl0_1, pl0_2, pl0_3] [.agg #[c0c0, c0c1, c0c2, c0c3, .int .i64 x0_4]] (heap_args rfl fun i s hs => by
      match i, hs with
      | 0, hs => simp only [lawSpec, List.getElem?_cons_zero, Option.some.injEq] at hs; subst hs; exact ⟨_, rfl, (avl_i8 g0_0 c0_0).symm ▸ cc0_0⟩
      | 1, hs => simp only [lawSpec, List.getElem?_cons_succ, List.getElem?_cons_zero, Option.some.injEq] at hs; subst hs; exact ⟨_, rfl, (avl_i8 g0_1 c0_1).symm ▸ cc0_1⟩
      | 2, hs => simp only [lawSpec, List.getElem?_cons_succ, List.getElem?_cons_zero, Option.some.injEq] at hs; subst hs; exact ⟨_, rfl, (avl_i8 g0_2 c0_2).symm ▸ cc0_2⟩
      | 3, hs => simp only [lawSpec, List.getElem?_cons_succ, List.getElem?_cons_zero, Option.some.injEq] at hs; subst hs; exact ⟨_, rfl, (avl_i8 g0_3 c0_3).symm ▸ cc0_3⟩
      | i + 4, hs => simp [lawSpec] at hs) (by simp only [lawSpec, Dens]; exact ⟨_, _, rfl, ⟨[c0c0, c0c1, c0c2, c0c3, .int .i64 x0_4], rfl, ⟨_, _, rfl, dd0_0, ⟨_, _, rfl, dd0_1, ⟨_, _, rfl, dd0_2, ⟨_, _, rfl, dd0_3, ⟨_, _, rfl, by simp [Den], rfl⟩⟩⟩⟩⟩⟩, rfl⟩) (x := .bool true) (v := .bool true) rfl (by
      intro o ho y hy
      simp [lawSpec] at ho
      subst ho; rfl)
  refine walk.mono fun e W' ⟨he, hg⟩ => ?_
  subst he
  exact ⟨_, rfl, law_done laid rfl rfl Try.underlying4 (by kernel_rfl) hW' rfl hg⟩

theorem over : Rows.planeFiltersRow.holds Try.pinned (OpenSpec.ofChange Rows.planeFiltersSpec) :=
  OpenClaim.holds_of_wide 3 Try.f3 rfl rfl rfl rfl rfl rfl rfl ⟨rfl, rfl, rfl, rfl, rfl⟩ rfl rfl rfl rfl rfl (by kernel_rfl) Try.func3 (by kernel_rfl)
    (of_decide_eq_true (by kernel_rfl)) (by unfold Func.isWrapper; first | (rw [if_pos (by decide +kernel)]; kernel_rfl) | (rw [if_neg (by decide +kernel)]; exact ⟨rfl, rfl⟩))
    (fun os started H enc _ => lifted os started H enc)

theorem proved : Rows.PlaneFiltersSaid := over
end planeFilters
end Go.Proofs.Ytmchfbjbcioccaa
