/-
  For any number, any size, any quarters: what a marker told is undone as the document says, no number included.
-/
import Derived.Test.YtckkfpehpfdigaaRows
import Derived.Test.YtckkfpehpfdigaaFl
import Derived.Test.YtckkfpehpfdigaaFv
import Derived.Test.YtckkfpehpfdigaaFa
import Derived.WalkKit
import Derived.ProofKit
import Derived.OpenShut
import Derived.SizedLaws
import Derived.ChangeMaps5
import Derived.Laws.Cover2
set_option linter.unusedSimpArgs false
set_option linter.unusedVariables false
namespace Go.Fw
open Go Ieee
set_option exponentiation.threshold 2200
theorem log2_shift (m d : Nat) (hm : 0 < m) : (m * 2 ^ d).log2 = m.log2 + d := by
  have h1 : 2 ^ m.log2 ≤ m := Nat.log2_self_le (by omega)
  have h2 : m < 2 ^ (m.log2 + 1) := Nat.lt_log2_self
  have hp := Nat.two_pow_pos d
  have h3 : 2 ^ (m.log2 + d) ≤ m * 2 ^ d := by rw [Nat.pow_add]; exact Nat.mul_le_mul_right _ h1
  have h4 : m * 2 ^ d < 2 ^ (m.log2 + d + 1) := by
    rw [show m.log2 + d + 1 = (m.log2 + 1) + d by omega, Nat.pow_add]
    exact Nat.mul_lt_mul_of_pos_right h2 hp
  have hz : m * 2 ^ d ≠ 0 := by have := Nat.mul_pos hm hp; omega
  have h5 : (m * 2 ^ d).log2 < m.log2 + d + 1 := (Nat.log2_lt hz).2 h4
  have h6 : m.log2 + d ≤ (m * 2 ^ d).log2 := (Nat.le_log2 hz).2 h3
  omega
theorem nearest_shift (neg : Bool) (m d : Nat) (p : Int) (hm : 0 < m) (h : lst m (p + d) ≤ p + d) : D.nearest neg (m * 2 ^ d) p = D.nearest neg m (p + d) := by
  have hp := Nat.two_pow_pos d
  have hz : m * 2 ^ d ≠ 0 := by have := Nat.mul_pos hm hp; omega
  have hl : lst (m * 2 ^ d) p = lst m (p + d) := by
    unfold lst; rw [log2_shift m d hm]; push_cast; congr 1; omega
  unfold Format.nearest
  rw [if_neg hz, if_neg (by omega), d_least, d_bin, d_inf]
  show D.word neg (min ((lst (m * 2 ^ d) p - -1074).toNat * 4503599627370496 + Toward.even.cut neg ((m * 2 ^ d) <<< (p - lst (m * 2 ^ d) p).toNat) (lst (m * 2 ^ d) p - p).toNat) 9218868437227405312) = D.word neg (min ((lst m (p + d) - -1074).toNat * 4503599627370496 + Toward.even.cut neg (m <<< (p + d - lst m (p + d)).toNat) (lst m (p + d) - (p + d)).toNat) 9218868437227405312)
  rw [hl]
  generalize hL : lst m (p + d) = L at *
  congr 3
  by_cases hc : L ≤ p
  · rw [show (L - p).toNat = 0 by omega, show (L - (p + d)).toNat = 0 by omega, Nat.shiftLeft_eq, Nat.shiftLeft_eq, show (p + d - L).toNat = d + (p - L).toNat by omega, Nat.pow_add, Nat.mul_assoc]
  · rw [show (p - L).toNat = 0 by omega, show (L - (p + d)).toNat = 0 by omega, Nat.shiftLeft_zero, cut_zero, Nat.shiftLeft_eq]
    have e : m * 2 ^ d = m * 2 ^ (p + d - L).toNat * 2 ^ (L - p).toNat := by
      rw [Nat.mul_assoc, ← Nat.pow_add]; congr 2; omega
    have hg : (L - p).toNat ≤ (m * 2 ^ d).log2 + 2 := by rw [log2_shift m d hm]; omega
    rw [e] at hg ⊢
    exact cut_exact neg _ _ hg
/-- Any number times 2 ^ j, if it is not too great. -/
theorem V_scale {b c j : Nat} {X : Int} (h : V 1074 b X) (hc : D.read c = .number false 4503599627370496 (-52 + j)) (hX : X.natAbs < 2 ^ (2097 - j)) (hj : j ≤ 1000) : ∃ r, D.mul b c = some r ∧ V 1074 r (X * 2 ^ j) := by
  unfold V at h
  obtain ⟨s, m, P, e1, e2⟩ := h
  have b1 := read_bound e1
  unfold Format.mul
  rw [e1, hc]
  simp only [Datum.product, Option.map_some]
  refine ⟨_, rfl, ?_⟩
  rw [Nat.sub_self, Int.pow_zero, Int.mul_one] at e2
  rw [show (s ^^ false) = s by cases s <;> rfl]
  by_cases h0 : m = 0
  · subst h0
    have hX0 : X = 0 := by rw [← e2, signed_eq]; cases s <;> simp
    rw [Nat.zero_mul]
    unfold V
    exact ⟨s, 0, -1074, write_read0 s _, by rw [hX0, signed_eq]; cases s <;> simp⟩
  have hm : 0 < m := by omega
  have hlog : m.log2 ≤ 52 := by
    have h53 : (2 : Nat) ^ 53 = 9007199254740992 := by decide
    have : m.log2 < 53 := (Nat.log2_lt (by omega)).2 (by omega)
    omega
  have hmag : m * 2 ^ (P + 1074).toNat = X.natAbs := by rw [← e2, signed_abs]
  have hup : m.log2 + (P + 1074).toNat < 2097 - j := by
    have h1 : 2 ^ m.log2 ≤ m := Nat.log2_self_le (by omega)
    have h2 : 2 ^ m.log2 * 2 ^ (P + 1074).toNat ≤ m * 2 ^ (P + 1074).toNat := Nat.mul_le_mul_right _ h1
    rw [← Nat.pow_add, hmag] at h2
    exact (Nat.pow_lt_pow_iff_right (by decide : 1 < 2)).1 (Nat.lt_of_le_of_lt h2 hX)
  have hw : D.write (.number s (m * 4503599627370496) (P + (-52 + j))) = D.write (.number s (m * 2 ^ 0) (P + j)) := by
    show D.nearest s (m * 4503599627370496) _ = D.nearest s (m * 2 ^ 0) _
    rw [show (4503599627370496 : Nat) = 2 ^ 52 by decide, nearest_shift s m 52 _ hm (by unfold lst; omega), Nat.pow_zero, Nat.mul_one]
    congr 1; omega
  obtain ⟨M, Q, k1, k2, k3⟩ := write_exact s m 0 (P + j) hm b1.1 (by omega) (by rw [Nat.pow_zero, Nat.mul_one]; omega)
  rw [hw]
  unfold V
  refine ⟨s, M, Q, k1, ?_⟩
  rw [Nat.sub_self, Int.pow_zero, Int.mul_one, ← e2, signed_shift]
  rw [Nat.pow_zero, Nat.mul_one] at k3
  rw [signed_eq, signed_eq]
  have k4 := congrArg (Nat.cast : Nat → Int) k3
  push_cast at k4
  rw [k4]
  congr 3
  omega
end Go.Fw

namespace Go.Fw
open Go Ieee
set_option exponentiation.threshold 2200
theorem V_fin {b : Nat} {s : Bool} {m : Nat} {P : Int} (h : D.read b = .number s m P) : V 1074 b (signed s m (P + 1074).toNat) := by
  unfold V
  exact ⟨s, m, P, h, by rw [Nat.sub_self, Int.pow_zero, Int.mul_one]⟩
end Go.Fw

namespace Go.Fw
open Go Ieee
set_option exponentiation.threshold 2200
end Go.Fw

namespace Go.Fw
open Go Ieee
set_option exponentiation.threshold 2200
end Go.Fw

namespace Go.Fw
open Go Ieee
set_option exponentiation.threshold 2200
theorem pow_pos' (k : Nat) : (0 : Int) < 2 ^ k := Int.pow_pos (by decide)
end Go.Fw

namespace Go.Fw
open Go Ieee
set_option exponentiation.threshold 2200
/-- One, in the least units. -/
def U : Int := 2 ^ 1074
def H : Int := 2 ^ 1073
end Go.Fw

namespace Go.Fw
open Go Ieee
set_option exponentiation.threshold 2200
theorem U_nat : U = ((2 ^ 1074 : Nat) : Int) := by unfold U; rw [Int.natCast_pow]; rfl
end Go.Fw

namespace Go.Fw
open Go Ieee
set_option exponentiation.threshold 2200
structure InE (b : Nat) (X : Int) : Prop where
  v : V 1074 b X
  lo : (-1024) * U ≤ X
  hi : X ≤ 1024 * U
theorem InE.natAbs_lt {b : Nat} {X : Int} (h : InE b X) : X.natAbs < 2 ^ 1085 := by
  have h1 := h.lo
  have h2 := h.hi
  have hUn := U_nat
  have e : (2 : Nat) ^ 1085 = 2048 * 2 ^ 1074 := by rw [show (1085 : Nat) = 11 + 1074 by rfl, Nat.pow_add]
  have hp := Nat.two_pow_pos 1074
  rw [e]
  generalize (2 : Nat) ^ 1074 = W at *
  omega
theorem InE.mul {b : Nat} {X : Int} (h : InE b X) : ∃ y, D.mul b 4661225614328463360 = some y ∧ V 1074 y (X * 4096) := by
  have hn := h.natAbs_lt
  obtain ⟨r, k1, k2⟩ := V_scale (j := 12) h.v (c := 4661225614328463360) (by decide) (Nat.lt_of_lt_of_le hn (Nat.pow_le_pow_right (by decide) (by decide))) (by decide)
  exact ⟨r, k1, k2⟩
end Go.Fw

namespace Go.Fw
open Go Ieee
set_option exponentiation.threshold 2200
end Go.Fw

namespace Go.Fw
open Go Ieee
set_option exponentiation.threshold 2200
end Go.Fw

namespace Go.Fw
open Go Ieee
set_option exponentiation.threshold 2200
end Go.Fw

namespace Go.Fw
open Go Ieee
set_option exponentiation.threshold 2200
end Go.Fw

namespace Go.Fw
open Go Ieee
set_option exponentiation.threshold 2200
end Go.Fw

namespace Go.Fw
open Go Ieee
set_option exponentiation.threshold 2200
theorem bits_of {b : Nat} {s : Bool} {m : Nat} {P : Int} (hb : b < 18446744073709551616) (h : D.read b = .number s m P) :
    s = decide (9223372036854775808 ≤ b) ∧ b / 4503599627370496 % 2048 < 2047 ∧ ((b / 4503599627370496 % 2048 = 0 ∧ m = b % 4503599627370496 ∧ P = -1074) ∨ (0 < b / 4503599627370496 % 2048 ∧ m = 4503599627370496 + b % 4503599627370496 ∧ P = -1075 + (b / 4503599627370496 % 2048 : Nat))) := by
  unfold Format.read at h
  rw [d_sw, d_bin, d_inf, d_least] at h
  dsimp only at h
  have hs : ∀ x : Bool, (b / 9223372036854775808 % 2 == 1) = x → x = decide (9223372036854775808 ≤ b) := by
    intro x hx
    rw [← hx]
    by_cases q : 9223372036854775808 ≤ b
    · rw [decide_eq_true q, show b / 9223372036854775808 % 2 = 1 by omega]; rfl
    · rw [decide_eq_false q, show b / 9223372036854775808 % 2 = 0 by omega]; rfl
  split at h
  · injection h with h1 h2 h3
    exact ⟨hs _ h1, by omega, .inl ⟨by omega, by omega, h3.symm⟩⟩
  · split at h
    · injection h with h1 h2 h3
      exact ⟨hs _ h1, by omega, .inr ⟨by omega, by omega, by omega⟩⟩
    · split at h <;> cases h
end Go.Fw

namespace Go.Fw
open Go Ieee
set_option exponentiation.threshold 2200
/-- What compares as equal with a power of two that is told exactly is that float. -/
theorem eq_pow {b c : Nat} {P : Int} (hb : b < 18446744073709551616) (hc : c < 18446744073709551616) (h : D.read c = .number false 4503599627370496 P) (he : (D.order b c == some .eq) = true) : b = c := by
  have bc := bits_of hc h
  have hrc := read_bound h
  rcases hr : D.read b with ⟨s, m, Q⟩ | s | ⟨s, f⟩
  · have bb := bits_of hb hr
    have hrb := read_bound hr
    rw [V_eqb (V_fin hr) (V_fin h)] at he
    have he2 := of_decide_eq_true he
    clear he
    have sf : ∀ x y : Nat, signed false x y = (x : Int) * 2 ^ y := fun x y => by rw [signed_eq, if_neg (by decide), Int.one_mul]
    have st : ∀ x y : Nat, signed true x y = -((x : Int) * 2 ^ y) := fun x y => by rw [signed_eq, if_pos rfl, Int.neg_one_mul]
    have hpb := pow_pos' (Q + 1074).toNat
    have hpc := pow_pos' (P + 1074).toNat
    have hs : s = false := by
      cases s with
      | false => rfl
      | true =>
        exfalso
        rw [st, sf] at he2
        have h1 := Int.mul_nonneg (show (0 : Int) ≤ (m : Int) by omega) (Int.le_of_lt hpb)
        have h2 := Int.mul_pos (show (0 : Int) < ((4503599627370496 : Nat) : Int) by decide) hpc
        omega
    subst hs
    rw [sf, sf] at he2
    have heN : m * 2 ^ (Q + 1074).toNat = 4503599627370496 * 2 ^ (P + 1074).toNat := by
      have : ((m * 2 ^ (Q + 1074).toNat : Nat) : Int) = ((4503599627370496 * 2 ^ (P + 1074).toNat : Nat) : Int) := by
        rw [Int.natCast_mul, Int.natCast_mul, Int.natCast_pow, Int.natCast_pow]; exact he2
      exact Int.ofNat.inj this
    have hm : m = 4503599627370496 ∧ (Q + 1074).toNat = (P + 1074).toNat := by
      rcases Nat.lt_trichotomy (Q + 1074).toNat (P + 1074).toNat with q | q | q
      · exfalso
        obtain ⟨d, hd⟩ : ∃ d, (P + 1074).toNat = (Q + 1074).toNat + (d + 1) := ⟨(P + 1074).toNat - (Q + 1074).toNat - 1, by omega⟩
        rw [hd, Nat.pow_add, Nat.mul_comm (2 ^ (Q + 1074).toNat), ← Nat.mul_assoc] at heN
        have := Nat.eq_of_mul_eq_mul_right (Nat.two_pow_pos _) heN
        rw [Nat.pow_succ] at this
        have := Nat.two_pow_pos d
        have : 4503599627370496 * 1 ≤ 4503599627370496 * 2 ^ d := Nat.mul_le_mul_left _ this
        omega
      · rw [q] at heN
        exact ⟨Nat.eq_of_mul_eq_mul_right (Nat.two_pow_pos _) heN, q⟩
      · exfalso
        obtain ⟨d, hd⟩ : ∃ d, (Q + 1074).toNat = (P + 1074).toNat + (d + 1) := ⟨(Q + 1074).toNat - (P + 1074).toNat - 1, by omega⟩
        rw [hd, Nat.pow_add, Nat.mul_comm (2 ^ (P + 1074).toNat), ← Nat.mul_assoc] at heN
        have h2 := Nat.eq_of_mul_eq_mul_right (Nat.two_pow_pos _) heN
        rw [Nat.pow_succ] at h2
        have h3 := Nat.two_pow_pos d
        have h4 : m * 1 ≤ m * 2 ^ d := Nat.mul_le_mul_left _ h3
        have h5 : m * (2 ^ d * 2) = m * 2 ^ d * 2 := by rw [Nat.mul_assoc]
        rcases bb.2.2 with ⟨b1, b2, b3⟩ | ⟨b1, b2, b3⟩
        · omega
        · omega
    have hQP : Q = P := by omega
    obtain ⟨hm, _⟩ := hm
    subst hQP
    subst hm
    rcases bb with ⟨u1, u2, u3⟩
    rcases bc with ⟨w1, w2, w3⟩
    have u1 := of_decide_eq_false u1.symm
    have w1 := of_decide_eq_false w1.symm
    rcases u3 with ⟨a1, a2, a3⟩ | ⟨a1, a2, a3⟩
    · omega
    · rcases w3 with ⟨c1, c2, c3⟩ | ⟨c1, c2, c3⟩
      · omega
      · omega
  · unfold Format.order at he
    rw [hr, h] at he
    cases s <;> cases he
  · unfold Format.order at he
    rw [hr, h] at he
    cases he
end Go.Fw

set_option linter.unusedVariables false
set_option linter.unusedSimpArgs false
namespace Go.Proofs.Ytckkfpehpfdigaa
open Go Go.Fw
def tyL : List (Nat × TyI) := [
  (1, ⟨.func, 1, 8, .nilFunc⟩),
  (2, ⟨.int .i64, 1, 8, .int .i64 0⟩),
  (3, ⟨.int .i64, 1, 8, .int .i64 0⟩),
  (4, ⟨.bool, 1, 1, .bool false⟩),
  (5, ⟨.int .u8, 1, 1, .int .u8 0⟩),
  (9, ⟨.str, 1, 16, .string (ByteArray.mk #[])⟩),
  (12, ⟨.int .u64, 1, 8, .int .u64 0⟩),
  (21, ⟨.int .i32, 1, 4, .int .i32 0⟩),
  (22, ⟨.float .f64, 1, 8, .float .f64 0⟩),
  (23, ⟨.struct [(0, 3), (1, 3), (2, 4), (3, 22), (4, 5)], 5, 40, .agg #[.int .i64 0, .int .i64 0, .bool false, .float .f64 0, .int .u8 0]⟩),
  (24, ⟨.struct [(0, 3), (1, 3), (2, 4), (3, 22), (4, 5)], 5, 40, .agg #[.int .i64 0, .int .i64 0, .bool false, .float .f64 0, .int .u8 0]⟩),
  (25, ⟨.cpx .f64, 1, 16, .complex .f64 0 0⟩),
  (26, ⟨.struct [(0, 25), (1, 4)], 2, 24, .agg #[.complex .f64 0 0, .bool false]⟩),
  (27, ⟨.struct [(0, 25), (1, 4)], 2, 24, .agg #[.complex .f64 0 0, .bool false]⟩),
  (28, ⟨.slice 27, 1, 24, .slice none 0 0⟩),
  (29, ⟨.func, 1, 8, .nilFunc⟩),
  (30, ⟨.slice 24, 1, 24, .slice none 0 0⟩),
  (31, ⟨.struct [(0, 3), (1, 22), (2, 3)], 3, 24, .agg #[.int .i64 0, .float .f64 0, .int .i64 0]⟩),
  (32, ⟨.struct [(0, 3), (1, 22), (2, 3)], 3, 24, .agg #[.int .i64 0, .float .f64 0, .int .i64 0]⟩),
  (33, ⟨.int .i64, 1, 8, .int .i64 0⟩),
  (35, ⟨.func, 1, 8, .nilFunc⟩),
  (36, ⟨.func, 1, 8, .nilFunc⟩),
  (37, ⟨.func, 1, 8, .nilFunc⟩),
  (39, ⟨.func, 1, 8, .nilFunc⟩),
  (40, ⟨.func, 1, 8, .nilFunc⟩),
  (41, ⟨.func, 1, 8, .nilFunc⟩),
  (42, ⟨.func, 1, 8, .nilFunc⟩),
  (43, ⟨.func, 1, 8, .nilFunc⟩),
  (45, ⟨.func, 1, 8, .nilFunc⟩),
  (46, ⟨.func, 1, 8, .nilFunc⟩),
  (47, ⟨.func, 1, 8, .nilFunc⟩),
  (48, ⟨.func, 1, 8, .nilFunc⟩),
  (49, ⟨.int .u64, 1, 8, .int .u64 0⟩),
  (50, ⟨.func, 1, 8, .nilFunc⟩),
  (51, ⟨.func, 1, 8, .nilFunc⟩),
  (57, ⟨.func, 1, 8, .nilFunc⟩),
  (58, ⟨.int .u32, 1, 4, .int .u32 0⟩),
  (61, ⟨.func, 1, 8, .nilFunc⟩),
  (62, ⟨.ptr 5, 1, 8, .pointer none⟩)]
theorem tokL : TOk Try.prog tyL := tokl_of ⟨⟨by kernel_rfl, by kernel_rfl⟩, ⟨by kernel_rfl, by kernel_rfl⟩, ⟨by kernel_rfl, by kernel_rfl⟩, ⟨by kernel_rfl, by kernel_rfl⟩, ⟨by kernel_rfl, by kernel_rfl⟩, ⟨by kernel_rfl, by kernel_rfl⟩, ⟨by kernel_rfl, by kernel_rfl⟩, ⟨by kernel_rfl, by kernel_rfl⟩, ⟨by kernel_rfl, by kernel_rfl⟩, ⟨by kernel_rfl, by kernel_rfl⟩, ⟨by kernel_rfl, by kernel_rfl⟩, ⟨by kernel_rfl, by kernel_rfl⟩, ⟨by kernel_rfl, by kernel_rfl⟩, ⟨by kernel_rfl, by kernel_rfl⟩, ⟨by kernel_rfl, by kernel_rfl⟩, ⟨by kernel_rfl, by kernel_rfl⟩, ⟨by kernel_rfl, by kernel_rfl⟩, ⟨by kernel_rfl, by kernel_rfl⟩, ⟨by kernel_rfl, by kernel_rfl⟩, ⟨by kernel_rfl, by kernel_rfl⟩, ⟨by kernel_rfl, by kernel_rfl⟩, ⟨by kernel_rfl, by kernel_rfl⟩, ⟨by kernel_rfl, by kernel_rfl⟩, ⟨by kernel_rfl, by kernel_rfl⟩, ⟨by kernel_rfl, by kernel_rfl⟩, ⟨by kernel_rfl, by kernel_rfl⟩, ⟨by kernel_rfl, by kernel_rfl⟩, ⟨by kernel_rfl, by kernel_rfl⟩, ⟨by kernel_rfl, by kernel_rfl⟩, ⟨by kernel_rfl, by kernel_rfl⟩, ⟨by kernel_rfl, by kernel_rfl⟩, ⟨by kernel_rfl, by kernel_rfl⟩, ⟨by kernel_rfl, by kernel_rfl⟩, ⟨by kernel_rfl, by kernel_rfl⟩, ⟨by kernel_rfl, by kernel_rfl⟩, ⟨by kernel_rfl, by kernel_rfl⟩, ⟨by kernel_rfl, by kernel_rfl⟩, ⟨by kernel_rfl, by kernel_rfl⟩, ⟨by kernel_rfl, by kernel_rfl⟩, True.intro⟩
theorem mixedL : Try.prog.follows .mixedOrders = true := by kernel_rfl
theorem i64max : IntKind.i64.max = 9223372036854775807 := rfl
theorem u8max : IntKind.u8.max = 255 := rfl
theorem u16max : IntKind.u16.max = 65535 := rfl
theorem u32max : IntKind.u32.max = 4294967295 := rfl
theorem u64max : IntKind.u64.max = 18446744073709551615 := rfl
def numOut (D : List Seg) (x : AV) : FOut := ⟨Unit, fun _ => True, fun _ => x, fun _ => D⟩
def qf : Nat → Bool := fun f => match f with | 13 => true | 8 => true | 3000022 => true | _ => false
def cfgh (k : Nat) : Cfg := { T := tyL, sgn := fun _ => true, wr := fun i => Nat.beq i 3, k := k, q := qf }
theorem nan_any {op : BinOp} {a b : Nat} {Q : Nat → Prop} (h : ∀ r, r < 18446744073709551616 → Q r) (ho : op = .add ∨ op = .sub ∨ op = .mul ∨ op = .quo) : (∃ r, floatBits op .f64 a b = some r ∧ Q r) ∨ (floatBits op .f64 a b = none ∧ ∀ r s f, FloatKind.f64.format.read r = .nan s f → r < 18446744073709551616 → Q r) := by
  cases e : floatBits op .f64 a b with
  | none => exact .inr ⟨rfl, fun r _ _ _ w => h r w⟩
  | some r =>
    refine .inl ⟨r, rfl, h r ?_⟩
    unfold floatBits at e
    rcases ho with rfl | rfl | rfl | rfl
    · exact Ieee.Format.add_lt D e
    · exact Ieee.Format.sub_lt D e
    · exact Ieee.Format.mul_lt D e
    · exact Ieee.Format.div_lt D e
/-- A product, as an outcome. -/
def Mu (a b r : Nat) : Prop := floatBits .mul .f64 a b = some r ∨ (floatBits .mul .f64 a b = none ∧ ∃ s f, FloatKind.f64.format.read r = .nan s f)
theorem nan_mu {a b : Nat} {Q : Nat → Prop} (h : ∀ r, Mu a b r → Q r) : (∃ r, floatBits .mul .f64 a b = some r ∧ Q r) ∨ (floatBits .mul .f64 a b = none ∧ ∀ r s f, FloatKind.f64.format.read r = .nan s f → r < 18446744073709551616 → Q r) := by
  cases e : floatBits .mul .f64 a b with
  | none => exact .inr ⟨rfl, fun r s f n _ => h r (.inr ⟨e, s, f, n⟩)⟩
  | some r => exact .inl ⟨r, rfl, h r (.inl e)⟩
theorem nan_ne {r c : Nat} {s : Bool} {f : Nat} (h : FloatKind.f64.format.read r = .nan s f) : (FloatKind.f64.format.order r c == some .eq) = false := by
  unfold Ieee.Format.order
  rw [h]
  cases FloatKind.f64.format.read c <;> rfl
theorem Mu_alike {a b r t : Nat} (h : Mu a b r) (h' : Mu a b t) : (FloatKind.f64.format.order r t == some .eq) = true ∨ ((FloatKind.f64.format.order r r == some .eq) = false ∧ (FloatKind.f64.format.order t t == some .eq) = false) := by
  rcases h with h | ⟨h, s, f, n⟩
  · rcases h' with h' | ⟨h', _⟩
    · rw [h] at h'
      cases h'
      cases q : (FloatKind.f64.format.order r r == some .eq)
      · exact .inr ⟨rfl, rfl⟩
      · exact .inl rfl
    · rw [h] at h'; cases h'
  · rcases h' with h' | ⟨h', s', f', n'⟩
    · rw [h] at h'; cases h'
    · exact .inr ⟨nan_ne n, nan_ne n'⟩
def ng (x : Nat) : Nat := Op.negFloat .f64 x
theorem ng_ng (x : Nat) : ng (ng x) = x := by unfold ng Op.negFloat; rw [Nat.xor_assoc, Nat.xor_self, Nat.xor_zero]
def trn (q : Nat) (p : Nat × Nat) : Nat × Nat := match q with | 0 => p | 1 => (ng p.2, p.1) | 2 => (ng p.1, ng p.2) | _ => (p.2, ng p.1)
theorem and3 (n : Int) : rawBits .and .i64 n 3 = n % 4 := by
  show IntKind.i64.wrap ((BitVec.ofInt 64 n &&& BitVec.ofInt 64 3).toNat : Int) = n % 4
  have e : (BitVec.ofInt 64 n &&& BitVec.ofInt 64 3).toNat = (n % 4).toNat := by
    rw [BitVec.toNat_and, BitVec.toNat_ofInt, BitVec.toNat_ofInt]
    rw [show ((3 : Int) % ((2 ^ 64 : Nat) : Int)).toNat = 2 ^ 2 - 1 by decide, Nat.and_two_pow_sub_one_eq_mod]
    show (n % 18446744073709551616).toNat % 4 = _
    omega
  rw [e]
  unfold IntKind.wrap
  have : 0 ≤ n % 4 ∧ n % 4 < 4 := by omega
  simp [IntKind.bits, IntKind.signed]
  omega
noncomputable def k13 : Code := (Try.f13.body).getD .skip
attribute [local irreducible] rawBits
set_option maxHeartbeats 0 in
set_option maxRecDepth 100000 in
theorem Turn_q (p : Nat × Nat) (n : Int) (q : Nat) (hq : n % 4 = (q : Int)) : QFits Try.prog 13 ⟨[.cpx .f64 p.1 p.2, .int .i64 n], [], .cpx .f64 (trn q p).1 (trn q p).2⟩ := by
  refine qfits_of_body (C := { T := tyL, sgn := fun _ => true, wr := fun _ => false, k := 0, q := qf }) (c := k13) (ts := [4]) tokL mixedL (fun _ => none) (fun _ => none)
    Try.func13 (by kernel_rfl) (by kernel_rfl) (by kernel_rfl) (by kernel_rfl) (by kernel_rfl) rfl rfl ?_
  conv => whnf
  have ha := and3 n
  generalize rawBits .and .i64 n 3 = t at *
  rw [hq] at ha
  subst ha
  obtain rfl | rfl | rfl | rfl : q = 0 ∨ q = 1 ∨ q = 2 ∨ q = 3 := by omega
  all_goals (
    conv => whnf
    repeat (first
      | (refine And.intro ?_ ?_; (focus (first | omega | decide | exact EqOk.mk (by kernel_rfl) (by kernel_rfl) (by kernel_rfl) | exact Int.natCast_nonneg _ | ((repeat' refine And.intro ?_ ?_) <;> first | omega | exact Int.natCast_nonneg _ | (simp only [i64max, u8max, u16max, u32max, u64max]; omega) | (simp only [mulSz_eq, Cont.len, colsLen, Col.len, List.length_cons, List.length_nil, List.length_replicate, List.length_append]; first | done | omega) | (simp [mulSz, Cont.len, bne]; first | done | omega)))); conv => whnf)
      | (refine tst_in ?_ ?_; (focus (intro h_; exfalso; first | omega | ((try simp only [decide_eq_true_eq, decide_eq_false_iff_not] at h_); omega) | (simp [mulSz, Cont.len, bne] at h_; first | done | omega))); intro _; conv => whnf)
      | (refine tst_in ?_ ?_; rotate_left; (focus (intro h_; exfalso; first | omega | ((try simp only [decide_eq_true_eq, decide_eq_false_iff_not] at h_); omega) | (simp [mulSz, Cont.len, bne] at h_; first | done | omega))); intro _; conv => whnf)
      | (refine ⟨0, (show _ = _ by omega), ?_⟩; conv => whnf))
    exact ⟨rfl, rfl⟩
  )

set_option maxHeartbeats 0 in
set_option maxRecDepth 100000 in
theorem alike_q (a b : Nat) (h : (FloatKind.f64.format.order a b == some .eq) = true ∨ ((FloatKind.f64.format.order a a == some .eq) = false ∧ (FloatKind.f64.format.order b b == some .eq) = false)) : QFits Try.prog 8 ⟨[.flt .f64 a, .flt .f64 b], [], .bool true⟩ := by
  refine qfits_of_body (C := cfgh 0) (c := (Try.f8.body).getD .skip) (ts := [4]) tokL mixedL (fun _ => none) (fun _ => none)
    Try.func8 (by kernel_rfl) (by kernel_rfl) (by kernel_rfl) (by kernel_rfl) (by kernel_rfl) rfl rfl ?_
  conv => whnf
  repeat (first
    | (refine And.intro ?_ ?_; (focus (first | omega | decide | exact EqOk.mk (by kernel_rfl) (by kernel_rfl) (by kernel_rfl) | exact Int.natCast_nonneg _ | ((repeat' refine And.intro ?_ ?_) <;> first | omega | exact Int.natCast_nonneg _ | (simp only [i64max, u8max, u16max, u32max, u64max]; omega) | (simp only [mulSz_eq, Cont.len, colsLen, Col.len, List.length_cons, List.length_nil, List.length_replicate, List.length_append]; first | done | omega) | (simp [mulSz, Cont.len, bne]; first | done | omega)))); conv => whnf)
    | (refine tst_in ?_ ?_; (focus (intro h_; exfalso; first | omega | ((try simp only [decide_eq_true_eq, decide_eq_false_iff_not] at h_); omega) | (simp [mulSz, Cont.len, bne] at h_; first | done | omega))); intro _; conv => whnf)
    | (refine tst_in ?_ ?_; rotate_left; (focus (intro h_; exfalso; first | omega | ((try simp only [decide_eq_true_eq, decide_eq_false_iff_not] at h_); omega) | (simp [mulSz, Cont.len, bne] at h_; first | done | omega))); intro _; conv => whnf)
    | (refine ⟨0, (show _ = _ by omega), ?_⟩; conv => whnf))
  refine tst_in (fun u => ?_) (fun u => ?_)
  · conv => whnf
    repeat (first
      | (refine And.intro ?_ ?_; (focus (first | omega | decide | exact EqOk.mk (by kernel_rfl) (by kernel_rfl) (by kernel_rfl) | exact Int.natCast_nonneg _ | ((repeat' refine And.intro ?_ ?_) <;> first | omega | exact Int.natCast_nonneg _ | (simp only [i64max, u8max, u16max, u32max, u64max]; omega) | (simp only [mulSz_eq, Cont.len, colsLen, Col.len, List.length_cons, List.length_nil, List.length_replicate, List.length_append]; first | done | omega) | (simp [mulSz, Cont.len, bne]; first | done | omega)))); conv => whnf)
      | (refine tst_in ?_ ?_; (focus (intro h_; exfalso; first | omega | ((try simp only [decide_eq_true_eq, decide_eq_false_iff_not] at h_); omega) | (simp [mulSz, Cont.len, bne] at h_; first | done | omega))); intro _; conv => whnf)
      | (refine tst_in ?_ ?_; rotate_left; (focus (intro h_; exfalso; first | omega | ((try simp only [decide_eq_true_eq, decide_eq_false_iff_not] at h_); omega) | (simp [mulSz, Cont.len, bne] at h_; first | done | omega))); intro _; conv => whnf)
      | (refine ⟨0, (show _ = _ by omega), ?_⟩; conv => whnf))
  · have h2 := h.resolve_left (by rw [u]; decide)
    conv => whnf
    repeat (first
      | (refine And.intro ?_ ?_; (focus (first | omega | decide | exact EqOk.mk (by kernel_rfl) (by kernel_rfl) (by kernel_rfl) | exact Int.natCast_nonneg _ | ((repeat' refine And.intro ?_ ?_) <;> first | omega | exact Int.natCast_nonneg _ | (simp only [i64max, u8max, u16max, u32max, u64max]; omega) | (simp only [mulSz_eq, Cont.len, colsLen, Col.len, List.length_cons, List.length_nil, List.length_replicate, List.length_append]; first | done | omega) | (simp [mulSz, Cont.len, bne]; first | done | omega)))); conv => whnf)
      | (refine tst_in ?_ ?_; (focus (intro h_; exfalso; first | omega | ((try simp only [decide_eq_true_eq, decide_eq_false_iff_not] at h_); omega) | (simp [mulSz, Cont.len, bne] at h_; first | done | omega))); intro _; conv => whnf)
      | (refine tst_in ?_ ?_; rotate_left; (focus (intro h_; exfalso; first | omega | ((try simp only [decide_eq_true_eq, decide_eq_false_iff_not] at h_); omega) | (simp [mulSz, Cont.len, bne] at h_; first | done | omega))); intro _; conv => whnf)
      | (refine ⟨0, (show _ = _ by omega), ?_⟩; conv => whnf))
    refine tst_in (fun u2 => ?_) (fun u2 => ?_)
    · conv => whnf
      repeat (first
        | (refine And.intro ?_ ?_; (focus (first | omega | decide | exact EqOk.mk (by kernel_rfl) (by kernel_rfl) (by kernel_rfl) | exact Int.natCast_nonneg _ | ((repeat' refine And.intro ?_ ?_) <;> first | omega | exact Int.natCast_nonneg _ | (simp only [i64max, u8max, u16max, u32max, u64max]; omega) | (simp only [mulSz_eq, Cont.len, colsLen, Col.len, List.length_cons, List.length_nil, List.length_replicate, List.length_append]; first | done | omega) | (simp [mulSz, Cont.len, bne]; first | done | omega)))); conv => whnf)
        | (refine tst_in ?_ ?_; (focus (intro h_; exfalso; first | omega | ((try simp only [decide_eq_true_eq, decide_eq_false_iff_not] at h_); omega) | (simp [mulSz, Cont.len, bne] at h_; first | done | omega))); intro _; conv => whnf)
        | (refine tst_in ?_ ?_; rotate_left; (focus (intro h_; exfalso; first | omega | ((try simp only [decide_eq_true_eq, decide_eq_false_iff_not] at h_); omega) | (simp [mulSz, Cont.len, bne] at h_; first | done | omega))); intro _; conv => whnf)
        | (refine ⟨0, (show _ = _ by omega), ?_⟩; conv => whnf))
      rw [bne, h2.2]; rfl
    · exfalso
      rw [bne, h2.1] at u2
      cases u2
def fdA (a : Int) (s : Nat) (q : Int) : AV := .agg [.int .i64 a, .flt .f64 s, .int .i64 q]
def undOut (p : Nat × Nat) (t : Nat) : FOut := ⟨Nat × Nat, fun r => Mu p.1 t r.1 ∧ Mu p.2 t r.2, fun r => .tup [.cpx .f64 r.1 r.2, .int .i64 0], fun _ => []⟩
def errOut : FOut := numOut [] (.tup [.cpx .f64 0 0, .int .i64 1])
def szT (s t : Nat) : Prop := (s = 4607182418800017408 ∧ t = 4607182418800017408) ∨ (s = 4602678819172646912 ∧ t = 4611686018427387904) ∨ (s = 4598175219545276416 ∧ t = 4616189618054758400)
set_option maxHeartbeats 0 in
set_option maxRecDepth 100000 in
theorem Undo_y (p : Nat × Nat) (a q : Int) (s t k : Nat) (hs : szT s t) (hk : (-q) % 4 = (k : Int)) : Fits Try.prog 6 ⟨[.cpx .f64 p.1 p.2, fdA a s q], [], [undOut (trn k p) t]⟩ := by
  have TQ := Turn_q p (IntKind.i64.wrap (0 - q)) k (by
    have : IntKind.i64.wrap (0 - q) % 4 = (0 - q) % 4 := by
      unfold IntKind.wrap; simp [IntKind.bits, IntKind.signed]; omega
    rw [this]; omega)
  have hq : floatBits BinOp.quo FloatKind.f64 4607182418800017408 s = some t := by
    rcases hs with ⟨rfl, rfl⟩ | ⟨rfl, rfl⟩ | ⟨rfl, rfl⟩ <;> decide +kernel
  unfold fdA undOut
  obtain ⟨x, y⟩ := p
  generalize (trn k (x, y)) = z at *
  obtain ⟨u, v⟩ := z
  refine fits_of_body (C := cfgh 0) (c := (Try.f6.body).getD .skip) (ts := [4, 5]) tokL mixedL (fun _ => none) (fun _ => none)
    Try.func6 (by kernel_rfl) (by kernel_rfl) (by kernel_rfl) (by kernel_rfl) rfl ?_
  rcases hs with ⟨rfl, rfl⟩ | ⟨rfl, rfl⟩ | ⟨rfl, rfl⟩
  all_goals (
    conv => whnf
    repeat (first
      | (refine And.intro ?_ ?_; (focus (first | omega | decide | exact EqOk.mk (by kernel_rfl) (by kernel_rfl) (by kernel_rfl) | exact Int.natCast_nonneg _ | ((repeat' refine And.intro ?_ ?_) <;> first | omega | exact Int.natCast_nonneg _ | (simp only [i64max, u8max, u16max, u32max, u64max]; omega) | (simp only [mulSz_eq, Cont.len, colsLen, Col.len, List.length_cons, List.length_nil, List.length_replicate, List.length_append]; first | done | omega) | (simp [mulSz, Cont.len, bne]; first | done | omega)))); conv => whnf)
      | (refine tst_in ?_ ?_; (focus (intro h_; exfalso; first | omega | ((try simp only [decide_eq_true_eq, decide_eq_false_iff_not] at h_); omega) | (simp [mulSz, Cont.len, bne] at h_; first | done | omega))); intro _; conv => whnf)
      | (refine tst_in ?_ ?_; rotate_left; (focus (intro h_; exfalso; first | omega | ((try simp only [decide_eq_true_eq, decide_eq_false_iff_not] at h_); omega) | (simp [mulSz, Cont.len, bne] at h_; first | done | omega))); intro _; conv => whnf)
      | (refine ⟨0, (show _ = _ by omega), ?_⟩; conv => whnf))
    refine ⟨_, [], TQ, ?_⟩
    conv => whnf
    iterate 2
     refine And.intro ?_ ?_
     focus
      conv => whnf
      repeat' (first | exact True.intro | rfl | refine And.intro ?_ ?_ | omega)
      all_goals (conv => whnf)
      all_goals (try (first | rfl | omega | (simp; done)))
    conv => whnf
    conv => whnf
    repeat (first
      | (refine And.intro ?_ ?_; (focus (first | omega | decide | exact EqOk.mk (by kernel_rfl) (by kernel_rfl) (by kernel_rfl) | exact Int.natCast_nonneg _ | ((repeat' refine And.intro ?_ ?_) <;> first | omega | exact Int.natCast_nonneg _ | (simp only [i64max, u8max, u16max, u32max, u64max]; omega) | (simp only [mulSz_eq, Cont.len, colsLen, Col.len, List.length_cons, List.length_nil, List.length_replicate, List.length_append]; first | done | omega) | (simp [mulSz, Cont.len, bne]; first | done | omega)))); conv => whnf)
      | (refine tst_in ?_ ?_; (focus (intro h_; exfalso; first | omega | ((try simp only [decide_eq_true_eq, decide_eq_false_iff_not] at h_); omega) | (simp [mulSz, Cont.len, bne] at h_; first | done | omega))); intro _; conv => whnf)
      | (refine tst_in ?_ ?_; rotate_left; (focus (intro h_; exfalso; first | omega | ((try simp only [decide_eq_true_eq, decide_eq_false_iff_not] at h_); omega) | (simp [mulSz, Cont.len, bne] at h_; first | done | omega))); intro _; conv => whnf)
      | (refine ⟨0, (show _ = _ by omega), ?_⟩; conv => whnf))
    refine .inl ⟨_, hq, ?_⟩
    conv => whnf
    repeat (first
      | (refine And.intro ?_ ?_; (focus (first | omega | decide | exact EqOk.mk (by kernel_rfl) (by kernel_rfl) (by kernel_rfl) | exact Int.natCast_nonneg _ | ((repeat' refine And.intro ?_ ?_) <;> first | omega | exact Int.natCast_nonneg _ | (simp only [i64max, u8max, u16max, u32max, u64max]; omega) | (simp only [mulSz_eq, Cont.len, colsLen, Col.len, List.length_cons, List.length_nil, List.length_replicate, List.length_append]; first | done | omega) | (simp [mulSz, Cont.len, bne]; first | done | omega)))); conv => whnf)
      | (refine tst_in ?_ ?_; (focus (intro h_; exfalso; first | omega | ((try simp only [decide_eq_true_eq, decide_eq_false_iff_not] at h_); omega) | (simp [mulSz, Cont.len, bne] at h_; first | done | omega))); intro _; conv => whnf)
      | (refine tst_in ?_ ?_; rotate_left; (focus (intro h_; exfalso; first | omega | ((try simp only [decide_eq_true_eq, decide_eq_false_iff_not] at h_); omega) | (simp [mulSz, Cont.len, bne] at h_; first | done | omega))); intro _; conv => whnf)
      | (refine ⟨0, (show _ = _ by omega), ?_⟩; conv => whnf))
    refine nan_mu (fun r1 h1 => ?_)
    conv => whnf
    repeat (first
      | (refine And.intro ?_ ?_; (focus (first | omega | decide | exact EqOk.mk (by kernel_rfl) (by kernel_rfl) (by kernel_rfl) | exact Int.natCast_nonneg _ | ((repeat' refine And.intro ?_ ?_) <;> first | omega | exact Int.natCast_nonneg _ | (simp only [i64max, u8max, u16max, u32max, u64max]; omega) | (simp only [mulSz_eq, Cont.len, colsLen, Col.len, List.length_cons, List.length_nil, List.length_replicate, List.length_append]; first | done | omega) | (simp [mulSz, Cont.len, bne]; first | done | omega)))); conv => whnf)
      | (refine tst_in ?_ ?_; (focus (intro h_; exfalso; first | omega | ((try simp only [decide_eq_true_eq, decide_eq_false_iff_not] at h_); omega) | (simp [mulSz, Cont.len, bne] at h_; first | done | omega))); intro _; conv => whnf)
      | (refine tst_in ?_ ?_; rotate_left; (focus (intro h_; exfalso; first | omega | ((try simp only [decide_eq_true_eq, decide_eq_false_iff_not] at h_); omega) | (simp [mulSz, Cont.len, bne] at h_; first | done | omega))); intro _; conv => whnf)
      | (refine ⟨0, (show _ = _ by omega), ?_⟩; conv => whnf))
    refine nan_mu (fun r2 h2 => ?_)
    conv => whnf
    repeat (first
      | (refine And.intro ?_ ?_; (focus (first | omega | decide | exact EqOk.mk (by kernel_rfl) (by kernel_rfl) (by kernel_rfl) | exact Int.natCast_nonneg _ | ((repeat' refine And.intro ?_ ?_) <;> first | omega | exact Int.natCast_nonneg _ | (simp only [i64max, u8max, u16max, u32max, u64max]; omega) | (simp only [mulSz_eq, Cont.len, colsLen, Col.len, List.length_cons, List.length_nil, List.length_replicate, List.length_append]; first | done | omega) | (simp [mulSz, Cont.len, bne]; first | done | omega)))); conv => whnf)
      | (refine tst_in ?_ ?_; (focus (intro h_; exfalso; first | omega | ((try simp only [decide_eq_true_eq, decide_eq_false_iff_not] at h_); omega) | (simp [mulSz, Cont.len, bne] at h_; first | done | omega))); intro _; conv => whnf)
      | (refine tst_in ?_ ?_; rotate_left; (focus (intro h_; exfalso; first | omega | ((try simp only [decide_eq_true_eq, decide_eq_false_iff_not] at h_); omega) | (simp [mulSz, Cont.len, bne] at h_; first | done | omega))); intro _; conv => whnf)
      | (refine ⟨0, (show _ = _ by omega), ?_⟩; conv => whnf))
    refine .inl ⟨(r1, r2), [], ?_⟩
    conv => whnf
    repeat' (first | exact True.intro | rfl | refine And.intro ?_ ?_)
    all_goals (conv => whnf)
    repeat' (first | exact True.intro | rfl | refine And.intro ?_ ?_)
    all_goals (try omega)
    · exact h1
    · exact h2
  )
/-- No size that is told. -/
structure szN (s : Nat) : Prop where
  a : (FloatKind.f64.format.order s 4607182418800017408 == some .eq) = false
  b : (FloatKind.f64.format.order s 4602678819172646912 == some .eq) = false
  c : (FloatKind.f64.format.order s 4598175219545276416 == some .eq) = false
set_option maxHeartbeats 0 in
set_option maxRecDepth 100000 in
theorem Undo_n (p : Nat × Nat) (a q : Int) (s : Nat) (hs : szN s) : Fits Try.prog 6 ⟨[.cpx .f64 p.1 p.2, fdA a s q], [], [errOut]⟩ := by
  unfold fdA errOut
  obtain ⟨x, y⟩ := p
  refine fits_of_body (C := cfgh 0) (c := (Try.f6.body).getD .skip) (ts := [4, 5]) tokL mixedL (fun _ => none) (fun _ => none)
    Try.func6 (by kernel_rfl) (by kernel_rfl) (by kernel_rfl) (by kernel_rfl) rfl ?_
  conv => whnf
  repeat (first
    | (refine And.intro ?_ ?_; (focus (first | omega | decide | exact EqOk.mk (by kernel_rfl) (by kernel_rfl) (by kernel_rfl) | exact Int.natCast_nonneg _ | ((repeat' refine And.intro ?_ ?_) <;> first | omega | exact Int.natCast_nonneg _ | (simp only [i64max, u8max, u16max, u32max, u64max]; omega) | (simp only [mulSz_eq, Cont.len, colsLen, Col.len, List.length_cons, List.length_nil, List.length_replicate, List.length_append]; first | done | omega) | (simp [mulSz, Cont.len, bne]; first | done | omega)))); conv => whnf)
    | (refine tst_in ?_ ?_; (focus (intro h_; exfalso; first | omega | ((try simp only [decide_eq_true_eq, decide_eq_false_iff_not] at h_); omega) | (simp [mulSz, Cont.len, bne] at h_; first | done | omega))); intro _; conv => whnf)
    | (refine tst_in ?_ ?_; rotate_left; (focus (intro h_; exfalso; first | omega | ((try simp only [decide_eq_true_eq, decide_eq_false_iff_not] at h_); omega) | (simp [mulSz, Cont.len, bne] at h_; first | done | omega))); intro _; conv => whnf)
    | (refine ⟨0, (show _ = _ by omega), ?_⟩; conv => whnf))
  refine tst_in (fun u => ?_) (fun u => absurd u (by rw [bne, hs.a]; decide))
  conv => whnf
  repeat (first
    | (refine And.intro ?_ ?_; (focus (first | omega | decide | exact EqOk.mk (by kernel_rfl) (by kernel_rfl) (by kernel_rfl) | exact Int.natCast_nonneg _ | ((repeat' refine And.intro ?_ ?_) <;> first | omega | exact Int.natCast_nonneg _ | (simp only [i64max, u8max, u16max, u32max, u64max]; omega) | (simp only [mulSz_eq, Cont.len, colsLen, Col.len, List.length_cons, List.length_nil, List.length_replicate, List.length_append]; first | done | omega) | (simp [mulSz, Cont.len, bne]; first | done | omega)))); conv => whnf)
    | (refine tst_in ?_ ?_; (focus (intro h_; exfalso; first | omega | ((try simp only [decide_eq_true_eq, decide_eq_false_iff_not] at h_); omega) | (simp [mulSz, Cont.len, bne] at h_; first | done | omega))); intro _; conv => whnf)
    | (refine tst_in ?_ ?_; rotate_left; (focus (intro h_; exfalso; first | omega | ((try simp only [decide_eq_true_eq, decide_eq_false_iff_not] at h_); omega) | (simp [mulSz, Cont.len, bne] at h_; first | done | omega))); intro _; conv => whnf)
    | (refine ⟨0, (show _ = _ by omega), ?_⟩; conv => whnf))
  refine tst_in (fun u => ?_) (fun u => absurd u (by rw [bne, hs.b]; decide))
  conv => whnf
  repeat (first
    | (refine And.intro ?_ ?_; (focus (first | omega | decide | exact EqOk.mk (by kernel_rfl) (by kernel_rfl) (by kernel_rfl) | exact Int.natCast_nonneg _ | ((repeat' refine And.intro ?_ ?_) <;> first | omega | exact Int.natCast_nonneg _ | (simp only [i64max, u8max, u16max, u32max, u64max]; omega) | (simp only [mulSz_eq, Cont.len, colsLen, Col.len, List.length_cons, List.length_nil, List.length_replicate, List.length_append]; first | done | omega) | (simp [mulSz, Cont.len, bne]; first | done | omega)))); conv => whnf)
    | (refine tst_in ?_ ?_; (focus (intro h_; exfalso; first | omega | ((try simp only [decide_eq_true_eq, decide_eq_false_iff_not] at h_); omega) | (simp [mulSz, Cont.len, bne] at h_; first | done | omega))); intro _; conv => whnf)
    | (refine tst_in ?_ ?_; rotate_left; (focus (intro h_; exfalso; first | omega | ((try simp only [decide_eq_true_eq, decide_eq_false_iff_not] at h_); omega) | (simp [mulSz, Cont.len, bne] at h_; first | done | omega))); intro _; conv => whnf)
    | (refine ⟨0, (show _ = _ by omega), ?_⟩; conv => whnf))
  refine tst_in (fun u => ?_) (fun u => absurd u (by rw [bne, hs.c]; decide))
  conv => whnf
  repeat (first
    | (refine And.intro ?_ ?_; (focus (first | omega | decide | exact EqOk.mk (by kernel_rfl) (by kernel_rfl) (by kernel_rfl) | exact Int.natCast_nonneg _ | ((repeat' refine And.intro ?_ ?_) <;> first | omega | exact Int.natCast_nonneg _ | (simp only [i64max, u8max, u16max, u32max, u64max]; omega) | (simp only [mulSz_eq, Cont.len, colsLen, Col.len, List.length_cons, List.length_nil, List.length_replicate, List.length_append]; first | done | omega) | (simp [mulSz, Cont.len, bne]; first | done | omega)))); conv => whnf)
    | (refine tst_in ?_ ?_; (focus (intro h_; exfalso; first | omega | ((try simp only [decide_eq_true_eq, decide_eq_false_iff_not] at h_); omega) | (simp [mulSz, Cont.len, bne] at h_; first | done | omega))); intro _; conv => whnf)
    | (refine tst_in ?_ ?_; rotate_left; (focus (intro h_; exfalso; first | omega | ((try simp only [decide_eq_true_eq, decide_eq_false_iff_not] at h_); omega) | (simp [mulSz, Cont.len, bne] at h_; first | done | omega))); intro _; conv => whnf)
    | (refine ⟨0, (show _ = _ by omega), ?_⟩; conv => whnf))
  refine .inl ⟨(), [], ?_⟩
  conv => whnf
  repeat' (first | exact True.intro | rfl | refine And.intro ?_ ?_)
  all_goals (conv => whnf)
  repeat' (first | exact True.intro | rfl | refine And.intro ?_ ?_)
  all_goals (try omega)
def st14 (x y t : Nat) (n : Int) (i : Nat) : St := ⟨slotsAt 47 [(0, .cpx .f64 (trn ((4 - i) % 4) (x, y)).1 (trn ((4 - i) % 4) (x, y)).2), (6, .flt .f64 t), (7, .int .i64 n), (8, .int .i64 i)], []⟩
def inv14 (x y t n : Nat) : LInv := ⟨Nat, fun i => st14 x y t n i, fun i => i ≤ n, fun i => n - i⟩
theorem trn_step (x y i : Nat) (hi : i < 3) : trn ((4 - (i + 1)) % 4) (x, y) = ((trn ((4 - i) % 4) (x, y)).2, ng (trn ((4 - i) % 4) (x, y)).1) := by
  obtain rfl | rfl | rfl : i = 0 ∨ i = 1 ∨ i = 2 := by omega
  · rfl
  · rfl
  · show (ng y, x) = (ng y, ng (ng x))
    rw [ng_ng]
set_option maxHeartbeats 0 in
set_option maxRecDepth 100000 in
theorem rUndo_y (p : Nat × Nat) (a q : Int) (s t n : Nat) (hs : szT s t) (hn : q % 4 = (n : Int)) : Fits Try.prog 7 ⟨[.cpx .f64 p.1 p.2, fdA a s q], [], [undOut (trn ((4 - n) % 4) p) t]⟩ := by
  obtain ⟨x, y⟩ := p
  have hn3 : n ≤ 3 := by omega
  have htm : (q.tmod 4 < 0 ∧ q.tmod 4 + 4 = (n : Int)) ∨ (0 ≤ q.tmod 4 ∧ q.tmod 4 = (n : Int)) := by
    have := Int.mul_tdiv_add_tmod q 4
    have := Int.tmod_lt_of_pos q (show (0 : Int) < 4 by decide)
    have := Int.lt_tmod_of_pos q (show (0 : Int) < 4 by decide)
    rcases Int.lt_or_le (q.tmod 4) 0 with h | h
    · left; omega
    · right; omega
  unfold fdA undOut
  refine fits_of_body (C := cfgh 0) (c := (Try.f7.body).getD .skip) (ts := [4, 5]) tokL mixedL (fun | 14 => some (inv14 x y t n) | _ => none) (fun _ => none)
    Try.func7 (by kernel_rfl) (by kernel_rfl) (by kernel_rfl) (by kernel_rfl) rfl ?_
  have loop : ∀ i : Nat, i ≤ n → True := fun _ _ => True.intro
  rcases hs with ⟨rfl, rfl⟩ | ⟨rfl, rfl⟩ | ⟨rfl, rfl⟩
  all_goals (
    rcases htm with ⟨m1, m2⟩ | ⟨m1, m2⟩
  )
  all_goals (
    conv => whnf
    repeat (first
      | (refine And.intro ?_ ?_; (focus (first | omega | decide | exact EqOk.mk (by kernel_rfl) (by kernel_rfl) (by kernel_rfl) | exact Int.natCast_nonneg _ | ((repeat' refine And.intro ?_ ?_) <;> first | omega | exact Int.natCast_nonneg _ | (simp only [i64max, u8max, u16max, u32max, u64max]; omega) | (simp only [mulSz_eq, Cont.len, colsLen, Col.len, List.length_cons, List.length_nil, List.length_replicate, List.length_append]; first | done | omega) | (simp [mulSz, Cont.len, bne]; first | done | omega)))); conv => whnf)
      | (refine tst_in ?_ ?_; (focus (intro h_; exfalso; first | omega | ((try simp only [decide_eq_true_eq, decide_eq_false_iff_not] at h_); omega) | (simp [mulSz, Cont.len, bne] at h_; first | done | omega))); intro _; conv => whnf)
      | (refine tst_in ?_ ?_; rotate_left; (focus (intro h_; exfalso; first | omega | ((try simp only [decide_eq_true_eq, decide_eq_false_iff_not] at h_); omega) | (simp [mulSz, Cont.len, bne] at h_; first | done | omega))); intro _; conv => whnf)
      | (refine ⟨0, (show _ = _ by omega), ?_⟩; conv => whnf))
    first | rw [m2] | skip
    refine ⟨⟨[], (0 : Nat), ?_, Nat.zero_le _⟩, ?_⟩
    · show stLe _ _ (st14 x y _ n 0) _
      conv => whnf
      repeat' (first | exact True.intro | rfl | refine And.intro ?_ ?_)
      all_goals (conv => whnf)
      repeat' (first | exact True.intro | rfl | refine And.intro ?_ ?_)
      all_goals (try omega)
    · intro (i : Nat) (hi : i ≤ n)
      show forceSt (st14 x y _ n i) _
      conv => whnf
      refine tst_in (fun hlt => ?_) (fun hge => ?_)
      · skip
        have hlt : i < n := by simp at hlt; omega
        have ts := trn_step x y i (by omega)
        conv => whnf
        repeat (first
          | (refine And.intro ?_ ?_; (focus (first | omega | decide | exact EqOk.mk (by kernel_rfl) (by kernel_rfl) (by kernel_rfl) | exact Int.natCast_nonneg _ | ((repeat' refine And.intro ?_ ?_) <;> first | omega | exact Int.natCast_nonneg _ | (simp only [i64max, u8max, u16max, u32max, u64max]; omega) | (simp only [mulSz_eq, Cont.len, colsLen, Col.len, List.length_cons, List.length_nil, List.length_replicate, List.length_append]; first | done | omega) | (simp [mulSz, Cont.len, bne]; first | done | omega)))); conv => whnf)
          | (refine tst_in ?_ ?_; (focus (intro h_; exfalso; first | omega | ((try simp only [decide_eq_true_eq, decide_eq_false_iff_not] at h_); omega) | (simp [mulSz, Cont.len, bne] at h_; first | done | omega))); intro _; conv => whnf)
          | (refine tst_in ?_ ?_; rotate_left; (focus (intro h_; exfalso; first | omega | ((try simp only [decide_eq_true_eq, decide_eq_false_iff_not] at h_); omega) | (simp [mulSz, Cont.len, bne] at h_; first | done | omega))); intro _; conv => whnf)
          | (refine ⟨0, (show _ = _ by omega), ?_⟩; conv => whnf))
        refine ⟨[], i + 1, ?_, (by show i + 1 ≤ n; omega), (by show n - (i + 1) < n - i; omega)⟩
        show stLe _ _ (st14 x y _ n (i + 1)) _
        unfold st14
        rw [ts]
        conv => whnf
        repeat' (first | exact True.intro | rfl | refine And.intro ?_ ?_)
        all_goals (conv => whnf)
        repeat' (first | exact True.intro | rfl | refine And.intro ?_ ?_)
        all_goals (try omega)
      · skip
        have hge : i = n := by simp at hge; omega
        subst hge
        conv => whnf
        repeat (first
          | (refine And.intro ?_ ?_; (focus (first | omega | decide | exact EqOk.mk (by kernel_rfl) (by kernel_rfl) (by kernel_rfl) | exact Int.natCast_nonneg _ | ((repeat' refine And.intro ?_ ?_) <;> first | omega | exact Int.natCast_nonneg _ | (simp only [i64max, u8max, u16max, u32max, u64max]; omega) | (simp only [mulSz_eq, Cont.len, colsLen, Col.len, List.length_cons, List.length_nil, List.length_replicate, List.length_append]; first | done | omega) | (simp [mulSz, Cont.len, bne]; first | done | omega)))); conv => whnf)
          | (refine tst_in ?_ ?_; (focus (intro h_; exfalso; first | omega | ((try simp only [decide_eq_true_eq, decide_eq_false_iff_not] at h_); omega) | (simp [mulSz, Cont.len, bne] at h_; first | done | omega))); intro _; conv => whnf)
          | (refine tst_in ?_ ?_; rotate_left; (focus (intro h_; exfalso; first | omega | ((try simp only [decide_eq_true_eq, decide_eq_false_iff_not] at h_); omega) | (simp [mulSz, Cont.len, bne] at h_; first | done | omega))); intro _; conv => whnf)
          | (refine ⟨0, (show _ = _ by omega), ?_⟩; conv => whnf))
        refine nan_mu (fun r1 h1 => ?_)
        conv => whnf
        repeat (first
          | (refine And.intro ?_ ?_; (focus (first | omega | decide | exact EqOk.mk (by kernel_rfl) (by kernel_rfl) (by kernel_rfl) | exact Int.natCast_nonneg _ | ((repeat' refine And.intro ?_ ?_) <;> first | omega | exact Int.natCast_nonneg _ | (simp only [i64max, u8max, u16max, u32max, u64max]; omega) | (simp only [mulSz_eq, Cont.len, colsLen, Col.len, List.length_cons, List.length_nil, List.length_replicate, List.length_append]; first | done | omega) | (simp [mulSz, Cont.len, bne]; first | done | omega)))); conv => whnf)
          | (refine tst_in ?_ ?_; (focus (intro h_; exfalso; first | omega | ((try simp only [decide_eq_true_eq, decide_eq_false_iff_not] at h_); omega) | (simp [mulSz, Cont.len, bne] at h_; first | done | omega))); intro _; conv => whnf)
          | (refine tst_in ?_ ?_; rotate_left; (focus (intro h_; exfalso; first | omega | ((try simp only [decide_eq_true_eq, decide_eq_false_iff_not] at h_); omega) | (simp [mulSz, Cont.len, bne] at h_; first | done | omega))); intro _; conv => whnf)
          | (refine ⟨0, (show _ = _ by omega), ?_⟩; conv => whnf))
        refine nan_mu (fun r2 h2 => ?_)
        conv => whnf
        repeat (first
          | (refine And.intro ?_ ?_; (focus (first | omega | decide | exact EqOk.mk (by kernel_rfl) (by kernel_rfl) (by kernel_rfl) | exact Int.natCast_nonneg _ | ((repeat' refine And.intro ?_ ?_) <;> first | omega | exact Int.natCast_nonneg _ | (simp only [i64max, u8max, u16max, u32max, u64max]; omega) | (simp only [mulSz_eq, Cont.len, colsLen, Col.len, List.length_cons, List.length_nil, List.length_replicate, List.length_append]; first | done | omega) | (simp [mulSz, Cont.len, bne]; first | done | omega)))); conv => whnf)
          | (refine tst_in ?_ ?_; (focus (intro h_; exfalso; first | omega | ((try simp only [decide_eq_true_eq, decide_eq_false_iff_not] at h_); omega) | (simp [mulSz, Cont.len, bne] at h_; first | done | omega))); intro _; conv => whnf)
          | (refine tst_in ?_ ?_; rotate_left; (focus (intro h_; exfalso; first | omega | ((try simp only [decide_eq_true_eq, decide_eq_false_iff_not] at h_); omega) | (simp [mulSz, Cont.len, bne] at h_; first | done | omega))); intro _; conv => whnf)
          | (refine ⟨0, (show _ = _ by omega), ?_⟩; conv => whnf))
        refine .inl ⟨(r1, r2), [], ?_⟩
        conv => whnf
        repeat' (first | exact True.intro | rfl | refine And.intro ?_ ?_)
        all_goals (conv => whnf)
        repeat' (first | exact True.intro | rfl | refine And.intro ?_ ?_)
        all_goals (try omega)
        · exact h1
        · exact h2
  )
set_option maxHeartbeats 0 in
set_option maxRecDepth 100000 in
theorem rUndo_n (p : Nat × Nat) (a q : Int) (s : Nat) (hs : szN s) : Fits Try.prog 7 ⟨[.cpx .f64 p.1 p.2, fdA a s q], [], [errOut]⟩ := by
  unfold fdA errOut
  obtain ⟨x, y⟩ := p
  refine fits_of_body (C := cfgh 0) (c := (Try.f7.body).getD .skip) (ts := [4, 5]) tokL mixedL (fun _ => none) (fun _ => none)
    Try.func7 (by kernel_rfl) (by kernel_rfl) (by kernel_rfl) (by kernel_rfl) rfl ?_
  conv => whnf
  repeat (first
    | (refine And.intro ?_ ?_; (focus (first | omega | decide | exact EqOk.mk (by kernel_rfl) (by kernel_rfl) (by kernel_rfl) | exact Int.natCast_nonneg _ | ((repeat' refine And.intro ?_ ?_) <;> first | omega | exact Int.natCast_nonneg _ | (simp only [i64max, u8max, u16max, u32max, u64max]; omega) | (simp only [mulSz_eq, Cont.len, colsLen, Col.len, List.length_cons, List.length_nil, List.length_replicate, List.length_append]; first | done | omega) | (simp [mulSz, Cont.len, bne]; first | done | omega)))); conv => whnf)
    | (refine tst_in ?_ ?_; (focus (intro h_; exfalso; first | omega | ((try simp only [decide_eq_true_eq, decide_eq_false_iff_not] at h_); omega) | (simp [mulSz, Cont.len, bne] at h_; first | done | omega))); intro _; conv => whnf)
    | (refine tst_in ?_ ?_; rotate_left; (focus (intro h_; exfalso; first | omega | ((try simp only [decide_eq_true_eq, decide_eq_false_iff_not] at h_); omega) | (simp [mulSz, Cont.len, bne] at h_; first | done | omega))); intro _; conv => whnf)
    | (refine ⟨0, (show _ = _ by omega), ?_⟩; conv => whnf))
  refine tst_in (fun u => absurd u (by rw [hs.a]; decide)) (fun u => ?_)
  conv => whnf
  repeat (first
    | (refine And.intro ?_ ?_; (focus (first | omega | decide | exact EqOk.mk (by kernel_rfl) (by kernel_rfl) (by kernel_rfl) | exact Int.natCast_nonneg _ | ((repeat' refine And.intro ?_ ?_) <;> first | omega | exact Int.natCast_nonneg _ | (simp only [i64max, u8max, u16max, u32max, u64max]; omega) | (simp only [mulSz_eq, Cont.len, colsLen, Col.len, List.length_cons, List.length_nil, List.length_replicate, List.length_append]; first | done | omega) | (simp [mulSz, Cont.len, bne]; first | done | omega)))); conv => whnf)
    | (refine tst_in ?_ ?_; (focus (intro h_; exfalso; first | omega | ((try simp only [decide_eq_true_eq, decide_eq_false_iff_not] at h_); omega) | (simp [mulSz, Cont.len, bne] at h_; first | done | omega))); intro _; conv => whnf)
    | (refine tst_in ?_ ?_; rotate_left; (focus (intro h_; exfalso; first | omega | ((try simp only [decide_eq_true_eq, decide_eq_false_iff_not] at h_); omega) | (simp [mulSz, Cont.len, bne] at h_; first | done | omega))); intro _; conv => whnf)
    | (refine ⟨0, (show _ = _ by omega), ?_⟩; conv => whnf))
  refine tst_in (fun u => absurd u (by rw [hs.b]; decide)) (fun u => ?_)
  conv => whnf
  repeat (first
    | (refine And.intro ?_ ?_; (focus (first | omega | decide | exact EqOk.mk (by kernel_rfl) (by kernel_rfl) (by kernel_rfl) | exact Int.natCast_nonneg _ | ((repeat' refine And.intro ?_ ?_) <;> first | omega | exact Int.natCast_nonneg _ | (simp only [i64max, u8max, u16max, u32max, u64max]; omega) | (simp only [mulSz_eq, Cont.len, colsLen, Col.len, List.length_cons, List.length_nil, List.length_replicate, List.length_append]; first | done | omega) | (simp [mulSz, Cont.len, bne]; first | done | omega)))); conv => whnf)
    | (refine tst_in ?_ ?_; (focus (intro h_; exfalso; first | omega | ((try simp only [decide_eq_true_eq, decide_eq_false_iff_not] at h_); omega) | (simp [mulSz, Cont.len, bne] at h_; first | done | omega))); intro _; conv => whnf)
    | (refine tst_in ?_ ?_; rotate_left; (focus (intro h_; exfalso; first | omega | ((try simp only [decide_eq_true_eq, decide_eq_false_iff_not] at h_); omega) | (simp [mulSz, Cont.len, bne] at h_; first | done | omega))); intro _; conv => whnf)
    | (refine ⟨0, (show _ = _ by omega), ?_⟩; conv => whnf))
  refine tst_in (fun u => absurd u (by rw [hs.c]; decide)) (fun u => ?_)
  conv => whnf
  repeat (first
    | (refine And.intro ?_ ?_; (focus (first | omega | decide | exact EqOk.mk (by kernel_rfl) (by kernel_rfl) (by kernel_rfl) | exact Int.natCast_nonneg _ | ((repeat' refine And.intro ?_ ?_) <;> first | omega | exact Int.natCast_nonneg _ | (simp only [i64max, u8max, u16max, u32max, u64max]; omega) | (simp only [mulSz_eq, Cont.len, colsLen, Col.len, List.length_cons, List.length_nil, List.length_replicate, List.length_append]; first | done | omega) | (simp [mulSz, Cont.len, bne]; first | done | omega)))); conv => whnf)
    | (refine tst_in ?_ ?_; (focus (intro h_; exfalso; first | omega | ((try simp only [decide_eq_true_eq, decide_eq_false_iff_not] at h_); omega) | (simp [mulSz, Cont.len, bne] at h_; first | done | omega))); intro _; conv => whnf)
    | (refine tst_in ?_ ?_; rotate_left; (focus (intro h_; exfalso; first | omega | ((try simp only [decide_eq_true_eq, decide_eq_false_iff_not] at h_); omega) | (simp [mulSz, Cont.len, bne] at h_; first | done | omega))); intro _; conv => whnf)
    | (refine ⟨0, (show _ = _ by omega), ?_⟩; conv => whnf))
  refine .inl ⟨(), [], ?_⟩
  conv => whnf
  repeat' (first | exact True.intro | rfl | refine And.intro ?_ ?_)
  all_goals (conv => whnf)
  repeat' (first | exact True.intro | rfl | refine And.intro ?_ ?_)
  all_goals (try omega)
end Go.Proofs.Ytckkfpehpfdigaa

set_option linter.unusedVariables false
set_option linter.unusedSimpArgs false
namespace Go.Proofs.Ytckkfpehpfdigaa
open Go Go.Fw
abbrev YT := List (Nat × Nat)
def rowS (o : Bool) (A : List (Nat × Nat)) (B : List Bool) : Seg := .seg o (.cols [.cpxs .f64 A, .bools B])
def cellS (o : Bool) (re im : Int) (lo : Bool) (od : Nat) (wh : Int) : Seg := .seg o (.cols [.ints .i64 [re], .ints .i64 [im], .bools [lo], .flts .f64 [od], .ints .u8 [wh]])
structure R3 where
  i : Nat
  r : Nat
  A : YT
  B : List Bool
structure RQ where
  r : Nat
  A : YT
  B : List Bool
  a : Nat
  b : Nat
def st3 (re im : Int) (lo : Bool) (od : Nat) (wh : Int) (i r : Nat) (A : YT) (B : List Bool) : St := ⟨slotsAt 78 [(0, .slice 0 0 1 1), (3, .slice 1 0 i (i + r)), (4, .int .i64 i)], [cellS false re im lo od wh, rowS true A B]⟩
def inv3 (re im : Int) (lo : Bool) (od : Nat) (wh : Int) : LInv := ⟨R3, fun x => st3 re im lo od wh x.i x.r x.A x.B, fun x => x.i ≤ 1 ∧ x.A.length = x.i + x.r ∧ x.B.length = x.i + x.r, fun x => 1 - x.i⟩
def stq (re im : Int) (lo : Bool) (od : Nat) (wh : Int) (r : Nat) (A : YT) (B : List Bool) (a b : Nat) : St := ⟨slotsAt 78 [(0, .slice 0 0 1 1), (3, .slice 1 0 0 (0 + r)), (4, .int .i64 0), (5, .flt .f64 a), (6, .flt .f64 b)], [cellS false re im lo od wh, rowS true A B]⟩
def cutr (re im : Int) (lo : Bool) (od : Nat) (wh : Int)  : LInv := ⟨RQ, fun x => stq re im lo od wh x.r x.A x.B x.a x.b, fun x => x.A.length = 0 + x.r ∧ x.B.length = 0 + x.r, fun _ => 0⟩
def smOut : FOut := ⟨Nat × YT × List Bool, fun y => y.2.1.length = 1 + y.1 ∧ y.2.2.length = 1 + y.1, fun y => .slice 1 0 1 (1 + y.1), fun y => [.dead, rowS true y.2.1 y.2.2]⟩
set_option maxHeartbeats 0 in
set_option maxRecDepth 100000 in
theorem samples_f (re im : Int) (lo : Bool) (od : Nat) (wh : Int) : Fits Try.prog 5 ⟨[.slice 0 0 1 1], [cellS false re im lo od wh], [smOut]⟩ := by
  refine fits_of_body (C := cfgh 1) (c := (Try.f5.body).getD .skip) (ts := [2]) tokL mixedL (fun | 3 => some (inv3 re im lo od wh) | _ => none) (fun | 9 => some (cutr re im lo od wh) | 11 => some (cutr re im lo od wh) | _ => none)
    Try.func5 (by kernel_rfl) (by kernel_rfl) (by kernel_rfl) (by kernel_rfl) rfl ?_
  conv => whnf
  repeat (first
    | (refine And.intro ?_ ?_; (focus (first | omega | decide | exact EqOk.mk (by kernel_rfl) (by kernel_rfl) (by kernel_rfl) | exact Int.natCast_nonneg _ | ((repeat' refine And.intro ?_ ?_) <;> first | omega | exact Int.natCast_nonneg _ | (simp only [i64max, u8max, u16max, u32max, u64max]; omega) | (simp only [mulSz_eq, Cont.len, colsLen, Col.len, List.length_cons, List.length_nil, List.length_replicate, List.length_append]; first | done | omega) | (simp [mulSz, Cont.len, bne]; first | done | omega)))); conv => whnf)
    | (refine tst_in ?_ ?_; (focus (intro h_; exfalso; first | omega | ((try simp only [decide_eq_true_eq, decide_eq_false_iff_not] at h_); omega) | (simp [mulSz, Cont.len, bne] at h_; first | done | omega))); intro _; conv => whnf)
    | (refine tst_in ?_ ?_; rotate_left; (focus (intro h_; exfalso; first | omega | ((try simp only [decide_eq_true_eq, decide_eq_false_iff_not] at h_); omega) | (simp [mulSz, Cont.len, bne] at h_; first | done | omega))); intro _; conv => whnf)
    | (refine ⟨0, (show _ = _ by omega), ?_⟩; conv => whnf))
  refine ⟨⟨[0, 9], ⟨0, 0, [], []⟩, ?_, ⟨Nat.zero_le _, rfl, rfl⟩⟩, ?_⟩
  · show stLe _ _ (st3 re im lo od wh 0 0 [] []) _
    conv => whnf
    repeat' (first | exact True.intro | rfl | refine And.intro ?_ ?_)
    all_goals (conv => whnf)
    repeat' (first | exact True.intro | rfl | refine And.intro ?_ ?_)
    all_goals (try omega)
  · rintro ⟨i, r, A, B⟩ ⟨hi, hA, hB⟩
    have hi : i ≤ 1 := hi
    have hA : A.length = i + r := hA
    have hB : B.length = i + r := hB
    show forceSt (st3 re im lo od wh i r A B) _
    conv => whnf
    refine tst_in (fun hlt => ?_) (fun hge => ?_)
    · skip
      have hlt : i = 0 := by simp at hlt; omega
      subst hlt
      conv => whnf
      repeat (first
        | (refine And.intro ?_ ?_; (focus (first | omega | decide | exact EqOk.mk (by kernel_rfl) (by kernel_rfl) (by kernel_rfl) | exact Int.natCast_nonneg _ | ((repeat' refine And.intro ?_ ?_) <;> first | omega | exact Int.natCast_nonneg _ | (simp only [i64max, u8max, u16max, u32max, u64max]; omega) | (simp only [mulSz_eq, Cont.len, colsLen, Col.len, List.length_cons, List.length_nil, List.length_replicate, List.length_append]; first | done | omega) | (simp [mulSz, Cont.len, bne]; first | done | omega)))); conv => whnf)
        | (refine tst_in ?_ ?_; (focus (intro h_; exfalso; first | omega | ((try simp only [decide_eq_true_eq, decide_eq_false_iff_not] at h_); omega) | (simp [mulSz, Cont.len, bne] at h_; first | done | omega))); intro _; conv => whnf)
        | (refine tst_in ?_ ?_; rotate_left; (focus (intro h_; exfalso; first | omega | ((try simp only [decide_eq_true_eq, decide_eq_false_iff_not] at h_); omega) | (simp [mulSz, Cont.len, bne] at h_; first | done | omega))); intro _; conv => whnf)
        | (refine ⟨(0), (show _ = _ by omega), ?_⟩; conv => whnf)
        | (refine ⟨(0), 0, (show _ = _ by omega), ?_⟩; conv => whnf)
        | (refine ⟨(0), 1, (show _ = _ by omega), ?_⟩; conv => whnf)
        | (refine ⟨(0), 2, (show _ = _ by omega), ?_⟩; conv => whnf)
        | (refine ⟨(0), 3, (show _ = _ by omega), ?_⟩; conv => whnf)
        | (refine ⟨(0), 4, (show _ = _ by omega), ?_⟩; conv => whnf)
        | (refine ⟨(0), 5, (show _ = _ by omega), ?_⟩; conv => whnf)
        | (refine ⟨0, (show _ = _ by omega), ?_⟩; conv => whnf))
      refine nan_any (fun a ha => ?_) (by simp)
      conv => whnf
      repeat (first
        | (refine And.intro ?_ ?_; (focus (first | omega | decide | exact EqOk.mk (by kernel_rfl) (by kernel_rfl) (by kernel_rfl) | exact Int.natCast_nonneg _ | ((repeat' refine And.intro ?_ ?_) <;> first | omega | exact Int.natCast_nonneg _ | (simp only [i64max, u8max, u16max, u32max, u64max]; omega) | (simp only [mulSz_eq, Cont.len, colsLen, Col.len, List.length_cons, List.length_nil, List.length_replicate, List.length_append]; first | done | omega) | (simp [mulSz, Cont.len, bne]; first | done | omega)))); conv => whnf)
        | (refine tst_in ?_ ?_; (focus (intro h_; exfalso; first | omega | ((try simp only [decide_eq_true_eq, decide_eq_false_iff_not] at h_); omega) | (simp [mulSz, Cont.len, bne] at h_; first | done | omega))); intro _; conv => whnf)
        | (refine tst_in ?_ ?_; rotate_left; (focus (intro h_; exfalso; first | omega | ((try simp only [decide_eq_true_eq, decide_eq_false_iff_not] at h_); omega) | (simp [mulSz, Cont.len, bne] at h_; first | done | omega))); intro _; conv => whnf)
        | (refine ⟨(0), (show _ = _ by omega), ?_⟩; conv => whnf)
        | (refine ⟨(0), 0, (show _ = _ by omega), ?_⟩; conv => whnf)
        | (refine ⟨(0), 1, (show _ = _ by omega), ?_⟩; conv => whnf)
        | (refine ⟨(0), 2, (show _ = _ by omega), ?_⟩; conv => whnf)
        | (refine ⟨(0), 3, (show _ = _ by omega), ?_⟩; conv => whnf)
        | (refine ⟨(0), 4, (show _ = _ by omega), ?_⟩; conv => whnf)
        | (refine ⟨(0), 5, (show _ = _ by omega), ?_⟩; conv => whnf)
        | (refine ⟨0, (show _ = _ by omega), ?_⟩; conv => whnf))
      refine nan_any (fun b hb => ?_) (by simp)
      conv => whnf
      repeat (first
        | (refine And.intro ?_ ?_; (focus (first | omega | decide | exact EqOk.mk (by kernel_rfl) (by kernel_rfl) (by kernel_rfl) | exact Int.natCast_nonneg _ | ((repeat' refine And.intro ?_ ?_) <;> first | omega | exact Int.natCast_nonneg _ | (simp only [i64max, u8max, u16max, u32max, u64max]; omega) | (simp only [mulSz_eq, Cont.len, colsLen, Col.len, List.length_cons, List.length_nil, List.length_replicate, List.length_append]; first | done | omega) | (simp [mulSz, Cont.len, bne]; first | done | omega)))); conv => whnf)
        | (refine tst_in ?_ ?_; (focus (intro h_; exfalso; first | omega | ((try simp only [decide_eq_true_eq, decide_eq_false_iff_not] at h_); omega) | (simp [mulSz, Cont.len, bne] at h_; first | done | omega))); intro _; conv => whnf)
        | (refine tst_in ?_ ?_; rotate_left; (focus (intro h_; exfalso; first | omega | ((try simp only [decide_eq_true_eq, decide_eq_false_iff_not] at h_); omega) | (simp [mulSz, Cont.len, bne] at h_; first | done | omega))); intro _; conv => whnf)
        | (refine ⟨(0), (show _ = _ by omega), ?_⟩; conv => whnf)
        | (refine ⟨(0), 0, (show _ = _ by omega), ?_⟩; conv => whnf)
        | (refine ⟨(0), 1, (show _ = _ by omega), ?_⟩; conv => whnf)
        | (refine ⟨(0), 2, (show _ = _ by omega), ?_⟩; conv => whnf)
        | (refine ⟨(0), 3, (show _ = _ by omega), ?_⟩; conv => whnf)
        | (refine ⟨(0), 4, (show _ = _ by omega), ?_⟩; conv => whnf)
        | (refine ⟨(0), 5, (show _ = _ by omega), ?_⟩; conv => whnf)
        | (refine ⟨0, (show _ = _ by omega), ?_⟩; conv => whnf))
      refine ⟨?_, ?_⟩
      · skip
        conv => whnf
        repeat (first
          | (refine And.intro ?_ ?_; (focus (first | omega | decide | exact EqOk.mk (by kernel_rfl) (by kernel_rfl) (by kernel_rfl) | exact Int.natCast_nonneg _ | ((repeat' refine And.intro ?_ ?_) <;> first | omega | exact Int.natCast_nonneg _ | (simp only [i64max, u8max, u16max, u32max, u64max]; omega) | (simp only [mulSz_eq, Cont.len, colsLen, Col.len, List.length_cons, List.length_nil, List.length_replicate, List.length_append]; first | done | omega) | (simp [mulSz, Cont.len, bne]; first | done | omega)))); conv => whnf)
          | (refine tst_in ?_ ?_; (focus (intro h_; exfalso; first | omega | ((try simp only [decide_eq_true_eq, decide_eq_false_iff_not] at h_); omega) | (simp [mulSz, Cont.len, bne] at h_; first | done | omega))); intro _; conv => whnf)
          | (refine tst_in ?_ ?_; rotate_left; (focus (intro h_; exfalso; first | omega | ((try simp only [decide_eq_true_eq, decide_eq_false_iff_not] at h_); omega) | (simp [mulSz, Cont.len, bne] at h_; first | done | omega))); intro _; conv => whnf)
          | (refine ⟨(0), (show _ = _ by omega), ?_⟩; conv => whnf)
          | (refine ⟨(0), 0, (show _ = _ by omega), ?_⟩; conv => whnf)
          | (refine ⟨(0), 1, (show _ = _ by omega), ?_⟩; conv => whnf)
          | (refine ⟨(0), 2, (show _ = _ by omega), ?_⟩; conv => whnf)
          | (refine ⟨(0), 3, (show _ = _ by omega), ?_⟩; conv => whnf)
          | (refine ⟨(0), 4, (show _ = _ by omega), ?_⟩; conv => whnf)
          | (refine ⟨(0), 5, (show _ = _ by omega), ?_⟩; conv => whnf)
          | (refine ⟨0, (show _ = _ by omega), ?_⟩; conv => whnf))
        refine tst_in (fun u => ?_) (fun u => ?_)
        · skip
          conv => whnf
          repeat (first
            | (refine And.intro ?_ ?_; (focus (first | omega | decide | exact EqOk.mk (by kernel_rfl) (by kernel_rfl) (by kernel_rfl) | exact Int.natCast_nonneg _ | ((repeat' refine And.intro ?_ ?_) <;> first | omega | exact Int.natCast_nonneg _ | (simp only [i64max, u8max, u16max, u32max, u64max]; omega) | (simp only [mulSz_eq, Cont.len, colsLen, Col.len, List.length_cons, List.length_nil, List.length_replicate, List.length_append]; first | done | omega) | (simp [mulSz, Cont.len, bne]; first | done | omega)))); conv => whnf)
            | (refine tst_in ?_ ?_; (focus (intro h_; exfalso; first | omega | ((try simp only [decide_eq_true_eq, decide_eq_false_iff_not] at h_); omega) | (simp [mulSz, Cont.len, bne] at h_; first | done | omega))); intro _; conv => whnf)
            | (refine tst_in ?_ ?_; rotate_left; (focus (intro h_; exfalso; first | omega | ((try simp only [decide_eq_true_eq, decide_eq_false_iff_not] at h_); omega) | (simp [mulSz, Cont.len, bne] at h_; first | done | omega))); intro _; conv => whnf)
            | (refine ⟨(0), (show _ = _ by omega), ?_⟩; conv => whnf)
            | (refine ⟨(0), 0, (show _ = _ by omega), ?_⟩; conv => whnf)
            | (refine ⟨(0), 1, (show _ = _ by omega), ?_⟩; conv => whnf)
            | (refine ⟨(0), 2, (show _ = _ by omega), ?_⟩; conv => whnf)
            | (refine ⟨(0), 3, (show _ = _ by omega), ?_⟩; conv => whnf)
            | (refine ⟨(0), 4, (show _ = _ by omega), ?_⟩; conv => whnf)
            | (refine ⟨(0), 5, (show _ = _ by omega), ?_⟩; conv => whnf)
            | (refine ⟨0, (show _ = _ by omega), ?_⟩; conv => whnf))
          refine ⟨[0, 1], ⟨r, A, B, od, b⟩, ?_, hA, hB⟩
          show stLe _ _ (stq re im lo od wh r A B od b) _
          conv => whnf
          repeat' (first | exact True.intro | rfl | refine And.intro ?_ ?_)
          all_goals (conv => whnf)
          repeat' (first | exact True.intro | rfl | refine And.intro ?_ ?_)
          all_goals (try omega)
        · skip
          conv => whnf
          repeat (first
            | (refine And.intro ?_ ?_; (focus (first | omega | decide | exact EqOk.mk (by kernel_rfl) (by kernel_rfl) (by kernel_rfl) | exact Int.natCast_nonneg _ | ((repeat' refine And.intro ?_ ?_) <;> first | omega | exact Int.natCast_nonneg _ | (simp only [i64max, u8max, u16max, u32max, u64max]; omega) | (simp only [mulSz_eq, Cont.len, colsLen, Col.len, List.length_cons, List.length_nil, List.length_replicate, List.length_append]; first | done | omega) | (simp [mulSz, Cont.len, bne]; first | done | omega)))); conv => whnf)
            | (refine tst_in ?_ ?_; (focus (intro h_; exfalso; first | omega | ((try simp only [decide_eq_true_eq, decide_eq_false_iff_not] at h_); omega) | (simp [mulSz, Cont.len, bne] at h_; first | done | omega))); intro _; conv => whnf)
            | (refine tst_in ?_ ?_; rotate_left; (focus (intro h_; exfalso; first | omega | ((try simp only [decide_eq_true_eq, decide_eq_false_iff_not] at h_); omega) | (simp [mulSz, Cont.len, bne] at h_; first | done | omega))); intro _; conv => whnf)
            | (refine ⟨(0), (show _ = _ by omega), ?_⟩; conv => whnf)
            | (refine ⟨(0), 0, (show _ = _ by omega), ?_⟩; conv => whnf)
            | (refine ⟨(0), 1, (show _ = _ by omega), ?_⟩; conv => whnf)
            | (refine ⟨(0), 2, (show _ = _ by omega), ?_⟩; conv => whnf)
            | (refine ⟨(0), 3, (show _ = _ by omega), ?_⟩; conv => whnf)
            | (refine ⟨(0), 4, (show _ = _ by omega), ?_⟩; conv => whnf)
            | (refine ⟨(0), 5, (show _ = _ by omega), ?_⟩; conv => whnf)
            | (refine ⟨0, (show _ = _ by omega), ?_⟩; conv => whnf))
          refine tst_in (fun u => ?_) (fun u => ?_)
          · skip
            conv => whnf
            repeat (first
              | (refine And.intro ?_ ?_; (focus (first | omega | decide | exact EqOk.mk (by kernel_rfl) (by kernel_rfl) (by kernel_rfl) | exact Int.natCast_nonneg _ | ((repeat' refine And.intro ?_ ?_) <;> first | omega | exact Int.natCast_nonneg _ | (simp only [i64max, u8max, u16max, u32max, u64max]; omega) | (simp only [mulSz_eq, Cont.len, colsLen, Col.len, List.length_cons, List.length_nil, List.length_replicate, List.length_append]; first | done | omega) | (simp [mulSz, Cont.len, bne]; first | done | omega)))); conv => whnf)
              | (refine tst_in ?_ ?_; (focus (intro h_; exfalso; first | omega | ((try simp only [decide_eq_true_eq, decide_eq_false_iff_not] at h_); omega) | (simp [mulSz, Cont.len, bne] at h_; first | done | omega))); intro _; conv => whnf)
              | (refine tst_in ?_ ?_; rotate_left; (focus (intro h_; exfalso; first | omega | ((try simp only [decide_eq_true_eq, decide_eq_false_iff_not] at h_); omega) | (simp [mulSz, Cont.len, bne] at h_; first | done | omega))); intro _; conv => whnf)
              | (refine ⟨(0), (show _ = _ by omega), ?_⟩; conv => whnf)
              | (refine ⟨(0), 0, (show _ = _ by omega), ?_⟩; conv => whnf)
              | (refine ⟨(0), 1, (show _ = _ by omega), ?_⟩; conv => whnf)
              | (refine ⟨(0), 2, (show _ = _ by omega), ?_⟩; conv => whnf)
              | (refine ⟨(0), 3, (show _ = _ by omega), ?_⟩; conv => whnf)
              | (refine ⟨(0), 4, (show _ = _ by omega), ?_⟩; conv => whnf)
              | (refine ⟨(0), 5, (show _ = _ by omega), ?_⟩; conv => whnf)
              | (refine ⟨0, (show _ = _ by omega), ?_⟩; conv => whnf))
            refine ⟨[0, 1], ⟨r, A, B, od, b⟩, ?_, hA, hB⟩
            show stLe _ _ (stq re im lo od wh r A B od b) _
            conv => whnf
            repeat' (first | exact True.intro | rfl | refine And.intro ?_ ?_)
            all_goals (conv => whnf)
            repeat' (first | exact True.intro | rfl | refine And.intro ?_ ?_)
            all_goals (try omega)
          · skip
            conv => whnf
            repeat (first
              | (refine And.intro ?_ ?_; (focus (first | omega | decide | exact EqOk.mk (by kernel_rfl) (by kernel_rfl) (by kernel_rfl) | exact Int.natCast_nonneg _ | ((repeat' refine And.intro ?_ ?_) <;> first | omega | exact Int.natCast_nonneg _ | (simp only [i64max, u8max, u16max, u32max, u64max]; omega) | (simp only [mulSz_eq, Cont.len, colsLen, Col.len, List.length_cons, List.length_nil, List.length_replicate, List.length_append]; first | done | omega) | (simp [mulSz, Cont.len, bne]; first | done | omega)))); conv => whnf)
              | (refine tst_in ?_ ?_; (focus (intro h_; exfalso; first | omega | ((try simp only [decide_eq_true_eq, decide_eq_false_iff_not] at h_); omega) | (simp [mulSz, Cont.len, bne] at h_; first | done | omega))); intro _; conv => whnf)
              | (refine tst_in ?_ ?_; rotate_left; (focus (intro h_; exfalso; first | omega | ((try simp only [decide_eq_true_eq, decide_eq_false_iff_not] at h_); omega) | (simp [mulSz, Cont.len, bne] at h_; first | done | omega))); intro _; conv => whnf)
              | (refine ⟨(0), (show _ = _ by omega), ?_⟩; conv => whnf)
              | (refine ⟨(0), 0, (show _ = _ by omega), ?_⟩; conv => whnf)
              | (refine ⟨(0), 1, (show _ = _ by omega), ?_⟩; conv => whnf)
              | (refine ⟨(0), 2, (show _ = _ by omega), ?_⟩; conv => whnf)
              | (refine ⟨(0), 3, (show _ = _ by omega), ?_⟩; conv => whnf)
              | (refine ⟨(0), 4, (show _ = _ by omega), ?_⟩; conv => whnf)
              | (refine ⟨(0), 5, (show _ = _ by omega), ?_⟩; conv => whnf)
              | (refine ⟨0, (show _ = _ by omega), ?_⟩; conv => whnf))
            refine ⟨[0, 1], ⟨r, A, B, a, b⟩, ?_, hA, hB⟩
            show stLe _ _ (stq re im lo od wh r A B a b) _
            conv => whnf
            repeat' (first | exact True.intro | rfl | refine And.intro ?_ ?_)
            all_goals (conv => whnf)
            repeat' (first | exact True.intro | rfl | refine And.intro ?_ ?_)
            all_goals (try omega)
      · clear hA hB hi ha hb
        rintro ⟨r, A, B, a, b⟩ ⟨hA, hB⟩
        have hA : A.length = 0 + r := hA
        have hB : B.length = 0 + r := hB
        show forceSt (stq re im lo od wh r A B a b) _
        conv => whnf
        repeat (first
          | (refine And.intro ?_ ?_; (focus (first | omega | decide | exact EqOk.mk (by kernel_rfl) (by kernel_rfl) (by kernel_rfl) | exact Int.natCast_nonneg _ | ((repeat' refine And.intro ?_ ?_) <;> first | omega | exact Int.natCast_nonneg _ | (simp only [i64max, u8max, u16max, u32max, u64max]; omega) | (simp only [mulSz_eq, Cont.len, colsLen, Col.len, List.length_cons, List.length_nil, List.length_replicate, List.length_append]; first | done | omega) | (simp [mulSz, Cont.len, bne]; first | done | omega)))); conv => whnf)
          | (refine tst_in ?_ ?_; (focus (intro h_; exfalso; first | omega | ((try simp only [decide_eq_true_eq, decide_eq_false_iff_not] at h_); omega) | (simp [mulSz, Cont.len, bne] at h_; first | done | omega))); intro _; conv => whnf)
          | (refine tst_in ?_ ?_; rotate_left; (focus (intro h_; exfalso; first | omega | ((try simp only [decide_eq_true_eq, decide_eq_false_iff_not] at h_); omega) | (simp [mulSz, Cont.len, bne] at h_; first | done | omega))); intro _; conv => whnf)
          | (refine ⟨(0), (show _ = _ by omega), ?_⟩; conv => whnf)
          | (refine ⟨(0), 0, (show _ = _ by omega), ?_⟩; conv => whnf)
          | (refine ⟨(0), 1, (show _ = _ by omega), ?_⟩; conv => whnf)
          | (refine ⟨(0), 2, (show _ = _ by omega), ?_⟩; conv => whnf)
          | (refine ⟨(0), 3, (show _ = _ by omega), ?_⟩; conv => whnf)
          | (refine ⟨(0), 4, (show _ = _ by omega), ?_⟩; conv => whnf)
          | (refine ⟨(0), 5, (show _ = _ by omega), ?_⟩; conv => whnf)
          | (refine ⟨0, (show _ = _ by omega), ?_⟩; conv => whnf))
        refine ⟨?_, ?_⟩
        · skip
          conv => whnf
          repeat (first
            | (refine And.intro ?_ ?_; (focus (first | omega | decide | exact EqOk.mk (by kernel_rfl) (by kernel_rfl) (by kernel_rfl) | exact Int.natCast_nonneg _ | ((repeat' refine And.intro ?_ ?_) <;> first | omega | exact Int.natCast_nonneg _ | (simp only [i64max, u8max, u16max, u32max, u64max]; omega) | (simp only [mulSz_eq, Cont.len, colsLen, Col.len, List.length_cons, List.length_nil, List.length_replicate, List.length_append]; first | done | omega) | (simp [mulSz, Cont.len, bne]; first | done | omega)))); conv => whnf)
            | (refine tst_in ?_ ?_; (focus (intro h_; exfalso; first | omega | ((try simp only [decide_eq_true_eq, decide_eq_false_iff_not] at h_); omega) | (simp [mulSz, Cont.len, bne] at h_; first | done | omega))); intro _; conv => whnf)
            | (refine tst_in ?_ ?_; rotate_left; (focus (intro h_; exfalso; first | omega | ((try simp only [decide_eq_true_eq, decide_eq_false_iff_not] at h_); omega) | (simp [mulSz, Cont.len, bne] at h_; first | done | omega))); intro _; conv => whnf)
            | (refine ⟨(0), (show _ = _ by omega), ?_⟩; conv => whnf)
            | (refine ⟨(0), 0, (show _ = _ by omega), ?_⟩; conv => whnf)
            | (refine ⟨(0), 1, (show _ = _ by omega), ?_⟩; conv => whnf)
            | (refine ⟨(0), 2, (show _ = _ by omega), ?_⟩; conv => whnf)
            | (refine ⟨(0), 3, (show _ = _ by omega), ?_⟩; conv => whnf)
            | (refine ⟨(0), 4, (show _ = _ by omega), ?_⟩; conv => whnf)
            | (refine ⟨(0), 5, (show _ = _ by omega), ?_⟩; conv => whnf)
            | (refine ⟨0, (show _ = _ by omega), ?_⟩; conv => whnf))
          refine tst_in (fun u => ?_) (fun u => ?_)
          · skip
            conv => whnf
            repeat (first
              | (refine And.intro ?_ ?_; (focus (first | omega | decide | exact EqOk.mk (by kernel_rfl) (by kernel_rfl) (by kernel_rfl) | exact Int.natCast_nonneg _ | ((repeat' refine And.intro ?_ ?_) <;> first | omega | exact Int.natCast_nonneg _ | (simp only [i64max, u8max, u16max, u32max, u64max]; omega) | (simp only [mulSz_eq, Cont.len, colsLen, Col.len, List.length_cons, List.length_nil, List.length_replicate, List.length_append]; first | done | omega) | (simp [mulSz, Cont.len, bne]; first | done | omega)))); conv => whnf)
              | (refine tst_in ?_ ?_; (focus (intro h_; exfalso; first | omega | ((try simp only [decide_eq_true_eq, decide_eq_false_iff_not] at h_); omega) | (simp [mulSz, Cont.len, bne] at h_; first | done | omega))); intro _; conv => whnf)
              | (refine tst_in ?_ ?_; rotate_left; (focus (intro h_; exfalso; first | omega | ((try simp only [decide_eq_true_eq, decide_eq_false_iff_not] at h_); omega) | (simp [mulSz, Cont.len, bne] at h_; first | done | omega))); intro _; conv => whnf)
              | (refine ⟨(0), (show _ = _ by omega), ?_⟩; conv => whnf)
              | (refine ⟨(0), 0, (show _ = _ by omega), ?_⟩; conv => whnf)
              | (refine ⟨(0), 1, (show _ = _ by omega), ?_⟩; conv => whnf)
              | (refine ⟨(0), 2, (show _ = _ by omega), ?_⟩; conv => whnf)
              | (refine ⟨(0), 3, (show _ = _ by omega), ?_⟩; conv => whnf)
              | (refine ⟨(0), 4, (show _ = _ by omega), ?_⟩; conv => whnf)
              | (refine ⟨(0), 5, (show _ = _ by omega), ?_⟩; conv => whnf)
              | (refine ⟨0, (show _ = _ by omega), ?_⟩; conv => whnf))
            refine ⟨[0, 1], ⟨r, A, B, a, od⟩, ?_, hA, hB⟩
            show stLe _ _ (stq re im lo od wh r A B a od) _
            conv => whnf
            repeat' (first | exact True.intro | rfl | refine And.intro ?_ ?_)
            all_goals (conv => whnf)
            repeat' (first | exact True.intro | rfl | refine And.intro ?_ ?_)
            all_goals (try omega)
          · skip
            conv => whnf
            repeat (first
              | (refine And.intro ?_ ?_; (focus (first | omega | decide | exact EqOk.mk (by kernel_rfl) (by kernel_rfl) (by kernel_rfl) | exact Int.natCast_nonneg _ | ((repeat' refine And.intro ?_ ?_) <;> first | omega | exact Int.natCast_nonneg _ | (simp only [i64max, u8max, u16max, u32max, u64max]; omega) | (simp only [mulSz_eq, Cont.len, colsLen, Col.len, List.length_cons, List.length_nil, List.length_replicate, List.length_append]; first | done | omega) | (simp [mulSz, Cont.len, bne]; first | done | omega)))); conv => whnf)
              | (refine tst_in ?_ ?_; (focus (intro h_; exfalso; first | omega | ((try simp only [decide_eq_true_eq, decide_eq_false_iff_not] at h_); omega) | (simp [mulSz, Cont.len, bne] at h_; first | done | omega))); intro _; conv => whnf)
              | (refine tst_in ?_ ?_; rotate_left; (focus (intro h_; exfalso; first | omega | ((try simp only [decide_eq_true_eq, decide_eq_false_iff_not] at h_); omega) | (simp [mulSz, Cont.len, bne] at h_; first | done | omega))); intro _; conv => whnf)
              | (refine ⟨(0), (show _ = _ by omega), ?_⟩; conv => whnf)
              | (refine ⟨(0), 0, (show _ = _ by omega), ?_⟩; conv => whnf)
              | (refine ⟨(0), 1, (show _ = _ by omega), ?_⟩; conv => whnf)
              | (refine ⟨(0), 2, (show _ = _ by omega), ?_⟩; conv => whnf)
              | (refine ⟨(0), 3, (show _ = _ by omega), ?_⟩; conv => whnf)
              | (refine ⟨(0), 4, (show _ = _ by omega), ?_⟩; conv => whnf)
              | (refine ⟨(0), 5, (show _ = _ by omega), ?_⟩; conv => whnf)
              | (refine ⟨0, (show _ = _ by omega), ?_⟩; conv => whnf))
            refine tst_in (fun u => ?_) (fun u => ?_)
            · skip
              conv => whnf
              repeat (first
                | (refine And.intro ?_ ?_; (focus (first | omega | decide | exact EqOk.mk (by kernel_rfl) (by kernel_rfl) (by kernel_rfl) | exact Int.natCast_nonneg _ | ((repeat' refine And.intro ?_ ?_) <;> first | omega | exact Int.natCast_nonneg _ | (simp only [i64max, u8max, u16max, u32max, u64max]; omega) | (simp only [mulSz_eq, Cont.len, colsLen, Col.len, List.length_cons, List.length_nil, List.length_replicate, List.length_append]; first | done | omega) | (simp [mulSz, Cont.len, bne]; first | done | omega)))); conv => whnf)
                | (refine tst_in ?_ ?_; (focus (intro h_; exfalso; first | omega | ((try simp only [decide_eq_true_eq, decide_eq_false_iff_not] at h_); omega) | (simp [mulSz, Cont.len, bne] at h_; first | done | omega))); intro _; conv => whnf)
                | (refine tst_in ?_ ?_; rotate_left; (focus (intro h_; exfalso; first | omega | ((try simp only [decide_eq_true_eq, decide_eq_false_iff_not] at h_); omega) | (simp [mulSz, Cont.len, bne] at h_; first | done | omega))); intro _; conv => whnf)
                | (refine ⟨(0), (show _ = _ by omega), ?_⟩; conv => whnf)
                | (refine ⟨(0), 0, (show _ = _ by omega), ?_⟩; conv => whnf)
                | (refine ⟨(0), 1, (show _ = _ by omega), ?_⟩; conv => whnf)
                | (refine ⟨(0), 2, (show _ = _ by omega), ?_⟩; conv => whnf)
                | (refine ⟨(0), 3, (show _ = _ by omega), ?_⟩; conv => whnf)
                | (refine ⟨(0), 4, (show _ = _ by omega), ?_⟩; conv => whnf)
                | (refine ⟨(0), 5, (show _ = _ by omega), ?_⟩; conv => whnf)
                | (refine ⟨0, (show _ = _ by omega), ?_⟩; conv => whnf))
              refine ⟨[0, 1], ⟨r, A, B, a, od⟩, ?_, hA, hB⟩
              show stLe _ _ (stq re im lo od wh r A B a od) _
              conv => whnf
              repeat' (first | exact True.intro | rfl | refine And.intro ?_ ?_)
              all_goals (conv => whnf)
              repeat' (first | exact True.intro | rfl | refine And.intro ?_ ?_)
              all_goals (try omega)
            · skip
              conv => whnf
              repeat (first
                | (refine And.intro ?_ ?_; (focus (first | omega | decide | exact EqOk.mk (by kernel_rfl) (by kernel_rfl) (by kernel_rfl) | exact Int.natCast_nonneg _ | ((repeat' refine And.intro ?_ ?_) <;> first | omega | exact Int.natCast_nonneg _ | (simp only [i64max, u8max, u16max, u32max, u64max]; omega) | (simp only [mulSz_eq, Cont.len, colsLen, Col.len, List.length_cons, List.length_nil, List.length_replicate, List.length_append]; first | done | omega) | (simp [mulSz, Cont.len, bne]; first | done | omega)))); conv => whnf)
                | (refine tst_in ?_ ?_; (focus (intro h_; exfalso; first | omega | ((try simp only [decide_eq_true_eq, decide_eq_false_iff_not] at h_); omega) | (simp [mulSz, Cont.len, bne] at h_; first | done | omega))); intro _; conv => whnf)
                | (refine tst_in ?_ ?_; rotate_left; (focus (intro h_; exfalso; first | omega | ((try simp only [decide_eq_true_eq, decide_eq_false_iff_not] at h_); omega) | (simp [mulSz, Cont.len, bne] at h_; first | done | omega))); intro _; conv => whnf)
                | (refine ⟨(0), (show _ = _ by omega), ?_⟩; conv => whnf)
                | (refine ⟨(0), 0, (show _ = _ by omega), ?_⟩; conv => whnf)
                | (refine ⟨(0), 1, (show _ = _ by omega), ?_⟩; conv => whnf)
                | (refine ⟨(0), 2, (show _ = _ by omega), ?_⟩; conv => whnf)
                | (refine ⟨(0), 3, (show _ = _ by omega), ?_⟩; conv => whnf)
                | (refine ⟨(0), 4, (show _ = _ by omega), ?_⟩; conv => whnf)
                | (refine ⟨(0), 5, (show _ = _ by omega), ?_⟩; conv => whnf)
                | (refine ⟨0, (show _ = _ by omega), ?_⟩; conv => whnf))
              refine ⟨[0, 1], ⟨r, A, B, a, b⟩, ?_, hA, hB⟩
              show stLe _ _ (stq re im lo od wh r A B a b) _
              conv => whnf
              repeat' (first | exact True.intro | rfl | refine And.intro ?_ ?_)
              all_goals (conv => whnf)
              repeat' (first | exact True.intro | rfl | refine And.intro ?_ ?_)
              all_goals (try omega)
        · clear hA hB
          rintro ⟨r, A, B, a, b⟩ ⟨hA, hB⟩
          have hA : A.length = 0 + r := hA
          have hB : B.length = 0 + r := hB
          show forceSt (stq re im lo od wh r A B a b) _
          conv => whnf
          repeat (first
            | (refine And.intro ?_ ?_; (focus (first | omega | decide | exact EqOk.mk (by kernel_rfl) (by kernel_rfl) (by kernel_rfl) | exact Int.natCast_nonneg _ | ((repeat' refine And.intro ?_ ?_) <;> first | omega | exact Int.natCast_nonneg _ | (simp only [i64max, u8max, u16max, u32max, u64max]; omega) | (simp only [mulSz_eq, Cont.len, colsLen, Col.len, List.length_cons, List.length_nil, List.length_replicate, List.length_append, hA, hB, List.length_take, List.length_drop]; first | done | omega) | (simp [mulSz, Cont.len, bne, hA, hB, List.length_take, List.length_drop]; first | done | omega)))); conv => whnf)
            | (refine tst_in ?_ ?_; (focus (intro h_; exfalso; first | omega | ((try simp only [decide_eq_true_eq, decide_eq_false_iff_not] at h_); omega) | (simp [mulSz, Cont.len, bne, hA, hB, List.length_take, List.length_drop] at h_; first | done | omega))); intro _; conv => whnf)
            | (refine tst_in ?_ ?_; rotate_left; (focus (intro h_; exfalso; first | omega | ((try simp only [decide_eq_true_eq, decide_eq_false_iff_not] at h_); omega) | (simp [mulSz, Cont.len, bne, hA, hB, List.length_take, List.length_drop] at h_; first | done | omega))); intro _; conv => whnf)
            | (refine ⟨(0), (show _ = _ by omega), ?_⟩; conv => whnf)
            | (refine ⟨(0), 0, (show _ = _ by omega), ?_⟩; conv => whnf)
            | (refine ⟨(0), 1, (show _ = _ by omega), ?_⟩; conv => whnf)
            | (refine ⟨(0), 2, (show _ = _ by omega), ?_⟩; conv => whnf)
            | (refine ⟨(0), 3, (show _ = _ by omega), ?_⟩; conv => whnf)
            | (refine ⟨(0), 4, (show _ = _ by omega), ?_⟩; conv => whnf)
            | (refine ⟨(0), 5, (show _ = _ by omega), ?_⟩; conv => whnf)
            | (refine ⟨0, (show _ = _ by omega), ?_⟩; conv => whnf))
          intro r' u1 g1 u2 g2
          conv => whnf
          repeat (first
            | (refine And.intro ?_ ?_; (focus (first | omega | decide | exact EqOk.mk (by kernel_rfl) (by kernel_rfl) (by kernel_rfl) | exact Int.natCast_nonneg _ | ((repeat' refine And.intro ?_ ?_) <;> first | omega | exact Int.natCast_nonneg _ | (simp only [i64max, u8max, u16max, u32max, u64max]; omega) | (simp only [mulSz_eq, Cont.len, colsLen, Col.len, List.length_cons, List.length_nil, List.length_replicate, List.length_append]; first | done | omega) | (simp [mulSz, Cont.len, bne]; first | done | omega)))); conv => whnf)
            | (refine tst_in ?_ ?_; (focus (intro h_; exfalso; first | omega | ((try simp only [decide_eq_true_eq, decide_eq_false_iff_not] at h_); omega) | (simp [mulSz, Cont.len, bne] at h_; first | done | omega))); intro _; conv => whnf)
            | (refine tst_in ?_ ?_; rotate_left; (focus (intro h_; exfalso; first | omega | ((try simp only [decide_eq_true_eq, decide_eq_false_iff_not] at h_); omega) | (simp [mulSz, Cont.len, bne] at h_; first | done | omega))); intro _; conv => whnf)
            | (refine ⟨0, (show _ = _ by omega), ?_⟩; conv => whnf))
          refine ⟨[0, 3], ⟨1, r', List.take 0 (List.drop 0 A) ++ [(a, b)] ++ u1, List.take 0 (List.drop 0 B) ++ [lo] ++ u2⟩, ?_, ⟨Nat.le_refl _, (by simp [g1]; omega), (by simp [g2]; omega)⟩, (by show 1 - 1 < 1 - 0; omega)⟩
          show stLe _ _ (st3 re im lo od wh 1 r' _ _) _
          conv => whnf
          repeat' (first | exact True.intro | rfl | refine And.intro ?_ ?_)
          all_goals (conv => whnf)
          repeat' (first | exact True.intro | rfl | refine And.intro ?_ ?_)
          all_goals (try omega)
    · skip
      have hge : i = 1 := by simp at hge; omega
      subst hge
      conv => whnf
      repeat (first
        | (refine And.intro ?_ ?_; (focus (first | omega | decide | exact EqOk.mk (by kernel_rfl) (by kernel_rfl) (by kernel_rfl) | exact Int.natCast_nonneg _ | ((repeat' refine And.intro ?_ ?_) <;> first | omega | exact Int.natCast_nonneg _ | (simp only [i64max, u8max, u16max, u32max, u64max]; omega) | (simp only [mulSz_eq, Cont.len, colsLen, Col.len, List.length_cons, List.length_nil, List.length_replicate, List.length_append]; first | done | omega) | (simp [mulSz, Cont.len, bne]; first | done | omega)))); conv => whnf)
        | (refine tst_in ?_ ?_; (focus (intro h_; exfalso; first | omega | ((try simp only [decide_eq_true_eq, decide_eq_false_iff_not] at h_); omega) | (simp [mulSz, Cont.len, bne] at h_; first | done | omega))); intro _; conv => whnf)
        | (refine tst_in ?_ ?_; rotate_left; (focus (intro h_; exfalso; first | omega | ((try simp only [decide_eq_true_eq, decide_eq_false_iff_not] at h_); omega) | (simp [mulSz, Cont.len, bne] at h_; first | done | omega))); intro _; conv => whnf)
        | (refine ⟨0, (show _ = _ by omega), ?_⟩; conv => whnf))
      refine .inl ⟨(r, A, B), [0, 1], ?_⟩
      conv => whnf
      repeat' (first | exact True.intro | rfl | refine And.intro ?_ ?_)
      all_goals (conv => whnf)
      repeat' (first | exact True.intro | rfl | refine And.intro ?_ ?_)
      all_goals (try omega)
end Go.Proofs.Ytckkfpehpfdigaa

set_option linter.unusedVariables false
set_option linter.unusedSimpArgs false
namespace Go.Proofs.Ytckkfpehpfdigaa
open Go Go.Fw
def cellA (re im : Int) (lo : Bool) (od : Nat) (wh : Int) : AV := .agg [.int .i64 re, .int .i64 im, .bool lo, .flt .f64 od, .int .u8 wh]
set_option maxHeartbeats 0 in
set_option maxRecDepth 100000 in
theorem law_y (re im : Int) (lo : Bool) (od : Nat) (wh : Int) (s t : Nat) (q : Int) (hs : szT s t) : Fits Try.prog 3 ⟨[cellA re im lo od wh, .flt .f64 s, .int .i64 q], [], [numOut [] (.bool true)]⟩ := by
  have SF := samples_f re im lo od wh
  obtain ⟨n, hn⟩ : ∃ n : Nat, q % 4 = (n : Int) := ⟨(q % 4).toNat, by omega⟩
  have hk : (-q) % 4 = (((4 - n) % 4 : Nat) : Int) := by omega
  unfold cellS smOut at SF
  unfold cellA
  refine fits_of_body (C := cfgh 0) (c := (Try.f3.body).getD .skip) (ts := [6]) tokL mixedL (fun _ => none) (fun _ => none)
    Try.func3 (by kernel_rfl) (by kernel_rfl) (by kernel_rfl) (by kernel_rfl) rfl ?_
  conv => whnf
  repeat (first
    | (refine And.intro ?_ ?_; (focus (first | omega | decide | exact EqOk.mk (by kernel_rfl) (by kernel_rfl) (by kernel_rfl) | exact Int.natCast_nonneg _ | ((repeat' refine And.intro ?_ ?_) <;> first | omega | exact Int.natCast_nonneg _ | (simp only [i64max, u8max, u16max, u32max, u64max]; omega) | (simp only [mulSz_eq, Cont.len, colsLen, Col.len, List.length_cons, List.length_nil, List.length_replicate, List.length_append]; first | done | omega) | (simp [mulSz, Cont.len, bne]; first | done | omega)))); conv => whnf)
    | (refine tst_in ?_ ?_; (focus (intro h_; exfalso; first | omega | ((try simp only [decide_eq_true_eq, decide_eq_false_iff_not] at h_); omega) | (simp [mulSz, Cont.len, bne] at h_; first | done | omega))); intro _; conv => whnf)
    | (refine tst_in ?_ ?_; rotate_left; (focus (intro h_; exfalso; first | omega | ((try simp only [decide_eq_true_eq, decide_eq_false_iff_not] at h_); omega) | (simp [mulSz, Cont.len, bne] at h_; first | done | omega))); intro _; conv => whnf)
    | (refine ⟨0, (show _ = _ by omega), ?_⟩; conv => whnf))
  refine ⟨_, [1], SF, ?_⟩
  conv => whnf
  iterate 2
   refine And.intro ?_ ?_
   focus
    conv => whnf
    repeat' (first | exact True.intro | rfl | refine And.intro ?_ ?_ | omega)
    all_goals (conv => whnf)
    all_goals (try (first | rfl | omega | (simp; done)))
  conv => whnf
  refine ⟨?_, True.intro⟩
  intro (w : Nat × YT × List Bool) _
  conv => whnf
  obtain ⟨r, A, B⟩ := w
  rename_i hw
  obtain ⟨hA, hB⟩ := hw
  have hA : A.length = 1 + r := hA
  have hB : B.length = 1 + r := hB
  conv => whnf
  repeat (first
    | (refine And.intro ?_ ?_; (focus (first | omega | decide | exact EqOk.mk (by kernel_rfl) (by kernel_rfl) (by kernel_rfl) | exact Int.natCast_nonneg _ | ((repeat' refine And.intro ?_ ?_) <;> first | omega | exact Int.natCast_nonneg _ | (simp only [i64max, u8max, u16max, u32max, u64max]; omega) | (simp only [mulSz_eq, Cont.len, colsLen, Col.len, List.length_cons, List.length_nil, List.length_replicate, List.length_append, hA, hB]; first | done | omega) | (simp [mulSz, Cont.len, bne, hA, hB]; first | done | omega)))); conv => whnf)
    | (refine tst_in ?_ ?_; (focus (intro h_; exfalso; first | omega | ((try simp only [decide_eq_true_eq, decide_eq_false_iff_not] at h_); omega) | (simp [mulSz, Cont.len, bne, hA, hB] at h_; first | done | omega))); intro _; conv => whnf)
    | (refine tst_in ?_ ?_; rotate_left; (focus (intro h_; exfalso; first | omega | ((try simp only [decide_eq_true_eq, decide_eq_false_iff_not] at h_); omega) | (simp [mulSz, Cont.len, bne, hA, hB] at h_; first | done | omega))); intro _; conv => whnf)
    | (refine ⟨(0), (show _ = _ by omega), ?_⟩; conv => whnf)
    | (refine ⟨(0), 0, (show _ = _ by omega), ?_⟩; conv => whnf)
    | (refine ⟨(0), 1, (show _ = _ by omega), ?_⟩; conv => whnf)
    | (refine ⟨(0), 2, (show _ = _ by omega), ?_⟩; conv => whnf)
    | (refine ⟨(0), 3, (show _ = _ by omega), ?_⟩; conv => whnf)
    | (refine ⟨(0), 4, (show _ = _ by omega), ?_⟩; conv => whnf)
    | (refine ⟨(0), 5, (show _ = _ by omega), ?_⟩; conv => whnf)
    | (refine ⟨0, (show _ = _ by omega), ?_⟩; conv => whnf))
  have U1 := Undo_y (A.getD 0 (0, 0)) 0 q s t ((4 - n) % 4) hs hk
  have U2 := rUndo_y (A.getD 0 (0, 0)) 0 q s t n hs hn
  unfold fdA at U1 U2
  generalize trn ((4 - n) % 4) (A.getD 0 (0, 0)) = z at *
  unfold undOut at U1 U2
  refine ⟨_, [], U1, ?_⟩
  conv => whnf
  iterate 2
   refine And.intro ?_ ?_
   focus
    conv => whnf
    repeat' (first | exact True.intro | rfl | refine And.intro ?_ ?_ | omega)
    all_goals (conv => whnf)
    all_goals (try (first | rfl | omega | (simp; done)))
  conv => whnf
  refine ⟨?_, True.intro⟩
  intro (w1 : Nat × Nat) _
  conv => whnf
  obtain ⟨a1, a2⟩ := w1
  rename_i hw1
  obtain ⟨m1, m2⟩ := hw1
  have m1 : Mu z.1 t a1 := m1
  have m2 : Mu z.2 t a2 := m2
  conv => whnf
  repeat (first
    | (refine And.intro ?_ ?_; (focus (first | omega | decide | exact EqOk.mk (by kernel_rfl) (by kernel_rfl) (by kernel_rfl) | exact Int.natCast_nonneg _ | ((repeat' refine And.intro ?_ ?_) <;> first | omega | exact Int.natCast_nonneg _ | (simp only [i64max, u8max, u16max, u32max, u64max]; omega) | (simp only [mulSz_eq, Cont.len, colsLen, Col.len, List.length_cons, List.length_nil, List.length_replicate, List.length_append]; first | done | omega) | (simp [mulSz, Cont.len, bne]; first | done | omega)))); conv => whnf)
    | (refine tst_in ?_ ?_; (focus (intro h_; exfalso; first | omega | ((try simp only [decide_eq_true_eq, decide_eq_false_iff_not] at h_); omega) | (simp [mulSz, Cont.len, bne] at h_; first | done | omega))); intro _; conv => whnf)
    | (refine tst_in ?_ ?_; rotate_left; (focus (intro h_; exfalso; first | omega | ((try simp only [decide_eq_true_eq, decide_eq_false_iff_not] at h_); omega) | (simp [mulSz, Cont.len, bne] at h_; first | done | omega))); intro _; conv => whnf)
    | (refine ⟨0, (show _ = _ by omega), ?_⟩; conv => whnf))
  refine ⟨_, [], U2, ?_⟩
  conv => whnf
  iterate 2
   refine And.intro ?_ ?_
   focus
    conv => whnf
    repeat' (first | exact True.intro | rfl | refine And.intro ?_ ?_ | omega)
    all_goals (conv => whnf)
    all_goals (try (first | rfl | omega | (simp; done)))
  conv => whnf
  refine ⟨?_, True.intro⟩
  intro (w2 : Nat × Nat) _
  conv => whnf
  obtain ⟨b1, b2⟩ := w2
  rename_i hw2
  obtain ⟨n1, n2⟩ := hw2
  have n1 : Mu z.1 t b1 := n1
  have n2 : Mu z.2 t b2 := n2
  have AL1 := alike_q a1 b1 (Mu_alike m1 n1)
  have AL2 := alike_q a2 b2 (Mu_alike m2 n2)
  conv => whnf
  repeat (first
    | (refine And.intro ?_ ?_; (focus (first | omega | decide | exact EqOk.mk (by kernel_rfl) (by kernel_rfl) (by kernel_rfl) | exact Int.natCast_nonneg _ | ((repeat' refine And.intro ?_ ?_) <;> first | omega | exact Int.natCast_nonneg _ | (simp only [i64max, u8max, u16max, u32max, u64max]; omega) | (simp only [mulSz_eq, Cont.len, colsLen, Col.len, List.length_cons, List.length_nil, List.length_replicate, List.length_append]; first | done | omega) | (simp [mulSz, Cont.len, bne]; first | done | omega)))); conv => whnf)
    | (refine tst_in ?_ ?_; (focus (intro h_; exfalso; first | omega | ((try simp only [decide_eq_true_eq, decide_eq_false_iff_not] at h_); omega) | (simp [mulSz, Cont.len, bne] at h_; first | done | omega))); intro _; conv => whnf)
    | (refine tst_in ?_ ?_; rotate_left; (focus (intro h_; exfalso; first | omega | ((try simp only [decide_eq_true_eq, decide_eq_false_iff_not] at h_); omega) | (simp [mulSz, Cont.len, bne] at h_; first | done | omega))); intro _; conv => whnf)
    | (refine ⟨0, (show _ = _ by omega), ?_⟩; conv => whnf))
  refine ⟨_, [], AL1, ?_⟩
  conv => whnf
  iterate 2
   refine And.intro ?_ ?_
   focus
    conv => whnf
    repeat' (first | exact True.intro | rfl | refine And.intro ?_ ?_ | omega)
    all_goals (conv => whnf)
    all_goals (try (first | rfl | omega | (simp; done)))
  conv => whnf
  conv => whnf
  repeat (first
    | (refine And.intro ?_ ?_; (focus (first | omega | decide | exact EqOk.mk (by kernel_rfl) (by kernel_rfl) (by kernel_rfl) | exact Int.natCast_nonneg _ | ((repeat' refine And.intro ?_ ?_) <;> first | omega | exact Int.natCast_nonneg _ | (simp only [i64max, u8max, u16max, u32max, u64max]; omega) | (simp only [mulSz_eq, Cont.len, colsLen, Col.len, List.length_cons, List.length_nil, List.length_replicate, List.length_append]; first | done | omega) | (simp [mulSz, Cont.len, bne]; first | done | omega)))); conv => whnf)
    | (refine tst_in ?_ ?_; (focus (intro h_; exfalso; first | omega | ((try simp only [decide_eq_true_eq, decide_eq_false_iff_not] at h_); omega) | (simp [mulSz, Cont.len, bne] at h_; first | done | omega))); intro _; conv => whnf)
    | (refine tst_in ?_ ?_; rotate_left; (focus (intro h_; exfalso; first | omega | ((try simp only [decide_eq_true_eq, decide_eq_false_iff_not] at h_); omega) | (simp [mulSz, Cont.len, bne] at h_; first | done | omega))); intro _; conv => whnf)
    | (refine ⟨0, (show _ = _ by omega), ?_⟩; conv => whnf))
  refine ⟨_, [], AL2, ?_⟩
  conv => whnf
  iterate 2
   refine And.intro ?_ ?_
   focus
    conv => whnf
    repeat' (first | exact True.intro | rfl | refine And.intro ?_ ?_ | omega)
    all_goals (conv => whnf)
    all_goals (try (first | rfl | omega | (simp; done)))
  conv => whnf
  conv => whnf
  repeat (first
    | (refine And.intro ?_ ?_; (focus (first | omega | decide | exact EqOk.mk (by kernel_rfl) (by kernel_rfl) (by kernel_rfl) | exact Int.natCast_nonneg _ | ((repeat' refine And.intro ?_ ?_) <;> first | omega | exact Int.natCast_nonneg _ | (simp only [i64max, u8max, u16max, u32max, u64max]; omega) | (simp only [mulSz_eq, Cont.len, colsLen, Col.len, List.length_cons, List.length_nil, List.length_replicate, List.length_append]; first | done | omega) | (simp [mulSz, Cont.len, bne]; first | done | omega)))); conv => whnf)
    | (refine tst_in ?_ ?_; (focus (intro h_; exfalso; first | omega | ((try simp only [decide_eq_true_eq, decide_eq_false_iff_not] at h_); omega) | (simp [mulSz, Cont.len, bne] at h_; first | done | omega))); intro _; conv => whnf)
    | (refine tst_in ?_ ?_; rotate_left; (focus (intro h_; exfalso; first | omega | ((try simp only [decide_eq_true_eq, decide_eq_false_iff_not] at h_); omega) | (simp [mulSz, Cont.len, bne] at h_; first | done | omega))); intro _; conv => whnf)
    | (refine ⟨0, (show _ = _ by omega), ?_⟩; conv => whnf))
  refine .inl ⟨(), [], ?_⟩
  conv => whnf
  repeat' (first | exact True.intro | rfl | refine And.intro ?_ ?_)
  all_goals (conv => whnf)
  repeat' (first | exact True.intro | rfl | refine And.intro ?_ ?_)
  all_goals (try omega)
set_option maxHeartbeats 0 in
set_option maxRecDepth 100000 in
theorem law_n (re im : Int) (lo : Bool) (od : Nat) (wh : Int) (s : Nat) (q : Int) (hs : szN s) : Fits Try.prog 3 ⟨[cellA re im lo od wh, .flt .f64 s, .int .i64 q], [], [numOut [] (.bool true)]⟩ := by
  have SF := samples_f re im lo od wh
  have AL := alike_q 0 0 (.inl (by decide))
  unfold cellS smOut at SF
  unfold cellA
  refine fits_of_body (C := cfgh 0) (c := (Try.f3.body).getD .skip) (ts := [6]) tokL mixedL (fun _ => none) (fun _ => none)
    Try.func3 (by kernel_rfl) (by kernel_rfl) (by kernel_rfl) (by kernel_rfl) rfl ?_
  conv => whnf
  repeat (first
    | (refine And.intro ?_ ?_; (focus (first | omega | decide | exact EqOk.mk (by kernel_rfl) (by kernel_rfl) (by kernel_rfl) | exact Int.natCast_nonneg _ | ((repeat' refine And.intro ?_ ?_) <;> first | omega | exact Int.natCast_nonneg _ | (simp only [i64max, u8max, u16max, u32max, u64max]; omega) | (simp only [mulSz_eq, Cont.len, colsLen, Col.len, List.length_cons, List.length_nil, List.length_replicate, List.length_append]; first | done | omega) | (simp [mulSz, Cont.len, bne]; first | done | omega)))); conv => whnf)
    | (refine tst_in ?_ ?_; (focus (intro h_; exfalso; first | omega | ((try simp only [decide_eq_true_eq, decide_eq_false_iff_not] at h_); omega) | (simp [mulSz, Cont.len, bne] at h_; first | done | omega))); intro _; conv => whnf)
    | (refine tst_in ?_ ?_; rotate_left; (focus (intro h_; exfalso; first | omega | ((try simp only [decide_eq_true_eq, decide_eq_false_iff_not] at h_); omega) | (simp [mulSz, Cont.len, bne] at h_; first | done | omega))); intro _; conv => whnf)
    | (refine ⟨0, (show _ = _ by omega), ?_⟩; conv => whnf))
  refine ⟨_, [1], SF, ?_⟩
  conv => whnf
  iterate 2
   refine And.intro ?_ ?_
   focus
    conv => whnf
    repeat' (first | exact True.intro | rfl | refine And.intro ?_ ?_ | omega)
    all_goals (conv => whnf)
    all_goals (try (first | rfl | omega | (simp; done)))
  conv => whnf
  refine ⟨?_, True.intro⟩
  intro (w : Nat × YT × List Bool) _
  conv => whnf
  obtain ⟨r, A, B⟩ := w
  rename_i hw
  obtain ⟨hA, hB⟩ := hw
  have hA : A.length = 1 + r := hA
  have hB : B.length = 1 + r := hB
  conv => whnf
  repeat (first
    | (refine And.intro ?_ ?_; (focus (first | omega | decide | exact EqOk.mk (by kernel_rfl) (by kernel_rfl) (by kernel_rfl) | exact Int.natCast_nonneg _ | ((repeat' refine And.intro ?_ ?_) <;> first | omega | exact Int.natCast_nonneg _ | (simp only [i64max, u8max, u16max, u32max, u64max]; omega) | (simp only [mulSz_eq, Cont.len, colsLen, Col.len, List.length_cons, List.length_nil, List.length_replicate, List.length_append, hA, hB]; first | done | omega) | (simp [mulSz, Cont.len, bne, hA, hB]; first | done | omega)))); conv => whnf)
    | (refine tst_in ?_ ?_; (focus (intro h_; exfalso; first | omega | ((try simp only [decide_eq_true_eq, decide_eq_false_iff_not] at h_); omega) | (simp [mulSz, Cont.len, bne, hA, hB] at h_; first | done | omega))); intro _; conv => whnf)
    | (refine tst_in ?_ ?_; rotate_left; (focus (intro h_; exfalso; first | omega | ((try simp only [decide_eq_true_eq, decide_eq_false_iff_not] at h_); omega) | (simp [mulSz, Cont.len, bne, hA, hB] at h_; first | done | omega))); intro _; conv => whnf)
    | (refine ⟨(0), (show _ = _ by omega), ?_⟩; conv => whnf)
    | (refine ⟨(0), 0, (show _ = _ by omega), ?_⟩; conv => whnf)
    | (refine ⟨(0), 1, (show _ = _ by omega), ?_⟩; conv => whnf)
    | (refine ⟨(0), 2, (show _ = _ by omega), ?_⟩; conv => whnf)
    | (refine ⟨(0), 3, (show _ = _ by omega), ?_⟩; conv => whnf)
    | (refine ⟨(0), 4, (show _ = _ by omega), ?_⟩; conv => whnf)
    | (refine ⟨(0), 5, (show _ = _ by omega), ?_⟩; conv => whnf)
    | (refine ⟨0, (show _ = _ by omega), ?_⟩; conv => whnf))
  have U1 := Undo_n (A.getD 0 (0, 0)) 0 q s hs
  have U2 := rUndo_n (A.getD 0 (0, 0)) 0 q s hs
  unfold fdA errOut at U1 U2
  refine ⟨_, [], U1, ?_⟩
  conv => whnf
  iterate 2
   refine And.intro ?_ ?_
   focus
    conv => whnf
    repeat' (first | exact True.intro | rfl | refine And.intro ?_ ?_ | omega)
    all_goals (conv => whnf)
    all_goals (try (first | rfl | omega | (simp; done)))
  conv => whnf
  refine ⟨?_, True.intro⟩
  intro _ _
  conv => whnf
  conv => whnf
  repeat (first
    | (refine And.intro ?_ ?_; (focus (first | omega | decide | exact EqOk.mk (by kernel_rfl) (by kernel_rfl) (by kernel_rfl) | exact Int.natCast_nonneg _ | ((repeat' refine And.intro ?_ ?_) <;> first | omega | exact Int.natCast_nonneg _ | (simp only [i64max, u8max, u16max, u32max, u64max]; omega) | (simp only [mulSz_eq, Cont.len, colsLen, Col.len, List.length_cons, List.length_nil, List.length_replicate, List.length_append]; first | done | omega) | (simp [mulSz, Cont.len, bne]; first | done | omega)))); conv => whnf)
    | (refine tst_in ?_ ?_; (focus (intro h_; exfalso; first | omega | ((try simp only [decide_eq_true_eq, decide_eq_false_iff_not] at h_); omega) | (simp [mulSz, Cont.len, bne] at h_; first | done | omega))); intro _; conv => whnf)
    | (refine tst_in ?_ ?_; rotate_left; (focus (intro h_; exfalso; first | omega | ((try simp only [decide_eq_true_eq, decide_eq_false_iff_not] at h_); omega) | (simp [mulSz, Cont.len, bne] at h_; first | done | omega))); intro _; conv => whnf)
    | (refine ⟨0, (show _ = _ by omega), ?_⟩; conv => whnf))
  refine ⟨_, [], U2, ?_⟩
  conv => whnf
  iterate 2
   refine And.intro ?_ ?_
   focus
    conv => whnf
    repeat' (first | exact True.intro | rfl | refine And.intro ?_ ?_ | omega)
    all_goals (conv => whnf)
    all_goals (try (first | rfl | omega | (simp; done)))
  conv => whnf
  refine ⟨?_, True.intro⟩
  intro _ _
  conv => whnf
  conv => whnf
  repeat (first
    | (refine And.intro ?_ ?_; (focus (first | omega | decide | exact EqOk.mk (by kernel_rfl) (by kernel_rfl) (by kernel_rfl) | exact Int.natCast_nonneg _ | ((repeat' refine And.intro ?_ ?_) <;> first | omega | exact Int.natCast_nonneg _ | (simp only [i64max, u8max, u16max, u32max, u64max]; omega) | (simp only [mulSz_eq, Cont.len, colsLen, Col.len, List.length_cons, List.length_nil, List.length_replicate, List.length_append]; first | done | omega) | (simp [mulSz, Cont.len, bne]; first | done | omega)))); conv => whnf)
    | (refine tst_in ?_ ?_; (focus (intro h_; exfalso; first | omega | ((try simp only [decide_eq_true_eq, decide_eq_false_iff_not] at h_); omega) | (simp [mulSz, Cont.len, bne] at h_; first | done | omega))); intro _; conv => whnf)
    | (refine tst_in ?_ ?_; rotate_left; (focus (intro h_; exfalso; first | omega | ((try simp only [decide_eq_true_eq, decide_eq_false_iff_not] at h_); omega) | (simp [mulSz, Cont.len, bne] at h_; first | done | omega))); intro _; conv => whnf)
    | (refine ⟨0, (show _ = _ by omega), ?_⟩; conv => whnf))
  refine ⟨_, [], AL, ?_⟩
  conv => whnf
  iterate 2
   refine And.intro ?_ ?_
   focus
    conv => whnf
    repeat' (first | exact True.intro | rfl | refine And.intro ?_ ?_ | omega)
    all_goals (conv => whnf)
    all_goals (try (first | rfl | omega | (simp; done)))
  conv => whnf
  conv => whnf
  repeat (first
    | (refine And.intro ?_ ?_; (focus (first | omega | decide | exact EqOk.mk (by kernel_rfl) (by kernel_rfl) (by kernel_rfl) | exact Int.natCast_nonneg _ | ((repeat' refine And.intro ?_ ?_) <;> first | omega | exact Int.natCast_nonneg _ | (simp only [i64max, u8max, u16max, u32max, u64max]; omega) | (simp only [mulSz_eq, Cont.len, colsLen, Col.len, List.length_cons, List.length_nil, List.length_replicate, List.length_append]; first | done | omega) | (simp [mulSz, Cont.len, bne]; first | done | omega)))); conv => whnf)
    | (refine tst_in ?_ ?_; (focus (intro h_; exfalso; first | omega | ((try simp only [decide_eq_true_eq, decide_eq_false_iff_not] at h_); omega) | (simp [mulSz, Cont.len, bne] at h_; first | done | omega))); intro _; conv => whnf)
    | (refine tst_in ?_ ?_; rotate_left; (focus (intro h_; exfalso; first | omega | ((try simp only [decide_eq_true_eq, decide_eq_false_iff_not] at h_); omega) | (simp [mulSz, Cont.len, bne] at h_; first | done | omega))); intro _; conv => whnf)
    | (refine ⟨0, (show _ = _ by omega), ?_⟩; conv => whnf))
  refine ⟨_, [], AL, ?_⟩
  conv => whnf
  iterate 2
   refine And.intro ?_ ?_
   focus
    conv => whnf
    repeat' (first | exact True.intro | rfl | refine And.intro ?_ ?_ | omega)
    all_goals (conv => whnf)
    all_goals (try (first | rfl | omega | (simp; done)))
  conv => whnf
  conv => whnf
  repeat (first
    | (refine And.intro ?_ ?_; (focus (first | omega | decide | exact EqOk.mk (by kernel_rfl) (by kernel_rfl) (by kernel_rfl) | exact Int.natCast_nonneg _ | ((repeat' refine And.intro ?_ ?_) <;> first | omega | exact Int.natCast_nonneg _ | (simp only [i64max, u8max, u16max, u32max, u64max]; omega) | (simp only [mulSz_eq, Cont.len, colsLen, Col.len, List.length_cons, List.length_nil, List.length_replicate, List.length_append]; first | done | omega) | (simp [mulSz, Cont.len, bne]; first | done | omega)))); conv => whnf)
    | (refine tst_in ?_ ?_; (focus (intro h_; exfalso; first | omega | ((try simp only [decide_eq_true_eq, decide_eq_false_iff_not] at h_); omega) | (simp [mulSz, Cont.len, bne] at h_; first | done | omega))); intro _; conv => whnf)
    | (refine tst_in ?_ ?_; rotate_left; (focus (intro h_; exfalso; first | omega | ((try simp only [decide_eq_true_eq, decide_eq_false_iff_not] at h_); omega) | (simp [mulSz, Cont.len, bne] at h_; first | done | omega))); intro _; conv => whnf)
    | (refine ⟨0, (show _ = _ by omega), ?_⟩; conv => whnf))
  refine .inl ⟨(), [], ?_⟩
  conv => whnf
  repeat' (first | exact True.intro | rfl | refine And.intro ?_ ?_)
  all_goals (conv => whnf)
  repeat' (first | exact True.intro | rfl | refine And.intro ?_ ?_)
  all_goals (try omega)
theorem sz_or (s : Nat) (hs : s < 18446744073709551616) : (∃ t, szT s t) ∨ szN s := by
  cases h1 : (FloatKind.f64.format.order s 4607182418800017408 == some .eq)
  · cases h2 : (FloatKind.f64.format.order s 4602678819172646912 == some .eq)
    · cases h3 : (FloatKind.f64.format.order s 4598175219545276416 == some .eq)
      · exact .inr ⟨h1, h2, h3⟩
      · exact .inl ⟨_, .inr (.inr ⟨eq_pow hs (by decide) (show D.read 4598175219545276416 = .number false 4503599627370496 (-54) by decide) h3, rfl⟩)⟩
    · exact .inl ⟨_, .inr (.inl ⟨eq_pow hs (by decide) (show D.read 4602678819172646912 = .number false 4503599627370496 (-53) by decide) h2, rfl⟩)⟩
  · exact .inl ⟨_, .inl ⟨eq_pow hs (by decide) (show D.read 4607182418800017408 = .number false 4503599627370496 (-52) by decide) h1, rfl⟩⟩
def lawSpec (re im : Int) (lo : Bool) (od : Nat) (wh : Int) (s : Nat) (q : Int) : FSpec := ⟨[.agg [.int .i64 re, .int .i64 im, .bool lo, .flt .f64 od, .int .u8 wh], .flt .f64 s, .int .i64 q], [], [⟨Unit, fun _ => True, fun _ => .bool true, fun _ => []⟩]⟩
theorem law_m (re im : Int) (lo : Bool) (od : Nat) (wh : Int) (s : Nat) (q : Int) (hs : (Lit.float .f64 s).wf = true) : Fits Try.prog 3 (lawSpec re im lo od wh s q) := by
  have hs : s < 18446744073709551616 := by simpa [Lit.wf] using hs
  rcases sz_or s hs with ⟨t, h⟩ | h
  · exact law_y re im lo od wh s t q h
  · exact law_n re im lo od wh s q h
end Go.Proofs.Ytckkfpehpfdigaa

namespace Go.Proofs.Ytckkfpehpfdigaa
open Go Go.Fw
namespace huntUndoes
open Go.ChangeShapes Go.WideShapes Go.ChangeAt Go.RowKit
theorem own : ownKnob Try.prog.godebug = none := by kernel_rfl
theorem laid : laidOutB Try.prog = true := by kernel_rfl

set_option maxRecDepth 100000 in
theorem lifted (os : Os) (started : os.Started) (H : Type) (enc : TypeId × Value → H) :
    ReturnsInHanded {} Try.checked os 3 .any (Rows.huntUndoesSpec.pre6 enc Try.prog Try.f3 Rows.huntUndoesRow.domain false) (Rows.huntUndoesSpec.post enc Try.prog Try.f3 false true false false) := by
  refine returnsInHanded_of_change_sized (C := Try.checked) own started (by kernel_rfl) Try.func3
    (ChangeSpec.witness6 (enc := enc) (C := Try.checked) false ⟨#[], #[.agg #[.int .i64 0, .int .i64 0, .bool false, .float .f64 0, .int .u8 0], .float .f64 0, .int .i64 0], []⟩ 8 (by kernel_rfl) (by kernel_rfl) (by kernel_rfl) (by kernel_rfl)) ?_
  intro W base args ds gs before hval0 hW _ hsz0 _
  have hsz : (DataW.weightsEach Try.prog (Try.f3.params.toList ++ Rows.huntUndoesSpec.plain.varTypes Try.prog) (ds ++ gs)).all (· ≤ reachBytes) = true := hsz0
  clear hsz0
  have hval : ∀ (j : Nat) t v, Try.f3.params[j]? = some t → args[j]? = some v → Value.okWide Try.prog W .any base t v := hval0
  have hW' := hW
  obtain ⟨p, q, hA0, hV, rfl, hfz, hnd⟩ := hW
  have hA : DataW.TrodAll enc Try.prog W 0 (fun _ => true) true Try.f3.params.toList args.toList ds p := hA0
  rw [Try.params3] at hA hval hsz
  obtain ⟨v0, vs0, d0, ds0, p0, q0, hargs, rfl, rfl, h0, r0⟩ := trodAll_cons hA
  obtain ⟨v1, vs1, d1, ds1, p1, q1, rfl, rfl, rfl, h1, r1⟩ := trodAll_cons r0
  obtain ⟨v2, vs2, d2, ds2, p2, q2, rfl, rfl, rfl, h2, r2⟩ := trodAll_cons r1
  obtain ⟨rfl, rfl, rfl⟩ := trodAll_nil r2
  obtain rfl : args = #[v0, v1, v2] := by cases args; simp_all
  obtain ⟨rfl, rfl⟩ := trodVars_none hV
  obtain ⟨c0c0, t0_0, e0_0, l0_0, c0c1, t0_1, e0_1, l0_1, c0c2, t0_2, e0_2, l0_2, c0c3, t0_3, e0_3, l0_3, c0c4, t0_4, e0_4, l0_4, e0_5⟩ : LeafsAre W [.int .i64, .int .i64, .bool, .flt .f64, .int .u8] v0.cells.toList := arg_open 12 (by kernel_rfl) h0 (fine_of (j := 0) hsz rfl rfl)
  subst e0_5
  subst e0_4
  subst e0_3
  subst e0_2
  subst e0_1
  obtain rfl := agg_of e0_0 (by simp)
  obtain ⟨x0_0, rfl, w0_0⟩ := l0_0
  obtain ⟨x0_1, rfl, w0_1⟩ := l0_1
  obtain ⟨x0_2, rfl⟩ := l0_2
  obtain ⟨x0_3, rfl, w0_3⟩ := l0_3
  obtain ⟨x0_4, rfl, w0_4⟩ := l0_4
  obtain ⟨x1_0, rfl, rfl, rfl, w1_0⟩ := open_float Try.underlying22 (hval 1 22 v1 rfl rfl) h1
  obtain ⟨x2_0, rfl, rfl, rfl, w2_0⟩ := open_int Try.underlying3 (hval 2 3 v2 rfl rfl) h2
  clear hA0 hval0
  have walk := ((law_m x0_0 x0_1 x0_2 x0_3 x0_4 x1_0 x2_0 w1_0)).calls W [] [.agg #[.int .i64 x0_0, .int .i64 x0_1, .bool x0_2, .float .f64 x0_3, .int .u8 x0_4], .float .f64 x1_0, .int .i64 x2_0] (heap_args rfl fun i s hs => by
      simp [lawSpec] at hs) (by simp only [lawSpec, Dens]; exact ⟨_, _, rfl, ⟨[.int .i64 x0_0, .int .i64 x0_1, .bool x0_2, .float .f64 x0_3, .int .u8 x0_4], rfl, ⟨_, _, rfl, by simp [Den], ⟨_, _, rfl, by simp [Den], ⟨_, _, rfl, by simp [Den], ⟨_, _, rfl, by simp [Den], ⟨_, _, rfl, by simp [Den], rfl⟩⟩⟩⟩⟩⟩, ⟨_, _, rfl, by simp [Den], ⟨_, _, rfl, by simp [Den], rfl⟩⟩⟩) (x := .bool true) (v := .bool true) rfl (by
      intro o ho y hy
      simp [lawSpec] at ho
      subst ho; rfl)
  refine walk.mono fun e W' ⟨he, hg⟩ => ?_
  subst he
  exact ⟨_, rfl, law_done laid rfl rfl Try.underlying4 (by kernel_rfl) hW' rfl hg⟩

theorem over : Rows.huntUndoesRow.holds Try.pinned (OpenSpec.ofChange Rows.huntUndoesSpec) :=
  OpenClaim.holds_of_wide 3 Try.f3 rfl rfl rfl rfl rfl rfl rfl ⟨rfl, rfl, rfl, rfl, rfl⟩ rfl rfl rfl rfl rfl (by kernel_rfl) Try.func3 (by kernel_rfl)
    (of_decide_eq_true (by kernel_rfl)) (by unfold Func.isWrapper; first | (rw [if_pos (by decide +kernel)]; kernel_rfl) | (rw [if_neg (by decide +kernel)]; exact ⟨rfl, rfl⟩))
    (fun os started H enc _ => lifted os started H enc)

theorem proved : Rows.HuntUndoesSaid := over
end huntUndoes
end Go.Proofs.Ytckkfpehpfdigaa
