/-
  For any register, any count and any two numbers of int64, jumps are as many steps (forth and back), they add up, and they lead back, and the law answers true and leaves its arguments as they were. No condition.
-/
import Derived.Test.YtdahkhhngaanfaaRows
import Derived.Test.YtdahkhhngaanfaaFv
import Derived.Test.YtdahkhhngaanfaaTwScrambleJumps
import Derived.Test.YtdahkhhngaanfaaFa
import Derived.WalkKit
import Derived.ProofKit
import Derived.OpenShut
import Derived.SizedLaws
set_option linter.unusedSimpArgs false
set_option linter.unusedVariables false
set_option linter.unusedVariables false
set_option linter.unusedSimpArgs false
namespace Go.Proofs.Ytdahkhhngaanfaa
open Go Go.Fw
def qf : Nat → Bool := fun f => match f with | 44 => true | 40 => true | 27 => true | 9 => true | 12 => true | 15 => true | 41 => true | _ => false
def cfgs (k : Nat) : Cfg := { T := tys, sgn := fun _ => false, wr := fun _ => false, k := k, q := qf }
theorem i64max : IntKind.i64.max = 9223372036854775807 := rfl
theorem u8max : IntKind.u8.max = 255 := rfl
theorem u16max : IntKind.u16.max = 65535 := rfl
theorem u32max : IntKind.u32.max = 4294967295 := rfl
theorem u64max : IntKind.u64.max = 18446744073709551615 := rfl
theorem u8wrap (n : Int) : IntKind.u8.wrap n = n % 256 := by
  unfold IntKind.wrap
  simp [IntKind.bits, IntKind.signed]
theorem u32wrap (n : Int) : IntKind.u32.wrap n = n % 4294967296 := by
  unfold IntKind.wrap
  simp [IntKind.bits, IntKind.signed]
theorem u64wrap (n : Int) : IntKind.u64.wrap n = n % 18446744073709551616 := by
  unfold IntKind.wrap
  simp [IntKind.bits, IntKind.signed]
/-- The exclusive or of the first bits. -/
def pb (n : Nat) : Nat → Bool
  | 0 => false
  | k + 1 => (pb n k != n.testBit k)
theorem pb_xor (a b : Nat) : ∀ k, pb (a ^^^ b) k = (pb a k != pb b k)
  | 0 => rfl
  | k + 1 => by
    simp only [pb, pb_xor a b k, Nat.testBit_xor]
    cases pb a k <;> cases pb b k <;> cases a.testBit k <;> cases b.testBit k <;> rfl
theorem pb_add (n j : Nat) : ∀ k, pb n (j + k) = (pb n j != pb (n >>> j) k)
  | 0 => by simp [pb]
  | k + 1 => by
    rw [← Nat.add_assoc]
    simp only [pb, pb_add n j k, Nat.testBit_shiftRight]
    cases pb n j <;> cases pb (n >>> j) k <;> cases n.testBit (j + k) <;> rfl
theorem pb_mod (n m : Nat) : ∀ k, k ≤ m → pb (n % 2 ^ m) k = pb n k
  | 0, _ => rfl
  | k + 1, h => by
    simp only [pb, pb_mod n m k (by omega), Nat.testBit_mod_two_pow, decide_eq_true (show k < m by omega), Bool.true_and]
def par (n : Nat) : Bool := pb n 32
def ocL : List UInt8 := [0, 1, 1, 2, 1, 2, 2, 3, 1, 2, 2, 3, 2, 3, 3, 4, 1, 2, 2, 3, 2, 3, 3, 4, 2, 3, 3, 4, 3, 4, 4, 5, 1, 2, 2, 3, 2, 3, 3, 4, 2, 3, 3, 4, 3, 4, 4, 5, 2, 3, 3, 4, 3, 4, 4, 5, 3, 4, 4, 5, 4, 5, 5, 6, 1, 2, 2, 3, 2, 3, 3, 4, 2, 3, 3, 4, 3, 4, 4, 5, 2, 3, 3, 4, 3, 4, 4, 5, 3, 4, 4, 5, 4, 5, 5, 6, 2, 3, 3, 4, 3, 4, 4, 5, 3, 4, 4, 5, 4, 5, 5, 6, 3, 4, 4, 5, 4, 5, 5, 6, 4, 5, 5, 6, 5, 6, 6, 7, 1, 2, 2, 3, 2, 3, 3, 4, 2, 3, 3, 4, 3, 4, 4, 5, 2, 3, 3, 4, 3, 4, 4, 5, 3, 4, 4, 5, 4, 5, 5, 6, 2, 3, 3, 4, 3, 4, 4, 5, 3, 4, 4, 5, 4, 5, 5, 6, 3, 4, 4, 5, 4, 5, 5, 6, 4, 5, 5, 6, 5, 6, 6, 7, 2, 3, 3, 4, 3, 4, 4, 5, 3, 4, 4, 5, 4, 5, 5, 6, 3, 4, 4, 5, 4, 5, 5, 6, 4, 5, 5, 6, 5, 6, 6, 7, 3, 4, 4, 5, 4, 5, 5, 6, 4, 5, 5, 6, 5, 6, 6, 7, 4, 5, 5, 6, 5, 6, 6, 7, 5, 6, 6, 7, 6, 7, 7, 8]
def oc8 (i : Nat) : Nat := (ocL.getD i 0).toNat
theorem byteAt_oc {s : ByteArray} (i : Nat) (hs : s.data.toList = ocL) : byteAt s i = oc8 i := by unfold byteAt oc8; rw [hs]
theorem oc8_ok : ∀ i, i < 256 → oc8 i ≤ 8 ∧ oc8 i % 2 = (pb i 8).toNat := by decide +kernel
noncomputable def c44 : Code := (Try.f44.body).getD .skip
theorem par_parts (n : Nat) (hn : n < 4294967296) : (par n).toNat = (oc8 (n / 16777216) + oc8 (n / 65536 % 256) + oc8 (n / 256 % 256) + oc8 (n % 256)) % 2 := by
  have e1 : par n = ((pb (n % 2 ^ 8) 8 != pb (n / 256 % 2 ^ 8) 8) != (pb (n / 65536 % 2 ^ 8) 8 != pb (n / 16777216) 8)) := by
    unfold par
    rw [show 32 = 8 + 24 from rfl, pb_add n 8 24, show 24 = 8 + 16 from rfl, pb_add (n >>> 8) 8 16, show 16 = 8 + 8 from rfl, pb_add (n >>> 8 >>> 8) 8 8]
    rw [pb_mod _ 8 8 (Nat.le_refl _), pb_mod _ 8 8 (Nat.le_refl _), pb_mod _ 8 8 (Nat.le_refl _)]
    simp only [Nat.shiftRight_eq_div_pow, Nat.div_div_eq_div_mul]
    show (pb n 8 != (pb (n / 256) 8 != (pb (n / 65536) 8 != pb (n / 16777216) 8))) = _
    cases pb n 8 <;> cases pb (n / 256) 8 <;> cases pb (n / 65536) 8 <;> cases pb (n / 16777216) 8 <;> rfl
  have a := oc8_ok (n / 16777216) (by omega)
  have b := oc8_ok (n / 65536 % 256) (by omega)
  have c := oc8_ok (n / 256 % 256) (by omega)
  have d := oc8_ok (n % 256) (by omega)
  rw [e1]
  show ((pb (n % 256) 8 != pb (n / 256 % 256) 8) != (pb (n / 65536 % 256) 8 != pb (n / 16777216) 8)).toNat = _
  revert a b c d
  generalize pb (n % 256) 8 = p
  generalize pb (n / 256 % 256) 8 = q
  generalize pb (n / 65536 % 256) 8 = r
  generalize pb (n / 16777216) 8 = s
  intro a b c d
  cases p <;> cases q <;> cases r <;> cases s <;> simp at * <;> omega
def oc (n : Nat) : Nat := oc8 (n / 16777216) + oc8 (n / 65536 % 256) + oc8 (n / 256 % 256) + oc8 (n % 256)
theorem oc_le (n : Nat) (hn : n < 4294967296) : oc8 (n / 16777216) ≤ 8 ∧ oc8 (n / 65536 % 256) ≤ 8 ∧ oc8 (n / 256 % 256) ≤ 8 ∧ oc8 (n % 256) ≤ 8 :=
  ⟨(oc8_ok _ (by omega)).1, (oc8_ok _ (by omega)).1, (oc8_ok _ (by omega)).1, (oc8_ok _ (by omega)).1⟩
theorem and255 (n : Nat) : n &&& 255 = n % 256 := Nat.and_two_pow_sub_one_eq_mod n 8
theorem shr_nat (n j : Nat) (b : Int) (m : Nat) (hb : b.toNat = j) (hj : j ≤ m) : (n : Int) / 2 ^ (min b.toNat m) = ((n / 2 ^ j : Nat) : Int) := by
  rw [hb, Nat.min_eq_left hj]; simp
set_option maxHeartbeats 0 in
set_option maxRecDepth 100000 in
theorem ones_q (n : Nat) (hn : n < 4294967296) : QFits Try.prog 44 ⟨[.int .u32 n], [], .int .i64 (oc n : Nat)⟩ := by
  have hle := oc_le n hn
  refine qfits_of_body (C := cfgs 0) (c := c44) (ts := [2]) tok mixed (fun _ => none) (fun _ => none)
    Try.func44 (by kernel_rfl) (by kernel_rfl) (by kernel_rfl) (by kernel_rfl) (by kernel_rfl) rfl rfl ?_
  have s24 : (n : Int) / 2 ^ (min (Int.toNat 24) (IntKind.bits .u32)) = ((n / 16777216 : Nat) : Int) := shr_nat n 24 24 (IntKind.bits .u32) rfl (by decide)
  have s16 : (n : Int) / 2 ^ (min (Int.toNat 16) (IntKind.bits .u32)) = ((n / 65536 : Nat) : Int) := shr_nat n 16 16 (IntKind.bits .u32) rfl (by decide)
  have s8 : (n : Int) / 2 ^ (min (Int.toNat 8) (IntKind.bits .u32)) = ((n / 256 : Nat) : Int) := shr_nat n 8 8 (IntKind.bits .u32) rfl (by decide)
  obtain ⟨h1, h2, h3, h4⟩ := hle
  unfold oc
  generalize hA : oc8 (n / 16777216) = A at *
  generalize hB : oc8 (n / 65536 % 256) = B at *
  generalize hC : oc8 (n / 256 % 256) = C at *
  generalize hD : oc8 (n % 256) = D at *
  conv => whnf
  repeat (first
    | (refine And.intro ?_ ?_; (focus (first | omega | decide | exact Int.natCast_nonneg _ | ((repeat' refine And.intro ?_ ?_) <;> first | omega | exact Int.natCast_nonneg _ | (simp only [i64max]; omega) | (simp only [u8max]; omega) | (simp only [i64max, u8max, u16max, u32max, u64max]; omega) | (simp [mulSz, Cont.len, bne]; done) | (simp [mulSz, Cont.len, bne]; omega)))); conv => whnf)
    | (refine tst_in ?_ ?_; (focus (intro h_; exfalso; first | omega | ((try simp only [decide_eq_true_eq, decide_eq_false_iff_not] at h_); omega) | (simp [mulSz, Cont.len, bne] at h_; done) | (simp [mulSz, Cont.len, bne] at h_; omega))); intro _; conv => whnf)
    | (refine tst_in ?_ ?_; rotate_left; (focus (intro h_; exfalso; first | omega | ((try simp only [decide_eq_true_eq, decide_eq_false_iff_not] at h_); omega) | (simp [mulSz, Cont.len, bne] at h_; done) | (simp [mulSz, Cont.len, bne] at h_; omega))); intro _; conv => whnf))
  rw [s24]
  conv => whnf
  refine ⟨⟨by omega, by show ((n / 16777216 : Nat) : Int) < 256; omega⟩, ?_⟩
  rw [Int.toNat_natCast, byteAt_oc _ rfl, hA]
  conv => whnf
  repeat (first
    | (refine And.intro ?_ ?_; (focus (first | omega | decide | exact Int.natCast_nonneg _ | ((repeat' refine And.intro ?_ ?_) <;> first | omega | exact Int.natCast_nonneg _ | (simp only [i64max]; omega) | (simp only [u8max]; omega) | (simp only [i64max, u8max, u16max, u32max, u64max]; omega) | (simp [mulSz, Cont.len, bne]; done) | (simp [mulSz, Cont.len, bne]; omega)))); conv => whnf)
    | (refine tst_in ?_ ?_; (focus (intro h_; exfalso; first | omega | ((try simp only [decide_eq_true_eq, decide_eq_false_iff_not] at h_); omega) | (simp [mulSz, Cont.len, bne] at h_; done) | (simp [mulSz, Cont.len, bne] at h_; omega))); intro _; conv => whnf)
    | (refine tst_in ?_ ?_; rotate_left; (focus (intro h_; exfalso; first | omega | ((try simp only [decide_eq_true_eq, decide_eq_false_iff_not] at h_); omega) | (simp [mulSz, Cont.len, bne] at h_; done) | (simp [mulSz, Cont.len, bne] at h_; omega))); intro _; conv => whnf))
  rw [s16]
  conv => whnf
  repeat (first
    | (refine And.intro ?_ ?_; (focus (first | omega | decide | exact Int.natCast_nonneg _ | ((repeat' refine And.intro ?_ ?_) <;> first | omega | exact Int.natCast_nonneg _ | (simp only [i64max]; omega) | (simp only [u8max]; omega) | (simp only [i64max, u8max, u16max, u32max, u64max]; omega) | (simp [mulSz, Cont.len, bne]; done) | (simp [mulSz, Cont.len, bne]; omega)))); conv => whnf)
    | (refine tst_in ?_ ?_; (focus (intro h_; exfalso; first | omega | ((try simp only [decide_eq_true_eq, decide_eq_false_iff_not] at h_); omega) | (simp [mulSz, Cont.len, bne] at h_; done) | (simp [mulSz, Cont.len, bne] at h_; omega))); intro _; conv => whnf)
    | (refine tst_in ?_ ?_; rotate_left; (focus (intro h_; exfalso; first | omega | ((try simp only [decide_eq_true_eq, decide_eq_false_iff_not] at h_); omega) | (simp [mulSz, Cont.len, bne] at h_; done) | (simp [mulSz, Cont.len, bne] at h_; omega))); intro _; conv => whnf))
  rw [Int.toNat_natCast, show (255 : Int).toNat = 255 from rfl, and255]
  conv => whnf
  refine ⟨⟨by omega, by show ((n / 65536 % 256 : Nat) : Int) < 256; omega⟩, ?_⟩
  rw [Int.toNat_natCast, byteAt_oc _ rfl, hB]
  conv => whnf
  rw [u8wrap, show ((A : Int) + (B : Int)) % 256 = ((A + B : Nat) : Int) by omega]
  conv => whnf
  repeat (first
    | (refine And.intro ?_ ?_; (focus (first | omega | decide | exact Int.natCast_nonneg _ | ((repeat' refine And.intro ?_ ?_) <;> first | omega | exact Int.natCast_nonneg _ | (simp only [i64max]; omega) | (simp only [u8max]; omega) | (simp only [i64max, u8max, u16max, u32max, u64max]; omega) | (simp [mulSz, Cont.len, bne]; done) | (simp [mulSz, Cont.len, bne]; omega)))); conv => whnf)
    | (refine tst_in ?_ ?_; (focus (intro h_; exfalso; first | omega | ((try simp only [decide_eq_true_eq, decide_eq_false_iff_not] at h_); omega) | (simp [mulSz, Cont.len, bne] at h_; done) | (simp [mulSz, Cont.len, bne] at h_; omega))); intro _; conv => whnf)
    | (refine tst_in ?_ ?_; rotate_left; (focus (intro h_; exfalso; first | omega | ((try simp only [decide_eq_true_eq, decide_eq_false_iff_not] at h_); omega) | (simp [mulSz, Cont.len, bne] at h_; done) | (simp [mulSz, Cont.len, bne] at h_; omega))); intro _; conv => whnf))
  rw [s8]
  conv => whnf
  repeat (first
    | (refine And.intro ?_ ?_; (focus (first | omega | decide | exact Int.natCast_nonneg _ | ((repeat' refine And.intro ?_ ?_) <;> first | omega | exact Int.natCast_nonneg _ | (simp only [i64max]; omega) | (simp only [u8max]; omega) | (simp only [i64max, u8max, u16max, u32max, u64max]; omega) | (simp [mulSz, Cont.len, bne]; done) | (simp [mulSz, Cont.len, bne]; omega)))); conv => whnf)
    | (refine tst_in ?_ ?_; (focus (intro h_; exfalso; first | omega | ((try simp only [decide_eq_true_eq, decide_eq_false_iff_not] at h_); omega) | (simp [mulSz, Cont.len, bne] at h_; done) | (simp [mulSz, Cont.len, bne] at h_; omega))); intro _; conv => whnf)
    | (refine tst_in ?_ ?_; rotate_left; (focus (intro h_; exfalso; first | omega | ((try simp only [decide_eq_true_eq, decide_eq_false_iff_not] at h_); omega) | (simp [mulSz, Cont.len, bne] at h_; done) | (simp [mulSz, Cont.len, bne] at h_; omega))); intro _; conv => whnf))
  rw [Int.toNat_natCast, show (255 : Int).toNat = 255 from rfl, and255]
  conv => whnf
  refine ⟨⟨by omega, by show ((n / 256 % 256 : Nat) : Int) < 256; omega⟩, ?_⟩
  rw [Int.toNat_natCast, byteAt_oc _ rfl, hC]
  conv => whnf
  rw [u8wrap, show (((A + B : Nat) : Int) + (C : Int)) % 256 = ((A + B + C : Nat) : Int) by omega]
  conv => whnf
  repeat (first
    | (refine And.intro ?_ ?_; (focus (first | omega | decide | exact Int.natCast_nonneg _ | ((repeat' refine And.intro ?_ ?_) <;> first | omega | exact Int.natCast_nonneg _ | (simp only [i64max]; omega) | (simp only [u8max]; omega) | (simp only [i64max, u8max, u16max, u32max, u64max]; omega) | (simp [mulSz, Cont.len, bne]; done) | (simp [mulSz, Cont.len, bne]; omega)))); conv => whnf)
    | (refine tst_in ?_ ?_; (focus (intro h_; exfalso; first | omega | ((try simp only [decide_eq_true_eq, decide_eq_false_iff_not] at h_); omega) | (simp [mulSz, Cont.len, bne] at h_; done) | (simp [mulSz, Cont.len, bne] at h_; omega))); intro _; conv => whnf)
    | (refine tst_in ?_ ?_; rotate_left; (focus (intro h_; exfalso; first | omega | ((try simp only [decide_eq_true_eq, decide_eq_false_iff_not] at h_); omega) | (simp [mulSz, Cont.len, bne] at h_; done) | (simp [mulSz, Cont.len, bne] at h_; omega))); intro _; conv => whnf))
  rw [Int.toNat_natCast, show (255 : Int).toNat = 255 from rfl, and255]
  conv => whnf
  refine ⟨⟨by omega, by show ((n % 256 : Nat) : Int) < 256; omega⟩, ?_⟩
  rw [Int.toNat_natCast, byteAt_oc _ rfl, hD]
  conv => whnf
  rw [u8wrap, show (((A + B + C : Nat) : Int) + (D : Int)) % 256 = ((A + B + C + D : Nat) : Int) by omega]
  conv => whnf
  rw [show IntKind.i64.wrap ((A + B + C + D : Nat) : Int) = ((A + B + C + D : Nat) : Int) from wrap_i64 (by omega)]
noncomputable def c40 : Code := (Try.f40.body).getD .skip
set_option maxHeartbeats 0 in
set_option maxRecDepth 100000 in
theorem parity_q (n : Nat) (hn : n < 4294967296) : QFits Try.prog 40 ⟨[.int .u32 n], [], .int .u32 ((par n).toNat : Nat)⟩ := by
  have O := ones_q n hn
  have hle := oc_le n hn
  have hp : oc n % 2 = (par n).toNat := (par_parts n hn).symm
  have hl : oc n ≤ 32 := by unfold oc; omega
  generalize oc n = c at *
  refine qfits_of_body (C := cfgs 0) (c := c40) (ts := [2]) tok mixed (fun _ => none) (fun _ => none)
    Try.func40 (by kernel_rfl) (by kernel_rfl) (by kernel_rfl) (by kernel_rfl) (by kernel_rfl) rfl rfl ?_
  conv => whnf
  repeat (first
    | (refine And.intro ?_ ?_; (focus (first | omega | decide | exact Int.natCast_nonneg _ | ((repeat' refine And.intro ?_ ?_) <;> first | omega | exact Int.natCast_nonneg _ | (simp only [i64max]; omega) | (simp only [u8max]; omega) | (simp only [i64max, u8max, u16max, u32max, u64max]; omega) | (simp [mulSz, Cont.len, bne]; done) | (simp [mulSz, Cont.len, bne]; omega)))); conv => whnf)
    | (refine tst_in ?_ ?_; (focus (intro h_; exfalso; first | omega | ((try simp only [decide_eq_true_eq, decide_eq_false_iff_not] at h_); omega) | (simp [mulSz, Cont.len, bne] at h_; done) | (simp [mulSz, Cont.len, bne] at h_; omega))); intro _; conv => whnf)
    | (refine tst_in ?_ ?_; rotate_left; (focus (intro h_; exfalso; first | omega | ((try simp only [decide_eq_true_eq, decide_eq_false_iff_not] at h_); omega) | (simp [mulSz, Cont.len, bne] at h_; done) | (simp [mulSz, Cont.len, bne] at h_; omega))); intro _; conv => whnf))
  refine ⟨_, [], O, ?_⟩
  conv => whnf
  refine ⟨?_, ?_, ?_⟩
  · conv => whnf
    repeat' (first | exact True.intro | rfl | refine And.intro ?_ ?_)
    all_goals (conv => whnf)
    repeat' (first | exact True.intro | rfl | refine And.intro ?_ ?_)
    all_goals (try (first | rfl | omega | (simp; done) | (simp; omega)))
  · conv => whnf
    repeat' (first | exact True.intro | rfl | refine And.intro ?_ ?_)
    all_goals (conv => whnf)
    repeat' (first | exact True.intro | rfl | refine And.intro ?_ ?_)
    all_goals (try (first | rfl | omega | (simp; done) | (simp; omega)))
  conv => whnf
  conv => whnf
  repeat (first
    | (refine And.intro ?_ ?_; (focus (first | omega | decide | exact Int.natCast_nonneg _ | ((repeat' refine And.intro ?_ ?_) <;> first | omega | exact Int.natCast_nonneg _ | (simp only [i64max]; omega) | (simp only [u8max]; omega) | (simp only [i64max, u8max, u16max, u32max, u64max]; omega) | (simp [mulSz, Cont.len, bne]; done) | (simp [mulSz, Cont.len, bne]; omega)))); conv => whnf)
    | (refine tst_in ?_ ?_; (focus (intro h_; exfalso; first | omega | ((try simp only [decide_eq_true_eq, decide_eq_false_iff_not] at h_); omega) | (simp [mulSz, Cont.len, bne] at h_; done) | (simp [mulSz, Cont.len, bne] at h_; omega))); intro _; conv => whnf)
    | (refine tst_in ?_ ?_; rotate_left; (focus (intro h_; exfalso; first | omega | ((try simp only [decide_eq_true_eq, decide_eq_false_iff_not] at h_); omega) | (simp [mulSz, Cont.len, bne] at h_; done) | (simp [mulSz, Cont.len, bne] at h_; omega))); intro _; conv => whnf))
  rw [Int.toNat_natCast, show (1 : Int).toNat = 1 from rfl, Nat.and_one_is_mod, hp]
  conv => whnf
  rw [show IntKind.u32.wrap (((par n).toNat : Nat) : Int) = (((par n).toNat : Nat) : Int) by rw [u32wrap]; cases par n <;> simp]
noncomputable def c27 : Code := (Try.f27.body).getD .skip
def mk (w : Nat) : Nat := 2 ^ w - 1
theorem mk_wrap (w : Nat) (h1 : 1 ≤ w) (h : w ≤ 32) : IntKind.u32.wrap (IntKind.u32.wrap (1 * 2 ^ (min w 32)) - 1) = ((mk w : Nat) : Int) := by
  rw [u32wrap, u32wrap, Nat.min_eq_left h]
  have : ∀ w, w < 33 → 1 ≤ w → ((1 * 2 ^ w : Int) % 4294967296 - 1) % 4294967296 = ((mk w : Nat) : Int) := by decide +kernel
  exact this w (by omega) h1
theorem mk_lt (w : Nat) (h : w ≤ 32) : mk w < 4294967296 := by
  have : ∀ w, w < 33 → mk w < 4294967296 := by decide +kernel
  exact this w (by omega)
set_option maxHeartbeats 0 in
set_option maxRecDepth 100000 in
theorem mask_q (w : Nat) (h1 : 1 ≤ w) (h : w ≤ 32) : QFits Try.prog 27 ⟨[.int .u64 w], [], .int .u32 (mk w : Nat)⟩ := by
  refine qfits_of_body (C := cfgs 0) (c := c27) (ts := [2]) tok mixed (fun _ => none) (fun _ => none)
    Try.func27 (by kernel_rfl) (by kernel_rfl) (by kernel_rfl) (by kernel_rfl) (by kernel_rfl) rfl rfl ?_
  conv => whnf
  repeat (first
    | (refine And.intro ?_ ?_; (focus (first | omega | decide | exact Int.natCast_nonneg _ | ((repeat' refine And.intro ?_ ?_) <;> first | omega | exact Int.natCast_nonneg _ | (simp only [i64max]; omega) | (simp only [u8max]; omega) | (simp only [i64max, u8max, u16max, u32max, u64max]; omega) | (simp [mulSz, Cont.len, bne]; done) | (simp [mulSz, Cont.len, bne]; omega)))); conv => whnf)
    | (refine tst_in ?_ ?_; (focus (intro h_; exfalso; first | omega | ((try simp only [decide_eq_true_eq, decide_eq_false_iff_not] at h_); omega) | (simp [mulSz, Cont.len, bne] at h_; done) | (simp [mulSz, Cont.len, bne] at h_; omega))); intro _; conv => whnf)
    | (refine tst_in ?_ ?_; rotate_left; (focus (intro h_; exfalso; first | omega | ((try simp only [decide_eq_true_eq, decide_eq_false_iff_not] at h_); omega) | (simp [mulSz, Cont.len, bne] at h_; done) | (simp [mulSz, Cont.len, bne] at h_; omega))); intro _; conv => whnf))
  rw [show IntKind.u32.wrap (IntKind.u32.wrap (1 * 2 ^ (min ((w : Int)).toNat (IntKind.bits .u32))) - 1) = ((mk w : Nat) : Int) from mk_wrap w h1 h]
end Go.Proofs.Ytdahkhhngaanfaa

set_option linter.unusedVariables false
set_option linter.unusedSimpArgs false
namespace Go.Proofs.Ytdahkhhngaanfaa
open Go Go.Fw
def numOut (D : List Seg) (x : AV) : FOut := ⟨Unit, fun _ => True, fun _ => x, fun _ => D⟩
/-- A step. -/
def aft (w t s : Nat) : Nat := (s / 2) ||| ((par (s &&& t)).toNat * 2 ^ (w - 1) % 4294967296)
noncomputable def c28 : Code := (Try.f28.body).getD .skip
set_option maxHeartbeats 0 in
set_option maxRecDepth 100000 in
theorem after_f (w t s : Nat) (h1 : 1 ≤ w) (hw : w ≤ 32) (ht : t < 4294967296) (hs : s < 4294967296) :
    Fits Try.prog 28 ⟨[.agg [.int .u64 w, .int .u32 t, .int .u32 s], .int .u32 s], [], [numOut [] (.int .u32 (aft w t s : Nat))]⟩ := by
  have hst : s &&& t < 4294967296 := by have := Nat.and_lt_two_pow s (n := 32) ht; exact this
  have PA := parity_q (s &&& t) hst
  refine fits_of_body (C := cfgs 0) (c := c28) (ts := [4]) tok mixed (fun _ => none) (fun _ => none)
    Try.func28 (by kernel_rfl) (by kernel_rfl) (by kernel_rfl) (by kernel_rfl) rfl ?_
  conv => whnf
  repeat (first
    | (refine And.intro ?_ ?_; (focus (first | omega | decide | exact Int.natCast_nonneg _ | ((repeat' refine And.intro ?_ ?_) <;> first | omega | exact Int.natCast_nonneg _ | (simp only [i64max]; omega) | (simp only [u8max]; omega) | (simp only [i64max, u8max, u16max, u32max, u64max]; omega) | (simp [mulSz, Cont.len, bne]; done) | (simp [mulSz, Cont.len, bne]; omega)))); conv => whnf)
    | (refine tst_in ?_ ?_; (focus (intro h_; exfalso; first | omega | ((try simp only [decide_eq_true_eq, decide_eq_false_iff_not] at h_); omega) | (simp [mulSz, Cont.len, bne] at h_; done) | (simp [mulSz, Cont.len, bne] at h_; omega))); intro _; conv => whnf)
    | (refine tst_in ?_ ?_; rotate_left; (focus (intro h_; exfalso; first | omega | ((try simp only [decide_eq_true_eq, decide_eq_false_iff_not] at h_); omega) | (simp [mulSz, Cont.len, bne] at h_; done) | (simp [mulSz, Cont.len, bne] at h_; omega))); intro _; conv => whnf))
  rw [show (s : Int) / 2 ^ (min (Int.toNat 1) (IntKind.bits .u32)) = ((s / 2 : Nat) : Int) from shr_nat s 1 1 (IntKind.bits .u32) rfl (by decide)]
  conv => whnf
  repeat (first
    | (refine And.intro ?_ ?_; (focus (first | omega | decide | exact Int.natCast_nonneg _ | ((repeat' refine And.intro ?_ ?_) <;> first | omega | exact Int.natCast_nonneg _ | (simp only [i64max]; omega) | (simp only [u8max]; omega) | (simp only [i64max, u8max, u16max, u32max, u64max]; omega) | (simp [mulSz, Cont.len, bne]; done) | (simp [mulSz, Cont.len, bne]; omega)))); conv => whnf)
    | (refine tst_in ?_ ?_; (focus (intro h_; exfalso; first | omega | ((try simp only [decide_eq_true_eq, decide_eq_false_iff_not] at h_); omega) | (simp [mulSz, Cont.len, bne] at h_; done) | (simp [mulSz, Cont.len, bne] at h_; omega))); intro _; conv => whnf)
    | (refine tst_in ?_ ?_; rotate_left; (focus (intro h_; exfalso; first | omega | ((try simp only [decide_eq_true_eq, decide_eq_false_iff_not] at h_); omega) | (simp [mulSz, Cont.len, bne] at h_; done) | (simp [mulSz, Cont.len, bne] at h_; omega))); intro _; conv => whnf))
  rw [Int.toNat_natCast, Int.toNat_natCast]
  conv => whnf
  refine ⟨_, [], PA, ?_⟩
  conv => whnf
  refine ⟨?_, ?_, ?_⟩
  · conv => whnf
    repeat' (first | exact True.intro | rfl | refine And.intro ?_ ?_)
    all_goals (conv => whnf)
    repeat' (first | exact True.intro | rfl | refine And.intro ?_ ?_)
    all_goals (try (first | rfl | omega | (simp; done) | (simp; omega)))
  · conv => whnf
    repeat' (first | exact True.intro | rfl | refine And.intro ?_ ?_)
    all_goals (conv => whnf)
    repeat' (first | exact True.intro | rfl | refine And.intro ?_ ?_)
    all_goals (try (first | rfl | omega | (simp; done) | (simp; omega)))
  conv => whnf
  conv => whnf
  repeat (first
    | (refine And.intro ?_ ?_; (focus (first | omega | decide | exact Int.natCast_nonneg _ | ((repeat' refine And.intro ?_ ?_) <;> first | omega | exact Int.natCast_nonneg _ | (simp only [i64max]; omega) | (simp only [u8max]; omega) | (simp only [i64max, u8max, u16max, u32max, u64max]; omega) | (simp [mulSz, Cont.len, bne]; done) | (simp [mulSz, Cont.len, bne]; omega)))); conv => whnf)
    | (refine tst_in ?_ ?_; (focus (intro h_; exfalso; first | omega | ((try simp only [decide_eq_true_eq, decide_eq_false_iff_not] at h_); omega) | (simp [mulSz, Cont.len, bne] at h_; done) | (simp [mulSz, Cont.len, bne] at h_; omega))); intro _; conv => whnf)
    | (refine tst_in ?_ ?_; rotate_left; (focus (intro h_; exfalso; first | omega | ((try simp only [decide_eq_true_eq, decide_eq_false_iff_not] at h_); omega) | (simp [mulSz, Cont.len, bne] at h_; done) | (simp [mulSz, Cont.len, bne] at h_; omega))); intro _; conv => whnf))
  rw [show IntKind.u64.wrap ((w : Int) - 1) = ((w - 1 : Nat) : Int) by rw [u64wrap]; omega]
  conv => whnf
  repeat (first
    | (refine And.intro ?_ ?_; (focus (first | omega | decide | exact Int.natCast_nonneg _ | ((repeat' refine And.intro ?_ ?_) <;> first | omega | exact Int.natCast_nonneg _ | (simp only [i64max]; omega) | (simp only [u8max]; omega) | (simp only [i64max, u8max, u16max, u32max, u64max]; omega) | (simp [mulSz, Cont.len, bne]; done) | (simp [mulSz, Cont.len, bne]; omega)))); conv => whnf)
    | (refine tst_in ?_ ?_; (focus (intro h_; exfalso; first | omega | ((try simp only [decide_eq_true_eq, decide_eq_false_iff_not] at h_); omega) | (simp [mulSz, Cont.len, bne] at h_; done) | (simp [mulSz, Cont.len, bne] at h_; omega))); intro _; conv => whnf)
    | (refine tst_in ?_ ?_; rotate_left; (focus (intro h_; exfalso; first | omega | ((try simp only [decide_eq_true_eq, decide_eq_false_iff_not] at h_); omega) | (simp [mulSz, Cont.len, bne] at h_; done) | (simp [mulSz, Cont.len, bne] at h_; omega))); intro _; conv => whnf))
  rw [show IntKind.u32.wrap ((((par (s &&& t)).toNat : Nat) : Int) * 2 ^ (min (((w - 1 : Nat) : Int)).toNat (IntKind.bits .u32))) = (((par (s &&& t)).toNat * 2 ^ (w - 1) % 4294967296 : Nat) : Int) by
    rw [u32wrap, Int.toNat_natCast, Nat.min_eq_left (show w - 1 ≤ IntKind.bits .u32 by show w - 1 ≤ 32; omega)]; simp]
  conv => whnf
  repeat (first
    | (refine And.intro ?_ ?_; (focus (first | omega | decide | exact Int.natCast_nonneg _ | ((repeat' refine And.intro ?_ ?_) <;> first | omega | exact Int.natCast_nonneg _ | (simp only [i64max]; omega) | (simp only [u8max]; omega) | (simp only [i64max, u8max, u16max, u32max, u64max]; omega) | (simp [mulSz, Cont.len, bne]; done) | (simp [mulSz, Cont.len, bne]; omega)))); conv => whnf)
    | (refine tst_in ?_ ?_; (focus (intro h_; exfalso; first | omega | ((try simp only [decide_eq_true_eq, decide_eq_false_iff_not] at h_); omega) | (simp [mulSz, Cont.len, bne] at h_; done) | (simp [mulSz, Cont.len, bne] at h_; omega))); intro _; conv => whnf)
    | (refine tst_in ?_ ?_; rotate_left; (focus (intro h_; exfalso; first | omega | ((try simp only [decide_eq_true_eq, decide_eq_false_iff_not] at h_); omega) | (simp [mulSz, Cont.len, bne] at h_; done) | (simp [mulSz, Cont.len, bne] at h_; omega))); intro _; conv => whnf))
  rw [Int.toNat_natCast, Int.toNat_natCast]
  conv => whnf
  refine .inl ⟨(), [], ?_⟩
  conv => whnf
  repeat' (first | exact True.intro | rfl | refine And.intro ?_ ?_)
  all_goals (conv => whnf)
  repeat' (first | exact True.intro | rfl | refine And.intro ?_ ?_)
  all_goals (try (first | omega | exact True.intro | rfl | assumption | (change LE.le (α := Nat) _ _; first | omega | (simp only []; omega)) | (simp only []; done) | (simp only []; omega) | (simp; done) | (simp; omega)))
/-- A register, in memory. -/
def reg (w t s : Nat) : Seg := .seg true (.avs [.int .u64 w, .int .u32 t, .int .u32 s])
/-- Out of any numbers: a width, taps, a state. -/
def fw (a : Int) : Nat := 2 + (a % 18446744073709551616).toNat % 31
def ft (a : Int) (t : Nat) : Nat := (t &&& mk (fw a)) ||| 1
def fs (a : Int) (s : Nat) : Nat := if s &&& mk (fw a) = 0 then mk (fw a) else s &&& mk (fw a)
theorem fw_le (a : Int) : 2 ≤ fw a ∧ fw a ≤ 32 := by unfold fw; omega
theorem mk_pos (w : Nat) (h : 1 ≤ w) : 1 ≤ mk w := by
  have := Nat.pow_le_pow_right (show 0 < 2 by decide) h
  unfold mk; omega
theorem and_mk (s w : Nat) : s &&& mk w = s % 2 ^ w := Nat.and_two_pow_sub_one_eq_mod s w
theorem fs_ok (a : Int) (s : Nat) : 1 ≤ fs a s ∧ fs a s ≤ mk (fw a) := by
  have h := mk_pos (fw a) (by have := fw_le a; omega)
  have h2 : s &&& mk (fw a) ≤ mk (fw a) := Nat.and_le_right
  unfold fs
  split <;> omega
theorem ft_ok (a : Int) (t : Nat) : ft a t ≤ mk (fw a) ∧ ft a t % 2 = 1 := by
  have h := fw_le a
  have h2 : t &&& mk (fw a) ≤ mk (fw a) := Nat.and_le_right
  have h3 : mk (fw a) < 2 ^ fw a := by unfold mk; have := Nat.two_pow_pos (fw a); omega
  constructor
  · have : ft a t < 2 ^ fw a := Nat.or_lt_two_pow (by omega) (by have := mk_pos (fw a) (by omega); omega)
    unfold mk; omega
  · unfold ft
    simp
noncomputable def c9 : Code := (Try.f9.body).getD .skip
set_option maxHeartbeats 0 in
set_option maxRecDepth 100000 in
theorem fit_q (a : Int) (t s : Nat) (ht : t < 4294967296) (hs : s < 4294967296) :
    QFits Try.prog 9 ⟨[.int .i64 a, .int .u32 t, .int .u32 s], [], .tup [.int .i64 (fw a : Nat), .int .u32 (ft a t : Nat), .int .u32 (fs a s : Nat)]⟩ := by
  have hw := fw_le a
  have hm := mk_wrap (fw a) (by omega) hw.2
  have hml := mk_lt (fw a) hw.2
  have hfs : fs a s = if s &&& mk (fw a) = 0 then mk (fw a) else s &&& mk (fw a) := rfl
  have hft : ft a t = (t &&& mk (fw a)) ||| 1 := rfl
  have hfw : (2 : Int) + IntKind.i64.wrap (IntKind.u64.wrap a % 31) = ((fw a : Nat) : Int) := by
    rw [u64wrap, wrap_i64 (by omega)]; unfold fw; omega
  have e1 : s &&& mk (fw a) ≤ mk (fw a) := Nat.and_le_right
  have e2 : t &&& mk (fw a) ≤ mk (fw a) := Nat.and_le_right
  generalize mk (fw a) = m at *
  generalize fs a s = fs at *
  generalize ft a t = ft at *
  generalize fw a = w at *
  refine qfits_of_body (C := cfgs 0) (c := c9) (ts := [6, 7, 8]) tok mixed (fun _ => none) (fun _ => none)
    Try.func9 (by kernel_rfl) (by kernel_rfl) (by kernel_rfl) (by kernel_rfl) (by kernel_rfl) rfl rfl ?_
  conv => whnf
  refine ⟨⟨by rw [u64wrap]; omega, by decide⟩, ?_⟩
  conv => whnf
  rw [hfw]
  conv => whnf
  repeat (first
    | (refine And.intro ?_ ?_; (focus (first | omega | decide | exact Int.natCast_nonneg _ | ((repeat' refine And.intro ?_ ?_) <;> first | omega | exact Int.natCast_nonneg _ | (simp only [i64max]; omega) | (simp only [u8max]; omega) | (simp only [i64max, u8max, u16max, u32max, u64max]; omega) | (simp [mulSz, Cont.len, bne]; done) | (simp [mulSz, Cont.len, bne]; omega)))); conv => whnf)
    | (refine tst_in ?_ ?_; (focus (intro h_; exfalso; first | omega | ((try simp only [decide_eq_true_eq, decide_eq_false_iff_not] at h_); omega) | (simp [mulSz, Cont.len, bne] at h_; done) | (simp [mulSz, Cont.len, bne] at h_; omega))); intro _; conv => whnf)
    | (refine tst_in ?_ ?_; rotate_left; (focus (intro h_; exfalso; first | omega | ((try simp only [decide_eq_true_eq, decide_eq_false_iff_not] at h_); omega) | (simp [mulSz, Cont.len, bne] at h_; done) | (simp [mulSz, Cont.len, bne] at h_; omega))); intro _; conv => whnf))
  rw [show IntKind.u32.wrap (IntKind.u32.wrap (1 * 2 ^ (min ((w : Int)).toNat (IntKind.bits .u32))) - 1) = ((m : Nat) : Int) from hm]
  conv => whnf
  repeat (first
    | (refine And.intro ?_ ?_; (focus (first | omega | decide | exact Int.natCast_nonneg _ | ((repeat' refine And.intro ?_ ?_) <;> first | omega | exact Int.natCast_nonneg _ | (simp only [i64max]; omega) | (simp only [u8max]; omega) | (simp only [i64max, u8max, u16max, u32max, u64max]; omega) | (simp [mulSz, Cont.len, bne]; done) | (simp [mulSz, Cont.len, bne]; omega)))); conv => whnf)
    | (refine tst_in ?_ ?_; (focus (intro h_; exfalso; first | omega | ((try simp only [decide_eq_true_eq, decide_eq_false_iff_not] at h_); omega) | (simp [mulSz, Cont.len, bne] at h_; done) | (simp [mulSz, Cont.len, bne] at h_; omega))); intro _; conv => whnf)
    | (refine tst_in ?_ ?_; rotate_left; (focus (intro h_; exfalso; first | omega | ((try simp only [decide_eq_true_eq, decide_eq_false_iff_not] at h_); omega) | (simp [mulSz, Cont.len, bne] at h_; done) | (simp [mulSz, Cont.len, bne] at h_; omega))); intro _; conv => whnf))
  rw [Int.toNat_natCast, Int.toNat_natCast]
  conv => whnf
  refine tst_in (fun h => ?_) (fun h => ?_)
  · skip
    have h : s &&& m = 0 := by simp at h; omega
    rw [if_pos h] at hfs
    conv => whnf
    repeat (first
      | (refine And.intro ?_ ?_; (focus (first | omega | decide | exact Int.natCast_nonneg _ | ((repeat' refine And.intro ?_ ?_) <;> first | omega | exact Int.natCast_nonneg _ | (simp only [i64max]; omega) | (simp only [u8max]; omega) | (simp only [i64max, u8max, u16max, u32max, u64max]; omega) | (simp [mulSz, Cont.len, bne]; done) | (simp [mulSz, Cont.len, bne]; omega)))); conv => whnf)
      | (refine tst_in ?_ ?_; (focus (intro h_; exfalso; first | omega | ((try simp only [decide_eq_true_eq, decide_eq_false_iff_not] at h_); omega) | (simp [mulSz, Cont.len, bne] at h_; done) | (simp [mulSz, Cont.len, bne] at h_; omega))); intro _; conv => whnf)
      | (refine tst_in ?_ ?_; rotate_left; (focus (intro h_; exfalso; first | omega | ((try simp only [decide_eq_true_eq, decide_eq_false_iff_not] at h_); omega) | (simp [mulSz, Cont.len, bne] at h_; done) | (simp [mulSz, Cont.len, bne] at h_; omega))); intro _; conv => whnf))
    rw [Int.toNat_natCast, Int.toNat_natCast]
    conv => whnf
    repeat (first
      | (refine And.intro ?_ ?_; (focus (first | omega | decide | exact Int.natCast_nonneg _ | ((repeat' refine And.intro ?_ ?_) <;> first | omega | exact Int.natCast_nonneg _ | (simp only [i64max]; omega) | (simp only [u8max]; omega) | (simp only [i64max, u8max, u16max, u32max, u64max]; omega) | (simp [mulSz, Cont.len, bne]; done) | (simp [mulSz, Cont.len, bne]; omega)))); conv => whnf)
      | (refine tst_in ?_ ?_; (focus (intro h_; exfalso; first | omega | ((try simp only [decide_eq_true_eq, decide_eq_false_iff_not] at h_); omega) | (simp [mulSz, Cont.len, bne] at h_; done) | (simp [mulSz, Cont.len, bne] at h_; omega))); intro _; conv => whnf)
      | (refine tst_in ?_ ?_; rotate_left; (focus (intro h_; exfalso; first | omega | ((try simp only [decide_eq_true_eq, decide_eq_false_iff_not] at h_); omega) | (simp [mulSz, Cont.len, bne] at h_; done) | (simp [mulSz, Cont.len, bne] at h_; omega))); intro _; conv => whnf))
    rw [Int.toNat_natCast, show (1 : Int).toNat = 1 from rfl, ← hft]
    conv => whnf
    repeat' (first | exact True.intro | rfl | refine And.intro ?_ ?_)
    all_goals (conv => whnf)
    repeat' (first | exact True.intro | rfl | refine And.intro ?_ ?_)
    all_goals (try (first | omega | exact True.intro | rfl | assumption | (change LE.le (α := Nat) _ _; first | omega | (simp only [hfs]; omega)) | (simp only [hfs]; done) | (simp only [hfs]; omega) | (simp [hfs]; done) | (simp [hfs]; omega)))
  · skip
    have h : ¬ s &&& m = 0 := by simp at h; omega
    rw [if_neg h] at hfs
    conv => whnf
    repeat (first
      | (refine And.intro ?_ ?_; (focus (first | omega | decide | exact Int.natCast_nonneg _ | ((repeat' refine And.intro ?_ ?_) <;> first | omega | exact Int.natCast_nonneg _ | (simp only [i64max]; omega) | (simp only [u8max]; omega) | (simp only [i64max, u8max, u16max, u32max, u64max]; omega) | (simp [mulSz, Cont.len, bne]; done) | (simp [mulSz, Cont.len, bne]; omega)))); conv => whnf)
      | (refine tst_in ?_ ?_; (focus (intro h_; exfalso; first | omega | ((try simp only [decide_eq_true_eq, decide_eq_false_iff_not] at h_); omega) | (simp [mulSz, Cont.len, bne] at h_; done) | (simp [mulSz, Cont.len, bne] at h_; omega))); intro _; conv => whnf)
      | (refine tst_in ?_ ?_; rotate_left; (focus (intro h_; exfalso; first | omega | ((try simp only [decide_eq_true_eq, decide_eq_false_iff_not] at h_); omega) | (simp [mulSz, Cont.len, bne] at h_; done) | (simp [mulSz, Cont.len, bne] at h_; omega))); intro _; conv => whnf))
    rw [Int.toNat_natCast, Int.toNat_natCast]
    conv => whnf
    repeat (first
      | (refine And.intro ?_ ?_; (focus (first | omega | decide | exact Int.natCast_nonneg _ | ((repeat' refine And.intro ?_ ?_) <;> first | omega | exact Int.natCast_nonneg _ | (simp only [i64max]; omega) | (simp only [u8max]; omega) | (simp only [i64max, u8max, u16max, u32max, u64max]; omega) | (simp [mulSz, Cont.len, bne]; done) | (simp [mulSz, Cont.len, bne]; omega)))); conv => whnf)
      | (refine tst_in ?_ ?_; (focus (intro h_; exfalso; first | omega | ((try simp only [decide_eq_true_eq, decide_eq_false_iff_not] at h_); omega) | (simp [mulSz, Cont.len, bne] at h_; done) | (simp [mulSz, Cont.len, bne] at h_; omega))); intro _; conv => whnf)
      | (refine tst_in ?_ ?_; rotate_left; (focus (intro h_; exfalso; first | omega | ((try simp only [decide_eq_true_eq, decide_eq_false_iff_not] at h_); omega) | (simp [mulSz, Cont.len, bne] at h_; done) | (simp [mulSz, Cont.len, bne] at h_; omega))); intro _; conv => whnf))
    rw [Int.toNat_natCast, show (1 : Int).toNat = 1 from rfl, ← hft]
    conv => whnf
    repeat' (first | exact True.intro | rfl | refine And.intro ?_ ?_)
    all_goals (conv => whnf)
    repeat' (first | exact True.intro | rfl | refine And.intro ?_ ?_)
    all_goals (try (first | omega | exact True.intro | rfl | assumption | (change LE.le (α := Nat) _ _; first | omega | (simp only [hfs]; omega)) | (simp only [hfs]; done) | (simp only [hfs]; omega) | (simp [hfs]; done) | (simp [hfs]; omega)))
noncomputable def c10 : Code := (Try.f10.body).getD .skip
set_option maxHeartbeats 0 in
set_option maxRecDepth 100000 in
theorem New_f (w t s : Nat) (h1 : 2 ≤ w) (hw : w ≤ 32) (ht : t ≤ mk w) (ht2 : t % 2 = 1) (hs1 : 1 ≤ s) (hs : s ≤ mk w) :
    Fits Try.prog 10 ⟨[.int .i64 w, .int .u32 t, .int .u32 s], [], [⟨Unit, fun _ => True, fun _ => .tup [.ptr 0 0, .int .i64 0], fun _ => [reg w t s]⟩]⟩ := by
  have MA := mask_q w (by omega) hw
  have hml := mk_lt w hw
  have hu : IntKind.u64.wrap (w : Int) = w := by rw [u64wrap]; omega
  generalize mk w = m at *
  refine fits_of_body (C := cfgs 0) (c := c10) (ts := [6, 7]) tok mixed (fun _ => none) (fun _ => none)
    Try.func10 (by kernel_rfl) (by kernel_rfl) (by kernel_rfl) (by kernel_rfl) rfl ?_
  conv => whnf
  repeat (first
    | (refine And.intro ?_ ?_; (focus (first | omega | decide | exact Int.natCast_nonneg _ | ((repeat' refine And.intro ?_ ?_) <;> first | omega | exact Int.natCast_nonneg _ | (simp only [i64max]; omega) | (simp only [u8max]; omega) | (simp only [i64max, u8max, u16max, u32max, u64max]; omega) | (simp [mulSz, Cont.len, bne]; done) | (simp [mulSz, Cont.len, bne]; omega)))); conv => whnf)
    | (refine tst_in ?_ ?_; (focus (intro h_; exfalso; first | omega | ((try simp only [decide_eq_true_eq, decide_eq_false_iff_not] at h_); omega) | (simp [mulSz, Cont.len, bne] at h_; done) | (simp [mulSz, Cont.len, bne] at h_; omega))); intro _; conv => whnf)
    | (refine tst_in ?_ ?_; rotate_left; (focus (intro h_; exfalso; first | omega | ((try simp only [decide_eq_true_eq, decide_eq_false_iff_not] at h_); omega) | (simp [mulSz, Cont.len, bne] at h_; done) | (simp [mulSz, Cont.len, bne] at h_; omega))); intro _; conv => whnf))
  rw [hu]
  refine ⟨_, [], MA, ?_⟩
  conv => whnf
  refine ⟨?_, ?_, ?_⟩
  · conv => whnf
    repeat' (first | exact True.intro | rfl | refine And.intro ?_ ?_)
    all_goals (conv => whnf)
    repeat' (first | exact True.intro | rfl | refine And.intro ?_ ?_)
    all_goals (try (first | rfl | omega | (simp; done) | (simp; omega)))
  · conv => whnf
    repeat' (first | exact True.intro | rfl | refine And.intro ?_ ?_)
    all_goals (conv => whnf)
    repeat' (first | exact True.intro | rfl | refine And.intro ?_ ?_)
    all_goals (try (first | rfl | omega | (simp; done) | (simp; omega)))
  conv => whnf
  conv => whnf
  repeat (first
    | (refine And.intro ?_ ?_; (focus (first | omega | decide | exact Int.natCast_nonneg _ | ((repeat' refine And.intro ?_ ?_) <;> first | omega | exact Int.natCast_nonneg _ | (simp only [i64max]; omega) | (simp only [u8max]; omega) | (simp only [i64max, u8max, u16max, u32max, u64max]; omega) | (simp [mulSz, Cont.len, bne]; done) | (simp [mulSz, Cont.len, bne]; omega)))); conv => whnf)
    | (refine tst_in ?_ ?_; (focus (intro h_; exfalso; first | omega | ((try simp only [decide_eq_true_eq, decide_eq_false_iff_not] at h_); omega) | (simp [mulSz, Cont.len, bne] at h_; done) | (simp [mulSz, Cont.len, bne] at h_; omega))); intro _; conv => whnf)
    | (refine tst_in ?_ ?_; rotate_left; (focus (intro h_; exfalso; first | omega | ((try simp only [decide_eq_true_eq, decide_eq_false_iff_not] at h_); omega) | (simp [mulSz, Cont.len, bne] at h_; done) | (simp [mulSz, Cont.len, bne] at h_; omega))); intro _; conv => whnf))
  rw [show (1 : Int).toNat = 1 from rfl, Int.toNat_natCast, Nat.and_one_is_mod, ht2]
  conv => whnf
  repeat (first
    | (refine And.intro ?_ ?_; (focus (first | omega | decide | exact Int.natCast_nonneg _ | ((repeat' refine And.intro ?_ ?_) <;> first | omega | exact Int.natCast_nonneg _ | (simp only [i64max]; omega) | (simp only [u8max]; omega) | (simp only [i64max, u8max, u16max, u32max, u64max]; omega) | (simp [mulSz, Cont.len, bne]; done) | (simp [mulSz, Cont.len, bne]; omega)))); conv => whnf)
    | (refine tst_in ?_ ?_; (focus (intro h_; exfalso; first | omega | ((try simp only [decide_eq_true_eq, decide_eq_false_iff_not] at h_); omega) | (simp [mulSz, Cont.len, bne] at h_; done) | (simp [mulSz, Cont.len, bne] at h_; omega))); intro _; conv => whnf)
    | (refine tst_in ?_ ?_; rotate_left; (focus (intro h_; exfalso; first | omega | ((try simp only [decide_eq_true_eq, decide_eq_false_iff_not] at h_); omega) | (simp [mulSz, Cont.len, bne] at h_; done) | (simp [mulSz, Cont.len, bne] at h_; omega))); intro _; conv => whnf))
  rw [hu]
  conv => whnf
  refine .inl ⟨(), [0], ?_⟩
  conv => whnf
  repeat' (first | exact True.intro | rfl | refine And.intro ?_ ?_)
  all_goals (conv => whnf)
  repeat' (first | exact True.intro | rfl | refine And.intro ?_ ?_)
  all_goals (try (first | omega | exact True.intro | rfl | assumption | (change LE.le (α := Nat) _ _; first | omega | (simp only []; omega)) | (simp only []; done) | (simp only []; omega) | (simp; done) | (simp; omega)))
  all_goals trace_state
end Go.Proofs.Ytdahkhhngaanfaa

set_option linter.unusedVariables false
set_option linter.unusedSimpArgs false
namespace Go.Proofs.Ytdahkhhngaanfaa
open Go Go.Fw
/-- So many steps. -/
def it (w t s : Nat) : Nat → Nat
  | 0 => s
  | k + 1 => aft w t (it w t s k)
def rowB (w t s : Nat) : Nat → List Bool
  | 0 => []
  | k + 1 => rowB w t s k ++ [(it w t s k).testBit 0]
theorem rowB_len (w t s : Nat) : ∀ k, (rowB w t s k).length = k
  | 0 => rfl
  | k + 1 => by simp [rowB, rowB_len w t s k]
theorem aft_lt {w t s : Nat} (h1 : 1 ≤ w) (hw : w ≤ 32) (hs : s < 2 ^ w) : aft w t s < 2 ^ w := by
  have e : (2 : Nat) ^ w = 2 * 2 ^ (w - 1) := by rw [← Nat.pow_succ']; congr 1; omega
  have hp : (par (s &&& t)).toNat * 2 ^ (w - 1) ≤ 2 ^ (w - 1) := by cases par (s &&& t) <;> simp
  have h2 := Nat.two_pow_pos (w - 1)
  have hm : (par (s &&& t)).toNat * 2 ^ (w - 1) % 4294967296 ≤ (par (s &&& t)).toNat * 2 ^ (w - 1) := Nat.mod_le _ _
  exact Nat.or_lt_two_pow (by omega) (by omega)
theorem it_lt {w t s : Nat} (h1 : 1 ≤ w) (hw : w ≤ 32) (hs : s < 2 ^ w) : ∀ k, it w t s k < 2 ^ w
  | 0 => hs
  | k + 1 => aft_lt h1 hw (it_lt h1 hw hs k)
theorem pow32 {w : Nat} (hw : w ≤ 32) : 2 ^ w ≤ 4294967296 := Nat.pow_le_pow_right (show 0 < 2 by decide) hw
theorem bit0_eq (s : Nat) : (!decide ((((s : Int).toNat &&& (1 : Int).toNat : Nat) : Int) = 0)) = s.testBit 0 := by
  rw [Int.toNat_natCast, show (1 : Int).toNat = 1 from rfl, Nat.and_one_is_mod, Nat.testBit_zero]
  have := Nat.mod_two_eq_zero_or_one s
  rcases this with h | h <;> rw [h] <;> rfl
noncomputable def c13 : Code := (Try.f13.body).getD .skip
set_option maxHeartbeats 0 in
set_option maxRecDepth 100000 in
theorem one_f (a : Int) (t s : Nat) (ht : t < 4294967296) (hs : s < 4294967296) :
    Fits Try.prog 13 ⟨[.int .i64 a, .int .u32 t, .int .u32 s], [], [⟨Unit, fun _ => True, fun _ => .ptr 0 0, fun _ => [reg (fw a) (ft a t) (fs a s)]⟩]⟩ := by
  have FI := fit_q a t s ht hs
  have NE := New_f (fw a) (ft a t) (fs a s) (fw_le a).1 (fw_le a).2 (ft_ok a t).1 (ft_ok a t).2 (fs_ok a s).1 (fs_ok a s).2
  refine fits_of_body (C := cfgs 0) (c := c13) (ts := [6]) tok mixed (fun _ => none) (fun _ => none)
    Try.func13 (by kernel_rfl) (by kernel_rfl) (by kernel_rfl) (by kernel_rfl) rfl ?_
  conv => whnf
  repeat (first
    | (refine And.intro ?_ ?_; (focus (first | omega | decide | exact Int.natCast_nonneg _ | ((repeat' refine And.intro ?_ ?_) <;> first | omega | exact Int.natCast_nonneg _ | (simp only [i64max]; omega) | (simp only [u8max]; omega) | (simp only [i64max, u8max, u16max, u32max, u64max]; omega) | (simp [mulSz, Cont.len, bne]; done) | (simp [mulSz, Cont.len, bne]; omega)))); conv => whnf)
    | (refine tst_in ?_ ?_; (focus (intro h_; exfalso; first | omega | ((try simp only [decide_eq_true_eq, decide_eq_false_iff_not] at h_); omega) | (simp [mulSz, Cont.len, bne] at h_; done) | (simp [mulSz, Cont.len, bne] at h_; omega))); intro _; conv => whnf)
    | (refine tst_in ?_ ?_; rotate_left; (focus (intro h_; exfalso; first | omega | ((try simp only [decide_eq_true_eq, decide_eq_false_iff_not] at h_); omega) | (simp [mulSz, Cont.len, bne] at h_; done) | (simp [mulSz, Cont.len, bne] at h_; omega))); intro _; conv => whnf))
  refine ⟨_, [], FI, ?_⟩
  conv => whnf
  refine ⟨?_, ?_, ?_⟩
  · conv => whnf
    repeat' (first | exact True.intro | rfl | refine And.intro ?_ ?_)
    all_goals (conv => whnf)
    repeat' (first | exact True.intro | rfl | refine And.intro ?_ ?_)
    all_goals (try (first | rfl | omega | (simp; done) | (simp; omega)))
  · conv => whnf
    repeat' (first | exact True.intro | rfl | refine And.intro ?_ ?_)
    all_goals (conv => whnf)
    repeat' (first | exact True.intro | rfl | refine And.intro ?_ ?_)
    all_goals (try (first | rfl | omega | (simp; done) | (simp; omega)))
  conv => whnf
  conv => whnf
  repeat (first
    | (refine And.intro ?_ ?_; (focus (first | omega | decide | exact Int.natCast_nonneg _ | ((repeat' refine And.intro ?_ ?_) <;> first | omega | exact Int.natCast_nonneg _ | (simp only [i64max]; omega) | (simp only [u8max]; omega) | (simp only [i64max, u8max, u16max, u32max, u64max]; omega) | (simp [mulSz, Cont.len, bne]; done) | (simp [mulSz, Cont.len, bne]; omega)))); conv => whnf)
    | (refine tst_in ?_ ?_; (focus (intro h_; exfalso; first | omega | ((try simp only [decide_eq_true_eq, decide_eq_false_iff_not] at h_); omega) | (simp [mulSz, Cont.len, bne] at h_; done) | (simp [mulSz, Cont.len, bne] at h_; omega))); intro _; conv => whnf)
    | (refine tst_in ?_ ?_; rotate_left; (focus (intro h_; exfalso; first | omega | ((try simp only [decide_eq_true_eq, decide_eq_false_iff_not] at h_); omega) | (simp [mulSz, Cont.len, bne] at h_; done) | (simp [mulSz, Cont.len, bne] at h_; omega))); intro _; conv => whnf))
  refine ⟨_, [], NE, ?_⟩
  conv => whnf
  refine ⟨?_, ?_, ?_⟩
  · conv => whnf
    repeat' (first | exact True.intro | rfl | refine And.intro ?_ ?_ | omega)
    all_goals (conv => whnf)
    all_goals (try (first | rfl | omega | (simp; done)))
  · conv => whnf
    repeat' (first | exact True.intro | rfl | refine And.intro ?_ ?_ | omega)
    all_goals (conv => whnf)
    all_goals (try (first | rfl | omega | (simp; done)))
  conv => whnf
  refine ⟨?_, True.intro⟩
  intro _ _
  conv => whnf
  conv => whnf
  repeat (first
    | (refine And.intro ?_ ?_; (focus (first | omega | decide | exact Int.natCast_nonneg _ | ((repeat' refine And.intro ?_ ?_) <;> first | omega | exact Int.natCast_nonneg _ | (simp only [i64max]; omega) | (simp only [u8max]; omega) | (simp only [i64max, u8max, u16max, u32max, u64max]; omega) | (simp [mulSz, Cont.len, bne]; done) | (simp [mulSz, Cont.len, bne]; omega)))); conv => whnf)
    | (refine tst_in ?_ ?_; (focus (intro h_; exfalso; first | omega | ((try simp only [decide_eq_true_eq, decide_eq_false_iff_not] at h_); omega) | (simp [mulSz, Cont.len, bne] at h_; done) | (simp [mulSz, Cont.len, bne] at h_; omega))); intro _; conv => whnf)
    | (refine tst_in ?_ ?_; rotate_left; (focus (intro h_; exfalso; first | omega | ((try simp only [decide_eq_true_eq, decide_eq_false_iff_not] at h_); omega) | (simp [mulSz, Cont.len, bne] at h_; done) | (simp [mulSz, Cont.len, bne] at h_; omega))); intro _; conv => whnf))
  refine .inl ⟨(), [0], ?_⟩
  conv => whnf
  repeat' (first | exact True.intro | rfl | refine And.intro ?_ ?_)
  all_goals (conv => whnf)
  repeat' (first | exact True.intro | rfl | refine And.intro ?_ ?_)
  all_goals (try (first | omega | exact True.intro | rfl | assumption | (change LE.le (α := Nat) _ _; first | omega | (simp only []; omega)) | (simp only []; done) | (simp only []; omega) | (simp; done) | (simp; omega)))
noncomputable def c12 : Code := (Try.f12.body).getD .skip
set_option maxHeartbeats 0 in
set_option maxRecDepth 100000 in
theorem State_q (w t s : Nat) : QFits Try.prog 12 ⟨[.ptr 0 0], [reg w t s], .int .u32 s⟩ := by
  refine qfits_of_body (C := cfgs 1) (c := c12) (ts := [2]) tok mixed (fun _ => none) (fun _ => none)
    Try.func12 (by kernel_rfl) (by kernel_rfl) (by kernel_rfl) (by kernel_rfl) (by kernel_rfl) rfl rfl ?_
  conv => whnf
  repeat (first
    | (refine And.intro ?_ ?_; (focus (first | omega | decide | exact Int.natCast_nonneg _ | ((repeat' refine And.intro ?_ ?_) <;> first | omega | exact Int.natCast_nonneg _ | (simp only [i64max]; omega) | (simp only [u8max]; omega) | (simp only [i64max, u8max, u16max, u32max, u64max]; omega) | (simp [mulSz, Cont.len, bne]; done) | (simp [mulSz, Cont.len, bne]; omega)))); conv => whnf)
    | (refine tst_in ?_ ?_; (focus (intro h_; exfalso; first | omega | ((try simp only [decide_eq_true_eq, decide_eq_false_iff_not] at h_); omega) | (simp [mulSz, Cont.len, bne] at h_; done) | (simp [mulSz, Cont.len, bne] at h_; omega))); intro _; conv => whnf)
    | (refine tst_in ?_ ?_; rotate_left; (focus (intro h_; exfalso; first | omega | ((try simp only [decide_eq_true_eq, decide_eq_false_iff_not] at h_); omega) | (simp [mulSz, Cont.len, bne] at h_; done) | (simp [mulSz, Cont.len, bne] at h_; omega))); intro _; conv => whnf))
def pl11 : PlanL := .lin [0, 1, 2, 3, 4, 5, 6, 7, 8, 9, 10, 11] .done
def cfg11 (k r : Nat) : Cfg := { T := tys, sgn := fun _ => false, wr := fun _ => false, k := k, q := qf, plan := fun i => match Nat.beq i r with | true => some pl11 | false => none }
end Go.Proofs.Ytdahkhhngaanfaa

set_option linter.unusedVariables false
set_option linter.unusedSimpArgs false
namespace Go.Proofs.Ytdahkhhngaanfaa
open Go Go.Fw
theorem aft_xor_form {w t s : Nat} (h1 : 1 ≤ w) (hw : w ≤ 32) (hs : s < 2 ^ w) : aft w t s = (s / 2) ^^^ ((par (s &&& t)).toNat * 2 ^ (w - 1)) := by
  have e : (2 : Nat) ^ w = 2 * 2 ^ (w - 1) := by rw [← Nat.pow_succ']; congr 1; omega
  have hp := pow32 hw
  have h2 := Nat.two_pow_pos (w - 1)
  have hle : (par (s &&& t)).toNat * 2 ^ (w - 1) ≤ 2 ^ (w - 1) := by cases par (s &&& t) <;> simp
  unfold aft
  rw [Nat.mod_eq_of_lt (by omega)]
  have hlt : s / 2 < 2 ^ (w - 1) := by omega
  cases hb : par (s &&& t)
  · simp
  · simp only [Bool.toNat_true, Nat.one_mul]
    apply Nat.eq_of_testBit_eq
    intro i
    rw [Nat.testBit_or, Nat.testBit_xor, Nat.testBit_two_pow]
    by_cases h : w - 1 = i
    · subst h
      rw [Nat.testBit_lt_two_pow hlt]; simp
    · rw [decide_eq_false h]; simp
theorem xor_div2 (a b : Nat) : (a ^^^ b) / 2 = (a / 2) ^^^ (b / 2) := by
  have e : ∀ x : Nat, x / 2 = x >>> 1 := fun x => by rw [Nat.shiftRight_eq_div_pow]
  rw [e, e, e]
  apply Nat.eq_of_testBit_eq
  intro i
  simp only [Nat.testBit_shiftRight, Nat.testBit_xor]
theorem aft_xor {w t a b : Nat} (h1 : 1 ≤ w) (hw : w ≤ 32) (ha : a < 2 ^ w) (hb : b < 2 ^ w) : aft w t (a ^^^ b) = aft w t a ^^^ aft w t b := by
  rw [aft_xor_form h1 hw ha, aft_xor_form h1 hw hb, aft_xor_form h1 hw (Nat.xor_lt_two_pow ha hb), xor_div2]
  have e : par ((a ^^^ b) &&& t) = (par (a &&& t) != par (b &&& t)) := by
    unfold par
    rw [← pb_xor]
    congr 1
    apply Nat.eq_of_testBit_eq
    intro i
    simp only [Nat.testBit_and, Nat.testBit_xor]
    cases a.testBit i <;> cases b.testBit i <;> cases t.testBit i <;> rfl
  rw [e]
  generalize a / 2 = x
  generalize b / 2 = y
  generalize 2 ^ (w - 1) = z
  have key : ∀ p q : Nat, x ^^^ y ^^^ (p ^^^ q) = x ^^^ p ^^^ (y ^^^ q) := fun p q => by
    rw [Nat.xor_assoc, Nat.xor_assoc, ← Nat.xor_assoc y p q, Nat.xor_comm y p, Nat.xor_assoc p y q]
  rw [← key]
  congr 1
  cases par (a &&& t) <;> cases par (b &&& t) <;> simp
theorem rowB_get (w t s : Nat) : ∀ k i, i < k → (rowB w t s k).getD i false = (it w t s i).testBit 0
  | 0, i, h => by omega
  | k + 1, i, h => by
    simp only [rowB]
    by_cases e : i < k
    · rw [← rowB_get w t s k i e, List.getD_eq_getElem?_getD, List.getElem?_append_left (by rw [rowB_len]; exact e), ← List.getD_eq_getElem?_getD]
    · have : i = k := by omega
      subst this
      rw [List.getD_eq_getElem?_getD, List.getElem?_append_right (by rw [rowB_len]; exact Nat.le_refl _)]
      simp [rowB_len]
theorem wf_nat {k : IntKind} {n : Int} {m : Nat} (h : (Lit.int k n).wf = true) (h0 : k.min = 0) (h1 : k.max = m) : ∃ j : Nat, n = j ∧ j ≤ m := by
  simp only [Lit.wf, Bool.and_eq_true, decide_eq_true_eq, h0, h1] at h
  exact ⟨n.toNat, by omega, by omega⟩
end Go.Proofs.Ytdahkhhngaanfaa

set_option linter.unusedVariables false
set_option linter.unusedSimpArgs false
namespace Go.Proofs.Ytdahkhhngaanfaa
open Go Go.Fw
end Go.Proofs.Ytdahkhhngaanfaa

set_option linter.unusedVariables false
set_option linter.unusedSimpArgs false
namespace Go.Proofs.Ytdahkhhngaanfaa
open Go Go.Fw
end Go.Proofs.Ytdahkhhngaanfaa

set_option linter.unusedVariables false
set_option linter.unusedSimpArgs false
namespace Go.Proofs.Ytdahkhhngaanfaa
open Go Go.Fw
theorem aft_ne {w t s : Nat} (h1 : 1 ≤ w) (hw : w ≤ 32) (ht : t % 2 = 1) (hs : s < 2 ^ w) (h0 : 1 ≤ s) : 1 ≤ aft w t s := by
  rcases Nat.eq_zero_or_pos (aft w t s) with h | h
  · exfalso
    have hp := pow32 hw
    have h2 := Nat.two_pow_pos (w - 1)
    have e : (2 : Nat) ^ w = 2 * 2 ^ (w - 1) := by rw [← Nat.pow_succ']; congr 1; omega
    unfold aft at h
    have ha : s / 2 = 0 := by
      have := Nat.left_le_or (n := s / 2) (m := (par (s &&& t)).toNat * 2 ^ (w - 1) % 4294967296)
      omega
    have hb : (par (s &&& t)).toNat * 2 ^ (w - 1) % 4294967296 = 0 := by
      have := Nat.right_le_or (n := s / 2) (m := (par (s &&& t)).toNat * 2 ^ (w - 1) % 4294967296)
      omega
    have hs1 : s = 1 := by omega
    subst hs1
    have ht1 : 1 &&& t = 1 := by rw [Nat.and_comm, Nat.and_one_is_mod, ht]
    rw [ht1, show par 1 = true from by decide] at hb
    simp only [Bool.toNat_true, Nat.one_mul] at hb
    rw [Nat.mod_eq_of_lt (by omega)] at hb
    omega
  · exact h
theorem it_ne {w t s : Nat} (h1 : 1 ≤ w) (hw : w ≤ 32) (ht : t % 2 = 1) (hs : s < 2 ^ w) (h0 : 1 ≤ s) : ∀ k, 1 ≤ it w t s k
  | 0 => h0
  | k + 1 => aft_ne h1 hw ht (it_lt h1 hw hs k) (it_ne h1 hw ht hs h0 k)
noncomputable def c18 : Code := (Try.f18.body).getD .skip
set_option maxHeartbeats 0 in
set_option maxRecDepth 100000 in
theorem Next_f (w t s : Nat) (h1 : 1 ≤ w) (hw : w ≤ 32) (ht : t < 4294967296) (hs : s < 4294967296) : Fits Try.prog 18 ⟨[.ptr 0 0], [reg w t s], [⟨Unit, fun _ => True, fun _ => .tup [.bool (s.testBit 0), .int .i64 0], fun _ => [reg w t (aft w t s)]⟩]⟩ := by
  have AF := after_f w t s h1 hw ht hs
  refine fits_of_body (C := cfg11 1 4) (c := c18) (ts := [2, 3]) tok mixed (fun _ => none) (fun _ => none)
    Try.func18 (by kernel_rfl) (by kernel_rfl) (by kernel_rfl) (by kernel_rfl) rfl ?_
  conv => whnf
  repeat (first
    | (refine And.intro ?_ ?_; (focus (first | omega | decide | exact Int.natCast_nonneg _ | ((repeat' refine And.intro ?_ ?_) <;> first | omega | exact Int.natCast_nonneg _ | (simp only [i64max]; omega) | (simp only [u8max]; omega) | (simp only [i64max, u8max, u16max, u32max, u64max]; omega) | (simp [mulSz, Cont.len, bne]; done) | (simp [mulSz, Cont.len, bne]; omega)))); conv => whnf)
    | (refine tst_in ?_ ?_; (focus (intro h_; exfalso; first | omega | ((try simp only [decide_eq_true_eq, decide_eq_false_iff_not] at h_); omega) | (simp [mulSz, Cont.len, bne] at h_; done) | (simp [mulSz, Cont.len, bne] at h_; omega))); intro _; conv => whnf)
    | (refine tst_in ?_ ?_; rotate_left; (focus (intro h_; exfalso; first | omega | ((try simp only [decide_eq_true_eq, decide_eq_false_iff_not] at h_); omega) | (simp [mulSz, Cont.len, bne] at h_; done) | (simp [mulSz, Cont.len, bne] at h_; omega))); intro _; conv => whnf))
  rw [bit0_eq]
  conv => whnf
  repeat (first
    | (refine And.intro ?_ ?_; (focus (first | omega | decide | exact Int.natCast_nonneg _ | ((repeat' refine And.intro ?_ ?_) <;> first | omega | exact Int.natCast_nonneg _ | (simp only [i64max]; omega) | (simp only [u8max]; omega) | (simp only [i64max, u8max, u16max, u32max, u64max]; omega) | (simp [mulSz, Cont.len, bne]; done) | (simp [mulSz, Cont.len, bne]; omega)))); conv => whnf)
    | (refine tst_in ?_ ?_; (focus (intro h_; exfalso; first | omega | ((try simp only [decide_eq_true_eq, decide_eq_false_iff_not] at h_); omega) | (simp [mulSz, Cont.len, bne] at h_; done) | (simp [mulSz, Cont.len, bne] at h_; omega))); intro _; conv => whnf)
    | (refine tst_in ?_ ?_; rotate_left; (focus (intro h_; exfalso; first | omega | ((try simp only [decide_eq_true_eq, decide_eq_false_iff_not] at h_); omega) | (simp [mulSz, Cont.len, bne] at h_; done) | (simp [mulSz, Cont.len, bne] at h_; omega))); intro _; conv => whnf))
  refine ⟨_, [], AF, ?_⟩
  conv => whnf
  refine ⟨?_, ?_, ?_⟩
  · conv => whnf
    repeat' (first | exact True.intro | rfl | refine And.intro ?_ ?_ | omega)
    all_goals (conv => whnf)
    all_goals (try (first | rfl | omega | (simp; done)))
  · conv => whnf
    repeat' (first | exact True.intro | rfl | refine And.intro ?_ ?_ | omega)
    all_goals (conv => whnf)
    all_goals (try (first | rfl | omega | (simp; done)))
  conv => whnf
  refine ⟨?_, True.intro⟩
  intro _ _
  conv => whnf
  conv => whnf
  repeat (first
    | (refine And.intro ?_ ?_; (focus (first | omega | decide | exact Int.natCast_nonneg _ | ((repeat' refine And.intro ?_ ?_) <;> first | omega | exact Int.natCast_nonneg _ | (simp only [i64max]; omega) | (simp only [u8max]; omega) | (simp only [i64max, u8max, u16max, u32max, u64max]; omega) | (simp [mulSz, Cont.len, bne]; done) | (simp [mulSz, Cont.len, bne]; omega)))); conv => whnf)
    | (refine tst_in ?_ ?_; (focus (intro h_; exfalso; first | omega | ((try simp only [decide_eq_true_eq, decide_eq_false_iff_not] at h_); omega) | (simp [mulSz, Cont.len, bne] at h_; done) | (simp [mulSz, Cont.len, bne] at h_; omega))); intro _; conv => whnf)
    | (refine tst_in ?_ ?_; rotate_left; (focus (intro h_; exfalso; first | omega | ((try simp only [decide_eq_true_eq, decide_eq_false_iff_not] at h_); omega) | (simp [mulSz, Cont.len, bne] at h_; done) | (simp [mulSz, Cont.len, bne] at h_; omega))); intro _; conv => whnf))
  refine .inl ⟨(), [0], ?_⟩
  conv => whnf
  repeat' (first | exact True.intro | rfl | refine And.intro ?_ ?_)
  all_goals (conv => whnf)
  repeat' (first | exact True.intro | rfl | refine And.intro ?_ ?_)
  all_goals (try (first | omega | exact True.intro | rfl | assumption | (change LE.le (α := Nat) _ _; first | omega | (simp only []; omega)) | (simp only []; done) | (simp only []; omega) | (simp; done) | (simp; omega)))
set_option maxHeartbeats 0 in
set_option maxRecDepth 100000 in
theorem after_g (w t s0 s : Nat) (h1 : 1 ≤ w) (hw : w ≤ 32) (ht : t < 4294967296) (hs : s < 4294967296) :
    Fits Try.prog 28 ⟨[.agg [.int .u64 w, .int .u32 t, .int .u32 s0], .int .u32 s], [], [numOut [] (.int .u32 (aft w t s : Nat))]⟩ := by
  have hst : s &&& t < 4294967296 := by have := Nat.and_lt_two_pow s (n := 32) ht; exact this
  have PA := parity_q (s &&& t) hst
  refine fits_of_body (C := cfgs 0) (c := c28) (ts := [4]) tok mixed (fun _ => none) (fun _ => none)
    Try.func28 (by kernel_rfl) (by kernel_rfl) (by kernel_rfl) (by kernel_rfl) rfl ?_
  conv => whnf
  repeat (first
    | (refine And.intro ?_ ?_; (focus (first | omega | decide | exact Int.natCast_nonneg _ | ((repeat' refine And.intro ?_ ?_) <;> first | omega | exact Int.natCast_nonneg _ | (simp only [i64max]; omega) | (simp only [u8max]; omega) | (simp only [i64max, u8max, u16max, u32max, u64max]; omega) | (simp [mulSz, Cont.len, bne]; done) | (simp [mulSz, Cont.len, bne]; omega)))); conv => whnf)
    | (refine tst_in ?_ ?_; (focus (intro h_; exfalso; first | omega | ((try simp only [decide_eq_true_eq, decide_eq_false_iff_not] at h_); omega) | (simp [mulSz, Cont.len, bne] at h_; done) | (simp [mulSz, Cont.len, bne] at h_; omega))); intro _; conv => whnf)
    | (refine tst_in ?_ ?_; rotate_left; (focus (intro h_; exfalso; first | omega | ((try simp only [decide_eq_true_eq, decide_eq_false_iff_not] at h_); omega) | (simp [mulSz, Cont.len, bne] at h_; done) | (simp [mulSz, Cont.len, bne] at h_; omega))); intro _; conv => whnf))
  rw [show (s : Int) / 2 ^ (min (Int.toNat 1) (IntKind.bits .u32)) = ((s / 2 : Nat) : Int) from shr_nat s 1 1 (IntKind.bits .u32) rfl (by decide)]
  conv => whnf
  repeat (first
    | (refine And.intro ?_ ?_; (focus (first | omega | decide | exact Int.natCast_nonneg _ | ((repeat' refine And.intro ?_ ?_) <;> first | omega | exact Int.natCast_nonneg _ | (simp only [i64max]; omega) | (simp only [u8max]; omega) | (simp only [i64max, u8max, u16max, u32max, u64max]; omega) | (simp [mulSz, Cont.len, bne]; done) | (simp [mulSz, Cont.len, bne]; omega)))); conv => whnf)
    | (refine tst_in ?_ ?_; (focus (intro h_; exfalso; first | omega | ((try simp only [decide_eq_true_eq, decide_eq_false_iff_not] at h_); omega) | (simp [mulSz, Cont.len, bne] at h_; done) | (simp [mulSz, Cont.len, bne] at h_; omega))); intro _; conv => whnf)
    | (refine tst_in ?_ ?_; rotate_left; (focus (intro h_; exfalso; first | omega | ((try simp only [decide_eq_true_eq, decide_eq_false_iff_not] at h_); omega) | (simp [mulSz, Cont.len, bne] at h_; done) | (simp [mulSz, Cont.len, bne] at h_; omega))); intro _; conv => whnf))
  rw [Int.toNat_natCast, Int.toNat_natCast]
  conv => whnf
  refine ⟨_, [], PA, ?_⟩
  conv => whnf
  refine ⟨?_, ?_, ?_⟩
  · conv => whnf
    repeat' (first | exact True.intro | rfl | refine And.intro ?_ ?_)
    all_goals (conv => whnf)
    repeat' (first | exact True.intro | rfl | refine And.intro ?_ ?_)
    all_goals (try (first | rfl | omega | (simp; done) | (simp; omega)))
  · conv => whnf
    repeat' (first | exact True.intro | rfl | refine And.intro ?_ ?_)
    all_goals (conv => whnf)
    repeat' (first | exact True.intro | rfl | refine And.intro ?_ ?_)
    all_goals (try (first | rfl | omega | (simp; done) | (simp; omega)))
  conv => whnf
  conv => whnf
  repeat (first
    | (refine And.intro ?_ ?_; (focus (first | omega | decide | exact Int.natCast_nonneg _ | ((repeat' refine And.intro ?_ ?_) <;> first | omega | exact Int.natCast_nonneg _ | (simp only [i64max]; omega) | (simp only [u8max]; omega) | (simp only [i64max, u8max, u16max, u32max, u64max]; omega) | (simp [mulSz, Cont.len, bne]; done) | (simp [mulSz, Cont.len, bne]; omega)))); conv => whnf)
    | (refine tst_in ?_ ?_; (focus (intro h_; exfalso; first | omega | ((try simp only [decide_eq_true_eq, decide_eq_false_iff_not] at h_); omega) | (simp [mulSz, Cont.len, bne] at h_; done) | (simp [mulSz, Cont.len, bne] at h_; omega))); intro _; conv => whnf)
    | (refine tst_in ?_ ?_; rotate_left; (focus (intro h_; exfalso; first | omega | ((try simp only [decide_eq_true_eq, decide_eq_false_iff_not] at h_); omega) | (simp [mulSz, Cont.len, bne] at h_; done) | (simp [mulSz, Cont.len, bne] at h_; omega))); intro _; conv => whnf))
  rw [show IntKind.u64.wrap ((w : Int) - 1) = ((w - 1 : Nat) : Int) by rw [u64wrap]; omega]
  conv => whnf
  repeat (first
    | (refine And.intro ?_ ?_; (focus (first | omega | decide | exact Int.natCast_nonneg _ | ((repeat' refine And.intro ?_ ?_) <;> first | omega | exact Int.natCast_nonneg _ | (simp only [i64max]; omega) | (simp only [u8max]; omega) | (simp only [i64max, u8max, u16max, u32max, u64max]; omega) | (simp [mulSz, Cont.len, bne]; done) | (simp [mulSz, Cont.len, bne]; omega)))); conv => whnf)
    | (refine tst_in ?_ ?_; (focus (intro h_; exfalso; first | omega | ((try simp only [decide_eq_true_eq, decide_eq_false_iff_not] at h_); omega) | (simp [mulSz, Cont.len, bne] at h_; done) | (simp [mulSz, Cont.len, bne] at h_; omega))); intro _; conv => whnf)
    | (refine tst_in ?_ ?_; rotate_left; (focus (intro h_; exfalso; first | omega | ((try simp only [decide_eq_true_eq, decide_eq_false_iff_not] at h_); omega) | (simp [mulSz, Cont.len, bne] at h_; done) | (simp [mulSz, Cont.len, bne] at h_; omega))); intro _; conv => whnf))
  rw [show IntKind.u32.wrap ((((par (s &&& t)).toNat : Nat) : Int) * 2 ^ (min (((w - 1 : Nat) : Int)).toNat (IntKind.bits .u32))) = (((par (s &&& t)).toNat * 2 ^ (w - 1) % 4294967296 : Nat) : Int) by
    rw [u32wrap, Int.toNat_natCast, Nat.min_eq_left (show w - 1 ≤ IntKind.bits .u32 by show w - 1 ≤ 32; omega)]; simp]
  conv => whnf
  repeat (first
    | (refine And.intro ?_ ?_; (focus (first | omega | decide | exact Int.natCast_nonneg _ | ((repeat' refine And.intro ?_ ?_) <;> first | omega | exact Int.natCast_nonneg _ | (simp only [i64max]; omega) | (simp only [u8max]; omega) | (simp only [i64max, u8max, u16max, u32max, u64max]; omega) | (simp [mulSz, Cont.len, bne]; done) | (simp [mulSz, Cont.len, bne]; omega)))); conv => whnf)
    | (refine tst_in ?_ ?_; (focus (intro h_; exfalso; first | omega | ((try simp only [decide_eq_true_eq, decide_eq_false_iff_not] at h_); omega) | (simp [mulSz, Cont.len, bne] at h_; done) | (simp [mulSz, Cont.len, bne] at h_; omega))); intro _; conv => whnf)
    | (refine tst_in ?_ ?_; rotate_left; (focus (intro h_; exfalso; first | omega | ((try simp only [decide_eq_true_eq, decide_eq_false_iff_not] at h_); omega) | (simp [mulSz, Cont.len, bne] at h_; done) | (simp [mulSz, Cont.len, bne] at h_; omega))); intro _; conv => whnf))
  rw [Int.toNat_natCast, Int.toNat_natCast]
  conv => whnf
  refine .inl ⟨(), [], ?_⟩
  conv => whnf
  repeat' (first | exact True.intro | rfl | refine And.intro ?_ ?_)
  all_goals (conv => whnf)
  repeat' (first | exact True.intro | rfl | refine And.intro ?_ ?_)
  all_goals (try (first | omega | exact True.intro | rfl | assumption | (change LE.le (α := Nat) _ _; first | omega | (simp only []; omega)) | (simp only []; done) | (simp only []; omega) | (simp; done) | (simp; omega)))
end Go.Proofs.Ytdahkhhngaanfaa

set_option linter.unusedVariables false
set_option linter.unusedSimpArgs false
namespace Go.Proofs.Ytdahkhhngaanfaa
open Go Go.Fw
theorem sh_eq (C j m : Nat) (b : Int) (hb : b.toNat = j) (hj : j ≤ m) : (C : Int) / 2 ^ (min b.toNat m) = ((C >>> j : Nat) : Int) := by
  rw [hb, Nat.min_eq_left hj, Nat.shiftRight_eq_div_pow]; simp
end Go.Proofs.Ytdahkhhngaanfaa

set_option linter.unusedVariables false
set_option linter.unusedSimpArgs false
namespace Go.Proofs.Ytdahkhhngaanfaa
open Go Go.Fw
/-- Thirty-two numbers. -/
def il (x : Nat → Nat) : List Int := [((x 0 : Nat) : Int), (x 1 : Nat), (x 2 : Nat), (x 3 : Nat), (x 4 : Nat), (x 5 : Nat), (x 6 : Nat), (x 7 : Nat), (x 8 : Nat), (x 9 : Nat), (x 10 : Nat), (x 11 : Nat), (x 12 : Nat), (x 13 : Nat), (x 14 : Nat), (x 15 : Nat), (x 16 : Nat), (x 17 : Nat), (x 18 : Nat), (x 19 : Nat), (x 20 : Nat), (x 21 : Nat), (x 22 : Nat), (x 23 : Nat), (x 24 : Nat), (x 25 : Nat), (x 26 : Nat), (x 27 : Nat), (x 28 : Nat), (x 29 : Nat), (x 30 : Nat), (x 31 : Nat)]
def al (x : Nat → Nat) : List AV := [.int .u32 (x 0 : Nat), .int .u32 (x 1 : Nat), .int .u32 (x 2 : Nat), .int .u32 (x 3 : Nat), .int .u32 (x 4 : Nat), .int .u32 (x 5 : Nat), .int .u32 (x 6 : Nat), .int .u32 (x 7 : Nat), .int .u32 (x 8 : Nat), .int .u32 (x 9 : Nat), .int .u32 (x 10 : Nat), .int .u32 (x 11 : Nat), .int .u32 (x 12 : Nat), .int .u32 (x 13 : Nat), .int .u32 (x 14 : Nat), .int .u32 (x 15 : Nat), .int .u32 (x 16 : Nat), .int .u32 (x 17 : Nat), .int .u32 (x 18 : Nat), .int .u32 (x 19 : Nat), .int .u32 (x 20 : Nat), .int .u32 (x 21 : Nat), .int .u32 (x 22 : Nat), .int .u32 (x 23 : Nat), .int .u32 (x 24 : Nat), .int .u32 (x 25 : Nat), .int .u32 (x 26 : Nat), .int .u32 (x 27 : Nat), .int .u32 (x 28 : Nat), .int .u32 (x 29 : Nat), .int .u32 (x 30 : Nat), .int .u32 (x 31 : Nat)]
theorem il_len (x : Nat → Nat) : (il x).length = 32 := rfl
theorem il_eq (x : Nat → Nat) : il x = (List.range 32).map fun i => ((x i : Nat) : Int) := rfl
theorem il_get (x : Nat → Nat) (k : Nat) (h : k < 32) : (il x).getD k 0 = ((x k : Nat) : Int) := by
  rw [il_eq, List.getD_eq_getElem?_getD, List.getElem?_map, List.getElem?_range h]; rfl
def up (x : Nat → Nat) (k v : Nat) : Nat → Nat := fun i => if i = k then v else x i
theorem il_set (x : Nat → Nat) (k v : Nat) (h : k < 32) : (il x).set k ((v : Nat) : Int) = il (up x k v) := by
  rw [il_eq, il_eq]
  apply List.ext_getElem (by simp)
  intro i h1 h2
  rw [List.getElem_set]
  simp only [List.getElem_map, List.getElem_range, up]
  by_cases hi : k = i
  · subst hi; simp
  · rw [if_neg hi, if_neg (fun e => hi e.symm)]
def ofx (x : Nat → Nat) (s : Nat) : Nat → Nat
  | 0 => 0
  | k + 1 => ofx x s k ^^^ (if s.testBit k then x k else 0)
theorem ofx_lt {x : Nat → Nat} (hx : ∀ i, x i < 4294967296) (s : Nat) : ∀ k, ofx x s k < 4294967296
  | 0 => by simp [ofx]
  | k + 1 => by
    have := ofx_lt hx s k
    rw [ofx]
    refine Nat.xor_lt_two_pow (n := 32) this ?_
    split
    · exact hx k
    · decide
theorem and_one (C j : Nat) : (((C >>> j : Nat) : Int).toNat &&& (1 : Int).toNat : Nat) = (C.testBit j).toNat := by
  rw [Int.toNat_natCast, show (1 : Int).toNat = 1 from rfl, Nat.and_one_is_mod, Nat.testBit_eq_decide_div_mod_eq, Nat.shiftRight_eq_div_pow]
  have := Nat.mod_two_eq_zero_or_one (C / 2 ^ j)
  rcases this with h | h <;> rw [h] <;> rfl
noncomputable def c31 : Code := (Try.f31.body).getD .skip
def st31 (x : Nat → Nat) (s k : Nat) : St := ⟨anyTo 23 [.any, .int .u32 s, .ptr 0 0, .any, .any, .int .u32 (ofx x s k : Nat), .any, .int .i64 k], [.seg true (.ints .u32 (il x))]⟩
def inv31 (x : Nat → Nat) (s : Nat) : LInv := ⟨Nat, fun k => st31 x s k, fun k => k ≤ 32, fun k => 32 - k⟩
set_option maxHeartbeats 0 in
set_option maxRecDepth 100000 in
theorem of_f (x : Nat → Nat) (s : Nat) (hx : ∀ i, x i < 4294967296) (hs : s < 4294967296) :
    Fits Try.prog 31 ⟨[.agg (al x), .int .u32 s], [], [numOut [] (.int .u32 (ofx x s 32 : Nat))]⟩ := by
  refine fits_of_body (C := cfgs 0) (c := c31) (ts := [4]) tok mixed (fun | 3 => some (inv31 x s) | _ => none) (fun _ => none)
    Try.func31 (by kernel_rfl) (by kernel_rfl) (by kernel_rfl) (by kernel_rfl) rfl ?_
  conv => whnf
  repeat (first
    | (refine And.intro ?_ ?_; (focus (first | omega | decide | exact Int.natCast_nonneg _ | ((repeat' refine And.intro ?_ ?_) <;> first | omega | exact Int.natCast_nonneg _ | (simp only [i64max]; omega) | (simp only [u8max]; omega) | (simp only [i64max, u8max, u16max, u32max, u64max]; omega) | (simp [mulSz, Cont.len, bne]; done) | (simp [mulSz, Cont.len, bne]; omega)))); conv => whnf)
    | (refine tst_in ?_ ?_; (focus (intro h_; exfalso; first | omega | ((try simp only [decide_eq_true_eq, decide_eq_false_iff_not] at h_); omega) | (simp [mulSz, Cont.len, bne] at h_; done) | (simp [mulSz, Cont.len, bne] at h_; omega))); intro _; conv => whnf)
    | (refine tst_in ?_ ?_; rotate_left; (focus (intro h_; exfalso; first | omega | ((try simp only [decide_eq_true_eq, decide_eq_false_iff_not] at h_); omega) | (simp [mulSz, Cont.len, bne] at h_; done) | (simp [mulSz, Cont.len, bne] at h_; omega))); intro _; conv => whnf))
  refine ⟨⟨[0], (0 : Nat), ?_, Nat.zero_le _⟩, ?_⟩
  · conv => whnf
    repeat' (first | exact True.intro | rfl | refine And.intro ?_ ?_)
    all_goals (conv => whnf)
    repeat' (first | exact True.intro | rfl | refine And.intro ?_ ?_)
    all_goals (try (first | omega | exact True.intro | rfl | assumption | (change LE.le (α := Nat) _ _; first | omega | (simp only []; omega)) | (simp only []; done) | (simp only []; omega) | (simp; done) | (simp; omega)))
  · intro (k : Nat) (hk : k ≤ 32)
    have hok := ofx_lt hx s k
    have hxk := hx k
    have hand : x k &&& 4294967295 = x k := by rw [show 4294967295 = 2 ^ 32 - 1 from rfl, Nat.and_two_pow_sub_one_eq_mod]; exact Nat.mod_eq_of_lt hxk
    show forceSt (st31 x s k) _
    conv => whnf
    refine tst_in (fun hlt => ?_) (fun hge => ?_)
    · skip
      have hlt : k < 32 := by simp at hlt; omega
      have hil := il_len x
      conv => whnf
      repeat (first
        | (refine And.intro ?_ ?_; (focus (first | omega | decide | exact Int.natCast_nonneg _ | ((repeat' refine And.intro ?_ ?_) <;> first | omega | exact Int.natCast_nonneg _ | (simp only [i64max]; omega) | (simp only [u8max]; omega) | (simp only [i64max, u8max, u16max, u32max, u64max]; omega) | (simp [mulSz, Cont.len, bne, hil]; done) | (simp [mulSz, Cont.len, bne, hil]; omega)))); conv => whnf)
        | (refine tst_in ?_ ?_; (focus (intro h_; exfalso; first | omega | ((try simp only [decide_eq_true_eq, decide_eq_false_iff_not] at h_); omega) | (simp [mulSz, Cont.len, bne, hil] at h_; done) | (simp [mulSz, Cont.len, bne, hil] at h_; omega))); intro _; conv => whnf)
        | (refine tst_in ?_ ?_; rotate_left; (focus (intro h_; exfalso; first | omega | ((try simp only [decide_eq_true_eq, decide_eq_false_iff_not] at h_); omega) | (simp [mulSz, Cont.len, bne, hil] at h_; done) | (simp [mulSz, Cont.len, bne, hil] at h_; omega))); intro _; conv => whnf))
      have hsk : s >>> k ≤ s := by rw [Nat.shiftRight_eq_div_pow]; exact Nat.div_le_self _ _
      rw [sh_eq s k (IntKind.bits .u32) (k : Int) (by omega) (show k ≤ 32 by omega), show 0 + ((k : Int)).toNat = k by omega, il_get x k hlt]
      conv => whnf
      repeat (first
        | (refine And.intro ?_ ?_; (focus (first | omega | decide | exact Int.natCast_nonneg _ | ((repeat' refine And.intro ?_ ?_) <;> first | omega | exact Int.natCast_nonneg _ | (simp only [i64max]; omega) | (simp only [u8max]; omega) | (simp only [i64max, u8max, u16max, u32max, u64max]; omega) | (simp [mulSz, Cont.len, bne]; done) | (simp [mulSz, Cont.len, bne]; omega)))); conv => whnf)
        | (refine tst_in ?_ ?_; (focus (intro h_; exfalso; first | omega | ((try simp only [decide_eq_true_eq, decide_eq_false_iff_not] at h_); omega) | (simp [mulSz, Cont.len, bne] at h_; done) | (simp [mulSz, Cont.len, bne] at h_; omega))); intro _; conv => whnf)
        | (refine tst_in ?_ ?_; rotate_left; (focus (intro h_; exfalso; first | omega | ((try simp only [decide_eq_true_eq, decide_eq_false_iff_not] at h_); omega) | (simp [mulSz, Cont.len, bne] at h_; done) | (simp [mulSz, Cont.len, bne] at h_; omega))); intro _; conv => whnf))
      rw [and_one]
      cases hb : s.testBit k
      · skip
        rw [show IntKind.u32.wrap (0 - ((Bool.toNat false : Nat) : Int)) = ((0 : Nat) : Int) by rw [u32wrap]; rfl]
        conv => whnf
        repeat (first
          | (refine And.intro ?_ ?_; (focus (first | omega | decide | exact Int.natCast_nonneg _ | ((repeat' refine And.intro ?_ ?_) <;> first | omega | exact Int.natCast_nonneg _ | (simp only [i64max]; omega) | (simp only [u8max]; omega) | (simp only [i64max, u8max, u16max, u32max, u64max]; omega) | (simp [mulSz, Cont.len, bne, u32max]; done) | (simp [mulSz, Cont.len, bne, u32max]; omega)))); conv => whnf)
          | (refine tst_in ?_ ?_; (focus (intro h_; exfalso; first | omega | ((try simp only [decide_eq_true_eq, decide_eq_false_iff_not] at h_); omega) | (simp [mulSz, Cont.len, bne, u32max] at h_; done) | (simp [mulSz, Cont.len, bne, u32max] at h_; omega))); intro _; conv => whnf)
          | (refine tst_in ?_ ?_; rotate_left; (focus (intro h_; exfalso; first | omega | ((try simp only [decide_eq_true_eq, decide_eq_false_iff_not] at h_); omega) | (simp [mulSz, Cont.len, bne, u32max] at h_; done) | (simp [mulSz, Cont.len, bne, u32max] at h_; omega))); intro _; conv => whnf))
        refine ⟨[0], k + 1, ?_, (by show k + 1 ≤ 32; omega), (by show 32 - (k + 1) < 32 - k; omega)⟩
        conv => whnf
        repeat' (first | exact True.intro | rfl | refine And.intro ?_ ?_)
        all_goals (conv => whnf)
        repeat' (first | exact True.intro | rfl | refine And.intro ?_ ?_)
        all_goals (try (first | omega | exact True.intro | rfl | assumption | (change LE.le (α := Nat) _ _; first | omega | (simp only []; omega)) | (simp only []; done) | (simp only []; omega) | (simp; done) | (simp; omega)))
        all_goals (show ((ofx x s k ^^^ (if s.testBit k then x k else 0) : Nat) : Int) = _; rw [hb]; simp [hand])
      · skip
        rw [show IntKind.u32.wrap (0 - ((Bool.toNat true : Nat) : Int)) = ((4294967295 : Nat) : Int) by rw [u32wrap]; rfl]
        conv => whnf
        repeat (first
          | (refine And.intro ?_ ?_; (focus (first | omega | decide | exact Int.natCast_nonneg _ | ((repeat' refine And.intro ?_ ?_) <;> first | omega | exact Int.natCast_nonneg _ | (simp only [i64max]; omega) | (simp only [u8max]; omega) | (simp only [i64max, u8max, u16max, u32max, u64max]; omega) | (simp [mulSz, Cont.len, bne, u32max]; done) | (simp [mulSz, Cont.len, bne, u32max]; omega)))); conv => whnf)
          | (refine tst_in ?_ ?_; (focus (intro h_; exfalso; first | omega | ((try simp only [decide_eq_true_eq, decide_eq_false_iff_not] at h_); omega) | (simp [mulSz, Cont.len, bne, u32max] at h_; done) | (simp [mulSz, Cont.len, bne, u32max] at h_; omega))); intro _; conv => whnf)
          | (refine tst_in ?_ ?_; rotate_left; (focus (intro h_; exfalso; first | omega | ((try simp only [decide_eq_true_eq, decide_eq_false_iff_not] at h_); omega) | (simp [mulSz, Cont.len, bne, u32max] at h_; done) | (simp [mulSz, Cont.len, bne, u32max] at h_; omega))); intro _; conv => whnf))
        refine ⟨[0], k + 1, ?_, (by show k + 1 ≤ 32; omega), (by show 32 - (k + 1) < 32 - k; omega)⟩
        conv => whnf
        repeat' (first | exact True.intro | rfl | refine And.intro ?_ ?_)
        all_goals (conv => whnf)
        repeat' (first | exact True.intro | rfl | refine And.intro ?_ ?_)
        all_goals (try (first | omega | exact True.intro | rfl | assumption | (change LE.le (α := Nat) _ _; first | omega | (simp only []; omega)) | (simp only []; done) | (simp only []; omega) | (simp; done) | (simp; omega)))
        all_goals (show ((ofx x s k ^^^ (if s.testBit k then x k else 0) : Nat) : Int) = _; rw [hb]; simp [hand])
    · skip
      have hge : k = 32 := by simp at hge; omega
      subst hge
      conv => whnf
      repeat (first
        | (refine And.intro ?_ ?_; (focus (first | omega | decide | exact Int.natCast_nonneg _ | ((repeat' refine And.intro ?_ ?_) <;> first | omega | exact Int.natCast_nonneg _ | (simp only [i64max]; omega) | (simp only [u8max]; omega) | (simp only [i64max, u8max, u16max, u32max, u64max]; omega) | (simp [mulSz, Cont.len, bne]; done) | (simp [mulSz, Cont.len, bne]; omega)))); conv => whnf)
        | (refine tst_in ?_ ?_; (focus (intro h_; exfalso; first | omega | ((try simp only [decide_eq_true_eq, decide_eq_false_iff_not] at h_); omega) | (simp [mulSz, Cont.len, bne] at h_; done) | (simp [mulSz, Cont.len, bne] at h_; omega))); intro _; conv => whnf)
        | (refine tst_in ?_ ?_; rotate_left; (focus (intro h_; exfalso; first | omega | ((try simp only [decide_eq_true_eq, decide_eq_false_iff_not] at h_); omega) | (simp [mulSz, Cont.len, bne] at h_; done) | (simp [mulSz, Cont.len, bne] at h_; omega))); intro _; conv => whnf))
      refine .inl ⟨(), [], ?_⟩
      conv => whnf
      repeat' (first | exact True.intro | rfl | refine And.intro ?_ ?_)
      all_goals (conv => whnf)
      repeat' (first | exact True.intro | rfl | refine And.intro ?_ ?_)
      all_goals (try (first | omega | exact True.intro | rfl | assumption | (change LE.le (α := Nat) _ _; first | omega | (simp only []; omega)) | (simp only []; done) | (simp only []; omega) | (simp; done) | (simp; omega)))
end Go.Proofs.Ytdahkhhngaanfaa

set_option linter.unusedVariables false
set_option linter.unusedSimpArgs false
namespace Go.Proofs.Ytdahkhhngaanfaa
open Go Go.Fw
def tw (x : Nat → Nat) (k : Nat) : Nat → Nat := fun i => if i < k then ofx x (x i) 32 else 0
theorem tw_up (x : Nat → Nat) (k : Nat) : up (tw x k) k (ofx x (x k) 32) = tw x (k + 1) := by
  funext i
  unfold up tw
  by_cases h : i = k
  · subst h; rw [if_pos rfl, if_pos (by omega)]
  · rw [if_neg h]
    by_cases h2 : i < k
    · rw [if_pos h2, if_pos (by omega)]
    · rw [if_neg h2, if_neg (by omega)]
noncomputable def c32 : Code := (Try.f32.body).getD .skip
def pl32 : PlanL := .lin [0, 1, 2, 3, 4, 5, 6, 7] .done
def cfg32 : Cfg := { T := tys, sgn := fun _ => false, wr := fun _ => false, k := 0, q := qf, plan := fun i => match Nat.beq i 5 with | true => some pl32 | false => none }
def st32 (x : Nat → Nat) (k : Nat) : St := ⟨anyTo 17 [.any, .ptr 0 0, .ptr 1 0, .ptr 2 0, .any, .int .i64 k], [.seg true (.ints .u32 (il x)), .seg true (.avs (List.replicate 32 (.int .u32 0))), .seg true (.ints .u32 (il (tw x k)))]⟩
def inv32 (x : Nat → Nat) : LInv := ⟨Nat, fun k => st32 x k, fun k => k ≤ 32, fun k => 32 - k⟩
set_option maxHeartbeats 0 in
set_option maxRecDepth 100000 in
theorem twice_f (x : Nat → Nat) (hx : ∀ i, x i < 4294967296) :
    Fits Try.prog 32 ⟨[.agg (al x)], [], [numOut [] (.agg (al (tw x 32)))]⟩ := by
  have OF := fun k => of_f x (x k) hx (hx k)
  refine fits_of_cell (C := cfg32) (c := c32) (t := 2) (ty := 66) tok mixed (fun | 3 => some (inv32 x) | _ => none) (fun _ => none)
    Try.func32 (by kernel_rfl) (by kernel_rfl) (by kernel_rfl) (by kernel_rfl) rfl ?_
  conv => whnf
  repeat (first
    | (refine And.intro ?_ ?_; (focus (first | omega | decide | exact Int.natCast_nonneg _ | ((repeat' refine And.intro ?_ ?_) <;> first | omega | exact Int.natCast_nonneg _ | (simp only [i64max]; omega) | (simp only [u8max]; omega) | (simp only [i64max, u8max, u16max, u32max, u64max]; omega) | (simp [mulSz, Cont.len, bne]; done) | (simp [mulSz, Cont.len, bne]; omega)))); conv => whnf)
    | (refine tst_in ?_ ?_; (focus (intro h_; exfalso; first | omega | ((try simp only [decide_eq_true_eq, decide_eq_false_iff_not] at h_); omega) | (simp [mulSz, Cont.len, bne] at h_; done) | (simp [mulSz, Cont.len, bne] at h_; omega))); intro _; conv => whnf)
    | (refine tst_in ?_ ?_; rotate_left; (focus (intro h_; exfalso; first | omega | ((try simp only [decide_eq_true_eq, decide_eq_false_iff_not] at h_); omega) | (simp [mulSz, Cont.len, bne] at h_; done) | (simp [mulSz, Cont.len, bne] at h_; omega))); intro _; conv => whnf))
  refine ⟨⟨[0, 1, 2], (0 : Nat), ?_, Nat.zero_le _⟩, ?_⟩
  · skip
    conv => whnf
    repeat' (first | exact True.intro | rfl | refine And.intro ?_ ?_)
    all_goals (conv => whnf)
    repeat' (first | exact True.intro | rfl | refine And.intro ?_ ?_)
  · intro (k : Nat) (hk : k ≤ 32)
    have hil := il_len x
    have hil2 := il_len (tw x k)
    show forceSt (st32 x k) _
    conv => whnf
    refine tst_in (fun hlt => ?_) (fun hge => ?_)
    · skip
      have hlt : k < 32 := by simp at hlt; omega
      conv => whnf
      repeat (first
        | (refine And.intro ?_ ?_; (focus (first | omega | decide | exact Int.natCast_nonneg _ | ((repeat' refine And.intro ?_ ?_) <;> first | omega | exact Int.natCast_nonneg _ | (simp only [i64max]; omega) | (simp only [u8max]; omega) | (simp only [i64max, u8max, u16max, u32max, u64max]; omega) | (simp [mulSz, Cont.len, bne, hil]; done) | (simp [mulSz, Cont.len, bne, hil]; omega)))); conv => whnf)
        | (refine tst_in ?_ ?_; (focus (intro h_; exfalso; first | omega | ((try simp only [decide_eq_true_eq, decide_eq_false_iff_not] at h_); omega) | (simp [mulSz, Cont.len, bne, hil] at h_; done) | (simp [mulSz, Cont.len, bne, hil] at h_; omega))); intro _; conv => whnf)
        | (refine tst_in ?_ ?_; rotate_left; (focus (intro h_; exfalso; first | omega | ((try simp only [decide_eq_true_eq, decide_eq_false_iff_not] at h_); omega) | (simp [mulSz, Cont.len, bne, hil] at h_; done) | (simp [mulSz, Cont.len, bne, hil] at h_; omega))); intro _; conv => whnf))
      rw [show 0 + ((k : Int)).toNat = k by omega, il_get x k hlt]
      conv => whnf
      repeat (first
        | (refine And.intro ?_ ?_; (focus (first | omega | decide | exact Int.natCast_nonneg _ | ((repeat' refine And.intro ?_ ?_) <;> first | omega | exact Int.natCast_nonneg _ | (simp only [i64max]; omega) | (simp only [u8max]; omega) | (simp only [i64max, u8max, u16max, u32max, u64max]; omega) | (simp [mulSz, Cont.len, bne]; done) | (simp [mulSz, Cont.len, bne]; omega)))); conv => whnf)
        | (refine tst_in ?_ ?_; (focus (intro h_; exfalso; first | omega | ((try simp only [decide_eq_true_eq, decide_eq_false_iff_not] at h_); omega) | (simp [mulSz, Cont.len, bne] at h_; done) | (simp [mulSz, Cont.len, bne] at h_; omega))); intro _; conv => whnf)
        | (refine tst_in ?_ ?_; rotate_left; (focus (intro h_; exfalso; first | omega | ((try simp only [decide_eq_true_eq, decide_eq_false_iff_not] at h_); omega) | (simp [mulSz, Cont.len, bne] at h_; done) | (simp [mulSz, Cont.len, bne] at h_; omega))); intro _; conv => whnf))
      refine ⟨_, [], OF k, ?_⟩
      conv => whnf
      refine ⟨?_, ?_, ?_⟩
      · conv => whnf
        repeat' (first | exact True.intro | rfl | refine And.intro ?_ ?_ | omega)
        all_goals (conv => whnf)
        all_goals (try (first | rfl | omega | (simp; done)))
      · conv => whnf
        repeat' (first | exact True.intro | rfl | refine And.intro ?_ ?_ | omega)
        all_goals (conv => whnf)
        all_goals (try (first | rfl | omega | (simp; done)))
      conv => whnf
      refine ⟨?_, True.intro⟩
      intro _ _
      conv => whnf
      conv => whnf
      repeat (first
        | (refine And.intro ?_ ?_; (focus (first | omega | decide | exact Int.natCast_nonneg _ | ((repeat' refine And.intro ?_ ?_) <;> first | omega | exact Int.natCast_nonneg _ | (simp only [i64max]; omega) | (simp only [u8max]; omega) | (simp only [i64max, u8max, u16max, u32max, u64max]; omega) | (simp [mulSz, Cont.len, bne, hil2]; done) | (simp [mulSz, Cont.len, bne, hil2]; omega)))); conv => whnf)
        | (refine tst_in ?_ ?_; (focus (intro h_; exfalso; first | omega | ((try simp only [decide_eq_true_eq, decide_eq_false_iff_not] at h_); omega) | (simp [mulSz, Cont.len, bne, hil2] at h_; done) | (simp [mulSz, Cont.len, bne, hil2] at h_; omega))); intro _; conv => whnf)
        | (refine tst_in ?_ ?_; rotate_left; (focus (intro h_; exfalso; first | omega | ((try simp only [decide_eq_true_eq, decide_eq_false_iff_not] at h_); omega) | (simp [mulSz, Cont.len, bne, hil2] at h_; done) | (simp [mulSz, Cont.len, bne, hil2] at h_; omega))); intro _; conv => whnf))
      rw [show 0 + ((k : Int)).toNat = k by omega, il_set (tw x k) k _ hlt, tw_up]
      conv => whnf
      repeat (first
        | (refine And.intro ?_ ?_; (focus (first | omega | decide | exact Int.natCast_nonneg _ | ((repeat' refine And.intro ?_ ?_) <;> first | omega | exact Int.natCast_nonneg _ | (simp only [i64max]; omega) | (simp only [u8max]; omega) | (simp only [i64max, u8max, u16max, u32max, u64max]; omega) | (simp [mulSz, Cont.len, bne]; done) | (simp [mulSz, Cont.len, bne]; omega)))); conv => whnf)
        | (refine tst_in ?_ ?_; (focus (intro h_; exfalso; first | omega | ((try simp only [decide_eq_true_eq, decide_eq_false_iff_not] at h_); omega) | (simp [mulSz, Cont.len, bne] at h_; done) | (simp [mulSz, Cont.len, bne] at h_; omega))); intro _; conv => whnf)
        | (refine tst_in ?_ ?_; rotate_left; (focus (intro h_; exfalso; first | omega | ((try simp only [decide_eq_true_eq, decide_eq_false_iff_not] at h_); omega) | (simp [mulSz, Cont.len, bne] at h_; done) | (simp [mulSz, Cont.len, bne] at h_; omega))); intro _; conv => whnf))
      refine ⟨[0, 1, 2], k + 1, ?_, (by show k + 1 ≤ 32; omega), (by show 32 - (k + 1) < 32 - k; omega)⟩
      conv => whnf
      repeat' (first | exact True.intro | rfl | refine And.intro ?_ ?_)
      all_goals (conv => whnf)
      repeat' (first | exact True.intro | rfl | refine And.intro ?_ ?_)
    · skip
      have hge : k = 32 := by simp at hge; omega
      subst hge
      conv => whnf
      refine And.intro (by show 0 + 32 ≤ (il (tw x 32)).length; rw [il_len]; omega) ?_
      conv => whnf
      refine .inl ⟨(), [], ?_⟩
      conv => whnf
      repeat' (first | exact True.intro | rfl | refine And.intro ?_ ?_)
      all_goals (conv => whnf)
      repeat' (first | exact True.intro | rfl | refine And.intro ?_ ?_)
end Go.Proofs.Ytdahkhhngaanfaa

set_option linter.unusedVariables false
set_option linter.unusedSimpArgs false
namespace Go.Proofs.Ytdahkhhngaanfaa
open Go Go.Fw
def sh1 (w s : Nat) : Nat := (2 * s % 4294967296) &&& mk w
def bef (w t s : Nat) : Nat := sh1 w s ||| ((s >>> (w - 1) &&& 1) ^^^ (par (sh1 w s &&& t)).toNat)
noncomputable def c30 : Code := (Try.f30.body).getD .skip
set_option maxHeartbeats 0 in
set_option maxRecDepth 100000 in
theorem before_g (w t s0 s : Nat) (h1 : 1 ≤ w) (hw : w ≤ 32) (ht : t < 4294967296) (hs : s < 4294967296) :
    Fits Try.prog 30 ⟨[.agg [.int .u64 w, .int .u32 t, .int .u32 s0], .int .u32 s], [], [numOut [] (.int .u32 (bef w t s : Nat))]⟩ := by
  have hst : sh1 w s &&& t < 4294967296 := by have := Nat.and_lt_two_pow (sh1 w s) (n := 32) ht; exact this
  have PA := parity_q (sh1 w s &&& t) hst
  have MA := mask_q w h1 hw
  have hsk : s >>> (w - 1) ≤ s := by rw [Nat.shiftRight_eq_div_pow]; exact Nat.div_le_self _ _
  refine fits_of_body (C := cfgs 0) (c := c30) (ts := [4]) tok mixed (fun _ => none) (fun _ => none)
    Try.func30 (by kernel_rfl) (by kernel_rfl) (by kernel_rfl) (by kernel_rfl) rfl ?_
  conv => whnf
  repeat (first
    | (refine And.intro ?_ ?_; (focus (first | omega | decide | exact Int.natCast_nonneg _ | ((repeat' refine And.intro ?_ ?_) <;> first | omega | exact Int.natCast_nonneg _ | (simp only [i64max]; omega) | (simp only [u8max]; omega) | (simp only [i64max, u8max, u16max, u32max, u64max]; omega) | (simp [mulSz, Cont.len, bne]; done) | (simp [mulSz, Cont.len, bne]; omega)))); conv => whnf)
    | (refine tst_in ?_ ?_; (focus (intro h_; exfalso; first | omega | ((try simp only [decide_eq_true_eq, decide_eq_false_iff_not] at h_); omega) | (simp [mulSz, Cont.len, bne] at h_; done) | (simp [mulSz, Cont.len, bne] at h_; omega))); intro _; conv => whnf)
    | (refine tst_in ?_ ?_; rotate_left; (focus (intro h_; exfalso; first | omega | ((try simp only [decide_eq_true_eq, decide_eq_false_iff_not] at h_); omega) | (simp [mulSz, Cont.len, bne] at h_; done) | (simp [mulSz, Cont.len, bne] at h_; omega))); intro _; conv => whnf))
  rw [show IntKind.u64.wrap ((w : Int) - 1) = ((w - 1 : Nat) : Int) by rw [u64wrap]; omega]
  conv => whnf
  repeat (first
    | (refine And.intro ?_ ?_; (focus (first | omega | decide | exact Int.natCast_nonneg _ | ((repeat' refine And.intro ?_ ?_) <;> first | omega | exact Int.natCast_nonneg _ | (simp only [i64max]; omega) | (simp only [u8max]; omega) | (simp only [i64max, u8max, u16max, u32max, u64max]; omega) | (simp [mulSz, Cont.len, bne]; done) | (simp [mulSz, Cont.len, bne]; omega)))); conv => whnf)
    | (refine tst_in ?_ ?_; (focus (intro h_; exfalso; first | omega | ((try simp only [decide_eq_true_eq, decide_eq_false_iff_not] at h_); omega) | (simp [mulSz, Cont.len, bne] at h_; done) | (simp [mulSz, Cont.len, bne] at h_; omega))); intro _; conv => whnf)
    | (refine tst_in ?_ ?_; rotate_left; (focus (intro h_; exfalso; first | omega | ((try simp only [decide_eq_true_eq, decide_eq_false_iff_not] at h_); omega) | (simp [mulSz, Cont.len, bne] at h_; done) | (simp [mulSz, Cont.len, bne] at h_; omega))); intro _; conv => whnf))
  rw [sh_eq s (w - 1) (IntKind.bits .u32) ((w - 1 : Nat) : Int) (by omega) (show w - 1 ≤ 32 by omega)]
  conv => whnf
  repeat (first
    | (refine And.intro ?_ ?_; (focus (first | omega | decide | exact Int.natCast_nonneg _ | ((repeat' refine And.intro ?_ ?_) <;> first | omega | exact Int.natCast_nonneg _ | (simp only [i64max]; omega) | (simp only [u8max]; omega) | (simp only [i64max, u8max, u16max, u32max, u64max]; omega) | (simp [mulSz, Cont.len, bne, u32max]; done) | (simp [mulSz, Cont.len, bne, u32max]; omega)))); conv => whnf)
    | (refine tst_in ?_ ?_; (focus (intro h_; exfalso; first | omega | ((try simp only [decide_eq_true_eq, decide_eq_false_iff_not] at h_); omega) | (simp [mulSz, Cont.len, bne, u32max] at h_; done) | (simp [mulSz, Cont.len, bne, u32max] at h_; omega))); intro _; conv => whnf)
    | (refine tst_in ?_ ?_; rotate_left; (focus (intro h_; exfalso; first | omega | ((try simp only [decide_eq_true_eq, decide_eq_false_iff_not] at h_); omega) | (simp [mulSz, Cont.len, bne, u32max] at h_; done) | (simp [mulSz, Cont.len, bne, u32max] at h_; omega))); intro _; conv => whnf))
  refine ⟨_, [], MA, ?_⟩
  conv => whnf
  refine ⟨?_, ?_, ?_⟩
  · conv => whnf
    repeat' (first | exact True.intro | rfl | refine And.intro ?_ ?_)
    all_goals (conv => whnf)
    repeat' (first | exact True.intro | rfl | refine And.intro ?_ ?_)
    all_goals (try (first | rfl | omega | (simp; done) | (simp; omega)))
  · conv => whnf
    repeat' (first | exact True.intro | rfl | refine And.intro ?_ ?_)
    all_goals (conv => whnf)
    repeat' (first | exact True.intro | rfl | refine And.intro ?_ ?_)
    all_goals (try (first | rfl | omega | (simp; done) | (simp; omega)))
  conv => whnf
  rw [show IntKind.u32.wrap ((s : Int) * 2 ^ (min (Int.toNat 1) (IntKind.bits .u32))) = ((2 * s % 4294967296 : Nat) : Int) by
    rw [u32wrap, show min (Int.toNat 1) (IntKind.bits .u32) = 1 from rfl]; omega]
  have hmk := mk_lt w hw
  conv => whnf
  repeat (first
    | (refine And.intro ?_ ?_; (focus (first | omega | decide | exact Int.natCast_nonneg _ | ((repeat' refine And.intro ?_ ?_) <;> first | omega | exact Int.natCast_nonneg _ | (simp only [i64max]; omega) | (simp only [u8max]; omega) | (simp only [i64max, u8max, u16max, u32max, u64max]; omega) | (simp [mulSz, Cont.len, bne, u32max]; done) | (simp [mulSz, Cont.len, bne, u32max]; omega)))); conv => whnf)
    | (refine tst_in ?_ ?_; (focus (intro h_; exfalso; first | omega | ((try simp only [decide_eq_true_eq, decide_eq_false_iff_not] at h_); omega) | (simp [mulSz, Cont.len, bne, u32max] at h_; done) | (simp [mulSz, Cont.len, bne, u32max] at h_; omega))); intro _; conv => whnf)
    | (refine tst_in ?_ ?_; rotate_left; (focus (intro h_; exfalso; first | omega | ((try simp only [decide_eq_true_eq, decide_eq_false_iff_not] at h_); omega) | (simp [mulSz, Cont.len, bne, u32max] at h_; done) | (simp [mulSz, Cont.len, bne, u32max] at h_; omega))); intro _; conv => whnf))
  rw [show (((2 * s % 4294967296 : Nat) : Int).toNat &&& ((mk w : Nat) : Int).toNat : Nat) = sh1 w s by rw [Int.toNat_natCast, Int.toNat_natCast]; rfl]
  have hsh : sh1 w s < 4294967296 := Nat.and_lt_two_pow (2 * s % 4294967296) (n := 32) hmk
  conv => whnf
  repeat (first
    | (refine And.intro ?_ ?_; (focus (first | omega | decide | exact Int.natCast_nonneg _ | ((repeat' refine And.intro ?_ ?_) <;> first | omega | exact Int.natCast_nonneg _ | (simp only [i64max]; omega) | (simp only [u8max]; omega) | (simp only [i64max, u8max, u16max, u32max, u64max]; omega) | (simp [mulSz, Cont.len, bne, u32max]; done) | (simp [mulSz, Cont.len, bne, u32max]; omega)))); conv => whnf)
    | (refine tst_in ?_ ?_; (focus (intro h_; exfalso; first | omega | ((try simp only [decide_eq_true_eq, decide_eq_false_iff_not] at h_); omega) | (simp [mulSz, Cont.len, bne, u32max] at h_; done) | (simp [mulSz, Cont.len, bne, u32max] at h_; omega))); intro _; conv => whnf)
    | (refine tst_in ?_ ?_; rotate_left; (focus (intro h_; exfalso; first | omega | ((try simp only [decide_eq_true_eq, decide_eq_false_iff_not] at h_); omega) | (simp [mulSz, Cont.len, bne, u32max] at h_; done) | (simp [mulSz, Cont.len, bne, u32max] at h_; omega))); intro _; conv => whnf))
  rw [show (((sh1 w s : Nat) : Int).toNat &&& ((t : Nat) : Int).toNat : Nat) = sh1 w s &&& t by rw [Int.toNat_natCast, Int.toNat_natCast]]
  refine ⟨_, [], PA, ?_⟩
  conv => whnf
  refine ⟨?_, ?_, ?_⟩
  · conv => whnf
    repeat' (first | exact True.intro | rfl | refine And.intro ?_ ?_)
    all_goals (conv => whnf)
    repeat' (first | exact True.intro | rfl | refine And.intro ?_ ?_)
    all_goals (try (first | rfl | omega | (simp; done) | (simp; omega)))
  · conv => whnf
    repeat' (first | exact True.intro | rfl | refine And.intro ?_ ?_)
    all_goals (conv => whnf)
    repeat' (first | exact True.intro | rfl | refine And.intro ?_ ?_)
    all_goals (try (first | rfl | omega | (simp; done) | (simp; omega)))
  conv => whnf
  have h01 : s >>> (w - 1) &&& 1 ≤ 1 := Nat.and_le_right
  have hp1 : (par (sh1 w s &&& t)).toNat ≤ 1 := by cases par (sh1 w s &&& t) <;> simp
  rw [show ((((s >>> (w - 1) : Nat) : Int)).toNat &&& Int.toNat 1 : Nat) = s >>> (w - 1) &&& 1 by rw [Int.toNat_natCast]; rfl]
  conv => whnf
  repeat (first
    | (refine And.intro ?_ ?_; (focus (first | omega | decide | exact Int.natCast_nonneg _ | ((repeat' refine And.intro ?_ ?_) <;> first | omega | exact Int.natCast_nonneg _ | (simp only [i64max]; omega) | (simp only [u8max]; omega) | (simp only [i64max, u8max, u16max, u32max, u64max]; omega) | (simp [mulSz, Cont.len, bne, u32max]; done) | (simp [mulSz, Cont.len, bne, u32max]; omega)))); conv => whnf)
    | (refine tst_in ?_ ?_; (focus (intro h_; exfalso; first | omega | ((try simp only [decide_eq_true_eq, decide_eq_false_iff_not] at h_); omega) | (simp [mulSz, Cont.len, bne, u32max] at h_; done) | (simp [mulSz, Cont.len, bne, u32max] at h_; omega))); intro _; conv => whnf)
    | (refine tst_in ?_ ?_; rotate_left; (focus (intro h_; exfalso; first | omega | ((try simp only [decide_eq_true_eq, decide_eq_false_iff_not] at h_); omega) | (simp [mulSz, Cont.len, bne, u32max] at h_; done) | (simp [mulSz, Cont.len, bne, u32max] at h_; omega))); intro _; conv => whnf))
  rw [show ((((s >>> (w - 1) &&& 1 : Nat) : Int)).toNat ^^^ ((((par (sh1 w s &&& t)).toNat : Nat) : Int)).toNat : Nat) = (s >>> (w - 1) &&& 1) ^^^ (par (sh1 w s &&& t)).toNat by rw [Int.toNat_natCast, Int.toNat_natCast]]
  have hx1 : (s >>> (w - 1) &&& 1) ^^^ (par (sh1 w s &&& t)).toNat < 4294967296 := Nat.xor_lt_two_pow (n := 32) (by omega) (by omega)
  conv => whnf
  repeat (first
    | (refine And.intro ?_ ?_; (focus (first | omega | decide | exact Int.natCast_nonneg _ | ((repeat' refine And.intro ?_ ?_) <;> first | omega | exact Int.natCast_nonneg _ | (simp only [i64max]; omega) | (simp only [u8max]; omega) | (simp only [i64max, u8max, u16max, u32max, u64max]; omega) | (simp [mulSz, Cont.len, bne, u32max]; done) | (simp [mulSz, Cont.len, bne, u32max]; omega)))); conv => whnf)
    | (refine tst_in ?_ ?_; (focus (intro h_; exfalso; first | omega | ((try simp only [decide_eq_true_eq, decide_eq_false_iff_not] at h_); omega) | (simp [mulSz, Cont.len, bne, u32max] at h_; done) | (simp [mulSz, Cont.len, bne, u32max] at h_; omega))); intro _; conv => whnf)
    | (refine tst_in ?_ ?_; rotate_left; (focus (intro h_; exfalso; first | omega | ((try simp only [decide_eq_true_eq, decide_eq_false_iff_not] at h_); omega) | (simp [mulSz, Cont.len, bne, u32max] at h_; done) | (simp [mulSz, Cont.len, bne, u32max] at h_; omega))); intro _; conv => whnf))
  rw [show ((((sh1 w s : Nat) : Int)).toNat ||| ((((s >>> (w - 1) &&& 1) ^^^ (par (sh1 w s &&& t)).toNat : Nat) : Int)).toNat : Nat) = bef w t s by rw [Int.toNat_natCast, Int.toNat_natCast]; rfl]
  conv => whnf
  repeat (first
    | (refine And.intro ?_ ?_; (focus (first | omega | decide | exact Int.natCast_nonneg _ | ((repeat' refine And.intro ?_ ?_) <;> first | omega | exact Int.natCast_nonneg _ | (simp only [i64max]; omega) | (simp only [u8max]; omega) | (simp only [i64max, u8max, u16max, u32max, u64max]; omega) | (simp [mulSz, Cont.len, bne]; done) | (simp [mulSz, Cont.len, bne]; omega)))); conv => whnf)
    | (refine tst_in ?_ ?_; (focus (intro h_; exfalso; first | omega | ((try simp only [decide_eq_true_eq, decide_eq_false_iff_not] at h_); omega) | (simp [mulSz, Cont.len, bne] at h_; done) | (simp [mulSz, Cont.len, bne] at h_; omega))); intro _; conv => whnf)
    | (refine tst_in ?_ ?_; rotate_left; (focus (intro h_; exfalso; first | omega | ((try simp only [decide_eq_true_eq, decide_eq_false_iff_not] at h_); omega) | (simp [mulSz, Cont.len, bne] at h_; done) | (simp [mulSz, Cont.len, bne] at h_; omega))); intro _; conv => whnf))
  refine .inl ⟨(), [], ?_⟩
  conv => whnf
  repeat' (first | exact True.intro | rfl | refine And.intro ?_ ?_)
  all_goals (conv => whnf)
  repeat' (first | exact True.intro | rfl | refine And.intro ?_ ?_)
  all_goals (try (first | omega | exact True.intro | rfl | assumption | (change LE.le (α := Nat) _ _; first | omega | (simp only []; omega)) | (simp only []; done) | (simp only []; omega) | (simp; done) | (simp; omega)))
end Go.Proofs.Ytdahkhhngaanfaa

set_option linter.unusedVariables false
set_option linter.unusedSimpArgs false
namespace Go.Proofs.Ytdahkhhngaanfaa
open Go Go.Fw
theorem bef_lt {w t s : Nat} (h1 : 1 ≤ w) (hw : w ≤ 32) : bef w t s < 4294967296 := by
  have hmk := mk_lt w hw
  have hsh : sh1 w s < 4294967296 := Nat.and_lt_two_pow (2 * s % 4294967296) (n := 32) hmk
  have h01 : s >>> (w - 1) &&& 1 ≤ 1 := Nat.and_le_right
  have hp1 : (par (sh1 w s &&& t)).toNat ≤ 1 := by cases par (sh1 w s &&& t) <;> simp
  have hx1 : (s >>> (w - 1) &&& 1) ^^^ (par (sh1 w s &&& t)).toNat < 4294967296 := Nat.xor_lt_two_pow (n := 32) (by omega) (by omega)
  exact Nat.or_lt_two_pow (n := 32) hsh hx1
noncomputable def c20 : Code := (Try.f20.body).getD .skip
set_option maxHeartbeats 0 in
set_option maxRecDepth 100000 in
theorem Back_f (w t s : Nat) (h1 : 1 ≤ w) (hw : w ≤ 32) (ht : t < 4294967296) (hs : s < 4294967296) : Fits Try.prog 20 ⟨[.ptr 0 0], [reg w t s], [⟨Unit, fun _ => True, fun _ => .tup [.bool ((bef w t s).testBit 0), .int .i64 0], fun _ => [reg w t (bef w t s)]⟩]⟩ := by
  have BF := before_g w t s s h1 hw ht hs
  have hb := bef_lt (t := t) (s := s) h1 hw
  refine fits_of_body (C := cfg11 1 3) (c := c20) (ts := [2, 3]) tok mixed (fun _ => none) (fun _ => none)
    Try.func20 (by kernel_rfl) (by kernel_rfl) (by kernel_rfl) (by kernel_rfl) rfl ?_
  conv => whnf
  repeat (first
    | (refine And.intro ?_ ?_; (focus (first | omega | decide | exact Int.natCast_nonneg _ | ((repeat' refine And.intro ?_ ?_) <;> first | omega | exact Int.natCast_nonneg _ | (simp only [i64max]; omega) | (simp only [u8max]; omega) | (simp only [i64max, u8max, u16max, u32max, u64max]; omega) | (simp [mulSz, Cont.len, bne]; done) | (simp [mulSz, Cont.len, bne]; omega)))); conv => whnf)
    | (refine tst_in ?_ ?_; (focus (intro h_; exfalso; first | omega | ((try simp only [decide_eq_true_eq, decide_eq_false_iff_not] at h_); omega) | (simp [mulSz, Cont.len, bne] at h_; done) | (simp [mulSz, Cont.len, bne] at h_; omega))); intro _; conv => whnf)
    | (refine tst_in ?_ ?_; rotate_left; (focus (intro h_; exfalso; first | omega | ((try simp only [decide_eq_true_eq, decide_eq_false_iff_not] at h_); omega) | (simp [mulSz, Cont.len, bne] at h_; done) | (simp [mulSz, Cont.len, bne] at h_; omega))); intro _; conv => whnf))
  refine ⟨_, [], BF, ?_⟩
  conv => whnf
  refine ⟨?_, ?_, ?_⟩
  · conv => whnf
    repeat' (first | exact True.intro | rfl | refine And.intro ?_ ?_ | omega)
    all_goals (conv => whnf)
    all_goals (try (first | rfl | omega | (simp; done)))
  · conv => whnf
    repeat' (first | exact True.intro | rfl | refine And.intro ?_ ?_ | omega)
    all_goals (conv => whnf)
    all_goals (try (first | rfl | omega | (simp; done)))
  conv => whnf
  refine ⟨?_, True.intro⟩
  intro _ _
  conv => whnf
  conv => whnf
  repeat (first
    | (refine And.intro ?_ ?_; (focus (first | omega | decide | exact Int.natCast_nonneg _ | ((repeat' refine And.intro ?_ ?_) <;> first | omega | exact Int.natCast_nonneg _ | (simp only [i64max]; omega) | (simp only [u8max]; omega) | (simp only [i64max, u8max, u16max, u32max, u64max]; omega) | (simp [mulSz, Cont.len, bne, u32max]; done) | (simp [mulSz, Cont.len, bne, u32max]; omega)))); conv => whnf)
    | (refine tst_in ?_ ?_; (focus (intro h_; exfalso; first | omega | ((try simp only [decide_eq_true_eq, decide_eq_false_iff_not] at h_); omega) | (simp [mulSz, Cont.len, bne, u32max] at h_; done) | (simp [mulSz, Cont.len, bne, u32max] at h_; omega))); intro _; conv => whnf)
    | (refine tst_in ?_ ?_; rotate_left; (focus (intro h_; exfalso; first | omega | ((try simp only [decide_eq_true_eq, decide_eq_false_iff_not] at h_); omega) | (simp [mulSz, Cont.len, bne, u32max] at h_; done) | (simp [mulSz, Cont.len, bne, u32max] at h_; omega))); intro _; conv => whnf))
  rw [bit0_eq]
  conv => whnf
  repeat (first
    | (refine And.intro ?_ ?_; (focus (first | omega | decide | exact Int.natCast_nonneg _ | ((repeat' refine And.intro ?_ ?_) <;> first | omega | exact Int.natCast_nonneg _ | (simp only [i64max]; omega) | (simp only [u8max]; omega) | (simp only [i64max, u8max, u16max, u32max, u64max]; omega) | (simp [mulSz, Cont.len, bne]; done) | (simp [mulSz, Cont.len, bne]; omega)))); conv => whnf)
    | (refine tst_in ?_ ?_; (focus (intro h_; exfalso; first | omega | ((try simp only [decide_eq_true_eq, decide_eq_false_iff_not] at h_); omega) | (simp [mulSz, Cont.len, bne] at h_; done) | (simp [mulSz, Cont.len, bne] at h_; omega))); intro _; conv => whnf)
    | (refine tst_in ?_ ?_; rotate_left; (focus (intro h_; exfalso; first | omega | ((try simp only [decide_eq_true_eq, decide_eq_false_iff_not] at h_); omega) | (simp [mulSz, Cont.len, bne] at h_; done) | (simp [mulSz, Cont.len, bne] at h_; omega))); intro _; conv => whnf))
  refine .inl ⟨(), [0], ?_⟩
  conv => whnf
  repeat' (first | exact True.intro | rfl | refine And.intro ?_ ?_)
  all_goals (conv => whnf)
  repeat' (first | exact True.intro | rfl | refine And.intro ?_ ?_)
  all_goals (try (first | omega | exact True.intro | rfl | assumption | (change LE.le (α := Nat) _ _; first | omega | (simp only []; omega)) | (simp only []; done) | (simp only []; omega) | (simp; done) | (simp; omega)))
end Go.Proofs.Ytdahkhhngaanfaa

set_option linter.unusedVariables false
set_option linter.unusedSimpArgs false
namespace Go.Proofs.Ytdahkhhngaanfaa
open Go Go.Fw
theorem pow_le2 {w : Nat} (h1 : 1 ≤ w) : 2 ^ w = 2 * 2 ^ (w - 1) := by rw [← Nat.pow_succ']; congr 1; omega
theorem sh1_eq {w s : Nat} (hw : w ≤ 32) : sh1 w s = 2 * s % 2 ^ w := by
  unfold sh1
  rw [and_mk, Nat.mod_mod_of_dvd _ (show 2 ^ w ∣ 4294967296 from Nat.pow_dvd_pow 2 hw)]
theorem or_even {a b : Nat} (ha : a % 2 = 0) (hb : b ≤ 1) : a ||| b = a ^^^ b := by
  apply Nat.eq_of_testBit_eq
  intro i
  rw [Nat.testBit_or, Nat.testBit_xor]
  cases i with
  | zero => rw [Nat.testBit_zero, Nat.testBit_zero, ha]; simp
  | succ i =>
    have : b.testBit (i + 1) = false := by
      rw [Nat.testBit_succ, show b / 2 = 0 by omega, Nat.zero_testBit]
    rw [this]; simp
theorem bef_form {w t s : Nat} (h1 : 1 ≤ w) (hw : w ≤ 32) : bef w t s = (2 * s % 2 ^ w) ^^^ ((s / 2 ^ (w - 1) % 2) ^^^ (par ((2 * s % 2 ^ w) &&& t)).toNat) := by
  unfold bef
  rw [sh1_eq hw, Nat.and_one_is_mod, Nat.shiftRight_eq_div_pow]
  have e : 2 * s % 2 ^ w % 2 = 0 := by
    rw [Nat.mod_mod_of_dvd _ (show 2 ∣ 2 ^ w from ⟨2 ^ (w - 1), pow_le2 h1⟩)]; omega
  apply or_even e
  have a : s / 2 ^ (w - 1) % 2 ≤ 1 := by omega
  have b : (par ((2 * s % 2 ^ w) &&& t)).toNat ≤ 1 := by cases par ((2 * s % 2 ^ w) &&& t) <;> simp
  have := Nat.xor_lt_two_pow (n := 1) (show s / 2 ^ (w - 1) % 2 < 2 ^ 1 by omega) (show (par ((2 * s % 2 ^ w) &&& t)).toNat < 2 ^ 1 by omega)
  omega
theorem xor_dbl (a b n : Nat) : (2 * (a ^^^ b)) % 2 ^ n = (2 * a) % 2 ^ n ^^^ (2 * b) % 2 ^ n := by
  have e : ∀ x : Nat, 2 * x = x <<< 1 := fun x => by rw [Nat.shiftLeft_eq]; omega
  rw [e, e, e]
  apply Nat.eq_of_testBit_eq
  intro i
  rw [Nat.testBit_xor, Nat.testBit_mod_two_pow, Nat.testBit_mod_two_pow, Nat.testBit_mod_two_pow, Nat.testBit_shiftLeft, Nat.testBit_shiftLeft, Nat.testBit_shiftLeft, Nat.testBit_xor]
  cases decide (i < n) <;> cases decide (1 ≤ i) <;> simp
theorem xor_bit (a b k : Nat) : (a ^^^ b) / 2 ^ k % 2 = (a / 2 ^ k % 2) ^^^ (b / 2 ^ k % 2) := by
  have e : ∀ x : Nat, x / 2 ^ k % 2 = (x.testBit k).toNat := fun x => by
    rw [Nat.testBit_eq_decide_div_mod_eq]
    rcases Nat.mod_two_eq_zero_or_one (x / 2 ^ k) with h | h <;> rw [h] <;> rfl
  rw [e, e, e, Nat.testBit_xor]
  cases a.testBit k <;> cases b.testBit k <;> rfl
theorem par_xor (a b : Nat) : (par (a ^^^ b)).toNat = (par a).toNat ^^^ (par b).toNat := by
  unfold par
  rw [pb_xor]
  cases pb a 32 <;> cases pb b 32 <;> rfl
theorem bef_xor {w t a b : Nat} (h1 : 1 ≤ w) (hw : w ≤ 32) : bef w t (a ^^^ b) = bef w t a ^^^ bef w t b := by
  rw [bef_form h1 hw, bef_form h1 hw, bef_form h1 hw, xor_dbl, xor_bit, Nat.and_xor_distrib_right, par_xor]
  ac_rfl
theorem bef_lt2 {w t s : Nat} (h1 : 1 ≤ w) (hw : w ≤ 32) : bef w t s < 2 ^ w := by
  rw [bef_form h1 hw]
  have hp := Nat.two_pow_pos (w - 1)
  have e := pow_le2 h1
  have a : s / 2 ^ (w - 1) % 2 ≤ 1 := by omega
  have b : (par ((2 * s % 2 ^ w) &&& t)).toNat ≤ 1 := by cases par ((2 * s % 2 ^ w) &&& t) <;> simp
  have c := Nat.xor_lt_two_pow (n := 1) (show s / 2 ^ (w - 1) % 2 < 2 ^ 1 by omega) (show (par ((2 * s % 2 ^ w) &&& t)).toNat < 2 ^ 1 by omega)
  exact Nat.xor_lt_two_pow (Nat.mod_lt _ (by omega)) (by omega)
theorem par_bit {t b : Nat} (ht : t % 2 = 1) (hb : b ≤ 1) : (par (b &&& t)).toNat = b := by
  rcases (show b = 0 ∨ b = 1 by omega) with h | h
  · subst h; rw [Nat.zero_and]; decide
  · subst h; rw [Nat.and_comm, Nat.and_one_is_mod, ht]; decide
theorem xor_ev {a b : Nat} (ha : a % 2 = 0) (hb : b ≤ 1) : a ^^^ b = a + b := by
  rcases (show b = 0 ∨ b = 1 by omega) with h | h
  · subst h; simp
  · subst h
    rw [show a = 2 * (a / 2) by omega]
    generalize a / 2 = c
    apply Nat.eq_of_testBit_eq
    intro i
    rw [Nat.testBit_xor]
    cases i with
    | zero => simp [Nat.testBit_zero]
    | succ i => rw [Nat.testBit_succ, Nat.testBit_succ, Nat.testBit_succ, show (2 * c + 1) / 2 = c by omega, show 2 * c / 2 = c by omega]; simp
theorem aft_num {w t s : Nat} (h1 : 1 ≤ w) (hw : w ≤ 32) (hs : s < 2 ^ w) : aft w t s = s / 2 + 2 ^ (w - 1) * (par (s &&& t)).toNat := by
  have e := pow_le2 h1
  have hp := pow32 hw
  have h2 := Nat.two_pow_pos (w - 1)
  have b : (par (s &&& t)).toNat ≤ 1 := by cases par (s &&& t) <;> simp
  have hm : (par (s &&& t)).toNat * 2 ^ (w - 1) ≤ 2 ^ (w - 1) := by
    have := Nat.mul_le_mul_right (2 ^ (w - 1)) b
    omega
  unfold aft
  rw [Nat.mod_eq_of_lt (by omega), Nat.mul_comm, Nat.or_comm, ← Nat.two_pow_add_eq_or_of_lt (by omega), Nat.add_comm]
theorem bef_num {w t s : Nat} (h1 : 1 ≤ w) (hw : w ≤ 32) : bef w t s = 2 * s % 2 ^ w + ((s / 2 ^ (w - 1) % 2) ^^^ (par ((2 * s % 2 ^ w) &&& t)).toNat) := by
  rw [bef_form h1 hw]
  have a : s / 2 ^ (w - 1) % 2 ≤ 1 := by omega
  have b : (par ((2 * s % 2 ^ w) &&& t)).toNat ≤ 1 := by cases par ((2 * s % 2 ^ w) &&& t) <;> simp
  have c := Nat.xor_lt_two_pow (n := 1) (show s / 2 ^ (w - 1) % 2 < 2 ^ 1 by omega) (show (par ((2 * s % 2 ^ w) &&& t)).toNat < 2 ^ 1 by omega)
  apply xor_ev ?_ (by omega)
  rw [Nat.mod_mod_of_dvd _ (show 2 ∣ 2 ^ w from ⟨2 ^ (w - 1), pow_le2 h1⟩)]; omega
theorem bef_aft {w t s : Nat} (h1 : 1 ≤ w) (hw : w ≤ 32) (ht : t % 2 = 1) (hs : s < 2 ^ w) : bef w t (aft w t s) = s := by
  rw [bef_num h1 hw, aft_num h1 hw hs]
  have e := pow_le2 h1
  have h2 := Nat.two_pow_pos (w - 1)
  have b : (par (s &&& t)).toNat ≤ 1 := by cases par (s &&& t) <;> simp
  have hsp : s = 2 * (s / 2) ^^^ (s % 2) := by rw [xor_ev (by omega) (by omega)]; omega
  have hpar : (par (s &&& t)).toNat = (par (2 * (s / 2) &&& t)).toNat ^^^ (s % 2) := by
    conv => lhs; rw [hsp, Nat.and_xor_distrib_right, par_xor, par_bit ht (show s % 2 ≤ 1 by omega)]
  have e1 : 2 * (s / 2 + 2 ^ (w - 1) * (par (s &&& t)).toNat) % 2 ^ w = 2 * (s / 2) := by
    rw [Nat.mul_add, ← Nat.mul_assoc, ← e, Nat.add_mul_mod_self_left]
    exact Nat.mod_eq_of_lt (by omega)
  have e2 : (s / 2 + 2 ^ (w - 1) * (par (s &&& t)).toNat) / 2 ^ (w - 1) % 2 = (par (s &&& t)).toNat := by
    rw [Nat.add_mul_div_left _ _ h2, Nat.div_eq_of_lt (show s / 2 < 2 ^ (w - 1) by omega)]
    omega
  rw [e1, e2, hpar, Nat.xor_comm (par (2 * (s / 2) &&& t)).toNat, Nat.xor_assoc, Nat.xor_self, Nat.xor_zero]
  omega
theorem aft_bef {w t s : Nat} (h1 : 1 ≤ w) (hw : w ≤ 32) (ht : t % 2 = 1) (hs : s < 2 ^ w) : aft w t (bef w t s) = s := by
  have hb := bef_lt2 (t := t) (s := s) h1 hw
  rw [aft_num h1 hw hb]
  have e := pow_le2 h1
  have h2 := Nat.two_pow_pos (w - 1)
  have a : s / 2 ^ (w - 1) % 2 ≤ 1 := by omega
  have b : (par ((2 * s % 2 ^ w) &&& t)).toNat ≤ 1 := by cases par ((2 * s % 2 ^ w) &&& t) <;> simp
  have c := Nat.xor_lt_two_pow (n := 1) (show s / 2 ^ (w - 1) % 2 < 2 ^ 1 by omega) (show (par ((2 * s % 2 ^ w) &&& t)).toNat < 2 ^ 1 by omega)
  have hpar : (par (bef w t s &&& t)).toNat = s / 2 ^ (w - 1) % 2 := by
    rw [bef_form h1 hw, Nat.and_xor_distrib_right, par_xor, par_bit (b := (s / 2 ^ (w - 1) % 2) ^^^ (par ((2 * s % 2 ^ w) &&& t)).toNat) ht (by omega), Nat.xor_comm (s / 2 ^ (w - 1) % 2), ← Nat.xor_assoc, Nat.xor_self, Nat.zero_xor]
  have hev : 2 * s % 2 ^ w % 2 = 0 := by
    rw [Nat.mod_mod_of_dvd _ (show 2 ∣ 2 ^ w from ⟨2 ^ (w - 1), pow_le2 h1⟩)]; omega
  rw [hpar, bef_num h1 hw]
  have e3 : 2 * s % 2 ^ w = 2 * (s % 2 ^ (w - 1)) := by rw [e, Nat.mul_mod_mul_left]
  have e4 : s / 2 ^ (w - 1) % 2 = s / 2 ^ (w - 1) := Nat.mod_eq_of_lt (by rw [Nat.div_lt_iff_lt_mul h2]; omega)
  have e5 := Nat.mod_add_div s (2 ^ (w - 1))
  have e6 : ∀ q, q ≤ 1 → (2 * s % 2 ^ w + q) / 2 = s % 2 ^ (w - 1) := fun q hq => by rw [e3]; omega
  rw [e6 _ (by omega), e4]
  exact e5
/-- A map that is linear over the states. -/
structure Lin (w : Nat) (f : Nat → Nat) : Prop where
  add : ∀ a b, a < 2 ^ w → b < 2 ^ w → f (a ^^^ b) = f a ^^^ f b
  lt : ∀ a, a < 2 ^ w → f a < 2 ^ w
def col (w : Nat) (f : Nat → Nat) : Nat → Nat := fun i => if i < w then f (2 ^ i) else 0
theorem lin_zero {w : Nat} {f : Nat → Nat} (h : Lin w f) : f 0 = 0 := by
  have := h.add 0 0 (Nat.two_pow_pos w) (Nat.two_pow_pos w)
  rw [Nat.xor_self] at this
  rw [this, Nat.xor_self]
theorem mod_split (s k : Nat) : s % 2 ^ (k + 1) = (s % 2 ^ k) ^^^ (if s.testBit k then 2 ^ k else 0) := by
  apply Nat.eq_of_testBit_eq
  intro i
  rw [Nat.testBit_xor, Nat.testBit_mod_two_pow, Nat.testBit_mod_two_pow]
  have e : (if s.testBit k then 2 ^ k else 0 : Nat).testBit i = (decide (k = i) && s.testBit k) := by
    cases s.testBit k <;> simp [Nat.testBit_two_pow]
  rw [e]
  by_cases h : i = k
  · subst h; simp
  · rw [show decide (k = i) = false from decide_eq_false (fun e => h e.symm), show decide (i < k + 1) = decide (i < k) from decide_eq_decide.2 ⟨fun _ => by omega, fun _ => by omega⟩]; simp
theorem ofx_lin {w : Nat} {f : Nat → Nat} (h : Lin w f) (s : Nat) : ∀ k, k ≤ w → ofx (col w f) s k = f (s % 2 ^ k)
  | 0, _ => by simp [ofx, Nat.mod_one, (lin_zero h)]
  | k + 1, hk => by
    have hp : 2 ^ k < 2 ^ w := Nat.pow_lt_pow_right (by decide) (by omega)
    have h2 := Nat.two_pow_pos k
    rw [ofx, ofx_lin h s k (by omega), mod_split, h.add _ _ (Nat.lt_trans (Nat.mod_lt _ h2) hp) (by split <;> first | exact hp | exact Nat.two_pow_pos w)]
    congr 1
    unfold col
    split
    · rw [if_pos (by omega)]
    · exact (lin_zero h).symm
theorem ofx_top {w : Nat} {f : Nat → Nat} (h : Lin w f) (s : Nat) (hs : s < 2 ^ w) : ∀ k, w ≤ k → ofx (col w f) s k = f s
  | 0, hk => by
    have : w = 0 := by omega
    subst this
    have : s = 0 := by have : s < 1 := hs; omega
    subst this
    rw [ofx, (lin_zero h)]
  | k + 1, hk => by
    rcases Nat.lt_or_ge k w with h1 | h1
    · have : w = k + 1 := by omega
      subst this
      rw [ofx_lin h s _ (Nat.le_refl _), Nat.mod_eq_of_lt hs]
    · have e : col w f k = 0 := if_neg (by omega)
      rw [ofx, ofx_top h s hs k h1, e]
      simp
theorem lin_comp {w : Nat} {f g : Nat → Nat} (hf : Lin w f) (hg : Lin w g) : Lin w (fun s => f (g s)) where
  add a b ha hb := by rw [hg.add a b ha hb, hf.add _ _ (hg.lt a ha) (hg.lt b hb)]
  lt a ha := hf.lt _ (hg.lt a ha)
theorem tw_col {w : Nat} {f : Nat → Nat} (hw : w ≤ 32) (h : Lin w f) : tw (col w f) 32 = col w (fun s => f (f s)) := by
  funext i
  unfold tw
  by_cases h1 : i < w
  · have hp : 2 ^ i < 2 ^ w := Nat.pow_lt_pow_right (by decide) h1
    have e : col w f i = f (2 ^ i) := by unfold col; rw [if_pos h1]
    rw [if_pos (by omega), e, ofx_top h _ (h.lt _ hp) 32 hw]
    unfold col; rw [if_pos h1]
  · have e : col w f i = 0 := by unfold col; rw [if_neg h1]
    have e2 : col w (fun s => f (f s)) i = 0 := by unfold col; rw [if_neg h1]
    rw [e, e2, ofx_top h 0 (Nat.two_pow_pos w) 32 hw, (lin_zero h)]
    split <;> rfl
/-- A map as often as a number says. -/
def pw (f : Nat → Nat) : Nat → Nat → Nat
  | 0, s => s
  | n + 1, s => f (pw f n s)
theorem pw_add (f : Nat → Nat) (s j : Nat) : ∀ k, pw f (j + k) s = pw f k (pw f j s)
  | 0 => rfl
  | k + 1 => by show f (pw f (j + k) s) = f (pw f k (pw f j s)); rw [pw_add f s j k]
theorem lin_pw {w : Nat} {f : Nat → Nat} (h : Lin w f) : ∀ n, Lin w (pw f n)
  | 0 => ⟨fun _ _ _ _ => rfl, fun _ h => h⟩
  | n + 1 => show Lin w (fun s => f (pw f n s)) from lin_comp h (lin_pw h n)
theorem it_pw (w t s : Nat) : ∀ k, it w t s k = pw (aft w t) k s
  | 0 => rfl
  | k + 1 => by show aft w t (it w t s k) = aft w t (pw (aft w t) k s); rw [it_pw]
theorem pw_sq (f : Nat → Nat) (n : Nat) : (fun s => pw f n (pw f n s)) = pw f (2 * n) := by
  funext s; rw [← pw_add]; congr 1; omega
/-- What a jump leads to. -/
def jm (w t : Nat) (n : Int) (s : Nat) : Nat := if 0 ≤ n then pw (aft w t) n.toNat s else pw (bef w t) (-n).toNat s
theorem pw_lt {w : Nat} {f : Nat → Nat} (h : Lin w f) {s : Nat} (hs : s < 2 ^ w) (n : Nat) : pw f n s < 2 ^ w := (lin_pw h n).lt s hs
theorem lin_aft {w t : Nat} (h1 : 1 ≤ w) (hw : w ≤ 32) : Lin w (aft w t) := ⟨fun _ _ ha hb => aft_xor h1 hw ha hb, fun _ ha => aft_lt h1 hw ha⟩
theorem lin_bef {w t : Nat} (h1 : 1 ≤ w) (hw : w ≤ 32) : Lin w (bef w t) := ⟨fun _ _ _ _ => bef_xor h1 hw, fun _ _ => bef_lt2 h1 hw⟩
theorem jm_lt {w t s : Nat} (h1 : 1 ≤ w) (hw : w ≤ 32) (hs : s < 2 ^ w) (n : Int) : jm w t n s < 2 ^ w := by
  unfold jm; split
  · exact pw_lt (lin_aft h1 hw) hs _
  · exact pw_lt (lin_bef h1 hw) hs _
theorem jm_one {w t s : Nat} (h1 : 1 ≤ w) (hw : w ≤ 32) (ht : t % 2 = 1) (hs : s < 2 ^ w) (n : Int) : jm w t (n + 1) s = aft w t (jm w t n s) := by
  unfold jm
  by_cases h : 0 ≤ n
  · rw [if_pos h, if_pos (by omega), show (n + 1).toNat = n.toNat + 1 by omega]; rfl
  · rw [if_neg h]
    have hb := pw_lt (lin_bef (t := t) h1 hw) hs
    by_cases h2 : n = -1
    · subst h2
      rw [if_pos (by decide), show (-(-1 : Int)).toNat = 0 + 1 by decide, show (-1 + 1 : Int).toNat = 0 by decide]
      show s = aft w t (bef w t s)
      rw [aft_bef h1 hw ht hs]
    · rw [if_neg (by omega), show (-n).toNat = (-(n + 1)).toNat + 1 by omega]
      show _ = aft w t (bef w t (pw (bef w t) (-(n + 1)).toNat s))
      rw [aft_bef h1 hw ht (hb _)]
theorem jm_back {w t s : Nat} (h1 : 1 ≤ w) (hw : w ≤ 32) (ht : t % 2 = 1) (hs : s < 2 ^ w) (n : Int) : jm w t (n - 1) s = bef w t (jm w t n s) := by
  have := jm_one h1 hw ht hs (n - 1)
  rw [show n - 1 + 1 = n by omega] at this
  rw [this, bef_aft h1 hw ht (jm_lt h1 hw hs _)]
theorem jm_addN {w t s : Nat} (h1 : 1 ≤ w) (hw : w ≤ 32) (ht : t % 2 = 1) (hs : s < 2 ^ w) (a : Int) : ∀ b : Nat, jm w t (a + b) s = jm w t b (jm w t a s)
  | 0 => by rw [show a + ((0 : Nat) : Int) = a by omega]; rfl
  | b + 1 => by
    rw [show a + ((b + 1 : Nat) : Int) = (a + b) + 1 by omega, jm_one h1 hw ht hs, jm_addN h1 hw ht hs a b, show ((b + 1 : Nat) : Int) = (b : Int) + 1 by omega, jm_one h1 hw ht (jm_lt h1 hw hs a)]
theorem jm_subN {w t s : Nat} (h1 : 1 ≤ w) (hw : w ≤ 32) (ht : t % 2 = 1) (hs : s < 2 ^ w) (a : Int) : ∀ b : Nat, jm w t (a - b) s = jm w t (-(b : Int)) (jm w t a s)
  | 0 => by rw [show a - ((0 : Nat) : Int) = a by omega]; rfl
  | b + 1 => by
    rw [show a - ((b + 1 : Nat) : Int) = (a - b) - 1 by omega, jm_back h1 hw ht hs, jm_subN h1 hw ht hs a b, show -((b + 1 : Nat) : Int) = -(b : Int) - 1 by omega, jm_back h1 hw ht (jm_lt h1 hw hs a)]
theorem jm_add {w t s : Nat} (h1 : 1 ≤ w) (hw : w ≤ 32) (ht : t % 2 = 1) (hs : s < 2 ^ w) (a b : Int) : jm w t b (jm w t a s) = jm w t (a + b) s := by
  by_cases h : 0 ≤ b
  · have := jm_addN h1 hw ht hs a b.toNat
    rw [show ((b.toNat : Nat) : Int) = b by omega] at this
    exact this.symm
  · have := jm_subN h1 hw ht hs a (-b).toNat
    rw [show a - (((-b).toNat : Nat) : Int) = a + b by omega, show -(((-b).toNat : Nat) : Int) = b by omega] at this
    exact this.symm
theorem jm_nat (w t s n : Nat) : jm w t (n : Int) s = it w t s n := by
  unfold jm; rw [if_pos (by omega), it_pw]; rfl
theorem jm_zero (w t s : Nat) : jm w t 0 s = s := rfl
end Go.Proofs.Ytdahkhhngaanfaa

set_option linter.unusedVariables false
set_option linter.unusedSimpArgs false
namespace Go.Proofs.Ytdahkhhngaanfaa
open Go Go.Fw
def colk (f : Nat → Nat) (k : Nat) : Nat → Nat := fun i => if i < k then f (2 ^ i) else 0
theorem colk_up (f : Nat → Nat) (k : Nat) : up (colk f k) k (f (2 ^ k)) = colk f (k + 1) := by
  funext i
  unfold up colk
  by_cases h : i = k
  · subst h; rw [if_pos rfl, if_pos (by omega)]
  · rw [if_neg h]
    by_cases h2 : i < k
    · rw [if_pos h2, if_pos (by omega)]
    · rw [if_neg h2, if_neg (by omega)]
theorem col_lt {w : Nat} {f : Nat → Nat} (h : Lin w f) (hw : w ≤ 32) (i : Nat) : col w f i < 4294967296 := by
  unfold col
  split
  · have := h.lt (2 ^ i) (Nat.pow_lt_pow_right (by decide) (by omega))
    have := pow32 hw
    omega
  · decide
theorem colk_len (f : Nat → Nat) (k : Nat) : (il (colk f k)).length = 32 := rfl
noncomputable def c19 : Code := (Try.f19.body).getD .skip
def pl19 : PlanL := .lin [0, 1, 2, 3, 4, 5, 6, 7, 8, 9] .done
def cfg19 : Cfg := { T := tys, sgn := fun _ => false, wr := fun _ => false, k := 1, q := qf, plan := fun i => match Nat.beq i 15 with | true => some pl19 | false => none }
def st8 (g w t s n k C : Nat) (f : Nat → Nat) : St := ⟨anyTo 57 [.ptr 0 0, .any, .any, .any, .any, .fnb g [.agg [.int .u64 w, .int .u32 t, .int .u32 s]], .int .u64 C, .ptr 1 0, .any, .any, .any, .any, .any, .any, .any, .any, .any, .any, .any, .any, .any, .any, .any, .any, .any, .any, .any, .any, .int .u64 w, .int .u64 k], [reg w t s, .seg true (.ints .u32 (il (colk f k)))]⟩
def inv8 (g w t s n C : Nat) (f : Nat → Nat) : LInv := ⟨Nat, fun k => st8 g w t s n k C f, fun k => k ≤ w, fun k => w - k⟩
def st12 (w t s C r : Nat) (f : Nat → Nat) : St := ⟨anyTo 57 [.ptr 0 0, .any, .any, .any, .any, .any, .int .u64 (C / 2 ^ r : Nat), .ptr 1 0], [reg w t (pw f (C % 2 ^ r) s), .seg true (.ints .u32 (il (col w (pw f (2 ^ r)))))]⟩
def inv12 (w t s C : Nat) (f : Nat → Nat) : LInv := ⟨Nat, fun r => st12 w t s C r f, fun r => True, fun r => C / 2 ^ r⟩
set_option maxHeartbeats 0 in
set_option maxRecDepth 100000 in
theorem Jump_p (w t s : Nat) (n : Int) (C : Nat) (hC : IntKind.u64.wrap n = (C : Int)) (hC2 : C < 18446744073709551616) (h1 : 1 ≤ w) (hw : w ≤ 32) (ht : t < 4294967296) (hs : s < 2 ^ w) (hn : 0 ≤ n ∧ n ≤ 9223372036854775807) :
    Fits Try.prog 19 ⟨[.ptr 0 0, .int .i64 n], [reg w t s], [⟨Unit, fun _ => True, fun _ => .int .i64 0, fun _ => [reg w t (pw (aft w t) C s)]⟩]⟩ := by
  have hp32 := pow32 hw
  have hL : Lin w (aft w t) := lin_aft h1 hw
  have G := fun k (hk : k < w) => after_g w t s (2 ^ k) h1 hw ht (by have := Nat.pow_lt_pow_right (show 1 < 2 by decide) hk; omega)
  have OF := fun r s' (hs' : s' < 4294967296) => of_f (col w (pw (aft w t) (2 ^ r))) s' (fun i => col_lt (lin_pw hL _) hw i) hs'
  have TW := fun r => twice_f (col w (pw (aft w t) (2 ^ r))) (fun i => col_lt (lin_pw hL _) hw i)
  have hwrap : ∀ k, k < w → IntKind.u32.wrap (1 * 2 ^ (min ((k : Nat) : Int).toNat (IntKind.bits .u32))) = ((2 ^ k : Nat) : Int) := fun k hk => by
    have := Nat.pow_lt_pow_right (show 1 < 2 by decide) hk
    have h9 : 2 ^ k < 4294967296 := by omega
    rw [u32wrap, Int.toNat_natCast, Nat.min_eq_left (show k ≤ IntKind.bits .u32 by show k ≤ 32; omega)]
    have e : (1 * 2 ^ k : Int) = ((2 ^ k : Nat) : Int) := by rw [Int.one_mul]; exact (Int.natCast_pow 2 k).symm
    rw [e]; exact Int.emod_eq_of_lt (Int.natCast_nonneg _) (Int.ofNat_lt.2 h9)
  refine fits_of_body (C := cfg19) (c := c19) (ts := [4]) tok mixed (fun | 8 => some (inv8 28 w t s 0 C (aft w t)) | 12 => some (inv12 w t s C (aft w t)) | _ => none) (fun _ => none)
    Try.func19 (by kernel_rfl) (by kernel_rfl) (by kernel_rfl) (by kernel_rfl) rfl ?_
  conv => whnf
  repeat (first
    | (refine And.intro ?_ ?_; (focus (first | omega | decide | exact Int.natCast_nonneg _ | ((repeat' refine And.intro ?_ ?_) <;> first | omega | exact Int.natCast_nonneg _ | (simp only [i64max]; omega) | (simp only [u8max]; omega) | (simp only [i64max, u8max, u16max, u32max, u64max]; omega) | (simp [mulSz, Cont.len, bne]; done) | (simp [mulSz, Cont.len, bne]; omega)))); conv => whnf)
    | (refine tst_in ?_ ?_; (focus (intro h_; exfalso; first | omega | ((try simp only [decide_eq_true_eq, decide_eq_false_iff_not] at h_); omega) | (simp [mulSz, Cont.len, bne] at h_; done) | (simp [mulSz, Cont.len, bne] at h_; omega))); intro _; conv => whnf)
    | (refine tst_in ?_ ?_; rotate_left; (focus (intro h_; exfalso; first | omega | ((try simp only [decide_eq_true_eq, decide_eq_false_iff_not] at h_); omega) | (simp [mulSz, Cont.len, bne] at h_; done) | (simp [mulSz, Cont.len, bne] at h_; omega))); intro _; conv => whnf))
  rw [hC]
  conv => whnf
  repeat (first
    | (refine And.intro ?_ ?_; (focus (first | omega | decide | exact Int.natCast_nonneg _ | ((repeat' refine And.intro ?_ ?_) <;> first | omega | exact Int.natCast_nonneg _ | (simp only [i64max]; omega) | (simp only [u8max]; omega) | (simp only [i64max, u8max, u16max, u32max, u64max]; omega) | (simp [mulSz, Cont.len, bne]; done) | (simp [mulSz, Cont.len, bne]; omega)))); conv => whnf)
    | (refine tst_in ?_ ?_; (focus (intro h_; exfalso; first | omega | ((try simp only [decide_eq_true_eq, decide_eq_false_iff_not] at h_); omega) | (simp [mulSz, Cont.len, bne] at h_; done) | (simp [mulSz, Cont.len, bne] at h_; omega))); intro _; conv => whnf)
    | (refine tst_in ?_ ?_; rotate_left; (focus (intro h_; exfalso; first | omega | ((try simp only [decide_eq_true_eq, decide_eq_false_iff_not] at h_); omega) | (simp [mulSz, Cont.len, bne] at h_; done) | (simp [mulSz, Cont.len, bne] at h_; omega))); intro _; conv => whnf))
  refine ⟨⟨[0, 1], (0 : Nat), ?_, Nat.zero_le _⟩, ?_⟩
  · skip
    conv => whnf
    repeat' (first | exact True.intro | rfl | refine And.intro ?_ ?_)
    all_goals (conv => whnf)
    repeat' (first | exact True.intro | rfl | refine And.intro ?_ ?_)
  · intro (k : Nat) (hk : k ≤ w)
    show forceSt (st8 28 w t s 0 k C (aft w t)) _
    conv => whnf
    refine tst_in (fun hlt => ?_) (fun hge => ?_)
    · skip
      have hlt : k < w := by simp at hlt; omega
      have GK := G k hlt
      have hil2 := colk_len (aft w t) k
      conv => whnf
      repeat (first
        | (refine And.intro ?_ ?_; (focus (first | omega | decide | exact Int.natCast_nonneg _ | ((repeat' refine And.intro ?_ ?_) <;> first | omega | exact Int.natCast_nonneg _ | (simp only [i64max]; omega) | (simp only [u8max]; omega) | (simp only [i64max, u8max, u16max, u32max, u64max]; omega) | (simp [mulSz, Cont.len, bne]; done) | (simp [mulSz, Cont.len, bne]; omega)))); conv => whnf)
        | (refine tst_in ?_ ?_; (focus (intro h_; exfalso; first | omega | ((try simp only [decide_eq_true_eq, decide_eq_false_iff_not] at h_); omega) | (simp [mulSz, Cont.len, bne] at h_; done) | (simp [mulSz, Cont.len, bne] at h_; omega))); intro _; conv => whnf)
        | (refine tst_in ?_ ?_; rotate_left; (focus (intro h_; exfalso; first | omega | ((try simp only [decide_eq_true_eq, decide_eq_false_iff_not] at h_); omega) | (simp [mulSz, Cont.len, bne] at h_; done) | (simp [mulSz, Cont.len, bne] at h_; omega))); intro _; conv => whnf))
      rw [hwrap k hlt]
      conv => whnf
      repeat (first
        | (refine And.intro ?_ ?_; (focus (first | omega | decide | exact Int.natCast_nonneg _ | ((repeat' refine And.intro ?_ ?_) <;> first | omega | exact Int.natCast_nonneg _ | (simp only [i64max]; omega) | (simp only [u8max]; omega) | (simp only [i64max, u8max, u16max, u32max, u64max]; omega) | (simp [mulSz, Cont.len, bne]; done) | (simp [mulSz, Cont.len, bne]; omega)))); conv => whnf)
        | (refine tst_in ?_ ?_; (focus (intro h_; exfalso; first | omega | ((try simp only [decide_eq_true_eq, decide_eq_false_iff_not] at h_); omega) | (simp [mulSz, Cont.len, bne] at h_; done) | (simp [mulSz, Cont.len, bne] at h_; omega))); intro _; conv => whnf)
        | (refine tst_in ?_ ?_; rotate_left; (focus (intro h_; exfalso; first | omega | ((try simp only [decide_eq_true_eq, decide_eq_false_iff_not] at h_); omega) | (simp [mulSz, Cont.len, bne] at h_; done) | (simp [mulSz, Cont.len, bne] at h_; omega))); intro _; conv => whnf))
      refine ⟨_, [], GK, ?_⟩
      conv => whnf
      refine ⟨?_, ?_, ?_⟩
      · conv => whnf
        repeat' (first | exact True.intro | rfl | refine And.intro ?_ ?_ | omega)
        all_goals (conv => whnf)
        all_goals (try (first | rfl | omega | (simp; done)))
      · conv => whnf
        repeat' (first | exact True.intro | rfl | refine And.intro ?_ ?_ | omega)
        all_goals (conv => whnf)
        all_goals (try (first | rfl | omega | (simp; done)))
      conv => whnf
      refine ⟨?_, True.intro⟩
      intro _ _
      conv => whnf
      conv => whnf
      repeat (first
        | (refine And.intro ?_ ?_; (focus (first | omega | decide | exact Int.natCast_nonneg _ | ((repeat' refine And.intro ?_ ?_) <;> first | omega | exact Int.natCast_nonneg _ | (simp only [i64max]; omega) | (simp only [u8max]; omega) | (simp only [i64max, u8max, u16max, u32max, u64max]; omega) | (simp [mulSz, Cont.len, bne, hil2]; done) | (simp [mulSz, Cont.len, bne, hil2]; omega)))); conv => whnf)
        | (refine tst_in ?_ ?_; (focus (intro h_; exfalso; first | omega | ((try simp only [decide_eq_true_eq, decide_eq_false_iff_not] at h_); omega) | (simp [mulSz, Cont.len, bne, hil2] at h_; done) | (simp [mulSz, Cont.len, bne, hil2] at h_; omega))); intro _; conv => whnf)
        | (refine tst_in ?_ ?_; rotate_left; (focus (intro h_; exfalso; first | omega | ((try simp only [decide_eq_true_eq, decide_eq_false_iff_not] at h_); omega) | (simp [mulSz, Cont.len, bne, hil2] at h_; done) | (simp [mulSz, Cont.len, bne, hil2] at h_; omega))); intro _; conv => whnf))
      rw [show 0 + ((k : Int)).toNat = k by omega, il_set (colk (aft w t) k) k _ (by omega), colk_up]
      conv => whnf
      repeat (first
        | (refine And.intro ?_ ?_; (focus (first | omega | decide | exact Int.natCast_nonneg _ | ((repeat' refine And.intro ?_ ?_) <;> first | omega | exact Int.natCast_nonneg _ | (simp only [i64max]; omega) | (simp only [u8max]; omega) | (simp only [i64max, u8max, u16max, u32max, u64max]; omega) | (simp [mulSz, Cont.len, bne]; done) | (simp [mulSz, Cont.len, bne]; omega)))); conv => whnf)
        | (refine tst_in ?_ ?_; (focus (intro h_; exfalso; first | omega | ((try simp only [decide_eq_true_eq, decide_eq_false_iff_not] at h_); omega) | (simp [mulSz, Cont.len, bne] at h_; done) | (simp [mulSz, Cont.len, bne] at h_; omega))); intro _; conv => whnf)
        | (refine tst_in ?_ ?_; rotate_left; (focus (intro h_; exfalso; first | omega | ((try simp only [decide_eq_true_eq, decide_eq_false_iff_not] at h_); omega) | (simp [mulSz, Cont.len, bne] at h_; done) | (simp [mulSz, Cont.len, bne] at h_; omega))); intro _; conv => whnf))
      refine ⟨[0, 1], k + 1, ?_, (by show k + 1 ≤ w; omega), (by show w - (k + 1) < w - k; omega)⟩
      conv => whnf
      repeat' (first | exact True.intro | rfl | refine And.intro ?_ ?_)
      all_goals (conv => whnf)
      repeat' (first | exact True.intro | rfl | refine And.intro ?_ ?_)
      all_goals (show ((k + 1 : Nat) : Int) = IntKind.u64.wrap ((k : Int) + 1); rw [u64wrap]; omega)
    · skip
      have hge : k = w := by simp at hge; omega
      subst hge
      conv => whnf
      repeat (first
        | (refine And.intro ?_ ?_; (focus (first | omega | decide | exact Int.natCast_nonneg _ | ((repeat' refine And.intro ?_ ?_) <;> first | omega | exact Int.natCast_nonneg _ | (simp only [i64max]; omega) | (simp only [u8max]; omega) | (simp only [i64max, u8max, u16max, u32max, u64max]; omega) | (simp [mulSz, Cont.len, bne]; done) | (simp [mulSz, Cont.len, bne]; omega)))); conv => whnf)
        | (refine tst_in ?_ ?_; (focus (intro h_; exfalso; first | omega | ((try simp only [decide_eq_true_eq, decide_eq_false_iff_not] at h_); omega) | (simp [mulSz, Cont.len, bne] at h_; done) | (simp [mulSz, Cont.len, bne] at h_; omega))); intro _; conv => whnf)
        | (refine tst_in ?_ ?_; rotate_left; (focus (intro h_; exfalso; first | omega | ((try simp only [decide_eq_true_eq, decide_eq_false_iff_not] at h_); omega) | (simp [mulSz, Cont.len, bne] at h_; done) | (simp [mulSz, Cont.len, bne] at h_; omega))); intro _; conv => whnf))
      refine ⟨⟨[0, 1], (0 : Nat), ?_, True.intro⟩, ?_⟩
      · skip
        conv => whnf
        repeat' (first | exact True.intro | rfl | refine And.intro ?_ ?_)
        all_goals (conv => whnf)
        repeat' (first | exact True.intro | rfl | refine And.intro ?_ ?_)
        all_goals (first | (show ((C / 2 ^ 0 : Nat) : Int) = C; rw [Nat.pow_zero, Nat.div_one]) | (show ((pw (aft k t) (C % 2 ^ 0) s : Nat) : Int) = s; rw [Nat.pow_zero, Nat.mod_one]; rfl))
      · intro (r : Nat) _
        have hil3 := il_len (col k (pw (aft k t) (2 ^ r)))
        have hsr := pw_lt hL hs (C % 2 ^ r)
        have OFr := OF r (pw (aft k t) (C % 2 ^ r) s) (by omega)
        have TWr := TW r
        rw [tw_col hw (lin_pw hL _), pw_sq] at TWr
        rw [ofx_top (lin_pw hL _) _ hsr 32 hw, ← pw_add] at OFr
        have hCr : C / 2 ^ r ≤ C := Nat.div_le_self _ _
        have hC1 : C / 2 ^ (r + 1) = C / 2 ^ r / 2 := by rw [Nat.pow_succ, Nat.div_div_eq_div_mul]
        have hCm : C % 2 ^ (r + 1) = C % 2 ^ r + 2 ^ r * (C / 2 ^ r % 2) := Nat.mod_pow_succ
        have hp2 : 2 * 2 ^ r = 2 ^ (r + 1) := by rw [Nat.pow_succ]; omega
        rw [hp2] at TWr
        show forceSt (st12 k t s C r (aft k t)) _
        conv => whnf
        refine tst_in (fun hlt => ?_) (fun hge => ?_)
        · skip
          have hlt : 0 < C / 2 ^ r := by simp only [decide_eq_true_eq] at hlt; omega
          conv => whnf
          repeat (first
            | (refine And.intro ?_ ?_; (focus (first | omega | decide | exact Int.natCast_nonneg _ | ((repeat' refine And.intro ?_ ?_) <;> first | omega | exact Int.natCast_nonneg _ | (simp only [i64max]; omega) | (simp only [u8max]; omega) | (simp only [i64max, u8max, u16max, u32max, u64max]; omega) | (simp [mulSz, Cont.len, bne]; done) | (simp [mulSz, Cont.len, bne]; omega)))); conv => whnf)
            | (refine tst_in ?_ ?_; (focus (intro h_; exfalso; first | omega | ((try simp only [decide_eq_true_eq, decide_eq_false_iff_not] at h_); omega) | (simp [mulSz, Cont.len, bne] at h_; done) | (simp [mulSz, Cont.len, bne] at h_; omega))); intro _; conv => whnf)
            | (refine tst_in ?_ ?_; rotate_left; (focus (intro h_; exfalso; first | omega | ((try simp only [decide_eq_true_eq, decide_eq_false_iff_not] at h_); omega) | (simp [mulSz, Cont.len, bne] at h_; done) | (simp [mulSz, Cont.len, bne] at h_; omega))); intro _; conv => whnf))
          rw [bit0_eq, Nat.testBit_zero]
          have hil4 := il_len (col k (pw (aft k t) (2 ^ (r + 1))))
          rcases Nat.mod_two_eq_zero_or_one (C / 2 ^ r) with hb | hb
          · skip
            rw [hb, Nat.mul_zero, Nat.add_zero] at hCm
            rw [hb]
            conv => whnf
            repeat (first
              | (refine And.intro ?_ ?_; (focus (first | omega | decide | exact Int.natCast_nonneg _ | ((repeat' refine And.intro ?_ ?_) <;> first | omega | exact Int.natCast_nonneg _ | (simp only [i64max]; omega) | (simp only [u8max]; omega) | (simp only [i64max, u8max, u16max, u32max, u64max]; omega) | (simp [mulSz, Cont.len, bne]; done) | (simp [mulSz, Cont.len, bne]; omega)))); conv => whnf)
              | (refine tst_in ?_ ?_; (focus (intro h_; exfalso; first | omega | ((try simp only [decide_eq_true_eq, decide_eq_false_iff_not] at h_); omega) | (simp [mulSz, Cont.len, bne] at h_; done) | (simp [mulSz, Cont.len, bne] at h_; omega))); intro _; conv => whnf)
              | (refine tst_in ?_ ?_; rotate_left; (focus (intro h_; exfalso; first | omega | ((try simp only [decide_eq_true_eq, decide_eq_false_iff_not] at h_); omega) | (simp [mulSz, Cont.len, bne] at h_; done) | (simp [mulSz, Cont.len, bne] at h_; omega))); intro _; conv => whnf))
            refine ⟨_, [], TWr, ?_⟩
            conv => whnf
            refine ⟨?_, ?_, ?_⟩
            · conv => whnf
              repeat' (first | exact True.intro | rfl | refine And.intro ?_ ?_ | omega)
              all_goals (conv => whnf)
              all_goals (try (first | rfl | omega | (simp; done)))
            · conv => whnf
              repeat' (first | exact True.intro | rfl | refine And.intro ?_ ?_ | omega)
              all_goals (conv => whnf)
              all_goals (try (first | rfl | omega | (simp; done)))
            conv => whnf
            refine ⟨?_, True.intro⟩
            intro _ _
            conv => whnf
            conv => whnf
            repeat (first
              | (refine And.intro ?_ ?_; (focus (first | omega | decide | exact Int.natCast_nonneg _ | ((repeat' refine And.intro ?_ ?_) <;> first | omega | exact Int.natCast_nonneg _ | (simp only [i64max]; omega) | (simp only [u8max]; omega) | (simp only [i64max, u8max, u16max, u32max, u64max]; omega) | (simp [mulSz, Cont.len, bne, hil3]; done) | (simp [mulSz, Cont.len, bne, hil3]; omega)))); conv => whnf)
              | (refine tst_in ?_ ?_; (focus (intro h_; exfalso; first | omega | ((try simp only [decide_eq_true_eq, decide_eq_false_iff_not] at h_); omega) | (simp [mulSz, Cont.len, bne, hil3] at h_; done) | (simp [mulSz, Cont.len, bne, hil3] at h_; omega))); intro _; conv => whnf)
              | (refine tst_in ?_ ?_; rotate_left; (focus (intro h_; exfalso; first | omega | ((try simp only [decide_eq_true_eq, decide_eq_false_iff_not] at h_); omega) | (simp [mulSz, Cont.len, bne, hil3] at h_; done) | (simp [mulSz, Cont.len, bne, hil3] at h_; omega))); intro _; conv => whnf))
            rw [show ((C / 2 ^ r : Nat) : Int) / 2 ^ (min (Int.toNat 1) (IntKind.bits .u64)) = ((C / 2 ^ (r + 1) : Nat) : Int) by rw [hC1]; exact shr_nat _ 1 1 (IntKind.bits .u64) rfl (by decide)]
            conv => whnf
            repeat (first
              | (refine And.intro ?_ ?_; (focus (first | omega | decide | exact Int.natCast_nonneg _ | ((repeat' refine And.intro ?_ ?_) <;> first | omega | exact Int.natCast_nonneg _ | (simp only [i64max]; omega) | (simp only [u8max]; omega) | (simp only [i64max, u8max, u16max, u32max, u64max]; omega) | (simp [mulSz, Cont.len, bne]; done) | (simp [mulSz, Cont.len, bne]; omega)))); conv => whnf)
              | (refine tst_in ?_ ?_; (focus (intro h_; exfalso; first | omega | ((try simp only [decide_eq_true_eq, decide_eq_false_iff_not] at h_); omega) | (simp [mulSz, Cont.len, bne] at h_; done) | (simp [mulSz, Cont.len, bne] at h_; omega))); intro _; conv => whnf)
              | (refine tst_in ?_ ?_; rotate_left; (focus (intro h_; exfalso; first | omega | ((try simp only [decide_eq_true_eq, decide_eq_false_iff_not] at h_); omega) | (simp [mulSz, Cont.len, bne] at h_; done) | (simp [mulSz, Cont.len, bne] at h_; omega))); intro _; conv => whnf))
            refine ⟨[0, 1], r + 1, ?_, True.intro, (by show C / 2 ^ (r + 1) < C / 2 ^ r; rw [hC1]; omega)⟩
            show stLe _ _ (st12 k t s C (r + 1) (aft k t)) _
            unfold st12
            rw [hCm]
            conv => whnf
            repeat' (first | exact True.intro | rfl | refine And.intro ?_ ?_)
            all_goals (conv => whnf)
            repeat' (first | exact True.intro | rfl | refine And.intro ?_ ?_)
          · skip
            rw [hb, Nat.mul_one] at hCm
            rw [hb]
            conv => whnf
            repeat (first
              | (refine And.intro ?_ ?_; (focus (first | omega | decide | exact Int.natCast_nonneg _ | ((repeat' refine And.intro ?_ ?_) <;> first | omega | exact Int.natCast_nonneg _ | (simp only [i64max]; omega) | (simp only [u8max]; omega) | (simp only [i64max, u8max, u16max, u32max, u64max]; omega) | (simp [mulSz, Cont.len, bne]; done) | (simp [mulSz, Cont.len, bne]; omega)))); conv => whnf)
              | (refine tst_in ?_ ?_; (focus (intro h_; exfalso; first | omega | ((try simp only [decide_eq_true_eq, decide_eq_false_iff_not] at h_); omega) | (simp [mulSz, Cont.len, bne] at h_; done) | (simp [mulSz, Cont.len, bne] at h_; omega))); intro _; conv => whnf)
              | (refine tst_in ?_ ?_; rotate_left; (focus (intro h_; exfalso; first | omega | ((try simp only [decide_eq_true_eq, decide_eq_false_iff_not] at h_); omega) | (simp [mulSz, Cont.len, bne] at h_; done) | (simp [mulSz, Cont.len, bne] at h_; omega))); intro _; conv => whnf))
            refine ⟨_, [], OFr, ?_⟩
            conv => whnf
            refine ⟨?_, ?_, ?_⟩
            · conv => whnf
              repeat' (first | exact True.intro | rfl | refine And.intro ?_ ?_ | omega)
              all_goals (conv => whnf)
              all_goals (try (first | rfl | omega | (simp; done)))
            · conv => whnf
              repeat' (first | exact True.intro | rfl | refine And.intro ?_ ?_ | omega)
              all_goals (conv => whnf)
              all_goals (try (first | rfl | omega | (simp; done)))
            conv => whnf
            refine ⟨?_, True.intro⟩
            intro _ _
            conv => whnf
            conv => whnf
            repeat (first
              | (refine And.intro ?_ ?_; (focus (first | omega | decide | exact Int.natCast_nonneg _ | ((repeat' refine And.intro ?_ ?_) <;> first | omega | exact Int.natCast_nonneg _ | (simp only [i64max]; omega) | (simp only [u8max]; omega) | (simp only [i64max, u8max, u16max, u32max, u64max]; omega) | (simp [mulSz, Cont.len, bne]; done) | (simp [mulSz, Cont.len, bne]; omega)))); conv => whnf)
              | (refine tst_in ?_ ?_; (focus (intro h_; exfalso; first | omega | ((try simp only [decide_eq_true_eq, decide_eq_false_iff_not] at h_); omega) | (simp [mulSz, Cont.len, bne] at h_; done) | (simp [mulSz, Cont.len, bne] at h_; omega))); intro _; conv => whnf)
              | (refine tst_in ?_ ?_; rotate_left; (focus (intro h_; exfalso; first | omega | ((try simp only [decide_eq_true_eq, decide_eq_false_iff_not] at h_); omega) | (simp [mulSz, Cont.len, bne] at h_; done) | (simp [mulSz, Cont.len, bne] at h_; omega))); intro _; conv => whnf))
            refine ⟨_, [], TWr, ?_⟩
            conv => whnf
            refine ⟨?_, ?_, ?_⟩
            · conv => whnf
              repeat' (first | exact True.intro | rfl | refine And.intro ?_ ?_ | omega)
              all_goals (conv => whnf)
              all_goals (try (first | rfl | omega | (simp; done)))
            · conv => whnf
              repeat' (first | exact True.intro | rfl | refine And.intro ?_ ?_ | omega)
              all_goals (conv => whnf)
              all_goals (try (first | rfl | omega | (simp; done)))
            conv => whnf
            refine ⟨?_, True.intro⟩
            intro _ _
            conv => whnf
            conv => whnf
            repeat (first
              | (refine And.intro ?_ ?_; (focus (first | omega | decide | exact Int.natCast_nonneg _ | ((repeat' refine And.intro ?_ ?_) <;> first | omega | exact Int.natCast_nonneg _ | (simp only [i64max]; omega) | (simp only [u8max]; omega) | (simp only [i64max, u8max, u16max, u32max, u64max]; omega) | (simp [mulSz, Cont.len, bne, hil3]; done) | (simp [mulSz, Cont.len, bne, hil3]; omega)))); conv => whnf)
              | (refine tst_in ?_ ?_; (focus (intro h_; exfalso; first | omega | ((try simp only [decide_eq_true_eq, decide_eq_false_iff_not] at h_); omega) | (simp [mulSz, Cont.len, bne, hil3] at h_; done) | (simp [mulSz, Cont.len, bne, hil3] at h_; omega))); intro _; conv => whnf)
              | (refine tst_in ?_ ?_; rotate_left; (focus (intro h_; exfalso; first | omega | ((try simp only [decide_eq_true_eq, decide_eq_false_iff_not] at h_); omega) | (simp [mulSz, Cont.len, bne, hil3] at h_; done) | (simp [mulSz, Cont.len, bne, hil3] at h_; omega))); intro _; conv => whnf))
            rw [show ((C / 2 ^ r : Nat) : Int) / 2 ^ (min (Int.toNat 1) (IntKind.bits .u64)) = ((C / 2 ^ (r + 1) : Nat) : Int) by rw [hC1]; exact shr_nat _ 1 1 (IntKind.bits .u64) rfl (by decide)]
            conv => whnf
            repeat (first
              | (refine And.intro ?_ ?_; (focus (first | omega | decide | exact Int.natCast_nonneg _ | ((repeat' refine And.intro ?_ ?_) <;> first | omega | exact Int.natCast_nonneg _ | (simp only [i64max]; omega) | (simp only [u8max]; omega) | (simp only [i64max, u8max, u16max, u32max, u64max]; omega) | (simp [mulSz, Cont.len, bne]; done) | (simp [mulSz, Cont.len, bne]; omega)))); conv => whnf)
              | (refine tst_in ?_ ?_; (focus (intro h_; exfalso; first | omega | ((try simp only [decide_eq_true_eq, decide_eq_false_iff_not] at h_); omega) | (simp [mulSz, Cont.len, bne] at h_; done) | (simp [mulSz, Cont.len, bne] at h_; omega))); intro _; conv => whnf)
              | (refine tst_in ?_ ?_; rotate_left; (focus (intro h_; exfalso; first | omega | ((try simp only [decide_eq_true_eq, decide_eq_false_iff_not] at h_); omega) | (simp [mulSz, Cont.len, bne] at h_; done) | (simp [mulSz, Cont.len, bne] at h_; omega))); intro _; conv => whnf))
            refine ⟨[0, 1], r + 1, ?_, True.intro, (by show C / 2 ^ (r + 1) < C / 2 ^ r; rw [hC1]; omega)⟩
            show stLe _ _ (st12 k t s C (r + 1) (aft k t)) _
            unfold st12
            rw [hCm]
            conv => whnf
            repeat' (first | exact True.intro | rfl | refine And.intro ?_ ?_)
            all_goals (conv => whnf)
            repeat' (first | exact True.intro | rfl | refine And.intro ?_ ?_)
        · skip
          have hge : C / 2 ^ r = 0 := by simp only [decide_eq_false_iff_not] at hge; have := Int.natCast_nonneg (C / 2 ^ r); omega
          conv => whnf
          repeat (first
            | (refine And.intro ?_ ?_; (focus (first | omega | decide | exact Int.natCast_nonneg _ | ((repeat' refine And.intro ?_ ?_) <;> first | omega | exact Int.natCast_nonneg _ | (simp only [i64max]; omega) | (simp only [u8max]; omega) | (simp only [i64max, u8max, u16max, u32max, u64max]; omega) | (simp [mulSz, Cont.len, bne]; done) | (simp [mulSz, Cont.len, bne]; omega)))); conv => whnf)
            | (refine tst_in ?_ ?_; (focus (intro h_; exfalso; first | omega | ((try simp only [decide_eq_true_eq, decide_eq_false_iff_not] at h_); omega) | (simp [mulSz, Cont.len, bne] at h_; done) | (simp [mulSz, Cont.len, bne] at h_; omega))); intro _; conv => whnf)
            | (refine tst_in ?_ ?_; rotate_left; (focus (intro h_; exfalso; first | omega | ((try simp only [decide_eq_true_eq, decide_eq_false_iff_not] at h_); omega) | (simp [mulSz, Cont.len, bne] at h_; done) | (simp [mulSz, Cont.len, bne] at h_; omega))); intro _; conv => whnf))
          have hm : C % 2 ^ r = C := by
            have h0 := Nat.div_add_mod C (2 ^ r)
            rw [hge, Nat.mul_zero] at h0; omega
          rw [hm]
          refine .inl ⟨(), [0], ?_⟩
          conv => whnf
          repeat' (first | exact True.intro | rfl | refine And.intro ?_ ?_)
          all_goals (conv => whnf)
          repeat' (first | exact True.intro | rfl | refine And.intro ?_ ?_)
          all_goals (try (first | omega | exact True.intro | rfl | assumption | (change LE.le (α := Nat) _ _; first | omega | (simp only []; omega)) | (simp only []; done) | (simp only []; omega) | (simp; done) | (simp; omega)))
set_option maxHeartbeats 0 in
set_option maxRecDepth 100000 in
theorem Jump_n (w t s : Nat) (n : Int) (C : Nat) (hC0 : IntKind.u64.wrap (0 - IntKind.u64.wrap n) = (C : Int)) (hC2 : C < 18446744073709551616) (h1 : 1 ≤ w) (hw : w ≤ 32) (ht : t < 4294967296) (hs : s < 2 ^ w) (hn : n < 0 ∧ -9223372036854775808 ≤ n) :
    Fits Try.prog 19 ⟨[.ptr 0 0, .int .i64 n], [reg w t s], [⟨Unit, fun _ => True, fun _ => .int .i64 0, fun _ => [reg w t (pw (bef w t) C s)]⟩]⟩ := by
  have hp32 := pow32 hw
  have hL : Lin w (bef w t) := lin_bef h1 hw
  have G := fun k (hk : k < w) => before_g w t s (2 ^ k) h1 hw ht (by have := Nat.pow_lt_pow_right (show 1 < 2 by decide) hk; omega)
  have OF := fun r s' (hs' : s' < 4294967296) => of_f (col w (pw (bef w t) (2 ^ r))) s' (fun i => col_lt (lin_pw hL _) hw i) hs'
  have TW := fun r => twice_f (col w (pw (bef w t) (2 ^ r))) (fun i => col_lt (lin_pw hL _) hw i)
  have hwrap : ∀ k, k < w → IntKind.u32.wrap (1 * 2 ^ (min ((k : Nat) : Int).toNat (IntKind.bits .u32))) = ((2 ^ k : Nat) : Int) := fun k hk => by
    have := Nat.pow_lt_pow_right (show 1 < 2 by decide) hk
    have h9 : 2 ^ k < 4294967296 := by omega
    rw [u32wrap, Int.toNat_natCast, Nat.min_eq_left (show k ≤ IntKind.bits .u32 by show k ≤ 32; omega)]
    have e : (1 * 2 ^ k : Int) = ((2 ^ k : Nat) : Int) := by rw [Int.one_mul]; exact (Int.natCast_pow 2 k).symm
    rw [e]; exact Int.emod_eq_of_lt (Int.natCast_nonneg _) (Int.ofNat_lt.2 h9)
  refine fits_of_body (C := cfg19) (c := c19) (ts := [4]) tok mixed (fun | 8 => some (inv8 30 w t s 0 C (bef w t)) | 12 => some (inv12 w t s C (bef w t)) | _ => none) (fun _ => none)
    Try.func19 (by kernel_rfl) (by kernel_rfl) (by kernel_rfl) (by kernel_rfl) rfl ?_
  conv => whnf
  repeat (first
    | (refine And.intro ?_ ?_; (focus (first | omega | decide | exact Int.natCast_nonneg _ | ((repeat' refine And.intro ?_ ?_) <;> first | omega | exact Int.natCast_nonneg _ | (simp only [i64max]; omega) | (simp only [u8max]; omega) | (simp only [i64max, u8max, u16max, u32max, u64max]; omega) | (simp [mulSz, Cont.len, bne]; done) | (simp [mulSz, Cont.len, bne]; omega)))); conv => whnf)
    | (refine tst_in ?_ ?_; (focus (intro h_; exfalso; first | omega | ((try simp only [decide_eq_true_eq, decide_eq_false_iff_not] at h_); omega) | (simp [mulSz, Cont.len, bne] at h_; done) | (simp [mulSz, Cont.len, bne] at h_; omega))); intro _; conv => whnf)
    | (refine tst_in ?_ ?_; rotate_left; (focus (intro h_; exfalso; first | omega | ((try simp only [decide_eq_true_eq, decide_eq_false_iff_not] at h_); omega) | (simp [mulSz, Cont.len, bne] at h_; done) | (simp [mulSz, Cont.len, bne] at h_; omega))); intro _; conv => whnf))
  rw [hC0]
  conv => whnf
  repeat (first
    | (refine And.intro ?_ ?_; (focus (first | omega | decide | exact Int.natCast_nonneg _ | ((repeat' refine And.intro ?_ ?_) <;> first | omega | exact Int.natCast_nonneg _ | (simp only [i64max]; omega) | (simp only [u8max]; omega) | (simp only [i64max, u8max, u16max, u32max, u64max]; omega) | (simp [mulSz, Cont.len, bne]; done) | (simp [mulSz, Cont.len, bne]; omega)))); conv => whnf)
    | (refine tst_in ?_ ?_; (focus (intro h_; exfalso; first | omega | ((try simp only [decide_eq_true_eq, decide_eq_false_iff_not] at h_); omega) | (simp [mulSz, Cont.len, bne] at h_; done) | (simp [mulSz, Cont.len, bne] at h_; omega))); intro _; conv => whnf)
    | (refine tst_in ?_ ?_; rotate_left; (focus (intro h_; exfalso; first | omega | ((try simp only [decide_eq_true_eq, decide_eq_false_iff_not] at h_); omega) | (simp [mulSz, Cont.len, bne] at h_; done) | (simp [mulSz, Cont.len, bne] at h_; omega))); intro _; conv => whnf))
  refine ⟨⟨[0, 1], (0 : Nat), ?_, Nat.zero_le _⟩, ?_⟩
  · skip
    conv => whnf
    repeat' (first | exact True.intro | rfl | refine And.intro ?_ ?_)
    all_goals (conv => whnf)
    repeat' (first | exact True.intro | rfl | refine And.intro ?_ ?_)
  · intro (k : Nat) (hk : k ≤ w)
    show forceSt (st8 30 w t s 0 k C (bef w t)) _
    conv => whnf
    refine tst_in (fun hlt => ?_) (fun hge => ?_)
    · skip
      have hlt : k < w := by simp at hlt; omega
      have GK := G k hlt
      have hil2 := colk_len (bef w t) k
      conv => whnf
      repeat (first
        | (refine And.intro ?_ ?_; (focus (first | omega | decide | exact Int.natCast_nonneg _ | ((repeat' refine And.intro ?_ ?_) <;> first | omega | exact Int.natCast_nonneg _ | (simp only [i64max]; omega) | (simp only [u8max]; omega) | (simp only [i64max, u8max, u16max, u32max, u64max]; omega) | (simp [mulSz, Cont.len, bne]; done) | (simp [mulSz, Cont.len, bne]; omega)))); conv => whnf)
        | (refine tst_in ?_ ?_; (focus (intro h_; exfalso; first | omega | ((try simp only [decide_eq_true_eq, decide_eq_false_iff_not] at h_); omega) | (simp [mulSz, Cont.len, bne] at h_; done) | (simp [mulSz, Cont.len, bne] at h_; omega))); intro _; conv => whnf)
        | (refine tst_in ?_ ?_; rotate_left; (focus (intro h_; exfalso; first | omega | ((try simp only [decide_eq_true_eq, decide_eq_false_iff_not] at h_); omega) | (simp [mulSz, Cont.len, bne] at h_; done) | (simp [mulSz, Cont.len, bne] at h_; omega))); intro _; conv => whnf))
      rw [hwrap k hlt]
      conv => whnf
      repeat (first
        | (refine And.intro ?_ ?_; (focus (first | omega | decide | exact Int.natCast_nonneg _ | ((repeat' refine And.intro ?_ ?_) <;> first | omega | exact Int.natCast_nonneg _ | (simp only [i64max]; omega) | (simp only [u8max]; omega) | (simp only [i64max, u8max, u16max, u32max, u64max]; omega) | (simp [mulSz, Cont.len, bne]; done) | (simp [mulSz, Cont.len, bne]; omega)))); conv => whnf)
        | (refine tst_in ?_ ?_; (focus (intro h_; exfalso; first | omega | ((try simp only [decide_eq_true_eq, decide_eq_false_iff_not] at h_); omega) | (simp [mulSz, Cont.len, bne] at h_; done) | (simp [mulSz, Cont.len, bne] at h_; omega))); intro _; conv => whnf)
        | (refine tst_in ?_ ?_; rotate_left; (focus (intro h_; exfalso; first | omega | ((try simp only [decide_eq_true_eq, decide_eq_false_iff_not] at h_); omega) | (simp [mulSz, Cont.len, bne] at h_; done) | (simp [mulSz, Cont.len, bne] at h_; omega))); intro _; conv => whnf))
      refine ⟨_, [], GK, ?_⟩
      conv => whnf
      refine ⟨?_, ?_, ?_⟩
      · conv => whnf
        repeat' (first | exact True.intro | rfl | refine And.intro ?_ ?_ | omega)
        all_goals (conv => whnf)
        all_goals (try (first | rfl | omega | (simp; done)))
      · conv => whnf
        repeat' (first | exact True.intro | rfl | refine And.intro ?_ ?_ | omega)
        all_goals (conv => whnf)
        all_goals (try (first | rfl | omega | (simp; done)))
      conv => whnf
      refine ⟨?_, True.intro⟩
      intro _ _
      conv => whnf
      conv => whnf
      repeat (first
        | (refine And.intro ?_ ?_; (focus (first | omega | decide | exact Int.natCast_nonneg _ | ((repeat' refine And.intro ?_ ?_) <;> first | omega | exact Int.natCast_nonneg _ | (simp only [i64max]; omega) | (simp only [u8max]; omega) | (simp only [i64max, u8max, u16max, u32max, u64max]; omega) | (simp [mulSz, Cont.len, bne, hil2]; done) | (simp [mulSz, Cont.len, bne, hil2]; omega)))); conv => whnf)
        | (refine tst_in ?_ ?_; (focus (intro h_; exfalso; first | omega | ((try simp only [decide_eq_true_eq, decide_eq_false_iff_not] at h_); omega) | (simp [mulSz, Cont.len, bne, hil2] at h_; done) | (simp [mulSz, Cont.len, bne, hil2] at h_; omega))); intro _; conv => whnf)
        | (refine tst_in ?_ ?_; rotate_left; (focus (intro h_; exfalso; first | omega | ((try simp only [decide_eq_true_eq, decide_eq_false_iff_not] at h_); omega) | (simp [mulSz, Cont.len, bne, hil2] at h_; done) | (simp [mulSz, Cont.len, bne, hil2] at h_; omega))); intro _; conv => whnf))
      rw [show 0 + ((k : Int)).toNat = k by omega, il_set (colk (bef w t) k) k _ (by omega), colk_up]
      conv => whnf
      repeat (first
        | (refine And.intro ?_ ?_; (focus (first | omega | decide | exact Int.natCast_nonneg _ | ((repeat' refine And.intro ?_ ?_) <;> first | omega | exact Int.natCast_nonneg _ | (simp only [i64max]; omega) | (simp only [u8max]; omega) | (simp only [i64max, u8max, u16max, u32max, u64max]; omega) | (simp [mulSz, Cont.len, bne]; done) | (simp [mulSz, Cont.len, bne]; omega)))); conv => whnf)
        | (refine tst_in ?_ ?_; (focus (intro h_; exfalso; first | omega | ((try simp only [decide_eq_true_eq, decide_eq_false_iff_not] at h_); omega) | (simp [mulSz, Cont.len, bne] at h_; done) | (simp [mulSz, Cont.len, bne] at h_; omega))); intro _; conv => whnf)
        | (refine tst_in ?_ ?_; rotate_left; (focus (intro h_; exfalso; first | omega | ((try simp only [decide_eq_true_eq, decide_eq_false_iff_not] at h_); omega) | (simp [mulSz, Cont.len, bne] at h_; done) | (simp [mulSz, Cont.len, bne] at h_; omega))); intro _; conv => whnf))
      refine ⟨[0, 1], k + 1, ?_, (by show k + 1 ≤ w; omega), (by show w - (k + 1) < w - k; omega)⟩
      conv => whnf
      repeat' (first | exact True.intro | rfl | refine And.intro ?_ ?_)
      all_goals (conv => whnf)
      repeat' (first | exact True.intro | rfl | refine And.intro ?_ ?_)
      all_goals (show ((k + 1 : Nat) : Int) = IntKind.u64.wrap ((k : Int) + 1); rw [u64wrap]; omega)
    · skip
      have hge : k = w := by simp at hge; omega
      subst hge
      conv => whnf
      repeat (first
        | (refine And.intro ?_ ?_; (focus (first | omega | decide | exact Int.natCast_nonneg _ | ((repeat' refine And.intro ?_ ?_) <;> first | omega | exact Int.natCast_nonneg _ | (simp only [i64max]; omega) | (simp only [u8max]; omega) | (simp only [i64max, u8max, u16max, u32max, u64max]; omega) | (simp [mulSz, Cont.len, bne]; done) | (simp [mulSz, Cont.len, bne]; omega)))); conv => whnf)
        | (refine tst_in ?_ ?_; (focus (intro h_; exfalso; first | omega | ((try simp only [decide_eq_true_eq, decide_eq_false_iff_not] at h_); omega) | (simp [mulSz, Cont.len, bne] at h_; done) | (simp [mulSz, Cont.len, bne] at h_; omega))); intro _; conv => whnf)
        | (refine tst_in ?_ ?_; rotate_left; (focus (intro h_; exfalso; first | omega | ((try simp only [decide_eq_true_eq, decide_eq_false_iff_not] at h_); omega) | (simp [mulSz, Cont.len, bne] at h_; done) | (simp [mulSz, Cont.len, bne] at h_; omega))); intro _; conv => whnf))
      refine ⟨⟨[0, 1], (0 : Nat), ?_, True.intro⟩, ?_⟩
      · skip
        conv => whnf
        repeat' (first | exact True.intro | rfl | refine And.intro ?_ ?_)
        all_goals (conv => whnf)
        repeat' (first | exact True.intro | rfl | refine And.intro ?_ ?_)
        all_goals (first | (show ((C / 2 ^ 0 : Nat) : Int) = C; rw [Nat.pow_zero, Nat.div_one]) | (show ((pw (bef k t) (C % 2 ^ 0) s : Nat) : Int) = s; rw [Nat.pow_zero, Nat.mod_one]; rfl))
      · intro (r : Nat) _
        have hil3 := il_len (col k (pw (bef k t) (2 ^ r)))
        have hsr := pw_lt hL hs (C % 2 ^ r)
        have OFr := OF r (pw (bef k t) (C % 2 ^ r) s) (by omega)
        have TWr := TW r
        rw [tw_col hw (lin_pw hL _), pw_sq] at TWr
        rw [ofx_top (lin_pw hL _) _ hsr 32 hw, ← pw_add] at OFr
        have hCr : C / 2 ^ r ≤ C := Nat.div_le_self _ _
        have hC1 : C / 2 ^ (r + 1) = C / 2 ^ r / 2 := by rw [Nat.pow_succ, Nat.div_div_eq_div_mul]
        have hCm : C % 2 ^ (r + 1) = C % 2 ^ r + 2 ^ r * (C / 2 ^ r % 2) := Nat.mod_pow_succ
        have hp2 : 2 * 2 ^ r = 2 ^ (r + 1) := by rw [Nat.pow_succ]; omega
        rw [hp2] at TWr
        show forceSt (st12 k t s C r (bef k t)) _
        conv => whnf
        refine tst_in (fun hlt => ?_) (fun hge => ?_)
        · skip
          have hlt : 0 < C / 2 ^ r := by simp only [decide_eq_true_eq] at hlt; omega
          conv => whnf
          repeat (first
            | (refine And.intro ?_ ?_; (focus (first | omega | decide | exact Int.natCast_nonneg _ | ((repeat' refine And.intro ?_ ?_) <;> first | omega | exact Int.natCast_nonneg _ | (simp only [i64max]; omega) | (simp only [u8max]; omega) | (simp only [i64max, u8max, u16max, u32max, u64max]; omega) | (simp [mulSz, Cont.len, bne]; done) | (simp [mulSz, Cont.len, bne]; omega)))); conv => whnf)
            | (refine tst_in ?_ ?_; (focus (intro h_; exfalso; first | omega | ((try simp only [decide_eq_true_eq, decide_eq_false_iff_not] at h_); omega) | (simp [mulSz, Cont.len, bne] at h_; done) | (simp [mulSz, Cont.len, bne] at h_; omega))); intro _; conv => whnf)
            | (refine tst_in ?_ ?_; rotate_left; (focus (intro h_; exfalso; first | omega | ((try simp only [decide_eq_true_eq, decide_eq_false_iff_not] at h_); omega) | (simp [mulSz, Cont.len, bne] at h_; done) | (simp [mulSz, Cont.len, bne] at h_; omega))); intro _; conv => whnf))
          rw [bit0_eq, Nat.testBit_zero]
          have hil4 := il_len (col k (pw (bef k t) (2 ^ (r + 1))))
          rcases Nat.mod_two_eq_zero_or_one (C / 2 ^ r) with hb | hb
          · skip
            rw [hb, Nat.mul_zero, Nat.add_zero] at hCm
            rw [hb]
            conv => whnf
            repeat (first
              | (refine And.intro ?_ ?_; (focus (first | omega | decide | exact Int.natCast_nonneg _ | ((repeat' refine And.intro ?_ ?_) <;> first | omega | exact Int.natCast_nonneg _ | (simp only [i64max]; omega) | (simp only [u8max]; omega) | (simp only [i64max, u8max, u16max, u32max, u64max]; omega) | (simp [mulSz, Cont.len, bne]; done) | (simp [mulSz, Cont.len, bne]; omega)))); conv => whnf)
              | (refine tst_in ?_ ?_; (focus (intro h_; exfalso; first | omega | ((try simp only [decide_eq_true_eq, decide_eq_false_iff_not] at h_); omega) | (simp [mulSz, Cont.len, bne] at h_; done) | (simp [mulSz, Cont.len, bne] at h_; omega))); intro _; conv => whnf)
              | (refine tst_in ?_ ?_; rotate_left; (focus (intro h_; exfalso; first | omega | ((try simp only [decide_eq_true_eq, decide_eq_false_iff_not] at h_); omega) | (simp [mulSz, Cont.len, bne] at h_; done) | (simp [mulSz, Cont.len, bne] at h_; omega))); intro _; conv => whnf))
            refine ⟨_, [], TWr, ?_⟩
            conv => whnf
            refine ⟨?_, ?_, ?_⟩
            · conv => whnf
              repeat' (first | exact True.intro | rfl | refine And.intro ?_ ?_ | omega)
              all_goals (conv => whnf)
              all_goals (try (first | rfl | omega | (simp; done)))
            · conv => whnf
              repeat' (first | exact True.intro | rfl | refine And.intro ?_ ?_ | omega)
              all_goals (conv => whnf)
              all_goals (try (first | rfl | omega | (simp; done)))
            conv => whnf
            refine ⟨?_, True.intro⟩
            intro _ _
            conv => whnf
            conv => whnf
            repeat (first
              | (refine And.intro ?_ ?_; (focus (first | omega | decide | exact Int.natCast_nonneg _ | ((repeat' refine And.intro ?_ ?_) <;> first | omega | exact Int.natCast_nonneg _ | (simp only [i64max]; omega) | (simp only [u8max]; omega) | (simp only [i64max, u8max, u16max, u32max, u64max]; omega) | (simp [mulSz, Cont.len, bne, hil3]; done) | (simp [mulSz, Cont.len, bne, hil3]; omega)))); conv => whnf)
              | (refine tst_in ?_ ?_; (focus (intro h_; exfalso; first | omega | ((try simp only [decide_eq_true_eq, decide_eq_false_iff_not] at h_); omega) | (simp [mulSz, Cont.len, bne, hil3] at h_; done) | (simp [mulSz, Cont.len, bne, hil3] at h_; omega))); intro _; conv => whnf)
              | (refine tst_in ?_ ?_; rotate_left; (focus (intro h_; exfalso; first | omega | ((try simp only [decide_eq_true_eq, decide_eq_false_iff_not] at h_); omega) | (simp [mulSz, Cont.len, bne, hil3] at h_; done) | (simp [mulSz, Cont.len, bne, hil3] at h_; omega))); intro _; conv => whnf))
            rw [show ((C / 2 ^ r : Nat) : Int) / 2 ^ (min (Int.toNat 1) (IntKind.bits .u64)) = ((C / 2 ^ (r + 1) : Nat) : Int) by rw [hC1]; exact shr_nat _ 1 1 (IntKind.bits .u64) rfl (by decide)]
            conv => whnf
            repeat (first
              | (refine And.intro ?_ ?_; (focus (first | omega | decide | exact Int.natCast_nonneg _ | ((repeat' refine And.intro ?_ ?_) <;> first | omega | exact Int.natCast_nonneg _ | (simp only [i64max]; omega) | (simp only [u8max]; omega) | (simp only [i64max, u8max, u16max, u32max, u64max]; omega) | (simp [mulSz, Cont.len, bne]; done) | (simp [mulSz, Cont.len, bne]; omega)))); conv => whnf)
              | (refine tst_in ?_ ?_; (focus (intro h_; exfalso; first | omega | ((try simp only [decide_eq_true_eq, decide_eq_false_iff_not] at h_); omega) | (simp [mulSz, Cont.len, bne] at h_; done) | (simp [mulSz, Cont.len, bne] at h_; omega))); intro _; conv => whnf)
              | (refine tst_in ?_ ?_; rotate_left; (focus (intro h_; exfalso; first | omega | ((try simp only [decide_eq_true_eq, decide_eq_false_iff_not] at h_); omega) | (simp [mulSz, Cont.len, bne] at h_; done) | (simp [mulSz, Cont.len, bne] at h_; omega))); intro _; conv => whnf))
            refine ⟨[0, 1], r + 1, ?_, True.intro, (by show C / 2 ^ (r + 1) < C / 2 ^ r; rw [hC1]; omega)⟩
            show stLe _ _ (st12 k t s C (r + 1) (bef k t)) _
            unfold st12
            rw [hCm]
            conv => whnf
            repeat' (first | exact True.intro | rfl | refine And.intro ?_ ?_)
            all_goals (conv => whnf)
            repeat' (first | exact True.intro | rfl | refine And.intro ?_ ?_)
          · skip
            rw [hb, Nat.mul_one] at hCm
            rw [hb]
            conv => whnf
            repeat (first
              | (refine And.intro ?_ ?_; (focus (first | omega | decide | exact Int.natCast_nonneg _ | ((repeat' refine And.intro ?_ ?_) <;> first | omega | exact Int.natCast_nonneg _ | (simp only [i64max]; omega) | (simp only [u8max]; omega) | (simp only [i64max, u8max, u16max, u32max, u64max]; omega) | (simp [mulSz, Cont.len, bne]; done) | (simp [mulSz, Cont.len, bne]; omega)))); conv => whnf)
              | (refine tst_in ?_ ?_; (focus (intro h_; exfalso; first | omega | ((try simp only [decide_eq_true_eq, decide_eq_false_iff_not] at h_); omega) | (simp [mulSz, Cont.len, bne] at h_; done) | (simp [mulSz, Cont.len, bne] at h_; omega))); intro _; conv => whnf)
              | (refine tst_in ?_ ?_; rotate_left; (focus (intro h_; exfalso; first | omega | ((try simp only [decide_eq_true_eq, decide_eq_false_iff_not] at h_); omega) | (simp [mulSz, Cont.len, bne] at h_; done) | (simp [mulSz, Cont.len, bne] at h_; omega))); intro _; conv => whnf))
            refine ⟨_, [], OFr, ?_⟩
            conv => whnf
            refine ⟨?_, ?_, ?_⟩
            · conv => whnf
              repeat' (first | exact True.intro | rfl | refine And.intro ?_ ?_ | omega)
              all_goals (conv => whnf)
              all_goals (try (first | rfl | omega | (simp; done)))
            · conv => whnf
              repeat' (first | exact True.intro | rfl | refine And.intro ?_ ?_ | omega)
              all_goals (conv => whnf)
              all_goals (try (first | rfl | omega | (simp; done)))
            conv => whnf
            refine ⟨?_, True.intro⟩
            intro _ _
            conv => whnf
            conv => whnf
            repeat (first
              | (refine And.intro ?_ ?_; (focus (first | omega | decide | exact Int.natCast_nonneg _ | ((repeat' refine And.intro ?_ ?_) <;> first | omega | exact Int.natCast_nonneg _ | (simp only [i64max]; omega) | (simp only [u8max]; omega) | (simp only [i64max, u8max, u16max, u32max, u64max]; omega) | (simp [mulSz, Cont.len, bne]; done) | (simp [mulSz, Cont.len, bne]; omega)))); conv => whnf)
              | (refine tst_in ?_ ?_; (focus (intro h_; exfalso; first | omega | ((try simp only [decide_eq_true_eq, decide_eq_false_iff_not] at h_); omega) | (simp [mulSz, Cont.len, bne] at h_; done) | (simp [mulSz, Cont.len, bne] at h_; omega))); intro _; conv => whnf)
              | (refine tst_in ?_ ?_; rotate_left; (focus (intro h_; exfalso; first | omega | ((try simp only [decide_eq_true_eq, decide_eq_false_iff_not] at h_); omega) | (simp [mulSz, Cont.len, bne] at h_; done) | (simp [mulSz, Cont.len, bne] at h_; omega))); intro _; conv => whnf))
            refine ⟨_, [], TWr, ?_⟩
            conv => whnf
            refine ⟨?_, ?_, ?_⟩
            · conv => whnf
              repeat' (first | exact True.intro | rfl | refine And.intro ?_ ?_ | omega)
              all_goals (conv => whnf)
              all_goals (try (first | rfl | omega | (simp; done)))
            · conv => whnf
              repeat' (first | exact True.intro | rfl | refine And.intro ?_ ?_ | omega)
              all_goals (conv => whnf)
              all_goals (try (first | rfl | omega | (simp; done)))
            conv => whnf
            refine ⟨?_, True.intro⟩
            intro _ _
            conv => whnf
            conv => whnf
            repeat (first
              | (refine And.intro ?_ ?_; (focus (first | omega | decide | exact Int.natCast_nonneg _ | ((repeat' refine And.intro ?_ ?_) <;> first | omega | exact Int.natCast_nonneg _ | (simp only [i64max]; omega) | (simp only [u8max]; omega) | (simp only [i64max, u8max, u16max, u32max, u64max]; omega) | (simp [mulSz, Cont.len, bne, hil3]; done) | (simp [mulSz, Cont.len, bne, hil3]; omega)))); conv => whnf)
              | (refine tst_in ?_ ?_; (focus (intro h_; exfalso; first | omega | ((try simp only [decide_eq_true_eq, decide_eq_false_iff_not] at h_); omega) | (simp [mulSz, Cont.len, bne, hil3] at h_; done) | (simp [mulSz, Cont.len, bne, hil3] at h_; omega))); intro _; conv => whnf)
              | (refine tst_in ?_ ?_; rotate_left; (focus (intro h_; exfalso; first | omega | ((try simp only [decide_eq_true_eq, decide_eq_false_iff_not] at h_); omega) | (simp [mulSz, Cont.len, bne, hil3] at h_; done) | (simp [mulSz, Cont.len, bne, hil3] at h_; omega))); intro _; conv => whnf))
            rw [show ((C / 2 ^ r : Nat) : Int) / 2 ^ (min (Int.toNat 1) (IntKind.bits .u64)) = ((C / 2 ^ (r + 1) : Nat) : Int) by rw [hC1]; exact shr_nat _ 1 1 (IntKind.bits .u64) rfl (by decide)]
            conv => whnf
            repeat (first
              | (refine And.intro ?_ ?_; (focus (first | omega | decide | exact Int.natCast_nonneg _ | ((repeat' refine And.intro ?_ ?_) <;> first | omega | exact Int.natCast_nonneg _ | (simp only [i64max]; omega) | (simp only [u8max]; omega) | (simp only [i64max, u8max, u16max, u32max, u64max]; omega) | (simp [mulSz, Cont.len, bne]; done) | (simp [mulSz, Cont.len, bne]; omega)))); conv => whnf)
              | (refine tst_in ?_ ?_; (focus (intro h_; exfalso; first | omega | ((try simp only [decide_eq_true_eq, decide_eq_false_iff_not] at h_); omega) | (simp [mulSz, Cont.len, bne] at h_; done) | (simp [mulSz, Cont.len, bne] at h_; omega))); intro _; conv => whnf)
              | (refine tst_in ?_ ?_; rotate_left; (focus (intro h_; exfalso; first | omega | ((try simp only [decide_eq_true_eq, decide_eq_false_iff_not] at h_); omega) | (simp [mulSz, Cont.len, bne] at h_; done) | (simp [mulSz, Cont.len, bne] at h_; omega))); intro _; conv => whnf))
            refine ⟨[0, 1], r + 1, ?_, True.intro, (by show C / 2 ^ (r + 1) < C / 2 ^ r; rw [hC1]; omega)⟩
            show stLe _ _ (st12 k t s C (r + 1) (bef k t)) _
            unfold st12
            rw [hCm]
            conv => whnf
            repeat' (first | exact True.intro | rfl | refine And.intro ?_ ?_)
            all_goals (conv => whnf)
            repeat' (first | exact True.intro | rfl | refine And.intro ?_ ?_)
        · skip
          have hge : C / 2 ^ r = 0 := by simp only [decide_eq_false_iff_not] at hge; have := Int.natCast_nonneg (C / 2 ^ r); omega
          conv => whnf
          repeat (first
            | (refine And.intro ?_ ?_; (focus (first | omega | decide | exact Int.natCast_nonneg _ | ((repeat' refine And.intro ?_ ?_) <;> first | omega | exact Int.natCast_nonneg _ | (simp only [i64max]; omega) | (simp only [u8max]; omega) | (simp only [i64max, u8max, u16max, u32max, u64max]; omega) | (simp [mulSz, Cont.len, bne]; done) | (simp [mulSz, Cont.len, bne]; omega)))); conv => whnf)
            | (refine tst_in ?_ ?_; (focus (intro h_; exfalso; first | omega | ((try simp only [decide_eq_true_eq, decide_eq_false_iff_not] at h_); omega) | (simp [mulSz, Cont.len, bne] at h_; done) | (simp [mulSz, Cont.len, bne] at h_; omega))); intro _; conv => whnf)
            | (refine tst_in ?_ ?_; rotate_left; (focus (intro h_; exfalso; first | omega | ((try simp only [decide_eq_true_eq, decide_eq_false_iff_not] at h_); omega) | (simp [mulSz, Cont.len, bne] at h_; done) | (simp [mulSz, Cont.len, bne] at h_; omega))); intro _; conv => whnf))
          have hm : C % 2 ^ r = C := by
            have h0 := Nat.div_add_mod C (2 ^ r)
            rw [hge, Nat.mul_zero] at h0; omega
          rw [hm]
          refine .inl ⟨(), [0], ?_⟩
          conv => whnf
          repeat' (first | exact True.intro | rfl | refine And.intro ?_ ?_)
          all_goals (conv => whnf)
          repeat' (first | exact True.intro | rfl | refine And.intro ?_ ?_)
          all_goals (try (first | omega | exact True.intro | rfl | assumption | (change LE.le (α := Nat) _ _; first | omega | (simp only []; omega)) | (simp only []; done) | (simp only []; omega) | (simp; done) | (simp; omega)))
theorem Jump_f (w t s : Nat) (n : Int) (h1 : 1 ≤ w) (hw : w ≤ 32) (ht : t < 4294967296) (hs : s < 2 ^ w) (hn : -9223372036854775808 ≤ n ∧ n ≤ 9223372036854775807) :
    Fits Try.prog 19 ⟨[.ptr 0 0, .int .i64 n], [reg w t s], [⟨Unit, fun _ => True, fun _ => .int .i64 0, fun _ => [reg w t (jm w t n s)]⟩]⟩ := by
  unfold jm
  by_cases h : 0 ≤ n
  · rw [if_pos h]
    exact Jump_p w t s n n.toNat (by rw [u64wrap]; omega) (by omega) h1 hw ht hs ⟨h, hn.2⟩
  · rw [if_neg h]
    exact Jump_n w t s n (-n).toNat (by rw [u64wrap, u64wrap]; omega) (by omega) h1 hw ht hs ⟨by omega, hn.1⟩
end Go.Proofs.Ytdahkhhngaanfaa

set_option linter.unusedVariables false
set_option linter.unusedSimpArgs false
namespace Go.Proofs.Ytdahkhhngaanfaa
open Go Go.Fw
theorem tdiv4 (p : Int) (h : -9223372036854775808 ≤ p ∧ p ≤ 9223372036854775807) : -2305843009213693952 ≤ p.tdiv 4 ∧ p.tdiv 4 ≤ 2305843009213693952 := by
  rw [Int.tdiv_eq_ediv]
  split
  · omega
  · rw [show Int.sign 4 = 1 from rfl]; omega
theorem jm_lt32 {w t s : Nat} (h1 : 1 ≤ w) (hw : w ≤ 32) (hs : s < 2 ^ w) (n : Int) : jm w t n s < 4294967296 := by
  have := jm_lt (t := t) h1 hw hs n
  have := pow32 hw
  omega
def juSpec (a t s n p q : Int) : FSpec := ⟨[.int .i64 a, .int .u32 t, .int .u32 s, .int .u8 n, .int .i64 p, .int .i64 q], [], [numOut [] (.bool true)]⟩
def st10 (w t x n : Nat) (p q : Int) (k : Nat) (tl : List Bool) : St := ⟨anyTo 144 [.any, .any, .any, .int .u8 n, .int .i64 p, .int .i64 q, .any, .any, .any, .any, .any, .any, .any, .ptr 0 0, .ptr 1 0, .int .u32 x, .slice 2 0 k (k + tl.length), .int .i64 k], [reg w t (it w t x k), reg w t x, .seg true (.bools (rowB w t x k ++ tl))]⟩
def inv10 (w t x n : Nat) (p q : Int) : LInv := ⟨Nat × List Bool, fun y => st10 w t x n p q y.1 y.2, fun y => y.1 ≤ n, fun y => n - y.1⟩
def st19 (w t x n : Nat) (p q : Int) (k : Nat) (tl : List Bool) : St := ⟨anyTo 144 [.any, .any, .any, .int .u8 n, .int .i64 p, .int .i64 q, .any, .any, .any, .any, .any, .any, .any, .ptr 0 0, .ptr 1 0, .int .u32 x, .slice 2 0 n (n + tl.length), .any, .any, .any, .int .i64 ((n : Int) - 1 - k)], [reg w t (it w t x (n - k)), reg w t (it w t x n), .seg true (.bools (rowB w t x n ++ tl))]⟩
def inv19 (w t x n : Nat) (p q : Int) : LInv := ⟨Nat × List Bool, fun y => st19 w t x n p q y.1 y.2, fun y => y.1 ≤ n, fun y => n - y.1⟩
def stC (w t x n : Nat) (p q : Int) (y z : Nat) : St := ⟨anyTo 144 [.any, .any, .any, .int .u8 n, .int .i64 p, .int .i64 q, .any, .any, .any, .any, .any, .any, .any, .ptr 0 0, .ptr 1 0, .int .u32 x], [reg w t y, reg w t z]⟩
def invC (w t x n : Nat) (p q : Int) (y z : Nat) : LInv := ⟨Unit, fun _ => stC w t x n p q y z, fun _ => True, fun _ => 0⟩
noncomputable def c6 : Code := (Try.f6.body).getD .skip
def cfg6 : Cfg := { T := tys, sgn := fun r => Nat.beq r 25 || Nat.beq r 26, wr := fun _ => false, k := 0, q := qf }
set_option maxHeartbeats 0 in
set_option maxRecDepth 100000 in
theorem ju_R (a : Int) (t s n : Nat) (p q : Int) (ht : t < 4294967296) (hs : s < 4294967296) (hn : n < 256) (hp : -9223372036854775808 ≤ p ∧ p ≤ 9223372036854775807) (hq : -9223372036854775808 ≤ q ∧ q ≤ 9223372036854775807) : Fits Try.prog 6 (juSpec a t s n p q) := by
  have F1 := fit_q a t s ht hs
  have ON := one_f a t s ht hs
  have hw := fw_le a
  have hp32 := pow32 hw.2
  have hx := fs_ok a s
  have hT := ft_ok a t
  have hm : mk (fw a) = 2 ^ fw a - 1 := rfl
  generalize fs a s = x at *
  generalize ft a t = T at *
  generalize fw a = w at *
  have hxw : x < 2 ^ w := by omega
  have hw1 : 1 ≤ w := by omega
  have hTl : T < 4294967296 := by omega
  have SX := fun s => State_q w T s
  have hit := fun k => it_lt (t := T) hw1 hw.2 hxw k
  have hi32 : ∀ k, it w T x k < 4294967296 := fun k => by have := hit k; omega
  have hne := it_ne (t := T) hw1 hw.2 hT.2 hxw hx.1
  have hrl := rowB_len w T x
  have hrg := rowB_get w T x
  have NX := fun k => Next_f w T (it w T x k) hw1 hw.2 hTl (hi32 k)
  have BK := fun k => Back_f w T (it w T x (k + 1)) hw1 hw.2 hTl (hi32 (k + 1))
  have hb : ∀ k, bef w T (it w T x (k + 1)) = it w T x k := fun k => bef_aft hw1 hw.2 hT.2 (hit k)
  have JX := fun s n hs hn => Jump_f w T s n hw1 hw.2 hTl hs hn
  have hj := fun n => jm_lt (t := T) hw1 hw.2 hxw n
  have hj32 := fun n => jm_lt32 (t := T) hw1 hw.2 hxw n
  have hja := jm_add (t := T) hw1 hw.2 hT.2 hxw
  have hwn : IntKind.i64.wrap (n : Int) = n := wrap_i64 (by omega)
  have hpq : -2305843009213693952 ≤ p.tdiv 4 ∧ p.tdiv 4 ≤ 2305843009213693952 := tdiv4 p hp
  have hqq : -2305843009213693952 ≤ q.tdiv 4 ∧ q.tdiv 4 ≤ 2305843009213693952 := tdiv4 q hq
  have hwp : IntKind.i64.wrap (p.tdiv 4) = p.tdiv 4 := wrap_i64 (by omega)
  have hwq : IntKind.i64.wrap (q.tdiv 4) = q.tdiv 4 := wrap_i64 (by omega)
  refine fits_of_body (C := cfg6) (c := c6) (ts := [12]) tok mixed (fun | 10 => some (inv10 w T x n p q) | 19 => some (inv19 w T x n p q) | _ => none) (fun | 24 => some (invC w T x n p q x (it w T x n)) | 25 => some (invC w T x n p q x x) | 28 => some (invC w T x n (p.tdiv 4) (q.tdiv 4) x (jm w T (p.tdiv 4) x)) | 29 => some (invC w T x n (p.tdiv 4) (q.tdiv 4) x (jm w T (p.tdiv 4 + q.tdiv 4) x)) | 31 => some (invC w T x n (p.tdiv 4) (q.tdiv 4) (jm w T (p.tdiv 4 + q.tdiv 4) x) (jm w T (p.tdiv 4 + q.tdiv 4) x)) | _ => none)
    Try.func6 (by kernel_rfl) (by kernel_rfl) (by kernel_rfl) (by kernel_rfl) rfl ?_
  conv => whnf
  repeat (first
    | (refine And.intro ?_ ?_; (focus (first | omega | decide | exact Int.natCast_nonneg _ | ((repeat' refine And.intro ?_ ?_) <;> first | omega | exact Int.natCast_nonneg _ | (simp only [i64max]; omega) | (simp only [u8max]; omega) | (simp only [i64max, u8max, u16max, u32max, u64max]; omega) | (simp [mulSz, Cont.len, bne]; done) | (simp [mulSz, Cont.len, bne]; omega)))); conv => whnf)
    | (refine tst_in ?_ ?_; (focus (intro h_; exfalso; first | omega | ((try simp only [decide_eq_true_eq, decide_eq_false_iff_not] at h_); omega) | (simp [mulSz, Cont.len, bne] at h_; done) | (simp [mulSz, Cont.len, bne] at h_; omega))); intro _; conv => whnf)
    | (refine tst_in ?_ ?_; rotate_left; (focus (intro h_; exfalso; first | omega | ((try simp only [decide_eq_true_eq, decide_eq_false_iff_not] at h_); omega) | (simp [mulSz, Cont.len, bne] at h_; done) | (simp [mulSz, Cont.len, bne] at h_; omega))); intro _; conv => whnf))
  refine ⟨_, [], works_f, ?_⟩
  conv => whnf
  refine ⟨?_, ?_, ?_⟩
  · conv => whnf
    repeat' (first | exact True.intro | rfl | refine And.intro ?_ ?_ | omega)
    all_goals (conv => whnf)
    all_goals (try (first | rfl | omega | (simp; done)))
  · conv => whnf
    repeat' (first | exact True.intro | rfl | refine And.intro ?_ ?_ | omega)
    all_goals (conv => whnf)
    all_goals (try (first | rfl | omega | (simp; done)))
  conv => whnf
  refine ⟨?_, True.intro⟩
  intro _ _
  conv => whnf
  conv => whnf
  repeat (first
    | (refine And.intro ?_ ?_; (focus (first | omega | decide | exact Int.natCast_nonneg _ | ((repeat' refine And.intro ?_ ?_) <;> first | omega | exact Int.natCast_nonneg _ | (simp only [i64max]; omega) | (simp only [u8max]; omega) | (simp only [i64max, u8max, u16max, u32max, u64max]; omega) | (simp [mulSz, Cont.len, bne]; done) | (simp [mulSz, Cont.len, bne]; omega)))); conv => whnf)
    | (refine tst_in ?_ ?_; (focus (intro h_; exfalso; first | omega | ((try simp only [decide_eq_true_eq, decide_eq_false_iff_not] at h_); omega) | (simp [mulSz, Cont.len, bne] at h_; done) | (simp [mulSz, Cont.len, bne] at h_; omega))); intro _; conv => whnf)
    | (refine tst_in ?_ ?_; rotate_left; (focus (intro h_; exfalso; first | omega | ((try simp only [decide_eq_true_eq, decide_eq_false_iff_not] at h_); omega) | (simp [mulSz, Cont.len, bne] at h_; done) | (simp [mulSz, Cont.len, bne] at h_; omega))); intro _; conv => whnf))
  refine ⟨_, [], ON, ?_⟩
  conv => whnf
  refine ⟨?_, ?_, ?_⟩
  · conv => whnf
    repeat' (first | exact True.intro | rfl | refine And.intro ?_ ?_ | omega)
    all_goals (conv => whnf)
    all_goals (try (first | rfl | omega | (simp; done)))
  · conv => whnf
    repeat' (first | exact True.intro | rfl | refine And.intro ?_ ?_ | omega)
    all_goals (conv => whnf)
    all_goals (try (first | rfl | omega | (simp; done)))
  conv => whnf
  refine ⟨?_, True.intro⟩
  intro _ _
  conv => whnf
  conv => whnf
  repeat (first
    | (refine And.intro ?_ ?_; (focus (first | omega | decide | exact Int.natCast_nonneg _ | ((repeat' refine And.intro ?_ ?_) <;> first | omega | exact Int.natCast_nonneg _ | (simp only [i64max]; omega) | (simp only [u8max]; omega) | (simp only [i64max, u8max, u16max, u32max, u64max]; omega) | (simp [mulSz, Cont.len, bne]; done) | (simp [mulSz, Cont.len, bne]; omega)))); conv => whnf)
    | (refine tst_in ?_ ?_; (focus (intro h_; exfalso; first | omega | ((try simp only [decide_eq_true_eq, decide_eq_false_iff_not] at h_); omega) | (simp [mulSz, Cont.len, bne] at h_; done) | (simp [mulSz, Cont.len, bne] at h_; omega))); intro _; conv => whnf)
    | (refine tst_in ?_ ?_; rotate_left; (focus (intro h_; exfalso; first | omega | ((try simp only [decide_eq_true_eq, decide_eq_false_iff_not] at h_); omega) | (simp [mulSz, Cont.len, bne] at h_; done) | (simp [mulSz, Cont.len, bne] at h_; omega))); intro _; conv => whnf))
  refine ⟨_, [], ON, ?_⟩
  conv => whnf
  refine ⟨?_, ?_, ?_⟩
  · conv => whnf
    repeat' (first | exact True.intro | rfl | refine And.intro ?_ ?_ | omega)
    all_goals (conv => whnf)
    all_goals (try (first | rfl | omega | (simp; done)))
  · conv => whnf
    repeat' (first | exact True.intro | rfl | refine And.intro ?_ ?_ | omega)
    all_goals (conv => whnf)
    all_goals (try (first | rfl | omega | (simp; done)))
  conv => whnf
  refine ⟨?_, True.intro⟩
  intro _ _
  conv => whnf
  conv => whnf
  repeat (first
    | (refine And.intro ?_ ?_; (focus (first | omega | decide | exact Int.natCast_nonneg _ | ((repeat' refine And.intro ?_ ?_) <;> first | omega | exact Int.natCast_nonneg _ | (simp only [i64max]; omega) | (simp only [u8max]; omega) | (simp only [i64max, u8max, u16max, u32max, u64max]; omega) | (simp [mulSz, Cont.len, bne]; done) | (simp [mulSz, Cont.len, bne]; omega)))); conv => whnf)
    | (refine tst_in ?_ ?_; (focus (intro h_; exfalso; first | omega | ((try simp only [decide_eq_true_eq, decide_eq_false_iff_not] at h_); omega) | (simp [mulSz, Cont.len, bne] at h_; done) | (simp [mulSz, Cont.len, bne] at h_; omega))); intro _; conv => whnf)
    | (refine tst_in ?_ ?_; rotate_left; (focus (intro h_; exfalso; first | omega | ((try simp only [decide_eq_true_eq, decide_eq_false_iff_not] at h_); omega) | (simp [mulSz, Cont.len, bne] at h_; done) | (simp [mulSz, Cont.len, bne] at h_; omega))); intro _; conv => whnf))
  refine ⟨_, [0], SX x, ?_⟩
  conv => whnf
  refine ⟨?_, ?_, ?_⟩
  · conv => whnf
    repeat' (first | exact True.intro | rfl | refine And.intro ?_ ?_)
    all_goals (conv => whnf)
    repeat' (first | exact True.intro | rfl | refine And.intro ?_ ?_)
    all_goals (try (first | rfl | omega | (simp; done) | (simp; omega)))
  · conv => whnf
    repeat' (first | exact True.intro | rfl | refine And.intro ?_ ?_)
    all_goals (conv => whnf)
    repeat' (first | exact True.intro | rfl | refine And.intro ?_ ?_)
    all_goals (try (first | rfl | omega | (simp; done) | (simp; omega)))
  conv => whnf
  conv => whnf
  repeat (first
    | (refine And.intro ?_ ?_; (focus (first | omega | decide | exact Int.natCast_nonneg _ | ((repeat' refine And.intro ?_ ?_) <;> first | omega | exact Int.natCast_nonneg _ | (simp only [i64max]; omega) | (simp only [u8max]; omega) | (simp only [i64max, u8max, u16max, u32max, u64max]; omega) | (simp [mulSz, Cont.len, bne]; done) | (simp [mulSz, Cont.len, bne]; omega)))); conv => whnf)
    | (refine tst_in ?_ ?_; (focus (intro h_; exfalso; first | omega | ((try simp only [decide_eq_true_eq, decide_eq_false_iff_not] at h_); omega) | (simp [mulSz, Cont.len, bne] at h_; done) | (simp [mulSz, Cont.len, bne] at h_; omega))); intro _; conv => whnf)
    | (refine tst_in ?_ ?_; rotate_left; (focus (intro h_; exfalso; first | omega | ((try simp only [decide_eq_true_eq, decide_eq_false_iff_not] at h_); omega) | (simp [mulSz, Cont.len, bne] at h_; done) | (simp [mulSz, Cont.len, bne] at h_; omega))); intro _; conv => whnf))
  refine ⟨⟨[0, 1, 2], ((0, []) : Nat × List Bool), ?_, Nat.zero_le _⟩, ?_⟩
  · conv => whnf
    repeat' (first | exact True.intro | rfl | refine And.intro ?_ ?_)
    all_goals (conv => whnf)
    repeat' (first | exact True.intro | rfl | refine And.intro ?_ ?_)
    all_goals (try (first | omega | exact True.intro | rfl | assumption | (change LE.le (α := Nat) _ _; first | omega | (simp only []; omega)) | (simp only []; done) | (simp only []; omega) | (simp; done) | (simp; omega)))
  · rintro ⟨k, tl⟩ hk
    have hk : k ≤ n := hk
    have hrk := hrl k
    have hi1 := hi32 k
    show forceSt (st10 w T x n p q k tl) _
    conv => whnf
    rw [hwn]
    refine tst_in (fun hlt => ?_) (fun hge => ?_)
    · skip
      have hlt : k < n := by simp at hlt; omega
      conv => whnf
      repeat (first
        | (refine And.intro ?_ ?_; (focus (first | omega | decide | exact Int.natCast_nonneg _ | ((repeat' refine And.intro ?_ ?_) <;> first | omega | exact Int.natCast_nonneg _ | (simp only [i64max]; omega) | (simp only [u8max]; omega) | (simp only [i64max, u8max, u16max, u32max, u64max]; omega) | (simp [mulSz, Cont.len, bne]; done) | (simp [mulSz, Cont.len, bne]; omega)))); conv => whnf)
        | (refine tst_in ?_ ?_; (focus (intro h_; exfalso; first | omega | ((try simp only [decide_eq_true_eq, decide_eq_false_iff_not] at h_); omega) | (simp [mulSz, Cont.len, bne] at h_; done) | (simp [mulSz, Cont.len, bne] at h_; omega))); intro _; conv => whnf)
        | (refine tst_in ?_ ?_; rotate_left; (focus (intro h_; exfalso; first | omega | ((try simp only [decide_eq_true_eq, decide_eq_false_iff_not] at h_); omega) | (simp [mulSz, Cont.len, bne] at h_; done) | (simp [mulSz, Cont.len, bne] at h_; omega))); intro _; conv => whnf))
      refine ⟨_, [0], NX k, ?_⟩
      conv => whnf
      refine ⟨?_, ?_, ?_⟩
      · conv => whnf
        repeat' (first | exact True.intro | rfl | refine And.intro ?_ ?_ | omega)
        all_goals (conv => whnf)
        all_goals (try (first | rfl | omega | (simp; done)))
      · conv => whnf
        repeat' (first | exact True.intro | rfl | refine And.intro ?_ ?_ | omega)
        all_goals (conv => whnf)
        all_goals (try (first | rfl | omega | (simp; done)))
      conv => whnf
      refine ⟨?_, True.intro⟩
      intro _ _
      conv => whnf
      conv => whnf
      repeat (first
        | (refine And.intro ?_ ?_; (focus (first | omega | decide | exact Int.natCast_nonneg _ | ((repeat' refine And.intro ?_ ?_) <;> first | omega | exact Int.natCast_nonneg _ | (simp only [i64max]; omega) | (simp only [u8max]; omega) | (simp only [i64max, u8max, u16max, u32max, u64max]; omega) | (simp [mulSz, Cont.len, bne]; done) | (simp [mulSz, Cont.len, bne]; omega)))); conv => whnf)
        | (refine tst_in ?_ ?_; (focus (intro h_; exfalso; first | omega | ((try simp only [decide_eq_true_eq, decide_eq_false_iff_not] at h_); omega) | (simp [mulSz, Cont.len, bne] at h_; done) | (simp [mulSz, Cont.len, bne] at h_; omega))); intro _; conv => whnf)
        | (refine tst_in ?_ ?_; rotate_left; (focus (intro h_; exfalso; first | omega | ((try simp only [decide_eq_true_eq, decide_eq_false_iff_not] at h_); omega) | (simp [mulSz, Cont.len, bne] at h_; done) | (simp [mulSz, Cont.len, bne] at h_; omega))); intro _; conv => whnf))
      refine ⟨_, [0], SX (it w T x (k + 1)), ?_⟩
      conv => whnf
      refine ⟨?_, ?_, ?_⟩
      · conv => whnf
        repeat' (first | exact True.intro | rfl | refine And.intro ?_ ?_)
        all_goals (conv => whnf)
        repeat' (first | exact True.intro | rfl | refine And.intro ?_ ?_)
        all_goals (try (first | rfl | omega | (simp; done) | (simp; omega)))
      · conv => whnf
        repeat' (first | exact True.intro | rfl | refine And.intro ?_ ?_)
        all_goals (conv => whnf)
        repeat' (first | exact True.intro | rfl | refine And.intro ?_ ?_)
        all_goals (try (first | rfl | omega | (simp; done) | (simp; omega)))
      conv => whnf
      have hn1 := hne (k + 1)
      conv => whnf
      repeat (first
        | (refine And.intro ?_ ?_; (focus (first | omega | decide | exact Int.natCast_nonneg _ | ((repeat' refine And.intro ?_ ?_) <;> first | omega | exact Int.natCast_nonneg _ | (simp only [i64max]; omega) | (simp only [u8max]; omega) | (simp only [i64max, u8max, u16max, u32max, u64max]; omega) | (simp [mulSz, Cont.len, bne, hrk]; done) | (simp [mulSz, Cont.len, bne, hrk]; omega)))); conv => whnf)
        | (refine tst_in ?_ ?_; (focus (intro h_; exfalso; first | omega | ((try simp only [decide_eq_true_eq, decide_eq_false_iff_not] at h_); omega) | (simp [mulSz, Cont.len, bne, hrk] at h_; done) | (simp [mulSz, Cont.len, bne, hrk] at h_; omega))); intro _; conv => whnf)
        | (refine tst_in ?_ ?_; rotate_left; (focus (intro h_; exfalso; first | omega | ((try simp only [decide_eq_true_eq, decide_eq_false_iff_not] at h_); omega) | (simp [mulSz, Cont.len, bne, hrk] at h_; done) | (simp [mulSz, Cont.len, bne, hrk] at h_; omega))); intro _; conv => whnf))
      intro (tl2 : List Bool)
      conv => whnf
      repeat (first
        | (refine And.intro ?_ ?_; (focus (first | omega | decide | exact Int.natCast_nonneg _ | ((repeat' refine And.intro ?_ ?_) <;> first | omega | exact Int.natCast_nonneg _ | (simp only [i64max]; omega) | (simp only [u8max]; omega) | (simp only [i64max, u8max, u16max, u32max, u64max]; omega) | (simp [mulSz, Cont.len, bne]; done) | (simp [mulSz, Cont.len, bne]; omega)))); conv => whnf)
        | (refine tst_in ?_ ?_; (focus (intro h_; exfalso; first | omega | ((try simp only [decide_eq_true_eq, decide_eq_false_iff_not] at h_); omega) | (simp [mulSz, Cont.len, bne] at h_; done) | (simp [mulSz, Cont.len, bne] at h_; omega))); intro _; conv => whnf)
        | (refine tst_in ?_ ?_; rotate_left; (focus (intro h_; exfalso; first | omega | ((try simp only [decide_eq_true_eq, decide_eq_false_iff_not] at h_); omega) | (simp [mulSz, Cont.len, bne] at h_; done) | (simp [mulSz, Cont.len, bne] at h_; omega))); intro _; conv => whnf))
      refine ⟨[0, 1, 4], ((k + 1, tl2) : Nat × List Bool), ?_, (by show k + 1 ≤ n; omega), (by show n - (k + 1) < n - k; omega)⟩
      show stLe _ _ (st10 w T x n p q (k + 1) tl2) _
      conv => whnf
      repeat' (first | exact True.intro | rfl | refine And.intro ?_ ?_)
      all_goals (conv => whnf)
      repeat' (first | exact True.intro | rfl | refine And.intro ?_ ?_)
      all_goals (try omega)
      · skip
        show rowB w T x k ++ [(it w T x k).testBit 0] ++ tl2 = List.take k (List.drop 0 (rowB w T x k ++ tl)) ++ List.take 1 (List.drop 0 [(it w T x k).testBit 0]) ++ tl2
        rw [List.drop_zero, List.take_append_of_le_length (by omega), List.take_of_length_le (by omega)]; rfl
    · skip
      have hge : k = n := by simp at hge; omega
      subst hge
      have hwk : (k : Int) - 1 = ((k : Int) - 1 - ((0 : Nat) : Int)) := by omega
      conv => whnf
      repeat (first
        | (refine And.intro ?_ ?_; (focus (first | omega | decide | exact Int.natCast_nonneg _ | ((repeat' refine And.intro ?_ ?_) <;> first | omega | exact Int.natCast_nonneg _ | (simp only [i64max]; omega) | (simp only [u8max]; omega) | (simp only [i64max, u8max, u16max, u32max, u64max]; omega) | (simp [mulSz, Cont.len, bne]; done) | (simp [mulSz, Cont.len, bne]; omega)))); conv => whnf)
        | (refine tst_in ?_ ?_; (focus (intro h_; exfalso; first | omega | ((try simp only [decide_eq_true_eq, decide_eq_false_iff_not] at h_); omega) | (simp [mulSz, Cont.len, bne] at h_; done) | (simp [mulSz, Cont.len, bne] at h_; omega))); intro _; conv => whnf)
        | (refine tst_in ?_ ?_; rotate_left; (focus (intro h_; exfalso; first | omega | ((try simp only [decide_eq_true_eq, decide_eq_false_iff_not] at h_); omega) | (simp [mulSz, Cont.len, bne] at h_; done) | (simp [mulSz, Cont.len, bne] at h_; omega))); intro _; conv => whnf))
      refine ⟨_, [1], JX x k hxw ⟨by omega, by omega⟩, ?_⟩
      conv => whnf
      refine ⟨?_, ?_, ?_⟩
      · conv => whnf
        repeat' (first | exact True.intro | rfl | refine And.intro ?_ ?_ | omega)
        all_goals (conv => whnf)
        all_goals (try (first | rfl | omega | (simp; done)))
      · conv => whnf
        repeat' (first | exact True.intro | rfl | refine And.intro ?_ ?_ | omega)
        all_goals (conv => whnf)
        all_goals (try (first | rfl | omega | (simp; done)))
      conv => whnf
      refine ⟨?_, True.intro⟩
      intro _ _
      conv => whnf
      rw [jm_nat]
      conv => whnf
      repeat (first
        | (refine And.intro ?_ ?_; (focus (first | omega | decide | exact Int.natCast_nonneg _ | ((repeat' refine And.intro ?_ ?_) <;> first | omega | exact Int.natCast_nonneg _ | (simp only [i64max]; omega) | (simp only [u8max]; omega) | (simp only [i64max, u8max, u16max, u32max, u64max]; omega) | (simp [mulSz, Cont.len, bne]; done) | (simp [mulSz, Cont.len, bne]; omega)))); conv => whnf)
        | (refine tst_in ?_ ?_; (focus (intro h_; exfalso; first | omega | ((try simp only [decide_eq_true_eq, decide_eq_false_iff_not] at h_); omega) | (simp [mulSz, Cont.len, bne] at h_; done) | (simp [mulSz, Cont.len, bne] at h_; omega))); intro _; conv => whnf)
        | (refine tst_in ?_ ?_; rotate_left; (focus (intro h_; exfalso; first | omega | ((try simp only [decide_eq_true_eq, decide_eq_false_iff_not] at h_); omega) | (simp [mulSz, Cont.len, bne] at h_; done) | (simp [mulSz, Cont.len, bne] at h_; omega))); intro _; conv => whnf))
      refine ⟨_, [1], SX (it w T x k), ?_⟩
      conv => whnf
      refine ⟨?_, ?_, ?_⟩
      · conv => whnf
        repeat' (first | exact True.intro | rfl | refine And.intro ?_ ?_)
        all_goals (conv => whnf)
        repeat' (first | exact True.intro | rfl | refine And.intro ?_ ?_)
        all_goals (try (first | rfl | omega | (simp; done) | (simp; omega)))
      · conv => whnf
        repeat' (first | exact True.intro | rfl | refine And.intro ?_ ?_)
        all_goals (conv => whnf)
        repeat' (first | exact True.intro | rfl | refine And.intro ?_ ?_)
        all_goals (try (first | rfl | omega | (simp; done) | (simp; omega)))
      conv => whnf
      conv => whnf
      repeat (first
        | (refine And.intro ?_ ?_; (focus (first | omega | decide | exact Int.natCast_nonneg _ | ((repeat' refine And.intro ?_ ?_) <;> first | omega | exact Int.natCast_nonneg _ | (simp only [i64max]; omega) | (simp only [u8max]; omega) | (simp only [i64max, u8max, u16max, u32max, u64max]; omega) | (simp [mulSz, Cont.len, bne]; done) | (simp [mulSz, Cont.len, bne]; omega)))); conv => whnf)
        | (refine tst_in ?_ ?_; (focus (intro h_; exfalso; first | omega | ((try simp only [decide_eq_true_eq, decide_eq_false_iff_not] at h_); omega) | (simp [mulSz, Cont.len, bne] at h_; done) | (simp [mulSz, Cont.len, bne] at h_; omega))); intro _; conv => whnf)
        | (refine tst_in ?_ ?_; rotate_left; (focus (intro h_; exfalso; first | omega | ((try simp only [decide_eq_true_eq, decide_eq_false_iff_not] at h_); omega) | (simp [mulSz, Cont.len, bne] at h_; done) | (simp [mulSz, Cont.len, bne] at h_; omega))); intro _; conv => whnf))
      refine ⟨_, [0], SX (it w T x k), ?_⟩
      conv => whnf
      refine ⟨?_, ?_, ?_⟩
      · conv => whnf
        repeat' (first | exact True.intro | rfl | refine And.intro ?_ ?_)
        all_goals (conv => whnf)
        repeat' (first | exact True.intro | rfl | refine And.intro ?_ ?_)
        all_goals (try (first | rfl | omega | (simp; done) | (simp; omega)))
      · conv => whnf
        repeat' (first | exact True.intro | rfl | refine And.intro ?_ ?_)
        all_goals (conv => whnf)
        repeat' (first | exact True.intro | rfl | refine And.intro ?_ ?_)
        all_goals (try (first | rfl | omega | (simp; done) | (simp; omega)))
      conv => whnf
      conv => whnf
      repeat (first
        | (refine And.intro ?_ ?_; (focus (first | omega | decide | exact Int.natCast_nonneg _ | ((repeat' refine And.intro ?_ ?_) <;> first | omega | exact Int.natCast_nonneg _ | (simp only [i64max]; omega) | (simp only [u8max]; omega) | (simp only [i64max, u8max, u16max, u32max, u64max]; omega) | (simp [mulSz, Cont.len, bne]; done) | (simp [mulSz, Cont.len, bne]; omega)))); conv => whnf)
        | (refine tst_in ?_ ?_; (focus (intro h_; exfalso; first | omega | ((try simp only [decide_eq_true_eq, decide_eq_false_iff_not] at h_); omega) | (simp [mulSz, Cont.len, bne] at h_; done) | (simp [mulSz, Cont.len, bne] at h_; omega))); intro _; conv => whnf)
        | (refine tst_in ?_ ?_; rotate_left; (focus (intro h_; exfalso; first | omega | ((try simp only [decide_eq_true_eq, decide_eq_false_iff_not] at h_); omega) | (simp [mulSz, Cont.len, bne] at h_; done) | (simp [mulSz, Cont.len, bne] at h_; omega))); intro _; conv => whnf))
      refine And.intro ?_ ?_
      · skip
        conv => whnf
        rw [hwn]
        conv => whnf
        repeat (first
          | (refine And.intro ?_ ?_; (focus (first | omega | decide | exact Int.natCast_nonneg _ | ((repeat' refine And.intro ?_ ?_) <;> first | omega | exact Int.natCast_nonneg _ | (simp only [i64max]; omega) | (simp only [u8max]; omega) | (simp only [i64max, u8max, u16max, u32max, u64max]; omega) | (simp [mulSz, Cont.len, bne]; done) | (simp [mulSz, Cont.len, bne]; omega)))); conv => whnf)
          | (refine tst_in ?_ ?_; (focus (intro h_; exfalso; first | omega | ((try simp only [decide_eq_true_eq, decide_eq_false_iff_not] at h_); omega) | (simp [mulSz, Cont.len, bne] at h_; done) | (simp [mulSz, Cont.len, bne] at h_; omega))); intro _; conv => whnf)
          | (refine tst_in ?_ ?_; rotate_left; (focus (intro h_; exfalso; first | omega | ((try simp only [decide_eq_true_eq, decide_eq_false_iff_not] at h_); omega) | (simp [mulSz, Cont.len, bne] at h_; done) | (simp [mulSz, Cont.len, bne] at h_; omega))); intro _; conv => whnf))
        refine ⟨⟨[0, 1, 2], ((0, tl) : Nat × List Bool), ?_, Nat.zero_le _⟩, ?_⟩
        · conv => whnf
          repeat' (first | exact True.intro | rfl | refine And.intro ?_ ?_)
          all_goals (conv => whnf)
          repeat' (first | exact True.intro | rfl | refine And.intro ?_ ?_)
          all_goals (try (first | omega | exact True.intro | rfl | assumption | (change LE.le (α := Nat) _ _; first | omega | (simp only []; omega)) | (simp only []; done) | (simp only []; omega) | (simp; done) | (simp; omega)))
        · rintro ⟨j, tl2⟩ hj
          have hj : j ≤ k := hj
          have hrl2 : (rowB w T x k ++ tl2).length = k + tl2.length := by rw [List.length_append, hrk]
          show forceSt (st19 w T x k p q j tl2) _
          conv => whnf
          refine tst_in (fun hlt => ?_) (fun hge => ?_)
          · skip
            have hlt : j < k := by simp at hlt; omega
            obtain ⟨r, hr⟩ : ∃ r, k = j + 1 + r := ⟨k - (j + 1), by omega⟩
            have e1 : k - j = r + 1 := by omega
            have BR := BK r
            rw [hb] at BR
            rw [e1]
            conv => whnf
            repeat (first
              | (refine And.intro ?_ ?_; (focus (first | omega | decide | exact Int.natCast_nonneg _ | ((repeat' refine And.intro ?_ ?_) <;> first | omega | exact Int.natCast_nonneg _ | (simp only [i64max]; omega) | (simp only [u8max]; omega) | (simp only [i64max, u8max, u16max, u32max, u64max]; omega) | (simp [mulSz, Cont.len, bne]; done) | (simp [mulSz, Cont.len, bne]; omega)))); conv => whnf)
              | (refine tst_in ?_ ?_; (focus (intro h_; exfalso; first | omega | ((try simp only [decide_eq_true_eq, decide_eq_false_iff_not] at h_); omega) | (simp [mulSz, Cont.len, bne] at h_; done) | (simp [mulSz, Cont.len, bne] at h_; omega))); intro _; conv => whnf)
              | (refine tst_in ?_ ?_; rotate_left; (focus (intro h_; exfalso; first | omega | ((try simp only [decide_eq_true_eq, decide_eq_false_iff_not] at h_); omega) | (simp [mulSz, Cont.len, bne] at h_; done) | (simp [mulSz, Cont.len, bne] at h_; omega))); intro _; conv => whnf))
            refine ⟨_, [0], BR, ?_⟩
            conv => whnf
            refine ⟨?_, ?_, ?_⟩
            · conv => whnf
              repeat' (first | exact True.intro | rfl | refine And.intro ?_ ?_ | omega)
              all_goals (conv => whnf)
              all_goals (try (first | rfl | omega | (simp; done)))
            · conv => whnf
              repeat' (first | exact True.intro | rfl | refine And.intro ?_ ?_ | omega)
              all_goals (conv => whnf)
              all_goals (try (first | rfl | omega | (simp; done)))
            conv => whnf
            refine ⟨?_, True.intro⟩
            intro _ _
            conv => whnf
            conv => whnf
            repeat (first
              | (refine And.intro ?_ ?_; (focus (first | omega | decide | exact Int.natCast_nonneg _ | ((repeat' refine And.intro ?_ ?_) <;> first | omega | exact Int.natCast_nonneg _ | (simp only [i64max]; omega) | (simp only [u8max]; omega) | (simp only [i64max, u8max, u16max, u32max, u64max]; omega) | (simp [mulSz, Cont.len, bne]; done) | (simp [mulSz, Cont.len, bne]; omega)))); conv => whnf)
              | (refine tst_in ?_ ?_; (focus (intro h_; exfalso; first | omega | ((try simp only [decide_eq_true_eq, decide_eq_false_iff_not] at h_); omega) | (simp [mulSz, Cont.len, bne] at h_; done) | (simp [mulSz, Cont.len, bne] at h_; omega))); intro _; conv => whnf)
              | (refine tst_in ?_ ?_; rotate_left; (focus (intro h_; exfalso; first | omega | ((try simp only [decide_eq_true_eq, decide_eq_false_iff_not] at h_); omega) | (simp [mulSz, Cont.len, bne] at h_; done) | (simp [mulSz, Cont.len, bne] at h_; omega))); intro _; conv => whnf))
            have hix : 0 + ((k : Int) - 1 - (j : Int)).toNat = r := by omega
            have hgr : (rowB w T x k ++ tl2).getD r false = (it w T x r).testBit 0 := by
              rw [List.getD_eq_getElem?_getD, List.getElem?_append_left (by rw [hrk]; omega), ← List.getD_eq_getElem?_getD]; exact hrg k r (by omega)
            conv => whnf
            repeat (first
              | (refine And.intro ?_ ?_; (focus (first | omega | decide | exact Int.natCast_nonneg _ | ((repeat' refine And.intro ?_ ?_) <;> first | omega | exact Int.natCast_nonneg _ | (simp only [i64max]; omega) | (simp only [u8max]; omega) | (simp only [i64max, u8max, u16max, u32max, u64max]; omega) | (simp [mulSz, Cont.len, bne, hrl2]; done) | (simp [mulSz, Cont.len, bne, hrl2]; omega)))); conv => whnf)
              | (refine tst_in ?_ ?_; (focus (intro h_; exfalso; first | omega | ((try simp only [decide_eq_true_eq, decide_eq_false_iff_not] at h_); omega) | (simp [mulSz, Cont.len, bne, hrl2] at h_; done) | (simp [mulSz, Cont.len, bne, hrl2] at h_; omega))); intro _; conv => whnf)
              | (refine tst_in ?_ ?_; rotate_left; (focus (intro h_; exfalso; first | omega | ((try simp only [decide_eq_true_eq, decide_eq_false_iff_not] at h_); omega) | (simp [mulSz, Cont.len, bne, hrl2] at h_; done) | (simp [mulSz, Cont.len, bne, hrl2] at h_; omega))); intro _; conv => whnf))
            refine tst_in (fun h_ => absurd h_ (by rw [hix, hgr]; simp)) (fun _ => ?_)
            conv => whnf
            repeat (first
              | (refine And.intro ?_ ?_; (focus (first | omega | decide | exact Int.natCast_nonneg _ | ((repeat' refine And.intro ?_ ?_) <;> first | omega | exact Int.natCast_nonneg _ | (simp only [i64max]; omega) | (simp only [u8max]; omega) | (simp only [i64max, u8max, u16max, u32max, u64max]; omega) | (simp [mulSz, Cont.len, bne]; done) | (simp [mulSz, Cont.len, bne]; omega)))); conv => whnf)
              | (refine tst_in ?_ ?_; (focus (intro h_; exfalso; first | omega | ((try simp only [decide_eq_true_eq, decide_eq_false_iff_not] at h_); omega) | (simp [mulSz, Cont.len, bne] at h_; done) | (simp [mulSz, Cont.len, bne] at h_; omega))); intro _; conv => whnf)
              | (refine tst_in ?_ ?_; rotate_left; (focus (intro h_; exfalso; first | omega | ((try simp only [decide_eq_true_eq, decide_eq_false_iff_not] at h_); omega) | (simp [mulSz, Cont.len, bne] at h_; done) | (simp [mulSz, Cont.len, bne] at h_; omega))); intro _; conv => whnf))
            refine ⟨[0, 1, 2], ((j + 1, tl2) : Nat × List Bool), ?_, (by show j + 1 ≤ k; omega), (by show k - (j + 1) < k - j; omega)⟩
            show stLe _ _ (st19 w T x k p q (j + 1) tl2) _
            unfold st19
            rw [show k - (j + 1) = r by omega]
            conv => whnf
            repeat' (first | exact True.intro | rfl | refine And.intro ?_ ?_)
            all_goals (conv => whnf)
            repeat' (first | exact True.intro | rfl | refine And.intro ?_ ?_)
            all_goals (try omega)
          · skip
            have hge : j = k := by simp at hge; omega
            rw [show k - j = 0 by omega]
            conv => whnf
            repeat (first
              | (refine And.intro ?_ ?_; (focus (first | omega | decide | exact Int.natCast_nonneg _ | ((repeat' refine And.intro ?_ ?_) <;> first | omega | exact Int.natCast_nonneg _ | (simp only [i64max]; omega) | (simp only [u8max]; omega) | (simp only [i64max, u8max, u16max, u32max, u64max]; omega) | (simp [mulSz, Cont.len, bne]; done) | (simp [mulSz, Cont.len, bne]; omega)))); conv => whnf)
              | (refine tst_in ?_ ?_; (focus (intro h_; exfalso; first | omega | ((try simp only [decide_eq_true_eq, decide_eq_false_iff_not] at h_); omega) | (simp [mulSz, Cont.len, bne] at h_; done) | (simp [mulSz, Cont.len, bne] at h_; omega))); intro _; conv => whnf)
              | (refine tst_in ?_ ?_; rotate_left; (focus (intro h_; exfalso; first | omega | ((try simp only [decide_eq_true_eq, decide_eq_false_iff_not] at h_); omega) | (simp [mulSz, Cont.len, bne] at h_; done) | (simp [mulSz, Cont.len, bne] at h_; omega))); intro _; conv => whnf))
            refine ⟨[0, 1], (), ?_, True.intro⟩
            conv => whnf
            repeat' (first | exact True.intro | rfl | refine And.intro ?_ ?_)
            all_goals (conv => whnf)
            repeat' (first | exact True.intro | rfl | refine And.intro ?_ ?_)
            all_goals (try (first | omega | exact True.intro | rfl | assumption | (change LE.le (α := Nat) _ _; first | omega | (simp only []; omega)) | (simp only []; done) | (simp only []; omega) | (simp; done) | (simp; omega)))
      · rintro ⟨⟩ _
        show forceSt (stC w T x k p q x (it w T x k)) _
        conv => whnf
        refine And.intro ?_ ?_
        · skip
          conv => whnf
          rw [hwn]
          have J1 := JX (it w T x k) (0 - (k : Int)) (hit k) ⟨by omega, by omega⟩
          rw [show jm w T (0 - (k : Int)) (it w T x k) = x by rw [← jm_nat, hja, show (k : Int) + (0 - k) = 0 by omega]; rfl] at J1
          conv => whnf
          repeat (first
            | (refine And.intro ?_ ?_; (focus (first | omega | decide | exact Int.natCast_nonneg _ | ((repeat' refine And.intro ?_ ?_) <;> first | omega | exact Int.natCast_nonneg _ | (simp only [i64max]; omega) | (simp only [u8max]; omega) | (simp only [i64max, u8max, u16max, u32max, u64max]; omega) | (simp [mulSz, Cont.len, bne]; done) | (simp [mulSz, Cont.len, bne]; omega)))); conv => whnf)
            | (refine tst_in ?_ ?_; (focus (intro h_; exfalso; first | omega | ((try simp only [decide_eq_true_eq, decide_eq_false_iff_not] at h_); omega) | (simp [mulSz, Cont.len, bne] at h_; done) | (simp [mulSz, Cont.len, bne] at h_; omega))); intro _; conv => whnf)
            | (refine tst_in ?_ ?_; rotate_left; (focus (intro h_; exfalso; first | omega | ((try simp only [decide_eq_true_eq, decide_eq_false_iff_not] at h_); omega) | (simp [mulSz, Cont.len, bne] at h_; done) | (simp [mulSz, Cont.len, bne] at h_; omega))); intro _; conv => whnf))
          refine ⟨_, [1], J1, ?_⟩
          conv => whnf
          refine ⟨?_, ?_, ?_⟩
          · conv => whnf
            repeat' (first | exact True.intro | rfl | refine And.intro ?_ ?_ | omega)
            all_goals (conv => whnf)
            all_goals (try (first | rfl | omega | (simp; done)))
          · conv => whnf
            repeat' (first | exact True.intro | rfl | refine And.intro ?_ ?_ | omega)
            all_goals (conv => whnf)
            all_goals (try (first | rfl | omega | (simp; done)))
          conv => whnf
          refine ⟨?_, True.intro⟩
          intro _ _
          conv => whnf
          conv => whnf
          repeat (first
            | (refine And.intro ?_ ?_; (focus (first | omega | decide | exact Int.natCast_nonneg _ | ((repeat' refine And.intro ?_ ?_) <;> first | omega | exact Int.natCast_nonneg _ | (simp only [i64max]; omega) | (simp only [u8max]; omega) | (simp only [i64max, u8max, u16max, u32max, u64max]; omega) | (simp [mulSz, Cont.len, bne]; done) | (simp [mulSz, Cont.len, bne]; omega)))); conv => whnf)
            | (refine tst_in ?_ ?_; (focus (intro h_; exfalso; first | omega | ((try simp only [decide_eq_true_eq, decide_eq_false_iff_not] at h_); omega) | (simp [mulSz, Cont.len, bne] at h_; done) | (simp [mulSz, Cont.len, bne] at h_; omega))); intro _; conv => whnf)
            | (refine tst_in ?_ ?_; rotate_left; (focus (intro h_; exfalso; first | omega | ((try simp only [decide_eq_true_eq, decide_eq_false_iff_not] at h_); omega) | (simp [mulSz, Cont.len, bne] at h_; done) | (simp [mulSz, Cont.len, bne] at h_; omega))); intro _; conv => whnf))
          refine ⟨[0, 1], (), ?_, True.intro⟩
          conv => whnf
          repeat' (first | exact True.intro | rfl | refine And.intro ?_ ?_)
          all_goals (conv => whnf)
          repeat' (first | exact True.intro | rfl | refine And.intro ?_ ?_)
          all_goals (try (first | omega | exact True.intro | rfl | assumption | (change LE.le (α := Nat) _ _; first | omega | (simp only []; omega)) | (simp only []; done) | (simp only []; omega) | (simp; done) | (simp; omega)))
        · rintro ⟨⟩ _
          show forceSt (stC w T x k p q x x) _
          conv => whnf
          refine And.intro (by omega) ?_
          conv => whnf
          refine And.intro (by omega) ?_
          conv => whnf
          refine And.intro ?_ ?_
          · skip
            rw [hwp, hwq]
            conv => whnf
            have J2 := JX x (p.tdiv 4) hxw ⟨by omega, by omega⟩
            refine ⟨_, [1], J2, ?_⟩
            conv => whnf
            refine ⟨?_, ?_, ?_⟩
            · conv => whnf
              repeat' (first | exact True.intro | rfl | refine And.intro ?_ ?_ | omega)
              all_goals (conv => whnf)
              all_goals (try (first | rfl | omega | (simp; done)))
            · conv => whnf
              repeat' (first | exact True.intro | rfl | refine And.intro ?_ ?_ | omega)
              all_goals (conv => whnf)
              all_goals (try (first | rfl | omega | (simp; done)))
            conv => whnf
            refine ⟨?_, True.intro⟩
            intro _ _
            conv => whnf
            conv => whnf
            repeat (first
              | (refine And.intro ?_ ?_; (focus (first | omega | decide | exact Int.natCast_nonneg _ | ((repeat' refine And.intro ?_ ?_) <;> first | omega | exact Int.natCast_nonneg _ | (simp only [i64max]; omega) | (simp only [u8max]; omega) | (simp only [i64max, u8max, u16max, u32max, u64max]; omega) | (simp [mulSz, Cont.len, bne]; done) | (simp [mulSz, Cont.len, bne]; omega)))); conv => whnf)
              | (refine tst_in ?_ ?_; (focus (intro h_; exfalso; first | omega | ((try simp only [decide_eq_true_eq, decide_eq_false_iff_not] at h_); omega) | (simp [mulSz, Cont.len, bne] at h_; done) | (simp [mulSz, Cont.len, bne] at h_; omega))); intro _; conv => whnf)
              | (refine tst_in ?_ ?_; rotate_left; (focus (intro h_; exfalso; first | omega | ((try simp only [decide_eq_true_eq, decide_eq_false_iff_not] at h_); omega) | (simp [mulSz, Cont.len, bne] at h_; done) | (simp [mulSz, Cont.len, bne] at h_; omega))); intro _; conv => whnf))
            refine ⟨[0, 1], (), ?_, True.intro⟩
            conv => whnf
            repeat' (first | exact True.intro | rfl | refine And.intro ?_ ?_)
            all_goals (conv => whnf)
            repeat' (first | exact True.intro | rfl | refine And.intro ?_ ?_)
            all_goals (try (first | omega | exact True.intro | rfl | assumption | (change LE.le (α := Nat) _ _; first | omega | (simp only []; omega)) | (simp only []; done) | (simp only []; omega) | (simp; done) | (simp; omega)))
          · rintro ⟨⟩ _
            show forceSt (stC w T x k (p.tdiv 4) (q.tdiv 4) x (jm w T (p.tdiv 4) x)) _
            conv => whnf
            refine And.intro ?_ ?_
            · skip
              have J3 := JX (jm w T (p.tdiv 4) x) (q.tdiv 4) (hj _) ⟨by omega, by omega⟩
              rw [hja] at J3
              conv => whnf
              refine ⟨_, [1], J3, ?_⟩
              conv => whnf
              refine ⟨?_, ?_, ?_⟩
              · conv => whnf
                repeat' (first | exact True.intro | rfl | refine And.intro ?_ ?_ | omega)
                all_goals (conv => whnf)
                all_goals (try (first | rfl | omega | (simp; done)))
              · conv => whnf
                repeat' (first | exact True.intro | rfl | refine And.intro ?_ ?_ | omega)
                all_goals (conv => whnf)
                all_goals (try (first | rfl | omega | (simp; done)))
              conv => whnf
              refine ⟨?_, True.intro⟩
              intro _ _
              conv => whnf
              conv => whnf
              repeat (first
                | (refine And.intro ?_ ?_; (focus (first | omega | decide | exact Int.natCast_nonneg _ | ((repeat' refine And.intro ?_ ?_) <;> first | omega | exact Int.natCast_nonneg _ | (simp only [i64max]; omega) | (simp only [u8max]; omega) | (simp only [i64max, u8max, u16max, u32max, u64max]; omega) | (simp [mulSz, Cont.len, bne]; done) | (simp [mulSz, Cont.len, bne]; omega)))); conv => whnf)
                | (refine tst_in ?_ ?_; (focus (intro h_; exfalso; first | omega | ((try simp only [decide_eq_true_eq, decide_eq_false_iff_not] at h_); omega) | (simp [mulSz, Cont.len, bne] at h_; done) | (simp [mulSz, Cont.len, bne] at h_; omega))); intro _; conv => whnf)
                | (refine tst_in ?_ ?_; rotate_left; (focus (intro h_; exfalso; first | omega | ((try simp only [decide_eq_true_eq, decide_eq_false_iff_not] at h_); omega) | (simp [mulSz, Cont.len, bne] at h_; done) | (simp [mulSz, Cont.len, bne] at h_; omega))); intro _; conv => whnf))
              refine ⟨[0, 1], (), ?_, True.intro⟩
              conv => whnf
              repeat' (first | exact True.intro | rfl | refine And.intro ?_ ?_)
              all_goals (conv => whnf)
              repeat' (first | exact True.intro | rfl | refine And.intro ?_ ?_)
              all_goals (try (first | omega | exact True.intro | rfl | assumption | (change LE.le (α := Nat) _ _; first | omega | (simp only []; omega)) | (simp only []; done) | (simp only []; omega) | (simp; done) | (simp; omega)))
            · rintro ⟨⟩ _
              show forceSt (stC w T x k (p.tdiv 4) (q.tdiv 4) x (jm w T (p.tdiv 4 + q.tdiv 4) x)) _
              have J4 := JX x (p.tdiv 4 + q.tdiv 4) hxw ⟨by omega, by omega⟩
              have J5 := JX (jm w T (p.tdiv 4 + q.tdiv 4) x) (0 - (p.tdiv 4 + q.tdiv 4)) (hj _) ⟨by omega, by omega⟩
              rw [hja, show p.tdiv 4 + q.tdiv 4 + (0 - (p.tdiv 4 + q.tdiv 4)) = 0 by omega, jm_zero] at J5
              conv => whnf
              refine And.intro ?_ ?_
              · skip
                conv => whnf
                refine ⟨_, [0], SX x, ?_⟩
                conv => whnf
                refine ⟨?_, ?_, ?_⟩
                · conv => whnf
                  repeat' (first | exact True.intro | rfl | refine And.intro ?_ ?_)
                  all_goals (conv => whnf)
                  repeat' (first | exact True.intro | rfl | refine And.intro ?_ ?_)
                  all_goals (try (first | rfl | omega | (simp; done) | (simp; omega)))
                · conv => whnf
                  repeat' (first | exact True.intro | rfl | refine And.intro ?_ ?_)
                  all_goals (conv => whnf)
                  repeat' (first | exact True.intro | rfl | refine And.intro ?_ ?_)
                  all_goals (try (first | rfl | omega | (simp; done) | (simp; omega)))
                conv => whnf
                conv => whnf
                repeat (first
                  | (refine And.intro ?_ ?_; (focus (first | omega | decide | exact Int.natCast_nonneg _ | ((repeat' refine And.intro ?_ ?_) <;> first | omega | exact Int.natCast_nonneg _ | (simp only [i64max]; omega) | (simp only [u8max]; omega) | (simp only [i64max, u8max, u16max, u32max, u64max]; omega) | (simp [mulSz, Cont.len, bne]; done) | (simp [mulSz, Cont.len, bne]; omega)))); conv => whnf)
                  | (refine tst_in ?_ ?_; (focus (intro h_; exfalso; first | omega | ((try simp only [decide_eq_true_eq, decide_eq_false_iff_not] at h_); omega) | (simp [mulSz, Cont.len, bne] at h_; done) | (simp [mulSz, Cont.len, bne] at h_; omega))); intro _; conv => whnf)
                  | (refine tst_in ?_ ?_; rotate_left; (focus (intro h_; exfalso; first | omega | ((try simp only [decide_eq_true_eq, decide_eq_false_iff_not] at h_); omega) | (simp [mulSz, Cont.len, bne] at h_; done) | (simp [mulSz, Cont.len, bne] at h_; omega))); intro _; conv => whnf))
                refine ⟨_, [0], J4, ?_⟩
                conv => whnf
                refine ⟨?_, ?_, ?_⟩
                · conv => whnf
                  repeat' (first | exact True.intro | rfl | refine And.intro ?_ ?_ | omega)
                  all_goals (conv => whnf)
                  all_goals (try (first | rfl | omega | (simp; done)))
                · conv => whnf
                  repeat' (first | exact True.intro | rfl | refine And.intro ?_ ?_ | omega)
                  all_goals (conv => whnf)
                  all_goals (try (first | rfl | omega | (simp; done)))
                conv => whnf
                refine ⟨?_, True.intro⟩
                intro _ _
                conv => whnf
                conv => whnf
                repeat (first
                  | (refine And.intro ?_ ?_; (focus (first | omega | decide | exact Int.natCast_nonneg _ | ((repeat' refine And.intro ?_ ?_) <;> first | omega | exact Int.natCast_nonneg _ | (simp only [i64max]; omega) | (simp only [u8max]; omega) | (simp only [i64max, u8max, u16max, u32max, u64max]; omega) | (simp [mulSz, Cont.len, bne]; done) | (simp [mulSz, Cont.len, bne]; omega)))); conv => whnf)
                  | (refine tst_in ?_ ?_; (focus (intro h_; exfalso; first | omega | ((try simp only [decide_eq_true_eq, decide_eq_false_iff_not] at h_); omega) | (simp [mulSz, Cont.len, bne] at h_; done) | (simp [mulSz, Cont.len, bne] at h_; omega))); intro _; conv => whnf)
                  | (refine tst_in ?_ ?_; rotate_left; (focus (intro h_; exfalso; first | omega | ((try simp only [decide_eq_true_eq, decide_eq_false_iff_not] at h_); omega) | (simp [mulSz, Cont.len, bne] at h_; done) | (simp [mulSz, Cont.len, bne] at h_; omega))); intro _; conv => whnf))
                refine ⟨_, [0], SX (jm w T (p.tdiv 4 + q.tdiv 4) x), ?_⟩
                conv => whnf
                refine ⟨?_, ?_, ?_⟩
                · conv => whnf
                  repeat' (first | exact True.intro | rfl | refine And.intro ?_ ?_)
                  all_goals (conv => whnf)
                  repeat' (first | exact True.intro | rfl | refine And.intro ?_ ?_)
                  all_goals (try (first | rfl | omega | (simp; done) | (simp; omega)))
                · conv => whnf
                  repeat' (first | exact True.intro | rfl | refine And.intro ?_ ?_)
                  all_goals (conv => whnf)
                  repeat' (first | exact True.intro | rfl | refine And.intro ?_ ?_)
                  all_goals (try (first | rfl | omega | (simp; done) | (simp; omega)))
                conv => whnf
                conv => whnf
                repeat (first
                  | (refine And.intro ?_ ?_; (focus (first | omega | decide | exact Int.natCast_nonneg _ | ((repeat' refine And.intro ?_ ?_) <;> first | omega | exact Int.natCast_nonneg _ | (simp only [i64max]; omega) | (simp only [u8max]; omega) | (simp only [i64max, u8max, u16max, u32max, u64max]; omega) | (simp [mulSz, Cont.len, bne]; done) | (simp [mulSz, Cont.len, bne]; omega)))); conv => whnf)
                  | (refine tst_in ?_ ?_; (focus (intro h_; exfalso; first | omega | ((try simp only [decide_eq_true_eq, decide_eq_false_iff_not] at h_); omega) | (simp [mulSz, Cont.len, bne] at h_; done) | (simp [mulSz, Cont.len, bne] at h_; omega))); intro _; conv => whnf)
                  | (refine tst_in ?_ ?_; rotate_left; (focus (intro h_; exfalso; first | omega | ((try simp only [decide_eq_true_eq, decide_eq_false_iff_not] at h_); omega) | (simp [mulSz, Cont.len, bne] at h_; done) | (simp [mulSz, Cont.len, bne] at h_; omega))); intro _; conv => whnf))
                refine ⟨_, [1], SX (jm w T (p.tdiv 4 + q.tdiv 4) x), ?_⟩
                conv => whnf
                refine ⟨?_, ?_, ?_⟩
                · conv => whnf
                  repeat' (first | exact True.intro | rfl | refine And.intro ?_ ?_)
                  all_goals (conv => whnf)
                  repeat' (first | exact True.intro | rfl | refine And.intro ?_ ?_)
                  all_goals (try (first | rfl | omega | (simp; done) | (simp; omega)))
                · conv => whnf
                  repeat' (first | exact True.intro | rfl | refine And.intro ?_ ?_)
                  all_goals (conv => whnf)
                  repeat' (first | exact True.intro | rfl | refine And.intro ?_ ?_)
                  all_goals (try (first | rfl | omega | (simp; done) | (simp; omega)))
                conv => whnf
                conv => whnf
                repeat (first
                  | (refine And.intro ?_ ?_; (focus (first | omega | decide | exact Int.natCast_nonneg _ | ((repeat' refine And.intro ?_ ?_) <;> first | omega | exact Int.natCast_nonneg _ | (simp only [i64max]; omega) | (simp only [u8max]; omega) | (simp only [i64max, u8max, u16max, u32max, u64max]; omega) | (simp [mulSz, Cont.len, bne]; done) | (simp [mulSz, Cont.len, bne]; omega)))); conv => whnf)
                  | (refine tst_in ?_ ?_; (focus (intro h_; exfalso; first | omega | ((try simp only [decide_eq_true_eq, decide_eq_false_iff_not] at h_); omega) | (simp [mulSz, Cont.len, bne] at h_; done) | (simp [mulSz, Cont.len, bne] at h_; omega))); intro _; conv => whnf)
                  | (refine tst_in ?_ ?_; rotate_left; (focus (intro h_; exfalso; first | omega | ((try simp only [decide_eq_true_eq, decide_eq_false_iff_not] at h_); omega) | (simp [mulSz, Cont.len, bne] at h_; done) | (simp [mulSz, Cont.len, bne] at h_; omega))); intro _; conv => whnf))
                refine ⟨[0, 1], (), ?_, True.intro⟩
                conv => whnf
                repeat' (first | exact True.intro | rfl | refine And.intro ?_ ?_)
                all_goals (conv => whnf)
                repeat' (first | exact True.intro | rfl | refine And.intro ?_ ?_)
                all_goals (try (first | omega | exact True.intro | rfl | assumption | (change LE.le (α := Nat) _ _; first | omega | (simp only []; omega)) | (simp only []; done) | (simp only []; omega) | (simp; done) | (simp; omega)))
              · rintro ⟨⟩ _
                show forceSt (stC w T x k (p.tdiv 4) (q.tdiv 4) (jm w T (p.tdiv 4 + q.tdiv 4) x) (jm w T (p.tdiv 4 + q.tdiv 4) x)) _
                conv => whnf
                repeat (first
                  | (refine And.intro ?_ ?_; (focus (first | omega | decide | exact Int.natCast_nonneg _ | ((repeat' refine And.intro ?_ ?_) <;> first | omega | exact Int.natCast_nonneg _ | (simp only [i64max]; omega) | (simp only [u8max]; omega) | (simp only [i64max, u8max, u16max, u32max, u64max]; omega) | (simp [mulSz, Cont.len, bne]; done) | (simp [mulSz, Cont.len, bne]; omega)))); conv => whnf)
                  | (refine tst_in ?_ ?_; (focus (intro h_; exfalso; first | omega | ((try simp only [decide_eq_true_eq, decide_eq_false_iff_not] at h_); omega) | (simp [mulSz, Cont.len, bne] at h_; done) | (simp [mulSz, Cont.len, bne] at h_; omega))); intro _; conv => whnf)
                  | (refine tst_in ?_ ?_; rotate_left; (focus (intro h_; exfalso; first | omega | ((try simp only [decide_eq_true_eq, decide_eq_false_iff_not] at h_); omega) | (simp [mulSz, Cont.len, bne] at h_; done) | (simp [mulSz, Cont.len, bne] at h_; omega))); intro _; conv => whnf))
                refine ⟨_, [1], J5, ?_⟩
                conv => whnf
                refine ⟨?_, ?_, ?_⟩
                · conv => whnf
                  repeat' (first | exact True.intro | rfl | refine And.intro ?_ ?_ | omega)
                  all_goals (conv => whnf)
                  all_goals (try (first | rfl | omega | (simp; done)))
                · conv => whnf
                  repeat' (first | exact True.intro | rfl | refine And.intro ?_ ?_ | omega)
                  all_goals (conv => whnf)
                  all_goals (try (first | rfl | omega | (simp; done)))
                conv => whnf
                refine ⟨?_, True.intro⟩
                intro _ _
                conv => whnf
                conv => whnf
                repeat (first
                  | (refine And.intro ?_ ?_; (focus (first | omega | decide | exact Int.natCast_nonneg _ | ((repeat' refine And.intro ?_ ?_) <;> first | omega | exact Int.natCast_nonneg _ | (simp only [i64max]; omega) | (simp only [u8max]; omega) | (simp only [i64max, u8max, u16max, u32max, u64max]; omega) | (simp [mulSz, Cont.len, bne]; done) | (simp [mulSz, Cont.len, bne]; omega)))); conv => whnf)
                  | (refine tst_in ?_ ?_; (focus (intro h_; exfalso; first | omega | ((try simp only [decide_eq_true_eq, decide_eq_false_iff_not] at h_); omega) | (simp [mulSz, Cont.len, bne] at h_; done) | (simp [mulSz, Cont.len, bne] at h_; omega))); intro _; conv => whnf)
                  | (refine tst_in ?_ ?_; rotate_left; (focus (intro h_; exfalso; first | omega | ((try simp only [decide_eq_true_eq, decide_eq_false_iff_not] at h_); omega) | (simp [mulSz, Cont.len, bne] at h_; done) | (simp [mulSz, Cont.len, bne] at h_; omega))); intro _; conv => whnf))
                refine ⟨_, [1], SX x, ?_⟩
                conv => whnf
                refine ⟨?_, ?_, ?_⟩
                · conv => whnf
                  repeat' (first | exact True.intro | rfl | refine And.intro ?_ ?_)
                  all_goals (conv => whnf)
                  repeat' (first | exact True.intro | rfl | refine And.intro ?_ ?_)
                  all_goals (try (first | rfl | omega | (simp; done) | (simp; omega)))
                · conv => whnf
                  repeat' (first | exact True.intro | rfl | refine And.intro ?_ ?_)
                  all_goals (conv => whnf)
                  repeat' (first | exact True.intro | rfl | refine And.intro ?_ ?_)
                  all_goals (try (first | rfl | omega | (simp; done) | (simp; omega)))
                conv => whnf
                conv => whnf
                repeat (first
                  | (refine And.intro ?_ ?_; (focus (first | omega | decide | exact Int.natCast_nonneg _ | ((repeat' refine And.intro ?_ ?_) <;> first | omega | exact Int.natCast_nonneg _ | (simp only [i64max]; omega) | (simp only [u8max]; omega) | (simp only [i64max, u8max, u16max, u32max, u64max]; omega) | (simp [mulSz, Cont.len, bne]; done) | (simp [mulSz, Cont.len, bne]; omega)))); conv => whnf)
                  | (refine tst_in ?_ ?_; (focus (intro h_; exfalso; first | omega | ((try simp only [decide_eq_true_eq, decide_eq_false_iff_not] at h_); omega) | (simp [mulSz, Cont.len, bne] at h_; done) | (simp [mulSz, Cont.len, bne] at h_; omega))); intro _; conv => whnf)
                  | (refine tst_in ?_ ?_; rotate_left; (focus (intro h_; exfalso; first | omega | ((try simp only [decide_eq_true_eq, decide_eq_false_iff_not] at h_); omega) | (simp [mulSz, Cont.len, bne] at h_; done) | (simp [mulSz, Cont.len, bne] at h_; omega))); intro _; conv => whnf))
                refine .inl ⟨(), [], ?_⟩
                conv => whnf
                repeat' (first | exact True.intro | rfl | refine And.intro ?_ ?_)
                all_goals (conv => whnf)
                repeat' (first | exact True.intro | rfl | refine And.intro ?_ ?_)
                all_goals (try (first | omega | exact True.intro | rfl | assumption | (change LE.le (α := Nat) _ _; first | omega | (simp only []; omega)) | (simp only []; done) | (simp only []; omega) | (simp; done) | (simp; omega)))
theorem wf_i64 {n : Int} (h : (Lit.int .i64 n).wf = true) : -9223372036854775808 ≤ n ∧ n ≤ 9223372036854775807 := by
  simp only [Lit.wf, Bool.and_eq_true, decide_eq_true_eq, show IntKind.min .i64 = -9223372036854775808 from rfl, show IntKind.max .i64 = 9223372036854775807 from rfl] at h
  exact h
theorem ju_f (a t s n p q : Int) (ht : (Lit.int .u32 t).wf = true) (hs : (Lit.int .u32 s).wf = true) (hn : (Lit.int .u8 n).wf = true) (hp : (Lit.int .i64 p).wf = true) (hq : (Lit.int .i64 q).wf = true) : Fits Try.prog 6 (juSpec a t s n p q) := by
  obtain ⟨t', rfl, h1⟩ := wf_nat (m := 4294967295) ht rfl rfl
  obtain ⟨s', rfl, h2⟩ := wf_nat (m := 4294967295) hs rfl rfl
  obtain ⟨n', rfl, h3⟩ := wf_nat (m := 255) hn rfl rfl
  exact ju_R a t' s' n' p q (by omega) (by omega) (by omega) (wf_i64 hp) (wf_i64 hq)
end Go.Proofs.Ytdahkhhngaanfaa

namespace Go.Proofs.Ytdahkhhngaanfaa
open Go Go.Fw
namespace scrambleJumps
open Go.ChangeShapes Go.WideShapes Go.ChangeAt Go.RowKit
theorem own : ownKnob Try.prog.godebug = none := by kernel_rfl
theorem laid : laidOutB Try.prog = true := by kernel_rfl

set_option maxRecDepth 100000 in
theorem lifted (os : Os) (started : os.Started) (H : Type) (enc : TypeId × Value → H) :
    ReturnsInHanded {} Try.checked os 6 .any (Rows.scrambleJumpsSpec.pre6 enc Try.prog Try.f6 Rows.scrambleJumpsRow.domain false) (Rows.scrambleJumpsSpec.post enc Try.prog Try.f6 false true false false) := by
  refine returnsInHanded_of_change_sized (C := Try.checked) own started (by kernel_rfl) Try.func6
    (ChangeSpec.witness6 (enc := enc) (C := Try.checked) false ⟨#[], #[.int .i64 0, .int .u32 0, .int .u32 0, .int .u8 0, .int .i64 0, .int .i64 0], []⟩ 8 (by kernel_rfl) (by kernel_rfl) (by kernel_rfl) (by kernel_rfl)) ?_
  intro W base args ds gs before hval0 hW _ hsz0 _
  clear hsz0
  have hval : ∀ (j : Nat) t v, Try.f6.params[j]? = some t → args[j]? = some v → Value.okWide Try.prog W .any base t v := hval0
  have hW' := hW
  obtain ⟨p, q, hA0, hV, rfl, hfz, hnd⟩ := hW
  have hA : DataW.TrodAll enc Try.prog W 0 (fun _ => true) true Try.f6.params.toList args.toList ds p := hA0
  rw [Try.params6] at hA hval
  obtain ⟨v0, vs0, d0, ds0, p0, q0, hargs, rfl, rfl, h0, r0⟩ := trodAll_cons hA
  obtain ⟨v1, vs1, d1, ds1, p1, q1, rfl, rfl, rfl, h1, r1⟩ := trodAll_cons r0
  obtain ⟨v2, vs2, d2, ds2, p2, q2, rfl, rfl, rfl, h2, r2⟩ := trodAll_cons r1
  obtain ⟨v3, vs3, d3, ds3, p3, q3, rfl, rfl, rfl, h3, r3⟩ := trodAll_cons r2
  obtain ⟨v4, vs4, d4, ds4, p4, q4, rfl, rfl, rfl, h4, r4⟩ := trodAll_cons r3
  obtain ⟨v5, vs5, d5, ds5, p5, q5, rfl, rfl, rfl, h5, r5⟩ := trodAll_cons r4
  obtain ⟨rfl, rfl, rfl⟩ := trodAll_nil r5
  obtain rfl : args = #[v0, v1, v2, v3, v4, v5] := by cases args; simp_all
  obtain ⟨rfl, rfl⟩ := trodVars_none hV
  obtain ⟨k0, rfl, rfl, rfl, w0⟩ := open_int Try.underlying3 (hval 0 3 v0 rfl rfl) h0
  obtain ⟨k1, rfl, rfl, rfl, w1⟩ := open_int Try.underlying22 (hval 1 22 v1 rfl rfl) h1
  obtain ⟨k2, rfl, rfl, rfl, w2⟩ := open_int Try.underlying22 (hval 2 22 v2 rfl rfl) h2
  obtain ⟨k3, rfl, rfl, rfl, w3⟩ := open_int Try.underlying5 (hval 3 5 v3 rfl rfl) h3
  obtain ⟨k4, rfl, rfl, rfl, w4⟩ := open_int Try.underlying2 (hval 4 2 v4 rfl rfl) h4
  obtain ⟨k5, rfl, rfl, rfl, w5⟩ := open_int Try.underlying2 (hval 5 2 v5 rfl rfl) h5
  clear hA0 hval0
  have walk := (ju_f k0 k1 k2 k3 k4 k5 w1 w2 w3 w4 w5).calls W [] [.int .i64 k0, .int .u32 k1, .int .u32 k2, .int .u8 k3, .int .i64 k4, .int .i64 k5] (heap_args rfl fun i s hs => by simp [juSpec] at hs) (by simp only [juSpec, Dens]; exact ⟨_, _, rfl, by simp [Den], ⟨_, _, rfl, by simp [Den], ⟨_, _, rfl, by simp [Den], ⟨_, _, rfl, by simp [Den], ⟨_, _, rfl, by simp [Den], ⟨_, _, rfl, by simp [Den], rfl⟩⟩⟩⟩⟩⟩) (x := .bool true) (v := .bool true) rfl (by
      intro o ho y hy
      simp [juSpec] at ho
      subst ho; rfl)
  refine walk.mono fun e W' ⟨he, hg⟩ => ?_
  subst he
  exact ⟨_, rfl, law_done laid rfl rfl Try.underlying4 (by kernel_rfl) hW' rfl hg⟩

theorem over : Rows.scrambleJumpsRow.holds Try.pinned (OpenSpec.ofChange Rows.scrambleJumpsSpec) :=
  OpenClaim.holds_of_wide 6 Try.f6 rfl rfl rfl rfl rfl rfl rfl ⟨rfl, rfl, rfl, rfl, rfl⟩ rfl rfl rfl rfl rfl (by kernel_rfl) Try.func6 (by kernel_rfl)
    (of_decide_eq_true (by kernel_rfl)) (by unfold Func.isWrapper; first | (rw [if_pos (by decide +kernel)]; kernel_rfl) | (rw [if_neg (by decide +kernel)]; exact ⟨rfl, rfl⟩))
    (fun os started H enc _ => lifted os started H enc)

theorem proved : Rows.ScrambleJumpsSaid := over
end scrambleJumps
end Go.Proofs.Ytdahkhhngaanfaa
