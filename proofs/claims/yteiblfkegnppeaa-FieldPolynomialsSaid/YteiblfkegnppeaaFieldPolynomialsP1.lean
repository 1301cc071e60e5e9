/-
  What the functions that are called give: for FieldPolynomials.
-/
import Derived.Test.YteiblfkegnppeaaRows
import Derived.Test.YteiblfkegnppeaaFv
set_option linter.unusedSimpArgs false
set_option linter.unusedVariables false
set_option linter.unusedVariables false
set_option linter.unusedSimpArgs false
namespace Go.Proofs.Yteiblfkegnppeaa
open Go Go.Fw
def tyL : List (Nat × TyI) := [
  (1, ⟨.func, 1, 8, .nilFunc⟩),
  (2, ⟨.int .i64, 1, 8, .int .i64 0⟩),
  (3, ⟨.int .i64, 1, 8, .int .i64 0⟩),
  (4, ⟨.bool, 1, 1, .bool false⟩),
  (5, ⟨.int .u8, 1, 1, .int .u8 0⟩),
  (9, ⟨.str, 1, 16, .string (ByteArray.mk #[])⟩),
  (12, ⟨.int .u64, 1, 8, .int .u64 0⟩),
  (21, ⟨.int .i32, 1, 4, .int .i32 0⟩),
  (22, ⟨.int .i64, 1, 8, .int .i64 0⟩),
  (24, ⟨.func, 1, 8, .nilFunc⟩),
  (25, ⟨.func, 1, 8, .nilFunc⟩),
  (27, ⟨.func, 1, 8, .nilFunc⟩),
  (28, ⟨.func, 1, 8, .nilFunc⟩),
  (29, ⟨.func, 1, 8, .nilFunc⟩),
  (30, ⟨.func, 1, 8, .nilFunc⟩),
  (31, ⟨.func, 1, 8, .nilFunc⟩),
  (32, ⟨.struct [(0, 5), (1, 5), (2, 5), (3, 21), (4, 21)], 5, 12, .agg #[.int .u8 0, .int .u8 0, .int .u8 0, .int .i32 0, .int .i32 0]⟩),
  (33, ⟨.struct [(0, 5), (1, 5), (2, 5), (3, 21), (4, 21)], 5, 12, .agg #[.int .u8 0, .int .u8 0, .int .u8 0, .int .i32 0, .int .i32 0]⟩),
  (34, ⟨.func, 1, 8, .nilFunc⟩),
  (35, ⟨.slice 5, 1, 24, .slice none 0 0⟩),
  (36, ⟨.struct [(0, 35), (1, 35), (2, 35), (3, 5)], 4, 80, .agg #[.slice none 0 0, .slice none 0 0, .slice none 0 0, .int .u8 0]⟩),
  (37, ⟨.struct [(0, 35), (1, 35), (2, 35), (3, 5)], 4, 80, .agg #[.slice none 0 0, .slice none 0 0, .slice none 0 0, .int .u8 0]⟩),
  (39, ⟨.func, 1, 8, .nilFunc⟩),
  (40, ⟨.func, 1, 8, .nilFunc⟩),
  (41, ⟨.func, 1, 8, .nilFunc⟩),
  (43, ⟨.func, 1, 8, .nilFunc⟩),
  (44, ⟨.func, 1, 8, .nilFunc⟩),
  (45, ⟨.func, 1, 8, .nilFunc⟩),
  (46, ⟨.func, 1, 8, .nilFunc⟩),
  (47, ⟨.array 256 3, 256, 2048, .agg ⟨List.replicate 256 (.int .i64 0)⟩⟩),
  (48, ⟨.slice 50, 1, 24, .slice none 0 0⟩),
  (49, ⟨.struct [(0, 5), (1, 5)], 2, 2, .agg #[.int .u8 0, .int .u8 0]⟩),
  (50, ⟨.struct [(0, 5), (1, 5)], 2, 2, .agg #[.int .u8 0, .int .u8 0]⟩),
  (51, ⟨.func, 1, 8, .nilFunc⟩),
  (52, ⟨.func, 1, 8, .nilFunc⟩),
  (53, ⟨.func, 1, 8, .nilFunc⟩),
  (54, ⟨.func, 1, 8, .nilFunc⟩),
  (55, ⟨.slice 56, 1, 24, .slice none 0 0⟩),
  (56, ⟨.struct [(0, 5), (1, 5)], 2, 2, .agg #[.int .u8 0, .int .u8 0]⟩),
  (57, ⟨.func, 1, 8, .nilFunc⟩),
  (58, ⟨.func, 1, 8, .nilFunc⟩),
  (59, ⟨.func, 1, 8, .nilFunc⟩),
  (60, ⟨.func, 1, 8, .nilFunc⟩),
  (61, ⟨.int .u64, 1, 8, .int .u64 0⟩),
  (62, ⟨.func, 1, 8, .nilFunc⟩),
  (63, ⟨.func, 1, 8, .nilFunc⟩),
  (64, ⟨.func, 1, 8, .nilFunc⟩),
  (66, ⟨.func, 1, 8, .nilFunc⟩),
  (67, ⟨.func, 1, 8, .nilFunc⟩),
  (68, ⟨.array 256 4, 256, 256, .agg ⟨List.replicate 256 (.bool false)⟩⟩),
  (69, ⟨.slice 35, 1, 24, .slice none 0 0⟩),
  (70, ⟨.func, 1, 8, .nilFunc⟩),
  (71, ⟨.func, 1, 8, .nilFunc⟩),
  (72, ⟨.func, 1, 8, .nilFunc⟩),
  (78, ⟨.func, 1, 8, .nilFunc⟩),
  (79, ⟨.int .u32, 1, 4, .int .u32 0⟩),
  (82, ⟨.func, 1, 8, .nilFunc⟩),
  (83, ⟨.ptr 5, 1, 8, .pointer none⟩)]
theorem tokL : TOk Try.prog tyL := tokl_of ⟨⟨by kernel_rfl, by kernel_rfl⟩, ⟨by kernel_rfl, by kernel_rfl⟩, ⟨by kernel_rfl, by kernel_rfl⟩, ⟨by kernel_rfl, by kernel_rfl⟩, ⟨by kernel_rfl, by kernel_rfl⟩, ⟨by kernel_rfl, by kernel_rfl⟩, ⟨by kernel_rfl, by kernel_rfl⟩, ⟨by kernel_rfl, by kernel_rfl⟩, ⟨by kernel_rfl, by kernel_rfl⟩, ⟨by kernel_rfl, by kernel_rfl⟩, ⟨by kernel_rfl, by kernel_rfl⟩, ⟨by kernel_rfl, by kernel_rfl⟩, ⟨by kernel_rfl, by kernel_rfl⟩, ⟨by kernel_rfl, by kernel_rfl⟩, ⟨by kernel_rfl, by kernel_rfl⟩, ⟨by kernel_rfl, by kernel_rfl⟩, ⟨by kernel_rfl, by kernel_rfl⟩, ⟨by kernel_rfl, by kernel_rfl⟩, ⟨by kernel_rfl, by kernel_rfl⟩, ⟨by kernel_rfl, by kernel_rfl⟩, ⟨by kernel_rfl, by kernel_rfl⟩, ⟨by kernel_rfl, by kernel_rfl⟩, ⟨by kernel_rfl, by kernel_rfl⟩, ⟨by kernel_rfl, by kernel_rfl⟩, ⟨by kernel_rfl, by kernel_rfl⟩, ⟨by kernel_rfl, by kernel_rfl⟩, ⟨by kernel_rfl, by kernel_rfl⟩, ⟨by kernel_rfl, by kernel_rfl⟩, ⟨by kernel_rfl, by kernel_rfl⟩, ⟨by kernel_rfl, by kernel_rfl⟩, ⟨by kernel_rfl, by kernel_rfl⟩, ⟨by kernel_rfl, by kernel_rfl⟩, ⟨by kernel_rfl, by kernel_rfl⟩, ⟨by kernel_rfl, by kernel_rfl⟩, ⟨by kernel_rfl, by kernel_rfl⟩, ⟨by kernel_rfl, by kernel_rfl⟩, ⟨by kernel_rfl, by kernel_rfl⟩, ⟨by kernel_rfl, by kernel_rfl⟩, ⟨by kernel_rfl, by kernel_rfl⟩, ⟨by kernel_rfl, by kernel_rfl⟩, ⟨by kernel_rfl, by kernel_rfl⟩, ⟨by kernel_rfl, by kernel_rfl⟩, ⟨by kernel_rfl, by kernel_rfl⟩, ⟨by kernel_rfl, by kernel_rfl⟩, ⟨by kernel_rfl, by kernel_rfl⟩, ⟨by kernel_rfl, by kernel_rfl⟩, ⟨by kernel_rfl, by kernel_rfl⟩, ⟨by kernel_rfl, by kernel_rfl⟩, ⟨by kernel_rfl, by kernel_rfl⟩, ⟨by kernel_rfl, by kernel_rfl⟩, ⟨by kernel_rfl, by kernel_rfl⟩, ⟨by kernel_rfl, by kernel_rfl⟩, ⟨by kernel_rfl, by kernel_rfl⟩, ⟨by kernel_rfl, by kernel_rfl⟩, ⟨by kernel_rfl, by kernel_rfl⟩, ⟨by kernel_rfl, by kernel_rfl⟩, ⟨by kernel_rfl, by kernel_rfl⟩, ⟨by kernel_rfl, by kernel_rfl⟩, True.intro⟩
theorem mixedL : Try.prog.follows .mixedOrders = true := by kernel_rfl
theorem i64max : IntKind.i64.max = 9223372036854775807 := rfl
theorem u8max : IntKind.u8.max = 255 := rfl
theorem u16max : IntKind.u16.max = 65535 := rfl
theorem u32max : IntKind.u32.max = 4294967295 := rfl
theorem u64max : IntKind.u64.max = 18446744073709551615 := rfl
def numOut (D : List Seg) (x : AV) : FOut := ⟨Unit, fun _ => True, fun _ => x, fun _ => D⟩
theorem wtok : TOk Try.prog tyL := tokL
theorem wmixed : Try.prog.follows .mixedOrders = true := mixedL
def qf : Nat → Bool := fun f => match f with | 10 => true | 15 => true | 16 => true | 17 => true | 18 => true | 19 => true | 25 => true | 27 => true | 36 => true | 38 => true | 39 => true | 40 => true | 41 => true | 55 => true | 58 => true | 62 => true | _ => false
def cfgk (k : Nat) : Cfg := { T := tyL, sgn := fun _ => false, wr := fun _ => false, k := k, q := qf }
def cfg : Cfg := cfgk 0
theorem u8wrap (n : Int) : IntKind.u8.wrap n = n % 256 := by
  unfold IntKind.wrap
  simp [IntKind.bits, IntKind.signed]

def ta (a : Nat) : Nat := Nat.xor (Nat.mod (Nat.mul 2 a) 256) (Nat.land 29 (Nat.mod (Nat.sub 256 (Nat.div a 128)) 256))
def tp (a b p : Nat) : Nat := Nat.xor p (Nat.land a (Nat.mod (Nat.sub 256 (Nat.mod b 2)) 256))
noncomputable def tmul (f : Nat) : Nat → Nat → Nat → Nat := @Nat.rec (fun _ => Nat → Nat → Nat → Nat) (fun _ _ p => p) (fun _ ih a b p => ih (ta a) (Nat.div b 2) (tp a b p)) f
/-- The product. -/
noncomputable def T (a b : Nat) : Nat := tmul 8 a b 0
theorem ta_lt (a : Nat) : ta a < 256 := Nat.xor_lt_two_pow (n := 8) (Nat.mod_lt _ (by decide)) (Nat.lt_of_le_of_lt Nat.and_le_right (Nat.mod_lt _ (by decide)))
theorem tp_lt {a b p : Nat} (hp : p < 256) : tp a b p < 256 := Nat.xor_lt_two_pow (n := 8) hp (Nat.lt_of_le_of_lt Nat.and_le_right (Nat.mod_lt _ (by decide)))
theorem tmul_lt : ∀ (f a b p : Nat), p < 256 → tmul f a b p < 256
  | 0, _, _, _, h => h
  | f + 1, a, b, p, h => tmul_lt f _ _ _ (tp_lt h)
theorem T_lt (a b : Nat) : T a b < 256 := tmul_lt 8 a b 0 (by decide)
theorem tmul_zero : ∀ (f a p : Nat), tmul f a 0 p = p
  | 0, _, _ => rfl
  | f + 1, a, p => by
    have h1 : tp a 0 p = p := by
      show p ^^^ (a &&& ((256 - 0 % 2) % 256)) = p
      simp
    show tmul f (ta a) (0 / 2) (tp a 0 p) = p
    rw [h1, Nat.zero_div, tmul_zero f]
noncomputable def c17 : Code := (Try.f17.body).getD .skip
structure TS where
  f : Nat
  a : Nat
  b : Nat
  p : Nat
noncomputable def inv17 (A B : Nat) : LInv := ⟨TS, fun s => ⟨anyTo 28 [.int .u8 s.a, .int .u8 s.b, .any, .any, .any, .int .u8 s.p], []⟩, fun s => s.a < 256 ∧ s.b < 2 ^ s.f ∧ s.f ≤ 8 ∧ s.p < 256 ∧ tmul s.f s.a s.b s.p = T A B, fun s => s.f⟩
set_option maxRecDepth 100000 in
theorem Times_q (A B : Nat) (hA : A < 256) (hB : B < 256) : QFits Try.prog 17 ⟨[.int .u8 A, .int .u8 B], [], .int .u8 (T A B)⟩ := by
  refine qfits_of_body (C := cfg) (c := c17) (ts := [4]) wtok wmixed (fun | 2 => some (inv17 A B) | _ => none) (fun _ => none)
    Try.func17 (by kernel_rfl) (by kernel_rfl) (by kernel_rfl) (by kernel_rfl) (by kernel_rfl) rfl rfl ?_
  conv => whnf
  refine ⟨⟨[], (⟨8, A, B, 0⟩ : TS), ?_, hA, hB, Nat.le_refl _, (by decide : 0 < 256), rfl⟩, ?_⟩
  · conv => whnf
    repeat' (first | exact True.intro | rfl | refine And.intro ?_ ?_)
  · rintro ⟨f, a, b, p⟩ ⟨ha, hb, hf, hp, hT⟩
    dsimp only at ha hb hf hp hT
    have hb2 : b < 256 := Nat.lt_of_lt_of_le hb (Nat.pow_le_pow_right (by decide) hf)
    show forceSt ⟨anyTo 28 [.int .u8 (a : Nat), .int .u8 (b : Nat), .any, .any, .any, .int .u8 (p : Nat)], []⟩ _
    conv => whnf
    refine tst_in (fun hne => ?_) (fun he => ?_)
    · skip
      have hne : b ≠ 0 := by simp at hne; omega
      cases f with
      | zero => simp at hb; omega
      | succ f =>
        have e1 : ((((b : Int).toNat &&& (1 : Int).toNat : Nat)) : Int) = ((b % 2 : Nat) : Int) := by
          rw [Int.toNat_natCast, show (1 : Int).toNat = 1 from rfl, Nat.and_one_is_mod]
        have e2 : IntKind.u8.wrap (0 - ((b % 2 : Nat) : Int)) = (((256 - b % 2) % 256 : Nat) : Int) := by rw [u8wrap]; omega
        have e3 : ((((a : Int).toNat &&& ((((256 - b % 2) % 256 : Nat) : Int)).toNat : Nat)) : Int) = ((a &&& ((256 - b % 2) % 256) : Nat) : Int) := by
          rw [Int.toNat_natCast, Int.toNat_natCast]
        have l3 : a &&& ((256 - b % 2) % 256) < 256 := Nat.lt_of_le_of_lt Nat.and_le_right (Nat.mod_lt _ (by decide))
        conv => whnf
        refine ⟨by repeat' (first | omega | exact Int.natCast_nonneg _ | (simp only [i64max]; omega) | (simp only [u8max]; omega) | refine And.intro ?_ ?_), ?_⟩
        conv => whnf
        rw [e1]
        conv => whnf
        rw [e2]
        refine ⟨by repeat' (first | omega | exact Int.natCast_nonneg _ | (simp only [i64max]; omega) | (simp only [u8max]; omega) | refine And.intro ?_ ?_), ?_⟩
        conv => whnf
        rw [e3]
        refine ⟨by repeat' (first | omega | exact Int.natCast_nonneg _ | (simp only [i64max]; omega) | (simp only [u8max]; omega) | refine And.intro ?_ ?_), ?_⟩
        conv => whnf
        have e4 : ((((p : Int).toNat ^^^ (((a &&& ((256 - b % 2) % 256) : Nat) : Int)).toNat : Nat)) : Int) = ((tp a b p : Nat) : Int) := by
          rw [Int.toNat_natCast, Int.toNat_natCast]; rfl
        rw [e4]
        have e5 : (a : Int) / 2 ^ (min (7 : Int).toNat IntKind.u8.bits) = ((a / 128 : Nat) : Int) := by
          show (a : Int) / 2 ^ 7 = _
          omega
        have e6 : IntKind.u8.wrap (0 - ((a / 128 : Nat) : Int)) = (((256 - a / 128) % 256 : Nat) : Int) := by rw [u8wrap]; omega
        have l7 : 29 &&& ((256 - a / 128) % 256) < 256 := Nat.lt_of_le_of_lt Nat.and_le_right (Nat.mod_lt _ (by decide))
        have e8 : IntKind.u8.wrap ((a : Int) * 2 ^ (min (1 : Int).toNat IntKind.u8.bits)) = (((2 * a) % 256 : Nat) : Int) := by
          rw [u8wrap]
          show (a : Int) * 2 ^ 1 % 256 = _
          omega
        have e10 : (b : Int) / 2 ^ (min (1 : Int).toNat IntKind.u8.bits) = ((b / 2 : Nat) : Int) := by
          show (b : Int) / 2 ^ 1 = _
          omega
        conv => whnf
        refine ⟨by repeat' (first | omega | exact Int.natCast_nonneg _ | (simp only [i64max]; omega) | (simp only [u8max]; omega) | refine And.intro ?_ ?_), ?_⟩
        conv => whnf
        rw [e5]
        conv => whnf
        rw [e6]
        refine ⟨by repeat' (first | omega | exact Int.natCast_nonneg _ | (simp only [i64max]; omega) | (simp only [u8max]; omega) | refine And.intro ?_ ?_), ?_⟩
        conv => whnf
        have e7 : ((((29 : Int).toNat &&& ((((256 - a / 128) % 256 : Nat) : Int)).toNat : Nat)) : Int) = ((29 &&& ((256 - a / 128) % 256) : Nat) : Int) := by
          rw [Int.toNat_natCast]; rfl
        rw [e7]
        conv => whnf
        refine ⟨by repeat' (first | omega | exact Int.natCast_nonneg _ | (simp only [i64max]; omega) | (simp only [u8max]; omega) | refine And.intro ?_ ?_), ?_⟩
        conv => whnf
        rw [e8]
        conv => whnf
        refine ⟨by repeat' (first | omega | exact Int.natCast_nonneg _ | (simp only [i64max]; omega) | (simp only [u8max]; omega) | refine And.intro ?_ ?_), ?_⟩
        conv => whnf
        have e9 : ((((((2 * a) % 256 : Nat) : Int)).toNat ^^^ (((29 &&& ((256 - a / 128) % 256) : Nat) : Int)).toNat : Nat) : Int) = ((ta a : Nat) : Int) := by
          rw [Int.toNat_natCast, Int.toNat_natCast]; rfl
        rw [e9]
        conv => whnf
        refine ⟨by repeat' (first | omega | exact Int.natCast_nonneg _ | (simp only [i64max]; omega) | (simp only [u8max]; omega) | refine And.intro ?_ ?_), ?_⟩
        conv => whnf
        rw [e10]
        conv => whnf
        refine ⟨[], (⟨f, ta a, b / 2, tp a b p⟩ : TS), ?_, ⟨ta_lt a, ?_, (by show f ≤ 8; omega), tp_lt hp, hT⟩, ?_⟩
        · conv => whnf
          repeat' (first | exact True.intro | rfl | refine And.intro ?_ ?_)
        · show b / 2 < 2 ^ f
          rw [Nat.pow_succ] at hb
          omega
        · show f < f + 1
          omega
    · skip
      have he : b = 0 := by simp at he; omega
      subst he
      conv => whnf
      repeat' (first | exact True.intro | rfl | refine And.intro ?_ ?_)
      all_goals (show ((T A B : Nat) : Int) = (p : Int); rw [← hT, tmul_zero])



noncomputable def pwl (f : Nat) : Nat → Nat → Nat → Nat := @Nat.rec (fun _ => Nat → Nat → Nat → Nat) (fun _ _ x => x) (fun _ ih a n x => ih (T a a) (Nat.div n 2) (@Bool.rec (fun _ => Nat) x (T x a) (Nat.beq (Nat.mod n 2) 1))) f
/-- A power, by squares. -/
noncomputable def pw (a n : Nat) : Nat := pwl 8 a n 1
theorem pwl_even {f a n x : Nat} (h : n % 2 = 0) : pwl (f + 1) a n x = pwl f (T a a) (n / 2) x := by
  show pwl f (T a a) (n / 2) (@Bool.rec (fun _ => Nat) x (T x a) (Nat.beq (n % 2) 1)) = _
  rw [h]; rfl
theorem pwl_odd {f a n x : Nat} (h : n % 2 = 1) : pwl (f + 1) a n x = pwl f (T a a) (n / 2) (T x a) := by
  show pwl f (T a a) (n / 2) (@Bool.rec (fun _ => Nat) x (T x a) (Nat.beq (n % 2) 1)) = _
  rw [h]; rfl
theorem pwl_zero : ∀ (f a x : Nat), pwl f a 0 x = x
  | 0, _, _ => rfl
  | f + 1, a, x => by rw [pwl_even rfl]; exact pwl_zero f _ _
noncomputable def c18 : Code := (Try.f39.body).getD .skip
noncomputable def inv18 (A N : Nat) : LInv := ⟨TS, fun s => ⟨anyTo 20 [.int .u8 s.a, .int .i64 s.b, .any, .any, .any, .int .u8 s.p], []⟩, fun s => s.a < 256 ∧ s.b < 2 ^ s.f ∧ s.f ≤ 8 ∧ s.p < 256 ∧ pwl s.f s.a s.b s.p = pw A N, fun s => s.f⟩
set_option maxRecDepth 100000 in
theorem power_q (A N : Nat) (hA : A < 256) (hN : N < 256) : QFits Try.prog 39 ⟨[.int .u8 A, .int .i64 N], [], .int .u8 (pw A N : Nat)⟩ := by
  refine qfits_of_body (C := cfg) (c := c18) (ts := [4]) wtok wmixed (fun | 2 => some (inv18 A N) | _ => none) (fun _ => none)
    Try.func39 (by kernel_rfl) (by kernel_rfl) (by kernel_rfl) (by kernel_rfl) (by kernel_rfl) rfl rfl ?_
  conv => whnf
  refine ⟨⟨[], (⟨8, A, N, 1⟩ : TS), ?_, hA, hN, Nat.le_refl _, (by decide : 1 < 256), rfl⟩, ?_⟩
  · conv => whnf
    repeat' (first | exact True.intro | rfl | refine And.intro ?_ ?_)
  · rintro ⟨f, a, n, x⟩ ⟨ha, hb, hf, hp, hT⟩
    dsimp only at ha hb hf hp hT
    have hb2 : n < 256 := Nat.lt_of_lt_of_le hb (Nat.pow_le_pow_right (by decide) hf)
    show forceSt ⟨anyTo 20 [.int .u8 (a : Nat), .int .i64 (n : Nat), .any, .any, .any, .int .u8 (x : Nat)], []⟩ _
    conv => whnf
    refine tst_in (fun hne => ?_) (fun he => ?_)
    · skip
      have hne : n ≠ 0 := by simp at hne; omega
      cases f with
      | zero => simp at hb; omega
      | succ f =>
        have hb3 : n / 2 < 2 ^ f := by rw [Nat.pow_succ] at hb; omega
        have e1 : ((((n : Int).toNat &&& (1 : Int).toNat : Nat)) : Int) = ((n % 2 : Nat) : Int) := by
          rw [Int.toNat_natCast, show (1 : Int).toNat = 1 from rfl, Nat.and_one_is_mod]
        have e2 : (n : Int) / 2 ^ (min (1 : Int).toNat IntKind.i64.bits) = ((n / 2 : Nat) : Int) := by
          show (n : Int) / 2 ^ 1 = _
          omega
        conv => whnf
        refine ⟨by repeat' (first | omega | exact Int.natCast_nonneg _ | (simp only [i64max]; omega) | (simp only [u8max]; omega) | refine And.intro ?_ ?_), ?_⟩
        conv => whnf
        rw [e1]
        conv => whnf
        refine tst_in (fun h1 => ?_) (fun h1 => ?_)
        · skip
          have h1 : n % 2 = 1 := by simp at h1; omega
          rw [pwl_odd h1] at hT
          conv => whnf
          refine ⟨_, [], Times_q x a hp ha, ?_⟩
          conv => whnf
          iterate 2
           refine And.intro ?_ ?_
           focus
            conv => whnf
            repeat' (first | exact True.intro | rfl | refine And.intro ?_ ?_ | omega)
            all_goals (conv => whnf)
            all_goals (try (first | rfl | omega | (simp; done)))
          conv => whnf
          refine ⟨_, [], Times_q a a ha ha, ?_⟩
          conv => whnf
          iterate 2
           refine And.intro ?_ ?_
           focus
            conv => whnf
            repeat' (first | exact True.intro | rfl | refine And.intro ?_ ?_ | omega)
            all_goals (conv => whnf)
            all_goals (try (first | rfl | omega | (simp; done)))
          conv => whnf
          refine ⟨by repeat' (first | omega | exact Int.natCast_nonneg _ | (simp only [i64max]; omega) | (simp only [u8max]; omega) | refine And.intro ?_ ?_), ?_⟩
          conv => whnf
          rw [e2]
          conv => whnf
          refine ⟨[], (⟨f, T a a, n / 2, T x a⟩ : TS), ?_, ⟨T_lt _ _, hb3, (by show f ≤ 8; omega), T_lt _ _, hT⟩, ?_⟩
          · conv => whnf
            repeat' (first | exact True.intro | rfl | refine And.intro ?_ ?_)
          · show f < f + 1
            omega
        · skip
          have h1 : n % 2 = 0 := by simp at h1; omega
          rw [pwl_even h1] at hT
          conv => whnf
          refine ⟨_, [], Times_q a a ha ha, ?_⟩
          conv => whnf
          iterate 2
           refine And.intro ?_ ?_
           focus
            conv => whnf
            repeat' (first | exact True.intro | rfl | refine And.intro ?_ ?_ | omega)
            all_goals (conv => whnf)
            all_goals (try (first | rfl | omega | (simp; done)))
          conv => whnf
          refine ⟨by repeat' (first | omega | exact Int.natCast_nonneg _ | (simp only [i64max]; omega) | (simp only [u8max]; omega) | refine And.intro ?_ ?_), ?_⟩
          conv => whnf
          rw [e2]
          conv => whnf
          refine ⟨[], (⟨f, T a a, n / 2, x⟩ : TS), ?_, ⟨T_lt _ _, hb3, (by show f ≤ 8; omega), hp, hT⟩, ?_⟩
          · conv => whnf
            repeat' (first | exact True.intro | rfl | refine And.intro ?_ ?_)
          · show f < f + 1
            omega
    · skip
      have he : n = 0 := by simp at he; omega
      subst he
      conv => whnf
      repeat' (first | exact True.intro | rfl | refine And.intro ?_ ?_)
      all_goals (show ((pw A N : Nat) : Int) = (x : Int); rw [← hT, pwl_zero])
noncomputable def fN (n : Nat) (K : Nat → Bool) : Bool := @Nat.rec (fun _ => Bool) (K 0) (fun q _ => K (Nat.succ q)) n
theorem fN_eq (n : Nat) (K : Nat → Bool) : fN n K = K n := by cases n <;> rfl
noncomputable def ifB (c : Bool) (a : Bool) : Bool := @Bool.rec (fun _ => Bool) false a c
theorem ifB_out {c a : Bool} (h : ifB c a = true) : c = true ∧ a = true := by
  cases c
  · cases h
  · exact ⟨rfl, h⟩
def X (a b : Int) : Int := ((a.toNat ^^^ b.toNat : Nat) : Int)
noncomputable def allN (f : Nat → Bool) (n : Nat) : Bool := @Nat.rec (fun _ => Bool) true (fun i ih => ifB (f i) ih) n
theorem allN_out {f : Nat → Bool} : ∀ {n : Nat}, allN f n = true → ∀ i, i < n → f i = true
  | 0, _, i, h => absurd h (by omega)
  | n + 1, h, i, hi => by
    obtain ⟨h1, h2⟩ := ifB_out (show ifB (f n) (allN f n) = true from h)
    rcases Nat.lt_or_ge i n with h3 | h3
    · exact allN_out h2 i h3
    · have : i = n := by omega
      subst this; exact h1
set_option maxHeartbeats 0 in
set_option maxRecDepth 1000000 in
theorem kX : allN (fun a => allN (fun b => Nat.beq (ta (Nat.xor a b)) (Nat.xor (ta a) (ta b))) 256) 256 = true := by kernel_rfl
theorem ta_xor {a b : Nat} (ha : a < 256) (hb : b < 256) : ta (a ^^^ b) = ta a ^^^ ta b := Nat.eq_of_beq_eq_true (allN_out (allN_out kX a ha) b hb)
theorem xor_lt {a b : Nat} (ha : a < 256) (hb : b < 256) : a ^^^ b < 256 := Nat.xor_lt_two_pow (n := 8) ha hb
theorem xor4 (a b c d : Nat) : (a ^^^ b) ^^^ (c ^^^ d) = (a ^^^ c) ^^^ (b ^^^ d) := by
  rw [Nat.xor_assoc, Nat.xor_assoc, ← Nat.xor_assoc b c d, Nat.xor_comm b c, Nat.xor_assoc c b d]
theorem tp_xor (a a' b p p' : Nat) : tp (a ^^^ a') b (p ^^^ p') = tp a b p ^^^ tp a' b p' := by
  show (p ^^^ p') ^^^ ((a ^^^ a') &&& ((256 - b % 2) % 256)) = (p ^^^ (a &&& ((256 - b % 2) % 256))) ^^^ (p' ^^^ (a' &&& ((256 - b % 2) % 256)))
  rw [Nat.and_xor_distrib_right, xor4]
theorem tmul_xor : ∀ (f a a' b p p' : Nat), a < 256 → a' < 256 → tmul f (a ^^^ a') b (p ^^^ p') = tmul f a b p ^^^ tmul f a' b p'
  | 0, _, _, _, _, _, _, _ => rfl
  | f + 1, a, a', b, p, p', ha, ha' => by
    show tmul f (ta (a ^^^ a')) (b / 2) (tp (a ^^^ a') b (p ^^^ p')) = tmul f (ta a) (b / 2) (tp a b p) ^^^ tmul f (ta a') (b / 2) (tp a' b p')
    rw [ta_xor ha ha', tp_xor, tmul_xor f _ _ _ _ _ (ta_lt _) (ta_lt _)]
theorem T_xor_l {a a' b : Nat} (ha : a < 256) (ha' : a' < 256) : T (a ^^^ a') b = T a b ^^^ T a' b := tmul_xor 8 a a' b 0 0 ha ha'
noncomputable def hitB (a : Nat) (f : Nat) : Nat → Bool := @Nat.rec (fun _ => Nat → Bool) (fun _ => false) (fun _ ih x => @Bool.rec (fun _ => Bool) (fN (T x 2) ih) true (Nat.beq x a)) f
noncomputable def srch (a : Nat) (f : Nat) : Nat → Nat → Nat := @Nat.rec (fun _ => Nat → Nat → Nat) (fun n _ => n) (fun _ ih n x => @Bool.rec (fun _ => Nat) (ih (Nat.succ n) (T x 2)) n (Nat.beq x a)) f
noncomputable def lg (a : Nat) : Nat := srch a 255 0 1
set_option maxHeartbeats 0 in
set_option maxRecDepth 1000000 in
theorem kL : allN (fun a => hitB (Nat.succ a) 255 1) 255 = true := by kernel_rfl
set_option maxHeartbeats 0 in
set_option maxRecDepth 1000000 in
theorem kC : allN (fun a => allN (fun b => Nat.beq (T a b) (T b a)) 256) 256 = true := by kernel_rfl
set_option maxHeartbeats 0 in
set_option maxRecDepth 1000000 in
theorem k1 : allN (fun a => Nat.beq (T a 1) a) 256 = true := by kernel_rfl
set_option maxHeartbeats 0 in
set_option maxRecDepth 1000000 in
theorem kA0 : allN (fun a => allN (fun b => Nat.beq (T a (T b 2)) (T (T a b) 2)) 256) 128 = true := by kernel_rfl
set_option maxHeartbeats 0 in
set_option maxRecDepth 1000000 in
theorem kA1 : allN (fun a => allN (fun b => Nat.beq (T (Nat.add 128 a) (T b 2)) (T (T (Nat.add 128 a) b) 2)) 256) 128 = true := by kernel_rfl
set_option maxHeartbeats 0 in
set_option maxRecDepth 1000000 in
theorem kZ2 : allN (fun a => Nat.ble 1 (T (Nat.succ a) 2)) 255 = true := by kernel_rfl
theorem hit_ok {a : Nat} (ha : a < 256) (h0 : a ≠ 0) : hitB a 255 1 = true := by
  obtain ⟨c, rfl⟩ : ∃ c, a = c + 1 := ⟨a - 1, by omega⟩
  exact allN_out kL c (by omega)
theorem hit_eq {a f x : Nat} (h : x = a) : hitB a (f + 1) x = true ∧ ∀ n, srch a (f + 1) n x = n := by
  subst h
  refine ⟨?_, fun n => ?_⟩
  · show @Bool.rec (fun _ => Bool) _ true (Nat.beq x x) = true
    rw [Nat.beq_eq.mpr rfl]
  · show @Bool.rec (fun _ => Nat) _ n (Nat.beq x x) = n
    rw [Nat.beq_eq.mpr rfl]
theorem beq_no {x a : Nat} (h : x ≠ a) : Nat.beq x a = false := by
  cases h2 : Nat.beq x a with
  | false => rfl
  | true => exact absurd (Nat.eq_of_beq_eq_true h2) h
theorem hit_ne {a f x : Nat} (h : x ≠ a) : hitB a (f + 1) x = hitB a f (T x 2) ∧ ∀ n, srch a (f + 1) n x = srch a f (n + 1) (T x 2) := by
  refine ⟨?_, fun n => ?_⟩
  · show @Bool.rec (fun _ => Bool) (fN (T x 2) (hitB a f)) true (Nat.beq x a) = _
    rw [beq_no h, fN_eq]
  · show @Bool.rec (fun _ => Nat) (srch a f (Nat.succ n) (T x 2)) n (Nat.beq x a) = _
    rw [beq_no h]
theorem T_comm {a b : Nat} (ha : a < 256) (hb : b < 256) : T a b = T b a := Nat.eq_of_beq_eq_true (allN_out (allN_out kC a ha) b hb)
theorem T_one {a : Nat} (ha : a < 256) : T a 1 = a := Nat.eq_of_beq_eq_true (allN_out k1 a ha)
theorem T_zero (a : Nat) : T a 0 = 0 := tmul_zero 8 a 0
theorem T_two {a b : Nat} (ha : a < 256) (hb : b < 256) : T a (T b 2) = T (T a b) 2 := by
  rcases Nat.lt_or_ge a 128 with h | h
  · exact Nat.eq_of_beq_eq_true (allN_out (allN_out kA0 a h) b hb)
  · obtain ⟨c, rfl⟩ : ∃ c, a = 128 + c := ⟨a - 128, by omega⟩
    exact Nat.eq_of_beq_eq_true (allN_out (allN_out kA1 c (by omega)) b hb)
theorem T_xor_r {a b b' : Nat} (ha : a < 256) (hb : b < 256) (hb' : b' < 256) : T a (b ^^^ b') = T a b ^^^ T a b' := by
  rw [T_comm ha (xor_lt hb hb'), T_xor_l hb hb', T_comm hb ha, T_comm hb' ha]
/-- So many times 2. -/
noncomputable def mk2 (x n : Nat) : Nat := @Nat.rec (fun _ => Nat) x (fun _ z => T z 2) n
theorem mk2_lt {x : Nat} (hx : x < 256) : ∀ n, mk2 x n < 256
  | 0 => hx
  | n + 1 => T_lt _ _
theorem T_mk2 {x y : Nat} (hx : x < 256) (hy : y < 256) : ∀ n, T x (mk2 y n) = mk2 (T x y) n
  | 0 => rfl
  | n + 1 => by
    show T x (T (mk2 y n) 2) = T (mk2 (T x y) n) 2
    rw [T_two hx (mk2_lt hy n), T_mk2 hx hy n]
theorem hit_mk {a : Nat} : ∀ (f x n : Nat), hitB a f x = true → ∃ k, k < f ∧ srch a f n x = n + k ∧ mk2 x k = a
  | 0, x, n, h => by cases h
  | f + 1, x, n, h => by
    by_cases he : x = a
    · exact ⟨0, by omega, by rw [(hit_eq he).2]; rfl, he⟩
    · rw [(hit_ne he).1] at h
      obtain ⟨k, h1, h2, h3⟩ := hit_mk f (T x 2) (n + 1) h
      refine ⟨k + 1, by omega, by rw [(hit_ne he).2, h2]; omega, ?_⟩
      have shift : ∀ k, mk2 (T x 2) k = mk2 x (k + 1) := fun k => by
        induction k with
        | zero => rfl
        | succ k ih => show T (mk2 (T x 2) k) 2 = T (mk2 x (k + 1)) 2; rw [ih]
      rw [← shift]; exact h3
theorem lg_ok {a : Nat} (ha : a < 256) (h0 : a ≠ 0) : lg a < 255 ∧ mk2 1 (lg a) = a := by
  obtain ⟨k, h1, h2, h3⟩ := hit_mk 255 1 0 (hit_ok ha h0)
  have : lg a = k := by show srch a 255 0 1 = k; rw [h2]; omega
  rw [this]; exact ⟨h1, h3⟩
theorem T_assoc {a b c : Nat} (ha : a < 256) (hb : b < 256) (hc : c < 256) : T (T a b) c = T a (T b c) := by
  by_cases h0 : c = 0
  · subst h0; rw [T_zero, T_zero, T_zero]
  · obtain ⟨_, h⟩ := lg_ok hc h0
    rw [← h, T_mk2 (T_lt a b) (by decide), T_mk2 hb (by decide), T_one (T_lt a b), T_one hb, T_mk2 ha hb]
theorem two_nz {x : Nat} (hx : x < 256) (h : x ≠ 0) : T x 2 ≠ 0 := by
  obtain ⟨c, rfl⟩ : ∃ c, x = c + 1 := ⟨x - 1, by omega⟩
  have := Nat.le_of_ble_eq_true (allN_out kZ2 c (by omega))
  intro h0
  rw [show Nat.succ c = c + 1 from rfl, h0] at this
  omega
theorem mk2_nz {x : Nat} (hx : x < 256) (h : x ≠ 0) : ∀ n, mk2 x n ≠ 0
  | 0 => h
  | n + 1 => two_nz (mk2_lt hx n) (mk2_nz hx h n)
theorem T_nz {a b : Nat} (ha : a < 256) (hb : b < 256) (h1 : a ≠ 0) (h2 : b ≠ 0) : T a b ≠ 0 := by
  obtain ⟨_, h⟩ := lg_ok hb h2
  rw [← h, T_mk2 ha (by decide), T_one ha]
  exact mk2_nz ha h1 _
/-- The numbers of the field. -/
structure G where
  v : Nat
  lt : v < 256
theorem G.ext {a b : G} (h : a.v = b.v) : a = b := by cases a; cases b; cases h; rfl
noncomputable instance : Add G := ⟨fun a b => ⟨a.v ^^^ b.v, xor_lt a.lt b.lt⟩⟩
noncomputable instance : Mul G := ⟨fun a b => ⟨T a.v b.v, T_lt _ _⟩⟩
def g0 : G := ⟨0, by decide⟩
def g1 : G := ⟨1, by decide⟩
theorem a_comm (a b : G) : a + b = b + a := G.ext (Nat.xor_comm _ _)
theorem a_assoc (a b c : G) : a + b + c = a + (b + c) := G.ext (Nat.xor_assoc _ _ _)
theorem a_zero (a : G) : a + g0 = a := G.ext (Nat.xor_zero _)
theorem z_add (a : G) : g0 + a = a := G.ext (Nat.zero_xor _)
theorem a_self (a : G) : a + a = g0 := G.ext (Nat.xor_self _)
theorem m_comm (a b : G) : a * b = b * a := G.ext (T_comm a.lt b.lt)
theorem m_assoc (a b c : G) : a * b * c = a * (b * c) := G.ext (T_assoc a.lt b.lt c.lt)
theorem m_one (a : G) : a * g1 = a := G.ext (T_one a.lt)
theorem one_m (a : G) : g1 * a = a := by rw [m_comm, m_one]
theorem m_zero (a : G) : a * g0 = g0 := G.ext (T_zero _)
theorem z_mul (a : G) : g0 * a = g0 := by rw [m_comm, m_zero]
theorem add_m (a b c : G) : (a + b) * c = a * c + b * c := G.ext (T_xor_l a.lt b.lt)
theorem m_add (a b c : G) : a * (b + c) = a * b + a * c := G.ext (T_xor_r a.lt b.lt c.lt)
theorem m_nz {a b : G} (h1 : a ≠ g0) (h2 : b ≠ g0) : a * b ≠ g0 := fun h => T_nz a.lt b.lt (fun q => h1 (G.ext q)) (fun q => h2 (G.ext q)) (congrArg G.v h)
theorem a_cancel {a b : G} (h : a + b = g0) : a = b := by
  have : a + b + b = b := by rw [h, z_add]
  rwa [a_assoc, a_self, a_zero] at this
instance : Std.Associative (α := G) (· + ·) := ⟨a_assoc⟩
instance : Std.Commutative (α := G) (· + ·) := ⟨a_comm⟩
instance : Std.Associative (α := G) (· * ·) := ⟨m_assoc⟩
instance : Std.Commutative (α := G) (· * ·) := ⟨m_comm⟩
noncomputable def gp (x : G) : Nat → G
  | 0 => g1
  | n + 1 => gp x n * x
/-- A polynomial, the highest term first. -/
noncomputable def Hn (c : G) (f : Nat → G) (x : G) : Nat → G
  | 0 => c
  | n + 1 => Hn c f x n * x + f n
theorem Hn_c (c : G) (f : Nat → G) (x : G) : ∀ n, Hn c f x n = c * gp x n + Hn g0 f x n
  | 0 => by show c = c * g1 + g0; rw [m_one, a_zero]
  | n + 1 => by
    show Hn c f x n * x + f n = c * (gp x n * x) + (Hn g0 f x n * x + f n)
    rw [Hn_c c f x n, add_m, m_assoc, a_assoc]
theorem Hn_split (c : G) (f : Nat → G) (x : G) (m : Nat) : ∀ n, Hn c f x (m + n) = Hn (Hn c f x m) (fun k => f (m + k)) x n
  | 0 => rfl
  | n + 1 => by
    show Hn c f x (m + n) * x + f (m + n) = _
    rw [Hn_split c f x m n]; rfl
theorem Hn_congr (c : G) {f g : Nat → G} (x : G) : ∀ n, (∀ k, k < n → f k = g k) → Hn c f x n = Hn c g x n
  | 0, _ => rfl
  | n + 1, h => by
    show Hn c f x n * x + f n = Hn c g x n * x + g n
    rw [Hn_congr c x n fun k hk => h k (by omega), h n (by omega)]
/-- A polynomial, the lowest term first. -/
noncomputable def As (f : Nat → G) (x : G) : Nat → G
  | 0 => g0
  | n + 1 => As f x n + f n * gp x n
theorem As_congr {f g : Nat → G} (x : G) : ∀ n, (∀ k, k < n → f k = g k) → As f x n = As g x n
  | 0, _ => rfl
  | n + 1, h => by
    show As f x n + f n * gp x n = As g x n + g n * gp x n
    rw [As_congr x n fun k hk => h k (by omega), h n (by omega)]
theorem Hn_rev (f : Nat → G) (x : G) : ∀ n, Hn g0 (fun k => f (n - 1 - k)) x n = As f x n
  | 0 => rfl
  | n + 1 => by
    have h1 := Hn_split g0 (fun k => f (n + 1 - 1 - k)) x 1 n
    rw [Nat.add_comm 1 n] at h1
    rw [h1, Hn_c]
    show (g0 * x + f (n + 1 - 1 - 0)) * gp x n + Hn g0 (fun k => f (n + 1 - 1 - (1 + k))) x n = As f x n + f n * gp x n
    rw [z_mul, z_add, Hn_congr g0 x n (g := fun k => f (n - 1 - k)) (fun k hk => by congr 1; omega), Hn_rev f x n, a_comm]
    rfl
end Go.Proofs.Yteiblfkegnppeaa

set_option linter.unusedVariables false
set_option linter.unusedSimpArgs false
namespace Go.Proofs.Yteiblfkegnppeaa
open Go Go.Fw
/-- Moved by so many places. -/
noncomputable def sh (m : Nat) (f : Nat → G) (i : Nat) : G := if m ≤ i then f (i - m) else g0
/-- Nothing from a place on. -/
def Zr (f : Nat → G) (n : Nat) : Prop := ∀ i, n ≤ i → f i = g0
noncomputable def pa (f g : Nat → G) (i : Nat) : G := f i + g i
noncomputable def ps (c : G) (f : Nat → G) (i : Nat) : G := c * f i
def zf : Nat → G := fun _ => g0
/-- The first n terms of the one, times the other. -/
noncomputable def ac (f g : Nat → G) : Nat → Nat → G
  | 0 => zf
  | n + 1 => pa (ac f g n) (ps (f n) (sh n g))
theorem sh_in {m i : Nat} (f : Nat → G) (h : m ≤ i) : sh m f i = f (i - m) := if_pos h
theorem sh_out {m i : Nat} (f : Nat → G) (h : i < m) : sh m f i = g0 := if_neg (by omega)
theorem sh_zf (m : Nat) : sh m zf = zf := by funext i; unfold sh zf; split <;> rfl
theorem sh_pa (m : Nat) (f g : Nat → G) : sh m (pa f g) = pa (sh m f) (sh m g) := by
  funext i; unfold pa
  rcases Nat.lt_or_ge i m with h | h
  · rw [sh_out _ h, sh_out _ h, sh_out _ h, a_zero]
  · rw [sh_in _ h, sh_in _ h, sh_in _ h]
theorem sh_ps (m : Nat) (c : G) (f : Nat → G) : sh m (ps c f) = ps c (sh m f) := by
  funext i; unfold ps
  rcases Nat.lt_or_ge i m with h | h
  · rw [sh_out _ h, sh_out _ h, m_zero]
  · rw [sh_in _ h, sh_in _ h]
theorem sh_sh (m n : Nat) (f : Nat → G) : sh m (sh n f) = sh (m + n) f := by
  funext i; unfold sh
  by_cases h1 : m + n ≤ i
  · rw [if_pos (by omega), if_pos (by omega), if_pos h1]; congr 1; omega
  · rw [if_neg h1]
    by_cases h2 : m ≤ i
    · rw [if_pos h2, if_neg (by omega)]
    · rw [if_neg h2]
theorem sh_0 (f : Nat → G) : sh 0 f = f := by funext i; unfold sh; rw [if_pos (Nat.zero_le _)]; rfl
theorem pa_comm (f g : Nat → G) : pa f g = pa g f := funext fun i => a_comm _ _
theorem pa_assoc (f g h : Nat → G) : pa (pa f g) h = pa f (pa g h) := funext fun i => a_assoc _ _ _
theorem pa_zf (f : Nat → G) : pa f zf = f := funext fun i => a_zero _
theorem zf_pa (f : Nat → G) : pa zf f = f := funext fun i => z_add _
theorem pa_self (f : Nat → G) : pa f f = zf := funext fun i => a_self _
theorem ps_pa (c : G) (f g : Nat → G) : ps c (pa f g) = pa (ps c f) (ps c g) := funext fun i => m_add _ _ _
theorem pa_ps (c d : G) (f : Nat → G) : ps (c + d) f = pa (ps c f) (ps d f) := funext fun i => add_m _ _ _
theorem ps_ps (c d : G) (f : Nat → G) : ps c (ps d f) = ps (c * d) f := funext fun i => (m_assoc _ _ _).symm
theorem ps_zf (c : G) : ps c zf = zf := funext fun i => m_zero _
theorem ps_0 (f : Nat → G) : ps g0 f = zf := funext fun i => z_mul _
theorem ps_1 (f : Nat → G) : ps g1 f = f := funext fun i => one_m _
instance : Std.Associative (α := Nat → G) pa := ⟨pa_assoc⟩
instance : Std.Commutative (α := Nat → G) pa := ⟨pa_comm⟩
theorem ac_zr (f g : Nat → G) : ∀ n, (∀ i, i < n → f i = g0) → ac f g n = zf
  | 0, _ => rfl
  | n + 1, h => by
    show pa (ac f g n) (ps (f n) (sh n g)) = zf
    rw [ac_zr f g n fun i hi => h i (by omega), h n (by omega), ps_0, pa_zf]
theorem ac_pa_r (f g h : Nat → G) : ∀ n, ac f (pa g h) n = pa (ac f g n) (ac f h n)
  | 0 => (pa_zf _).symm
  | n + 1 => by
    show pa (ac f (pa g h) n) (ps (f n) (sh n (pa g h))) = pa (pa (ac f g n) (ps (f n) (sh n g))) (pa (ac f h n) (ps (f n) (sh n h)))
    rw [ac_pa_r f g h n, sh_pa, ps_pa]; ac_rfl
theorem ac_pa_l (f g h : Nat → G) : ∀ n, ac (pa f g) h n = pa (ac f h n) (ac g h n)
  | 0 => (pa_zf _).symm
  | n + 1 => by
    show pa (ac (pa f g) h n) (ps (f n + g n) (sh n h)) = pa (pa (ac f h n) (ps (f n) (sh n h))) (pa (ac g h n) (ps (g n) (sh n h)))
    rw [ac_pa_l f g h n, pa_ps]; ac_rfl
theorem ac_ps_l (c : G) (f g : Nat → G) : ∀ n, ac (ps c f) g n = ps c (ac f g n)
  | 0 => (ps_zf _).symm
  | n + 1 => by
    show pa (ac (ps c f) g n) (ps (c * f n) (sh n g)) = ps c (pa (ac f g n) (ps (f n) (sh n g)))
    rw [ac_ps_l c f g n, ps_pa, ps_ps]
theorem ac_ps_r (c : G) (f g : Nat → G) : ∀ n, ac f (ps c g) n = ps c (ac f g n)
  | 0 => (ps_zf _).symm
  | n + 1 => by
    show pa (ac f (ps c g) n) (ps (f n) (sh n (ps c g))) = ps c (pa (ac f g n) (ps (f n) (sh n g)))
    rw [ac_ps_r c f g n, ps_pa, sh_ps, ps_ps, ps_ps, m_comm]
theorem ac_sh_r (k : Nat) (f g : Nat → G) : ∀ n, ac f (sh k g) n = sh k (ac f g n)
  | 0 => (sh_zf _).symm
  | n + 1 => by
    show pa (ac f (sh k g) n) (ps (f n) (sh n (sh k g))) = sh k (pa (ac f g n) (ps (f n) (sh n g)))
    rw [ac_sh_r k f g n, sh_pa, sh_ps, sh_sh, sh_sh, Nat.add_comm k n]
theorem ac_sh_l (k : Nat) (f g : Nat → G) : ∀ n, ac (sh k f) g (k + n) = sh k (ac f g n)
  | 0 => by
    rw [ac_zr _ _ _ fun i hi => by unfold sh; rw [if_neg (by omega)]]; exact (sh_zf k).symm
  | n + 1 => by
    show pa (ac (sh k f) g (k + n)) (ps (sh k f (k + n)) (sh (k + n) g)) = sh k (pa (ac f g n) (ps (f n) (sh n g)))
    rw [ac_sh_l k f g n, sh_pa, sh_ps, sh_sh, show sh k f (k + n) = f n by unfold sh; rw [if_pos (by omega)]; congr 1; omega]
theorem ac_more (f g : Nat → G) (n : Nat) (h : Zr f n) : ∀ d, ac f g (n + d) = ac f g n
  | 0 => rfl
  | d + 1 => by
    show pa (ac f g (n + d)) (ps (f (n + d)) (sh (n + d) g)) = _
    rw [ac_more f g n h d, h (n + d) (by omega), ps_0, pa_zf]
theorem ac_le (f g : Nat → G) {n N : Nat} (h : Zr f n) (hn : n ≤ N) : ac f g N = ac f g n := by
  obtain ⟨d, rfl⟩ : ∃ d, N = n + d := ⟨N - n, by omega⟩
  exact ac_more f g n h d
theorem zr_sh {g : Nat → G} {m k : Nat} (h : Zr g m) : Zr (sh k g) (k + m) := by
  intro i hi; unfold sh
  split
  · exact h _ (by omega)
  · rfl
theorem zr_ac {f g : Nat → G} {m : Nat} (h : Zr g m) : ∀ n, Zr (ac f g n) (n + m - 1)
  | 0 => fun _ _ => rfl
  | n + 1 => fun i hi => by
    show ac f g n i + f n * sh n g i = g0
    rw [zr_ac h n i (by omega), zr_sh h i (by omega), m_zero, a_zero]
theorem zr_mono {f : Nat → G} {m n : Nat} (h : Zr f m) (hn : m ≤ n) : Zr f n := fun i hi => h i (by omega)
theorem zr_pa {f g : Nat → G} {n : Nat} (h1 : Zr f n) (h2 : Zr g n) : Zr (pa f g) n := fun i hi => by unfold pa; rw [h1 i hi, h2 i hi, a_zero]
theorem zr_ps {f : Nat → G} {n : Nat} (c : G) (h : Zr f n) : Zr (ps c f) n := fun i hi => by unfold ps; rw [h i hi, m_zero]
theorem zr_zf (n : Nat) : Zr zf n := fun _ _ => rfl
theorem zr_all {f : Nat → G} (h : Zr f 0) : f = zf := funext fun i => h i (Nat.zero_le _)
theorem ac_assoc (f g h : Nat → G) (m : Nat) (hg : Zr g m) : ∀ n, ac (ac f g n) h (n + m) = ac f (ac g h m) n
  | 0 => ac_zr _ _ _ fun _ _ => rfl
  | n + 1 => by
    show ac (pa (ac f g n) (ps (f n) (sh n g))) h (n + 1 + m) = pa (ac f (ac g h m) n) (ps (f n) (sh n (ac g h m)))
    rw [ac_pa_l, ac_le (ac f g n) h (n := n + m) (zr_mono (zr_ac hg n) (by omega)) (by omega), ac_assoc f g h m hg n, ac_ps_l, show n + 1 + m = n + (m + 1) by omega, ac_sh_l, ac_more g h m hg 1]
/-- The highest term of a product. -/
theorem ac_top (f g : Nat → G) (m : Nat) (hg : Zr g (m + 1)) (n : Nat) : ac f g (n + 1) (n + m) = f n * g m := by
  show ac f g n (n + m) + f n * sh n g (n + m) = _
  rw [zr_ac hg n (n + m) (by omega), z_add]
  unfold sh; rw [if_pos (by omega)]; congr 2; omega
theorem ac_one_l (f : Nat → G) (c : G) (n : Nat) : ac (fun i => if i = 0 then c else g0) f (n + 1) = ps c f := by
  rw [ac_le (n := 1) _ _ (fun i hi => if_neg (by omega)) (by omega)]
  show pa zf (ps (if 0 = 0 then c else g0) (sh 0 f)) = _
  rw [zf_pa, if_pos rfl, sh_0]
/-- A polynomial's terms below a place. -/
noncomputable def ct (f : Nat → G) (n i : Nat) : G := if i < n then f i else g0
theorem zr_ct (f : Nat → G) (n : Nat) : Zr (ct f n) n := fun i hi => if_neg (by omega)
theorem ct_eq {f : Nat → G} {n : Nat} (h : Zr f n) : ct f n = f := by
  funext i; unfold ct; split
  · rfl
  · exact (h i (by omega)).symm
theorem ct_lt (f : Nat → G) {n i : Nat} (h : i < n) : ct f n i = f i := if_pos h
theorem ct_succ (f : Nat → G) (n : Nat) : ct f (n + 1) = pa (ct f n) (ps (f n) (sh n (fun i => if i = 0 then g1 else g0))) := by
  funext i
  show (if i < n + 1 then f i else g0) = (if i < n then f i else g0) + f n * sh n (fun i => if i = 0 then g1 else g0) i
  rcases Nat.lt_trichotomy i n with h | h | h
  · rw [if_pos (by omega), if_pos h, sh_out _ h, m_zero, a_zero]
  · subst h
    rw [if_pos (by omega), if_neg (by omega), sh_in _ (Nat.le_refl _), if_pos (by omega), m_one, z_add]
  · rw [if_neg (by omega), if_neg (by omega), sh_in _ (by omega), if_neg (by omega), m_zero, a_zero]
theorem ac_unit_r (f : Nat → G) (n : Nat) : ac f (fun i => if i = 0 then g1 else g0) n = ct f n := by
  induction n with
  | zero => funext i; unfold ct; rw [if_neg (by omega)]; rfl
  | succ n ih => rw [ct_succ, ← ih]; rfl
theorem ac_comm' (f g : Nat → G) (n : Nat) (hf : Zr f n) : ∀ m, ac f (ct g m) n = ac g f m
  | 0 => by
    rw [show ct g 0 = zf from funext fun i => if_neg (by omega)]
    show ac f zf n = zf
    induction n generalizing f with
    | zero => rfl
    | succ n ih =>
      have h2 : ∀ k, ac f zf k = zf := fun k => by
        induction k with
        | zero => rfl
        | succ k ih => show pa (ac f zf k) (ps (f k) (sh k zf)) = zf; rw [ih, sh_zf, ps_zf, pa_zf]
      exact h2 _
  | m + 1 => by
    rw [ct_succ, ac_pa_r, ac_ps_r, ac_sh_r, ac_unit_r, ct_eq hf, ac_comm' f g n hf m]; rfl
theorem ac_comm {f g : Nat → G} {n m : Nat} (hf : Zr f n) (hg : Zr g m) : ac f g n = ac g f m := by
  rw [← ac_comm' f g n hf m, ct_eq hg]
/-- How many terms, without the noughts at the end. -/
noncomputable def dg (f : Nat → G) : Nat → Nat
  | 0 => 0
  | n + 1 => if (f n).v = 0 then dg f n else n + 1
theorem dg_le (f : Nat → G) : ∀ n, dg f n ≤ n
  | 0 => Nat.le_refl _
  | n + 1 => by unfold dg; split; have := dg_le f n; omega; exact Nat.le_refl _
theorem dg_out (f : Nat → G) : ∀ n i, dg f n ≤ i → i < n → f i = g0
  | 0, i, _, h => by omega
  | n + 1, i, h, hi => by
    unfold dg at h
    split at h
    · rename_i h0
      rcases Nat.lt_or_ge i n with h2 | h2
      · exact dg_out f n i h h2
      · have : i = n := by omega
        subst this; exact G.ext h0
    · omega
/-- A polynomial of so many terms, the last of which is none of the noughts. -/
def Pol (f : Nat → G) (t : Nat) : Prop := Zr f t ∧ (0 < t → f (t - 1) ≠ g0)
theorem dg_top (f : Nat → G) : ∀ n, 0 < dg f n → f (dg f n - 1) ≠ g0
  | 0, h => absurd h (by unfold dg; omega)
  | n + 1, h => by
    unfold dg at h ⊢
    split
    · rename_i h0; rw [if_pos h0] at h; exact dg_top f n h
    · rename_i h0; exact fun q => h0 (congrArg G.v q)
theorem pol_dg (f : Nat → G) (n : Nat) : Pol (ct f n) (dg f n) := by
  refine ⟨fun i hi => ?_, fun h => ?_⟩
  · unfold ct; split
    · exact dg_out f n i hi (by assumption)
    · rfl
  · have := dg_le f n
    rw [ct_lt f (by omega)]; exact dg_top f n h
theorem dg_congr {f g : Nat → G} : ∀ n, (∀ i, i < n → f i = g i) → dg f n = dg g n
  | 0, _ => rfl
  | n + 1, h => by unfold dg; rw [h n (by omega), dg_congr n fun i hi => h i (by omega)]
theorem pol_uniq {f : Nat → G} {s t : Nat} (h1 : Pol f s) (h2 : Pol f t) : s = t := by
  rcases Nat.lt_trichotomy s t with h | h | h
  · exact absurd (h1.1 (t - 1) (by omega)) (h2.2 (by omega))
  · exact h
  · exact absurd (h2.1 (s - 1) (by omega)) (h1.2 (by omega))
theorem dg_pol {f : Nat → G} {t n : Nat} (h : Pol f t) (hn : t ≤ n) : dg f n = t := by
  refine pol_uniq (f := f) ?_ h
  have := pol_dg f n
  rwa [ct_eq (zr_mono h.1 hn)] at this
theorem pol_zf : Pol zf 0 := ⟨zr_zf 0, fun h => absurd h (by omega)⟩
theorem g1_nz : g1 ≠ g0 := fun q => absurd (congrArg G.v q) (by decide)
theorem pol_ac {f g : Nat → G} {s t : Nat} (hf : Pol f (s + 1)) (hg : Pol g (t + 1)) : Pol (ac f g (s + 1)) (s + t + 1) := by
  refine ⟨zr_mono (zr_ac hg.1 (s + 1)) (by omega), fun _ => ?_⟩
  rw [Nat.add_sub_cancel, ac_top f g t hg.1 s]
  exact m_nz (hf.2 (by omega)) (hg.2 (by omega))
/-- If a product of a polynomial and one of t terms has less than t terms, the first one is nought. -/
theorem ac_small {f b : Nat → G} {m t : Nat} (hf : Zr f m) (hb : Pol b t) (ht : 0 < t) (h : Zr (ac f b m) (t - 1)) : f = zf := by
  have hp := pol_dg f m
  rw [ct_eq hf] at hp
  have hle := dg_le f m
  obtain h0 | h0 : dg f m = 0 ∨ 0 < dg f m := by omega
  · exact zr_all (h0 ▸ hp.1)
  · exfalso
    have e : ac f b m = ac f b (dg f m) := ac_le f b hp.1 hle
    have h2 := ac_top f b (t - 1) (by rw [show t - 1 + 1 = t by omega]; exact hb.1) (dg f m - 1)
    rw [show dg f m - 1 + 1 = dg f m by omega, ← e, h _ (by omega)] at h2
    exact m_nz (hp.2 h0) (hb.2 ht) h2.symm
theorem pa_swap {a b : Nat → G} (h : pa a b = zf) : a = b := funext fun i => a_cancel (congrFun h i)
theorem div_uniq {Q Q' R R' b : Nat → G} {m t : Nat} (hQ : Zr Q m) (hQ' : Zr Q' m) (hb : Pol b t) (ht : 0 < t) (hR : Zr R (t - 1)) (hR' : Zr R' (t - 1)) (h : pa (ac Q b m) R = pa (ac Q' b m) R') : Q = Q' ∧ R = R' := by
  have e : ac (pa Q Q') b m = pa R R' := by
    rw [ac_pa_l]
    have h2 : pa (pa (pa (ac Q b m) R) (pa R (ac Q' b m))) zf = pa (pa (pa (ac Q' b m) R') (pa R (ac Q' b m))) zf := by rw [h]
    rw [show pa (pa (pa (ac Q b m) R) (pa R (ac Q' b m))) zf = pa (pa (ac Q b m) (ac Q' b m)) (pa R R) by rw [pa_zf]; ac_rfl, show pa (pa (pa (ac Q' b m) R') (pa R (ac Q' b m))) zf = pa (pa R R') (pa (ac Q' b m) (ac Q' b m)) by rw [pa_zf]; ac_rfl, pa_self, pa_self, pa_zf, pa_zf] at h2
    exact h2
  have h1 := ac_small (zr_pa hQ hQ') hb ht (by rw [e]; exact zr_pa hR hR')
  refine ⟨pa_swap h1, ?_⟩
  rw [h1, ac_zr zf b m fun _ _ => rfl] at e
  exact pa_swap e.symm
/-- One divides the other. -/
def Dv (d p : Nat → G) : Prop := ∃ q n, Zr q n ∧ p = ac q d n
theorem Dv_zf (d : Nat → G) : Dv d zf := ⟨zf, 0, zr_zf 0, rfl⟩
theorem Dv_refl (d : Nat → G) : Dv d d := ⟨fun i => if i = 0 then g1 else g0, 1, fun i hi => if_neg (by omega), by rw [ac_one_l d g1 0, ps_1]⟩
theorem Dv_pa {d p q : Nat → G} (h1 : Dv d p) (h2 : Dv d q) : Dv d (pa p q) := by
  obtain ⟨a, n, ha, rfl⟩ := h1
  obtain ⟨b, m, hb, rfl⟩ := h2
  refine ⟨pa a b, n + m, zr_pa (zr_mono ha (by omega)) (zr_mono hb (by omega)), ?_⟩
  rw [ac_pa_l, ac_le (N := n + m) a d ha (by omega), ac_le (N := n + m) b d hb (by omega)]
theorem Dv_ac {d p : Nat → G} (h : Dv d p) (f : Nat → G) (n : Nat) (hf : Zr f n) : Dv d (ac f p n) := by
  obtain ⟨a, m, ha, rfl⟩ := h
  exact ⟨ac f a n, n + m, zr_mono (zr_ac ha n) (by omega), (ac_assoc f a d m ha n).symm⟩
theorem Dv_ps {d p : Nat → G} (h : Dv d p) (c : G) : Dv d (ps c p) := by
  have := Dv_ac h (fun i => if i = 0 then c else g0) 1 (fun i hi => if_neg (by omega))
  rwa [ac_one_l] at this
theorem Dv_rest {d a b q r : Nat → G} {n : Nat} (hq : Zr q n) (h : a = pa (ac q b n) r) : (Dv d a ∧ Dv d b) ↔ (Dv d b ∧ Dv d r) := by
  have hr : r = pa a (ac q b n) := by rw [h, pa_comm (ac q b n) r, pa_assoc, pa_self, pa_zf]
  constructor
  · rintro ⟨h1, h2⟩
    exact ⟨h2, by rw [hr]; exact Dv_pa h1 (Dv_ac h2 q n hq)⟩
  · rintro ⟨h1, h2⟩
    exact ⟨by rw [h]; exact Dv_pa (Dv_ac h1 q n hq) h2, h1⟩
theorem Dv_deg {d p : Nat → G} {s t : Nat} (hd : Pol d s) (hp : Pol p t) (ht : 0 < t) (h : Dv d p) : ∃ (q : Nat → G) (k : Nat), Pol q (k + 1) ∧ 0 < s ∧ t = k + s ∧ p = ac q d (k + 1) := by
  obtain ⟨q, n, hq, e⟩ := h
  have hP := pol_dg q n
  rw [ct_eq hq] at hP
  have hle := dg_le q n
  have e2 : p = ac q d (dg q n) := by rw [e, ac_le q d hP.1 hle]
  have hp0 : p ≠ zf := fun h0 => absurd (by rw [h0]; rfl) (hp.2 ht)
  obtain h0 | ⟨k, hk⟩ : dg q n = 0 ∨ ∃ k, dg q n = k + 1 := by cases h : dg q n; exact .inl rfl; exact .inr ⟨_, rfl⟩
  · rw [h0] at e2; exact absurd e2 hp0
  · rw [hk] at hP e2
    obtain h1 | ⟨j, hj⟩ : s = 0 ∨ ∃ j, s = j + 1 := by cases s; exact .inl rfl; exact .inr ⟨_, rfl⟩
    · subst h1
      have := zr_ac (f := q) hd.1 (k + 1)
      rw [zr_all hd.1] at e2
      exfalso; apply hp0; rw [e2]
      have h2 : ∀ k, ac q zf k = zf := fun k => by
        induction k with
        | zero => rfl
        | succ k ih => show pa (ac q zf k) (ps (q k) (sh k zf)) = zf; rw [ih, sh_zf, ps_zf, pa_zf]
      exact h2 _
    · subst hj
      have h3 := pol_ac hP hd
      rw [← e2] at h3
      exact ⟨q, k, hP, by omega, by have := pol_uniq hp h3; omega, e2⟩
/-- Two that divide one another, both led by 1, are the same. -/
theorem Dv_both {a b : Nat → G} {s t : Nat} (ha : Pol a s) (hb : Pol b t) (h1 : 0 < s → a (s - 1) = g1) (h2 : 0 < t → b (t - 1) = g1) (d1 : Dv a b) (d2 : Dv b a) : s = t ∧ a = b := by
  obtain h0 | h0 : t = 0 ∨ 0 < t := by omega
  · subst h0
    obtain h3 | h3 : s = 0 ∨ 0 < s := by omega
    · subst h3; exact ⟨rfl, by rw [zr_all ha.1, zr_all hb.1]⟩
    · obtain ⟨_, _, _, h4, _⟩ := Dv_deg hb ha h3 d2
      omega
  · obtain ⟨q, k, hq, hs, e, e2⟩ := Dv_deg ha hb h0 d1
    obtain ⟨q', k', _, _, e', _⟩ := Dv_deg hb ha hs d2
    have hk : k = 0 := by omega
    subst hk
    have hst : s = t := by omega
    refine ⟨hst, ?_⟩
    have e3 : b = ps (q 0) a := by
      rw [e2]
      show pa zf (ps (q 0) (sh 0 a)) = _
      rw [zf_pa, sh_0]
    have h5 := h2 h0
    rw [e3] at h5
    have h6 : q 0 * a (t - 1) = g1 := h5
    rw [← hst, h1 hs, m_one] at h6
    rw [e3, h6, ps_1]
/-- Values. -/
theorem As_more (f : Nat → G) (x : G) (n : Nat) (h : Zr f n) : ∀ d, As f x (n + d) = As f x n
  | 0 => rfl
  | d + 1 => by
    show As f x (n + d) + f (n + d) * gp x (n + d) = _
    rw [As_more f x n h d, h (n + d) (by omega), z_mul, a_zero]
theorem As_le (f : Nat → G) (x : G) {n N : Nat} (h : Zr f n) (hn : n ≤ N) : As f x N = As f x n := by
  obtain ⟨d, rfl⟩ : ∃ d, N = n + d := ⟨N - n, by omega⟩
  exact As_more f x n h d
end Go.Proofs.Yteiblfkegnppeaa

set_option linter.unusedVariables false
set_option linter.unusedSimpArgs false
namespace Go.Proofs.Yteiblfkegnppeaa
open Go Go.Fw
theorem dlt_t {a b : Int} (h : @decide (a < b) (dLt a b) = true) : a < b := @of_decide_eq_true _ (dLt a b) h
theorem dlt_f {a b : Int} (h : @decide (a < b) (dLt a b) = false) : b ≤ a := by have := @of_decide_eq_false _ (dLt a b) h; omega
theorem dle_t {a b : Int} (h : @decide (a ≤ b) (dLe a b) = true) : a ≤ b := @of_decide_eq_true _ (dLe a b) h
theorem dle_f {a b : Int} (h : @decide (a ≤ b) (dLe a b) = false) : b < a := by have := @of_decide_eq_false _ (dLe a b) h; omega
/-- What stands in a byte's place. -/
def gi (F : Nat → G) (i : Nat) : Int := ((F i).v : Nat)
theorem gi_in (F : Nat → G) (i : Nat) : 0 ≤ gi F i ∧ gi F i ≤ 255 := by have := (F i).lt; unfold gi; omega
theorem Times_g (a b : G) : QFits Try.prog 17 ⟨[.int .u8 (a.v : Nat), .int .u8 (b.v : Nat)], [], .int .u8 ((a * b).v : Nat)⟩ := Times_q a.v b.v a.lt b.lt
set_option maxHeartbeats 0 in
set_option maxRecDepth 1000000 in
theorem kI : allN (fun a => Nat.beq (T (Nat.succ a) (pw (Nat.succ a) 254)) 1) 255 = true := by kernel_rfl
theorem pwl_lt : ∀ (f a n x : Nat), x < 256 → pwl f a n x < 256
  | 0, _, _, _, h => h
  | f + 1, a, n, x, h => by
    rcases Nat.mod_two_eq_zero_or_one n with e | e
    · rw [pwl_even e]; exact pwl_lt f _ _ _ h
    · rw [pwl_odd e]; exact pwl_lt f _ _ _ (T_lt _ _)
/-- The inverse. -/
noncomputable def iv (b : G) : G := ⟨pw b.v 254, pwl_lt 8 b.v 254 1 (by decide)⟩
theorem m_iv {b : G} (h : b ≠ g0) : b * iv b = g1 := by
  apply G.ext
  have h0 : b.v ≠ 0 := fun q => h (G.ext q)
  obtain ⟨c, hc⟩ : ∃ c, b.v = c + 1 := ⟨b.v - 1, by omega⟩
  have hl := b.lt
  have := Nat.eq_of_beq_eq_true (allN_out kI c (by omega))
  rw [show Nat.succ c = b.v from hc.symm] at this
  exact this
theorem power_g (b : G) : QFits Try.prog 39 ⟨[.int .u8 (b.v : Nat), .int .i64 254], [], .int .u8 ((iv b).v : Nat)⟩ := power_q b.v 254 b.lt (by decide)
noncomputable def k41 : Code := (Try.f41.body).getD .skip
def st41 (c n : Nat) (L : List AV) (D : List Seg) (k i : Nat) : St := ⟨slotsAt 15 [(5, .slice 0 0 k k), (6, .int .i64 k), (7, .int .i64 i)], .seg false (.avs L) :: D⟩
set_option maxHeartbeats 0 in
set_option maxRecDepth 100000 in
theorem tooLong1 (n c : Nat) (hn : n ≤ 9223372036854775807) : QFits Try.prog 41 ⟨[.slice 0 0 1 1], [.seg false (.avs [.slice 1 0 n c]), .dead], .bool (decide (512 < n))⟩ := by
  refine qfits_of_body (C := cfgk 2) (c := k41) (ts := [2]) tokL mixedL (fun | 2 => some ⟨Nat, fun i => st41 c n [.slice 1 0 n c] [.dead] 1 i, fun i => i = 0 ∨ i = 1 ∧ n ≤ 512, fun i => 1 - i⟩ | _ => none) (fun _ => none)
    Try.func41 (by kernel_rfl) (by kernel_rfl) (by kernel_rfl) (by kernel_rfl) (by kernel_rfl) rfl rfl ?_
  conv => whnf
  repeat (first
    | (refine And.intro ?_ ?_; (focus (first | omega | decide | exact EqOk.mk (by kernel_rfl) (by kernel_rfl) (by kernel_rfl) | exact Int.natCast_nonneg _ | ((repeat' refine And.intro ?_ ?_) <;> first | omega | exact Int.natCast_nonneg _ | (simp only [i64max, u8max, u16max, u32max, u64max]; omega) | (simp only [mulSz_eq, Cont.len, colsLen, Col.len, List.length_cons, List.length_nil, List.length_replicate, List.length_append]; first | done | omega) | (simp [mulSz, Cont.len, bne]; first | done | omega)))); conv => whnf)
    | (refine tst_in ?_ ?_; (focus (intro h_; exfalso; first | omega | ((try simp only [decide_eq_true_eq, decide_eq_false_iff_not] at h_); omega) | (simp [mulSz, Cont.len, bne] at h_; first | done | omega))); intro _; conv => whnf)
    | (refine tst_in ?_ ?_; rotate_left; (focus (intro h_; exfalso; first | omega | ((try simp only [decide_eq_true_eq, decide_eq_false_iff_not] at h_); omega) | (simp [mulSz, Cont.len, bne] at h_; first | done | omega))); intro _; conv => whnf)
    | (refine ⟨0, (show _ = _ by omega), ?_⟩; conv => whnf))
  refine ⟨⟨[0, 1], (0 : Nat), ?_, .inl rfl⟩, ?_⟩
  · conv => whnf
    repeat' (first | exact True.intro | rfl | refine And.intro ?_ ?_)
    all_goals (conv => whnf)
    repeat' (first | exact True.intro | rfl | refine And.intro ?_ ?_)
    all_goals (try omega)
  · intro (i : Nat) hi
    show forceSt (st41 c n [.slice 1 0 n c] [.dead] 1 i) _
    rcases hi with hi | ⟨hi, h5⟩
    · subst hi
      conv => whnf
      repeat (first
        | (refine And.intro ?_ ?_; (focus (first | omega | decide | exact EqOk.mk (by kernel_rfl) (by kernel_rfl) (by kernel_rfl) | exact Int.natCast_nonneg _ | ((repeat' refine And.intro ?_ ?_) <;> first | omega | exact Int.natCast_nonneg _ | (simp only [i64max, u8max, u16max, u32max, u64max]; omega) | (simp only [mulSz_eq, Cont.len, colsLen, Col.len, List.length_cons, List.length_nil, List.length_replicate, List.length_append]; first | done | omega) | (simp [mulSz, Cont.len, bne]; first | done | omega)))); conv => whnf)
        | (refine tst_in ?_ ?_; (focus (intro h_; exfalso; first | omega | ((try simp only [decide_eq_true_eq, decide_eq_false_iff_not] at h_); omega) | (simp [mulSz, Cont.len, bne] at h_; first | done | omega))); intro _; conv => whnf)
        | (refine tst_in ?_ ?_; rotate_left; (focus (intro h_; exfalso; first | omega | ((try simp only [decide_eq_true_eq, decide_eq_false_iff_not] at h_); omega) | (simp [mulSz, Cont.len, bne] at h_; first | done | omega))); intro _; conv => whnf)
        | (refine ⟨0, (show _ = _ by omega), ?_⟩; conv => whnf))
      refine tst_in (fun h => ?_) (fun h' => ?_)
      · have h := dlt_t h
        conv => whnf
        repeat (first
          | (refine And.intro ?_ ?_; (focus (first | omega | decide | exact EqOk.mk (by kernel_rfl) (by kernel_rfl) (by kernel_rfl) | exact Int.natCast_nonneg _ | ((repeat' refine And.intro ?_ ?_) <;> first | omega | exact Int.natCast_nonneg _ | (simp only [i64max, u8max, u16max, u32max, u64max]; omega) | (simp only [mulSz_eq, Cont.len, colsLen, Col.len, List.length_cons, List.length_nil, List.length_replicate, List.length_append]; first | done | omega) | (simp [mulSz, Cont.len, bne]; first | done | omega)))); conv => whnf)
          | (refine tst_in ?_ ?_; (focus (intro h_; exfalso; first | omega | ((try simp only [decide_eq_true_eq, decide_eq_false_iff_not] at h_); omega) | (simp [mulSz, Cont.len, bne] at h_; first | done | omega))); intro _; conv => whnf)
          | (refine tst_in ?_ ?_; rotate_left; (focus (intro h_; exfalso; first | omega | ((try simp only [decide_eq_true_eq, decide_eq_false_iff_not] at h_); omega) | (simp [mulSz, Cont.len, bne] at h_; first | done | omega))); intro _; conv => whnf)
          | (refine ⟨0, (show _ = _ by omega), ?_⟩; conv => whnf))
        conv => whnf
        repeat' (first | exact True.intro | rfl | refine And.intro ?_ ?_)
        all_goals (conv => whnf)
        repeat' (first | exact True.intro | rfl | refine And.intro ?_ ?_)
        all_goals (try omega)
        exact decide_eq_true (by omega)
      · have h' := dlt_f h'
        conv => whnf
        repeat (first
          | (refine And.intro ?_ ?_; (focus (first | omega | decide | exact EqOk.mk (by kernel_rfl) (by kernel_rfl) (by kernel_rfl) | exact Int.natCast_nonneg _ | ((repeat' refine And.intro ?_ ?_) <;> first | omega | exact Int.natCast_nonneg _ | (simp only [i64max, u8max, u16max, u32max, u64max]; omega) | (simp only [mulSz_eq, Cont.len, colsLen, Col.len, List.length_cons, List.length_nil, List.length_replicate, List.length_append]; first | done | omega) | (simp [mulSz, Cont.len, bne]; first | done | omega)))); conv => whnf)
          | (refine tst_in ?_ ?_; (focus (intro h_; exfalso; first | omega | ((try simp only [decide_eq_true_eq, decide_eq_false_iff_not] at h_); omega) | (simp [mulSz, Cont.len, bne] at h_; first | done | omega))); intro _; conv => whnf)
          | (refine tst_in ?_ ?_; rotate_left; (focus (intro h_; exfalso; first | omega | ((try simp only [decide_eq_true_eq, decide_eq_false_iff_not] at h_); omega) | (simp [mulSz, Cont.len, bne] at h_; first | done | omega))); intro _; conv => whnf)
          | (refine ⟨0, (show _ = _ by omega), ?_⟩; conv => whnf))
        refine ⟨[0, 1], (1 : Nat), ?_, .inr ⟨rfl, by omega⟩, (by show 0 < 1; omega)⟩
        conv => whnf
        repeat' (first | exact True.intro | rfl | refine And.intro ?_ ?_)
        all_goals (conv => whnf)
        repeat' (first | exact True.intro | rfl | refine And.intro ?_ ?_)
        all_goals (try omega)
    · subst hi
      conv => whnf
      repeat (first
        | (refine And.intro ?_ ?_; (focus (first | omega | decide | exact EqOk.mk (by kernel_rfl) (by kernel_rfl) (by kernel_rfl) | exact Int.natCast_nonneg _ | ((repeat' refine And.intro ?_ ?_) <;> first | omega | exact Int.natCast_nonneg _ | (simp only [i64max, u8max, u16max, u32max, u64max]; omega) | (simp only [mulSz_eq, Cont.len, colsLen, Col.len, List.length_cons, List.length_nil, List.length_replicate, List.length_append]; first | done | omega) | (simp [mulSz, Cont.len, bne]; first | done | omega)))); conv => whnf)
        | (refine tst_in ?_ ?_; (focus (intro h_; exfalso; first | omega | ((try simp only [decide_eq_true_eq, decide_eq_false_iff_not] at h_); omega) | (simp [mulSz, Cont.len, bne] at h_; first | done | omega))); intro _; conv => whnf)
        | (refine tst_in ?_ ?_; rotate_left; (focus (intro h_; exfalso; first | omega | ((try simp only [decide_eq_true_eq, decide_eq_false_iff_not] at h_); omega) | (simp [mulSz, Cont.len, bne] at h_; first | done | omega))); intro _; conv => whnf)
        | (refine ⟨0, (show _ = _ by omega), ?_⟩; conv => whnf))
      conv => whnf
      repeat' (first | exact True.intro | rfl | refine And.intro ?_ ?_)
      all_goals (conv => whnf)
      repeat' (first | exact True.intro | rfl | refine And.intro ?_ ?_)
      all_goals (try omega)
      exact decide_eq_false (by omega)
set_option maxHeartbeats 0 in
set_option maxRecDepth 100000 in
theorem tooLong2 (n c m d : Nat) (hn : n ≤ 9223372036854775807) (hm : m ≤ 9223372036854775807) : QFits Try.prog 41 ⟨[.slice 0 0 2 2], [.seg false (.avs [.slice 1 0 n c, .slice 2 0 m d]), .dead, .dead], .bool (decide (512 < n ∨ 512 < m))⟩ := by
  refine qfits_of_body (C := cfgk 3) (c := k41) (ts := [2]) tokL mixedL (fun | 2 => some ⟨Nat, fun i => st41 c n [.slice 1 0 n c, .slice 2 0 m d] [.dead, .dead] 2 i, fun i => i = 0 ∨ i = 1 ∧ n ≤ 512 ∨ i = 2 ∧ n ≤ 512 ∧ m ≤ 512, fun i => 2 - i⟩ | _ => none) (fun _ => none)
    Try.func41 (by kernel_rfl) (by kernel_rfl) (by kernel_rfl) (by kernel_rfl) (by kernel_rfl) rfl rfl ?_
  conv => whnf
  repeat (first
    | (refine And.intro ?_ ?_; (focus (first | omega | decide | exact EqOk.mk (by kernel_rfl) (by kernel_rfl) (by kernel_rfl) | exact Int.natCast_nonneg _ | ((repeat' refine And.intro ?_ ?_) <;> first | omega | exact Int.natCast_nonneg _ | (simp only [i64max, u8max, u16max, u32max, u64max]; omega) | (simp only [mulSz_eq, Cont.len, colsLen, Col.len, List.length_cons, List.length_nil, List.length_replicate, List.length_append]; first | done | omega) | (simp [mulSz, Cont.len, bne]; first | done | omega)))); conv => whnf)
    | (refine tst_in ?_ ?_; (focus (intro h_; exfalso; first | omega | ((try simp only [decide_eq_true_eq, decide_eq_false_iff_not] at h_); omega) | (simp [mulSz, Cont.len, bne] at h_; first | done | omega))); intro _; conv => whnf)
    | (refine tst_in ?_ ?_; rotate_left; (focus (intro h_; exfalso; first | omega | ((try simp only [decide_eq_true_eq, decide_eq_false_iff_not] at h_); omega) | (simp [mulSz, Cont.len, bne] at h_; first | done | omega))); intro _; conv => whnf)
    | (refine ⟨0, (show _ = _ by omega), ?_⟩; conv => whnf))
  refine ⟨⟨[0, 1, 2], (0 : Nat), ?_, .inl rfl⟩, ?_⟩
  · conv => whnf
    repeat' (first | exact True.intro | rfl | refine And.intro ?_ ?_)
    all_goals (conv => whnf)
    repeat' (first | exact True.intro | rfl | refine And.intro ?_ ?_)
    all_goals (try omega)
  · intro (i : Nat) hi
    show forceSt (st41 c n [.slice 1 0 n c, .slice 2 0 m d] [.dead, .dead] 2 i) _
    rcases hi with hi | ⟨hi, h5⟩ | ⟨hi, h5, h6⟩
    · subst hi
      conv => whnf
      repeat (first
        | (refine And.intro ?_ ?_; (focus (first | omega | decide | exact EqOk.mk (by kernel_rfl) (by kernel_rfl) (by kernel_rfl) | exact Int.natCast_nonneg _ | ((repeat' refine And.intro ?_ ?_) <;> first | omega | exact Int.natCast_nonneg _ | (simp only [i64max, u8max, u16max, u32max, u64max]; omega) | (simp only [mulSz_eq, Cont.len, colsLen, Col.len, List.length_cons, List.length_nil, List.length_replicate, List.length_append]; first | done | omega) | (simp [mulSz, Cont.len, bne]; first | done | omega)))); conv => whnf)
        | (refine tst_in ?_ ?_; (focus (intro h_; exfalso; first | omega | ((try simp only [decide_eq_true_eq, decide_eq_false_iff_not] at h_); omega) | (simp [mulSz, Cont.len, bne] at h_; first | done | omega))); intro _; conv => whnf)
        | (refine tst_in ?_ ?_; rotate_left; (focus (intro h_; exfalso; first | omega | ((try simp only [decide_eq_true_eq, decide_eq_false_iff_not] at h_); omega) | (simp [mulSz, Cont.len, bne] at h_; first | done | omega))); intro _; conv => whnf)
        | (refine ⟨0, (show _ = _ by omega), ?_⟩; conv => whnf))
      refine tst_in (fun h => ?_) (fun h' => ?_)
      · have h := dlt_t h
        conv => whnf
        repeat (first
          | (refine And.intro ?_ ?_; (focus (first | omega | decide | exact EqOk.mk (by kernel_rfl) (by kernel_rfl) (by kernel_rfl) | exact Int.natCast_nonneg _ | ((repeat' refine And.intro ?_ ?_) <;> first | omega | exact Int.natCast_nonneg _ | (simp only [i64max, u8max, u16max, u32max, u64max]; omega) | (simp only [mulSz_eq, Cont.len, colsLen, Col.len, List.length_cons, List.length_nil, List.length_replicate, List.length_append]; first | done | omega) | (simp [mulSz, Cont.len, bne]; first | done | omega)))); conv => whnf)
          | (refine tst_in ?_ ?_; (focus (intro h_; exfalso; first | omega | ((try simp only [decide_eq_true_eq, decide_eq_false_iff_not] at h_); omega) | (simp [mulSz, Cont.len, bne] at h_; first | done | omega))); intro _; conv => whnf)
          | (refine tst_in ?_ ?_; rotate_left; (focus (intro h_; exfalso; first | omega | ((try simp only [decide_eq_true_eq, decide_eq_false_iff_not] at h_); omega) | (simp [mulSz, Cont.len, bne] at h_; first | done | omega))); intro _; conv => whnf)
          | (refine ⟨0, (show _ = _ by omega), ?_⟩; conv => whnf))
        conv => whnf
        repeat' (first | exact True.intro | rfl | refine And.intro ?_ ?_)
        all_goals (conv => whnf)
        repeat' (first | exact True.intro | rfl | refine And.intro ?_ ?_)
        all_goals (try omega)
        exact decide_eq_true (by omega)
      · have h' := dlt_f h'
        conv => whnf
        repeat (first
          | (refine And.intro ?_ ?_; (focus (first | omega | decide | exact EqOk.mk (by kernel_rfl) (by kernel_rfl) (by kernel_rfl) | exact Int.natCast_nonneg _ | ((repeat' refine And.intro ?_ ?_) <;> first | omega | exact Int.natCast_nonneg _ | (simp only [i64max, u8max, u16max, u32max, u64max]; omega) | (simp only [mulSz_eq, Cont.len, colsLen, Col.len, List.length_cons, List.length_nil, List.length_replicate, List.length_append]; first | done | omega) | (simp [mulSz, Cont.len, bne]; first | done | omega)))); conv => whnf)
          | (refine tst_in ?_ ?_; (focus (intro h_; exfalso; first | omega | ((try simp only [decide_eq_true_eq, decide_eq_false_iff_not] at h_); omega) | (simp [mulSz, Cont.len, bne] at h_; first | done | omega))); intro _; conv => whnf)
          | (refine tst_in ?_ ?_; rotate_left; (focus (intro h_; exfalso; first | omega | ((try simp only [decide_eq_true_eq, decide_eq_false_iff_not] at h_); omega) | (simp [mulSz, Cont.len, bne] at h_; first | done | omega))); intro _; conv => whnf)
          | (refine ⟨0, (show _ = _ by omega), ?_⟩; conv => whnf))
        refine ⟨[0, 1, 2], (1 : Nat), ?_, .inr (.inl ⟨rfl, by omega⟩), (by show 1 < 2; omega)⟩
        conv => whnf
        repeat' (first | exact True.intro | rfl | refine And.intro ?_ ?_)
        all_goals (conv => whnf)
        repeat' (first | exact True.intro | rfl | refine And.intro ?_ ?_)
        all_goals (try omega)
    · subst hi
      conv => whnf
      repeat (first
        | (refine And.intro ?_ ?_; (focus (first | omega | decide | exact EqOk.mk (by kernel_rfl) (by kernel_rfl) (by kernel_rfl) | exact Int.natCast_nonneg _ | ((repeat' refine And.intro ?_ ?_) <;> first | omega | exact Int.natCast_nonneg _ | (simp only [i64max, u8max, u16max, u32max, u64max]; omega) | (simp only [mulSz_eq, Cont.len, colsLen, Col.len, List.length_cons, List.length_nil, List.length_replicate, List.length_append]; first | done | omega) | (simp [mulSz, Cont.len, bne]; first | done | omega)))); conv => whnf)
        | (refine tst_in ?_ ?_; (focus (intro h_; exfalso; first | omega | ((try simp only [decide_eq_true_eq, decide_eq_false_iff_not] at h_); omega) | (simp [mulSz, Cont.len, bne] at h_; first | done | omega))); intro _; conv => whnf)
        | (refine tst_in ?_ ?_; rotate_left; (focus (intro h_; exfalso; first | omega | ((try simp only [decide_eq_true_eq, decide_eq_false_iff_not] at h_); omega) | (simp [mulSz, Cont.len, bne] at h_; first | done | omega))); intro _; conv => whnf)
        | (refine ⟨0, (show _ = _ by omega), ?_⟩; conv => whnf))
      refine tst_in (fun h => ?_) (fun h' => ?_)
      · have h := dlt_t h
        conv => whnf
        repeat (first
          | (refine And.intro ?_ ?_; (focus (first | omega | decide | exact EqOk.mk (by kernel_rfl) (by kernel_rfl) (by kernel_rfl) | exact Int.natCast_nonneg _ | ((repeat' refine And.intro ?_ ?_) <;> first | omega | exact Int.natCast_nonneg _ | (simp only [i64max, u8max, u16max, u32max, u64max]; omega) | (simp only [mulSz_eq, Cont.len, colsLen, Col.len, List.length_cons, List.length_nil, List.length_replicate, List.length_append]; first | done | omega) | (simp [mulSz, Cont.len, bne]; first | done | omega)))); conv => whnf)
          | (refine tst_in ?_ ?_; (focus (intro h_; exfalso; first | omega | ((try simp only [decide_eq_true_eq, decide_eq_false_iff_not] at h_); omega) | (simp [mulSz, Cont.len, bne] at h_; first | done | omega))); intro _; conv => whnf)
          | (refine tst_in ?_ ?_; rotate_left; (focus (intro h_; exfalso; first | omega | ((try simp only [decide_eq_true_eq, decide_eq_false_iff_not] at h_); omega) | (simp [mulSz, Cont.len, bne] at h_; first | done | omega))); intro _; conv => whnf)
          | (refine ⟨0, (show _ = _ by omega), ?_⟩; conv => whnf))
        conv => whnf
        repeat' (first | exact True.intro | rfl | refine And.intro ?_ ?_)
        all_goals (conv => whnf)
        repeat' (first | exact True.intro | rfl | refine And.intro ?_ ?_)
        all_goals (try omega)
        exact decide_eq_true (by omega)
      · have h' := dlt_f h'
        conv => whnf
        repeat (first
          | (refine And.intro ?_ ?_; (focus (first | omega | decide | exact EqOk.mk (by kernel_rfl) (by kernel_rfl) (by kernel_rfl) | exact Int.natCast_nonneg _ | ((repeat' refine And.intro ?_ ?_) <;> first | omega | exact Int.natCast_nonneg _ | (simp only [i64max, u8max, u16max, u32max, u64max]; omega) | (simp only [mulSz_eq, Cont.len, colsLen, Col.len, List.length_cons, List.length_nil, List.length_replicate, List.length_append]; first | done | omega) | (simp [mulSz, Cont.len, bne]; first | done | omega)))); conv => whnf)
          | (refine tst_in ?_ ?_; (focus (intro h_; exfalso; first | omega | ((try simp only [decide_eq_true_eq, decide_eq_false_iff_not] at h_); omega) | (simp [mulSz, Cont.len, bne] at h_; first | done | omega))); intro _; conv => whnf)
          | (refine tst_in ?_ ?_; rotate_left; (focus (intro h_; exfalso; first | omega | ((try simp only [decide_eq_true_eq, decide_eq_false_iff_not] at h_); omega) | (simp [mulSz, Cont.len, bne] at h_; first | done | omega))); intro _; conv => whnf)
          | (refine ⟨0, (show _ = _ by omega), ?_⟩; conv => whnf))
        refine ⟨[0, 1, 2], (2 : Nat), ?_, .inr (.inr ⟨rfl, h5, by omega⟩), (by show 0 < 1; omega)⟩
        conv => whnf
        repeat' (first | exact True.intro | rfl | refine And.intro ?_ ?_)
        all_goals (conv => whnf)
        repeat' (first | exact True.intro | rfl | refine And.intro ?_ ?_)
        all_goals (try omega)
    · subst hi
      conv => whnf
      repeat (first
        | (refine And.intro ?_ ?_; (focus (first | omega | decide | exact EqOk.mk (by kernel_rfl) (by kernel_rfl) (by kernel_rfl) | exact Int.natCast_nonneg _ | ((repeat' refine And.intro ?_ ?_) <;> first | omega | exact Int.natCast_nonneg _ | (simp only [i64max, u8max, u16max, u32max, u64max]; omega) | (simp only [mulSz_eq, Cont.len, colsLen, Col.len, List.length_cons, List.length_nil, List.length_replicate, List.length_append]; first | done | omega) | (simp [mulSz, Cont.len, bne]; first | done | omega)))); conv => whnf)
        | (refine tst_in ?_ ?_; (focus (intro h_; exfalso; first | omega | ((try simp only [decide_eq_true_eq, decide_eq_false_iff_not] at h_); omega) | (simp [mulSz, Cont.len, bne] at h_; first | done | omega))); intro _; conv => whnf)
        | (refine tst_in ?_ ?_; rotate_left; (focus (intro h_; exfalso; first | omega | ((try simp only [decide_eq_true_eq, decide_eq_false_iff_not] at h_); omega) | (simp [mulSz, Cont.len, bne] at h_; first | done | omega))); intro _; conv => whnf)
        | (refine ⟨0, (show _ = _ by omega), ?_⟩; conv => whnf))
      conv => whnf
      repeat' (first | exact True.intro | rfl | refine And.intro ?_ ?_)
      all_goals (conv => whnf)
      repeat' (first | exact True.intro | rfl | refine And.intro ?_ ?_)
      all_goals (try omega)
      exact decide_eq_false (by omega)
/-- A row begins with a polynomial's terms. -/
def Rd (A : List Int) (F : Nat → G) (n : Nat) : Prop := n ≤ A.length ∧ ∀ i, i < n → A.getD i 0 = gi F i
theorem Rd_tl (F : Nat → G) (n : Nat) (tl : List Int) : Rd (tb (gi F) n ++ tl) F n := ⟨by rw [List.length_append, tab_len]; omega, fun i hi => tab_app _ _ _ hi⟩
theorem Rd_tb (F : Nat → G) (n : Nat) : Rd (tb (gi F) n) F n := ⟨by rw [tab_len]; omega, fun i hi => tab_get _ _ hi⟩
theorem Rd_le {A : List Int} {F : Nat → G} {n m : Nat} (h : Rd A F n) (hm : m ≤ n) : Rd A F m := ⟨Nat.le_trans hm h.1, fun i hi => h.2 i (by omega)⟩
theorem Rd_congr {A : List Int} {F H : Nat → G} {n : Nat} (h : Rd A F n) (e : ∀ i, i < n → F i = H i) : Rd A H n := ⟨h.1, fun i hi => by rw [h.2 i hi]; unfold gi; rw [e i hi]⟩
theorem gi_zero (F : Nat → G) (i : Nat) : gi F i = 0 ↔ F i = g0 := by
  unfold gi
  constructor
  · intro h; exact G.ext (by show (F i).v = 0; omega)
  · intro h; rw [h]; rfl
noncomputable def k45 : Code := (Try.f45.body).getD .skip
def st45 (A : List Int) (n c j : Nat) : St := ⟨slotsAt 21 [(0, .slice 0 0 n c), (3, .int .i64 j)], [.seg false (.ints .u8 A)]⟩
set_option maxHeartbeats 0 in
set_option maxRecDepth 100000 in
theorem trim_f (F : Nat → G) (A : List Int) (n c : Nat) (hA : Rd A F n) (hc : n ≤ c) (hn : n ≤ 9223372036854775807) : Fits Try.prog 45 ⟨[.slice 0 0 n c], [.seg false (.ints .u8 A)], [numOut [.dead] (.slice 0 0 (dg F n) c)]⟩ := by
  refine fits_of_body (C := cfgk 1) (c := k45) (ts := [2]) tokL mixedL (fun | 2 => some ⟨Nat, fun j => st45 A n c j, fun j => j ≤ n ∧ dg F j = dg F n, fun j => j⟩ | _ => none) (fun _ => none)
    Try.func45 (by kernel_rfl) (by kernel_rfl) (by kernel_rfl) (by kernel_rfl) rfl ?_
  obtain ⟨hl, hg⟩ := hA
  conv => whnf
  repeat (first
    | (refine And.intro ?_ ?_; (focus (first | omega | decide | exact EqOk.mk (by kernel_rfl) (by kernel_rfl) (by kernel_rfl) | exact Int.natCast_nonneg _ | ((repeat' refine And.intro ?_ ?_) <;> first | omega | exact Int.natCast_nonneg _ | (simp only [i64max, u8max, u16max, u32max, u64max]; omega) | (simp only [mulSz_eq, Cont.len, colsLen, Col.len, List.length_cons, List.length_nil, List.length_replicate, List.length_append]; first | done | omega) | (simp [mulSz, Cont.len, bne]; first | done | omega)))); conv => whnf)
    | (refine tst_in ?_ ?_; (focus (intro h_; exfalso; first | omega | ((try simp only [decide_eq_true_eq, decide_eq_false_iff_not] at h_); omega) | (simp [mulSz, Cont.len, bne] at h_; first | done | omega))); intro _; conv => whnf)
    | (refine tst_in ?_ ?_; rotate_left; (focus (intro h_; exfalso; first | omega | ((try simp only [decide_eq_true_eq, decide_eq_false_iff_not] at h_); omega) | (simp [mulSz, Cont.len, bne] at h_; first | done | omega))); intro _; conv => whnf)
    | (refine ⟨0, (show _ = _ by omega), ?_⟩; conv => whnf))
  refine ⟨⟨[0], (n : Nat), ?_, Nat.le_refl _, rfl⟩, ?_⟩
  · show stLe _ _ (st45 A n c n) _
    conv => whnf
    repeat' (first | exact True.intro | rfl | refine And.intro ?_ ?_)
    all_goals (conv => whnf)
    repeat' (first | exact True.intro | rfl | refine And.intro ?_ ?_)
    all_goals (try omega)
  · intro (j : Nat) hj
    obtain ⟨hj, e⟩ := hj
    show forceSt (st45 A n c j) _
    conv => whnf
    repeat (first
      | (refine And.intro ?_ ?_; (focus (first | omega | decide | exact EqOk.mk (by kernel_rfl) (by kernel_rfl) (by kernel_rfl) | exact Int.natCast_nonneg _ | ((repeat' refine And.intro ?_ ?_) <;> first | omega | exact Int.natCast_nonneg _ | (simp only [i64max, u8max, u16max, u32max, u64max]; omega) | (simp only [mulSz_eq, Cont.len, colsLen, Col.len, List.length_cons, List.length_nil, List.length_replicate, List.length_append]; first | done | omega) | (simp [mulSz, Cont.len, bne]; first | done | omega)))); conv => whnf)
      | (refine tst_in ?_ ?_; (focus (intro h_; exfalso; first | omega | ((try simp only [decide_eq_true_eq, decide_eq_false_iff_not] at h_); omega) | (simp [mulSz, Cont.len, bne] at h_; first | done | omega))); intro _; conv => whnf)
      | (refine tst_in ?_ ?_; rotate_left; (focus (intro h_; exfalso; first | omega | ((try simp only [decide_eq_true_eq, decide_eq_false_iff_not] at h_); omega) | (simp [mulSz, Cont.len, bne] at h_; first | done | omega))); intro _; conv => whnf)
      | (refine ⟨0, (show _ = _ by omega), ?_⟩; conv => whnf))
    refine tst_in (fun h => ?_) (fun h' => ?_)
    · have h := dlt_t h
      obtain ⟨i, rfl⟩ : ∃ i, j = i + 1 := ⟨j - 1, by omega⟩
      have hi := gi_in F i
      have h0 := gi_zero F i
      have hgi := hg i (by omega)
      conv => whnf
      repeat (first
        | (refine And.intro ?_ ?_; (focus (first | omega | decide | exact EqOk.mk (by kernel_rfl) (by kernel_rfl) (by kernel_rfl) | exact Int.natCast_nonneg _ | ((repeat' refine And.intro ?_ ?_) <;> first | omega | exact Int.natCast_nonneg _ | (simp only [i64max, u8max, u16max, u32max, u64max]; omega) | (simp only [mulSz_eq, Cont.len, colsLen, Col.len, List.length_cons, List.length_nil, List.length_replicate, List.length_append]; first | done | omega) | (simp [mulSz, Cont.len, bne]; first | done | omega)))); conv => whnf)
        | (refine tst_in ?_ ?_; (focus (intro h_; exfalso; first | omega | ((try simp only [decide_eq_true_eq, decide_eq_false_iff_not] at h_); omega) | (simp [mulSz, Cont.len, bne] at h_; first | done | omega))); intro _; conv => whnf)
        | (refine tst_in ?_ ?_; rotate_left; (focus (intro h_; exfalso; first | omega | ((try simp only [decide_eq_true_eq, decide_eq_false_iff_not] at h_); omega) | (simp [mulSz, Cont.len, bne] at h_; first | done | omega))); intro _; conv => whnf)
        | (refine ⟨0, (show _ = _ by omega), ?_⟩; conv => whnf))
      refine tst_in (fun q => ?_) (fun q' => ?_)
      · have q : gi F i = 0 := by rw [← hgi]; simpa using q
        conv => whnf
        repeat (first
          | (refine And.intro ?_ ?_; (focus (first | omega | decide | exact EqOk.mk (by kernel_rfl) (by kernel_rfl) (by kernel_rfl) | exact Int.natCast_nonneg _ | ((repeat' refine And.intro ?_ ?_) <;> first | omega | exact Int.natCast_nonneg _ | (simp only [i64max, u8max, u16max, u32max, u64max]; omega) | (simp only [mulSz_eq, Cont.len, colsLen, Col.len, List.length_cons, List.length_nil, List.length_replicate, List.length_append]; first | done | omega) | (simp [mulSz, Cont.len, bne]; first | done | omega)))); conv => whnf)
          | (refine tst_in ?_ ?_; (focus (intro h_; exfalso; first | omega | ((try simp only [decide_eq_true_eq, decide_eq_false_iff_not] at h_); omega) | (simp [mulSz, Cont.len, bne] at h_; first | done | omega))); intro _; conv => whnf)
          | (refine tst_in ?_ ?_; rotate_left; (focus (intro h_; exfalso; first | omega | ((try simp only [decide_eq_true_eq, decide_eq_false_iff_not] at h_); omega) | (simp [mulSz, Cont.len, bne] at h_; first | done | omega))); intro _; conv => whnf)
          | (refine ⟨0, (show _ = _ by omega), ?_⟩; conv => whnf))
        refine ⟨[0], (i : Nat), ?_, ⟨by omega, ?_⟩, Nat.lt_succ_self i⟩
        · show stLe _ _ (st45 A n c i) _
          conv => whnf
          repeat' (first | exact True.intro | rfl | refine And.intro ?_ ?_)
          all_goals (conv => whnf)
          repeat' (first | exact True.intro | rfl | refine And.intro ?_ ?_)
          all_goals (try omega)
        · rw [← e]
          show dg F i = if (F i).v = 0 then dg F i else i + 1
          rw [if_pos (by rw [h0.1 q]; rfl)]
      · have q : gi F i ≠ 0 := by rw [← hgi]; simpa using q'
        have e2 : dg F n = i + 1 := by
          rw [← e]
          show (if (F i).v = 0 then dg F i else i + 1) = i + 1
          rw [if_neg (fun z : (F i).v = 0 => q (h0.2 (G.ext z)))]
        rw [e2]
        conv => whnf
        repeat (first
          | (refine And.intro ?_ ?_; (focus (first | omega | decide | exact EqOk.mk (by kernel_rfl) (by kernel_rfl) (by kernel_rfl) | exact Int.natCast_nonneg _ | ((repeat' refine And.intro ?_ ?_) <;> first | omega | exact Int.natCast_nonneg _ | (simp only [i64max, u8max, u16max, u32max, u64max]; omega) | (simp only [mulSz_eq, Cont.len, colsLen, Col.len, List.length_cons, List.length_nil, List.length_replicate, List.length_append]; first | done | omega) | (simp [mulSz, Cont.len, bne]; first | done | omega)))); conv => whnf)
          | (refine tst_in ?_ ?_; (focus (intro h_; exfalso; first | omega | ((try simp only [decide_eq_true_eq, decide_eq_false_iff_not] at h_); omega) | (simp [mulSz, Cont.len, bne] at h_; first | done | omega))); intro _; conv => whnf)
          | (refine tst_in ?_ ?_; rotate_left; (focus (intro h_; exfalso; first | omega | ((try simp only [decide_eq_true_eq, decide_eq_false_iff_not] at h_); omega) | (simp [mulSz, Cont.len, bne] at h_; first | done | omega))); intro _; conv => whnf)
          | (refine ⟨0, (show _ = _ by omega), ?_⟩; conv => whnf))
        refine .inl ⟨(), [0], ?_⟩
        conv => whnf
        repeat' (first | exact True.intro | rfl | refine And.intro ?_ ?_)
        all_goals (conv => whnf)
        repeat' (first | exact True.intro | rfl | refine And.intro ?_ ?_)
        all_goals (try omega)
    · have h : j = 0 := by have := dlt_f h'; omega
      subst h
      rw [← e, show dg F 0 = 0 from rfl]
      conv => whnf
      repeat (first
        | (refine And.intro ?_ ?_; (focus (first | omega | decide | exact EqOk.mk (by kernel_rfl) (by kernel_rfl) (by kernel_rfl) | exact Int.natCast_nonneg _ | ((repeat' refine And.intro ?_ ?_) <;> first | omega | exact Int.natCast_nonneg _ | (simp only [i64max, u8max, u16max, u32max, u64max]; omega) | (simp only [mulSz_eq, Cont.len, colsLen, Col.len, List.length_cons, List.length_nil, List.length_replicate, List.length_append]; first | done | omega) | (simp [mulSz, Cont.len, bne]; first | done | omega)))); conv => whnf)
        | (refine tst_in ?_ ?_; (focus (intro h_; exfalso; first | omega | ((try simp only [decide_eq_true_eq, decide_eq_false_iff_not] at h_); omega) | (simp [mulSz, Cont.len, bne] at h_; first | done | omega))); intro _; conv => whnf)
        | (refine tst_in ?_ ?_; rotate_left; (focus (intro h_; exfalso; first | omega | ((try simp only [decide_eq_true_eq, decide_eq_false_iff_not] at h_); omega) | (simp [mulSz, Cont.len, bne] at h_; first | done | omega))); intro _; conv => whnf)
        | (refine ⟨0, (show _ = _ by omega), ?_⟩; conv => whnf))
      refine .inl ⟨(), [0], ?_⟩
      conv => whnf
      repeat' (first | exact True.intro | rfl | refine And.intro ?_ ?_)
      all_goals (conv => whnf)
      repeat' (first | exact True.intro | rfl | refine And.intro ?_ ?_)
      all_goals (try omega)
end Go.Proofs.Yteiblfkegnppeaa

set_option linter.unusedVariables false
set_option linter.unusedSimpArgs false
namespace Go.Proofs.Yteiblfkegnppeaa
open Go Go.Fw
theorem tab_put (F : Nat → G) (N i : Nat) (x : G) {H : Nat → G} (h : ∀ k, k < N → H k = if k = i then x else F k) : (tb (gi F) N).set i ((x.v : Nat) : Int) = tb (gi H) N := by
  refine tab_ext 0 (by rw [List.length_set, tab_len]) fun k hk => ?_
  rw [g_set, tab_len]
  unfold gi
  rw [h k hk]
  by_cases e : k = i
  · subst e; rw [if_pos ⟨rfl, hk⟩, if_pos rfl]
  · rw [if_neg (fun q => e q.1.symm), if_neg e]
    exact tab_get (gi F) 0 hk
noncomputable def k42 : Code := (Try.f42.body).getD .skip
noncomputable def sumS (F H : Nat → G) (n m : Nat) : Nat → G := pa (ct F n) (ct H m)
noncomputable def st42 (F H : Nat → G) (A B : List Int) (n c m d N i : Nat) : St := ⟨slotsAt 34 [(0, .slice 0 0 n c), (1, .slice 1 0 m d), (5, .slice 2 0 N N), (17, .slice 1 0 m d), (18, .int .i64 m), (19, .int .i64 i)], [.seg false (.ints .u8 A), .seg false (.ints .u8 B), .seg true (.ints .u8 (tb (gi (sumS F H n i)) N))]⟩
set_option maxHeartbeats 0 in
set_option maxRecDepth 100000 in
theorem sum_f (F H : Nat → G) (A B : List Int) (n c m d : Nat) (hA : Rd A F n) (hB : Rd B H m) (hc : n ≤ c) (hd : m ≤ d) (hn : n ≤ 512) (hm : m ≤ 512) :
    Fits Try.prog 42 ⟨[.slice 0 0 n c, .slice 1 0 m d], [.seg false (.ints .u8 A), .seg false (.ints .u8 B)],
      [numOut [.dead, .dead, .seg true (.ints .u8 (tb (gi (sumS F H n m)) (max n m)))] (.slice 2 0 (dg (sumS F H n m) (max n m)) (max n m))]⟩ := by
  refine fits_of_body (C := cfgk 2) (c := k42) (ts := [4]) tokL mixedL (fun | 4 => some ⟨Nat, fun i => st42 F H A B n c m d (max n m) i, fun i => i ≤ m, fun i => m - i⟩ | _ => none) (fun _ => none)
    Try.func42 (by kernel_rfl) (by kernel_rfl) (by kernel_rfl) (by kernel_rfl) rfl ?_
  have TR := trim_f (sumS F H n m) (tb (gi (sumS F H n m)) (max n m)) (max n m) (max n m) (Rd_tb _ _) (Nat.le_refl _) (by omega)
  obtain ⟨hl, hg⟩ := hA
  obtain ⟨hl2, hg2⟩ := hB
  obtain ⟨N, hN⟩ : ∃ N, N = max n m := ⟨_, rfl⟩
  rw [← hN] at TR ⊢
  conv => whnf
  repeat (first
    | (refine And.intro ?_ ?_; (focus (first | omega | decide | exact EqOk.mk (by kernel_rfl) (by kernel_rfl) (by kernel_rfl) | exact Int.natCast_nonneg _ | ((repeat' refine And.intro ?_ ?_) <;> first | omega | exact Int.natCast_nonneg _ | (simp only [i64max, u8max, u16max, u32max, u64max]; omega) | (simp only [mulSz_eq, Cont.len, colsLen, Col.len, List.length_cons, List.length_nil, List.length_replicate, List.length_append]; first | done | omega) | (simp [mulSz, Cont.len, bne]; first | done | omega)))); conv => whnf)
    | (refine tst_in ?_ ?_; (focus (intro h_; exfalso; first | omega | ((try simp only [decide_eq_true_eq, decide_eq_false_iff_not] at h_); omega) | (simp [mulSz, Cont.len, bne] at h_; first | done | omega))); intro _; conv => whnf)
    | (refine tst_in ?_ ?_; rotate_left; (focus (intro h_; exfalso; first | omega | ((try simp only [decide_eq_true_eq, decide_eq_false_iff_not] at h_); omega) | (simp [mulSz, Cont.len, bne] at h_; first | done | omega))); intro _; conv => whnf)
    | (refine ⟨0, (show _ = _ by omega), ?_⟩; conv => whnf))
  have hmx : (max (n : Int) (m : Int)).toNat = N := by omega
  rw [hmx]
  refine ⟨⟨[0, 1, 2], (0 : Nat), ?_, Nat.zero_le _⟩, ?_⟩
  · show stLe _ _ (st42 F H A B n c m d N 0) _
    conv => whnf
    repeat' (first | exact True.intro | rfl | refine And.intro ?_ ?_)
    all_goals (conv => whnf)
    repeat' (first | exact True.intro | rfl | refine And.intro ?_ ?_)
    all_goals (try omega)
    show tb (gi (sumS F H n 0)) N = List.take 0 (List.replicate N 0) ++ List.take (min n N) (List.drop 0 A) ++ List.drop (0 + (List.take (min n N) (List.drop 0 A)).length) (List.replicate N 0)
    rw [List.take_zero, List.nil_append, List.drop_zero, show min n N = n by omega]
    symm
    refine tab_ext 0 ?_ ?_
    · rw [List.length_append, List.length_take, List.length_drop, List.length_replicate]; omega
    · intro k hk
      rw [g_app, List.length_take, show min n A.length = n by omega, g_take, g_drop, g_rep]
      show _ = (((ct F n k + ct H 0 k : G).v : Nat) : Int)
      rw [show ct H 0 k = g0 from if_neg (by omega), a_zero]
      unfold ct
      by_cases h : k < n
      · rw [if_pos h, if_pos h, if_pos h, hg k h]; rfl
      · rw [if_neg h, if_neg h]; split <;> rfl
  · intro (i : Nat) (hi : i ≤ m)
    show forceSt (st42 F H A B n c m d N i) _
    conv => whnf
    repeat (first
      | (refine And.intro ?_ ?_; (focus (first | omega | decide | exact EqOk.mk (by kernel_rfl) (by kernel_rfl) (by kernel_rfl) | exact Int.natCast_nonneg _ | ((repeat' refine And.intro ?_ ?_) <;> first | omega | exact Int.natCast_nonneg _ | (simp only [i64max, u8max, u16max, u32max, u64max]; omega) | (simp only [mulSz_eq, Cont.len, colsLen, Col.len, List.length_cons, List.length_nil, List.length_replicate, List.length_append]; first | done | omega) | (simp [mulSz, Cont.len, bne]; first | done | omega)))); conv => whnf)
      | (refine tst_in ?_ ?_; (focus (intro h_; exfalso; first | omega | ((try simp only [decide_eq_true_eq, decide_eq_false_iff_not] at h_); omega) | (simp [mulSz, Cont.len, bne] at h_; first | done | omega))); intro _; conv => whnf)
      | (refine tst_in ?_ ?_; rotate_left; (focus (intro h_; exfalso; first | omega | ((try simp only [decide_eq_true_eq, decide_eq_false_iff_not] at h_); omega) | (simp [mulSz, Cont.len, bne] at h_; first | done | omega))); intro _; conv => whnf)
      | (refine ⟨0, (show _ = _ by omega), ?_⟩; conv => whnf))
    refine tst_in (fun h => ?_) (fun h' => ?_)
    · have h : i < m := by have := dlt_t h; omega
      have hgi := hg2 i h
      have ho := gi_in (sumS F H n i) i
      have hh := gi_in H i
      have hto : (tb (gi (sumS F H n i)) N).getD i 0 = gi (sumS F H n i) i := tab_get _ _ (by omega)
      conv => whnf
      repeat (first
        | (refine And.intro ?_ ?_; (focus (first | omega | decide | exact EqOk.mk (by kernel_rfl) (by kernel_rfl) (by kernel_rfl) | exact Int.natCast_nonneg _ | ((repeat' refine And.intro ?_ ?_) <;> first | omega | exact Int.natCast_nonneg _ | (simp only [i64max, u8max, u16max, u32max, u64max]; omega) | (simp only [mulSz_eq, Cont.len, colsLen, Col.len, List.length_cons, List.length_nil, List.length_replicate, List.length_append, tab_len]; first | done | omega) | (simp [mulSz, Cont.len, bne, tab_len]; first | done | omega)))); conv => whnf)
        | (refine tst_in ?_ ?_; (focus (intro h_; exfalso; first | omega | ((try simp only [decide_eq_true_eq, decide_eq_false_iff_not] at h_); omega) | (simp [mulSz, Cont.len, bne, tab_len] at h_; first | done | omega))); intro _; conv => whnf)
        | (refine tst_in ?_ ?_; rotate_left; (focus (intro h_; exfalso; first | omega | ((try simp only [decide_eq_true_eq, decide_eq_false_iff_not] at h_); omega) | (simp [mulSz, Cont.len, bne, tab_len] at h_; first | done | omega))); intro _; conv => whnf)
        | (refine ⟨0, (show _ = _ by omega), ?_⟩; conv => whnf))
      rw [show (0 + ((i : Nat) : Int).toNat) = i by omega, hto, hgi]
      refine ⟨⟨ho.1, hh.1, ho.2, hh.2⟩, ?_⟩
      conv => whnf
      repeat (first
        | (refine And.intro ?_ ?_; (focus (first | omega | decide | exact EqOk.mk (by kernel_rfl) (by kernel_rfl) (by kernel_rfl) | exact Int.natCast_nonneg _ | ((repeat' refine And.intro ?_ ?_) <;> first | omega | exact Int.natCast_nonneg _ | (simp only [i64max, u8max, u16max, u32max, u64max]; omega) | (simp only [mulSz_eq, Cont.len, colsLen, Col.len, List.length_cons, List.length_nil, List.length_replicate, List.length_append, tab_len]; first | done | omega) | (simp [mulSz, Cont.len, bne, tab_len]; first | done | omega)))); conv => whnf)
        | (refine tst_in ?_ ?_; (focus (intro h_; exfalso; first | omega | ((try simp only [decide_eq_true_eq, decide_eq_false_iff_not] at h_); omega) | (simp [mulSz, Cont.len, bne, tab_len] at h_; first | done | omega))); intro _; conv => whnf)
        | (refine tst_in ?_ ?_; rotate_left; (focus (intro h_; exfalso; first | omega | ((try simp only [decide_eq_true_eq, decide_eq_false_iff_not] at h_); omega) | (simp [mulSz, Cont.len, bne, tab_len] at h_; first | done | omega))); intro _; conv => whnf)
        | (refine ⟨0, (show _ = _ by omega), ?_⟩; conv => whnf))
      refine ⟨[0, 1, 2], (i + 1 : Nat), ?_, h, by show m - (i + 1) < m - i; omega⟩
      show stLe _ _ (st42 F H A B n c m d N (i + 1)) _
      conv => whnf
      repeat' (first | exact True.intro | rfl | refine And.intro ?_ ?_)
      all_goals (conv => whnf)
      repeat' (first | exact True.intro | rfl | refine And.intro ?_ ?_)
      all_goals (try omega)
      show tb (gi (sumS F H n (i + 1))) N = (tb (gi (sumS F H n i)) N).set (0 + ((i : Nat) : Int).toNat) (((sumS F H n i i + H i : G).v : Nat) : Int)
      rw [show (0 + ((i : Nat) : Int).toNat) = i by omega]
      exact (tab_put (sumS F H n i) N i _ (fun k hk => by
        unfold sumS pa
        rw [ct_succ]
        show _ = if k = i then ct F n i + ct H i i + H i else _
        by_cases h : k = i
        · subst h; rw [if_pos rfl]; show ct F n k + (ct H k k + H k * sh k (fun i => if i = 0 then g1 else g0) k) = _
          rw [sh_in _ (Nat.le_refl _), if_pos (by omega), m_one, a_assoc]
        · rw [if_neg h]; show ct F n k + (ct H i k + H i * sh i (fun i => if i = 0 then g1 else g0) k) = _
          rw [show sh i (fun i => if i = 0 then g1 else g0) k = g0 by (unfold sh; split; exact if_neg (by omega); rfl), m_zero, a_zero])).symm
    · have h : i = m := by have := dlt_f h'; omega
      subst h
      conv => whnf
      repeat (first
        | (refine And.intro ?_ ?_; (focus (first | omega | decide | exact EqOk.mk (by kernel_rfl) (by kernel_rfl) (by kernel_rfl) | exact Int.natCast_nonneg _ | ((repeat' refine And.intro ?_ ?_) <;> first | omega | exact Int.natCast_nonneg _ | (simp only [i64max, u8max, u16max, u32max, u64max]; omega) | (simp only [mulSz_eq, Cont.len, colsLen, Col.len, List.length_cons, List.length_nil, List.length_replicate, List.length_append]; first | done | omega) | (simp [mulSz, Cont.len, bne]; first | done | omega)))); conv => whnf)
        | (refine tst_in ?_ ?_; (focus (intro h_; exfalso; first | omega | ((try simp only [decide_eq_true_eq, decide_eq_false_iff_not] at h_); omega) | (simp [mulSz, Cont.len, bne] at h_; first | done | omega))); intro _; conv => whnf)
        | (refine tst_in ?_ ?_; rotate_left; (focus (intro h_; exfalso; first | omega | ((try simp only [decide_eq_true_eq, decide_eq_false_iff_not] at h_); omega) | (simp [mulSz, Cont.len, bne] at h_; first | done | omega))); intro _; conv => whnf)
        | (refine ⟨0, (show _ = _ by omega), ?_⟩; conv => whnf))
      refine ⟨_, [2], TR, ?_⟩
      conv => whnf
      iterate 2
       refine And.intro ?_ ?_
       focus
        conv => whnf
        repeat' (first | exact True.intro | rfl | refine And.intro ?_ ?_ | omega)
        all_goals (conv => whnf)
        all_goals (try (first | rfl | omega | (simp; done)))
      conv => whnf
      refine ⟨?_, True.intro⟩
      intro _ _
      conv => whnf
      conv => whnf
      repeat (first
        | (refine And.intro ?_ ?_; (focus (first | omega | decide | exact EqOk.mk (by kernel_rfl) (by kernel_rfl) (by kernel_rfl) | exact Int.natCast_nonneg _ | ((repeat' refine And.intro ?_ ?_) <;> first | omega | exact Int.natCast_nonneg _ | (simp only [i64max, u8max, u16max, u32max, u64max]; omega) | (simp only [mulSz_eq, Cont.len, colsLen, Col.len, List.length_cons, List.length_nil, List.length_replicate, List.length_append]; first | done | omega) | (simp [mulSz, Cont.len, bne]; first | done | omega)))); conv => whnf)
        | (refine tst_in ?_ ?_; (focus (intro h_; exfalso; first | omega | ((try simp only [decide_eq_true_eq, decide_eq_false_iff_not] at h_); omega) | (simp [mulSz, Cont.len, bne] at h_; first | done | omega))); intro _; conv => whnf)
        | (refine tst_in ?_ ?_; rotate_left; (focus (intro h_; exfalso; first | omega | ((try simp only [decide_eq_true_eq, decide_eq_false_iff_not] at h_); omega) | (simp [mulSz, Cont.len, bne] at h_; first | done | omega))); intro _; conv => whnf)
        | (refine ⟨0, (show _ = _ by omega), ?_⟩; conv => whnf))
      refine .inl ⟨(), [0, 1, 2], ?_⟩
      conv => whnf
      repeat' (first | exact True.intro | rfl | refine And.intro ?_ ?_)
      all_goals (conv => whnf)
      repeat' (first | exact True.intro | rfl | refine And.intro ?_ ?_)
      all_goals (try omega)
end Go.Proofs.Yteiblfkegnppeaa

set_option linter.unusedVariables false
set_option linter.unusedSimpArgs false
namespace Go.Proofs.Yteiblfkegnppeaa
open Go Go.Fw
/-- So many, if none is too long. -/
def okN (n m N : Nat) : Nat := if 512 < n ∨ 512 < m then 0 else N
def okE (n m : Nat) : Int := if 512 < n ∨ 512 < m then 1 else 0
theorem okN_y {n m : Nat} (N : Nat) (hn : n ≤ 512) (hm : m ≤ 512) : okN n m N = N := if_neg (by omega)
theorem okE_y {n m : Nat} (hn : n ≤ 512) (hm : m ≤ 512) : okE n m = 0 := if_neg (by omega)
theorem okN_n {n m : Nat} (N : Nat) (h : 512 < n ∨ 512 < m) : okN n m N = 0 := if_pos h
theorem okE_n {n m : Nat} (h : 512 < n ∨ 512 < m) : okE n m = 1 := if_pos h
noncomputable def k22 : Code := (Try.f22.body).getD .skip
noncomputable def polOut (P : Nat → G) (l N : Nat) (E : Int) : FOut := numOut [.dead, .dead, .seg true (.ints .u8 (tb (gi P) N))] (.tup [.slice 2 0 l N, .int .i64 E])
set_option maxHeartbeats 0 in
set_option maxRecDepth 100000 in
theorem Sum_g (F H : Nat → G) (A B : List Int) (n c m d : Nat) (hA : Rd A F n) (hB : Rd B H m) (hc : n ≤ c) (hd : m ≤ d) (hn : n ≤ 9223372036854775807) (hm : m ≤ 9223372036854775807) :
    Fits Try.prog 22 ⟨[.slice 0 0 n c, .slice 1 0 m d], [.seg false (.ints .u8 A), .seg false (.ints .u8 B)],
      [polOut (sumS F H n m) (dg (sumS F H n m) (okN n m (max n m))) (okN n m (max n m)) (okE n m)]⟩ := by
  have TL := tooLong2 n c m d hn hm
  refine fits_of_body (C := cfgk 2) (c := k22) (ts := [4, 5]) tokL mixedL (fun _ => none) (fun _ => none)
    Try.func22 (by kernel_rfl) (by kernel_rfl) (by kernel_rfl) (by kernel_rfl) rfl ?_
  conv => whnf
  repeat (first
    | (refine And.intro ?_ ?_; (focus (first | omega | decide | exact EqOk.mk (by kernel_rfl) (by kernel_rfl) (by kernel_rfl) | exact Int.natCast_nonneg _ | ((repeat' refine And.intro ?_ ?_) <;> first | omega | exact Int.natCast_nonneg _ | (simp only [i64max, u8max, u16max, u32max, u64max]; omega) | (simp only [mulSz_eq, Cont.len, colsLen, Col.len, List.length_cons, List.length_nil, List.length_replicate, List.length_append]; first | done | omega) | (simp [mulSz, Cont.len, bne]; first | done | omega)))); conv => whnf)
    | (refine tst_in ?_ ?_; (focus (intro h_; exfalso; first | omega | ((try simp only [decide_eq_true_eq, decide_eq_false_iff_not] at h_); omega) | (simp [mulSz, Cont.len, bne] at h_; first | done | omega))); intro _; conv => whnf)
    | (refine tst_in ?_ ?_; rotate_left; (focus (intro h_; exfalso; first | omega | ((try simp only [decide_eq_true_eq, decide_eq_false_iff_not] at h_); omega) | (simp [mulSz, Cont.len, bne] at h_; first | done | omega))); intro _; conv => whnf)
    | (refine ⟨0, (show _ = _ by omega), ?_⟩; conv => whnf))
  refine ⟨_, [2, 0, 1], TL, ?_⟩
  conv => whnf
  iterate 2
   refine And.intro ?_ ?_
   focus
    conv => whnf
    repeat' (first | exact True.intro | rfl | refine And.intro ?_ ?_)
    all_goals (conv => whnf)
    repeat' (first | exact True.intro | rfl | refine And.intro ?_ ?_)
    all_goals (try (first | rfl | omega | (simp; first | done | omega)))
  conv => whnf
  by_cases hb : 512 < n ∨ 512 < m
  · rw [decide_eq_true hb, okN_n _ hb, okE_n hb]
    conv => whnf
    repeat (first
      | (refine And.intro ?_ ?_; (focus (first | omega | decide | exact EqOk.mk (by kernel_rfl) (by kernel_rfl) (by kernel_rfl) | exact Int.natCast_nonneg _ | ((repeat' refine And.intro ?_ ?_) <;> first | omega | exact Int.natCast_nonneg _ | (simp only [i64max, u8max, u16max, u32max, u64max]; omega) | (simp only [mulSz_eq, Cont.len, colsLen, Col.len, List.length_cons, List.length_nil, List.length_replicate, List.length_append]; first | done | omega) | (simp [mulSz, Cont.len, bne]; first | done | omega)))); conv => whnf)
      | (refine tst_in ?_ ?_; (focus (intro h_; exfalso; first | omega | ((try simp only [decide_eq_true_eq, decide_eq_false_iff_not] at h_); omega) | (simp [mulSz, Cont.len, bne] at h_; first | done | omega))); intro _; conv => whnf)
      | (refine tst_in ?_ ?_; rotate_left; (focus (intro h_; exfalso; first | omega | ((try simp only [decide_eq_true_eq, decide_eq_false_iff_not] at h_); omega) | (simp [mulSz, Cont.len, bne] at h_; first | done | omega))); intro _; conv => whnf)
      | (refine ⟨0, (show _ = _ by omega), ?_⟩; conv => whnf))
    refine .inl ⟨(), [0, 1, 9], ?_⟩
    conv => whnf
    repeat' (first | exact True.intro | rfl | refine And.intro ?_ ?_)
    all_goals (conv => whnf)
    repeat' (first | exact True.intro | rfl | refine And.intro ?_ ?_)
    all_goals (try omega)
  · rw [decide_eq_false hb, okN_y _ (by omega) (by omega), okE_y (by omega) (by omega)]
    have SM := sum_f F H A B n c m d hA hB hc hd (by omega) (by omega)
    conv => whnf
    repeat (first
      | (refine And.intro ?_ ?_; (focus (first | omega | decide | exact EqOk.mk (by kernel_rfl) (by kernel_rfl) (by kernel_rfl) | exact Int.natCast_nonneg _ | ((repeat' refine And.intro ?_ ?_) <;> first | omega | exact Int.natCast_nonneg _ | (simp only [i64max, u8max, u16max, u32max, u64max]; omega) | (simp only [mulSz_eq, Cont.len, colsLen, Col.len, List.length_cons, List.length_nil, List.length_replicate, List.length_append]; first | done | omega) | (simp [mulSz, Cont.len, bne]; first | done | omega)))); conv => whnf)
      | (refine tst_in ?_ ?_; (focus (intro h_; exfalso; first | omega | ((try simp only [decide_eq_true_eq, decide_eq_false_iff_not] at h_); omega) | (simp [mulSz, Cont.len, bne] at h_; first | done | omega))); intro _; conv => whnf)
      | (refine tst_in ?_ ?_; rotate_left; (focus (intro h_; exfalso; first | omega | ((try simp only [decide_eq_true_eq, decide_eq_false_iff_not] at h_); omega) | (simp [mulSz, Cont.len, bne] at h_; first | done | omega))); intro _; conv => whnf)
      | (refine ⟨0, (show _ = _ by omega), ?_⟩; conv => whnf))
    refine ⟨_, [0, 1], SM, ?_⟩
    conv => whnf
    iterate 2
     refine And.intro ?_ ?_
     focus
      conv => whnf
      repeat' (first | exact True.intro | rfl | refine And.intro ?_ ?_ | omega)
      all_goals (conv => whnf)
      all_goals (try (first | rfl | omega | (simp; done)))
    conv => whnf
    refine ⟨?_, True.intro⟩
    intro _ _
    conv => whnf
    conv => whnf
    repeat (first
      | (refine And.intro ?_ ?_; (focus (first | omega | decide | exact EqOk.mk (by kernel_rfl) (by kernel_rfl) (by kernel_rfl) | exact Int.natCast_nonneg _ | ((repeat' refine And.intro ?_ ?_) <;> first | omega | exact Int.natCast_nonneg _ | (simp only [i64max, u8max, u16max, u32max, u64max]; omega) | (simp only [mulSz_eq, Cont.len, colsLen, Col.len, List.length_cons, List.length_nil, List.length_replicate, List.length_append]; first | done | omega) | (simp [mulSz, Cont.len, bne]; first | done | omega)))); conv => whnf)
      | (refine tst_in ?_ ?_; (focus (intro h_; exfalso; first | omega | ((try simp only [decide_eq_true_eq, decide_eq_false_iff_not] at h_); omega) | (simp [mulSz, Cont.len, bne] at h_; first | done | omega))); intro _; conv => whnf)
      | (refine tst_in ?_ ?_; rotate_left; (focus (intro h_; exfalso; first | omega | ((try simp only [decide_eq_true_eq, decide_eq_false_iff_not] at h_); omega) | (simp [mulSz, Cont.len, bne] at h_; first | done | omega))); intro _; conv => whnf)
      | (refine ⟨0, (show _ = _ by omega), ?_⟩; conv => whnf))
    refine .inl ⟨(), [0, 1, 3], ?_⟩
    conv => whnf
    repeat' (first | exact True.intro | rfl | refine And.intro ?_ ?_)
    all_goals (conv => whnf)
    repeat' (first | exact True.intro | rfl | refine And.intro ?_ ?_)
    all_goals (try omega)
end Go.Proofs.Yteiblfkegnppeaa

set_option linter.unusedVariables false
set_option linter.unusedSimpArgs false
namespace Go.Proofs.Yteiblfkegnppeaa
open Go Go.Fw
def natAt (st : St) (t : Nat) : Nat := match slot st.sl t with | .int _ n => n.toNat | _ => 0
noncomputable def k43 : Code := (Try.f43.body).getD .skip
noncomputable def prodP (F H : Nat → G) (n m : Nat) : Nat → G := ac (ct F n) (ct H m) n
def plen (s t : Nat) : Nat := if s = 0 ∨ t = 0 then 0 else s + t - 1
/-- So far: i terms, and of the next one j. -/
noncomputable def part (F H : Nat → G) (i j : Nat) : Nat → G := pa (ac F H i) (ps (F i) (sh i (ct H j)))
theorem part_0 (F H : Nat → G) (i : Nat) : part F H i 0 = ac F H i := by
  unfold part
  rw [show ct H 0 = zf from funext fun i => if_neg (by omega), sh_zf, ps_zf, pa_zf]
theorem part_end {F H : Nat → G} {t : Nat} (h : Zr H t) (i : Nat) : part F H i t = ac F H (i + 1) := by
  unfold part; rw [ct_eq h]; rfl
theorem part_succ (F H : Nat → G) (i j k : Nat) : part F H i (j + 1) k = if k = i + j then part F H i j (i + j) + F i * H j else part F H i j k := by
  unfold part
  rw [ct_succ, sh_pa, ps_pa, ← pa_assoc]
  show pa (ac F H i) (ps (F i) (sh i (ct H j))) k + F i * sh i (ps (H j) (sh j fun i => if i = 0 then g1 else g0)) k = _
  rw [sh_ps, sh_sh]
  show _ + F i * (H j * sh (i + j) (fun i => if i = 0 then g1 else g0) k) = _
  by_cases h : k = i + j
  · subst h; rw [if_pos rfl, sh_in _ (Nat.le_refl _), if_pos (by omega), m_one]
  · rw [if_neg h, show sh (i + j) (fun i => if i = 0 then g1 else g0) k = g0 by (unfold sh; split; exact if_neg (by omega); rfl), m_zero, m_zero, a_zero]
noncomputable def st43 (F H : Nat → G) (A B : List Int) (s c t d L i : Nat) : St := ⟨slotsAt 57 [(0, .slice 0 0 s c), (1, .slice 1 0 t d), (5, .slice 2 0 L L), (29, .slice 0 0 s c), (30, .int .i64 s), (31, .int .i64 i)], [.seg false (.ints .u8 A), .seg false (.ints .u8 B), .seg true (.ints .u8 (tb (gi (ac F H i)) L))]⟩
noncomputable def st43b (F H : Nat → G) (A B : List Int) (s c t d L i j : Nat) : St := ⟨slotsAt 57 [(0, .slice 0 0 s c), (1, .slice 1 0 t d), (5, .slice 2 0 L L), (6, .int .i64 i), (7, .int .u8 (gi F i)), (29, .slice 0 0 s c), (30, .int .i64 s), (31, .int .i64 i), (36, .slice 1 0 t d), (37, .int .i64 t), (38, .int .i64 j)], [.seg false (.ints .u8 A), .seg false (.ints .u8 B), .seg true (.ints .u8 (tb (gi (part F H i j)) L))]⟩
def plan43 : PlanN := .op 0 (.op 1 (.op 2 (.op 6 (.op 7 (.rd 3 (.rd 4 (.rd 5 (.op 8 (.chk [5, 4, 3] (.op 9 (.op 10 (.op 11 .done))))))))))))
noncomputable def cfg43 (F H : Nat → G) (A B : List Int) (s c t d L : Nat) : Cfg := { cfgk 2 with
  dep := fun | 9 => some fun st => ⟨Nat, fun j => st43b F H A B s c t d L (natAt st 31) j, fun j => j ≤ t, fun j => t - j⟩ | _ => none,
  plan := fun | 11 => some (.nn plan43) | _ => none }
set_option maxHeartbeats 0 in
set_option maxRecDepth 100000 in
theorem product_f (F H : Nat → G) (A B : List Int) (n c m d : Nat) (hA : Rd A F n) (hB : Rd B H m) (hc : n ≤ c) (hd : m ≤ d) (hn : n ≤ 512) (hm : m ≤ 512) :
    Fits Try.prog 43 ⟨[.slice 0 0 n c, .slice 1 0 m d], [.seg false (.ints .u8 A), .seg false (.ints .u8 B)],
      [numOut [.dead, .dead, .seg true (.ints .u8 (tb (gi (prodP F H n m)) (plen (dg F n) (dg H m))))] (.slice 2 0 (plen (dg F n) (dg H m)) (plen (dg F n) (dg H m)))]⟩ := by
  have TA := trim_f F A n c hA hc (by omega)
  have TB := trim_f H B m d hB hd (by omega)
  have hs0 := dg_le F n
  have ht0 := dg_le H m
  have hpF := pol_dg F n
  have hpH := pol_dg H m
  have hP : prodP F H n m = ac (ct F n) (ct H m) (dg F n) := ac_le _ _ hpF.1 hs0
  rw [hP]
  have hA2 : Rd A (ct F n) n := Rd_congr hA fun i hi => (ct_lt F hi).symm
  have hB2 : Rd B (ct H m) m := Rd_congr hB fun i hi => (ct_lt H hi).symm
  generalize dg F n = s at *
  generalize dg H m = t at *
  generalize ct F n = F' at *
  generalize ct H m = H' at *
  refine fits_of_body (C := cfg43 F' H' A B s c t d (s + t - 1)) (c := k43) (ts := [4]) tokL mixedL (fun | 6 => some ⟨Nat, fun i => st43 F' H' A B s c t d (s + t - 1) i, fun i => i ≤ s, fun i => s - i⟩ | _ => none) (fun _ => none)
    Try.func43 (by kernel_rfl) (by kernel_rfl) (by kernel_rfl) (by kernel_rfl) rfl ?_
  conv => whnf
  repeat (first
    | (refine And.intro ?_ ?_; (focus (first | omega | decide | exact EqOk.mk (by kernel_rfl) (by kernel_rfl) (by kernel_rfl) | exact Int.natCast_nonneg _ | ((repeat' refine And.intro ?_ ?_) <;> first | omega | exact Int.natCast_nonneg _ | (simp only [i64max, u8max, u16max, u32max, u64max]; omega) | (simp only [mulSz_eq, Cont.len, colsLen, Col.len, List.length_cons, List.length_nil, List.length_replicate, List.length_append]; first | done | omega) | (simp [mulSz, Cont.len, bne]; first | done | omega)))); conv => whnf)
    | (refine tst_in ?_ ?_; (focus (intro h_; exfalso; first | omega | ((try simp only [decide_eq_true_eq, decide_eq_false_iff_not] at h_); omega) | (simp [mulSz, Cont.len, bne] at h_; first | done | omega))); intro _; conv => whnf)
    | (refine tst_in ?_ ?_; rotate_left; (focus (intro h_; exfalso; first | omega | ((try simp only [decide_eq_true_eq, decide_eq_false_iff_not] at h_); omega) | (simp [mulSz, Cont.len, bne] at h_; first | done | omega))); intro _; conv => whnf)
    | (refine ⟨0, (show _ = _ by omega), ?_⟩; conv => whnf))
  refine ⟨_, [0], TA, ?_⟩
  conv => whnf
  iterate 2
   refine And.intro ?_ ?_
   focus
    conv => whnf
    repeat' (first | exact True.intro | rfl | refine And.intro ?_ ?_ | omega)
    all_goals (conv => whnf)
    all_goals (try (first | rfl | omega | (simp; done)))
  conv => whnf
  refine ⟨?_, True.intro⟩
  intro _ _
  conv => whnf
  conv => whnf
  repeat (first
    | (refine And.intro ?_ ?_; (focus (first | omega | decide | exact EqOk.mk (by kernel_rfl) (by kernel_rfl) (by kernel_rfl) | exact Int.natCast_nonneg _ | ((repeat' refine And.intro ?_ ?_) <;> first | omega | exact Int.natCast_nonneg _ | (simp only [i64max, u8max, u16max, u32max, u64max]; omega) | (simp only [mulSz_eq, Cont.len, colsLen, Col.len, List.length_cons, List.length_nil, List.length_replicate, List.length_append]; first | done | omega) | (simp [mulSz, Cont.len, bne]; first | done | omega)))); conv => whnf)
    | (refine tst_in ?_ ?_; (focus (intro h_; exfalso; first | omega | ((try simp only [decide_eq_true_eq, decide_eq_false_iff_not] at h_); omega) | (simp [mulSz, Cont.len, bne] at h_; first | done | omega))); intro _; conv => whnf)
    | (refine tst_in ?_ ?_; rotate_left; (focus (intro h_; exfalso; first | omega | ((try simp only [decide_eq_true_eq, decide_eq_false_iff_not] at h_); omega) | (simp [mulSz, Cont.len, bne] at h_; first | done | omega))); intro _; conv => whnf)
    | (refine ⟨0, (show _ = _ by omega), ?_⟩; conv => whnf))
  refine ⟨_, [1], TB, ?_⟩
  conv => whnf
  iterate 2
   refine And.intro ?_ ?_
   focus
    conv => whnf
    repeat' (first | exact True.intro | rfl | refine And.intro ?_ ?_ | omega)
    all_goals (conv => whnf)
    all_goals (try (first | rfl | omega | (simp; done)))
  conv => whnf
  refine ⟨?_, True.intro⟩
  intro _ _
  conv => whnf
  conv => whnf
  repeat (first
    | (refine And.intro ?_ ?_; (focus (first | omega | decide | exact EqOk.mk (by kernel_rfl) (by kernel_rfl) (by kernel_rfl) | exact Int.natCast_nonneg _ | ((repeat' refine And.intro ?_ ?_) <;> first | omega | exact Int.natCast_nonneg _ | (simp only [i64max, u8max, u16max, u32max, u64max]; omega) | (simp only [mulSz_eq, Cont.len, colsLen, Col.len, List.length_cons, List.length_nil, List.length_replicate, List.length_append]; first | done | omega) | (simp [mulSz, Cont.len, bne]; first | done | omega)))); conv => whnf)
    | (refine tst_in ?_ ?_; (focus (intro h_; exfalso; first | omega | ((try simp only [decide_eq_true_eq, decide_eq_false_iff_not] at h_); omega) | (simp [mulSz, Cont.len, bne] at h_; first | done | omega))); intro _; conv => whnf)
    | (refine tst_in ?_ ?_; rotate_left; (focus (intro h_; exfalso; first | omega | ((try simp only [decide_eq_true_eq, decide_eq_false_iff_not] at h_); omega) | (simp [mulSz, Cont.len, bne] at h_; first | done | omega))); intro _; conv => whnf)
    | (refine ⟨0, (show _ = _ by omega), ?_⟩; conv => whnf))
  refine tst_in (fun h => ?_) (fun h' => ?_)
  · have h : s = 0 := by simp at h; omega
    subst h
    rw [show plen 0 t = 0 from if_pos (.inl rfl)]
    conv => whnf
    repeat (first
      | (refine And.intro ?_ ?_; (focus (first | omega | decide | exact EqOk.mk (by kernel_rfl) (by kernel_rfl) (by kernel_rfl) | exact Int.natCast_nonneg _ | ((repeat' refine And.intro ?_ ?_) <;> first | omega | exact Int.natCast_nonneg _ | (simp only [i64max, u8max, u16max, u32max, u64max]; omega) | (simp only [mulSz_eq, Cont.len, colsLen, Col.len, List.length_cons, List.length_nil, List.length_replicate, List.length_append]; first | done | omega) | (simp [mulSz, Cont.len, bne]; first | done | omega)))); conv => whnf)
      | (refine tst_in ?_ ?_; (focus (intro h_; exfalso; first | omega | ((try simp only [decide_eq_true_eq, decide_eq_false_iff_not] at h_); omega) | (simp [mulSz, Cont.len, bne] at h_; first | done | omega))); intro _; conv => whnf)
      | (refine tst_in ?_ ?_; rotate_left; (focus (intro h_; exfalso; first | omega | ((try simp only [decide_eq_true_eq, decide_eq_false_iff_not] at h_); omega) | (simp [mulSz, Cont.len, bne] at h_; first | done | omega))); intro _; conv => whnf)
      | (refine ⟨0, (show _ = _ by omega), ?_⟩; conv => whnf))
    refine .inl ⟨(), [0, 1, 9], ?_⟩
    conv => whnf
    repeat' (first | exact True.intro | rfl | refine And.intro ?_ ?_)
    all_goals (conv => whnf)
    repeat' (first | exact True.intro | rfl | refine And.intro ?_ ?_)
    all_goals (try omega)
  · have h : s ≠ 0 := by simp at h'; omega
    conv => whnf
    repeat (first
      | (refine And.intro ?_ ?_; (focus (first | omega | decide | exact EqOk.mk (by kernel_rfl) (by kernel_rfl) (by kernel_rfl) | exact Int.natCast_nonneg _ | ((repeat' refine And.intro ?_ ?_) <;> first | omega | exact Int.natCast_nonneg _ | (simp only [i64max, u8max, u16max, u32max, u64max]; omega) | (simp only [mulSz_eq, Cont.len, colsLen, Col.len, List.length_cons, List.length_nil, List.length_replicate, List.length_append]; first | done | omega) | (simp [mulSz, Cont.len, bne]; first | done | omega)))); conv => whnf)
      | (refine tst_in ?_ ?_; (focus (intro h_; exfalso; first | omega | ((try simp only [decide_eq_true_eq, decide_eq_false_iff_not] at h_); omega) | (simp [mulSz, Cont.len, bne] at h_; first | done | omega))); intro _; conv => whnf)
      | (refine tst_in ?_ ?_; rotate_left; (focus (intro h_; exfalso; first | omega | ((try simp only [decide_eq_true_eq, decide_eq_false_iff_not] at h_); omega) | (simp [mulSz, Cont.len, bne] at h_; first | done | omega))); intro _; conv => whnf)
      | (refine ⟨0, (show _ = _ by omega), ?_⟩; conv => whnf))
    refine tst_in (fun q => ?_) (fun q' => ?_)
    · have q : t = 0 := by simp at q; omega
      subst q
      rw [show plen s 0 = 0 from if_pos (.inr rfl)]
      conv => whnf
      repeat (first
        | (refine And.intro ?_ ?_; (focus (first | omega | decide | exact EqOk.mk (by kernel_rfl) (by kernel_rfl) (by kernel_rfl) | exact Int.natCast_nonneg _ | ((repeat' refine And.intro ?_ ?_) <;> first | omega | exact Int.natCast_nonneg _ | (simp only [i64max, u8max, u16max, u32max, u64max]; omega) | (simp only [mulSz_eq, Cont.len, colsLen, Col.len, List.length_cons, List.length_nil, List.length_replicate, List.length_append]; first | done | omega) | (simp [mulSz, Cont.len, bne]; first | done | omega)))); conv => whnf)
        | (refine tst_in ?_ ?_; (focus (intro h_; exfalso; first | omega | ((try simp only [decide_eq_true_eq, decide_eq_false_iff_not] at h_); omega) | (simp [mulSz, Cont.len, bne] at h_; first | done | omega))); intro _; conv => whnf)
        | (refine tst_in ?_ ?_; rotate_left; (focus (intro h_; exfalso; first | omega | ((try simp only [decide_eq_true_eq, decide_eq_false_iff_not] at h_); omega) | (simp [mulSz, Cont.len, bne] at h_; first | done | omega))); intro _; conv => whnf)
        | (refine ⟨0, (show _ = _ by omega), ?_⟩; conv => whnf))
      refine .inl ⟨(), [0, 1, 9], ?_⟩
      conv => whnf
      repeat' (first | exact True.intro | rfl | refine And.intro ?_ ?_)
      all_goals (conv => whnf)
      repeat' (first | exact True.intro | rfl | refine And.intro ?_ ?_)
      all_goals (try omega)
    · have q : t ≠ 0 := by simp at q'; omega
      rw [show plen s t = s + t - 1 from if_neg (by omega)]
      obtain ⟨L, hL⟩ : ∃ L, L = s + t - 1 := ⟨_, rfl⟩
      rw [← hL]
      conv => whnf
      repeat (first
        | (refine And.intro ?_ ?_; (focus (first | omega | decide | exact EqOk.mk (by kernel_rfl) (by kernel_rfl) (by kernel_rfl) | exact Int.natCast_nonneg _ | ((repeat' refine And.intro ?_ ?_) <;> first | omega | exact Int.natCast_nonneg _ | (simp only [i64max, u8max, u16max, u32max, u64max]; omega) | (simp only [mulSz_eq, Cont.len, colsLen, Col.len, List.length_cons, List.length_nil, List.length_replicate, List.length_append]; first | done | omega) | (simp [mulSz, Cont.len, bne]; first | done | omega)))); conv => whnf)
        | (refine tst_in ?_ ?_; (focus (intro h_; exfalso; first | omega | ((try simp only [decide_eq_true_eq, decide_eq_false_iff_not] at h_); omega) | (simp [mulSz, Cont.len, bne] at h_; first | done | omega))); intro _; conv => whnf)
        | (refine tst_in ?_ ?_; rotate_left; (focus (intro h_; exfalso; first | omega | ((try simp only [decide_eq_true_eq, decide_eq_false_iff_not] at h_); omega) | (simp [mulSz, Cont.len, bne] at h_; first | done | omega))); intro _; conv => whnf)
        | (refine ⟨0, (show _ = _ by omega), ?_⟩; conv => whnf))
      rw [show ((s : Int) + (t : Int) - 1).toNat = L by omega]
      obtain ⟨hl, hg⟩ := hA2
      obtain ⟨hl2, hg2⟩ := hB2
      refine ⟨⟨[0, 1, 2], (0 : Nat), ?_, Nat.zero_le _⟩, ?_⟩
      · show stLe _ _ (st43 F' H' A B s c t d L 0) _
        conv => whnf
        repeat' (first | exact True.intro | rfl | refine And.intro ?_ ?_)
        all_goals (conv => whnf)
        repeat' (first | exact True.intro | rfl | refine And.intro ?_ ?_)
        all_goals (try omega)
        exact (tab_ext 0 (List.length_replicate ..) fun k hk => by rw [g_rep, if_pos hk]; rfl).symm
      · intro (i : Nat) (hi : i ≤ s)
        show forceSt (st43 F' H' A B s c t d L i) _
        conv => whnf
        repeat (first
          | (refine And.intro ?_ ?_; (focus (first | omega | decide | exact EqOk.mk (by kernel_rfl) (by kernel_rfl) (by kernel_rfl) | exact Int.natCast_nonneg _ | ((repeat' refine And.intro ?_ ?_) <;> first | omega | exact Int.natCast_nonneg _ | (simp only [i64max, u8max, u16max, u32max, u64max]; omega) | (simp only [mulSz_eq, Cont.len, colsLen, Col.len, List.length_cons, List.length_nil, List.length_replicate, List.length_append]; first | done | omega) | (simp [mulSz, Cont.len, bne]; first | done | omega)))); conv => whnf)
          | (refine tst_in ?_ ?_; (focus (intro h_; exfalso; first | omega | ((try simp only [decide_eq_true_eq, decide_eq_false_iff_not] at h_); omega) | (simp [mulSz, Cont.len, bne] at h_; first | done | omega))); intro _; conv => whnf)
          | (refine tst_in ?_ ?_; rotate_left; (focus (intro h_; exfalso; first | omega | ((try simp only [decide_eq_true_eq, decide_eq_false_iff_not] at h_); omega) | (simp [mulSz, Cont.len, bne] at h_; first | done | omega))); intro _; conv => whnf)
          | (refine ⟨0, (show _ = _ by omega), ?_⟩; conv => whnf))
        refine tst_in (fun r => ?_) (fun r' => ?_)
        · have r : i < s := by have := dlt_t r; omega
          have hgi := hg i (by omega)
          conv => whnf
          repeat (first
            | (refine And.intro ?_ ?_; (focus (first | omega | decide | exact EqOk.mk (by kernel_rfl) (by kernel_rfl) (by kernel_rfl) | exact Int.natCast_nonneg _ | ((repeat' refine And.intro ?_ ?_) <;> first | omega | exact Int.natCast_nonneg _ | (simp only [i64max, u8max, u16max, u32max, u64max]; omega) | (simp only [mulSz_eq, Cont.len, colsLen, Col.len, List.length_cons, List.length_nil, List.length_replicate, List.length_append]; first | done | omega) | (simp [mulSz, Cont.len, bne]; first | done | omega)))); conv => whnf)
            | (refine tst_in ?_ ?_; (focus (intro h_; exfalso; first | omega | ((try simp only [decide_eq_true_eq, decide_eq_false_iff_not] at h_); omega) | (simp [mulSz, Cont.len, bne] at h_; first | done | omega))); intro _; conv => whnf)
            | (refine tst_in ?_ ?_; rotate_left; (focus (intro h_; exfalso; first | omega | ((try simp only [decide_eq_true_eq, decide_eq_false_iff_not] at h_); omega) | (simp [mulSz, Cont.len, bne] at h_; first | done | omega))); intro _; conv => whnf)
            | (refine ⟨0, (show _ = _ by omega), ?_⟩; conv => whnf))
          rw [show (0 + ((i : Nat) : Int).toNat) = i by omega, hgi]
          refine ⟨⟨[0, 1, 2], (0 : Nat), ?_, Nat.zero_le _⟩, ?_⟩
          · show stLe _ _ (st43b F' H' A B s c t d L i 0) _
            conv => whnf
            repeat' (first | exact True.intro | rfl | refine And.intro ?_ ?_)
            all_goals (conv => whnf)
            repeat' (first | exact True.intro | rfl | refine And.intro ?_ ?_)
            all_goals (try omega)
            rw [part_0]
          · intro (j : Nat) (hj : j ≤ t)
            show forceSt (st43b F' H' A B s c t d L i j) _
            conv => whnf
            repeat (first
              | (refine And.intro ?_ ?_; (focus (first | omega | decide | exact EqOk.mk (by kernel_rfl) (by kernel_rfl) (by kernel_rfl) | exact Int.natCast_nonneg _ | ((repeat' refine And.intro ?_ ?_) <;> first | omega | exact Int.natCast_nonneg _ | (simp only [i64max, u8max, u16max, u32max, u64max]; omega) | (simp only [mulSz_eq, Cont.len, colsLen, Col.len, List.length_cons, List.length_nil, List.length_replicate, List.length_append]; first | done | omega) | (simp [mulSz, Cont.len, bne]; first | done | omega)))); conv => whnf)
              | (refine tst_in ?_ ?_; (focus (intro h_; exfalso; first | omega | ((try simp only [decide_eq_true_eq, decide_eq_false_iff_not] at h_); omega) | (simp [mulSz, Cont.len, bne] at h_; first | done | omega))); intro _; conv => whnf)
              | (refine tst_in ?_ ?_; rotate_left; (focus (intro h_; exfalso; first | omega | ((try simp only [decide_eq_true_eq, decide_eq_false_iff_not] at h_); omega) | (simp [mulSz, Cont.len, bne] at h_; first | done | omega))); intro _; conv => whnf)
              | (refine ⟨0, (show _ = _ by omega), ?_⟩; conv => whnf))
            refine tst_in (fun u => ?_) (fun u' => ?_)
            · have u : j < t := by have := dlt_t u; omega
              have hgj := hg2 j (by omega)
              have TM := Times_g (F' i) (H' j)
              have ho := gi_in (part F' H' i j) (i + j)
              have hm := (F' i * H' j).lt
              have hto : (tb (gi (part F' H' i j)) L).getD (i + j) 0 = gi (part F' H' i j) (i + j) := tab_get _ _ (by omega)
              conv => whnf
              repeat (first
                | (refine And.intro ?_ ?_; (focus (first | omega | decide | exact EqOk.mk (by kernel_rfl) (by kernel_rfl) (by kernel_rfl) | exact Int.natCast_nonneg _ | ((repeat' refine And.intro ?_ ?_) <;> first | omega | exact Int.natCast_nonneg _ | (simp only [i64max, u8max, u16max, u32max, u64max]; omega) | (simp only [mulSz_eq, Cont.len, colsLen, Col.len, List.length_cons, List.length_nil, List.length_replicate, List.length_append, tab_len]; first | done | omega) | (simp [mulSz, Cont.len, bne, tab_len]; first | done | omega)))); conv => whnf)
                | (refine tst_in ?_ ?_; (focus (intro h_; exfalso; first | omega | ((try simp only [decide_eq_true_eq, decide_eq_false_iff_not] at h_); omega) | (simp [mulSz, Cont.len, bne, tab_len] at h_; first | done | omega))); intro _; conv => whnf)
                | (refine tst_in ?_ ?_; rotate_left; (focus (intro h_; exfalso; first | omega | ((try simp only [decide_eq_true_eq, decide_eq_false_iff_not] at h_); omega) | (simp [mulSz, Cont.len, bne, tab_len] at h_; first | done | omega))); intro _; conv => whnf)
                | (refine ⟨0, (show _ = _ by omega), ?_⟩; conv => whnf))
              rw [show (0 + ((j : Nat) : Int).toNat) = j by omega, hgj]
              refine ⟨_, [], TM, ?_⟩
              conv => whnf
              iterate 2
               refine And.intro ?_ ?_
               focus
                conv => whnf
                repeat' (first | exact True.intro | rfl | refine And.intro ?_ ?_ | omega)
                all_goals (conv => whnf)
                all_goals (try (first | rfl | omega | (simp; done)))
              conv => whnf
              conv => whnf
              repeat (first
                | (refine And.intro ?_ ?_; (focus (first | omega | decide | exact EqOk.mk (by kernel_rfl) (by kernel_rfl) (by kernel_rfl) | exact Int.natCast_nonneg _ | ((repeat' refine And.intro ?_ ?_) <;> first | omega | exact Int.natCast_nonneg _ | (simp only [i64max, u8max, u16max, u32max, u64max]; omega) | (simp only [mulSz_eq, Cont.len, colsLen, Col.len, List.length_cons, List.length_nil, List.length_replicate, List.length_append, tab_len]; first | done | omega) | (simp [mulSz, Cont.len, bne, tab_len]; first | done | omega)))); conv => whnf)
                | (refine tst_in ?_ ?_; (focus (intro h_; exfalso; first | omega | ((try simp only [decide_eq_true_eq, decide_eq_false_iff_not] at h_); omega) | (simp [mulSz, Cont.len, bne, tab_len] at h_; first | done | omega))); intro _; conv => whnf)
                | (refine tst_in ?_ ?_; rotate_left; (focus (intro h_; exfalso; first | omega | ((try simp only [decide_eq_true_eq, decide_eq_false_iff_not] at h_); omega) | (simp [mulSz, Cont.len, bne, tab_len] at h_; first | done | omega))); intro _; conv => whnf)
                | (refine ⟨0, (show _ = _ by omega), ?_⟩; conv => whnf))
              rw [show (0 + ((i : Nat) + (j : Nat) : Int).toNat) = i + j by omega, hto]
              refine ⟨⟨ho.1, by omega, ho.2, by rw [u8max]; omega⟩, ?_⟩
              conv => whnf
              repeat (first
                | (refine And.intro ?_ ?_; (focus (first | omega | decide | exact EqOk.mk (by kernel_rfl) (by kernel_rfl) (by kernel_rfl) | exact Int.natCast_nonneg _ | ((repeat' refine And.intro ?_ ?_) <;> first | omega | exact Int.natCast_nonneg _ | (simp only [i64max, u8max, u16max, u32max, u64max]; omega) | (simp only [mulSz_eq, Cont.len, colsLen, Col.len, List.length_cons, List.length_nil, List.length_replicate, List.length_append, tab_len]; first | done | omega) | (simp [mulSz, Cont.len, bne, tab_len]; first | done | omega)))); conv => whnf)
                | (refine tst_in ?_ ?_; (focus (intro h_; exfalso; first | omega | ((try simp only [decide_eq_true_eq, decide_eq_false_iff_not] at h_); omega) | (simp [mulSz, Cont.len, bne, tab_len] at h_; first | done | omega))); intro _; conv => whnf)
                | (refine tst_in ?_ ?_; rotate_left; (focus (intro h_; exfalso; first | omega | ((try simp only [decide_eq_true_eq, decide_eq_false_iff_not] at h_); omega) | (simp [mulSz, Cont.len, bne, tab_len] at h_; first | done | omega))); intro _; conv => whnf)
                | (refine ⟨0, (show _ = _ by omega), ?_⟩; conv => whnf))
              refine ⟨[0, 1, 2], (j + 1 : Nat), ?_, u, by show t - (j + 1) < t - j; omega⟩
              show stLe _ _ (st43b F' H' A B s c t d L i (j + 1)) _
              conv => whnf
              repeat' (first | exact True.intro | rfl | refine And.intro ?_ ?_)
              all_goals (conv => whnf)
              repeat' (first | exact True.intro | rfl | refine And.intro ?_ ?_)
              all_goals (try omega)
              show tb (gi (part F' H' i (j + 1))) L = (tb (gi (part F' H' i j)) L).set (0 + ((i : Nat) + (j : Nat) : Int).toNat) (((part F' H' i j (i + j) + F' i * H' j : G).v : Nat) : Int)
              rw [show (0 + ((i : Nat) + (j : Nat) : Int).toNat) = i + j by omega]
              exact (tab_put _ L (i + j) _ fun k hk => part_succ F' H' i j k).symm
            · have u : j = t := by have := dlt_f u'; omega
              subst u
              conv => whnf
              repeat (first
                | (refine And.intro ?_ ?_; (focus (first | omega | decide | exact EqOk.mk (by kernel_rfl) (by kernel_rfl) (by kernel_rfl) | exact Int.natCast_nonneg _ | ((repeat' refine And.intro ?_ ?_) <;> first | omega | exact Int.natCast_nonneg _ | (simp only [i64max, u8max, u16max, u32max, u64max]; omega) | (simp only [mulSz_eq, Cont.len, colsLen, Col.len, List.length_cons, List.length_nil, List.length_replicate, List.length_append]; first | done | omega) | (simp [mulSz, Cont.len, bne]; first | done | omega)))); conv => whnf)
                | (refine tst_in ?_ ?_; (focus (intro h_; exfalso; first | omega | ((try simp only [decide_eq_true_eq, decide_eq_false_iff_not] at h_); omega) | (simp [mulSz, Cont.len, bne] at h_; first | done | omega))); intro _; conv => whnf)
                | (refine tst_in ?_ ?_; rotate_left; (focus (intro h_; exfalso; first | omega | ((try simp only [decide_eq_true_eq, decide_eq_false_iff_not] at h_); omega) | (simp [mulSz, Cont.len, bne] at h_; first | done | omega))); intro _; conv => whnf)
                | (refine ⟨0, (show _ = _ by omega), ?_⟩; conv => whnf))
              refine ⟨[0, 1, 2], (i + 1 : Nat), ?_, r, by show s - (i + 1) < s - i; omega⟩
              show stLe _ _ (st43 F' H' A B s c j d L (i + 1)) _
              conv => whnf
              repeat' (first | exact True.intro | rfl | refine And.intro ?_ ?_)
              all_goals (conv => whnf)
              repeat' (first | exact True.intro | rfl | refine And.intro ?_ ?_)
              all_goals (try omega)
              rw [part_end hpH.1]
        · have r : i = s := by have := dlt_f r'; omega
          subst r
          conv => whnf
          repeat (first
            | (refine And.intro ?_ ?_; (focus (first | omega | decide | exact EqOk.mk (by kernel_rfl) (by kernel_rfl) (by kernel_rfl) | exact Int.natCast_nonneg _ | ((repeat' refine And.intro ?_ ?_) <;> first | omega | exact Int.natCast_nonneg _ | (simp only [i64max, u8max, u16max, u32max, u64max]; omega) | (simp only [mulSz_eq, Cont.len, colsLen, Col.len, List.length_cons, List.length_nil, List.length_replicate, List.length_append]; first | done | omega) | (simp [mulSz, Cont.len, bne]; first | done | omega)))); conv => whnf)
            | (refine tst_in ?_ ?_; (focus (intro h_; exfalso; first | omega | ((try simp only [decide_eq_true_eq, decide_eq_false_iff_not] at h_); omega) | (simp [mulSz, Cont.len, bne] at h_; first | done | omega))); intro _; conv => whnf)
            | (refine tst_in ?_ ?_; rotate_left; (focus (intro h_; exfalso; first | omega | ((try simp only [decide_eq_true_eq, decide_eq_false_iff_not] at h_); omega) | (simp [mulSz, Cont.len, bne] at h_; first | done | omega))); intro _; conv => whnf)
            | (refine ⟨0, (show _ = _ by omega), ?_⟩; conv => whnf))
          refine .inl ⟨(), [0, 1, 2], ?_⟩
          conv => whnf
          repeat' (first | exact True.intro | rfl | refine And.intro ?_ ?_)
          all_goals (conv => whnf)
          repeat' (first | exact True.intro | rfl | refine And.intro ?_ ?_)
          all_goals (try omega)
end Go.Proofs.Yteiblfkegnppeaa

set_option linter.unusedVariables false
set_option linter.unusedSimpArgs false
namespace Go.Proofs.Yteiblfkegnppeaa
open Go Go.Fw
noncomputable def k23 : Code := (Try.f23.body).getD .skip
def okQ (n m l N : Nat) : Nat := if 512 < n ∨ 512 < m ∨ 512 < l then 0 else N
def okQE (n m l : Nat) : Int := if 512 < n ∨ 512 < m ∨ 512 < l then 1 else 0
set_option maxHeartbeats 0 in
set_option maxRecDepth 100000 in
theorem Product_g (F H : Nat → G) (A B : List Int) (n c m d : Nat) (hA : Rd A F n) (hB : Rd B H m) (hc : n ≤ c) (hd : m ≤ d) (hn : n ≤ 9223372036854775807) (hm : m ≤ 9223372036854775807) :
    Fits Try.prog 23 ⟨[.slice 0 0 n c, .slice 1 0 m d], [.seg false (.ints .u8 A), .seg false (.ints .u8 B)],
      [polOut (prodP F H n m) (okQ n m (plen (dg F n) (dg H m)) (plen (dg F n) (dg H m))) (okQ n m (plen (dg F n) (dg H m)) (plen (dg F n) (dg H m))) (okQE n m (plen (dg F n) (dg H m)))]⟩ := by
  have TL := tooLong2 n c m d hn hm
  refine fits_of_body (C := cfgk 2) (c := k23) (ts := [4, 5]) tokL mixedL (fun _ => none) (fun _ => none)
    Try.func23 (by kernel_rfl) (by kernel_rfl) (by kernel_rfl) (by kernel_rfl) rfl ?_
  have hpl : n ≤ 512 → m ≤ 512 → plen (dg F n) (dg H m) ≤ 1024 := fun h1 h2 => by
    have := dg_le F n; have := dg_le H m; unfold plen; split <;> omega
  conv => whnf
  repeat (first
    | (refine And.intro ?_ ?_; (focus (first | omega | decide | exact EqOk.mk (by kernel_rfl) (by kernel_rfl) (by kernel_rfl) | exact Int.natCast_nonneg _ | ((repeat' refine And.intro ?_ ?_) <;> first | omega | exact Int.natCast_nonneg _ | (simp only [i64max, u8max, u16max, u32max, u64max]; omega) | (simp only [mulSz_eq, Cont.len, colsLen, Col.len, List.length_cons, List.length_nil, List.length_replicate, List.length_append]; first | done | omega) | (simp [mulSz, Cont.len, bne]; first | done | omega)))); conv => whnf)
    | (refine tst_in ?_ ?_; (focus (intro h_; exfalso; first | omega | ((try simp only [decide_eq_true_eq, decide_eq_false_iff_not] at h_); omega) | (simp [mulSz, Cont.len, bne] at h_; first | done | omega))); intro _; conv => whnf)
    | (refine tst_in ?_ ?_; rotate_left; (focus (intro h_; exfalso; first | omega | ((try simp only [decide_eq_true_eq, decide_eq_false_iff_not] at h_); omega) | (simp [mulSz, Cont.len, bne] at h_; first | done | omega))); intro _; conv => whnf)
    | (refine ⟨0, (show _ = _ by omega), ?_⟩; conv => whnf))
  refine ⟨_, [2, 0, 1], TL, ?_⟩
  conv => whnf
  iterate 2
   refine And.intro ?_ ?_
   focus
    conv => whnf
    repeat' (first | exact True.intro | rfl | refine And.intro ?_ ?_)
    all_goals (conv => whnf)
    repeat' (first | exact True.intro | rfl | refine And.intro ?_ ?_)
    all_goals (try (first | rfl | omega | (simp; first | done | omega)))
  conv => whnf
  by_cases hb : 512 < n ∨ 512 < m
  · rw [decide_eq_true hb, show okQ n m (plen (dg F n) (dg H m)) (plen (dg F n) (dg H m)) = 0 from if_pos (by omega), show okQE n m (plen (dg F n) (dg H m)) = 1 from if_pos (by omega)]
    conv => whnf
    repeat (first
      | (refine And.intro ?_ ?_; (focus (first | omega | decide | exact EqOk.mk (by kernel_rfl) (by kernel_rfl) (by kernel_rfl) | exact Int.natCast_nonneg _ | ((repeat' refine And.intro ?_ ?_) <;> first | omega | exact Int.natCast_nonneg _ | (simp only [i64max, u8max, u16max, u32max, u64max]; omega) | (simp only [mulSz_eq, Cont.len, colsLen, Col.len, List.length_cons, List.length_nil, List.length_replicate, List.length_append]; first | done | omega) | (simp [mulSz, Cont.len, bne]; first | done | omega)))); conv => whnf)
      | (refine tst_in ?_ ?_; (focus (intro h_; exfalso; first | omega | ((try simp only [decide_eq_true_eq, decide_eq_false_iff_not] at h_); omega) | (simp [mulSz, Cont.len, bne] at h_; first | done | omega))); intro _; conv => whnf)
      | (refine tst_in ?_ ?_; rotate_left; (focus (intro h_; exfalso; first | omega | ((try simp only [decide_eq_true_eq, decide_eq_false_iff_not] at h_); omega) | (simp [mulSz, Cont.len, bne] at h_; first | done | omega))); intro _; conv => whnf)
      | (refine ⟨0, (show _ = _ by omega), ?_⟩; conv => whnf))
    refine .inl ⟨(), [0, 1, 9], ?_⟩
    conv => whnf
    repeat' (first | exact True.intro | rfl | refine And.intro ?_ ?_)
    all_goals (conv => whnf)
    repeat' (first | exact True.intro | rfl | refine And.intro ?_ ?_)
    all_goals (try omega)
  · rw [decide_eq_false hb]
    have PR := product_f F H A B n c m d hA hB hc hd (by omega) (by omega)
    have hpl := hpl (by omega) (by omega)
    generalize plen (dg F n) (dg H m) = l at *
    have TK := tooLong1 l l (by omega)
    conv => whnf
    repeat (first
      | (refine And.intro ?_ ?_; (focus (first | omega | decide | exact EqOk.mk (by kernel_rfl) (by kernel_rfl) (by kernel_rfl) | exact Int.natCast_nonneg _ | ((repeat' refine And.intro ?_ ?_) <;> first | omega | exact Int.natCast_nonneg _ | (simp only [i64max, u8max, u16max, u32max, u64max]; omega) | (simp only [mulSz_eq, Cont.len, colsLen, Col.len, List.length_cons, List.length_nil, List.length_replicate, List.length_append]; first | done | omega) | (simp [mulSz, Cont.len, bne]; first | done | omega)))); conv => whnf)
      | (refine tst_in ?_ ?_; (focus (intro h_; exfalso; first | omega | ((try simp only [decide_eq_true_eq, decide_eq_false_iff_not] at h_); omega) | (simp [mulSz, Cont.len, bne] at h_; first | done | omega))); intro _; conv => whnf)
      | (refine tst_in ?_ ?_; rotate_left; (focus (intro h_; exfalso; first | omega | ((try simp only [decide_eq_true_eq, decide_eq_false_iff_not] at h_); omega) | (simp [mulSz, Cont.len, bne] at h_; first | done | omega))); intro _; conv => whnf)
      | (refine ⟨0, (show _ = _ by omega), ?_⟩; conv => whnf))
    refine ⟨_, [0, 1], PR, ?_⟩
    conv => whnf
    iterate 2
     refine And.intro ?_ ?_
     focus
      conv => whnf
      repeat' (first | exact True.intro | rfl | refine And.intro ?_ ?_ | omega)
      all_goals (conv => whnf)
      all_goals (try (first | rfl | omega | (simp; done)))
    conv => whnf
    refine ⟨?_, True.intro⟩
    intro _ _
    conv => whnf
    conv => whnf
    repeat (first
      | (refine And.intro ?_ ?_; (focus (first | omega | decide | exact EqOk.mk (by kernel_rfl) (by kernel_rfl) (by kernel_rfl) | exact Int.natCast_nonneg _ | ((repeat' refine And.intro ?_ ?_) <;> first | omega | exact Int.natCast_nonneg _ | (simp only [i64max, u8max, u16max, u32max, u64max]; omega) | (simp only [mulSz_eq, Cont.len, colsLen, Col.len, List.length_cons, List.length_nil, List.length_replicate, List.length_append]; first | done | omega) | (simp [mulSz, Cont.len, bne]; first | done | omega)))); conv => whnf)
      | (refine tst_in ?_ ?_; (focus (intro h_; exfalso; first | omega | ((try simp only [decide_eq_true_eq, decide_eq_false_iff_not] at h_); omega) | (simp [mulSz, Cont.len, bne] at h_; first | done | omega))); intro _; conv => whnf)
      | (refine tst_in ?_ ?_; rotate_left; (focus (intro h_; exfalso; first | omega | ((try simp only [decide_eq_true_eq, decide_eq_false_iff_not] at h_); omega) | (simp [mulSz, Cont.len, bne] at h_; first | done | omega))); intro _; conv => whnf)
      | (refine ⟨0, (show _ = _ by omega), ?_⟩; conv => whnf))
    refine ⟨_, [4, 3], TK, ?_⟩
    conv => whnf
    iterate 2
     refine And.intro ?_ ?_
     focus
      conv => whnf
      repeat' (first | exact True.intro | rfl | refine And.intro ?_ ?_)
      all_goals (conv => whnf)
      repeat' (first | exact True.intro | rfl | refine And.intro ?_ ?_)
      all_goals (try (first | rfl | omega | (simp; first | done | omega)))
    conv => whnf
    by_cases hl : 512 < l
    · rw [decide_eq_true hl, show okQ n m l l = 0 from if_pos (by omega), show okQE n m l = 1 from if_pos (by omega)]
      conv => whnf
      repeat (first
        | (refine And.intro ?_ ?_; (focus (first | omega | decide | exact EqOk.mk (by kernel_rfl) (by kernel_rfl) (by kernel_rfl) | exact Int.natCast_nonneg _ | ((repeat' refine And.intro ?_ ?_) <;> first | omega | exact Int.natCast_nonneg _ | (simp only [i64max, u8max, u16max, u32max, u64max]; omega) | (simp only [mulSz_eq, Cont.len, colsLen, Col.len, List.length_cons, List.length_nil, List.length_replicate, List.length_append]; first | done | omega) | (simp [mulSz, Cont.len, bne]; first | done | omega)))); conv => whnf)
        | (refine tst_in ?_ ?_; (focus (intro h_; exfalso; first | omega | ((try simp only [decide_eq_true_eq, decide_eq_false_iff_not] at h_); omega) | (simp [mulSz, Cont.len, bne] at h_; first | done | omega))); intro _; conv => whnf)
        | (refine tst_in ?_ ?_; rotate_left; (focus (intro h_; exfalso; first | omega | ((try simp only [decide_eq_true_eq, decide_eq_false_iff_not] at h_); omega) | (simp [mulSz, Cont.len, bne] at h_; first | done | omega))); intro _; conv => whnf)
        | (refine ⟨0, (show _ = _ by omega), ?_⟩; conv => whnf))
      refine .inl ⟨(), [0, 1, 9], ?_⟩
      conv => whnf
      repeat' (first | exact True.intro | rfl | refine And.intro ?_ ?_)
      all_goals (conv => whnf)
      repeat' (first | exact True.intro | rfl | refine And.intro ?_ ?_)
      all_goals (try omega)
    · rw [decide_eq_false hl, show okQ n m l l = l from if_neg (by omega), show okQE n m l = 0 from if_neg (by omega)]
      conv => whnf
      repeat (first
        | (refine And.intro ?_ ?_; (focus (first | omega | decide | exact EqOk.mk (by kernel_rfl) (by kernel_rfl) (by kernel_rfl) | exact Int.natCast_nonneg _ | ((repeat' refine And.intro ?_ ?_) <;> first | omega | exact Int.natCast_nonneg _ | (simp only [i64max, u8max, u16max, u32max, u64max]; omega) | (simp only [mulSz_eq, Cont.len, colsLen, Col.len, List.length_cons, List.length_nil, List.length_replicate, List.length_append]; first | done | omega) | (simp [mulSz, Cont.len, bne]; first | done | omega)))); conv => whnf)
        | (refine tst_in ?_ ?_; (focus (intro h_; exfalso; first | omega | ((try simp only [decide_eq_true_eq, decide_eq_false_iff_not] at h_); omega) | (simp [mulSz, Cont.len, bne] at h_; first | done | omega))); intro _; conv => whnf)
        | (refine tst_in ?_ ?_; rotate_left; (focus (intro h_; exfalso; first | omega | ((try simp only [decide_eq_true_eq, decide_eq_false_iff_not] at h_); omega) | (simp [mulSz, Cont.len, bne] at h_; first | done | omega))); intro _; conv => whnf)
        | (refine ⟨0, (show _ = _ by omega), ?_⟩; conv => whnf))
      refine .inl ⟨(), [0, 1, 3], ?_⟩
      conv => whnf
      repeat' (first | exact True.intro | rfl | refine And.intro ?_ ?_)
      all_goals (conv => whnf)
      repeat' (first | exact True.intro | rfl | refine And.intro ?_ ?_)
      all_goals (try omega)
noncomputable def k61 : Code := (Try.f61.body).getD .skip
set_option maxHeartbeats 0 in
set_option maxRecDepth 100000 in
theorem put_f (a y x : G) : Fits Try.prog 61 ⟨[.int .u8 (a.v : Nat), .ptr 0 0, .ptr 1 0], [.seg true (.ints .u8 [(y.v : Nat)]), .seg false (.ints .u8 [(x.v : Nat)])],
    [numOut [.seg true (.ints .u8 [((y * x + a : G).v : Nat)]), .dead] (.tup [])]⟩ := by
  have TM := Times_g y x
  have hm := (y * x).lt
  have ha := a.lt
  refine fits_of_body (C := cfgk 2) (c := k61) (ts := []) tokL mixedL (fun _ => none) (fun _ => none)
    Try.func61 (by kernel_rfl) (by kernel_rfl) (by kernel_rfl) (by kernel_rfl) rfl ?_
  conv => whnf
  repeat (first
    | (refine And.intro ?_ ?_; (focus (first | omega | decide | exact EqOk.mk (by kernel_rfl) (by kernel_rfl) (by kernel_rfl) | exact Int.natCast_nonneg _ | ((repeat' refine And.intro ?_ ?_) <;> first | omega | exact Int.natCast_nonneg _ | (simp only [i64max, u8max, u16max, u32max, u64max]; omega) | (simp only [mulSz_eq, Cont.len, colsLen, Col.len, List.length_cons, List.length_nil, List.length_replicate, List.length_append]; first | done | omega) | (simp [mulSz, Cont.len, bne]; first | done | omega)))); conv => whnf)
    | (refine tst_in ?_ ?_; (focus (intro h_; exfalso; first | omega | ((try simp only [decide_eq_true_eq, decide_eq_false_iff_not] at h_); omega) | (simp [mulSz, Cont.len, bne] at h_; first | done | omega))); intro _; conv => whnf)
    | (refine tst_in ?_ ?_; rotate_left; (focus (intro h_; exfalso; first | omega | ((try simp only [decide_eq_true_eq, decide_eq_false_iff_not] at h_); omega) | (simp [mulSz, Cont.len, bne] at h_; first | done | omega))); intro _; conv => whnf)
    | (refine ⟨0, (show _ = _ by omega), ?_⟩; conv => whnf))
  refine ⟨_, [], TM, ?_⟩
  conv => whnf
  iterate 2
   refine And.intro ?_ ?_
   focus
    conv => whnf
    repeat' (first | exact True.intro | rfl | refine And.intro ?_ ?_ | omega)
    all_goals (conv => whnf)
    all_goals (try (first | rfl | omega | (simp; done)))
  conv => whnf
  refine ⟨⟨by omega, by omega, by rw [u8max]; omega, by rw [u8max]; omega⟩, ?_⟩
  conv => whnf
  repeat (first
    | (refine And.intro ?_ ?_; (focus (first | omega | decide | exact EqOk.mk (by kernel_rfl) (by kernel_rfl) (by kernel_rfl) | exact Int.natCast_nonneg _ | ((repeat' refine And.intro ?_ ?_) <;> first | omega | exact Int.natCast_nonneg _ | (simp only [i64max, u8max, u16max, u32max, u64max]; omega) | (simp only [mulSz_eq, Cont.len, colsLen, Col.len, List.length_cons, List.length_nil, List.length_replicate, List.length_append]; first | done | omega) | (simp [mulSz, Cont.len, bne]; first | done | omega)))); conv => whnf)
    | (refine tst_in ?_ ?_; (focus (intro h_; exfalso; first | omega | ((try simp only [decide_eq_true_eq, decide_eq_false_iff_not] at h_); omega) | (simp [mulSz, Cont.len, bne] at h_; first | done | omega))); intro _; conv => whnf)
    | (refine tst_in ?_ ?_; rotate_left; (focus (intro h_; exfalso; first | omega | ((try simp only [decide_eq_true_eq, decide_eq_false_iff_not] at h_); omega) | (simp [mulSz, Cont.len, bne] at h_; first | done | omega))); intro _; conv => whnf)
    | (refine ⟨0, (show _ = _ by omega), ?_⟩; conv => whnf))
  refine .inl ⟨(), [0, 1], ?_⟩
  conv => whnf
  repeat' (first | exact True.intro | rfl | refine And.intro ?_ ?_)
  all_goals (conv => whnf)
  repeat' (first | exact True.intro | rfl | refine And.intro ?_ ?_)
  all_goals (try omega)
noncomputable def k60 : Code := (Try.f60.body).getD .skip
noncomputable def hor (F : Nat → G) (n : Nat) (x : G) (k : Nat) : G := Hn g0 (fun k => F (n - 1 - k)) x k
noncomputable def st60 (F : Nat → G) (A : List Int) (n c : Nat) (x : G) (k : Nat) : St := ⟨slotsAt 18 [(0, .slice 0 0 n c), (1, .fn 61 [.ptr 1 0, .ptr 2 0]), (4, .int .i64 ((n : Int) - k - 1))], [.seg false (.ints .u8 A), .seg true (.ints .u8 [((hor F n x k).v : Nat)]), .seg false (.ints .u8 [(x.v : Nat)])]⟩
set_option maxHeartbeats 0 in
set_option maxRecDepth 100000 in
theorem fromEnd_f (F : Nat → G) (A : List Int) (n c : Nat) (x : G) (hA : Rd A F n) (hc : n ≤ c) (hn : n ≤ 9223372036854775807) :
    Fits Try.prog 60 ⟨[.slice 0 0 n c, .fn 61 [.ptr 1 0, .ptr 2 0]], [.seg false (.ints .u8 A), .seg true (.ints .u8 [0]), .seg false (.ints .u8 [(x.v : Nat)])],
      [numOut [.dead, .seg true (.ints .u8 [((As F x n).v : Nat)]), .dead] (.tup [])]⟩ := by
  refine fits_of_body (C := cfgk 3) (c := k60) (ts := []) tokL mixedL (fun | 1 => some ⟨Nat, fun k => st60 F A n c x k, fun k => k ≤ n, fun k => n - k⟩ | _ => none) (fun _ => none)
    Try.func60 (by kernel_rfl) (by kernel_rfl) (by kernel_rfl) (by kernel_rfl) rfl ?_
  obtain ⟨hl, hg⟩ := hA
  conv => whnf
  repeat (first
    | (refine And.intro ?_ ?_; (focus (first | omega | decide | exact EqOk.mk (by kernel_rfl) (by kernel_rfl) (by kernel_rfl) | exact Int.natCast_nonneg _ | ((repeat' refine And.intro ?_ ?_) <;> first | omega | exact Int.natCast_nonneg _ | (simp only [i64max, u8max, u16max, u32max, u64max]; omega) | (simp only [mulSz_eq, Cont.len, colsLen, Col.len, List.length_cons, List.length_nil, List.length_replicate, List.length_append]; first | done | omega) | (simp [mulSz, Cont.len, bne]; first | done | omega)))); conv => whnf)
    | (refine tst_in ?_ ?_; (focus (intro h_; exfalso; first | omega | ((try simp only [decide_eq_true_eq, decide_eq_false_iff_not] at h_); omega) | (simp [mulSz, Cont.len, bne] at h_; first | done | omega))); intro _; conv => whnf)
    | (refine tst_in ?_ ?_; rotate_left; (focus (intro h_; exfalso; first | omega | ((try simp only [decide_eq_true_eq, decide_eq_false_iff_not] at h_); omega) | (simp [mulSz, Cont.len, bne] at h_; first | done | omega))); intro _; conv => whnf)
    | (refine ⟨0, (show _ = _ by omega), ?_⟩; conv => whnf))
  refine ⟨⟨[0, 1, 2], (0 : Nat), ?_, Nat.zero_le _⟩, ?_⟩
  · show stLe _ _ (st60 F A n c x 0) _
    conv => whnf
    repeat' (first | exact True.intro | rfl | refine And.intro ?_ ?_)
    all_goals (conv => whnf)
    repeat' (first | exact True.intro | rfl | refine And.intro ?_ ?_)
    all_goals (try omega)
  · intro (k : Nat) (hk : k ≤ n)
    show forceSt (st60 F A n c x k) _
    conv => whnf
    repeat (first
      | (refine And.intro ?_ ?_; (focus (first | omega | decide | exact EqOk.mk (by kernel_rfl) (by kernel_rfl) (by kernel_rfl) | exact Int.natCast_nonneg _ | ((repeat' refine And.intro ?_ ?_) <;> first | omega | exact Int.natCast_nonneg _ | (simp only [i64max, u8max, u16max, u32max, u64max]; omega) | (simp only [mulSz_eq, Cont.len, colsLen, Col.len, List.length_cons, List.length_nil, List.length_replicate, List.length_append]; first | done | omega) | (simp [mulSz, Cont.len, bne]; first | done | omega)))); conv => whnf)
      | (refine tst_in ?_ ?_; (focus (intro h_; exfalso; first | omega | ((try simp only [decide_eq_true_eq, decide_eq_false_iff_not] at h_); omega) | (simp [mulSz, Cont.len, bne] at h_; first | done | omega))); intro _; conv => whnf)
      | (refine tst_in ?_ ?_; rotate_left; (focus (intro h_; exfalso; first | omega | ((try simp only [decide_eq_true_eq, decide_eq_false_iff_not] at h_); omega) | (simp [mulSz, Cont.len, bne] at h_; first | done | omega))); intro _; conv => whnf)
      | (refine ⟨0, (show _ = _ by omega), ?_⟩; conv => whnf))
    refine tst_in (fun h => ?_) (fun h' => ?_)
    · have h : k < n := by have := dle_t h; omega
      have PF := put_f (F (n - 1 - k)) (hor F n x k) x
      have hgk := hg (n - 1 - k) (by omega)
      conv => whnf
      repeat (first
        | (refine And.intro ?_ ?_; (focus (first | omega | decide | exact EqOk.mk (by kernel_rfl) (by kernel_rfl) (by kernel_rfl) | exact Int.natCast_nonneg _ | ((repeat' refine And.intro ?_ ?_) <;> first | omega | exact Int.natCast_nonneg _ | (simp only [i64max, u8max, u16max, u32max, u64max]; omega) | (simp only [mulSz_eq, Cont.len, colsLen, Col.len, List.length_cons, List.length_nil, List.length_replicate, List.length_append]; first | done | omega) | (simp [mulSz, Cont.len, bne]; first | done | omega)))); conv => whnf)
        | (refine tst_in ?_ ?_; (focus (intro h_; exfalso; first | omega | ((try simp only [decide_eq_true_eq, decide_eq_false_iff_not] at h_); omega) | (simp [mulSz, Cont.len, bne] at h_; first | done | omega))); intro _; conv => whnf)
        | (refine tst_in ?_ ?_; rotate_left; (focus (intro h_; exfalso; first | omega | ((try simp only [decide_eq_true_eq, decide_eq_false_iff_not] at h_); omega) | (simp [mulSz, Cont.len, bne] at h_; first | done | omega))); intro _; conv => whnf)
        | (refine ⟨0, (show _ = _ by omega), ?_⟩; conv => whnf))
      rw [show (0 + ((n : Nat) - (k : Nat) - 1 : Int).toNat) = n - 1 - k by omega, hgk]
      refine ⟨_, [1, 2], PF, ?_⟩
      conv => whnf
      iterate 2
       refine And.intro ?_ ?_
       focus
        conv => whnf
        repeat' (first | exact True.intro | rfl | refine And.intro ?_ ?_ | omega)
        all_goals (conv => whnf)
        all_goals (try (first | rfl | omega | (simp; done)))
      conv => whnf
      refine ⟨?_, True.intro⟩
      intro _ _
      conv => whnf
      conv => whnf
      repeat (first
        | (refine And.intro ?_ ?_; (focus (first | omega | decide | exact EqOk.mk (by kernel_rfl) (by kernel_rfl) (by kernel_rfl) | exact Int.natCast_nonneg _ | ((repeat' refine And.intro ?_ ?_) <;> first | omega | exact Int.natCast_nonneg _ | (simp only [i64max, u8max, u16max, u32max, u64max]; omega) | (simp only [mulSz_eq, Cont.len, colsLen, Col.len, List.length_cons, List.length_nil, List.length_replicate, List.length_append]; first | done | omega) | (simp [mulSz, Cont.len, bne]; first | done | omega)))); conv => whnf)
        | (refine tst_in ?_ ?_; (focus (intro h_; exfalso; first | omega | ((try simp only [decide_eq_true_eq, decide_eq_false_iff_not] at h_); omega) | (simp [mulSz, Cont.len, bne] at h_; first | done | omega))); intro _; conv => whnf)
        | (refine tst_in ?_ ?_; rotate_left; (focus (intro h_; exfalso; first | omega | ((try simp only [decide_eq_true_eq, decide_eq_false_iff_not] at h_); omega) | (simp [mulSz, Cont.len, bne] at h_; first | done | omega))); intro _; conv => whnf)
        | (refine ⟨0, (show _ = _ by omega), ?_⟩; conv => whnf))
      refine ⟨[0, 1, 2], (k + 1 : Nat), ?_, h, by show n - (k + 1) < n - k; omega⟩
      show stLe _ _ (st60 F A n c x (k + 1)) _
      conv => whnf
      repeat' (first | exact True.intro | rfl | refine And.intro ?_ ?_)
      all_goals (conv => whnf)
      repeat' (first | exact True.intro | rfl | refine And.intro ?_ ?_)
      all_goals (try omega)
    · have h : k = n := by have := dle_f h'; omega
      subst h
      have e : hor F k x k = As F x k := Hn_rev F x k
      rw [← e]
      conv => whnf
      repeat (first
        | (refine And.intro ?_ ?_; (focus (first | omega | decide | exact EqOk.mk (by kernel_rfl) (by kernel_rfl) (by kernel_rfl) | exact Int.natCast_nonneg _ | ((repeat' refine And.intro ?_ ?_) <;> first | omega | exact Int.natCast_nonneg _ | (simp only [i64max, u8max, u16max, u32max, u64max]; omega) | (simp only [mulSz_eq, Cont.len, colsLen, Col.len, List.length_cons, List.length_nil, List.length_replicate, List.length_append]; first | done | omega) | (simp [mulSz, Cont.len, bne]; first | done | omega)))); conv => whnf)
        | (refine tst_in ?_ ?_; (focus (intro h_; exfalso; first | omega | ((try simp only [decide_eq_true_eq, decide_eq_false_iff_not] at h_); omega) | (simp [mulSz, Cont.len, bne] at h_; first | done | omega))); intro _; conv => whnf)
        | (refine tst_in ?_ ?_; rotate_left; (focus (intro h_; exfalso; first | omega | ((try simp only [decide_eq_true_eq, decide_eq_false_iff_not] at h_); omega) | (simp [mulSz, Cont.len, bne] at h_; first | done | omega))); intro _; conv => whnf)
        | (refine ⟨0, (show _ = _ by omega), ?_⟩; conv => whnf))
      refine .inl ⟨(), [0, 1, 2], ?_⟩
      conv => whnf
      repeat' (first | exact True.intro | rfl | refine And.intro ?_ ?_)
      all_goals (conv => whnf)
      repeat' (first | exact True.intro | rfl | refine And.intro ?_ ?_)
      all_goals (try omega)
noncomputable def k44 : Code := (Try.f44.body).getD .skip
set_option maxHeartbeats 0 in
set_option maxRecDepth 100000 in
theorem at_f (F : Nat → G) (A : List Int) (n c : Nat) (x : G) (hA : Rd A F n) (hc : n ≤ c) (hn : n ≤ 9223372036854775807) :
    Fits Try.prog 44 ⟨[.slice 0 0 n c, .int .u8 (x.v : Nat)], [.seg false (.ints .u8 A)], [numOut [.dead] (.int .u8 ((As F x n).v : Nat))]⟩ := by
  have FE := fromEnd_f F A n c x hA hc hn
  refine fits_of_body (C := cfgk 1) (c := k44) (ts := [4]) tokL mixedL (fun _ => none) (fun _ => none)
    Try.func44 (by kernel_rfl) (by kernel_rfl) (by kernel_rfl) (by kernel_rfl) rfl ?_
  conv => whnf
  repeat (first
    | (refine And.intro ?_ ?_; (focus (first | omega | decide | exact EqOk.mk (by kernel_rfl) (by kernel_rfl) (by kernel_rfl) | exact Int.natCast_nonneg _ | ((repeat' refine And.intro ?_ ?_) <;> first | omega | exact Int.natCast_nonneg _ | (simp only [i64max, u8max, u16max, u32max, u64max]; omega) | (simp only [mulSz_eq, Cont.len, colsLen, Col.len, List.length_cons, List.length_nil, List.length_replicate, List.length_append]; first | done | omega) | (simp [mulSz, Cont.len, bne]; first | done | omega)))); conv => whnf)
    | (refine tst_in ?_ ?_; (focus (intro h_; exfalso; first | omega | ((try simp only [decide_eq_true_eq, decide_eq_false_iff_not] at h_); omega) | (simp [mulSz, Cont.len, bne] at h_; first | done | omega))); intro _; conv => whnf)
    | (refine tst_in ?_ ?_; rotate_left; (focus (intro h_; exfalso; first | omega | ((try simp only [decide_eq_true_eq, decide_eq_false_iff_not] at h_); omega) | (simp [mulSz, Cont.len, bne] at h_; first | done | omega))); intro _; conv => whnf)
    | (refine ⟨0, (show _ = _ by omega), ?_⟩; conv => whnf))
  refine ⟨_, [0, 2, 1], FE, ?_⟩
  conv => whnf
  iterate 2
   refine And.intro ?_ ?_
   focus
    conv => whnf
    repeat' (first | exact True.intro | rfl | refine And.intro ?_ ?_ | omega)
    all_goals (conv => whnf)
    all_goals (try (first | rfl | omega | (simp; done)))
  conv => whnf
  refine ⟨?_, True.intro⟩
  intro _ _
  conv => whnf
  conv => whnf
  repeat (first
    | (refine And.intro ?_ ?_; (focus (first | omega | decide | exact EqOk.mk (by kernel_rfl) (by kernel_rfl) (by kernel_rfl) | exact Int.natCast_nonneg _ | ((repeat' refine And.intro ?_ ?_) <;> first | omega | exact Int.natCast_nonneg _ | (simp only [i64max, u8max, u16max, u32max, u64max]; omega) | (simp only [mulSz_eq, Cont.len, colsLen, Col.len, List.length_cons, List.length_nil, List.length_replicate, List.length_append]; first | done | omega) | (simp [mulSz, Cont.len, bne]; first | done | omega)))); conv => whnf)
    | (refine tst_in ?_ ?_; (focus (intro h_; exfalso; first | omega | ((try simp only [decide_eq_true_eq, decide_eq_false_iff_not] at h_); omega) | (simp [mulSz, Cont.len, bne] at h_; first | done | omega))); intro _; conv => whnf)
    | (refine tst_in ?_ ?_; rotate_left; (focus (intro h_; exfalso; first | omega | ((try simp only [decide_eq_true_eq, decide_eq_false_iff_not] at h_); omega) | (simp [mulSz, Cont.len, bne] at h_; first | done | omega))); intro _; conv => whnf)
    | (refine ⟨0, (show _ = _ by omega), ?_⟩; conv => whnf))
  refine .inl ⟨(), [0], ?_⟩
  conv => whnf
  repeat' (first | exact True.intro | rfl | refine And.intro ?_ ?_)
  all_goals (conv => whnf)
  repeat' (first | exact True.intro | rfl | refine And.intro ?_ ?_)
  all_goals (try omega)
noncomputable def k24 : Code := (Try.f24.body).getD .skip
/-- The value, or none of too long a list. -/
noncomputable def atV (F : Nat → G) (n : Nat) (x : G) : G := if 512 < n then g0 else As F x n
def atE (n : Nat) : Int := if 512 < n then 1 else 0
set_option maxHeartbeats 0 in
set_option maxRecDepth 100000 in
theorem At_g (F : Nat → G) (A : List Int) (n c : Nat) (x : G) (hA : Rd A F n) (hc : n ≤ c) (hn : n ≤ 9223372036854775807) :
    Fits Try.prog 24 ⟨[.slice 0 0 n c, .int .u8 (x.v : Nat)], [.seg false (.ints .u8 A)], [numOut [.dead] (.tup [.int .u8 ((atV F n x).v : Nat), .int .i64 (atE n)])]⟩ := by
  have TK := tooLong1 n c hn
  have AF := at_f F A n c x hA hc hn
  refine fits_of_body (C := cfgk 1) (c := k24) (ts := [4, 5]) tokL mixedL (fun _ => none) (fun _ => none)
    Try.func24 (by kernel_rfl) (by kernel_rfl) (by kernel_rfl) (by kernel_rfl) rfl ?_
  conv => whnf
  repeat (first
    | (refine And.intro ?_ ?_; (focus (first | omega | decide | exact EqOk.mk (by kernel_rfl) (by kernel_rfl) (by kernel_rfl) | exact Int.natCast_nonneg _ | ((repeat' refine And.intro ?_ ?_) <;> first | omega | exact Int.natCast_nonneg _ | (simp only [i64max, u8max, u16max, u32max, u64max]; omega) | (simp only [mulSz_eq, Cont.len, colsLen, Col.len, List.length_cons, List.length_nil, List.length_replicate, List.length_append]; first | done | omega) | (simp [mulSz, Cont.len, bne]; first | done | omega)))); conv => whnf)
    | (refine tst_in ?_ ?_; (focus (intro h_; exfalso; first | omega | ((try simp only [decide_eq_true_eq, decide_eq_false_iff_not] at h_); omega) | (simp [mulSz, Cont.len, bne] at h_; first | done | omega))); intro _; conv => whnf)
    | (refine tst_in ?_ ?_; rotate_left; (focus (intro h_; exfalso; first | omega | ((try simp only [decide_eq_true_eq, decide_eq_false_iff_not] at h_); omega) | (simp [mulSz, Cont.len, bne] at h_; first | done | omega))); intro _; conv => whnf)
    | (refine ⟨0, (show _ = _ by omega), ?_⟩; conv => whnf))
  refine ⟨_, [1, 0], TK, ?_⟩
  conv => whnf
  iterate 2
   refine And.intro ?_ ?_
   focus
    conv => whnf
    repeat' (first | exact True.intro | rfl | refine And.intro ?_ ?_)
    all_goals (conv => whnf)
    repeat' (first | exact True.intro | rfl | refine And.intro ?_ ?_)
    all_goals (try (first | rfl | omega | (simp; first | done | omega)))
  conv => whnf
  by_cases hl : 512 < n
  · rw [decide_eq_true hl, show atV F n x = g0 from if_pos hl, show atE n = 1 from if_pos hl]
    conv => whnf
    repeat (first
      | (refine And.intro ?_ ?_; (focus (first | omega | decide | exact EqOk.mk (by kernel_rfl) (by kernel_rfl) (by kernel_rfl) | exact Int.natCast_nonneg _ | ((repeat' refine And.intro ?_ ?_) <;> first | omega | exact Int.natCast_nonneg _ | (simp only [i64max, u8max, u16max, u32max, u64max]; omega) | (simp only [mulSz_eq, Cont.len, colsLen, Col.len, List.length_cons, List.length_nil, List.length_replicate, List.length_append]; first | done | omega) | (simp [mulSz, Cont.len, bne]; first | done | omega)))); conv => whnf)
      | (refine tst_in ?_ ?_; (focus (intro h_; exfalso; first | omega | ((try simp only [decide_eq_true_eq, decide_eq_false_iff_not] at h_); omega) | (simp [mulSz, Cont.len, bne] at h_; first | done | omega))); intro _; conv => whnf)
      | (refine tst_in ?_ ?_; rotate_left; (focus (intro h_; exfalso; first | omega | ((try simp only [decide_eq_true_eq, decide_eq_false_iff_not] at h_); omega) | (simp [mulSz, Cont.len, bne] at h_; first | done | omega))); intro _; conv => whnf)
      | (refine ⟨0, (show _ = _ by omega), ?_⟩; conv => whnf))
    refine .inl ⟨(), [0], ?_⟩
    conv => whnf
    repeat' (first | exact True.intro | rfl | refine And.intro ?_ ?_)
    all_goals (conv => whnf)
    repeat' (first | exact True.intro | rfl | refine And.intro ?_ ?_)
    all_goals (try omega)
  · rw [decide_eq_false hl, show atV F n x = As F x n from if_neg hl, show atE n = 0 from if_neg hl]
    conv => whnf
    repeat (first
      | (refine And.intro ?_ ?_; (focus (first | omega | decide | exact EqOk.mk (by kernel_rfl) (by kernel_rfl) (by kernel_rfl) | exact Int.natCast_nonneg _ | ((repeat' refine And.intro ?_ ?_) <;> first | omega | exact Int.natCast_nonneg _ | (simp only [i64max, u8max, u16max, u32max, u64max]; omega) | (simp only [mulSz_eq, Cont.len, colsLen, Col.len, List.length_cons, List.length_nil, List.length_replicate, List.length_append]; first | done | omega) | (simp [mulSz, Cont.len, bne]; first | done | omega)))); conv => whnf)
      | (refine tst_in ?_ ?_; (focus (intro h_; exfalso; first | omega | ((try simp only [decide_eq_true_eq, decide_eq_false_iff_not] at h_); omega) | (simp [mulSz, Cont.len, bne] at h_; first | done | omega))); intro _; conv => whnf)
      | (refine tst_in ?_ ?_; rotate_left; (focus (intro h_; exfalso; first | omega | ((try simp only [decide_eq_true_eq, decide_eq_false_iff_not] at h_); omega) | (simp [mulSz, Cont.len, bne] at h_; first | done | omega))); intro _; conv => whnf)
      | (refine ⟨0, (show _ = _ by omega), ?_⟩; conv => whnf))
    refine ⟨_, [0], AF, ?_⟩
    conv => whnf
    iterate 2
     refine And.intro ?_ ?_
     focus
      conv => whnf
      repeat' (first | exact True.intro | rfl | refine And.intro ?_ ?_ | omega)
      all_goals (conv => whnf)
      all_goals (try (first | rfl | omega | (simp; done)))
    conv => whnf
    refine ⟨?_, True.intro⟩
    intro _ _
    conv => whnf
    conv => whnf
    repeat (first
      | (refine And.intro ?_ ?_; (focus (first | omega | decide | exact EqOk.mk (by kernel_rfl) (by kernel_rfl) (by kernel_rfl) | exact Int.natCast_nonneg _ | ((repeat' refine And.intro ?_ ?_) <;> first | omega | exact Int.natCast_nonneg _ | (simp only [i64max, u8max, u16max, u32max, u64max]; omega) | (simp only [mulSz_eq, Cont.len, colsLen, Col.len, List.length_cons, List.length_nil, List.length_replicate, List.length_append]; first | done | omega) | (simp [mulSz, Cont.len, bne]; first | done | omega)))); conv => whnf)
      | (refine tst_in ?_ ?_; (focus (intro h_; exfalso; first | omega | ((try simp only [decide_eq_true_eq, decide_eq_false_iff_not] at h_); omega) | (simp [mulSz, Cont.len, bne] at h_; first | done | omega))); intro _; conv => whnf)
      | (refine tst_in ?_ ?_; rotate_left; (focus (intro h_; exfalso; first | omega | ((try simp only [decide_eq_true_eq, decide_eq_false_iff_not] at h_); omega) | (simp [mulSz, Cont.len, bne] at h_; first | done | omega))); intro _; conv => whnf)
      | (refine ⟨0, (show _ = _ by omega), ?_⟩; conv => whnf))
    refine .inl ⟨(), [0], ?_⟩
    conv => whnf
    repeat' (first | exact True.intro | rfl | refine And.intro ?_ ?_)
    all_goals (conv => whnf)
    repeat' (first | exact True.intro | rfl | refine And.intro ?_ ?_)
    all_goals (try omega)
end Go.Proofs.Yteiblfkegnppeaa

set_option linter.unusedVariables false
set_option linter.unusedSimpArgs false
namespace Go.Proofs.Yteiblfkegnppeaa
open Go Go.Fw
/-- One term more of a quotient. -/
noncomputable def putQ (Q : Nat → G) (i : Nat) (c : G) (l : Nat) : G := if l = i then c else Q l
theorem putQ_is {Q : Nat → G} {i : Nat} (c : G) (h : Q i = g0) : putQ Q i c = pa Q (ps c (sh i fun l => if l = 0 then g1 else g0)) := by
  funext l
  show (if l = i then c else Q l) = Q l + c * sh i (fun l => if l = 0 then g1 else g0) l
  by_cases e : l = i
  · subst e; rw [if_pos rfl, h, sh_in _ (Nat.le_refl _), if_pos (by omega), m_one, z_add]
  · rw [if_neg e, show sh i (fun l => if l = 0 then g1 else g0) l = g0 by (unfold sh; split; exact if_neg (by omega); rfl), m_zero, a_zero]
theorem ac_putQ {Q : Nat → G} {i m : Nat} (c : G) (b : Nat → G) (h : Q i = g0) (hi : i < m) : ac (putQ Q i c) b m = pa (ac Q b m) (ps c (sh i b)) := by
  rw [putQ_is c h, ac_pa_l, ac_ps_l]
  obtain ⟨n, rfl⟩ : ∃ n, m = i + (n + 1) := ⟨m - i - 1, by omega⟩
  rw [ac_sh_l, ac_one_l, ps_1]
/-- What is so far: the quotient's terms behind, and what is left. -/
structure DQ where
  k : Nat
  Q : Nat → G
  R : Nat → G
  tl : List Int
def DOk (a b : Nat → G) (s t m : Nat) (x : DQ) : Prop := x.k ≤ m ∧ Zr x.Q m ∧ (∀ l, l < m - x.k → x.Q l = g0) ∧ Zr x.R (s - x.k) ∧ a = pa (ac x.Q b m) x.R
/-- Within a round: i is the term's place, j of the divisor's terms are taken off. -/
def DIn (a b : Nat → G) (s t m i : Nat) (x : DQ) : Prop := x.k ≤ t ∧ Zr x.Q m ∧ (∀ l, l < i → x.Q l = g0) ∧ Zr x.R (i + t) ∧ x.R (i + t - 1) = x.Q i * b (t - 1) ∧ a = pa (pa (ac x.Q b m) (ps (x.Q i) (sh i b))) x.R
theorem DIn_begin {a b : Nat → G} {s t m : Nat} {x : DQ} (h : DOk a b s t m x) (hb : Pol b t) (ht : 0 < t) (hs : s = m + t - 1) (hk : x.k < m) :
    DIn a b s t m (m - 1 - x.k) ⟨0, putQ x.Q (m - 1 - x.k) (x.R (m - 1 - x.k + t - 1) * iv (b (t - 1))), x.R, x.tl⟩ := by
  obtain ⟨h1, h2, h3, h4, h5⟩ := h
  have e : putQ x.Q (m - 1 - x.k) (x.R (m - 1 - x.k + t - 1) * iv (b (t - 1))) (m - 1 - x.k) = x.R (m - 1 - x.k + t - 1) * iv (b (t - 1)) := if_pos rfl
  refine ⟨Nat.zero_le _, fun l hl => ?_, fun l hl => ?_, zr_mono h4 (by omega), ?_, ?_⟩
  · show (if l = m - 1 - x.k then _ else x.Q l) = g0
    rw [if_neg (by omega)]; exact h2 l hl
  · show (if l = m - 1 - x.k then _ else x.Q l) = g0
    rw [if_neg (by omega)]; exact h3 l (by omega)
  · show x.R (m - 1 - x.k + t - 1) = putQ _ _ _ _ * b (t - 1)
    rw [e, m_assoc, m_comm (iv _), m_iv (hb.2 ht), m_one]
  · show a = pa (pa (ac (putQ _ _ _) b m) (ps (putQ _ _ _ _) (sh (m - 1 - x.k) b))) x.R
    rw [e, ac_putQ _ b (h3 _ (by omega)) (by omega), pa_assoc (ac x.Q b m), pa_self, pa_zf, h5]
theorem DIn_end {a b : Nat → G} {s t m i k : Nat} {x : DQ} (h : DIn a b s t m i x) (hb : Pol b t) (ht : 0 < t) (hs : s = m + t - 1) (hk : k < m) (hi : i = m - 1 - k) :
    DOk a b s t m ⟨k + 1, x.Q, pa x.R (ps (x.Q i) (sh i b)), x.tl⟩ := by
  obtain ⟨h1, h2, h3, h4, h5, h6⟩ := h
  refine ⟨by show k + 1 ≤ m; omega, h2, fun l hl => h3 l (by have : l < m - (k + 1) := hl; omega), fun l hl => ?_, ?_⟩
  · have hl : s - (k + 1) ≤ l := hl
    show x.R l + x.Q i * sh i b l = g0
    by_cases e : l = i + t - 1
    · rw [e, h5, sh_in _ (by omega), show i + t - 1 - i = t - 1 by omega, a_self]
    · rw [h4 l (by omega), sh_in _ (by omega), hb.1 _ (by omega), m_zero, a_zero]
  · show a = pa (ac x.Q b m) (pa x.R (ps (x.Q i) (sh i b)))
    rw [h6, pa_assoc, pa_comm (ps _ _)]
noncomputable def k46 : Code := (Try.f46.body).getD .skip
noncomputable def st46 (A B : List Int) (n c t d s m : Nat) (o : G) (k : Nat) (Q R : Nat → G) (tl : List Int) : St := ⟨slotsAt 75 [(0, .slice 0 0 n c), (1, .slice 1 0 t d), (4, .slice 3 0 m m), (5, .slice 2 0 s (s + tl.length)), (6, .int .u8 (o.v : Nat)), (7, .int .i64 ((m : Int) - 1 - k))],
  [.seg false (.ints .u8 A), .seg false (.ints .u8 B), .seg true (.ints .u8 (tb (gi R) s ++ tl)), .seg true (.ints .u8 (tb (gi Q) m))]⟩
noncomputable def st46b (b : Nat → G) (A B : List Int) (n c t d s m : Nat) (o : G) (i : Nat) (k : Nat) (Q R : Nat → G) (tl : List Int) : St := ⟨slotsAt 75 [(0, .slice 0 0 n c), (1, .slice 1 0 t d), (4, .slice 3 0 m m), (5, .slice 2 0 s (s + tl.length)), (6, .int .u8 (o.v : Nat)), (7, .int .i64 i), (49, .slice 1 0 t d), (50, .int .i64 t), (51, .int .i64 k)],
  [.seg false (.ints .u8 A), .seg false (.ints .u8 B), .seg true (.ints .u8 (tb (gi (pa R (ps (Q i) (sh i (ct b k))))) s ++ tl)), .seg true (.ints .u8 (tb (gi Q) m))]⟩
def plan46 : PlanN := .op 0 (.op 1 (.op 2 (.op 6 (.op 7 (.op 8 (.op 9 (.op 10 (.rd 3 (.rd 4 (.rd 5 (.op 11 (.chk [5, 4, 3] (.op 12 (.op 13 (.op 14 .done)))))))))))))))
noncomputable def cfg46 (a b : Nat → G) (A B : List Int) (n c t d s m : Nat) (o : G) : Cfg := { cfgk 2 with
  dep := fun | 9 => some fun st => ⟨DQ, fun x => st46b b A B n c t d s m o (natAt st 7) x.k x.Q x.R x.tl, fun x => DIn a b s t m (natAt st 7) x, fun x => t - x.k⟩ | _ => none,
  plan := fun | 11 => some (.nn plan46) | _ => none }
/-- Quotient and rest. -/
def DivOk (F H : Nat → G) (s t m : Nat) (x : DQ) : Prop := Zr x.Q m ∧ Zr x.R (t - 1) ∧ Zr x.R s ∧ ct F s = pa (ac x.Q (ct H t) m) x.R
noncomputable def divOut (F H : Nat → G) (s t m : Nat) (f : AV → AV → AV) : FOut := ⟨DQ, DivOk F H s t m, fun x => f (.slice 3 0 (dg x.Q m) m) (.slice 2 0 (dg x.R s) (s + x.tl.length)), fun x => [.dead, .dead, .seg true (.ints .u8 (tb (gi x.R) s ++ x.tl)), .seg true (.ints .u8 (tb (gi x.Q) m))]⟩
set_option maxHeartbeats 0 in
set_option maxRecDepth 100000 in
theorem divided_f (F H : Nat → G) (A B : List Int) (n c t d : Nat) (hA : Rd A F n) (hB : Rd B H t) (hc : n ≤ c) (hd : t ≤ d) (hn : n ≤ 1024) (ht2 : t ≤ 1024) (ht : 0 < t) (hH : H (t - 1) ≠ g0) :
    Fits Try.prog 46 ⟨[.slice 0 0 n c, .slice 1 0 t d], [.seg false (.ints .u8 A), .seg false (.ints .u8 B)], [divOut F H (dg F n) t (dg F n + 1 - t) fun q r => .tup [q, r]]⟩ := by
  have TA := trim_f F A n c hA hc (by omega)
  have hs0 := dg_le F n
  have hb : Pol (ct H t) t := ⟨zr_ct H t, fun _ => by rw [ct_lt H (by omega)]; exact hH⟩
  have hB2 : Rd B (ct H t) t := Rd_congr hB fun i hi => (ct_lt H hi).symm
  have hA2 : Rd A (ct F (dg F n)) (dg F n) := Rd_congr (Rd_le hA hs0) fun i hi => (ct_lt F hi).symm
  unfold divOut DivOk
  generalize dg F n = s at *
  have hza := zr_ct F s
  generalize ct F s = a at *
  generalize ct H t = b at *
  generalize hm : s + 1 - t = m
  refine fits_of_body (C := cfg46 a b A B n c t d s m (iv (b (t - 1)))) (c := k46) (ts := [4, 5]) tokL mixedL (fun | 5 => some ⟨DQ, fun x => st46 A B n c t d s m (iv (b (t - 1))) x.k x.Q x.R x.tl, DOk a b s t m, fun x => m - x.k⟩ | _ => none) (fun _ => none)
    Try.func46 (by kernel_rfl) (by kernel_rfl) (by kernel_rfl) (by kernel_rfl) rfl ?_
  obtain ⟨hl, hg⟩ := hA2
  obtain ⟨hl2, hg2⟩ := hB2
  have PW := power_g (b (t - 1))
  have hbt := hg2 (t - 1) (by omega)
  conv => whnf
  repeat (first
    | (refine And.intro ?_ ?_; (focus (first | omega | decide | exact EqOk.mk (by kernel_rfl) (by kernel_rfl) (by kernel_rfl) | exact Int.natCast_nonneg _ | ((repeat' refine And.intro ?_ ?_) <;> first | omega | exact Int.natCast_nonneg _ | (simp only [i64max, u8max, u16max, u32max, u64max]; omega) | (simp only [mulSz_eq, Cont.len, colsLen, Col.len, List.length_cons, List.length_nil, List.length_replicate, List.length_append]; first | done | omega) | (simp [mulSz, Cont.len, bne]; first | done | omega)))); conv => whnf)
    | (refine tst_in ?_ ?_; (focus (intro h_; exfalso; first | omega | ((try simp only [decide_eq_true_eq, decide_eq_false_iff_not] at h_); omega) | (simp [mulSz, Cont.len, bne] at h_; first | done | omega))); intro _; conv => whnf)
    | (refine tst_in ?_ ?_; rotate_left; (focus (intro h_; exfalso; first | omega | ((try simp only [decide_eq_true_eq, decide_eq_false_iff_not] at h_); omega) | (simp [mulSz, Cont.len, bne] at h_; first | done | omega))); intro _; conv => whnf)
    | (refine ⟨0, (show _ = _ by omega), ?_⟩; conv => whnf))
  refine ⟨_, [0], TA, ?_⟩
  conv => whnf
  iterate 2
   refine And.intro ?_ ?_
   focus
    conv => whnf
    repeat' (first | exact True.intro | rfl | refine And.intro ?_ ?_ | omega)
    all_goals (conv => whnf)
    all_goals (try (first | rfl | omega | (simp; done)))
  conv => whnf
  refine ⟨?_, True.intro⟩
  intro _ _
  conv => whnf
  conv => whnf
  repeat (first
    | (refine And.intro ?_ ?_; (focus (first | omega | decide | exact EqOk.mk (by kernel_rfl) (by kernel_rfl) (by kernel_rfl) | exact Int.natCast_nonneg _ | ((repeat' refine And.intro ?_ ?_) <;> first | omega | exact Int.natCast_nonneg _ | (simp only [i64max, u8max, u16max, u32max, u64max]; omega) | (simp only [mulSz_eq, Cont.len, colsLen, Col.len, List.length_cons, List.length_nil, List.length_replicate, List.length_append]; first | done | omega) | (simp [mulSz, Cont.len, bne]; first | done | omega)))); conv => whnf)
    | (refine tst_in ?_ ?_; (focus (intro h_; exfalso; first | omega | ((try simp only [decide_eq_true_eq, decide_eq_false_iff_not] at h_); omega) | (simp [mulSz, Cont.len, bne] at h_; first | done | omega))); intro _; conv => whnf)
    | (refine tst_in ?_ ?_; rotate_left; (focus (intro h_; exfalso; first | omega | ((try simp only [decide_eq_true_eq, decide_eq_false_iff_not] at h_); omega) | (simp [mulSz, Cont.len, bne] at h_; first | done | omega))); intro _; conv => whnf)
    | (refine ⟨0, (show _ = _ by omega), ?_⟩; conv => whnf))
  intro tl
  conv => whnf
  repeat (first
    | (refine And.intro ?_ ?_; (focus (first | omega | decide | exact EqOk.mk (by kernel_rfl) (by kernel_rfl) (by kernel_rfl) | exact Int.natCast_nonneg _ | ((repeat' refine And.intro ?_ ?_) <;> first | omega | exact Int.natCast_nonneg _ | (simp only [i64max, u8max, u16max, u32max, u64max]; omega) | (simp only [mulSz_eq, Cont.len, colsLen, Col.len, List.length_cons, List.length_nil, List.length_replicate, List.length_append]; first | done | omega) | (simp [mulSz, Cont.len, bne]; first | done | omega)))); conv => whnf)
    | (refine tst_in ?_ ?_; (focus (intro h_; exfalso; first | omega | ((try simp only [decide_eq_true_eq, decide_eq_false_iff_not] at h_); omega) | (simp [mulSz, Cont.len, bne] at h_; first | done | omega))); intro _; conv => whnf)
    | (refine tst_in ?_ ?_; rotate_left; (focus (intro h_; exfalso; first | omega | ((try simp only [decide_eq_true_eq, decide_eq_false_iff_not] at h_); omega) | (simp [mulSz, Cont.len, bne] at h_; first | done | omega))); intro _; conv => whnf)
    | (refine ⟨0, (show _ = _ by omega), ?_⟩; conv => whnf))
  rw [show (0 + ((t : Nat) - 1 : Int).toNat) = t - 1 by omega, hbt]
  refine ⟨_, [], PW, ?_⟩
  conv => whnf
  iterate 2
   refine And.intro ?_ ?_
   focus
    conv => whnf
    repeat' (first | exact True.intro | rfl | refine And.intro ?_ ?_ | omega)
    all_goals (conv => whnf)
    all_goals (try (first | rfl | omega | (simp; done)))
  conv => whnf
  conv => whnf
  repeat (first
    | (refine And.intro ?_ ?_; (focus (first | omega | decide | exact EqOk.mk (by kernel_rfl) (by kernel_rfl) (by kernel_rfl) | exact Int.natCast_nonneg _ | ((repeat' refine And.intro ?_ ?_) <;> first | omega | exact Int.natCast_nonneg _ | (simp only [i64max, u8max, u16max, u32max, u64max]; omega) | (simp only [mulSz_eq, Cont.len, colsLen, Col.len, List.length_cons, List.length_nil, List.length_replicate, List.length_append]; first | done | omega) | (simp [mulSz, Cont.len, bne]; first | done | omega)))); conv => whnf)
    | (refine tst_in ?_ ?_; (focus (intro h_; exfalso; first | omega | ((try simp only [decide_eq_true_eq, decide_eq_false_iff_not] at h_); omega) | (simp [mulSz, Cont.len, bne] at h_; first | done | omega))); intro _; conv => whnf)
    | (refine tst_in ?_ ?_; rotate_left; (focus (intro h_; exfalso; first | omega | ((try simp only [decide_eq_true_eq, decide_eq_false_iff_not] at h_); omega) | (simp [mulSz, Cont.len, bne] at h_; first | done | omega))); intro _; conv => whnf)
    | (refine ⟨0, (show _ = _ by omega), ?_⟩; conv => whnf))
  rw [show (max 0 (((0 + s : Nat) : Int) - (t : Int) + 1)).toNat = m by omega]
  refine ⟨⟨[0, 1, 2, 3], (⟨0, zf, a, tl⟩ : DQ), ?_, ⟨Nat.zero_le _, zr_zf m, fun _ _ => rfl, hza, ?_⟩⟩, ?_⟩
  · show stLe _ _ (st46 A B n c t d s m (iv (b (t - 1))) (0) (zf) (a) (tl)) _
    conv => whnf
    repeat' (first | exact True.intro | rfl | refine And.intro ?_ ?_)
    all_goals (conv => whnf)
    repeat' (first | exact True.intro | rfl | refine And.intro ?_ ?_)
    all_goals (try omega)
    · show tb (gi a) s ++ tl = List.take s (List.drop 0 A) ++ tl
      congr 1
      symm
      exact tab_ext 0 (by rw [List.length_take, List.length_drop]; omega) fun k hk => by rw [g_take, if_pos hk, g_drop, Nat.zero_add]; exact hg k hk
    · exact (tab_ext 0 (List.length_replicate ..) fun k hk => by rw [g_rep, if_pos hk]; rfl).symm
  · show a = pa (ac zf b m) a
    rw [ac_zr zf b m fun _ _ => rfl, zf_pa]
  · clear tl
    intro ⟨k, Q, R, tl⟩ hx
    show forceSt (st46 A B n c t d s m (iv (b (t - 1))) (k) (Q) (R) (tl)) _
    conv => whnf
    repeat (first
      | (refine And.intro ?_ ?_; (focus (first | omega | decide | exact EqOk.mk (by kernel_rfl) (by kernel_rfl) (by kernel_rfl) | exact Int.natCast_nonneg _ | ((repeat' refine And.intro ?_ ?_) <;> first | omega | exact Int.natCast_nonneg _ | (simp only [i64max, u8max, u16max, u32max, u64max]; omega) | (simp only [mulSz_eq, Cont.len, colsLen, Col.len, List.length_cons, List.length_nil, List.length_replicate, List.length_append]; first | done | omega) | (simp [mulSz, Cont.len, bne]; first | done | omega)))); conv => whnf)
      | (refine tst_in ?_ ?_; (focus (intro h_; exfalso; first | omega | ((try simp only [decide_eq_true_eq, decide_eq_false_iff_not] at h_); omega) | (simp [mulSz, Cont.len, bne] at h_; first | done | omega))); intro _; conv => whnf)
      | (refine tst_in ?_ ?_; rotate_left; (focus (intro h_; exfalso; first | omega | ((try simp only [decide_eq_true_eq, decide_eq_false_iff_not] at h_); omega) | (simp [mulSz, Cont.len, bne] at h_; first | done | omega))); intro _; conv => whnf)
      | (refine ⟨0, (show _ = _ by omega), ?_⟩; conv => whnf))
    refine tst_in (fun h => ?_) (fun h' => ?_)
    · have h : (0 : Int) ≤ (m : Int) - 1 - (k : Int) := dle_t h
      have hk : k < m := by omega
      have hst : s = m + t - 1 := by omega
      have hin := DIn_begin hx hb ht hst hk
      have hin2 := fun (i : Nat) (hi : i = m - 1 - k) (x : DQ) (h : DIn a b s t m i x) => DIn_end h hb ht hst hk hi
      generalize hi : m - 1 - k = i at *
      rw [show (m : Int) - 1 - (k : Int) = (i : Int) by omega]
      have TM := Times_g (R (i + t - 1)) (iv (b (t - 1)))
      have hrd : (tb (gi R) s ++ tl).getD (i + t - 1) 0 = gi R (i + t - 1) := tab_app _ _ _ (by omega)
      conv => whnf
      repeat (first
        | (refine And.intro ?_ ?_; (focus (first | omega | decide | exact EqOk.mk (by kernel_rfl) (by kernel_rfl) (by kernel_rfl) | exact Int.natCast_nonneg _ | ((repeat' refine And.intro ?_ ?_) <;> first | omega | exact Int.natCast_nonneg _ | (simp only [i64max, u8max, u16max, u32max, u64max]; omega) | (simp only [mulSz_eq, Cont.len, colsLen, Col.len, List.length_cons, List.length_nil, List.length_replicate, List.length_append, tab_len]; first | done | omega) | (simp [mulSz, Cont.len, bne, tab_len]; first | done | omega)))); conv => whnf)
        | (refine tst_in ?_ ?_; (focus (intro h_; exfalso; first | omega | ((try simp only [decide_eq_true_eq, decide_eq_false_iff_not] at h_); omega) | (simp [mulSz, Cont.len, bne, tab_len] at h_; first | done | omega))); intro _; conv => whnf)
        | (refine tst_in ?_ ?_; rotate_left; (focus (intro h_; exfalso; first | omega | ((try simp only [decide_eq_true_eq, decide_eq_false_iff_not] at h_); omega) | (simp [mulSz, Cont.len, bne, tab_len] at h_; first | done | omega))); intro _; conv => whnf)
        | (refine ⟨0, (show _ = _ by omega), ?_⟩; conv => whnf))
      rw [show (0 + ((i : Int) + (t : Int) - 1).toNat) = i + t - 1 by omega, hrd]
      refine ⟨_, [], TM, ?_⟩
      conv => whnf
      iterate 2
       refine And.intro ?_ ?_
       focus
        conv => whnf
        repeat' (first | exact True.intro | rfl | refine And.intro ?_ ?_ | omega)
        all_goals (conv => whnf)
        all_goals (try (first | rfl | omega | (simp; done)))
      conv => whnf
      conv => whnf
      repeat (first
        | (refine And.intro ?_ ?_; (focus (first | omega | decide | exact EqOk.mk (by kernel_rfl) (by kernel_rfl) (by kernel_rfl) | exact Int.natCast_nonneg _ | ((repeat' refine And.intro ?_ ?_) <;> first | omega | exact Int.natCast_nonneg _ | (simp only [i64max, u8max, u16max, u32max, u64max]; omega) | (simp only [mulSz_eq, Cont.len, colsLen, Col.len, List.length_cons, List.length_nil, List.length_replicate, List.length_append, tab_len]; first | done | omega) | (simp [mulSz, Cont.len, bne, tab_len]; first | done | omega)))); conv => whnf)
        | (refine tst_in ?_ ?_; (focus (intro h_; exfalso; first | omega | ((try simp only [decide_eq_true_eq, decide_eq_false_iff_not] at h_); omega) | (simp [mulSz, Cont.len, bne, tab_len] at h_; first | done | omega))); intro _; conv => whnf)
        | (refine tst_in ?_ ?_; rotate_left; (focus (intro h_; exfalso; first | omega | ((try simp only [decide_eq_true_eq, decide_eq_false_iff_not] at h_); omega) | (simp [mulSz, Cont.len, bne, tab_len] at h_; first | done | omega))); intro _; conv => whnf)
        | (refine ⟨0, (show _ = _ by omega), ?_⟩; conv => whnf))
      refine ⟨⟨[0, 1, 2, 3], (⟨0, putQ Q i (R (i + t - 1) * iv (b (t - 1))), R, tl⟩ : DQ), ?_, hin⟩, ?_⟩
      · show stLe _ _ (st46b b A B n c t d s m (iv (b (t - 1))) i (0) (putQ Q i (R (i + t - 1) * iv (b (t - 1)))) (R) (tl)) _
        conv => whnf
        repeat' (first | exact True.intro | rfl | refine And.intro ?_ ?_)
        all_goals (conv => whnf)
        repeat' (first | exact True.intro | rfl | refine And.intro ?_ ?_)
        all_goals (try omega)
        · show tb (gi (pa R (ps (putQ Q i (R (i + t - 1) * iv (b (t - 1))) i) (sh i (ct b 0))))) s ++ tl = tb (gi R) s ++ tl
          rw [show ct b 0 = zf from funext fun i => if_neg (by omega), sh_zf, ps_zf, pa_zf]
        · show tb (gi (putQ Q i (R (i + t - 1) * iv (b (t - 1))))) m = (tb (gi Q) m).set (0 + ((i : Nat) : Int).toNat) (((R (i + t - 1) * iv (b (t - 1)) : G).v : Nat) : Int)
          rw [show (0 + ((i : Nat) : Int).toNat) = i by omega]
          exact (tab_put Q m i _ fun k hk => rfl).symm
      · have hi9 : i < m := by omega
        intro ⟨j, Q2, R2, tl2⟩ hx
        have hin3 := hin2 i rfl ⟨j, Q2, R2, tl2⟩ hx
        obtain ⟨hj, hQ0, hQ1, hR0, hR1, hR2⟩ := hx
        show forceSt (st46b b A B n c t d s m (iv (b (t - 1))) i (j) (Q2) (R2) (tl2)) _
        conv => whnf
        repeat (first
          | (refine And.intro ?_ ?_; (focus (first | omega | decide | exact EqOk.mk (by kernel_rfl) (by kernel_rfl) (by kernel_rfl) | exact Int.natCast_nonneg _ | ((repeat' refine And.intro ?_ ?_) <;> first | omega | exact Int.natCast_nonneg _ | (simp only [i64max, u8max, u16max, u32max, u64max]; omega) | (simp only [mulSz_eq, Cont.len, colsLen, Col.len, List.length_cons, List.length_nil, List.length_replicate, List.length_append]; first | done | omega) | (simp [mulSz, Cont.len, bne]; first | done | omega)))); conv => whnf)
          | (refine tst_in ?_ ?_; (focus (intro h_; exfalso; first | omega | ((try simp only [decide_eq_true_eq, decide_eq_false_iff_not] at h_); omega) | (simp [mulSz, Cont.len, bne] at h_; first | done | omega))); intro _; conv => whnf)
          | (refine tst_in ?_ ?_; rotate_left; (focus (intro h_; exfalso; first | omega | ((try simp only [decide_eq_true_eq, decide_eq_false_iff_not] at h_); omega) | (simp [mulSz, Cont.len, bne] at h_; first | done | omega))); intro _; conv => whnf)
          | (refine ⟨0, (show _ = _ by omega), ?_⟩; conv => whnf))
        refine tst_in (fun u => ?_) (fun u' => ?_)
        · have u : j < t := by have := dlt_t u; omega
          have hgj := hg2 j (by omega)
          have TM := Times_g (Q2 i) (b j)
          generalize hY : pa R2 (ps (Q2 i) (sh i (ct b j))) = Y
          have ho := gi_in Y (i + j)
          have hm2 := (Q2 i * b j).lt
          have hto : (tb (gi Y) s ++ tl2).getD (i + j) 0 = gi Y (i + j) := tab_app _ _ _ (by omega)
          have hqo : (tb (gi Q2) m).getD i 0 = gi Q2 i := tab_get _ _ (by omega)
          conv => whnf
          repeat (first
            | (refine And.intro ?_ ?_; (focus (first | omega | decide | exact EqOk.mk (by kernel_rfl) (by kernel_rfl) (by kernel_rfl) | exact Int.natCast_nonneg _ | ((repeat' refine And.intro ?_ ?_) <;> first | omega | exact Int.natCast_nonneg _ | (simp only [i64max, u8max, u16max, u32max, u64max]; omega) | (simp only [mulSz_eq, Cont.len, colsLen, Col.len, List.length_cons, List.length_nil, List.length_replicate, List.length_append, tab_len]; first | done | omega) | (simp [mulSz, Cont.len, bne, tab_len]; first | done | omega)))); conv => whnf)
            | (refine tst_in ?_ ?_; (focus (intro h_; exfalso; first | omega | ((try simp only [decide_eq_true_eq, decide_eq_false_iff_not] at h_); omega) | (simp [mulSz, Cont.len, bne, tab_len] at h_; first | done | omega))); intro _; conv => whnf)
            | (refine tst_in ?_ ?_; rotate_left; (focus (intro h_; exfalso; first | omega | ((try simp only [decide_eq_true_eq, decide_eq_false_iff_not] at h_); omega) | (simp [mulSz, Cont.len, bne, tab_len] at h_; first | done | omega))); intro _; conv => whnf)
            | (refine ⟨0, (show _ = _ by omega), ?_⟩; conv => whnf))
          rw [show (0 + ((j : Nat) : Int).toNat) = j by omega, hgj, show (0 + ((i : Nat) : Int).toNat) = i by omega, hqo]
          refine ⟨_, [], TM, ?_⟩
          conv => whnf
          iterate 2
           refine And.intro ?_ ?_
           focus
            conv => whnf
            repeat' (first | exact True.intro | rfl | refine And.intro ?_ ?_ | omega)
            all_goals (conv => whnf)
            all_goals (try (first | rfl | omega | (simp; done)))
          conv => whnf
          conv => whnf
          repeat (first
            | (refine And.intro ?_ ?_; (focus (first | omega | decide | exact EqOk.mk (by kernel_rfl) (by kernel_rfl) (by kernel_rfl) | exact Int.natCast_nonneg _ | ((repeat' refine And.intro ?_ ?_) <;> first | omega | exact Int.natCast_nonneg _ | (simp only [i64max, u8max, u16max, u32max, u64max]; omega) | (simp only [mulSz_eq, Cont.len, colsLen, Col.len, List.length_cons, List.length_nil, List.length_replicate, List.length_append, tab_len]; first | done | omega) | (simp [mulSz, Cont.len, bne, tab_len]; first | done | omega)))); conv => whnf)
            | (refine tst_in ?_ ?_; (focus (intro h_; exfalso; first | omega | ((try simp only [decide_eq_true_eq, decide_eq_false_iff_not] at h_); omega) | (simp [mulSz, Cont.len, bne, tab_len] at h_; first | done | omega))); intro _; conv => whnf)
            | (refine tst_in ?_ ?_; rotate_left; (focus (intro h_; exfalso; first | omega | ((try simp only [decide_eq_true_eq, decide_eq_false_iff_not] at h_); omega) | (simp [mulSz, Cont.len, bne, tab_len] at h_; first | done | omega))); intro _; conv => whnf)
            | (refine ⟨0, (show _ = _ by omega), ?_⟩; conv => whnf))
          rw [show (0 + ((i : Nat) + (j : Nat) : Int).toNat) = i + j by omega, hto]
          refine ⟨⟨ho.1, by omega, ho.2, by rw [u8max]; omega⟩, ?_⟩
          conv => whnf
          repeat (first
            | (refine And.intro ?_ ?_; (focus (first | omega | decide | exact EqOk.mk (by kernel_rfl) (by kernel_rfl) (by kernel_rfl) | exact Int.natCast_nonneg _ | ((repeat' refine And.intro ?_ ?_) <;> first | omega | exact Int.natCast_nonneg _ | (simp only [i64max, u8max, u16max, u32max, u64max]; omega) | (simp only [mulSz_eq, Cont.len, colsLen, Col.len, List.length_cons, List.length_nil, List.length_replicate, List.length_append, tab_len]; first | done | omega) | (simp [mulSz, Cont.len, bne, tab_len]; first | done | omega)))); conv => whnf)
            | (refine tst_in ?_ ?_; (focus (intro h_; exfalso; first | omega | ((try simp only [decide_eq_true_eq, decide_eq_false_iff_not] at h_); omega) | (simp [mulSz, Cont.len, bne, tab_len] at h_; first | done | omega))); intro _; conv => whnf)
            | (refine tst_in ?_ ?_; rotate_left; (focus (intro h_; exfalso; first | omega | ((try simp only [decide_eq_true_eq, decide_eq_false_iff_not] at h_); omega) | (simp [mulSz, Cont.len, bne, tab_len] at h_; first | done | omega))); intro _; conv => whnf)
            | (refine ⟨0, (show _ = _ by omega), ?_⟩; conv => whnf))
          refine ⟨[0, 1, 2, 3], (⟨j + 1, Q2, R2, tl2⟩ : DQ), ?_, ⟨u, hQ0, hQ1, hR0, hR1, hR2⟩, by show t - (j + 1) < t - j; omega⟩
          show stLe _ _ (st46b b A B n c t d s m (iv (b (t - 1))) i (j + 1) Q2 R2 tl2) _
          conv => whnf
          repeat' (first | exact True.intro | rfl | refine And.intro ?_ ?_)
          all_goals (conv => whnf)
          repeat' (first | exact True.intro | rfl | refine And.intro ?_ ?_)
          all_goals (try omega)
          show tb (gi (pa R2 (ps (Q2 i) (sh i (ct b (j + 1)))))) s ++ tl2 = (tb (gi Y) s ++ tl2).set (0 + ((i : Nat) + (j : Nat) : Int).toNat) (((Y (i + j) + Q2 i * b j : G).v : Nat) : Int)
          rw [show (0 + ((i : Nat) + (j : Nat) : Int).toNat) = i + j by omega, List.set_append_left _ _ (by rw [tab_len]; omega)]
          congr 1
          refine (tab_put Y s (i + j) _ fun k hk => ?_).symm
          rw [ct_succ, sh_pa, ps_pa, ← pa_assoc, hY]
          show Y k + Q2 i * sh i (ps (b j) (sh j fun i => if i = 0 then g1 else g0)) k = _
          rw [sh_ps, sh_sh]
          show Y k + Q2 i * (b j * sh (i + j) (fun i => if i = 0 then g1 else g0) k) = _
          by_cases h : k = i + j
          · subst h; rw [if_pos rfl, sh_in _ (Nat.le_refl _), if_pos (by omega), m_one]
          · rw [if_neg h, show sh (i + j) (fun i => if i = 0 then g1 else g0) k = g0 by (unfold sh; split; exact if_neg (by omega); rfl), m_zero, m_zero, a_zero]
        · have u : j = t := by have := dlt_f u'; have : j ≤ t := hj; omega
          subst u
          conv => whnf
          repeat (first
            | (refine And.intro ?_ ?_; (focus (first | omega | decide | exact EqOk.mk (by kernel_rfl) (by kernel_rfl) (by kernel_rfl) | exact Int.natCast_nonneg _ | ((repeat' refine And.intro ?_ ?_) <;> first | omega | exact Int.natCast_nonneg _ | (simp only [i64max, u8max, u16max, u32max, u64max]; omega) | (simp only [mulSz_eq, Cont.len, colsLen, Col.len, List.length_cons, List.length_nil, List.length_replicate, List.length_append]; first | done | omega) | (simp [mulSz, Cont.len, bne]; first | done | omega)))); conv => whnf)
            | (refine tst_in ?_ ?_; (focus (intro h_; exfalso; first | omega | ((try simp only [decide_eq_true_eq, decide_eq_false_iff_not] at h_); omega) | (simp [mulSz, Cont.len, bne] at h_; first | done | omega))); intro _; conv => whnf)
            | (refine tst_in ?_ ?_; rotate_left; (focus (intro h_; exfalso; first | omega | ((try simp only [decide_eq_true_eq, decide_eq_false_iff_not] at h_); omega) | (simp [mulSz, Cont.len, bne] at h_; first | done | omega))); intro _; conv => whnf)
            | (refine ⟨0, (show _ = _ by omega), ?_⟩; conv => whnf))
          refine ⟨[0, 1, 2, 3], (⟨k + 1, Q2, pa R2 (ps (Q2 i) (sh i b)), tl2⟩ : DQ), ?_, hin3, (by show m - (k + 1) < m - k; omega)⟩
          show stLe _ _ (st46 A B n c j d s m (iv (b (j - 1))) (k + 1) (Q2) (pa R2 (ps (Q2 i) (sh i b))) (tl2)) _
          conv => whnf
          repeat' (first | exact True.intro | rfl | refine And.intro ?_ ?_)
          all_goals (conv => whnf)
          repeat' (first | exact True.intro | rfl | refine And.intro ?_ ?_)
          all_goals (try omega)
          rw [ct_eq hb.1]
    · have h : (m : Int) - 1 - (k : Int) < 0 := dle_f h'
      obtain ⟨g1, g2, g3, g4, g5⟩ := hx
      have hk : k = m := by have : k ≤ m := g1; omega
      subst hk
      have e1 : Zr R s := zr_mono g4 (Nat.sub_le _ _)
      have e2 : Zr R (t - 1) := zr_mono g4 (by show s - k ≤ t - 1; omega)
      have TQ := trim_f Q (tb (gi Q) k) k k (Rd_tb _ _) (Nat.le_refl _) (by omega)
      have TR := trim_f R (tb (gi R) s ++ tl) s (s + tl.length) (Rd_tl _ _ _) (by omega) (by omega)
      conv => whnf
      repeat (first
        | (refine And.intro ?_ ?_; (focus (first | omega | decide | exact EqOk.mk (by kernel_rfl) (by kernel_rfl) (by kernel_rfl) | exact Int.natCast_nonneg _ | ((repeat' refine And.intro ?_ ?_) <;> first | omega | exact Int.natCast_nonneg _ | (simp only [i64max, u8max, u16max, u32max, u64max]; omega) | (simp only [mulSz_eq, Cont.len, colsLen, Col.len, List.length_cons, List.length_nil, List.length_replicate, List.length_append]; first | done | omega) | (simp [mulSz, Cont.len, bne]; first | done | omega)))); conv => whnf)
        | (refine tst_in ?_ ?_; (focus (intro h_; exfalso; first | omega | ((try simp only [decide_eq_true_eq, decide_eq_false_iff_not] at h_); omega) | (simp [mulSz, Cont.len, bne] at h_; first | done | omega))); intro _; conv => whnf)
        | (refine tst_in ?_ ?_; rotate_left; (focus (intro h_; exfalso; first | omega | ((try simp only [decide_eq_true_eq, decide_eq_false_iff_not] at h_); omega) | (simp [mulSz, Cont.len, bne] at h_; first | done | omega))); intro _; conv => whnf)
        | (refine ⟨0, (show _ = _ by omega), ?_⟩; conv => whnf))
      refine ⟨_, [3], TQ, ?_⟩
      conv => whnf
      iterate 2
       refine And.intro ?_ ?_
       focus
        conv => whnf
        repeat' (first | exact True.intro | rfl | refine And.intro ?_ ?_ | omega)
        all_goals (conv => whnf)
        all_goals (try (first | rfl | omega | (simp; done)))
      conv => whnf
      refine ⟨?_, True.intro⟩
      intro _ _
      conv => whnf
      conv => whnf
      repeat (first
        | (refine And.intro ?_ ?_; (focus (first | omega | decide | exact EqOk.mk (by kernel_rfl) (by kernel_rfl) (by kernel_rfl) | exact Int.natCast_nonneg _ | ((repeat' refine And.intro ?_ ?_) <;> first | omega | exact Int.natCast_nonneg _ | (simp only [i64max, u8max, u16max, u32max, u64max]; omega) | (simp only [mulSz_eq, Cont.len, colsLen, Col.len, List.length_cons, List.length_nil, List.length_replicate, List.length_append]; first | done | omega) | (simp [mulSz, Cont.len, bne]; first | done | omega)))); conv => whnf)
        | (refine tst_in ?_ ?_; (focus (intro h_; exfalso; first | omega | ((try simp only [decide_eq_true_eq, decide_eq_false_iff_not] at h_); omega) | (simp [mulSz, Cont.len, bne] at h_; first | done | omega))); intro _; conv => whnf)
        | (refine tst_in ?_ ?_; rotate_left; (focus (intro h_; exfalso; first | omega | ((try simp only [decide_eq_true_eq, decide_eq_false_iff_not] at h_); omega) | (simp [mulSz, Cont.len, bne] at h_; first | done | omega))); intro _; conv => whnf)
        | (refine ⟨0, (show _ = _ by omega), ?_⟩; conv => whnf))
      refine ⟨_, [2], TR, ?_⟩
      conv => whnf
      iterate 2
       refine And.intro ?_ ?_
       focus
        conv => whnf
        repeat' (first | exact True.intro | rfl | refine And.intro ?_ ?_ | omega)
        all_goals (conv => whnf)
        all_goals (try (first | rfl | omega | (simp; done)))
      conv => whnf
      refine ⟨?_, True.intro⟩
      intro _ _
      conv => whnf
      conv => whnf
      repeat (first
        | (refine And.intro ?_ ?_; (focus (first | omega | decide | exact EqOk.mk (by kernel_rfl) (by kernel_rfl) (by kernel_rfl) | exact Int.natCast_nonneg _ | ((repeat' refine And.intro ?_ ?_) <;> first | omega | exact Int.natCast_nonneg _ | (simp only [i64max, u8max, u16max, u32max, u64max]; omega) | (simp only [mulSz_eq, Cont.len, colsLen, Col.len, List.length_cons, List.length_nil, List.length_replicate, List.length_append]; first | done | omega) | (simp [mulSz, Cont.len, bne]; first | done | omega)))); conv => whnf)
        | (refine tst_in ?_ ?_; (focus (intro h_; exfalso; first | omega | ((try simp only [decide_eq_true_eq, decide_eq_false_iff_not] at h_); omega) | (simp [mulSz, Cont.len, bne] at h_; first | done | omega))); intro _; conv => whnf)
        | (refine tst_in ?_ ?_; rotate_left; (focus (intro h_; exfalso; first | omega | ((try simp only [decide_eq_true_eq, decide_eq_false_iff_not] at h_); omega) | (simp [mulSz, Cont.len, bne] at h_; first | done | omega))); intro _; conv => whnf)
        | (refine ⟨0, (show _ = _ by omega), ?_⟩; conv => whnf))
      refine .inl ⟨⟨k, Q, R, tl⟩, [0, 1, 2, 3], ?_⟩
      conv => whnf
      repeat' (first | exact True.intro | rfl | refine And.intro ?_ ?_)
      all_goals (conv => whnf)
      repeat' (first | exact True.intro | rfl | refine And.intro ?_ ?_)
      all_goals (try omega)
      all_goals first | exact g2 | exact e2 | exact e1 | exact g5
end Go.Proofs.Yteiblfkegnppeaa

set_option linter.unusedVariables false
set_option linter.unusedSimpArgs false
namespace Go.Proofs.Yteiblfkegnppeaa
open Go Go.Fw
theorem tab_split {α : Type} (f : Nat → α) (l s : Nat) (h : l ≤ s) : tb f s = tb f l ++ (tb f s).drop l := by
  refine row_ext (f 0) ?_ ?_
  · rw [List.length_append, List.length_drop, tab_len, tab_len]; omega
  · intro i hi
    rw [tab_len] at hi
    rw [g_app, tab_len, g_drop]
    split
    · rename_i h2; rw [tab_get _ _ hi, tab_get _ _ h2]
    · rename_i h2; rw [show l + (i - l) = i by omega]
noncomputable def k26 : Code := (Try.f26.body).getD .skip
def dvG (n m t : Nat) : Bool := decide (n ≤ 512) && (decide (m ≤ 512) && decide (0 < t))
def dvN (n m t N : Nat) : Nat := if dvG n m t = true then N else 0
def dvE (n m t : Nat) : Int := if 512 < n ∨ 512 < m then 1 else if t = 0 then 6 else 0
noncomputable def divGOut (F H : Nat → G) (n m : Nat) : FOut := ⟨DQ, fun x => dvG n m (dg H m) = true → DivOk F H (dg F n) (dg H m) (dg F n + 1 - dg H m) x,
  fun x => .tup [.slice 3 0 (dg x.Q (dvN n m (dg H m) (dg F n + 1 - dg H m))) (dvN n m (dg H m) (dg F n + 1 - dg H m)), .slice 2 0 (dg x.R (dvN n m (dg H m) (dg F n))) (dvN n m (dg H m) (dg F n) + x.tl.length), .int .i64 (dvE n m (dg H m))],
  fun x => [.dead, .dead, .seg true (.ints .u8 (tb (gi x.R) (dvN n m (dg H m) (dg F n)) ++ x.tl)), .seg true (.ints .u8 (tb (gi x.Q) (dvN n m (dg H m) (dg F n + 1 - dg H m))))]⟩
set_option maxHeartbeats 0 in
set_option maxRecDepth 100000 in
theorem Divide_g (F H : Nat → G) (A B : List Int) (n c m d : Nat) (hA : Rd A F n) (hB : Rd B H m) (hc : n ≤ c) (hd : m ≤ d) (hn : n ≤ 9223372036854775807) (hm : m ≤ 9223372036854775807) :
    Fits Try.prog 26 ⟨[.slice 0 0 n c, .slice 1 0 m d], [.seg false (.ints .u8 A), .seg false (.ints .u8 B)], [divGOut F H n m]⟩ := by
  have TL := tooLong2 n c m d hn hm
  have TB := trim_f H B m d hB hd hm
  have ht0 := dg_le H m
  have htop := dg_top H m
  unfold divGOut
  refine fits_of_body (C := cfgk 2) (c := k26) (ts := [4, 5, 6]) tokL mixedL (fun _ => none) (fun _ => none)
    Try.func26 (by kernel_rfl) (by kernel_rfl) (by kernel_rfl) (by kernel_rfl) rfl ?_
  conv => whnf
  repeat (first
    | (refine And.intro ?_ ?_; (focus (first | omega | decide | exact EqOk.mk (by kernel_rfl) (by kernel_rfl) (by kernel_rfl) | exact Int.natCast_nonneg _ | ((repeat' refine And.intro ?_ ?_) <;> first | omega | exact Int.natCast_nonneg _ | (simp only [i64max, u8max, u16max, u32max, u64max]; omega) | (simp only [mulSz_eq, Cont.len, colsLen, Col.len, List.length_cons, List.length_nil, List.length_replicate, List.length_append]; first | done | omega) | (simp [mulSz, Cont.len, bne]; first | done | omega)))); conv => whnf)
    | (refine tst_in ?_ ?_; (focus (intro h_; exfalso; first | omega | ((try simp only [decide_eq_true_eq, decide_eq_false_iff_not] at h_); omega) | (simp [mulSz, Cont.len, bne] at h_; first | done | omega))); intro _; conv => whnf)
    | (refine tst_in ?_ ?_; rotate_left; (focus (intro h_; exfalso; first | omega | ((try simp only [decide_eq_true_eq, decide_eq_false_iff_not] at h_); omega) | (simp [mulSz, Cont.len, bne] at h_; first | done | omega))); intro _; conv => whnf)
    | (refine ⟨0, (show _ = _ by omega), ?_⟩; conv => whnf))
  refine ⟨_, [2, 0, 1], TL, ?_⟩
  conv => whnf
  iterate 2
   refine And.intro ?_ ?_
   focus
    conv => whnf
    repeat' (first | exact True.intro | rfl | refine And.intro ?_ ?_)
    all_goals (conv => whnf)
    repeat' (first | exact True.intro | rfl | refine And.intro ?_ ?_)
    all_goals (try (first | rfl | omega | (simp; first | done | omega)))
  conv => whnf
  by_cases hb : 512 < n ∨ 512 < m
  · have e : ∀ t, dvG n m t = false := fun t => by unfold dvG; simp; omega
    have e0 : ∀ t N, dvN n m t N = 0 := fun t N => by unfold dvN; rw [e, if_neg (by decide)]
    rw [decide_eq_true hb, show dvE n m (dg H m) = 1 from if_pos hb, e0, e0]
    conv => whnf
    repeat (first
      | (refine And.intro ?_ ?_; (focus (first | omega | decide | exact EqOk.mk (by kernel_rfl) (by kernel_rfl) (by kernel_rfl) | exact Int.natCast_nonneg _ | ((repeat' refine And.intro ?_ ?_) <;> first | omega | exact Int.natCast_nonneg _ | (simp only [i64max, u8max, u16max, u32max, u64max]; omega) | (simp only [mulSz_eq, Cont.len, colsLen, Col.len, List.length_cons, List.length_nil, List.length_replicate, List.length_append]; first | done | omega) | (simp [mulSz, Cont.len, bne]; first | done | omega)))); conv => whnf)
      | (refine tst_in ?_ ?_; (focus (intro h_; exfalso; first | omega | ((try simp only [decide_eq_true_eq, decide_eq_false_iff_not] at h_); omega) | (simp [mulSz, Cont.len, bne] at h_; first | done | omega))); intro _; conv => whnf)
      | (refine tst_in ?_ ?_; rotate_left; (focus (intro h_; exfalso; first | omega | ((try simp only [decide_eq_true_eq, decide_eq_false_iff_not] at h_); omega) | (simp [mulSz, Cont.len, bne] at h_; first | done | omega))); intro _; conv => whnf)
      | (refine ⟨0, (show _ = _ by omega), ?_⟩; conv => whnf))
    refine .inl ⟨⟨0, zf, zf, []⟩, [0, 1, 9, 10], ?_⟩
    conv => whnf
    repeat' (first | exact True.intro | rfl | refine And.intro ?_ ?_)
    all_goals (conv => whnf)
    repeat' (first | exact True.intro | rfl | refine And.intro ?_ ?_)
    all_goals (try omega)
    intro h; rw [e] at h; cases h
  · rw [decide_eq_false hb]
    have DF := divided_f F H A B n c (dg H m) d hA (Rd_le hB ht0) hc (by omega) (by omega) (by omega)
    unfold divOut at DF
    generalize dg H m = t at *
    conv => whnf
    repeat (first
      | (refine And.intro ?_ ?_; (focus (first | omega | decide | exact EqOk.mk (by kernel_rfl) (by kernel_rfl) (by kernel_rfl) | exact Int.natCast_nonneg _ | ((repeat' refine And.intro ?_ ?_) <;> first | omega | exact Int.natCast_nonneg _ | (simp only [i64max, u8max, u16max, u32max, u64max]; omega) | (simp only [mulSz_eq, Cont.len, colsLen, Col.len, List.length_cons, List.length_nil, List.length_replicate, List.length_append]; first | done | omega) | (simp [mulSz, Cont.len, bne]; first | done | omega)))); conv => whnf)
      | (refine tst_in ?_ ?_; (focus (intro h_; exfalso; first | omega | ((try simp only [decide_eq_true_eq, decide_eq_false_iff_not] at h_); omega) | (simp [mulSz, Cont.len, bne] at h_; first | done | omega))); intro _; conv => whnf)
      | (refine tst_in ?_ ?_; rotate_left; (focus (intro h_; exfalso; first | omega | ((try simp only [decide_eq_true_eq, decide_eq_false_iff_not] at h_); omega) | (simp [mulSz, Cont.len, bne] at h_; first | done | omega))); intro _; conv => whnf)
      | (refine ⟨0, (show _ = _ by omega), ?_⟩; conv => whnf))
    refine ⟨_, [1], TB, ?_⟩
    conv => whnf
    iterate 2
     refine And.intro ?_ ?_
     focus
      conv => whnf
      repeat' (first | exact True.intro | rfl | refine And.intro ?_ ?_ | omega)
      all_goals (conv => whnf)
      all_goals (try (first | rfl | omega | (simp; done)))
    conv => whnf
    refine ⟨?_, True.intro⟩
    intro _ _
    conv => whnf
    conv => whnf
    repeat (first
      | (refine And.intro ?_ ?_; (focus (first | omega | decide | exact EqOk.mk (by kernel_rfl) (by kernel_rfl) (by kernel_rfl) | exact Int.natCast_nonneg _ | ((repeat' refine And.intro ?_ ?_) <;> first | omega | exact Int.natCast_nonneg _ | (simp only [i64max, u8max, u16max, u32max, u64max]; omega) | (simp only [mulSz_eq, Cont.len, colsLen, Col.len, List.length_cons, List.length_nil, List.length_replicate, List.length_append]; first | done | omega) | (simp [mulSz, Cont.len, bne]; first | done | omega)))); conv => whnf)
      | (refine tst_in ?_ ?_; (focus (intro h_; exfalso; first | omega | ((try simp only [decide_eq_true_eq, decide_eq_false_iff_not] at h_); omega) | (simp [mulSz, Cont.len, bne] at h_; first | done | omega))); intro _; conv => whnf)
      | (refine tst_in ?_ ?_; rotate_left; (focus (intro h_; exfalso; first | omega | ((try simp only [decide_eq_true_eq, decide_eq_false_iff_not] at h_); omega) | (simp [mulSz, Cont.len, bne] at h_; first | done | omega))); intro _; conv => whnf)
      | (refine ⟨0, (show _ = _ by omega), ?_⟩; conv => whnf))
    refine tst_in (fun h => ?_) (fun h' => ?_)
    · have h : t = 0 := by simp at h; omega
      subst h
      have e : dvG n m 0 = false := by unfold dvG; simp
      have e0 : ∀ N, dvN n m 0 N = 0 := fun N => by unfold dvN; rw [e, if_neg (by decide)]
      rw [show dvE n m 0 = 6 from (if_neg hb).trans (if_pos rfl), e0, e0]
      conv => whnf
      repeat (first
        | (refine And.intro ?_ ?_; (focus (first | omega | decide | exact EqOk.mk (by kernel_rfl) (by kernel_rfl) (by kernel_rfl) | exact Int.natCast_nonneg _ | ((repeat' refine And.intro ?_ ?_) <;> first | omega | exact Int.natCast_nonneg _ | (simp only [i64max, u8max, u16max, u32max, u64max]; omega) | (simp only [mulSz_eq, Cont.len, colsLen, Col.len, List.length_cons, List.length_nil, List.length_replicate, List.length_append]; first | done | omega) | (simp [mulSz, Cont.len, bne]; first | done | omega)))); conv => whnf)
        | (refine tst_in ?_ ?_; (focus (intro h_; exfalso; first | omega | ((try simp only [decide_eq_true_eq, decide_eq_false_iff_not] at h_); omega) | (simp [mulSz, Cont.len, bne] at h_; first | done | omega))); intro _; conv => whnf)
        | (refine tst_in ?_ ?_; rotate_left; (focus (intro h_; exfalso; first | omega | ((try simp only [decide_eq_true_eq, decide_eq_false_iff_not] at h_); omega) | (simp [mulSz, Cont.len, bne] at h_; first | done | omega))); intro _; conv => whnf)
        | (refine ⟨0, (show _ = _ by omega), ?_⟩; conv => whnf))
      refine .inl ⟨⟨0, zf, zf, []⟩, [0, 1, 9, 10], ?_⟩
      conv => whnf
      repeat' (first | exact True.intro | rfl | refine And.intro ?_ ?_)
      all_goals (conv => whnf)
      repeat' (first | exact True.intro | rfl | refine And.intro ?_ ?_)
      all_goals (try omega)
      intro h; rw [e] at h; cases h
    · have h : t ≠ 0 := by simp at h'; omega
      have DF := DF (by omega) (htop (by omega))
      have e : dvG n m t = true := by unfold dvG; simp; omega
      have e0 : ∀ N, dvN n m t N = N := fun N => if_pos e
      rw [show dvE n m t = 0 from (if_neg hb).trans (if_neg h), e0, e0]
      conv => whnf
      repeat (first
        | (refine And.intro ?_ ?_; (focus (first | omega | decide | exact EqOk.mk (by kernel_rfl) (by kernel_rfl) (by kernel_rfl) | exact Int.natCast_nonneg _ | ((repeat' refine And.intro ?_ ?_) <;> first | omega | exact Int.natCast_nonneg _ | (simp only [i64max, u8max, u16max, u32max, u64max]; omega) | (simp only [mulSz_eq, Cont.len, colsLen, Col.len, List.length_cons, List.length_nil, List.length_replicate, List.length_append]; first | done | omega) | (simp [mulSz, Cont.len, bne]; first | done | omega)))); conv => whnf)
        | (refine tst_in ?_ ?_; (focus (intro h_; exfalso; first | omega | ((try simp only [decide_eq_true_eq, decide_eq_false_iff_not] at h_); omega) | (simp [mulSz, Cont.len, bne] at h_; first | done | omega))); intro _; conv => whnf)
        | (refine tst_in ?_ ?_; rotate_left; (focus (intro h_; exfalso; first | omega | ((try simp only [decide_eq_true_eq, decide_eq_false_iff_not] at h_); omega) | (simp [mulSz, Cont.len, bne] at h_; first | done | omega))); intro _; conv => whnf)
        | (refine ⟨0, (show _ = _ by omega), ?_⟩; conv => whnf))
      refine ⟨_, [0, 1], DF, ?_⟩
      conv => whnf
      iterate 2
       refine And.intro ?_ ?_
       focus
        conv => whnf
        repeat' (first | exact True.intro | rfl | refine And.intro ?_ ?_)
        all_goals (conv => whnf)
        repeat' (first | exact True.intro | rfl | refine And.intro ?_ ?_)
        all_goals (try (first | rfl | omega | (simp; first | done | omega)))
      conv => whnf
      refine ⟨?_, True.intro⟩
      rintro (x hx)
      conv => whnf
      conv => whnf
      repeat (first
        | (refine And.intro ?_ ?_; (focus (first | omega | decide | exact EqOk.mk (by kernel_rfl) (by kernel_rfl) (by kernel_rfl) | exact Int.natCast_nonneg _ | ((repeat' refine And.intro ?_ ?_) <;> first | omega | exact Int.natCast_nonneg _ | (simp only [i64max, u8max, u16max, u32max, u64max]; omega) | (simp only [mulSz_eq, Cont.len, colsLen, Col.len, List.length_cons, List.length_nil, List.length_replicate, List.length_append]; first | done | omega) | (simp [mulSz, Cont.len, bne]; first | done | omega)))); conv => whnf)
        | (refine tst_in ?_ ?_; (focus (intro h_; exfalso; first | omega | ((try simp only [decide_eq_true_eq, decide_eq_false_iff_not] at h_); omega) | (simp [mulSz, Cont.len, bne] at h_; first | done | omega))); intro _; conv => whnf)
        | (refine tst_in ?_ ?_; rotate_left; (focus (intro h_; exfalso; first | omega | ((try simp only [decide_eq_true_eq, decide_eq_false_iff_not] at h_); omega) | (simp [mulSz, Cont.len, bne] at h_; first | done | omega))); intro _; conv => whnf)
        | (refine ⟨0, (show _ = _ by omega), ?_⟩; conv => whnf))
      refine .inl ⟨x, [0, 1, 3, 4], ?_⟩
      conv => whnf
      repeat' (first | exact True.intro | rfl | refine And.intro ?_ ?_)
      all_goals (conv => whnf)
      repeat' (first | exact True.intro | rfl | refine And.intro ?_ ?_)
      all_goals (try omega)
      exact fun _ => hx
theorem Rd_zero (A : List Int) (F : Nat → G) : Rd A F 0 := ⟨Nat.zero_le _, fun i hi => absurd hi (by omega)⟩
theorem sumS_0 (F H : Nat → G) (n : Nat) : sumS F H n 0 = ct F n := by
  unfold sumS; rw [show ct H 0 = zf from funext fun i => if_neg (by omega), pa_zf]
theorem dg_ct (F : Nat → G) (n : Nat) : dg (ct F n) n = dg F n := dg_congr n fun i hi => ct_lt F hi
theorem Dv_psl {d p : Nat → G} {c : G} (hc : c ≠ g0) (h : Dv d p) : Dv (ps c d) p := by
  obtain ⟨q, n, hq, rfl⟩ := h
  refine ⟨ps (iv c) q, n, zr_ps _ hq, ?_⟩
  rw [ac_ps_l, ac_ps_r, ps_ps, m_comm, m_iv hc, ps_1]
noncomputable def k28 : Code := (Try.f28.body).getD .skip
structure GQ where
  A : Nat → G
  B : Nat → G
  la : Nat
  lb : Nat
  ta : List Int
  tb : List Int
def Same2 (p q a b : Nat → G) : Prop := ∀ d, (Dv d a ∧ Dv d b) ↔ (Dv d p ∧ Dv d q)
def GOk (p q : Nat → G) (x : GQ) : Prop := Pol x.A x.la ∧ Pol x.B x.lb ∧ x.la ≤ 512 ∧ x.lb ≤ 512 ∧ Same2 p q x.A x.B
structure GR where
  A : Nat → G
  l : Nat
  tl : List Int
/-- The greatest divisor, led by 1. -/
structure GcdOk (p q : Nat → G) (A : Nat → G) (l : Nat) : Prop where
  pol : Pol A l
  le : l ≤ 512
  one : 0 < l → A (l - 1) = g1
  d1 : Dv A p
  d2 : Dv A q
  great : ∀ d, Dv d p → Dv d q → Dv d A
noncomputable def st28 (F H : Nat → G) (A B : List Int) (n c m d : Nat) (P Q : Nat → G) (la lb : Nat) (ta tc : List Int) : St := ⟨slotsAt 43 [(0, .slice 0 0 n c), (1, .slice 1 0 m d), (6, .slice 2 0 la (la + ta.length)), (7, .slice 3 0 lb (lb + tc.length))],
  [.seg false (.ints .u8 A), .seg false (.ints .u8 B), .seg true (.ints .u8 (tb (gi P) la ++ ta)), .seg true (.ints .u8 (tb (gi Q) lb ++ tc))]⟩
noncomputable def gcdOut (p q : Nat → G) : FOut := ⟨GR, fun x => GcdOk p q x.A x.l, fun x => .tup [.slice 2 0 x.l (x.l + x.tl.length), .int .i64 0], fun x => [.dead, .dead, .seg true (.ints .u8 (tb (gi x.A) x.l ++ x.tl))]⟩
theorem dv_tail (F : Nat → G) (n N : Nat) (h : Zr F n) (tl : List Int) (hn : n ≤ N) : tb (gi F) N ++ tl = tb (gi F) n ++ ((tb (gi F) N).drop n ++ tl) := by
  rw [← List.append_assoc, ← tab_split (gi F) n N hn]
theorem dv_tail_len (F : Nat → G) (n N : Nat) (tl : List Int) (hn : n ≤ N) : n + ((tb (gi F) N).drop n ++ tl).length = N + tl.length := by
  rw [List.length_append, List.length_drop, tab_len]; omega
set_option maxHeartbeats 0 in
set_option maxRecDepth 100000 in
theorem Gcd_y (F H : Nat → G) (A B : List Int) (n c m d : Nat) (hA : Rd A F n) (hB : Rd B H m) (hc : n ≤ c) (hd : m ≤ d) (hn : n ≤ 512) (hm : m ≤ 512) :
    Fits Try.prog 28 ⟨[.slice 0 0 n c, .slice 1 0 m d], [.seg false (.ints .u8 A), .seg false (.ints .u8 B)], [gcdOut (ct F n) (ct H m)]⟩ := by
  have TL := tooLong2 n c m d (by omega) (by omega)
  rw [decide_eq_false (by omega : ¬ (512 < n ∨ 512 < m))] at TL
  have SA := sum_f F zf A A n c 0 0 hA (Rd_zero _ _) hc (Nat.le_refl _) hn (by omega)
  have SB := sum_f H zf B B m d 0 0 hB (Rd_zero _ _) hd (Nat.le_refl _) hm (by omega)
  rw [sumS_0, show max n 0 = n by omega, dg_ct] at SA
  rw [sumS_0, show max m 0 = m by omega, dg_ct] at SB
  have hpA := pol_dg F n
  have hpB := pol_dg H m
  have hA0 := dg_le F n
  have hB0 := dg_le H m
  refine fits_of_body (C := cfgk 2) (c := k28) (ts := [4, 5]) tokL mixedL (fun | 4 => some ⟨GQ, fun x => st28 F H A B n c m d x.A x.B x.la x.lb x.ta x.tb, GOk (ct F n) (ct H m), fun x => x.lb⟩ | _ => none) (fun _ => none)
    Try.func28 (by kernel_rfl) (by kernel_rfl) (by kernel_rfl) (by kernel_rfl) rfl ?_
  unfold gcdOut
  generalize ct F n = p at *
  generalize ct H m = q at *
  generalize dg F n = s at *
  generalize dg H m = t at *
  conv => whnf
  repeat (first
    | (refine And.intro ?_ ?_; (focus (first | omega | decide | exact EqOk.mk (by kernel_rfl) (by kernel_rfl) (by kernel_rfl) | exact Int.natCast_nonneg _ | ((repeat' refine And.intro ?_ ?_) <;> first | omega | exact Int.natCast_nonneg _ | (simp only [i64max, u8max, u16max, u32max, u64max]; omega) | (simp only [mulSz_eq, Cont.len, colsLen, Col.len, List.length_cons, List.length_nil, List.length_replicate, List.length_append]; first | done | omega) | (simp [mulSz, Cont.len, bne]; first | done | omega)))); conv => whnf)
    | (refine tst_in ?_ ?_; (focus (intro h_; exfalso; first | omega | ((try simp only [decide_eq_true_eq, decide_eq_false_iff_not] at h_); omega) | (simp [mulSz, Cont.len, bne] at h_; first | done | omega))); intro _; conv => whnf)
    | (refine tst_in ?_ ?_; rotate_left; (focus (intro h_; exfalso; first | omega | ((try simp only [decide_eq_true_eq, decide_eq_false_iff_not] at h_); omega) | (simp [mulSz, Cont.len, bne] at h_; first | done | omega))); intro _; conv => whnf)
    | (refine ⟨0, (show _ = _ by omega), ?_⟩; conv => whnf))
  refine ⟨_, [2, 0, 1], TL, ?_⟩
  conv => whnf
  iterate 2
   refine And.intro ?_ ?_
   focus
    conv => whnf
    repeat' (first | exact True.intro | rfl | refine And.intro ?_ ?_)
    all_goals (conv => whnf)
    repeat' (first | exact True.intro | rfl | refine And.intro ?_ ?_)
    all_goals (try (first | rfl | omega | (simp; first | done | omega)))
  conv => whnf
  conv => whnf
  repeat (first
    | (refine And.intro ?_ ?_; (focus (first | omega | decide | exact EqOk.mk (by kernel_rfl) (by kernel_rfl) (by kernel_rfl) | exact Int.natCast_nonneg _ | ((repeat' refine And.intro ?_ ?_) <;> first | omega | exact Int.natCast_nonneg _ | (simp only [i64max, u8max, u16max, u32max, u64max]; omega) | (simp only [mulSz_eq, Cont.len, colsLen, Col.len, List.length_cons, List.length_nil, List.length_replicate, List.length_append]; first | done | omega) | (simp [mulSz, Cont.len, bne]; first | done | omega)))); conv => whnf)
    | (refine tst_in ?_ ?_; (focus (intro h_; exfalso; first | omega | ((try simp only [decide_eq_true_eq, decide_eq_false_iff_not] at h_); omega) | (simp [mulSz, Cont.len, bne] at h_; first | done | omega))); intro _; conv => whnf)
    | (refine tst_in ?_ ?_; rotate_left; (focus (intro h_; exfalso; first | omega | ((try simp only [decide_eq_true_eq, decide_eq_false_iff_not] at h_); omega) | (simp [mulSz, Cont.len, bne] at h_; first | done | omega))); intro _; conv => whnf)
    | (refine ⟨0, (show _ = _ by omega), ?_⟩; conv => whnf))
  refine ⟨_, [0, 0], SA, ?_⟩
  conv => whnf
  iterate 2
   refine And.intro ?_ ?_
   focus
    conv => whnf
    repeat' (first | exact True.intro | rfl | refine And.intro ?_ ?_ | omega)
    all_goals (conv => whnf)
    all_goals (try (first | rfl | omega | (simp; done)))
  conv => whnf
  refine ⟨?_, True.intro⟩
  intro _ _
  conv => whnf
  conv => whnf
  repeat (first
    | (refine And.intro ?_ ?_; (focus (first | omega | decide | exact EqOk.mk (by kernel_rfl) (by kernel_rfl) (by kernel_rfl) | exact Int.natCast_nonneg _ | ((repeat' refine And.intro ?_ ?_) <;> first | omega | exact Int.natCast_nonneg _ | (simp only [i64max, u8max, u16max, u32max, u64max]; omega) | (simp only [mulSz_eq, Cont.len, colsLen, Col.len, List.length_cons, List.length_nil, List.length_replicate, List.length_append]; first | done | omega) | (simp [mulSz, Cont.len, bne]; first | done | omega)))); conv => whnf)
    | (refine tst_in ?_ ?_; (focus (intro h_; exfalso; first | omega | ((try simp only [decide_eq_true_eq, decide_eq_false_iff_not] at h_); omega) | (simp [mulSz, Cont.len, bne] at h_; first | done | omega))); intro _; conv => whnf)
    | (refine tst_in ?_ ?_; rotate_left; (focus (intro h_; exfalso; first | omega | ((try simp only [decide_eq_true_eq, decide_eq_false_iff_not] at h_); omega) | (simp [mulSz, Cont.len, bne] at h_; first | done | omega))); intro _; conv => whnf)
    | (refine ⟨0, (show _ = _ by omega), ?_⟩; conv => whnf))
  refine ⟨_, [1, 1], SB, ?_⟩
  conv => whnf
  iterate 2
   refine And.intro ?_ ?_
   focus
    conv => whnf
    repeat' (first | exact True.intro | rfl | refine And.intro ?_ ?_ | omega)
    all_goals (conv => whnf)
    all_goals (try (first | rfl | omega | (simp; done)))
  conv => whnf
  refine ⟨?_, True.intro⟩
  intro _ _
  conv => whnf
  conv => whnf
  repeat (first
    | (refine And.intro ?_ ?_; (focus (first | omega | decide | exact EqOk.mk (by kernel_rfl) (by kernel_rfl) (by kernel_rfl) | exact Int.natCast_nonneg _ | ((repeat' refine And.intro ?_ ?_) <;> first | omega | exact Int.natCast_nonneg _ | (simp only [i64max, u8max, u16max, u32max, u64max]; omega) | (simp only [mulSz_eq, Cont.len, colsLen, Col.len, List.length_cons, List.length_nil, List.length_replicate, List.length_append]; first | done | omega) | (simp [mulSz, Cont.len, bne]; first | done | omega)))); conv => whnf)
    | (refine tst_in ?_ ?_; (focus (intro h_; exfalso; first | omega | ((try simp only [decide_eq_true_eq, decide_eq_false_iff_not] at h_); omega) | (simp [mulSz, Cont.len, bne] at h_; first | done | omega))); intro _; conv => whnf)
    | (refine tst_in ?_ ?_; rotate_left; (focus (intro h_; exfalso; first | omega | ((try simp only [decide_eq_true_eq, decide_eq_false_iff_not] at h_); omega) | (simp [mulSz, Cont.len, bne] at h_; first | done | omega))); intro _; conv => whnf)
    | (refine ⟨0, (show _ = _ by omega), ?_⟩; conv => whnf))
  refine ⟨⟨[0, 1, 3, 4], (⟨p, q, s, t, (tb (gi p) n).drop s, (tb (gi q) m).drop t⟩ : GQ), ?_, ⟨hpA, hpB, by show s ≤ 512; omega, by show t ≤ 512; omega, fun _ => Iff.rfl⟩⟩, ?_⟩
  · show stLe _ _ (st28 F H A B n c m d p q s t ((tb (gi p) n).drop s) ((tb (gi q) m).drop t)) _
    have e1 : s + ((tb (gi p) n).drop s).length = n := by rw [List.length_drop, tab_len]; omega
    have e2 : t + ((tb (gi q) m).drop t).length = m := by rw [List.length_drop, tab_len]; omega
    unfold st28
    rw [e1, e2, ← tab_split _ s n hA0, ← tab_split _ t m hB0]
    conv => whnf
    repeat' (first | exact True.intro | rfl | refine And.intro ?_ ?_)
    all_goals (conv => whnf)
    repeat' (first | exact True.intro | rfl | refine And.intro ?_ ?_)
    all_goals (try omega)
  · intro ⟨P, Q, la, lb, ta, tc⟩ hx
    obtain ⟨hP, hQ, hla, hlb, hS⟩ := hx
    have hP : Pol P la := hP
    have hQ : Pol Q lb := hQ
    have hla : la ≤ 512 := hla
    have hlb : lb ≤ 512 := hlb
    have hS : Same2 p q P Q := hS
    show forceSt (st28 F H A B n c m d P Q la lb ta tc) _
    conv => whnf
    repeat (first
      | (refine And.intro ?_ ?_; (focus (first | omega | decide | exact EqOk.mk (by kernel_rfl) (by kernel_rfl) (by kernel_rfl) | exact Int.natCast_nonneg _ | ((repeat' refine And.intro ?_ ?_) <;> first | omega | exact Int.natCast_nonneg _ | (simp only [i64max, u8max, u16max, u32max, u64max]; omega) | (simp only [mulSz_eq, Cont.len, colsLen, Col.len, List.length_cons, List.length_nil, List.length_replicate, List.length_append]; first | done | omega) | (simp [mulSz, Cont.len, bne]; first | done | omega)))); conv => whnf)
      | (refine tst_in ?_ ?_; (focus (intro h_; exfalso; first | omega | ((try simp only [decide_eq_true_eq, decide_eq_false_iff_not] at h_); omega) | (simp [mulSz, Cont.len, bne] at h_; first | done | omega))); intro _; conv => whnf)
      | (refine tst_in ?_ ?_; rotate_left; (focus (intro h_; exfalso; first | omega | ((try simp only [decide_eq_true_eq, decide_eq_false_iff_not] at h_); omega) | (simp [mulSz, Cont.len, bne] at h_; first | done | omega))); intro _; conv => whnf)
      | (refine ⟨0, (show _ = _ by omega), ?_⟩; conv => whnf))
    refine tst_in (fun h => ?_) (fun h' => ?_)
    · have h : 0 < lb := by have := dlt_t h; omega
      have DF := divided_f P Q (tb (gi P) la ++ ta) (tb (gi Q) lb ++ tc) la (la + ta.length) lb (lb + tc.length) (Rd_tl _ _ _) (Rd_tl _ _ _) (by omega) (by omega) (by omega) (by omega) h (hQ.2 h)
      have e0 : dg P la = la := dg_pol hP (Nat.le_refl _)
      unfold divOut DivOk at DF
      rw [e0, ct_eq hP.1, ct_eq hQ.1] at DF
      conv => whnf
      repeat (first
        | (refine And.intro ?_ ?_; (focus (first | omega | decide | exact EqOk.mk (by kernel_rfl) (by kernel_rfl) (by kernel_rfl) | exact Int.natCast_nonneg _ | ((repeat' refine And.intro ?_ ?_) <;> first | omega | exact Int.natCast_nonneg _ | (simp only [i64max, u8max, u16max, u32max, u64max]; omega) | (simp only [mulSz_eq, Cont.len, colsLen, Col.len, List.length_cons, List.length_nil, List.length_replicate, List.length_append]; first | done | omega) | (simp [mulSz, Cont.len, bne]; first | done | omega)))); conv => whnf)
        | (refine tst_in ?_ ?_; (focus (intro h_; exfalso; first | omega | ((try simp only [decide_eq_true_eq, decide_eq_false_iff_not] at h_); omega) | (simp [mulSz, Cont.len, bne] at h_; first | done | omega))); intro _; conv => whnf)
        | (refine tst_in ?_ ?_; rotate_left; (focus (intro h_; exfalso; first | omega | ((try simp only [decide_eq_true_eq, decide_eq_false_iff_not] at h_); omega) | (simp [mulSz, Cont.len, bne] at h_; first | done | omega))); intro _; conv => whnf)
        | (refine ⟨0, (show _ = _ by omega), ?_⟩; conv => whnf))
      refine ⟨_, [2, 3], DF, ?_⟩
      conv => whnf
      iterate 2
       refine And.intro ?_ ?_
       focus
        conv => whnf
        repeat' (first | exact True.intro | rfl | refine And.intro ?_ ?_)
        all_goals (conv => whnf)
        repeat' (first | exact True.intro | rfl | refine And.intro ?_ ?_)
        all_goals (try (first | rfl | omega | (simp; first | done | omega)))
      conv => whnf
      refine ⟨?_, True.intro⟩
      rintro (x hx)
      conv => whnf
      obtain ⟨k, Q2, R2, tl2⟩ := x
      obtain ⟨g1, g2, g3, g4⟩ := hx
      have g1 : Zr Q2 (la + 1 - lb) := g1
      have g2 : Zr R2 (lb - 1) := g2
      have g3 : Zr R2 la := g3
      have g4 : P = pa (ac Q2 Q (la + 1 - lb)) R2 := g4
      have hR := pol_dg R2 la
      rw [ct_eq g3] at hR
      have hd1 := dg_le R2 la
      have hd2 : dg R2 la ≤ lb - 1 := by
        have := pol_dg R2 (lb - 1)
        rw [ct_eq g2] at this
        have h3 := pol_uniq hR this
        have := dg_le R2 (lb - 1)
        omega
      generalize hr : dg R2 la = r at *
      conv => whnf
      repeat (first
        | (refine And.intro ?_ ?_; (focus (first | omega | decide | exact EqOk.mk (by kernel_rfl) (by kernel_rfl) (by kernel_rfl) | exact Int.natCast_nonneg _ | ((repeat' refine And.intro ?_ ?_) <;> first | omega | exact Int.natCast_nonneg _ | (simp only [i64max, u8max, u16max, u32max, u64max]; omega) | (simp only [mulSz_eq, Cont.len, colsLen, Col.len, List.length_cons, List.length_nil, List.length_replicate, List.length_append]; first | done | omega) | (simp [mulSz, Cont.len, bne]; first | done | omega)))); conv => whnf)
        | (refine tst_in ?_ ?_; (focus (intro h_; exfalso; first | omega | ((try simp only [decide_eq_true_eq, decide_eq_false_iff_not] at h_); omega) | (simp [mulSz, Cont.len, bne] at h_; first | done | omega))); intro _; conv => whnf)
        | (refine tst_in ?_ ?_; rotate_left; (focus (intro h_; exfalso; first | omega | ((try simp only [decide_eq_true_eq, decide_eq_false_iff_not] at h_); omega) | (simp [mulSz, Cont.len, bne] at h_; first | done | omega))); intro _; conv => whnf)
        | (refine ⟨0, (show _ = _ by omega), ?_⟩; conv => whnf))
      refine ⟨[0, 1, 3, 4], (⟨Q, R2, lb, r, tc, (tb (gi R2) la).drop r ++ tl2⟩ : GQ), ?_, ⟨hQ, hR, hlb, by show r ≤ 512; omega, fun d => (Dv_rest g1 g4).symm.trans (hS d)⟩, by show r < lb; omega⟩
      show stLe _ _ (st28 F H A B n c m d Q R2 lb r tc ((tb (gi R2) la).drop r ++ tl2)) _
      unfold st28
      rw [← dv_tail R2 r la hR.1 tl2 hd1, dv_tail_len R2 r la tl2 hd1]
      conv => whnf
      repeat' (first | exact True.intro | rfl | refine And.intro ?_ ?_)
      all_goals (conv => whnf)
      repeat' (first | exact True.intro | rfl | refine And.intro ?_ ?_)
      all_goals (try omega)
    · have h : lb = 0 := by have := dlt_f h'; omega
      subst h
      have hQ0 := zr_all hQ.1
      subst hQ0
      have hd1 := (hS P).1 ⟨Dv_refl P, Dv_zf P⟩
      have hd2 : ∀ d, Dv d p → Dv d q → Dv d P := fun d h1 h2 => ((hS d).2 ⟨h1, h2⟩).1
      conv => whnf
      repeat (first
        | (refine And.intro ?_ ?_; (focus (first | omega | decide | exact EqOk.mk (by kernel_rfl) (by kernel_rfl) (by kernel_rfl) | exact Int.natCast_nonneg _ | ((repeat' refine And.intro ?_ ?_) <;> first | omega | exact Int.natCast_nonneg _ | (simp only [i64max, u8max, u16max, u32max, u64max]; omega) | (simp only [mulSz_eq, Cont.len, colsLen, Col.len, List.length_cons, List.length_nil, List.length_replicate, List.length_append]; first | done | omega) | (simp [mulSz, Cont.len, bne]; first | done | omega)))); conv => whnf)
        | (refine tst_in ?_ ?_; (focus (intro h_; exfalso; first | omega | ((try simp only [decide_eq_true_eq, decide_eq_false_iff_not] at h_); omega) | (simp [mulSz, Cont.len, bne] at h_; first | done | omega))); intro _; conv => whnf)
        | (refine tst_in ?_ ?_; rotate_left; (focus (intro h_; exfalso; first | omega | ((try simp only [decide_eq_true_eq, decide_eq_false_iff_not] at h_); omega) | (simp [mulSz, Cont.len, bne] at h_; first | done | omega))); intro _; conv => whnf)
        | (refine ⟨0, (show _ = _ by omega), ?_⟩; conv => whnf))
      refine tst_in (fun u => ?_) (fun u' => ?_)
      · have u : 0 < la := by have := dlt_t u; omega
        have hrd : (tb (gi P) la ++ ta).getD (la - 1) 0 = gi P (la - 1) := tab_app _ _ _ (by omega)
        have PW := power_g (P (la - 1))
        conv => whnf
        repeat (first
          | (refine And.intro ?_ ?_; (focus (first | omega | decide | exact EqOk.mk (by kernel_rfl) (by kernel_rfl) (by kernel_rfl) | exact Int.natCast_nonneg _ | ((repeat' refine And.intro ?_ ?_) <;> first | omega | exact Int.natCast_nonneg _ | (simp only [i64max, u8max, u16max, u32max, u64max]; omega) | (simp only [mulSz_eq, Cont.len, colsLen, Col.len, List.length_cons, List.length_nil, List.length_replicate, List.length_append, tab_len]; first | done | omega) | (simp [mulSz, Cont.len, bne, tab_len]; first | done | omega)))); conv => whnf)
          | (refine tst_in ?_ ?_; (focus (intro h_; exfalso; first | omega | ((try simp only [decide_eq_true_eq, decide_eq_false_iff_not] at h_); omega) | (simp [mulSz, Cont.len, bne, tab_len] at h_; first | done | omega))); intro _; conv => whnf)
          | (refine tst_in ?_ ?_; rotate_left; (focus (intro h_; exfalso; first | omega | ((try simp only [decide_eq_true_eq, decide_eq_false_iff_not] at h_); omega) | (simp [mulSz, Cont.len, bne, tab_len] at h_; first | done | omega))); intro _; conv => whnf)
          | (refine ⟨0, (show _ = _ by omega), ?_⟩; conv => whnf))
        rw [show (0 + ((la : Nat) - 1 : Int).toNat) = la - 1 by omega, hrd]
        refine ⟨_, [], PW, ?_⟩
        conv => whnf
        iterate 2
         refine And.intro ?_ ?_
         focus
          conv => whnf
          repeat' (first | exact True.intro | rfl | refine And.intro ?_ ?_ | omega)
          all_goals (conv => whnf)
          all_goals (try (first | rfl | omega | (simp; done)))
        conv => whnf
        generalize hcc : iv (P (la - 1)) = cc
        have hne : P (la - 1) ≠ g0 := hP.2 u
        have hmi : cc * P (la - 1) = g1 := by rw [m_comm, ← hcc]; exact m_iv hne
        have hcz : cc ≠ g0 := fun z => by rw [z, z_mul] at hmi; exact g1_nz hmi.symm
        have hK : Rd [((cc.v : Nat) : Int)] (fun i => if i = 0 then cc else g0) 1 := ⟨Nat.le_refl _, fun i hi => by
          have : i = 0 := by omega
          subst this; rfl⟩
        have PR := product_f P (fun i => if i = 0 then cc else g0) (tb (gi P) la ++ ta) [((cc.v : Nat) : Int)] la (la + ta.length) 1 1 (Rd_tl _ _ _) hK (by omega) (Nat.le_refl _) (by omega) (by omega)
        have ek : ct (fun i => if i = 0 then cc else g0) 1 = (fun i => if i = 0 then cc else g0) := ct_eq fun i hi => if_neg (by omega)
        have e1 : dg (fun i => if i = 0 then cc else g0) 1 = 1 := by
          show (if (if (0 : Nat) = 0 then cc else g0).v = 0 then 0 else 1) = 1
          rw [if_pos rfl, if_neg (fun z : cc.v = 0 => hcz (G.ext z))]
        have e2 : prodP P (fun i => if i = 0 then cc else g0) la 1 = ps cc P := by
          unfold prodP
          rw [ek, ct_eq hP.1, ac_comm hP.1 (show Zr (fun i => if i = 0 then cc else g0) 1 from fun i hi => if_neg (by omega)), ac_one_l P cc 0]
        have e3 : dg P la = la := dg_pol hP (Nat.le_refl _)
        rw [e1, e2, e3, show plen la 1 = la from if_neg (by omega)] at PR
        conv => whnf
        repeat (first
          | (refine And.intro ?_ ?_; (focus (first | omega | decide | exact EqOk.mk (by kernel_rfl) (by kernel_rfl) (by kernel_rfl) | exact Int.natCast_nonneg _ | ((repeat' refine And.intro ?_ ?_) <;> first | omega | exact Int.natCast_nonneg _ | (simp only [i64max, u8max, u16max, u32max, u64max]; omega) | (simp only [mulSz_eq, Cont.len, colsLen, Col.len, List.length_cons, List.length_nil, List.length_replicate, List.length_append]; first | done | omega) | (simp [mulSz, Cont.len, bne]; first | done | omega)))); conv => whnf)
          | (refine tst_in ?_ ?_; (focus (intro h_; exfalso; first | omega | ((try simp only [decide_eq_true_eq, decide_eq_false_iff_not] at h_); omega) | (simp [mulSz, Cont.len, bne] at h_; first | done | omega))); intro _; conv => whnf)
          | (refine tst_in ?_ ?_; rotate_left; (focus (intro h_; exfalso; first | omega | ((try simp only [decide_eq_true_eq, decide_eq_false_iff_not] at h_); omega) | (simp [mulSz, Cont.len, bne] at h_; first | done | omega))); intro _; conv => whnf)
          | (refine ⟨0, (show _ = _ by omega), ?_⟩; conv => whnf))
        refine ⟨_, [2, 4], PR, ?_⟩
        conv => whnf
        iterate 2
         refine And.intro ?_ ?_
         focus
          conv => whnf
          repeat' (first | exact True.intro | rfl | refine And.intro ?_ ?_ | omega)
          all_goals (conv => whnf)
          all_goals (try (first | rfl | omega | (simp; done)))
        conv => whnf
        refine ⟨?_, True.intro⟩
        intro _ _
        conv => whnf
        conv => whnf
        repeat (first
          | (refine And.intro ?_ ?_; (focus (first | omega | decide | exact EqOk.mk (by kernel_rfl) (by kernel_rfl) (by kernel_rfl) | exact Int.natCast_nonneg _ | ((repeat' refine And.intro ?_ ?_) <;> first | omega | exact Int.natCast_nonneg _ | (simp only [i64max, u8max, u16max, u32max, u64max]; omega) | (simp only [mulSz_eq, Cont.len, colsLen, Col.len, List.length_cons, List.length_nil, List.length_replicate, List.length_append]; first | done | omega) | (simp [mulSz, Cont.len, bne]; first | done | omega)))); conv => whnf)
          | (refine tst_in ?_ ?_; (focus (intro h_; exfalso; first | omega | ((try simp only [decide_eq_true_eq, decide_eq_false_iff_not] at h_); omega) | (simp [mulSz, Cont.len, bne] at h_; first | done | omega))); intro _; conv => whnf)
          | (refine tst_in ?_ ?_; rotate_left; (focus (intro h_; exfalso; first | omega | ((try simp only [decide_eq_true_eq, decide_eq_false_iff_not] at h_); omega) | (simp [mulSz, Cont.len, bne] at h_; first | done | omega))); intro _; conv => whnf)
          | (refine ⟨0, (show _ = _ by omega), ?_⟩; conv => whnf))
        refine .inl ⟨⟨ps cc P, la, []⟩, [0, 1, 5], ?_⟩
        conv => whnf
        repeat' (first | exact True.intro | rfl | refine And.intro ?_ ?_)
        all_goals (conv => whnf)
        repeat' (first | exact True.intro | rfl | refine And.intro ?_ ?_)
        all_goals (try omega)
        · exact (List.append_nil _)
        · exact ⟨⟨zr_ps cc hP.1, fun h z => hne (by have : cc * P (la - 1) = g0 := z; rw [hmi] at this; exact absurd this g1_nz)⟩, by omega, fun _ => hmi, Dv_psl hcz hd1.1, Dv_psl hcz hd1.2, fun d h1 h2 => Dv_ps (hd2 d h1 h2) cc⟩
      · have u : la = 0 := by have := dlt_f u'; omega
        subst u
        conv => whnf
        repeat (first
          | (refine And.intro ?_ ?_; (focus (first | omega | decide | exact EqOk.mk (by kernel_rfl) (by kernel_rfl) (by kernel_rfl) | exact Int.natCast_nonneg _ | ((repeat' refine And.intro ?_ ?_) <;> first | omega | exact Int.natCast_nonneg _ | (simp only [i64max, u8max, u16max, u32max, u64max]; omega) | (simp only [mulSz_eq, Cont.len, colsLen, Col.len, List.length_cons, List.length_nil, List.length_replicate, List.length_append]; first | done | omega) | (simp [mulSz, Cont.len, bne]; first | done | omega)))); conv => whnf)
          | (refine tst_in ?_ ?_; (focus (intro h_; exfalso; first | omega | ((try simp only [decide_eq_true_eq, decide_eq_false_iff_not] at h_); omega) | (simp [mulSz, Cont.len, bne] at h_; first | done | omega))); intro _; conv => whnf)
          | (refine tst_in ?_ ?_; rotate_left; (focus (intro h_; exfalso; first | omega | ((try simp only [decide_eq_true_eq, decide_eq_false_iff_not] at h_); omega) | (simp [mulSz, Cont.len, bne] at h_; first | done | omega))); intro _; conv => whnf)
          | (refine ⟨0, (show _ = _ by omega), ?_⟩; conv => whnf))
        refine .inl ⟨⟨P, 0, ta⟩, [0, 1, 2], ?_⟩
        conv => whnf
        repeat' (first | exact True.intro | rfl | refine And.intro ?_ ?_)
        all_goals (conv => whnf)
        repeat' (first | exact True.intro | rfl | refine And.intro ?_ ?_)
        all_goals (try omega)
        exact ⟨hP, by show 0 ≤ 512; omega, fun h => absurd (show 0 < 0 from h) (by omega), hd1.1, hd1.2, hd2⟩
end Go.Proofs.Yteiblfkegnppeaa

set_option linter.unusedVariables false
set_option linter.unusedSimpArgs false
namespace Go.Proofs.Yteiblfkegnppeaa
open Go Go.Fw
end Go.Proofs.Yteiblfkegnppeaa

set_option linter.unusedVariables false
set_option linter.unusedSimpArgs false
namespace Go.Proofs.Yteiblfkegnppeaa
open Go Go.Fw
noncomputable def k38 : Code := (Try.f38.body).getD .skip
noncomputable def st38 (A B : List Int) (n c d i : Nat) : St := ⟨slotsAt 26 [(0, .slice 0 0 n c), (1, .slice 1 0 n d), (5, .int .i64 i)], [.seg false (.ints .u8 A), .seg false (.ints .u8 B)]⟩
set_option maxHeartbeats 0 in
set_option maxRecDepth 100000 in
theorem Same_q (F : Nat → G) (A B : List Int) (n c d : Nat) (hA : Rd A F n) (hB : Rd B F n) (hc : n ≤ c) (hd : n ≤ d) (hn : n ≤ 9223372036854775807) : QFits Try.prog 38 ⟨[.slice 0 0 n c, .slice 1 0 n d], [.seg false (.ints .u8 A), .seg false (.ints .u8 B)], .bool true⟩ := by
  refine qfits_of_body (C := cfgk 2) (c := k38) (ts := [4]) tokL mixedL (fun | 4 => some ⟨Nat, fun i => st38 A B n c d i, fun i => i ≤ n, fun i => n - i⟩ | _ => none) (fun _ => none)
    Try.func38 (by kernel_rfl) (by kernel_rfl) (by kernel_rfl) (by kernel_rfl) (by kernel_rfl) rfl rfl ?_
  obtain ⟨hl, hg⟩ := hA
  obtain ⟨hl2, hg2⟩ := hB
  conv => whnf
  repeat (first
    | (refine And.intro ?_ ?_; (focus (first | omega | decide | exact EqOk.mk (by kernel_rfl) (by kernel_rfl) (by kernel_rfl) | exact Int.natCast_nonneg _ | ((repeat' refine And.intro ?_ ?_) <;> first | omega | exact Int.natCast_nonneg _ | (simp only [i64max, u8max, u16max, u32max, u64max]; omega) | (simp only [mulSz_eq, Cont.len, colsLen, Col.len, List.length_cons, List.length_nil, List.length_replicate, List.length_append]; first | done | omega) | (simp [mulSz, Cont.len, bne]; first | done | omega)))); conv => whnf)
    | (refine tst_in ?_ ?_; (focus (intro h_; exfalso; first | omega | ((try simp only [decide_eq_true_eq, decide_eq_false_iff_not] at h_); omega) | (simp [mulSz, Cont.len, bne] at h_; first | done | omega))); intro _; conv => whnf)
    | (refine tst_in ?_ ?_; rotate_left; (focus (intro h_; exfalso; first | omega | ((try simp only [decide_eq_true_eq, decide_eq_false_iff_not] at h_); omega) | (simp [mulSz, Cont.len, bne] at h_; first | done | omega))); intro _; conv => whnf)
    | (refine ⟨0, (show _ = _ by omega), ?_⟩; conv => whnf))
  refine ⟨⟨[0, 1], (0 : Nat), ?_, Nat.zero_le _⟩, ?_⟩
  · show stLe _ _ (st38 A B n c d 0) _
    conv => whnf
    repeat' (first | exact True.intro | rfl | refine And.intro ?_ ?_)
    all_goals (conv => whnf)
    repeat' (first | exact True.intro | rfl | refine And.intro ?_ ?_)
    all_goals (try omega)
  · intro (i : Nat) (hi : i ≤ n)
    show forceSt (st38 A B n c d i) _
    conv => whnf
    repeat (first
      | (refine And.intro ?_ ?_; (focus (first | omega | decide | exact EqOk.mk (by kernel_rfl) (by kernel_rfl) (by kernel_rfl) | exact Int.natCast_nonneg _ | ((repeat' refine And.intro ?_ ?_) <;> first | omega | exact Int.natCast_nonneg _ | (simp only [i64max, u8max, u16max, u32max, u64max]; omega) | (simp only [mulSz_eq, Cont.len, colsLen, Col.len, List.length_cons, List.length_nil, List.length_replicate, List.length_append]; first | done | omega) | (simp [mulSz, Cont.len, bne]; first | done | omega)))); conv => whnf)
      | (refine tst_in ?_ ?_; (focus (intro h_; exfalso; first | omega | ((try simp only [decide_eq_true_eq, decide_eq_false_iff_not] at h_); omega) | (simp [mulSz, Cont.len, bne] at h_; first | done | omega))); intro _; conv => whnf)
      | (refine tst_in ?_ ?_; rotate_left; (focus (intro h_; exfalso; first | omega | ((try simp only [decide_eq_true_eq, decide_eq_false_iff_not] at h_); omega) | (simp [mulSz, Cont.len, bne] at h_; first | done | omega))); intro _; conv => whnf)
      | (refine ⟨0, (show _ = _ by omega), ?_⟩; conv => whnf))
    refine tst_in (fun h => ?_) (fun h' => ?_)
    · have h : i < n := by have := dlt_t h; omega
      have e1 := hg i h
      have e2 := hg2 i h
      conv => whnf
      repeat (first
        | (refine And.intro ?_ ?_; (focus (first | omega | decide | exact EqOk.mk (by kernel_rfl) (by kernel_rfl) (by kernel_rfl) | exact Int.natCast_nonneg _ | ((repeat' refine And.intro ?_ ?_) <;> first | omega | exact Int.natCast_nonneg _ | (simp only [i64max, u8max, u16max, u32max, u64max]; omega) | (simp only [mulSz_eq, Cont.len, colsLen, Col.len, List.length_cons, List.length_nil, List.length_replicate, List.length_append]; first | done | omega) | (simp [mulSz, Cont.len, bne]; first | done | omega)))); conv => whnf)
        | (refine tst_in ?_ ?_; (focus (intro h_; exfalso; first | omega | ((try simp only [decide_eq_true_eq, decide_eq_false_iff_not] at h_); omega) | (simp [mulSz, Cont.len, bne] at h_; first | done | omega))); intro _; conv => whnf)
        | (refine tst_in ?_ ?_; rotate_left; (focus (intro h_; exfalso; first | omega | ((try simp only [decide_eq_true_eq, decide_eq_false_iff_not] at h_); omega) | (simp [mulSz, Cont.len, bne] at h_; first | done | omega))); intro _; conv => whnf)
        | (refine ⟨0, (show _ = _ by omega), ?_⟩; conv => whnf))
      rw [show (0 + ((i : Nat) : Int).toNat) = i by omega, e1, e2]
      refine tst_in (fun h_ => absurd h_ (by simp)) (fun h_ => ?_)
      conv => whnf
      repeat (first
        | (refine And.intro ?_ ?_; (focus (first | omega | decide | exact EqOk.mk (by kernel_rfl) (by kernel_rfl) (by kernel_rfl) | exact Int.natCast_nonneg _ | ((repeat' refine And.intro ?_ ?_) <;> first | omega | exact Int.natCast_nonneg _ | (simp only [i64max, u8max, u16max, u32max, u64max]; omega) | (simp only [mulSz_eq, Cont.len, colsLen, Col.len, List.length_cons, List.length_nil, List.length_replicate, List.length_append]; first | done | omega) | (simp [mulSz, Cont.len, bne]; first | done | omega)))); conv => whnf)
        | (refine tst_in ?_ ?_; (focus (intro h_; exfalso; first | omega | ((try simp only [decide_eq_true_eq, decide_eq_false_iff_not] at h_); omega) | (simp [mulSz, Cont.len, bne] at h_; first | done | omega))); intro _; conv => whnf)
        | (refine tst_in ?_ ?_; rotate_left; (focus (intro h_; exfalso; first | omega | ((try simp only [decide_eq_true_eq, decide_eq_false_iff_not] at h_); omega) | (simp [mulSz, Cont.len, bne] at h_; first | done | omega))); intro _; conv => whnf)
        | (refine ⟨0, (show _ = _ by omega), ?_⟩; conv => whnf))
      refine ⟨[0, 1], (i + 1 : Nat), ?_, h, by show n - (i + 1) < n - i; omega⟩
      show stLe _ _ (st38 A B n c d (i + 1)) _
      conv => whnf
      repeat' (first | exact True.intro | rfl | refine And.intro ?_ ?_)
      all_goals (conv => whnf)
      repeat' (first | exact True.intro | rfl | refine And.intro ?_ ?_)
      all_goals (try omega)
    · conv => whnf
      repeat (first
        | (refine And.intro ?_ ?_; (focus (first | omega | decide | exact EqOk.mk (by kernel_rfl) (by kernel_rfl) (by kernel_rfl) | exact Int.natCast_nonneg _ | ((repeat' refine And.intro ?_ ?_) <;> first | omega | exact Int.natCast_nonneg _ | (simp only [i64max, u8max, u16max, u32max, u64max]; omega) | (simp only [mulSz_eq, Cont.len, colsLen, Col.len, List.length_cons, List.length_nil, List.length_replicate, List.length_append]; first | done | omega) | (simp [mulSz, Cont.len, bne]; first | done | omega)))); conv => whnf)
        | (refine tst_in ?_ ?_; (focus (intro h_; exfalso; first | omega | ((try simp only [decide_eq_true_eq, decide_eq_false_iff_not] at h_); omega) | (simp [mulSz, Cont.len, bne] at h_; first | done | omega))); intro _; conv => whnf)
        | (refine tst_in ?_ ?_; rotate_left; (focus (intro h_; exfalso; first | omega | ((try simp only [decide_eq_true_eq, decide_eq_false_iff_not] at h_); omega) | (simp [mulSz, Cont.len, bne] at h_; first | done | omega))); intro _; conv => whnf)
        | (refine ⟨0, (show _ = _ by omega), ?_⟩; conv => whnf))
theorem ac_zf (q : Nat → G) : ∀ k, ac q zf k = zf
  | 0 => rfl
  | k + 1 => by show pa (ac q zf k) (ps (q k) (sh k zf)) = zf; rw [ac_zf q k, sh_zf, ps_zf, pa_zf]
theorem pol_prod (F H : Nat → G) (n m : Nat) : Pol (prodP F H n m) (plen (dg F n) (dg H m)) := by
  have hF := pol_dg F n
  have hH := pol_dg H m
  have e : prodP F H n m = ac (ct F n) (ct H m) (dg F n) := ac_le _ _ hF.1 (dg_le F n)
  rw [e]
  generalize dg F n = s at *
  generalize dg H m = t at *
  generalize ct F n = f at *
  generalize ct H m = h at *
  unfold plen
  split
  · rename_i h0
    rcases h0 with h0 | h0
    · subst h0; exact pol_zf
    · subst h0; rw [zr_all hH.1, ac_zf]; exact pol_zf
  · rename_i h0
    obtain ⟨a, rfl⟩ : ∃ a, s = a + 1 := ⟨s - 1, by omega⟩
    obtain ⟨b, rfl⟩ : ∃ b, t = b + 1 := ⟨t - 1, by omega⟩
    have := pol_ac hF hH
    rwa [show a + b + 1 = a + 1 + (b + 1) - 1 by omega] at this
theorem As_ct (F : Nat → G) (x : G) (n : Nat) : As (ct F n) x n = As F x n := As_congr x n fun k hk => ct_lt F hk
theorem As_pol {P : Nat → G} {t : Nat} (x : G) (h : Pol P t) {N : Nat} (hN : t ≤ N) : As P x t = As P x N := (As_le P x h.1 hN).symm
noncomputable def k21 : Code := (Try.f21.body).getD .skip
noncomputable def one2 (i : Nat) : G := if i < 2 then g1 else g0
set_option maxHeartbeats 0 in
set_option maxRecDepth 100000 in
theorem awake_f : Fits Try.prog 21 ⟨[], [], [numOut [] (.bool true)]⟩ := by
  have R1 : Rd [1, 1] one2 2 := ⟨Nat.le_refl _, fun i hi => by
    obtain h | h : i = 0 ∨ i = 1 := by omega
    · subst h; rfl
    · subst h; rfl⟩
  have PR := Product_g one2 one2 [1, 1] [1, 1] 2 2 2 2 R1 R1 (Nat.le_refl _) (Nat.le_refl _) (by omega) (by omega)
  rw [show plen (dg one2 2) (dg one2 2) = 3 from by kernel_rfl, show okQ 2 2 3 3 = 3 from by kernel_rfl, show okQE 2 2 3 = 0 from by kernel_rfl] at PR
  have e0 : prodP one2 one2 2 2 0 = g1 := G.ext (by kernel_rfl)
  have e1 : prodP one2 one2 2 2 1 = g0 := G.ext (by kernel_rfl)
  have e2 : prodP one2 one2 2 2 2 = g1 := G.ext (by kernel_rfl)
  have SQ := Same_q (prodP one2 one2 2 2) (tb (gi (prodP one2 one2 2 2)) 3) [1, 0, 1] 3 3 3 (Rd_tb _ _) ⟨Nat.le_refl _, fun i hi => by
    unfold gi
    obtain h | h | h : i = 0 ∨ i = 1 ∨ i = 2 := by omega
    · subst h; rw [e0]; rfl
    · subst h; rw [e1]; rfl
    · subst h; rw [e2]; rfl⟩ (Nat.le_refl _) (Nat.le_refl _) (by omega)
  have TM := Times_g ⟨2, by decide⟩ ⟨128, by decide⟩
  rw [show (⟨2, by decide⟩ * ⟨128, by decide⟩ : G) = ⟨29, by decide⟩ from G.ext (by kernel_rfl)] at TM
  refine fits_of_body (C := cfgk 0) (c := k21) (ts := [0]) tokL mixedL (fun _ => none) (fun _ => none)
    Try.func21 (by kernel_rfl) (by kernel_rfl) (by kernel_rfl) (by kernel_rfl) rfl ?_
  conv => whnf
  repeat (first
    | (refine And.intro ?_ ?_; (focus (first | omega | decide | exact EqOk.mk (by kernel_rfl) (by kernel_rfl) (by kernel_rfl) | exact Int.natCast_nonneg _ | ((repeat' refine And.intro ?_ ?_) <;> first | omega | exact Int.natCast_nonneg _ | (simp only [i64max, u8max, u16max, u32max, u64max]; omega) | (simp only [mulSz_eq, Cont.len, colsLen, Col.len, List.length_cons, List.length_nil, List.length_replicate, List.length_append]; first | done | omega) | (simp [mulSz, Cont.len, bne]; first | done | omega)))); conv => whnf)
    | (refine tst_in ?_ ?_; (focus (intro h_; exfalso; first | omega | ((try simp only [decide_eq_true_eq, decide_eq_false_iff_not] at h_); omega) | (simp [mulSz, Cont.len, bne] at h_; first | done | omega))); intro _; conv => whnf)
    | (refine tst_in ?_ ?_; rotate_left; (focus (intro h_; exfalso; first | omega | ((try simp only [decide_eq_true_eq, decide_eq_false_iff_not] at h_); omega) | (simp [mulSz, Cont.len, bne] at h_; first | done | omega))); intro _; conv => whnf)
    | (refine ⟨0, (show _ = _ by omega), ?_⟩; conv => whnf))
  refine ⟨_, [0, 1], PR, ?_⟩
  conv => whnf
  iterate 2
   refine And.intro ?_ ?_
   focus
    conv => whnf
    repeat' (first | exact True.intro | rfl | refine And.intro ?_ ?_ | omega)
    all_goals (conv => whnf)
    all_goals (try (first | rfl | omega | (simp; done)))
  conv => whnf
  refine ⟨?_, True.intro⟩
  intro _ _
  conv => whnf
  conv => whnf
  repeat (first
    | (refine And.intro ?_ ?_; (focus (first | omega | decide | exact EqOk.mk (by kernel_rfl) (by kernel_rfl) (by kernel_rfl) | exact Int.natCast_nonneg _ | ((repeat' refine And.intro ?_ ?_) <;> first | omega | exact Int.natCast_nonneg _ | (simp only [i64max, u8max, u16max, u32max, u64max]; omega) | (simp only [mulSz_eq, Cont.len, colsLen, Col.len, List.length_cons, List.length_nil, List.length_replicate, List.length_append]; first | done | omega) | (simp [mulSz, Cont.len, bne]; first | done | omega)))); conv => whnf)
    | (refine tst_in ?_ ?_; (focus (intro h_; exfalso; first | omega | ((try simp only [decide_eq_true_eq, decide_eq_false_iff_not] at h_); omega) | (simp [mulSz, Cont.len, bne] at h_; first | done | omega))); intro _; conv => whnf)
    | (refine tst_in ?_ ?_; rotate_left; (focus (intro h_; exfalso; first | omega | ((try simp only [decide_eq_true_eq, decide_eq_false_iff_not] at h_); omega) | (simp [mulSz, Cont.len, bne] at h_; first | done | omega))); intro _; conv => whnf)
    | (refine ⟨0, (show _ = _ by omega), ?_⟩; conv => whnf))
  refine ⟨_, [], TM, ?_⟩
  conv => whnf
  iterate 2
   refine And.intro ?_ ?_
   focus
    conv => whnf
    repeat' (first | exact True.intro | rfl | refine And.intro ?_ ?_ | omega)
    all_goals (conv => whnf)
    all_goals (try (first | rfl | omega | (simp; done)))
  conv => whnf
  conv => whnf
  repeat (first
    | (refine And.intro ?_ ?_; (focus (first | omega | decide | exact EqOk.mk (by kernel_rfl) (by kernel_rfl) (by kernel_rfl) | exact Int.natCast_nonneg _ | ((repeat' refine And.intro ?_ ?_) <;> first | omega | exact Int.natCast_nonneg _ | (simp only [i64max, u8max, u16max, u32max, u64max]; omega) | (simp only [mulSz_eq, Cont.len, colsLen, Col.len, List.length_cons, List.length_nil, List.length_replicate, List.length_append]; first | done | omega) | (simp [mulSz, Cont.len, bne]; first | done | omega)))); conv => whnf)
    | (refine tst_in ?_ ?_; (focus (intro h_; exfalso; first | omega | ((try simp only [decide_eq_true_eq, decide_eq_false_iff_not] at h_); omega) | (simp [mulSz, Cont.len, bne] at h_; first | done | omega))); intro _; conv => whnf)
    | (refine tst_in ?_ ?_; rotate_left; (focus (intro h_; exfalso; first | omega | ((try simp only [decide_eq_true_eq, decide_eq_false_iff_not] at h_); omega) | (simp [mulSz, Cont.len, bne] at h_; first | done | omega))); intro _; conv => whnf)
    | (refine ⟨0, (show _ = _ by omega), ?_⟩; conv => whnf))
  refine ⟨_, [2, 3], SQ, ?_⟩
  conv => whnf
  iterate 2
   refine And.intro ?_ ?_
   focus
    conv => whnf
    repeat' (first | exact True.intro | rfl | refine And.intro ?_ ?_)
    all_goals (conv => whnf)
    repeat' (first | exact True.intro | rfl | refine And.intro ?_ ?_)
    all_goals (try (first | rfl | omega | (simp; first | done | omega)))
  conv => whnf
  conv => whnf
  repeat (first
    | (refine And.intro ?_ ?_; (focus (first | omega | decide | exact EqOk.mk (by kernel_rfl) (by kernel_rfl) (by kernel_rfl) | exact Int.natCast_nonneg _ | ((repeat' refine And.intro ?_ ?_) <;> first | omega | exact Int.natCast_nonneg _ | (simp only [i64max, u8max, u16max, u32max, u64max]; omega) | (simp only [mulSz_eq, Cont.len, colsLen, Col.len, List.length_cons, List.length_nil, List.length_replicate, List.length_append]; first | done | omega) | (simp [mulSz, Cont.len, bne]; first | done | omega)))); conv => whnf)
    | (refine tst_in ?_ ?_; (focus (intro h_; exfalso; first | omega | ((try simp only [decide_eq_true_eq, decide_eq_false_iff_not] at h_); omega) | (simp [mulSz, Cont.len, bne] at h_; first | done | omega))); intro _; conv => whnf)
    | (refine tst_in ?_ ?_; rotate_left; (focus (intro h_; exfalso; first | omega | ((try simp only [decide_eq_true_eq, decide_eq_false_iff_not] at h_); omega) | (simp [mulSz, Cont.len, bne] at h_; first | done | omega))); intro _; conv => whnf)
    | (refine ⟨0, (show _ = _ by omega), ?_⟩; conv => whnf))
  refine .inl ⟨(), [], ?_⟩
  conv => whnf
  repeat' (first | exact True.intro | rfl | refine And.intro ?_ ?_)
  all_goals (conv => whnf)
  repeat' (first | exact True.intro | rfl | refine And.intro ?_ ?_)
  all_goals (try omega)
  all_goals simp
end Go.Proofs.Yteiblfkegnppeaa

set_option linter.unusedVariables false
set_option linter.unusedSimpArgs false
namespace Go.Proofs.Yteiblfkegnppeaa
open Go Go.Fw
theorem ct_dg2 (F : Nat → G) (n : Nat) : ct F (dg F n) = ct F n := by
  have h := pol_dg F n
  have := dg_le F n
  rw [← ct_eq h.1]
  funext i; unfold ct
  repeat' split
  all_goals first | rfl | omega
end Go.Proofs.Yteiblfkegnppeaa

set_option linter.unusedVariables false
set_option linter.unusedSimpArgs false
namespace Go.Proofs.Yteiblfkegnppeaa
open Go Go.Fw
def toB (x : Int) : G := ⟨x.toNat % 256, Nat.mod_lt _ (by decide)⟩
theorem toB_gi {x : Int} (h : (Lit.int .u8 x).wf = true) : x = ((toB x).v : Nat) := by
  simp [Lit.wf, IntKind.min, IntKind.max, IntKind.signed, IntKind.bits] at h
  show x = ((x.toNat % 256 : Nat) : Int)
  omega
theorem Rd_row (g : Nat → Int) (n c : Nat) (hn : n ≤ c) (hw : ∀ i, i < c → (Lit.int .u8 (g i)).wf = true) : Rd (tb g c) (fun i => toB (g i)) n :=
  ⟨by rw [tab_len]; exact hn, fun i hi => by rw [tab_get _ _ (by omega)]; exact toB_gi (hw i (by omega))⟩
end Go.Proofs.Yteiblfkegnppeaa
