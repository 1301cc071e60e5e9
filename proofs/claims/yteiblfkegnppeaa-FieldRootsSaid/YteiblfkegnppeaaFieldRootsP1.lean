/-
  What the functions that are called give: for FieldRoots.
-/
import Derived.Test.YteiblfkegnppeaaRows
import Derived.Test.YteiblfkegnppeaaFv
set_option linter.unusedSimpArgs false
set_option linter.unusedVariables false
set_option linter.unusedVariables false
set_option linter.unusedSimpArgs false
namespace Go.Proofs.Yteiblfkegnppeaa
open Go Go.Fw
def tyL : List (Nat × TyI) := [
  (1, ⟨.func, 1, 8, .nilFunc⟩),
  (2, ⟨.int .i64, 1, 8, .int .i64 0⟩),
  (3, ⟨.int .i64, 1, 8, .int .i64 0⟩),
  (4, ⟨.bool, 1, 1, .bool false⟩),
  (5, ⟨.int .u8, 1, 1, .int .u8 0⟩),
  (9, ⟨.str, 1, 16, .string (ByteArray.mk #[])⟩),
  (12, ⟨.int .u64, 1, 8, .int .u64 0⟩),
  (21, ⟨.int .i32, 1, 4, .int .i32 0⟩),
  (22, ⟨.int .i64, 1, 8, .int .i64 0⟩),
  (24, ⟨.func, 1, 8, .nilFunc⟩),
  (25, ⟨.func, 1, 8, .nilFunc⟩),
  (27, ⟨.func, 1, 8, .nilFunc⟩),
  (28, ⟨.func, 1, 8, .nilFunc⟩),
  (29, ⟨.func, 1, 8, .nilFunc⟩),
  (30, ⟨.func, 1, 8, .nilFunc⟩),
  (31, ⟨.func, 1, 8, .nilFunc⟩),
  (32, ⟨.struct [(0, 5), (1, 5), (2, 5), (3, 21), (4, 21)], 5, 12, .agg #[.int .u8 0, .int .u8 0, .int .u8 0, .int .i32 0, .int .i32 0]⟩),
  (33, ⟨.struct [(0, 5), (1, 5), (2, 5), (3, 21), (4, 21)], 5, 12, .agg #[.int .u8 0, .int .u8 0, .int .u8 0, .int .i32 0, .int .i32 0]⟩),
  (34, ⟨.func, 1, 8, .nilFunc⟩),
  (35, ⟨.slice 5, 1, 24, .slice none 0 0⟩),
  (36, ⟨.struct [(0, 35), (1, 35), (2, 35), (3, 5)], 4, 80, .agg #[.slice none 0 0, .slice none 0 0, .slice none 0 0, .int .u8 0]⟩),
  (37, ⟨.struct [(0, 35), (1, 35), (2, 35), (3, 5)], 4, 80, .agg #[.slice none 0 0, .slice none 0 0, .slice none 0 0, .int .u8 0]⟩),
  (39, ⟨.func, 1, 8, .nilFunc⟩),
  (40, ⟨.func, 1, 8, .nilFunc⟩),
  (41, ⟨.func, 1, 8, .nilFunc⟩),
  (43, ⟨.func, 1, 8, .nilFunc⟩),
  (44, ⟨.func, 1, 8, .nilFunc⟩),
  (45, ⟨.func, 1, 8, .nilFunc⟩),
  (46, ⟨.func, 1, 8, .nilFunc⟩),
  (47, ⟨.array 256 3, 256, 2048, .agg ⟨List.replicate 256 (.int .i64 0)⟩⟩),
  (48, ⟨.slice 50, 1, 24, .slice none 0 0⟩),
  (49, ⟨.struct [(0, 5), (1, 5)], 2, 2, .agg #[.int .u8 0, .int .u8 0]⟩),
  (50, ⟨.struct [(0, 5), (1, 5)], 2, 2, .agg #[.int .u8 0, .int .u8 0]⟩),
  (51, ⟨.func, 1, 8, .nilFunc⟩),
  (52, ⟨.func, 1, 8, .nilFunc⟩),
  (53, ⟨.func, 1, 8, .nilFunc⟩),
  (54, ⟨.func, 1, 8, .nilFunc⟩),
  (55, ⟨.slice 56, 1, 24, .slice none 0 0⟩),
  (56, ⟨.struct [(0, 5), (1, 5)], 2, 2, .agg #[.int .u8 0, .int .u8 0]⟩),
  (57, ⟨.func, 1, 8, .nilFunc⟩),
  (58, ⟨.func, 1, 8, .nilFunc⟩),
  (59, ⟨.func, 1, 8, .nilFunc⟩),
  (60, ⟨.func, 1, 8, .nilFunc⟩),
  (61, ⟨.int .u64, 1, 8, .int .u64 0⟩),
  (62, ⟨.func, 1, 8, .nilFunc⟩),
  (63, ⟨.func, 1, 8, .nilFunc⟩),
  (64, ⟨.func, 1, 8, .nilFunc⟩),
  (66, ⟨.func, 1, 8, .nilFunc⟩),
  (67, ⟨.func, 1, 8, .nilFunc⟩),
  (68, ⟨.array 256 4, 256, 256, .agg ⟨List.replicate 256 (.bool false)⟩⟩),
  (69, ⟨.slice 35, 1, 24, .slice none 0 0⟩),
  (70, ⟨.func, 1, 8, .nilFunc⟩),
  (71, ⟨.func, 1, 8, .nilFunc⟩),
  (72, ⟨.func, 1, 8, .nilFunc⟩),
  (78, ⟨.func, 1, 8, .nilFunc⟩),
  (79, ⟨.int .u32, 1, 4, .int .u32 0⟩),
  (82, ⟨.func, 1, 8, .nilFunc⟩),
  (83, ⟨.ptr 5, 1, 8, .pointer none⟩)]
theorem tokL : TOk Try.prog tyL := tokl_of ⟨⟨by kernel_rfl, by kernel_rfl⟩, ⟨by kernel_rfl, by kernel_rfl⟩, ⟨by kernel_rfl, by kernel_rfl⟩, ⟨by kernel_rfl, by kernel_rfl⟩, ⟨by kernel_rfl, by kernel_rfl⟩, ⟨by kernel_rfl, by kernel_rfl⟩, ⟨by kernel_rfl, by kernel_rfl⟩, ⟨by kernel_rfl, by kernel_rfl⟩, ⟨by kernel_rfl, by kernel_rfl⟩, ⟨by kernel_rfl, by kernel_rfl⟩, ⟨by kernel_rfl, by kernel_rfl⟩, ⟨by kernel_rfl, by kernel_rfl⟩, ⟨by kernel_rfl, by kernel_rfl⟩, ⟨by kernel_rfl, by kernel_rfl⟩, ⟨by kernel_rfl, by kernel_rfl⟩, ⟨by kernel_rfl, by kernel_rfl⟩, ⟨by kernel_rfl, by kernel_rfl⟩, ⟨by kernel_rfl, by kernel_rfl⟩, ⟨by kernel_rfl, by kernel_rfl⟩, ⟨by kernel_rfl, by kernel_rfl⟩, ⟨by kernel_rfl, by kernel_rfl⟩, ⟨by kernel_rfl, by kernel_rfl⟩, ⟨by kernel_rfl, by kernel_rfl⟩, ⟨by kernel_rfl, by kernel_rfl⟩, ⟨by kernel_rfl, by kernel_rfl⟩, ⟨by kernel_rfl, by kernel_rfl⟩, ⟨by kernel_rfl, by kernel_rfl⟩, ⟨by kernel_rfl, by kernel_rfl⟩, ⟨by kernel_rfl, by kernel_rfl⟩, ⟨by kernel_rfl, by kernel_rfl⟩, ⟨by kernel_rfl, by kernel_rfl⟩, ⟨by kernel_rfl, by kernel_rfl⟩, ⟨by kernel_rfl, by kernel_rfl⟩, ⟨by kernel_rfl, by kernel_rfl⟩, ⟨by kernel_rfl, by kernel_rfl⟩, ⟨by kernel_rfl, by kernel_rfl⟩, ⟨by kernel_rfl, by kernel_rfl⟩, ⟨by kernel_rfl, by kernel_rfl⟩, ⟨by kernel_rfl, by kernel_rfl⟩, ⟨by kernel_rfl, by kernel_rfl⟩, ⟨by kernel_rfl, by kernel_rfl⟩, ⟨by kernel_rfl, by kernel_rfl⟩, ⟨by kernel_rfl, by kernel_rfl⟩, ⟨by kernel_rfl, by kernel_rfl⟩, ⟨by kernel_rfl, by kernel_rfl⟩, ⟨by kernel_rfl, by kernel_rfl⟩, ⟨by kernel_rfl, by kernel_rfl⟩, ⟨by kernel_rfl, by kernel_rfl⟩, ⟨by kernel_rfl, by kernel_rfl⟩, ⟨by kernel_rfl, by kernel_rfl⟩, ⟨by kernel_rfl, by kernel_rfl⟩, ⟨by kernel_rfl, by kernel_rfl⟩, ⟨by kernel_rfl, by kernel_rfl⟩, ⟨by kernel_rfl, by kernel_rfl⟩, ⟨by kernel_rfl, by kernel_rfl⟩, ⟨by kernel_rfl, by kernel_rfl⟩, ⟨by kernel_rfl, by kernel_rfl⟩, ⟨by kernel_rfl, by kernel_rfl⟩, True.intro⟩
theorem mixedL : Try.prog.follows .mixedOrders = true := by kernel_rfl
theorem i64max : IntKind.i64.max = 9223372036854775807 := rfl
theorem u8max : IntKind.u8.max = 255 := rfl
theorem u16max : IntKind.u16.max = 65535 := rfl
theorem u32max : IntKind.u32.max = 4294967295 := rfl
theorem u64max : IntKind.u64.max = 18446744073709551615 := rfl
def numOut (D : List Seg) (x : AV) : FOut := ⟨Unit, fun _ => True, fun _ => x, fun _ => D⟩
theorem wtok : TOk Try.prog tyL := tokL
theorem wmixed : Try.prog.follows .mixedOrders = true := mixedL
def qf : Nat → Bool := fun f => match f with | 10 => true | 15 => true | 16 => true | 17 => true | 18 => true | 19 => true | 25 => true | 27 => true | 36 => true | 38 => true | 39 => true | 40 => true | 41 => true | 55 => true | 58 => true | 62 => true | _ => false
def cfgk (k : Nat) : Cfg := { T := tyL, sgn := fun _ => false, wr := fun _ => false, k := k, q := qf }
def cfg : Cfg := cfgk 0
theorem u8wrap (n : Int) : IntKind.u8.wrap n = n % 256 := by
  unfold IntKind.wrap
  simp [IntKind.bits, IntKind.signed]

def ta (a : Nat) : Nat := Nat.xor (Nat.mod (Nat.mul 2 a) 256) (Nat.land 29 (Nat.mod (Nat.sub 256 (Nat.div a 128)) 256))
def tp (a b p : Nat) : Nat := Nat.xor p (Nat.land a (Nat.mod (Nat.sub 256 (Nat.mod b 2)) 256))
noncomputable def tmul (f : Nat) : Nat → Nat → Nat → Nat := @Nat.rec (fun _ => Nat → Nat → Nat → Nat) (fun _ _ p => p) (fun _ ih a b p => ih (ta a) (Nat.div b 2) (tp a b p)) f
/-- The product. -/
noncomputable def T (a b : Nat) : Nat := tmul 8 a b 0
theorem ta_lt (a : Nat) : ta a < 256 := Nat.xor_lt_two_pow (n := 8) (Nat.mod_lt _ (by decide)) (Nat.lt_of_le_of_lt Nat.and_le_right (Nat.mod_lt _ (by decide)))
theorem tp_lt {a b p : Nat} (hp : p < 256) : tp a b p < 256 := Nat.xor_lt_two_pow (n := 8) hp (Nat.lt_of_le_of_lt Nat.and_le_right (Nat.mod_lt _ (by decide)))
theorem tmul_lt : ∀ (f a b p : Nat), p < 256 → tmul f a b p < 256
  | 0, _, _, _, h => h
  | f + 1, a, b, p, h => tmul_lt f _ _ _ (tp_lt h)
theorem T_lt (a b : Nat) : T a b < 256 := tmul_lt 8 a b 0 (by decide)
theorem tmul_zero : ∀ (f a p : Nat), tmul f a 0 p = p
  | 0, _, _ => rfl
  | f + 1, a, p => by
    have h1 : tp a 0 p = p := by
      show p ^^^ (a &&& ((256 - 0 % 2) % 256)) = p
      simp
    show tmul f (ta a) (0 / 2) (tp a 0 p) = p
    rw [h1, Nat.zero_div, tmul_zero f]
noncomputable def c17 : Code := (Try.f17.body).getD .skip
structure TS where
  f : Nat
  a : Nat
  b : Nat
  p : Nat
noncomputable def inv17 (A B : Nat) : LInv := ⟨TS, fun s => ⟨anyTo 28 [.int .u8 s.a, .int .u8 s.b, .any, .any, .any, .int .u8 s.p], []⟩, fun s => s.a < 256 ∧ s.b < 2 ^ s.f ∧ s.f ≤ 8 ∧ s.p < 256 ∧ tmul s.f s.a s.b s.p = T A B, fun s => s.f⟩
set_option maxRecDepth 100000 in
theorem Times_q (A B : Nat) (hA : A < 256) (hB : B < 256) : QFits Try.prog 17 ⟨[.int .u8 A, .int .u8 B], [], .int .u8 (T A B)⟩ := by
  refine qfits_of_body (C := cfg) (c := c17) (ts := [4]) wtok wmixed (fun | 2 => some (inv17 A B) | _ => none) (fun _ => none)
    Try.func17 (by kernel_rfl) (by kernel_rfl) (by kernel_rfl) (by kernel_rfl) (by kernel_rfl) rfl rfl ?_
  conv => whnf
  refine ⟨⟨[], (⟨8, A, B, 0⟩ : TS), ?_, hA, hB, Nat.le_refl _, (by decide : 0 < 256), rfl⟩, ?_⟩
  · conv => whnf
    repeat' (first | exact True.intro | rfl | refine And.intro ?_ ?_)
  · rintro ⟨f, a, b, p⟩ ⟨ha, hb, hf, hp, hT⟩
    dsimp only at ha hb hf hp hT
    have hb2 : b < 256 := Nat.lt_of_lt_of_le hb (Nat.pow_le_pow_right (by decide) hf)
    show forceSt ⟨anyTo 28 [.int .u8 (a : Nat), .int .u8 (b : Nat), .any, .any, .any, .int .u8 (p : Nat)], []⟩ _
    conv => whnf
    refine tst_in (fun hne => ?_) (fun he => ?_)
    · skip
      have hne : b ≠ 0 := by simp at hne; omega
      cases f with
      | zero => simp at hb; omega
      | succ f =>
        have e1 : ((((b : Int).toNat &&& (1 : Int).toNat : Nat)) : Int) = ((b % 2 : Nat) : Int) := by
          rw [Int.toNat_natCast, show (1 : Int).toNat = 1 from rfl, Nat.and_one_is_mod]
        have e2 : IntKind.u8.wrap (0 - ((b % 2 : Nat) : Int)) = (((256 - b % 2) % 256 : Nat) : Int) := by rw [u8wrap]; omega
        have e3 : ((((a : Int).toNat &&& ((((256 - b % 2) % 256 : Nat) : Int)).toNat : Nat)) : Int) = ((a &&& ((256 - b % 2) % 256) : Nat) : Int) := by
          rw [Int.toNat_natCast, Int.toNat_natCast]
        have l3 : a &&& ((256 - b % 2) % 256) < 256 := Nat.lt_of_le_of_lt Nat.and_le_right (Nat.mod_lt _ (by decide))
        conv => whnf
        refine ⟨by repeat' (first | omega | exact Int.natCast_nonneg _ | (simp only [i64max]; omega) | (simp only [u8max]; omega) | refine And.intro ?_ ?_), ?_⟩
        conv => whnf
        rw [e1]
        conv => whnf
        rw [e2]
        refine ⟨by repeat' (first | omega | exact Int.natCast_nonneg _ | (simp only [i64max]; omega) | (simp only [u8max]; omega) | refine And.intro ?_ ?_), ?_⟩
        conv => whnf
        rw [e3]
        refine ⟨by repeat' (first | omega | exact Int.natCast_nonneg _ | (simp only [i64max]; omega) | (simp only [u8max]; omega) | refine And.intro ?_ ?_), ?_⟩
        conv => whnf
        have e4 : ((((p : Int).toNat ^^^ (((a &&& ((256 - b % 2) % 256) : Nat) : Int)).toNat : Nat)) : Int) = ((tp a b p : Nat) : Int) := by
          rw [Int.toNat_natCast, Int.toNat_natCast]; rfl
        rw [e4]
        have e5 : (a : Int) / 2 ^ (min (7 : Int).toNat IntKind.u8.bits) = ((a / 128 : Nat) : Int) := by
          show (a : Int) / 2 ^ 7 = _
          omega
        have e6 : IntKind.u8.wrap (0 - ((a / 128 : Nat) : Int)) = (((256 - a / 128) % 256 : Nat) : Int) := by rw [u8wrap]; omega
        have l7 : 29 &&& ((256 - a / 128) % 256) < 256 := Nat.lt_of_le_of_lt Nat.and_le_right (Nat.mod_lt _ (by decide))
        have e8 : IntKind.u8.wrap ((a : Int) * 2 ^ (min (1 : Int).toNat IntKind.u8.bits)) = (((2 * a) % 256 : Nat) : Int) := by
          rw [u8wrap]
          show (a : Int) * 2 ^ 1 % 256 = _
          omega
        have e10 : (b : Int) / 2 ^ (min (1 : Int).toNat IntKind.u8.bits) = ((b / 2 : Nat) : Int) := by
          show (b : Int) / 2 ^ 1 = _
          omega
        conv => whnf
        refine ⟨by repeat' (first | omega | exact Int.natCast_nonneg _ | (simp only [i64max]; omega) | (simp only [u8max]; omega) | refine And.intro ?_ ?_), ?_⟩
        conv => whnf
        rw [e5]
        conv => whnf
        rw [e6]
        refine ⟨by repeat' (first | omega | exact Int.natCast_nonneg _ | (simp only [i64max]; omega) | (simp only [u8max]; omega) | refine And.intro ?_ ?_), ?_⟩
        conv => whnf
        have e7 : ((((29 : Int).toNat &&& ((((256 - a / 128) % 256 : Nat) : Int)).toNat : Nat)) : Int) = ((29 &&& ((256 - a / 128) % 256) : Nat) : Int) := by
          rw [Int.toNat_natCast]; rfl
        rw [e7]
        conv => whnf
        refine ⟨by repeat' (first | omega | exact Int.natCast_nonneg _ | (simp only [i64max]; omega) | (simp only [u8max]; omega) | refine And.intro ?_ ?_), ?_⟩
        conv => whnf
        rw [e8]
        conv => whnf
        refine ⟨by repeat' (first | omega | exact Int.natCast_nonneg _ | (simp only [i64max]; omega) | (simp only [u8max]; omega) | refine And.intro ?_ ?_), ?_⟩
        conv => whnf
        have e9 : ((((((2 * a) % 256 : Nat) : Int)).toNat ^^^ (((29 &&& ((256 - a / 128) % 256) : Nat) : Int)).toNat : Nat) : Int) = ((ta a : Nat) : Int) := by
          rw [Int.toNat_natCast, Int.toNat_natCast]; rfl
        rw [e9]
        conv => whnf
        refine ⟨by repeat' (first | omega | exact Int.natCast_nonneg _ | (simp only [i64max]; omega) | (simp only [u8max]; omega) | refine And.intro ?_ ?_), ?_⟩
        conv => whnf
        rw [e10]
        conv => whnf
        refine ⟨[], (⟨f, ta a, b / 2, tp a b p⟩ : TS), ?_, ⟨ta_lt a, ?_, (by show f ≤ 8; omega), tp_lt hp, hT⟩, ?_⟩
        · conv => whnf
          repeat' (first | exact True.intro | rfl | refine And.intro ?_ ?_)
        · show b / 2 < 2 ^ f
          rw [Nat.pow_succ] at hb
          omega
        · show f < f + 1
          omega
    · skip
      have he : b = 0 := by simp at he; omega
      subst he
      conv => whnf
      repeat' (first | exact True.intro | rfl | refine And.intro ?_ ?_)
      all_goals (show ((T A B : Nat) : Int) = (p : Int); rw [← hT, tmul_zero])



noncomputable def pwl (f : Nat) : Nat → Nat → Nat → Nat := @Nat.rec (fun _ => Nat → Nat → Nat → Nat) (fun _ _ x => x) (fun _ ih a n x => ih (T a a) (Nat.div n 2) (@Bool.rec (fun _ => Nat) x (T x a) (Nat.beq (Nat.mod n 2) 1))) f
/-- A power, by squares. -/
noncomputable def pw (a n : Nat) : Nat := pwl 8 a n 1
theorem pwl_even {f a n x : Nat} (h : n % 2 = 0) : pwl (f + 1) a n x = pwl f (T a a) (n / 2) x := by
  show pwl f (T a a) (n / 2) (@Bool.rec (fun _ => Nat) x (T x a) (Nat.beq (n % 2) 1)) = _
  rw [h]; rfl
theorem pwl_odd {f a n x : Nat} (h : n % 2 = 1) : pwl (f + 1) a n x = pwl f (T a a) (n / 2) (T x a) := by
  show pwl f (T a a) (n / 2) (@Bool.rec (fun _ => Nat) x (T x a) (Nat.beq (n % 2) 1)) = _
  rw [h]; rfl
theorem pwl_zero : ∀ (f a x : Nat), pwl f a 0 x = x
  | 0, _, _ => rfl
  | f + 1, a, x => by rw [pwl_even rfl]; exact pwl_zero f _ _
noncomputable def c18 : Code := (Try.f39.body).getD .skip
noncomputable def inv18 (A N : Nat) : LInv := ⟨TS, fun s => ⟨anyTo 20 [.int .u8 s.a, .int .i64 s.b, .any, .any, .any, .int .u8 s.p], []⟩, fun s => s.a < 256 ∧ s.b < 2 ^ s.f ∧ s.f ≤ 8 ∧ s.p < 256 ∧ pwl s.f s.a s.b s.p = pw A N, fun s => s.f⟩
set_option maxRecDepth 100000 in
theorem power_q (A N : Nat) (hA : A < 256) (hN : N < 256) : QFits Try.prog 39 ⟨[.int .u8 A, .int .i64 N], [], .int .u8 (pw A N : Nat)⟩ := by
  refine qfits_of_body (C := cfg) (c := c18) (ts := [4]) wtok wmixed (fun | 2 => some (inv18 A N) | _ => none) (fun _ => none)
    Try.func39 (by kernel_rfl) (by kernel_rfl) (by kernel_rfl) (by kernel_rfl) (by kernel_rfl) rfl rfl ?_
  conv => whnf
  refine ⟨⟨[], (⟨8, A, N, 1⟩ : TS), ?_, hA, hN, Nat.le_refl _, (by decide : 1 < 256), rfl⟩, ?_⟩
  · conv => whnf
    repeat' (first | exact True.intro | rfl | refine And.intro ?_ ?_)
  · rintro ⟨f, a, n, x⟩ ⟨ha, hb, hf, hp, hT⟩
    dsimp only at ha hb hf hp hT
    have hb2 : n < 256 := Nat.lt_of_lt_of_le hb (Nat.pow_le_pow_right (by decide) hf)
    show forceSt ⟨anyTo 20 [.int .u8 (a : Nat), .int .i64 (n : Nat), .any, .any, .any, .int .u8 (x : Nat)], []⟩ _
    conv => whnf
    refine tst_in (fun hne => ?_) (fun he => ?_)
    · skip
      have hne : n ≠ 0 := by simp at hne; omega
      cases f with
      | zero => simp at hb; omega
      | succ f =>
        have hb3 : n / 2 < 2 ^ f := by rw [Nat.pow_succ] at hb; omega
        have e1 : ((((n : Int).toNat &&& (1 : Int).toNat : Nat)) : Int) = ((n % 2 : Nat) : Int) := by
          rw [Int.toNat_natCast, show (1 : Int).toNat = 1 from rfl, Nat.and_one_is_mod]
        have e2 : (n : Int) / 2 ^ (min (1 : Int).toNat IntKind.i64.bits) = ((n / 2 : Nat) : Int) := by
          show (n : Int) / 2 ^ 1 = _
          omega
        conv => whnf
        refine ⟨by repeat' (first | omega | exact Int.natCast_nonneg _ | (simp only [i64max]; omega) | (simp only [u8max]; omega) | refine And.intro ?_ ?_), ?_⟩
        conv => whnf
        rw [e1]
        conv => whnf
        refine tst_in (fun h1 => ?_) (fun h1 => ?_)
        · skip
          have h1 : n % 2 = 1 := by simp at h1; omega
          rw [pwl_odd h1] at hT
          conv => whnf
          refine ⟨_, [], Times_q x a hp ha, ?_⟩
          conv => whnf
          iterate 2
           refine And.intro ?_ ?_
           focus
            conv => whnf
            repeat' (first | exact True.intro | rfl | refine And.intro ?_ ?_ | omega)
            all_goals (conv => whnf)
            all_goals (try (first | rfl | omega | (simp; done)))
          conv => whnf
          refine ⟨_, [], Times_q a a ha ha, ?_⟩
          conv => whnf
          iterate 2
           refine And.intro ?_ ?_
           focus
            conv => whnf
            repeat' (first | exact True.intro | rfl | refine And.intro ?_ ?_ | omega)
            all_goals (conv => whnf)
            all_goals (try (first | rfl | omega | (simp; done)))
          conv => whnf
          refine ⟨by repeat' (first | omega | exact Int.natCast_nonneg _ | (simp only [i64max]; omega) | (simp only [u8max]; omega) | refine And.intro ?_ ?_), ?_⟩
          conv => whnf
          rw [e2]
          conv => whnf
          refine ⟨[], (⟨f, T a a, n / 2, T x a⟩ : TS), ?_, ⟨T_lt _ _, hb3, (by show f ≤ 8; omega), T_lt _ _, hT⟩, ?_⟩
          · conv => whnf
            repeat' (first | exact True.intro | rfl | refine And.intro ?_ ?_)
          · show f < f + 1
            omega
        · skip
          have h1 : n % 2 = 0 := by simp at h1; omega
          rw [pwl_even h1] at hT
          conv => whnf
          refine ⟨_, [], Times_q a a ha ha, ?_⟩
          conv => whnf
          iterate 2
           refine And.intro ?_ ?_
           focus
            conv => whnf
            repeat' (first | exact True.intro | rfl | refine And.intro ?_ ?_ | omega)
            all_goals (conv => whnf)
            all_goals (try (first | rfl | omega | (simp; done)))
          conv => whnf
          refine ⟨by repeat' (first | omega | exact Int.natCast_nonneg _ | (simp only [i64max]; omega) | (simp only [u8max]; omega) | refine And.intro ?_ ?_), ?_⟩
          conv => whnf
          rw [e2]
          conv => whnf
          refine ⟨[], (⟨f, T a a, n / 2, x⟩ : TS), ?_, ⟨T_lt _ _, hb3, (by show f ≤ 8; omega), hp, hT⟩, ?_⟩
          · conv => whnf
            repeat' (first | exact True.intro | rfl | refine And.intro ?_ ?_)
          · show f < f + 1
            omega
    · skip
      have he : n = 0 := by simp at he; omega
      subst he
      conv => whnf
      repeat' (first | exact True.intro | rfl | refine And.intro ?_ ?_)
      all_goals (show ((pw A N : Nat) : Int) = (x : Int); rw [← hT, pwl_zero])
noncomputable def fN (n : Nat) (K : Nat → Bool) : Bool := @Nat.rec (fun _ => Bool) (K 0) (fun q _ => K (Nat.succ q)) n
theorem fN_eq (n : Nat) (K : Nat → Bool) : fN n K = K n := by cases n <;> rfl
noncomputable def ifB (c : Bool) (a : Bool) : Bool := @Bool.rec (fun _ => Bool) false a c
theorem ifB_out {c a : Bool} (h : ifB c a = true) : c = true ∧ a = true := by
  cases c
  · cases h
  · exact ⟨rfl, h⟩
def X (a b : Int) : Int := ((a.toNat ^^^ b.toNat : Nat) : Int)
noncomputable def allN (f : Nat → Bool) (n : Nat) : Bool := @Nat.rec (fun _ => Bool) true (fun i ih => ifB (f i) ih) n
theorem allN_out {f : Nat → Bool} : ∀ {n : Nat}, allN f n = true → ∀ i, i < n → f i = true
  | 0, _, i, h => absurd h (by omega)
  | n + 1, h, i, hi => by
    obtain ⟨h1, h2⟩ := ifB_out (show ifB (f n) (allN f n) = true from h)
    rcases Nat.lt_or_ge i n with h3 | h3
    · exact allN_out h2 i h3
    · have : i = n := by omega
      subst this; exact h1
set_option maxHeartbeats 0 in
set_option maxRecDepth 1000000 in
theorem kX : allN (fun a => allN (fun b => Nat.beq (ta (Nat.xor a b)) (Nat.xor (ta a) (ta b))) 256) 256 = true := by kernel_rfl
theorem ta_xor {a b : Nat} (ha : a < 256) (hb : b < 256) : ta (a ^^^ b) = ta a ^^^ ta b := Nat.eq_of_beq_eq_true (allN_out (allN_out kX a ha) b hb)
theorem xor_lt {a b : Nat} (ha : a < 256) (hb : b < 256) : a ^^^ b < 256 := Nat.xor_lt_two_pow (n := 8) ha hb
theorem xor4 (a b c d : Nat) : (a ^^^ b) ^^^ (c ^^^ d) = (a ^^^ c) ^^^ (b ^^^ d) := by
  rw [Nat.xor_assoc, Nat.xor_assoc, ← Nat.xor_assoc b c d, Nat.xor_comm b c, Nat.xor_assoc c b d]
theorem tp_xor (a a' b p p' : Nat) : tp (a ^^^ a') b (p ^^^ p') = tp a b p ^^^ tp a' b p' := by
  show (p ^^^ p') ^^^ ((a ^^^ a') &&& ((256 - b % 2) % 256)) = (p ^^^ (a &&& ((256 - b % 2) % 256))) ^^^ (p' ^^^ (a' &&& ((256 - b % 2) % 256)))
  rw [Nat.and_xor_distrib_right, xor4]
theorem tmul_xor : ∀ (f a a' b p p' : Nat), a < 256 → a' < 256 → tmul f (a ^^^ a') b (p ^^^ p') = tmul f a b p ^^^ tmul f a' b p'
  | 0, _, _, _, _, _, _, _ => rfl
  | f + 1, a, a', b, p, p', ha, ha' => by
    show tmul f (ta (a ^^^ a')) (b / 2) (tp (a ^^^ a') b (p ^^^ p')) = tmul f (ta a) (b / 2) (tp a b p) ^^^ tmul f (ta a') (b / 2) (tp a' b p')
    rw [ta_xor ha ha', tp_xor, tmul_xor f _ _ _ _ _ (ta_lt _) (ta_lt _)]
theorem T_xor_l {a a' b : Nat} (ha : a < 256) (ha' : a' < 256) : T (a ^^^ a') b = T a b ^^^ T a' b := tmul_xor 8 a a' b 0 0 ha ha'
noncomputable def hitB (a : Nat) (f : Nat) : Nat → Bool := @Nat.rec (fun _ => Nat → Bool) (fun _ => false) (fun _ ih x => @Bool.rec (fun _ => Bool) (fN (T x 2) ih) true (Nat.beq x a)) f
noncomputable def srch (a : Nat) (f : Nat) : Nat → Nat → Nat := @Nat.rec (fun _ => Nat → Nat → Nat) (fun n _ => n) (fun _ ih n x => @Bool.rec (fun _ => Nat) (ih (Nat.succ n) (T x 2)) n (Nat.beq x a)) f
noncomputable def lg (a : Nat) : Nat := srch a 255 0 1
set_option maxHeartbeats 0 in
set_option maxRecDepth 1000000 in
theorem kL : allN (fun a => hitB (Nat.succ a) 255 1) 255 = true := by kernel_rfl
set_option maxHeartbeats 0 in
set_option maxRecDepth 1000000 in
theorem kC : allN (fun a => allN (fun b => Nat.beq (T a b) (T b a)) 256) 256 = true := by kernel_rfl
set_option maxHeartbeats 0 in
set_option maxRecDepth 1000000 in
theorem k1 : allN (fun a => Nat.beq (T a 1) a) 256 = true := by kernel_rfl
set_option maxHeartbeats 0 in
set_option maxRecDepth 1000000 in
theorem kA0 : allN (fun a => allN (fun b => Nat.beq (T a (T b 2)) (T (T a b) 2)) 256) 128 = true := by kernel_rfl
set_option maxHeartbeats 0 in
set_option maxRecDepth 1000000 in
theorem kA1 : allN (fun a => allN (fun b => Nat.beq (T (Nat.add 128 a) (T b 2)) (T (T (Nat.add 128 a) b) 2)) 256) 128 = true := by kernel_rfl
set_option maxHeartbeats 0 in
set_option maxRecDepth 1000000 in
theorem kZ2 : allN (fun a => Nat.ble 1 (T (Nat.succ a) 2)) 255 = true := by kernel_rfl
theorem hit_ok {a : Nat} (ha : a < 256) (h0 : a ≠ 0) : hitB a 255 1 = true := by
  obtain ⟨c, rfl⟩ : ∃ c, a = c + 1 := ⟨a - 1, by omega⟩
  exact allN_out kL c (by omega)
theorem hit_eq {a f x : Nat} (h : x = a) : hitB a (f + 1) x = true ∧ ∀ n, srch a (f + 1) n x = n := by
  subst h
  refine ⟨?_, fun n => ?_⟩
  · show @Bool.rec (fun _ => Bool) _ true (Nat.beq x x) = true
    rw [Nat.beq_eq.mpr rfl]
  · show @Bool.rec (fun _ => Nat) _ n (Nat.beq x x) = n
    rw [Nat.beq_eq.mpr rfl]
theorem beq_no {x a : Nat} (h : x ≠ a) : Nat.beq x a = false := by
  cases h2 : Nat.beq x a with
  | false => rfl
  | true => exact absurd (Nat.eq_of_beq_eq_true h2) h
theorem hit_ne {a f x : Nat} (h : x ≠ a) : hitB a (f + 1) x = hitB a f (T x 2) ∧ ∀ n, srch a (f + 1) n x = srch a f (n + 1) (T x 2) := by
  refine ⟨?_, fun n => ?_⟩
  · show @Bool.rec (fun _ => Bool) (fN (T x 2) (hitB a f)) true (Nat.beq x a) = _
    rw [beq_no h, fN_eq]
  · show @Bool.rec (fun _ => Nat) (srch a f (Nat.succ n) (T x 2)) n (Nat.beq x a) = _
    rw [beq_no h]
theorem T_comm {a b : Nat} (ha : a < 256) (hb : b < 256) : T a b = T b a := Nat.eq_of_beq_eq_true (allN_out (allN_out kC a ha) b hb)
theorem T_one {a : Nat} (ha : a < 256) : T a 1 = a := Nat.eq_of_beq_eq_true (allN_out k1 a ha)
theorem T_zero (a : Nat) : T a 0 = 0 := tmul_zero 8 a 0
theorem T_two {a b : Nat} (ha : a < 256) (hb : b < 256) : T a (T b 2) = T (T a b) 2 := by
  rcases Nat.lt_or_ge a 128 with h | h
  · exact Nat.eq_of_beq_eq_true (allN_out (allN_out kA0 a h) b hb)
  · obtain ⟨c, rfl⟩ : ∃ c, a = 128 + c := ⟨a - 128, by omega⟩
    exact Nat.eq_of_beq_eq_true (allN_out (allN_out kA1 c (by omega)) b hb)
theorem T_xor_r {a b b' : Nat} (ha : a < 256) (hb : b < 256) (hb' : b' < 256) : T a (b ^^^ b') = T a b ^^^ T a b' := by
  rw [T_comm ha (xor_lt hb hb'), T_xor_l hb hb', T_comm hb ha, T_comm hb' ha]
/-- So many times 2. -/
noncomputable def mk2 (x n : Nat) : Nat := @Nat.rec (fun _ => Nat) x (fun _ z => T z 2) n
theorem mk2_lt {x : Nat} (hx : x < 256) : ∀ n, mk2 x n < 256
  | 0 => hx
  | n + 1 => T_lt _ _
theorem T_mk2 {x y : Nat} (hx : x < 256) (hy : y < 256) : ∀ n, T x (mk2 y n) = mk2 (T x y) n
  | 0 => rfl
  | n + 1 => by
    show T x (T (mk2 y n) 2) = T (mk2 (T x y) n) 2
    rw [T_two hx (mk2_lt hy n), T_mk2 hx hy n]
theorem hit_mk {a : Nat} : ∀ (f x n : Nat), hitB a f x = true → ∃ k, k < f ∧ srch a f n x = n + k ∧ mk2 x k = a
  | 0, x, n, h => by cases h
  | f + 1, x, n, h => by
    by_cases he : x = a
    · exact ⟨0, by omega, by rw [(hit_eq he).2]; rfl, he⟩
    · rw [(hit_ne he).1] at h
      obtain ⟨k, h1, h2, h3⟩ := hit_mk f (T x 2) (n + 1) h
      refine ⟨k + 1, by omega, by rw [(hit_ne he).2, h2]; omega, ?_⟩
      have shift : ∀ k, mk2 (T x 2) k = mk2 x (k + 1) := fun k => by
        induction k with
        | zero => rfl
        | succ k ih => show T (mk2 (T x 2) k) 2 = T (mk2 x (k + 1)) 2; rw [ih]
      rw [← shift]; exact h3
theorem lg_ok {a : Nat} (ha : a < 256) (h0 : a ≠ 0) : lg a < 255 ∧ mk2 1 (lg a) = a := by
  obtain ⟨k, h1, h2, h3⟩ := hit_mk 255 1 0 (hit_ok ha h0)
  have : lg a = k := by show srch a 255 0 1 = k; rw [h2]; omega
  rw [this]; exact ⟨h1, h3⟩
theorem T_assoc {a b c : Nat} (ha : a < 256) (hb : b < 256) (hc : c < 256) : T (T a b) c = T a (T b c) := by
  by_cases h0 : c = 0
  · subst h0; rw [T_zero, T_zero, T_zero]
  · obtain ⟨_, h⟩ := lg_ok hc h0
    rw [← h, T_mk2 (T_lt a b) (by decide), T_mk2 hb (by decide), T_one (T_lt a b), T_one hb, T_mk2 ha hb]
theorem two_nz {x : Nat} (hx : x < 256) (h : x ≠ 0) : T x 2 ≠ 0 := by
  obtain ⟨c, rfl⟩ : ∃ c, x = c + 1 := ⟨x - 1, by omega⟩
  have := Nat.le_of_ble_eq_true (allN_out kZ2 c (by omega))
  intro h0
  rw [show Nat.succ c = c + 1 from rfl, h0] at this
  omega
theorem mk2_nz {x : Nat} (hx : x < 256) (h : x ≠ 0) : ∀ n, mk2 x n ≠ 0
  | 0 => h
  | n + 1 => two_nz (mk2_lt hx n) (mk2_nz hx h n)
theorem T_nz {a b : Nat} (ha : a < 256) (hb : b < 256) (h1 : a ≠ 0) (h2 : b ≠ 0) : T a b ≠ 0 := by
  obtain ⟨_, h⟩ := lg_ok hb h2
  rw [← h, T_mk2 ha (by decide), T_one ha]
  exact mk2_nz ha h1 _
/-- The numbers of the field. -/
structure G where
  v : Nat
  lt : v < 256
theorem G.ext {a b : G} (h : a.v = b.v) : a = b := by cases a; cases b; cases h; rfl
noncomputable instance : Add G := ⟨fun a b => ⟨a.v ^^^ b.v, xor_lt a.lt b.lt⟩⟩
noncomputable instance : Mul G := ⟨fun a b => ⟨T a.v b.v, T_lt _ _⟩⟩
def g0 : G := ⟨0, by decide⟩
def g1 : G := ⟨1, by decide⟩
theorem a_comm (a b : G) : a + b = b + a := G.ext (Nat.xor_comm _ _)
theorem a_assoc (a b c : G) : a + b + c = a + (b + c) := G.ext (Nat.xor_assoc _ _ _)
theorem a_zero (a : G) : a + g0 = a := G.ext (Nat.xor_zero _)
theorem z_add (a : G) : g0 + a = a := G.ext (Nat.zero_xor _)
theorem a_self (a : G) : a + a = g0 := G.ext (Nat.xor_self _)
theorem m_comm (a b : G) : a * b = b * a := G.ext (T_comm a.lt b.lt)
theorem m_assoc (a b c : G) : a * b * c = a * (b * c) := G.ext (T_assoc a.lt b.lt c.lt)
theorem m_one (a : G) : a * g1 = a := G.ext (T_one a.lt)
theorem one_m (a : G) : g1 * a = a := by rw [m_comm, m_one]
theorem m_zero (a : G) : a * g0 = g0 := G.ext (T_zero _)
theorem z_mul (a : G) : g0 * a = g0 := by rw [m_comm, m_zero]
theorem add_m (a b c : G) : (a + b) * c = a * c + b * c := G.ext (T_xor_l a.lt b.lt)
theorem m_add (a b c : G) : a * (b + c) = a * b + a * c := G.ext (T_xor_r a.lt b.lt c.lt)
theorem m_nz {a b : G} (h1 : a ≠ g0) (h2 : b ≠ g0) : a * b ≠ g0 := fun h => T_nz a.lt b.lt (fun q => h1 (G.ext q)) (fun q => h2 (G.ext q)) (congrArg G.v h)
theorem a_cancel {a b : G} (h : a + b = g0) : a = b := by
  have : a + b + b = b := by rw [h, z_add]
  rwa [a_assoc, a_self, a_zero] at this
instance : Std.Associative (α := G) (· + ·) := ⟨a_assoc⟩
instance : Std.Commutative (α := G) (· + ·) := ⟨a_comm⟩
instance : Std.Associative (α := G) (· * ·) := ⟨m_assoc⟩
instance : Std.Commutative (α := G) (· * ·) := ⟨m_comm⟩
noncomputable def gp (x : G) : Nat → G
  | 0 => g1
  | n + 1 => gp x n * x
theorem gp_add (x : G) (i : Nat) : ∀ j, gp x (i + j) = gp x i * gp x j
  | 0 => (m_one _).symm
  | j + 1 => by show gp x (i + j) * x = gp x i * (gp x j * x); rw [gp_add x i j, m_assoc]
/-- A polynomial, the highest term first. -/
noncomputable def Hn (c : G) (f : Nat → G) (x : G) : Nat → G
  | 0 => c
  | n + 1 => Hn c f x n * x + f n
theorem Hn_c (c : G) (f : Nat → G) (x : G) : ∀ n, Hn c f x n = c * gp x n + Hn g0 f x n
  | 0 => by show c = c * g1 + g0; rw [m_one, a_zero]
  | n + 1 => by
    show Hn c f x n * x + f n = c * (gp x n * x) + (Hn g0 f x n * x + f n)
    rw [Hn_c c f x n, add_m, m_assoc, a_assoc]
theorem Hn_split (c : G) (f : Nat → G) (x : G) (m : Nat) : ∀ n, Hn c f x (m + n) = Hn (Hn c f x m) (fun k => f (m + k)) x n
  | 0 => rfl
  | n + 1 => by
    show Hn c f x (m + n) * x + f (m + n) = _
    rw [Hn_split c f x m n]; rfl
theorem Hn_congr (c : G) {f g : Nat → G} (x : G) : ∀ n, (∀ k, k < n → f k = g k) → Hn c f x n = Hn c g x n
  | 0, _ => rfl
  | n + 1, h => by
    show Hn c f x n * x + f n = Hn c g x n * x + g n
    rw [Hn_congr c x n fun k hk => h k (by omega), h n (by omega)]
/-- A polynomial, the lowest term first. -/
noncomputable def As (f : Nat → G) (x : G) : Nat → G
  | 0 => g0
  | n + 1 => As f x n + f n * gp x n
theorem As_add (f g : Nat → G) (x : G) : ∀ n, As (fun k => f k + g k) x n = As f x n + As g x n
  | 0 => (a_zero _).symm
  | n + 1 => by
    show As (fun k => f k + g k) x n + (f n + g n) * gp x n = (As f x n + f n * gp x n) + (As g x n + g n * gp x n)
    rw [As_add f g x n, add_m]; ac_rfl
theorem As_congr {f g : Nat → G} (x : G) : ∀ n, (∀ k, k < n → f k = g k) → As f x n = As g x n
  | 0, _ => rfl
  | n + 1, h => by
    show As f x n + f n * gp x n = As g x n + g n * gp x n
    rw [As_congr x n fun k hk => h k (by omega), h n (by omega)]
theorem Hn_rev (f : Nat → G) (x : G) : ∀ n, Hn g0 (fun k => f (n - 1 - k)) x n = As f x n
  | 0 => rfl
  | n + 1 => by
    have h1 := Hn_split g0 (fun k => f (n + 1 - 1 - k)) x 1 n
    rw [Nat.add_comm 1 n] at h1
    rw [h1, Hn_c]
    show (g0 * x + f (n + 1 - 1 - 0)) * gp x n + Hn g0 (fun k => f (n + 1 - 1 - (1 + k))) x n = As f x n + f n * gp x n
    rw [z_mul, z_add, Hn_congr g0 x n (g := fun k => f (n - 1 - k)) (fun k hk => by congr 1; omega), Hn_rev f x n, a_comm]
    rfl
end Go.Proofs.Yteiblfkegnppeaa

set_option linter.unusedVariables false
set_option linter.unusedSimpArgs false
namespace Go.Proofs.Yteiblfkegnppeaa
open Go Go.Fw
/-- Moved by so many places. -/
noncomputable def sh (m : Nat) (f : Nat → G) (i : Nat) : G := if m ≤ i then f (i - m) else g0
/-- Nothing from a place on. -/
def Zr (f : Nat → G) (n : Nat) : Prop := ∀ i, n ≤ i → f i = g0
noncomputable def pa (f g : Nat → G) (i : Nat) : G := f i + g i
noncomputable def ps (c : G) (f : Nat → G) (i : Nat) : G := c * f i
def zf : Nat → G := fun _ => g0
/-- The first n terms of the one, times the other. -/
noncomputable def ac (f g : Nat → G) : Nat → Nat → G
  | 0 => zf
  | n + 1 => pa (ac f g n) (ps (f n) (sh n g))
theorem sh_in {m i : Nat} (f : Nat → G) (h : m ≤ i) : sh m f i = f (i - m) := if_pos h
theorem sh_out {m i : Nat} (f : Nat → G) (h : i < m) : sh m f i = g0 := if_neg (by omega)
theorem sh_zf (m : Nat) : sh m zf = zf := by funext i; unfold sh zf; split <;> rfl
theorem sh_pa (m : Nat) (f g : Nat → G) : sh m (pa f g) = pa (sh m f) (sh m g) := by
  funext i; unfold pa
  rcases Nat.lt_or_ge i m with h | h
  · rw [sh_out _ h, sh_out _ h, sh_out _ h, a_zero]
  · rw [sh_in _ h, sh_in _ h, sh_in _ h]
theorem sh_ps (m : Nat) (c : G) (f : Nat → G) : sh m (ps c f) = ps c (sh m f) := by
  funext i; unfold ps
  rcases Nat.lt_or_ge i m with h | h
  · rw [sh_out _ h, sh_out _ h, m_zero]
  · rw [sh_in _ h, sh_in _ h]
theorem sh_sh (m n : Nat) (f : Nat → G) : sh m (sh n f) = sh (m + n) f := by
  funext i; unfold sh
  by_cases h1 : m + n ≤ i
  · rw [if_pos (by omega), if_pos (by omega), if_pos h1]; congr 1; omega
  · rw [if_neg h1]
    by_cases h2 : m ≤ i
    · rw [if_pos h2, if_neg (by omega)]
    · rw [if_neg h2]
theorem sh_0 (f : Nat → G) : sh 0 f = f := by funext i; unfold sh; rw [if_pos (Nat.zero_le _)]; rfl
theorem pa_comm (f g : Nat → G) : pa f g = pa g f := funext fun i => a_comm _ _
theorem pa_assoc (f g h : Nat → G) : pa (pa f g) h = pa f (pa g h) := funext fun i => a_assoc _ _ _
theorem pa_zf (f : Nat → G) : pa f zf = f := funext fun i => a_zero _
theorem zf_pa (f : Nat → G) : pa zf f = f := funext fun i => z_add _
theorem ps_pa (c : G) (f g : Nat → G) : ps c (pa f g) = pa (ps c f) (ps c g) := funext fun i => m_add _ _ _
theorem ps_ps (c d : G) (f : Nat → G) : ps c (ps d f) = ps (c * d) f := funext fun i => (m_assoc _ _ _).symm
theorem ps_zf (c : G) : ps c zf = zf := funext fun i => m_zero _
theorem ps_0 (f : Nat → G) : ps g0 f = zf := funext fun i => z_mul _
theorem ps_1 (f : Nat → G) : ps g1 f = f := funext fun i => one_m _
instance : Std.Associative (α := Nat → G) pa := ⟨pa_assoc⟩
instance : Std.Commutative (α := Nat → G) pa := ⟨pa_comm⟩
theorem ac_pa_r (f g h : Nat → G) : ∀ n, ac f (pa g h) n = pa (ac f g n) (ac f h n)
  | 0 => (pa_zf _).symm
  | n + 1 => by
    show pa (ac f (pa g h) n) (ps (f n) (sh n (pa g h))) = pa (pa (ac f g n) (ps (f n) (sh n g))) (pa (ac f h n) (ps (f n) (sh n h)))
    rw [ac_pa_r f g h n, sh_pa, ps_pa]; ac_rfl
theorem ac_ps_r (c : G) (f g : Nat → G) : ∀ n, ac f (ps c g) n = ps c (ac f g n)
  | 0 => (ps_zf _).symm
  | n + 1 => by
    show pa (ac f (ps c g) n) (ps (f n) (sh n (ps c g))) = ps c (pa (ac f g n) (ps (f n) (sh n g)))
    rw [ac_ps_r c f g n, ps_pa, sh_ps, ps_ps, ps_ps, m_comm]
theorem ac_sh_r (k : Nat) (f g : Nat → G) : ∀ n, ac f (sh k g) n = sh k (ac f g n)
  | 0 => (sh_zf _).symm
  | n + 1 => by
    show pa (ac f (sh k g) n) (ps (f n) (sh n (sh k g))) = sh k (pa (ac f g n) (ps (f n) (sh n g)))
    rw [ac_sh_r k f g n, sh_pa, sh_ps, sh_sh, sh_sh, Nat.add_comm k n]
theorem ac_more (f g : Nat → G) (n : Nat) (h : Zr f n) : ∀ d, ac f g (n + d) = ac f g n
  | 0 => rfl
  | d + 1 => by
    show pa (ac f g (n + d)) (ps (f (n + d)) (sh (n + d) g)) = _
    rw [ac_more f g n h d, h (n + d) (by omega), ps_0, pa_zf]
theorem ac_le (f g : Nat → G) {n N : Nat} (h : Zr f n) (hn : n ≤ N) : ac f g N = ac f g n := by
  obtain ⟨d, rfl⟩ : ∃ d, N = n + d := ⟨N - n, by omega⟩
  exact ac_more f g n h d
theorem zr_sh {g : Nat → G} {m k : Nat} (h : Zr g m) : Zr (sh k g) (k + m) := by
  intro i hi; unfold sh
  split
  · exact h _ (by omega)
  · rfl
theorem zr_ac {f g : Nat → G} {m : Nat} (h : Zr g m) : ∀ n, Zr (ac f g n) (n + m - 1)
  | 0 => fun _ _ => rfl
  | n + 1 => fun i hi => by
    show ac f g n i + f n * sh n g i = g0
    rw [zr_ac h n i (by omega), zr_sh h i (by omega), m_zero, a_zero]
theorem zr_mono {f : Nat → G} {m n : Nat} (h : Zr f m) (hn : m ≤ n) : Zr f n := fun i hi => h i (by omega)
theorem zr_pa {f g : Nat → G} {n : Nat} (h1 : Zr f n) (h2 : Zr g n) : Zr (pa f g) n := fun i hi => by unfold pa; rw [h1 i hi, h2 i hi, a_zero]
theorem zr_ps {f : Nat → G} {n : Nat} (c : G) (h : Zr f n) : Zr (ps c f) n := fun i hi => by unfold ps; rw [h i hi, m_zero]
theorem zr_zf (n : Nat) : Zr zf n := fun _ _ => rfl
theorem zr_all {f : Nat → G} (h : Zr f 0) : f = zf := funext fun i => h i (Nat.zero_le _)
/-- The highest term of a product. -/
theorem ac_top (f g : Nat → G) (m : Nat) (hg : Zr g (m + 1)) (n : Nat) : ac f g (n + 1) (n + m) = f n * g m := by
  show ac f g n (n + m) + f n * sh n g (n + m) = _
  rw [zr_ac hg n (n + m) (by omega), z_add]
  unfold sh; rw [if_pos (by omega)]; congr 2; omega
theorem ac_one_l (f : Nat → G) (c : G) (n : Nat) : ac (fun i => if i = 0 then c else g0) f (n + 1) = ps c f := by
  rw [ac_le (n := 1) _ _ (fun i hi => if_neg (by omega)) (by omega)]
  show pa zf (ps (if 0 = 0 then c else g0) (sh 0 f)) = _
  rw [zf_pa, if_pos rfl, sh_0]
/-- A polynomial's terms below a place. -/
noncomputable def ct (f : Nat → G) (n i : Nat) : G := if i < n then f i else g0
theorem ct_eq {f : Nat → G} {n : Nat} (h : Zr f n) : ct f n = f := by
  funext i; unfold ct; split
  · rfl
  · exact (h i (by omega)).symm
theorem ct_lt (f : Nat → G) {n i : Nat} (h : i < n) : ct f n i = f i := if_pos h
theorem ct_succ (f : Nat → G) (n : Nat) : ct f (n + 1) = pa (ct f n) (ps (f n) (sh n (fun i => if i = 0 then g1 else g0))) := by
  funext i
  show (if i < n + 1 then f i else g0) = (if i < n then f i else g0) + f n * sh n (fun i => if i = 0 then g1 else g0) i
  rcases Nat.lt_trichotomy i n with h | h | h
  · rw [if_pos (by omega), if_pos h, sh_out _ h, m_zero, a_zero]
  · subst h
    rw [if_pos (by omega), if_neg (by omega), sh_in _ (Nat.le_refl _), if_pos (by omega), m_one, z_add]
  · rw [if_neg (by omega), if_neg (by omega), sh_in _ (by omega), if_neg (by omega), m_zero, a_zero]
theorem ac_unit_r (f : Nat → G) (n : Nat) : ac f (fun i => if i = 0 then g1 else g0) n = ct f n := by
  induction n with
  | zero => funext i; unfold ct; rw [if_neg (by omega)]; rfl
  | succ n ih => rw [ct_succ, ← ih]; rfl
theorem ac_comm' (f g : Nat → G) (n : Nat) (hf : Zr f n) : ∀ m, ac f (ct g m) n = ac g f m
  | 0 => by
    rw [show ct g 0 = zf from funext fun i => if_neg (by omega)]
    show ac f zf n = zf
    induction n generalizing f with
    | zero => rfl
    | succ n ih =>
      have h2 : ∀ k, ac f zf k = zf := fun k => by
        induction k with
        | zero => rfl
        | succ k ih => show pa (ac f zf k) (ps (f k) (sh k zf)) = zf; rw [ih, sh_zf, ps_zf, pa_zf]
      exact h2 _
  | m + 1 => by
    rw [ct_succ, ac_pa_r, ac_ps_r, ac_sh_r, ac_unit_r, ct_eq hf, ac_comm' f g n hf m]; rfl
theorem ac_comm {f g : Nat → G} {n m : Nat} (hf : Zr f n) (hg : Zr g m) : ac f g n = ac g f m := by
  rw [← ac_comm' f g n hf m, ct_eq hg]
/-- How many terms, without the noughts at the end. -/
noncomputable def dg (f : Nat → G) : Nat → Nat
  | 0 => 0
  | n + 1 => if (f n).v = 0 then dg f n else n + 1
theorem dg_le (f : Nat → G) : ∀ n, dg f n ≤ n
  | 0 => Nat.le_refl _
  | n + 1 => by unfold dg; split; have := dg_le f n; omega; exact Nat.le_refl _
theorem dg_out (f : Nat → G) : ∀ n i, dg f n ≤ i → i < n → f i = g0
  | 0, i, _, h => by omega
  | n + 1, i, h, hi => by
    unfold dg at h
    split at h
    · rename_i h0
      rcases Nat.lt_or_ge i n with h2 | h2
      · exact dg_out f n i h h2
      · have : i = n := by omega
        subst this; exact G.ext h0
    · omega
/-- A polynomial of so many terms, the last of which is none of the noughts. -/
def Pol (f : Nat → G) (t : Nat) : Prop := Zr f t ∧ (0 < t → f (t - 1) ≠ g0)
theorem dg_top (f : Nat → G) : ∀ n, 0 < dg f n → f (dg f n - 1) ≠ g0
  | 0, h => absurd h (by unfold dg; omega)
  | n + 1, h => by
    unfold dg at h ⊢
    split
    · rename_i h0; rw [if_pos h0] at h; exact dg_top f n h
    · rename_i h0; exact fun q => h0 (congrArg G.v q)
theorem pol_dg (f : Nat → G) (n : Nat) : Pol (ct f n) (dg f n) := by
  refine ⟨fun i hi => ?_, fun h => ?_⟩
  · unfold ct; split
    · exact dg_out f n i hi (by assumption)
    · rfl
  · have := dg_le f n
    rw [ct_lt f (by omega)]; exact dg_top f n h
theorem dg_congr {f g : Nat → G} : ∀ n, (∀ i, i < n → f i = g i) → dg f n = dg g n
  | 0, _ => rfl
  | n + 1, h => by unfold dg; rw [h n (by omega), dg_congr n fun i hi => h i (by omega)]
theorem pol_uniq {f : Nat → G} {s t : Nat} (h1 : Pol f s) (h2 : Pol f t) : s = t := by
  rcases Nat.lt_trichotomy s t with h | h | h
  · exact absurd (h1.1 (t - 1) (by omega)) (h2.2 (by omega))
  · exact h
  · exact absurd (h2.1 (s - 1) (by omega)) (h1.2 (by omega))
theorem dg_pol {f : Nat → G} {t n : Nat} (h : Pol f t) (hn : t ≤ n) : dg f n = t := by
  refine pol_uniq (f := f) ?_ h
  have := pol_dg f n
  rwa [ct_eq (zr_mono h.1 hn)] at this
theorem pol_zf : Pol zf 0 := ⟨zr_zf 0, fun h => absurd h (by omega)⟩
theorem g1_nz : g1 ≠ g0 := fun q => absurd (congrArg G.v q) (by decide)
theorem pol_ac {f g : Nat → G} {s t : Nat} (hf : Pol f (s + 1)) (hg : Pol g (t + 1)) : Pol (ac f g (s + 1)) (s + t + 1) := by
  refine ⟨zr_mono (zr_ac hg.1 (s + 1)) (by omega), fun _ => ?_⟩
  rw [Nat.add_sub_cancel, ac_top f g t hg.1 s]
  exact m_nz (hf.2 (by omega)) (hg.2 (by omega))
theorem pa_swap {a b : Nat → G} (h : pa a b = zf) : a = b := funext fun i => a_cancel (congrFun h i)
/-- Values. -/
theorem As_more (f : Nat → G) (x : G) (n : Nat) (h : Zr f n) : ∀ d, As f x (n + d) = As f x n
  | 0 => rfl
  | d + 1 => by
    show As f x (n + d) + f (n + d) * gp x (n + d) = _
    rw [As_more f x n h d, h (n + d) (by omega), z_mul, a_zero]
theorem As_le (f : Nat → G) (x : G) {n N : Nat} (h : Zr f n) (hn : n ≤ N) : As f x N = As f x n := by
  obtain ⟨d, rfl⟩ : ∃ d, N = n + d := ⟨N - n, by omega⟩
  exact As_more f x n h d
theorem As_pa (f g : Nat → G) (x : G) (n : Nat) : As (pa f g) x n = As f x n + As g x n := As_add f g x n
theorem As_ps (c : G) (f : Nat → G) (x : G) : ∀ n, As (ps c f) x n = c * As f x n
  | 0 => (m_zero c).symm
  | n + 1 => by
    show As (ps c f) x n + c * f n * gp x n = c * (As f x n + f n * gp x n)
    rw [As_ps c f x n, m_add, m_assoc]
theorem As_sh (k : Nat) (f : Nat → G) (x : G) : ∀ n, As (sh k f) x (k + n) = gp x k * As f x n
  | 0 => by
    have h : ∀ j, j ≤ k → As (sh k f) x j = g0 := fun j => by
      induction j with
      | zero => intro _; rfl
      | succ j ih =>
        intro hj
        show As (sh k f) x j + sh k f j * gp x j = g0
        rw [ih (by omega), show sh k f j = g0 by unfold sh; rw [if_neg (by omega)], z_mul, a_zero]
    rw [show k + 0 = k from rfl, h k (Nat.le_refl _)]; exact (m_zero _).symm
  | n + 1 => by
    show As (sh k f) x (k + n) + sh k f (k + n) * gp x (k + n) = gp x k * (As f x n + f n * gp x n)
    rw [As_sh k f x n, show sh k f (k + n) = f n by unfold sh; rw [if_pos (by omega)]; congr 1; omega, gp_add, m_add]
    ac_rfl
end Go.Proofs.Yteiblfkegnppeaa

set_option linter.unusedVariables false
set_option linter.unusedSimpArgs false
namespace Go.Proofs.Yteiblfkegnppeaa
open Go Go.Fw
theorem dlt_t {a b : Int} (h : @decide (a < b) (dLt a b) = true) : a < b := @of_decide_eq_true _ (dLt a b) h
theorem dlt_f {a b : Int} (h : @decide (a < b) (dLt a b) = false) : b ≤ a := by have := @of_decide_eq_false _ (dLt a b) h; omega
theorem dle_t {a b : Int} (h : @decide (a ≤ b) (dLe a b) = true) : a ≤ b := @of_decide_eq_true _ (dLe a b) h
theorem dle_f {a b : Int} (h : @decide (a ≤ b) (dLe a b) = false) : b < a := by have := @of_decide_eq_false _ (dLe a b) h; omega
/-- What stands in a byte's place. -/
def gi (F : Nat → G) (i : Nat) : Int := ((F i).v : Nat)
theorem gi_in (F : Nat → G) (i : Nat) : 0 ≤ gi F i ∧ gi F i ≤ 255 := by have := (F i).lt; unfold gi; omega
theorem Times_g (a b : G) : QFits Try.prog 17 ⟨[.int .u8 (a.v : Nat), .int .u8 (b.v : Nat)], [], .int .u8 ((a * b).v : Nat)⟩ := Times_q a.v b.v a.lt b.lt
set_option maxHeartbeats 0 in
set_option maxRecDepth 1000000 in
theorem kI : allN (fun a => Nat.beq (T (Nat.succ a) (pw (Nat.succ a) 254)) 1) 255 = true := by kernel_rfl
theorem pwl_lt : ∀ (f a n x : Nat), x < 256 → pwl f a n x < 256
  | 0, _, _, _, h => h
  | f + 1, a, n, x, h => by
    rcases Nat.mod_two_eq_zero_or_one n with e | e
    · rw [pwl_even e]; exact pwl_lt f _ _ _ h
    · rw [pwl_odd e]; exact pwl_lt f _ _ _ (T_lt _ _)
/-- The inverse. -/
noncomputable def iv (b : G) : G := ⟨pw b.v 254, pwl_lt 8 b.v 254 1 (by decide)⟩
theorem m_iv {b : G} (h : b ≠ g0) : b * iv b = g1 := by
  apply G.ext
  have h0 : b.v ≠ 0 := fun q => h (G.ext q)
  obtain ⟨c, hc⟩ : ∃ c, b.v = c + 1 := ⟨b.v - 1, by omega⟩
  have hl := b.lt
  have := Nat.eq_of_beq_eq_true (allN_out kI c (by omega))
  rw [show Nat.succ c = b.v from hc.symm] at this
  exact this
theorem power_g (b : G) : QFits Try.prog 39 ⟨[.int .u8 (b.v : Nat), .int .i64 254], [], .int .u8 ((iv b).v : Nat)⟩ := power_q b.v 254 b.lt (by decide)
noncomputable def k41 : Code := (Try.f41.body).getD .skip
def st41 (c n : Nat) (L : List AV) (D : List Seg) (k i : Nat) : St := ⟨slotsAt 15 [(5, .slice 0 0 k k), (6, .int .i64 k), (7, .int .i64 i)], .seg false (.avs L) :: D⟩
set_option maxHeartbeats 0 in
set_option maxRecDepth 100000 in
theorem tooLong1 (n c : Nat) (hn : n ≤ 9223372036854775807) : QFits Try.prog 41 ⟨[.slice 0 0 1 1], [.seg false (.avs [.slice 1 0 n c]), .dead], .bool (decide (512 < n))⟩ := by
  refine qfits_of_body (C := cfgk 2) (c := k41) (ts := [2]) tokL mixedL (fun | 2 => some ⟨Nat, fun i => st41 c n [.slice 1 0 n c] [.dead] 1 i, fun i => i = 0 ∨ i = 1 ∧ n ≤ 512, fun i => 1 - i⟩ | _ => none) (fun _ => none)
    Try.func41 (by kernel_rfl) (by kernel_rfl) (by kernel_rfl) (by kernel_rfl) (by kernel_rfl) rfl rfl ?_
  conv => whnf
  repeat (first
    | (refine And.intro ?_ ?_; (focus (first | omega | decide | exact EqOk.mk (by kernel_rfl) (by kernel_rfl) (by kernel_rfl) | exact Int.natCast_nonneg _ | ((repeat' refine And.intro ?_ ?_) <;> first | omega | exact Int.natCast_nonneg _ | (simp only [i64max, u8max, u16max, u32max, u64max]; omega) | (simp only [mulSz_eq, Cont.len, colsLen, Col.len, List.length_cons, List.length_nil, List.length_replicate, List.length_append]; first | done | omega) | (simp [mulSz, Cont.len, bne]; first | done | omega)))); conv => whnf)
    | (refine tst_in ?_ ?_; (focus (intro h_; exfalso; first | omega | ((try simp only [decide_eq_true_eq, decide_eq_false_iff_not] at h_); omega) | (simp [mulSz, Cont.len, bne] at h_; first | done | omega))); intro _; conv => whnf)
    | (refine tst_in ?_ ?_; rotate_left; (focus (intro h_; exfalso; first | omega | ((try simp only [decide_eq_true_eq, decide_eq_false_iff_not] at h_); omega) | (simp [mulSz, Cont.len, bne] at h_; first | done | omega))); intro _; conv => whnf)
    | (refine ⟨0, (show _ = _ by omega), ?_⟩; conv => whnf))
  refine ⟨⟨[0, 1], (0 : Nat), ?_, .inl rfl⟩, ?_⟩
  · conv => whnf
    repeat' (first | exact True.intro | rfl | refine And.intro ?_ ?_)
    all_goals (conv => whnf)
    repeat' (first | exact True.intro | rfl | refine And.intro ?_ ?_)
    all_goals (try omega)
  · intro (i : Nat) hi
    show forceSt (st41 c n [.slice 1 0 n c] [.dead] 1 i) _
    rcases hi with hi | ⟨hi, h5⟩
    · subst hi
      conv => whnf
      repeat (first
        | (refine And.intro ?_ ?_; (focus (first | omega | decide | exact EqOk.mk (by kernel_rfl) (by kernel_rfl) (by kernel_rfl) | exact Int.natCast_nonneg _ | ((repeat' refine And.intro ?_ ?_) <;> first | omega | exact Int.natCast_nonneg _ | (simp only [i64max, u8max, u16max, u32max, u64max]; omega) | (simp only [mulSz_eq, Cont.len, colsLen, Col.len, List.length_cons, List.length_nil, List.length_replicate, List.length_append]; first | done | omega) | (simp [mulSz, Cont.len, bne]; first | done | omega)))); conv => whnf)
        | (refine tst_in ?_ ?_; (focus (intro h_; exfalso; first | omega | ((try simp only [decide_eq_true_eq, decide_eq_false_iff_not] at h_); omega) | (simp [mulSz, Cont.len, bne] at h_; first | done | omega))); intro _; conv => whnf)
        | (refine tst_in ?_ ?_; rotate_left; (focus (intro h_; exfalso; first | omega | ((try simp only [decide_eq_true_eq, decide_eq_false_iff_not] at h_); omega) | (simp [mulSz, Cont.len, bne] at h_; first | done | omega))); intro _; conv => whnf)
        | (refine ⟨0, (show _ = _ by omega), ?_⟩; conv => whnf))
      refine tst_in (fun h => ?_) (fun h' => ?_)
      · have h := dlt_t h
        conv => whnf
        repeat (first
          | (refine And.intro ?_ ?_; (focus (first | omega | decide | exact EqOk.mk (by kernel_rfl) (by kernel_rfl) (by kernel_rfl) | exact Int.natCast_nonneg _ | ((repeat' refine And.intro ?_ ?_) <;> first | omega | exact Int.natCast_nonneg _ | (simp only [i64max, u8max, u16max, u32max, u64max]; omega) | (simp only [mulSz_eq, Cont.len, colsLen, Col.len, List.length_cons, List.length_nil, List.length_replicate, List.length_append]; first | done | omega) | (simp [mulSz, Cont.len, bne]; first | done | omega)))); conv => whnf)
          | (refine tst_in ?_ ?_; (focus (intro h_; exfalso; first | omega | ((try simp only [decide_eq_true_eq, decide_eq_false_iff_not] at h_); omega) | (simp [mulSz, Cont.len, bne] at h_; first | done | omega))); intro _; conv => whnf)
          | (refine tst_in ?_ ?_; rotate_left; (focus (intro h_; exfalso; first | omega | ((try simp only [decide_eq_true_eq, decide_eq_false_iff_not] at h_); omega) | (simp [mulSz, Cont.len, bne] at h_; first | done | omega))); intro _; conv => whnf)
          | (refine ⟨0, (show _ = _ by omega), ?_⟩; conv => whnf))
        conv => whnf
        repeat' (first | exact True.intro | rfl | refine And.intro ?_ ?_)
        all_goals (conv => whnf)
        repeat' (first | exact True.intro | rfl | refine And.intro ?_ ?_)
        all_goals (try omega)
        exact decide_eq_true (by omega)
      · have h' := dlt_f h'
        conv => whnf
        repeat (first
          | (refine And.intro ?_ ?_; (focus (first | omega | decide | exact EqOk.mk (by kernel_rfl) (by kernel_rfl) (by kernel_rfl) | exact Int.natCast_nonneg _ | ((repeat' refine And.intro ?_ ?_) <;> first | omega | exact Int.natCast_nonneg _ | (simp only [i64max, u8max, u16max, u32max, u64max]; omega) | (simp only [mulSz_eq, Cont.len, colsLen, Col.len, List.length_cons, List.length_nil, List.length_replicate, List.length_append]; first | done | omega) | (simp [mulSz, Cont.len, bne]; first | done | omega)))); conv => whnf)
          | (refine tst_in ?_ ?_; (focus (intro h_; exfalso; first | omega | ((try simp only [decide_eq_true_eq, decide_eq_false_iff_not] at h_); omega) | (simp [mulSz, Cont.len, bne] at h_; first | done | omega))); intro _; conv => whnf)
          | (refine tst_in ?_ ?_; rotate_left; (focus (intro h_; exfalso; first | omega | ((try simp only [decide_eq_true_eq, decide_eq_false_iff_not] at h_); omega) | (simp [mulSz, Cont.len, bne] at h_; first | done | omega))); intro _; conv => whnf)
          | (refine ⟨0, (show _ = _ by omega), ?_⟩; conv => whnf))
        refine ⟨[0, 1], (1 : Nat), ?_, .inr ⟨rfl, by omega⟩, (by show 0 < 1; omega)⟩
        conv => whnf
        repeat' (first | exact True.intro | rfl | refine And.intro ?_ ?_)
        all_goals (conv => whnf)
        repeat' (first | exact True.intro | rfl | refine And.intro ?_ ?_)
        all_goals (try omega)
    · subst hi
      conv => whnf
      repeat (first
        | (refine And.intro ?_ ?_; (focus (first | omega | decide | exact EqOk.mk (by kernel_rfl) (by kernel_rfl) (by kernel_rfl) | exact Int.natCast_nonneg _ | ((repeat' refine And.intro ?_ ?_) <;> first | omega | exact Int.natCast_nonneg _ | (simp only [i64max, u8max, u16max, u32max, u64max]; omega) | (simp only [mulSz_eq, Cont.len, colsLen, Col.len, List.length_cons, List.length_nil, List.length_replicate, List.length_append]; first | done | omega) | (simp [mulSz, Cont.len, bne]; first | done | omega)))); conv => whnf)
        | (refine tst_in ?_ ?_; (focus (intro h_; exfalso; first | omega | ((try simp only [decide_eq_true_eq, decide_eq_false_iff_not] at h_); omega) | (simp [mulSz, Cont.len, bne] at h_; first | done | omega))); intro _; conv => whnf)
        | (refine tst_in ?_ ?_; rotate_left; (focus (intro h_; exfalso; first | omega | ((try simp only [decide_eq_true_eq, decide_eq_false_iff_not] at h_); omega) | (simp [mulSz, Cont.len, bne] at h_; first | done | omega))); intro _; conv => whnf)
        | (refine ⟨0, (show _ = _ by omega), ?_⟩; conv => whnf))
      conv => whnf
      repeat' (first | exact True.intro | rfl | refine And.intro ?_ ?_)
      all_goals (conv => whnf)
      repeat' (first | exact True.intro | rfl | refine And.intro ?_ ?_)
      all_goals (try omega)
      exact decide_eq_false (by omega)
set_option maxHeartbeats 0 in
set_option maxRecDepth 100000 in
theorem tooLong2 (n c m d : Nat) (hn : n ≤ 9223372036854775807) (hm : m ≤ 9223372036854775807) : QFits Try.prog 41 ⟨[.slice 0 0 2 2], [.seg false (.avs [.slice 1 0 n c, .slice 2 0 m d]), .dead, .dead], .bool (decide (512 < n ∨ 512 < m))⟩ := by
  refine qfits_of_body (C := cfgk 3) (c := k41) (ts := [2]) tokL mixedL (fun | 2 => some ⟨Nat, fun i => st41 c n [.slice 1 0 n c, .slice 2 0 m d] [.dead, .dead] 2 i, fun i => i = 0 ∨ i = 1 ∧ n ≤ 512 ∨ i = 2 ∧ n ≤ 512 ∧ m ≤ 512, fun i => 2 - i⟩ | _ => none) (fun _ => none)
    Try.func41 (by kernel_rfl) (by kernel_rfl) (by kernel_rfl) (by kernel_rfl) (by kernel_rfl) rfl rfl ?_
  conv => whnf
  repeat (first
    | (refine And.intro ?_ ?_; (focus (first | omega | decide | exact EqOk.mk (by kernel_rfl) (by kernel_rfl) (by kernel_rfl) | exact Int.natCast_nonneg _ | ((repeat' refine And.intro ?_ ?_) <;> first | omega | exact Int.natCast_nonneg _ | (simp only [i64max, u8max, u16max, u32max, u64max]; omega) | (simp only [mulSz_eq, Cont.len, colsLen, Col.len, List.length_cons, List.length_nil, List.length_replicate, List.length_append]; first | done | omega) | (simp [mulSz, Cont.len, bne]; first | done | omega)))); conv => whnf)
    | (refine tst_in ?_ ?_; (focus (intro h_; exfalso; first | omega | ((try simp only [decide_eq_true_eq, decide_eq_false_iff_not] at h_); omega) | (simp [mulSz, Cont.len, bne] at h_; first | done | omega))); intro _; conv => whnf)
    | (refine tst_in ?_ ?_; rotate_left; (focus (intro h_; exfalso; first | omega | ((try simp only [decide_eq_true_eq, decide_eq_false_iff_not] at h_); omega) | (simp [mulSz, Cont.len, bne] at h_; first | done | omega))); intro _; conv => whnf)
    | (refine ⟨0, (show _ = _ by omega), ?_⟩; conv => whnf))
  refine ⟨⟨[0, 1, 2], (0 : Nat), ?_, .inl rfl⟩, ?_⟩
  · conv => whnf
    repeat' (first | exact True.intro | rfl | refine And.intro ?_ ?_)
    all_goals (conv => whnf)
    repeat' (first | exact True.intro | rfl | refine And.intro ?_ ?_)
    all_goals (try omega)
  · intro (i : Nat) hi
    show forceSt (st41 c n [.slice 1 0 n c, .slice 2 0 m d] [.dead, .dead] 2 i) _
    rcases hi with hi | ⟨hi, h5⟩ | ⟨hi, h5, h6⟩
    · subst hi
      conv => whnf
      repeat (first
        | (refine And.intro ?_ ?_; (focus (first | omega | decide | exact EqOk.mk (by kernel_rfl) (by kernel_rfl) (by kernel_rfl) | exact Int.natCast_nonneg _ | ((repeat' refine And.intro ?_ ?_) <;> first | omega | exact Int.natCast_nonneg _ | (simp only [i64max, u8max, u16max, u32max, u64max]; omega) | (simp only [mulSz_eq, Cont.len, colsLen, Col.len, List.length_cons, List.length_nil, List.length_replicate, List.length_append]; first | done | omega) | (simp [mulSz, Cont.len, bne]; first | done | omega)))); conv => whnf)
        | (refine tst_in ?_ ?_; (focus (intro h_; exfalso; first | omega | ((try simp only [decide_eq_true_eq, decide_eq_false_iff_not] at h_); omega) | (simp [mulSz, Cont.len, bne] at h_; first | done | omega))); intro _; conv => whnf)
        | (refine tst_in ?_ ?_; rotate_left; (focus (intro h_; exfalso; first | omega | ((try simp only [decide_eq_true_eq, decide_eq_false_iff_not] at h_); omega) | (simp [mulSz, Cont.len, bne] at h_; first | done | omega))); intro _; conv => whnf)
        | (refine ⟨0, (show _ = _ by omega), ?_⟩; conv => whnf))
      refine tst_in (fun h => ?_) (fun h' => ?_)
      · have h := dlt_t h
        conv => whnf
        repeat (first
          | (refine And.intro ?_ ?_; (focus (first | omega | decide | exact EqOk.mk (by kernel_rfl) (by kernel_rfl) (by kernel_rfl) | exact Int.natCast_nonneg _ | ((repeat' refine And.intro ?_ ?_) <;> first | omega | exact Int.natCast_nonneg _ | (simp only [i64max, u8max, u16max, u32max, u64max]; omega) | (simp only [mulSz_eq, Cont.len, colsLen, Col.len, List.length_cons, List.length_nil, List.length_replicate, List.length_append]; first | done | omega) | (simp [mulSz, Cont.len, bne]; first | done | omega)))); conv => whnf)
          | (refine tst_in ?_ ?_; (focus (intro h_; exfalso; first | omega | ((try simp only [decide_eq_true_eq, decide_eq_false_iff_not] at h_); omega) | (simp [mulSz, Cont.len, bne] at h_; first | done | omega))); intro _; conv => whnf)
          | (refine tst_in ?_ ?_; rotate_left; (focus (intro h_; exfalso; first | omega | ((try simp only [decide_eq_true_eq, decide_eq_false_iff_not] at h_); omega) | (simp [mulSz, Cont.len, bne] at h_; first | done | omega))); intro _; conv => whnf)
          | (refine ⟨0, (show _ = _ by omega), ?_⟩; conv => whnf))
        conv => whnf
        repeat' (first | exact True.intro | rfl | refine And.intro ?_ ?_)
        all_goals (conv => whnf)
        repeat' (first | exact True.intro | rfl | refine And.intro ?_ ?_)
        all_goals (try omega)
        exact decide_eq_true (by omega)
      · have h' := dlt_f h'
        conv => whnf
        repeat (first
          | (refine And.intro ?_ ?_; (focus (first | omega | decide | exact EqOk.mk (by kernel_rfl) (by kernel_rfl) (by kernel_rfl) | exact Int.natCast_nonneg _ | ((repeat' refine And.intro ?_ ?_) <;> first | omega | exact Int.natCast_nonneg _ | (simp only [i64max, u8max, u16max, u32max, u64max]; omega) | (simp only [mulSz_eq, Cont.len, colsLen, Col.len, List.length_cons, List.length_nil, List.length_replicate, List.length_append]; first | done | omega) | (simp [mulSz, Cont.len, bne]; first | done | omega)))); conv => whnf)
          | (refine tst_in ?_ ?_; (focus (intro h_; exfalso; first | omega | ((try simp only [decide_eq_true_eq, decide_eq_false_iff_not] at h_); omega) | (simp [mulSz, Cont.len, bne] at h_; first | done | omega))); intro _; conv => whnf)
          | (refine tst_in ?_ ?_; rotate_left; (focus (intro h_; exfalso; first | omega | ((try simp only [decide_eq_true_eq, decide_eq_false_iff_not] at h_); omega) | (simp [mulSz, Cont.len, bne] at h_; first | done | omega))); intro _; conv => whnf)
          | (refine ⟨0, (show _ = _ by omega), ?_⟩; conv => whnf))
        refine ⟨[0, 1, 2], (1 : Nat), ?_, .inr (.inl ⟨rfl, by omega⟩), (by show 1 < 2; omega)⟩
        conv => whnf
        repeat' (first | exact True.intro | rfl | refine And.intro ?_ ?_)
        all_goals (conv => whnf)
        repeat' (first | exact True.intro | rfl | refine And.intro ?_ ?_)
        all_goals (try omega)
    · subst hi
      conv => whnf
      repeat (first
        | (refine And.intro ?_ ?_; (focus (first | omega | decide | exact EqOk.mk (by kernel_rfl) (by kernel_rfl) (by kernel_rfl) | exact Int.natCast_nonneg _ | ((repeat' refine And.intro ?_ ?_) <;> first | omega | exact Int.natCast_nonneg _ | (simp only [i64max, u8max, u16max, u32max, u64max]; omega) | (simp only [mulSz_eq, Cont.len, colsLen, Col.len, List.length_cons, List.length_nil, List.length_replicate, List.length_append]; first | done | omega) | (simp [mulSz, Cont.len, bne]; first | done | omega)))); conv => whnf)
        | (refine tst_in ?_ ?_; (focus (intro h_; exfalso; first | omega | ((try simp only [decide_eq_true_eq, decide_eq_false_iff_not] at h_); omega) | (simp [mulSz, Cont.len, bne] at h_; first | done | omega))); intro _; conv => whnf)
        | (refine tst_in ?_ ?_; rotate_left; (focus (intro h_; exfalso; first | omega | ((try simp only [decide_eq_true_eq, decide_eq_false_iff_not] at h_); omega) | (simp [mulSz, Cont.len, bne] at h_; first | done | omega))); intro _; conv => whnf)
        | (refine ⟨0, (show _ = _ by omega), ?_⟩; conv => whnf))
      refine tst_in (fun h => ?_) (fun h' => ?_)
      · have h := dlt_t h
        conv => whnf
        repeat (first
          | (refine And.intro ?_ ?_; (focus (first | omega | decide | exact EqOk.mk (by kernel_rfl) (by kernel_rfl) (by kernel_rfl) | exact Int.natCast_nonneg _ | ((repeat' refine And.intro ?_ ?_) <;> first | omega | exact Int.natCast_nonneg _ | (simp only [i64max, u8max, u16max, u32max, u64max]; omega) | (simp only [mulSz_eq, Cont.len, colsLen, Col.len, List.length_cons, List.length_nil, List.length_replicate, List.length_append]; first | done | omega) | (simp [mulSz, Cont.len, bne]; first | done | omega)))); conv => whnf)
          | (refine tst_in ?_ ?_; (focus (intro h_; exfalso; first | omega | ((try simp only [decide_eq_true_eq, decide_eq_false_iff_not] at h_); omega) | (simp [mulSz, Cont.len, bne] at h_; first | done | omega))); intro _; conv => whnf)
          | (refine tst_in ?_ ?_; rotate_left; (focus (intro h_; exfalso; first | omega | ((try simp only [decide_eq_true_eq, decide_eq_false_iff_not] at h_); omega) | (simp [mulSz, Cont.len, bne] at h_; first | done | omega))); intro _; conv => whnf)
          | (refine ⟨0, (show _ = _ by omega), ?_⟩; conv => whnf))
        conv => whnf
        repeat' (first | exact True.intro | rfl | refine And.intro ?_ ?_)
        all_goals (conv => whnf)
        repeat' (first | exact True.intro | rfl | refine And.intro ?_ ?_)
        all_goals (try omega)
        exact decide_eq_true (by omega)
      · have h' := dlt_f h'
        conv => whnf
        repeat (first
          | (refine And.intro ?_ ?_; (focus (first | omega | decide | exact EqOk.mk (by kernel_rfl) (by kernel_rfl) (by kernel_rfl) | exact Int.natCast_nonneg _ | ((repeat' refine And.intro ?_ ?_) <;> first | omega | exact Int.natCast_nonneg _ | (simp only [i64max, u8max, u16max, u32max, u64max]; omega) | (simp only [mulSz_eq, Cont.len, colsLen, Col.len, List.length_cons, List.length_nil, List.length_replicate, List.length_append]; first | done | omega) | (simp [mulSz, Cont.len, bne]; first | done | omega)))); conv => whnf)
          | (refine tst_in ?_ ?_; (focus (intro h_; exfalso; first | omega | ((try simp only [decide_eq_true_eq, decide_eq_false_iff_not] at h_); omega) | (simp [mulSz, Cont.len, bne] at h_; first | done | omega))); intro _; conv => whnf)
          | (refine tst_in ?_ ?_; rotate_left; (focus (intro h_; exfalso; first | omega | ((try simp only [decide_eq_true_eq, decide_eq_false_iff_not] at h_); omega) | (simp [mulSz, Cont.len, bne] at h_; first | done | omega))); intro _; conv => whnf)
          | (refine ⟨0, (show _ = _ by omega), ?_⟩; conv => whnf))
        refine ⟨[0, 1, 2], (2 : Nat), ?_, .inr (.inr ⟨rfl, h5, by omega⟩), (by show 0 < 1; omega)⟩
        conv => whnf
        repeat' (first | exact True.intro | rfl | refine And.intro ?_ ?_)
        all_goals (conv => whnf)
        repeat' (first | exact True.intro | rfl | refine And.intro ?_ ?_)
        all_goals (try omega)
    · subst hi
      conv => whnf
      repeat (first
        | (refine And.intro ?_ ?_; (focus (first | omega | decide | exact EqOk.mk (by kernel_rfl) (by kernel_rfl) (by kernel_rfl) | exact Int.natCast_nonneg _ | ((repeat' refine And.intro ?_ ?_) <;> first | omega | exact Int.natCast_nonneg _ | (simp only [i64max, u8max, u16max, u32max, u64max]; omega) | (simp only [mulSz_eq, Cont.len, colsLen, Col.len, List.length_cons, List.length_nil, List.length_replicate, List.length_append]; first | done | omega) | (simp [mulSz, Cont.len, bne]; first | done | omega)))); conv => whnf)
        | (refine tst_in ?_ ?_; (focus (intro h_; exfalso; first | omega | ((try simp only [decide_eq_true_eq, decide_eq_false_iff_not] at h_); omega) | (simp [mulSz, Cont.len, bne] at h_; first | done | omega))); intro _; conv => whnf)
        | (refine tst_in ?_ ?_; rotate_left; (focus (intro h_; exfalso; first | omega | ((try simp only [decide_eq_true_eq, decide_eq_false_iff_not] at h_); omega) | (simp [mulSz, Cont.len, bne] at h_; first | done | omega))); intro _; conv => whnf)
        | (refine ⟨0, (show _ = _ by omega), ?_⟩; conv => whnf))
      conv => whnf
      repeat' (first | exact True.intro | rfl | refine And.intro ?_ ?_)
      all_goals (conv => whnf)
      repeat' (first | exact True.intro | rfl | refine And.intro ?_ ?_)
      all_goals (try omega)
      exact decide_eq_false (by omega)
/-- A row begins with a polynomial's terms. -/
def Rd (A : List Int) (F : Nat → G) (n : Nat) : Prop := n ≤ A.length ∧ ∀ i, i < n → A.getD i 0 = gi F i
theorem Rd_tl (F : Nat → G) (n : Nat) (tl : List Int) : Rd (tb (gi F) n ++ tl) F n := ⟨by rw [List.length_append, tab_len]; omega, fun i hi => tab_app _ _ _ hi⟩
theorem Rd_tb (F : Nat → G) (n : Nat) : Rd (tb (gi F) n) F n := ⟨by rw [tab_len]; omega, fun i hi => tab_get _ _ hi⟩
theorem Rd_le {A : List Int} {F : Nat → G} {n m : Nat} (h : Rd A F n) (hm : m ≤ n) : Rd A F m := ⟨Nat.le_trans hm h.1, fun i hi => h.2 i (by omega)⟩
theorem Rd_congr {A : List Int} {F H : Nat → G} {n : Nat} (h : Rd A F n) (e : ∀ i, i < n → F i = H i) : Rd A H n := ⟨h.1, fun i hi => by rw [h.2 i hi]; unfold gi; rw [e i hi]⟩
theorem gi_zero (F : Nat → G) (i : Nat) : gi F i = 0 ↔ F i = g0 := by
  unfold gi
  constructor
  · intro h; exact G.ext (by show (F i).v = 0; omega)
  · intro h; rw [h]; rfl
noncomputable def k45 : Code := (Try.f45.body).getD .skip
def st45 (A : List Int) (n c j : Nat) : St := ⟨slotsAt 21 [(0, .slice 0 0 n c), (3, .int .i64 j)], [.seg false (.ints .u8 A)]⟩
set_option maxHeartbeats 0 in
set_option maxRecDepth 100000 in
theorem trim_f (F : Nat → G) (A : List Int) (n c : Nat) (hA : Rd A F n) (hc : n ≤ c) (hn : n ≤ 9223372036854775807) : Fits Try.prog 45 ⟨[.slice 0 0 n c], [.seg false (.ints .u8 A)], [numOut [.dead] (.slice 0 0 (dg F n) c)]⟩ := by
  refine fits_of_body (C := cfgk 1) (c := k45) (ts := [2]) tokL mixedL (fun | 2 => some ⟨Nat, fun j => st45 A n c j, fun j => j ≤ n ∧ dg F j = dg F n, fun j => j⟩ | _ => none) (fun _ => none)
    Try.func45 (by kernel_rfl) (by kernel_rfl) (by kernel_rfl) (by kernel_rfl) rfl ?_
  obtain ⟨hl, hg⟩ := hA
  conv => whnf
  repeat (first
    | (refine And.intro ?_ ?_; (focus (first | omega | decide | exact EqOk.mk (by kernel_rfl) (by kernel_rfl) (by kernel_rfl) | exact Int.natCast_nonneg _ | ((repeat' refine And.intro ?_ ?_) <;> first | omega | exact Int.natCast_nonneg _ | (simp only [i64max, u8max, u16max, u32max, u64max]; omega) | (simp only [mulSz_eq, Cont.len, colsLen, Col.len, List.length_cons, List.length_nil, List.length_replicate, List.length_append]; first | done | omega) | (simp [mulSz, Cont.len, bne]; first | done | omega)))); conv => whnf)
    | (refine tst_in ?_ ?_; (focus (intro h_; exfalso; first | omega | ((try simp only [decide_eq_true_eq, decide_eq_false_iff_not] at h_); omega) | (simp [mulSz, Cont.len, bne] at h_; first | done | omega))); intro _; conv => whnf)
    | (refine tst_in ?_ ?_; rotate_left; (focus (intro h_; exfalso; first | omega | ((try simp only [decide_eq_true_eq, decide_eq_false_iff_not] at h_); omega) | (simp [mulSz, Cont.len, bne] at h_; first | done | omega))); intro _; conv => whnf)
    | (refine ⟨0, (show _ = _ by omega), ?_⟩; conv => whnf))
  refine ⟨⟨[0], (n : Nat), ?_, Nat.le_refl _, rfl⟩, ?_⟩
  · show stLe _ _ (st45 A n c n) _
    conv => whnf
    repeat' (first | exact True.intro | rfl | refine And.intro ?_ ?_)
    all_goals (conv => whnf)
    repeat' (first | exact True.intro | rfl | refine And.intro ?_ ?_)
    all_goals (try omega)
  · intro (j : Nat) hj
    obtain ⟨hj, e⟩ := hj
    show forceSt (st45 A n c j) _
    conv => whnf
    repeat (first
      | (refine And.intro ?_ ?_; (focus (first | omega | decide | exact EqOk.mk (by kernel_rfl) (by kernel_rfl) (by kernel_rfl) | exact Int.natCast_nonneg _ | ((repeat' refine And.intro ?_ ?_) <;> first | omega | exact Int.natCast_nonneg _ | (simp only [i64max, u8max, u16max, u32max, u64max]; omega) | (simp only [mulSz_eq, Cont.len, colsLen, Col.len, List.length_cons, List.length_nil, List.length_replicate, List.length_append]; first | done | omega) | (simp [mulSz, Cont.len, bne]; first | done | omega)))); conv => whnf)
      | (refine tst_in ?_ ?_; (focus (intro h_; exfalso; first | omega | ((try simp only [decide_eq_true_eq, decide_eq_false_iff_not] at h_); omega) | (simp [mulSz, Cont.len, bne] at h_; first | done | omega))); intro _; conv => whnf)
      | (refine tst_in ?_ ?_; rotate_left; (focus (intro h_; exfalso; first | omega | ((try simp only [decide_eq_true_eq, decide_eq_false_iff_not] at h_); omega) | (simp [mulSz, Cont.len, bne] at h_; first | done | omega))); intro _; conv => whnf)
      | (refine ⟨0, (show _ = _ by omega), ?_⟩; conv => whnf))
    refine tst_in (fun h => ?_) (fun h' => ?_)
    · have h := dlt_t h
      obtain ⟨i, rfl⟩ : ∃ i, j = i + 1 := ⟨j - 1, by omega⟩
      have hi := gi_in F i
      have h0 := gi_zero F i
      have hgi := hg i (by omega)
      conv => whnf
      repeat (first
        | (refine And.intro ?_ ?_; (focus (first | omega | decide | exact EqOk.mk (by kernel_rfl) (by kernel_rfl) (by kernel_rfl) | exact Int.natCast_nonneg _ | ((repeat' refine And.intro ?_ ?_) <;> first | omega | exact Int.natCast_nonneg _ | (simp only [i64max, u8max, u16max, u32max, u64max]; omega) | (simp only [mulSz_eq, Cont.len, colsLen, Col.len, List.length_cons, List.length_nil, List.length_replicate, List.length_append]; first | done | omega) | (simp [mulSz, Cont.len, bne]; first | done | omega)))); conv => whnf)
        | (refine tst_in ?_ ?_; (focus (intro h_; exfalso; first | omega | ((try simp only [decide_eq_true_eq, decide_eq_false_iff_not] at h_); omega) | (simp [mulSz, Cont.len, bne] at h_; first | done | omega))); intro _; conv => whnf)
        | (refine tst_in ?_ ?_; rotate_left; (focus (intro h_; exfalso; first | omega | ((try simp only [decide_eq_true_eq, decide_eq_false_iff_not] at h_); omega) | (simp [mulSz, Cont.len, bne] at h_; first | done | omega))); intro _; conv => whnf)
        | (refine ⟨0, (show _ = _ by omega), ?_⟩; conv => whnf))
      refine tst_in (fun q => ?_) (fun q' => ?_)
      · have q : gi F i = 0 := by rw [← hgi]; simpa using q
        conv => whnf
        repeat (first
          | (refine And.intro ?_ ?_; (focus (first | omega | decide | exact EqOk.mk (by kernel_rfl) (by kernel_rfl) (by kernel_rfl) | exact Int.natCast_nonneg _ | ((repeat' refine And.intro ?_ ?_) <;> first | omega | exact Int.natCast_nonneg _ | (simp only [i64max, u8max, u16max, u32max, u64max]; omega) | (simp only [mulSz_eq, Cont.len, colsLen, Col.len, List.length_cons, List.length_nil, List.length_replicate, List.length_append]; first | done | omega) | (simp [mulSz, Cont.len, bne]; first | done | omega)))); conv => whnf)
          | (refine tst_in ?_ ?_; (focus (intro h_; exfalso; first | omega | ((try simp only [decide_eq_true_eq, decide_eq_false_iff_not] at h_); omega) | (simp [mulSz, Cont.len, bne] at h_; first | done | omega))); intro _; conv => whnf)
          | (refine tst_in ?_ ?_; rotate_left; (focus (intro h_; exfalso; first | omega | ((try simp only [decide_eq_true_eq, decide_eq_false_iff_not] at h_); omega) | (simp [mulSz, Cont.len, bne] at h_; first | done | omega))); intro _; conv => whnf)
          | (refine ⟨0, (show _ = _ by omega), ?_⟩; conv => whnf))
        refine ⟨[0], (i : Nat), ?_, ⟨by omega, ?_⟩, Nat.lt_succ_self i⟩
        · show stLe _ _ (st45 A n c i) _
          conv => whnf
          repeat' (first | exact True.intro | rfl | refine And.intro ?_ ?_)
          all_goals (conv => whnf)
          repeat' (first | exact True.intro | rfl | refine And.intro ?_ ?_)
          all_goals (try omega)
        · rw [← e]
          show dg F i = if (F i).v = 0 then dg F i else i + 1
          rw [if_pos (by rw [h0.1 q]; rfl)]
      · have q : gi F i ≠ 0 := by rw [← hgi]; simpa using q'
        have e2 : dg F n = i + 1 := by
          rw [← e]
          show (if (F i).v = 0 then dg F i else i + 1) = i + 1
          rw [if_neg (fun z : (F i).v = 0 => q (h0.2 (G.ext z)))]
        rw [e2]
        conv => whnf
        repeat (first
          | (refine And.intro ?_ ?_; (focus (first | omega | decide | exact EqOk.mk (by kernel_rfl) (by kernel_rfl) (by kernel_rfl) | exact Int.natCast_nonneg _ | ((repeat' refine And.intro ?_ ?_) <;> first | omega | exact Int.natCast_nonneg _ | (simp only [i64max, u8max, u16max, u32max, u64max]; omega) | (simp only [mulSz_eq, Cont.len, colsLen, Col.len, List.length_cons, List.length_nil, List.length_replicate, List.length_append]; first | done | omega) | (simp [mulSz, Cont.len, bne]; first | done | omega)))); conv => whnf)
          | (refine tst_in ?_ ?_; (focus (intro h_; exfalso; first | omega | ((try simp only [decide_eq_true_eq, decide_eq_false_iff_not] at h_); omega) | (simp [mulSz, Cont.len, bne] at h_; first | done | omega))); intro _; conv => whnf)
          | (refine tst_in ?_ ?_; rotate_left; (focus (intro h_; exfalso; first | omega | ((try simp only [decide_eq_true_eq, decide_eq_false_iff_not] at h_); omega) | (simp [mulSz, Cont.len, bne] at h_; first | done | omega))); intro _; conv => whnf)
          | (refine ⟨0, (show _ = _ by omega), ?_⟩; conv => whnf))
        refine .inl ⟨(), [0], ?_⟩
        conv => whnf
        repeat' (first | exact True.intro | rfl | refine And.intro ?_ ?_)
        all_goals (conv => whnf)
        repeat' (first | exact True.intro | rfl | refine And.intro ?_ ?_)
        all_goals (try omega)
    · have h : j = 0 := by have := dlt_f h'; omega
      subst h
      rw [← e, show dg F 0 = 0 from rfl]
      conv => whnf
      repeat (first
        | (refine And.intro ?_ ?_; (focus (first | omega | decide | exact EqOk.mk (by kernel_rfl) (by kernel_rfl) (by kernel_rfl) | exact Int.natCast_nonneg _ | ((repeat' refine And.intro ?_ ?_) <;> first | omega | exact Int.natCast_nonneg _ | (simp only [i64max, u8max, u16max, u32max, u64max]; omega) | (simp only [mulSz_eq, Cont.len, colsLen, Col.len, List.length_cons, List.length_nil, List.length_replicate, List.length_append]; first | done | omega) | (simp [mulSz, Cont.len, bne]; first | done | omega)))); conv => whnf)
        | (refine tst_in ?_ ?_; (focus (intro h_; exfalso; first | omega | ((try simp only [decide_eq_true_eq, decide_eq_false_iff_not] at h_); omega) | (simp [mulSz, Cont.len, bne] at h_; first | done | omega))); intro _; conv => whnf)
        | (refine tst_in ?_ ?_; rotate_left; (focus (intro h_; exfalso; first | omega | ((try simp only [decide_eq_true_eq, decide_eq_false_iff_not] at h_); omega) | (simp [mulSz, Cont.len, bne] at h_; first | done | omega))); intro _; conv => whnf)
        | (refine ⟨0, (show _ = _ by omega), ?_⟩; conv => whnf))
      refine .inl ⟨(), [0], ?_⟩
      conv => whnf
      repeat' (first | exact True.intro | rfl | refine And.intro ?_ ?_)
      all_goals (conv => whnf)
      repeat' (first | exact True.intro | rfl | refine And.intro ?_ ?_)
      all_goals (try omega)
end Go.Proofs.Yteiblfkegnppeaa

set_option linter.unusedVariables false
set_option linter.unusedSimpArgs false
namespace Go.Proofs.Yteiblfkegnppeaa
open Go Go.Fw
theorem tab_put (F : Nat → G) (N i : Nat) (x : G) {H : Nat → G} (h : ∀ k, k < N → H k = if k = i then x else F k) : (tb (gi F) N).set i ((x.v : Nat) : Int) = tb (gi H) N := by
  refine tab_ext 0 (by rw [List.length_set, tab_len]) fun k hk => ?_
  rw [g_set, tab_len]
  unfold gi
  rw [h k hk]
  by_cases e : k = i
  · subst e; rw [if_pos ⟨rfl, hk⟩, if_pos rfl]
  · rw [if_neg (fun q => e q.1.symm), if_neg e]
    exact tab_get (gi F) 0 hk
noncomputable def k42 : Code := (Try.f42.body).getD .skip
noncomputable def sumS (F H : Nat → G) (n m : Nat) : Nat → G := pa (ct F n) (ct H m)
noncomputable def st42 (F H : Nat → G) (A B : List Int) (n c m d N i : Nat) : St := ⟨slotsAt 34 [(0, .slice 0 0 n c), (1, .slice 1 0 m d), (5, .slice 2 0 N N), (17, .slice 1 0 m d), (18, .int .i64 m), (19, .int .i64 i)], [.seg false (.ints .u8 A), .seg false (.ints .u8 B), .seg true (.ints .u8 (tb (gi (sumS F H n i)) N))]⟩
set_option maxHeartbeats 0 in
set_option maxRecDepth 100000 in
theorem sum_f (F H : Nat → G) (A B : List Int) (n c m d : Nat) (hA : Rd A F n) (hB : Rd B H m) (hc : n ≤ c) (hd : m ≤ d) (hn : n ≤ 512) (hm : m ≤ 512) :
    Fits Try.prog 42 ⟨[.slice 0 0 n c, .slice 1 0 m d], [.seg false (.ints .u8 A), .seg false (.ints .u8 B)],
      [numOut [.dead, .dead, .seg true (.ints .u8 (tb (gi (sumS F H n m)) (max n m)))] (.slice 2 0 (dg (sumS F H n m) (max n m)) (max n m))]⟩ := by
  refine fits_of_body (C := cfgk 2) (c := k42) (ts := [4]) tokL mixedL (fun | 4 => some ⟨Nat, fun i => st42 F H A B n c m d (max n m) i, fun i => i ≤ m, fun i => m - i⟩ | _ => none) (fun _ => none)
    Try.func42 (by kernel_rfl) (by kernel_rfl) (by kernel_rfl) (by kernel_rfl) rfl ?_
  have TR := trim_f (sumS F H n m) (tb (gi (sumS F H n m)) (max n m)) (max n m) (max n m) (Rd_tb _ _) (Nat.le_refl _) (by omega)
  obtain ⟨hl, hg⟩ := hA
  obtain ⟨hl2, hg2⟩ := hB
  obtain ⟨N, hN⟩ : ∃ N, N = max n m := ⟨_, rfl⟩
  rw [← hN] at TR ⊢
  conv => whnf
  repeat (first
    | (refine And.intro ?_ ?_; (focus (first | omega | decide | exact EqOk.mk (by kernel_rfl) (by kernel_rfl) (by kernel_rfl) | exact Int.natCast_nonneg _ | ((repeat' refine And.intro ?_ ?_) <;> first | omega | exact Int.natCast_nonneg _ | (simp only [i64max, u8max, u16max, u32max, u64max]; omega) | (simp only [mulSz_eq, Cont.len, colsLen, Col.len, List.length_cons, List.length_nil, List.length_replicate, List.length_append]; first | done | omega) | (simp [mulSz, Cont.len, bne]; first | done | omega)))); conv => whnf)
    | (refine tst_in ?_ ?_; (focus (intro h_; exfalso; first | omega | ((try simp only [decide_eq_true_eq, decide_eq_false_iff_not] at h_); omega) | (simp [mulSz, Cont.len, bne] at h_; first | done | omega))); intro _; conv => whnf)
    | (refine tst_in ?_ ?_; rotate_left; (focus (intro h_; exfalso; first | omega | ((try simp only [decide_eq_true_eq, decide_eq_false_iff_not] at h_); omega) | (simp [mulSz, Cont.len, bne] at h_; first | done | omega))); intro _; conv => whnf)
    | (refine ⟨0, (show _ = _ by omega), ?_⟩; conv => whnf))
  have hmx : (max (n : Int) (m : Int)).toNat = N := by omega
  rw [hmx]
  refine ⟨⟨[0, 1, 2], (0 : Nat), ?_, Nat.zero_le _⟩, ?_⟩
  · show stLe _ _ (st42 F H A B n c m d N 0) _
    conv => whnf
    repeat' (first | exact True.intro | rfl | refine And.intro ?_ ?_)
    all_goals (conv => whnf)
    repeat' (first | exact True.intro | rfl | refine And.intro ?_ ?_)
    all_goals (try omega)
    show tb (gi (sumS F H n 0)) N = List.take 0 (List.replicate N 0) ++ List.take (min n N) (List.drop 0 A) ++ List.drop (0 + (List.take (min n N) (List.drop 0 A)).length) (List.replicate N 0)
    rw [List.take_zero, List.nil_append, List.drop_zero, show min n N = n by omega]
    symm
    refine tab_ext 0 ?_ ?_
    · rw [List.length_append, List.length_take, List.length_drop, List.length_replicate]; omega
    · intro k hk
      rw [g_app, List.length_take, show min n A.length = n by omega, g_take, g_drop, g_rep]
      show _ = (((ct F n k + ct H 0 k : G).v : Nat) : Int)
      rw [show ct H 0 k = g0 from if_neg (by omega), a_zero]
      unfold ct
      by_cases h : k < n
      · rw [if_pos h, if_pos h, if_pos h, hg k h]; rfl
      · rw [if_neg h, if_neg h]; split <;> rfl
  · intro (i : Nat) (hi : i ≤ m)
    show forceSt (st42 F H A B n c m d N i) _
    conv => whnf
    repeat (first
      | (refine And.intro ?_ ?_; (focus (first | omega | decide | exact EqOk.mk (by kernel_rfl) (by kernel_rfl) (by kernel_rfl) | exact Int.natCast_nonneg _ | ((repeat' refine And.intro ?_ ?_) <;> first | omega | exact Int.natCast_nonneg _ | (simp only [i64max, u8max, u16max, u32max, u64max]; omega) | (simp only [mulSz_eq, Cont.len, colsLen, Col.len, List.length_cons, List.length_nil, List.length_replicate, List.length_append]; first | done | omega) | (simp [mulSz, Cont.len, bne]; first | done | omega)))); conv => whnf)
      | (refine tst_in ?_ ?_; (focus (intro h_; exfalso; first | omega | ((try simp only [decide_eq_true_eq, decide_eq_false_iff_not] at h_); omega) | (simp [mulSz, Cont.len, bne] at h_; first | done | omega))); intro _; conv => whnf)
      | (refine tst_in ?_ ?_; rotate_left; (focus (intro h_; exfalso; first | omega | ((try simp only [decide_eq_true_eq, decide_eq_false_iff_not] at h_); omega) | (simp [mulSz, Cont.len, bne] at h_; first | done | omega))); intro _; conv => whnf)
      | (refine ⟨0, (show _ = _ by omega), ?_⟩; conv => whnf))
    refine tst_in (fun h => ?_) (fun h' => ?_)
    · have h : i < m := by have := dlt_t h; omega
      have hgi := hg2 i h
      have ho := gi_in (sumS F H n i) i
      have hh := gi_in H i
      have hto : (tb (gi (sumS F H n i)) N).getD i 0 = gi (sumS F H n i) i := tab_get _ _ (by omega)
      conv => whnf
      repeat (first
        | (refine And.intro ?_ ?_; (focus (first | omega | decide | exact EqOk.mk (by kernel_rfl) (by kernel_rfl) (by kernel_rfl) | exact Int.natCast_nonneg _ | ((repeat' refine And.intro ?_ ?_) <;> first | omega | exact Int.natCast_nonneg _ | (simp only [i64max, u8max, u16max, u32max, u64max]; omega) | (simp only [mulSz_eq, Cont.len, colsLen, Col.len, List.length_cons, List.length_nil, List.length_replicate, List.length_append, tab_len]; first | done | omega) | (simp [mulSz, Cont.len, bne, tab_len]; first | done | omega)))); conv => whnf)
        | (refine tst_in ?_ ?_; (focus (intro h_; exfalso; first | omega | ((try simp only [decide_eq_true_eq, decide_eq_false_iff_not] at h_); omega) | (simp [mulSz, Cont.len, bne, tab_len] at h_; first | done | omega))); intro _; conv => whnf)
        | (refine tst_in ?_ ?_; rotate_left; (focus (intro h_; exfalso; first | omega | ((try simp only [decide_eq_true_eq, decide_eq_false_iff_not] at h_); omega) | (simp [mulSz, Cont.len, bne, tab_len] at h_; first | done | omega))); intro _; conv => whnf)
        | (refine ⟨0, (show _ = _ by omega), ?_⟩; conv => whnf))
      rw [show (0 + ((i : Nat) : Int).toNat) = i by omega, hto, hgi]
      refine ⟨⟨ho.1, hh.1, ho.2, hh.2⟩, ?_⟩
      conv => whnf
      repeat (first
        | (refine And.intro ?_ ?_; (focus (first | omega | decide | exact EqOk.mk (by kernel_rfl) (by kernel_rfl) (by kernel_rfl) | exact Int.natCast_nonneg _ | ((repeat' refine And.intro ?_ ?_) <;> first | omega | exact Int.natCast_nonneg _ | (simp only [i64max, u8max, u16max, u32max, u64max]; omega) | (simp only [mulSz_eq, Cont.len, colsLen, Col.len, List.length_cons, List.length_nil, List.length_replicate, List.length_append, tab_len]; first | done | omega) | (simp [mulSz, Cont.len, bne, tab_len]; first | done | omega)))); conv => whnf)
        | (refine tst_in ?_ ?_; (focus (intro h_; exfalso; first | omega | ((try simp only [decide_eq_true_eq, decide_eq_false_iff_not] at h_); omega) | (simp [mulSz, Cont.len, bne, tab_len] at h_; first | done | omega))); intro _; conv => whnf)
        | (refine tst_in ?_ ?_; rotate_left; (focus (intro h_; exfalso; first | omega | ((try simp only [decide_eq_true_eq, decide_eq_false_iff_not] at h_); omega) | (simp [mulSz, Cont.len, bne, tab_len] at h_; first | done | omega))); intro _; conv => whnf)
        | (refine ⟨0, (show _ = _ by omega), ?_⟩; conv => whnf))
      refine ⟨[0, 1, 2], (i + 1 : Nat), ?_, h, by show m - (i + 1) < m - i; omega⟩
      show stLe _ _ (st42 F H A B n c m d N (i + 1)) _
      conv => whnf
      repeat' (first | exact True.intro | rfl | refine And.intro ?_ ?_)
      all_goals (conv => whnf)
      repeat' (first | exact True.intro | rfl | refine And.intro ?_ ?_)
      all_goals (try omega)
      show tb (gi (sumS F H n (i + 1))) N = (tb (gi (sumS F H n i)) N).set (0 + ((i : Nat) : Int).toNat) (((sumS F H n i i + H i : G).v : Nat) : Int)
      rw [show (0 + ((i : Nat) : Int).toNat) = i by omega]
      exact (tab_put (sumS F H n i) N i _ (fun k hk => by
        unfold sumS pa
        rw [ct_succ]
        show _ = if k = i then ct F n i + ct H i i + H i else _
        by_cases h : k = i
        · subst h; rw [if_pos rfl]; show ct F n k + (ct H k k + H k * sh k (fun i => if i = 0 then g1 else g0) k) = _
          rw [sh_in _ (Nat.le_refl _), if_pos (by omega), m_one, a_assoc]
        · rw [if_neg h]; show ct F n k + (ct H i k + H i * sh i (fun i => if i = 0 then g1 else g0) k) = _
          rw [show sh i (fun i => if i = 0 then g1 else g0) k = g0 by (unfold sh; split; exact if_neg (by omega); rfl), m_zero, a_zero])).symm
    · have h : i = m := by have := dlt_f h'; omega
      subst h
      conv => whnf
      repeat (first
        | (refine And.intro ?_ ?_; (focus (first | omega | decide | exact EqOk.mk (by kernel_rfl) (by kernel_rfl) (by kernel_rfl) | exact Int.natCast_nonneg _ | ((repeat' refine And.intro ?_ ?_) <;> first | omega | exact Int.natCast_nonneg _ | (simp only [i64max, u8max, u16max, u32max, u64max]; omega) | (simp only [mulSz_eq, Cont.len, colsLen, Col.len, List.length_cons, List.length_nil, List.length_replicate, List.length_append]; first | done | omega) | (simp [mulSz, Cont.len, bne]; first | done | omega)))); conv => whnf)
        | (refine tst_in ?_ ?_; (focus (intro h_; exfalso; first | omega | ((try simp only [decide_eq_true_eq, decide_eq_false_iff_not] at h_); omega) | (simp [mulSz, Cont.len, bne] at h_; first | done | omega))); intro _; conv => whnf)
        | (refine tst_in ?_ ?_; rotate_left; (focus (intro h_; exfalso; first | omega | ((try simp only [decide_eq_true_eq, decide_eq_false_iff_not] at h_); omega) | (simp [mulSz, Cont.len, bne] at h_; first | done | omega))); intro _; conv => whnf)
        | (refine ⟨0, (show _ = _ by omega), ?_⟩; conv => whnf))
      refine ⟨_, [2], TR, ?_⟩
      conv => whnf
      iterate 2
       refine And.intro ?_ ?_
       focus
        conv => whnf
        repeat' (first | exact True.intro | rfl | refine And.intro ?_ ?_ | omega)
        all_goals (conv => whnf)
        all_goals (try (first | rfl | omega | (simp; done)))
      conv => whnf
      refine ⟨?_, True.intro⟩
      intro _ _
      conv => whnf
      conv => whnf
      repeat (first
        | (refine And.intro ?_ ?_; (focus (first | omega | decide | exact EqOk.mk (by kernel_rfl) (by kernel_rfl) (by kernel_rfl) | exact Int.natCast_nonneg _ | ((repeat' refine And.intro ?_ ?_) <;> first | omega | exact Int.natCast_nonneg _ | (simp only [i64max, u8max, u16max, u32max, u64max]; omega) | (simp only [mulSz_eq, Cont.len, colsLen, Col.len, List.length_cons, List.length_nil, List.length_replicate, List.length_append]; first | done | omega) | (simp [mulSz, Cont.len, bne]; first | done | omega)))); conv => whnf)
        | (refine tst_in ?_ ?_; (focus (intro h_; exfalso; first | omega | ((try simp only [decide_eq_true_eq, decide_eq_false_iff_not] at h_); omega) | (simp [mulSz, Cont.len, bne] at h_; first | done | omega))); intro _; conv => whnf)
        | (refine tst_in ?_ ?_; rotate_left; (focus (intro h_; exfalso; first | omega | ((try simp only [decide_eq_true_eq, decide_eq_false_iff_not] at h_); omega) | (simp [mulSz, Cont.len, bne] at h_; first | done | omega))); intro _; conv => whnf)
        | (refine ⟨0, (show _ = _ by omega), ?_⟩; conv => whnf))
      refine .inl ⟨(), [0, 1, 2], ?_⟩
      conv => whnf
      repeat' (first | exact True.intro | rfl | refine And.intro ?_ ?_)
      all_goals (conv => whnf)
      repeat' (first | exact True.intro | rfl | refine And.intro ?_ ?_)
      all_goals (try omega)
end Go.Proofs.Yteiblfkegnppeaa

set_option linter.unusedVariables false
set_option linter.unusedSimpArgs false
namespace Go.Proofs.Yteiblfkegnppeaa
open Go Go.Fw
/-- So many, if none is too long. -/
def okN (n m N : Nat) : Nat := if 512 < n ∨ 512 < m then 0 else N
def okE (n m : Nat) : Int := if 512 < n ∨ 512 < m then 1 else 0
theorem okN_y {n m : Nat} (N : Nat) (hn : n ≤ 512) (hm : m ≤ 512) : okN n m N = N := if_neg (by omega)
theorem okE_y {n m : Nat} (hn : n ≤ 512) (hm : m ≤ 512) : okE n m = 0 := if_neg (by omega)
theorem okN_n {n m : Nat} (N : Nat) (h : 512 < n ∨ 512 < m) : okN n m N = 0 := if_pos h
theorem okE_n {n m : Nat} (h : 512 < n ∨ 512 < m) : okE n m = 1 := if_pos h
noncomputable def k22 : Code := (Try.f22.body).getD .skip
noncomputable def polOut (P : Nat → G) (l N : Nat) (E : Int) : FOut := numOut [.dead, .dead, .seg true (.ints .u8 (tb (gi P) N))] (.tup [.slice 2 0 l N, .int .i64 E])
set_option maxHeartbeats 0 in
set_option maxRecDepth 100000 in
theorem Sum_g (F H : Nat → G) (A B : List Int) (n c m d : Nat) (hA : Rd A F n) (hB : Rd B H m) (hc : n ≤ c) (hd : m ≤ d) (hn : n ≤ 9223372036854775807) (hm : m ≤ 9223372036854775807) :
    Fits Try.prog 22 ⟨[.slice 0 0 n c, .slice 1 0 m d], [.seg false (.ints .u8 A), .seg false (.ints .u8 B)],
      [polOut (sumS F H n m) (dg (sumS F H n m) (okN n m (max n m))) (okN n m (max n m)) (okE n m)]⟩ := by
  have TL := tooLong2 n c m d hn hm
  refine fits_of_body (C := cfgk 2) (c := k22) (ts := [4, 5]) tokL mixedL (fun _ => none) (fun _ => none)
    Try.func22 (by kernel_rfl) (by kernel_rfl) (by kernel_rfl) (by kernel_rfl) rfl ?_
  conv => whnf
  repeat (first
    | (refine And.intro ?_ ?_; (focus (first | omega | decide | exact EqOk.mk (by kernel_rfl) (by kernel_rfl) (by kernel_rfl) | exact Int.natCast_nonneg _ | ((repeat' refine And.intro ?_ ?_) <;> first | omega | exact Int.natCast_nonneg _ | (simp only [i64max, u8max, u16max, u32max, u64max]; omega) | (simp only [mulSz_eq, Cont.len, colsLen, Col.len, List.length_cons, List.length_nil, List.length_replicate, List.length_append]; first | done | omega) | (simp [mulSz, Cont.len, bne]; first | done | omega)))); conv => whnf)
    | (refine tst_in ?_ ?_; (focus (intro h_; exfalso; first | omega | ((try simp only [decide_eq_true_eq, decide_eq_false_iff_not] at h_); omega) | (simp [mulSz, Cont.len, bne] at h_; first | done | omega))); intro _; conv => whnf)
    | (refine tst_in ?_ ?_; rotate_left; (focus (intro h_; exfalso; first | omega | ((try simp only [decide_eq_true_eq, decide_eq_false_iff_not] at h_); omega) | (simp [mulSz, Cont.len, bne] at h_; first | done | omega))); intro _; conv => whnf)
    | (refine ⟨0, (show _ = _ by omega), ?_⟩; conv => whnf))
  refine ⟨_, [2, 0, 1], TL, ?_⟩
  conv => whnf
  iterate 2
   refine And.intro ?_ ?_
   focus
    conv => whnf
    repeat' (first | exact True.intro | rfl | refine And.intro ?_ ?_)
    all_goals (conv => whnf)
    repeat' (first | exact True.intro | rfl | refine And.intro ?_ ?_)
    all_goals (try (first | rfl | omega | (simp; first | done | omega)))
  conv => whnf
  by_cases hb : 512 < n ∨ 512 < m
  · rw [decide_eq_true hb, okN_n _ hb, okE_n hb]
    conv => whnf
    repeat (first
      | (refine And.intro ?_ ?_; (focus (first | omega | decide | exact EqOk.mk (by kernel_rfl) (by kernel_rfl) (by kernel_rfl) | exact Int.natCast_nonneg _ | ((repeat' refine And.intro ?_ ?_) <;> first | omega | exact Int.natCast_nonneg _ | (simp only [i64max, u8max, u16max, u32max, u64max]; omega) | (simp only [mulSz_eq, Cont.len, colsLen, Col.len, List.length_cons, List.length_nil, List.length_replicate, List.length_append]; first | done | omega) | (simp [mulSz, Cont.len, bne]; first | done | omega)))); conv => whnf)
      | (refine tst_in ?_ ?_; (focus (intro h_; exfalso; first | omega | ((try simp only [decide_eq_true_eq, decide_eq_false_iff_not] at h_); omega) | (simp [mulSz, Cont.len, bne] at h_; first | done | omega))); intro _; conv => whnf)
      | (refine tst_in ?_ ?_; rotate_left; (focus (intro h_; exfalso; first | omega | ((try simp only [decide_eq_true_eq, decide_eq_false_iff_not] at h_); omega) | (simp [mulSz, Cont.len, bne] at h_; first | done | omega))); intro _; conv => whnf)
      | (refine ⟨0, (show _ = _ by omega), ?_⟩; conv => whnf))
    refine .inl ⟨(), [0, 1, 9], ?_⟩
    conv => whnf
    repeat' (first | exact True.intro | rfl | refine And.intro ?_ ?_)
    all_goals (conv => whnf)
    repeat' (first | exact True.intro | rfl | refine And.intro ?_ ?_)
    all_goals (try omega)
  · rw [decide_eq_false hb, okN_y _ (by omega) (by omega), okE_y (by omega) (by omega)]
    have SM := sum_f F H A B n c m d hA hB hc hd (by omega) (by omega)
    conv => whnf
    repeat (first
      | (refine And.intro ?_ ?_; (focus (first | omega | decide | exact EqOk.mk (by kernel_rfl) (by kernel_rfl) (by kernel_rfl) | exact Int.natCast_nonneg _ | ((repeat' refine And.intro ?_ ?_) <;> first | omega | exact Int.natCast_nonneg _ | (simp only [i64max, u8max, u16max, u32max, u64max]; omega) | (simp only [mulSz_eq, Cont.len, colsLen, Col.len, List.length_cons, List.length_nil, List.length_replicate, List.length_append]; first | done | omega) | (simp [mulSz, Cont.len, bne]; first | done | omega)))); conv => whnf)
      | (refine tst_in ?_ ?_; (focus (intro h_; exfalso; first | omega | ((try simp only [decide_eq_true_eq, decide_eq_false_iff_not] at h_); omega) | (simp [mulSz, Cont.len, bne] at h_; first | done | omega))); intro _; conv => whnf)
      | (refine tst_in ?_ ?_; rotate_left; (focus (intro h_; exfalso; first | omega | ((try simp only [decide_eq_true_eq, decide_eq_false_iff_not] at h_); omega) | (simp [mulSz, Cont.len, bne] at h_; first | done | omega))); intro _; conv => whnf)
      | (refine ⟨0, (show _ = _ by omega), ?_⟩; conv => whnf))
    refine ⟨_, [0, 1], SM, ?_⟩
    conv => whnf
    iterate 2
     refine And.intro ?_ ?_
     focus
      conv => whnf
      repeat' (first | exact True.intro | rfl | refine And.intro ?_ ?_ | omega)
      all_goals (conv => whnf)
      all_goals (try (first | rfl | omega | (simp; done)))
    conv => whnf
    refine ⟨?_, True.intro⟩
    intro _ _
    conv => whnf
    conv => whnf
    repeat (first
      | (refine And.intro ?_ ?_; (focus (first | omega | decide | exact EqOk.mk (by kernel_rfl) (by kernel_rfl) (by kernel_rfl) | exact Int.natCast_nonneg _ | ((repeat' refine And.intro ?_ ?_) <;> first | omega | exact Int.natCast_nonneg _ | (simp only [i64max, u8max, u16max, u32max, u64max]; omega) | (simp only [mulSz_eq, Cont.len, colsLen, Col.len, List.length_cons, List.length_nil, List.length_replicate, List.length_append]; first | done | omega) | (simp [mulSz, Cont.len, bne]; first | done | omega)))); conv => whnf)
      | (refine tst_in ?_ ?_; (focus (intro h_; exfalso; first | omega | ((try simp only [decide_eq_true_eq, decide_eq_false_iff_not] at h_); omega) | (simp [mulSz, Cont.len, bne] at h_; first | done | omega))); intro _; conv => whnf)
      | (refine tst_in ?_ ?_; rotate_left; (focus (intro h_; exfalso; first | omega | ((try simp only [decide_eq_true_eq, decide_eq_false_iff_not] at h_); omega) | (simp [mulSz, Cont.len, bne] at h_; first | done | omega))); intro _; conv => whnf)
      | (refine ⟨0, (show _ = _ by omega), ?_⟩; conv => whnf))
    refine .inl ⟨(), [0, 1, 3], ?_⟩
    conv => whnf
    repeat' (first | exact True.intro | rfl | refine And.intro ?_ ?_)
    all_goals (conv => whnf)
    repeat' (first | exact True.intro | rfl | refine And.intro ?_ ?_)
    all_goals (try omega)
end Go.Proofs.Yteiblfkegnppeaa

set_option linter.unusedVariables false
set_option linter.unusedSimpArgs false
namespace Go.Proofs.Yteiblfkegnppeaa
open Go Go.Fw
def natAt (st : St) (t : Nat) : Nat := match slot st.sl t with | .int _ n => n.toNat | _ => 0
noncomputable def k43 : Code := (Try.f43.body).getD .skip
noncomputable def prodP (F H : Nat → G) (n m : Nat) : Nat → G := ac (ct F n) (ct H m) n
def plen (s t : Nat) : Nat := if s = 0 ∨ t = 0 then 0 else s + t - 1
/-- So far: i terms, and of the next one j. -/
noncomputable def part (F H : Nat → G) (i j : Nat) : Nat → G := pa (ac F H i) (ps (F i) (sh i (ct H j)))
theorem part_0 (F H : Nat → G) (i : Nat) : part F H i 0 = ac F H i := by
  unfold part
  rw [show ct H 0 = zf from funext fun i => if_neg (by omega), sh_zf, ps_zf, pa_zf]
theorem part_end {F H : Nat → G} {t : Nat} (h : Zr H t) (i : Nat) : part F H i t = ac F H (i + 1) := by
  unfold part; rw [ct_eq h]; rfl
theorem part_succ (F H : Nat → G) (i j k : Nat) : part F H i (j + 1) k = if k = i + j then part F H i j (i + j) + F i * H j else part F H i j k := by
  unfold part
  rw [ct_succ, sh_pa, ps_pa, ← pa_assoc]
  show pa (ac F H i) (ps (F i) (sh i (ct H j))) k + F i * sh i (ps (H j) (sh j fun i => if i = 0 then g1 else g0)) k = _
  rw [sh_ps, sh_sh]
  show _ + F i * (H j * sh (i + j) (fun i => if i = 0 then g1 else g0) k) = _
  by_cases h : k = i + j
  · subst h; rw [if_pos rfl, sh_in _ (Nat.le_refl _), if_pos (by omega), m_one]
  · rw [if_neg h, show sh (i + j) (fun i => if i = 0 then g1 else g0) k = g0 by (unfold sh; split; exact if_neg (by omega); rfl), m_zero, m_zero, a_zero]
noncomputable def st43 (F H : Nat → G) (A B : List Int) (s c t d L i : Nat) : St := ⟨slotsAt 57 [(0, .slice 0 0 s c), (1, .slice 1 0 t d), (5, .slice 2 0 L L), (29, .slice 0 0 s c), (30, .int .i64 s), (31, .int .i64 i)], [.seg false (.ints .u8 A), .seg false (.ints .u8 B), .seg true (.ints .u8 (tb (gi (ac F H i)) L))]⟩
noncomputable def st43b (F H : Nat → G) (A B : List Int) (s c t d L i j : Nat) : St := ⟨slotsAt 57 [(0, .slice 0 0 s c), (1, .slice 1 0 t d), (5, .slice 2 0 L L), (6, .int .i64 i), (7, .int .u8 (gi F i)), (29, .slice 0 0 s c), (30, .int .i64 s), (31, .int .i64 i), (36, .slice 1 0 t d), (37, .int .i64 t), (38, .int .i64 j)], [.seg false (.ints .u8 A), .seg false (.ints .u8 B), .seg true (.ints .u8 (tb (gi (part F H i j)) L))]⟩
def plan43 : PlanN := .op 0 (.op 1 (.op 2 (.op 6 (.op 7 (.rd 3 (.rd 4 (.rd 5 (.op 8 (.chk [5, 4, 3] (.op 9 (.op 10 (.op 11 .done))))))))))))
noncomputable def cfg43 (F H : Nat → G) (A B : List Int) (s c t d L : Nat) : Cfg := { cfgk 2 with
  dep := fun | 9 => some fun st => ⟨Nat, fun j => st43b F H A B s c t d L (natAt st 31) j, fun j => j ≤ t, fun j => t - j⟩ | _ => none,
  plan := fun | 11 => some (.nn plan43) | _ => none }
set_option maxHeartbeats 0 in
set_option maxRecDepth 100000 in
theorem product_f (F H : Nat → G) (A B : List Int) (n c m d : Nat) (hA : Rd A F n) (hB : Rd B H m) (hc : n ≤ c) (hd : m ≤ d) (hn : n ≤ 512) (hm : m ≤ 512) :
    Fits Try.prog 43 ⟨[.slice 0 0 n c, .slice 1 0 m d], [.seg false (.ints .u8 A), .seg false (.ints .u8 B)],
      [numOut [.dead, .dead, .seg true (.ints .u8 (tb (gi (prodP F H n m)) (plen (dg F n) (dg H m))))] (.slice 2 0 (plen (dg F n) (dg H m)) (plen (dg F n) (dg H m)))]⟩ := by
  have TA := trim_f F A n c hA hc (by omega)
  have TB := trim_f H B m d hB hd (by omega)
  have hs0 := dg_le F n
  have ht0 := dg_le H m
  have hpF := pol_dg F n
  have hpH := pol_dg H m
  have hP : prodP F H n m = ac (ct F n) (ct H m) (dg F n) := ac_le _ _ hpF.1 hs0
  rw [hP]
  have hA2 : Rd A (ct F n) n := Rd_congr hA fun i hi => (ct_lt F hi).symm
  have hB2 : Rd B (ct H m) m := Rd_congr hB fun i hi => (ct_lt H hi).symm
  generalize dg F n = s at *
  generalize dg H m = t at *
  generalize ct F n = F' at *
  generalize ct H m = H' at *
  refine fits_of_body (C := cfg43 F' H' A B s c t d (s + t - 1)) (c := k43) (ts := [4]) tokL mixedL (fun | 6 => some ⟨Nat, fun i => st43 F' H' A B s c t d (s + t - 1) i, fun i => i ≤ s, fun i => s - i⟩ | _ => none) (fun _ => none)
    Try.func43 (by kernel_rfl) (by kernel_rfl) (by kernel_rfl) (by kernel_rfl) rfl ?_
  conv => whnf
  repeat (first
    | (refine And.intro ?_ ?_; (focus (first | omega | decide | exact EqOk.mk (by kernel_rfl) (by kernel_rfl) (by kernel_rfl) | exact Int.natCast_nonneg _ | ((repeat' refine And.intro ?_ ?_) <;> first | omega | exact Int.natCast_nonneg _ | (simp only [i64max, u8max, u16max, u32max, u64max]; omega) | (simp only [mulSz_eq, Cont.len, colsLen, Col.len, List.length_cons, List.length_nil, List.length_replicate, List.length_append]; first | done | omega) | (simp [mulSz, Cont.len, bne]; first | done | omega)))); conv => whnf)
    | (refine tst_in ?_ ?_; (focus (intro h_; exfalso; first | omega | ((try simp only [decide_eq_true_eq, decide_eq_false_iff_not] at h_); omega) | (simp [mulSz, Cont.len, bne] at h_; first | done | omega))); intro _; conv => whnf)
    | (refine tst_in ?_ ?_; rotate_left; (focus (intro h_; exfalso; first | omega | ((try simp only [decide_eq_true_eq, decide_eq_false_iff_not] at h_); omega) | (simp [mulSz, Cont.len, bne] at h_; first | done | omega))); intro _; conv => whnf)
    | (refine ⟨0, (show _ = _ by omega), ?_⟩; conv => whnf))
  refine ⟨_, [0], TA, ?_⟩
  conv => whnf
  iterate 2
   refine And.intro ?_ ?_
   focus
    conv => whnf
    repeat' (first | exact True.intro | rfl | refine And.intro ?_ ?_ | omega)
    all_goals (conv => whnf)
    all_goals (try (first | rfl | omega | (simp; done)))
  conv => whnf
  refine ⟨?_, True.intro⟩
  intro _ _
  conv => whnf
  conv => whnf
  repeat (first
    | (refine And.intro ?_ ?_; (focus (first | omega | decide | exact EqOk.mk (by kernel_rfl) (by kernel_rfl) (by kernel_rfl) | exact Int.natCast_nonneg _ | ((repeat' refine And.intro ?_ ?_) <;> first | omega | exact Int.natCast_nonneg _ | (simp only [i64max, u8max, u16max, u32max, u64max]; omega) | (simp only [mulSz_eq, Cont.len, colsLen, Col.len, List.length_cons, List.length_nil, List.length_replicate, List.length_append]; first | done | omega) | (simp [mulSz, Cont.len, bne]; first | done | omega)))); conv => whnf)
    | (refine tst_in ?_ ?_; (focus (intro h_; exfalso; first | omega | ((try simp only [decide_eq_true_eq, decide_eq_false_iff_not] at h_); omega) | (simp [mulSz, Cont.len, bne] at h_; first | done | omega))); intro _; conv => whnf)
    | (refine tst_in ?_ ?_; rotate_left; (focus (intro h_; exfalso; first | omega | ((try simp only [decide_eq_true_eq, decide_eq_false_iff_not] at h_); omega) | (simp [mulSz, Cont.len, bne] at h_; first | done | omega))); intro _; conv => whnf)
    | (refine ⟨0, (show _ = _ by omega), ?_⟩; conv => whnf))
  refine ⟨_, [1], TB, ?_⟩
  conv => whnf
  iterate 2
   refine And.intro ?_ ?_
   focus
    conv => whnf
    repeat' (first | exact True.intro | rfl | refine And.intro ?_ ?_ | omega)
    all_goals (conv => whnf)
    all_goals (try (first | rfl | omega | (simp; done)))
  conv => whnf
  refine ⟨?_, True.intro⟩
  intro _ _
  conv => whnf
  conv => whnf
  repeat (first
    | (refine And.intro ?_ ?_; (focus (first | omega | decide | exact EqOk.mk (by kernel_rfl) (by kernel_rfl) (by kernel_rfl) | exact Int.natCast_nonneg _ | ((repeat' refine And.intro ?_ ?_) <;> first | omega | exact Int.natCast_nonneg _ | (simp only [i64max, u8max, u16max, u32max, u64max]; omega) | (simp only [mulSz_eq, Cont.len, colsLen, Col.len, List.length_cons, List.length_nil, List.length_replicate, List.length_append]; first | done | omega) | (simp [mulSz, Cont.len, bne]; first | done | omega)))); conv => whnf)
    | (refine tst_in ?_ ?_; (focus (intro h_; exfalso; first | omega | ((try simp only [decide_eq_true_eq, decide_eq_false_iff_not] at h_); omega) | (simp [mulSz, Cont.len, bne] at h_; first | done | omega))); intro _; conv => whnf)
    | (refine tst_in ?_ ?_; rotate_left; (focus (intro h_; exfalso; first | omega | ((try simp only [decide_eq_true_eq, decide_eq_false_iff_not] at h_); omega) | (simp [mulSz, Cont.len, bne] at h_; first | done | omega))); intro _; conv => whnf)
    | (refine ⟨0, (show _ = _ by omega), ?_⟩; conv => whnf))
  refine tst_in (fun h => ?_) (fun h' => ?_)
  · have h : s = 0 := by simp at h; omega
    subst h
    rw [show plen 0 t = 0 from if_pos (.inl rfl)]
    conv => whnf
    repeat (first
      | (refine And.intro ?_ ?_; (focus (first | omega | decide | exact EqOk.mk (by kernel_rfl) (by kernel_rfl) (by kernel_rfl) | exact Int.natCast_nonneg _ | ((repeat' refine And.intro ?_ ?_) <;> first | omega | exact Int.natCast_nonneg _ | (simp only [i64max, u8max, u16max, u32max, u64max]; omega) | (simp only [mulSz_eq, Cont.len, colsLen, Col.len, List.length_cons, List.length_nil, List.length_replicate, List.length_append]; first | done | omega) | (simp [mulSz, Cont.len, bne]; first | done | omega)))); conv => whnf)
      | (refine tst_in ?_ ?_; (focus (intro h_; exfalso; first | omega | ((try simp only [decide_eq_true_eq, decide_eq_false_iff_not] at h_); omega) | (simp [mulSz, Cont.len, bne] at h_; first | done | omega))); intro _; conv => whnf)
      | (refine tst_in ?_ ?_; rotate_left; (focus (intro h_; exfalso; first | omega | ((try simp only [decide_eq_true_eq, decide_eq_false_iff_not] at h_); omega) | (simp [mulSz, Cont.len, bne] at h_; first | done | omega))); intro _; conv => whnf)
      | (refine ⟨0, (show _ = _ by omega), ?_⟩; conv => whnf))
    refine .inl ⟨(), [0, 1, 9], ?_⟩
    conv => whnf
    repeat' (first | exact True.intro | rfl | refine And.intro ?_ ?_)
    all_goals (conv => whnf)
    repeat' (first | exact True.intro | rfl | refine And.intro ?_ ?_)
    all_goals (try omega)
  · have h : s ≠ 0 := by simp at h'; omega
    conv => whnf
    repeat (first
      | (refine And.intro ?_ ?_; (focus (first | omega | decide | exact EqOk.mk (by kernel_rfl) (by kernel_rfl) (by kernel_rfl) | exact Int.natCast_nonneg _ | ((repeat' refine And.intro ?_ ?_) <;> first | omega | exact Int.natCast_nonneg _ | (simp only [i64max, u8max, u16max, u32max, u64max]; omega) | (simp only [mulSz_eq, Cont.len, colsLen, Col.len, List.length_cons, List.length_nil, List.length_replicate, List.length_append]; first | done | omega) | (simp [mulSz, Cont.len, bne]; first | done | omega)))); conv => whnf)
      | (refine tst_in ?_ ?_; (focus (intro h_; exfalso; first | omega | ((try simp only [decide_eq_true_eq, decide_eq_false_iff_not] at h_); omega) | (simp [mulSz, Cont.len, bne] at h_; first | done | omega))); intro _; conv => whnf)
      | (refine tst_in ?_ ?_; rotate_left; (focus (intro h_; exfalso; first | omega | ((try simp only [decide_eq_true_eq, decide_eq_false_iff_not] at h_); omega) | (simp [mulSz, Cont.len, bne] at h_; first | done | omega))); intro _; conv => whnf)
      | (refine ⟨0, (show _ = _ by omega), ?_⟩; conv => whnf))
    refine tst_in (fun q => ?_) (fun q' => ?_)
    · have q : t = 0 := by simp at q; omega
      subst q
      rw [show plen s 0 = 0 from if_pos (.inr rfl)]
      conv => whnf
      repeat (first
        | (refine And.intro ?_ ?_; (focus (first | omega | decide | exact EqOk.mk (by kernel_rfl) (by kernel_rfl) (by kernel_rfl) | exact Int.natCast_nonneg _ | ((repeat' refine And.intro ?_ ?_) <;> first | omega | exact Int.natCast_nonneg _ | (simp only [i64max, u8max, u16max, u32max, u64max]; omega) | (simp only [mulSz_eq, Cont.len, colsLen, Col.len, List.length_cons, List.length_nil, List.length_replicate, List.length_append]; first | done | omega) | (simp [mulSz, Cont.len, bne]; first | done | omega)))); conv => whnf)
        | (refine tst_in ?_ ?_; (focus (intro h_; exfalso; first | omega | ((try simp only [decide_eq_true_eq, decide_eq_false_iff_not] at h_); omega) | (simp [mulSz, Cont.len, bne] at h_; first | done | omega))); intro _; conv => whnf)
        | (refine tst_in ?_ ?_; rotate_left; (focus (intro h_; exfalso; first | omega | ((try simp only [decide_eq_true_eq, decide_eq_false_iff_not] at h_); omega) | (simp [mulSz, Cont.len, bne] at h_; first | done | omega))); intro _; conv => whnf)
        | (refine ⟨0, (show _ = _ by omega), ?_⟩; conv => whnf))
      refine .inl ⟨(), [0, 1, 9], ?_⟩
      conv => whnf
      repeat' (first | exact True.intro | rfl | refine And.intro ?_ ?_)
      all_goals (conv => whnf)
      repeat' (first | exact True.intro | rfl | refine And.intro ?_ ?_)
      all_goals (try omega)
    · have q : t ≠ 0 := by simp at q'; omega
      rw [show plen s t = s + t - 1 from if_neg (by omega)]
      obtain ⟨L, hL⟩ : ∃ L, L = s + t - 1 := ⟨_, rfl⟩
      rw [← hL]
      conv => whnf
      repeat (first
        | (refine And.intro ?_ ?_; (focus (first | omega | decide | exact EqOk.mk (by kernel_rfl) (by kernel_rfl) (by kernel_rfl) | exact Int.natCast_nonneg _ | ((repeat' refine And.intro ?_ ?_) <;> first | omega | exact Int.natCast_nonneg _ | (simp only [i64max, u8max, u16max, u32max, u64max]; omega) | (simp only [mulSz_eq, Cont.len, colsLen, Col.len, List.length_cons, List.length_nil, List.length_replicate, List.length_append]; first | done | omega) | (simp [mulSz, Cont.len, bne]; first | done | omega)))); conv => whnf)
        | (refine tst_in ?_ ?_; (focus (intro h_; exfalso; first | omega | ((try simp only [decide_eq_true_eq, decide_eq_false_iff_not] at h_); omega) | (simp [mulSz, Cont.len, bne] at h_; first | done | omega))); intro _; conv => whnf)
        | (refine tst_in ?_ ?_; rotate_left; (focus (intro h_; exfalso; first | omega | ((try simp only [decide_eq_true_eq, decide_eq_false_iff_not] at h_); omega) | (simp [mulSz, Cont.len, bne] at h_; first | done | omega))); intro _; conv => whnf)
        | (refine ⟨0, (show _ = _ by omega), ?_⟩; conv => whnf))
      rw [show ((s : Int) + (t : Int) - 1).toNat = L by omega]
      obtain ⟨hl, hg⟩ := hA2
      obtain ⟨hl2, hg2⟩ := hB2
      refine ⟨⟨[0, 1, 2], (0 : Nat), ?_, Nat.zero_le _⟩, ?_⟩
      · show stLe _ _ (st43 F' H' A B s c t d L 0) _
        conv => whnf
        repeat' (first | exact True.intro | rfl | refine And.intro ?_ ?_)
        all_goals (conv => whnf)
        repeat' (first | exact True.intro | rfl | refine And.intro ?_ ?_)
        all_goals (try omega)
        exact (tab_ext 0 (List.length_replicate ..) fun k hk => by rw [g_rep, if_pos hk]; rfl).symm
      · intro (i : Nat) (hi : i ≤ s)
        show forceSt (st43 F' H' A B s c t d L i) _
        conv => whnf
        repeat (first
          | (refine And.intro ?_ ?_; (focus (first | omega | decide | exact EqOk.mk (by kernel_rfl) (by kernel_rfl) (by kernel_rfl) | exact Int.natCast_nonneg _ | ((repeat' refine And.intro ?_ ?_) <;> first | omega | exact Int.natCast_nonneg _ | (simp only [i64max, u8max, u16max, u32max, u64max]; omega) | (simp only [mulSz_eq, Cont.len, colsLen, Col.len, List.length_cons, List.length_nil, List.length_replicate, List.length_append]; first | done | omega) | (simp [mulSz, Cont.len, bne]; first | done | omega)))); conv => whnf)
          | (refine tst_in ?_ ?_; (focus (intro h_; exfalso; first | omega | ((try simp only [decide_eq_true_eq, decide_eq_false_iff_not] at h_); omega) | (simp [mulSz, Cont.len, bne] at h_; first | done | omega))); intro _; conv => whnf)
          | (refine tst_in ?_ ?_; rotate_left; (focus (intro h_; exfalso; first | omega | ((try simp only [decide_eq_true_eq, decide_eq_false_iff_not] at h_); omega) | (simp [mulSz, Cont.len, bne] at h_; first | done | omega))); intro _; conv => whnf)
          | (refine ⟨0, (show _ = _ by omega), ?_⟩; conv => whnf))
        refine tst_in (fun r => ?_) (fun r' => ?_)
        · have r : i < s := by have := dlt_t r; omega
          have hgi := hg i (by omega)
          conv => whnf
          repeat (first
            | (refine And.intro ?_ ?_; (focus (first | omega | decide | exact EqOk.mk (by kernel_rfl) (by kernel_rfl) (by kernel_rfl) | exact Int.natCast_nonneg _ | ((repeat' refine And.intro ?_ ?_) <;> first | omega | exact Int.natCast_nonneg _ | (simp only [i64max, u8max, u16max, u32max, u64max]; omega) | (simp only [mulSz_eq, Cont.len, colsLen, Col.len, List.length_cons, List.length_nil, List.length_replicate, List.length_append]; first | done | omega) | (simp [mulSz, Cont.len, bne]; first | done | omega)))); conv => whnf)
            | (refine tst_in ?_ ?_; (focus (intro h_; exfalso; first | omega | ((try simp only [decide_eq_true_eq, decide_eq_false_iff_not] at h_); omega) | (simp [mulSz, Cont.len, bne] at h_; first | done | omega))); intro _; conv => whnf)
            | (refine tst_in ?_ ?_; rotate_left; (focus (intro h_; exfalso; first | omega | ((try simp only [decide_eq_true_eq, decide_eq_false_iff_not] at h_); omega) | (simp [mulSz, Cont.len, bne] at h_; first | done | omega))); intro _; conv => whnf)
            | (refine ⟨0, (show _ = _ by omega), ?_⟩; conv => whnf))
          rw [show (0 + ((i : Nat) : Int).toNat) = i by omega, hgi]
          refine ⟨⟨[0, 1, 2], (0 : Nat), ?_, Nat.zero_le _⟩, ?_⟩
          · show stLe _ _ (st43b F' H' A B s c t d L i 0) _
            conv => whnf
            repeat' (first | exact True.intro | rfl | refine And.intro ?_ ?_)
            all_goals (conv => whnf)
            repeat' (first | exact True.intro | rfl | refine And.intro ?_ ?_)
            all_goals (try omega)
            rw [part_0]
          · intro (j : Nat) (hj : j ≤ t)
            show forceSt (st43b F' H' A B s c t d L i j) _
            conv => whnf
            repeat (first
              | (refine And.intro ?_ ?_; (focus (first | omega | decide | exact EqOk.mk (by kernel_rfl) (by kernel_rfl) (by kernel_rfl) | exact Int.natCast_nonneg _ | ((repeat' refine And.intro ?_ ?_) <;> first | omega | exact Int.natCast_nonneg _ | (simp only [i64max, u8max, u16max, u32max, u64max]; omega) | (simp only [mulSz_eq, Cont.len, colsLen, Col.len, List.length_cons, List.length_nil, List.length_replicate, List.length_append]; first | done | omega) | (simp [mulSz, Cont.len, bne]; first | done | omega)))); conv => whnf)
              | (refine tst_in ?_ ?_; (focus (intro h_; exfalso; first | omega | ((try simp only [decide_eq_true_eq, decide_eq_false_iff_not] at h_); omega) | (simp [mulSz, Cont.len, bne] at h_; first | done | omega))); intro _; conv => whnf)
              | (refine tst_in ?_ ?_; rotate_left; (focus (intro h_; exfalso; first | omega | ((try simp only [decide_eq_true_eq, decide_eq_false_iff_not] at h_); omega) | (simp [mulSz, Cont.len, bne] at h_; first | done | omega))); intro _; conv => whnf)
              | (refine ⟨0, (show _ = _ by omega), ?_⟩; conv => whnf))
            refine tst_in (fun u => ?_) (fun u' => ?_)
            · have u : j < t := by have := dlt_t u; omega
              have hgj := hg2 j (by omega)
              have TM := Times_g (F' i) (H' j)
              have ho := gi_in (part F' H' i j) (i + j)
              have hm := (F' i * H' j).lt
              have hto : (tb (gi (part F' H' i j)) L).getD (i + j) 0 = gi (part F' H' i j) (i + j) := tab_get _ _ (by omega)
              conv => whnf
              repeat (first
                | (refine And.intro ?_ ?_; (focus (first | omega | decide | exact EqOk.mk (by kernel_rfl) (by kernel_rfl) (by kernel_rfl) | exact Int.natCast_nonneg _ | ((repeat' refine And.intro ?_ ?_) <;> first | omega | exact Int.natCast_nonneg _ | (simp only [i64max, u8max, u16max, u32max, u64max]; omega) | (simp only [mulSz_eq, Cont.len, colsLen, Col.len, List.length_cons, List.length_nil, List.length_replicate, List.length_append, tab_len]; first | done | omega) | (simp [mulSz, Cont.len, bne, tab_len]; first | done | omega)))); conv => whnf)
                | (refine tst_in ?_ ?_; (focus (intro h_; exfalso; first | omega | ((try simp only [decide_eq_true_eq, decide_eq_false_iff_not] at h_); omega) | (simp [mulSz, Cont.len, bne, tab_len] at h_; first | done | omega))); intro _; conv => whnf)
                | (refine tst_in ?_ ?_; rotate_left; (focus (intro h_; exfalso; first | omega | ((try simp only [decide_eq_true_eq, decide_eq_false_iff_not] at h_); omega) | (simp [mulSz, Cont.len, bne, tab_len] at h_; first | done | omega))); intro _; conv => whnf)
                | (refine ⟨0, (show _ = _ by omega), ?_⟩; conv => whnf))
              rw [show (0 + ((j : Nat) : Int).toNat) = j by omega, hgj]
              refine ⟨_, [], TM, ?_⟩
              conv => whnf
              iterate 2
               refine And.intro ?_ ?_
               focus
                conv => whnf
                repeat' (first | exact True.intro | rfl | refine And.intro ?_ ?_ | omega)
                all_goals (conv => whnf)
                all_goals (try (first | rfl | omega | (simp; done)))
              conv => whnf
              conv => whnf
              repeat (first
                | (refine And.intro ?_ ?_; (focus (first | omega | decide | exact EqOk.mk (by kernel_rfl) (by kernel_rfl) (by kernel_rfl) | exact Int.natCast_nonneg _ | ((repeat' refine And.intro ?_ ?_) <;> first | omega | exact Int.natCast_nonneg _ | (simp only [i64max, u8max, u16max, u32max, u64max]; omega) | (simp only [mulSz_eq, Cont.len, colsLen, Col.len, List.length_cons, List.length_nil, List.length_replicate, List.length_append, tab_len]; first | done | omega) | (simp [mulSz, Cont.len, bne, tab_len]; first | done | omega)))); conv => whnf)
                | (refine tst_in ?_ ?_; (focus (intro h_; exfalso; first | omega | ((try simp only [decide_eq_true_eq, decide_eq_false_iff_not] at h_); omega) | (simp [mulSz, Cont.len, bne, tab_len] at h_; first | done | omega))); intro _; conv => whnf)
                | (refine tst_in ?_ ?_; rotate_left; (focus (intro h_; exfalso; first | omega | ((try simp only [decide_eq_true_eq, decide_eq_false_iff_not] at h_); omega) | (simp [mulSz, Cont.len, bne, tab_len] at h_; first | done | omega))); intro _; conv => whnf)
                | (refine ⟨0, (show _ = _ by omega), ?_⟩; conv => whnf))
              rw [show (0 + ((i : Nat) + (j : Nat) : Int).toNat) = i + j by omega, hto]
              refine ⟨⟨ho.1, by omega, ho.2, by rw [u8max]; omega⟩, ?_⟩
              conv => whnf
              repeat (first
                | (refine And.intro ?_ ?_; (focus (first | omega | decide | exact EqOk.mk (by kernel_rfl) (by kernel_rfl) (by kernel_rfl) | exact Int.natCast_nonneg _ | ((repeat' refine And.intro ?_ ?_) <;> first | omega | exact Int.natCast_nonneg _ | (simp only [i64max, u8max, u16max, u32max, u64max]; omega) | (simp only [mulSz_eq, Cont.len, colsLen, Col.len, List.length_cons, List.length_nil, List.length_replicate, List.length_append, tab_len]; first | done | omega) | (simp [mulSz, Cont.len, bne, tab_len]; first | done | omega)))); conv => whnf)
                | (refine tst_in ?_ ?_; (focus (intro h_; exfalso; first | omega | ((try simp only [decide_eq_true_eq, decide_eq_false_iff_not] at h_); omega) | (simp [mulSz, Cont.len, bne, tab_len] at h_; first | done | omega))); intro _; conv => whnf)
                | (refine tst_in ?_ ?_; rotate_left; (focus (intro h_; exfalso; first | omega | ((try simp only [decide_eq_true_eq, decide_eq_false_iff_not] at h_); omega) | (simp [mulSz, Cont.len, bne, tab_len] at h_; first | done | omega))); intro _; conv => whnf)
                | (refine ⟨0, (show _ = _ by omega), ?_⟩; conv => whnf))
              refine ⟨[0, 1, 2], (j + 1 : Nat), ?_, u, by show t - (j + 1) < t - j; omega⟩
              show stLe _ _ (st43b F' H' A B s c t d L i (j + 1)) _
              conv => whnf
              repeat' (first | exact True.intro | rfl | refine And.intro ?_ ?_)
              all_goals (conv => whnf)
              repeat' (first | exact True.intro | rfl | refine And.intro ?_ ?_)
              all_goals (try omega)
              show tb (gi (part F' H' i (j + 1))) L = (tb (gi (part F' H' i j)) L).set (0 + ((i : Nat) + (j : Nat) : Int).toNat) (((part F' H' i j (i + j) + F' i * H' j : G).v : Nat) : Int)
              rw [show (0 + ((i : Nat) + (j : Nat) : Int).toNat) = i + j by omega]
              exact (tab_put _ L (i + j) _ fun k hk => part_succ F' H' i j k).symm
            · have u : j = t := by have := dlt_f u'; omega
              subst u
              conv => whnf
              repeat (first
                | (refine And.intro ?_ ?_; (focus (first | omega | decide | exact EqOk.mk (by kernel_rfl) (by kernel_rfl) (by kernel_rfl) | exact Int.natCast_nonneg _ | ((repeat' refine And.intro ?_ ?_) <;> first | omega | exact Int.natCast_nonneg _ | (simp only [i64max, u8max, u16max, u32max, u64max]; omega) | (simp only [mulSz_eq, Cont.len, colsLen, Col.len, List.length_cons, List.length_nil, List.length_replicate, List.length_append]; first | done | omega) | (simp [mulSz, Cont.len, bne]; first | done | omega)))); conv => whnf)
                | (refine tst_in ?_ ?_; (focus (intro h_; exfalso; first | omega | ((try simp only [decide_eq_true_eq, decide_eq_false_iff_not] at h_); omega) | (simp [mulSz, Cont.len, bne] at h_; first | done | omega))); intro _; conv => whnf)
                | (refine tst_in ?_ ?_; rotate_left; (focus (intro h_; exfalso; first | omega | ((try simp only [decide_eq_true_eq, decide_eq_false_iff_not] at h_); omega) | (simp [mulSz, Cont.len, bne] at h_; first | done | omega))); intro _; conv => whnf)
                | (refine ⟨0, (show _ = _ by omega), ?_⟩; conv => whnf))
              refine ⟨[0, 1, 2], (i + 1 : Nat), ?_, r, by show s - (i + 1) < s - i; omega⟩
              show stLe _ _ (st43 F' H' A B s c j d L (i + 1)) _
              conv => whnf
              repeat' (first | exact True.intro | rfl | refine And.intro ?_ ?_)
              all_goals (conv => whnf)
              repeat' (first | exact True.intro | rfl | refine And.intro ?_ ?_)
              all_goals (try omega)
              rw [part_end hpH.1]
        · have r : i = s := by have := dlt_f r'; omega
          subst r
          conv => whnf
          repeat (first
            | (refine And.intro ?_ ?_; (focus (first | omega | decide | exact EqOk.mk (by kernel_rfl) (by kernel_rfl) (by kernel_rfl) | exact Int.natCast_nonneg _ | ((repeat' refine And.intro ?_ ?_) <;> first | omega | exact Int.natCast_nonneg _ | (simp only [i64max, u8max, u16max, u32max, u64max]; omega) | (simp only [mulSz_eq, Cont.len, colsLen, Col.len, List.length_cons, List.length_nil, List.length_replicate, List.length_append]; first | done | omega) | (simp [mulSz, Cont.len, bne]; first | done | omega)))); conv => whnf)
            | (refine tst_in ?_ ?_; (focus (intro h_; exfalso; first | omega | ((try simp only [decide_eq_true_eq, decide_eq_false_iff_not] at h_); omega) | (simp [mulSz, Cont.len, bne] at h_; first | done | omega))); intro _; conv => whnf)
            | (refine tst_in ?_ ?_; rotate_left; (focus (intro h_; exfalso; first | omega | ((try simp only [decide_eq_true_eq, decide_eq_false_iff_not] at h_); omega) | (simp [mulSz, Cont.len, bne] at h_; first | done | omega))); intro _; conv => whnf)
            | (refine ⟨0, (show _ = _ by omega), ?_⟩; conv => whnf))
          refine .inl ⟨(), [0, 1, 2], ?_⟩
          conv => whnf
          repeat' (first | exact True.intro | rfl | refine And.intro ?_ ?_)
          all_goals (conv => whnf)
          repeat' (first | exact True.intro | rfl | refine And.intro ?_ ?_)
          all_goals (try omega)
end Go.Proofs.Yteiblfkegnppeaa

set_option linter.unusedVariables false
set_option linter.unusedSimpArgs false
namespace Go.Proofs.Yteiblfkegnppeaa
open Go Go.Fw
noncomputable def k23 : Code := (Try.f23.body).getD .skip
def okQ (n m l N : Nat) : Nat := if 512 < n ∨ 512 < m ∨ 512 < l then 0 else N
def okQE (n m l : Nat) : Int := if 512 < n ∨ 512 < m ∨ 512 < l then 1 else 0
set_option maxHeartbeats 0 in
set_option maxRecDepth 100000 in
theorem Product_g (F H : Nat → G) (A B : List Int) (n c m d : Nat) (hA : Rd A F n) (hB : Rd B H m) (hc : n ≤ c) (hd : m ≤ d) (hn : n ≤ 9223372036854775807) (hm : m ≤ 9223372036854775807) :
    Fits Try.prog 23 ⟨[.slice 0 0 n c, .slice 1 0 m d], [.seg false (.ints .u8 A), .seg false (.ints .u8 B)],
      [polOut (prodP F H n m) (okQ n m (plen (dg F n) (dg H m)) (plen (dg F n) (dg H m))) (okQ n m (plen (dg F n) (dg H m)) (plen (dg F n) (dg H m))) (okQE n m (plen (dg F n) (dg H m)))]⟩ := by
  have TL := tooLong2 n c m d hn hm
  refine fits_of_body (C := cfgk 2) (c := k23) (ts := [4, 5]) tokL mixedL (fun _ => none) (fun _ => none)
    Try.func23 (by kernel_rfl) (by kernel_rfl) (by kernel_rfl) (by kernel_rfl) rfl ?_
  have hpl : n ≤ 512 → m ≤ 512 → plen (dg F n) (dg H m) ≤ 1024 := fun h1 h2 => by
    have := dg_le F n; have := dg_le H m; unfold plen; split <;> omega
  conv => whnf
  repeat (first
    | (refine And.intro ?_ ?_; (focus (first | omega | decide | exact EqOk.mk (by kernel_rfl) (by kernel_rfl) (by kernel_rfl) | exact Int.natCast_nonneg _ | ((repeat' refine And.intro ?_ ?_) <;> first | omega | exact Int.natCast_nonneg _ | (simp only [i64max, u8max, u16max, u32max, u64max]; omega) | (simp only [mulSz_eq, Cont.len, colsLen, Col.len, List.length_cons, List.length_nil, List.length_replicate, List.length_append]; first | done | omega) | (simp [mulSz, Cont.len, bne]; first | done | omega)))); conv => whnf)
    | (refine tst_in ?_ ?_; (focus (intro h_; exfalso; first | omega | ((try simp only [decide_eq_true_eq, decide_eq_false_iff_not] at h_); omega) | (simp [mulSz, Cont.len, bne] at h_; first | done | omega))); intro _; conv => whnf)
    | (refine tst_in ?_ ?_; rotate_left; (focus (intro h_; exfalso; first | omega | ((try simp only [decide_eq_true_eq, decide_eq_false_iff_not] at h_); omega) | (simp [mulSz, Cont.len, bne] at h_; first | done | omega))); intro _; conv => whnf)
    | (refine ⟨0, (show _ = _ by omega), ?_⟩; conv => whnf))
  refine ⟨_, [2, 0, 1], TL, ?_⟩
  conv => whnf
  iterate 2
   refine And.intro ?_ ?_
   focus
    conv => whnf
    repeat' (first | exact True.intro | rfl | refine And.intro ?_ ?_)
    all_goals (conv => whnf)
    repeat' (first | exact True.intro | rfl | refine And.intro ?_ ?_)
    all_goals (try (first | rfl | omega | (simp; first | done | omega)))
  conv => whnf
  by_cases hb : 512 < n ∨ 512 < m
  · rw [decide_eq_true hb, show okQ n m (plen (dg F n) (dg H m)) (plen (dg F n) (dg H m)) = 0 from if_pos (by omega), show okQE n m (plen (dg F n) (dg H m)) = 1 from if_pos (by omega)]
    conv => whnf
    repeat (first
      | (refine And.intro ?_ ?_; (focus (first | omega | decide | exact EqOk.mk (by kernel_rfl) (by kernel_rfl) (by kernel_rfl) | exact Int.natCast_nonneg _ | ((repeat' refine And.intro ?_ ?_) <;> first | omega | exact Int.natCast_nonneg _ | (simp only [i64max, u8max, u16max, u32max, u64max]; omega) | (simp only [mulSz_eq, Cont.len, colsLen, Col.len, List.length_cons, List.length_nil, List.length_replicate, List.length_append]; first | done | omega) | (simp [mulSz, Cont.len, bne]; first | done | omega)))); conv => whnf)
      | (refine tst_in ?_ ?_; (focus (intro h_; exfalso; first | omega | ((try simp only [decide_eq_true_eq, decide_eq_false_iff_not] at h_); omega) | (simp [mulSz, Cont.len, bne] at h_; first | done | omega))); intro _; conv => whnf)
      | (refine tst_in ?_ ?_; rotate_left; (focus (intro h_; exfalso; first | omega | ((try simp only [decide_eq_true_eq, decide_eq_false_iff_not] at h_); omega) | (simp [mulSz, Cont.len, bne] at h_; first | done | omega))); intro _; conv => whnf)
      | (refine ⟨0, (show _ = _ by omega), ?_⟩; conv => whnf))
    refine .inl ⟨(), [0, 1, 9], ?_⟩
    conv => whnf
    repeat' (first | exact True.intro | rfl | refine And.intro ?_ ?_)
    all_goals (conv => whnf)
    repeat' (first | exact True.intro | rfl | refine And.intro ?_ ?_)
    all_goals (try omega)
  · rw [decide_eq_false hb]
    have PR := product_f F H A B n c m d hA hB hc hd (by omega) (by omega)
    have hpl := hpl (by omega) (by omega)
    generalize plen (dg F n) (dg H m) = l at *
    have TK := tooLong1 l l (by omega)
    conv => whnf
    repeat (first
      | (refine And.intro ?_ ?_; (focus (first | omega | decide | exact EqOk.mk (by kernel_rfl) (by kernel_rfl) (by kernel_rfl) | exact Int.natCast_nonneg _ | ((repeat' refine And.intro ?_ ?_) <;> first | omega | exact Int.natCast_nonneg _ | (simp only [i64max, u8max, u16max, u32max, u64max]; omega) | (simp only [mulSz_eq, Cont.len, colsLen, Col.len, List.length_cons, List.length_nil, List.length_replicate, List.length_append]; first | done | omega) | (simp [mulSz, Cont.len, bne]; first | done | omega)))); conv => whnf)
      | (refine tst_in ?_ ?_; (focus (intro h_; exfalso; first | omega | ((try simp only [decide_eq_true_eq, decide_eq_false_iff_not] at h_); omega) | (simp [mulSz, Cont.len, bne] at h_; first | done | omega))); intro _; conv => whnf)
      | (refine tst_in ?_ ?_; rotate_left; (focus (intro h_; exfalso; first | omega | ((try simp only [decide_eq_true_eq, decide_eq_false_iff_not] at h_); omega) | (simp [mulSz, Cont.len, bne] at h_; first | done | omega))); intro _; conv => whnf)
      | (refine ⟨0, (show _ = _ by omega), ?_⟩; conv => whnf))
    refine ⟨_, [0, 1], PR, ?_⟩
    conv => whnf
    iterate 2
     refine And.intro ?_ ?_
     focus
      conv => whnf
      repeat' (first | exact True.intro | rfl | refine And.intro ?_ ?_ | omega)
      all_goals (conv => whnf)
      all_goals (try (first | rfl | omega | (simp; done)))
    conv => whnf
    refine ⟨?_, True.intro⟩
    intro _ _
    conv => whnf
    conv => whnf
    repeat (first
      | (refine And.intro ?_ ?_; (focus (first | omega | decide | exact EqOk.mk (by kernel_rfl) (by kernel_rfl) (by kernel_rfl) | exact Int.natCast_nonneg _ | ((repeat' refine And.intro ?_ ?_) <;> first | omega | exact Int.natCast_nonneg _ | (simp only [i64max, u8max, u16max, u32max, u64max]; omega) | (simp only [mulSz_eq, Cont.len, colsLen, Col.len, List.length_cons, List.length_nil, List.length_replicate, List.length_append]; first | done | omega) | (simp [mulSz, Cont.len, bne]; first | done | omega)))); conv => whnf)
      | (refine tst_in ?_ ?_; (focus (intro h_; exfalso; first | omega | ((try simp only [decide_eq_true_eq, decide_eq_false_iff_not] at h_); omega) | (simp [mulSz, Cont.len, bne] at h_; first | done | omega))); intro _; conv => whnf)
      | (refine tst_in ?_ ?_; rotate_left; (focus (intro h_; exfalso; first | omega | ((try simp only [decide_eq_true_eq, decide_eq_false_iff_not] at h_); omega) | (simp [mulSz, Cont.len, bne] at h_; first | done | omega))); intro _; conv => whnf)
      | (refine ⟨0, (show _ = _ by omega), ?_⟩; conv => whnf))
    refine ⟨_, [4, 3], TK, ?_⟩
    conv => whnf
    iterate 2
     refine And.intro ?_ ?_
     focus
      conv => whnf
      repeat' (first | exact True.intro | rfl | refine And.intro ?_ ?_)
      all_goals (conv => whnf)
      repeat' (first | exact True.intro | rfl | refine And.intro ?_ ?_)
      all_goals (try (first | rfl | omega | (simp; first | done | omega)))
    conv => whnf
    by_cases hl : 512 < l
    · rw [decide_eq_true hl, show okQ n m l l = 0 from if_pos (by omega), show okQE n m l = 1 from if_pos (by omega)]
      conv => whnf
      repeat (first
        | (refine And.intro ?_ ?_; (focus (first | omega | decide | exact EqOk.mk (by kernel_rfl) (by kernel_rfl) (by kernel_rfl) | exact Int.natCast_nonneg _ | ((repeat' refine And.intro ?_ ?_) <;> first | omega | exact Int.natCast_nonneg _ | (simp only [i64max, u8max, u16max, u32max, u64max]; omega) | (simp only [mulSz_eq, Cont.len, colsLen, Col.len, List.length_cons, List.length_nil, List.length_replicate, List.length_append]; first | done | omega) | (simp [mulSz, Cont.len, bne]; first | done | omega)))); conv => whnf)
        | (refine tst_in ?_ ?_; (focus (intro h_; exfalso; first | omega | ((try simp only [decide_eq_true_eq, decide_eq_false_iff_not] at h_); omega) | (simp [mulSz, Cont.len, bne] at h_; first | done | omega))); intro _; conv => whnf)
        | (refine tst_in ?_ ?_; rotate_left; (focus (intro h_; exfalso; first | omega | ((try simp only [decide_eq_true_eq, decide_eq_false_iff_not] at h_); omega) | (simp [mulSz, Cont.len, bne] at h_; first | done | omega))); intro _; conv => whnf)
        | (refine ⟨0, (show _ = _ by omega), ?_⟩; conv => whnf))
      refine .inl ⟨(), [0, 1, 9], ?_⟩
      conv => whnf
      repeat' (first | exact True.intro | rfl | refine And.intro ?_ ?_)
      all_goals (conv => whnf)
      repeat' (first | exact True.intro | rfl | refine And.intro ?_ ?_)
      all_goals (try omega)
    · rw [decide_eq_false hl, show okQ n m l l = l from if_neg (by omega), show okQE n m l = 0 from if_neg (by omega)]
      conv => whnf
      repeat (first
        | (refine And.intro ?_ ?_; (focus (first | omega | decide | exact EqOk.mk (by kernel_rfl) (by kernel_rfl) (by kernel_rfl) | exact Int.natCast_nonneg _ | ((repeat' refine And.intro ?_ ?_) <;> first | omega | exact Int.natCast_nonneg _ | (simp only [i64max, u8max, u16max, u32max, u64max]; omega) | (simp only [mulSz_eq, Cont.len, colsLen, Col.len, List.length_cons, List.length_nil, List.length_replicate, List.length_append]; first | done | omega) | (simp [mulSz, Cont.len, bne]; first | done | omega)))); conv => whnf)
        | (refine tst_in ?_ ?_; (focus (intro h_; exfalso; first | omega | ((try simp only [decide_eq_true_eq, decide_eq_false_iff_not] at h_); omega) | (simp [mulSz, Cont.len, bne] at h_; first | done | omega))); intro _; conv => whnf)
        | (refine tst_in ?_ ?_; rotate_left; (focus (intro h_; exfalso; first | omega | ((try simp only [decide_eq_true_eq, decide_eq_false_iff_not] at h_); omega) | (simp [mulSz, Cont.len, bne] at h_; first | done | omega))); intro _; conv => whnf)
        | (refine ⟨0, (show _ = _ by omega), ?_⟩; conv => whnf))
      refine .inl ⟨(), [0, 1, 3], ?_⟩
      conv => whnf
      repeat' (first | exact True.intro | rfl | refine And.intro ?_ ?_)
      all_goals (conv => whnf)
      repeat' (first | exact True.intro | rfl | refine And.intro ?_ ?_)
      all_goals (try omega)
noncomputable def k61 : Code := (Try.f61.body).getD .skip
set_option maxHeartbeats 0 in
set_option maxRecDepth 100000 in
theorem put_f (a y x : G) : Fits Try.prog 61 ⟨[.int .u8 (a.v : Nat), .ptr 0 0, .ptr 1 0], [.seg true (.ints .u8 [(y.v : Nat)]), .seg false (.ints .u8 [(x.v : Nat)])],
    [numOut [.seg true (.ints .u8 [((y * x + a : G).v : Nat)]), .dead] (.tup [])]⟩ := by
  have TM := Times_g y x
  have hm := (y * x).lt
  have ha := a.lt
  refine fits_of_body (C := cfgk 2) (c := k61) (ts := []) tokL mixedL (fun _ => none) (fun _ => none)
    Try.func61 (by kernel_rfl) (by kernel_rfl) (by kernel_rfl) (by kernel_rfl) rfl ?_
  conv => whnf
  repeat (first
    | (refine And.intro ?_ ?_; (focus (first | omega | decide | exact EqOk.mk (by kernel_rfl) (by kernel_rfl) (by kernel_rfl) | exact Int.natCast_nonneg _ | ((repeat' refine And.intro ?_ ?_) <;> first | omega | exact Int.natCast_nonneg _ | (simp only [i64max, u8max, u16max, u32max, u64max]; omega) | (simp only [mulSz_eq, Cont.len, colsLen, Col.len, List.length_cons, List.length_nil, List.length_replicate, List.length_append]; first | done | omega) | (simp [mulSz, Cont.len, bne]; first | done | omega)))); conv => whnf)
    | (refine tst_in ?_ ?_; (focus (intro h_; exfalso; first | omega | ((try simp only [decide_eq_true_eq, decide_eq_false_iff_not] at h_); omega) | (simp [mulSz, Cont.len, bne] at h_; first | done | omega))); intro _; conv => whnf)
    | (refine tst_in ?_ ?_; rotate_left; (focus (intro h_; exfalso; first | omega | ((try simp only [decide_eq_true_eq, decide_eq_false_iff_not] at h_); omega) | (simp [mulSz, Cont.len, bne] at h_; first | done | omega))); intro _; conv => whnf)
    | (refine ⟨0, (show _ = _ by omega), ?_⟩; conv => whnf))
  refine ⟨_, [], TM, ?_⟩
  conv => whnf
  iterate 2
   refine And.intro ?_ ?_
   focus
    conv => whnf
    repeat' (first | exact True.intro | rfl | refine And.intro ?_ ?_ | omega)
    all_goals (conv => whnf)
    all_goals (try (first | rfl | omega | (simp; done)))
  conv => whnf
  refine ⟨⟨by omega, by omega, by rw [u8max]; omega, by rw [u8max]; omega⟩, ?_⟩
  conv => whnf
  repeat (first
    | (refine And.intro ?_ ?_; (focus (first | omega | decide | exact EqOk.mk (by kernel_rfl) (by kernel_rfl) (by kernel_rfl) | exact Int.natCast_nonneg _ | ((repeat' refine And.intro ?_ ?_) <;> first | omega | exact Int.natCast_nonneg _ | (simp only [i64max, u8max, u16max, u32max, u64max]; omega) | (simp only [mulSz_eq, Cont.len, colsLen, Col.len, List.length_cons, List.length_nil, List.length_replicate, List.length_append]; first | done | omega) | (simp [mulSz, Cont.len, bne]; first | done | omega)))); conv => whnf)
    | (refine tst_in ?_ ?_; (focus (intro h_; exfalso; first | omega | ((try simp only [decide_eq_true_eq, decide_eq_false_iff_not] at h_); omega) | (simp [mulSz, Cont.len, bne] at h_; first | done | omega))); intro _; conv => whnf)
    | (refine tst_in ?_ ?_; rotate_left; (focus (intro h_; exfalso; first | omega | ((try simp only [decide_eq_true_eq, decide_eq_false_iff_not] at h_); omega) | (simp [mulSz, Cont.len, bne] at h_; first | done | omega))); intro _; conv => whnf)
    | (refine ⟨0, (show _ = _ by omega), ?_⟩; conv => whnf))
  refine .inl ⟨(), [0, 1], ?_⟩
  conv => whnf
  repeat' (first | exact True.intro | rfl | refine And.intro ?_ ?_)
  all_goals (conv => whnf)
  repeat' (first | exact True.intro | rfl | refine And.intro ?_ ?_)
  all_goals (try omega)
noncomputable def k60 : Code := (Try.f60.body).getD .skip
noncomputable def hor (F : Nat → G) (n : Nat) (x : G) (k : Nat) : G := Hn g0 (fun k => F (n - 1 - k)) x k
noncomputable def st60 (F : Nat → G) (A : List Int) (n c : Nat) (x : G) (k : Nat) : St := ⟨slotsAt 18 [(0, .slice 0 0 n c), (1, .fn 61 [.ptr 1 0, .ptr 2 0]), (4, .int .i64 ((n : Int) - k - 1))], [.seg false (.ints .u8 A), .seg true (.ints .u8 [((hor F n x k).v : Nat)]), .seg false (.ints .u8 [(x.v : Nat)])]⟩
set_option maxHeartbeats 0 in
set_option maxRecDepth 100000 in
theorem fromEnd_f (F : Nat → G) (A : List Int) (n c : Nat) (x : G) (hA : Rd A F n) (hc : n ≤ c) (hn : n ≤ 9223372036854775807) :
    Fits Try.prog 60 ⟨[.slice 0 0 n c, .fn 61 [.ptr 1 0, .ptr 2 0]], [.seg false (.ints .u8 A), .seg true (.ints .u8 [0]), .seg false (.ints .u8 [(x.v : Nat)])],
      [numOut [.dead, .seg true (.ints .u8 [((As F x n).v : Nat)]), .dead] (.tup [])]⟩ := by
  refine fits_of_body (C := cfgk 3) (c := k60) (ts := []) tokL mixedL (fun | 1 => some ⟨Nat, fun k => st60 F A n c x k, fun k => k ≤ n, fun k => n - k⟩ | _ => none) (fun _ => none)
    Try.func60 (by kernel_rfl) (by kernel_rfl) (by kernel_rfl) (by kernel_rfl) rfl ?_
  obtain ⟨hl, hg⟩ := hA
  conv => whnf
  repeat (first
    | (refine And.intro ?_ ?_; (focus (first | omega | decide | exact EqOk.mk (by kernel_rfl) (by kernel_rfl) (by kernel_rfl) | exact Int.natCast_nonneg _ | ((repeat' refine And.intro ?_ ?_) <;> first | omega | exact Int.natCast_nonneg _ | (simp only [i64max, u8max, u16max, u32max, u64max]; omega) | (simp only [mulSz_eq, Cont.len, colsLen, Col.len, List.length_cons, List.length_nil, List.length_replicate, List.length_append]; first | done | omega) | (simp [mulSz, Cont.len, bne]; first | done | omega)))); conv => whnf)
    | (refine tst_in ?_ ?_; (focus (intro h_; exfalso; first | omega | ((try simp only [decide_eq_true_eq, decide_eq_false_iff_not] at h_); omega) | (simp [mulSz, Cont.len, bne] at h_; first | done | omega))); intro _; conv => whnf)
    | (refine tst_in ?_ ?_; rotate_left; (focus (intro h_; exfalso; first | omega | ((try simp only [decide_eq_true_eq, decide_eq_false_iff_not] at h_); omega) | (simp [mulSz, Cont.len, bne] at h_; first | done | omega))); intro _; conv => whnf)
    | (refine ⟨0, (show _ = _ by omega), ?_⟩; conv => whnf))
  refine ⟨⟨[0, 1, 2], (0 : Nat), ?_, Nat.zero_le _⟩, ?_⟩
  · show stLe _ _ (st60 F A n c x 0) _
    conv => whnf
    repeat' (first | exact True.intro | rfl | refine And.intro ?_ ?_)
    all_goals (conv => whnf)
    repeat' (first | exact True.intro | rfl | refine And.intro ?_ ?_)
    all_goals (try omega)
  · intro (k : Nat) (hk : k ≤ n)
    show forceSt (st60 F A n c x k) _
    conv => whnf
    repeat (first
      | (refine And.intro ?_ ?_; (focus (first | omega | decide | exact EqOk.mk (by kernel_rfl) (by kernel_rfl) (by kernel_rfl) | exact Int.natCast_nonneg _ | ((repeat' refine And.intro ?_ ?_) <;> first | omega | exact Int.natCast_nonneg _ | (simp only [i64max, u8max, u16max, u32max, u64max]; omega) | (simp only [mulSz_eq, Cont.len, colsLen, Col.len, List.length_cons, List.length_nil, List.length_replicate, List.length_append]; first | done | omega) | (simp [mulSz, Cont.len, bne]; first | done | omega)))); conv => whnf)
      | (refine tst_in ?_ ?_; (focus (intro h_; exfalso; first | omega | ((try simp only [decide_eq_true_eq, decide_eq_false_iff_not] at h_); omega) | (simp [mulSz, Cont.len, bne] at h_; first | done | omega))); intro _; conv => whnf)
      | (refine tst_in ?_ ?_; rotate_left; (focus (intro h_; exfalso; first | omega | ((try simp only [decide_eq_true_eq, decide_eq_false_iff_not] at h_); omega) | (simp [mulSz, Cont.len, bne] at h_; first | done | omega))); intro _; conv => whnf)
      | (refine ⟨0, (show _ = _ by omega), ?_⟩; conv => whnf))
    refine tst_in (fun h => ?_) (fun h' => ?_)
    · have h : k < n := by have := dle_t h; omega
      have PF := put_f (F (n - 1 - k)) (hor F n x k) x
      have hgk := hg (n - 1 - k) (by omega)
      conv => whnf
      repeat (first
        | (refine And.intro ?_ ?_; (focus (first | omega | decide | exact EqOk.mk (by kernel_rfl) (by kernel_rfl) (by kernel_rfl) | exact Int.natCast_nonneg _ | ((repeat' refine And.intro ?_ ?_) <;> first | omega | exact Int.natCast_nonneg _ | (simp only [i64max, u8max, u16max, u32max, u64max]; omega) | (simp only [mulSz_eq, Cont.len, colsLen, Col.len, List.length_cons, List.length_nil, List.length_replicate, List.length_append]; first | done | omega) | (simp [mulSz, Cont.len, bne]; first | done | omega)))); conv => whnf)
        | (refine tst_in ?_ ?_; (focus (intro h_; exfalso; first | omega | ((try simp only [decide_eq_true_eq, decide_eq_false_iff_not] at h_); omega) | (simp [mulSz, Cont.len, bne] at h_; first | done | omega))); intro _; conv => whnf)
        | (refine tst_in ?_ ?_; rotate_left; (focus (intro h_; exfalso; first | omega | ((try simp only [decide_eq_true_eq, decide_eq_false_iff_not] at h_); omega) | (simp [mulSz, Cont.len, bne] at h_; first | done | omega))); intro _; conv => whnf)
        | (refine ⟨0, (show _ = _ by omega), ?_⟩; conv => whnf))
      rw [show (0 + ((n : Nat) - (k : Nat) - 1 : Int).toNat) = n - 1 - k by omega, hgk]
      refine ⟨_, [1, 2], PF, ?_⟩
      conv => whnf
      iterate 2
       refine And.intro ?_ ?_
       focus
        conv => whnf
        repeat' (first | exact True.intro | rfl | refine And.intro ?_ ?_ | omega)
        all_goals (conv => whnf)
        all_goals (try (first | rfl | omega | (simp; done)))
      conv => whnf
      refine ⟨?_, True.intro⟩
      intro _ _
      conv => whnf
      conv => whnf
      repeat (first
        | (refine And.intro ?_ ?_; (focus (first | omega | decide | exact EqOk.mk (by kernel_rfl) (by kernel_rfl) (by kernel_rfl) | exact Int.natCast_nonneg _ | ((repeat' refine And.intro ?_ ?_) <;> first | omega | exact Int.natCast_nonneg _ | (simp only [i64max, u8max, u16max, u32max, u64max]; omega) | (simp only [mulSz_eq, Cont.len, colsLen, Col.len, List.length_cons, List.length_nil, List.length_replicate, List.length_append]; first | done | omega) | (simp [mulSz, Cont.len, bne]; first | done | omega)))); conv => whnf)
        | (refine tst_in ?_ ?_; (focus (intro h_; exfalso; first | omega | ((try simp only [decide_eq_true_eq, decide_eq_false_iff_not] at h_); omega) | (simp [mulSz, Cont.len, bne] at h_; first | done | omega))); intro _; conv => whnf)
        | (refine tst_in ?_ ?_; rotate_left; (focus (intro h_; exfalso; first | omega | ((try simp only [decide_eq_true_eq, decide_eq_false_iff_not] at h_); omega) | (simp [mulSz, Cont.len, bne] at h_; first | done | omega))); intro _; conv => whnf)
        | (refine ⟨0, (show _ = _ by omega), ?_⟩; conv => whnf))
      refine ⟨[0, 1, 2], (k + 1 : Nat), ?_, h, by show n - (k + 1) < n - k; omega⟩
      show stLe _ _ (st60 F A n c x (k + 1)) _
      conv => whnf
      repeat' (first | exact True.intro | rfl | refine And.intro ?_ ?_)
      all_goals (conv => whnf)
      repeat' (first | exact True.intro | rfl | refine And.intro ?_ ?_)
      all_goals (try omega)
    · have h : k = n := by have := dle_f h'; omega
      subst h
      have e : hor F k x k = As F x k := Hn_rev F x k
      rw [← e]
      conv => whnf
      repeat (first
        | (refine And.intro ?_ ?_; (focus (first | omega | decide | exact EqOk.mk (by kernel_rfl) (by kernel_rfl) (by kernel_rfl) | exact Int.natCast_nonneg _ | ((repeat' refine And.intro ?_ ?_) <;> first | omega | exact Int.natCast_nonneg _ | (simp only [i64max, u8max, u16max, u32max, u64max]; omega) | (simp only [mulSz_eq, Cont.len, colsLen, Col.len, List.length_cons, List.length_nil, List.length_replicate, List.length_append]; first | done | omega) | (simp [mulSz, Cont.len, bne]; first | done | omega)))); conv => whnf)
        | (refine tst_in ?_ ?_; (focus (intro h_; exfalso; first | omega | ((try simp only [decide_eq_true_eq, decide_eq_false_iff_not] at h_); omega) | (simp [mulSz, Cont.len, bne] at h_; first | done | omega))); intro _; conv => whnf)
        | (refine tst_in ?_ ?_; rotate_left; (focus (intro h_; exfalso; first | omega | ((try simp only [decide_eq_true_eq, decide_eq_false_iff_not] at h_); omega) | (simp [mulSz, Cont.len, bne] at h_; first | done | omega))); intro _; conv => whnf)
        | (refine ⟨0, (show _ = _ by omega), ?_⟩; conv => whnf))
      refine .inl ⟨(), [0, 1, 2], ?_⟩
      conv => whnf
      repeat' (first | exact True.intro | rfl | refine And.intro ?_ ?_)
      all_goals (conv => whnf)
      repeat' (first | exact True.intro | rfl | refine And.intro ?_ ?_)
      all_goals (try omega)
noncomputable def k44 : Code := (Try.f44.body).getD .skip
set_option maxHeartbeats 0 in
set_option maxRecDepth 100000 in
theorem at_f (F : Nat → G) (A : List Int) (n c : Nat) (x : G) (hA : Rd A F n) (hc : n ≤ c) (hn : n ≤ 9223372036854775807) :
    Fits Try.prog 44 ⟨[.slice 0 0 n c, .int .u8 (x.v : Nat)], [.seg false (.ints .u8 A)], [numOut [.dead] (.int .u8 ((As F x n).v : Nat))]⟩ := by
  have FE := fromEnd_f F A n c x hA hc hn
  refine fits_of_body (C := cfgk 1) (c := k44) (ts := [4]) tokL mixedL (fun _ => none) (fun _ => none)
    Try.func44 (by kernel_rfl) (by kernel_rfl) (by kernel_rfl) (by kernel_rfl) rfl ?_
  conv => whnf
  repeat (first
    | (refine And.intro ?_ ?_; (focus (first | omega | decide | exact EqOk.mk (by kernel_rfl) (by kernel_rfl) (by kernel_rfl) | exact Int.natCast_nonneg _ | ((repeat' refine And.intro ?_ ?_) <;> first | omega | exact Int.natCast_nonneg _ | (simp only [i64max, u8max, u16max, u32max, u64max]; omega) | (simp only [mulSz_eq, Cont.len, colsLen, Col.len, List.length_cons, List.length_nil, List.length_replicate, List.length_append]; first | done | omega) | (simp [mulSz, Cont.len, bne]; first | done | omega)))); conv => whnf)
    | (refine tst_in ?_ ?_; (focus (intro h_; exfalso; first | omega | ((try simp only [decide_eq_true_eq, decide_eq_false_iff_not] at h_); omega) | (simp [mulSz, Cont.len, bne] at h_; first | done | omega))); intro _; conv => whnf)
    | (refine tst_in ?_ ?_; rotate_left; (focus (intro h_; exfalso; first | omega | ((try simp only [decide_eq_true_eq, decide_eq_false_iff_not] at h_); omega) | (simp [mulSz, Cont.len, bne] at h_; first | done | omega))); intro _; conv => whnf)
    | (refine ⟨0, (show _ = _ by omega), ?_⟩; conv => whnf))
  refine ⟨_, [0, 2, 1], FE, ?_⟩
  conv => whnf
  iterate 2
   refine And.intro ?_ ?_
   focus
    conv => whnf
    repeat' (first | exact True.intro | rfl | refine And.intro ?_ ?_ | omega)
    all_goals (conv => whnf)
    all_goals (try (first | rfl | omega | (simp; done)))
  conv => whnf
  refine ⟨?_, True.intro⟩
  intro _ _
  conv => whnf
  conv => whnf
  repeat (first
    | (refine And.intro ?_ ?_; (focus (first | omega | decide | exact EqOk.mk (by kernel_rfl) (by kernel_rfl) (by kernel_rfl) | exact Int.natCast_nonneg _ | ((repeat' refine And.intro ?_ ?_) <;> first | omega | exact Int.natCast_nonneg _ | (simp only [i64max, u8max, u16max, u32max, u64max]; omega) | (simp only [mulSz_eq, Cont.len, colsLen, Col.len, List.length_cons, List.length_nil, List.length_replicate, List.length_append]; first | done | omega) | (simp [mulSz, Cont.len, bne]; first | done | omega)))); conv => whnf)
    | (refine tst_in ?_ ?_; (focus (intro h_; exfalso; first | omega | ((try simp only [decide_eq_true_eq, decide_eq_false_iff_not] at h_); omega) | (simp [mulSz, Cont.len, bne] at h_; first | done | omega))); intro _; conv => whnf)
    | (refine tst_in ?_ ?_; rotate_left; (focus (intro h_; exfalso; first | omega | ((try simp only [decide_eq_true_eq, decide_eq_false_iff_not] at h_); omega) | (simp [mulSz, Cont.len, bne] at h_; first | done | omega))); intro _; conv => whnf)
    | (refine ⟨0, (show _ = _ by omega), ?_⟩; conv => whnf))
  refine .inl ⟨(), [0], ?_⟩
  conv => whnf
  repeat' (first | exact True.intro | rfl | refine And.intro ?_ ?_)
  all_goals (conv => whnf)
  repeat' (first | exact True.intro | rfl | refine And.intro ?_ ?_)
  all_goals (try omega)
noncomputable def k24 : Code := (Try.f24.body).getD .skip
/-- The value, or none of too long a list. -/
noncomputable def atV (F : Nat → G) (n : Nat) (x : G) : G := if 512 < n then g0 else As F x n
def atE (n : Nat) : Int := if 512 < n then 1 else 0
set_option maxHeartbeats 0 in
set_option maxRecDepth 100000 in
theorem At_g (F : Nat → G) (A : List Int) (n c : Nat) (x : G) (hA : Rd A F n) (hc : n ≤ c) (hn : n ≤ 9223372036854775807) :
    Fits Try.prog 24 ⟨[.slice 0 0 n c, .int .u8 (x.v : Nat)], [.seg false (.ints .u8 A)], [numOut [.dead] (.tup [.int .u8 ((atV F n x).v : Nat), .int .i64 (atE n)])]⟩ := by
  have TK := tooLong1 n c hn
  have AF := at_f F A n c x hA hc hn
  refine fits_of_body (C := cfgk 1) (c := k24) (ts := [4, 5]) tokL mixedL (fun _ => none) (fun _ => none)
    Try.func24 (by kernel_rfl) (by kernel_rfl) (by kernel_rfl) (by kernel_rfl) rfl ?_
  conv => whnf
  repeat (first
    | (refine And.intro ?_ ?_; (focus (first | omega | decide | exact EqOk.mk (by kernel_rfl) (by kernel_rfl) (by kernel_rfl) | exact Int.natCast_nonneg _ | ((repeat' refine And.intro ?_ ?_) <;> first | omega | exact Int.natCast_nonneg _ | (simp only [i64max, u8max, u16max, u32max, u64max]; omega) | (simp only [mulSz_eq, Cont.len, colsLen, Col.len, List.length_cons, List.length_nil, List.length_replicate, List.length_append]; first | done | omega) | (simp [mulSz, Cont.len, bne]; first | done | omega)))); conv => whnf)
    | (refine tst_in ?_ ?_; (focus (intro h_; exfalso; first | omega | ((try simp only [decide_eq_true_eq, decide_eq_false_iff_not] at h_); omega) | (simp [mulSz, Cont.len, bne] at h_; first | done | omega))); intro _; conv => whnf)
    | (refine tst_in ?_ ?_; rotate_left; (focus (intro h_; exfalso; first | omega | ((try simp only [decide_eq_true_eq, decide_eq_false_iff_not] at h_); omega) | (simp [mulSz, Cont.len, bne] at h_; first | done | omega))); intro _; conv => whnf)
    | (refine ⟨0, (show _ = _ by omega), ?_⟩; conv => whnf))
  refine ⟨_, [1, 0], TK, ?_⟩
  conv => whnf
  iterate 2
   refine And.intro ?_ ?_
   focus
    conv => whnf
    repeat' (first | exact True.intro | rfl | refine And.intro ?_ ?_)
    all_goals (conv => whnf)
    repeat' (first | exact True.intro | rfl | refine And.intro ?_ ?_)
    all_goals (try (first | rfl | omega | (simp; first | done | omega)))
  conv => whnf
  by_cases hl : 512 < n
  · rw [decide_eq_true hl, show atV F n x = g0 from if_pos hl, show atE n = 1 from if_pos hl]
    conv => whnf
    repeat (first
      | (refine And.intro ?_ ?_; (focus (first | omega | decide | exact EqOk.mk (by kernel_rfl) (by kernel_rfl) (by kernel_rfl) | exact Int.natCast_nonneg _ | ((repeat' refine And.intro ?_ ?_) <;> first | omega | exact Int.natCast_nonneg _ | (simp only [i64max, u8max, u16max, u32max, u64max]; omega) | (simp only [mulSz_eq, Cont.len, colsLen, Col.len, List.length_cons, List.length_nil, List.length_replicate, List.length_append]; first | done | omega) | (simp [mulSz, Cont.len, bne]; first | done | omega)))); conv => whnf)
      | (refine tst_in ?_ ?_; (focus (intro h_; exfalso; first | omega | ((try simp only [decide_eq_true_eq, decide_eq_false_iff_not] at h_); omega) | (simp [mulSz, Cont.len, bne] at h_; first | done | omega))); intro _; conv => whnf)
      | (refine tst_in ?_ ?_; rotate_left; (focus (intro h_; exfalso; first | omega | ((try simp only [decide_eq_true_eq, decide_eq_false_iff_not] at h_); omega) | (simp [mulSz, Cont.len, bne] at h_; first | done | omega))); intro _; conv => whnf)
      | (refine ⟨0, (show _ = _ by omega), ?_⟩; conv => whnf))
    refine .inl ⟨(), [0], ?_⟩
    conv => whnf
    repeat' (first | exact True.intro | rfl | refine And.intro ?_ ?_)
    all_goals (conv => whnf)
    repeat' (first | exact True.intro | rfl | refine And.intro ?_ ?_)
    all_goals (try omega)
  · rw [decide_eq_false hl, show atV F n x = As F x n from if_neg hl, show atE n = 0 from if_neg hl]
    conv => whnf
    repeat (first
      | (refine And.intro ?_ ?_; (focus (first | omega | decide | exact EqOk.mk (by kernel_rfl) (by kernel_rfl) (by kernel_rfl) | exact Int.natCast_nonneg _ | ((repeat' refine And.intro ?_ ?_) <;> first | omega | exact Int.natCast_nonneg _ | (simp only [i64max, u8max, u16max, u32max, u64max]; omega) | (simp only [mulSz_eq, Cont.len, colsLen, Col.len, List.length_cons, List.length_nil, List.length_replicate, List.length_append]; first | done | omega) | (simp [mulSz, Cont.len, bne]; first | done | omega)))); conv => whnf)
      | (refine tst_in ?_ ?_; (focus (intro h_; exfalso; first | omega | ((try simp only [decide_eq_true_eq, decide_eq_false_iff_not] at h_); omega) | (simp [mulSz, Cont.len, bne] at h_; first | done | omega))); intro _; conv => whnf)
      | (refine tst_in ?_ ?_; rotate_left; (focus (intro h_; exfalso; first | omega | ((try simp only [decide_eq_true_eq, decide_eq_false_iff_not] at h_); omega) | (simp [mulSz, Cont.len, bne] at h_; first | done | omega))); intro _; conv => whnf)
      | (refine ⟨0, (show _ = _ by omega), ?_⟩; conv => whnf))
    refine ⟨_, [0], AF, ?_⟩
    conv => whnf
    iterate 2
     refine And.intro ?_ ?_
     focus
      conv => whnf
      repeat' (first | exact True.intro | rfl | refine And.intro ?_ ?_ | omega)
      all_goals (conv => whnf)
      all_goals (try (first | rfl | omega | (simp; done)))
    conv => whnf
    refine ⟨?_, True.intro⟩
    intro _ _
    conv => whnf
    conv => whnf
    repeat (first
      | (refine And.intro ?_ ?_; (focus (first | omega | decide | exact EqOk.mk (by kernel_rfl) (by kernel_rfl) (by kernel_rfl) | exact Int.natCast_nonneg _ | ((repeat' refine And.intro ?_ ?_) <;> first | omega | exact Int.natCast_nonneg _ | (simp only [i64max, u8max, u16max, u32max, u64max]; omega) | (simp only [mulSz_eq, Cont.len, colsLen, Col.len, List.length_cons, List.length_nil, List.length_replicate, List.length_append]; first | done | omega) | (simp [mulSz, Cont.len, bne]; first | done | omega)))); conv => whnf)
      | (refine tst_in ?_ ?_; (focus (intro h_; exfalso; first | omega | ((try simp only [decide_eq_true_eq, decide_eq_false_iff_not] at h_); omega) | (simp [mulSz, Cont.len, bne] at h_; first | done | omega))); intro _; conv => whnf)
      | (refine tst_in ?_ ?_; rotate_left; (focus (intro h_; exfalso; first | omega | ((try simp only [decide_eq_true_eq, decide_eq_false_iff_not] at h_); omega) | (simp [mulSz, Cont.len, bne] at h_; first | done | omega))); intro _; conv => whnf)
      | (refine ⟨0, (show _ = _ by omega), ?_⟩; conv => whnf))
    refine .inl ⟨(), [0], ?_⟩
    conv => whnf
    repeat' (first | exact True.intro | rfl | refine And.intro ?_ ?_)
    all_goals (conv => whnf)
    repeat' (first | exact True.intro | rfl | refine And.intro ?_ ?_)
    all_goals (try omega)
end Go.Proofs.Yteiblfkegnppeaa

set_option linter.unusedVariables false
set_option linter.unusedSimpArgs false
namespace Go.Proofs.Yteiblfkegnppeaa
open Go Go.Fw
end Go.Proofs.Yteiblfkegnppeaa

set_option linter.unusedVariables false
set_option linter.unusedSimpArgs false
namespace Go.Proofs.Yteiblfkegnppeaa
open Go Go.Fw
theorem tab_split {α : Type} (f : Nat → α) (l s : Nat) (h : l ≤ s) : tb f s = tb f l ++ (tb f s).drop l := by
  refine row_ext (f 0) ?_ ?_
  · rw [List.length_append, List.length_drop, tab_len, tab_len]; omega
  · intro i hi
    rw [tab_len] at hi
    rw [g_app, tab_len, g_drop]
    split
    · rename_i h2; rw [tab_get _ _ hi, tab_get _ _ h2]
    · rename_i h2; rw [show l + (i - l) = i by omega]
theorem Rd_zero (A : List Int) (F : Nat → G) : Rd A F 0 := ⟨Nat.zero_le _, fun i hi => absurd hi (by omega)⟩
theorem sumS_0 (F H : Nat → G) (n : Nat) : sumS F H n 0 = ct F n := by
  unfold sumS; rw [show ct H 0 = zf from funext fun i => if_neg (by omega), pa_zf]
theorem dg_ct (F : Nat → G) (n : Nat) : dg (ct F n) n = dg F n := dg_congr n fun i hi => ct_lt F hi
end Go.Proofs.Yteiblfkegnppeaa

set_option linter.unusedVariables false
set_option linter.unusedSimpArgs false
namespace Go.Proofs.Yteiblfkegnppeaa
open Go Go.Fw
noncomputable def k25 : Code := (Try.f25.body).getD .skip
set_option maxHeartbeats 0 in
set_option maxRecDepth 100000 in
theorem degree_q (n c : Nat) (hn : n ≤ 9223372036854775807) : QFits Try.prog 25 ⟨[.slice 0 0 n c], [.dead], .int .i64 ((n : Int) - 1)⟩ := by
  refine qfits_of_body (C := cfgk 1) (c := k25) (ts := [2]) tokL mixedL (fun _ => none) (fun _ => none)
    Try.func25 (by kernel_rfl) (by kernel_rfl) (by kernel_rfl) (by kernel_rfl) (by kernel_rfl) rfl rfl ?_
  conv => whnf
  repeat (first
    | (refine And.intro ?_ ?_; (focus (first | omega | decide | exact EqOk.mk (by kernel_rfl) (by kernel_rfl) (by kernel_rfl) | exact Int.natCast_nonneg _ | ((repeat' refine And.intro ?_ ?_) <;> first | omega | exact Int.natCast_nonneg _ | (simp only [i64max, u8max, u16max, u32max, u64max]; omega) | (simp only [mulSz_eq, Cont.len, colsLen, Col.len, List.length_cons, List.length_nil, List.length_replicate, List.length_append]; first | done | omega) | (simp [mulSz, Cont.len, bne]; first | done | omega)))); conv => whnf)
    | (refine tst_in ?_ ?_; (focus (intro h_; exfalso; first | omega | ((try simp only [decide_eq_true_eq, decide_eq_false_iff_not] at h_); omega) | (simp [mulSz, Cont.len, bne] at h_; first | done | omega))); intro _; conv => whnf)
    | (refine tst_in ?_ ?_; rotate_left; (focus (intro h_; exfalso; first | omega | ((try simp only [decide_eq_true_eq, decide_eq_false_iff_not] at h_); omega) | (simp [mulSz, Cont.len, bne] at h_; first | done | omega))); intro _; conv => whnf)
    | (refine ⟨0, (show _ = _ by omega), ?_⟩; conv => whnf))
noncomputable def k27 : Code := (Try.f27.body).getD .skip
noncomputable def st27 (A B : List Int) (n c d i : Nat) : St := ⟨slotsAt 26 [(0, .slice 0 0 n c), (1, .slice 1 0 n d), (5, .int .i64 i)], [.seg false (.ints .u8 A), .seg false (.ints .u8 B)]⟩
set_option maxHeartbeats 0 in
set_option maxRecDepth 100000 in
theorem same_q (F : Nat → G) (A B : List Int) (n c d : Nat) (hA : Rd A F n) (hB : Rd B F n) (hc : n ≤ c) (hd : n ≤ d) (hn : n ≤ 9223372036854775807) : QFits Try.prog 27 ⟨[.slice 0 0 n c, .slice 1 0 n d], [.seg false (.ints .u8 A), .seg false (.ints .u8 B)], .bool true⟩ := by
  refine qfits_of_body (C := cfgk 2) (c := k27) (ts := [4]) tokL mixedL (fun | 4 => some ⟨Nat, fun i => st27 A B n c d i, fun i => i ≤ n, fun i => n - i⟩ | _ => none) (fun _ => none)
    Try.func27 (by kernel_rfl) (by kernel_rfl) (by kernel_rfl) (by kernel_rfl) (by kernel_rfl) rfl rfl ?_
  obtain ⟨hl, hg⟩ := hA
  obtain ⟨hl2, hg2⟩ := hB
  conv => whnf
  repeat (first
    | (refine And.intro ?_ ?_; (focus (first | omega | decide | exact EqOk.mk (by kernel_rfl) (by kernel_rfl) (by kernel_rfl) | exact Int.natCast_nonneg _ | ((repeat' refine And.intro ?_ ?_) <;> first | omega | exact Int.natCast_nonneg _ | (simp only [i64max, u8max, u16max, u32max, u64max]; omega) | (simp only [mulSz_eq, Cont.len, colsLen, Col.len, List.length_cons, List.length_nil, List.length_replicate, List.length_append]; first | done | omega) | (simp [mulSz, Cont.len, bne]; first | done | omega)))); conv => whnf)
    | (refine tst_in ?_ ?_; (focus (intro h_; exfalso; first | omega | ((try simp only [decide_eq_true_eq, decide_eq_false_iff_not] at h_); omega) | (simp [mulSz, Cont.len, bne] at h_; first | done | omega))); intro _; conv => whnf)
    | (refine tst_in ?_ ?_; rotate_left; (focus (intro h_; exfalso; first | omega | ((try simp only [decide_eq_true_eq, decide_eq_false_iff_not] at h_); omega) | (simp [mulSz, Cont.len, bne] at h_; first | done | omega))); intro _; conv => whnf)
    | (refine ⟨0, (show _ = _ by omega), ?_⟩; conv => whnf))
  refine ⟨⟨[0, 1], (0 : Nat), ?_, Nat.zero_le _⟩, ?_⟩
  · show stLe _ _ (st27 A B n c d 0) _
    conv => whnf
    repeat' (first | exact True.intro | rfl | refine And.intro ?_ ?_)
    all_goals (conv => whnf)
    repeat' (first | exact True.intro | rfl | refine And.intro ?_ ?_)
    all_goals (try omega)
  · intro (i : Nat) (hi : i ≤ n)
    show forceSt (st27 A B n c d i) _
    conv => whnf
    repeat (first
      | (refine And.intro ?_ ?_; (focus (first | omega | decide | exact EqOk.mk (by kernel_rfl) (by kernel_rfl) (by kernel_rfl) | exact Int.natCast_nonneg _ | ((repeat' refine And.intro ?_ ?_) <;> first | omega | exact Int.natCast_nonneg _ | (simp only [i64max, u8max, u16max, u32max, u64max]; omega) | (simp only [mulSz_eq, Cont.len, colsLen, Col.len, List.length_cons, List.length_nil, List.length_replicate, List.length_append]; first | done | omega) | (simp [mulSz, Cont.len, bne]; first | done | omega)))); conv => whnf)
      | (refine tst_in ?_ ?_; (focus (intro h_; exfalso; first | omega | ((try simp only [decide_eq_true_eq, decide_eq_false_iff_not] at h_); omega) | (simp [mulSz, Cont.len, bne] at h_; first | done | omega))); intro _; conv => whnf)
      | (refine tst_in ?_ ?_; rotate_left; (focus (intro h_; exfalso; first | omega | ((try simp only [decide_eq_true_eq, decide_eq_false_iff_not] at h_); omega) | (simp [mulSz, Cont.len, bne] at h_; first | done | omega))); intro _; conv => whnf)
      | (refine ⟨0, (show _ = _ by omega), ?_⟩; conv => whnf))
    refine tst_in (fun h => ?_) (fun h' => ?_)
    · have h : i < n := by have := dlt_t h; omega
      have e1 := hg i h
      have e2 := hg2 i h
      conv => whnf
      repeat (first
        | (refine And.intro ?_ ?_; (focus (first | omega | decide | exact EqOk.mk (by kernel_rfl) (by kernel_rfl) (by kernel_rfl) | exact Int.natCast_nonneg _ | ((repeat' refine And.intro ?_ ?_) <;> first | omega | exact Int.natCast_nonneg _ | (simp only [i64max, u8max, u16max, u32max, u64max]; omega) | (simp only [mulSz_eq, Cont.len, colsLen, Col.len, List.length_cons, List.length_nil, List.length_replicate, List.length_append]; first | done | omega) | (simp [mulSz, Cont.len, bne]; first | done | omega)))); conv => whnf)
        | (refine tst_in ?_ ?_; (focus (intro h_; exfalso; first | omega | ((try simp only [decide_eq_true_eq, decide_eq_false_iff_not] at h_); omega) | (simp [mulSz, Cont.len, bne] at h_; first | done | omega))); intro _; conv => whnf)
        | (refine tst_in ?_ ?_; rotate_left; (focus (intro h_; exfalso; first | omega | ((try simp only [decide_eq_true_eq, decide_eq_false_iff_not] at h_); omega) | (simp [mulSz, Cont.len, bne] at h_; first | done | omega))); intro _; conv => whnf)
        | (refine ⟨0, (show _ = _ by omega), ?_⟩; conv => whnf))
      rw [show (0 + ((i : Nat) : Int).toNat) = i by omega, e1, e2]
      refine tst_in (fun h_ => absurd h_ (by simp)) (fun h_ => ?_)
      conv => whnf
      repeat (first
        | (refine And.intro ?_ ?_; (focus (first | omega | decide | exact EqOk.mk (by kernel_rfl) (by kernel_rfl) (by kernel_rfl) | exact Int.natCast_nonneg _ | ((repeat' refine And.intro ?_ ?_) <;> first | omega | exact Int.natCast_nonneg _ | (simp only [i64max, u8max, u16max, u32max, u64max]; omega) | (simp only [mulSz_eq, Cont.len, colsLen, Col.len, List.length_cons, List.length_nil, List.length_replicate, List.length_append]; first | done | omega) | (simp [mulSz, Cont.len, bne]; first | done | omega)))); conv => whnf)
        | (refine tst_in ?_ ?_; (focus (intro h_; exfalso; first | omega | ((try simp only [decide_eq_true_eq, decide_eq_false_iff_not] at h_); omega) | (simp [mulSz, Cont.len, bne] at h_; first | done | omega))); intro _; conv => whnf)
        | (refine tst_in ?_ ?_; rotate_left; (focus (intro h_; exfalso; first | omega | ((try simp only [decide_eq_true_eq, decide_eq_false_iff_not] at h_); omega) | (simp [mulSz, Cont.len, bne] at h_; first | done | omega))); intro _; conv => whnf)
        | (refine ⟨0, (show _ = _ by omega), ?_⟩; conv => whnf))
      refine ⟨[0, 1], (i + 1 : Nat), ?_, h, by show n - (i + 1) < n - i; omega⟩
      show stLe _ _ (st27 A B n c d (i + 1)) _
      conv => whnf
      repeat' (first | exact True.intro | rfl | refine And.intro ?_ ?_)
      all_goals (conv => whnf)
      repeat' (first | exact True.intro | rfl | refine And.intro ?_ ?_)
      all_goals (try omega)
    · conv => whnf
      repeat (first
        | (refine And.intro ?_ ?_; (focus (first | omega | decide | exact EqOk.mk (by kernel_rfl) (by kernel_rfl) (by kernel_rfl) | exact Int.natCast_nonneg _ | ((repeat' refine And.intro ?_ ?_) <;> first | omega | exact Int.natCast_nonneg _ | (simp only [i64max, u8max, u16max, u32max, u64max]; omega) | (simp only [mulSz_eq, Cont.len, colsLen, Col.len, List.length_cons, List.length_nil, List.length_replicate, List.length_append]; first | done | omega) | (simp [mulSz, Cont.len, bne]; first | done | omega)))); conv => whnf)
        | (refine tst_in ?_ ?_; (focus (intro h_; exfalso; first | omega | ((try simp only [decide_eq_true_eq, decide_eq_false_iff_not] at h_); omega) | (simp [mulSz, Cont.len, bne] at h_; first | done | omega))); intro _; conv => whnf)
        | (refine tst_in ?_ ?_; rotate_left; (focus (intro h_; exfalso; first | omega | ((try simp only [decide_eq_true_eq, decide_eq_false_iff_not] at h_); omega) | (simp [mulSz, Cont.len, bne] at h_; first | done | omega))); intro _; conv => whnf)
        | (refine ⟨0, (show _ = _ by omega), ?_⟩; conv => whnf))
end Go.Proofs.Yteiblfkegnppeaa

set_option linter.unusedVariables false
set_option linter.unusedSimpArgs false
namespace Go.Proofs.Yteiblfkegnppeaa
open Go Go.Fw
noncomputable def k38 : Code := (Try.f38.body).getD .skip
noncomputable def st38 (A B : List Int) (n c d i : Nat) : St := ⟨slotsAt 26 [(0, .slice 0 0 n c), (1, .slice 1 0 n d), (5, .int .i64 i)], [.seg false (.ints .u8 A), .seg false (.ints .u8 B)]⟩
set_option maxHeartbeats 0 in
set_option maxRecDepth 100000 in
theorem Same_q (F : Nat → G) (A B : List Int) (n c d : Nat) (hA : Rd A F n) (hB : Rd B F n) (hc : n ≤ c) (hd : n ≤ d) (hn : n ≤ 9223372036854775807) : QFits Try.prog 38 ⟨[.slice 0 0 n c, .slice 1 0 n d], [.seg false (.ints .u8 A), .seg false (.ints .u8 B)], .bool true⟩ := by
  refine qfits_of_body (C := cfgk 2) (c := k38) (ts := [4]) tokL mixedL (fun | 4 => some ⟨Nat, fun i => st38 A B n c d i, fun i => i ≤ n, fun i => n - i⟩ | _ => none) (fun _ => none)
    Try.func38 (by kernel_rfl) (by kernel_rfl) (by kernel_rfl) (by kernel_rfl) (by kernel_rfl) rfl rfl ?_
  obtain ⟨hl, hg⟩ := hA
  obtain ⟨hl2, hg2⟩ := hB
  conv => whnf
  repeat (first
    | (refine And.intro ?_ ?_; (focus (first | omega | decide | exact EqOk.mk (by kernel_rfl) (by kernel_rfl) (by kernel_rfl) | exact Int.natCast_nonneg _ | ((repeat' refine And.intro ?_ ?_) <;> first | omega | exact Int.natCast_nonneg _ | (simp only [i64max, u8max, u16max, u32max, u64max]; omega) | (simp only [mulSz_eq, Cont.len, colsLen, Col.len, List.length_cons, List.length_nil, List.length_replicate, List.length_append]; first | done | omega) | (simp [mulSz, Cont.len, bne]; first | done | omega)))); conv => whnf)
    | (refine tst_in ?_ ?_; (focus (intro h_; exfalso; first | omega | ((try simp only [decide_eq_true_eq, decide_eq_false_iff_not] at h_); omega) | (simp [mulSz, Cont.len, bne] at h_; first | done | omega))); intro _; conv => whnf)
    | (refine tst_in ?_ ?_; rotate_left; (focus (intro h_; exfalso; first | omega | ((try simp only [decide_eq_true_eq, decide_eq_false_iff_not] at h_); omega) | (simp [mulSz, Cont.len, bne] at h_; first | done | omega))); intro _; conv => whnf)
    | (refine ⟨0, (show _ = _ by omega), ?_⟩; conv => whnf))
  refine ⟨⟨[0, 1], (0 : Nat), ?_, Nat.zero_le _⟩, ?_⟩
  · show stLe _ _ (st38 A B n c d 0) _
    conv => whnf
    repeat' (first | exact True.intro | rfl | refine And.intro ?_ ?_)
    all_goals (conv => whnf)
    repeat' (first | exact True.intro | rfl | refine And.intro ?_ ?_)
    all_goals (try omega)
  · intro (i : Nat) (hi : i ≤ n)
    show forceSt (st38 A B n c d i) _
    conv => whnf
    repeat (first
      | (refine And.intro ?_ ?_; (focus (first | omega | decide | exact EqOk.mk (by kernel_rfl) (by kernel_rfl) (by kernel_rfl) | exact Int.natCast_nonneg _ | ((repeat' refine And.intro ?_ ?_) <;> first | omega | exact Int.natCast_nonneg _ | (simp only [i64max, u8max, u16max, u32max, u64max]; omega) | (simp only [mulSz_eq, Cont.len, colsLen, Col.len, List.length_cons, List.length_nil, List.length_replicate, List.length_append]; first | done | omega) | (simp [mulSz, Cont.len, bne]; first | done | omega)))); conv => whnf)
      | (refine tst_in ?_ ?_; (focus (intro h_; exfalso; first | omega | ((try simp only [decide_eq_true_eq, decide_eq_false_iff_not] at h_); omega) | (simp [mulSz, Cont.len, bne] at h_; first | done | omega))); intro _; conv => whnf)
      | (refine tst_in ?_ ?_; rotate_left; (focus (intro h_; exfalso; first | omega | ((try simp only [decide_eq_true_eq, decide_eq_false_iff_not] at h_); omega) | (simp [mulSz, Cont.len, bne] at h_; first | done | omega))); intro _; conv => whnf)
      | (refine ⟨0, (show _ = _ by omega), ?_⟩; conv => whnf))
    refine tst_in (fun h => ?_) (fun h' => ?_)
    · have h : i < n := by have := dlt_t h; omega
      have e1 := hg i h
      have e2 := hg2 i h
      conv => whnf
      repeat (first
        | (refine And.intro ?_ ?_; (focus (first | omega | decide | exact EqOk.mk (by kernel_rfl) (by kernel_rfl) (by kernel_rfl) | exact Int.natCast_nonneg _ | ((repeat' refine And.intro ?_ ?_) <;> first | omega | exact Int.natCast_nonneg _ | (simp only [i64max, u8max, u16max, u32max, u64max]; omega) | (simp only [mulSz_eq, Cont.len, colsLen, Col.len, List.length_cons, List.length_nil, List.length_replicate, List.length_append]; first | done | omega) | (simp [mulSz, Cont.len, bne]; first | done | omega)))); conv => whnf)
        | (refine tst_in ?_ ?_; (focus (intro h_; exfalso; first | omega | ((try simp only [decide_eq_true_eq, decide_eq_false_iff_not] at h_); omega) | (simp [mulSz, Cont.len, bne] at h_; first | done | omega))); intro _; conv => whnf)
        | (refine tst_in ?_ ?_; rotate_left; (focus (intro h_; exfalso; first | omega | ((try simp only [decide_eq_true_eq, decide_eq_false_iff_not] at h_); omega) | (simp [mulSz, Cont.len, bne] at h_; first | done | omega))); intro _; conv => whnf)
        | (refine ⟨0, (show _ = _ by omega), ?_⟩; conv => whnf))
      rw [show (0 + ((i : Nat) : Int).toNat) = i by omega, e1, e2]
      refine tst_in (fun h_ => absurd h_ (by simp)) (fun h_ => ?_)
      conv => whnf
      repeat (first
        | (refine And.intro ?_ ?_; (focus (first | omega | decide | exact EqOk.mk (by kernel_rfl) (by kernel_rfl) (by kernel_rfl) | exact Int.natCast_nonneg _ | ((repeat' refine And.intro ?_ ?_) <;> first | omega | exact Int.natCast_nonneg _ | (simp only [i64max, u8max, u16max, u32max, u64max]; omega) | (simp only [mulSz_eq, Cont.len, colsLen, Col.len, List.length_cons, List.length_nil, List.length_replicate, List.length_append]; first | done | omega) | (simp [mulSz, Cont.len, bne]; first | done | omega)))); conv => whnf)
        | (refine tst_in ?_ ?_; (focus (intro h_; exfalso; first | omega | ((try simp only [decide_eq_true_eq, decide_eq_false_iff_not] at h_); omega) | (simp [mulSz, Cont.len, bne] at h_; first | done | omega))); intro _; conv => whnf)
        | (refine tst_in ?_ ?_; rotate_left; (focus (intro h_; exfalso; first | omega | ((try simp only [decide_eq_true_eq, decide_eq_false_iff_not] at h_); omega) | (simp [mulSz, Cont.len, bne] at h_; first | done | omega))); intro _; conv => whnf)
        | (refine ⟨0, (show _ = _ by omega), ?_⟩; conv => whnf))
      refine ⟨[0, 1], (i + 1 : Nat), ?_, h, by show n - (i + 1) < n - i; omega⟩
      show stLe _ _ (st38 A B n c d (i + 1)) _
      conv => whnf
      repeat' (first | exact True.intro | rfl | refine And.intro ?_ ?_)
      all_goals (conv => whnf)
      repeat' (first | exact True.intro | rfl | refine And.intro ?_ ?_)
      all_goals (try omega)
    · conv => whnf
      repeat (first
        | (refine And.intro ?_ ?_; (focus (first | omega | decide | exact EqOk.mk (by kernel_rfl) (by kernel_rfl) (by kernel_rfl) | exact Int.natCast_nonneg _ | ((repeat' refine And.intro ?_ ?_) <;> first | omega | exact Int.natCast_nonneg _ | (simp only [i64max, u8max, u16max, u32max, u64max]; omega) | (simp only [mulSz_eq, Cont.len, colsLen, Col.len, List.length_cons, List.length_nil, List.length_replicate, List.length_append]; first | done | omega) | (simp [mulSz, Cont.len, bne]; first | done | omega)))); conv => whnf)
        | (refine tst_in ?_ ?_; (focus (intro h_; exfalso; first | omega | ((try simp only [decide_eq_true_eq, decide_eq_false_iff_not] at h_); omega) | (simp [mulSz, Cont.len, bne] at h_; first | done | omega))); intro _; conv => whnf)
        | (refine tst_in ?_ ?_; rotate_left; (focus (intro h_; exfalso; first | omega | ((try simp only [decide_eq_true_eq, decide_eq_false_iff_not] at h_); omega) | (simp [mulSz, Cont.len, bne] at h_; first | done | omega))); intro _; conv => whnf)
        | (refine ⟨0, (show _ = _ by omega), ?_⟩; conv => whnf))
theorem ac_zf (q : Nat → G) : ∀ k, ac q zf k = zf
  | 0 => rfl
  | k + 1 => by show pa (ac q zf k) (ps (q k) (sh k zf)) = zf; rw [ac_zf q k, sh_zf, ps_zf, pa_zf]
theorem pol_prod (F H : Nat → G) (n m : Nat) : Pol (prodP F H n m) (plen (dg F n) (dg H m)) := by
  have hF := pol_dg F n
  have hH := pol_dg H m
  have e : prodP F H n m = ac (ct F n) (ct H m) (dg F n) := ac_le _ _ hF.1 (dg_le F n)
  rw [e]
  generalize dg F n = s at *
  generalize dg H m = t at *
  generalize ct F n = f at *
  generalize ct H m = h at *
  unfold plen
  split
  · rename_i h0
    rcases h0 with h0 | h0
    · subst h0; exact pol_zf
    · subst h0; rw [zr_all hH.1, ac_zf]; exact pol_zf
  · rename_i h0
    obtain ⟨a, rfl⟩ : ∃ a, s = a + 1 := ⟨s - 1, by omega⟩
    obtain ⟨b, rfl⟩ : ∃ b, t = b + 1 := ⟨t - 1, by omega⟩
    have := pol_ac hF hH
    rwa [show a + b + 1 = a + 1 + (b + 1) - 1 by omega] at this
theorem As_ct (F : Nat → G) (x : G) (n : Nat) : As (ct F n) x n = As F x n := As_congr x n fun k hk => ct_lt F hk
theorem As_pol {P : Nat → G} {t : Nat} (x : G) (h : Pol P t) {N : Nat} (hN : t ≤ N) : As P x t = As P x N := (As_le P x h.1 hN).symm
noncomputable def k21 : Code := (Try.f21.body).getD .skip
noncomputable def one2 (i : Nat) : G := if i < 2 then g1 else g0
set_option maxHeartbeats 0 in
set_option maxRecDepth 100000 in
theorem awake_f : Fits Try.prog 21 ⟨[], [], [numOut [] (.bool true)]⟩ := by
  have R1 : Rd [1, 1] one2 2 := ⟨Nat.le_refl _, fun i hi => by
    obtain h | h : i = 0 ∨ i = 1 := by omega
    · subst h; rfl
    · subst h; rfl⟩
  have PR := Product_g one2 one2 [1, 1] [1, 1] 2 2 2 2 R1 R1 (Nat.le_refl _) (Nat.le_refl _) (by omega) (by omega)
  rw [show plen (dg one2 2) (dg one2 2) = 3 from by kernel_rfl, show okQ 2 2 3 3 = 3 from by kernel_rfl, show okQE 2 2 3 = 0 from by kernel_rfl] at PR
  have e0 : prodP one2 one2 2 2 0 = g1 := G.ext (by kernel_rfl)
  have e1 : prodP one2 one2 2 2 1 = g0 := G.ext (by kernel_rfl)
  have e2 : prodP one2 one2 2 2 2 = g1 := G.ext (by kernel_rfl)
  have SQ := Same_q (prodP one2 one2 2 2) (tb (gi (prodP one2 one2 2 2)) 3) [1, 0, 1] 3 3 3 (Rd_tb _ _) ⟨Nat.le_refl _, fun i hi => by
    unfold gi
    obtain h | h | h : i = 0 ∨ i = 1 ∨ i = 2 := by omega
    · subst h; rw [e0]; rfl
    · subst h; rw [e1]; rfl
    · subst h; rw [e2]; rfl⟩ (Nat.le_refl _) (Nat.le_refl _) (by omega)
  have TM := Times_g ⟨2, by decide⟩ ⟨128, by decide⟩
  rw [show (⟨2, by decide⟩ * ⟨128, by decide⟩ : G) = ⟨29, by decide⟩ from G.ext (by kernel_rfl)] at TM
  refine fits_of_body (C := cfgk 0) (c := k21) (ts := [0]) tokL mixedL (fun _ => none) (fun _ => none)
    Try.func21 (by kernel_rfl) (by kernel_rfl) (by kernel_rfl) (by kernel_rfl) rfl ?_
  conv => whnf
  repeat (first
    | (refine And.intro ?_ ?_; (focus (first | omega | decide | exact EqOk.mk (by kernel_rfl) (by kernel_rfl) (by kernel_rfl) | exact Int.natCast_nonneg _ | ((repeat' refine And.intro ?_ ?_) <;> first | omega | exact Int.natCast_nonneg _ | (simp only [i64max, u8max, u16max, u32max, u64max]; omega) | (simp only [mulSz_eq, Cont.len, colsLen, Col.len, List.length_cons, List.length_nil, List.length_replicate, List.length_append]; first | done | omega) | (simp [mulSz, Cont.len, bne]; first | done | omega)))); conv => whnf)
    | (refine tst_in ?_ ?_; (focus (intro h_; exfalso; first | omega | ((try simp only [decide_eq_true_eq, decide_eq_false_iff_not] at h_); omega) | (simp [mulSz, Cont.len, bne] at h_; first | done | omega))); intro _; conv => whnf)
    | (refine tst_in ?_ ?_; rotate_left; (focus (intro h_; exfalso; first | omega | ((try simp only [decide_eq_true_eq, decide_eq_false_iff_not] at h_); omega) | (simp [mulSz, Cont.len, bne] at h_; first | done | omega))); intro _; conv => whnf)
    | (refine ⟨0, (show _ = _ by omega), ?_⟩; conv => whnf))
  refine ⟨_, [0, 1], PR, ?_⟩
  conv => whnf
  iterate 2
   refine And.intro ?_ ?_
   focus
    conv => whnf
    repeat' (first | exact True.intro | rfl | refine And.intro ?_ ?_ | omega)
    all_goals (conv => whnf)
    all_goals (try (first | rfl | omega | (simp; done)))
  conv => whnf
  refine ⟨?_, True.intro⟩
  intro _ _
  conv => whnf
  conv => whnf
  repeat (first
    | (refine And.intro ?_ ?_; (focus (first | omega | decide | exact EqOk.mk (by kernel_rfl) (by kernel_rfl) (by kernel_rfl) | exact Int.natCast_nonneg _ | ((repeat' refine And.intro ?_ ?_) <;> first | omega | exact Int.natCast_nonneg _ | (simp only [i64max, u8max, u16max, u32max, u64max]; omega) | (simp only [mulSz_eq, Cont.len, colsLen, Col.len, List.length_cons, List.length_nil, List.length_replicate, List.length_append]; first | done | omega) | (simp [mulSz, Cont.len, bne]; first | done | omega)))); conv => whnf)
    | (refine tst_in ?_ ?_; (focus (intro h_; exfalso; first | omega | ((try simp only [decide_eq_true_eq, decide_eq_false_iff_not] at h_); omega) | (simp [mulSz, Cont.len, bne] at h_; first | done | omega))); intro _; conv => whnf)
    | (refine tst_in ?_ ?_; rotate_left; (focus (intro h_; exfalso; first | omega | ((try simp only [decide_eq_true_eq, decide_eq_false_iff_not] at h_); omega) | (simp [mulSz, Cont.len, bne] at h_; first | done | omega))); intro _; conv => whnf)
    | (refine ⟨0, (show _ = _ by omega), ?_⟩; conv => whnf))
  refine ⟨_, [], TM, ?_⟩
  conv => whnf
  iterate 2
   refine And.intro ?_ ?_
   focus
    conv => whnf
    repeat' (first | exact True.intro | rfl | refine And.intro ?_ ?_ | omega)
    all_goals (conv => whnf)
    all_goals (try (first | rfl | omega | (simp; done)))
  conv => whnf
  conv => whnf
  repeat (first
    | (refine And.intro ?_ ?_; (focus (first | omega | decide | exact EqOk.mk (by kernel_rfl) (by kernel_rfl) (by kernel_rfl) | exact Int.natCast_nonneg _ | ((repeat' refine And.intro ?_ ?_) <;> first | omega | exact Int.natCast_nonneg _ | (simp only [i64max, u8max, u16max, u32max, u64max]; omega) | (simp only [mulSz_eq, Cont.len, colsLen, Col.len, List.length_cons, List.length_nil, List.length_replicate, List.length_append]; first | done | omega) | (simp [mulSz, Cont.len, bne]; first | done | omega)))); conv => whnf)
    | (refine tst_in ?_ ?_; (focus (intro h_; exfalso; first | omega | ((try simp only [decide_eq_true_eq, decide_eq_false_iff_not] at h_); omega) | (simp [mulSz, Cont.len, bne] at h_; first | done | omega))); intro _; conv => whnf)
    | (refine tst_in ?_ ?_; rotate_left; (focus (intro h_; exfalso; first | omega | ((try simp only [decide_eq_true_eq, decide_eq_false_iff_not] at h_); omega) | (simp [mulSz, Cont.len, bne] at h_; first | done | omega))); intro _; conv => whnf)
    | (refine ⟨0, (show _ = _ by omega), ?_⟩; conv => whnf))
  refine ⟨_, [2, 3], SQ, ?_⟩
  conv => whnf
  iterate 2
   refine And.intro ?_ ?_
   focus
    conv => whnf
    repeat' (first | exact True.intro | rfl | refine And.intro ?_ ?_)
    all_goals (conv => whnf)
    repeat' (first | exact True.intro | rfl | refine And.intro ?_ ?_)
    all_goals (try (first | rfl | omega | (simp; first | done | omega)))
  conv => whnf
  conv => whnf
  repeat (first
    | (refine And.intro ?_ ?_; (focus (first | omega | decide | exact EqOk.mk (by kernel_rfl) (by kernel_rfl) (by kernel_rfl) | exact Int.natCast_nonneg _ | ((repeat' refine And.intro ?_ ?_) <;> first | omega | exact Int.natCast_nonneg _ | (simp only [i64max, u8max, u16max, u32max, u64max]; omega) | (simp only [mulSz_eq, Cont.len, colsLen, Col.len, List.length_cons, List.length_nil, List.length_replicate, List.length_append]; first | done | omega) | (simp [mulSz, Cont.len, bne]; first | done | omega)))); conv => whnf)
    | (refine tst_in ?_ ?_; (focus (intro h_; exfalso; first | omega | ((try simp only [decide_eq_true_eq, decide_eq_false_iff_not] at h_); omega) | (simp [mulSz, Cont.len, bne] at h_; first | done | omega))); intro _; conv => whnf)
    | (refine tst_in ?_ ?_; rotate_left; (focus (intro h_; exfalso; first | omega | ((try simp only [decide_eq_true_eq, decide_eq_false_iff_not] at h_); omega) | (simp [mulSz, Cont.len, bne] at h_; first | done | omega))); intro _; conv => whnf)
    | (refine ⟨0, (show _ = _ by omega), ?_⟩; conv => whnf))
  refine .inl ⟨(), [], ?_⟩
  conv => whnf
  repeat' (first | exact True.intro | rfl | refine And.intro ?_ ?_)
  all_goals (conv => whnf)
  repeat' (first | exact True.intro | rfl | refine And.intro ?_ ?_)
  all_goals (try omega)
  all_goals simp
end Go.Proofs.Yteiblfkegnppeaa

set_option linter.unusedVariables false
set_option linter.unusedSimpArgs false
namespace Go.Proofs.Yteiblfkegnppeaa
open Go Go.Fw
end Go.Proofs.Yteiblfkegnppeaa

set_option linter.unusedVariables false
set_option linter.unusedSimpArgs false
namespace Go.Proofs.Yteiblfkegnppeaa
open Go Go.Fw
def toB (x : Int) : G := ⟨x.toNat % 256, Nat.mod_lt _ (by decide)⟩
theorem toB_gi {x : Int} (h : (Lit.int .u8 x).wf = true) : x = ((toB x).v : Nat) := by
  simp [Lit.wf, IntKind.min, IntKind.max, IntKind.signed, IntKind.bits] at h
  show x = ((x.toNat % 256 : Nat) : Int)
  omega
theorem Rd_row (g : Nat → Int) (n c : Nat) (hn : n ≤ c) (hw : ∀ i, i < c → (Lit.int .u8 (g i)).wf = true) : Rd (tb g c) (fun i => toB (g i)) n :=
  ⟨by rw [tab_len]; exact hn, fun i hi => by rw [tab_get _ _ (by omega)]; exact toB_gi (hw i (by omega))⟩
end Go.Proofs.Yteiblfkegnppeaa

set_option linter.unusedVariables false
set_option linter.unusedSimpArgs false
namespace Go.Proofs.Yteiblfkegnppeaa
open Go Go.Fw
/-- Times (x + r). -/
noncomputable def mulX (P : Nat → G) (r : G) : Nat → G := pa (sh 1 P) (ps r P)
noncomputable def uP (i : Nat) : G := if i = 0 then g1 else g0
/-- The polynomial of the first k roots. -/
noncomputable def roP (r : Nat → G) : Nat → Nat → G
  | 0 => uP
  | k + 1 => mulX (roP r k) (r k)
theorem zr_mulX {P : Nat → G} {n : Nat} (r : G) (h : Zr P n) : Zr (mulX P r) (n + 1) := by
  refine zr_pa ?_ (zr_mono (zr_ps r h) (by omega))
  have := zr_sh (k := 1) h
  rwa [Nat.add_comm] at this
theorem zr_roP (r : Nat → G) : ∀ k, Zr (roP r k) (k + 1)
  | 0 => fun i hi => if_neg (by omega)
  | k + 1 => zr_mulX (r k) (zr_roP r k)
theorem top_roP (r : Nat → G) : ∀ k, roP r k k = g1
  | 0 => rfl
  | k + 1 => by
    show sh 1 (roP r k) (k + 1) + r k * roP r k (k + 1) = g1
    rw [sh_in _ (by omega), zr_roP r k (k + 1) (Nat.le_refl _), m_zero, a_zero]
    exact top_roP r k
theorem pol_roP (r : Nat → G) (k : Nat) : Pol (roP r k) (k + 1) := ⟨zr_roP r k, fun _ => by rw [Nat.add_sub_cancel, top_roP]; exact g1_nz⟩
/-- From the top down: j places are done. -/
noncomputable def mix (P : Nat → G) (r : G) (k j : Nat) (i : Nat) : G := if k + 1 - j < i ∨ j = k + 2 then mulX P r i else P i
theorem mix_0 {P : Nat → G} {k : Nat} (r : G) (h : Zr P (k + 1)) {i : Nat} (hi : i < k + 2) : mix P r k 0 i = P i := if_neg (by omega)
theorem mulX_0 (P : Nat → G) (r : G) : mulX P r 0 = r * P 0 := by
  show sh 1 P 0 + r * P 0 = _
  rw [sh_out _ (by omega), z_add]
theorem mulX_s (P : Nat → G) (r : G) (i : Nat) : mulX P r (i + 1) = P i + r * P (i + 1) := by
  show sh 1 P (i + 1) + r * P (i + 1) = _
  rw [sh_in _ (by omega), Nat.add_sub_cancel]
noncomputable def k47 : Code := (Try.f47.body).getD .skip
noncomputable def st47 (F : Nat → G) (A : List Int) (n c k : Nat) (tl : List Int) : St := ⟨slotsAt 53 [(3, .slice 1 0 (k + 1) (k + 1 + tl.length)), (13, .slice 0 0 n c), (14, .int .i64 n), (15, .int .i64 k)], [.seg false (.ints .u8 A), .seg true (.ints .u8 (tb (gi (roP F k)) (k + 1) ++ tl))]⟩
noncomputable def st47b (F : Nat → G) (A : List Int) (n c k j : Nat) (tl : List Int) : St := ⟨slotsAt 53 [(3, .slice 1 0 (k + 2) (k + 2 + tl.length)), (5, .int .u8 (gi F k)), (6, .int .i64 ((k : Int) + 1 - j)), (13, .slice 0 0 n c), (14, .int .i64 n), (15, .int .i64 k)], [.seg false (.ints .u8 A), .seg true (.ints .u8 (tb (gi (mix (roP F k) (F k) k j)) (k + 2) ++ tl))]⟩
def plan47 : PlanN := .op 0 (.op 1 (.op 2 (.op 3 (.op 7 (.op 8 (.op 9 (.op 10 (.op 11 (.rd 4 (.rd 5 (.rd 6 (.op 12 (.chk [6, 5, 4] (.op 13 (.op 14 (.op 15 .done))))))))))))))))
noncomputable def cfg47 (F : Nat → G) (A : List Int) (n c : Nat) : Cfg := { cfgk 1 with
  dep := fun | 8 => some fun st => ⟨Nat × List Int, fun p => st47b F A n c (natAt st 15) p.1 p.2, fun p => p.1 ≤ natAt st 15 + 1, fun p => natAt st 15 + 1 - p.1⟩ | _ => none,
  plan := fun | 10 => some (.nn plan47) | _ => none }
set_option maxHeartbeats 0 in
set_option maxRecDepth 100000 in
theorem of_f (F : Nat → G) (A : List Int) (n c : Nat) (hA : Rd A F n) (hc : n ≤ c) (hn : n ≤ 512) :
    Fits Try.prog 47 ⟨[.slice 0 0 n c], [.seg false (.ints .u8 A)], [⟨List Int, fun _ => True, fun tl => .slice 1 0 (n + 1) (n + 1 + tl.length), fun tl => [.dead, .seg true (.ints .u8 (tb (gi (roP F n)) (n + 1) ++ tl))]⟩]⟩ := by
  refine fits_of_body (C := cfg47 F A n c) (c := k47) (ts := [2]) tokL mixedL (fun | 4 => some ⟨Nat × List Int, fun p => st47 F A n c p.1 p.2, fun p => p.1 ≤ n, fun p => n - p.1⟩ | _ => none) (fun _ => none)
    Try.func47 (by kernel_rfl) (by kernel_rfl) (by kernel_rfl) (by kernel_rfl) rfl ?_
  obtain ⟨hl, hg⟩ := hA
  conv => whnf
  refine ⟨by omega, ?_⟩
  refine ⟨⟨by decide, by omega, by show (1 : Int) * ((n : Int) + 1) ≤ 281474976710656; omega, by omega⟩, ?_⟩
  conv => whnf
  rw [show ((n : Int) + 1).toNat = n + 1 by omega]
  refine ⟨by repeat' (first | omega | exact Int.natCast_nonneg _ | (simp only [i64max]; omega) | (simp only [u8max]; omega) | refine And.intro ?_ ?_), ?_⟩
  conv => whnf
  conv => whnf
  repeat (first
    | (refine And.intro ?_ ?_; (focus (first | omega | decide | exact EqOk.mk (by kernel_rfl) (by kernel_rfl) (by kernel_rfl) | exact Int.natCast_nonneg _ | ((repeat' refine And.intro ?_ ?_) <;> first | omega | exact Int.natCast_nonneg _ | (simp only [i64max, u8max, u16max, u32max, u64max]; omega) | (simp only [mulSz_eq, Cont.len, colsLen, Col.len, List.length_cons, List.length_nil, List.length_replicate, List.length_append, List.length_replicate]; first | done | omega) | (simp [mulSz, Cont.len, bne, List.length_replicate]; first | done | omega)))); conv => whnf)
    | (refine tst_in ?_ ?_; (focus (intro h_; exfalso; first | omega | ((try simp only [decide_eq_true_eq, decide_eq_false_iff_not] at h_); omega) | (simp [mulSz, Cont.len, bne, List.length_replicate] at h_; first | done | omega))); intro _; conv => whnf)
    | (refine tst_in ?_ ?_; rotate_left; (focus (intro h_; exfalso; first | omega | ((try simp only [decide_eq_true_eq, decide_eq_false_iff_not] at h_); omega) | (simp [mulSz, Cont.len, bne, List.length_replicate] at h_; first | done | omega))); intro _; conv => whnf)
    | (refine ⟨0, (show _ = _ by omega), ?_⟩; conv => whnf))
  refine ⟨⟨[0, 1], ((0, List.replicate n 0) : Nat × List Int), ?_, Nat.zero_le _⟩, ?_⟩
  · show stLe _ _ (st47 F A n c 0 (List.replicate n 0)) _
    conv => whnf
    repeat' (first | exact True.intro | rfl | refine And.intro ?_ ?_)
    all_goals (conv => whnf)
    repeat' (first | exact True.intro | rfl | refine And.intro ?_ ?_)
    all_goals (try omega)
    show 0 + 1 + (List.replicate n (0 : Int)).length = n + 1
    rw [List.length_replicate]; omega
  · intro ⟨k, tl⟩ (hk : k ≤ n)
    show forceSt (st47 F A n c k tl) _
    conv => whnf
    repeat (first
      | (refine And.intro ?_ ?_; (focus (first | omega | decide | exact EqOk.mk (by kernel_rfl) (by kernel_rfl) (by kernel_rfl) | exact Int.natCast_nonneg _ | ((repeat' refine And.intro ?_ ?_) <;> first | omega | exact Int.natCast_nonneg _ | (simp only [i64max, u8max, u16max, u32max, u64max]; omega) | (simp only [mulSz_eq, Cont.len, colsLen, Col.len, List.length_cons, List.length_nil, List.length_replicate, List.length_append]; first | done | omega) | (simp [mulSz, Cont.len, bne]; first | done | omega)))); conv => whnf)
      | (refine tst_in ?_ ?_; (focus (intro h_; exfalso; first | omega | ((try simp only [decide_eq_true_eq, decide_eq_false_iff_not] at h_); omega) | (simp [mulSz, Cont.len, bne] at h_; first | done | omega))); intro _; conv => whnf)
      | (refine tst_in ?_ ?_; rotate_left; (focus (intro h_; exfalso; first | omega | ((try simp only [decide_eq_true_eq, decide_eq_false_iff_not] at h_); omega) | (simp [mulSz, Cont.len, bne] at h_; first | done | omega))); intro _; conv => whnf)
      | (refine ⟨0, (show _ = _ by omega), ?_⟩; conv => whnf))
    refine tst_in (fun h => ?_) (fun h' => ?_)
    · have h : k < n := by have := dlt_t h; omega
      have hgk := hg k h
      conv => whnf
      repeat (first
        | (refine And.intro ?_ ?_; (focus (first | omega | decide | exact EqOk.mk (by kernel_rfl) (by kernel_rfl) (by kernel_rfl) | exact Int.natCast_nonneg _ | ((repeat' refine And.intro ?_ ?_) <;> first | omega | exact Int.natCast_nonneg _ | (simp only [i64max, u8max, u16max, u32max, u64max]; omega) | (simp only [mulSz_eq, Cont.len, colsLen, Col.len, List.length_cons, List.length_nil, List.length_replicate, List.length_append]; first | done | omega) | (simp [mulSz, Cont.len, bne]; first | done | omega)))); conv => whnf)
        | (refine tst_in ?_ ?_; (focus (intro h_; exfalso; first | omega | ((try simp only [decide_eq_true_eq, decide_eq_false_iff_not] at h_); omega) | (simp [mulSz, Cont.len, bne] at h_; first | done | omega))); intro _; conv => whnf)
        | (refine tst_in ?_ ?_; rotate_left; (focus (intro h_; exfalso; first | omega | ((try simp only [decide_eq_true_eq, decide_eq_false_iff_not] at h_); omega) | (simp [mulSz, Cont.len, bne] at h_; first | done | omega))); intro _; conv => whnf)
        | (refine ⟨0, (show _ = _ by omega), ?_⟩; conv => whnf))
      rw [show (0 + ((k : Nat) : Int).toNat) = k by omega, hgk]
      conv => whnf
      repeat (first
        | (refine And.intro ?_ ?_; (focus (first | omega | decide | exact EqOk.mk (by kernel_rfl) (by kernel_rfl) (by kernel_rfl) | exact Int.natCast_nonneg _ | ((repeat' refine And.intro ?_ ?_) <;> first | omega | exact Int.natCast_nonneg _ | (simp only [i64max, u8max, u16max, u32max, u64max]; omega) | (simp only [mulSz_eq, Cont.len, colsLen, Col.len, List.length_cons, List.length_nil, List.length_replicate, List.length_append, tab_len]; first | done | omega) | (simp [mulSz, Cont.len, bne, tab_len]; first | done | omega)))); conv => whnf)
        | (refine tst_in ?_ ?_; (focus (intro h_; exfalso; first | omega | ((try simp only [decide_eq_true_eq, decide_eq_false_iff_not] at h_); omega) | (simp [mulSz, Cont.len, bne, tab_len] at h_; first | done | omega))); intro _; conv => whnf)
        | (refine tst_in ?_ ?_; rotate_left; (focus (intro h_; exfalso; first | omega | ((try simp only [decide_eq_true_eq, decide_eq_false_iff_not] at h_); omega) | (simp [mulSz, Cont.len, bne, tab_len] at h_; first | done | omega))); intro _; conv => whnf)
        | (refine ⟨0, (show _ = _ by omega), ?_⟩; conv => whnf))
      intro tl2
      change List Int at tl2
      conv => whnf
      repeat (first
        | (refine And.intro ?_ ?_; (focus (first | omega | decide | exact EqOk.mk (by kernel_rfl) (by kernel_rfl) (by kernel_rfl) | exact Int.natCast_nonneg _ | ((repeat' refine And.intro ?_ ?_) <;> first | omega | exact Int.natCast_nonneg _ | (simp only [i64max, u8max, u16max, u32max, u64max]; omega) | (simp only [mulSz_eq, Cont.len, colsLen, Col.len, List.length_cons, List.length_nil, List.length_replicate, List.length_append, tab_len]; first | done | omega) | (simp [mulSz, Cont.len, bne, tab_len]; first | done | omega)))); conv => whnf)
        | (refine tst_in ?_ ?_; (focus (intro h_; exfalso; first | omega | ((try simp only [decide_eq_true_eq, decide_eq_false_iff_not] at h_); omega) | (simp [mulSz, Cont.len, bne, tab_len] at h_; first | done | omega))); intro _; conv => whnf)
        | (refine tst_in ?_ ?_; rotate_left; (focus (intro h_; exfalso; first | omega | ((try simp only [decide_eq_true_eq, decide_eq_false_iff_not] at h_); omega) | (simp [mulSz, Cont.len, bne, tab_len] at h_; first | done | omega))); intro _; conv => whnf)
        | (refine ⟨0, (show _ = _ by omega), ?_⟩; conv => whnf))
      have hz := zr_roP F k
      generalize hP : roP F k = P at *
      refine ⟨⟨[0, 3], ((0, tl2) : Nat × List Int), ?_, Nat.zero_le _⟩, ?_⟩
      · show stLe _ _ (st47b F A n c k 0 tl2) _
        unfold st47b
        rw [hP]
        conv => whnf
        repeat' (first | exact True.intro | rfl | refine And.intro ?_ ?_)
        all_goals (conv => whnf)
        repeat' (first | exact True.intro | rfl | refine And.intro ?_ ?_)
        all_goals (try omega)
        show tb (gi (mix P (F k) k 0)) (k + 2) ++ tl2 = List.take (k + 1) (List.drop 0 (tb (gi P) (k + 1) ++ tl)) ++ [0] ++ tl2
        congr 1
        symm
        refine tab_ext 0 ?_ fun i hi => ?_
        · rw [List.length_append, List.length_take, List.length_drop, List.length_append, tab_len]
          show min (k + 1) (k + 1 + tl.length - 0) + 1 = k + 2
          omega
        · rw [g_app, List.length_take, List.length_drop, List.length_append, tab_len, g_take, g_drop, g_app, tab_len, g_tab, g_one]
          show _ = ((mix P (F k) k 0 i).v : Int)
          rw [mix_0 (F k) hz hi]
          by_cases h2 : i < k + 1
          · rw [if_pos (by omega), if_pos h2, if_pos (by omega), if_pos (by omega), Nat.zero_add]; rfl
          · rw [if_neg (by omega), if_pos (by omega), hz i (by omega)]; rfl
      · intro ⟨j, tl3⟩ hj
        have hj : j ≤ k + 1 := hj
        show forceSt (st47b F A n c k j tl3) _
        unfold st47b
        rw [hP]
        conv => whnf
        repeat (first
          | (refine And.intro ?_ ?_; (focus (first | omega | decide | exact EqOk.mk (by kernel_rfl) (by kernel_rfl) (by kernel_rfl) | exact Int.natCast_nonneg _ | ((repeat' refine And.intro ?_ ?_) <;> first | omega | exact Int.natCast_nonneg _ | (simp only [i64max, u8max, u16max, u32max, u64max]; omega) | (simp only [mulSz_eq, Cont.len, colsLen, Col.len, List.length_cons, List.length_nil, List.length_replicate, List.length_append]; first | done | omega) | (simp [mulSz, Cont.len, bne]; first | done | omega)))); conv => whnf)
          | (refine tst_in ?_ ?_; (focus (intro h_; exfalso; first | omega | ((try simp only [decide_eq_true_eq, decide_eq_false_iff_not] at h_); omega) | (simp [mulSz, Cont.len, bne] at h_; first | done | omega))); intro _; conv => whnf)
          | (refine tst_in ?_ ?_; rotate_left; (focus (intro h_; exfalso; first | omega | ((try simp only [decide_eq_true_eq, decide_eq_false_iff_not] at h_); omega) | (simp [mulSz, Cont.len, bne] at h_; first | done | omega))); intro _; conv => whnf)
          | (refine ⟨0, (show _ = _ by omega), ?_⟩; conv => whnf))
        refine tst_in (fun u => ?_) (fun u' => ?_)
        · have u : (0 : Int) < (k : Int) + 1 - (j : Int) := dlt_t u
          obtain ⟨i, hi⟩ : ∃ i, i + 1 + j = k + 1 := ⟨k - j, by omega⟩
          rw [show (k : Int) + 1 - (j : Int) = (i : Int) + 1 by omega]
          have m1 : mix P (F k) k j i = P i := if_neg (by omega)
          have m2 : mix P (F k) k j (i + 1) = P (i + 1) := if_neg (by omega)
          have TM := Times_g (P (i + 1)) (F k)
          have g1 : (tb (gi (mix P (F k) k j)) (k + 2) ++ tl3).getD i 0 = ((P i).v : Nat) := by rw [tab_app _ _ _ (by omega)]; unfold gi; rw [m1]
          have g2 : (tb (gi (mix P (F k) k j)) (k + 2) ++ tl3).getD (i + 1) 0 = ((P (i + 1)).v : Nat) := by rw [tab_app _ _ _ (by omega)]; unfold gi; rw [m2]
          have hl1 := (P i).lt
          have hl2 := (P (i + 1) * F k).lt
          conv => whnf
          repeat (first
            | (refine And.intro ?_ ?_; (focus (first | omega | decide | exact EqOk.mk (by kernel_rfl) (by kernel_rfl) (by kernel_rfl) | exact Int.natCast_nonneg _ | ((repeat' refine And.intro ?_ ?_) <;> first | omega | exact Int.natCast_nonneg _ | (simp only [i64max, u8max, u16max, u32max, u64max]; omega) | (simp only [mulSz_eq, Cont.len, colsLen, Col.len, List.length_cons, List.length_nil, List.length_replicate, List.length_append, tab_len]; first | done | omega) | (simp [mulSz, Cont.len, bne, tab_len]; first | done | omega)))); conv => whnf)
            | (refine tst_in ?_ ?_; (focus (intro h_; exfalso; first | omega | ((try simp only [decide_eq_true_eq, decide_eq_false_iff_not] at h_); omega) | (simp [mulSz, Cont.len, bne, tab_len] at h_; first | done | omega))); intro _; conv => whnf)
            | (refine tst_in ?_ ?_; rotate_left; (focus (intro h_; exfalso; first | omega | ((try simp only [decide_eq_true_eq, decide_eq_false_iff_not] at h_); omega) | (simp [mulSz, Cont.len, bne, tab_len] at h_; first | done | omega))); intro _; conv => whnf)
            | (refine ⟨0, (show _ = _ by omega), ?_⟩; conv => whnf))
          rw [show (0 + ((i : Nat) + 1 - 1 : Int).toNat) = i by omega, show (0 + ((i : Nat) + 1 : Int).toNat) = i + 1 by omega, g1, g2]
          refine ⟨_, [], TM, ?_⟩
          conv => whnf
          iterate 2
           refine And.intro ?_ ?_
           focus
            conv => whnf
            repeat' (first | exact True.intro | rfl | refine And.intro ?_ ?_ | omega)
            all_goals (conv => whnf)
            all_goals (try (first | rfl | omega | (simp; done)))
          conv => whnf
          have hlen : i < (tb (gi (mix P (F k) k j)) (k + 2) ++ tl3).length := by rw [List.length_append, tab_len]; omega
          conv => whnf
          repeat (first
            | (refine And.intro ?_ ?_; (focus (first | omega | decide | exact EqOk.mk (by kernel_rfl) (by kernel_rfl) (by kernel_rfl) | exact Int.natCast_nonneg _ | ((repeat' refine And.intro ?_ ?_) <;> first | omega | exact Int.natCast_nonneg _ | (simp only [i64max, u8max, u16max, u32max, u64max]; omega) | (simp only [mulSz_eq, Cont.len, colsLen, Col.len, List.length_cons, List.length_nil, List.length_replicate, List.length_append, tab_len]; first | done | omega) | (simp [mulSz, Cont.len, bne, tab_len]; first | done | omega)))); conv => whnf)
            | (refine tst_in ?_ ?_; (focus (intro h_; exfalso; first | omega | ((try simp only [decide_eq_true_eq, decide_eq_false_iff_not] at h_); omega) | (simp [mulSz, Cont.len, bne, tab_len] at h_; first | done | omega))); intro _; conv => whnf)
            | (refine tst_in ?_ ?_; rotate_left; (focus (intro h_; exfalso; first | omega | ((try simp only [decide_eq_true_eq, decide_eq_false_iff_not] at h_); omega) | (simp [mulSz, Cont.len, bne, tab_len] at h_; first | done | omega))); intro _; conv => whnf)
            | (refine ⟨0, (show _ = _ by omega), ?_⟩; conv => whnf))
          refine ⟨[0, 1], ((j + 1, tl3) : Nat × List Int), ?_, (by show j + 1 ≤ k + 1; omega), (by show k + 1 - (j + 1) < k + 1 - j; omega)⟩
          show stLe _ _ (st47b F A n c k (j + 1) tl3) _
          unfold st47b
          rw [hP]
          conv => whnf
          repeat' (first | exact True.intro | rfl | refine And.intro ?_ ?_)
          all_goals (conv => whnf)
          repeat' (first | exact True.intro | rfl | refine And.intro ?_ ?_)
          all_goals (try omega)
          show tb (gi (mix P (F k) k (j + 1))) (k + 2) ++ tl3 = (tb (gi (mix P (F k) k j)) (k + 2) ++ tl3).set (0 + ((i : Nat) + 1 : Int).toNat) (((P i + P (i + 1) * F k : G).v : Nat) : Int)
          rw [show (0 + ((i : Nat) + 1 : Int).toNat) = i + 1 by omega, List.set_append_left _ _ (by rw [tab_len]; omega)]
          congr 1
          refine (tab_put _ (k + 2) (i + 1) _ fun l hl => ?_).symm
          unfold mix
          by_cases e : l = i + 1
          · subst e; rw [if_pos rfl, if_pos (by omega), mulX_s, m_comm]
          · rw [if_neg e]
            by_cases e2 : i + 1 < l
            · rw [if_pos (by omega), if_pos (by omega)]
            · rw [if_neg (by omega), if_neg (by omega)]
        · have u : j = k + 1 := by have : (k : Int) + 1 - (j : Int) ≤ 0 := dlt_f u'; omega
          subst u
          have m0 : mix P (F k) k (k + 1) 0 = P 0 := if_neg (by omega)
          have g0' : (tb (gi (mix P (F k) k (k + 1))) (k + 2) ++ tl3).getD 0 0 = ((P 0).v : Nat) := by rw [tab_app _ _ _ (by omega)]; unfold gi; rw [m0]
          have TM := Times_g (P 0) (F k)
          conv => whnf
          repeat (first
            | (refine And.intro ?_ ?_; (focus (first | omega | decide | exact EqOk.mk (by kernel_rfl) (by kernel_rfl) (by kernel_rfl) | exact Int.natCast_nonneg _ | ((repeat' refine And.intro ?_ ?_) <;> first | omega | exact Int.natCast_nonneg _ | (simp only [i64max, u8max, u16max, u32max, u64max]; omega) | (simp only [mulSz_eq, Cont.len, colsLen, Col.len, List.length_cons, List.length_nil, List.length_replicate, List.length_append, tab_len]; first | done | omega) | (simp [mulSz, Cont.len, bne, tab_len]; first | done | omega)))); conv => whnf)
            | (refine tst_in ?_ ?_; (focus (intro h_; exfalso; first | omega | ((try simp only [decide_eq_true_eq, decide_eq_false_iff_not] at h_); omega) | (simp [mulSz, Cont.len, bne, tab_len] at h_; first | done | omega))); intro _; conv => whnf)
            | (refine tst_in ?_ ?_; rotate_left; (focus (intro h_; exfalso; first | omega | ((try simp only [decide_eq_true_eq, decide_eq_false_iff_not] at h_); omega) | (simp [mulSz, Cont.len, bne, tab_len] at h_; first | done | omega))); intro _; conv => whnf)
            | (refine ⟨0, (show _ = _ by omega), ?_⟩; conv => whnf))
          rw [show (0 + Int.toNat 0) = 0 from rfl, g0']
          refine ⟨_, [], TM, ?_⟩
          conv => whnf
          iterate 2
           refine And.intro ?_ ?_
           focus
            conv => whnf
            repeat' (first | exact True.intro | rfl | refine And.intro ?_ ?_ | omega)
            all_goals (conv => whnf)
            all_goals (try (first | rfl | omega | (simp; done)))
          conv => whnf
          conv => whnf
          repeat (first
            | (refine And.intro ?_ ?_; (focus (first | omega | decide | exact EqOk.mk (by kernel_rfl) (by kernel_rfl) (by kernel_rfl) | exact Int.natCast_nonneg _ | ((repeat' refine And.intro ?_ ?_) <;> first | omega | exact Int.natCast_nonneg _ | (simp only [i64max, u8max, u16max, u32max, u64max]; omega) | (simp only [mulSz_eq, Cont.len, colsLen, Col.len, List.length_cons, List.length_nil, List.length_replicate, List.length_append, tab_len]; first | done | omega) | (simp [mulSz, Cont.len, bne, tab_len]; first | done | omega)))); conv => whnf)
            | (refine tst_in ?_ ?_; (focus (intro h_; exfalso; first | omega | ((try simp only [decide_eq_true_eq, decide_eq_false_iff_not] at h_); omega) | (simp [mulSz, Cont.len, bne, tab_len] at h_; first | done | omega))); intro _; conv => whnf)
            | (refine tst_in ?_ ?_; rotate_left; (focus (intro h_; exfalso; first | omega | ((try simp only [decide_eq_true_eq, decide_eq_false_iff_not] at h_); omega) | (simp [mulSz, Cont.len, bne, tab_len] at h_; first | done | omega))); intro _; conv => whnf)
            | (refine ⟨0, (show _ = _ by omega), ?_⟩; conv => whnf))
          refine ⟨[0, 1], ((k + 1, tl3) : Nat × List Int), ?_, (by show k + 1 ≤ n; omega), (by show n - (k + 1) < n - k; omega)⟩
          show stLe _ _ (st47 F A n c (k + 1) tl3) _
          unfold st47
          rw [show roP F (k + 1) = mulX P (F k) by rw [← hP]; rfl]
          conv => whnf
          repeat' (first | exact True.intro | rfl | refine And.intro ?_ ?_)
          all_goals (conv => whnf)
          repeat' (first | exact True.intro | rfl | refine And.intro ?_ ?_)
          all_goals (try omega)
          show tb (gi (mulX P (F k))) (k + 2) ++ tl3 = (tb (gi (mix P (F k) k (k + 1))) (k + 2) ++ tl3).set (0 + Int.toNat 0) (((P 0 * F k : G).v : Nat) : Int)
          rw [show (0 + Int.toNat 0) = 0 from rfl, List.set_append_left _ _ (by rw [tab_len]; omega)]
          congr 1
          refine (tab_put _ (k + 2) 0 _ fun l hl => ?_).symm
          unfold mix
          by_cases e : l = 0
          · subst e; rw [if_pos rfl, mulX_0, m_comm]
          · rw [if_neg e, if_pos (by omega)]
    · have h : k = n := by have := dlt_f h'; omega
      subst h
      conv => whnf
      repeat (first
        | (refine And.intro ?_ ?_; (focus (first | omega | decide | exact EqOk.mk (by kernel_rfl) (by kernel_rfl) (by kernel_rfl) | exact Int.natCast_nonneg _ | ((repeat' refine And.intro ?_ ?_) <;> first | omega | exact Int.natCast_nonneg _ | (simp only [i64max, u8max, u16max, u32max, u64max]; omega) | (simp only [mulSz_eq, Cont.len, colsLen, Col.len, List.length_cons, List.length_nil, List.length_replicate, List.length_append]; first | done | omega) | (simp [mulSz, Cont.len, bne]; first | done | omega)))); conv => whnf)
        | (refine tst_in ?_ ?_; (focus (intro h_; exfalso; first | omega | ((try simp only [decide_eq_true_eq, decide_eq_false_iff_not] at h_); omega) | (simp [mulSz, Cont.len, bne] at h_; first | done | omega))); intro _; conv => whnf)
        | (refine tst_in ?_ ?_; rotate_left; (focus (intro h_; exfalso; first | omega | ((try simp only [decide_eq_true_eq, decide_eq_false_iff_not] at h_); omega) | (simp [mulSz, Cont.len, bne] at h_; first | done | omega))); intro _; conv => whnf)
        | (refine ⟨0, (show _ = _ by omega), ?_⟩; conv => whnf))
      refine .inl ⟨tl, [0, 1], ?_⟩
      conv => whnf
      repeat' (first | exact True.intro | rfl | refine And.intro ?_ ?_)
      all_goals (conv => whnf)
      repeat' (first | exact True.intro | rfl | refine And.intro ?_ ?_)
      all_goals (try omega)
noncomputable def k30 : Code := (Try.f30.body).getD .skip
def ofN (n N : Nat) : Nat := if 512 ≤ n then 0 else N
def ofE (n : Nat) : Int := if 512 ≤ n then 1 else 0
noncomputable def ofOut (F : Nat → G) (n : Nat) : FOut := ⟨List Int, fun _ => True, fun tl => .tup [.slice 1 0 (ofN n (n + 1)) (ofN n (n + 1) + tl.length), .int .i64 (ofE n)], fun tl => [.dead, .seg true (.ints .u8 (tb (gi (roP F n)) (ofN n (n + 1)) ++ tl))]⟩
set_option maxHeartbeats 0 in
set_option maxRecDepth 100000 in
theorem Of_g (F : Nat → G) (A : List Int) (n c : Nat) (hA : Rd A F n) (hc : n ≤ c) (hn : n ≤ 9223372036854775807) :
    Fits Try.prog 30 ⟨[.slice 0 0 n c], [.seg false (.ints .u8 A)], [ofOut F n]⟩ := by
  unfold ofOut
  refine fits_of_body (C := cfgk 1) (c := k30) (ts := [2, 3]) tokL mixedL (fun _ => none) (fun _ => none)
    Try.func30 (by kernel_rfl) (by kernel_rfl) (by kernel_rfl) (by kernel_rfl) rfl ?_
  by_cases h : 512 ≤ n
  · rw [show ofN n (n + 1) = 0 from if_pos h, show ofE n = 1 from if_pos h]
    conv => whnf
    repeat (first
      | (refine And.intro ?_ ?_; (focus (first | omega | decide | exact EqOk.mk (by kernel_rfl) (by kernel_rfl) (by kernel_rfl) | exact Int.natCast_nonneg _ | ((repeat' refine And.intro ?_ ?_) <;> first | omega | exact Int.natCast_nonneg _ | (simp only [i64max, u8max, u16max, u32max, u64max]; omega) | (simp only [mulSz_eq, Cont.len, colsLen, Col.len, List.length_cons, List.length_nil, List.length_replicate, List.length_append]; first | done | omega) | (simp [mulSz, Cont.len, bne]; first | done | omega)))); conv => whnf)
      | (refine tst_in ?_ ?_; (focus (intro h_; exfalso; first | omega | ((try simp only [decide_eq_true_eq, decide_eq_false_iff_not] at h_); omega) | (simp [mulSz, Cont.len, bne] at h_; first | done | omega))); intro _; conv => whnf)
      | (refine tst_in ?_ ?_; rotate_left; (focus (intro h_; exfalso; first | omega | ((try simp only [decide_eq_true_eq, decide_eq_false_iff_not] at h_); omega) | (simp [mulSz, Cont.len, bne] at h_; first | done | omega))); intro _; conv => whnf)
      | (refine ⟨0, (show _ = _ by omega), ?_⟩; conv => whnf))
    refine .inl ⟨[], [0, 9], ?_⟩
    conv => whnf
    repeat' (first | exact True.intro | rfl | refine And.intro ?_ ?_)
    all_goals (conv => whnf)
    repeat' (first | exact True.intro | rfl | refine And.intro ?_ ?_)
    all_goals (try omega)
  · rw [show ofN n (n + 1) = n + 1 from if_neg h, show ofE n = 0 from if_neg h]
    have OF := of_f F A n c hA hc (by omega)
    conv => whnf
    repeat (first
      | (refine And.intro ?_ ?_; (focus (first | omega | decide | exact EqOk.mk (by kernel_rfl) (by kernel_rfl) (by kernel_rfl) | exact Int.natCast_nonneg _ | ((repeat' refine And.intro ?_ ?_) <;> first | omega | exact Int.natCast_nonneg _ | (simp only [i64max, u8max, u16max, u32max, u64max]; omega) | (simp only [mulSz_eq, Cont.len, colsLen, Col.len, List.length_cons, List.length_nil, List.length_replicate, List.length_append]; first | done | omega) | (simp [mulSz, Cont.len, bne]; first | done | omega)))); conv => whnf)
      | (refine tst_in ?_ ?_; (focus (intro h_; exfalso; first | omega | ((try simp only [decide_eq_true_eq, decide_eq_false_iff_not] at h_); omega) | (simp [mulSz, Cont.len, bne] at h_; first | done | omega))); intro _; conv => whnf)
      | (refine tst_in ?_ ?_; rotate_left; (focus (intro h_; exfalso; first | omega | ((try simp only [decide_eq_true_eq, decide_eq_false_iff_not] at h_); omega) | (simp [mulSz, Cont.len, bne] at h_; first | done | omega))); intro _; conv => whnf)
      | (refine ⟨0, (show _ = _ by omega), ?_⟩; conv => whnf))
    refine ⟨_, [0], OF, ?_⟩
    conv => whnf
    iterate 2
     refine And.intro ?_ ?_
     focus
      conv => whnf
      repeat' (first | exact True.intro | rfl | refine And.intro ?_ ?_)
      all_goals (conv => whnf)
      repeat' (first | exact True.intro | rfl | refine And.intro ?_ ?_)
      all_goals (try (first | rfl | omega | (simp; first | done | omega)))
    conv => whnf
    refine ⟨?_, True.intro⟩
    rintro tl _
    conv => whnf
    change List Int at tl
    conv => whnf
    repeat (first
      | (refine And.intro ?_ ?_; (focus (first | omega | decide | exact EqOk.mk (by kernel_rfl) (by kernel_rfl) (by kernel_rfl) | exact Int.natCast_nonneg _ | ((repeat' refine And.intro ?_ ?_) <;> first | omega | exact Int.natCast_nonneg _ | (simp only [i64max, u8max, u16max, u32max, u64max]; omega) | (simp only [mulSz_eq, Cont.len, colsLen, Col.len, List.length_cons, List.length_nil, List.length_replicate, List.length_append]; first | done | omega) | (simp [mulSz, Cont.len, bne]; first | done | omega)))); conv => whnf)
      | (refine tst_in ?_ ?_; (focus (intro h_; exfalso; first | omega | ((try simp only [decide_eq_true_eq, decide_eq_false_iff_not] at h_); omega) | (simp [mulSz, Cont.len, bne] at h_; first | done | omega))); intro _; conv => whnf)
      | (refine tst_in ?_ ?_; rotate_left; (focus (intro h_; exfalso; first | omega | ((try simp only [decide_eq_true_eq, decide_eq_false_iff_not] at h_); omega) | (simp [mulSz, Cont.len, bne] at h_; first | done | omega))); intro _; conv => whnf)
      | (refine ⟨0, (show _ = _ by omega), ?_⟩; conv => whnf))
    refine .inl ⟨tl, [0, 1], ?_⟩
    conv => whnf
    repeat' (first | exact True.intro | rfl | refine And.intro ?_ ?_)
    all_goals (conv => whnf)
    repeat' (first | exact True.intro | rfl | refine And.intro ?_ ?_)
    all_goals (try omega)
end Go.Proofs.Yteiblfkegnppeaa

set_option linter.unusedVariables false
set_option linter.unusedSimpArgs false
namespace Go.Proofs.Yteiblfkegnppeaa
open Go Go.Fw
/-- The numbers below x at which a polynomial is 0. -/
noncomputable def isR (F : Nat → G) (n x : Nat) : Bool := decide ((As F (toB (x : Int)) n).v = 0)
noncomputable def rl (F : Nat → G) (n : Nat) : Nat → List Int
  | 0 => []
  | x + 1 => if isR F n x = true then rl F n x ++ [(x : Int)] else rl F n x
theorem rl_len (F : Nat → G) (n : Nat) : ∀ x, (rl F n x).length ≤ x
  | 0 => Nat.le_refl _
  | x + 1 => by
    have := rl_len F n x
    unfold rl; split
    · rw [List.length_append]; show _ + 1 ≤ x + 1; omega
    · omega
theorem toB_nat {x : Nat} (h : x < 256) : (toB (x : Int)).v = x := by show ((x : Int).toNat % 256) = x; omega
theorem dg_As {F : Nat → G} {n : Nat} (x : G) : As F x (dg F n) = As F x n := by
  have hp := pol_dg F n
  have := As_pol x hp (dg_le F n)
  rw [← As_ct F x n, ← this]
  exact As_congr x _ fun k hk => (ct_lt F (Nat.lt_of_lt_of_le hk (dg_le F n))).symm
noncomputable def k31 : Code := (Try.f31.body).getD .skip
def rtB (n t : Nat) : Bool := decide (n ≤ 512) && decide (0 < t)
noncomputable def rtL (F : Nat → G) (n : Nat) : List Int := if rtB n (dg F n) = true then rl F n 256 else []
def rtE (n t : Nat) : Int := if 512 < n then 1 else if t = 0 then 6 else 0
noncomputable def rootsOut (F : Nat → G) (n : Nat) : FOut := ⟨List Int, fun _ => True, fun tl => .tup [.slice 1 0 (rtL F n).length ((rtL F n).length + tl.length), .int .i64 (rtE n (dg F n))], fun tl => [.dead, .seg true (.ints .u8 (rtL F n ++ tl))]⟩
noncomputable def st31 (F : Nat → G) (A : List Int) (n t c x : Nat) (tl : List Int) : St := ⟨slotsAt 29 [(0, .slice 0 0 t c), (4, .slice 1 0 (rl F n x).length ((rl F n x).length + tl.length)), (14, .int .i64 x)], [.seg false (.ints .u8 A), .seg true (.ints .u8 (rl F n x ++ tl))]⟩
set_option maxHeartbeats 0 in
set_option maxRecDepth 100000 in
theorem Roots_g (F : Nat → G) (A : List Int) (n c : Nat) (hA : Rd A F n) (hc : n ≤ c) (hn : n ≤ 9223372036854775807) :
    Fits Try.prog 31 ⟨[.slice 0 0 n c], [.seg false (.ints .u8 A)], [rootsOut F n]⟩ := by
  unfold rootsOut
  have TK := tooLong1 n c hn
  have TA := trim_f F A n c hA hc hn
  have hd := dg_le F n
  have AT := fun x : G => at_f F A (dg F n) c x (Rd_le hA hd) (by omega) (by omega)
  have eAs := fun x : G => dg_As (F := F) (n := n) x
  generalize ht : dg F n = t at *
  refine fits_of_body (C := cfgk 1) (c := k31) (ts := [2, 3]) tokL mixedL (fun | 8 => some ⟨Nat × List Int, fun p => st31 F A n t c p.1 p.2, fun p => p.1 ≤ 256, fun p => 256 - p.1⟩ | _ => none) (fun _ => none)
    Try.func31 (by kernel_rfl) (by kernel_rfl) (by kernel_rfl) (by kernel_rfl) rfl ?_
  conv => whnf
  repeat (first
    | (refine And.intro ?_ ?_; (focus (first | omega | decide | exact EqOk.mk (by kernel_rfl) (by kernel_rfl) (by kernel_rfl) | exact Int.natCast_nonneg _ | ((repeat' refine And.intro ?_ ?_) <;> first | omega | exact Int.natCast_nonneg _ | (simp only [i64max, u8max, u16max, u32max, u64max]; omega) | (simp only [mulSz_eq, Cont.len, colsLen, Col.len, List.length_cons, List.length_nil, List.length_replicate, List.length_append]; first | done | omega) | (simp [mulSz, Cont.len, bne]; first | done | omega)))); conv => whnf)
    | (refine tst_in ?_ ?_; (focus (intro h_; exfalso; first | omega | ((try simp only [decide_eq_true_eq, decide_eq_false_iff_not] at h_); omega) | (simp [mulSz, Cont.len, bne] at h_; first | done | omega))); intro _; conv => whnf)
    | (refine tst_in ?_ ?_; rotate_left; (focus (intro h_; exfalso; first | omega | ((try simp only [decide_eq_true_eq, decide_eq_false_iff_not] at h_); omega) | (simp [mulSz, Cont.len, bne] at h_; first | done | omega))); intro _; conv => whnf)
    | (refine ⟨0, (show _ = _ by omega), ?_⟩; conv => whnf))
  refine ⟨_, [1, 0], TK, ?_⟩
  conv => whnf
  iterate 2
   refine And.intro ?_ ?_
   focus
    conv => whnf
    repeat' (first | exact True.intro | rfl | refine And.intro ?_ ?_)
    all_goals (conv => whnf)
    repeat' (first | exact True.intro | rfl | refine And.intro ?_ ?_)
    all_goals (try (first | rfl | omega | (simp; first | done | omega)))
  conv => whnf
  by_cases h : 512 < n
  · have e : rtB n t = false := by unfold rtB; simp; omega
    rw [show rtL F n = [] by unfold rtL; rw [ht, e, if_neg (by decide)], show rtE n t = 1 from if_pos h, decide_eq_true h]
    conv => whnf
    repeat (first
      | (refine And.intro ?_ ?_; (focus (first | omega | decide | exact EqOk.mk (by kernel_rfl) (by kernel_rfl) (by kernel_rfl) | exact Int.natCast_nonneg _ | ((repeat' refine And.intro ?_ ?_) <;> first | omega | exact Int.natCast_nonneg _ | (simp only [i64max, u8max, u16max, u32max, u64max]; omega) | (simp only [mulSz_eq, Cont.len, colsLen, Col.len, List.length_cons, List.length_nil, List.length_replicate, List.length_append]; first | done | omega) | (simp [mulSz, Cont.len, bne]; first | done | omega)))); conv => whnf)
      | (refine tst_in ?_ ?_; (focus (intro h_; exfalso; first | omega | ((try simp only [decide_eq_true_eq, decide_eq_false_iff_not] at h_); omega) | (simp [mulSz, Cont.len, bne] at h_; first | done | omega))); intro _; conv => whnf)
      | (refine tst_in ?_ ?_; rotate_left; (focus (intro h_; exfalso; first | omega | ((try simp only [decide_eq_true_eq, decide_eq_false_iff_not] at h_); omega) | (simp [mulSz, Cont.len, bne] at h_; first | done | omega))); intro _; conv => whnf)
      | (refine ⟨0, (show _ = _ by omega), ?_⟩; conv => whnf))
    refine .inl ⟨[], [0, 9], ?_⟩
    conv => whnf
    repeat' (first | exact True.intro | rfl | refine And.intro ?_ ?_)
    all_goals (conv => whnf)
    repeat' (first | exact True.intro | rfl | refine And.intro ?_ ?_)
    all_goals (try omega)
  · rw [decide_eq_false h]
    conv => whnf
    repeat (first
      | (refine And.intro ?_ ?_; (focus (first | omega | decide | exact EqOk.mk (by kernel_rfl) (by kernel_rfl) (by kernel_rfl) | exact Int.natCast_nonneg _ | ((repeat' refine And.intro ?_ ?_) <;> first | omega | exact Int.natCast_nonneg _ | (simp only [i64max, u8max, u16max, u32max, u64max]; omega) | (simp only [mulSz_eq, Cont.len, colsLen, Col.len, List.length_cons, List.length_nil, List.length_replicate, List.length_append]; first | done | omega) | (simp [mulSz, Cont.len, bne]; first | done | omega)))); conv => whnf)
      | (refine tst_in ?_ ?_; (focus (intro h_; exfalso; first | omega | ((try simp only [decide_eq_true_eq, decide_eq_false_iff_not] at h_); omega) | (simp [mulSz, Cont.len, bne] at h_; first | done | omega))); intro _; conv => whnf)
      | (refine tst_in ?_ ?_; rotate_left; (focus (intro h_; exfalso; first | omega | ((try simp only [decide_eq_true_eq, decide_eq_false_iff_not] at h_); omega) | (simp [mulSz, Cont.len, bne] at h_; first | done | omega))); intro _; conv => whnf)
      | (refine ⟨0, (show _ = _ by omega), ?_⟩; conv => whnf))
    refine ⟨_, [0], TA, ?_⟩
    conv => whnf
    iterate 2
     refine And.intro ?_ ?_
     focus
      conv => whnf
      repeat' (first | exact True.intro | rfl | refine And.intro ?_ ?_ | omega)
      all_goals (conv => whnf)
      all_goals (try (first | rfl | omega | (simp; done)))
    conv => whnf
    refine ⟨?_, True.intro⟩
    intro _ _
    conv => whnf
    conv => whnf
    repeat (first
      | (refine And.intro ?_ ?_; (focus (first | omega | decide | exact EqOk.mk (by kernel_rfl) (by kernel_rfl) (by kernel_rfl) | exact Int.natCast_nonneg _ | ((repeat' refine And.intro ?_ ?_) <;> first | omega | exact Int.natCast_nonneg _ | (simp only [i64max, u8max, u16max, u32max, u64max]; omega) | (simp only [mulSz_eq, Cont.len, colsLen, Col.len, List.length_cons, List.length_nil, List.length_replicate, List.length_append]; first | done | omega) | (simp [mulSz, Cont.len, bne]; first | done | omega)))); conv => whnf)
      | (refine tst_in ?_ ?_; (focus (intro h_; exfalso; first | omega | ((try simp only [decide_eq_true_eq, decide_eq_false_iff_not] at h_); omega) | (simp [mulSz, Cont.len, bne] at h_; first | done | omega))); intro _; conv => whnf)
      | (refine tst_in ?_ ?_; rotate_left; (focus (intro h_; exfalso; first | omega | ((try simp only [decide_eq_true_eq, decide_eq_false_iff_not] at h_); omega) | (simp [mulSz, Cont.len, bne] at h_; first | done | omega))); intro _; conv => whnf)
      | (refine ⟨0, (show _ = _ by omega), ?_⟩; conv => whnf))
    refine tst_in (fun q => ?_) (fun q' => ?_)
    · have q : t = 0 := by simp at q; omega
      have e : rtB n t = false := by unfold rtB; simp; omega
      rw [show rtL F n = [] by unfold rtL; rw [ht, e, if_neg (by decide)], show rtE n t = 6 from (if_neg h).trans (if_pos q)]
      conv => whnf
      repeat (first
        | (refine And.intro ?_ ?_; (focus (first | omega | decide | exact EqOk.mk (by kernel_rfl) (by kernel_rfl) (by kernel_rfl) | exact Int.natCast_nonneg _ | ((repeat' refine And.intro ?_ ?_) <;> first | omega | exact Int.natCast_nonneg _ | (simp only [i64max, u8max, u16max, u32max, u64max]; omega) | (simp only [mulSz_eq, Cont.len, colsLen, Col.len, List.length_cons, List.length_nil, List.length_replicate, List.length_append]; first | done | omega) | (simp [mulSz, Cont.len, bne]; first | done | omega)))); conv => whnf)
        | (refine tst_in ?_ ?_; (focus (intro h_; exfalso; first | omega | ((try simp only [decide_eq_true_eq, decide_eq_false_iff_not] at h_); omega) | (simp [mulSz, Cont.len, bne] at h_; first | done | omega))); intro _; conv => whnf)
        | (refine tst_in ?_ ?_; rotate_left; (focus (intro h_; exfalso; first | omega | ((try simp only [decide_eq_true_eq, decide_eq_false_iff_not] at h_); omega) | (simp [mulSz, Cont.len, bne] at h_; first | done | omega))); intro _; conv => whnf)
        | (refine ⟨0, (show _ = _ by omega), ?_⟩; conv => whnf))
      refine .inl ⟨[], [0, 9], ?_⟩
      conv => whnf
      repeat' (first | exact True.intro | rfl | refine And.intro ?_ ?_)
      all_goals (conv => whnf)
      repeat' (first | exact True.intro | rfl | refine And.intro ?_ ?_)
      all_goals (try omega)
    · have q : t ≠ 0 := by simp at q'; omega
      have e : rtB n t = true := by unfold rtB; simp; omega
      rw [show rtL F n = rl F n 256 by unfold rtL; rw [ht, if_pos e], show rtE n t = 0 from (if_neg h).trans (if_neg q)]
      obtain ⟨Z, hZ⟩ : ∃ Z, Z = 256 := ⟨_, rfl⟩
      conv => whnf
      repeat (first
        | (refine And.intro ?_ ?_; (focus (first | omega | decide | exact EqOk.mk (by kernel_rfl) (by kernel_rfl) (by kernel_rfl) | exact Int.natCast_nonneg _ | ((repeat' refine And.intro ?_ ?_) <;> first | omega | exact Int.natCast_nonneg _ | (simp only [i64max, u8max, u16max, u32max, u64max]; omega) | (simp only [mulSz_eq, Cont.len, colsLen, Col.len, List.length_cons, List.length_nil, List.length_replicate, List.length_append]; first | done | omega) | (simp [mulSz, Cont.len, bne]; first | done | omega)))); conv => whnf)
        | (refine tst_in ?_ ?_; (focus (intro h_; exfalso; first | omega | ((try simp only [decide_eq_true_eq, decide_eq_false_iff_not] at h_); omega) | (simp [mulSz, Cont.len, bne] at h_; first | done | omega))); intro _; conv => whnf)
        | (refine tst_in ?_ ?_; rotate_left; (focus (intro h_; exfalso; first | omega | ((try simp only [decide_eq_true_eq, decide_eq_false_iff_not] at h_); omega) | (simp [mulSz, Cont.len, bne] at h_; first | done | omega))); intro _; conv => whnf)
        | (refine ⟨0, (show _ = _ by omega), ?_⟩; conv => whnf))
      refine ⟨⟨[0, 9], ((0, []) : Nat × List Int), ?_, Nat.zero_le _⟩, ?_⟩
      · show stLe _ _ (st31 F A n t c 0 []) _
        conv => whnf
        repeat' (first | exact True.intro | rfl | refine And.intro ?_ ?_)
        all_goals (conv => whnf)
        repeat' (first | exact True.intro | rfl | refine And.intro ?_ ?_)
        all_goals (try omega)
      · intro ⟨x, tl⟩ (hx : x ≤ 256)
        show forceSt (st31 F A n t c x tl) _
        have hrl := rl_len F n x
        unfold st31
        generalize hL : rl F n x = L at *
        conv => whnf
        repeat (first
          | (refine And.intro ?_ ?_; (focus (first | omega | decide | exact EqOk.mk (by kernel_rfl) (by kernel_rfl) (by kernel_rfl) | exact Int.natCast_nonneg _ | ((repeat' refine And.intro ?_ ?_) <;> first | omega | exact Int.natCast_nonneg _ | (simp only [i64max, u8max, u16max, u32max, u64max]; omega) | (simp only [mulSz_eq, Cont.len, colsLen, Col.len, List.length_cons, List.length_nil, List.length_replicate, List.length_append]; first | done | omega) | (simp [mulSz, Cont.len, bne]; first | done | omega)))); conv => whnf)
          | (refine tst_in ?_ ?_; (focus (intro h_; exfalso; first | omega | ((try simp only [decide_eq_true_eq, decide_eq_false_iff_not] at h_); omega) | (simp [mulSz, Cont.len, bne] at h_; first | done | omega))); intro _; conv => whnf)
          | (refine tst_in ?_ ?_; rotate_left; (focus (intro h_; exfalso; first | omega | ((try simp only [decide_eq_true_eq, decide_eq_false_iff_not] at h_); omega) | (simp [mulSz, Cont.len, bne] at h_; first | done | omega))); intro _; conv => whnf)
          | (refine ⟨0, (show _ = _ by omega), ?_⟩; conv => whnf))
        refine tst_in (fun u => ?_) (fun u' => ?_)
        · have u : x < 256 := by have := dlt_t u; omega
          have AX := AT (toB (x : Int))
          rw [toB_nat u, eAs] at AX
          have hlv := (As F (toB (x : Int)) n).lt
          have hwr : IntKind.u8.wrap (x : Int) = (x : Int) := by rw [u8wrap]; omega
          conv => whnf
          repeat (first
            | (refine And.intro ?_ ?_; (focus (first | omega | decide | exact EqOk.mk (by kernel_rfl) (by kernel_rfl) (by kernel_rfl) | exact Int.natCast_nonneg _ | ((repeat' refine And.intro ?_ ?_) <;> first | omega | exact Int.natCast_nonneg _ | (simp only [i64max, u8max, u16max, u32max, u64max]; omega) | (simp only [mulSz_eq, Cont.len, colsLen, Col.len, List.length_cons, List.length_nil, List.length_replicate, List.length_append]; first | done | omega) | (simp [mulSz, Cont.len, bne]; first | done | omega)))); conv => whnf)
            | (refine tst_in ?_ ?_; (focus (intro h_; exfalso; first | omega | ((try simp only [decide_eq_true_eq, decide_eq_false_iff_not] at h_); omega) | (simp [mulSz, Cont.len, bne] at h_; first | done | omega))); intro _; conv => whnf)
            | (refine tst_in ?_ ?_; rotate_left; (focus (intro h_; exfalso; first | omega | ((try simp only [decide_eq_true_eq, decide_eq_false_iff_not] at h_); omega) | (simp [mulSz, Cont.len, bne] at h_; first | done | omega))); intro _; conv => whnf)
            | (refine ⟨0, (show _ = _ by omega), ?_⟩; conv => whnf))
          rw [hwr]
          refine ⟨_, [0], AX, ?_⟩
          conv => whnf
          iterate 2
           refine And.intro ?_ ?_
           focus
            conv => whnf
            repeat' (first | exact True.intro | rfl | refine And.intro ?_ ?_ | omega)
            all_goals (conv => whnf)
            all_goals (try (first | rfl | omega | (simp; done)))
          conv => whnf
          refine ⟨?_, True.intro⟩
          intro _ _
          conv => whnf
          conv => whnf
          repeat (first
            | (refine And.intro ?_ ?_; (focus (first | omega | decide | exact EqOk.mk (by kernel_rfl) (by kernel_rfl) (by kernel_rfl) | exact Int.natCast_nonneg _ | ((repeat' refine And.intro ?_ ?_) <;> first | omega | exact Int.natCast_nonneg _ | (simp only [i64max, u8max, u16max, u32max, u64max]; omega) | (simp only [mulSz_eq, Cont.len, colsLen, Col.len, List.length_cons, List.length_nil, List.length_replicate, List.length_append]; first | done | omega) | (simp [mulSz, Cont.len, bne]; first | done | omega)))); conv => whnf)
            | (refine tst_in ?_ ?_; (focus (intro h_; exfalso; first | omega | ((try simp only [decide_eq_true_eq, decide_eq_false_iff_not] at h_); omega) | (simp [mulSz, Cont.len, bne] at h_; first | done | omega))); intro _; conv => whnf)
            | (refine tst_in ?_ ?_; rotate_left; (focus (intro h_; exfalso; first | omega | ((try simp only [decide_eq_true_eq, decide_eq_false_iff_not] at h_); omega) | (simp [mulSz, Cont.len, bne] at h_; first | done | omega))); intro _; conv => whnf)
            | (refine ⟨0, (show _ = _ by omega), ?_⟩; conv => whnf))
          refine tst_in (fun w => ?_) (fun w' => ?_)
          · have w : (As F (toB (x : Int)) n).v = 0 := by simp at w; omega
            have e1 : rl F n (x + 1) = L ++ [(x : Int)] := by
              rw [show rl F n (x + 1) = if isR F n x = true then rl F n x ++ [(x : Int)] else rl F n x from rfl, if_pos (show isR F n x = true from decide_eq_true w), hL]
            conv => whnf
            repeat (first
              | (refine And.intro ?_ ?_; (focus (first | omega | decide | exact EqOk.mk (by kernel_rfl) (by kernel_rfl) (by kernel_rfl) | exact Int.natCast_nonneg _ | ((repeat' refine And.intro ?_ ?_) <;> first | omega | exact Int.natCast_nonneg _ | (simp only [i64max, u8max, u16max, u32max, u64max]; omega) | (simp only [mulSz_eq, Cont.len, colsLen, Col.len, List.length_cons, List.length_nil, List.length_replicate, List.length_append]; first | done | omega) | (simp [mulSz, Cont.len, bne]; first | done | omega)))); conv => whnf)
              | (refine tst_in ?_ ?_; (focus (intro h_; exfalso; first | omega | ((try simp only [decide_eq_true_eq, decide_eq_false_iff_not] at h_); omega) | (simp [mulSz, Cont.len, bne] at h_; first | done | omega))); intro _; conv => whnf)
              | (refine tst_in ?_ ?_; rotate_left; (focus (intro h_; exfalso; first | omega | ((try simp only [decide_eq_true_eq, decide_eq_false_iff_not] at h_); omega) | (simp [mulSz, Cont.len, bne] at h_; first | done | omega))); intro _; conv => whnf)
              | (refine ⟨0, (show _ = _ by omega), ?_⟩; conv => whnf))
            rw [hwr]
            intro tl2
            change List Int at tl2
            conv => whnf
            repeat (first
              | (refine And.intro ?_ ?_; (focus (first | omega | decide | exact EqOk.mk (by kernel_rfl) (by kernel_rfl) (by kernel_rfl) | exact Int.natCast_nonneg _ | ((repeat' refine And.intro ?_ ?_) <;> first | omega | exact Int.natCast_nonneg _ | (simp only [i64max, u8max, u16max, u32max, u64max]; omega) | (simp only [mulSz_eq, Cont.len, colsLen, Col.len, List.length_cons, List.length_nil, List.length_replicate, List.length_append]; first | done | omega) | (simp [mulSz, Cont.len, bne]; first | done | omega)))); conv => whnf)
              | (refine tst_in ?_ ?_; (focus (intro h_; exfalso; first | omega | ((try simp only [decide_eq_true_eq, decide_eq_false_iff_not] at h_); omega) | (simp [mulSz, Cont.len, bne] at h_; first | done | omega))); intro _; conv => whnf)
              | (refine tst_in ?_ ?_; rotate_left; (focus (intro h_; exfalso; first | omega | ((try simp only [decide_eq_true_eq, decide_eq_false_iff_not] at h_); omega) | (simp [mulSz, Cont.len, bne] at h_; first | done | omega))); intro _; conv => whnf)
              | (refine ⟨0, (show _ = _ by omega), ?_⟩; conv => whnf))
            refine ⟨[0, 3], ((x + 1, tl2) : Nat × List Int), ?_, u, (by show 256 - (x + 1) < 256 - x; omega)⟩
            show stLe _ _ (st31 F A n t c (x + 1) tl2) _
            unfold st31
            rw [e1]
            conv => whnf
            repeat' (first | exact True.intro | rfl | refine And.intro ?_ ?_)
            all_goals (conv => whnf)
            repeat' (first | exact True.intro | rfl | refine And.intro ?_ ?_)
            all_goals (try omega)
            · show (L ++ [(x : Int)]).length = L.length + 1
              rw [List.length_append]; rfl
            · show (L ++ [(x : Int)]).length + tl2.length = L.length + 1 + tl2.length
              rw [List.length_append]; rfl
            · show L ++ [(x : Int)] ++ tl2 = List.take L.length (List.drop 0 (L ++ tl)) ++ [(x : Int)] ++ tl2
              rw [List.drop_zero, List.take_left]
          · have w : (As F (toB (x : Int)) n).v ≠ 0 := by simp at w'; omega
            have e1 : rl F n (x + 1) = L := by
              rw [show rl F n (x + 1) = if isR F n x = true then rl F n x ++ [(x : Int)] else rl F n x from rfl, if_neg (by unfold isR; rw [decide_eq_true_eq]; exact w), hL]
            conv => whnf
            repeat (first
              | (refine And.intro ?_ ?_; (focus (first | omega | decide | exact EqOk.mk (by kernel_rfl) (by kernel_rfl) (by kernel_rfl) | exact Int.natCast_nonneg _ | ((repeat' refine And.intro ?_ ?_) <;> first | omega | exact Int.natCast_nonneg _ | (simp only [i64max, u8max, u16max, u32max, u64max]; omega) | (simp only [mulSz_eq, Cont.len, colsLen, Col.len, List.length_cons, List.length_nil, List.length_replicate, List.length_append]; first | done | omega) | (simp [mulSz, Cont.len, bne]; first | done | omega)))); conv => whnf)
              | (refine tst_in ?_ ?_; (focus (intro h_; exfalso; first | omega | ((try simp only [decide_eq_true_eq, decide_eq_false_iff_not] at h_); omega) | (simp [mulSz, Cont.len, bne] at h_; first | done | omega))); intro _; conv => whnf)
              | (refine tst_in ?_ ?_; rotate_left; (focus (intro h_; exfalso; first | omega | ((try simp only [decide_eq_true_eq, decide_eq_false_iff_not] at h_); omega) | (simp [mulSz, Cont.len, bne] at h_; first | done | omega))); intro _; conv => whnf)
              | (refine ⟨0, (show _ = _ by omega), ?_⟩; conv => whnf))
            refine ⟨[0, 1], ((x + 1, tl) : Nat × List Int), ?_, u, (by show 256 - (x + 1) < 256 - x; omega)⟩
            show stLe _ _ (st31 F A n t c (x + 1) tl) _
            unfold st31
            rw [e1]
            conv => whnf
            repeat' (first | exact True.intro | rfl | refine And.intro ?_ ?_)
            all_goals (conv => whnf)
            repeat' (first | exact True.intro | rfl | refine And.intro ?_ ?_)
            all_goals (try omega)
        · have u : x = 256 := by have := dlt_f u'; omega
          subst u
          rw [hL]
          conv => whnf
          repeat (first
            | (refine And.intro ?_ ?_; (focus (first | omega | decide | exact EqOk.mk (by kernel_rfl) (by kernel_rfl) (by kernel_rfl) | exact Int.natCast_nonneg _ | ((repeat' refine And.intro ?_ ?_) <;> first | omega | exact Int.natCast_nonneg _ | (simp only [i64max, u8max, u16max, u32max, u64max]; omega) | (simp only [mulSz_eq, Cont.len, colsLen, Col.len, List.length_cons, List.length_nil, List.length_replicate, List.length_append]; first | done | omega) | (simp [mulSz, Cont.len, bne]; first | done | omega)))); conv => whnf)
            | (refine tst_in ?_ ?_; (focus (intro h_; exfalso; first | omega | ((try simp only [decide_eq_true_eq, decide_eq_false_iff_not] at h_); omega) | (simp [mulSz, Cont.len, bne] at h_; first | done | omega))); intro _; conv => whnf)
            | (refine tst_in ?_ ?_; rotate_left; (focus (intro h_; exfalso; first | omega | ((try simp only [decide_eq_true_eq, decide_eq_false_iff_not] at h_); omega) | (simp [mulSz, Cont.len, bne] at h_; first | done | omega))); intro _; conv => whnf)
            | (refine ⟨0, (show _ = _ by omega), ?_⟩; conv => whnf))
          refine .inl ⟨tl, [0, 1], ?_⟩
          conv => whnf
          repeat' (first | exact True.intro | rfl | refine And.intro ?_ ?_)
          all_goals (conv => whnf)
          repeat' (first | exact True.intro | rfl | refine And.intro ?_ ?_)
          all_goals (try omega)
/-- The derivative. -/
noncomputable def sl (P : Nat → G) (i : Nat) : G := if i % 2 = 0 then P (i + 1) else g0
noncomputable def k32 : Code := (Try.f32.body).getD .skip
def slN (n : Nat) : Nat := if 512 < n then 0 else n
noncomputable def slope (F : Nat → G) (n : Nat) : Nat → G := sl (ct F n)
noncomputable def slopeOut (F : Nat → G) (n : Nat) : FOut := numOut [.dead, .seg true (.ints .u8 (tb (gi (slope F n)) (slN n)))] (.tup [.slice 1 0 (dg (slope F n) (slN n)) (slN n), .int .i64 (atE n)])
noncomputable def st32 (F : Nat → G) (A : List Int) (n c j : Nat) : St := ⟨slotsAt 28 [(0, .slice 0 0 n c), (4, .slice 1 0 n n), (5, .int .i64 (2 * j + 1))], [.seg false (.ints .u8 A), .seg true (.ints .u8 (tb (gi (ct (slope F n) (2 * j))) n))]⟩
set_option maxHeartbeats 0 in
set_option maxRecDepth 100000 in
theorem Slope_g (F : Nat → G) (A : List Int) (n c : Nat) (hA : Rd A F n) (hc : n ≤ c) (hn : n ≤ 9223372036854775807) :
    Fits Try.prog 32 ⟨[.slice 0 0 n c], [.seg false (.ints .u8 A)], [slopeOut F n]⟩ := by
  unfold slopeOut
  have TK := tooLong1 n c hn
  have TA := trim_f (slope F n) (tb (gi (slope F n)) n) n n (Rd_tb _ _) (Nat.le_refl _) hn
  refine fits_of_body (C := cfgk 1) (c := k32) (ts := [2, 3]) tokL mixedL (fun | 5 => some ⟨Nat, fun j => st32 F A n c j, fun j => j ≤ n, fun j => n - j⟩ | _ => none) (fun _ => none)
    Try.func32 (by kernel_rfl) (by kernel_rfl) (by kernel_rfl) (by kernel_rfl) rfl ?_
  conv => whnf
  repeat (first
    | (refine And.intro ?_ ?_; (focus (first | omega | decide | exact EqOk.mk (by kernel_rfl) (by kernel_rfl) (by kernel_rfl) | exact Int.natCast_nonneg _ | ((repeat' refine And.intro ?_ ?_) <;> first | omega | exact Int.natCast_nonneg _ | (simp only [i64max, u8max, u16max, u32max, u64max]; omega) | (simp only [mulSz_eq, Cont.len, colsLen, Col.len, List.length_cons, List.length_nil, List.length_replicate, List.length_append]; first | done | omega) | (simp [mulSz, Cont.len, bne]; first | done | omega)))); conv => whnf)
    | (refine tst_in ?_ ?_; (focus (intro h_; exfalso; first | omega | ((try simp only [decide_eq_true_eq, decide_eq_false_iff_not] at h_); omega) | (simp [mulSz, Cont.len, bne] at h_; first | done | omega))); intro _; conv => whnf)
    | (refine tst_in ?_ ?_; rotate_left; (focus (intro h_; exfalso; first | omega | ((try simp only [decide_eq_true_eq, decide_eq_false_iff_not] at h_); omega) | (simp [mulSz, Cont.len, bne] at h_; first | done | omega))); intro _; conv => whnf)
    | (refine ⟨0, (show _ = _ by omega), ?_⟩; conv => whnf))
  refine ⟨_, [1, 0], TK, ?_⟩
  conv => whnf
  iterate 2
   refine And.intro ?_ ?_
   focus
    conv => whnf
    repeat' (first | exact True.intro | rfl | refine And.intro ?_ ?_)
    all_goals (conv => whnf)
    repeat' (first | exact True.intro | rfl | refine And.intro ?_ ?_)
    all_goals (try (first | rfl | omega | (simp; first | done | omega)))
  conv => whnf
  by_cases h : 512 < n
  · rw [show slN n = 0 from if_pos h, show atE n = 1 from if_pos h, decide_eq_true h]
    conv => whnf
    repeat (first
      | (refine And.intro ?_ ?_; (focus (first | omega | decide | exact EqOk.mk (by kernel_rfl) (by kernel_rfl) (by kernel_rfl) | exact Int.natCast_nonneg _ | ((repeat' refine And.intro ?_ ?_) <;> first | omega | exact Int.natCast_nonneg _ | (simp only [i64max, u8max, u16max, u32max, u64max]; omega) | (simp only [mulSz_eq, Cont.len, colsLen, Col.len, List.length_cons, List.length_nil, List.length_replicate, List.length_append]; first | done | omega) | (simp [mulSz, Cont.len, bne]; first | done | omega)))); conv => whnf)
      | (refine tst_in ?_ ?_; (focus (intro h_; exfalso; first | omega | ((try simp only [decide_eq_true_eq, decide_eq_false_iff_not] at h_); omega) | (simp [mulSz, Cont.len, bne] at h_; first | done | omega))); intro _; conv => whnf)
      | (refine tst_in ?_ ?_; rotate_left; (focus (intro h_; exfalso; first | omega | ((try simp only [decide_eq_true_eq, decide_eq_false_iff_not] at h_); omega) | (simp [mulSz, Cont.len, bne] at h_; first | done | omega))); intro _; conv => whnf)
      | (refine ⟨0, (show _ = _ by omega), ?_⟩; conv => whnf))
    refine .inl ⟨(), [0, 9], ?_⟩
    conv => whnf
    repeat' (first | exact True.intro | rfl | refine And.intro ?_ ?_)
    all_goals (conv => whnf)
    repeat' (first | exact True.intro | rfl | refine And.intro ?_ ?_)
    all_goals (try omega)
  · rw [show slN n = n from if_neg h, show atE n = 0 from if_neg h, decide_eq_false h]
    obtain ⟨hl, hg⟩ := hA
    conv => whnf
    repeat (first
      | (refine And.intro ?_ ?_; (focus (first | omega | decide | exact EqOk.mk (by kernel_rfl) (by kernel_rfl) (by kernel_rfl) | exact Int.natCast_nonneg _ | ((repeat' refine And.intro ?_ ?_) <;> first | omega | exact Int.natCast_nonneg _ | (simp only [i64max, u8max, u16max, u32max, u64max]; omega) | (simp only [mulSz_eq, Cont.len, colsLen, Col.len, List.length_cons, List.length_nil, List.length_replicate, List.length_append]; first | done | omega) | (simp [mulSz, Cont.len, bne]; first | done | omega)))); conv => whnf)
      | (refine tst_in ?_ ?_; (focus (intro h_; exfalso; first | omega | ((try simp only [decide_eq_true_eq, decide_eq_false_iff_not] at h_); omega) | (simp [mulSz, Cont.len, bne] at h_; first | done | omega))); intro _; conv => whnf)
      | (refine tst_in ?_ ?_; rotate_left; (focus (intro h_; exfalso; first | omega | ((try simp only [decide_eq_true_eq, decide_eq_false_iff_not] at h_); omega) | (simp [mulSz, Cont.len, bne] at h_; first | done | omega))); intro _; conv => whnf)
      | (refine ⟨0, (show _ = _ by omega), ?_⟩; conv => whnf))
    rw [show ((n : Nat) : Int).toNat = n by omega]
    refine ⟨⟨[0, 2], (0 : Nat), ?_, Nat.zero_le _⟩, ?_⟩
    · show stLe _ _ (st32 F A n c 0) _
      conv => whnf
      repeat' (first | exact True.intro | rfl | refine And.intro ?_ ?_)
      all_goals (conv => whnf)
      repeat' (first | exact True.intro | rfl | refine And.intro ?_ ?_)
      all_goals (try omega)
      exact (tab_ext 0 (List.length_replicate ..) fun k hk => by rw [g_rep, if_pos hk]; show (0 : Int) = ((ct (slope F n) 0 k).v : Nat); rw [show ct (slope F n) 0 k = g0 from if_neg (by omega)]; rfl).symm
    · intro (j : Nat) (hj : j ≤ n)
      show forceSt (st32 F A n c j) _
      conv => whnf
      repeat (first
        | (refine And.intro ?_ ?_; (focus (first | omega | decide | exact EqOk.mk (by kernel_rfl) (by kernel_rfl) (by kernel_rfl) | exact Int.natCast_nonneg _ | ((repeat' refine And.intro ?_ ?_) <;> first | omega | exact Int.natCast_nonneg _ | (simp only [i64max, u8max, u16max, u32max, u64max]; omega) | (simp only [mulSz_eq, Cont.len, colsLen, Col.len, List.length_cons, List.length_nil, List.length_replicate, List.length_append]; first | done | omega) | (simp [mulSz, Cont.len, bne]; first | done | omega)))); conv => whnf)
        | (refine tst_in ?_ ?_; (focus (intro h_; exfalso; first | omega | ((try simp only [decide_eq_true_eq, decide_eq_false_iff_not] at h_); omega) | (simp [mulSz, Cont.len, bne] at h_; first | done | omega))); intro _; conv => whnf)
        | (refine tst_in ?_ ?_; rotate_left; (focus (intro h_; exfalso; first | omega | ((try simp only [decide_eq_true_eq, decide_eq_false_iff_not] at h_); omega) | (simp [mulSz, Cont.len, bne] at h_; first | done | omega))); intro _; conv => whnf)
        | (refine ⟨0, (show _ = _ by omega), ?_⟩; conv => whnf))
      refine tst_in (fun u => ?_) (fun u' => ?_)
      · have u : 2 * j + 1 < n := by have := dlt_t u; omega
        have hgj := hg (2 * j + 1) u
        conv => whnf
        repeat (first
          | (refine And.intro ?_ ?_; (focus (first | omega | decide | exact EqOk.mk (by kernel_rfl) (by kernel_rfl) (by kernel_rfl) | exact Int.natCast_nonneg _ | ((repeat' refine And.intro ?_ ?_) <;> first | omega | exact Int.natCast_nonneg _ | (simp only [i64max, u8max, u16max, u32max, u64max]; omega) | (simp only [mulSz_eq, Cont.len, colsLen, Col.len, List.length_cons, List.length_nil, List.length_replicate, List.length_append, tab_len]; first | done | omega) | (simp [mulSz, Cont.len, bne, tab_len]; first | done | omega)))); conv => whnf)
          | (refine tst_in ?_ ?_; (focus (intro h_; exfalso; first | omega | ((try simp only [decide_eq_true_eq, decide_eq_false_iff_not] at h_); omega) | (simp [mulSz, Cont.len, bne, tab_len] at h_; first | done | omega))); intro _; conv => whnf)
          | (refine tst_in ?_ ?_; rotate_left; (focus (intro h_; exfalso; first | omega | ((try simp only [decide_eq_true_eq, decide_eq_false_iff_not] at h_); omega) | (simp [mulSz, Cont.len, bne, tab_len] at h_; first | done | omega))); intro _; conv => whnf)
          | (refine ⟨0, (show _ = _ by omega), ?_⟩; conv => whnf))
        rw [show (0 + (2 * (j : Nat) + 1 : Int).toNat) = 2 * j + 1 by omega, hgj]
        conv => whnf
        repeat (first
          | (refine And.intro ?_ ?_; (focus (first | omega | decide | exact EqOk.mk (by kernel_rfl) (by kernel_rfl) (by kernel_rfl) | exact Int.natCast_nonneg _ | ((repeat' refine And.intro ?_ ?_) <;> first | omega | exact Int.natCast_nonneg _ | (simp only [i64max, u8max, u16max, u32max, u64max]; omega) | (simp only [mulSz_eq, Cont.len, colsLen, Col.len, List.length_cons, List.length_nil, List.length_replicate, List.length_append, tab_len]; first | done | omega) | (simp [mulSz, Cont.len, bne, tab_len]; first | done | omega)))); conv => whnf)
          | (refine tst_in ?_ ?_; (focus (intro h_; exfalso; first | omega | ((try simp only [decide_eq_true_eq, decide_eq_false_iff_not] at h_); omega) | (simp [mulSz, Cont.len, bne, tab_len] at h_; first | done | omega))); intro _; conv => whnf)
          | (refine tst_in ?_ ?_; rotate_left; (focus (intro h_; exfalso; first | omega | ((try simp only [decide_eq_true_eq, decide_eq_false_iff_not] at h_); omega) | (simp [mulSz, Cont.len, bne, tab_len] at h_; first | done | omega))); intro _; conv => whnf)
          | (refine ⟨0, (show _ = _ by omega), ?_⟩; conv => whnf))
        refine ⟨[0, 1], (j + 1 : Nat), ?_, (by show j + 1 ≤ n; omega), (by show n - (j + 1) < n - j; omega)⟩
        show stLe _ _ (st32 F A n c (j + 1)) _
        conv => whnf
        repeat' (first | exact True.intro | rfl | refine And.intro ?_ ?_)
        all_goals (conv => whnf)
        repeat' (first | exact True.intro | rfl | refine And.intro ?_ ?_)
        all_goals (try omega)
        show tb (gi (ct (slope F n) (2 * (j + 1)))) n = (tb (gi (ct (slope F n) (2 * j))) n).set (0 + (2 * (j : Nat) + 1 - 1 : Int).toNat) (((F (2 * j + 1)).v : Nat) : Int)
        rw [show (0 + (2 * (j : Nat) + 1 - 1 : Int).toNat) = 2 * j by omega]
        refine (tab_put _ n (2 * j) _ fun k hk => ?_).symm
        by_cases e : k = 2 * j
        · subst e
          rw [if_pos rfl, ct_lt _ (by omega)]
          unfold slope sl
          rw [if_pos (by omega), ct_lt _ (by omega)]
        · rw [if_neg e]
          by_cases e2 : k < 2 * j
          · rw [ct_lt _ e2, ct_lt _ (by omega)]
          · rw [show ct (slope F n) (2 * j) k = g0 from if_neg e2]
            by_cases e3 : k = 2 * j + 1
            · subst e3
              rw [ct_lt _ (by omega)]
              unfold slope sl
              rw [if_neg (by omega)]
            · exact if_neg (by omega)
      · have u : n ≤ 2 * j + 1 := by have := dlt_f u'; omega
        have e : tb (gi (ct (slope F n) (2 * j))) n = tb (gi (slope F n)) n := tab_congr fun k hk => by
          unfold gi
          by_cases h2 : k < 2 * j
          · rw [ct_lt _ h2]
          · rw [show ct (slope F n) (2 * j) k = g0 from if_neg h2]
            unfold slope sl
            split
            · rw [show ct F n (k + 1) = g0 from if_neg (by omega)]
            · rfl
        unfold st32
        rw [e]
        conv => whnf
        repeat (first
          | (refine And.intro ?_ ?_; (focus (first | omega | decide | exact EqOk.mk (by kernel_rfl) (by kernel_rfl) (by kernel_rfl) | exact Int.natCast_nonneg _ | ((repeat' refine And.intro ?_ ?_) <;> first | omega | exact Int.natCast_nonneg _ | (simp only [i64max, u8max, u16max, u32max, u64max]; omega) | (simp only [mulSz_eq, Cont.len, colsLen, Col.len, List.length_cons, List.length_nil, List.length_replicate, List.length_append]; first | done | omega) | (simp [mulSz, Cont.len, bne]; first | done | omega)))); conv => whnf)
          | (refine tst_in ?_ ?_; (focus (intro h_; exfalso; first | omega | ((try simp only [decide_eq_true_eq, decide_eq_false_iff_not] at h_); omega) | (simp [mulSz, Cont.len, bne] at h_; first | done | omega))); intro _; conv => whnf)
          | (refine tst_in ?_ ?_; rotate_left; (focus (intro h_; exfalso; first | omega | ((try simp only [decide_eq_true_eq, decide_eq_false_iff_not] at h_); omega) | (simp [mulSz, Cont.len, bne] at h_; first | done | omega))); intro _; conv => whnf)
          | (refine ⟨0, (show _ = _ by omega), ?_⟩; conv => whnf))
        refine ⟨_, [1], TA, ?_⟩
        conv => whnf
        iterate 2
         refine And.intro ?_ ?_
         focus
          conv => whnf
          repeat' (first | exact True.intro | rfl | refine And.intro ?_ ?_ | omega)
          all_goals (conv => whnf)
          all_goals (try (first | rfl | omega | (simp; done)))
        conv => whnf
        refine ⟨?_, True.intro⟩
        intro _ _
        conv => whnf
        conv => whnf
        repeat (first
          | (refine And.intro ?_ ?_; (focus (first | omega | decide | exact EqOk.mk (by kernel_rfl) (by kernel_rfl) (by kernel_rfl) | exact Int.natCast_nonneg _ | ((repeat' refine And.intro ?_ ?_) <;> first | omega | exact Int.natCast_nonneg _ | (simp only [i64max, u8max, u16max, u32max, u64max]; omega) | (simp only [mulSz_eq, Cont.len, colsLen, Col.len, List.length_cons, List.length_nil, List.length_replicate, List.length_append]; first | done | omega) | (simp [mulSz, Cont.len, bne]; first | done | omega)))); conv => whnf)
          | (refine tst_in ?_ ?_; (focus (intro h_; exfalso; first | omega | ((try simp only [decide_eq_true_eq, decide_eq_false_iff_not] at h_); omega) | (simp [mulSz, Cont.len, bne] at h_; first | done | omega))); intro _; conv => whnf)
          | (refine tst_in ?_ ?_; rotate_left; (focus (intro h_; exfalso; first | omega | ((try simp only [decide_eq_true_eq, decide_eq_false_iff_not] at h_); omega) | (simp [mulSz, Cont.len, bne] at h_; first | done | omega))); intro _; conv => whnf)
          | (refine ⟨0, (show _ = _ by omega), ?_⟩; conv => whnf))
        refine .inl ⟨(), [0, 1], ?_⟩
        conv => whnf
        repeat' (first | exact True.intro | rfl | refine And.intro ?_ ?_)
        all_goals (conv => whnf)
        repeat' (first | exact True.intro | rfl | refine And.intro ?_ ?_)
        all_goals (try omega)
end Go.Proofs.Yteiblfkegnppeaa
