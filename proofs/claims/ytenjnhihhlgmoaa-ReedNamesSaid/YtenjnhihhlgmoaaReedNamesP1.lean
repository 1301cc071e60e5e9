/-
  What the functions that are called give: for ReedNames.
-/
import Derived.Test.YtenjnhihhlgmoaaRows
import Derived.Test.YtenjnhihhlgmoaaFv
set_option linter.unusedSimpArgs false
set_option linter.unusedVariables false
set_option linter.unusedVariables false
set_option linter.unusedSimpArgs false
namespace Go.Proofs.Ytenjnhihhlgmoaa
open Go Go.Fw
def tyL : List (Nat × TyI) := [
  (1, ⟨.func, 1, 8, .nilFunc⟩),
  (2, ⟨.int .i64, 1, 8, .int .i64 0⟩),
  (3, ⟨.int .i64, 1, 8, .int .i64 0⟩),
  (4, ⟨.bool, 1, 1, .bool false⟩),
  (5, ⟨.int .u8, 1, 1, .int .u8 0⟩),
  (9, ⟨.str, 1, 16, .string (ByteArray.mk #[])⟩),
  (12, ⟨.int .u64, 1, 8, .int .u64 0⟩),
  (21, ⟨.int .i32, 1, 4, .int .i32 0⟩),
  (22, ⟨.func, 1, 8, .nilFunc⟩),
  (23, ⟨.slice 5, 1, 24, .slice none 0 0⟩),
  (24, ⟨.int .i64, 1, 8, .int .i64 0⟩),
  (26, ⟨.func, 1, 8, .nilFunc⟩),
  (27, ⟨.slice 9, 1, 24, .slice none 0 0⟩),
  (29, ⟨.func, 1, 8, .nilFunc⟩),
  (30, ⟨.func, 1, 8, .nilFunc⟩),
  (32, ⟨.func, 1, 8, .nilFunc⟩),
  (33, ⟨.func, 1, 8, .nilFunc⟩),
  (35, ⟨.func, 1, 8, .nilFunc⟩),
  (36, ⟨.func, 1, 8, .nilFunc⟩),
  (37, ⟨.func, 1, 8, .nilFunc⟩),
  (38, ⟨.func, 1, 8, .nilFunc⟩),
  (39, ⟨.func, 1, 8, .nilFunc⟩),
  (40, ⟨.func, 1, 8, .nilFunc⟩),
  (41, ⟨.func, 1, 8, .nilFunc⟩),
  (42, ⟨.func, 1, 8, .nilFunc⟩),
  (43, ⟨.func, 1, 8, .nilFunc⟩),
  (44, ⟨.func, 1, 8, .nilFunc⟩),
  (45, ⟨.array 64 5, 64, 64, .agg ⟨List.replicate 64 (.int .u8 0)⟩⟩),
  (46, ⟨.func, 1, 8, .nilFunc⟩),
  (47, ⟨.func, 1, 8, .nilFunc⟩),
  (48, ⟨.func, 1, 8, .nilFunc⟩),
  (49, ⟨.int .u64, 1, 8, .int .u64 0⟩),
  (50, ⟨.func, 1, 8, .nilFunc⟩),
  (51, ⟨.func, 1, 8, .nilFunc⟩),
  (52, ⟨.func, 1, 8, .nilFunc⟩),
  (58, ⟨.func, 1, 8, .nilFunc⟩),
  (59, ⟨.int .u32, 1, 4, .int .u32 0⟩),
  (62, ⟨.func, 1, 8, .nilFunc⟩),
  (63, ⟨.ptr 5, 1, 8, .pointer none⟩)]
theorem tokL : TOk Try.prog tyL := tokl_of ⟨⟨by kernel_rfl, by kernel_rfl⟩, ⟨by kernel_rfl, by kernel_rfl⟩, ⟨by kernel_rfl, by kernel_rfl⟩, ⟨by kernel_rfl, by kernel_rfl⟩, ⟨by kernel_rfl, by kernel_rfl⟩, ⟨by kernel_rfl, by kernel_rfl⟩, ⟨by kernel_rfl, by kernel_rfl⟩, ⟨by kernel_rfl, by kernel_rfl⟩, ⟨by kernel_rfl, by kernel_rfl⟩, ⟨by kernel_rfl, by kernel_rfl⟩, ⟨by kernel_rfl, by kernel_rfl⟩, ⟨by kernel_rfl, by kernel_rfl⟩, ⟨by kernel_rfl, by kernel_rfl⟩, ⟨by kernel_rfl, by kernel_rfl⟩, ⟨by kernel_rfl, by kernel_rfl⟩, ⟨by kernel_rfl, by kernel_rfl⟩, ⟨by kernel_rfl, by kernel_rfl⟩, ⟨by kernel_rfl, by kernel_rfl⟩, ⟨by kernel_rfl, by kernel_rfl⟩, ⟨by kernel_rfl, by kernel_rfl⟩, ⟨by kernel_rfl, by kernel_rfl⟩, ⟨by kernel_rfl, by kernel_rfl⟩, ⟨by kernel_rfl, by kernel_rfl⟩, ⟨by kernel_rfl, by kernel_rfl⟩, ⟨by kernel_rfl, by kernel_rfl⟩, ⟨by kernel_rfl, by kernel_rfl⟩, ⟨by kernel_rfl, by kernel_rfl⟩, ⟨by kernel_rfl, by kernel_rfl⟩, ⟨by kernel_rfl, by kernel_rfl⟩, ⟨by kernel_rfl, by kernel_rfl⟩, ⟨by kernel_rfl, by kernel_rfl⟩, ⟨by kernel_rfl, by kernel_rfl⟩, ⟨by kernel_rfl, by kernel_rfl⟩, ⟨by kernel_rfl, by kernel_rfl⟩, ⟨by kernel_rfl, by kernel_rfl⟩, ⟨by kernel_rfl, by kernel_rfl⟩, ⟨by kernel_rfl, by kernel_rfl⟩, ⟨by kernel_rfl, by kernel_rfl⟩, ⟨by kernel_rfl, by kernel_rfl⟩, True.intro⟩
theorem mixedL : Try.prog.follows .mixedOrders = true := by kernel_rfl
theorem i64max : IntKind.i64.max = 9223372036854775807 := rfl
theorem u8max : IntKind.u8.max = 255 := rfl
theorem u16max : IntKind.u16.max = 65535 := rfl
theorem u32max : IntKind.u32.max = 4294967295 := rfl
theorem u64max : IntKind.u64.max = 18446744073709551615 := rfl
def numOut (D : List Seg) (x : AV) : FOut := ⟨Unit, fun _ => True, fun _ => x, fun _ => D⟩
def wtys : List (Nat × TyI) := tyL
theorem wtok : TOk Try.prog wtys := tokL
theorem wmixed : Try.prog.follows .mixedOrders = true := mixedL
def qf : Nat → Bool := fun f => match f with    | 9 => true   | 11 => true   | 12 => true | 22 => true | 20 => true | 23 => true | 24 => true | _ => false
def cfgk (k : Nat) : Cfg := { T := wtys, sgn := fun _ => false, wr := fun _ => false, k := k, q := qf }
def cfg : Cfg := cfgk 0
def cfgs : Cfg := { T := wtys, sgn := fun _ => true, wr := fun _ => false, k := 0, q := qf }
def cfgN (k : Nat) : Cfg := { T := tyL, sgn := fun _ => true, wr := fun _ => false, k := k, q := qf }
theorem u8wrap (n : Int) : IntKind.u8.wrap n = n % 256 := by
  unfold IntKind.wrap
  simp [IntKind.bits, IntKind.signed]

def ta (a : Nat) : Nat := Nat.xor (Nat.mod (Nat.mul 2 a) 256) (Nat.land 29 (Nat.mod (Nat.sub 256 (Nat.div a 128)) 256))
def tp (a b p : Nat) : Nat := Nat.xor p (Nat.land a (Nat.mod (Nat.sub 256 (Nat.mod b 2)) 256))
noncomputable def tmul (f : Nat) : Nat → Nat → Nat → Nat := @Nat.rec (fun _ => Nat → Nat → Nat → Nat) (fun _ _ p => p) (fun _ ih a b p => ih (ta a) (Nat.div b 2) (tp a b p)) f
/-- The product. -/
noncomputable def T (a b : Nat) : Nat := tmul 8 a b 0
theorem ta_lt (a : Nat) : ta a < 256 := Nat.xor_lt_two_pow (n := 8) (Nat.mod_lt _ (by decide)) (Nat.lt_of_le_of_lt Nat.and_le_right (Nat.mod_lt _ (by decide)))
theorem tp_lt {a b p : Nat} (hp : p < 256) : tp a b p < 256 := Nat.xor_lt_two_pow (n := 8) hp (Nat.lt_of_le_of_lt Nat.and_le_right (Nat.mod_lt _ (by decide)))
theorem tmul_lt : ∀ (f a b p : Nat), p < 256 → tmul f a b p < 256
  | 0, _, _, _, h => h
  | f + 1, a, b, p, h => tmul_lt f _ _ _ (tp_lt h)
theorem T_lt (a b : Nat) : T a b < 256 := tmul_lt 8 a b 0 (by decide)
theorem tmul_zero : ∀ (f a p : Nat), tmul f a 0 p = p
  | 0, _, _ => rfl
  | f + 1, a, p => by
    have h1 : tp a 0 p = p := by
      show p ^^^ (a &&& ((256 - 0 % 2) % 256)) = p
      simp
    show tmul f (ta a) (0 / 2) (tp a 0 p) = p
    rw [h1, Nat.zero_div, tmul_zero f]
noncomputable def c17 : Code := (Try.f20.body).getD .skip
structure TS where
  f : Nat
  a : Nat
  b : Nat
  p : Nat
noncomputable def inv17 (A B : Nat) : LInv := ⟨TS, fun s => ⟨anyTo 28 [.int .u8 s.a, .int .u8 s.b, .any, .any, .any, .int .u8 s.p], []⟩, fun s => s.a < 256 ∧ s.b < 2 ^ s.f ∧ s.f ≤ 8 ∧ s.p < 256 ∧ tmul s.f s.a s.b s.p = T A B, fun s => s.f⟩
set_option maxRecDepth 100000 in
theorem Times_q (A B : Nat) (hA : A < 256) (hB : B < 256) : QFits Try.prog 20 ⟨[.int .u8 A, .int .u8 B], [], .int .u8 (T A B)⟩ := by
  refine qfits_of_body (C := cfg) (c := c17) (ts := [4]) wtok wmixed (fun | 2 => some (inv17 A B) | _ => none) (fun _ => none)
    Try.func20 (by kernel_rfl) (by kernel_rfl) (by kernel_rfl) (by kernel_rfl) (by kernel_rfl) rfl rfl ?_
  conv => whnf
  refine ⟨⟨[], (⟨8, A, B, 0⟩ : TS), ?_, hA, hB, Nat.le_refl _, (by decide : 0 < 256), rfl⟩, ?_⟩
  · conv => whnf
    repeat' (first | exact True.intro | rfl | refine And.intro ?_ ?_)
  · rintro ⟨f, a, b, p⟩ ⟨ha, hb, hf, hp, hT⟩
    dsimp only at ha hb hf hp hT
    have hb2 : b < 256 := Nat.lt_of_lt_of_le hb (Nat.pow_le_pow_right (by decide) hf)
    show forceSt ⟨anyTo 28 [.int .u8 (a : Nat), .int .u8 (b : Nat), .any, .any, .any, .int .u8 (p : Nat)], []⟩ _
    conv => whnf
    refine tst_in (fun hne => ?_) (fun he => ?_)
    · skip
      have hne : b ≠ 0 := by simp at hne; omega
      cases f with
      | zero => simp at hb; omega
      | succ f =>
        have e1 : ((((b : Int).toNat &&& (1 : Int).toNat : Nat)) : Int) = ((b % 2 : Nat) : Int) := by
          rw [Int.toNat_natCast, show (1 : Int).toNat = 1 from rfl, Nat.and_one_is_mod]
        have e2 : IntKind.u8.wrap (0 - ((b % 2 : Nat) : Int)) = (((256 - b % 2) % 256 : Nat) : Int) := by rw [u8wrap]; omega
        have e3 : ((((a : Int).toNat &&& ((((256 - b % 2) % 256 : Nat) : Int)).toNat : Nat)) : Int) = ((a &&& ((256 - b % 2) % 256) : Nat) : Int) := by
          rw [Int.toNat_natCast, Int.toNat_natCast]
        have l3 : a &&& ((256 - b % 2) % 256) < 256 := Nat.lt_of_le_of_lt Nat.and_le_right (Nat.mod_lt _ (by decide))
        conv => whnf
        refine ⟨by repeat' (first | omega | exact Int.natCast_nonneg _ | (simp only [i64max]; omega) | (simp only [u8max]; omega) | refine And.intro ?_ ?_), ?_⟩
        conv => whnf
        rw [e1]
        conv => whnf
        rw [e2]
        refine ⟨by repeat' (first | omega | exact Int.natCast_nonneg _ | (simp only [i64max]; omega) | (simp only [u8max]; omega) | refine And.intro ?_ ?_), ?_⟩
        conv => whnf
        rw [e3]
        refine ⟨by repeat' (first | omega | exact Int.natCast_nonneg _ | (simp only [i64max]; omega) | (simp only [u8max]; omega) | refine And.intro ?_ ?_), ?_⟩
        conv => whnf
        have e4 : ((((p : Int).toNat ^^^ (((a &&& ((256 - b % 2) % 256) : Nat) : Int)).toNat : Nat)) : Int) = ((tp a b p : Nat) : Int) := by
          rw [Int.toNat_natCast, Int.toNat_natCast]; rfl
        rw [e4]
        have e5 : (a : Int) / 2 ^ (min (7 : Int).toNat IntKind.u8.bits) = ((a / 128 : Nat) : Int) := by
          show (a : Int) / 2 ^ 7 = _
          omega
        have e6 : IntKind.u8.wrap (0 - ((a / 128 : Nat) : Int)) = (((256 - a / 128) % 256 : Nat) : Int) := by rw [u8wrap]; omega
        have l7 : 29 &&& ((256 - a / 128) % 256) < 256 := Nat.lt_of_le_of_lt Nat.and_le_right (Nat.mod_lt _ (by decide))
        have e8 : IntKind.u8.wrap ((a : Int) * 2 ^ (min (1 : Int).toNat IntKind.u8.bits)) = (((2 * a) % 256 : Nat) : Int) := by
          rw [u8wrap]
          show (a : Int) * 2 ^ 1 % 256 = _
          omega
        have e10 : (b : Int) / 2 ^ (min (1 : Int).toNat IntKind.u8.bits) = ((b / 2 : Nat) : Int) := by
          show (b : Int) / 2 ^ 1 = _
          omega
        conv => whnf
        refine ⟨by repeat' (first | omega | exact Int.natCast_nonneg _ | (simp only [i64max]; omega) | (simp only [u8max]; omega) | refine And.intro ?_ ?_), ?_⟩
        conv => whnf
        rw [e5]
        conv => whnf
        rw [e6]
        refine ⟨by repeat' (first | omega | exact Int.natCast_nonneg _ | (simp only [i64max]; omega) | (simp only [u8max]; omega) | refine And.intro ?_ ?_), ?_⟩
        conv => whnf
        have e7 : ((((29 : Int).toNat &&& ((((256 - a / 128) % 256 : Nat) : Int)).toNat : Nat)) : Int) = ((29 &&& ((256 - a / 128) % 256) : Nat) : Int) := by
          rw [Int.toNat_natCast]; rfl
        rw [e7]
        conv => whnf
        refine ⟨by repeat' (first | omega | exact Int.natCast_nonneg _ | (simp only [i64max]; omega) | (simp only [u8max]; omega) | refine And.intro ?_ ?_), ?_⟩
        conv => whnf
        rw [e8]
        conv => whnf
        refine ⟨by repeat' (first | omega | exact Int.natCast_nonneg _ | (simp only [i64max]; omega) | (simp only [u8max]; omega) | refine And.intro ?_ ?_), ?_⟩
        conv => whnf
        have e9 : ((((((2 * a) % 256 : Nat) : Int)).toNat ^^^ (((29 &&& ((256 - a / 128) % 256) : Nat) : Int)).toNat : Nat) : Int) = ((ta a : Nat) : Int) := by
          rw [Int.toNat_natCast, Int.toNat_natCast]; rfl
        rw [e9]
        conv => whnf
        refine ⟨by repeat' (first | omega | exact Int.natCast_nonneg _ | (simp only [i64max]; omega) | (simp only [u8max]; omega) | refine And.intro ?_ ?_), ?_⟩
        conv => whnf
        rw [e10]
        conv => whnf
        refine ⟨[], (⟨f, ta a, b / 2, tp a b p⟩ : TS), ?_, ⟨ta_lt a, ?_, (by show f ≤ 8; omega), tp_lt hp, hT⟩, ?_⟩
        · conv => whnf
          repeat' (first | exact True.intro | rfl | refine And.intro ?_ ?_)
        · show b / 2 < 2 ^ f
          rw [Nat.pow_succ] at hb
          omega
        · show f < f + 1
          omega
    · skip
      have he : b = 0 := by simp at he; omega
      subst he
      conv => whnf
      repeat' (first | exact True.intro | rfl | refine And.intro ?_ ?_)
      all_goals (show ((T A B : Nat) : Int) = (p : Int); rw [← hT, tmul_zero])


noncomputable def pwl (f : Nat) : Nat → Nat → Nat → Nat := @Nat.rec (fun _ => Nat → Nat → Nat → Nat) (fun _ _ x => x) (fun _ ih a n x => ih (T a a) (Nat.div n 2) (@Bool.rec (fun _ => Nat) x (T x a) (Nat.beq (Nat.mod n 2) 1))) f
/-- A power, by squares. -/
noncomputable def pw (a n : Nat) : Nat := pwl 8 a n 1
theorem pwl_even {f a n x : Nat} (h : n % 2 = 0) : pwl (f + 1) a n x = pwl f (T a a) (n / 2) x := by
  show pwl f (T a a) (n / 2) (@Bool.rec (fun _ => Nat) x (T x a) (Nat.beq (n % 2) 1)) = _
  rw [h]; rfl
theorem pwl_odd {f a n x : Nat} (h : n % 2 = 1) : pwl (f + 1) a n x = pwl f (T a a) (n / 2) (T x a) := by
  show pwl f (T a a) (n / 2) (@Bool.rec (fun _ => Nat) x (T x a) (Nat.beq (n % 2) 1)) = _
  rw [h]; rfl
theorem pwl_zero : ∀ (f a x : Nat), pwl f a 0 x = x
  | 0, _, _ => rfl
  | f + 1, a, x => by rw [pwl_even rfl]; exact pwl_zero f _ _
noncomputable def c18 : Code := (Try.f23.body).getD .skip
noncomputable def inv18 (A N : Nat) : LInv := ⟨TS, fun s => ⟨anyTo 20 [.int .u8 s.a, .int .i64 s.b, .any, .any, .any, .int .u8 s.p], []⟩, fun s => s.a < 256 ∧ s.b < 2 ^ s.f ∧ s.f ≤ 8 ∧ s.p < 256 ∧ pwl s.f s.a s.b s.p = pw A N, fun s => s.f⟩
set_option maxRecDepth 100000 in
theorem power_q (A N : Nat) (hA : A < 256) (hN : N < 256) : QFits Try.prog 23 ⟨[.int .u8 A, .int .i64 N], [], .int .u8 (pw A N : Nat)⟩ := by
  refine qfits_of_body (C := cfg) (c := c18) (ts := [4]) wtok wmixed (fun | 2 => some (inv18 A N) | _ => none) (fun _ => none)
    Try.func23 (by kernel_rfl) (by kernel_rfl) (by kernel_rfl) (by kernel_rfl) (by kernel_rfl) rfl rfl ?_
  conv => whnf
  refine ⟨⟨[], (⟨8, A, N, 1⟩ : TS), ?_, hA, hN, Nat.le_refl _, (by decide : 1 < 256), rfl⟩, ?_⟩
  · conv => whnf
    repeat' (first | exact True.intro | rfl | refine And.intro ?_ ?_)
  · rintro ⟨f, a, n, x⟩ ⟨ha, hb, hf, hp, hT⟩
    dsimp only at ha hb hf hp hT
    have hb2 : n < 256 := Nat.lt_of_lt_of_le hb (Nat.pow_le_pow_right (by decide) hf)
    show forceSt ⟨anyTo 20 [.int .u8 (a : Nat), .int .i64 (n : Nat), .any, .any, .any, .int .u8 (x : Nat)], []⟩ _
    conv => whnf
    refine tst_in (fun hne => ?_) (fun he => ?_)
    · skip
      have hne : n ≠ 0 := by simp at hne; omega
      cases f with
      | zero => simp at hb; omega
      | succ f =>
        have hb3 : n / 2 < 2 ^ f := by rw [Nat.pow_succ] at hb; omega
        have e1 : ((((n : Int).toNat &&& (1 : Int).toNat : Nat)) : Int) = ((n % 2 : Nat) : Int) := by
          rw [Int.toNat_natCast, show (1 : Int).toNat = 1 from rfl, Nat.and_one_is_mod]
        have e2 : (n : Int) / 2 ^ (min (1 : Int).toNat IntKind.i64.bits) = ((n / 2 : Nat) : Int) := by
          show (n : Int) / 2 ^ 1 = _
          omega
        conv => whnf
        refine ⟨by repeat' (first | omega | exact Int.natCast_nonneg _ | (simp only [i64max]; omega) | (simp only [u8max]; omega) | refine And.intro ?_ ?_), ?_⟩
        conv => whnf
        rw [e1]
        conv => whnf
        refine tst_in (fun h1 => ?_) (fun h1 => ?_)
        · skip
          have h1 : n % 2 = 1 := by simp at h1; omega
          rw [pwl_odd h1] at hT
          conv => whnf
          refine ⟨_, [], Times_q x a hp ha, ?_⟩
          conv => whnf
          iterate 2
           refine And.intro ?_ ?_
           focus
            conv => whnf
            repeat' (first | exact True.intro | rfl | refine And.intro ?_ ?_ | omega)
            all_goals (conv => whnf)
            all_goals (try (first | rfl | omega | (simp; done)))
          conv => whnf
          refine ⟨_, [], Times_q a a ha ha, ?_⟩
          conv => whnf
          iterate 2
           refine And.intro ?_ ?_
           focus
            conv => whnf
            repeat' (first | exact True.intro | rfl | refine And.intro ?_ ?_ | omega)
            all_goals (conv => whnf)
            all_goals (try (first | rfl | omega | (simp; done)))
          conv => whnf
          refine ⟨by repeat' (first | omega | exact Int.natCast_nonneg _ | (simp only [i64max]; omega) | (simp only [u8max]; omega) | refine And.intro ?_ ?_), ?_⟩
          conv => whnf
          rw [e2]
          conv => whnf
          refine ⟨[], (⟨f, T a a, n / 2, T x a⟩ : TS), ?_, ⟨T_lt _ _, hb3, (by show f ≤ 8; omega), T_lt _ _, hT⟩, ?_⟩
          · conv => whnf
            repeat' (first | exact True.intro | rfl | refine And.intro ?_ ?_)
          · show f < f + 1
            omega
        · skip
          have h1 : n % 2 = 0 := by simp at h1; omega
          rw [pwl_even h1] at hT
          conv => whnf
          refine ⟨_, [], Times_q a a ha ha, ?_⟩
          conv => whnf
          iterate 2
           refine And.intro ?_ ?_
           focus
            conv => whnf
            repeat' (first | exact True.intro | rfl | refine And.intro ?_ ?_ | omega)
            all_goals (conv => whnf)
            all_goals (try (first | rfl | omega | (simp; done)))
          conv => whnf
          refine ⟨by repeat' (first | omega | exact Int.natCast_nonneg _ | (simp only [i64max]; omega) | (simp only [u8max]; omega) | refine And.intro ?_ ?_), ?_⟩
          conv => whnf
          rw [e2]
          conv => whnf
          refine ⟨[], (⟨f, T a a, n / 2, x⟩ : TS), ?_, ⟨T_lt _ _, hb3, (by show f ≤ 8; omega), hp, hT⟩, ?_⟩
          · conv => whnf
            repeat' (first | exact True.intro | rfl | refine And.intro ?_ ?_)
          · show f < f + 1
            omega
    · skip
      have he : n = 0 := by simp at he; omega
      subst he
      conv => whnf
      repeat' (first | exact True.intro | rfl | refine And.intro ?_ ?_)
      all_goals (show ((pw A N : Nat) : Int) = (x : Int); rw [← hT, pwl_zero])
noncomputable def c19 : Code := (Try.f24.body).getD .skip
theorem tm255 (n : Int) : (¬ n.tmod 255 < 0 → n.tmod 255 = n % 255) ∧ (n.tmod 255 < 0 → n.tmod 255 + 255 = n % 255) := by
  rcases Int.le_total 0 n with h | h
  · rw [Int.tmod_eq_emod_of_nonneg h]; omega
  · have e : n.tmod 255 = -((-n) % 255) := by
      rw [← Int.tmod_eq_emod_of_nonneg (by omega : 0 ≤ -n), Int.neg_tmod, Int.neg_neg]
    rw [e]; omega
theorem turned_q (n : Int) : QFits Try.prog 24 ⟨[.int .i64 n], [], .int .i64 (n % 255)⟩ := by
  refine qfits_of_body (C := cfgs) (c := c19) (ts := [2]) wtok wmixed (fun _ => none) (fun _ => none)
    Try.func24 (by kernel_rfl) (by kernel_rfl) (by kernel_rfl) (by kernel_rfl) (by kernel_rfl) rfl rfl ?_
  obtain ⟨t1, t2⟩ := tm255 n
  conv => whnf
  refine ⟨by decide, ?_⟩
  conv => whnf
  refine tst_in (fun h => ?_) (fun h => ?_)
  · skip
    have h : n.tmod 255 < 0 := by simpa using h
    have h2 := t2 h
    conv => whnf
    refine ⟨by repeat' (first | omega | exact Int.natCast_nonneg _ | (simp only [i64max]; omega) | (simp only [u8max]; omega) | refine And.intro ?_ ?_), ?_⟩
    conv => whnf
    repeat' (first | exact True.intro | rfl | refine And.intro ?_ ?_)
    all_goals (show n % 255 = n.tmod 255 + 255; omega)
  · skip
    have h : ¬ n.tmod 255 < 0 := by simpa using h
    conv => whnf
    repeat' (first | exact True.intro | rfl | refine And.intro ?_ ?_)
    all_goals (show n % 255 = n.tmod 255; rw [t1 h])
noncomputable def fN (n : Nat) (K : Nat → Bool) : Bool := @Nat.rec (fun _ => Bool) (K 0) (fun q _ => K (Nat.succ q)) n
theorem fN_eq (n : Nat) (K : Nat → Bool) : fN n K = K n := by cases n <;> rfl
noncomputable def ifB (c : Bool) (a : Bool) : Bool := @Bool.rec (fun _ => Bool) false a c
theorem ifB_out {c a : Bool} (h : ifB c a = true) : c = true ∧ a = true := by
  cases c
  · cases h
  · exact ⟨rfl, h⟩
/-- A power, by products one by one. -/
noncomputable def rp (a n : Nat) : Nat := @Nat.rec (fun _ => Nat) 1 (fun _ x => T x a) n
noncomputable def chkP (a : Nat) (f : Nat) : Nat → Nat → Bool := @Nat.rec (fun _ => Nat → Nat → Bool) (fun _ _ => true) (fun _ ih n x => ifB (Nat.beq (pw a n) x) (fN (T x a) fun y => fN (Nat.succ n) fun m => ih m y)) f
theorem chkP_out {a : Nat} : ∀ (f n : Nat), chkP a f n (rp a n) = true → ∀ m, n ≤ m → m < n + f → pw a m = rp a m
  | 0, n, _, m, h1, h2 => by omega
  | f + 1, n, h, m, h1, h2 => by
    obtain ⟨g1, g2⟩ := ifB_out (show ifB (Nat.beq (pw a n) (rp a n)) (fN (T (rp a n) a) fun y => fN (Nat.succ n) fun m => chkP a f m y) = true from h)
    rw [fN_eq, fN_eq] at g2
    rcases Nat.lt_or_ge n m with h3 | h3
    · exact chkP_out f (n + 1) g2 m h3 (by omega)
    · have : m = n := by omega
      subst this; exact Nat.eq_of_beq_eq_true g1
noncomputable def c16 : Code := (Try.f22.body).getD .skip
theorem Exp_q (n : Int) : QFits Try.prog 22 ⟨[.int .i64 n], [], .int .u8 (pw 2 (n % 255).toNat : Nat)⟩ := by
  refine qfits_of_body (C := cfg) (c := c16) (ts := [2]) wtok wmixed (fun _ => none) (fun _ => none)
    Try.func22 (by kernel_rfl) (by kernel_rfl) (by kernel_rfl) (by kernel_rfl) (by kernel_rfl) rfl rfl ?_
  have hn := Int.emod_nonneg n (show (255 : Int) ≠ 0 by decide)
  have hn2 := Int.emod_lt_of_pos n (show (0 : Int) < 255 by decide)
  conv => whnf
  refine ⟨_, [], turned_q n, ?_⟩
  conv => whnf
  iterate 2
   refine And.intro ?_ ?_
   focus
    conv => whnf
    repeat' (first | exact True.intro | rfl | refine And.intro ?_ ?_ | omega)
    all_goals (conv => whnf)
    all_goals (try (first | rfl | omega | (simp; done)))
  conv => whnf
  refine ⟨_, [], power_q 2 (n % 255).toNat (by decide) (by omega), ?_⟩
  conv => whnf
  iterate 2
   refine And.intro ?_ ?_
   focus
    conv => whnf
    repeat' (first | exact True.intro | rfl | refine And.intro ?_ ?_ | omega)
    all_goals (conv => whnf)
    all_goals (try (first | rfl | omega | (simp; done)))
  conv => whnf
  repeat' (first | exact True.intro | rfl | refine And.intro ?_ ?_)


theorem rp_lt (a : Nat) : ∀ n, rp a n < 256
  | 0 => by show 1 < 256; decide
  | n + 1 => T_lt _ _
def okR (r : Int) : Bool := decide (2 ≤ r) && (decide (r ≤ 64) && decide (r % 2 = 0))
theorem okR_iff {r : Int} : okR r = true ↔ 2 ≤ r ∧ r ≤ 64 ∧ r % 2 = 0 := by simp [okR]
def okN (n r : Int) : Bool := decide (r < n) && decide (n ≤ 255)
def chkV (n r : Int) : Int := if okR r = true ∧ okN n r = true then 0 else 1
noncomputable def c9 : Code := (Try.f11.body).getD .skip
theorem areChecks_q (r : Int) : QFits Try.prog 11 ⟨[.int .i64 r], [], .bool (okR r)⟩ := by
  refine qfits_of_body (C := cfg) (c := c9) (ts := [2]) wtok wmixed (fun _ => none) (fun _ => none)
    Try.func11 (by kernel_rfl) (by kernel_rfl) (by kernel_rfl) (by kernel_rfl) (by kernel_rfl) rfl rfl ?_
  conv => whnf
  refine tst_in (fun h1 => ?_) (fun h1 => ?_)
  · conv => whnf
    refine tst_in (fun h2 => ?_) (fun h2 => ?_)
    · conv => whnf
      simp at h1 h2
      refine ⟨by repeat' (first | omega | exact Int.natCast_nonneg _ | (simp only [i64max]; omega) | (simp only [u8max]; omega) | refine And.intro ?_ ?_), ?_⟩
      conv => whnf
      repeat' (first | exact True.intro | rfl | refine And.intro ?_ ?_)
      all_goals (conv => whnf)
      all_goals ((try simp only [decide_eq_true_eq, decide_eq_false_iff_not] at *); apply Bool.eq_iff_iff.mpr; simp only [okR, Bool.and_eq_true, decide_eq_true_eq, Bool.false_eq_true, iff_false]; omega)
    · conv => whnf
      simp at h1 h2
      repeat' (first | exact True.intro | rfl | refine And.intro ?_ ?_)
      all_goals (conv => whnf)
      all_goals ((try simp only [decide_eq_true_eq, decide_eq_false_iff_not] at *); apply Bool.eq_iff_iff.mpr; simp only [okR, Bool.and_eq_true, decide_eq_true_eq, Bool.false_eq_true, iff_false]; omega)
  · conv => whnf
    repeat' (first | exact True.intro | rfl | refine And.intro ?_ ?_)
    all_goals (conv => whnf)
    all_goals ((try simp only [decide_eq_true_eq, decide_eq_false_iff_not] at *); apply Bool.eq_iff_iff.mpr; simp only [okR, Bool.and_eq_true, decide_eq_true_eq, Bool.false_eq_true, iff_false]; omega)
noncomputable def c14 : Code := (Try.f12.body).getD .skip
theorem isWord_q (n r : Int) : QFits Try.prog 12 ⟨[.int .i64 n, .int .i64 r], [], .bool (okN n r)⟩ := by
  refine qfits_of_body (C := cfg) (c := c14) (ts := [4]) wtok wmixed (fun _ => none) (fun _ => none)
    Try.func12 (by kernel_rfl) (by kernel_rfl) (by kernel_rfl) (by kernel_rfl) (by kernel_rfl) rfl rfl ?_
  conv => whnf
  refine tst_in (fun h1 => ?_) (fun h1 => ?_)
  · conv => whnf
    repeat' (first | exact True.intro | rfl | refine And.intro ?_ ?_)
    all_goals (conv => whnf)
    all_goals ((try simp only [decide_eq_true_eq, decide_eq_false_iff_not] at *); apply Bool.eq_iff_iff.mpr; simp only [okN, Bool.and_eq_true, decide_eq_true_eq, Bool.false_eq_true, iff_false]; omega)
  · conv => whnf
    repeat' (first | exact True.intro | rfl | refine And.intro ?_ ?_)
    all_goals (conv => whnf)
    all_goals ((try simp only [decide_eq_true_eq, decide_eq_false_iff_not] at *); apply Bool.eq_iff_iff.mpr; simp only [okN, Bool.and_eq_true, decide_eq_true_eq, Bool.false_eq_true, iff_false]; omega)
noncomputable def c6 : Code := (Try.f9.body).getD .skip
theorem Check_q (n r : Int) : QFits Try.prog 9 ⟨[.int .i64 n, .int .i64 r], [], .int .i64 (chkV n r)⟩ := by
  refine qfits_of_body (C := cfg) (c := c6) (ts := [4]) wtok wmixed (fun _ => none) (fun _ => none)
    Try.func9 (by kernel_rfl) (by kernel_rfl) (by kernel_rfl) (by kernel_rfl) (by kernel_rfl) rfl rfl ?_
  conv => whnf
  refine ⟨_, [], areChecks_q r, ?_⟩
  conv => whnf
  iterate 2
   refine And.intro ?_ ?_
   focus
    conv => whnf
    repeat' (first | exact True.intro | rfl | refine And.intro ?_ ?_ | omega)
    all_goals (conv => whnf)
    all_goals (try (first | rfl | omega | (simp; done)))
  conv => whnf
  cases h1 : okR r
  · conv => whnf
    repeat' (first | exact True.intro | rfl | refine And.intro ?_ ?_)
    all_goals (conv => whnf)
    all_goals (show chkV n r = 1; simp [chkV, h1])
  · conv => whnf
    refine ⟨_, [], isWord_q n r, ?_⟩
    conv => whnf
    iterate 2
     refine And.intro ?_ ?_
     focus
      conv => whnf
      repeat' (first | exact True.intro | rfl | refine And.intro ?_ ?_ | omega)
      all_goals (conv => whnf)
      all_goals (try (first | rfl | omega | (simp; done)))
    conv => whnf
    cases h2 : okN n r
    · conv => whnf
      repeat' (first | exact True.intro | rfl | refine And.intro ?_ ?_)
      all_goals (conv => whnf)
      all_goals (show chkV n r = 1; simp [chkV, h2])
    · conv => whnf
      repeat' (first | exact True.intro | rfl | refine And.intro ?_ ?_)
      all_goals (conv => whnf)
      all_goals (show chkV n r = 0; simp [chkV, h1, h2])

set_option maxRecDepth 100000 in
theorem kP2 : chkP 2 255 0 1 = true := by kernel_rfl
theorem pw_rp {m : Nat} (hm : m < 255) : pw 2 m = rp 2 m := chkP_out 255 0 kP2 m (Nat.zero_le _) (by omega)
noncomputable def pwS : Nat → List Int
  | 0 => []
  | k + 1 => pwS k ++ [((rp 2 k : Nat) : Int)]
theorem pwS_len : ∀ k, (pwS k).length = k
  | 0 => rfl
  | k + 1 => by simp [pwS, pwS_len k]
def rowI (k : Nat) (pre : List Seg) (xs : List Int) (f : AV → AV) : FOut := ⟨List Int, fun _ => True, fun tl => f (.slice k 0 xs.length (xs.length + tl.length)), fun tl => pre ++ [.seg true (.ints .u8 (xs ++ tl))]⟩
def rowX (k : Nat) (pre : List Seg) (xs : List Int) (f : AV → AV) : FOut := ⟨Unit, fun _ => True, fun _ => f (.slice k 0 xs.length xs.length), fun _ => pre ++ [.seg true (.ints .u8 xs)]⟩
theorem set_fill (l : List Int) (k r : Nat) (x y : Int) (hl : l.length = k) : (l ++ y :: List.replicate r 0).set k x = l ++ [x] ++ List.replicate r 0 := by
  subst hl
  simp
noncomputable def c11 : Code := (Try.f17.body).getD .skip
noncomputable def inv11 (N : Nat) : LInv := ⟨Nat, fun k => ⟨anyTo 19 [.int .i64 N, .any, .any, .slice 0 0 N N, .any, .any, .any, .any, .int .i64 N, .int .i64 k], [.seg true (.ints .u8 (pwS k ++ List.replicate (N - k) 0))]⟩, fun k => k ≤ N, fun k => N - k⟩
set_option maxRecDepth 100000 in
theorem powers_f (N : Nat) (hN : N ≤ 64) : Fits Try.prog 17 ⟨[.int .i64 N], [], [rowX 0 [] (pwS N) fun s => s]⟩ := by
  refine fits_of_body (C := cfgk 0) (c := c11) (ts := [2]) wtok wmixed (fun | 3 => some (inv11 N) | _ => none) (fun _ => none)
    Try.func17 (by kernel_rfl) (by kernel_rfl) (by kernel_rfl) (by kernel_rfl) rfl ?_
  conv => whnf
  refine ⟨⟨by omega, by omega, by show (1 : Int) * (N : Int) ≤ 281474976710656; omega, by omega⟩, ?_⟩
  conv => whnf
  refine ⟨⟨[0], (0 : Nat), ?_, Nat.zero_le _⟩, ?_⟩
  · conv => whnf
    repeat' (first | exact True.intro | rfl | refine And.intro ?_ ?_)
  · intro (k : Nat) (hk : k ≤ N)
    have hlen := pwS_len k
    have hp : pw 2 (((k : Int) % 255).toNat) = rp 2 k := by
      rw [show ((k : Int) % 255).toNat = k by omega]
      exact pw_rp (by omega)
    have hlt2 := rp_lt 2 k
    conv => whnf
    refine tst_in (fun hlt => ?_) (fun hge => ?_)
    · skip
      have hlt : k < N := by simp at hlt; omega
      conv => whnf
      refine ⟨_, [], Exp_q (k : Int), ?_⟩
      conv => whnf
      iterate 2
       refine And.intro ?_ ?_
       focus
        conv => whnf
        repeat' (first | exact True.intro | rfl | refine And.intro ?_ ?_ | omega)
        all_goals (conv => whnf)
        all_goals (try (first | rfl | omega | (simp; done)))
      conv => whnf
      rw [hp]
      conv => whnf
      have hcl : (pwS k ++ List.replicate (N - k) (0 : Int)).length = N := by simp [hlen]; omega
      refine ⟨by repeat' (first | omega | exact Int.natCast_nonneg _ | (simp only [i64max]; omega) | (simp only [u8max]; omega) | refine And.intro ?_ ?_), ?_⟩
      conv => whnf
      refine ⟨by repeat' (first | omega | exact Int.natCast_nonneg _ | (simp only [i64max]; omega) | (simp only [u8max]; omega) | refine And.intro ?_ ?_), ?_⟩
      conv => whnf
      refine ⟨by repeat' (first | omega | exact Int.natCast_nonneg _ | (simp only [i64max]; omega) | (simp only [u8max]; omega) | refine And.intro ?_ ?_), ?_⟩
      conv => whnf
      refine ⟨[0], k + 1, ?_, ?_, ?_⟩
      · conv => whnf
        repeat' (first | exact True.intro | rfl | refine And.intro ?_ ?_)
        all_goals first | rfl | skip
        show pwS (k + 1) ++ List.replicate (N - (k + 1)) 0 = (pwS k ++ List.replicate (N - k) 0).set (0 + ((k : Int)).toNat) ((rp 2 k : Nat) : Int)
        rw [show 0 + ((k : Int)).toNat = k by omega, show N - k = (N - (k + 1)) + 1 by omega, List.replicate_succ, set_fill _ _ _ _ _ hlen]
        rfl
      · show k + 1 ≤ N
        omega
      · show N - (k + 1) < N - k
        omega
    · skip
      have hge : k = N := by simp at hge; omega
      subst hge
      conv => whnf
      refine .inl ⟨(), [0], ?_⟩
      conv => whnf
      repeat' (first | exact True.intro | rfl | refine And.intro ?_ ?_)
      all_goals (show _ = _; first | rfl | (simp [hlen]; done) | (rw [hlen]; rfl))


theorem tmul_succ (f a b p : Nat) : tmul (f + 1) a b p = tmul f (ta a) (b / 2) (tp a b p) := rfl
noncomputable def M (x y : Int) : Int := ((T x.toNat y.toNat : Nat) : Int)
def X (a b : Int) : Int := ((a.toNat ^^^ b.toNat : Nat) : Int)
def inB (x : Int) : Prop := 0 ≤ x ∧ x < 256
theorem M_in (x y : Int) : inB (M x y) := by
  have := T_lt x.toNat y.toNat
  unfold inB M
  omega
theorem X_in {a b : Int} (ha : inB a) (hb : inB b) : inB (X a b) := by
  have : a.toNat ^^^ b.toNat < 256 := Nat.xor_lt_two_pow (n := 8) (by have := ha.1; have := ha.2; omega) (by have := hb.1; have := hb.2; omega)
  unfold inB X
  omega
theorem X_zero {a : Int} (h : 0 ≤ a) : X a 0 = a := by
  unfold X
  rw [show (0 : Int).toNat = 0 from rfl, Nat.xor_zero]; omega
theorem zero_X {a : Int} (h : 0 ≤ a) : X 0 a = a := by
  unfold X
  rw [show (0 : Int).toNat = 0 from rfl, Nat.zero_xor]; omega
theorem tmul_z : ∀ (f b : Nat), tmul f 0 b 0 = 0
  | 0, _ => rfl
  | f + 1, b => by
    have h1 : ta 0 = 0 := by decide
    have h2 : tp 0 b 0 = 0 := by
      show 0 ^^^ (0 &&& ((256 - b % 2) % 256)) = 0
      simp
    rw [tmul_succ, h1, h2]
    exact tmul_z f _
theorem M_zero (y : Int) : M 0 y = 0 := by
  unfold M
  rw [show (0 : Int).toNat = 0 from rfl]
  show ((tmul 8 0 y.toNat 0 : Nat) : Int) = 0
  rw [tmul_z]; rfl
theorem Times_i {x y : Int} (hx : inB x) (hy : inB y) : QFits Try.prog 20 ⟨[.int .u8 x, .int .u8 y], [], .int .u8 (M x y)⟩ := by
  have h := Times_q x.toNat y.toNat (by have := hx.1; have := hx.2; omega) (by have := hy.1; have := hy.2; omega)
  rw [show ((x.toNat : Nat) : Int) = x by have := hx.1; omega, show ((y.toNat : Nat) : Int) = y by have := hy.1; omega] at h
  exact h
theorem getD_set (l : List Int) (p i : Nat) (v : Int) (hp : p < l.length) : (l.set p v).getD i 0 = if i = p then v else l.getD i 0 := by
  rw [List.getD_eq_getElem?_getD, List.getD_eq_getElem?_getD, List.getElem?_set]
  by_cases h : i = p
  · subst h; simp [hp]
  · rw [if_neg (fun e => h e.symm), if_neg h]
theorem ext_getD {a b : List Int} (hl : a.length = b.length) (h : ∀ i, i < a.length → a.getD i 0 = b.getD i 0) : a = b := by
  apply List.ext_getElem hl
  intro i h1 h2
  have := h i h1
  rw [List.getD_eq_getElem?_getD, List.getD_eq_getElem?_getD, List.getElem?_eq_getElem h1, List.getElem?_eq_getElem h2] at this
  simpa using this
/-- The program's round: from the highest place down. -/
noncomputable def dn (r : Int) (l : List Int) (m : Nat) : Nat → List Int
  | 0 => l
  | j + 1 => (dn r l m j).set (m - j) (X ((dn r l m j).getD (m - j - 1) 0) (M ((dn r l m j).getD (m - j) 0) r))
theorem dn_len (r : Int) (l : List Int) (m : Nat) : ∀ j, (dn r l m j).length = l.length
  | 0 => rfl
  | j + 1 => by rw [dn, List.length_set, dn_len r l m j]
theorem dn_getD (r : Int) (l : List Int) (m : Nat) (hl : l.length = m + 1) : ∀ j, j ≤ m → ∀ i, (dn r l m j).getD i 0 = if m - j < i ∧ i ≤ m then X (l.getD (i - 1) 0) (M (l.getD i 0) r) else l.getD i 0
  | 0, _, i => by
    rw [if_neg (by omega)]; rfl
  | j + 1, hj, i => by
    rw [dn, getD_set _ _ _ _ (by rw [dn_len, hl]; omega)]
    have ih := dn_getD r l m hl j (by omega)
    by_cases h : i = m - j
    · rw [if_pos h, ih (m - j - 1), ih (m - j), if_neg (by omega), if_neg (by omega), if_pos (by omega), h]
    · rw [if_neg h, ih i]
      by_cases h2 : m - j < i ∧ i ≤ m
      · rw [if_pos h2, if_pos (by omega)]
      · rw [if_neg h2, if_neg (by omega)]
noncomputable def ofS (r : Int) (g : List Int) : List Int := (dn r (g ++ [0]) g.length g.length).set 0 (M ((dn r (g ++ [0]) g.length g.length).getD 0 0) r)
/-- The reference's round. -/
noncomputable def nx (x : Int) (g : List Int) : Nat → List Int
  | 0 => List.replicate (g.length + 1) 0
  | k + 1 => ((nx x g k).set (k + 1) (X ((nx x g k).getD (k + 1) 0) (g.getD k 0))).set k (X (((nx x g k).set (k + 1) (X ((nx x g k).getD (k + 1) 0) (g.getD k 0))).getD k 0) (M (g.getD k 0) x))
theorem nx_len (x : Int) (g : List Int) : ∀ k, (nx x g k).length = g.length + 1
  | 0 => by simp [nx]
  | k + 1 => by rw [nx, List.length_set, List.length_set, nx_len x g k]
theorem nx_getD (x : Int) (g : List Int) (hg : ∀ i, inB (g.getD i 0)) : ∀ k, k ≤ g.length → ∀ i, (nx x g k).getD i 0 = if i < k then X (if i = 0 then 0 else g.getD (i - 1) 0) (M (g.getD i 0) x) else if i = k ∧ 0 < k then g.getD (k - 1) 0 else 0
  | 0, _, i => by
    rw [if_neg (by omega), if_neg (by omega), nx, List.getD_eq_getElem?_getD, List.getElem?_replicate]
    split <;> rfl
  | k + 1, hk, i => by
    have ih := nx_getD x g hg k (by omega)
    rw [nx, getD_set _ _ _ _ (by rw [List.length_set, nx_len]; omega), getD_set _ _ _ _ (by rw [nx_len]; omega), getD_set _ _ _ _ (by rw [nx_len]; omega)]
    rw [ih (k + 1), ih k, ih i, if_neg (show ¬ k + 1 < k by omega), if_neg (show ¬ (k + 1 = k ∧ 0 < k) by omega), if_neg (show ¬ k < k by omega), if_neg (show ¬ k = k + 1 by omega), zero_X (hg k).1]
    by_cases h1 : i = k
    · subst h1
      by_cases h0 : i = 0
      · subst h0; simp
      · rw [if_pos rfl, if_pos (show i = i ∧ 0 < i from ⟨rfl, by omega⟩), if_pos (show i < i + 1 by omega), if_neg h0]
    · rw [if_neg h1]
      by_cases h2 : i = k + 1
      · subst h2
        rw [if_pos rfl, if_neg (by omega), if_pos (by omega)]; rfl
      · rw [if_neg h2]
        by_cases h3 : i < k
        · rw [if_pos h3, if_pos (show i < k + 1 by omega)]
        · rw [if_neg h3, if_neg (by omega), if_neg (by omega), if_neg (by omega)]
theorem getD_snoc (g : List Int) (i : Nat) : (g ++ [0]).getD i 0 = g.getD i 0 := by
  rw [List.getD_eq_getElem?_getD, List.getD_eq_getElem?_getD, List.getElem?_append]
  by_cases h : i < g.length
  · rw [if_pos h]
  · rw [if_neg h, List.getElem?_eq_none (show g.length ≤ i by omega)]
    cases hh : i - g.length with
    | zero => simp
    | succ n => simp
theorem ofS_len (r : Int) (g : List Int) : (ofS r g).length = g.length + 1 := by
  unfold ofS; rw [List.length_set, dn_len]; simp
/-- Both rounds tell the same polynomial. -/
theorem rounds (r : Int) (g : List Int) (hg : ∀ i, inB (g.getD i 0)) : nx r g g.length = ofS r g := by
  apply ext_getD (by rw [nx_len, ofS_len])
  intro i hi
  rw [nx_len] at hi
  rw [nx_getD r g hg g.length (Nat.le_refl _) i]
  unfold ofS
  have hd := dn_getD r (g ++ [0]) g.length (by simp) g.length (Nat.le_refl _)
  rw [getD_set _ _ _ _ (by rw [dn_len]; simp), hd 0, hd i, if_neg (show ¬ (g.length - g.length < 0 ∧ 0 ≤ g.length) by omega), getD_snoc, getD_snoc, getD_snoc]
  by_cases h0 : i = 0
  · subst h0
    rw [if_pos rfl]
    by_cases h1 : 0 < g.length
    · rw [if_pos h1, if_pos rfl, zero_X (M_in _ _).1]
    · rw [if_neg h1, if_neg (by omega)]
      have : g = [] := List.eq_nil_of_length_eq_zero (by omega)
      subst this
      exact (M_zero r).symm
  · rw [if_neg h0, if_pos (show g.length - g.length < i ∧ i ≤ g.length by omega)]
    by_cases h1 : i < g.length
    · rw [if_pos h1, if_neg h0]
    · have e : i = g.length := by omega
      rw [if_neg h1, if_pos (by omega), ← e]
      have hz : g.getD i 0 = 0 := by
        rw [List.getD_eq_getElem?_getD, List.getElem?_eq_none (by omega)]; rfl
      rw [hz, M_zero, X_zero (hg (i - 1)).1, if_neg h0]
theorem ofS_in (r : Int) (g : List Int) (hg : ∀ i, inB (g.getD i 0)) : ∀ i, inB ((ofS r g).getD i 0) := by
  intro i
  rw [← rounds r g hg, nx_getD r g hg g.length (Nat.le_refl _) i]
  split
  · refine X_in ?_ (M_in _ _)
    split
    · exact ⟨by decide, by decide⟩
    · exact hg _
  · split
    · exact hg _
    · exact ⟨by decide, by decide⟩
noncomputable def gen : Nat → List Int
  | 0 => [1]
  | k + 1 => ofS ((rp 2 k : Nat) : Int) (gen k)
theorem gen_len : ∀ k, (gen k).length = k + 1
  | 0 => rfl
  | k + 1 => by rw [gen, ofS_len, gen_len k]
theorem gen_in : ∀ k i, inB ((gen k).getD i 0)
  | 0, i => by
    show inB (([1] : List Int).getD i 0)
    cases i with
    | zero => exact ⟨by decide, by decide⟩
    | succ i => simp [inB]
  | k + 1, i => ofS_in _ _ (gen_in k) i


noncomputable def c15 : Code := (Try.f21.body).getD .skip
noncomputable def inv15 (N : Nat) : LInv := ⟨Nat × List Int, fun p => ⟨anyTo 53 [.slice 0 0 N N, .any, .any, .slice 1 0 (p.1 + 1) (p.1 + 1 + p.2.length), .any, .any, .any, .any, .any, .any, .any, .any, .any, .slice 0 0 N N, .int .i64 N, .int .i64 p.1], [.seg false (.ints .u8 (pwS N)), .seg true (.ints .u8 (gen p.1 ++ p.2))]⟩, fun p => p.1 ≤ N, fun p => N - p.1⟩
def natAt (st : St) (t : Nat) : Nat := match slot st.sl t with | .int _ n => n.toNat | _ => 0
noncomputable def inv15b (N : Nat) (st : St) : LInv := ⟨Nat × List Int, fun p => ⟨anyTo 53 [.slice 0 0 N N, .any, .any, .slice 1 0 (natAt st 15 + 2) (natAt st 15 + 2 + p.2.length), .any, .int .u8 (rp 2 (natAt st 15) : Nat), .int .i64 ((natAt st 15 : Nat) + 1 - (p.1 : Int)), .any, .any, .any, .any, .any, .any, .slice 0 0 N N, .int .i64 N, .int .i64 (natAt st 15 : Nat)], [.seg false (.ints .u8 (pwS N)), .seg true (.ints .u8 (dn ((rp 2 (natAt st 15) : Nat) : Int) (gen (natAt st 15) ++ [0]) (natAt st 15 + 1) p.1 ++ p.2))]⟩, fun p => p.1 ≤ natAt st 15 + 1, fun p => natAt st 15 + 1 - p.1⟩
def plan15 : PlanL := .lin [0, 1, 2, 3, 7, 8, 9, 10, 11] (.alt 4 (.alt 5 (.alt 6 (.lin [12, 13, 14, 15] .done) (.alt 12 (.lin [6, 13, 14, 15] .done) .fin)) (.alt 12 (.lin [5, 6, 13, 14, 15] .done) .fin)) (.alt 12 (.lin [4, 5, 6, 13, 14, 15] .done) .fin))
noncomputable def cfg15 (N : Nat) : Cfg := { cfgk 1 with dep := fun | 8 => some (inv15b N) | _ => none, plan := fun i => match Nat.beq i 10 with | true => some plan15 | false => none }
theorem pwS_getD {k : Nat} : ∀ {N : Nat}, k < N → (pwS N).getD k 0 = ((rp 2 k : Nat) : Int)
  | 0, h => by omega
  | N + 1, h => by
    rw [pwS, List.getD_eq_getElem?_getD, List.getElem?_append, pwS_len]
    by_cases h1 : k < N
    · rw [if_pos h1, ← List.getD_eq_getElem?_getD]
      exact pwS_getD h1
    · have : k = N := by omega
      subst this
      simp
set_option maxRecDepth 100000 in
theorem of_f (N : Nat) (hN : N ≤ 64) : Fits Try.prog 21 ⟨[.slice 0 0 N N], [.seg false (.ints .u8 (pwS N))], [rowI 1 [.dead] (gen N) fun s => s]⟩ := by
  refine fits_of_body (C := cfg15 N) (c := c15) (ts := [2]) wtok wmixed (fun | 4 => some (inv15 N) | _ => none) (fun _ => none)
    Try.func21 (by kernel_rfl) (by kernel_rfl) (by kernel_rfl) (by kernel_rfl) rfl ?_
  conv => whnf
  refine ⟨by omega, ?_⟩
  refine ⟨⟨by decide, by omega, by show (1 : Int) * ((N : Int) + 1) ≤ 281474976710656; omega, by omega⟩, ?_⟩
  conv => whnf
  have hN1 : ((N : Int) + 1).toNat = N + 1 := by omega
  rw [hN1]
  refine ⟨by repeat' (first | omega | exact Int.natCast_nonneg _ | (simp only [i64max]; omega) | (simp only [u8max]; omega) | refine And.intro ?_ ?_), ?_⟩
  conv => whnf
  refine ⟨by show 0 + Int.toNat 0 < (List.replicate (N + 1) (0 : Int)).length; rw [List.length_replicate]; show 0 + 0 < N + 1; omega, ?_⟩
  conv => whnf
  refine ⟨⟨[0, 1], ((0, List.replicate N 0) : Nat × List Int), ?_, Nat.zero_le _⟩, ?_⟩
  · conv => whnf
    repeat' (first | exact True.intro | rfl | refine And.intro ?_ ?_)
    all_goals (conv => whnf)
    all_goals (show 0 + 1 + (List.replicate N (0 : Int)).length = N + 1; rw [List.length_replicate]; omega)
  · rintro ⟨k, tl⟩ hk
    have hk : k ≤ N := hk
    have hlen := gen_len k
    show forceSt ⟨anyTo 53 [.slice 0 0 N N, .any, .any, .slice 1 0 (k + 1) (k + 1 + tl.length), .any, .any, .any, .any, .any, .any, .any, .any, .any, .slice 0 0 N N, .int .i64 N, .int .i64 k], [.seg false (.ints .u8 (pwS N)), .seg true (.ints .u8 (gen k ++ tl))]⟩ _
    conv => whnf
    refine tst_in (fun hlt => ?_) (fun hge => ?_)
    · skip
      have hlt : k < N := by simp at hlt; omega
      have hX : 0 + ((k : Int)).toNat = k := by omega
      have hg := pwS_getD hlt
      have hpl := pwS_len N
      conv => whnf
      refine ⟨by repeat' (first | omega | exact Int.natCast_nonneg _ | (simp only [i64max]; omega) | (simp only [u8max]; omega) | refine And.intro ?_ ?_), ?_⟩
      conv => whnf
      refine ⟨by repeat' (first | omega | exact Int.natCast_nonneg _ | (simp only [i64max]; omega) | (simp only [u8max]; omega) | refine And.intro ?_ ?_), ?_⟩
      conv => whnf
      rw [hX, hg]
      conv => whnf
      repeat (refine And.intro ?_ ?_; (focus (first | omega | ((conv => whnf); omega) | (simp [mulSz, Cont.len]; done) | (simp [mulSz, Cont.len]; omega))); conv => whnf)
      intro (tl2 : List Int)
      conv => whnf
      repeat (refine And.intro ?_ ?_; (focus (first | omega | ((conv => whnf); omega) | (simp [mulSz, Cont.len]; done) | (simp [mulSz, Cont.len]; omega))); conv => whnf)
      refine ⟨⟨[0, 3], ((0, tl2) : Nat × List Int), ?_, Nat.zero_le _⟩, ?_⟩
      · conv => whnf
        repeat' (first | exact True.intro | rfl | refine And.intro ?_ ?_)
        all_goals (conv => whnf)
        · show ((k : Nat) : Int) + 1 - ((0 : Nat) : Int) = ((k + 1 + 1 : Nat) : Int) - 1
          omega
        · show gen k ++ [0] ++ tl2 = (List.take (k + 1) (gen k ++ tl) ++ [0]) ++ tl2
          rw [List.take_append_of_le_length (by omega), List.take_of_length_le (by omega)]
      · have hk1 : k < N := hlt
        clear hlt
        rintro ⟨j, tl3⟩ hj
        have hj : j ≤ k + 1 := hj
        have hdl := dn_len ((rp 2 k : Nat) : Int) (gen k ++ [0]) (k + 1) j
        have hdg := dn_getD ((rp 2 k : Nat) : Int) (gen k ++ [0]) (k + 1) (by simp [hlen]) j hj
        have hds : dn ((rp 2 k : Nat) : Int) (gen k ++ [0]) (k + 1) (j + 1) = (dn ((rp 2 k : Nat) : Int) (gen k ++ [0]) (k + 1) j).set (k + 1 - j) (X ((dn ((rp 2 k : Nat) : Int) (gen k ++ [0]) (k + 1) j).getD (k + 1 - j - 1) 0) (M ((dn ((rp 2 k : Nat) : Int) (gen k ++ [0]) (k + 1) j).getD (k + 1 - j) 0) ((rp 2 k : Nat) : Int))) := rfl
        rw [List.length_append, hlen] at hdl
        show forceSt ⟨anyTo 53 [.slice 0 0 N N, .any, .any, .slice 1 0 (k + 2) (k + 2 + tl3.length), .any, .int .u8 (rp 2 k : Nat), .int .i64 ((k : Nat) + 1 - (j : Int)), .any, .any, .any, .any, .any, .any, .slice 0 0 N N, .int .i64 N, .int .i64 (k : Nat)], [.seg false (.ints .u8 (pwS N)), .seg true (.ints .u8 (dn ((rp 2 k : Nat) : Int) (gen k ++ [0]) (k + 1) j ++ tl3))]⟩ _
        generalize hD : dn ((rp 2 k : Nat) : Int) (gen k ++ [0]) (k + 1) j = D at *
        have hdl : D.length = k + 2 := hdl
        have hr : inB ((rp 2 k : Nat) : Int) := by have := rp_lt 2 k; unfold inB; omega
        have hDin : ∀ i, inB (D.getD i 0) := by
          intro i
          rw [hdg i]
          split
          · rw [getD_snoc, getD_snoc]
            exact X_in (gen_in k _) (M_in _ _)
          · rw [getD_snoc]
            exact gen_in k i
        have happ : ∀ i, i < k + 2 → (D ++ tl3).getD i 0 = D.getD i 0 := by
          intro i hi
          rw [List.getD_eq_getElem?_getD, List.getD_eq_getElem?_getD, List.getElem?_append_left (by omega)]
        have hlen2 : (D ++ tl3).length = k + 2 + tl3.length := by rw [List.length_append, hdl]
        conv => whnf
        refine tst_in (fun hlt => ?_) (fun hge => ?_)
        · skip
          have hlt : j < k + 1 := by simp at hlt; omega
          obtain ⟨p, hp⟩ : ∃ p, k + 1 - j = p + 1 := ⟨k - j, by omega⟩
          rw [hp, Nat.add_sub_cancel] at hds
          have hI : ((k : Int) + 1 - (j : Int)) = ((p + 1 : Nat) : Int) := by omega
          rw [hI]
          have hX1 : 0 + (((p + 1 : Nat) : Int)).toNat = p + 1 := by omega
          have hX2 : 0 + (((p + 1 : Nat) : Int) - 1).toNat = p := by omega
          have ha1 := happ (p + 1) (by omega)
          have ha2 := happ p (by omega)
          have hi1 := hDin (p + 1)
          have hi2 := hDin p
          conv => whnf
          refine ⟨by repeat' (first | omega | exact Int.natCast_nonneg _ | (simp only [i64max]; omega) | (simp only [u8max]; omega) | refine And.intro ?_ ?_), ?_⟩
          conv => whnf
          refine ⟨by repeat' (first | omega | exact Int.natCast_nonneg _ | (simp only [i64max]; omega) | (simp only [u8max]; omega) | refine And.intro ?_ ?_), ?_⟩
          conv => whnf
          rw [hX1, ha1]
          have hm := M_in (D.getD (p + 1) 0) ((rp 2 k : Nat) : Int)
          have hxr : 0 ≤ D.getD p 0 ∧ 0 ≤ M (D.getD (p + 1) 0) ((rp 2 k : Nat) : Int) ∧ D.getD p 0 ≤ IntKind.u8.max ∧ M (D.getD (p + 1) 0) ((rp 2 k : Nat) : Int) ≤ IntKind.u8.max := by
            have := hi2.1; have := hi2.2; have := hm.1; have := hm.2; rw [u8max]; omega
          refine ⟨?_, ?_⟩
          · conv => whnf
            refine ⟨by repeat' (first | omega | exact Int.natCast_nonneg _ | (simp only [i64max]; omega) | (simp only [u8max]; omega) | refine And.intro ?_ ?_), ?_⟩
            conv => whnf
            refine ⟨?_, ?_⟩
            · conv => whnf
              refine ⟨by repeat' (first | omega | exact Int.natCast_nonneg _ | (simp only [i64max]; omega) | (simp only [u8max]; omega) | refine And.intro ?_ ?_), ?_⟩
              conv => whnf
              refine ⟨?_, ?_⟩
              · conv => whnf
                refine ⟨by repeat' (first | omega | exact Int.natCast_nonneg _ | (simp only [i64max]; omega) | (simp only [u8max]; omega) | refine And.intro ?_ ?_), ?_⟩
                conv => whnf
                rw [hX2, ha2]
                refine ⟨_, [], Times_i hi1 hr, ?_⟩
                conv => whnf
                iterate 2
                 refine And.intro ?_ ?_
                 focus
                  conv => whnf
                  repeat' (first | exact True.intro | rfl | refine And.intro ?_ ?_ | omega)
                  all_goals (conv => whnf)
                  all_goals (try (first | rfl | omega | (simp; done)))
                conv => whnf
                refine ⟨hxr, ?_⟩
                conv => whnf
                refine ⟨by repeat' (first | omega | exact Int.natCast_nonneg _ | (simp only [i64max]; omega) | (simp only [u8max]; omega) | refine And.intro ?_ ?_), ?_⟩
                conv => whnf
                refine ⟨by repeat' (first | omega | exact Int.natCast_nonneg _ | (simp only [i64max]; omega) | (simp only [u8max]; omega) | refine And.intro ?_ ?_), ?_⟩
                conv => whnf
                refine ⟨by repeat' (first | omega | exact Int.natCast_nonneg _ | (simp only [i64max]; omega) | (simp only [u8max]; omega) | refine And.intro ?_ ?_), ?_⟩
                conv => whnf
                refine ⟨[0, 1], ((j + 1, tl3) : Nat × List Int), ?_, ?_, ?_⟩
                · conv => whnf
                  repeat' (first | exact True.intro | rfl | refine And.intro ?_ ?_)
                  all_goals (conv => whnf)
                  · show ((k : Nat) : Int) + 1 - ((j + 1 : Nat) : Int) = ((p + 1 : Nat) : Int) - 1
                    omega
                  · show dn ((rp 2 k : Nat) : Int) (gen k ++ [0]) (k + 1) (j + 1) ++ tl3 = (D ++ tl3).set (0 + (((p + 1 : Nat) : Int)).toNat) (X (D.getD p 0) (M (D.getD (p + 1) 0) ((rp 2 k : Nat) : Int)))
                    rw [hX1, hds, List.set_append_left _ _ (by omega)]
                · show j + 1 ≤ k + 1
                  omega
                · show k + 1 - (j + 1) < k + 1 - j
                  omega
              · refine ⟨?_, True.intro⟩
                conv => whnf
                refine ⟨_, [], Times_i hi1 hr, ?_⟩
                conv => whnf
                iterate 2
                 refine And.intro ?_ ?_
                 focus
                  conv => whnf
                  repeat' (first | exact True.intro | rfl | refine And.intro ?_ ?_ | omega)
                  all_goals (conv => whnf)
                  all_goals (try (first | rfl | omega | (simp; done)))
                conv => whnf
                refine ⟨by repeat' (first | omega | exact Int.natCast_nonneg _ | (simp only [i64max]; omega) | (simp only [u8max]; omega) | refine And.intro ?_ ?_), ?_⟩
                conv => whnf
                rw [hX2, ha2]
                refine ⟨hxr, ?_⟩
                conv => whnf
                refine ⟨by repeat' (first | omega | exact Int.natCast_nonneg _ | (simp only [i64max]; omega) | (simp only [u8max]; omega) | refine And.intro ?_ ?_), ?_⟩
                conv => whnf
                refine ⟨by repeat' (first | omega | exact Int.natCast_nonneg _ | (simp only [i64max]; omega) | (simp only [u8max]; omega) | refine And.intro ?_ ?_), ?_⟩
                conv => whnf
                refine ⟨by repeat' (first | omega | exact Int.natCast_nonneg _ | (simp only [i64max]; omega) | (simp only [u8max]; omega) | refine And.intro ?_ ?_), ?_⟩
                conv => whnf
                refine ⟨[0, 1], ((j + 1, tl3) : Nat × List Int), ?_, ?_, ?_⟩
                · conv => whnf
                  repeat' (first | exact True.intro | rfl | refine And.intro ?_ ?_)
                  all_goals (conv => whnf)
                  · show ((k : Nat) : Int) + 1 - ((j + 1 : Nat) : Int) = ((p + 1 : Nat) : Int) - 1
                    omega
                  · show dn ((rp 2 k : Nat) : Int) (gen k ++ [0]) (k + 1) (j + 1) ++ tl3 = (D ++ tl3).set (0 + (((p + 1 : Nat) : Int)).toNat) (X (D.getD p 0) (M (D.getD (p + 1) 0) ((rp 2 k : Nat) : Int)))
                    rw [hX1, hds, List.set_append_left _ _ (by omega)]
                · show j + 1 ≤ k + 1
                  omega
                · show k + 1 - (j + 1) < k + 1 - j
                  omega
            · refine ⟨?_, True.intro⟩
              conv => whnf
              refine ⟨_, [], Times_i hi1 hr, ?_⟩
              conv => whnf
              iterate 2
               refine And.intro ?_ ?_
               focus
                conv => whnf
                repeat' (first | exact True.intro | rfl | refine And.intro ?_ ?_ | omega)
                all_goals (conv => whnf)
                all_goals (try (first | rfl | omega | (simp; done)))
              conv => whnf
              refine ⟨by repeat' (first | omega | exact Int.natCast_nonneg _ | (simp only [i64max]; omega) | (simp only [u8max]; omega) | refine And.intro ?_ ?_), ?_⟩
              conv => whnf
              refine ⟨by repeat' (first | omega | exact Int.natCast_nonneg _ | (simp only [i64max]; omega) | (simp only [u8max]; omega) | refine And.intro ?_ ?_), ?_⟩
              conv => whnf
              rw [hX2, ha2]
              refine ⟨hxr, ?_⟩
              conv => whnf
              refine ⟨by repeat' (first | omega | exact Int.natCast_nonneg _ | (simp only [i64max]; omega) | (simp only [u8max]; omega) | refine And.intro ?_ ?_), ?_⟩
              conv => whnf
              refine ⟨by repeat' (first | omega | exact Int.natCast_nonneg _ | (simp only [i64max]; omega) | (simp only [u8max]; omega) | refine And.intro ?_ ?_), ?_⟩
              conv => whnf
              refine ⟨by repeat' (first | omega | exact Int.natCast_nonneg _ | (simp only [i64max]; omega) | (simp only [u8max]; omega) | refine And.intro ?_ ?_), ?_⟩
              conv => whnf
              refine ⟨[0, 1], ((j + 1, tl3) : Nat × List Int), ?_, ?_, ?_⟩
              · conv => whnf
                repeat' (first | exact True.intro | rfl | refine And.intro ?_ ?_)
                all_goals (conv => whnf)
                · show ((k : Nat) : Int) + 1 - ((j + 1 : Nat) : Int) = ((p + 1 : Nat) : Int) - 1
                  omega
                · show dn ((rp 2 k : Nat) : Int) (gen k ++ [0]) (k + 1) (j + 1) ++ tl3 = (D ++ tl3).set (0 + (((p + 1 : Nat) : Int)).toNat) (X (D.getD p 0) (M (D.getD (p + 1) 0) ((rp 2 k : Nat) : Int)))
                  rw [hX1, hds, List.set_append_left _ _ (by omega)]
              · show j + 1 ≤ k + 1
                omega
              · show k + 1 - (j + 1) < k + 1 - j
                omega
          · refine ⟨?_, True.intro⟩
            conv => whnf
            refine ⟨_, [], Times_i hi1 hr, ?_⟩
            conv => whnf
            iterate 2
             refine And.intro ?_ ?_
             focus
              conv => whnf
              repeat' (first | exact True.intro | rfl | refine And.intro ?_ ?_ | omega)
              all_goals (conv => whnf)
              all_goals (try (first | rfl | omega | (simp; done)))
            conv => whnf
            refine ⟨by repeat' (first | omega | exact Int.natCast_nonneg _ | (simp only [i64max]; omega) | (simp only [u8max]; omega) | refine And.intro ?_ ?_), ?_⟩
            conv => whnf
            refine ⟨by repeat' (first | omega | exact Int.natCast_nonneg _ | (simp only [i64max]; omega) | (simp only [u8max]; omega) | refine And.intro ?_ ?_), ?_⟩
            conv => whnf
            refine ⟨by repeat' (first | omega | exact Int.natCast_nonneg _ | (simp only [i64max]; omega) | (simp only [u8max]; omega) | refine And.intro ?_ ?_), ?_⟩
            conv => whnf
            rw [hX2, ha2]
            refine ⟨hxr, ?_⟩
            conv => whnf
            refine ⟨by repeat' (first | omega | exact Int.natCast_nonneg _ | (simp only [i64max]; omega) | (simp only [u8max]; omega) | refine And.intro ?_ ?_), ?_⟩
            conv => whnf
            refine ⟨by repeat' (first | omega | exact Int.natCast_nonneg _ | (simp only [i64max]; omega) | (simp only [u8max]; omega) | refine And.intro ?_ ?_), ?_⟩
            conv => whnf
            refine ⟨by repeat' (first | omega | exact Int.natCast_nonneg _ | (simp only [i64max]; omega) | (simp only [u8max]; omega) | refine And.intro ?_ ?_), ?_⟩
            conv => whnf
            refine ⟨[0, 1], ((j + 1, tl3) : Nat × List Int), ?_, ?_, ?_⟩
            · conv => whnf
              repeat' (first | exact True.intro | rfl | refine And.intro ?_ ?_)
              all_goals (conv => whnf)
              · show ((k : Nat) : Int) + 1 - ((j + 1 : Nat) : Int) = ((p + 1 : Nat) : Int) - 1
                omega
              · show dn ((rp 2 k : Nat) : Int) (gen k ++ [0]) (k + 1) (j + 1) ++ tl3 = (D ++ tl3).set (0 + (((p + 1 : Nat) : Int)).toNat) (X (D.getD p 0) (M (D.getD (p + 1) 0) ((rp 2 k : Nat) : Int)))
                rw [hX1, hds, List.set_append_left _ _ (by omega)]
            · show j + 1 ≤ k + 1
              omega
            · show k + 1 - (j + 1) < k + 1 - j
              omega
        · skip
          have hge : j = k + 1 := by simp at hge; omega
          subst hge
          have hgen : gen (k + 1) = D.set 0 (M (D.getD 0 0) ((rp 2 k : Nat) : Int)) := by
            show ofS ((rp 2 k : Nat) : Int) (gen k) = _
            unfold ofS
            rw [hlen, hD]
          have ha0 := happ 0 (by omega)
          have hi0 := hDin 0
          have hZ : 0 + Int.toNat 0 = 0 := rfl
          conv => whnf
          refine ⟨by repeat' (first | omega | exact Int.natCast_nonneg _ | (simp only [i64max]; omega) | (simp only [u8max]; omega) | refine And.intro ?_ ?_), ?_⟩
          conv => whnf
          refine ⟨by repeat' (first | omega | exact Int.natCast_nonneg _ | (simp only [i64max]; omega) | (simp only [u8max]; omega) | refine And.intro ?_ ?_), ?_⟩
          conv => whnf
          rw [hZ, ha0]
          refine ⟨_, [], Times_i hi0 hr, ?_⟩
          conv => whnf
          iterate 2
           refine And.intro ?_ ?_
           focus
            conv => whnf
            repeat' (first | exact True.intro | rfl | refine And.intro ?_ ?_ | omega)
            all_goals (conv => whnf)
            all_goals (try (first | rfl | omega | (simp; done)))
          conv => whnf
          refine ⟨by repeat' (first | omega | exact Int.natCast_nonneg _ | (simp only [i64max]; omega) | (simp only [u8max]; omega) | refine And.intro ?_ ?_), ?_⟩
          conv => whnf
          refine ⟨by repeat' (first | omega | exact Int.natCast_nonneg _ | (simp only [i64max]; omega) | (simp only [u8max]; omega) | refine And.intro ?_ ?_), ?_⟩
          conv => whnf
          refine ⟨by repeat' (first | omega | exact Int.natCast_nonneg _ | (simp only [i64max]; omega) | (simp only [u8max]; omega) | refine And.intro ?_ ?_), ?_⟩
          conv => whnf
          refine ⟨[0, 1], ((k + 1, tl3) : Nat × List Int), ?_, ?_, ?_⟩
          · conv => whnf
            repeat' (first | exact True.intro | rfl | refine And.intro ?_ ?_)
            all_goals (conv => whnf)
            all_goals (show gen (k + 1) ++ tl3 = (D ++ tl3).set 0 (M (D.getD 0 0) ((rp 2 k : Nat) : Int)); rw [hgen, List.set_append_left _ _ (by omega)])
          · show k + 1 ≤ N
            omega
          · show N - (k + 1) < N - k
            omega
    · skip
      have hge : k = N := by simp at hge; omega
      subst hge
      conv => whnf
      refine .inl ⟨tl, [0, 1], ?_⟩
      conv => whnf
      repeat' (first | exact True.intro | rfl | refine And.intro ?_ ?_)
      all_goals first | exact hlen | (show (gen k).length + tl.length = k + 1 + tl.length; rw [hlen]) | skip


noncomputable def c10 : Code := (Try.f16.body).getD .skip
set_option maxRecDepth 100000 in
theorem Of_f (N : Nat) (hN : N ≤ 64) : Fits Try.prog 16 ⟨[.slice 0 0 N N], [.seg false (.ints .u8 (pwS N))], [rowI 1 [.dead] (gen N) fun s => .tup [s, .int .i64 0]]⟩ := by
  refine fits_of_body (C := cfgk 1) (c := c10) (ts := [2, 3]) wtok wmixed (fun _ => none) (fun _ => none)
    Try.func16 (by kernel_rfl) (by kernel_rfl) (by kernel_rfl) (by kernel_rfl) rfl ?_
  conv => whnf
  refine tst_in (fun h_ => False.elim (by simp at h_ <;> omega)) (fun _ => ?_)
  conv => whnf
  refine ⟨_, [0], of_f N hN, ?_⟩
  conv => whnf
  refine ⟨?_, ?_, ?_⟩
  · conv => whnf
    repeat' (first | exact True.intro | rfl | refine And.intro ?_ ?_)
  · conv => whnf
    repeat' (first | exact True.intro | rfl | refine And.intro ?_ ?_)
  conv => whnf
  refine ⟨?_, True.intro⟩
  intro (tl : List Int) _
  conv => whnf
  refine .inl ⟨tl, [0, 1], ?_⟩
  conv => whnf
  repeat' (first | exact True.intro | rfl | refine And.intro ?_ ?_)
noncomputable def c4 : Code := (Try.f8.body).getD .skip
set_option maxRecDepth 100000 in
theorem Gen_ok (N : Nat) (h : okR (N : Int) = true) : Fits Try.prog 8 ⟨[.int .i64 N], [], [rowI 0 [] (gen N) fun s => .tup [s, .int .i64 0]]⟩ := by
  have hN : N ≤ 64 := by have := (okR_iff.1 h).2.1; omega
  have hP : Fits Try.prog 17 ⟨[.int .i64 N], [], [⟨Unit, fun _ => True, fun _ => .slice 0 0 N N, fun _ => [.seg true (.ints .u8 (pwS N))]⟩]⟩ := by
    have h0 := powers_f N hN
    simp only [rowX, pwS_len, List.nil_append] at h0
    exact h0
  refine fits_of_body (C := cfgk 0) (c := c4) (ts := [2, 3]) wtok wmixed (fun _ => none) (fun _ => none)
    Try.func8 (by kernel_rfl) (by kernel_rfl) (by kernel_rfl) (by kernel_rfl) rfl ?_
  conv => whnf
  refine ⟨_, [], areChecks_q (N : Int), ?_⟩
  conv => whnf
  iterate 2
   refine And.intro ?_ ?_
   focus
    conv => whnf
    repeat' (first | exact True.intro | rfl | refine And.intro ?_ ?_ | omega)
    all_goals (conv => whnf)
    all_goals (try (first | rfl | omega | (simp; done)))
  conv => whnf
  rw [h]
  conv => whnf
  refine ⟨_, [], hP, ?_⟩
  conv => whnf
  refine ⟨?_, ?_, ?_⟩
  · conv => whnf
    repeat' (first | exact True.intro | rfl | refine And.intro ?_ ?_)
  · conv => whnf
    repeat' (first | exact True.intro | rfl | refine And.intro ?_ ?_)
  conv => whnf
  refine ⟨?_, True.intro⟩
  intro _ _
  conv => whnf
  refine ⟨_, [0], Of_f N hN, ?_⟩
  conv => whnf
  refine ⟨?_, ?_, ?_⟩
  · conv => whnf
    repeat' (first | exact True.intro | rfl | refine And.intro ?_ ?_)
  · conv => whnf
    repeat' (first | exact True.intro | rfl | refine And.intro ?_ ?_)
  conv => whnf
  refine ⟨?_, True.intro⟩
  intro (tl : List Int) _
  conv => whnf
  refine .inl ⟨tl, [1], ?_⟩
  conv => whnf
  repeat' (first | exact True.intro | rfl | refine And.intro ?_ ?_)
def rv (F : Nat → Int) (n : Nat) (i k : Nat) : Int := if k < i ∨ n - 1 - i < k then F (n - 1 - k) else F k
noncomputable def c35 : Code := (Try.f18.body).getD .skip
def st35 (F : Nat → Int) (n c : Nat) (tl : List Int) (i : Nat) : St := ⟨slotsAt 28 [(0, .slice 0 0 n c), (2, .int .i64 i), (3, .int .i64 ((n : Int) - 1 - i))], [.seg true (.ints .u8 (tb (rv F n i) n ++ tl))]⟩
def inv35 (F : Nat → Int) (n c : Nat) (tl : List Int) : LInv := ⟨Nat, fun i => st35 F n c tl i, fun i => 2 * i ≤ n + 1, fun i => n + 1 - 2 * i⟩
def cfg35 : Cfg := { cfgN 1 with plan := fun | 3 => some (.lin [0, 1, 2, 3, 4, 5, 6, 7, 8, 9, 10, 11, 12, 13, 14, 15] .done) | _ => none }
theorem rv_swap (F : Nat → Int) (n i : Nat) (tl : List Int) (h : 2 * i < n - 1) :
    ((tb (rv F n i) n ++ tl).set i (F (n - 1 - i))).set (n - 1 - i) (F i) = tb (rv F n (i + 1)) n ++ tl := by
  rw [List.set_append_left _ _ (by rw [tab_len]; omega), List.set_append_left _ _ (by rw [List.length_set, tab_len]; omega)]
  congr 1
  apply row_ext 0 (by simp [tab_len])
  intro k hk
  rw [List.length_set, List.length_set, tab_len] at hk
  rw [g_set, g_set, tab_get _ _ hk, tab_get _ _ hk, List.length_set, tab_len]
  unfold rv
  by_cases h1 : n - 1 - i = k
  · rw [if_pos ⟨h1, by omega⟩, if_pos (by omega)]
    congr 1; omega
  · rw [if_neg (fun q => h1 q.1)]
    by_cases h2 : i = k
    · rw [if_pos ⟨h2, by omega⟩, if_pos (by omega), h2]
    · rw [if_neg (fun q => h2 q.1)]
      by_cases h3 : k < i ∨ n - 1 - i < k
      · rw [if_pos h3, if_pos (by omega)]
      · rw [if_neg h3, if_neg (by omega)]
set_option maxHeartbeats 0 in
set_option maxRecDepth 100000 in
theorem Rev_f (F : Nat → Int) (n c : Nat) (tl : List Int) (hc : n ≤ c) (hn : n ≤ 140737488355328) :
    Fits Try.prog 18 ⟨[.slice 0 0 n c], [.seg true (.ints .u8 (tb F n ++ tl))], [numOut [.seg true (.ints .u8 (tb (fun k => F (n - 1 - k)) n ++ tl))] (.tup [])]⟩ := by
  refine fits_of_body (C := cfg35) (c := c35) (ts := []) tokL mixedL (fun | 1 => some (inv35 F n c tl) | _ => none) (fun _ => none)
    Try.func18 (by kernel_rfl) (by kernel_rfl) (by kernel_rfl) (by kernel_rfl) rfl ?_
  conv => whnf
  repeat (first
    | (refine And.intro ?_ ?_; (focus (first | omega | decide | exact EqOk.mk (by kernel_rfl) (by kernel_rfl) (by kernel_rfl) | exact Int.natCast_nonneg _ | ((repeat' refine And.intro ?_ ?_) <;> first | omega | exact Int.natCast_nonneg _ | (simp only [i64max, u8max, u16max, u32max, u64max]; omega) | (simp only [mulSz_eq, Cont.len, colsLen, Col.len, List.length_cons, List.length_nil, List.length_replicate, List.length_append]; first | done | omega) | (simp [mulSz, Cont.len, bne]; first | done | omega)))); conv => whnf)
    | (refine tst_in ?_ ?_; (focus (intro h_; exfalso; first | omega | ((try simp only [decide_eq_true_eq, decide_eq_false_iff_not] at h_); omega) | (simp [mulSz, Cont.len, bne] at h_; first | done | omega))); intro _; conv => whnf)
    | (refine tst_in ?_ ?_; rotate_left; (focus (intro h_; exfalso; first | omega | ((try simp only [decide_eq_true_eq, decide_eq_false_iff_not] at h_); omega) | (simp [mulSz, Cont.len, bne] at h_; first | done | omega))); intro _; conv => whnf)
    | (refine ⟨0, (show _ = _ by omega), ?_⟩; conv => whnf))
  refine ⟨⟨[0], (0 : Nat), ?_, (by show 2 * 0 ≤ n + 1; omega)⟩, ?_⟩
  · show stLe _ _ (st35 F n c tl 0) _
    conv => whnf
    repeat' (first | exact True.intro | rfl | refine And.intro ?_ ?_)
    all_goals (conv => whnf)
    repeat' (first | exact True.intro | rfl | refine And.intro ?_ ?_)
    all_goals (try omega)
    show tb _ n ++ tl = tb F n ++ tl
    rw [tab_congr fun k hk => show rv F n 0 k = F k by unfold rv; rw [if_neg (by omega)]]
  · intro (i : Nat) (hi : 2 * i ≤ n + 1)
    show forceSt (st35 F n c tl i) _
    conv => whnf
    repeat (first
      | (refine And.intro ?_ ?_; (focus (first | omega | decide | exact EqOk.mk (by kernel_rfl) (by kernel_rfl) (by kernel_rfl) | exact Int.natCast_nonneg _ | ((repeat' refine And.intro ?_ ?_) <;> first | omega | exact Int.natCast_nonneg _ | (simp only [i64max, u8max, u16max, u32max, u64max]; omega) | (simp only [mulSz_eq, Cont.len, colsLen, Col.len, List.length_cons, List.length_nil, List.length_replicate, List.length_append]; first | done | omega) | (simp [mulSz, Cont.len, bne]; first | done | omega)))); conv => whnf)
      | (refine tst_in ?_ ?_; (focus (intro h_; exfalso; first | omega | ((try simp only [decide_eq_true_eq, decide_eq_false_iff_not] at h_); omega) | (simp [mulSz, Cont.len, bne] at h_; first | done | omega))); intro _; conv => whnf)
      | (refine tst_in ?_ ?_; rotate_left; (focus (intro h_; exfalso; first | omega | ((try simp only [decide_eq_true_eq, decide_eq_false_iff_not] at h_); omega) | (simp [mulSz, Cont.len, bne] at h_; first | done | omega))); intro _; conv => whnf)
      | (refine ⟨0, (show _ = _ by omega), ?_⟩; conv => whnf))
    refine tst_in (fun hlt => ?_) (fun hge => ?_)
    · have hlt : 2 * i < n - 1 := by have : (i : Int) < (n : Int) - 1 - i := of_decide_eq_true (by rw [dLt_eq] at hlt; exact hlt); omega
      have e1 : (tb (rv F n i) n ++ tl).getD (n - 1 - i) 0 = F (n - 1 - i) := by rw [tab_app _ _ _ (by omega)]; unfold rv; rw [if_neg (by omega)]
      have e2 : (tb (rv F n i) n ++ tl).getD i 0 = F i := by rw [tab_app _ _ _ (by omega)]; unfold rv; rw [if_neg (by omega)]
      conv => whnf
      repeat (first
        | (refine And.intro ?_ ?_; (focus (first | omega | decide | exact EqOk.mk (by kernel_rfl) (by kernel_rfl) (by kernel_rfl) | exact Int.natCast_nonneg _ | ((repeat' refine And.intro ?_ ?_) <;> first | omega | exact Int.natCast_nonneg _ | (simp only [i64max, u8max, u16max, u32max, u64max]; omega) | (simp only [mulSz_eq, Cont.len, colsLen, Col.len, List.length_cons, List.length_nil, List.length_replicate, List.length_append, tab_len]; first | done | omega) | (simp [mulSz, Cont.len, bne, tab_len]; first | done | omega)))); conv => whnf)
        | (refine tst_in ?_ ?_; (focus (intro h_; exfalso; first | omega | ((try simp only [decide_eq_true_eq, decide_eq_false_iff_not] at h_); omega) | (simp [mulSz, Cont.len, bne, tab_len] at h_; first | done | omega))); intro _; conv => whnf)
        | (refine tst_in ?_ ?_; rotate_left; (focus (intro h_; exfalso; first | omega | ((try simp only [decide_eq_true_eq, decide_eq_false_iff_not] at h_); omega) | (simp [mulSz, Cont.len, bne, tab_len] at h_; first | done | omega))); intro _; conv => whnf)
        | (refine ⟨(i), (show _ = _ by omega), ?_⟩; conv => whnf)
        | (refine ⟨(i), 0, (show _ = _ by omega), ?_⟩; conv => whnf)
        | (refine ⟨(i), 1, (show _ = _ by omega), ?_⟩; conv => whnf)
        | (refine ⟨(i), 2, (show _ = _ by omega), ?_⟩; conv => whnf)
        | (refine ⟨(i), 3, (show _ = _ by omega), ?_⟩; conv => whnf)
        | (refine ⟨(i), 4, (show _ = _ by omega), ?_⟩; conv => whnf)
        | (refine ⟨(i), 5, (show _ = _ by omega), ?_⟩; conv => whnf)
        | (refine ⟨(n-1-i), (show _ = _ by omega), ?_⟩; conv => whnf)
        | (refine ⟨(n-1-i), 0, (show _ = _ by omega), ?_⟩; conv => whnf)
        | (refine ⟨(n-1-i), 1, (show _ = _ by omega), ?_⟩; conv => whnf)
        | (refine ⟨(n-1-i), 2, (show _ = _ by omega), ?_⟩; conv => whnf)
        | (refine ⟨(n-1-i), 3, (show _ = _ by omega), ?_⟩; conv => whnf)
        | (refine ⟨(n-1-i), 4, (show _ = _ by omega), ?_⟩; conv => whnf)
        | (refine ⟨(n-1-i), 5, (show _ = _ by omega), ?_⟩; conv => whnf)
        | (refine ⟨0, (show _ = _ by omega), ?_⟩; conv => whnf))
      refine ⟨[0], i + 1, ?_, (by show 2 * (i + 1) ≤ n + 1; omega), (by show n + 1 - 2 * (i + 1) < n + 1 - 2 * i; omega)⟩
      show stLe _ _ (st35 F n c tl (i + 1)) _
      conv => whnf
      repeat' (first | exact True.intro | rfl | refine And.intro ?_ ?_)
      all_goals (conv => whnf)
      repeat' (first | exact True.intro | rfl | refine And.intro ?_ ?_)
      all_goals (try omega)
      rw [show 0 + ((i : Int)).toNat = i by omega, show 0 + ((n : Int) - 1 - i).toNat = n - 1 - i by omega, e1, e2]
      exact (rv_swap F n i tl hlt).symm
    · have hge : n - 1 ≤ 2 * i := by have : ¬ (i : Int) < (n : Int) - 1 - i := of_decide_eq_false (by rw [dLt_eq] at hge; exact hge); omega
      conv => whnf
      repeat (first
        | (refine And.intro ?_ ?_; (focus (first | omega | decide | exact EqOk.mk (by kernel_rfl) (by kernel_rfl) (by kernel_rfl) | exact Int.natCast_nonneg _ | ((repeat' refine And.intro ?_ ?_) <;> first | omega | exact Int.natCast_nonneg _ | (simp only [i64max, u8max, u16max, u32max, u64max]; omega) | (simp only [mulSz_eq, Cont.len, colsLen, Col.len, List.length_cons, List.length_nil, List.length_replicate, List.length_append]; first | done | omega) | (simp [mulSz, Cont.len, bne]; first | done | omega)))); conv => whnf)
        | (refine tst_in ?_ ?_; (focus (intro h_; exfalso; first | omega | ((try simp only [decide_eq_true_eq, decide_eq_false_iff_not] at h_); omega) | (simp [mulSz, Cont.len, bne] at h_; first | done | omega))); intro _; conv => whnf)
        | (refine tst_in ?_ ?_; rotate_left; (focus (intro h_; exfalso; first | omega | ((try simp only [decide_eq_true_eq, decide_eq_false_iff_not] at h_); omega) | (simp [mulSz, Cont.len, bne] at h_; first | done | omega))); intro _; conv => whnf)
        | (refine ⟨0, (show _ = _ by omega), ?_⟩; conv => whnf))
      refine .inl ⟨(), [0], ?_⟩
      conv => whnf
      repeat' (first | exact True.intro | rfl | refine And.intro ?_ ?_)
      all_goals (conv => whnf)
      repeat' (first | exact True.intro | rfl | refine And.intro ?_ ?_)
      all_goals (try omega)
      show tb _ n ++ tl = tb _ n ++ tl
      rw [tab_congr fun k hk => show rv F n i k = F (n - 1 - k) by
        unfold rv
        by_cases h : k < i ∨ n - 1 - i < k
        · rw [if_pos h]
        · rw [if_neg h]; congr 1; omega]

noncomputable def gN (N i : Nat) : Int := (gen N).getD i 0
theorem gN_in (N i : Nat) : inB (gN N i) := gen_in N i
theorem gen_tb (N : Nat) : gen N = tb (gN N) (N + 1) := tab_ext 0 (gen_len N) fun i _ => rfl
noncomputable def bel (N k : Nat) : Int := gN N (N - 1 - k)
noncomputable def c30 : Code := (Try.f13.body).getD .skip
noncomputable def chkOut (N : Nat) : FOut := ⟨List Int, fun _ => True, fun _ => .fn 19 [.ptr 0 0, .ptr 1 0],
  fun tl => [.seg true (.avs [.int .i64 N]), .seg true (.avs [.slice 2 1 N (N + tl.length)]), .seg true (.ints .u8 (tb (fun k => gN N (N + 1 - 1 - k)) (N + 1) ++ tl))]⟩
set_option maxHeartbeats 0 in
set_option maxRecDepth 100000 in
theorem checking_f (N : Nat) (h : okR (N : Int) = true) : Fits Try.prog 13 ⟨[.int .i64 N], [], [chkOut N]⟩ := by
  have hN : N ≤ 64 := by have := (okR_iff.1 h).2.1; omega
  have hN2 : 2 ≤ N := by have := (okR_iff.1 h).1; omega
  have GO : Fits Try.prog 8 ⟨[.int .i64 N], [], [⟨List Int, fun _ => True, fun tl => .tup [.slice 0 0 (N + 1) (N + 1 + tl.length), .int .i64 0], fun tl => [.seg true (.ints .u8 (tb (gN N) (N + 1) ++ tl))]⟩]⟩ := by
    have h0 := Gen_ok N h
    simp only [rowI, List.nil_append, gen_tb, tab_len] at h0
    exact h0
  refine fits_of_body (C := cfgN 0) (c := c30) (ts := [2]) tokL mixedL (fun _ => none) (fun _ => none)
    Try.func13 (by kernel_rfl) (by kernel_rfl) (by kernel_rfl) (by kernel_rfl) rfl ?_
  conv => whnf
  repeat (first
    | (refine And.intro ?_ ?_; (focus (first | omega | decide | exact EqOk.mk (by kernel_rfl) (by kernel_rfl) (by kernel_rfl) | exact Int.natCast_nonneg _ | ((repeat' refine And.intro ?_ ?_) <;> first | omega | exact Int.natCast_nonneg _ | (simp only [i64max, u8max, u16max, u32max, u64max]; omega) | (simp only [mulSz_eq, Cont.len, colsLen, Col.len, List.length_cons, List.length_nil, List.length_replicate, List.length_append]; first | done | omega) | (simp [mulSz, Cont.len, bne]; first | done | omega)))); conv => whnf)
    | (refine tst_in ?_ ?_; (focus (intro h_; exfalso; first | omega | ((try simp only [decide_eq_true_eq, decide_eq_false_iff_not] at h_); omega) | (simp [mulSz, Cont.len, bne] at h_; first | done | omega))); intro _; conv => whnf)
    | (refine tst_in ?_ ?_; rotate_left; (focus (intro h_; exfalso; first | omega | ((try simp only [decide_eq_true_eq, decide_eq_false_iff_not] at h_); omega) | (simp [mulSz, Cont.len, bne] at h_; first | done | omega))); intro _; conv => whnf)
    | (refine ⟨0, (show _ = _ by omega), ?_⟩; conv => whnf))
  refine ⟨_, [], GO, ?_⟩
  conv => whnf
  iterate 2
   refine And.intro ?_ ?_
   focus
    conv => whnf
    repeat' (first | exact True.intro | rfl | refine And.intro ?_ ?_)
    all_goals (conv => whnf)
    repeat' (first | exact True.intro | rfl | refine And.intro ?_ ?_)
    all_goals (try (first | rfl | omega | (simp; first | done | omega)))
  conv => whnf
  refine ⟨?_, True.intro⟩
  rintro tl ht
  conv => whnf
  change List Int at tl
  have RV := Rev_f (gN N) (N + 1) (N + 1 + tl.length) tl (by omega) (by omega)
  conv => whnf
  repeat (first
    | (refine And.intro ?_ ?_; (focus (first | omega | decide | exact EqOk.mk (by kernel_rfl) (by kernel_rfl) (by kernel_rfl) | exact Int.natCast_nonneg _ | ((repeat' refine And.intro ?_ ?_) <;> first | omega | exact Int.natCast_nonneg _ | (simp only [i64max, u8max, u16max, u32max, u64max]; omega) | (simp only [mulSz_eq, Cont.len, colsLen, Col.len, List.length_cons, List.length_nil, List.length_replicate, List.length_append]; first | done | omega) | (simp [mulSz, Cont.len, bne]; first | done | omega)))); conv => whnf)
    | (refine tst_in ?_ ?_; (focus (intro h_; exfalso; first | omega | ((try simp only [decide_eq_true_eq, decide_eq_false_iff_not] at h_); omega) | (simp [mulSz, Cont.len, bne] at h_; first | done | omega))); intro _; conv => whnf)
    | (refine tst_in ?_ ?_; rotate_left; (focus (intro h_; exfalso; first | omega | ((try simp only [decide_eq_true_eq, decide_eq_false_iff_not] at h_); omega) | (simp [mulSz, Cont.len, bne] at h_; first | done | omega))); intro _; conv => whnf)
    | (refine ⟨0, (show _ = _ by omega), ?_⟩; conv => whnf))
  refine ⟨_, [1], RV, ?_⟩
  conv => whnf
  iterate 2
   refine And.intro ?_ ?_
   focus
    conv => whnf
    repeat' (first | exact True.intro | rfl | refine And.intro ?_ ?_ | omega)
    all_goals (conv => whnf)
    all_goals (try (first | rfl | omega | (simp; done)))
  conv => whnf
  refine ⟨?_, True.intro⟩
  intro _ _
  conv => whnf
  conv => whnf
  repeat (first
    | (refine And.intro ?_ ?_; (focus (first | omega | decide | exact EqOk.mk (by kernel_rfl) (by kernel_rfl) (by kernel_rfl) | exact Int.natCast_nonneg _ | ((repeat' refine And.intro ?_ ?_) <;> first | omega | exact Int.natCast_nonneg _ | (simp only [i64max, u8max, u16max, u32max, u64max]; omega) | (simp only [mulSz_eq, Cont.len, colsLen, Col.len, List.length_cons, List.length_nil, List.length_replicate, List.length_append, tab_len]; first | done | omega) | (simp [mulSz, Cont.len, bne, tab_len]; first | done | omega)))); conv => whnf)
    | (refine tst_in ?_ ?_; (focus (intro h_; exfalso; first | omega | ((try simp only [decide_eq_true_eq, decide_eq_false_iff_not] at h_); omega) | (simp [mulSz, Cont.len, bne, tab_len] at h_; first | done | omega))); intro _; conv => whnf)
    | (refine tst_in ?_ ?_; rotate_left; (focus (intro h_; exfalso; first | omega | ((try simp only [decide_eq_true_eq, decide_eq_false_iff_not] at h_); omega) | (simp [mulSz, Cont.len, bne, tab_len] at h_; first | done | omega))); intro _; conv => whnf)
    | (refine ⟨0, (show _ = _ by omega), ?_⟩; conv => whnf))
  refine .inl ⟨tl, [0, 2, 1], ?_⟩
  conv => whnf
  repeat' (first | exact True.intro | rfl | refine And.intro ?_ ?_)
  all_goals (conv => whnf)
  repeat' (first | exact True.intro | rfl | refine And.intro ?_ ?_)
  all_goals (try omega)

/-- One step of the division: the next byte goes in, what is left moves by one. -/
noncomputable def stp (N : Nat) (e : Nat → Int) (d : Int) (k : Nat) : Int := X (if k + 1 < N then e (k + 1) else 0) (M (X d (e 0)) (bel N k))
def byteI (s : ByteArray) (i : Nat) : Int := ((byteAt s i : Nat) : Int)
noncomputable def encF (N : Nat) (s : ByteArray) : Nat → Nat → Int
  | 0 => fun _ => 0
  | i + 1 => stp N (encF N s i) (byteI s i)
theorem byteI_in (s : ByteArray) (i : Nat) : inB (byteI s i) := by
  have := UInt8.toNat_lt (s.data.toList.getD i 0)
  unfold byteI byteAt inB
  omega
theorem stp_in (N : Nat) (e : Nat → Int) (d : Int) (he : ∀ k, inB (e k)) (k : Nat) : inB (stp N e d k) := by
  unfold stp
  refine X_in ?_ (M_in _ _)
  split
  · exact he _
  · exact ⟨by omega, by omega⟩
theorem encF_in (N : Nat) (s : ByteArray) : ∀ i k, inB (encF N s i k)
  | 0, _ => by show (0 : Int) ≤ 0 ∧ (0 : Int) < 256; omega
  | i + 1, k => stp_in N _ _ (encF_in N s i) k
noncomputable def shf (N : Nat) (e : Nat → Int) (k : Nat) : Int := if k + 1 < N then e (k + 1) else 0
noncomputable def mid (N : Nat) (e : Nat → Int) (d : Int) (j k : Nat) : Int := if k < j then stp N e d k else shf N e k
theorem shift_row (N : Nat) (e : Nat → Int) (hN : 2 ≤ N) (hN2 : N ≤ 64) :
    (List.take 0 (tb e N ++ List.replicate (64 - N) 0) ++ List.take (min (N - 1) N) (List.drop (0 + 1) (tb e N ++ List.replicate (64 - N) 0)) ++ List.drop (0 + (List.take (min (N - 1) N) (List.drop (0 + 1) (tb e N ++ List.replicate (64 - N) 0))).length) (tb e N ++ List.replicate (64 - N) 0)).set (N - 1) 0 = tb (shf N e) N ++ List.replicate (64 - N) 0 := by
  have hl : (List.take (min (N - 1) N) (List.drop (0 + 1) (tb e N ++ List.replicate (64 - N) (0 : Int)))).length = N - 1 := by
    rw [List.length_take, List.length_drop, List.length_append, tab_len, List.length_replicate]; omega
  rw [hl]
  refine row_ext 0 ?_ ?_
  · simp only [List.length_append, List.length_take, List.length_drop, List.length_set, List.length_replicate, tab_len]; omega
  · intro k hk
    simp only [List.length_append, List.length_take, List.length_drop, List.length_set, List.length_replicate, tab_len] at hk
    simp only [g_app, g_take, g_drop, g_set, g_rep, g_tab, List.length_append, List.length_take, List.length_drop, List.length_set, List.length_replicate, tab_len]
    unfold shf
    repeat' split
    all_goals (first | rfl | omega | (congr 1; omega))
theorem mid_zero (N : Nat) (e : Nat → Int) (d : Int) : tb (mid N e d 0) N = tb (shf N e) N := tab_congr fun k _ => by unfold mid; rw [if_neg (by omega)]
theorem mid_last (N : Nat) (e : Nat → Int) (d : Int) : tb (mid N e d N) N = tb (stp N e d) N := tab_congr fun k h => by unfold mid; rw [if_pos h]
theorem shf_in (N : Nat) (e : Nat → Int) (he : ∀ k, inB (e k)) (k : Nat) : inB (shf N e k) := by
  unfold shf; split
  · exact he _
  · exact ⟨by omega, by omega⟩
theorem mid_in (N : Nat) (e : Nat → Int) (d : Int) (he : ∀ k, inB (e k)) (j k : Nat) : inB (mid N e d j k) := by
  unfold mid; split
  · exact stp_in N e d he k
  · exact shf_in N e he k
theorem mid_set (N : Nat) (e : Nat → Int) (d : Int) (j : Nat) (hj : j < N) (t : List Int) (x : Int) (hx : x = stp N e d j) : (tb (mid N e d j) N ++ t).set j x = tb (mid N e d (j + 1)) N ++ t := by
  rw [List.set_append_left _ _ (by rw [tab_len]; omega)]
  congr 1
  apply row_ext 0 (by simp [tab_len])
  intro k hk
  rw [List.length_set, tab_len] at hk
  rw [g_set, tab_get _ _ hk, tab_get _ _ hk, tab_len]
  unfold mid
  by_cases h : j = k
  · subst h
    rw [if_pos ⟨rfl, hj⟩, if_pos (by omega), hx]
  · rw [if_neg (fun q => h q.1)]
    by_cases h2 : k < j
    · rw [if_pos h2, if_pos (by omega)]
    · rw [if_neg h2, if_neg (by omega)]
noncomputable def c43 : Code := (Try.f19.body).getD .skip
noncomputable def hp43 (N : Nat) (tl : List Int) (f : Nat → Int) : List Seg := [.seg false (.avs [.int .i64 N]), .seg false (.avs [.slice 2 1 N (N + tl.length)]), .seg false (.ints .u8 (tb (fun k => gN N (N + 1 - 1 - k)) (N + 1) ++ tl)), .seg true (.ints .u8 (tb f N ++ List.replicate (64 - N) 0))]
noncomputable def st43 (N : Nat) (tl : List Int) (s : ByteArray) (i : Nat) : St :=
  ⟨slotsAt 52 [(0, .str s), (1, .ptr 0 0), (2, .ptr 1 0), (6, .slice 3 0 N 64), (14, .int .i64 s.size), (15, .int .i64 i)], hp43 N tl (encF N s i)⟩
noncomputable def inv43 (N : Nat) (tl : List Int) (s : ByteArray) : LInv := ⟨Nat, fun i => st43 N tl s i, fun i => i ≤ s.size, fun i => s.size - i⟩
noncomputable def st43b (N : Nat) (tl : List Int) (s : ByteArray) (i j : Nat) : St :=
  ⟨slotsAt 52 [(0, .str s), (1, .ptr 0 0), (2, .ptr 1 0), (6, .slice 3 0 N 64), (8, .int .u8 (X (byteI s i) (encF N s i 0))), (14, .int .i64 s.size), (15, .int .i64 i), (33, .slice 2 1 N (N + tl.length)), (34, .int .i64 N), (35, .int .i64 j)], hp43 N tl (mid N (encF N s i) (byteI s i) j)⟩
noncomputable def inv43b (N : Nat) (tl : List Int) (s : ByteArray) (i : Nat) : LInv := ⟨Nat, fun j => st43b N tl s i j, fun j => j ≤ N, fun j => N - j⟩
def plan43 : PlanN := .op 0 (.op 1 (.op 4 (.op 5 (.rd 2 (.rd 3 (.op 6 (.chk [3, 2] (.op 7 (.op 8 (.op 9 .done))))))))))
noncomputable def cfg43 (N : Nat) (tl : List Int) (s : ByteArray) : Cfg := { cfgN 3 with sgn := fun _ => false, dep := fun | 10 => some (fun st => inv43b N tl s (natAt st 15)) | _ => none, plan := fun | 12 => some (.nn plan43) | _ => none }
set_option maxHeartbeats 0 in
set_option maxRecDepth 100000 in
theorem enc_f (N : Nat) (hN : 2 ≤ N) (hN2 : N ≤ 64) (s : ByteArray) (tl : List Int) (hs : s.size ≤ 140737488355328) :
    Fits Try.prog 19 ⟨[.str s, .ptr 0 0, .ptr 1 0], [.seg false (.avs [.int .i64 N]), .seg false (.avs [.slice 2 1 N (N + tl.length)]), .seg false (.ints .u8 (tb (fun k => gN N (N + 1 - 1 - k)) (N + 1) ++ tl))],
      [numOut [.dead, .dead, .dead, .seg true (.ints .u8 (tb (encF N s s.size) N ++ List.replicate (64 - N) 0))] (.slice 3 0 N 64)]⟩ := by
  refine fits_of_body (C := cfg43 N tl s) (c := c43) (ts := [4]) tokL mixedL (fun | 4 => some (inv43 N tl s) | _ => none) (fun _ => none)
    Try.func19 (by kernel_rfl) (by kernel_rfl) (by kernel_rfl) (by kernel_rfl) rfl ?_
  conv => whnf
  repeat (first
    | (refine And.intro ?_ ?_; (focus (first | omega | decide | exact EqOk.mk (by kernel_rfl) (by kernel_rfl) (by kernel_rfl) | exact Int.natCast_nonneg _ | ((repeat' refine And.intro ?_ ?_) <;> first | omega | exact Int.natCast_nonneg _ | (simp only [i64max, u8max, u16max, u32max, u64max]; omega) | (simp only [mulSz_eq, Cont.len, colsLen, Col.len, List.length_cons, List.length_nil, List.length_replicate, List.length_append]; first | done | omega) | (simp [mulSz, Cont.len, bne]; first | done | omega)))); conv => whnf)
    | (refine tst_in ?_ ?_; (focus (intro h_; exfalso; first | omega | ((try simp only [decide_eq_true_eq, decide_eq_false_iff_not] at h_); omega) | (simp [mulSz, Cont.len, bne] at h_; first | done | omega))); intro _; conv => whnf)
    | (refine tst_in ?_ ?_; rotate_left; (focus (intro h_; exfalso; first | omega | ((try simp only [decide_eq_true_eq, decide_eq_false_iff_not] at h_); omega) | (simp [mulSz, Cont.len, bne] at h_; first | done | omega))); intro _; conv => whnf)
    | (refine ⟨0, (show _ = _ by omega), ?_⟩; conv => whnf))
  refine ⟨⟨[0, 1, 2, 3], (0 : Nat), ?_, Nat.zero_le _⟩, ?_⟩
  · show stLe _ _ (st43 N tl s 0) _
    conv => whnf
    repeat' (first | exact True.intro | rfl | refine And.intro ?_ ?_)
    all_goals (conv => whnf)
    repeat' (first | exact True.intro | rfl | refine And.intro ?_ ?_)
    all_goals (try omega)
    have h0 : tb (encF N s 0) N ++ List.replicate (64 - N) (0 : Int) = List.replicate 64 0 := by
      apply row_ext 0
      · simp [tab_len]; omega
      · intro k hk
        simp only [List.length_append, List.length_replicate, tab_len] at hk
        rw [g_app, tab_len, g_rep, g_rep, if_pos (by omega : k < 64)]
        by_cases h : k < N
        · rw [if_pos h, tab_get _ _ h]; rfl
        · rw [if_neg h]; split <;> rfl
    rw [h0]
    conv => whnf
    repeat' (first | exact True.intro | rfl | refine And.intro ?_ ?_)
    all_goals (conv => whnf)
    repeat' (first | exact True.intro | rfl | refine And.intro ?_ ?_)
    all_goals (try omega)
  · intro (i : Nat) (hi : i ≤ s.size)
    show forceSt (st43 N tl s i) _
    conv => whnf
    repeat (first
      | (refine And.intro ?_ ?_; (focus (first | omega | decide | exact EqOk.mk (by kernel_rfl) (by kernel_rfl) (by kernel_rfl) | exact Int.natCast_nonneg _ | ((repeat' refine And.intro ?_ ?_) <;> first | omega | exact Int.natCast_nonneg _ | (simp only [i64max, u8max, u16max, u32max, u64max]; omega) | (simp only [mulSz_eq, Cont.len, colsLen, Col.len, List.length_cons, List.length_nil, List.length_replicate, List.length_append]; first | done | omega) | (simp [mulSz, Cont.len, bne]; first | done | omega)))); conv => whnf)
      | (refine tst_in ?_ ?_; (focus (intro h_; exfalso; first | omega | ((try simp only [decide_eq_true_eq, decide_eq_false_iff_not] at h_); omega) | (simp [mulSz, Cont.len, bne] at h_; first | done | omega))); intro _; conv => whnf)
      | (refine tst_in ?_ ?_; rotate_left; (focus (intro h_; exfalso; first | omega | ((try simp only [decide_eq_true_eq, decide_eq_false_iff_not] at h_); omega) | (simp [mulSz, Cont.len, bne] at h_; first | done | omega))); intro _; conv => whnf)
      | (refine ⟨0, (show _ = _ by omega), ?_⟩; conv => whnf))
    refine tst_in (fun hlt => ?_) (fun hge => ?_)
    · have hlt : i < s.size := by simp at hlt; omega
      have e0 : (tb (encF N s i) N ++ List.replicate (64 - N) 0).getD 0 0 = encF N s i 0 := tab_app _ _ _ (by omega)
      have e0' : (tb (encF N s i) N ++ List.replicate (64 - N) 0).getD (0 + Int.toNat 0) 0 = encF N s i 0 := e0
      have hb := byteI_in s i
      have hen := encF_in N s i 0
      unfold byteI inB at hb
      unfold inB at hen
      conv => whnf
      repeat (first
        | (refine And.intro ?_ ?_; (focus (first | omega | decide | exact EqOk.mk (by kernel_rfl) (by kernel_rfl) (by kernel_rfl) | exact Int.natCast_nonneg _ | ((repeat' refine And.intro ?_ ?_) <;> first | omega | exact Int.natCast_nonneg _ | (simp only [i64max, u8max, u16max, u32max, u64max]; omega) | (simp only [mulSz_eq, Cont.len, colsLen, Col.len, List.length_cons, List.length_nil, List.length_replicate, List.length_append, tab_len]; first | done | omega) | (simp [mulSz, Cont.len, bne, tab_len]; first | done | omega)))); conv => whnf)
        | (refine tst_in ?_ ?_; (focus (intro h_; exfalso; first | omega | ((try simp only [decide_eq_true_eq, decide_eq_false_iff_not] at h_); omega) | (simp [mulSz, Cont.len, bne, tab_len] at h_; first | done | omega))); intro _; conv => whnf)
        | (refine tst_in ?_ ?_; rotate_left; (focus (intro h_; exfalso; first | omega | ((try simp only [decide_eq_true_eq, decide_eq_false_iff_not] at h_); omega) | (simp [mulSz, Cont.len, bne, tab_len] at h_; first | done | omega))); intro _; conv => whnf)
        | (refine ⟨(0), (show _ = _ by omega), ?_⟩; conv => whnf)
        | (refine ⟨(0), 0, (show _ = _ by omega), ?_⟩; conv => whnf)
        | (refine ⟨(0), 1, (show _ = _ by omega), ?_⟩; conv => whnf)
        | (refine ⟨(0), 2, (show _ = _ by omega), ?_⟩; conv => whnf)
        | (refine ⟨(0), 3, (show _ = _ by omega), ?_⟩; conv => whnf)
        | (refine ⟨(0), 4, (show _ = _ by omega), ?_⟩; conv => whnf)
        | (refine ⟨(0), 5, (show _ = _ by omega), ?_⟩; conv => whnf)
        | (refine ⟨(N-1), (show _ = _ by omega), ?_⟩; conv => whnf)
        | (refine ⟨(N-1), 0, (show _ = _ by omega), ?_⟩; conv => whnf)
        | (refine ⟨(N-1), 1, (show _ = _ by omega), ?_⟩; conv => whnf)
        | (refine ⟨(N-1), 2, (show _ = _ by omega), ?_⟩; conv => whnf)
        | (refine ⟨(N-1), 3, (show _ = _ by omega), ?_⟩; conv => whnf)
        | (refine ⟨(N-1), 4, (show _ = _ by omega), ?_⟩; conv => whnf)
        | (refine ⟨(N-1), 5, (show _ = _ by omega), ?_⟩; conv => whnf)
        | (refine ⟨0, (show _ = _ by omega), ?_⟩; conv => whnf))
      rw [e0']
      conv => whnf
      repeat (first
        | (refine And.intro ?_ ?_; (focus (first | omega | decide | exact EqOk.mk (by kernel_rfl) (by kernel_rfl) (by kernel_rfl) | exact Int.natCast_nonneg _ | ((repeat' refine And.intro ?_ ?_) <;> first | omega | exact Int.natCast_nonneg _ | (simp only [i64max, u8max, u16max, u32max, u64max]; omega) | (simp only [mulSz_eq, Cont.len, colsLen, Col.len, List.length_cons, List.length_nil, List.length_replicate, List.length_append, tab_len, Int.toNat_natCast, u8max]; first | done | omega) | (simp [mulSz, Cont.len, bne, tab_len, Int.toNat_natCast, u8max]; first | done | omega)))); conv => whnf)
        | (refine tst_in ?_ ?_; (focus (intro h_; exfalso; first | omega | ((try simp only [decide_eq_true_eq, decide_eq_false_iff_not] at h_); omega) | (simp [mulSz, Cont.len, bne, tab_len, Int.toNat_natCast, u8max] at h_; first | done | omega))); intro _; conv => whnf)
        | (refine tst_in ?_ ?_; rotate_left; (focus (intro h_; exfalso; first | omega | ((try simp only [decide_eq_true_eq, decide_eq_false_iff_not] at h_); omega) | (simp [mulSz, Cont.len, bne, tab_len, Int.toNat_natCast, u8max] at h_; first | done | omega))); intro _; conv => whnf)
        | (refine ⟨(0), (show _ = _ by omega), ?_⟩; conv => whnf)
        | (refine ⟨(0), 0, (show _ = _ by omega), ?_⟩; conv => whnf)
        | (refine ⟨(0), 1, (show _ = _ by omega), ?_⟩; conv => whnf)
        | (refine ⟨(0), 2, (show _ = _ by omega), ?_⟩; conv => whnf)
        | (refine ⟨(0), 3, (show _ = _ by omega), ?_⟩; conv => whnf)
        | (refine ⟨(0), 4, (show _ = _ by omega), ?_⟩; conv => whnf)
        | (refine ⟨(0), 5, (show _ = _ by omega), ?_⟩; conv => whnf)
        | (refine ⟨(N-1), (show _ = _ by omega), ?_⟩; conv => whnf)
        | (refine ⟨(N-1), 0, (show _ = _ by omega), ?_⟩; conv => whnf)
        | (refine ⟨(N-1), 1, (show _ = _ by omega), ?_⟩; conv => whnf)
        | (refine ⟨(N-1), 2, (show _ = _ by omega), ?_⟩; conv => whnf)
        | (refine ⟨(N-1), 3, (show _ = _ by omega), ?_⟩; conv => whnf)
        | (refine ⟨(N-1), 4, (show _ = _ by omega), ?_⟩; conv => whnf)
        | (refine ⟨(N-1), 5, (show _ = _ by omega), ?_⟩; conv => whnf)
        | (refine ⟨0, (show _ = _ by omega), ?_⟩; conv => whnf))
      refine ⟨⟨[0, 1, 2, 3], (0 : Nat), ?_, Nat.zero_le _⟩, ?_⟩
      · show stLe _ _ (st43b N tl s i 0) _
        conv => whnf
        repeat' (first | exact True.intro | rfl | refine And.intro ?_ ?_)
        all_goals (conv => whnf)
        repeat' (first | exact True.intro | rfl | refine And.intro ?_ ?_)
        all_goals (try omega)
        rw [mid_zero, show 0 + ((N : Int) - 1).toNat = N - 1 by omega]
        exact (shift_row N (encF N s i) hN hN2).symm
      · intro (j : Nat) (hj : j ≤ N)
        show forceSt (st43b N tl s i j) _
        have hX := X_in (byteI_in s i) (encF_in N s i 0)
        have TI : QFits Try.prog 20 ⟨[.int .u8 (X (byteI s i) (encF N s i 0)), .int .u8 (bel N j)], [], .int .u8 (M (X (byteI s i) (encF N s i 0)) (bel N j))⟩ := Times_i hX (gN_in N (N - 1 - j))
        have hm := mid_in N (encF N s i) (byteI s i) (encF_in N s i) j j
        unfold inB at hm
        have hMi := M_in (X (byteI s i) (encF N s i 0)) (bel N j)
        unfold inB at hMi
        conv => whnf
        repeat (first
          | (refine And.intro ?_ ?_; (focus (first | omega | decide | exact EqOk.mk (by kernel_rfl) (by kernel_rfl) (by kernel_rfl) | exact Int.natCast_nonneg _ | ((repeat' refine And.intro ?_ ?_) <;> first | omega | exact Int.natCast_nonneg _ | (simp only [i64max, u8max, u16max, u32max, u64max]; omega) | (simp only [mulSz_eq, Cont.len, colsLen, Col.len, List.length_cons, List.length_nil, List.length_replicate, List.length_append]; first | done | omega) | (simp [mulSz, Cont.len, bne]; first | done | omega)))); conv => whnf)
          | (refine tst_in ?_ ?_; (focus (intro h_; exfalso; first | omega | ((try simp only [decide_eq_true_eq, decide_eq_false_iff_not] at h_); omega) | (simp [mulSz, Cont.len, bne] at h_; first | done | omega))); intro _; conv => whnf)
          | (refine tst_in ?_ ?_; rotate_left; (focus (intro h_; exfalso; first | omega | ((try simp only [decide_eq_true_eq, decide_eq_false_iff_not] at h_); omega) | (simp [mulSz, Cont.len, bne] at h_; first | done | omega))); intro _; conv => whnf)
          | (refine ⟨0, (show _ = _ by omega), ?_⟩; conv => whnf))
        refine tst_in (fun hlt => ?_) (fun hge => ?_)
        · have hlt : j < N := by simp at hlt; omega
          have e1 : (tb (fun k => gN N (N + 1 - 1 - k)) (N + 1) ++ tl).getD (1 + ((j : Int)).toNat) 0 = bel N j := by
            rw [show 1 + ((j : Int)).toNat = 1 + j by omega, tab_app _ _ _ (by omega)]; unfold bel; congr 1; omega
          have e2 : (tb (mid N (encF N s i) (byteI s i) j) N ++ List.replicate (64 - N) 0).getD (0 + ((j : Int)).toNat) 0 = mid N (encF N s i) (byteI s i) j j := by
            rw [show 0 + ((j : Int)).toNat = j by omega, tab_app _ _ _ hlt]
          conv => whnf
          repeat (first
            | (refine And.intro ?_ ?_; (focus (first | omega | decide | exact EqOk.mk (by kernel_rfl) (by kernel_rfl) (by kernel_rfl) | exact Int.natCast_nonneg _ | ((repeat' refine And.intro ?_ ?_) <;> first | omega | exact Int.natCast_nonneg _ | (simp only [i64max, u8max, u16max, u32max, u64max]; omega) | (simp only [mulSz_eq, Cont.len, colsLen, Col.len, List.length_cons, List.length_nil, List.length_replicate, List.length_append, tab_len]; first | done | omega) | (simp [mulSz, Cont.len, bne, tab_len]; first | done | omega)))); conv => whnf)
            | (refine tst_in ?_ ?_; (focus (intro h_; exfalso; first | omega | ((try simp only [decide_eq_true_eq, decide_eq_false_iff_not] at h_); omega) | (simp [mulSz, Cont.len, bne, tab_len] at h_; first | done | omega))); intro _; conv => whnf)
            | (refine tst_in ?_ ?_; rotate_left; (focus (intro h_; exfalso; first | omega | ((try simp only [decide_eq_true_eq, decide_eq_false_iff_not] at h_); omega) | (simp [mulSz, Cont.len, bne, tab_len] at h_; first | done | omega))); intro _; conv => whnf)
            | (refine ⟨(j), (show _ = _ by omega), ?_⟩; conv => whnf)
            | (refine ⟨(j), 0, (show _ = _ by omega), ?_⟩; conv => whnf)
            | (refine ⟨(j), 1, (show _ = _ by omega), ?_⟩; conv => whnf)
            | (refine ⟨(j), 2, (show _ = _ by omega), ?_⟩; conv => whnf)
            | (refine ⟨(j), 3, (show _ = _ by omega), ?_⟩; conv => whnf)
            | (refine ⟨(j), 4, (show _ = _ by omega), ?_⟩; conv => whnf)
            | (refine ⟨(j), 5, (show _ = _ by omega), ?_⟩; conv => whnf)
            | (refine ⟨(j+1), (show _ = _ by omega), ?_⟩; conv => whnf)
            | (refine ⟨(j+1), 0, (show _ = _ by omega), ?_⟩; conv => whnf)
            | (refine ⟨(j+1), 1, (show _ = _ by omega), ?_⟩; conv => whnf)
            | (refine ⟨(j+1), 2, (show _ = _ by omega), ?_⟩; conv => whnf)
            | (refine ⟨(j+1), 3, (show _ = _ by omega), ?_⟩; conv => whnf)
            | (refine ⟨(j+1), 4, (show _ = _ by omega), ?_⟩; conv => whnf)
            | (refine ⟨(j+1), 5, (show _ = _ by omega), ?_⟩; conv => whnf)
            | (refine ⟨0, (show _ = _ by omega), ?_⟩; conv => whnf))
          rw [e1]
          refine ⟨_, [], TI, ?_⟩
          conv => whnf
          iterate 2
           refine And.intro ?_ ?_
           focus
            conv => whnf
            repeat' (first | exact True.intro | rfl | refine And.intro ?_ ?_ | omega)
            all_goals (conv => whnf)
            all_goals (try (first | rfl | omega | (simp; done)))
          conv => whnf
          conv => whnf
          repeat (first
            | (refine And.intro ?_ ?_; (focus (first | omega | decide | exact EqOk.mk (by kernel_rfl) (by kernel_rfl) (by kernel_rfl) | exact Int.natCast_nonneg _ | ((repeat' refine And.intro ?_ ?_) <;> first | omega | exact Int.natCast_nonneg _ | (simp only [i64max, u8max, u16max, u32max, u64max]; omega) | (simp only [mulSz_eq, Cont.len, colsLen, Col.len, List.length_cons, List.length_nil, List.length_replicate, List.length_append, tab_len]; first | done | omega) | (simp [mulSz, Cont.len, bne, tab_len]; first | done | omega)))); conv => whnf)
            | (refine tst_in ?_ ?_; (focus (intro h_; exfalso; first | omega | ((try simp only [decide_eq_true_eq, decide_eq_false_iff_not] at h_); omega) | (simp [mulSz, Cont.len, bne, tab_len] at h_; first | done | omega))); intro _; conv => whnf)
            | (refine tst_in ?_ ?_; rotate_left; (focus (intro h_; exfalso; first | omega | ((try simp only [decide_eq_true_eq, decide_eq_false_iff_not] at h_); omega) | (simp [mulSz, Cont.len, bne, tab_len] at h_; first | done | omega))); intro _; conv => whnf)
            | (refine ⟨(j), (show _ = _ by omega), ?_⟩; conv => whnf)
            | (refine ⟨(j), 0, (show _ = _ by omega), ?_⟩; conv => whnf)
            | (refine ⟨(j), 1, (show _ = _ by omega), ?_⟩; conv => whnf)
            | (refine ⟨(j), 2, (show _ = _ by omega), ?_⟩; conv => whnf)
            | (refine ⟨(j), 3, (show _ = _ by omega), ?_⟩; conv => whnf)
            | (refine ⟨(j), 4, (show _ = _ by omega), ?_⟩; conv => whnf)
            | (refine ⟨(j), 5, (show _ = _ by omega), ?_⟩; conv => whnf)
            | (refine ⟨(j+1), (show _ = _ by omega), ?_⟩; conv => whnf)
            | (refine ⟨(j+1), 0, (show _ = _ by omega), ?_⟩; conv => whnf)
            | (refine ⟨(j+1), 1, (show _ = _ by omega), ?_⟩; conv => whnf)
            | (refine ⟨(j+1), 2, (show _ = _ by omega), ?_⟩; conv => whnf)
            | (refine ⟨(j+1), 3, (show _ = _ by omega), ?_⟩; conv => whnf)
            | (refine ⟨(j+1), 4, (show _ = _ by omega), ?_⟩; conv => whnf)
            | (refine ⟨(j+1), 5, (show _ = _ by omega), ?_⟩; conv => whnf)
            | (refine ⟨0, (show _ = _ by omega), ?_⟩; conv => whnf))
          rw [e2]
          conv => whnf
          repeat (first
            | (refine And.intro ?_ ?_; (focus (first | omega | decide | exact EqOk.mk (by kernel_rfl) (by kernel_rfl) (by kernel_rfl) | exact Int.natCast_nonneg _ | ((repeat' refine And.intro ?_ ?_) <;> first | omega | exact Int.natCast_nonneg _ | (simp only [i64max, u8max, u16max, u32max, u64max]; omega) | (simp only [mulSz_eq, Cont.len, colsLen, Col.len, List.length_cons, List.length_nil, List.length_replicate, List.length_append, tab_len, u8max]; first | done | omega) | (simp [mulSz, Cont.len, bne, tab_len, u8max]; first | done | omega)))); conv => whnf)
            | (refine tst_in ?_ ?_; (focus (intro h_; exfalso; first | omega | ((try simp only [decide_eq_true_eq, decide_eq_false_iff_not] at h_); omega) | (simp [mulSz, Cont.len, bne, tab_len, u8max] at h_; first | done | omega))); intro _; conv => whnf)
            | (refine tst_in ?_ ?_; rotate_left; (focus (intro h_; exfalso; first | omega | ((try simp only [decide_eq_true_eq, decide_eq_false_iff_not] at h_); omega) | (simp [mulSz, Cont.len, bne, tab_len, u8max] at h_; first | done | omega))); intro _; conv => whnf)
            | (refine ⟨(j), (show _ = _ by omega), ?_⟩; conv => whnf)
            | (refine ⟨(j), 0, (show _ = _ by omega), ?_⟩; conv => whnf)
            | (refine ⟨(j), 1, (show _ = _ by omega), ?_⟩; conv => whnf)
            | (refine ⟨(j), 2, (show _ = _ by omega), ?_⟩; conv => whnf)
            | (refine ⟨(j), 3, (show _ = _ by omega), ?_⟩; conv => whnf)
            | (refine ⟨(j), 4, (show _ = _ by omega), ?_⟩; conv => whnf)
            | (refine ⟨(j), 5, (show _ = _ by omega), ?_⟩; conv => whnf)
            | (refine ⟨(j+1), (show _ = _ by omega), ?_⟩; conv => whnf)
            | (refine ⟨(j+1), 0, (show _ = _ by omega), ?_⟩; conv => whnf)
            | (refine ⟨(j+1), 1, (show _ = _ by omega), ?_⟩; conv => whnf)
            | (refine ⟨(j+1), 2, (show _ = _ by omega), ?_⟩; conv => whnf)
            | (refine ⟨(j+1), 3, (show _ = _ by omega), ?_⟩; conv => whnf)
            | (refine ⟨(j+1), 4, (show _ = _ by omega), ?_⟩; conv => whnf)
            | (refine ⟨(j+1), 5, (show _ = _ by omega), ?_⟩; conv => whnf)
            | (refine ⟨0, (show _ = _ by omega), ?_⟩; conv => whnf))
          refine ⟨[0, 1, 2, 3], j + 1, ?_, (by show j + 1 ≤ N; omega), (by show N - (j + 1) < N - j; omega)⟩
          show stLe _ _ (st43b N tl s i (j + 1)) _
          conv => whnf
          repeat' (first | exact True.intro | rfl | refine And.intro ?_ ?_)
          all_goals (conv => whnf)
          repeat' (first | exact True.intro | rfl | refine And.intro ?_ ?_)
          all_goals (try omega)
          rw [show 0 + ((j : Int)).toNat = j by omega]
          refine (mid_set N _ _ j hlt _ _ ?_).symm
          rw [show mid N (encF N s i) (byteI s i) j j = shf N (encF N s i) j by unfold mid; rw [if_neg (by omega)]]
          rfl
        · have hge : j = N := by simp at hge; omega
          subst hge
          conv => whnf
          repeat (first
            | (refine And.intro ?_ ?_; (focus (first | omega | decide | exact EqOk.mk (by kernel_rfl) (by kernel_rfl) (by kernel_rfl) | exact Int.natCast_nonneg _ | ((repeat' refine And.intro ?_ ?_) <;> first | omega | exact Int.natCast_nonneg _ | (simp only [i64max, u8max, u16max, u32max, u64max]; omega) | (simp only [mulSz_eq, Cont.len, colsLen, Col.len, List.length_cons, List.length_nil, List.length_replicate, List.length_append]; first | done | omega) | (simp [mulSz, Cont.len, bne]; first | done | omega)))); conv => whnf)
            | (refine tst_in ?_ ?_; (focus (intro h_; exfalso; first | omega | ((try simp only [decide_eq_true_eq, decide_eq_false_iff_not] at h_); omega) | (simp [mulSz, Cont.len, bne] at h_; first | done | omega))); intro _; conv => whnf)
            | (refine tst_in ?_ ?_; rotate_left; (focus (intro h_; exfalso; first | omega | ((try simp only [decide_eq_true_eq, decide_eq_false_iff_not] at h_); omega) | (simp [mulSz, Cont.len, bne] at h_; first | done | omega))); intro _; conv => whnf)
            | (refine ⟨0, (show _ = _ by omega), ?_⟩; conv => whnf))
          refine ⟨[0, 1, 2, 3], i + 1, ?_, (by show i + 1 ≤ s.size; omega), (by show s.size - (i + 1) < s.size - i; omega)⟩
          show stLe _ _ (st43 j tl s (i + 1)) _
          conv => whnf
          repeat' (first | exact True.intro | rfl | refine And.intro ?_ ?_)
          all_goals (conv => whnf)
          repeat' (first | exact True.intro | rfl | refine And.intro ?_ ?_)
          all_goals (try omega)
          show tb (stp j (encF j s i) (byteI s i)) j ++ _ = _
          rw [← mid_last]
    · have hge : i = s.size := by simp at hge; omega
      subst hge
      conv => whnf
      repeat (first
        | (refine And.intro ?_ ?_; (focus (first | omega | decide | exact EqOk.mk (by kernel_rfl) (by kernel_rfl) (by kernel_rfl) | exact Int.natCast_nonneg _ | ((repeat' refine And.intro ?_ ?_) <;> first | omega | exact Int.natCast_nonneg _ | (simp only [i64max, u8max, u16max, u32max, u64max]; omega) | (simp only [mulSz_eq, Cont.len, colsLen, Col.len, List.length_cons, List.length_nil, List.length_replicate, List.length_append]; first | done | omega) | (simp [mulSz, Cont.len, bne]; first | done | omega)))); conv => whnf)
        | (refine tst_in ?_ ?_; (focus (intro h_; exfalso; first | omega | ((try simp only [decide_eq_true_eq, decide_eq_false_iff_not] at h_); omega) | (simp [mulSz, Cont.len, bne] at h_; first | done | omega))); intro _; conv => whnf)
        | (refine tst_in ?_ ?_; rotate_left; (focus (intro h_; exfalso; first | omega | ((try simp only [decide_eq_true_eq, decide_eq_false_iff_not] at h_); omega) | (simp [mulSz, Cont.len, bne] at h_; first | done | omega))); intro _; conv => whnf)
        | (refine ⟨0, (show _ = _ by omega), ?_⟩; conv => whnf))
      refine .inl ⟨(), [0, 1, 2, 3], ?_⟩
      conv => whnf
      repeat' (first | exact True.intro | rfl | refine And.intro ?_ ?_)
      all_goals (conv => whnf)
      repeat' (first | exact True.intro | rfl | refine And.intro ?_ ?_)
      all_goals (try omega)

/-- The checks of data. -/
noncomputable def enc (N : Nat) (s : ByteArray) (k : Nat) : Int := encF N s s.size k
def tx (l : List Int) : ByteArray := ⟨⟨l.map fun n => UInt8.ofNat n.toNat⟩⟩
theorem tx_size (l : List Int) : (tx l).size = l.length := by unfold tx; show (l.map _).toArray.size = _; simp
theorem take_tb2 {α : Type} (F : Nat → α) (n : Nat) (t : List α) : List.take n (List.drop 0 (tb F n ++ t)) = tb F n := by
  rw [List.drop_zero, List.take_left' (tab_len F n)]
noncomputable def codeW (N : Nat) (s : ByteArray) : ByteArray := s ++ tx (tb (enc N s) N)
noncomputable def k11 : Code := (Try.f5.body).getD .skip
set_option maxHeartbeats 0 in
set_option maxRecDepth 100000 in
theorem Encode_y (N : Nat) (s : ByteArray) (h : okR (N : Int) = true) (h1 : 1 ≤ s.size) (h2 : s.size + N ≤ 255) :
    Fits Try.prog 5 ⟨[.str s, .int .i64 N], [], [numOut [] (.tup [.str (codeW N s), .int .i64 0])]⟩ := by
  obtain ⟨r1, r2, r3⟩ := okR_iff.1 h
  have AC := areChecks_q (N : Int)
  rw [h] at AC
  have IW := isWord_q ((s.size : Int) + N) (N : Int)
  rw [show okN ((s.size : Int) + N) N = true by unfold okN; simp; omega] at IW
  have CH := checking_f N h
  unfold chkOut at CH
  refine fits_of_body (C := cfgN 0) (c := k11) (ts := [4, 5]) tokL mixedL (fun _ => none) (fun _ => none)
    Try.func5 (by kernel_rfl) (by kernel_rfl) (by kernel_rfl) (by kernel_rfl) rfl ?_
  conv => whnf
  repeat (first
    | (refine And.intro ?_ ?_; (focus (first | omega | decide | exact EqOk.mk (by kernel_rfl) (by kernel_rfl) (by kernel_rfl) | exact Int.natCast_nonneg _ | ((repeat' refine And.intro ?_ ?_) <;> first | omega | exact Int.natCast_nonneg _ | (simp only [i64max, u8max, u16max, u32max, u64max]; omega) | (simp only [mulSz_eq, Cont.len, colsLen, Col.len, List.length_cons, List.length_nil, List.length_replicate, List.length_append]; first | done | omega) | (simp [mulSz, Cont.len, bne]; first | done | omega)))); conv => whnf)
    | (refine tst_in ?_ ?_; (focus (intro h_; exfalso; first | omega | ((try simp only [decide_eq_true_eq, decide_eq_false_iff_not] at h_); omega) | (simp [mulSz, Cont.len, bne] at h_; first | done | omega))); intro _; conv => whnf)
    | (refine tst_in ?_ ?_; rotate_left; (focus (intro h_; exfalso; first | omega | ((try simp only [decide_eq_true_eq, decide_eq_false_iff_not] at h_); omega) | (simp [mulSz, Cont.len, bne] at h_; first | done | omega))); intro _; conv => whnf)
    | (refine ⟨0, (show _ = _ by omega), ?_⟩; conv => whnf))
  refine ⟨_, [], AC, ?_⟩
  conv => whnf
  iterate 2
   refine And.intro ?_ ?_
   focus
    conv => whnf
    repeat' (first | exact True.intro | rfl | refine And.intro ?_ ?_ | omega)
    all_goals (conv => whnf)
    all_goals (try (first | rfl | omega | (simp; done)))
  conv => whnf
  conv => whnf
  repeat (first
    | (refine And.intro ?_ ?_; (focus (first | omega | decide | exact EqOk.mk (by kernel_rfl) (by kernel_rfl) (by kernel_rfl) | exact Int.natCast_nonneg _ | ((repeat' refine And.intro ?_ ?_) <;> first | omega | exact Int.natCast_nonneg _ | (simp only [i64max, u8max, u16max, u32max, u64max]; omega) | (simp only [mulSz_eq, Cont.len, colsLen, Col.len, List.length_cons, List.length_nil, List.length_replicate, List.length_append]; first | done | omega) | (simp [mulSz, Cont.len, bne]; first | done | omega)))); conv => whnf)
    | (refine tst_in ?_ ?_; (focus (intro h_; exfalso; first | omega | ((try simp only [decide_eq_true_eq, decide_eq_false_iff_not] at h_); omega) | (simp [mulSz, Cont.len, bne] at h_; first | done | omega))); intro _; conv => whnf)
    | (refine tst_in ?_ ?_; rotate_left; (focus (intro h_; exfalso; first | omega | ((try simp only [decide_eq_true_eq, decide_eq_false_iff_not] at h_); omega) | (simp [mulSz, Cont.len, bne] at h_; first | done | omega))); intro _; conv => whnf)
    | (refine ⟨0, (show _ = _ by omega), ?_⟩; conv => whnf))
  refine ⟨_, [], IW, ?_⟩
  conv => whnf
  iterate 2
   refine And.intro ?_ ?_
   focus
    conv => whnf
    repeat' (first | exact True.intro | rfl | refine And.intro ?_ ?_ | omega)
    all_goals (conv => whnf)
    all_goals (try (first | rfl | omega | (simp; done)))
  conv => whnf
  conv => whnf
  repeat (first
    | (refine And.intro ?_ ?_; (focus (first | omega | decide | exact EqOk.mk (by kernel_rfl) (by kernel_rfl) (by kernel_rfl) | exact Int.natCast_nonneg _ | ((repeat' refine And.intro ?_ ?_) <;> first | omega | exact Int.natCast_nonneg _ | (simp only [i64max, u8max, u16max, u32max, u64max]; omega) | (simp only [mulSz_eq, Cont.len, colsLen, Col.len, List.length_cons, List.length_nil, List.length_replicate, List.length_append]; first | done | omega) | (simp [mulSz, Cont.len, bne]; first | done | omega)))); conv => whnf)
    | (refine tst_in ?_ ?_; (focus (intro h_; exfalso; first | omega | ((try simp only [decide_eq_true_eq, decide_eq_false_iff_not] at h_); omega) | (simp [mulSz, Cont.len, bne] at h_; first | done | omega))); intro _; conv => whnf)
    | (refine tst_in ?_ ?_; rotate_left; (focus (intro h_; exfalso; first | omega | ((try simp only [decide_eq_true_eq, decide_eq_false_iff_not] at h_); omega) | (simp [mulSz, Cont.len, bne] at h_; first | done | omega))); intro _; conv => whnf)
    | (refine ⟨0, (show _ = _ by omega), ?_⟩; conv => whnf))
  refine ⟨_, [], CH, ?_⟩
  conv => whnf
  iterate 2
   refine And.intro ?_ ?_
   focus
    conv => whnf
    repeat' (first | exact True.intro | rfl | refine And.intro ?_ ?_)
    all_goals (conv => whnf)
    repeat' (first | exact True.intro | rfl | refine And.intro ?_ ?_)
    all_goals (try (first | rfl | omega | (simp; first | done | omega)))
  conv => whnf
  refine ⟨?_, True.intro⟩
  rintro tl ht
  conv => whnf
  change List Int at tl
  have EN := enc_f N (by omega) (by omega) s tl (by omega)
  conv => whnf
  repeat (first
    | (refine And.intro ?_ ?_; (focus (first | omega | decide | exact EqOk.mk (by kernel_rfl) (by kernel_rfl) (by kernel_rfl) | exact Int.natCast_nonneg _ | ((repeat' refine And.intro ?_ ?_) <;> first | omega | exact Int.natCast_nonneg _ | (simp only [i64max, u8max, u16max, u32max, u64max]; omega) | (simp only [mulSz_eq, Cont.len, colsLen, Col.len, List.length_cons, List.length_nil, List.length_replicate, List.length_append]; first | done | omega) | (simp [mulSz, Cont.len, bne]; first | done | omega)))); conv => whnf)
    | (refine tst_in ?_ ?_; (focus (intro h_; exfalso; first | omega | ((try simp only [decide_eq_true_eq, decide_eq_false_iff_not] at h_); omega) | (simp [mulSz, Cont.len, bne] at h_; first | done | omega))); intro _; conv => whnf)
    | (refine tst_in ?_ ?_; rotate_left; (focus (intro h_; exfalso; first | omega | ((try simp only [decide_eq_true_eq, decide_eq_false_iff_not] at h_); omega) | (simp [mulSz, Cont.len, bne] at h_; first | done | omega))); intro _; conv => whnf)
    | (refine ⟨0, (show _ = _ by omega), ?_⟩; conv => whnf))
  refine ⟨_, [0, 1, 2], EN, ?_⟩
  conv => whnf
  iterate 2
   refine And.intro ?_ ?_
   focus
    conv => whnf
    repeat' (first | exact True.intro | rfl | refine And.intro ?_ ?_ | omega)
    all_goals (conv => whnf)
    all_goals (try (first | rfl | omega | (simp; done)))
  conv => whnf
  refine ⟨?_, True.intro⟩
  intro _ _
  conv => whnf
  conv => whnf
  repeat (first
    | (refine And.intro ?_ ?_; (focus (first | omega | decide | exact EqOk.mk (by kernel_rfl) (by kernel_rfl) (by kernel_rfl) | exact Int.natCast_nonneg _ | ((repeat' refine And.intro ?_ ?_) <;> first | omega | exact Int.natCast_nonneg _ | (simp only [i64max, u8max, u16max, u32max, u64max]; omega) | (simp only [mulSz_eq, Cont.len, colsLen, Col.len, List.length_cons, List.length_nil, List.length_replicate, List.length_append, tab_len]; first | done | omega) | (simp [mulSz, Cont.len, bne, tab_len]; first | done | omega)))); conv => whnf)
    | (refine tst_in ?_ ?_; (focus (intro h_; exfalso; first | omega | ((try simp only [decide_eq_true_eq, decide_eq_false_iff_not] at h_); omega) | (simp [mulSz, Cont.len, bne, tab_len] at h_; first | done | omega))); intro _; conv => whnf)
    | (refine tst_in ?_ ?_; rotate_left; (focus (intro h_; exfalso; first | omega | ((try simp only [decide_eq_true_eq, decide_eq_false_iff_not] at h_); omega) | (simp [mulSz, Cont.len, bne, tab_len] at h_; first | done | omega))); intro _; conv => whnf)
    | (refine ⟨0, (show _ = _ by omega), ?_⟩; conv => whnf))
  rw [take_tb2]
  refine ⟨by (show s.size + (tx (tb (encF N s s.size) N)).size ≤ _; rw [tx_size, tab_len]; omega), ?_⟩
  conv => whnf
  repeat (first
    | (refine And.intro ?_ ?_; (focus (first | omega | decide | exact EqOk.mk (by kernel_rfl) (by kernel_rfl) (by kernel_rfl) | exact Int.natCast_nonneg _ | ((repeat' refine And.intro ?_ ?_) <;> first | omega | exact Int.natCast_nonneg _ | (simp only [i64max, u8max, u16max, u32max, u64max]; omega) | (simp only [mulSz_eq, Cont.len, colsLen, Col.len, List.length_cons, List.length_nil, List.length_replicate, List.length_append]; first | done | omega) | (simp [mulSz, Cont.len, bne]; first | done | omega)))); conv => whnf)
    | (refine tst_in ?_ ?_; (focus (intro h_; exfalso; first | omega | ((try simp only [decide_eq_true_eq, decide_eq_false_iff_not] at h_); omega) | (simp [mulSz, Cont.len, bne] at h_; first | done | omega))); intro _; conv => whnf)
    | (refine tst_in ?_ ?_; rotate_left; (focus (intro h_; exfalso; first | omega | ((try simp only [decide_eq_true_eq, decide_eq_false_iff_not] at h_); omega) | (simp [mulSz, Cont.len, bne] at h_; first | done | omega))); intro _; conv => whnf)
    | (refine ⟨0, (show _ = _ by omega), ?_⟩; conv => whnf))
  refine .inl ⟨(), [], ?_⟩
  conv => whnf
  repeat' (first | exact True.intro | rfl | refine And.intro ?_ ?_)
  all_goals (conv => whnf)
  repeat' (first | exact True.intro | rfl | refine And.intro ?_ ?_)
  all_goals (try omega)
theorem codeW_size (N : Nat) (s : ByteArray) : (codeW N s).size = s.size + N := by unfold codeW; rw [ByteArray.size_append, tx_size, tab_len]
theorem chk_yes {n r : Int} (h : 2 ≤ r ∧ r ≤ 64 ∧ r % 2 = 0 ∧ r < n ∧ n ≤ 255) : chkV n r = 0 := by
  unfold chkV; rw [if_pos ⟨okR_iff.2 ⟨h.1, h.2.1, h.2.2.1⟩, by simp [okN]; omega⟩]
noncomputable def k13 : Code := (Try.f10.body).getD .skip
set_option maxHeartbeats 0 in
set_option maxRecDepth 100000 in
theorem Whole_y (N : Nat) (s : ByteArray) (h : okR (N : Int) = true) (h1 : N < s.size) (h2 : s.size ≤ 255) :
    Fits Try.prog 10 ⟨[.str s, .int .i64 N], [], [numOut [] (.tup [.bool ((codeW N (s.extract 0 (s.size - N))).toList == s.toList), .int .i64 0])]⟩ := by
  obtain ⟨r1, r2, r3⟩ := okR_iff.1 h
  have CK := Check_q (s.size : Int) (N : Int)
  rw [chk_yes ⟨r1, r2, r3, by omega, by omega⟩] at CK
  have CH := checking_f N h
  unfold chkOut at CH
  have hsz : (s.extract 0 (s.size - N)).size = s.size - N := by rw [ByteArray.size_extract]; omega
  refine fits_of_body (C := cfgN 0) (c := k13) (ts := [4, 5]) tokL mixedL (fun _ => none) (fun _ => none)
    Try.func10 (by kernel_rfl) (by kernel_rfl) (by kernel_rfl) (by kernel_rfl) rfl ?_
  conv => whnf
  repeat (first
    | (refine And.intro ?_ ?_; (focus (first | omega | decide | exact EqOk.mk (by kernel_rfl) (by kernel_rfl) (by kernel_rfl) | exact Int.natCast_nonneg _ | ((repeat' refine And.intro ?_ ?_) <;> first | omega | exact Int.natCast_nonneg _ | (simp only [i64max, u8max, u16max, u32max, u64max]; omega) | (simp only [mulSz_eq, Cont.len, colsLen, Col.len, List.length_cons, List.length_nil, List.length_replicate, List.length_append]; first | done | omega) | (simp [mulSz, Cont.len, bne]; first | done | omega)))); conv => whnf)
    | (refine tst_in ?_ ?_; (focus (intro h_; exfalso; first | omega | ((try simp only [decide_eq_true_eq, decide_eq_false_iff_not] at h_); omega) | (simp [mulSz, Cont.len, bne] at h_; first | done | omega))); intro _; conv => whnf)
    | (refine tst_in ?_ ?_; rotate_left; (focus (intro h_; exfalso; first | omega | ((try simp only [decide_eq_true_eq, decide_eq_false_iff_not] at h_); omega) | (simp [mulSz, Cont.len, bne] at h_; first | done | omega))); intro _; conv => whnf)
    | (refine ⟨0, (show _ = _ by omega), ?_⟩; conv => whnf))
  refine ⟨_, [], CK, ?_⟩
  conv => whnf
  iterate 2
   refine And.intro ?_ ?_
   focus
    conv => whnf
    repeat' (first | exact True.intro | rfl | refine And.intro ?_ ?_ | omega)
    all_goals (conv => whnf)
    all_goals (try (first | rfl | omega | (simp; done)))
  conv => whnf
  conv => whnf
  repeat (first
    | (refine And.intro ?_ ?_; (focus (first | omega | decide | exact EqOk.mk (by kernel_rfl) (by kernel_rfl) (by kernel_rfl) | exact Int.natCast_nonneg _ | ((repeat' refine And.intro ?_ ?_) <;> first | omega | exact Int.natCast_nonneg _ | (simp only [i64max, u8max, u16max, u32max, u64max]; omega) | (simp only [mulSz_eq, Cont.len, colsLen, Col.len, List.length_cons, List.length_nil, List.length_replicate, List.length_append]; first | done | omega) | (simp [mulSz, Cont.len, bne]; first | done | omega)))); conv => whnf)
    | (refine tst_in ?_ ?_; (focus (intro h_; exfalso; first | omega | ((try simp only [decide_eq_true_eq, decide_eq_false_iff_not] at h_); omega) | (simp [mulSz, Cont.len, bne] at h_; first | done | omega))); intro _; conv => whnf)
    | (refine tst_in ?_ ?_; rotate_left; (focus (intro h_; exfalso; first | omega | ((try simp only [decide_eq_true_eq, decide_eq_false_iff_not] at h_); omega) | (simp [mulSz, Cont.len, bne] at h_; first | done | omega))); intro _; conv => whnf)
    | (refine ⟨0, (show _ = _ by omega), ?_⟩; conv => whnf))
  refine ⟨_, [], CH, ?_⟩
  conv => whnf
  iterate 2
   refine And.intro ?_ ?_
   focus
    conv => whnf
    repeat' (first | exact True.intro | rfl | refine And.intro ?_ ?_)
    all_goals (conv => whnf)
    repeat' (first | exact True.intro | rfl | refine And.intro ?_ ?_)
    all_goals (try (first | rfl | omega | (simp; first | done | omega)))
  conv => whnf
  refine ⟨?_, True.intro⟩
  rintro tl ht
  conv => whnf
  change List Int at tl
  rw [show ((s.size : Int) - (N : Int)).toNat = s.size - N by omega]
  have EN := enc_f N (by omega) (by omega) (s.extract 0 (s.size - N)) tl (by omega)
  conv => whnf
  repeat (first
    | (refine And.intro ?_ ?_; (focus (first | omega | decide | exact EqOk.mk (by kernel_rfl) (by kernel_rfl) (by kernel_rfl) | exact Int.natCast_nonneg _ | ((repeat' refine And.intro ?_ ?_) <;> first | omega | exact Int.natCast_nonneg _ | (simp only [i64max, u8max, u16max, u32max, u64max]; omega) | (simp only [mulSz_eq, Cont.len, colsLen, Col.len, List.length_cons, List.length_nil, List.length_replicate, List.length_append]; first | done | omega) | (simp [mulSz, Cont.len, bne]; first | done | omega)))); conv => whnf)
    | (refine tst_in ?_ ?_; (focus (intro h_; exfalso; first | omega | ((try simp only [decide_eq_true_eq, decide_eq_false_iff_not] at h_); omega) | (simp [mulSz, Cont.len, bne] at h_; first | done | omega))); intro _; conv => whnf)
    | (refine tst_in ?_ ?_; rotate_left; (focus (intro h_; exfalso; first | omega | ((try simp only [decide_eq_true_eq, decide_eq_false_iff_not] at h_); omega) | (simp [mulSz, Cont.len, bne] at h_; first | done | omega))); intro _; conv => whnf)
    | (refine ⟨0, (show _ = _ by omega), ?_⟩; conv => whnf))
  refine ⟨_, [0, 1, 2], EN, ?_⟩
  conv => whnf
  iterate 2
   refine And.intro ?_ ?_
   focus
    conv => whnf
    repeat' (first | exact True.intro | rfl | refine And.intro ?_ ?_ | omega)
    all_goals (conv => whnf)
    all_goals (try (first | rfl | omega | (simp; done)))
  conv => whnf
  refine ⟨?_, True.intro⟩
  intro _ _
  conv => whnf
  conv => whnf
  repeat (first
    | (refine And.intro ?_ ?_; (focus (first | omega | decide | exact EqOk.mk (by kernel_rfl) (by kernel_rfl) (by kernel_rfl) | exact Int.natCast_nonneg _ | ((repeat' refine And.intro ?_ ?_) <;> first | omega | exact Int.natCast_nonneg _ | (simp only [i64max, u8max, u16max, u32max, u64max]; omega) | (simp only [mulSz_eq, Cont.len, colsLen, Col.len, List.length_cons, List.length_nil, List.length_replicate, List.length_append, tab_len]; first | done | omega) | (simp [mulSz, Cont.len, bne, tab_len]; first | done | omega)))); conv => whnf)
    | (refine tst_in ?_ ?_; (focus (intro h_; exfalso; first | omega | ((try simp only [decide_eq_true_eq, decide_eq_false_iff_not] at h_); omega) | (simp [mulSz, Cont.len, bne, tab_len] at h_; first | done | omega))); intro _; conv => whnf)
    | (refine tst_in ?_ ?_; rotate_left; (focus (intro h_; exfalso; first | omega | ((try simp only [decide_eq_true_eq, decide_eq_false_iff_not] at h_); omega) | (simp [mulSz, Cont.len, bne, tab_len] at h_; first | done | omega))); intro _; conv => whnf)
    | (refine ⟨0, (show _ = _ by omega), ?_⟩; conv => whnf))
  rw [take_tb2]
  refine ⟨by (show (s.extract 0 (s.size - N)).size + (tx (tb (encF N (s.extract 0 (s.size - N)) (s.extract 0 (s.size - N)).size) N)).size ≤ _; rw [tx_size, tab_len]; omega), ?_⟩
  conv => whnf
  repeat (first
    | (refine And.intro ?_ ?_; (focus (first | omega | decide | exact EqOk.mk (by kernel_rfl) (by kernel_rfl) (by kernel_rfl) | exact Int.natCast_nonneg _ | ((repeat' refine And.intro ?_ ?_) <;> first | omega | exact Int.natCast_nonneg _ | (simp only [i64max, u8max, u16max, u32max, u64max]; omega) | (simp only [mulSz_eq, Cont.len, colsLen, Col.len, List.length_cons, List.length_nil, List.length_replicate, List.length_append]; first | done | omega) | (simp [mulSz, Cont.len, bne]; first | done | omega)))); conv => whnf)
    | (refine tst_in ?_ ?_; (focus (intro h_; exfalso; first | omega | ((try simp only [decide_eq_true_eq, decide_eq_false_iff_not] at h_); omega) | (simp [mulSz, Cont.len, bne] at h_; first | done | omega))); intro _; conv => whnf)
    | (refine tst_in ?_ ?_; rotate_left; (focus (intro h_; exfalso; first | omega | ((try simp only [decide_eq_true_eq, decide_eq_false_iff_not] at h_); omega) | (simp [mulSz, Cont.len, bne] at h_; first | done | omega))); intro _; conv => whnf)
    | (refine ⟨0, (show _ = _ by omega), ?_⟩; conv => whnf))
  refine .inl ⟨(), [], ?_⟩
  conv => whnf
  repeat' (first | exact True.intro | rfl | refine And.intro ?_ ?_)
  all_goals (conv => whnf)
  repeat' (first | exact True.intro | rfl | refine And.intro ?_ ?_)
  all_goals (try omega)
theorem toList_inj {a b : ByteArray} : a.toList = b.toList ↔ a = b := by
  rw [ByteArray.toList_eq, ByteArray.toList_eq]
  constructor
  · intro h
    exact ByteArray.ext (Array.toList_inj.1 h)
  · rintro rfl; rfl
theorem beq_bytes (a b : ByteArray) : (a.toList == b.toList) = decide (a = b) := by
  rw [Bool.eq_iff_iff, beq_iff_eq, decide_eq_true_eq, toList_inj]
noncomputable def k9 : Code := (Try.f4.body).getD .skip
theorem works_code : codeW 2 ⟨#[1]⟩ = ⟨#[1, 3, 2]⟩ := by
  apply ByteArray.ext
  kernel_rfl
set_option maxHeartbeats 0 in
set_option maxRecDepth 100000 in
theorem awake_f : Fits Try.prog 4 ⟨[], [], [⟨Unit, fun _ => True, fun _ => .bool true, fun _ => []⟩]⟩ := by
  have h2 : okR ((2 : Nat) : Int) = true := rfl
  have E := Encode_y 2 ⟨#[1]⟩ h2 (by decide) (by decide)
  rw [works_code] at E
  have W1 := Whole_y 2 ⟨#[1, 3, 2]⟩ h2 (by decide) (by decide)
  rw [show (ByteArray.mk #[1, 3, 2]).extract 0 ((ByteArray.mk #[1, 3, 2]).size - 2) = ⟨#[1]⟩ from rfl, works_code, show ((ByteArray.mk #[1, 3, 2]).toList == (ByteArray.mk #[1, 3, 2]).toList) = true by rw [beq_bytes]; simp] at W1
  have W2 := Whole_y 2 ⟨#[1, 3, 3]⟩ h2 (by decide) (by decide)
  rw [show (ByteArray.mk #[1, 3, 3]).extract 0 ((ByteArray.mk #[1, 3, 3]).size - 2) = ⟨#[1]⟩ from rfl, works_code, show ((ByteArray.mk #[1, 3, 2]).toList == (ByteArray.mk #[1, 3, 3]).toList) = false by rw [beq_bytes]; decide] at W2
  refine fits_of_body (C := cfgN 0) (c := k9) (ts := [0]) tokL mixedL (fun _ => none) (fun _ => none)
    Try.func4 (by kernel_rfl) (by kernel_rfl) (by kernel_rfl) (by kernel_rfl) rfl ?_
  conv => whnf
  repeat (first
    | (refine And.intro ?_ ?_; (focus (first | omega | decide | exact EqOk.mk (by kernel_rfl) (by kernel_rfl) (by kernel_rfl) | exact Int.natCast_nonneg _ | ((repeat' refine And.intro ?_ ?_) <;> first | omega | exact Int.natCast_nonneg _ | (simp only [i64max, u8max, u16max, u32max, u64max]; omega) | (simp only [mulSz_eq, Cont.len, colsLen, Col.len, List.length_cons, List.length_nil, List.length_replicate, List.length_append]; first | done | omega) | (simp [mulSz, Cont.len, bne]; first | done | omega)))); conv => whnf)
    | (refine tst_in ?_ ?_; (focus (intro h_; exfalso; first | omega | ((try simp only [decide_eq_true_eq, decide_eq_false_iff_not] at h_); omega) | (simp [mulSz, Cont.len, bne] at h_; first | done | omega))); intro _; conv => whnf)
    | (refine tst_in ?_ ?_; rotate_left; (focus (intro h_; exfalso; first | omega | ((try simp only [decide_eq_true_eq, decide_eq_false_iff_not] at h_); omega) | (simp [mulSz, Cont.len, bne] at h_; first | done | omega))); intro _; conv => whnf)
    | (refine ⟨0, (show _ = _ by omega), ?_⟩; conv => whnf))
  refine ⟨_, [], E, ?_⟩
  conv => whnf
  iterate 2
   refine And.intro ?_ ?_
   focus
    conv => whnf
    repeat' (first | exact True.intro | rfl | refine And.intro ?_ ?_ | omega)
    all_goals (conv => whnf)
    all_goals (try (first | rfl | omega | (simp; done)))
  conv => whnf
  refine ⟨?_, True.intro⟩
  intro _ _
  conv => whnf
  conv => whnf
  repeat (first
    | (refine And.intro ?_ ?_; (focus (first | omega | decide | exact EqOk.mk (by kernel_rfl) (by kernel_rfl) (by kernel_rfl) | exact Int.natCast_nonneg _ | ((repeat' refine And.intro ?_ ?_) <;> first | omega | exact Int.natCast_nonneg _ | (simp only [i64max, u8max, u16max, u32max, u64max]; omega) | (simp only [mulSz_eq, Cont.len, colsLen, Col.len, List.length_cons, List.length_nil, List.length_replicate, List.length_append]; first | done | omega) | (simp [mulSz, Cont.len, bne]; first | done | omega)))); conv => whnf)
    | (refine tst_in ?_ ?_; (focus (intro h_; exfalso; first | omega | ((try simp only [decide_eq_true_eq, decide_eq_false_iff_not] at h_); omega) | (simp [mulSz, Cont.len, bne] at h_; first | done | omega))); intro _; conv => whnf)
    | (refine tst_in ?_ ?_; rotate_left; (focus (intro h_; exfalso; first | omega | ((try simp only [decide_eq_true_eq, decide_eq_false_iff_not] at h_); omega) | (simp [mulSz, Cont.len, bne] at h_; first | done | omega))); intro _; conv => whnf)
    | (refine ⟨0, (show _ = _ by omega), ?_⟩; conv => whnf))
  refine ⟨_, [], W1, ?_⟩
  conv => whnf
  iterate 2
   refine And.intro ?_ ?_
   focus
    conv => whnf
    repeat' (first | exact True.intro | rfl | refine And.intro ?_ ?_ | omega)
    all_goals (conv => whnf)
    all_goals (try (first | rfl | omega | (simp; done)))
  conv => whnf
  refine ⟨?_, True.intro⟩
  intro _ _
  conv => whnf
  conv => whnf
  repeat (first
    | (refine And.intro ?_ ?_; (focus (first | omega | decide | exact EqOk.mk (by kernel_rfl) (by kernel_rfl) (by kernel_rfl) | exact Int.natCast_nonneg _ | ((repeat' refine And.intro ?_ ?_) <;> first | omega | exact Int.natCast_nonneg _ | (simp only [i64max, u8max, u16max, u32max, u64max]; omega) | (simp only [mulSz_eq, Cont.len, colsLen, Col.len, List.length_cons, List.length_nil, List.length_replicate, List.length_append]; first | done | omega) | (simp [mulSz, Cont.len, bne]; first | done | omega)))); conv => whnf)
    | (refine tst_in ?_ ?_; (focus (intro h_; exfalso; first | omega | ((try simp only [decide_eq_true_eq, decide_eq_false_iff_not] at h_); omega) | (simp [mulSz, Cont.len, bne] at h_; first | done | omega))); intro _; conv => whnf)
    | (refine tst_in ?_ ?_; rotate_left; (focus (intro h_; exfalso; first | omega | ((try simp only [decide_eq_true_eq, decide_eq_false_iff_not] at h_); omega) | (simp [mulSz, Cont.len, bne] at h_; first | done | omega))); intro _; conv => whnf)
    | (refine ⟨0, (show _ = _ by omega), ?_⟩; conv => whnf))
  refine ⟨_, [], W2, ?_⟩
  conv => whnf
  iterate 2
   refine And.intro ?_ ?_
   focus
    conv => whnf
    repeat' (first | exact True.intro | rfl | refine And.intro ?_ ?_ | omega)
    all_goals (conv => whnf)
    all_goals (try (first | rfl | omega | (simp; done)))
  conv => whnf
  refine ⟨?_, True.intro⟩
  intro _ _
  conv => whnf
  conv => whnf
  repeat (first
    | (refine And.intro ?_ ?_; (focus (first | omega | decide | exact EqOk.mk (by kernel_rfl) (by kernel_rfl) (by kernel_rfl) | exact Int.natCast_nonneg _ | ((repeat' refine And.intro ?_ ?_) <;> first | omega | exact Int.natCast_nonneg _ | (simp only [i64max, u8max, u16max, u32max, u64max]; omega) | (simp only [mulSz_eq, Cont.len, colsLen, Col.len, List.length_cons, List.length_nil, List.length_replicate, List.length_append]; first | done | omega) | (simp [mulSz, Cont.len, bne]; first | done | omega)))); conv => whnf)
    | (refine tst_in ?_ ?_; (focus (intro h_; exfalso; first | omega | ((try simp only [decide_eq_true_eq, decide_eq_false_iff_not] at h_); omega) | (simp [mulSz, Cont.len, bne] at h_; first | done | omega))); intro _; conv => whnf)
    | (refine tst_in ?_ ?_; rotate_left; (focus (intro h_; exfalso; first | omega | ((try simp only [decide_eq_true_eq, decide_eq_false_iff_not] at h_); omega) | (simp [mulSz, Cont.len, bne] at h_; first | done | omega))); intro _; conv => whnf)
    | (refine ⟨0, (show _ = _ by omega), ?_⟩; conv => whnf))
  refine .inl ⟨(), [], ?_⟩
  conv => whnf
  repeat' (first | exact True.intro | rfl | refine And.intro ?_ ?_)
  all_goals (conv => whnf)
  repeat' (first | exact True.intro | rfl | refine And.intro ?_ ?_)
  all_goals (try omega)

/-- Bytes as numbers. -/
def bytL (s : ByteArray) : List Int := s.data.toList.map (fun b => (b.toNat : Int))
theorem bytL_len (s : ByteArray) : (bytL s).length = s.size := by unfold bytL; rw [List.length_map]; rfl
theorem bytL_inj {a b : ByteArray} (h : bytL a = bytL b) : a = b := by
  unfold bytL at h
  refine ByteArray.ext (Array.toList_inj.1 (List.map_inj_right (f := fun b : UInt8 => (b.toNat : Int)) ?_ |>.1 h))
  intro x y hxy
  exact UInt8.toNat_inj.1 (by have : (x.toNat : Int) = (y.toNat : Int) := hxy; omega)
theorem bytL_app (a b : ByteArray) : bytL (a ++ b) = bytL a ++ bytL b := by
  unfold bytL
  rw [ByteArray.toList_data_append, List.map_append]
theorem bytL_tx (l : List Int) (h : ∀ x ∈ l, 0 ≤ x ∧ x < 256) : bytL (tx l) = l := by
  unfold bytL tx
  show (l.map _).map _ = l
  rw [List.map_map]
  conv => rhs; rw [← List.map_id l]
  refine List.map_congr_left fun x hx => ?_
  have := h x hx
  simp only [Function.comp_apply, id_eq, UInt8.toNat_ofNat']
  omega
theorem bytL_extract (s : ByteArray) (a b : Nat) : bytL (s.extract a b) = ((bytL s).drop a).take (b - a) := by
  unfold bytL
  rw [ByteArray.data_extract, Array.toList_extract, List.extract_eq_take_drop, List.map_take, List.map_drop]
/-- Noughts. -/
def zer (m : Nat) : ByteArray := tx (List.replicate m 0)
theorem zer_size (m : Nat) : (zer m).size = m := by unfold zer; rw [tx_size, List.length_replicate]
theorem zer_of (m : Nat) : (⟨⟨List.map (fun n => UInt8.ofNat n.toNat) (List.take ((m : Int)).toNat (List.drop 0 (List.replicate ((m : Int)).toNat (0 : Int))))⟩⟩ : ByteArray) = zer m := by
  show tx _ = tx _
  rw [List.drop_zero, List.take_of_length_le (by rw [List.length_replicate]; exact Nat.le_refl _), Int.toNat_natCast]
theorem eqSelf (b : ByteArray) : (b.toList == b.toList) = true := by rw [beq_bytes]; simp

/-- The numbers of the field. -/
structure G where
  v : Nat
  lt : v < 256
def g1 : G := ⟨1, by decide⟩

theorem code_data (N : Nat) (s : ByteArray) : (codeW N s).extract 0 s.size = s := by
  apply bytL_inj
  rw [bytL_extract, List.drop_zero]
  unfold codeW
  rw [bytL_app]
  exact List.take_left' (by rw [bytL_len]; omega)
def qf2 : Nat → Bool := fun f => match f with | 1000023 => true    | 9 => true   | 11 => true   | 12 => true | 22 => true | 20 => true | 23 => true | 24 => true  | _ => false
def cfgM (k : Nat) : Cfg := { cfgN k with sgn := fun _ => false, q := qf2 }
/-- The cells of the closure that reckons checks (the first of them has name a), and the row behind them. -/
noncomputable def chkS (N : Nat) (tl : List Int) : List Seg := [.seg false (.avs [.fn 19 [.ptr 2 0, .ptr 3 0]]), .seg false (.avs [.int .i64 N]), .seg false (.avs [.slice 4 1 N (N + tl.length)]), .seg false (.ints .u8 (tb (fun k => gN N (N + 1 - 1 - k)) (N + 1) ++ tl))]
noncomputable def k33 : Code := (Try.f15.body).getD .skip
def plan33 : PlanN := .op 1 (.op 2 (.op 3 (.rd 0 (.op 4 (.chk [0] (.op 5 (.op 6 (.op 7 (.chk [0] (.op 8 (.op 9 .done)))))))))))
def cfg33 (k : Nat) : Cfg := { cfgM k with plan := fun | 0 => some (.nn plan33) | _ => none }
set_option maxHeartbeats 0 in
set_option maxRecDepth 100000 in
theorem put_f (N : Nat) (hN : 2 ≤ N) (hN2 : N ≤ 64) (s : ByteArray) (tl : List Int) (W : Nat → ByteArray) (c : Nat) (u : List ByteArray) (hs : s.size ≤ 255) (hc : c ≤ 65536) (hW : W c = codeW N s) (h0 : 0 < c) :
    Fits Try.prog 15 ⟨[.str s, .ptr 0 0, .ptr 1 0], .seg true (.avs [.slice 5 0 c (c + u.length)]) :: chkS N tl ++ [.seg true (.strs (tb W c ++ u))],
      [⟨List ByteArray, fun _ => True, fun _ => .tup [], fun u => [.seg true (.avs [.slice 6 0 (c + 1) (c + 1 + u.length)]), .dead, .dead, .dead, .dead, .dead, .seg true (.strs (tb W (c + 1) ++ u))]⟩]⟩ := by
  have EN := enc_f N hN hN2 s tl (by omega)
  unfold chkS
  refine fits_of_body (C := cfg33 6) (c := k33) (ts := []) tokL mixedL (fun _ => none) (fun _ => none)
    Try.func15 (by kernel_rfl) (by kernel_rfl) (by kernel_rfl) (by kernel_rfl) rfl ?_
  conv => whnf
  repeat (first
    | (refine And.intro ?_ ?_; (focus (first | omega | decide | exact EqOk.mk (by kernel_rfl) (by kernel_rfl) (by kernel_rfl) | exact Int.natCast_nonneg _ | ((repeat' refine And.intro ?_ ?_) <;> first | omega | exact Int.natCast_nonneg _ | (simp only [i64max, u8max, u16max, u32max, u64max]; omega) | (simp only [mulSz_eq, Cont.len, colsLen, Col.len, List.length_cons, List.length_nil, List.length_replicate, List.length_append]; first | done | omega) | (simp [mulSz, Cont.len, bne]; first | done | omega)))); conv => whnf)
    | (refine tst_in ?_ ?_; (focus (intro h_; exfalso; first | omega | ((try simp only [decide_eq_true_eq, decide_eq_false_iff_not] at h_); omega) | (simp [mulSz, Cont.len, bne] at h_; first | done | omega))); intro _; conv => whnf)
    | (refine tst_in ?_ ?_; rotate_left; (focus (intro h_; exfalso; first | omega | ((try simp only [decide_eq_true_eq, decide_eq_false_iff_not] at h_); omega) | (simp [mulSz, Cont.len, bne] at h_; first | done | omega))); intro _; conv => whnf)
    | (refine ⟨0, (show _ = _ by omega), ?_⟩; conv => whnf))
  refine ⟨_, [2, 3, 4], EN, ?_⟩
  conv => whnf
  iterate 2
   refine And.intro ?_ ?_
   focus
    conv => whnf
    repeat' (first | exact True.intro | rfl | refine And.intro ?_ ?_ | omega)
    all_goals (conv => whnf)
    all_goals (try (first | rfl | omega | (simp; done)))
  conv => whnf
  refine ⟨?_, True.intro⟩
  intro _ _
  conv => whnf
  conv => whnf
  repeat (first
    | (refine And.intro ?_ ?_; (focus (first | omega | decide | exact EqOk.mk (by kernel_rfl) (by kernel_rfl) (by kernel_rfl) | exact Int.natCast_nonneg _ | ((repeat' refine And.intro ?_ ?_) <;> first | omega | exact Int.natCast_nonneg _ | (simp only [i64max, u8max, u16max, u32max, u64max]; omega) | (simp only [mulSz_eq, Cont.len, colsLen, Col.len, List.length_cons, List.length_nil, List.length_replicate, List.length_append, tab_len]; first | done | omega) | (simp [mulSz, Cont.len, bne, tab_len]; first | done | omega)))); conv => whnf)
    | (refine tst_in ?_ ?_; (focus (intro h_; exfalso; first | omega | ((try simp only [decide_eq_true_eq, decide_eq_false_iff_not] at h_); omega) | (simp [mulSz, Cont.len, bne, tab_len] at h_; first | done | omega))); intro _; conv => whnf)
    | (refine tst_in ?_ ?_; rotate_left; (focus (intro h_; exfalso; first | omega | ((try simp only [decide_eq_true_eq, decide_eq_false_iff_not] at h_); omega) | (simp [mulSz, Cont.len, bne, tab_len] at h_; first | done | omega))); intro _; conv => whnf)
    | (refine ⟨0, (show _ = _ by omega), ?_⟩; conv => whnf))
  rw [take_tb2]
  refine ⟨by (show s.size + (tx (tb (encF N s s.size) N)).size ≤ _; rw [tx_size, tab_len]; omega), ?_⟩
  conv => whnf
  repeat (first
    | (refine And.intro ?_ ?_; (focus (first | omega | decide | exact EqOk.mk (by kernel_rfl) (by kernel_rfl) (by kernel_rfl) | exact Int.natCast_nonneg _ | ((repeat' refine And.intro ?_ ?_) <;> first | omega | exact Int.natCast_nonneg _ | (simp only [i64max, u8max, u16max, u32max, u64max]; omega) | (simp only [mulSz_eq, Cont.len, colsLen, Col.len, List.length_cons, List.length_nil, List.length_replicate, List.length_append, tab_len]; first | done | omega) | (simp [mulSz, Cont.len, bne, tab_len]; first | done | omega)))); conv => whnf)
    | (refine tst_in ?_ ?_; (focus (intro h_; exfalso; first | omega | ((try simp only [decide_eq_true_eq, decide_eq_false_iff_not] at h_); omega) | (simp [mulSz, Cont.len, bne, tab_len] at h_; first | done | omega))); intro _; conv => whnf)
    | (refine tst_in ?_ ?_; rotate_left; (focus (intro h_; exfalso; first | omega | ((try simp only [decide_eq_true_eq, decide_eq_false_iff_not] at h_); omega) | (simp [mulSz, Cont.len, bne, tab_len] at h_; first | done | omega))); intro _; conv => whnf)
    | (refine ⟨0, (show _ = _ by omega), ?_⟩; conv => whnf))
  intro u1
  change List ByteArray at u1
  conv => whnf
  repeat (first
    | (refine And.intro ?_ ?_; (focus (first | omega | decide | exact EqOk.mk (by kernel_rfl) (by kernel_rfl) (by kernel_rfl) | exact Int.natCast_nonneg _ | ((repeat' refine And.intro ?_ ?_) <;> first | omega | exact Int.natCast_nonneg _ | (simp only [i64max, u8max, u16max, u32max, u64max]; omega) | (simp only [mulSz_eq, Cont.len, colsLen, Col.len, List.length_cons, List.length_nil, List.length_replicate, List.length_append, tab_len]; first | done | omega) | (simp [mulSz, Cont.len, bne, tab_len]; first | done | omega)))); conv => whnf)
    | (refine tst_in ?_ ?_; (focus (intro h_; exfalso; first | omega | ((try simp only [decide_eq_true_eq, decide_eq_false_iff_not] at h_); omega) | (simp [mulSz, Cont.len, bne, tab_len] at h_; first | done | omega))); intro _; conv => whnf)
    | (refine tst_in ?_ ?_; rotate_left; (focus (intro h_; exfalso; first | omega | ((try simp only [decide_eq_true_eq, decide_eq_false_iff_not] at h_); omega) | (simp [mulSz, Cont.len, bne, tab_len] at h_; first | done | omega))); intro _; conv => whnf)
    | (refine ⟨0, (show _ = _ by omega), ?_⟩; conv => whnf))
  refine .inl ⟨u1, [0, 1, 2, 3, 4, 5, 8], ?_⟩
  conv => whnf
  repeat' (first | exact True.intro | rfl | refine And.intro ?_ ?_)
  all_goals (conv => whnf)
  repeat' (first | exact True.intro | rfl | refine And.intro ?_ ?_)
  all_goals (try omega)
  show tb W (c + 1) ++ u1 = List.take c (List.drop 0 (tb W c ++ u)) ++ [codeW N s] ++ u1
  rw [take_tb2, ← hW, tab_snoc]
set_option maxHeartbeats 0 in
set_option maxRecDepth 100000 in
theorem put0_f (N : Nat) (hN : 2 ≤ N) (hN2 : N ≤ 64) (s : ByteArray) (tl : List Int) (W : Nat → ByteArray) (hs : s.size ≤ 255) (hW : W 0 = codeW N s) :
    Fits Try.prog 15 ⟨[.str s, .ptr 0 0, .ptr 1 0], .seg true (.avs [.nils]) :: chkS N tl,
      [⟨List ByteArray, fun _ => True, fun _ => .tup [], fun u => [.seg true (.avs [.slice 5 0 1 (1 + u.length)]), .dead, .dead, .dead, .dead, .seg true (.strs (tb W 1 ++ u))]⟩]⟩ := by
  have EN := enc_f N hN hN2 s tl (by omega)
  unfold chkS
  refine fits_of_body (C := cfg33 5) (c := k33) (ts := []) tokL mixedL (fun _ => none) (fun _ => none)
    Try.func15 (by kernel_rfl) (by kernel_rfl) (by kernel_rfl) (by kernel_rfl) rfl ?_
  conv => whnf
  repeat (first
    | (refine And.intro ?_ ?_; (focus (first | omega | decide | exact EqOk.mk (by kernel_rfl) (by kernel_rfl) (by kernel_rfl) | exact Int.natCast_nonneg _ | ((repeat' refine And.intro ?_ ?_) <;> first | omega | exact Int.natCast_nonneg _ | (simp only [i64max, u8max, u16max, u32max, u64max]; omega) | (simp only [mulSz_eq, Cont.len, colsLen, Col.len, List.length_cons, List.length_nil, List.length_replicate, List.length_append]; first | done | omega) | (simp [mulSz, Cont.len, bne]; first | done | omega)))); conv => whnf)
    | (refine tst_in ?_ ?_; (focus (intro h_; exfalso; first | omega | ((try simp only [decide_eq_true_eq, decide_eq_false_iff_not] at h_); omega) | (simp [mulSz, Cont.len, bne] at h_; first | done | omega))); intro _; conv => whnf)
    | (refine tst_in ?_ ?_; rotate_left; (focus (intro h_; exfalso; first | omega | ((try simp only [decide_eq_true_eq, decide_eq_false_iff_not] at h_); omega) | (simp [mulSz, Cont.len, bne] at h_; first | done | omega))); intro _; conv => whnf)
    | (refine ⟨0, (show _ = _ by omega), ?_⟩; conv => whnf))
  refine ⟨_, [2, 3, 4], EN, ?_⟩
  conv => whnf
  iterate 2
   refine And.intro ?_ ?_
   focus
    conv => whnf
    repeat' (first | exact True.intro | rfl | refine And.intro ?_ ?_ | omega)
    all_goals (conv => whnf)
    all_goals (try (first | rfl | omega | (simp; done)))
  conv => whnf
  refine ⟨?_, True.intro⟩
  intro _ _
  conv => whnf
  conv => whnf
  repeat (first
    | (refine And.intro ?_ ?_; (focus (first | omega | decide | exact EqOk.mk (by kernel_rfl) (by kernel_rfl) (by kernel_rfl) | exact Int.natCast_nonneg _ | ((repeat' refine And.intro ?_ ?_) <;> first | omega | exact Int.natCast_nonneg _ | (simp only [i64max, u8max, u16max, u32max, u64max]; omega) | (simp only [mulSz_eq, Cont.len, colsLen, Col.len, List.length_cons, List.length_nil, List.length_replicate, List.length_append, tab_len]; first | done | omega) | (simp [mulSz, Cont.len, bne, tab_len]; first | done | omega)))); conv => whnf)
    | (refine tst_in ?_ ?_; (focus (intro h_; exfalso; first | omega | ((try simp only [decide_eq_true_eq, decide_eq_false_iff_not] at h_); omega) | (simp [mulSz, Cont.len, bne, tab_len] at h_; first | done | omega))); intro _; conv => whnf)
    | (refine tst_in ?_ ?_; rotate_left; (focus (intro h_; exfalso; first | omega | ((try simp only [decide_eq_true_eq, decide_eq_false_iff_not] at h_); omega) | (simp [mulSz, Cont.len, bne, tab_len] at h_; first | done | omega))); intro _; conv => whnf)
    | (refine ⟨0, (show _ = _ by omega), ?_⟩; conv => whnf))
  rw [take_tb2]
  refine ⟨by (show s.size + (tx (tb (encF N s s.size) N)).size ≤ _; rw [tx_size, tab_len]; omega), ?_⟩
  conv => whnf
  repeat (first
    | (refine And.intro ?_ ?_; (focus (first | omega | decide | exact EqOk.mk (by kernel_rfl) (by kernel_rfl) (by kernel_rfl) | exact Int.natCast_nonneg _ | ((repeat' refine And.intro ?_ ?_) <;> first | omega | exact Int.natCast_nonneg _ | (simp only [i64max, u8max, u16max, u32max, u64max]; omega) | (simp only [mulSz_eq, Cont.len, colsLen, Col.len, List.length_cons, List.length_nil, List.length_replicate, List.length_append, tab_len]; first | done | omega) | (simp [mulSz, Cont.len, bne, tab_len]; first | done | omega)))); conv => whnf)
    | (refine tst_in ?_ ?_; (focus (intro h_; exfalso; first | omega | ((try simp only [decide_eq_true_eq, decide_eq_false_iff_not] at h_); omega) | (simp [mulSz, Cont.len, bne, tab_len] at h_; first | done | omega))); intro _; conv => whnf)
    | (refine tst_in ?_ ?_; rotate_left; (focus (intro h_; exfalso; first | omega | ((try simp only [decide_eq_true_eq, decide_eq_false_iff_not] at h_); omega) | (simp [mulSz, Cont.len, bne, tab_len] at h_; first | done | omega))); intro _; conv => whnf)
    | (refine ⟨0, (show _ = _ by omega), ?_⟩; conv => whnf))
  intro u1
  change List ByteArray at u1
  conv => whnf
  repeat (first
    | (refine And.intro ?_ ?_; (focus (first | omega | decide | exact EqOk.mk (by kernel_rfl) (by kernel_rfl) (by kernel_rfl) | exact Int.natCast_nonneg _ | ((repeat' refine And.intro ?_ ?_) <;> first | omega | exact Int.natCast_nonneg _ | (simp only [i64max, u8max, u16max, u32max, u64max]; omega) | (simp only [mulSz_eq, Cont.len, colsLen, Col.len, List.length_cons, List.length_nil, List.length_replicate, List.length_append, tab_len]; first | done | omega) | (simp [mulSz, Cont.len, bne, tab_len]; first | done | omega)))); conv => whnf)
    | (refine tst_in ?_ ?_; (focus (intro h_; exfalso; first | omega | ((try simp only [decide_eq_true_eq, decide_eq_false_iff_not] at h_); omega) | (simp [mulSz, Cont.len, bne, tab_len] at h_; first | done | omega))); intro _; conv => whnf)
    | (refine tst_in ?_ ?_; rotate_left; (focus (intro h_; exfalso; first | omega | ((try simp only [decide_eq_true_eq, decide_eq_false_iff_not] at h_); omega) | (simp [mulSz, Cont.len, bne, tab_len] at h_; first | done | omega))); intro _; conv => whnf)
    | (refine ⟨0, (show _ = _ by omega), ?_⟩; conv => whnf))
  refine .inl ⟨u1, [0, 1, 2, 3, 4, 7], ?_⟩
  conv => whnf
  repeat' (first | exact True.intro | rfl | refine And.intro ?_ ?_)
  all_goals (conv => whnf)
  repeat' (first | exact True.intro | rfl | refine And.intro ?_ ?_)
  all_goals (try omega)
  show tb W 1 ++ u1 = [codeW N s] ++ u1
  rw [← hW]; rfl

/-- The message's pieces, and their codewords. -/
def pieces (s : ByteArray) (L i : Nat) : ByteArray := s.extract (i * L) (min ((i + 1) * L) s.size)
noncomputable def wordsT (N : Nat) (s : ByteArray) (L i : Nat) : ByteArray := codeW N (pieces s L i)
def cnt (n L : Nat) : Nat := (n + L - 1) / L
noncomputable def k32 : Code := (Try.f14.body).getD .skip
noncomputable def hp32 (N : Nat) (s : ByteArray) (L : Nat) (tl : List Int) (u : List ByteArray) : Nat → List Seg
  | 0 => .seg true (.avs [.nils]) :: chkS N tl
  | c + 1 => .seg true (.avs [.slice 5 0 (c + 1) (c + 1 + u.length)]) :: chkS N tl ++ [.seg true (.strs (tb (wordsT N s L) (c + 1) ++ u))]
noncomputable def st32 (N : Nat) (s : ByteArray) (L : Nat) (tl : List Int) (u : List ByteArray) (c : Nat) : St :=
  ⟨slotsAt 24 [(0, .str (s.extract (c * L) s.size)), (1, .int .i64 L), (2, .fn 15 [.ptr 0 0, .ptr 1 0])], hp32 N s L tl u c⟩
noncomputable def inv32 (N : Nat) (s : ByteArray) (L : Nat) (tl : List Int) : LInv := ⟨Nat × List ByteArray, fun x => st32 N s L tl x.2 x.1, fun x => x.1 = 0 ∨ x.1 * L < s.size, fun x => s.size - x.1 * L⟩
noncomputable def wOut (N : Nat) (s : ByteArray) (L : Nat) : Nat → FOut
  | 0 => ⟨List ByteArray, fun _ => True, fun _ => .tup [], fun _ => [.seg true (.avs [.nils]), .dead, .dead, .dead, .dead]⟩
  | c + 1 => ⟨List ByteArray, fun _ => True, fun _ => .tup [], fun u => [.seg true (.avs [.slice 5 0 (c + 1) (c + 1 + u.length)]), .dead, .dead, .dead, .dead, .seg true (.strs (tb (wordsT N s L) (c + 1) ++ u))]⟩
theorem pieces_size (s : ByteArray) (L i : Nat) : (pieces s L i).size ≤ L := by
  unfold pieces; rw [ByteArray.size_extract]
  have : (i + 1) * L = i * L + L := by rw [Nat.add_mul, Nat.one_mul]
  omega
theorem extract_all (x : ByteArray) (n : Nat) (h : x.size ≤ n) : x.extract 0 n = x := by
  refine bytL_inj ?_
  rw [bytL_extract, List.drop_zero]
  exact List.take_of_length_le (by rw [bytL_len]; omega)
theorem rest_size (s : ByteArray) (k : Nat) : (s.extract k s.size).size = s.size - k := by rw [ByteArray.size_extract]; omega
theorem rest_piece (s : ByteArray) (L c : Nat) : (s.extract (c * L) s.size).extract 0 L = pieces s L c := by
  rw [ByteArray.extract_extract, Nat.add_zero]
  unfold pieces
  rw [show (c + 1) * L = c * L + L by rw [Nat.add_mul, Nat.one_mul]]
theorem rest_last (s : ByteArray) (L c : Nat) (h : s.size ≤ (c + 1) * L) : s.extract (c * L) s.size = pieces s L c := by
  unfold pieces; rw [Nat.min_eq_right h]
theorem rest_next (s : ByteArray) (L c : Nat) (h : c * L ≤ s.size) : (s.extract (c * L) s.size).extract L (s.extract (c * L) s.size).size = s.extract ((c + 1) * L) s.size := by
  rw [ByteArray.extract_extract, rest_size, show (c + 1) * L = c * L + L by rw [Nat.add_mul, Nat.one_mul]]
  congr 1; omega
theorem cnt_is (n L c : Nat) (hL : 0 < L) (h1 : c * L < n) (h2 : n ≤ (c + 1) * L) : cnt n L = c + 1 := by
  unfold cnt
  have e : (c + 1 + 1) * L = (c + 1) * L + L := by rw [Nat.add_mul (c + 1), Nat.one_mul]
  have e2 : (c + 1) * L = c * L + L := by rw [Nat.add_mul, Nat.one_mul]
  exact Nat.div_eq_of_lt_le (by omega) (by omega)
set_option maxHeartbeats 0 in
set_option maxRecDepth 100000 in
theorem each_f (N L : Nat) (hN : 2 ≤ N) (hN2 : N ≤ 64) (hL : 1 ≤ L) (hL2 : L ≤ 255) (s : ByteArray) (tl : List Int) (hs : s.size ≤ 32768) :
    Fits Try.prog 14 ⟨[.str s, .int .i64 L, .fn 15 [.ptr 0 0, .ptr 1 0]], .seg true (.avs [.nils]) :: chkS N tl, [wOut N s L (cnt s.size L)]⟩ := by
  refine fits_of_body (C := cfgM 5) (c := k32) (ts := []) tokL mixedL (fun | 0 => some (inv32 N s L tl) | _ => none) (fun _ => none)
    Try.func14 (by kernel_rfl) (by kernel_rfl) (by kernel_rfl) (by kernel_rfl) rfl ?_
  unfold chkS
  conv => whnf
  repeat (first
    | (refine And.intro ?_ ?_; (focus (first | omega | decide | exact EqOk.mk (by kernel_rfl) (by kernel_rfl) (by kernel_rfl) | exact Int.natCast_nonneg _ | ((repeat' refine And.intro ?_ ?_) <;> first | omega | exact Int.natCast_nonneg _ | (simp only [i64max, u8max, u16max, u32max, u64max]; omega) | (simp only [mulSz_eq, Cont.len, colsLen, Col.len, List.length_cons, List.length_nil, List.length_replicate, List.length_append]; first | done | omega) | (simp [mulSz, Cont.len, bne]; first | done | omega)))); conv => whnf)
    | (refine tst_in ?_ ?_; (focus (intro h_; exfalso; first | omega | ((try simp only [decide_eq_true_eq, decide_eq_false_iff_not] at h_); omega) | (simp [mulSz, Cont.len, bne] at h_; first | done | omega))); intro _; conv => whnf)
    | (refine tst_in ?_ ?_; rotate_left; (focus (intro h_; exfalso; first | omega | ((try simp only [decide_eq_true_eq, decide_eq_false_iff_not] at h_); omega) | (simp [mulSz, Cont.len, bne] at h_; first | done | omega))); intro _; conv => whnf)
    | (refine ⟨0, (show _ = _ by omega), ?_⟩; conv => whnf))
  refine ⟨⟨[0, 1, 2, 3, 4], (0, []), ?_, .inl rfl⟩, ?_⟩
  · show stLe _ _ (st32 N s L tl [] 0) _
    unfold st32 hp32 chkS
    conv => whnf
    repeat' (first | exact True.intro | rfl | refine And.intro ?_ ?_)
    all_goals (conv => whnf)
    repeat' (first | exact True.intro | rfl | refine And.intro ?_ ?_)
    all_goals (try omega)
    rw [Nat.zero_mul]; exact extract_all s _ (Nat.le_refl _)
  · intro ⟨c, u⟩ (hc : c = 0 ∨ c * L < s.size)
    have hz := rest_size s (c * L)
    have e2 : (c + 1) * L = c * L + L := by rw [Nat.add_mul, Nat.one_mul]
    have hps := pieces_size s L c
    have hcl : c ≤ c * L := Nat.le_mul_of_pos_right c (by omega)
    match c, hc, hz, e2, hps, hcl with
    | 0, hc, hz, e2, hps, hcl =>
      have PF := put0_f N hN hN2 (pieces s L 0) tl (wordsT N s L) (by omega) rfl
      show forceSt (st32 N s L tl u 0) _
      unfold st32 hp32
      unfold chkS at PF ⊢
      conv => whnf
      repeat (first
        | (refine And.intro ?_ ?_; (focus (first | omega | decide | exact EqOk.mk (by kernel_rfl) (by kernel_rfl) (by kernel_rfl) | exact Int.natCast_nonneg _ | ((repeat' refine And.intro ?_ ?_) <;> first | omega | exact Int.natCast_nonneg _ | (simp only [i64max, u8max, u16max, u32max, u64max]; omega) | (simp only [mulSz_eq, Cont.len, colsLen, Col.len, List.length_cons, List.length_nil, List.length_replicate, List.length_append]; first | done | omega) | (simp [mulSz, Cont.len, bne]; first | done | omega)))); conv => whnf)
        | (refine tst_in ?_ ?_; (focus (intro h_; exfalso; first | omega | ((try simp only [decide_eq_true_eq, decide_eq_false_iff_not] at h_); omega) | (simp [mulSz, Cont.len, bne] at h_; first | done | omega))); intro _; conv => whnf)
        | (refine tst_in ?_ ?_; rotate_left; (focus (intro h_; exfalso; first | omega | ((try simp only [decide_eq_true_eq, decide_eq_false_iff_not] at h_); omega) | (simp [mulSz, Cont.len, bne] at h_; first | done | omega))); intro _; conv => whnf)
        | (refine ⟨0, (show _ = _ by omega), ?_⟩; conv => whnf))
      refine tst_in (fun g1 => ?_) (fun g1' => ?_)
      · have g1 : L < s.size - 0 * L := by rw [hz, dLt_eq] at g1; simp at g1; omega
        rw [hz]
        conv => whnf
        repeat (first
          | (refine And.intro ?_ ?_; (focus (first | omega | decide | exact EqOk.mk (by kernel_rfl) (by kernel_rfl) (by kernel_rfl) | exact Int.natCast_nonneg _ | ((repeat' refine And.intro ?_ ?_) <;> first | omega | exact Int.natCast_nonneg _ | (simp only [i64max, u8max, u16max, u32max, u64max]; omega) | (simp only [mulSz_eq, Cont.len, colsLen, Col.len, List.length_cons, List.length_nil, List.length_replicate, List.length_append]; first | done | omega) | (simp [mulSz, Cont.len, bne]; first | done | omega)))); conv => whnf)
          | (refine tst_in ?_ ?_; (focus (intro h_; exfalso; first | omega | ((try simp only [decide_eq_true_eq, decide_eq_false_iff_not] at h_); omega) | (simp [mulSz, Cont.len, bne] at h_; first | done | omega))); intro _; conv => whnf)
          | (refine tst_in ?_ ?_; rotate_left; (focus (intro h_; exfalso; first | omega | ((try simp only [decide_eq_true_eq, decide_eq_false_iff_not] at h_); omega) | (simp [mulSz, Cont.len, bne] at h_; first | done | omega))); intro _; conv => whnf)
          | (refine ⟨0, (show _ = _ by omega), ?_⟩; conv => whnf))
        rw [show ((L : Int)).toNat = L by omega, rest_piece]
        refine ⟨_, [0, 1, 2, 3, 4], PF, ?_⟩
        conv => whnf
        iterate 2
         refine And.intro ?_ ?_
         focus
          conv => whnf
          repeat' (first | exact True.intro | rfl | refine And.intro ?_ ?_)
          all_goals (conv => whnf)
          repeat' (first | exact True.intro | rfl | refine And.intro ?_ ?_)
          all_goals (try (first | rfl | omega | (simp; first | done | omega)))
        conv => whnf
        refine ⟨?_, True.intro⟩
        rintro u1 hu1
        conv => whnf
        change List ByteArray at u1
        conv => whnf
        repeat (first
          | (refine And.intro ?_ ?_; (focus (first | omega | decide | exact EqOk.mk (by kernel_rfl) (by kernel_rfl) (by kernel_rfl) | exact Int.natCast_nonneg _ | ((repeat' refine And.intro ?_ ?_) <;> first | omega | exact Int.natCast_nonneg _ | (simp only [i64max, u8max, u16max, u32max, u64max]; omega) | (simp only [mulSz_eq, Cont.len, colsLen, Col.len, List.length_cons, List.length_nil, List.length_replicate, List.length_append, hz]; first | done | omega) | (simp [mulSz, Cont.len, bne, hz]; first | done | omega)))); conv => whnf)
          | (refine tst_in ?_ ?_; (focus (intro h_; exfalso; first | omega | ((try simp only [decide_eq_true_eq, decide_eq_false_iff_not] at h_); omega) | (simp [mulSz, Cont.len, bne, hz] at h_; first | done | omega))); intro _; conv => whnf)
          | (refine tst_in ?_ ?_; rotate_left; (focus (intro h_; exfalso; first | omega | ((try simp only [decide_eq_true_eq, decide_eq_false_iff_not] at h_); omega) | (simp [mulSz, Cont.len, bne, hz] at h_; first | done | omega))); intro _; conv => whnf)
          | (refine ⟨0, (show _ = _ by omega), ?_⟩; conv => whnf))
        rw [show ((L : Int)).toNat = L by omega, rest_next _ _ _ (by omega)]
        refine ⟨[0, 1, 2, 3, 4, 5], (0 + 1, u1), ?_, .inr (by show (0 + 1) * L < s.size; omega), (by show s.size - (0 + 1) * L < s.size - 0 * L; omega)⟩
        show stLe _ _ (st32 N s L tl u1 (0 + 1)) _
        unfold st32 hp32 chkS
        conv => whnf
        repeat' (first | exact True.intro | rfl | refine And.intro ?_ ?_)
        all_goals (conv => whnf)
        repeat' (first | exact True.intro | rfl | refine And.intro ?_ ?_)
        all_goals (try omega)
      · have h2 : s.size ≤ (0 + 1) * L := by rw [hz, dLt_eq] at g1'; simp at g1'; omega
        conv => whnf
        repeat (first
          | (refine And.intro ?_ ?_; (focus (first | omega | decide | exact EqOk.mk (by kernel_rfl) (by kernel_rfl) (by kernel_rfl) | exact Int.natCast_nonneg _ | ((repeat' refine And.intro ?_ ?_) <;> first | omega | exact Int.natCast_nonneg _ | (simp only [i64max, u8max, u16max, u32max, u64max]; omega) | (simp only [mulSz_eq, Cont.len, colsLen, Col.len, List.length_cons, List.length_nil, List.length_replicate, List.length_append]; first | done | omega) | (simp [mulSz, Cont.len, bne]; first | done | omega)))); conv => whnf)
          | (refine tst_in ?_ ?_; (focus (intro h_; exfalso; first | omega | ((try simp only [decide_eq_true_eq, decide_eq_false_iff_not] at h_); omega) | (simp [mulSz, Cont.len, bne] at h_; first | done | omega))); intro _; conv => whnf)
          | (refine tst_in ?_ ?_; rotate_left; (focus (intro h_; exfalso; first | omega | ((try simp only [decide_eq_true_eq, decide_eq_false_iff_not] at h_); omega) | (simp [mulSz, Cont.len, bne] at h_; first | done | omega))); intro _; conv => whnf)
          | (refine ⟨0, (show _ = _ by omega), ?_⟩; conv => whnf))
        refine tst_in (fun g2 => ?_) (fun g2' => ?_)
        · have g2 : 0 < s.size - 0 * L := by rw [hz, dLt_eq] at g2; simp at g2; omega
          rw [rest_last _ _ _ h2]
          refine ⟨_, [0, 1, 2, 3, 4], PF, ?_⟩
          conv => whnf
          iterate 2
           refine And.intro ?_ ?_
           focus
            conv => whnf
            repeat' (first | exact True.intro | rfl | refine And.intro ?_ ?_)
            all_goals (conv => whnf)
            repeat' (first | exact True.intro | rfl | refine And.intro ?_ ?_)
            all_goals (try (first | rfl | omega | (simp; first | done | omega)))
          conv => whnf
          refine ⟨?_, True.intro⟩
          rintro u1 hu1
          conv => whnf
          change List ByteArray at u1
          conv => whnf
          repeat (first
            | (refine And.intro ?_ ?_; (focus (first | omega | decide | exact EqOk.mk (by kernel_rfl) (by kernel_rfl) (by kernel_rfl) | exact Int.natCast_nonneg _ | ((repeat' refine And.intro ?_ ?_) <;> first | omega | exact Int.natCast_nonneg _ | (simp only [i64max, u8max, u16max, u32max, u64max]; omega) | (simp only [mulSz_eq, Cont.len, colsLen, Col.len, List.length_cons, List.length_nil, List.length_replicate, List.length_append]; first | done | omega) | (simp [mulSz, Cont.len, bne]; first | done | omega)))); conv => whnf)
            | (refine tst_in ?_ ?_; (focus (intro h_; exfalso; first | omega | ((try simp only [decide_eq_true_eq, decide_eq_false_iff_not] at h_); omega) | (simp [mulSz, Cont.len, bne] at h_; first | done | omega))); intro _; conv => whnf)
            | (refine tst_in ?_ ?_; rotate_left; (focus (intro h_; exfalso; first | omega | ((try simp only [decide_eq_true_eq, decide_eq_false_iff_not] at h_); omega) | (simp [mulSz, Cont.len, bne] at h_; first | done | omega))); intro _; conv => whnf)
            | (refine ⟨0, (show _ = _ by omega), ?_⟩; conv => whnf))
          rw [cnt_is s.size L 0 (by omega) (by omega) h2]
          refine .inl ⟨u1, [0, 1, 2, 3, 4, 5], ?_⟩
          conv => whnf
          repeat' (first | exact True.intro | rfl | refine And.intro ?_ ?_)
          all_goals (conv => whnf)
          repeat' (first | exact True.intro | rfl | refine And.intro ?_ ?_)
          all_goals (try omega)
        · have g2 : s.size = 0 := by
            rw [dLt_eq] at g2'
            have q2 := of_decide_eq_false g2'
            rw [hz, Nat.zero_mul] at q2
            omega
          rw [show cnt s.size L = 0 by unfold cnt; rw [g2]; exact Nat.div_eq_of_lt (by omega)]
          conv => whnf
          repeat (first
            | (refine And.intro ?_ ?_; (focus (first | omega | decide | exact EqOk.mk (by kernel_rfl) (by kernel_rfl) (by kernel_rfl) | exact Int.natCast_nonneg _ | ((repeat' refine And.intro ?_ ?_) <;> first | omega | exact Int.natCast_nonneg _ | (simp only [i64max, u8max, u16max, u32max, u64max]; omega) | (simp only [mulSz_eq, Cont.len, colsLen, Col.len, List.length_cons, List.length_nil, List.length_replicate, List.length_append]; first | done | omega) | (simp [mulSz, Cont.len, bne]; first | done | omega)))); conv => whnf)
            | (refine tst_in ?_ ?_; (focus (intro h_; exfalso; first | omega | ((try simp only [decide_eq_true_eq, decide_eq_false_iff_not] at h_); omega) | (simp [mulSz, Cont.len, bne] at h_; first | done | omega))); intro _; conv => whnf)
            | (refine tst_in ?_ ?_; rotate_left; (focus (intro h_; exfalso; first | omega | ((try simp only [decide_eq_true_eq, decide_eq_false_iff_not] at h_); omega) | (simp [mulSz, Cont.len, bne] at h_; first | done | omega))); intro _; conv => whnf)
            | (refine ⟨0, (show _ = _ by omega), ?_⟩; conv => whnf))
          refine .inl ⟨[], [0, 1, 2, 3, 4], ?_⟩
          conv => whnf
          repeat' (first | exact True.intro | rfl | refine And.intro ?_ ?_)
          all_goals (conv => whnf)
          repeat' (first | exact True.intro | rfl | refine And.intro ?_ ?_)
          all_goals (try omega)
    | c + 1, hc, hz, e2, hps, hcl =>
      have hc : (c + 1) * L < s.size := by omega
      have PF := put_f N hN hN2 (pieces s L (c + 1)) tl (wordsT N s L) (c + 1) u (by omega) (by omega) rfl (by omega)
      show forceSt (st32 N s L tl u (c + 1)) _
      unfold st32 hp32
      unfold chkS at PF ⊢
      conv => whnf
      repeat (first
        | (refine And.intro ?_ ?_; (focus (first | omega | decide | exact EqOk.mk (by kernel_rfl) (by kernel_rfl) (by kernel_rfl) | exact Int.natCast_nonneg _ | ((repeat' refine And.intro ?_ ?_) <;> first | omega | exact Int.natCast_nonneg _ | (simp only [i64max, u8max, u16max, u32max, u64max]; omega) | (simp only [mulSz_eq, Cont.len, colsLen, Col.len, List.length_cons, List.length_nil, List.length_replicate, List.length_append]; first | done | omega) | (simp [mulSz, Cont.len, bne]; first | done | omega)))); conv => whnf)
        | (refine tst_in ?_ ?_; (focus (intro h_; exfalso; first | omega | ((try simp only [decide_eq_true_eq, decide_eq_false_iff_not] at h_); omega) | (simp [mulSz, Cont.len, bne] at h_; first | done | omega))); intro _; conv => whnf)
        | (refine tst_in ?_ ?_; rotate_left; (focus (intro h_; exfalso; first | omega | ((try simp only [decide_eq_true_eq, decide_eq_false_iff_not] at h_); omega) | (simp [mulSz, Cont.len, bne] at h_; first | done | omega))); intro _; conv => whnf)
        | (refine ⟨0, (show _ = _ by omega), ?_⟩; conv => whnf))
      refine tst_in (fun g1 => ?_) (fun g1' => ?_)
      · have g1 : L < s.size - (c + 1) * L := by rw [hz, dLt_eq] at g1; simp at g1; omega
        rw [hz]
        conv => whnf
        repeat (first
          | (refine And.intro ?_ ?_; (focus (first | omega | decide | exact EqOk.mk (by kernel_rfl) (by kernel_rfl) (by kernel_rfl) | exact Int.natCast_nonneg _ | ((repeat' refine And.intro ?_ ?_) <;> first | omega | exact Int.natCast_nonneg _ | (simp only [i64max, u8max, u16max, u32max, u64max]; omega) | (simp only [mulSz_eq, Cont.len, colsLen, Col.len, List.length_cons, List.length_nil, List.length_replicate, List.length_append]; first | done | omega) | (simp [mulSz, Cont.len, bne]; first | done | omega)))); conv => whnf)
          | (refine tst_in ?_ ?_; (focus (intro h_; exfalso; first | omega | ((try simp only [decide_eq_true_eq, decide_eq_false_iff_not] at h_); omega) | (simp [mulSz, Cont.len, bne] at h_; first | done | omega))); intro _; conv => whnf)
          | (refine tst_in ?_ ?_; rotate_left; (focus (intro h_; exfalso; first | omega | ((try simp only [decide_eq_true_eq, decide_eq_false_iff_not] at h_); omega) | (simp [mulSz, Cont.len, bne] at h_; first | done | omega))); intro _; conv => whnf)
          | (refine ⟨0, (show _ = _ by omega), ?_⟩; conv => whnf))
        rw [show ((L : Int)).toNat = L by omega, rest_piece]
        refine ⟨_, [0, 1, 2, 3, 4, 5], PF, ?_⟩
        conv => whnf
        iterate 2
         refine And.intro ?_ ?_
         focus
          conv => whnf
          repeat' (first | exact True.intro | rfl | refine And.intro ?_ ?_)
          all_goals (conv => whnf)
          repeat' (first | exact True.intro | rfl | refine And.intro ?_ ?_)
          all_goals (try (first | rfl | omega | (simp; first | done | omega)))
        conv => whnf
        refine ⟨?_, True.intro⟩
        rintro u1 hu1
        conv => whnf
        change List ByteArray at u1
        conv => whnf
        repeat (first
          | (refine And.intro ?_ ?_; (focus (first | omega | decide | exact EqOk.mk (by kernel_rfl) (by kernel_rfl) (by kernel_rfl) | exact Int.natCast_nonneg _ | ((repeat' refine And.intro ?_ ?_) <;> first | omega | exact Int.natCast_nonneg _ | (simp only [i64max, u8max, u16max, u32max, u64max]; omega) | (simp only [mulSz_eq, Cont.len, colsLen, Col.len, List.length_cons, List.length_nil, List.length_replicate, List.length_append, hz]; first | done | omega) | (simp [mulSz, Cont.len, bne, hz]; first | done | omega)))); conv => whnf)
          | (refine tst_in ?_ ?_; (focus (intro h_; exfalso; first | omega | ((try simp only [decide_eq_true_eq, decide_eq_false_iff_not] at h_); omega) | (simp [mulSz, Cont.len, bne, hz] at h_; first | done | omega))); intro _; conv => whnf)
          | (refine tst_in ?_ ?_; rotate_left; (focus (intro h_; exfalso; first | omega | ((try simp only [decide_eq_true_eq, decide_eq_false_iff_not] at h_); omega) | (simp [mulSz, Cont.len, bne, hz] at h_; first | done | omega))); intro _; conv => whnf)
          | (refine ⟨0, (show _ = _ by omega), ?_⟩; conv => whnf))
        rw [show ((L : Int)).toNat = L by omega, rest_next _ _ _ (by omega)]
        refine ⟨[0, 1, 2, 3, 4, 6], ((c + 1) + 1, u1), ?_, .inr (by show ((c + 1) + 1) * L < s.size; omega), (by show s.size - ((c + 1) + 1) * L < s.size - (c + 1) * L; omega)⟩
        show stLe _ _ (st32 N s L tl u1 ((c + 1) + 1)) _
        unfold st32 hp32 chkS
        conv => whnf
        repeat' (first | exact True.intro | rfl | refine And.intro ?_ ?_)
        all_goals (conv => whnf)
        repeat' (first | exact True.intro | rfl | refine And.intro ?_ ?_)
        all_goals (try omega)
      · have h2 : s.size ≤ (c + 1 + 1) * L := by rw [hz, dLt_eq] at g1'; simp at g1'; omega
        conv => whnf
        repeat (first
          | (refine And.intro ?_ ?_; (focus (first | omega | decide | exact EqOk.mk (by kernel_rfl) (by kernel_rfl) (by kernel_rfl) | exact Int.natCast_nonneg _ | ((repeat' refine And.intro ?_ ?_) <;> first | omega | exact Int.natCast_nonneg _ | (simp only [i64max, u8max, u16max, u32max, u64max]; omega) | (simp only [mulSz_eq, Cont.len, colsLen, Col.len, List.length_cons, List.length_nil, List.length_replicate, List.length_append]; first | done | omega) | (simp [mulSz, Cont.len, bne]; first | done | omega)))); conv => whnf)
          | (refine tst_in ?_ ?_; (focus (intro h_; exfalso; first | omega | ((try simp only [decide_eq_true_eq, decide_eq_false_iff_not] at h_); omega) | (simp [mulSz, Cont.len, bne] at h_; first | done | omega))); intro _; conv => whnf)
          | (refine tst_in ?_ ?_; rotate_left; (focus (intro h_; exfalso; first | omega | ((try simp only [decide_eq_true_eq, decide_eq_false_iff_not] at h_); omega) | (simp [mulSz, Cont.len, bne] at h_; first | done | omega))); intro _; conv => whnf)
          | (refine ⟨0, (show _ = _ by omega), ?_⟩; conv => whnf))
        rw [rest_last _ _ _ h2]
        refine ⟨_, [0, 1, 2, 3, 4, 5], PF, ?_⟩
        conv => whnf
        iterate 2
         refine And.intro ?_ ?_
         focus
          conv => whnf
          repeat' (first | exact True.intro | rfl | refine And.intro ?_ ?_)
          all_goals (conv => whnf)
          repeat' (first | exact True.intro | rfl | refine And.intro ?_ ?_)
          all_goals (try (first | rfl | omega | (simp; first | done | omega)))
        conv => whnf
        refine ⟨?_, True.intro⟩
        rintro u1 hu1
        conv => whnf
        change List ByteArray at u1
        conv => whnf
        repeat (first
          | (refine And.intro ?_ ?_; (focus (first | omega | decide | exact EqOk.mk (by kernel_rfl) (by kernel_rfl) (by kernel_rfl) | exact Int.natCast_nonneg _ | ((repeat' refine And.intro ?_ ?_) <;> first | omega | exact Int.natCast_nonneg _ | (simp only [i64max, u8max, u16max, u32max, u64max]; omega) | (simp only [mulSz_eq, Cont.len, colsLen, Col.len, List.length_cons, List.length_nil, List.length_replicate, List.length_append]; first | done | omega) | (simp [mulSz, Cont.len, bne]; first | done | omega)))); conv => whnf)
          | (refine tst_in ?_ ?_; (focus (intro h_; exfalso; first | omega | ((try simp only [decide_eq_true_eq, decide_eq_false_iff_not] at h_); omega) | (simp [mulSz, Cont.len, bne] at h_; first | done | omega))); intro _; conv => whnf)
          | (refine tst_in ?_ ?_; rotate_left; (focus (intro h_; exfalso; first | omega | ((try simp only [decide_eq_true_eq, decide_eq_false_iff_not] at h_); omega) | (simp [mulSz, Cont.len, bne] at h_; first | done | omega))); intro _; conv => whnf)
          | (refine ⟨0, (show _ = _ by omega), ?_⟩; conv => whnf))
        rw [cnt_is s.size L (c + 1) (by omega) (by omega) h2]
        refine .inl ⟨u1, [0, 1, 2, 3, 4, 6], ?_⟩
        conv => whnf
        repeat' (first | exact True.intro | rfl | refine And.intro ?_ ?_)
        all_goals (conv => whnf)
        repeat' (first | exact True.intro | rfl | refine And.intro ?_ ?_)
        all_goals (try omega)

noncomputable def k15 : Code := (Try.f6.body).getD .skip
noncomputable def wRes (N : Nat) (s : ByteArray) (L : Nat) : FOut := ⟨List ByteArray, fun _ => True, fun u => .tup [.slice 0 0 (cnt s.size L) (cnt s.size L + u.length), .int .i64 0], fun u => [.seg true (.strs (tb (wordsT N s L) (cnt s.size L) ++ u))]⟩
set_option maxHeartbeats 0 in
set_option maxRecDepth 100000 in
theorem Words_y (N n : Nat) (s : ByteArray) (h : okR (N : Int) = true) (h1 : N < n) (h2 : n ≤ 255) (hs : s.size ≤ 32768) :
    Fits Try.prog 6 ⟨[.str s, .int .i64 n, .int .i64 N], [], [wRes N s (n - N)]⟩ := by
  obtain ⟨r1, r2, r3⟩ := okR_iff.1 h
  have CK := Check_q (n : Int) (N : Int)
  rw [chk_yes ⟨r1, r2, r3, by omega, by omega⟩] at CK
  have CH := checking_f N h
  unfold chkOut at CH
  refine fits_of_body (C := cfgM 0) (c := k15) (ts := [6, 7]) tokL mixedL (fun _ => none) (fun _ => none)
    Try.func6 (by kernel_rfl) (by kernel_rfl) (by kernel_rfl) (by kernel_rfl) rfl ?_
  unfold wRes
  conv => whnf
  repeat (first
    | (refine And.intro ?_ ?_; (focus (first | omega | decide | exact EqOk.mk (by kernel_rfl) (by kernel_rfl) (by kernel_rfl) | exact Int.natCast_nonneg _ | ((repeat' refine And.intro ?_ ?_) <;> first | omega | exact Int.natCast_nonneg _ | (simp only [i64max, u8max, u16max, u32max, u64max]; omega) | (simp only [mulSz_eq, Cont.len, colsLen, Col.len, List.length_cons, List.length_nil, List.length_replicate, List.length_append]; first | done | omega) | (simp [mulSz, Cont.len, bne]; first | done | omega)))); conv => whnf)
    | (refine tst_in ?_ ?_; (focus (intro h_; exfalso; first | omega | ((try simp only [decide_eq_true_eq, decide_eq_false_iff_not] at h_); omega) | (simp [mulSz, Cont.len, bne] at h_; first | done | omega))); intro _; conv => whnf)
    | (refine tst_in ?_ ?_; rotate_left; (focus (intro h_; exfalso; first | omega | ((try simp only [decide_eq_true_eq, decide_eq_false_iff_not] at h_); omega) | (simp [mulSz, Cont.len, bne] at h_; first | done | omega))); intro _; conv => whnf)
    | (refine ⟨0, (show _ = _ by omega), ?_⟩; conv => whnf))
  refine ⟨_, [], CK, ?_⟩
  conv => whnf
  iterate 2
   refine And.intro ?_ ?_
   focus
    conv => whnf
    repeat' (first | exact True.intro | rfl | refine And.intro ?_ ?_ | omega)
    all_goals (conv => whnf)
    all_goals (try (first | rfl | omega | (simp; done)))
  conv => whnf
  conv => whnf
  repeat (first
    | (refine And.intro ?_ ?_; (focus (first | omega | decide | exact EqOk.mk (by kernel_rfl) (by kernel_rfl) (by kernel_rfl) | exact Int.natCast_nonneg _ | ((repeat' refine And.intro ?_ ?_) <;> first | omega | exact Int.natCast_nonneg _ | (simp only [i64max, u8max, u16max, u32max, u64max]; omega) | (simp only [mulSz_eq, Cont.len, colsLen, Col.len, List.length_cons, List.length_nil, List.length_replicate, List.length_append]; first | done | omega) | (simp [mulSz, Cont.len, bne]; first | done | omega)))); conv => whnf)
    | (refine tst_in ?_ ?_; (focus (intro h_; exfalso; first | omega | ((try simp only [decide_eq_true_eq, decide_eq_false_iff_not] at h_); omega) | (simp [mulSz, Cont.len, bne] at h_; first | done | omega))); intro _; conv => whnf)
    | (refine tst_in ?_ ?_; rotate_left; (focus (intro h_; exfalso; first | omega | ((try simp only [decide_eq_true_eq, decide_eq_false_iff_not] at h_); omega) | (simp [mulSz, Cont.len, bne] at h_; first | done | omega))); intro _; conv => whnf)
    | (refine ⟨0, (show _ = _ by omega), ?_⟩; conv => whnf))
  refine ⟨_, [], CH, ?_⟩
  conv => whnf
  iterate 2
   refine And.intro ?_ ?_
   focus
    conv => whnf
    repeat' (first | exact True.intro | rfl | refine And.intro ?_ ?_)
    all_goals (conv => whnf)
    repeat' (first | exact True.intro | rfl | refine And.intro ?_ ?_)
    all_goals (try (first | rfl | omega | (simp; first | done | omega)))
  conv => whnf
  refine ⟨?_, True.intro⟩
  rintro tl ht
  conv => whnf
  change List Int at tl
  have EA := each_f N (n - N) (by omega) (by omega) (by omega) (by omega) s tl hs
  rw [show ((n - N : Nat) : Int) = (n : Int) - (N : Int) by omega] at EA
  generalize hc : cnt s.size (n - N) = c at *
  match c, EA with
  | 0, EA =>
    unfold wOut chkS at EA
    conv => whnf
    repeat (first
      | (refine And.intro ?_ ?_; (focus (first | omega | decide | exact EqOk.mk (by kernel_rfl) (by kernel_rfl) (by kernel_rfl) | exact Int.natCast_nonneg _ | ((repeat' refine And.intro ?_ ?_) <;> first | omega | exact Int.natCast_nonneg _ | (simp only [i64max, u8max, u16max, u32max, u64max]; omega) | (simp only [mulSz_eq, Cont.len, colsLen, Col.len, List.length_cons, List.length_nil, List.length_replicate, List.length_append]; first | done | omega) | (simp [mulSz, Cont.len, bne]; first | done | omega)))); conv => whnf)
      | (refine tst_in ?_ ?_; (focus (intro h_; exfalso; first | omega | ((try simp only [decide_eq_true_eq, decide_eq_false_iff_not] at h_); omega) | (simp [mulSz, Cont.len, bne] at h_; first | done | omega))); intro _; conv => whnf)
      | (refine tst_in ?_ ?_; rotate_left; (focus (intro h_; exfalso; first | omega | ((try simp only [decide_eq_true_eq, decide_eq_false_iff_not] at h_); omega) | (simp [mulSz, Cont.len, bne] at h_; first | done | omega))); intro _; conv => whnf)
      | (refine ⟨0, (show _ = _ by omega), ?_⟩; conv => whnf))
    refine ⟨_, [0, 4, 1, 2, 3], EA, ?_⟩
    conv => whnf
    iterate 2
     refine And.intro ?_ ?_
     focus
      conv => whnf
      repeat' (first | exact True.intro | rfl | refine And.intro ?_ ?_)
      all_goals (conv => whnf)
      repeat' (first | exact True.intro | rfl | refine And.intro ?_ ?_)
      all_goals (try (first | rfl | omega | (simp; first | done | omega)))
    conv => whnf
    refine ⟨?_, True.intro⟩
    rintro u hu
    conv => whnf
    conv => whnf
    repeat (first
      | (refine And.intro ?_ ?_; (focus (first | omega | decide | exact EqOk.mk (by kernel_rfl) (by kernel_rfl) (by kernel_rfl) | exact Int.natCast_nonneg _ | ((repeat' refine And.intro ?_ ?_) <;> first | omega | exact Int.natCast_nonneg _ | (simp only [i64max, u8max, u16max, u32max, u64max]; omega) | (simp only [mulSz_eq, Cont.len, colsLen, Col.len, List.length_cons, List.length_nil, List.length_replicate, List.length_append]; first | done | omega) | (simp [mulSz, Cont.len, bne]; first | done | omega)))); conv => whnf)
      | (refine tst_in ?_ ?_; (focus (intro h_; exfalso; first | omega | ((try simp only [decide_eq_true_eq, decide_eq_false_iff_not] at h_); omega) | (simp [mulSz, Cont.len, bne] at h_; first | done | omega))); intro _; conv => whnf)
      | (refine tst_in ?_ ?_; rotate_left; (focus (intro h_; exfalso; first | omega | ((try simp only [decide_eq_true_eq, decide_eq_false_iff_not] at h_); omega) | (simp [mulSz, Cont.len, bne] at h_; first | done | omega))); intro _; conv => whnf)
      | (refine ⟨0, (show _ = _ by omega), ?_⟩; conv => whnf))
    refine .inl ⟨[], [9], ?_⟩
    conv => whnf
    repeat' (first | exact True.intro | rfl | refine And.intro ?_ ?_)
    all_goals (conv => whnf)
    repeat' (first | exact True.intro | rfl | refine And.intro ?_ ?_)
    all_goals (try omega)
  | c + 1, EA =>
    unfold wOut chkS at EA
    conv => whnf
    repeat (first
      | (refine And.intro ?_ ?_; (focus (first | omega | decide | exact EqOk.mk (by kernel_rfl) (by kernel_rfl) (by kernel_rfl) | exact Int.natCast_nonneg _ | ((repeat' refine And.intro ?_ ?_) <;> first | omega | exact Int.natCast_nonneg _ | (simp only [i64max, u8max, u16max, u32max, u64max]; omega) | (simp only [mulSz_eq, Cont.len, colsLen, Col.len, List.length_cons, List.length_nil, List.length_replicate, List.length_append]; first | done | omega) | (simp [mulSz, Cont.len, bne]; first | done | omega)))); conv => whnf)
      | (refine tst_in ?_ ?_; (focus (intro h_; exfalso; first | omega | ((try simp only [decide_eq_true_eq, decide_eq_false_iff_not] at h_); omega) | (simp [mulSz, Cont.len, bne] at h_; first | done | omega))); intro _; conv => whnf)
      | (refine tst_in ?_ ?_; rotate_left; (focus (intro h_; exfalso; first | omega | ((try simp only [decide_eq_true_eq, decide_eq_false_iff_not] at h_); omega) | (simp [mulSz, Cont.len, bne] at h_; first | done | omega))); intro _; conv => whnf)
      | (refine ⟨0, (show _ = _ by omega), ?_⟩; conv => whnf))
    refine ⟨_, [0, 4, 1, 2, 3], EA, ?_⟩
    conv => whnf
    iterate 2
     refine And.intro ?_ ?_
     focus
      conv => whnf
      repeat' (first | exact True.intro | rfl | refine And.intro ?_ ?_)
      all_goals (conv => whnf)
      repeat' (first | exact True.intro | rfl | refine And.intro ?_ ?_)
      all_goals (try (first | rfl | omega | (simp; first | done | omega)))
    conv => whnf
    refine ⟨?_, True.intro⟩
    rintro u hu
    conv => whnf
    change List ByteArray at u
    conv => whnf
    repeat (first
      | (refine And.intro ?_ ?_; (focus (first | omega | decide | exact EqOk.mk (by kernel_rfl) (by kernel_rfl) (by kernel_rfl) | exact Int.natCast_nonneg _ | ((repeat' refine And.intro ?_ ?_) <;> first | omega | exact Int.natCast_nonneg _ | (simp only [i64max, u8max, u16max, u32max, u64max]; omega) | (simp only [mulSz_eq, Cont.len, colsLen, Col.len, List.length_cons, List.length_nil, List.length_replicate, List.length_append]; first | done | omega) | (simp [mulSz, Cont.len, bne]; first | done | omega)))); conv => whnf)
      | (refine tst_in ?_ ?_; (focus (intro h_; exfalso; first | omega | ((try simp only [decide_eq_true_eq, decide_eq_false_iff_not] at h_); omega) | (simp [mulSz, Cont.len, bne] at h_; first | done | omega))); intro _; conv => whnf)
      | (refine tst_in ?_ ?_; rotate_left; (focus (intro h_; exfalso; first | omega | ((try simp only [decide_eq_true_eq, decide_eq_false_iff_not] at h_); omega) | (simp [mulSz, Cont.len, bne] at h_; first | done | omega))); intro _; conv => whnf)
      | (refine ⟨0, (show _ = _ by omega), ?_⟩; conv => whnf))
    refine .inl ⟨u, [5], ?_⟩
    conv => whnf
    repeat' (first | exact True.intro | rfl | refine And.intro ?_ ?_)
    all_goals (conv => whnf)
    repeat' (first | exact True.intro | rfl | refine And.intro ?_ ?_)
    all_goals (try omega)
def goodW (W : Nat → ByteArray) (N i : Nat) : Prop := N < (W i).size ∧ (W i).size ≤ 255
def tot (W : Nat → ByteArray) (N : Nat) : Nat → Nat
  | 0 => 0
  | n + 1 => tot W N n + ((W n).size - N)
def dataT (N : Nat) (w : ByteArray) : ByteArray := w.extract 0 (w.size - N)
def whl (N : Nat) (w : ByteArray) : Prop := codeW N (dataT N w) = w
def catD (W : Nat → ByteArray) (N : Nat) : Nat → List Int
  | 0 => []
  | n + 1 => catD W N n ++ bytL (dataT N (W n))
theorem dataT_size (N : Nat) (w : ByteArray) : (dataT N w).size = w.size - N := by unfold dataT; rw [ByteArray.size_extract]; omega
theorem catD_len (W : Nat → ByteArray) (N : Nat) : ∀ n, (catD W N n).length = tot W N n
  | 0 => rfl
  | n + 1 => by unfold catD tot; rw [List.length_append, bytL_len, dataT_size, catD_len W N n]
theorem tot_mono (W : Nat → ByteArray) (N i : Nat) : ∀ n, i ≤ n → tot W N i ≤ tot W N n
  | 0, h => by rw [show i = 0 by omega]; exact Nat.le_refl _
  | n + 1, h => by
    by_cases h2 : i = n + 1
    · rw [h2]; exact Nat.le_refl _
    · have := tot_mono W N i n (by omega)
      show _ ≤ tot W N n + _
      omega
/-- What Message says of words. -/
inductive Msg (W : Nat → ByteArray) (N n : Nat) : ByteArray → Int → Prop
  | bad (i : Nat) (hi : i < n) (h : ¬ goodW W N i) : Msg W N n ⟨#[]⟩ 1
  | long (hg : ∀ j, j < n → goodW W N j) (h : 32768 < tot W N n) : Msg W N n ⟨#[]⟩ 1
  | none (i : Nat) (hg : ∀ j, j < n → goodW W N j) (h : tot W N n ≤ 32768) (hi : i < n) (hw : ¬ whl N (W i)) : Msg W N n ⟨#[]⟩ 6
  | all (X : ByteArray) (hg : ∀ j, j < n → goodW W N j) (h : tot W N n ≤ 32768) (hw : ∀ j, j < n → whl N (W j)) (hX : bytL X = catD W N n) : Msg W N n X 0
theorem msg_bad {W : Nat → ByteArray} {N n : Nat} {X : ByteArray} {e : Int} (hM : Msg W N n X e) {i : Nat} (hi : i < n) (h : ¬ goodW W N i) : X = ⟨#[]⟩ ∧ e = 1 := by
  cases hM with
  | bad i hi h => exact ⟨rfl, rfl⟩
  | long hg _ => exact ⟨rfl, rfl⟩
  | none j hg _ _ _ => exact absurd (hg i hi) h
  | all X hg _ _ _ => exact absurd (hg i hi) h
theorem msg_long {W : Nat → ByteArray} {N n : Nat} {X : ByteArray} {e : Int} (hM : Msg W N n X e) (i : Nat) (hi : i ≤ n) (h : 32768 < tot W N i) : X = ⟨#[]⟩ ∧ e = 1 := by
  have hm := tot_mono W N i n hi
  cases hM with
  | bad i hi h => exact ⟨rfl, rfl⟩
  | long hg _ => exact ⟨rfl, rfl⟩
  | none j hg _ _ _ => omega
  | all X hg _ _ _ => omega
theorem msg_none {W : Nat → ByteArray} {N n : Nat} {X : ByteArray} {e : Int} (hM : Msg W N n X e) (hg : ∀ j, j < n → goodW W N j) (h : tot W N n ≤ 32768) {i : Nat} (hi : i < n) (hw : ¬ whl N (W i)) : X = ⟨#[]⟩ ∧ e = 6 := by
  cases hM with
  | bad j hj h => exact absurd (hg j hj) h
  | long _ _ => omega
  | none j hg _ _ _ => exact ⟨rfl, rfl⟩
  | all X _ _ hw2 _ => exact absurd (hw2 i hi) hw
theorem msg_all {W : Nat → ByteArray} {N n : Nat} {X : ByteArray} {e : Int} (hM : Msg W N n X e) (hg : ∀ j, j < n → goodW W N j) (h : tot W N n ≤ 32768) (hw : ∀ j, j < n → whl N (W j)) : bytL X = catD W N n ∧ e = 0 := by
  cases hM with
  | bad j hj h => exact absurd (hg j hj) h
  | long _ _ => omega
  | none j _ _ hj hw2 => exact absurd (hw j hj) hw2
  | all X _ _ _ hX => exact ⟨hX, rfl⟩
theorem tx_bytL (s : ByteArray) : tx (bytL s) = s := by
  refine bytL_inj (bytL_tx _ fun x hx => ?_)
  unfold bytL at hx
  obtain ⟨b, _, rfl⟩ := List.mem_map.1 hx
  have := UInt8.toNat_lt b
  omega
noncomputable def k17 : Code := (Try.f7.body).getD .skip
def st17a (W : Nat → ByteArray) (n ca N : Nat) (t : List ByteArray) (i : Nat) : St := ⟨slotsAt 69 [(0, .slice 0 0 n ca), (1, .int .i64 N), (6, .int .i64 (tot W N i : Nat)), (17, .slice 0 0 n ca), (18, .int .i64 n), (19, .int .i64 i)], [.seg false (.strs (tb W n ++ t))]⟩
def inv17a (W : Nat → ByteArray) (n ca N : Nat) (t : List ByteArray) : LInv := ⟨Nat, fun i => st17a W n ca N t i, fun i => i ≤ n ∧ (∀ j, j < i → goodW W N j) ∧ tot W N i ≤ 32768, fun i => n - i⟩
noncomputable def st17b (W : Nat → ByteArray) (n ca N : Nat) (t : List ByteArray) (i : Nat) (tl u : List Int) : St :=
  ⟨slotsAt 69 [(0, .slice 0 0 n ca), (1, .int .i64 N), (9, .fn 19 [.ptr 1 0, .ptr 2 0]), (10, .slice 4 0 (catD W N i).length ((catD W N i).length + u.length)), (43, .slice 0 0 n ca), (44, .int .i64 n), (45, .int .i64 i)],
    [.seg false (.strs (tb W n ++ t)), .seg true (.avs [.int .i64 N]), .seg true (.avs [.slice 3 1 N (N + tl.length)]), .seg true (.ints .u8 (tb (fun k => gN N (N + 1 - 1 - k)) (N + 1) ++ tl)), .seg true (.ints .u8 (catD W N i ++ u))]⟩
noncomputable def inv17b (W : Nat → ByteArray) (n ca N : Nat) (t : List ByteArray) : LInv := ⟨Nat × List Int × List Int, fun x => st17b W n ca N t x.1 x.2.1 x.2.2, fun x => x.1 ≤ n ∧ ∀ j, j < x.1 → whl N (W j), fun x => n - x.1⟩
set_option maxHeartbeats 0 in
set_option maxRecDepth 100000 in
theorem Message_y (W : Nat → ByteArray) (n ca N : Nat) (t : List ByteArray) (X : ByteArray) (e : Int) (h : okR (N : Int) = true) (hn : n ≤ 17592186043904) (hca : n ≤ ca) (hW : ∀ i, i < n → (W i).size ≤ 140737488355328) (hM : Msg W N n X e) :
    Fits Try.prog 7 ⟨[.slice 0 0 n ca, .int .i64 N], [.seg false (.strs (tb W n ++ t))], [numOut [.dead] (.tup [.str X, .int .i64 e])]⟩ := by
  obtain ⟨r1, r2, r3⟩ := okR_iff.1 h
  have AC := areChecks_q (N : Int)
  rw [h] at AC
  have CH := checking_f N h
  unfold chkOut at CH
  refine fits_of_body (C := cfgM 1) (c := k17) (ts := [4, 5]) tokL mixedL (fun | 5 => some (inv17a W n ca N t) | 14 => some (inv17b W n ca N t) | _ => none) (fun _ => none)
    Try.func7 (by kernel_rfl) (by kernel_rfl) (by kernel_rfl) (by kernel_rfl) rfl ?_
  conv => whnf
  repeat (first
    | (refine And.intro ?_ ?_; (focus (first | omega | decide | exact EqOk.mk (by kernel_rfl) (by kernel_rfl) (by kernel_rfl) | exact Int.natCast_nonneg _ | ((repeat' refine And.intro ?_ ?_) <;> first | omega | exact Int.natCast_nonneg _ | (simp only [i64max, u8max, u16max, u32max, u64max]; omega) | (simp only [mulSz_eq, Cont.len, colsLen, Col.len, List.length_cons, List.length_nil, List.length_replicate, List.length_append]; first | done | omega) | (simp [mulSz, Cont.len, bne]; first | done | omega)))); conv => whnf)
    | (refine tst_in ?_ ?_; (focus (intro h_; exfalso; first | omega | ((try simp only [decide_eq_true_eq, decide_eq_false_iff_not] at h_); omega) | (simp [mulSz, Cont.len, bne] at h_; first | done | omega))); intro _; conv => whnf)
    | (refine tst_in ?_ ?_; rotate_left; (focus (intro h_; exfalso; first | omega | ((try simp only [decide_eq_true_eq, decide_eq_false_iff_not] at h_); omega) | (simp [mulSz, Cont.len, bne] at h_; first | done | omega))); intro _; conv => whnf)
    | (refine ⟨0, (show _ = _ by omega), ?_⟩; conv => whnf))
  refine ⟨_, [], AC, ?_⟩
  conv => whnf
  iterate 2
   refine And.intro ?_ ?_
   focus
    conv => whnf
    repeat' (first | exact True.intro | rfl | refine And.intro ?_ ?_ | omega)
    all_goals (conv => whnf)
    all_goals (try (first | rfl | omega | (simp; done)))
  conv => whnf
  conv => whnf
  repeat (first
    | (refine And.intro ?_ ?_; (focus (first | omega | decide | exact EqOk.mk (by kernel_rfl) (by kernel_rfl) (by kernel_rfl) | exact Int.natCast_nonneg _ | ((repeat' refine And.intro ?_ ?_) <;> first | omega | exact Int.natCast_nonneg _ | (simp only [i64max, u8max, u16max, u32max, u64max]; omega) | (simp only [mulSz_eq, Cont.len, colsLen, Col.len, List.length_cons, List.length_nil, List.length_replicate, List.length_append]; first | done | omega) | (simp [mulSz, Cont.len, bne]; first | done | omega)))); conv => whnf)
    | (refine tst_in ?_ ?_; (focus (intro h_; exfalso; first | omega | ((try simp only [decide_eq_true_eq, decide_eq_false_iff_not] at h_); omega) | (simp [mulSz, Cont.len, bne] at h_; first | done | omega))); intro _; conv => whnf)
    | (refine tst_in ?_ ?_; rotate_left; (focus (intro h_; exfalso; first | omega | ((try simp only [decide_eq_true_eq, decide_eq_false_iff_not] at h_); omega) | (simp [mulSz, Cont.len, bne] at h_; first | done | omega))); intro _; conv => whnf)
    | (refine ⟨0, (show _ = _ by omega), ?_⟩; conv => whnf))
  refine ⟨⟨[0], (0 : Nat), ?_, ⟨Nat.zero_le _, fun j hj => absurd hj (by omega), Nat.zero_le _⟩⟩, ?_⟩
  · show stLe _ _ (st17a W n ca N t 0) _
    conv => whnf
    repeat' (first | exact True.intro | rfl | refine And.intro ?_ ?_)
    all_goals (conv => whnf)
    repeat' (first | exact True.intro | rfl | refine And.intro ?_ ?_)
    all_goals (try omega)
  · intro (i : Nat) ⟨(hi : i ≤ n), (hg : ∀ j, j < i → goodW W N j), (ht : tot W N i ≤ 32768)⟩
    show forceSt (st17a W n ca N t i) _
    conv => whnf
    repeat (first
      | (refine And.intro ?_ ?_; (focus (first | omega | decide | exact EqOk.mk (by kernel_rfl) (by kernel_rfl) (by kernel_rfl) | exact Int.natCast_nonneg _ | ((repeat' refine And.intro ?_ ?_) <;> first | omega | exact Int.natCast_nonneg _ | (simp only [i64max, u8max, u16max, u32max, u64max]; omega) | (simp only [mulSz_eq, Cont.len, colsLen, Col.len, List.length_cons, List.length_nil, List.length_replicate, List.length_append]; first | done | omega) | (simp [mulSz, Cont.len, bne]; first | done | omega)))); conv => whnf)
      | (refine tst_in ?_ ?_; (focus (intro h_; exfalso; first | omega | ((try simp only [decide_eq_true_eq, decide_eq_false_iff_not] at h_); omega) | (simp [mulSz, Cont.len, bne] at h_; first | done | omega))); intro _; conv => whnf)
      | (refine tst_in ?_ ?_; rotate_left; (focus (intro h_; exfalso; first | omega | ((try simp only [decide_eq_true_eq, decide_eq_false_iff_not] at h_); omega) | (simp [mulSz, Cont.len, bne] at h_; first | done | omega))); intro _; conv => whnf)
      | (refine ⟨0, (show _ = _ by omega), ?_⟩; conv => whnf))
    refine tst_in (fun g1 => ?_) (fun g1' => ?_)
    · have hlt : i < n := by simp at g1; omega
      have a1 : (tb W n ++ t).getD i ByteArray.empty = W i := tab_app _ _ _ hlt
      have hz := hW i hlt
      have IW := isWord_q ((W i).size : Int) (N : Int)
      conv => whnf
      repeat (first
        | (refine And.intro ?_ ?_; (focus (first | omega | decide | exact EqOk.mk (by kernel_rfl) (by kernel_rfl) (by kernel_rfl) | exact Int.natCast_nonneg _ | ((repeat' refine And.intro ?_ ?_) <;> first | omega | exact Int.natCast_nonneg _ | (simp only [i64max, u8max, u16max, u32max, u64max]; omega) | (simp only [mulSz_eq, Cont.len, colsLen, Col.len, List.length_cons, List.length_nil, List.length_replicate, List.length_append, tab_len]; first | done | omega) | (simp [mulSz, Cont.len, bne, tab_len]; first | done | omega)))); conv => whnf)
        | (refine tst_in ?_ ?_; (focus (intro h_; exfalso; first | omega | ((try simp only [decide_eq_true_eq, decide_eq_false_iff_not] at h_); omega) | (simp [mulSz, Cont.len, bne, tab_len] at h_; first | done | omega))); intro _; conv => whnf)
        | (refine tst_in ?_ ?_; rotate_left; (focus (intro h_; exfalso; first | omega | ((try simp only [decide_eq_true_eq, decide_eq_false_iff_not] at h_); omega) | (simp [mulSz, Cont.len, bne, tab_len] at h_; first | done | omega))); intro _; conv => whnf)
        | (refine ⟨(i), (show _ = _ by omega), ?_⟩; conv => whnf)
        | (refine ⟨(i), 0, (show _ = _ by omega), ?_⟩; conv => whnf)
        | (refine ⟨(i), 1, (show _ = _ by omega), ?_⟩; conv => whnf)
        | (refine ⟨(i), 2, (show _ = _ by omega), ?_⟩; conv => whnf)
        | (refine ⟨(i), 3, (show _ = _ by omega), ?_⟩; conv => whnf)
        | (refine ⟨(i), 4, (show _ = _ by omega), ?_⟩; conv => whnf)
        | (refine ⟨(i), 5, (show _ = _ by omega), ?_⟩; conv => whnf)
        | (refine ⟨0, (show _ = _ by omega), ?_⟩; conv => whnf))
      rw [show 0 + ((i : Int)).toNat = i by omega, a1]
      conv => whnf
      repeat (first
        | (refine And.intro ?_ ?_; (focus (first | omega | decide | exact EqOk.mk (by kernel_rfl) (by kernel_rfl) (by kernel_rfl) | exact Int.natCast_nonneg _ | ((repeat' refine And.intro ?_ ?_) <;> first | omega | exact Int.natCast_nonneg _ | (simp only [i64max, u8max, u16max, u32max, u64max]; omega) | (simp only [mulSz_eq, Cont.len, colsLen, Col.len, List.length_cons, List.length_nil, List.length_replicate, List.length_append]; first | done | omega) | (simp [mulSz, Cont.len, bne]; first | done | omega)))); conv => whnf)
        | (refine tst_in ?_ ?_; (focus (intro h_; exfalso; first | omega | ((try simp only [decide_eq_true_eq, decide_eq_false_iff_not] at h_); omega) | (simp [mulSz, Cont.len, bne] at h_; first | done | omega))); intro _; conv => whnf)
        | (refine tst_in ?_ ?_; rotate_left; (focus (intro h_; exfalso; first | omega | ((try simp only [decide_eq_true_eq, decide_eq_false_iff_not] at h_); omega) | (simp [mulSz, Cont.len, bne] at h_; first | done | omega))); intro _; conv => whnf)
        | (refine ⟨0, (show _ = _ by omega), ?_⟩; conv => whnf))
      refine ⟨_, [], IW, ?_⟩
      conv => whnf
      iterate 2
       refine And.intro ?_ ?_
       focus
        conv => whnf
        repeat' (first | exact True.intro | rfl | refine And.intro ?_ ?_ | omega)
        all_goals (conv => whnf)
        all_goals (try (first | rfl | omega | (simp; done)))
      conv => whnf
      conv => whnf
      repeat (first
        | (refine And.intro ?_ ?_; (focus (first | omega | decide | exact EqOk.mk (by kernel_rfl) (by kernel_rfl) (by kernel_rfl) | exact Int.natCast_nonneg _ | ((repeat' refine And.intro ?_ ?_) <;> first | omega | exact Int.natCast_nonneg _ | (simp only [i64max, u8max, u16max, u32max, u64max]; omega) | (simp only [mulSz_eq, Cont.len, colsLen, Col.len, List.length_cons, List.length_nil, List.length_replicate, List.length_append]; first | done | omega) | (simp [mulSz, Cont.len, bne]; first | done | omega)))); conv => whnf)
        | (refine tst_in ?_ ?_; (focus (intro h_; exfalso; first | omega | ((try simp only [decide_eq_true_eq, decide_eq_false_iff_not] at h_); omega) | (simp [mulSz, Cont.len, bne] at h_; first | done | omega))); intro _; conv => whnf)
        | (refine tst_in ?_ ?_; rotate_left; (focus (intro h_; exfalso; first | omega | ((try simp only [decide_eq_true_eq, decide_eq_false_iff_not] at h_); omega) | (simp [mulSz, Cont.len, bne] at h_; first | done | omega))); intro _; conv => whnf)
        | (refine ⟨0, (show _ = _ by omega), ?_⟩; conv => whnf))
      have hs : tot W N (i + 1) = tot W N i + ((W i).size - N) := rfl
      by_cases hgi : goodW W N i
      · obtain ⟨q1, q2⟩ := id hgi
        rw [show okN ((W i).size : Int) (N : Int) = true by unfold okN; simp; omega]
        conv => whnf
        repeat (first
          | (refine And.intro ?_ ?_; (focus (first | omega | decide | exact EqOk.mk (by kernel_rfl) (by kernel_rfl) (by kernel_rfl) | exact Int.natCast_nonneg _ | ((repeat' refine And.intro ?_ ?_) <;> first | omega | exact Int.natCast_nonneg _ | (simp only [i64max, u8max, u16max, u32max, u64max]; omega) | (simp only [mulSz_eq, Cont.len, colsLen, Col.len, List.length_cons, List.length_nil, List.length_replicate, List.length_append]; first | done | omega) | (simp [mulSz, Cont.len, bne]; first | done | omega)))); conv => whnf)
          | (refine tst_in ?_ ?_; (focus (intro h_; exfalso; first | omega | ((try simp only [decide_eq_true_eq, decide_eq_false_iff_not] at h_); omega) | (simp [mulSz, Cont.len, bne] at h_; first | done | omega))); intro _; conv => whnf)
          | (refine tst_in ?_ ?_; rotate_left; (focus (intro h_; exfalso; first | omega | ((try simp only [decide_eq_true_eq, decide_eq_false_iff_not] at h_); omega) | (simp [mulSz, Cont.len, bne] at h_; first | done | omega))); intro _; conv => whnf)
          | (refine ⟨0, (show _ = _ by omega), ?_⟩; conv => whnf))
        refine tst_in (fun g2 => ?_) (fun g2' => ?_)
        · have g2 : 32768 < tot W N (i + 1) := by simp at g2; omega
          obtain ⟨rfl, rfl⟩ := msg_long hM (i + 1) hlt g2
          conv => whnf
          repeat (first
            | (refine And.intro ?_ ?_; (focus (first | omega | decide | exact EqOk.mk (by kernel_rfl) (by kernel_rfl) (by kernel_rfl) | exact Int.natCast_nonneg _ | ((repeat' refine And.intro ?_ ?_) <;> first | omega | exact Int.natCast_nonneg _ | (simp only [i64max, u8max, u16max, u32max, u64max]; omega) | (simp only [mulSz_eq, Cont.len, colsLen, Col.len, List.length_cons, List.length_nil, List.length_replicate, List.length_append]; first | done | omega) | (simp [mulSz, Cont.len, bne]; first | done | omega)))); conv => whnf)
            | (refine tst_in ?_ ?_; (focus (intro h_; exfalso; first | omega | ((try simp only [decide_eq_true_eq, decide_eq_false_iff_not] at h_); omega) | (simp [mulSz, Cont.len, bne] at h_; first | done | omega))); intro _; conv => whnf)
            | (refine tst_in ?_ ?_; rotate_left; (focus (intro h_; exfalso; first | omega | ((try simp only [decide_eq_true_eq, decide_eq_false_iff_not] at h_); omega) | (simp [mulSz, Cont.len, bne] at h_; first | done | omega))); intro _; conv => whnf)
            | (refine ⟨0, (show _ = _ by omega), ?_⟩; conv => whnf))
          refine .inl ⟨(), [0], ?_⟩
          conv => whnf
          repeat' (first | exact True.intro | rfl | refine And.intro ?_ ?_)
          all_goals (conv => whnf)
          repeat' (first | exact True.intro | rfl | refine And.intro ?_ ?_)
          all_goals (try omega)
        · have g2 : tot W N (i + 1) ≤ 32768 := by simp at g2'; omega
          conv => whnf
          repeat (first
            | (refine And.intro ?_ ?_; (focus (first | omega | decide | exact EqOk.mk (by kernel_rfl) (by kernel_rfl) (by kernel_rfl) | exact Int.natCast_nonneg _ | ((repeat' refine And.intro ?_ ?_) <;> first | omega | exact Int.natCast_nonneg _ | (simp only [i64max, u8max, u16max, u32max, u64max]; omega) | (simp only [mulSz_eq, Cont.len, colsLen, Col.len, List.length_cons, List.length_nil, List.length_replicate, List.length_append]; first | done | omega) | (simp [mulSz, Cont.len, bne]; first | done | omega)))); conv => whnf)
            | (refine tst_in ?_ ?_; (focus (intro h_; exfalso; first | omega | ((try simp only [decide_eq_true_eq, decide_eq_false_iff_not] at h_); omega) | (simp [mulSz, Cont.len, bne] at h_; first | done | omega))); intro _; conv => whnf)
            | (refine tst_in ?_ ?_; rotate_left; (focus (intro h_; exfalso; first | omega | ((try simp only [decide_eq_true_eq, decide_eq_false_iff_not] at h_); omega) | (simp [mulSz, Cont.len, bne] at h_; first | done | omega))); intro _; conv => whnf)
            | (refine ⟨0, (show _ = _ by omega), ?_⟩; conv => whnf))
          refine ⟨[0], i + 1, ?_, ⟨(by show i + 1 ≤ n; omega), fun j hj => (by by_cases h : j = i; (subst h; exact hgi); exact hg j (by omega)), g2⟩, (by show n - (i + 1) < n - i; omega)⟩
          show stLe _ _ (st17a W n ca N t (i + 1)) _
          conv => whnf
          repeat' (first | exact True.intro | rfl | refine And.intro ?_ ?_)
          all_goals (conv => whnf)
          repeat' (first | exact True.intro | rfl | refine And.intro ?_ ?_)
          all_goals (try omega)
      · obtain ⟨rfl, rfl⟩ := msg_bad hM hlt hgi
        rw [show okN ((W i).size : Int) (N : Int) = false by unfold okN; unfold goodW at hgi; simp; omega]
        conv => whnf
        repeat (first
          | (refine And.intro ?_ ?_; (focus (first | omega | decide | exact EqOk.mk (by kernel_rfl) (by kernel_rfl) (by kernel_rfl) | exact Int.natCast_nonneg _ | ((repeat' refine And.intro ?_ ?_) <;> first | omega | exact Int.natCast_nonneg _ | (simp only [i64max, u8max, u16max, u32max, u64max]; omega) | (simp only [mulSz_eq, Cont.len, colsLen, Col.len, List.length_cons, List.length_nil, List.length_replicate, List.length_append]; first | done | omega) | (simp [mulSz, Cont.len, bne]; first | done | omega)))); conv => whnf)
          | (refine tst_in ?_ ?_; (focus (intro h_; exfalso; first | omega | ((try simp only [decide_eq_true_eq, decide_eq_false_iff_not] at h_); omega) | (simp [mulSz, Cont.len, bne] at h_; first | done | omega))); intro _; conv => whnf)
          | (refine tst_in ?_ ?_; rotate_left; (focus (intro h_; exfalso; first | omega | ((try simp only [decide_eq_true_eq, decide_eq_false_iff_not] at h_); omega) | (simp [mulSz, Cont.len, bne] at h_; first | done | omega))); intro _; conv => whnf)
          | (refine ⟨0, (show _ = _ by omega), ?_⟩; conv => whnf))
        refine .inl ⟨(), [0], ?_⟩
        conv => whnf
        repeat' (first | exact True.intro | rfl | refine And.intro ?_ ?_)
        all_goals (conv => whnf)
        repeat' (first | exact True.intro | rfl | refine And.intro ?_ ?_)
        all_goals (try omega)
    · have hge : i = n := by simp at g1'; omega
      rw [hge] at hg ht ⊢
      clear hi g1'
      conv => whnf
      repeat (first
        | (refine And.intro ?_ ?_; (focus (first | omega | decide | exact EqOk.mk (by kernel_rfl) (by kernel_rfl) (by kernel_rfl) | exact Int.natCast_nonneg _ | ((repeat' refine And.intro ?_ ?_) <;> first | omega | exact Int.natCast_nonneg _ | (simp only [i64max, u8max, u16max, u32max, u64max]; omega) | (simp only [mulSz_eq, Cont.len, colsLen, Col.len, List.length_cons, List.length_nil, List.length_replicate, List.length_append]; first | done | omega) | (simp [mulSz, Cont.len, bne]; first | done | omega)))); conv => whnf)
        | (refine tst_in ?_ ?_; (focus (intro h_; exfalso; first | omega | ((try simp only [decide_eq_true_eq, decide_eq_false_iff_not] at h_); omega) | (simp [mulSz, Cont.len, bne] at h_; first | done | omega))); intro _; conv => whnf)
        | (refine tst_in ?_ ?_; rotate_left; (focus (intro h_; exfalso; first | omega | ((try simp only [decide_eq_true_eq, decide_eq_false_iff_not] at h_); omega) | (simp [mulSz, Cont.len, bne] at h_; first | done | omega))); intro _; conv => whnf)
        | (refine ⟨0, (show _ = _ by omega), ?_⟩; conv => whnf))
      refine ⟨_, [], CH, ?_⟩
      conv => whnf
      iterate 2
       refine And.intro ?_ ?_
       focus
        conv => whnf
        repeat' (first | exact True.intro | rfl | refine And.intro ?_ ?_)
        all_goals (conv => whnf)
        repeat' (first | exact True.intro | rfl | refine And.intro ?_ ?_)
        all_goals (try (first | rfl | omega | (simp; first | done | omega)))
      conv => whnf
      refine ⟨?_, True.intro⟩
      rintro tl htl
      conv => whnf
      change List Int at tl
      conv => whnf
      repeat (first
        | (refine And.intro ?_ ?_; (focus (first | omega | decide | exact EqOk.mk (by kernel_rfl) (by kernel_rfl) (by kernel_rfl) | exact Int.natCast_nonneg _ | ((repeat' refine And.intro ?_ ?_) <;> first | omega | exact Int.natCast_nonneg _ | (simp only [i64max, u8max, u16max, u32max, u64max]; omega) | (simp only [mulSz_eq, Cont.len, colsLen, Col.len, List.length_cons, List.length_nil, List.length_replicate, List.length_append]; first | done | omega) | (simp [mulSz, Cont.len, bne]; first | done | omega)))); conv => whnf)
        | (refine tst_in ?_ ?_; (focus (intro h_; exfalso; first | omega | ((try simp only [decide_eq_true_eq, decide_eq_false_iff_not] at h_); omega) | (simp [mulSz, Cont.len, bne] at h_; first | done | omega))); intro _; conv => whnf)
        | (refine tst_in ?_ ?_; rotate_left; (focus (intro h_; exfalso; first | omega | ((try simp only [decide_eq_true_eq, decide_eq_false_iff_not] at h_); omega) | (simp [mulSz, Cont.len, bne] at h_; first | done | omega))); intro _; conv => whnf)
        | (refine ⟨0, (show _ = _ by omega), ?_⟩; conv => whnf))
      refine ⟨⟨[0, 1, 2, 3, 4], (0, tl, List.replicate (tot W N n) 0), ?_, ⟨Nat.zero_le _, fun j hj => absurd hj (by show ¬ j < 0; omega)⟩⟩, ?_⟩
      · show stLe _ _ (st17b W n ca N t 0 tl (List.replicate (tot W N n) 0)) _
        conv => whnf
        repeat' (first | exact True.intro | rfl | refine And.intro ?_ ?_)
        all_goals (conv => whnf)
        repeat' (first | exact True.intro | rfl | refine And.intro ?_ ?_)
        all_goals (try omega)
        show 0 + (List.replicate (tot W N n) (0 : Int)).length = _
        rw [List.length_replicate]; omega
      · intro ⟨i, tl, u⟩ ⟨(hi : i ≤ n), (hw : ∀ j, j < i → whl N (W j))⟩
        show forceSt (st17b W n ca N t i tl u) _
        conv => whnf
        repeat (first
          | (refine And.intro ?_ ?_; (focus (first | omega | decide | exact EqOk.mk (by kernel_rfl) (by kernel_rfl) (by kernel_rfl) | exact Int.natCast_nonneg _ | ((repeat' refine And.intro ?_ ?_) <;> first | omega | exact Int.natCast_nonneg _ | (simp only [i64max, u8max, u16max, u32max, u64max]; omega) | (simp only [mulSz_eq, Cont.len, colsLen, Col.len, List.length_cons, List.length_nil, List.length_replicate, List.length_append]; first | done | omega) | (simp [mulSz, Cont.len, bne]; first | done | omega)))); conv => whnf)
          | (refine tst_in ?_ ?_; (focus (intro h_; exfalso; first | omega | ((try simp only [decide_eq_true_eq, decide_eq_false_iff_not] at h_); omega) | (simp [mulSz, Cont.len, bne] at h_; first | done | omega))); intro _; conv => whnf)
          | (refine tst_in ?_ ?_; rotate_left; (focus (intro h_; exfalso; first | omega | ((try simp only [decide_eq_true_eq, decide_eq_false_iff_not] at h_); omega) | (simp [mulSz, Cont.len, bne] at h_; first | done | omega))); intro _; conv => whnf)
          | (refine ⟨0, (show _ = _ by omega), ?_⟩; conv => whnf))
        refine tst_in (fun g1 => ?_) (fun g1' => ?_)
        · have hlt : i < n := by simp at g1; omega
          have a1 : (tb W n ++ t).getD i ByteArray.empty = W i := tab_app _ _ _ hlt
          obtain ⟨q1, q2⟩ := hg i hlt
          have hdz := dataT_size N (W i)
          have EN := enc_f N (by omega) (by omega) (dataT N (W i)) tl (by omega)
          have hcl := catD_len W N i
          have htm := tot_mono W N i n (by omega)
          have htm2 := tot_mono W N (i + 1) n (by omega)
          have hs : tot W N (i + 1) = tot W N i + ((W i).size - N) := rfl
          conv => whnf
          repeat (first
            | (refine And.intro ?_ ?_; (focus (first | omega | decide | exact EqOk.mk (by kernel_rfl) (by kernel_rfl) (by kernel_rfl) | exact Int.natCast_nonneg _ | ((repeat' refine And.intro ?_ ?_) <;> first | omega | exact Int.natCast_nonneg _ | (simp only [i64max, u8max, u16max, u32max, u64max]; omega) | (simp only [mulSz_eq, Cont.len, colsLen, Col.len, List.length_cons, List.length_nil, List.length_replicate, List.length_append, tab_len]; first | done | omega) | (simp [mulSz, Cont.len, bne, tab_len]; first | done | omega)))); conv => whnf)
            | (refine tst_in ?_ ?_; (focus (intro h_; exfalso; first | omega | ((try simp only [decide_eq_true_eq, decide_eq_false_iff_not] at h_); omega) | (simp [mulSz, Cont.len, bne, tab_len] at h_; first | done | omega))); intro _; conv => whnf)
            | (refine tst_in ?_ ?_; rotate_left; (focus (intro h_; exfalso; first | omega | ((try simp only [decide_eq_true_eq, decide_eq_false_iff_not] at h_); omega) | (simp [mulSz, Cont.len, bne, tab_len] at h_; first | done | omega))); intro _; conv => whnf)
            | (refine ⟨(i), (show _ = _ by omega), ?_⟩; conv => whnf)
            | (refine ⟨(i), 0, (show _ = _ by omega), ?_⟩; conv => whnf)
            | (refine ⟨(i), 1, (show _ = _ by omega), ?_⟩; conv => whnf)
            | (refine ⟨(i), 2, (show _ = _ by omega), ?_⟩; conv => whnf)
            | (refine ⟨(i), 3, (show _ = _ by omega), ?_⟩; conv => whnf)
            | (refine ⟨(i), 4, (show _ = _ by omega), ?_⟩; conv => whnf)
            | (refine ⟨(i), 5, (show _ = _ by omega), ?_⟩; conv => whnf)
            | (refine ⟨0, (show _ = _ by omega), ?_⟩; conv => whnf))
          rw [show 0 + ((i : Int)).toNat = i by omega, a1]
          conv => whnf
          repeat (first
            | (refine And.intro ?_ ?_; (focus (first | omega | decide | exact EqOk.mk (by kernel_rfl) (by kernel_rfl) (by kernel_rfl) | exact Int.natCast_nonneg _ | ((repeat' refine And.intro ?_ ?_) <;> first | omega | exact Int.natCast_nonneg _ | (simp only [i64max, u8max, u16max, u32max, u64max]; omega) | (simp only [mulSz_eq, Cont.len, colsLen, Col.len, List.length_cons, List.length_nil, List.length_replicate, List.length_append]; first | done | omega) | (simp [mulSz, Cont.len, bne]; first | done | omega)))); conv => whnf)
            | (refine tst_in ?_ ?_; (focus (intro h_; exfalso; first | omega | ((try simp only [decide_eq_true_eq, decide_eq_false_iff_not] at h_); omega) | (simp [mulSz, Cont.len, bne] at h_; first | done | omega))); intro _; conv => whnf)
            | (refine tst_in ?_ ?_; rotate_left; (focus (intro h_; exfalso; first | omega | ((try simp only [decide_eq_true_eq, decide_eq_false_iff_not] at h_); omega) | (simp [mulSz, Cont.len, bne] at h_; first | done | omega))); intro _; conv => whnf)
            | (refine ⟨0, (show _ = _ by omega), ?_⟩; conv => whnf))
          rw [show ((W i).size : Int) - (N : Int) = (((W i).size - N : Nat) : Int) by omega]
          conv => whnf
          repeat (first
            | (refine And.intro ?_ ?_; (focus (first | omega | decide | exact EqOk.mk (by kernel_rfl) (by kernel_rfl) (by kernel_rfl) | exact Int.natCast_nonneg _ | ((repeat' refine And.intro ?_ ?_) <;> first | omega | exact Int.natCast_nonneg _ | (simp only [i64max, u8max, u16max, u32max, u64max]; omega) | (simp only [mulSz_eq, Cont.len, colsLen, Col.len, List.length_cons, List.length_nil, List.length_replicate, List.length_append]; first | done | omega) | (simp [mulSz, Cont.len, bne]; first | done | omega)))); conv => whnf)
            | (refine tst_in ?_ ?_; (focus (intro h_; exfalso; first | omega | ((try simp only [decide_eq_true_eq, decide_eq_false_iff_not] at h_); omega) | (simp [mulSz, Cont.len, bne] at h_; first | done | omega))); intro _; conv => whnf)
            | (refine tst_in ?_ ?_; rotate_left; (focus (intro h_; exfalso; first | omega | ((try simp only [decide_eq_true_eq, decide_eq_false_iff_not] at h_); omega) | (simp [mulSz, Cont.len, bne] at h_; first | done | omega))); intro _; conv => whnf)
            | (refine ⟨0, (show _ = _ by omega), ?_⟩; conv => whnf))
          rw [show (W i).extract 0 ((((W i).size - N : Nat) : Int)).toNat = dataT N (W i) from rfl]
          refine ⟨_, [1, 2, 3], EN, ?_⟩
          conv => whnf
          iterate 2
           refine And.intro ?_ ?_
           focus
            conv => whnf
            repeat' (first | exact True.intro | rfl | refine And.intro ?_ ?_ | omega)
            all_goals (conv => whnf)
            all_goals (try (first | rfl | omega | (simp; done)))
          conv => whnf
          refine ⟨?_, True.intro⟩
          intro _ _
          conv => whnf
          conv => whnf
          repeat (first
            | (refine And.intro ?_ ?_; (focus (first | omega | decide | exact EqOk.mk (by kernel_rfl) (by kernel_rfl) (by kernel_rfl) | exact Int.natCast_nonneg _ | ((repeat' refine And.intro ?_ ?_) <;> first | omega | exact Int.natCast_nonneg _ | (simp only [i64max, u8max, u16max, u32max, u64max]; omega) | (simp only [mulSz_eq, Cont.len, colsLen, Col.len, List.length_cons, List.length_nil, List.length_replicate, List.length_append, tab_len]; first | done | omega) | (simp [mulSz, Cont.len, bne, tab_len]; first | done | omega)))); conv => whnf)
            | (refine tst_in ?_ ?_; (focus (intro h_; exfalso; first | omega | ((try simp only [decide_eq_true_eq, decide_eq_false_iff_not] at h_); omega) | (simp [mulSz, Cont.len, bne, tab_len] at h_; first | done | omega))); intro _; conv => whnf)
            | (refine tst_in ?_ ?_; rotate_left; (focus (intro h_; exfalso; first | omega | ((try simp only [decide_eq_true_eq, decide_eq_false_iff_not] at h_); omega) | (simp [mulSz, Cont.len, bne, tab_len] at h_; first | done | omega))); intro _; conv => whnf)
            | (refine ⟨0, (show _ = _ by omega), ?_⟩; conv => whnf))
          rw [take_tb2]
          refine ⟨by (show (dataT N (W i)).size + (tx (tb (encF N (dataT N (W i)) (dataT N (W i)).size) N)).size ≤ _; rw [tx_size, tab_len]; omega), ?_⟩
          conv => whnf
          repeat (first
            | (refine And.intro ?_ ?_; (focus (first | omega | decide | exact EqOk.mk (by kernel_rfl) (by kernel_rfl) (by kernel_rfl) | exact Int.natCast_nonneg _ | ((repeat' refine And.intro ?_ ?_) <;> first | omega | exact Int.natCast_nonneg _ | (simp only [i64max, u8max, u16max, u32max, u64max]; omega) | (simp only [mulSz_eq, Cont.len, colsLen, Col.len, List.length_cons, List.length_nil, List.length_replicate, List.length_append]; first | done | omega) | (simp [mulSz, Cont.len, bne]; first | done | omega)))); conv => whnf)
            | (refine tst_in ?_ ?_; (focus (intro h_; exfalso; first | omega | ((try simp only [decide_eq_true_eq, decide_eq_false_iff_not] at h_); omega) | (simp [mulSz, Cont.len, bne] at h_; first | done | omega))); intro _; conv => whnf)
            | (refine tst_in ?_ ?_; rotate_left; (focus (intro h_; exfalso; first | omega | ((try simp only [decide_eq_true_eq, decide_eq_false_iff_not] at h_); omega) | (simp [mulSz, Cont.len, bne] at h_; first | done | omega))); intro _; conv => whnf)
            | (refine ⟨0, (show _ = _ by omega), ?_⟩; conv => whnf))
          refine tst_in (fun g2 => ?_) (fun g2' => ?_)
          · have hnw : ¬ whl N (W i) := fun q => by
              have hq : ((codeW N (dataT N (W i))).toList == (W i).toList) = true := by rw [beq_bytes]; exact decide_eq_true q
              have g3 : (!((codeW N (dataT N (W i))).toList == (W i).toList)) = true := g2
              rw [hq] at g3; cases g3
            obtain ⟨rfl, rfl⟩ := msg_none hM hg ht hlt hnw
            conv => whnf
            repeat (first
              | (refine And.intro ?_ ?_; (focus (first | omega | decide | exact EqOk.mk (by kernel_rfl) (by kernel_rfl) (by kernel_rfl) | exact Int.natCast_nonneg _ | ((repeat' refine And.intro ?_ ?_) <;> first | omega | exact Int.natCast_nonneg _ | (simp only [i64max, u8max, u16max, u32max, u64max]; omega) | (simp only [mulSz_eq, Cont.len, colsLen, Col.len, List.length_cons, List.length_nil, List.length_replicate, List.length_append]; first | done | omega) | (simp [mulSz, Cont.len, bne]; first | done | omega)))); conv => whnf)
              | (refine tst_in ?_ ?_; (focus (intro h_; exfalso; first | omega | ((try simp only [decide_eq_true_eq, decide_eq_false_iff_not] at h_); omega) | (simp [mulSz, Cont.len, bne] at h_; first | done | omega))); intro _; conv => whnf)
              | (refine tst_in ?_ ?_; rotate_left; (focus (intro h_; exfalso; first | omega | ((try simp only [decide_eq_true_eq, decide_eq_false_iff_not] at h_); omega) | (simp [mulSz, Cont.len, bne] at h_; first | done | omega))); intro _; conv => whnf)
              | (refine ⟨0, (show _ = _ by omega), ?_⟩; conv => whnf))
            refine .inl ⟨(), [0], ?_⟩
            conv => whnf
            repeat' (first | exact True.intro | rfl | refine And.intro ?_ ?_)
            all_goals (conv => whnf)
            repeat' (first | exact True.intro | rfl | refine And.intro ?_ ?_)
            all_goals (try omega)
          · have hwi : whl N (W i) := by
              have g3 : (!((codeW N (dataT N (W i))).toList == (W i).toList)) = false := g2'
              rw [beq_bytes] at g3
              simpa [whl] using g3
            conv => whnf
            repeat (first
              | (refine And.intro ?_ ?_; (focus (first | omega | decide | exact EqOk.mk (by kernel_rfl) (by kernel_rfl) (by kernel_rfl) | exact Int.natCast_nonneg _ | ((repeat' refine And.intro ?_ ?_) <;> first | omega | exact Int.natCast_nonneg _ | (simp only [i64max, u8max, u16max, u32max, u64max]; omega) | (simp only [mulSz_eq, Cont.len, colsLen, Col.len, List.length_cons, List.length_nil, List.length_replicate, List.length_append]; first | done | omega) | (simp [mulSz, Cont.len, bne]; first | done | omega)))); conv => whnf)
              | (refine tst_in ?_ ?_; (focus (intro h_; exfalso; first | omega | ((try simp only [decide_eq_true_eq, decide_eq_false_iff_not] at h_); omega) | (simp [mulSz, Cont.len, bne] at h_; first | done | omega))); intro _; conv => whnf)
              | (refine tst_in ?_ ?_; rotate_left; (focus (intro h_; exfalso; first | omega | ((try simp only [decide_eq_true_eq, decide_eq_false_iff_not] at h_); omega) | (simp [mulSz, Cont.len, bne] at h_; first | done | omega))); intro _; conv => whnf)
              | (refine ⟨0, (show _ = _ by omega), ?_⟩; conv => whnf))
            intro u1
            change List Int at u1
            conv => whnf
            repeat (first
              | (refine And.intro ?_ ?_; (focus (first | omega | decide | exact EqOk.mk (by kernel_rfl) (by kernel_rfl) (by kernel_rfl) | exact Int.natCast_nonneg _ | ((repeat' refine And.intro ?_ ?_) <;> first | omega | exact Int.natCast_nonneg _ | (simp only [i64max, u8max, u16max, u32max, u64max]; omega) | (simp only [mulSz_eq, Cont.len, colsLen, Col.len, List.length_cons, List.length_nil, List.length_replicate, List.length_append]; first | done | omega) | (simp [mulSz, Cont.len, bne]; first | done | omega)))); conv => whnf)
              | (refine tst_in ?_ ?_; (focus (intro h_; exfalso; first | omega | ((try simp only [decide_eq_true_eq, decide_eq_false_iff_not] at h_); omega) | (simp [mulSz, Cont.len, bne] at h_; first | done | omega))); intro _; conv => whnf)
              | (refine tst_in ?_ ?_; rotate_left; (focus (intro h_; exfalso; first | omega | ((try simp only [decide_eq_true_eq, decide_eq_false_iff_not] at h_); omega) | (simp [mulSz, Cont.len, bne] at h_; first | done | omega))); intro _; conv => whnf)
              | (refine ⟨0, (show _ = _ by omega), ?_⟩; conv => whnf))
            refine ⟨[0, 1, 2, 3, 6], (i + 1, tl, u1), ?_, ⟨(by show i + 1 ≤ n; omega), fun j hj => (by by_cases h : j = i; (subst h; exact hwi); exact hw j (by omega))⟩, (by show n - (i + 1) < n - i; omega)⟩
            have hcl2 : (catD W N (i + 1)).length = (catD W N i).length + (dataT N (W i)).size := by show (catD W N i ++ bytL (dataT N (W i))).length = _; rw [List.length_append, bytL_len]
            show stLe _ _ (st17b W n ca N t (i + 1) tl u1) _
            conv => whnf
            repeat' (first | exact True.intro | rfl | refine And.intro ?_ ?_)
            all_goals (conv => whnf)
            repeat' (first | exact True.intro | rfl | refine And.intro ?_ ?_)
            all_goals (try omega)
            show catD W N i ++ bytL (dataT N (W i)) ++ u1 = List.take (catD W N i).length _ ++ bytL (dataT N (W i)) ++ u1
            rw [List.drop_zero, List.take_left' rfl]
        · have hge : i = n := by simp at g1'; omega
          subst hge
          obtain ⟨hX, rfl⟩ := msg_all hM hg ht hw
          conv => whnf
          repeat (first
            | (refine And.intro ?_ ?_; (focus (first | omega | decide | exact EqOk.mk (by kernel_rfl) (by kernel_rfl) (by kernel_rfl) | exact Int.natCast_nonneg _ | ((repeat' refine And.intro ?_ ?_) <;> first | omega | exact Int.natCast_nonneg _ | (simp only [i64max, u8max, u16max, u32max, u64max]; omega) | (simp only [mulSz_eq, Cont.len, colsLen, Col.len, List.length_cons, List.length_nil, List.length_replicate, List.length_append]; first | done | omega) | (simp [mulSz, Cont.len, bne]; first | done | omega)))); conv => whnf)
            | (refine tst_in ?_ ?_; (focus (intro h_; exfalso; first | omega | ((try simp only [decide_eq_true_eq, decide_eq_false_iff_not] at h_); omega) | (simp [mulSz, Cont.len, bne] at h_; first | done | omega))); intro _; conv => whnf)
            | (refine tst_in ?_ ?_; rotate_left; (focus (intro h_; exfalso; first | omega | ((try simp only [decide_eq_true_eq, decide_eq_false_iff_not] at h_); omega) | (simp [mulSz, Cont.len, bne] at h_; first | done | omega))); intro _; conv => whnf)
            | (refine ⟨0, (show _ = _ by omega), ?_⟩; conv => whnf))
          refine .inl ⟨(), [0], ?_⟩
          conv => whnf
          repeat' (first | exact True.intro | rfl | refine And.intro ?_ ?_)
          all_goals (conv => whnf)
          repeat' (first | exact True.intro | rfl | refine And.intro ?_ ?_)
          all_goals (try omega)
          show X = tx _
          rw [List.drop_zero, List.take_left' rfl, ← hX, tx_bytL]

theorem dataT_code (N : Nat) (p : ByteArray) : dataT N (codeW N p) = p := by
  unfold dataT
  rw [codeW_size, Nat.add_sub_cancel, code_data]
theorem whl_code (N : Nat) (p : ByteArray) : whl N (codeW N p) := by unfold whl; rw [dataT_code]
theorem catD_words (N : Nat) (s : ByteArray) (L : Nat) : ∀ i, (∀ j, j < i → j * L < s.size) → catD (wordsT N s L) N i = (bytL s).take (min (i * L) s.size)
  | 0, _ => by rw [Nat.zero_mul, Nat.zero_min]; rfl
  | i + 1, h => by
    have hi := h i (by omega)
    show catD (wordsT N s L) N i ++ bytL (dataT N (codeW N (pieces s L i))) = _
    rw [catD_words N s L i fun j hj => h j (by omega), dataT_code, Nat.min_eq_left (by omega : i * L ≤ s.size)]
    unfold pieces
    rw [bytL_extract, ← List.take_add]
    congr 1
    have : (i + 1) * L = i * L + L := by rw [Nat.add_mul, Nat.one_mul]
    omega
theorem cnt_lt (n L i : Nat) (hL : 0 < L) (h : i < cnt n L) : i * L < n := by
  unfold cnt at h
  have h1 : i + 1 ≤ (n + L - 1) / L := h
  rw [Nat.le_div_iff_mul_le hL, Nat.add_mul, Nat.one_mul] at h1
  omega
theorem cnt_ge (n L : Nat) (hL : 0 < L) : n ≤ cnt n L * L := by
  unfold cnt
  have h1 := Nat.div_add_mod (n + L - 1) L
  have h2 := Nat.mod_lt (n + L - 1) hL
  rw [Nat.mul_comm] at h1
  omega
theorem words_msg (N : Nat) (s : ByteArray) (L : Nat) (hL : 1 ≤ L) (hN : N + L ≤ 255) (hs : s.size ≤ 32768) : Msg (wordsT N s L) N (cnt s.size L) s 0 := by
  have hc := catD_words N s L (cnt s.size L) fun j hj => cnt_lt s.size L j (by omega) hj
  rw [Nat.min_eq_right (cnt_ge s.size L (by omega)), List.take_of_length_le (by rw [bytL_len]; exact Nat.le_refl _)] at hc
  refine .all s (fun j hj => ?_) ?_ (fun j _ => whl_code N _) hc.symm
  · have h1 := cnt_lt s.size L j (by omega) hj
    have h2 := pieces_size s L j
    have h3 : 1 ≤ (pieces s L j).size := by
      unfold pieces
      rw [ByteArray.size_extract]
      have : (j + 1) * L = j * L + L := by rw [Nat.add_mul, Nat.one_mul]
      omega
    have h4 : (wordsT N s L j).size = (pieces s L j).size + N := codeW_size N _
    unfold goodW
    omega
  · rw [← catD_len, hc, bytL_len]; exact hs
theorem chk_no {n r : Int} (h : ¬ (2 ≤ r ∧ r ≤ 64 ∧ r % 2 = 0 ∧ r < n ∧ n ≤ 255)) : chkV n r = 1 := by
  unfold chkV
  rw [if_neg]
  intro hh
  have h1 := okR_iff.1 hh.1
  have h2 : r < n ∧ n ≤ 255 := by simpa [okN] using hh.2
  exact h ⟨h1.1, h1.2.1, h1.2.2, h2.1, h2.2⟩
def qf3 : Nat → Bool := fun f => match f with  | _ => qf2 f
def cfgP (k : Nat) : Cfg := { cfgN k with sgn := fun _ => false, q := qf3 }
def cfgWr : Cfg := { cfgP 0 with wr := fun i => Nat.beq i 1 }
def noD (s : ByteArray) (r : Int) : Prop := ¬ (2 ≤ r ∧ r ≤ 64 ∧ r % 2 = 0 ∧ 1 ≤ s.size ∧ (s.size : Int) + r ≤ 255)
set_option maxHeartbeats 0 in
set_option maxRecDepth 100000 in
theorem Encode_n (s : ByteArray) (r : Int) (hs : s.size ≤ 9223372036854775807) (hr : -9223372036854775808 ≤ r ∧ r ≤ 9223372036854775807) (h : noD s r) : Fits Try.prog 5 ⟨[.str s, .int .i64 r], [], [numOut [] (.tup [.str ⟨#[]⟩, .int .i64 1])]⟩ := by
  have AC := areChecks_q r
  by_cases h1 : okR r = true
  · obtain ⟨r1, r2, r3⟩ := okR_iff.1 h1
    rw [h1] at AC
    have IW := isWord_q (IntKind.i64.wrap ((s.size : Int) + r)) r
    by_cases h2 : s.size = 0
    · skip
      refine fits_of_body (C := cfgWr) (c := k11) (ts := [4, 5]) tokL mixedL (fun _ => none) (fun _ => none)
        Try.func5 (by kernel_rfl) (by kernel_rfl) (by kernel_rfl) (by kernel_rfl) rfl ?_
      conv => whnf
      repeat (first
        | (refine And.intro ?_ ?_; (focus (first | omega | decide | exact EqOk.mk (by kernel_rfl) (by kernel_rfl) (by kernel_rfl) | exact Int.natCast_nonneg _ | ((repeat' refine And.intro ?_ ?_) <;> first | omega | exact Int.natCast_nonneg _ | (simp only [i64max, u8max, u16max, u32max, u64max]; omega) | (simp only [mulSz_eq, Cont.len, colsLen, Col.len, List.length_cons, List.length_nil, List.length_replicate, List.length_append]; first | done | omega) | (simp [mulSz, Cont.len, bne]; first | done | omega)))); conv => whnf)
        | (refine tst_in ?_ ?_; (focus (intro h_; exfalso; first | omega | ((try simp only [decide_eq_true_eq, decide_eq_false_iff_not] at h_); omega) | (simp [mulSz, Cont.len, bne] at h_; first | done | omega))); intro _; conv => whnf)
        | (refine tst_in ?_ ?_; rotate_left; (focus (intro h_; exfalso; first | omega | ((try simp only [decide_eq_true_eq, decide_eq_false_iff_not] at h_); omega) | (simp [mulSz, Cont.len, bne] at h_; first | done | omega))); intro _; conv => whnf)
        | (refine ⟨0, (show _ = _ by omega), ?_⟩; conv => whnf))
      refine ⟨_, [], AC, ?_⟩
      conv => whnf
      iterate 2
       refine And.intro ?_ ?_
       focus
        conv => whnf
        repeat' (first | exact True.intro | rfl | refine And.intro ?_ ?_ | omega)
        all_goals (conv => whnf)
        all_goals (try (first | rfl | omega | (simp; done)))
      conv => whnf
      conv => whnf
      repeat (first
        | (refine And.intro ?_ ?_; (focus (first | omega | decide | exact EqOk.mk (by kernel_rfl) (by kernel_rfl) (by kernel_rfl) | exact Int.natCast_nonneg _ | ((repeat' refine And.intro ?_ ?_) <;> first | omega | exact Int.natCast_nonneg _ | (simp only [i64max, u8max, u16max, u32max, u64max]; omega) | (simp only [mulSz_eq, Cont.len, colsLen, Col.len, List.length_cons, List.length_nil, List.length_replicate, List.length_append]; first | done | omega) | (simp [mulSz, Cont.len, bne]; first | done | omega)))); conv => whnf)
        | (refine tst_in ?_ ?_; (focus (intro h_; exfalso; first | omega | ((try simp only [decide_eq_true_eq, decide_eq_false_iff_not] at h_); omega) | (simp [mulSz, Cont.len, bne] at h_; first | done | omega))); intro _; conv => whnf)
        | (refine tst_in ?_ ?_; rotate_left; (focus (intro h_; exfalso; first | omega | ((try simp only [decide_eq_true_eq, decide_eq_false_iff_not] at h_); omega) | (simp [mulSz, Cont.len, bne] at h_; first | done | omega))); intro _; conv => whnf)
        | (refine ⟨0, (show _ = _ by omega), ?_⟩; conv => whnf))
      refine .inl ⟨(), [], ?_⟩
      conv => whnf
      repeat' (first | exact True.intro | rfl | refine And.intro ?_ ?_)
      all_goals (conv => whnf)
      repeat' (first | exact True.intro | rfl | refine And.intro ?_ ?_)
      all_goals (try omega)
    · rw [show okN (IntKind.i64.wrap ((s.size : Int) + r)) r = false by
        unfold noD at h
        unfold okN IntKind.wrap
        simp [IntKind.bits, IntKind.signed]
        omega] at IW
      refine fits_of_body (C := cfgWr) (c := k11) (ts := [4, 5]) tokL mixedL (fun _ => none) (fun _ => none)
        Try.func5 (by kernel_rfl) (by kernel_rfl) (by kernel_rfl) (by kernel_rfl) rfl ?_
      conv => whnf
      repeat (first
        | (refine And.intro ?_ ?_; (focus (first | omega | decide | exact EqOk.mk (by kernel_rfl) (by kernel_rfl) (by kernel_rfl) | exact Int.natCast_nonneg _ | ((repeat' refine And.intro ?_ ?_) <;> first | omega | exact Int.natCast_nonneg _ | (simp only [i64max, u8max, u16max, u32max, u64max]; omega) | (simp only [mulSz_eq, Cont.len, colsLen, Col.len, List.length_cons, List.length_nil, List.length_replicate, List.length_append]; first | done | omega) | (simp [mulSz, Cont.len, bne]; first | done | omega)))); conv => whnf)
        | (refine tst_in ?_ ?_; (focus (intro h_; exfalso; first | omega | ((try simp only [decide_eq_true_eq, decide_eq_false_iff_not] at h_); omega) | (simp [mulSz, Cont.len, bne] at h_; first | done | omega))); intro _; conv => whnf)
        | (refine tst_in ?_ ?_; rotate_left; (focus (intro h_; exfalso; first | omega | ((try simp only [decide_eq_true_eq, decide_eq_false_iff_not] at h_); omega) | (simp [mulSz, Cont.len, bne] at h_; first | done | omega))); intro _; conv => whnf)
        | (refine ⟨0, (show _ = _ by omega), ?_⟩; conv => whnf))
      refine ⟨_, [], AC, ?_⟩
      conv => whnf
      iterate 2
       refine And.intro ?_ ?_
       focus
        conv => whnf
        repeat' (first | exact True.intro | rfl | refine And.intro ?_ ?_ | omega)
        all_goals (conv => whnf)
        all_goals (try (first | rfl | omega | (simp; done)))
      conv => whnf
      conv => whnf
      repeat (first
        | (refine And.intro ?_ ?_; (focus (first | omega | decide | exact EqOk.mk (by kernel_rfl) (by kernel_rfl) (by kernel_rfl) | exact Int.natCast_nonneg _ | ((repeat' refine And.intro ?_ ?_) <;> first | omega | exact Int.natCast_nonneg _ | (simp only [i64max, u8max, u16max, u32max, u64max]; omega) | (simp only [mulSz_eq, Cont.len, colsLen, Col.len, List.length_cons, List.length_nil, List.length_replicate, List.length_append]; first | done | omega) | (simp [mulSz, Cont.len, bne]; first | done | omega)))); conv => whnf)
        | (refine tst_in ?_ ?_; (focus (intro h_; exfalso; first | omega | ((try simp only [decide_eq_true_eq, decide_eq_false_iff_not] at h_); omega) | (simp [mulSz, Cont.len, bne] at h_; first | done | omega))); intro _; conv => whnf)
        | (refine tst_in ?_ ?_; rotate_left; (focus (intro h_; exfalso; first | omega | ((try simp only [decide_eq_true_eq, decide_eq_false_iff_not] at h_); omega) | (simp [mulSz, Cont.len, bne] at h_; first | done | omega))); intro _; conv => whnf)
        | (refine ⟨0, (show _ = _ by omega), ?_⟩; conv => whnf))
      refine ⟨_, [], IW, ?_⟩
      conv => whnf
      iterate 2
       refine And.intro ?_ ?_
       focus
        conv => whnf
        repeat' (first | exact True.intro | rfl | refine And.intro ?_ ?_ | omega)
        all_goals (conv => whnf)
        all_goals (try (first | rfl | omega | (simp; done)))
      conv => whnf
      conv => whnf
      repeat (first
        | (refine And.intro ?_ ?_; (focus (first | omega | decide | exact EqOk.mk (by kernel_rfl) (by kernel_rfl) (by kernel_rfl) | exact Int.natCast_nonneg _ | ((repeat' refine And.intro ?_ ?_) <;> first | omega | exact Int.natCast_nonneg _ | (simp only [i64max, u8max, u16max, u32max, u64max]; omega) | (simp only [mulSz_eq, Cont.len, colsLen, Col.len, List.length_cons, List.length_nil, List.length_replicate, List.length_append]; first | done | omega) | (simp [mulSz, Cont.len, bne]; first | done | omega)))); conv => whnf)
        | (refine tst_in ?_ ?_; (focus (intro h_; exfalso; first | omega | ((try simp only [decide_eq_true_eq, decide_eq_false_iff_not] at h_); omega) | (simp [mulSz, Cont.len, bne] at h_; first | done | omega))); intro _; conv => whnf)
        | (refine tst_in ?_ ?_; rotate_left; (focus (intro h_; exfalso; first | omega | ((try simp only [decide_eq_true_eq, decide_eq_false_iff_not] at h_); omega) | (simp [mulSz, Cont.len, bne] at h_; first | done | omega))); intro _; conv => whnf)
        | (refine ⟨0, (show _ = _ by omega), ?_⟩; conv => whnf))
      refine .inl ⟨(), [], ?_⟩
      conv => whnf
      repeat' (first | exact True.intro | rfl | refine And.intro ?_ ?_)
      all_goals (conv => whnf)
      repeat' (first | exact True.intro | rfl | refine And.intro ?_ ?_)
      all_goals (try omega)
  · rw [Bool.eq_false_iff.2 h1] at AC
    refine fits_of_body (C := cfgWr) (c := k11) (ts := [4, 5]) tokL mixedL (fun _ => none) (fun _ => none)
      Try.func5 (by kernel_rfl) (by kernel_rfl) (by kernel_rfl) (by kernel_rfl) rfl ?_
    conv => whnf
    repeat (first
      | (refine And.intro ?_ ?_; (focus (first | omega | decide | exact EqOk.mk (by kernel_rfl) (by kernel_rfl) (by kernel_rfl) | exact Int.natCast_nonneg _ | ((repeat' refine And.intro ?_ ?_) <;> first | omega | exact Int.natCast_nonneg _ | (simp only [i64max, u8max, u16max, u32max, u64max]; omega) | (simp only [mulSz_eq, Cont.len, colsLen, Col.len, List.length_cons, List.length_nil, List.length_replicate, List.length_append]; first | done | omega) | (simp [mulSz, Cont.len, bne]; first | done | omega)))); conv => whnf)
      | (refine tst_in ?_ ?_; (focus (intro h_; exfalso; first | omega | ((try simp only [decide_eq_true_eq, decide_eq_false_iff_not] at h_); omega) | (simp [mulSz, Cont.len, bne] at h_; first | done | omega))); intro _; conv => whnf)
      | (refine tst_in ?_ ?_; rotate_left; (focus (intro h_; exfalso; first | omega | ((try simp only [decide_eq_true_eq, decide_eq_false_iff_not] at h_); omega) | (simp [mulSz, Cont.len, bne] at h_; first | done | omega))); intro _; conv => whnf)
      | (refine ⟨0, (show _ = _ by omega), ?_⟩; conv => whnf))
    refine ⟨_, [], AC, ?_⟩
    conv => whnf
    iterate 2
     refine And.intro ?_ ?_
     focus
      conv => whnf
      repeat' (first | exact True.intro | rfl | refine And.intro ?_ ?_ | omega)
      all_goals (conv => whnf)
      all_goals (try (first | rfl | omega | (simp; done)))
    conv => whnf
    conv => whnf
    repeat (first
      | (refine And.intro ?_ ?_; (focus (first | omega | decide | exact EqOk.mk (by kernel_rfl) (by kernel_rfl) (by kernel_rfl) | exact Int.natCast_nonneg _ | ((repeat' refine And.intro ?_ ?_) <;> first | omega | exact Int.natCast_nonneg _ | (simp only [i64max, u8max, u16max, u32max, u64max]; omega) | (simp only [mulSz_eq, Cont.len, colsLen, Col.len, List.length_cons, List.length_nil, List.length_replicate, List.length_append]; first | done | omega) | (simp [mulSz, Cont.len, bne]; first | done | omega)))); conv => whnf)
      | (refine tst_in ?_ ?_; (focus (intro h_; exfalso; first | omega | ((try simp only [decide_eq_true_eq, decide_eq_false_iff_not] at h_); omega) | (simp [mulSz, Cont.len, bne] at h_; first | done | omega))); intro _; conv => whnf)
      | (refine tst_in ?_ ?_; rotate_left; (focus (intro h_; exfalso; first | omega | ((try simp only [decide_eq_true_eq, decide_eq_false_iff_not] at h_); omega) | (simp [mulSz, Cont.len, bne] at h_; first | done | omega))); intro _; conv => whnf)
      | (refine ⟨0, (show _ = _ by omega), ?_⟩; conv => whnf))
    refine .inl ⟨(), [], ?_⟩
    conv => whnf
    repeat' (first | exact True.intro | rfl | refine And.intro ?_ ?_)
    all_goals (conv => whnf)
    repeat' (first | exact True.intro | rfl | refine And.intro ?_ ?_)
    all_goals (try omega)
/-- The message's words, or none: how many, what is said. -/
def okM (s : ByteArray) (n r : Int) : Prop := 2 ≤ r ∧ r ≤ 64 ∧ r % 2 = 0 ∧ r < n ∧ n ≤ 255 ∧ s.size ≤ 32768
noncomputable def wN (s : ByteArray) (n r : Int) : Nat := if 2 ≤ r ∧ r ≤ 64 ∧ r % 2 = 0 ∧ r < n ∧ n ≤ 255 ∧ s.size ≤ 32768 then cnt s.size (n.toNat - r.toNat) else 0
noncomputable def wE (s : ByteArray) (n r : Int) : Int := if 2 ≤ r ∧ r ≤ 64 ∧ r % 2 = 0 ∧ r < n ∧ n ≤ 255 ∧ s.size ≤ 32768 then 0 else 1
noncomputable def wW (s : ByteArray) (n r : Int) : Nat → ByteArray := wordsT r.toNat s (n.toNat - r.toNat)
noncomputable def wOutG (s : ByteArray) (n r : Int) : FOut := ⟨List ByteArray, fun _ => True, fun u => .tup [.slice 0 0 (wN s n r) (wN s n r + u.length), .int .i64 (wE s n r)], fun u => [.seg true (.strs (tb (wW s n r) (wN s n r) ++ u))]⟩
theorem wN_no {s : ByteArray} {n r : Int} (h : ¬ okM s n r) : wN s n r = 0 ∧ wE s n r = 1 := by unfold wN wE; unfold okM at h; rw [if_neg h, if_neg h]; exact ⟨rfl, rfl⟩
theorem wN_yes {s : ByteArray} {n r : Int} (h : okM s n r) : wN s n r = cnt s.size (n.toNat - r.toNat) ∧ wE s n r = 0 := by unfold wN wE; unfold okM at h; rw [if_pos h, if_pos h]; exact ⟨rfl, rfl⟩
set_option maxHeartbeats 0 in
set_option maxRecDepth 100000 in
theorem Words_g (s : ByteArray) (n r : Int) (hs : s.size ≤ 9223372036854775807) : Fits Try.prog 6 ⟨[.str s, .int .i64 n, .int .i64 r], [], [wOutG s n r]⟩ := by
  unfold wOutG
  by_cases h : okM s n r
  · obtain ⟨h1, h2⟩ := wN_yes h
    obtain ⟨q1, q2, q3, q4, q5, q6⟩ := id h
    rw [h1, h2]
    have := Words_y r.toNat n.toNat s (okR_iff.2 (by omega)) (by omega) (by omega) q6
    unfold wRes at this
    rw [show ((n.toNat : Nat) : Int) = n by omega, show ((r.toNat : Nat) : Int) = r by omega] at this
    exact this
  · obtain ⟨h1, h2⟩ := wN_no h
    rw [h1, h2]
    by_cases hc : 2 ≤ r ∧ r ≤ 64 ∧ r % 2 = 0 ∧ r < n ∧ n ≤ 255
    · have CK := Check_q n r
      rw [chk_yes hc] at CK
      have h3 : 32768 < s.size := by unfold okM at h; omega
      refine fits_of_body (C := cfgP 0) (c := k15) (ts := [6, 7]) tokL mixedL (fun _ => none) (fun _ => none)
        Try.func6 (by kernel_rfl) (by kernel_rfl) (by kernel_rfl) (by kernel_rfl) rfl ?_
      conv => whnf
      repeat (first
        | (refine And.intro ?_ ?_; (focus (first | omega | decide | exact EqOk.mk (by kernel_rfl) (by kernel_rfl) (by kernel_rfl) | exact Int.natCast_nonneg _ | ((repeat' refine And.intro ?_ ?_) <;> first | omega | exact Int.natCast_nonneg _ | (simp only [i64max, u8max, u16max, u32max, u64max]; omega) | (simp only [mulSz_eq, Cont.len, colsLen, Col.len, List.length_cons, List.length_nil, List.length_replicate, List.length_append]; first | done | omega) | (simp [mulSz, Cont.len, bne]; first | done | omega)))); conv => whnf)
        | (refine tst_in ?_ ?_; (focus (intro h_; exfalso; first | omega | ((try simp only [decide_eq_true_eq, decide_eq_false_iff_not] at h_); omega) | (simp [mulSz, Cont.len, bne] at h_; first | done | omega))); intro _; conv => whnf)
        | (refine tst_in ?_ ?_; rotate_left; (focus (intro h_; exfalso; first | omega | ((try simp only [decide_eq_true_eq, decide_eq_false_iff_not] at h_); omega) | (simp [mulSz, Cont.len, bne] at h_; first | done | omega))); intro _; conv => whnf)
        | (refine ⟨0, (show _ = _ by omega), ?_⟩; conv => whnf))
      refine ⟨_, [], CK, ?_⟩
      conv => whnf
      iterate 2
       refine And.intro ?_ ?_
       focus
        conv => whnf
        repeat' (first | exact True.intro | rfl | refine And.intro ?_ ?_ | omega)
        all_goals (conv => whnf)
        all_goals (try (first | rfl | omega | (simp; done)))
      conv => whnf
      conv => whnf
      repeat (first
        | (refine And.intro ?_ ?_; (focus (first | omega | decide | exact EqOk.mk (by kernel_rfl) (by kernel_rfl) (by kernel_rfl) | exact Int.natCast_nonneg _ | ((repeat' refine And.intro ?_ ?_) <;> first | omega | exact Int.natCast_nonneg _ | (simp only [i64max, u8max, u16max, u32max, u64max]; omega) | (simp only [mulSz_eq, Cont.len, colsLen, Col.len, List.length_cons, List.length_nil, List.length_replicate, List.length_append]; first | done | omega) | (simp [mulSz, Cont.len, bne]; first | done | omega)))); conv => whnf)
        | (refine tst_in ?_ ?_; (focus (intro h_; exfalso; first | omega | ((try simp only [decide_eq_true_eq, decide_eq_false_iff_not] at h_); omega) | (simp [mulSz, Cont.len, bne] at h_; first | done | omega))); intro _; conv => whnf)
        | (refine tst_in ?_ ?_; rotate_left; (focus (intro h_; exfalso; first | omega | ((try simp only [decide_eq_true_eq, decide_eq_false_iff_not] at h_); omega) | (simp [mulSz, Cont.len, bne] at h_; first | done | omega))); intro _; conv => whnf)
        | (refine ⟨0, (show _ = _ by omega), ?_⟩; conv => whnf))
      refine .inl ⟨[], [9], ?_⟩
      conv => whnf
      repeat' (first | exact True.intro | rfl | refine And.intro ?_ ?_)
      all_goals (conv => whnf)
      repeat' (first | exact True.intro | rfl | refine And.intro ?_ ?_)
      all_goals (try omega)
    · have CK := Check_q n r
      rw [chk_no hc] at CK
      refine fits_of_body (C := cfgP 0) (c := k15) (ts := [6, 7]) tokL mixedL (fun _ => none) (fun _ => none)
        Try.func6 (by kernel_rfl) (by kernel_rfl) (by kernel_rfl) (by kernel_rfl) rfl ?_
      conv => whnf
      repeat (first
        | (refine And.intro ?_ ?_; (focus (first | omega | decide | exact EqOk.mk (by kernel_rfl) (by kernel_rfl) (by kernel_rfl) | exact Int.natCast_nonneg _ | ((repeat' refine And.intro ?_ ?_) <;> first | omega | exact Int.natCast_nonneg _ | (simp only [i64max, u8max, u16max, u32max, u64max]; omega) | (simp only [mulSz_eq, Cont.len, colsLen, Col.len, List.length_cons, List.length_nil, List.length_replicate, List.length_append]; first | done | omega) | (simp [mulSz, Cont.len, bne]; first | done | omega)))); conv => whnf)
        | (refine tst_in ?_ ?_; (focus (intro h_; exfalso; first | omega | ((try simp only [decide_eq_true_eq, decide_eq_false_iff_not] at h_); omega) | (simp [mulSz, Cont.len, bne] at h_; first | done | omega))); intro _; conv => whnf)
        | (refine tst_in ?_ ?_; rotate_left; (focus (intro h_; exfalso; first | omega | ((try simp only [decide_eq_true_eq, decide_eq_false_iff_not] at h_); omega) | (simp [mulSz, Cont.len, bne] at h_; first | done | omega))); intro _; conv => whnf)
        | (refine ⟨0, (show _ = _ by omega), ?_⟩; conv => whnf))
      refine ⟨_, [], CK, ?_⟩
      conv => whnf
      iterate 2
       refine And.intro ?_ ?_
       focus
        conv => whnf
        repeat' (first | exact True.intro | rfl | refine And.intro ?_ ?_ | omega)
        all_goals (conv => whnf)
        all_goals (try (first | rfl | omega | (simp; done)))
      conv => whnf
      conv => whnf
      repeat (first
        | (refine And.intro ?_ ?_; (focus (first | omega | decide | exact EqOk.mk (by kernel_rfl) (by kernel_rfl) (by kernel_rfl) | exact Int.natCast_nonneg _ | ((repeat' refine And.intro ?_ ?_) <;> first | omega | exact Int.natCast_nonneg _ | (simp only [i64max, u8max, u16max, u32max, u64max]; omega) | (simp only [mulSz_eq, Cont.len, colsLen, Col.len, List.length_cons, List.length_nil, List.length_replicate, List.length_append]; first | done | omega) | (simp [mulSz, Cont.len, bne]; first | done | omega)))); conv => whnf)
        | (refine tst_in ?_ ?_; (focus (intro h_; exfalso; first | omega | ((try simp only [decide_eq_true_eq, decide_eq_false_iff_not] at h_); omega) | (simp [mulSz, Cont.len, bne] at h_; first | done | omega))); intro _; conv => whnf)
        | (refine tst_in ?_ ?_; rotate_left; (focus (intro h_; exfalso; first | omega | ((try simp only [decide_eq_true_eq, decide_eq_false_iff_not] at h_); omega) | (simp [mulSz, Cont.len, bne] at h_; first | done | omega))); intro _; conv => whnf)
        | (refine ⟨0, (show _ = _ by omega), ?_⟩; conv => whnf))
      refine .inl ⟨[], [9], ?_⟩
      conv => whnf
      repeat' (first | exact True.intro | rfl | refine And.intro ?_ ?_)
      all_goals (conv => whnf)
      repeat' (first | exact True.intro | rfl | refine And.intro ?_ ?_)
      all_goals (try omega)
end Go.Proofs.Ytenjnhihhlgmoaa
