/-
  foghornlaw19.ReedChecks returns true for all numbers. No condition.
-/
import Derived.Test.YtkglckiddahngaaRows
import Derived.Test.YtkglckiddahngaaFv
import Derived.Test.YtkglckiddahngaaFa
import Derived.WalkKit
import Derived.ProofKit
import Derived.OpenShut
import Derived.SizedLaws
set_option linter.unusedSimpArgs false
set_option linter.unusedVariables false
set_option linter.unusedVariables false
set_option linter.unusedSimpArgs false
namespace Go.Proofs.Ytkglckiddahngaa
open Go Go.Fw
def wtys : List (Nat × TyI) := [
  (3, ⟨.int .i64, 1, 8, .int .i64 0⟩),
  (4, ⟨.bool, 1, 1, .bool false⟩),
  (5, ⟨.int .u8, 1, 1, .int .u8 0⟩),
  (22, ⟨.slice 5, 1, 24, .slice none 0 0⟩),
  (23, ⟨.int .i64, 1, 8, .int .i64 0⟩)]
theorem wtok : TOk Try.prog wtys := by
  intro p hp
  simp only [wtys, List.mem_cons, List.not_mem_nil, or_false] at hp
  rcases hp with rfl | rfl | rfl | rfl | rfl
  all_goals exact ⟨by kernel_rfl, by kernel_rfl⟩
theorem wmixed : Try.prog.follows .mixedOrders = true := by kernel_rfl
def qf : Nat → Bool := fun f => match f with | 6 => true | 7 => true | 8 => true | 9 => true | 12 => true | 13 => true | 14 => true | 16 => true | 17 => true | 18 => true | 19 => true | _ => false
def cfgk (k : Nat) : Cfg := { T := wtys, sgn := fun _ => false, wr := fun _ => false, k := k, q := qf }
def cfg : Cfg := cfgk 0
def cfgs : Cfg := { T := wtys, sgn := fun _ => true, wr := fun _ => false, k := 0, q := qf }
theorem i64max : IntKind.i64.max = 9223372036854775807 := rfl
theorem u8max : IntKind.u8.max = 255 := rfl
theorem u8wrap (n : Int) : IntKind.u8.wrap n = n % 256 := by
  unfold IntKind.wrap
  simp [IntKind.bits, IntKind.signed]

def ta (a : Nat) : Nat := Nat.xor (Nat.mod (Nat.mul 2 a) 256) (Nat.land 29 (Nat.mod (Nat.sub 256 (Nat.div a 128)) 256))
def tp (a b p : Nat) : Nat := Nat.xor p (Nat.land a (Nat.mod (Nat.sub 256 (Nat.mod b 2)) 256))
noncomputable def tmul (f : Nat) : Nat → Nat → Nat → Nat := @Nat.rec (fun _ => Nat → Nat → Nat → Nat) (fun _ _ p => p) (fun _ ih a b p => ih (ta a) (Nat.div b 2) (tp a b p)) f
/-- The product. -/
noncomputable def T (a b : Nat) : Nat := tmul 8 a b 0
theorem ta_lt (a : Nat) : ta a < 256 := Nat.xor_lt_two_pow (n := 8) (Nat.mod_lt _ (by decide)) (Nat.lt_of_le_of_lt Nat.and_le_right (Nat.mod_lt _ (by decide)))
theorem tp_lt {a b p : Nat} (hp : p < 256) : tp a b p < 256 := Nat.xor_lt_two_pow (n := 8) hp (Nat.lt_of_le_of_lt Nat.and_le_right (Nat.mod_lt _ (by decide)))
theorem tmul_lt : ∀ (f a b p : Nat), p < 256 → tmul f a b p < 256
  | 0, _, _, _, h => h
  | f + 1, a, b, p, h => tmul_lt f _ _ _ (tp_lt h)
theorem T_lt (a b : Nat) : T a b < 256 := tmul_lt 8 a b 0 (by decide)
theorem tmul_zero : ∀ (f a p : Nat), tmul f a 0 p = p
  | 0, _, _ => rfl
  | f + 1, a, p => by
    have h1 : tp a 0 p = p := by
      show p ^^^ (a &&& ((256 - 0 % 2) % 256)) = p
      simp
    show tmul f (ta a) (0 / 2) (tp a 0 p) = p
    rw [h1, Nat.zero_div, tmul_zero f]
noncomputable def c17 : Code := (Try.f17.body).getD .skip
structure TS where
  f : Nat
  a : Nat
  b : Nat
  p : Nat
noncomputable def inv17 (A B : Nat) : LInv := ⟨TS, fun s => ⟨anyTo 28 [.int .u8 s.a, .int .u8 s.b, .any, .any, .any, .int .u8 s.p], []⟩, fun s => s.a < 256 ∧ s.b < 2 ^ s.f ∧ s.f ≤ 8 ∧ s.p < 256 ∧ tmul s.f s.a s.b s.p = T A B, fun s => s.f⟩
set_option maxRecDepth 100000 in
theorem Times_q (A B : Nat) (hA : A < 256) (hB : B < 256) : QFits Try.prog 17 ⟨[.int .u8 A, .int .u8 B], [], .int .u8 (T A B)⟩ := by
  refine qfits_of_body (C := cfg) (c := c17) (ts := [4]) wtok wmixed (fun | 2 => some (inv17 A B) | _ => none) (fun _ => none)
    Try.func17 (by kernel_rfl) (by kernel_rfl) (by kernel_rfl) (by kernel_rfl) (by kernel_rfl) rfl rfl ?_
  conv => whnf
  refine ⟨⟨[], (⟨8, A, B, 0⟩ : TS), ?_, hA, hB, Nat.le_refl _, (by decide : 0 < 256), rfl⟩, ?_⟩
  · conv => whnf
    repeat' (first | exact True.intro | rfl | refine And.intro ?_ ?_)
  · rintro ⟨f, a, b, p⟩ ⟨ha, hb, hf, hp, hT⟩
    dsimp only at ha hb hf hp hT
    have hb2 : b < 256 := Nat.lt_of_lt_of_le hb (Nat.pow_le_pow_right (by decide) hf)
    show forceSt ⟨anyTo 28 [.int .u8 (a : Nat), .int .u8 (b : Nat), .any, .any, .any, .int .u8 (p : Nat)], []⟩ _
    conv => whnf
    refine tst_in (fun hne => ?_) (fun he => ?_)
    · skip
      have hne : b ≠ 0 := by simp at hne; omega
      cases f with
      | zero => simp at hb; omega
      | succ f =>
        have e1 : ((((b : Int).toNat &&& (1 : Int).toNat : Nat)) : Int) = ((b % 2 : Nat) : Int) := by
          rw [Int.toNat_natCast, show (1 : Int).toNat = 1 from rfl, Nat.and_one_is_mod]
        have e2 : IntKind.u8.wrap (0 - ((b % 2 : Nat) : Int)) = (((256 - b % 2) % 256 : Nat) : Int) := by rw [u8wrap]; omega
        have e3 : ((((a : Int).toNat &&& ((((256 - b % 2) % 256 : Nat) : Int)).toNat : Nat)) : Int) = ((a &&& ((256 - b % 2) % 256) : Nat) : Int) := by
          rw [Int.toNat_natCast, Int.toNat_natCast]
        have l3 : a &&& ((256 - b % 2) % 256) < 256 := Nat.lt_of_le_of_lt Nat.and_le_right (Nat.mod_lt _ (by decide))
        conv => whnf
        refine ⟨by repeat' (first | omega | exact Int.natCast_nonneg _ | (simp only [i64max]; omega) | (simp only [u8max]; omega) | refine And.intro ?_ ?_), ?_⟩
        conv => whnf
        rw [e1]
        conv => whnf
        rw [e2]
        refine ⟨by repeat' (first | omega | exact Int.natCast_nonneg _ | (simp only [i64max]; omega) | (simp only [u8max]; omega) | refine And.intro ?_ ?_), ?_⟩
        conv => whnf
        rw [e3]
        refine ⟨by repeat' (first | omega | exact Int.natCast_nonneg _ | (simp only [i64max]; omega) | (simp only [u8max]; omega) | refine And.intro ?_ ?_), ?_⟩
        conv => whnf
        have e4 : ((((p : Int).toNat ^^^ (((a &&& ((256 - b % 2) % 256) : Nat) : Int)).toNat : Nat)) : Int) = ((tp a b p : Nat) : Int) := by
          rw [Int.toNat_natCast, Int.toNat_natCast]; rfl
        rw [e4]
        have e5 : (a : Int) / 2 ^ (min (7 : Int).toNat IntKind.u8.bits) = ((a / 128 : Nat) : Int) := by
          show (a : Int) / 2 ^ 7 = _
          omega
        have e6 : IntKind.u8.wrap (0 - ((a / 128 : Nat) : Int)) = (((256 - a / 128) % 256 : Nat) : Int) := by rw [u8wrap]; omega
        have l7 : 29 &&& ((256 - a / 128) % 256) < 256 := Nat.lt_of_le_of_lt Nat.and_le_right (Nat.mod_lt _ (by decide))
        have e8 : IntKind.u8.wrap ((a : Int) * 2 ^ (min (1 : Int).toNat IntKind.u8.bits)) = (((2 * a) % 256 : Nat) : Int) := by
          rw [u8wrap]
          show (a : Int) * 2 ^ 1 % 256 = _
          omega
        have e10 : (b : Int) / 2 ^ (min (1 : Int).toNat IntKind.u8.bits) = ((b / 2 : Nat) : Int) := by
          show (b : Int) / 2 ^ 1 = _
          omega
        conv => whnf
        refine ⟨by repeat' (first | omega | exact Int.natCast_nonneg _ | (simp only [i64max]; omega) | (simp only [u8max]; omega) | refine And.intro ?_ ?_), ?_⟩
        conv => whnf
        rw [e5]
        conv => whnf
        rw [e6]
        refine ⟨by repeat' (first | omega | exact Int.natCast_nonneg _ | (simp only [i64max]; omega) | (simp only [u8max]; omega) | refine And.intro ?_ ?_), ?_⟩
        conv => whnf
        have e7 : ((((29 : Int).toNat &&& ((((256 - a / 128) % 256 : Nat) : Int)).toNat : Nat)) : Int) = ((29 &&& ((256 - a / 128) % 256) : Nat) : Int) := by
          rw [Int.toNat_natCast]; rfl
        rw [e7]
        conv => whnf
        refine ⟨by repeat' (first | omega | exact Int.natCast_nonneg _ | (simp only [i64max]; omega) | (simp only [u8max]; omega) | refine And.intro ?_ ?_), ?_⟩
        conv => whnf
        rw [e8]
        conv => whnf
        refine ⟨by repeat' (first | omega | exact Int.natCast_nonneg _ | (simp only [i64max]; omega) | (simp only [u8max]; omega) | refine And.intro ?_ ?_), ?_⟩
        conv => whnf
        have e9 : ((((((2 * a) % 256 : Nat) : Int)).toNat ^^^ (((29 &&& ((256 - a / 128) % 256) : Nat) : Int)).toNat : Nat) : Int) = ((ta a : Nat) : Int) := by
          rw [Int.toNat_natCast, Int.toNat_natCast]; rfl
        rw [e9]
        conv => whnf
        refine ⟨by repeat' (first | omega | exact Int.natCast_nonneg _ | (simp only [i64max]; omega) | (simp only [u8max]; omega) | refine And.intro ?_ ?_), ?_⟩
        conv => whnf
        rw [e10]
        conv => whnf
        refine ⟨[], (⟨f, ta a, b / 2, tp a b p⟩ : TS), ?_, ⟨ta_lt a, ?_, (by show f ≤ 8; omega), tp_lt hp, hT⟩, ?_⟩
        · conv => whnf
          repeat' (first | exact True.intro | rfl | refine And.intro ?_ ?_)
        · show b / 2 < 2 ^ f
          rw [Nat.pow_succ] at hb
          omega
        · show f < f + 1
          omega
    · skip
      have he : b = 0 := by simp at he; omega
      subst he
      conv => whnf
      repeat' (first | exact True.intro | rfl | refine And.intro ?_ ?_)
      all_goals (show ((T A B : Nat) : Int) = (p : Int); rw [← hT, tmul_zero])
end Go.Proofs.Ytkglckiddahngaa

set_option linter.unusedVariables false
set_option linter.unusedSimpArgs false
namespace Go.Proofs.Ytkglckiddahngaa
open Go Go.Fw
noncomputable def pwl (f : Nat) : Nat → Nat → Nat → Nat := @Nat.rec (fun _ => Nat → Nat → Nat → Nat) (fun _ _ x => x) (fun _ ih a n x => ih (T a a) (Nat.div n 2) (@Bool.rec (fun _ => Nat) x (T x a) (Nat.beq (Nat.mod n 2) 1))) f
/-- A power, by squares. -/
noncomputable def pw (a n : Nat) : Nat := pwl 8 a n 1
theorem pwl_even {f a n x : Nat} (h : n % 2 = 0) : pwl (f + 1) a n x = pwl f (T a a) (n / 2) x := by
  show pwl f (T a a) (n / 2) (@Bool.rec (fun _ => Nat) x (T x a) (Nat.beq (n % 2) 1)) = _
  rw [h]; rfl
theorem pwl_odd {f a n x : Nat} (h : n % 2 = 1) : pwl (f + 1) a n x = pwl f (T a a) (n / 2) (T x a) := by
  show pwl f (T a a) (n / 2) (@Bool.rec (fun _ => Nat) x (T x a) (Nat.beq (n % 2) 1)) = _
  rw [h]; rfl
theorem pwl_zero : ∀ (f a x : Nat), pwl f a 0 x = x
  | 0, _, _ => rfl
  | f + 1, a, x => by rw [pwl_even rfl]; exact pwl_zero f _ _
theorem pwl_lt : ∀ (f a n x : Nat), x < 256 → pwl f a n x < 256
  | 0, _, _, _, h => h
  | f + 1, a, n, x, h => by
    rcases Nat.mod_two_eq_zero_or_one n with h2 | h2
    · rw [pwl_even h2]; exact pwl_lt f _ _ _ h
    · rw [pwl_odd h2]; exact pwl_lt f _ _ _ (T_lt _ _)
theorem pw_lt (a n : Nat) : pw a n < 256 := pwl_lt 8 a n 1 (by decide)
noncomputable def c18 : Code := (Try.f18.body).getD .skip
noncomputable def inv18 (A N : Nat) : LInv := ⟨TS, fun s => ⟨anyTo 20 [.int .u8 s.a, .int .i64 s.b, .any, .any, .any, .int .u8 s.p], []⟩, fun s => s.a < 256 ∧ s.b < 2 ^ s.f ∧ s.f ≤ 8 ∧ s.p < 256 ∧ pwl s.f s.a s.b s.p = pw A N, fun s => s.f⟩
set_option maxRecDepth 100000 in
theorem power_q (A N : Nat) (hA : A < 256) (hN : N < 256) : QFits Try.prog 18 ⟨[.int .u8 A, .int .i64 N], [], .int .u8 (pw A N : Nat)⟩ := by
  refine qfits_of_body (C := cfg) (c := c18) (ts := [4]) wtok wmixed (fun | 2 => some (inv18 A N) | _ => none) (fun _ => none)
    Try.func18 (by kernel_rfl) (by kernel_rfl) (by kernel_rfl) (by kernel_rfl) (by kernel_rfl) rfl rfl ?_
  conv => whnf
  refine ⟨⟨[], (⟨8, A, N, 1⟩ : TS), ?_, hA, hN, Nat.le_refl _, (by decide : 1 < 256), rfl⟩, ?_⟩
  · conv => whnf
    repeat' (first | exact True.intro | rfl | refine And.intro ?_ ?_)
  · rintro ⟨f, a, n, x⟩ ⟨ha, hb, hf, hp, hT⟩
    dsimp only at ha hb hf hp hT
    have hb2 : n < 256 := Nat.lt_of_lt_of_le hb (Nat.pow_le_pow_right (by decide) hf)
    show forceSt ⟨anyTo 20 [.int .u8 (a : Nat), .int .i64 (n : Nat), .any, .any, .any, .int .u8 (x : Nat)], []⟩ _
    conv => whnf
    refine tst_in (fun hne => ?_) (fun he => ?_)
    · skip
      have hne : n ≠ 0 := by simp at hne; omega
      cases f with
      | zero => simp at hb; omega
      | succ f =>
        have hb3 : n / 2 < 2 ^ f := by rw [Nat.pow_succ] at hb; omega
        have e1 : ((((n : Int).toNat &&& (1 : Int).toNat : Nat)) : Int) = ((n % 2 : Nat) : Int) := by
          rw [Int.toNat_natCast, show (1 : Int).toNat = 1 from rfl, Nat.and_one_is_mod]
        have e2 : (n : Int) / 2 ^ (min (1 : Int).toNat IntKind.i64.bits) = ((n / 2 : Nat) : Int) := by
          show (n : Int) / 2 ^ 1 = _
          omega
        conv => whnf
        refine ⟨by repeat' (first | omega | exact Int.natCast_nonneg _ | (simp only [i64max]; omega) | (simp only [u8max]; omega) | refine And.intro ?_ ?_), ?_⟩
        conv => whnf
        rw [e1]
        conv => whnf
        refine tst_in (fun h1 => ?_) (fun h1 => ?_)
        · skip
          have h1 : n % 2 = 1 := by simp at h1; omega
          rw [pwl_odd h1] at hT
          conv => whnf
          refine ⟨_, [], Times_q x a hp ha, ?_⟩
          conv => whnf
          refine ⟨?_, ?_, ?_⟩
          · conv => whnf
            repeat' (first | exact True.intro | rfl | refine And.intro ?_ ?_ | omega)
            all_goals (conv => whnf)
            all_goals (try (first | rfl | omega | (simp; done)))
          · conv => whnf
            repeat' (first | exact True.intro | rfl | refine And.intro ?_ ?_ | omega)
            all_goals (conv => whnf)
            all_goals (try (first | rfl | omega | (simp; done)))
          conv => whnf
          refine ⟨_, [], Times_q a a ha ha, ?_⟩
          conv => whnf
          refine ⟨?_, ?_, ?_⟩
          · conv => whnf
            repeat' (first | exact True.intro | rfl | refine And.intro ?_ ?_ | omega)
            all_goals (conv => whnf)
            all_goals (try (first | rfl | omega | (simp; done)))
          · conv => whnf
            repeat' (first | exact True.intro | rfl | refine And.intro ?_ ?_ | omega)
            all_goals (conv => whnf)
            all_goals (try (first | rfl | omega | (simp; done)))
          conv => whnf
          refine ⟨by repeat' (first | omega | exact Int.natCast_nonneg _ | (simp only [i64max]; omega) | (simp only [u8max]; omega) | refine And.intro ?_ ?_), ?_⟩
          conv => whnf
          rw [e2]
          conv => whnf
          refine ⟨[], (⟨f, T a a, n / 2, T x a⟩ : TS), ?_, ⟨T_lt _ _, hb3, (by show f ≤ 8; omega), T_lt _ _, hT⟩, ?_⟩
          · conv => whnf
            repeat' (first | exact True.intro | rfl | refine And.intro ?_ ?_)
          · show f < f + 1
            omega
        · skip
          have h1 : n % 2 = 0 := by simp at h1; omega
          rw [pwl_even h1] at hT
          conv => whnf
          refine ⟨_, [], Times_q a a ha ha, ?_⟩
          conv => whnf
          refine ⟨?_, ?_, ?_⟩
          · conv => whnf
            repeat' (first | exact True.intro | rfl | refine And.intro ?_ ?_ | omega)
            all_goals (conv => whnf)
            all_goals (try (first | rfl | omega | (simp; done)))
          · conv => whnf
            repeat' (first | exact True.intro | rfl | refine And.intro ?_ ?_ | omega)
            all_goals (conv => whnf)
            all_goals (try (first | rfl | omega | (simp; done)))
          conv => whnf
          refine ⟨by repeat' (first | omega | exact Int.natCast_nonneg _ | (simp only [i64max]; omega) | (simp only [u8max]; omega) | refine And.intro ?_ ?_), ?_⟩
          conv => whnf
          rw [e2]
          conv => whnf
          refine ⟨[], (⟨f, T a a, n / 2, x⟩ : TS), ?_, ⟨T_lt _ _, hb3, (by show f ≤ 8; omega), hp, hT⟩, ?_⟩
          · conv => whnf
            repeat' (first | exact True.intro | rfl | refine And.intro ?_ ?_)
          · show f < f + 1
            omega
    · skip
      have he : n = 0 := by simp at he; omega
      subst he
      conv => whnf
      repeat' (first | exact True.intro | rfl | refine And.intro ?_ ?_)
      all_goals (show ((pw A N : Nat) : Int) = (x : Int); rw [← hT, pwl_zero])
noncomputable def c19 : Code := (Try.f19.body).getD .skip
theorem tm255 (n : Int) : (¬ n.tmod 255 < 0 → n.tmod 255 = n % 255) ∧ (n.tmod 255 < 0 → n.tmod 255 + 255 = n % 255) := by
  rcases Int.le_total 0 n with h | h
  · rw [Int.tmod_eq_emod_of_nonneg h]; omega
  · have e : n.tmod 255 = -((-n) % 255) := by
      rw [← Int.tmod_eq_emod_of_nonneg (by omega : 0 ≤ -n), Int.neg_tmod, Int.neg_neg]
    rw [e]; omega
theorem turned_q (n : Int) : QFits Try.prog 19 ⟨[.int .i64 n], [], .int .i64 (n % 255)⟩ := by
  refine qfits_of_body (C := cfgs) (c := c19) (ts := [2]) wtok wmixed (fun _ => none) (fun _ => none)
    Try.func19 (by kernel_rfl) (by kernel_rfl) (by kernel_rfl) (by kernel_rfl) (by kernel_rfl) rfl rfl ?_
  obtain ⟨t1, t2⟩ := tm255 n
  conv => whnf
  refine ⟨by decide, ?_⟩
  conv => whnf
  refine tst_in (fun h => ?_) (fun h => ?_)
  · skip
    have h : n.tmod 255 < 0 := by simpa using h
    have h2 := t2 h
    conv => whnf
    refine ⟨by repeat' (first | omega | exact Int.natCast_nonneg _ | (simp only [i64max]; omega) | (simp only [u8max]; omega) | refine And.intro ?_ ?_), ?_⟩
    conv => whnf
    repeat' (first | exact True.intro | rfl | refine And.intro ?_ ?_)
    all_goals (show n % 255 = n.tmod 255 + 255; omega)
  · skip
    have h : ¬ n.tmod 255 < 0 := by simpa using h
    conv => whnf
    repeat' (first | exact True.intro | rfl | refine And.intro ?_ ?_)
    all_goals (show n % 255 = n.tmod 255; rw [t1 h])
noncomputable def fN (n : Nat) (K : Nat → Bool) : Bool := @Nat.rec (fun _ => Bool) (K 0) (fun q _ => K (Nat.succ q)) n
theorem fN_eq (n : Nat) (K : Nat → Bool) : fN n K = K n := by cases n <;> rfl
noncomputable def ifB (c : Bool) (a : Bool) : Bool := @Bool.rec (fun _ => Bool) false a c
theorem ifB_out {c a : Bool} (h : ifB c a = true) : c = true ∧ a = true := by
  cases c
  · cases h
  · exact ⟨rfl, h⟩
noncomputable def allN (f : Nat → Bool) (n : Nat) : Bool := @Nat.rec (fun _ => Bool) true (fun i ih => ifB (f i) ih) n
theorem allN_out {f : Nat → Bool} : ∀ {n : Nat}, allN f n = true → ∀ i, i < n → f i = true
  | 0, _, i, h => absurd h (by omega)
  | n + 1, h, i, hi => by
    obtain ⟨h1, h2⟩ := ifB_out (show ifB (f n) (allN f n) = true from h)
    rcases Nat.lt_or_ge i n with h3 | h3
    · exact allN_out h2 i h3
    · have : i = n := by omega
      subst this; exact h1
/-- A power, by products one by one. -/
noncomputable def rp (a n : Nat) : Nat := @Nat.rec (fun _ => Nat) 1 (fun _ x => T x a) n
noncomputable def chkP (a : Nat) (f : Nat) : Nat → Nat → Bool := @Nat.rec (fun _ => Nat → Nat → Bool) (fun _ _ => true) (fun _ ih n x => ifB (Nat.beq (pw a n) x) (fN (T x a) fun y => fN (Nat.succ n) fun m => ih m y)) f
theorem chkP_out {a : Nat} : ∀ (f n : Nat), chkP a f n (rp a n) = true → ∀ m, n ≤ m → m < n + f → pw a m = rp a m
  | 0, n, _, m, h1, h2 => by omega
  | f + 1, n, h, m, h1, h2 => by
    obtain ⟨g1, g2⟩ := ifB_out (show ifB (Nat.beq (pw a n) (rp a n)) (fN (T (rp a n) a) fun y => fN (Nat.succ n) fun m => chkP a f m y) = true from h)
    rw [fN_eq, fN_eq] at g2
    rcases Nat.lt_or_ge n m with h3 | h3
    · exact chkP_out f (n + 1) g2 m h3 (by omega)
    · have : m = n := by omega
      subst this; exact Nat.eq_of_beq_eq_true g1
noncomputable def c16 : Code := (Try.f16.body).getD .skip
theorem Exp_q (n : Int) : QFits Try.prog 16 ⟨[.int .i64 n], [], .int .u8 (pw 2 (n % 255).toNat : Nat)⟩ := by
  refine qfits_of_body (C := cfg) (c := c16) (ts := [2]) wtok wmixed (fun _ => none) (fun _ => none)
    Try.func16 (by kernel_rfl) (by kernel_rfl) (by kernel_rfl) (by kernel_rfl) (by kernel_rfl) rfl rfl ?_
  have hn := Int.emod_nonneg n (show (255 : Int) ≠ 0 by decide)
  have hn2 := Int.emod_lt_of_pos n (show (0 : Int) < 255 by decide)
  conv => whnf
  refine ⟨_, [], turned_q n, ?_⟩
  conv => whnf
  refine ⟨?_, ?_, ?_⟩
  · conv => whnf
    repeat' (first | exact True.intro | rfl | refine And.intro ?_ ?_ | omega)
    all_goals (conv => whnf)
    all_goals (try (first | rfl | omega | (simp; done)))
  · conv => whnf
    repeat' (first | exact True.intro | rfl | refine And.intro ?_ ?_ | omega)
    all_goals (conv => whnf)
    all_goals (try (first | rfl | omega | (simp; done)))
  conv => whnf
  refine ⟨_, [], power_q 2 (n % 255).toNat (by decide) (by omega), ?_⟩
  conv => whnf
  refine ⟨?_, ?_, ?_⟩
  · conv => whnf
    repeat' (first | exact True.intro | rfl | refine And.intro ?_ ?_ | omega)
    all_goals (conv => whnf)
    all_goals (try (first | rfl | omega | (simp; done)))
  · conv => whnf
    repeat' (first | exact True.intro | rfl | refine And.intro ?_ ?_ | omega)
    all_goals (conv => whnf)
    all_goals (try (first | rfl | omega | (simp; done)))
  conv => whnf
  repeat' (first | exact True.intro | rfl | refine And.intro ?_ ?_)
end Go.Proofs.Ytkglckiddahngaa

set_option linter.unusedVariables false
set_option linter.unusedSimpArgs false
namespace Go.Proofs.Ytkglckiddahngaa
open Go Go.Fw
noncomputable def chkA (a : Nat) : Bool := @Bool.rec (fun _ => Bool) (Nat.beq (ta a) (Nat.xor (Nat.mul 2 a) 285)) (Nat.beq (ta a) (Nat.mul 2 a)) (Nat.ble (Nat.mul 2 a) 255)
set_option maxRecDepth 100000 in
theorem kA : allN chkA 256 = true := by kernel_rfl
theorem ta_big {a : Nat} (ha : a < 256) (h : 255 < 2 * a) : ta a = (2 * a) ^^^ 285 := by
  have k := allN_out kA a ha
  unfold chkA at k
  have e : Nat.ble (Nat.mul 2 a) 255 = false := by
    apply Bool.eq_false_iff.mpr; intro hh
    have := Nat.le_of_ble_eq_true hh
    have e2 : Nat.mul 2 a = 2 * a := rfl
    omega
  rw [e] at k
  exact Nat.eq_of_beq_eq_true k
theorem ta_small {a : Nat} (ha : a < 256) (h : 2 * a ≤ 255) : ta a = 2 * a := by
  have k := allN_out kA a ha
  unfold chkA at k
  have e : Nat.ble (Nat.mul 2 a) 255 = true := Nat.ble_eq_true_of_le h
  rw [e] at k
  exact Nat.eq_of_beq_eq_true k
theorem tp_odd {a b p : Nat} (ha : a < 256) (h : b % 2 = 1) : tp a b p = p ^^^ a := by
  show p ^^^ (a &&& ((256 - b % 2) % 256)) = p ^^^ a
  rw [h, show (256 - 1) % 256 = 2 ^ 8 - 1 from rfl, Nat.and_two_pow_sub_one_eq_mod, Nat.mod_eq_of_lt ha]
theorem tp_even {a b p : Nat} (h : b % 2 = 0) : tp a b p = p := by
  show p ^^^ (a &&& ((256 - b % 2) % 256)) = p
  rw [h]; simp
theorem tmul_succ (f a b p : Nat) : tmul (f + 1) a b p = tmul f (ta a) (b / 2) (tp a b p) := rfl
noncomputable def c13 : Code := (Try.f13.body).getD .skip
noncomputable def inv13 (A B : Nat) : LInv := ⟨TS, fun s => ⟨anyTo 30 [.any, .int .u8 B, .any, .any, .any, .int .i64 s.a, .int .i64 s.p, .int .i64 (s.b : Int)], []⟩, fun s => s.a < 256 ∧ s.f + s.b = 8 ∧ s.p < 256 ∧ tmul s.f s.a (B / 2 ^ s.b) s.p = T A B, fun s => s.f⟩
set_option maxRecDepth 100000 in
theorem refTimes_q (A B : Nat) (hA : A < 256) (hB : B < 256) : QFits Try.prog 13 ⟨[.int .u8 A, .int .u8 B], [], .int .u8 (T A B)⟩ := by
  refine qfits_of_body (C := cfg) (c := c13) (ts := [4]) wtok wmixed (fun | 4 => some (inv13 A B) | _ => none) (fun _ => none)
    Try.func13 (by kernel_rfl) (by kernel_rfl) (by kernel_rfl) (by kernel_rfl) (by kernel_rfl) rfl rfl ?_
  conv => whnf
  refine ⟨⟨[], (⟨8, A, 0, 0⟩ : TS), ?_, hA, rfl, (by decide : 0 < 256), (by show tmul 8 A (B / 2 ^ 0) 0 = T A B; rw [Nat.pow_zero, Nat.div_one]; rfl)⟩, ?_⟩
  · conv => whnf
    repeat' (first | exact True.intro | rfl | refine And.intro ?_ ?_)
    all_goals (conv => whnf)
    all_goals (show (A : Int) = IntKind.i64.wrap (A : Int); rw [wrap_i64 ⟨by omega, by omega⟩])
  · rintro ⟨f, a, i, p⟩ ⟨ha, hf, hp, hT⟩
    dsimp only at ha hf hp hT
    show forceSt ⟨anyTo 30 [.any, .int .u8 B, .any, .any, .any, .int .i64 (a : Nat), .int .i64 (p : Nat), .int .i64 (i : Nat)], []⟩ _
    conv => whnf
    refine tst_in (fun hlt => ?_) (fun hge => ?_)
    · skip
      have hlt : i < 8 := by simp at hlt; omega
      cases f with
      | zero => omega
      | succ f =>
        have e1 : (B : Int) / 2 ^ (min (i : Int).toNat IntKind.u8.bits) = ((B / 2 ^ i : Nat) : Int) := by
          rw [Int.toNat_natCast, show min i IntKind.u8.bits = i from Nat.min_eq_left (by show i ≤ 8; omega)]
          simp
        have l1 : B / 2 ^ i ≤ B := Nat.div_le_self _ _
        have e3 : ((((B / 2 ^ i : Nat) : Int).toNat &&& (1 : Int).toNat : Nat) : Int) = ((B / 2 ^ i % 2 : Nat) : Int) := by
          rw [Int.toNat_natCast, show (1 : Int).toNat = 1 from rfl, Nat.and_one_is_mod]
        have e4 : B / 2 ^ i / 2 = B / 2 ^ (i + 1) := by rw [Nat.div_div_eq_div_mul, Nat.pow_succ]
        rw [tmul_succ, e4] at hT
        conv => whnf
        refine ⟨by repeat' (first | omega | exact Int.natCast_nonneg _ | (simp only [i64max]; omega) | (simp only [u8max]; omega) | refine And.intro ?_ ?_), ?_⟩
        conv => whnf
        rw [e1]
        refine ⟨by repeat' (first | omega | exact Int.natCast_nonneg _ | (simp only [i64max]; omega) | (simp only [u8max]; omega) | refine And.intro ?_ ?_), ?_⟩
        conv => whnf
        rw [e3]
        conv => whnf
        obtain ⟨a2, ha2⟩ : ∃ x, 2 * a = x := ⟨_, rfl⟩
        have e5 : (2 : Int) * (a : Int) = (a2 : Int) := by omega
        have e6 : (((p : Int).toNat ^^^ (a : Int).toNat : Nat) : Int) = ((p ^^^ a : Nat) : Int) := by rw [Int.toNat_natCast, Int.toNat_natCast]
        have e7 : (((a2 : Int).toNat ^^^ (285 : Int).toNat : Nat) : Int) = ((a2 ^^^ 285 : Nat) : Int) := by rw [Int.toNat_natCast]; rfl
        refine tst_in (fun h1 => ?_) (fun h1 => ?_)
        · skip
          have h1 : B / 2 ^ i % 2 = 1 := by generalize B / 2 ^ i % 2 = y at h1; simp at h1; omega
          rw [tp_odd ha h1] at hT
          have lp : p ^^^ a < 256 := Nat.xor_lt_two_pow (n := 8) hp ha
          conv => whnf
          refine ⟨by repeat' (first | omega | exact Int.natCast_nonneg _ | (simp only [i64max]; omega) | (simp only [u8max]; omega) | refine And.intro ?_ ?_), ?_⟩
          conv => whnf
          rw [e6]
          conv => whnf
          refine ⟨by repeat' (first | omega | exact Int.natCast_nonneg _ | (simp only [i64max]; omega) | (simp only [u8max]; omega) | refine And.intro ?_ ?_), ?_⟩
          conv => whnf
          rw [e5]
          conv => whnf
          refine tst_in (fun h2 => ?_) (fun h2 => ?_)
          · skip
            have h2 : 255 < 2 * a := by simp at h2; omega
            have hta := ta_big ha h2
            rw [ha2] at hta
            have lta := ta_lt a
            conv => whnf
            refine ⟨by repeat' (first | omega | exact Int.natCast_nonneg _ | (simp only [i64max]; omega) | (simp only [u8max]; omega) | refine And.intro ?_ ?_), ?_⟩
            conv => whnf
            rw [e7, ← hta]
            conv => whnf
            refine ⟨by repeat' (first | omega | exact Int.natCast_nonneg _ | (simp only [i64max]; omega) | (simp only [u8max]; omega) | refine And.intro ?_ ?_), ?_⟩
            conv => whnf
            refine ⟨[], (⟨f, ta a, i + 1, p ^^^ a⟩ : TS), ?_, ⟨lta, (by show f + (i + 1) = 8; omega), lp, hT⟩, ?_⟩
            · conv => whnf
              repeat' (first | exact True.intro | rfl | refine And.intro ?_ ?_)
            · show f < f + 1
              omega
          · skip
            have h2 : 2 * a ≤ 255 := by simp at h2; omega
            have hta := ta_small ha h2
            rw [ha2] at hta
            have lta := ta_lt a
            rw [← hta]
            conv => whnf
            refine ⟨by repeat' (first | omega | exact Int.natCast_nonneg _ | (simp only [i64max]; omega) | (simp only [u8max]; omega) | refine And.intro ?_ ?_), ?_⟩
            conv => whnf
            refine ⟨[], (⟨f, ta a, i + 1, p ^^^ a⟩ : TS), ?_, ⟨lta, (by show f + (i + 1) = 8; omega), lp, hT⟩, ?_⟩
            · conv => whnf
              repeat' (first | exact True.intro | rfl | refine And.intro ?_ ?_)
            · show f < f + 1
              omega
        · skip
          have h1 : B / 2 ^ i % 2 = 0 := by have := Nat.mod_two_eq_zero_or_one (B / 2 ^ i); generalize B / 2 ^ i % 2 = y at h1 this; simp at h1; omega
          rw [tp_even h1] at hT
          conv => whnf
          refine ⟨by repeat' (first | omega | exact Int.natCast_nonneg _ | (simp only [i64max]; omega) | (simp only [u8max]; omega) | refine And.intro ?_ ?_), ?_⟩
          conv => whnf
          rw [e5]
          conv => whnf
          refine tst_in (fun h2 => ?_) (fun h2 => ?_)
          · skip
            have h2 : 255 < 2 * a := by simp at h2; omega
            have hta := ta_big ha h2
            rw [ha2] at hta
            have lta := ta_lt a
            conv => whnf
            refine ⟨by repeat' (first | omega | exact Int.natCast_nonneg _ | (simp only [i64max]; omega) | (simp only [u8max]; omega) | refine And.intro ?_ ?_), ?_⟩
            conv => whnf
            rw [e7, ← hta]
            conv => whnf
            refine ⟨by repeat' (first | omega | exact Int.natCast_nonneg _ | (simp only [i64max]; omega) | (simp only [u8max]; omega) | refine And.intro ?_ ?_), ?_⟩
            conv => whnf
            refine ⟨[], (⟨f, ta a, i + 1, p⟩ : TS), ?_, ⟨lta, (by show f + (i + 1) = 8; omega), hp, hT⟩, ?_⟩
            · conv => whnf
              repeat' (first | exact True.intro | rfl | refine And.intro ?_ ?_)
            · show f < f + 1
              omega
          · skip
            have h2 : 2 * a ≤ 255 := by simp at h2; omega
            have hta := ta_small ha h2
            rw [ha2] at hta
            have lta := ta_lt a
            rw [← hta]
            conv => whnf
            refine ⟨by repeat' (first | omega | exact Int.natCast_nonneg _ | (simp only [i64max]; omega) | (simp only [u8max]; omega) | refine And.intro ?_ ?_), ?_⟩
            conv => whnf
            refine ⟨[], (⟨f, ta a, i + 1, p⟩ : TS), ?_, ⟨lta, (by show f + (i + 1) = 8; omega), hp, hT⟩, ?_⟩
            · conv => whnf
              repeat' (first | exact True.intro | rfl | refine And.intro ?_ ?_)
            · show f < f + 1
              omega
    · skip
      have hge : i = 8 := by simp at hge; omega
      have hf0 : f = 0 := by omega
      subst hge
      subst hf0
      conv => whnf
      repeat' (first | exact True.intro | rfl | refine And.intro ?_ ?_)
      all_goals (show ((T A B : Nat) : Int) = IntKind.u8.wrap (p : Int); rw [u8wrap, ← hT]; show (p : Int) = (p : Int) % 256; omega)
end Go.Proofs.Ytkglckiddahngaa

set_option linter.unusedVariables false
set_option linter.unusedSimpArgs false
namespace Go.Proofs.Ytkglckiddahngaa
open Go Go.Fw
noncomputable def c12 : Code := (Try.f12.body).getD .skip
theorem rp_lt (a : Nat) : ∀ n, rp a n < 256
  | 0 => by show 1 < 256; decide
  | n + 1 => T_lt _ _
theorem rp_succ (a n : Nat) : rp a (n + 1) = T (rp a n) a := rfl
noncomputable def inv12 (N : Nat) : LInv := ⟨Nat, fun k => ⟨anyTo 13 [.int .i64 N, .any, .any, .int .u8 (rp 2 k : Nat), .int .i64 (k : Nat)], []⟩, fun k => k ≤ N, fun k => N - k⟩
set_option maxRecDepth 100000 in
theorem refPower_q (N : Nat) (hN : N ≤ 64) : QFits Try.prog 12 ⟨[.int .i64 N], [], .int .u8 (rp 2 N : Nat)⟩ := by
  refine qfits_of_body (C := cfg) (c := c12) (ts := [2]) wtok wmixed (fun | 3 => some (inv12 N) | _ => none) (fun _ => none)
    Try.func12 (by kernel_rfl) (by kernel_rfl) (by kernel_rfl) (by kernel_rfl) (by kernel_rfl) rfl rfl ?_
  conv => whnf
  refine ⟨⟨[], (0 : Nat), ?_, Nat.zero_le _⟩, ?_⟩
  · conv => whnf
    repeat' (first | exact True.intro | rfl | refine And.intro ?_ ?_)
  · intro (k : Nat) (hk : k ≤ N)
    have hx := rp_lt 2 k
    have hs := rp_succ 2 k
    show forceSt ⟨anyTo 13 [.int .i64 N, .any, .any, .int .u8 (rp 2 k : Nat), .int .i64 (k : Nat)], []⟩ _
    conv => whnf
    refine tst_in (fun hlt => ?_) (fun hge => ?_)
    · skip
      have hlt : k < N := by simp at hlt; omega
      conv => whnf
      refine ⟨_, [], refTimes_q (rp 2 k) 2 hx (by decide), ?_⟩
      conv => whnf
      refine ⟨?_, ?_, ?_⟩
      · conv => whnf
        repeat' (first | exact True.intro | rfl | refine And.intro ?_ ?_ | omega)
        all_goals (conv => whnf)
        all_goals (try (first | rfl | omega | (simp; done)))
      · conv => whnf
        repeat' (first | exact True.intro | rfl | refine And.intro ?_ ?_ | omega)
        all_goals (conv => whnf)
        all_goals (try (first | rfl | omega | (simp; done)))
      conv => whnf
      rw [← hs]
      conv => whnf
      refine ⟨by repeat' (first | omega | exact Int.natCast_nonneg _ | (simp only [i64max]; omega) | (simp only [u8max]; omega) | refine And.intro ?_ ?_), ?_⟩
      conv => whnf
      refine ⟨[], k + 1, ?_, ?_, ?_⟩
      · conv => whnf
        repeat' (first | exact True.intro | rfl | refine And.intro ?_ ?_)
      · show k + 1 ≤ N
        omega
      · show N - (k + 1) < N - k
        omega
    · skip
      have hge : k = N := by simp at hge; omega
      subst hge
      conv => whnf
      repeat' (first | exact True.intro | rfl | refine And.intro ?_ ?_)
def okR (r : Int) : Bool := decide (2 ≤ r) && (decide (r ≤ 64) && decide (r % 2 = 0))
theorem okR_iff {r : Int} : okR r = true ↔ 2 ≤ r ∧ r ≤ 64 ∧ r % 2 = 0 := by simp [okR]
def okN (n r : Int) : Bool := decide (r < n) && decide (n ≤ 255)
def chkV (n r : Int) : Int := if okR r = true ∧ okN n r = true then 0 else 1
noncomputable def c9 : Code := (Try.f9.body).getD .skip
theorem areChecks_q (r : Int) : QFits Try.prog 9 ⟨[.int .i64 r], [], .bool (okR r)⟩ := by
  refine qfits_of_body (C := cfg) (c := c9) (ts := [2]) wtok wmixed (fun _ => none) (fun _ => none)
    Try.func9 (by kernel_rfl) (by kernel_rfl) (by kernel_rfl) (by kernel_rfl) (by kernel_rfl) rfl rfl ?_
  conv => whnf
  refine tst_in (fun h1 => ?_) (fun h1 => ?_)
  · conv => whnf
    refine tst_in (fun h2 => ?_) (fun h2 => ?_)
    · conv => whnf
      simp at h1 h2
      refine ⟨by repeat' (first | omega | exact Int.natCast_nonneg _ | (simp only [i64max]; omega) | (simp only [u8max]; omega) | refine And.intro ?_ ?_), ?_⟩
      conv => whnf
      repeat' (first | exact True.intro | rfl | refine And.intro ?_ ?_)
      all_goals (conv => whnf)
      all_goals ((try simp only [decide_eq_true_eq, decide_eq_false_iff_not] at *); apply Bool.eq_iff_iff.mpr; simp only [okR, Bool.and_eq_true, decide_eq_true_eq, Bool.false_eq_true, iff_false]; omega)
    · conv => whnf
      simp at h1 h2
      repeat' (first | exact True.intro | rfl | refine And.intro ?_ ?_)
      all_goals (conv => whnf)
      all_goals ((try simp only [decide_eq_true_eq, decide_eq_false_iff_not] at *); apply Bool.eq_iff_iff.mpr; simp only [okR, Bool.and_eq_true, decide_eq_true_eq, Bool.false_eq_true, iff_false]; omega)
  · conv => whnf
    repeat' (first | exact True.intro | rfl | refine And.intro ?_ ?_)
    all_goals (conv => whnf)
    all_goals ((try simp only [decide_eq_true_eq, decide_eq_false_iff_not] at *); apply Bool.eq_iff_iff.mpr; simp only [okR, Bool.and_eq_true, decide_eq_true_eq, Bool.false_eq_true, iff_false]; omega)
noncomputable def c14 : Code := (Try.f14.body).getD .skip
theorem isWord_q (n r : Int) : QFits Try.prog 14 ⟨[.int .i64 n, .int .i64 r], [], .bool (okN n r)⟩ := by
  refine qfits_of_body (C := cfg) (c := c14) (ts := [4]) wtok wmixed (fun _ => none) (fun _ => none)
    Try.func14 (by kernel_rfl) (by kernel_rfl) (by kernel_rfl) (by kernel_rfl) (by kernel_rfl) rfl rfl ?_
  conv => whnf
  refine tst_in (fun h1 => ?_) (fun h1 => ?_)
  · conv => whnf
    repeat' (first | exact True.intro | rfl | refine And.intro ?_ ?_)
    all_goals (conv => whnf)
    all_goals ((try simp only [decide_eq_true_eq, decide_eq_false_iff_not] at *); apply Bool.eq_iff_iff.mpr; simp only [okN, Bool.and_eq_true, decide_eq_true_eq, Bool.false_eq_true, iff_false]; omega)
  · conv => whnf
    repeat' (first | exact True.intro | rfl | refine And.intro ?_ ?_)
    all_goals (conv => whnf)
    all_goals ((try simp only [decide_eq_true_eq, decide_eq_false_iff_not] at *); apply Bool.eq_iff_iff.mpr; simp only [okN, Bool.and_eq_true, decide_eq_true_eq, Bool.false_eq_true, iff_false]; omega)
noncomputable def c6 : Code := (Try.f6.body).getD .skip
theorem Check_q (n r : Int) : QFits Try.prog 6 ⟨[.int .i64 n, .int .i64 r], [], .int .i64 (chkV n r)⟩ := by
  refine qfits_of_body (C := cfg) (c := c6) (ts := [4]) wtok wmixed (fun _ => none) (fun _ => none)
    Try.func6 (by kernel_rfl) (by kernel_rfl) (by kernel_rfl) (by kernel_rfl) (by kernel_rfl) rfl rfl ?_
  conv => whnf
  refine ⟨_, [], areChecks_q r, ?_⟩
  conv => whnf
  refine ⟨?_, ?_, ?_⟩
  · conv => whnf
    repeat' (first | exact True.intro | rfl | refine And.intro ?_ ?_ | omega)
    all_goals (conv => whnf)
    all_goals (try (first | rfl | omega | (simp; done)))
  · conv => whnf
    repeat' (first | exact True.intro | rfl | refine And.intro ?_ ?_ | omega)
    all_goals (conv => whnf)
    all_goals (try (first | rfl | omega | (simp; done)))
  conv => whnf
  cases h1 : okR r
  · conv => whnf
    repeat' (first | exact True.intro | rfl | refine And.intro ?_ ?_)
    all_goals (conv => whnf)
    all_goals (show chkV n r = 1; simp [chkV, h1])
  · conv => whnf
    refine ⟨_, [], isWord_q n r, ?_⟩
    conv => whnf
    refine ⟨?_, ?_, ?_⟩
    · conv => whnf
      repeat' (first | exact True.intro | rfl | refine And.intro ?_ ?_ | omega)
      all_goals (conv => whnf)
      all_goals (try (first | rfl | omega | (simp; done)))
    · conv => whnf
      repeat' (first | exact True.intro | rfl | refine And.intro ?_ ?_ | omega)
      all_goals (conv => whnf)
      all_goals (try (first | rfl | omega | (simp; done)))
    conv => whnf
    cases h2 : okN n r
    · conv => whnf
      repeat' (first | exact True.intro | rfl | refine And.intro ?_ ?_)
      all_goals (conv => whnf)
      all_goals (show chkV n r = 1; simp [chkV, h2])
    · conv => whnf
      repeat' (first | exact True.intro | rfl | refine And.intro ?_ ?_)
      all_goals (conv => whnf)
      all_goals (show chkV n r = 0; simp [chkV, h1, h2])
noncomputable def c7 : Code := (Try.f7.body).getD .skip
theorem chk_no {n r : Int} (h : ¬ (2 ≤ r ∧ r ≤ 64 ∧ r % 2 = 0 ∧ r < n ∧ n ≤ 255)) : chkV n r = 1 := by
  unfold chkV
  rw [if_neg]
  intro hh
  have h1 := okR_iff.1 hh.1
  have h2 : r < n ∧ n ≤ 255 := by simpa [okN] using hh.2
  exact h ⟨h1.1, h1.2.1, h1.2.2, h2.1, h2.2⟩
theorem chk_yes {n r : Int} (h : 2 ≤ r ∧ r ≤ 64 ∧ r % 2 = 0 ∧ r < n ∧ n ≤ 255) : chkV n r = 0 := by
  unfold chkV
  rw [if_pos]
  exact ⟨okR_iff.2 ⟨h.1, h.2.1, h.2.2.1⟩, by simp [okN, h.2.2.2]⟩
set_option maxRecDepth 100000 in
theorem refCheck_q (n r : Int) : QFits Try.prog 7 ⟨[.int .i64 n, .int .i64 r], [], .int .i64 (chkV n r)⟩ := by
  refine qfits_of_body (C := cfg) (c := c7) (ts := [4]) wtok wmixed (fun _ => none) (fun _ => none)
    Try.func7 (by kernel_rfl) (by kernel_rfl) (by kernel_rfl) (by kernel_rfl) (by kernel_rfl) rfl rfl ?_
  conv => whnf
  refine tst_in (fun h1 => ?_) (fun h1 => ?_)
  · simp at h1
    conv => whnf
    repeat' (first | exact True.intro | rfl | refine And.intro ?_ ?_)
    all_goals (conv => whnf)
    all_goals (show chkV n r = 1; exact chk_no (by omega))
  · simp at h1
    conv => whnf
    refine tst_in (fun h2 => ?_) (fun h2 => ?_)
    · simp at h2
      conv => whnf
      repeat' (first | exact True.intro | rfl | refine And.intro ?_ ?_)
      all_goals (conv => whnf)
      all_goals (show chkV n r = 1; exact chk_no (by omega))
    · simp at h2
      conv => whnf
      refine ⟨by repeat' (first | omega | exact Int.natCast_nonneg _ | (simp only [i64max]; omega) | (simp only [u8max]; omega) | refine And.intro ?_ ?_), ?_⟩
      conv => whnf
      refine tst_in (fun h3 => ?_) (fun h3 => ?_)
      · simp at h3
        conv => whnf
        repeat' (first | exact True.intro | rfl | refine And.intro ?_ ?_)
        all_goals (conv => whnf)
        all_goals (show chkV n r = 1; exact chk_no (by omega))
      · simp at h3
        conv => whnf
        refine ⟨by repeat' (first | omega | exact Int.natCast_nonneg _ | (simp only [i64max]; omega) | (simp only [u8max]; omega) | refine And.intro ?_ ?_), ?_⟩
        conv => whnf
        refine tst_in (fun h4 => ?_) (fun h4 => ?_)
        · simp at h4
          conv => whnf
          repeat' (first | exact True.intro | rfl | refine And.intro ?_ ?_)
          all_goals (conv => whnf)
          all_goals (show chkV n r = 1; exact chk_no (by omega))
        · simp at h4
          conv => whnf
          refine tst_in (fun h5 => ?_) (fun h5 => ?_)
          · simp at h5
            conv => whnf
            repeat' (first | exact True.intro | rfl | refine And.intro ?_ ?_)
            all_goals (conv => whnf)
            all_goals (show chkV n r = 1; exact chk_no (by omega))
          · simp at h5
            conv => whnf
            repeat' (first | exact True.intro | rfl | refine And.intro ?_ ?_)
            all_goals (conv => whnf)
            all_goals (show chkV n r = 0; exact chk_yes (by omega))
end Go.Proofs.Ytkglckiddahngaa

set_option linter.unusedVariables false
set_option linter.unusedSimpArgs false
namespace Go.Proofs.Ytkglckiddahngaa
open Go Go.Fw
set_option maxRecDepth 100000 in
theorem kP2 : chkP 2 255 0 1 = true := by kernel_rfl
theorem pw_rp {m : Nat} (hm : m < 255) : pw 2 m = rp 2 m := chkP_out 255 0 kP2 m (Nat.zero_le _) (by omega)
noncomputable def pwS : Nat → List Int
  | 0 => []
  | k + 1 => pwS k ++ [((rp 2 k : Nat) : Int)]
theorem pwS_len : ∀ k, (pwS k).length = k
  | 0 => rfl
  | k + 1 => by simp [pwS, pwS_len k]
def rowI (k : Nat) (pre : List Seg) (xs : List Int) (f : AV → AV) : FOut := ⟨List Int, fun _ => True, fun tl => f (.slice k 0 xs.length (xs.length + tl.length)), fun tl => pre ++ [.seg true (.ints .u8 (xs ++ tl))]⟩
def rowX (k : Nat) (pre : List Seg) (xs : List Int) (f : AV → AV) : FOut := ⟨Unit, fun _ => True, fun _ => f (.slice k 0 xs.length xs.length), fun _ => pre ++ [.seg true (.ints .u8 xs)]⟩
def nilOut (pre : List Seg) (r : AV) : FOut := ⟨Unit, fun _ => True, fun _ => r, fun _ => pre⟩
theorem set_fill (l : List Int) (k r : Nat) (x y : Int) (hl : l.length = k) : (l ++ y :: List.replicate r 0).set k x = l ++ [x] ++ List.replicate r 0 := by
  subst hl
  simp
noncomputable def c11 : Code := (Try.f11.body).getD .skip
noncomputable def inv11 (N : Nat) : LInv := ⟨Nat, fun k => ⟨anyTo 19 [.int .i64 N, .any, .any, .slice 0 0 N N, .any, .any, .any, .any, .int .i64 N, .int .i64 k], [.seg true (.ints .u8 (pwS k ++ List.replicate (N - k) 0))]⟩, fun k => k ≤ N, fun k => N - k⟩
set_option maxRecDepth 100000 in
theorem powers_f (N : Nat) (hN : N ≤ 64) : Fits Try.prog 11 ⟨[.int .i64 N], [], [rowX 0 [] (pwS N) fun s => s]⟩ := by
  refine fits_of_body (C := cfgk 0) (c := c11) (ts := [2]) wtok wmixed (fun | 3 => some (inv11 N) | _ => none) (fun _ => none)
    Try.func11 (by kernel_rfl) (by kernel_rfl) (by kernel_rfl) (by kernel_rfl) rfl ?_
  conv => whnf
  refine ⟨⟨by omega, by omega, by show (1 : Int) * (N : Int) ≤ 281474976710656; omega, by omega⟩, ?_⟩
  conv => whnf
  refine ⟨⟨[0], (0 : Nat), ?_, Nat.zero_le _⟩, ?_⟩
  · conv => whnf
    repeat' (first | exact True.intro | rfl | refine And.intro ?_ ?_)
  · intro (k : Nat) (hk : k ≤ N)
    have hlen := pwS_len k
    have hp : pw 2 (((k : Int) % 255).toNat) = rp 2 k := by
      rw [show ((k : Int) % 255).toNat = k by omega]
      exact pw_rp (by omega)
    have hlt2 := rp_lt 2 k
    conv => whnf
    refine tst_in (fun hlt => ?_) (fun hge => ?_)
    · skip
      have hlt : k < N := by simp at hlt; omega
      conv => whnf
      refine ⟨_, [], Exp_q (k : Int), ?_⟩
      conv => whnf
      refine ⟨?_, ?_, ?_⟩
      · conv => whnf
        repeat' (first | exact True.intro | rfl | refine And.intro ?_ ?_ | omega)
        all_goals (conv => whnf)
        all_goals (try (first | rfl | omega | (simp; done)))
      · conv => whnf
        repeat' (first | exact True.intro | rfl | refine And.intro ?_ ?_ | omega)
        all_goals (conv => whnf)
        all_goals (try (first | rfl | omega | (simp; done)))
      conv => whnf
      rw [hp]
      conv => whnf
      have hcl : (pwS k ++ List.replicate (N - k) (0 : Int)).length = N := by simp [hlen]; omega
      refine ⟨by repeat' (first | omega | exact Int.natCast_nonneg _ | (simp only [i64max]; omega) | (simp only [u8max]; omega) | refine And.intro ?_ ?_), ?_⟩
      conv => whnf
      refine ⟨by repeat' (first | omega | exact Int.natCast_nonneg _ | (simp only [i64max]; omega) | (simp only [u8max]; omega) | refine And.intro ?_ ?_), ?_⟩
      conv => whnf
      refine ⟨by repeat' (first | omega | exact Int.natCast_nonneg _ | (simp only [i64max]; omega) | (simp only [u8max]; omega) | refine And.intro ?_ ?_), ?_⟩
      conv => whnf
      refine ⟨[0], k + 1, ?_, ?_, ?_⟩
      · conv => whnf
        repeat' (first | exact True.intro | rfl | refine And.intro ?_ ?_)
        all_goals first | rfl | skip
        show pwS (k + 1) ++ List.replicate (N - (k + 1)) 0 = (pwS k ++ List.replicate (N - k) 0).set (0 + ((k : Int)).toNat) ((rp 2 k : Nat) : Int)
        rw [show 0 + ((k : Int)).toNat = k by omega, show N - k = (N - (k + 1)) + 1 by omega, List.replicate_succ, set_fill _ _ _ _ _ hlen]
        rfl
      · show k + 1 ≤ N
        omega
      · show N - (k + 1) < N - k
        omega
    · skip
      have hge : k = N := by simp at hge; omega
      subst hge
      conv => whnf
      refine .inl ⟨(), [0], ?_⟩
      conv => whnf
      repeat' (first | exact True.intro | rfl | refine And.intro ?_ ?_)
      all_goals (show _ = _; first | rfl | (simp [hlen]; done) | (rw [hlen]; rfl))
end Go.Proofs.Ytkglckiddahngaa

set_option linter.unusedVariables false
set_option linter.unusedSimpArgs false
namespace Go.Proofs.Ytkglckiddahngaa
open Go Go.Fw
noncomputable def M (x y : Int) : Int := ((T x.toNat y.toNat : Nat) : Int)
def X (a b : Int) : Int := ((a.toNat ^^^ b.toNat : Nat) : Int)
def inB (x : Int) : Prop := 0 ≤ x ∧ x < 256
theorem M_in (x y : Int) : inB (M x y) := by
  have := T_lt x.toNat y.toNat
  unfold inB M
  omega
theorem X_in {a b : Int} (ha : inB a) (hb : inB b) : inB (X a b) := by
  have : a.toNat ^^^ b.toNat < 256 := Nat.xor_lt_two_pow (n := 8) (by have := ha.1; have := ha.2; omega) (by have := hb.1; have := hb.2; omega)
  unfold inB X
  omega
theorem X_zero {a : Int} (h : 0 ≤ a) : X a 0 = a := by
  unfold X
  rw [show (0 : Int).toNat = 0 from rfl, Nat.xor_zero]; omega
theorem zero_X {a : Int} (h : 0 ≤ a) : X 0 a = a := by
  unfold X
  rw [show (0 : Int).toNat = 0 from rfl, Nat.zero_xor]; omega
theorem tmul_z : ∀ (f b : Nat), tmul f 0 b 0 = 0
  | 0, _ => rfl
  | f + 1, b => by
    have h1 : ta 0 = 0 := by decide
    have h2 : tp 0 b 0 = 0 := by
      show 0 ^^^ (0 &&& ((256 - b % 2) % 256)) = 0
      simp
    rw [tmul_succ, h1, h2]
    exact tmul_z f _
theorem M_zero (y : Int) : M 0 y = 0 := by
  unfold M
  rw [show (0 : Int).toNat = 0 from rfl]
  show ((tmul 8 0 y.toNat 0 : Nat) : Int) = 0
  rw [tmul_z]; rfl
theorem Times_i {x y : Int} (hx : inB x) (hy : inB y) : QFits Try.prog 17 ⟨[.int .u8 x, .int .u8 y], [], .int .u8 (M x y)⟩ := by
  have h := Times_q x.toNat y.toNat (by have := hx.1; have := hx.2; omega) (by have := hy.1; have := hy.2; omega)
  rw [show ((x.toNat : Nat) : Int) = x by have := hx.1; omega, show ((y.toNat : Nat) : Int) = y by have := hy.1; omega] at h
  exact h
theorem refTimes_i {x y : Int} (hx : inB x) (hy : inB y) : QFits Try.prog 13 ⟨[.int .u8 x, .int .u8 y], [], .int .u8 (M x y)⟩ := by
  have h := refTimes_q x.toNat y.toNat (by have := hx.1; have := hx.2; omega) (by have := hy.1; have := hy.2; omega)
  rw [show ((x.toNat : Nat) : Int) = x by have := hx.1; omega, show ((y.toNat : Nat) : Int) = y by have := hy.1; omega] at h
  exact h
theorem getD_set (l : List Int) (p i : Nat) (v : Int) (hp : p < l.length) : (l.set p v).getD i 0 = if i = p then v else l.getD i 0 := by
  rw [List.getD_eq_getElem?_getD, List.getD_eq_getElem?_getD, List.getElem?_set]
  by_cases h : i = p
  · subst h; simp [hp]
  · rw [if_neg (fun e => h e.symm), if_neg h]
theorem ext_getD {a b : List Int} (hl : a.length = b.length) (h : ∀ i, i < a.length → a.getD i 0 = b.getD i 0) : a = b := by
  apply List.ext_getElem hl
  intro i h1 h2
  have := h i h1
  rw [List.getD_eq_getElem?_getD, List.getD_eq_getElem?_getD, List.getElem?_eq_getElem h1, List.getElem?_eq_getElem h2] at this
  simpa using this
/-- The program's round: from the highest place down. -/
noncomputable def dn (r : Int) (l : List Int) (m : Nat) : Nat → List Int
  | 0 => l
  | j + 1 => (dn r l m j).set (m - j) (X ((dn r l m j).getD (m - j - 1) 0) (M ((dn r l m j).getD (m - j) 0) r))
theorem dn_len (r : Int) (l : List Int) (m : Nat) : ∀ j, (dn r l m j).length = l.length
  | 0 => rfl
  | j + 1 => by rw [dn, List.length_set, dn_len r l m j]
theorem dn_getD (r : Int) (l : List Int) (m : Nat) (hl : l.length = m + 1) : ∀ j, j ≤ m → ∀ i, (dn r l m j).getD i 0 = if m - j < i ∧ i ≤ m then X (l.getD (i - 1) 0) (M (l.getD i 0) r) else l.getD i 0
  | 0, _, i => by
    rw [if_neg (by omega)]; rfl
  | j + 1, hj, i => by
    rw [dn, getD_set _ _ _ _ (by rw [dn_len, hl]; omega)]
    have ih := dn_getD r l m hl j (by omega)
    by_cases h : i = m - j
    · rw [if_pos h, ih (m - j - 1), ih (m - j), if_neg (by omega), if_neg (by omega), if_pos (by omega), h]
    · rw [if_neg h, ih i]
      by_cases h2 : m - j < i ∧ i ≤ m
      · rw [if_pos h2, if_pos (by omega)]
      · rw [if_neg h2, if_neg (by omega)]
noncomputable def ofS (r : Int) (g : List Int) : List Int := (dn r (g ++ [0]) g.length g.length).set 0 (M ((dn r (g ++ [0]) g.length g.length).getD 0 0) r)
/-- The reference's round. -/
noncomputable def nx (x : Int) (g : List Int) : Nat → List Int
  | 0 => List.replicate (g.length + 1) 0
  | k + 1 => ((nx x g k).set (k + 1) (X ((nx x g k).getD (k + 1) 0) (g.getD k 0))).set k (X (((nx x g k).set (k + 1) (X ((nx x g k).getD (k + 1) 0) (g.getD k 0))).getD k 0) (M (g.getD k 0) x))
theorem nx_len (x : Int) (g : List Int) : ∀ k, (nx x g k).length = g.length + 1
  | 0 => by simp [nx]
  | k + 1 => by rw [nx, List.length_set, List.length_set, nx_len x g k]
theorem nx_getD (x : Int) (g : List Int) (hg : ∀ i, inB (g.getD i 0)) : ∀ k, k ≤ g.length → ∀ i, (nx x g k).getD i 0 = if i < k then X (if i = 0 then 0 else g.getD (i - 1) 0) (M (g.getD i 0) x) else if i = k ∧ 0 < k then g.getD (k - 1) 0 else 0
  | 0, _, i => by
    rw [if_neg (by omega), if_neg (by omega), nx, List.getD_eq_getElem?_getD, List.getElem?_replicate]
    split <;> rfl
  | k + 1, hk, i => by
    have ih := nx_getD x g hg k (by omega)
    rw [nx, getD_set _ _ _ _ (by rw [List.length_set, nx_len]; omega), getD_set _ _ _ _ (by rw [nx_len]; omega), getD_set _ _ _ _ (by rw [nx_len]; omega)]
    rw [ih (k + 1), ih k, ih i, if_neg (show ¬ k + 1 < k by omega), if_neg (show ¬ (k + 1 = k ∧ 0 < k) by omega), if_neg (show ¬ k < k by omega), if_neg (show ¬ k = k + 1 by omega), zero_X (hg k).1]
    by_cases h1 : i = k
    · subst h1
      by_cases h0 : i = 0
      · subst h0; simp
      · rw [if_pos rfl, if_pos (show i = i ∧ 0 < i from ⟨rfl, by omega⟩), if_pos (show i < i + 1 by omega), if_neg h0]
    · rw [if_neg h1]
      by_cases h2 : i = k + 1
      · subst h2
        rw [if_pos rfl, if_neg (by omega), if_pos (by omega)]; rfl
      · rw [if_neg h2]
        by_cases h3 : i < k
        · rw [if_pos h3, if_pos (show i < k + 1 by omega)]
        · rw [if_neg h3, if_neg (by omega), if_neg (by omega), if_neg (by omega)]
theorem getD_snoc (g : List Int) (i : Nat) : (g ++ [0]).getD i 0 = g.getD i 0 := by
  rw [List.getD_eq_getElem?_getD, List.getD_eq_getElem?_getD, List.getElem?_append]
  by_cases h : i < g.length
  · rw [if_pos h]
  · rw [if_neg h, List.getElem?_eq_none (show g.length ≤ i by omega)]
    cases hh : i - g.length with
    | zero => simp
    | succ n => simp
theorem ofS_len (r : Int) (g : List Int) : (ofS r g).length = g.length + 1 := by
  unfold ofS; rw [List.length_set, dn_len]; simp
/-- Both rounds tell the same polynomial. -/
theorem rounds (r : Int) (g : List Int) (hg : ∀ i, inB (g.getD i 0)) : nx r g g.length = ofS r g := by
  apply ext_getD (by rw [nx_len, ofS_len])
  intro i hi
  rw [nx_len] at hi
  rw [nx_getD r g hg g.length (Nat.le_refl _) i]
  unfold ofS
  have hd := dn_getD r (g ++ [0]) g.length (by simp) g.length (Nat.le_refl _)
  rw [getD_set _ _ _ _ (by rw [dn_len]; simp), hd 0, hd i, if_neg (show ¬ (g.length - g.length < 0 ∧ 0 ≤ g.length) by omega), getD_snoc, getD_snoc, getD_snoc]
  by_cases h0 : i = 0
  · subst h0
    rw [if_pos rfl]
    by_cases h1 : 0 < g.length
    · rw [if_pos h1, if_pos rfl, zero_X (M_in _ _).1]
    · rw [if_neg h1, if_neg (by omega)]
      have : g = [] := List.eq_nil_of_length_eq_zero (by omega)
      subst this
      exact (M_zero r).symm
  · rw [if_neg h0, if_pos (show g.length - g.length < i ∧ i ≤ g.length by omega)]
    by_cases h1 : i < g.length
    · rw [if_pos h1, if_neg h0]
    · have e : i = g.length := by omega
      rw [if_neg h1, if_pos (by omega), ← e]
      have hz : g.getD i 0 = 0 := by
        rw [List.getD_eq_getElem?_getD, List.getElem?_eq_none (by omega)]; rfl
      rw [hz, M_zero, X_zero (hg (i - 1)).1, if_neg h0]
theorem ofS_in (r : Int) (g : List Int) (hg : ∀ i, inB (g.getD i 0)) : ∀ i, inB ((ofS r g).getD i 0) := by
  intro i
  rw [← rounds r g hg, nx_getD r g hg g.length (Nat.le_refl _) i]
  split
  · refine X_in ?_ (M_in _ _)
    split
    · exact ⟨by decide, by decide⟩
    · exact hg _
  · split
    · exact hg _
    · exact ⟨by decide, by decide⟩
noncomputable def gen : Nat → List Int
  | 0 => [1]
  | k + 1 => ofS ((rp 2 k : Nat) : Int) (gen k)
theorem gen_len : ∀ k, (gen k).length = k + 1
  | 0 => rfl
  | k + 1 => by rw [gen, ofS_len, gen_len k]
theorem gen_in : ∀ k i, inB ((gen k).getD i 0)
  | 0, i => by
    show inB (([1] : List Int).getD i 0)
    cases i with
    | zero => exact ⟨by decide, by decide⟩
    | succ i => simp [inB]
  | k + 1, i => ofS_in _ _ (gen_in k) i
end Go.Proofs.Ytkglckiddahngaa

set_option linter.unusedVariables false
set_option linter.unusedSimpArgs false
namespace Go.Proofs.Ytkglckiddahngaa
open Go Go.Fw
noncomputable def c15 : Code := (Try.f15.body).getD .skip
noncomputable def inv15 (N : Nat) : LInv := ⟨Nat × List Int, fun p => ⟨anyTo 53 [.slice 0 0 N N, .any, .any, .slice 1 0 (p.1 + 1) (p.1 + 1 + p.2.length), .any, .any, .any, .any, .any, .any, .any, .any, .any, .slice 0 0 N N, .int .i64 N, .int .i64 p.1], [.seg false (.ints .u8 (pwS N)), .seg true (.ints .u8 (gen p.1 ++ p.2))]⟩, fun p => p.1 ≤ N, fun p => N - p.1⟩
def natAt (st : St) (t : Nat) : Nat := match slot st.sl t with | .int _ n => n.toNat | _ => 0
noncomputable def inv15b (N : Nat) (st : St) : LInv := ⟨Nat × List Int, fun p => ⟨anyTo 53 [.slice 0 0 N N, .any, .any, .slice 1 0 (natAt st 15 + 2) (natAt st 15 + 2 + p.2.length), .any, .int .u8 (rp 2 (natAt st 15) : Nat), .int .i64 ((natAt st 15 : Nat) + 1 - (p.1 : Int)), .any, .any, .any, .any, .any, .any, .slice 0 0 N N, .int .i64 N, .int .i64 (natAt st 15 : Nat)], [.seg false (.ints .u8 (pwS N)), .seg true (.ints .u8 (dn ((rp 2 (natAt st 15) : Nat) : Int) (gen (natAt st 15) ++ [0]) (natAt st 15 + 1) p.1 ++ p.2))]⟩, fun p => p.1 ≤ natAt st 15 + 1, fun p => natAt st 15 + 1 - p.1⟩
def plan15 : PlanL := .lin [0, 1, 2, 3, 7, 8, 9, 10, 11] (.alt 4 (.alt 5 (.alt 6 (.lin [12, 13, 14, 15] .done) (.alt 12 (.lin [6, 13, 14, 15] .done) .fin)) (.alt 12 (.lin [5, 6, 13, 14, 15] .done) .fin)) (.alt 12 (.lin [4, 5, 6, 13, 14, 15] .done) .fin))
noncomputable def cfg15 (N : Nat) : Cfg := { cfgk 1 with dep := fun | 8 => some (inv15b N) | _ => none, plan := fun i => match Nat.beq i 10 with | true => some plan15 | false => none }
theorem pwS_getD {k : Nat} : ∀ {N : Nat}, k < N → (pwS N).getD k 0 = ((rp 2 k : Nat) : Int)
  | 0, h => by omega
  | N + 1, h => by
    rw [pwS, List.getD_eq_getElem?_getD, List.getElem?_append, pwS_len]
    by_cases h1 : k < N
    · rw [if_pos h1, ← List.getD_eq_getElem?_getD]
      exact pwS_getD h1
    · have : k = N := by omega
      subst this
      simp
set_option maxRecDepth 100000 in
theorem of_f (N : Nat) (hN : N ≤ 64) : Fits Try.prog 15 ⟨[.slice 0 0 N N], [.seg false (.ints .u8 (pwS N))], [rowI 1 [.dead] (gen N) fun s => s]⟩ := by
  refine fits_of_body (C := cfg15 N) (c := c15) (ts := [2]) wtok wmixed (fun | 4 => some (inv15 N) | _ => none) (fun _ => none)
    Try.func15 (by kernel_rfl) (by kernel_rfl) (by kernel_rfl) (by kernel_rfl) rfl ?_
  conv => whnf
  refine ⟨by omega, ?_⟩
  refine ⟨⟨by decide, by omega, by show (1 : Int) * ((N : Int) + 1) ≤ 281474976710656; omega, by omega⟩, ?_⟩
  conv => whnf
  have hN1 : ((N : Int) + 1).toNat = N + 1 := by omega
  rw [hN1]
  refine ⟨by repeat' (first | omega | exact Int.natCast_nonneg _ | (simp only [i64max]; omega) | (simp only [u8max]; omega) | refine And.intro ?_ ?_), ?_⟩
  conv => whnf
  refine ⟨by show 0 + Int.toNat 0 < (List.replicate (N + 1) (0 : Int)).length; rw [List.length_replicate]; show 0 + 0 < N + 1; omega, ?_⟩
  conv => whnf
  refine ⟨⟨[0, 1], ((0, List.replicate N 0) : Nat × List Int), ?_, Nat.zero_le _⟩, ?_⟩
  · conv => whnf
    repeat' (first | exact True.intro | rfl | refine And.intro ?_ ?_)
    all_goals (conv => whnf)
    all_goals (show 0 + 1 + (List.replicate N (0 : Int)).length = N + 1; rw [List.length_replicate]; omega)
  · rintro ⟨k, tl⟩ hk
    have hk : k ≤ N := hk
    have hlen := gen_len k
    show forceSt ⟨anyTo 53 [.slice 0 0 N N, .any, .any, .slice 1 0 (k + 1) (k + 1 + tl.length), .any, .any, .any, .any, .any, .any, .any, .any, .any, .slice 0 0 N N, .int .i64 N, .int .i64 k], [.seg false (.ints .u8 (pwS N)), .seg true (.ints .u8 (gen k ++ tl))]⟩ _
    conv => whnf
    refine tst_in (fun hlt => ?_) (fun hge => ?_)
    · skip
      have hlt : k < N := by simp at hlt; omega
      have hX : 0 + ((k : Int)).toNat = k := by omega
      have hg := pwS_getD hlt
      have hpl := pwS_len N
      conv => whnf
      refine ⟨by repeat' (first | omega | exact Int.natCast_nonneg _ | (simp only [i64max]; omega) | (simp only [u8max]; omega) | refine And.intro ?_ ?_), ?_⟩
      conv => whnf
      refine ⟨by repeat' (first | omega | exact Int.natCast_nonneg _ | (simp only [i64max]; omega) | (simp only [u8max]; omega) | refine And.intro ?_ ?_), ?_⟩
      conv => whnf
      rw [hX, hg]
      conv => whnf
      repeat (refine And.intro ?_ ?_; (focus (first | omega | ((conv => whnf); omega) | (simp [mulSz, Cont.len]; done) | (simp [mulSz, Cont.len]; omega))); conv => whnf)
      intro (tl2 : List Int)
      conv => whnf
      repeat (refine And.intro ?_ ?_; (focus (first | omega | ((conv => whnf); omega) | (simp [mulSz, Cont.len]; done) | (simp [mulSz, Cont.len]; omega))); conv => whnf)
      refine ⟨⟨[0, 3], ((0, tl2) : Nat × List Int), ?_, Nat.zero_le _⟩, ?_⟩
      · conv => whnf
        repeat' (first | exact True.intro | rfl | refine And.intro ?_ ?_)
        all_goals (conv => whnf)
        · show ((k : Nat) : Int) + 1 - ((0 : Nat) : Int) = ((k + 1 + 1 : Nat) : Int) - 1
          omega
        · show gen k ++ [0] ++ tl2 = (List.take (k + 1) (gen k ++ tl) ++ [0]) ++ tl2
          rw [List.take_append_of_le_length (by omega), List.take_of_length_le (by omega)]
      · have hk1 : k < N := hlt
        clear hlt
        rintro ⟨j, tl3⟩ hj
        have hj : j ≤ k + 1 := hj
        have hdl := dn_len ((rp 2 k : Nat) : Int) (gen k ++ [0]) (k + 1) j
        have hdg := dn_getD ((rp 2 k : Nat) : Int) (gen k ++ [0]) (k + 1) (by simp [hlen]) j hj
        have hds : dn ((rp 2 k : Nat) : Int) (gen k ++ [0]) (k + 1) (j + 1) = (dn ((rp 2 k : Nat) : Int) (gen k ++ [0]) (k + 1) j).set (k + 1 - j) (X ((dn ((rp 2 k : Nat) : Int) (gen k ++ [0]) (k + 1) j).getD (k + 1 - j - 1) 0) (M ((dn ((rp 2 k : Nat) : Int) (gen k ++ [0]) (k + 1) j).getD (k + 1 - j) 0) ((rp 2 k : Nat) : Int))) := rfl
        rw [List.length_append, hlen] at hdl
        show forceSt ⟨anyTo 53 [.slice 0 0 N N, .any, .any, .slice 1 0 (k + 2) (k + 2 + tl3.length), .any, .int .u8 (rp 2 k : Nat), .int .i64 ((k : Nat) + 1 - (j : Int)), .any, .any, .any, .any, .any, .any, .slice 0 0 N N, .int .i64 N, .int .i64 (k : Nat)], [.seg false (.ints .u8 (pwS N)), .seg true (.ints .u8 (dn ((rp 2 k : Nat) : Int) (gen k ++ [0]) (k + 1) j ++ tl3))]⟩ _
        generalize hD : dn ((rp 2 k : Nat) : Int) (gen k ++ [0]) (k + 1) j = D at *
        have hdl : D.length = k + 2 := hdl
        have hr : inB ((rp 2 k : Nat) : Int) := by have := rp_lt 2 k; unfold inB; omega
        have hDin : ∀ i, inB (D.getD i 0) := by
          intro i
          rw [hdg i]
          split
          · rw [getD_snoc, getD_snoc]
            exact X_in (gen_in k _) (M_in _ _)
          · rw [getD_snoc]
            exact gen_in k i
        have happ : ∀ i, i < k + 2 → (D ++ tl3).getD i 0 = D.getD i 0 := by
          intro i hi
          rw [List.getD_eq_getElem?_getD, List.getD_eq_getElem?_getD, List.getElem?_append_left (by omega)]
        have hlen2 : (D ++ tl3).length = k + 2 + tl3.length := by rw [List.length_append, hdl]
        conv => whnf
        refine tst_in (fun hlt => ?_) (fun hge => ?_)
        · skip
          have hlt : j < k + 1 := by simp at hlt; omega
          obtain ⟨p, hp⟩ : ∃ p, k + 1 - j = p + 1 := ⟨k - j, by omega⟩
          rw [hp, Nat.add_sub_cancel] at hds
          have hI : ((k : Int) + 1 - (j : Int)) = ((p + 1 : Nat) : Int) := by omega
          rw [hI]
          have hX1 : 0 + (((p + 1 : Nat) : Int)).toNat = p + 1 := by omega
          have hX2 : 0 + (((p + 1 : Nat) : Int) - 1).toNat = p := by omega
          have ha1 := happ (p + 1) (by omega)
          have ha2 := happ p (by omega)
          have hi1 := hDin (p + 1)
          have hi2 := hDin p
          conv => whnf
          refine ⟨by repeat' (first | omega | exact Int.natCast_nonneg _ | (simp only [i64max]; omega) | (simp only [u8max]; omega) | refine And.intro ?_ ?_), ?_⟩
          conv => whnf
          refine ⟨by repeat' (first | omega | exact Int.natCast_nonneg _ | (simp only [i64max]; omega) | (simp only [u8max]; omega) | refine And.intro ?_ ?_), ?_⟩
          conv => whnf
          rw [hX1, ha1]
          have hm := M_in (D.getD (p + 1) 0) ((rp 2 k : Nat) : Int)
          have hxr : 0 ≤ D.getD p 0 ∧ 0 ≤ M (D.getD (p + 1) 0) ((rp 2 k : Nat) : Int) ∧ D.getD p 0 ≤ IntKind.u8.max ∧ M (D.getD (p + 1) 0) ((rp 2 k : Nat) : Int) ≤ IntKind.u8.max := by
            have := hi2.1; have := hi2.2; have := hm.1; have := hm.2; rw [u8max]; omega
          refine ⟨?_, ?_⟩
          · conv => whnf
            refine ⟨by repeat' (first | omega | exact Int.natCast_nonneg _ | (simp only [i64max]; omega) | (simp only [u8max]; omega) | refine And.intro ?_ ?_), ?_⟩
            conv => whnf
            refine ⟨?_, ?_⟩
            · conv => whnf
              refine ⟨by repeat' (first | omega | exact Int.natCast_nonneg _ | (simp only [i64max]; omega) | (simp only [u8max]; omega) | refine And.intro ?_ ?_), ?_⟩
              conv => whnf
              refine ⟨?_, ?_⟩
              · conv => whnf
                refine ⟨by repeat' (first | omega | exact Int.natCast_nonneg _ | (simp only [i64max]; omega) | (simp only [u8max]; omega) | refine And.intro ?_ ?_), ?_⟩
                conv => whnf
                rw [hX2, ha2]
                refine ⟨_, [], Times_i hi1 hr, ?_⟩
                conv => whnf
                refine ⟨?_, ?_, ?_⟩
                · conv => whnf
                  repeat' (first | exact True.intro | rfl | refine And.intro ?_ ?_ | omega)
                  all_goals (conv => whnf)
                  all_goals (try (first | rfl | omega | (simp; done)))
                · conv => whnf
                  repeat' (first | exact True.intro | rfl | refine And.intro ?_ ?_ | omega)
                  all_goals (conv => whnf)
                  all_goals (try (first | rfl | omega | (simp; done)))
                conv => whnf
                refine ⟨hxr, ?_⟩
                conv => whnf
                refine ⟨by repeat' (first | omega | exact Int.natCast_nonneg _ | (simp only [i64max]; omega) | (simp only [u8max]; omega) | refine And.intro ?_ ?_), ?_⟩
                conv => whnf
                refine ⟨by repeat' (first | omega | exact Int.natCast_nonneg _ | (simp only [i64max]; omega) | (simp only [u8max]; omega) | refine And.intro ?_ ?_), ?_⟩
                conv => whnf
                refine ⟨by repeat' (first | omega | exact Int.natCast_nonneg _ | (simp only [i64max]; omega) | (simp only [u8max]; omega) | refine And.intro ?_ ?_), ?_⟩
                conv => whnf
                refine ⟨[0, 1], ((j + 1, tl3) : Nat × List Int), ?_, ?_, ?_⟩
                · conv => whnf
                  repeat' (first | exact True.intro | rfl | refine And.intro ?_ ?_)
                  all_goals (conv => whnf)
                  · show ((k : Nat) : Int) + 1 - ((j + 1 : Nat) : Int) = ((p + 1 : Nat) : Int) - 1
                    omega
                  · show dn ((rp 2 k : Nat) : Int) (gen k ++ [0]) (k + 1) (j + 1) ++ tl3 = (D ++ tl3).set (0 + (((p + 1 : Nat) : Int)).toNat) (X (D.getD p 0) (M (D.getD (p + 1) 0) ((rp 2 k : Nat) : Int)))
                    rw [hX1, hds, List.set_append_left _ _ (by omega)]
                · show j + 1 ≤ k + 1
                  omega
                · show k + 1 - (j + 1) < k + 1 - j
                  omega
              · refine ⟨?_, True.intro⟩
                conv => whnf
                refine ⟨_, [], Times_i hi1 hr, ?_⟩
                conv => whnf
                refine ⟨?_, ?_, ?_⟩
                · conv => whnf
                  repeat' (first | exact True.intro | rfl | refine And.intro ?_ ?_ | omega)
                  all_goals (conv => whnf)
                  all_goals (try (first | rfl | omega | (simp; done)))
                · conv => whnf
                  repeat' (first | exact True.intro | rfl | refine And.intro ?_ ?_ | omega)
                  all_goals (conv => whnf)
                  all_goals (try (first | rfl | omega | (simp; done)))
                conv => whnf
                refine ⟨by repeat' (first | omega | exact Int.natCast_nonneg _ | (simp only [i64max]; omega) | (simp only [u8max]; omega) | refine And.intro ?_ ?_), ?_⟩
                conv => whnf
                rw [hX2, ha2]
                refine ⟨hxr, ?_⟩
                conv => whnf
                refine ⟨by repeat' (first | omega | exact Int.natCast_nonneg _ | (simp only [i64max]; omega) | (simp only [u8max]; omega) | refine And.intro ?_ ?_), ?_⟩
                conv => whnf
                refine ⟨by repeat' (first | omega | exact Int.natCast_nonneg _ | (simp only [i64max]; omega) | (simp only [u8max]; omega) | refine And.intro ?_ ?_), ?_⟩
                conv => whnf
                refine ⟨by repeat' (first | omega | exact Int.natCast_nonneg _ | (simp only [i64max]; omega) | (simp only [u8max]; omega) | refine And.intro ?_ ?_), ?_⟩
                conv => whnf
                refine ⟨[0, 1], ((j + 1, tl3) : Nat × List Int), ?_, ?_, ?_⟩
                · conv => whnf
                  repeat' (first | exact True.intro | rfl | refine And.intro ?_ ?_)
                  all_goals (conv => whnf)
                  · show ((k : Nat) : Int) + 1 - ((j + 1 : Nat) : Int) = ((p + 1 : Nat) : Int) - 1
                    omega
                  · show dn ((rp 2 k : Nat) : Int) (gen k ++ [0]) (k + 1) (j + 1) ++ tl3 = (D ++ tl3).set (0 + (((p + 1 : Nat) : Int)).toNat) (X (D.getD p 0) (M (D.getD (p + 1) 0) ((rp 2 k : Nat) : Int)))
                    rw [hX1, hds, List.set_append_left _ _ (by omega)]
                · show j + 1 ≤ k + 1
                  omega
                · show k + 1 - (j + 1) < k + 1 - j
                  omega
            · refine ⟨?_, True.intro⟩
              conv => whnf
              refine ⟨_, [], Times_i hi1 hr, ?_⟩
              conv => whnf
              refine ⟨?_, ?_, ?_⟩
              · conv => whnf
                repeat' (first | exact True.intro | rfl | refine And.intro ?_ ?_ | omega)
                all_goals (conv => whnf)
                all_goals (try (first | rfl | omega | (simp; done)))
              · conv => whnf
                repeat' (first | exact True.intro | rfl | refine And.intro ?_ ?_ | omega)
                all_goals (conv => whnf)
                all_goals (try (first | rfl | omega | (simp; done)))
              conv => whnf
              refine ⟨by repeat' (first | omega | exact Int.natCast_nonneg _ | (simp only [i64max]; omega) | (simp only [u8max]; omega) | refine And.intro ?_ ?_), ?_⟩
              conv => whnf
              refine ⟨by repeat' (first | omega | exact Int.natCast_nonneg _ | (simp only [i64max]; omega) | (simp only [u8max]; omega) | refine And.intro ?_ ?_), ?_⟩
              conv => whnf
              rw [hX2, ha2]
              refine ⟨hxr, ?_⟩
              conv => whnf
              refine ⟨by repeat' (first | omega | exact Int.natCast_nonneg _ | (simp only [i64max]; omega) | (simp only [u8max]; omega) | refine And.intro ?_ ?_), ?_⟩
              conv => whnf
              refine ⟨by repeat' (first | omega | exact Int.natCast_nonneg _ | (simp only [i64max]; omega) | (simp only [u8max]; omega) | refine And.intro ?_ ?_), ?_⟩
              conv => whnf
              refine ⟨by repeat' (first | omega | exact Int.natCast_nonneg _ | (simp only [i64max]; omega) | (simp only [u8max]; omega) | refine And.intro ?_ ?_), ?_⟩
              conv => whnf
              refine ⟨[0, 1], ((j + 1, tl3) : Nat × List Int), ?_, ?_, ?_⟩
              · conv => whnf
                repeat' (first | exact True.intro | rfl | refine And.intro ?_ ?_)
                all_goals (conv => whnf)
                · show ((k : Nat) : Int) + 1 - ((j + 1 : Nat) : Int) = ((p + 1 : Nat) : Int) - 1
                  omega
                · show dn ((rp 2 k : Nat) : Int) (gen k ++ [0]) (k + 1) (j + 1) ++ tl3 = (D ++ tl3).set (0 + (((p + 1 : Nat) : Int)).toNat) (X (D.getD p 0) (M (D.getD (p + 1) 0) ((rp 2 k : Nat) : Int)))
                  rw [hX1, hds, List.set_append_left _ _ (by omega)]
              · show j + 1 ≤ k + 1
                omega
              · show k + 1 - (j + 1) < k + 1 - j
                omega
          · refine ⟨?_, True.intro⟩
            conv => whnf
            refine ⟨_, [], Times_i hi1 hr, ?_⟩
            conv => whnf
            refine ⟨?_, ?_, ?_⟩
            · conv => whnf
              repeat' (first | exact True.intro | rfl | refine And.intro ?_ ?_ | omega)
              all_goals (conv => whnf)
              all_goals (try (first | rfl | omega | (simp; done)))
            · conv => whnf
              repeat' (first | exact True.intro | rfl | refine And.intro ?_ ?_ | omega)
              all_goals (conv => whnf)
              all_goals (try (first | rfl | omega | (simp; done)))
            conv => whnf
            refine ⟨by repeat' (first | omega | exact Int.natCast_nonneg _ | (simp only [i64max]; omega) | (simp only [u8max]; omega) | refine And.intro ?_ ?_), ?_⟩
            conv => whnf
            refine ⟨by repeat' (first | omega | exact Int.natCast_nonneg _ | (simp only [i64max]; omega) | (simp only [u8max]; omega) | refine And.intro ?_ ?_), ?_⟩
            conv => whnf
            refine ⟨by repeat' (first | omega | exact Int.natCast_nonneg _ | (simp only [i64max]; omega) | (simp only [u8max]; omega) | refine And.intro ?_ ?_), ?_⟩
            conv => whnf
            rw [hX2, ha2]
            refine ⟨hxr, ?_⟩
            conv => whnf
            refine ⟨by repeat' (first | omega | exact Int.natCast_nonneg _ | (simp only [i64max]; omega) | (simp only [u8max]; omega) | refine And.intro ?_ ?_), ?_⟩
            conv => whnf
            refine ⟨by repeat' (first | omega | exact Int.natCast_nonneg _ | (simp only [i64max]; omega) | (simp only [u8max]; omega) | refine And.intro ?_ ?_), ?_⟩
            conv => whnf
            refine ⟨by repeat' (first | omega | exact Int.natCast_nonneg _ | (simp only [i64max]; omega) | (simp only [u8max]; omega) | refine And.intro ?_ ?_), ?_⟩
            conv => whnf
            refine ⟨[0, 1], ((j + 1, tl3) : Nat × List Int), ?_, ?_, ?_⟩
            · conv => whnf
              repeat' (first | exact True.intro | rfl | refine And.intro ?_ ?_)
              all_goals (conv => whnf)
              · show ((k : Nat) : Int) + 1 - ((j + 1 : Nat) : Int) = ((p + 1 : Nat) : Int) - 1
                omega
              · show dn ((rp 2 k : Nat) : Int) (gen k ++ [0]) (k + 1) (j + 1) ++ tl3 = (D ++ tl3).set (0 + (((p + 1 : Nat) : Int)).toNat) (X (D.getD p 0) (M (D.getD (p + 1) 0) ((rp 2 k : Nat) : Int)))
                rw [hX1, hds, List.set_append_left _ _ (by omega)]
            · show j + 1 ≤ k + 1
              omega
            · show k + 1 - (j + 1) < k + 1 - j
              omega
        · skip
          have hge : j = k + 1 := by simp at hge; omega
          subst hge
          have hgen : gen (k + 1) = D.set 0 (M (D.getD 0 0) ((rp 2 k : Nat) : Int)) := by
            show ofS ((rp 2 k : Nat) : Int) (gen k) = _
            unfold ofS
            rw [hlen, hD]
          have ha0 := happ 0 (by omega)
          have hi0 := hDin 0
          have hZ : 0 + Int.toNat 0 = 0 := rfl
          conv => whnf
          refine ⟨by repeat' (first | omega | exact Int.natCast_nonneg _ | (simp only [i64max]; omega) | (simp only [u8max]; omega) | refine And.intro ?_ ?_), ?_⟩
          conv => whnf
          refine ⟨by repeat' (first | omega | exact Int.natCast_nonneg _ | (simp only [i64max]; omega) | (simp only [u8max]; omega) | refine And.intro ?_ ?_), ?_⟩
          conv => whnf
          rw [hZ, ha0]
          refine ⟨_, [], Times_i hi0 hr, ?_⟩
          conv => whnf
          refine ⟨?_, ?_, ?_⟩
          · conv => whnf
            repeat' (first | exact True.intro | rfl | refine And.intro ?_ ?_ | omega)
            all_goals (conv => whnf)
            all_goals (try (first | rfl | omega | (simp; done)))
          · conv => whnf
            repeat' (first | exact True.intro | rfl | refine And.intro ?_ ?_ | omega)
            all_goals (conv => whnf)
            all_goals (try (first | rfl | omega | (simp; done)))
          conv => whnf
          refine ⟨by repeat' (first | omega | exact Int.natCast_nonneg _ | (simp only [i64max]; omega) | (simp only [u8max]; omega) | refine And.intro ?_ ?_), ?_⟩
          conv => whnf
          refine ⟨by repeat' (first | omega | exact Int.natCast_nonneg _ | (simp only [i64max]; omega) | (simp only [u8max]; omega) | refine And.intro ?_ ?_), ?_⟩
          conv => whnf
          refine ⟨by repeat' (first | omega | exact Int.natCast_nonneg _ | (simp only [i64max]; omega) | (simp only [u8max]; omega) | refine And.intro ?_ ?_), ?_⟩
          conv => whnf
          refine ⟨[0, 1], ((k + 1, tl3) : Nat × List Int), ?_, ?_, ?_⟩
          · conv => whnf
            repeat' (first | exact True.intro | rfl | refine And.intro ?_ ?_)
            all_goals (conv => whnf)
            all_goals (show gen (k + 1) ++ tl3 = (D ++ tl3).set 0 (M (D.getD 0 0) ((rp 2 k : Nat) : Int)); rw [hgen, List.set_append_left _ _ (by omega)])
          · show k + 1 ≤ N
            omega
          · show N - (k + 1) < N - k
            omega
    · skip
      have hge : k = N := by simp at hge; omega
      subst hge
      conv => whnf
      refine .inl ⟨tl, [0, 1], ?_⟩
      conv => whnf
      repeat' (first | exact True.intro | rfl | refine And.intro ?_ ?_)
      all_goals first | exact hlen | (show (gen k).length + tl.length = k + 1 + tl.length; rw [hlen]) | skip
end Go.Proofs.Ytkglckiddahngaa

set_option linter.unusedVariables false
set_option linter.unusedSimpArgs false
namespace Go.Proofs.Ytkglckiddahngaa
open Go Go.Fw
noncomputable def c10 : Code := (Try.f10.body).getD .skip
set_option maxRecDepth 100000 in
theorem Of_f (N : Nat) (hN : N ≤ 64) : Fits Try.prog 10 ⟨[.slice 0 0 N N], [.seg false (.ints .u8 (pwS N))], [rowI 1 [.dead] (gen N) fun s => .tup [s, .int .i64 0]]⟩ := by
  refine fits_of_body (C := cfgk 1) (c := c10) (ts := [2, 3]) wtok wmixed (fun _ => none) (fun _ => none)
    Try.func10 (by kernel_rfl) (by kernel_rfl) (by kernel_rfl) (by kernel_rfl) rfl ?_
  conv => whnf
  refine tst_in (fun h_ => False.elim (by simp at h_ <;> omega)) (fun _ => ?_)
  conv => whnf
  refine ⟨_, [0], of_f N hN, ?_⟩
  conv => whnf
  refine ⟨?_, ?_, ?_⟩
  · conv => whnf
    repeat' (first | exact True.intro | rfl | refine And.intro ?_ ?_)
  · conv => whnf
    repeat' (first | exact True.intro | rfl | refine And.intro ?_ ?_)
  conv => whnf
  refine ⟨?_, True.intro⟩
  intro (tl : List Int) _
  conv => whnf
  refine .inl ⟨tl, [0, 1], ?_⟩
  conv => whnf
  repeat' (first | exact True.intro | rfl | refine And.intro ?_ ?_)
noncomputable def c4 : Code := (Try.f4.body).getD .skip
set_option maxRecDepth 100000 in
theorem Gen_ok (N : Nat) (h : okR (N : Int) = true) : Fits Try.prog 4 ⟨[.int .i64 N], [], [rowI 0 [] (gen N) fun s => .tup [s, .int .i64 0]]⟩ := by
  have hN : N ≤ 64 := by have := (okR_iff.1 h).2.1; omega
  have hP : Fits Try.prog 11 ⟨[.int .i64 N], [], [⟨Unit, fun _ => True, fun _ => .slice 0 0 N N, fun _ => [.seg true (.ints .u8 (pwS N))]⟩]⟩ := by
    have h0 := powers_f N hN
    simp only [rowX, pwS_len, List.nil_append] at h0
    exact h0
  refine fits_of_body (C := cfgk 0) (c := c4) (ts := [2, 3]) wtok wmixed (fun _ => none) (fun _ => none)
    Try.func4 (by kernel_rfl) (by kernel_rfl) (by kernel_rfl) (by kernel_rfl) rfl ?_
  conv => whnf
  refine ⟨_, [], areChecks_q (N : Int), ?_⟩
  conv => whnf
  refine ⟨?_, ?_, ?_⟩
  · conv => whnf
    repeat' (first | exact True.intro | rfl | refine And.intro ?_ ?_ | omega)
    all_goals (conv => whnf)
    all_goals (try (first | rfl | omega | (simp; done)))
  · conv => whnf
    repeat' (first | exact True.intro | rfl | refine And.intro ?_ ?_ | omega)
    all_goals (conv => whnf)
    all_goals (try (first | rfl | omega | (simp; done)))
  conv => whnf
  rw [h]
  conv => whnf
  refine ⟨_, [], hP, ?_⟩
  conv => whnf
  refine ⟨?_, ?_, ?_⟩
  · conv => whnf
    repeat' (first | exact True.intro | rfl | refine And.intro ?_ ?_)
  · conv => whnf
    repeat' (first | exact True.intro | rfl | refine And.intro ?_ ?_)
  conv => whnf
  refine ⟨?_, True.intro⟩
  intro _ _
  conv => whnf
  refine ⟨_, [0], Of_f N hN, ?_⟩
  conv => whnf
  refine ⟨?_, ?_, ?_⟩
  · conv => whnf
    repeat' (first | exact True.intro | rfl | refine And.intro ?_ ?_)
  · conv => whnf
    repeat' (first | exact True.intro | rfl | refine And.intro ?_ ?_)
  conv => whnf
  refine ⟨?_, True.intro⟩
  intro (tl : List Int) _
  conv => whnf
  refine .inl ⟨tl, [1], ?_⟩
  conv => whnf
  repeat' (first | exact True.intro | rfl | refine And.intro ?_ ?_)
theorem Gen_bad (r : Int) (h : okR r = false) : Fits Try.prog 4 ⟨[.int .i64 r], [], [nilOut [] (.tup [.nils, .int .i64 1])]⟩ := by
  refine fits_of_body (C := cfgk 0) (c := c4) (ts := [2, 3]) wtok wmixed (fun _ => none) (fun _ => none)
    Try.func4 (by kernel_rfl) (by kernel_rfl) (by kernel_rfl) (by kernel_rfl) rfl ?_
  conv => whnf
  refine ⟨_, [], areChecks_q r, ?_⟩
  conv => whnf
  refine ⟨?_, ?_, ?_⟩
  · conv => whnf
    repeat' (first | exact True.intro | rfl | refine And.intro ?_ ?_ | omega)
    all_goals (conv => whnf)
    all_goals (try (first | rfl | omega | (simp; done)))
  · conv => whnf
    repeat' (first | exact True.intro | rfl | refine And.intro ?_ ?_ | omega)
    all_goals (conv => whnf)
    all_goals (try (first | rfl | omega | (simp; done)))
  conv => whnf
  rw [h]
  conv => whnf
  refine .inl ⟨(), [], ?_⟩
  conv => whnf
  repeat' (first | exact True.intro | rfl | refine And.intro ?_ ?_)
end Go.Proofs.Ytkglckiddahngaa

set_option linter.unusedVariables false
set_option linter.unusedSimpArgs false
namespace Go.Proofs.Ytkglckiddahngaa
open Go Go.Fw
noncomputable def c5 : Code := (Try.f5.body).getD .skip
noncomputable def inv5 (N : Nat) : LInv := ⟨Nat, fun k => ⟨anyTo 62 [.int .i64 N, .any, .any, .any, .slice 0 0 (k + 1) (k + 1), .int .i64 k], [.seg true (.ints .u8 (gen k))]⟩, fun k => k ≤ N, fun k => N - k⟩
noncomputable def inv5b (N : Nat) (st : St) : LInv := ⟨Nat, fun j => ⟨anyTo 62 [.int .i64 N, .any, .any, .any, .slice 0 0 (natAt st 5 + 1) (natAt st 5 + 1), .int .i64 (natAt st 5 : Nat), .int .u8 (rp 2 (natAt st 5) : Nat), .slice 1 0 (natAt st 5 + 2) (natAt st 5 + 2), .int .i64 j], [.seg true (.ints .u8 (gen (natAt st 5))), .seg true (.ints .u8 (nx ((rp 2 (natAt st 5) : Nat) : Int) (gen (natAt st 5)) j))]⟩, fun j => j ≤ natAt st 5 + 1, fun j => natAt st 5 + 1 - j⟩
def plan5 : PlanL := .lin [0, 1, 2, 3, 6, 7, 8, 9, 10] (.alt 4 (.alt 5 (.lin [11, 12, 13, 14] .done) (.alt 11 (.lin [5, 12, 13, 14] .done) .fin)) (.alt 11 (.lin [4, 5, 12, 13, 14] .done) .fin))
noncomputable def cfg5 (N : Nat) : Cfg := { cfgk 0 with dep := fun | 10 => some (inv5b N) | _ => none, plan := fun i => match Nat.beq i 13 with | true => some plan5 | false => none }
set_option maxRecDepth 100000 in
theorem refGen_ok (N : Nat) (h : okR (N : Int) = true) : Fits Try.prog 5 ⟨[.int .i64 N], [], [⟨Unit, fun _ => True, fun _ => .tup [.slice 0 0 (N + 1) (N + 1), .int .i64 0], fun _ => [.seg true (.ints .u8 (gen N))]⟩]⟩ := by
  have hN : N ≤ 64 := by have := (okR_iff.1 h).2.1; omega
  have hc : chkV ((N : Int) + 1) N = 0 := by
    obtain ⟨h1, h2, h3⟩ := okR_iff.1 h
    exact chk_yes ⟨h1, h2, h3, by omega, by omega⟩
  refine fits_of_body (C := cfg5 N) (c := c5) (ts := [2, 3]) wtok wmixed (fun | 5 => some (inv5 N) | _ => none) (fun _ => none)
    Try.func5 (by kernel_rfl) (by kernel_rfl) (by kernel_rfl) (by kernel_rfl) rfl ?_
  conv => whnf
  refine ⟨by omega, ?_⟩
  conv => whnf
  refine ⟨_, [], refCheck_q ((N : Int) + 1) N, ?_⟩
  conv => whnf
  refine ⟨?_, ?_, ?_⟩
  · conv => whnf
    repeat' (first | exact True.intro | rfl | refine And.intro ?_ ?_ | omega)
    all_goals (conv => whnf)
    all_goals (try (first | rfl | omega | (simp; done)))
  · conv => whnf
    repeat' (first | exact True.intro | rfl | refine And.intro ?_ ?_ | omega)
    all_goals (conv => whnf)
    all_goals (try (first | rfl | omega | (simp; done)))
  conv => whnf
  rw [hc]
  conv => whnf
  refine ⟨⟨[0], (0 : Nat), ?_, Nat.zero_le _⟩, ?_⟩
  · conv => whnf
    repeat' (first | exact True.intro | rfl | refine And.intro ?_ ?_)
  · intro (k : Nat) (hk : k ≤ N)
    have hlen := gen_len k
    have hr : inB ((rp 2 k : Nat) : Int) := by have := rp_lt 2 k; unfold inB; omega
    show forceSt ⟨anyTo 62 [.int .i64 N, .any, .any, .any, .slice 0 0 (k + 1) (k + 1), .int .i64 k], [.seg true (.ints .u8 (gen k))]⟩ _
    conv => whnf
    refine tst_in (fun hlt => ?_) (fun hge => ?_)
    · skip
      have hlt : k < N := by simp at hlt; omega
      conv => whnf
      refine ⟨_, [], refPower_q k (by omega), ?_⟩
      conv => whnf
      refine ⟨?_, ?_, ?_⟩
      · conv => whnf
        repeat' (first | exact True.intro | rfl | refine And.intro ?_ ?_ | omega)
        all_goals (conv => whnf)
        all_goals (try (first | rfl | omega | (simp; done)))
      · conv => whnf
        repeat' (first | exact True.intro | rfl | refine And.intro ?_ ?_ | omega)
        all_goals (conv => whnf)
        all_goals (try (first | rfl | omega | (simp; done)))
      conv => whnf
      refine ⟨by repeat' (first | omega | exact Int.natCast_nonneg _ | (simp only [i64max]; omega) | (simp only [u8max]; omega) | refine And.intro ?_ ?_), ?_⟩
      conv => whnf
      refine ⟨⟨by omega, by omega, by show (1 : Int) * (((k + 1 : Nat) : Int) + 1) ≤ 281474976710656; omega, by omega⟩, ?_⟩
      conv => whnf
      have hk2 : (((k + 1 : Nat) : Int) + 1).toNat = k + 2 := by omega
      rw [hk2]
      refine ⟨⟨[0, 1], (0 : Nat), ?_, Nat.zero_le _⟩, ?_⟩
      · conv => whnf
        repeat' (first | exact True.intro | rfl | refine And.intro ?_ ?_)
        all_goals (conv => whnf)
        all_goals (show List.replicate ((gen k).length + 1) (0 : Int) = List.replicate (k + 2) 0; rw [hlen])
      · have hk1 : k < N := hlt
        clear hlt
        intro (j : Nat) hj
        have hj : j ≤ k + 1 := hj
        have hgi := gen_in k
        have hdl := nx_len ((rp 2 k : Nat) : Int) (gen k) j
        have hdg := nx_getD ((rp 2 k : Nat) : Int) (gen k) hgi j (by omega)
        have hds : nx ((rp 2 k : Nat) : Int) (gen k) (j + 1) = ((nx ((rp 2 k : Nat) : Int) (gen k) j).set (j + 1) (X ((nx ((rp 2 k : Nat) : Int) (gen k) j).getD (j + 1) 0) ((gen k).getD j 0))).set j (X (((nx ((rp 2 k : Nat) : Int) (gen k) j).set (j + 1) (X ((nx ((rp 2 k : Nat) : Int) (gen k) j).getD (j + 1) 0) ((gen k).getD j 0))).getD j 0) (M ((gen k).getD j 0) ((rp 2 k : Nat) : Int))) := rfl
        show forceSt ⟨anyTo 62 [.int .i64 N, .any, .any, .any, .slice 0 0 (k + 1) (k + 1), .int .i64 (k : Nat), .int .u8 (rp 2 k : Nat), .slice 1 0 (k + 2) (k + 2), .int .i64 (j : Nat)], [.seg true (.ints .u8 (gen k)), .seg true (.ints .u8 (nx ((rp 2 k : Nat) : Int) (gen k) j))]⟩ _
        generalize hD : nx ((rp 2 k : Nat) : Int) (gen k) j = D at *
        have hdl : D.length = k + 2 := by rw [hdl, hlen]
        have hDin : ∀ i, inB (D.getD i 0) := by
          intro i
          rw [hdg i]
          split
          · refine X_in ?_ (M_in _ _)
            split
            · exact ⟨by decide, by decide⟩
            · exact hgi _
          · split
            · exact hgi _
            · exact ⟨by decide, by decide⟩
        conv => whnf
        refine tst_in (fun hlt => ?_) (fun hge => ?_)
        · skip
          have hlt : j < k + 1 := by simp at hlt; omega
          have hX0 : 0 + ((j : Int)).toNat = j := by omega
          have hX1 : 0 + ((j : Int) + 1).toNat = j + 1 := by omega
          have hi1 := hDin (j + 1)
          have hi2 := hgi j
          have hx1 : 0 ≤ D.getD (j + 1) 0 ∧ 0 ≤ (gen k).getD j 0 ∧ D.getD (j + 1) 0 ≤ IntKind.u8.max ∧ (gen k).getD j 0 ≤ IntKind.u8.max := by
            have := hi1.1; have := hi1.2; have := hi2.1; have := hi2.2; rw [u8max]; omega
          conv => whnf
          refine ⟨by repeat' (first | omega | exact Int.natCast_nonneg _ | (simp only [i64max]; omega) | (simp only [u8max]; omega) | refine And.intro ?_ ?_), ?_⟩
          conv => whnf
          refine ⟨by repeat' (first | omega | exact Int.natCast_nonneg _ | (simp only [i64max]; omega) | (simp only [u8max]; omega) | refine And.intro ?_ ?_), ?_⟩
          conv => whnf
          refine ⟨by repeat' (first | omega | exact Int.natCast_nonneg _ | (simp only [i64max]; omega) | (simp only [u8max]; omega) | refine And.intro ?_ ?_), ?_⟩
          conv => whnf
          refine ⟨by repeat' (first | omega | exact Int.natCast_nonneg _ | (simp only [i64max]; omega) | (simp only [u8max]; omega) | refine And.intro ?_ ?_), ?_⟩
          conv => whnf
          rw [hX1]
          refine ⟨by repeat' (first | omega | exact Int.natCast_nonneg _ | (simp only [i64max]; omega) | (simp only [u8max]; omega) | refine And.intro ?_ ?_), ?_⟩
          conv => whnf
          refine ⟨by repeat' (first | omega | exact Int.natCast_nonneg _ | (simp only [i64max]; omega) | (simp only [u8max]; omega) | refine And.intro ?_ ?_), ?_⟩
          conv => whnf
          rw [hX0]
          refine ⟨hx1, ?_⟩
          conv => whnf
          refine ⟨by repeat' (first | omega | exact Int.natCast_nonneg _ | (simp only [i64max]; omega) | (simp only [u8max]; omega) | refine And.intro ?_ ?_), ?_⟩
          conv => whnf
          refine ⟨by repeat' (first | omega | exact Int.natCast_nonneg _ | (simp only [i64max]; omega) | (simp only [u8max]; omega) | refine And.intro ?_ ?_), ?_⟩
          conv => whnf
          rw [hX1]
          generalize hE : D.set (j + 1) ((((D.getD (j + 1) 0).toNat ^^^ ((gen k).getD j 0).toNat : Nat)) : Int) = E
          have hds2 : nx ((rp 2 k : Nat) : Int) (gen k) (j + 1) = E.set j (X (E.getD j 0) (M ((gen k).getD j 0) ((rp 2 k : Nat) : Int))) := by rw [hds, ← hE]; rfl
          have hEl : E.length = k + 2 := by rw [← hE, List.length_set, hdl]
          have hi3 : inB (E.getD j 0) := by
            rw [← hE, getD_set _ _ _ _ (by omega), if_neg (by omega)]
            exact hDin j
          have hm := M_in ((gen k).getD j 0) ((rp 2 k : Nat) : Int)
          have hxr : 0 ≤ E.getD j 0 ∧ 0 ≤ M ((gen k).getD j 0) ((rp 2 k : Nat) : Int) ∧ E.getD j 0 ≤ IntKind.u8.max ∧ M ((gen k).getD j 0) ((rp 2 k : Nat) : Int) ≤ IntKind.u8.max := by
            have := hi3.1; have := hi3.2; have := hm.1; have := hm.2; rw [u8max]; omega
          refine ⟨by repeat' (first | omega | exact Int.natCast_nonneg _ | (simp only [i64max]; omega) | (simp only [u8max]; omega) | refine And.intro ?_ ?_), ?_⟩
          conv => whnf
          refine ⟨by repeat' (first | omega | exact Int.natCast_nonneg _ | (simp only [i64max]; omega) | (simp only [u8max]; omega) | refine And.intro ?_ ?_), ?_⟩
          conv => whnf
          rw [hX0]
          refine ⟨?_, ?_⟩
          · conv => whnf
            refine ⟨by repeat' (first | omega | exact Int.natCast_nonneg _ | (simp only [i64max]; omega) | (simp only [u8max]; omega) | refine And.intro ?_ ?_), ?_⟩
            conv => whnf
            refine ⟨?_, ?_⟩
            · conv => whnf
              refine ⟨by repeat' (first | omega | exact Int.natCast_nonneg _ | (simp only [i64max]; omega) | (simp only [u8max]; omega) | refine And.intro ?_ ?_), ?_⟩
              conv => whnf
              rw [hX0]
              refine ⟨_, [], refTimes_i hi2 hr, ?_⟩
              conv => whnf
              refine ⟨?_, ?_, ?_⟩
              · conv => whnf
                repeat' (first | exact True.intro | rfl | refine And.intro ?_ ?_ | omega)
                all_goals (conv => whnf)
                all_goals (try (first | rfl | omega | (simp; done)))
              · conv => whnf
                repeat' (first | exact True.intro | rfl | refine And.intro ?_ ?_ | omega)
                all_goals (conv => whnf)
                all_goals (try (first | rfl | omega | (simp; done)))
              conv => whnf
              refine ⟨hxr, ?_⟩
              conv => whnf
              refine ⟨by repeat' (first | omega | exact Int.natCast_nonneg _ | (simp only [i64max]; omega) | (simp only [u8max]; omega) | refine And.intro ?_ ?_), ?_⟩
              conv => whnf
              refine ⟨by repeat' (first | omega | exact Int.natCast_nonneg _ | (simp only [i64max]; omega) | (simp only [u8max]; omega) | refine And.intro ?_ ?_), ?_⟩
              conv => whnf
              refine ⟨by repeat' (first | omega | exact Int.natCast_nonneg _ | (simp only [i64max]; omega) | (simp only [u8max]; omega) | refine And.intro ?_ ?_), ?_⟩
              conv => whnf
              refine ⟨[0, 1], (j + 1 : Nat), ?_, ?_, ?_⟩
              · conv => whnf
                repeat' (first | exact True.intro | rfl | refine And.intro ?_ ?_)
                all_goals (conv => whnf)
                all_goals (show nx ((rp 2 k : Nat) : Int) (gen k) (j + 1) = E.set (0 + ((j : Int)).toNat) (X (E.getD j 0) (M ((gen k).getD j 0) ((rp 2 k : Nat) : Int))); rw [hX0, hds2])
              · show j + 1 ≤ k + 1
                omega
              · show k + 1 - (j + 1) < k + 1 - j
                omega
            · refine ⟨?_, True.intro⟩
              conv => whnf
              refine ⟨_, [], refTimes_i hi2 hr, ?_⟩
              conv => whnf
              refine ⟨?_, ?_, ?_⟩
              · conv => whnf
                repeat' (first | exact True.intro | rfl | refine And.intro ?_ ?_ | omega)
                all_goals (conv => whnf)
                all_goals (try (first | rfl | omega | (simp; done)))
              · conv => whnf
                repeat' (first | exact True.intro | rfl | refine And.intro ?_ ?_ | omega)
                all_goals (conv => whnf)
                all_goals (try (first | rfl | omega | (simp; done)))
              conv => whnf
              refine ⟨by repeat' (first | omega | exact Int.natCast_nonneg _ | (simp only [i64max]; omega) | (simp only [u8max]; omega) | refine And.intro ?_ ?_), ?_⟩
              conv => whnf
              rw [hX0]
              refine ⟨hxr, ?_⟩
              conv => whnf
              refine ⟨by repeat' (first | omega | exact Int.natCast_nonneg _ | (simp only [i64max]; omega) | (simp only [u8max]; omega) | refine And.intro ?_ ?_), ?_⟩
              conv => whnf
              refine ⟨by repeat' (first | omega | exact Int.natCast_nonneg _ | (simp only [i64max]; omega) | (simp only [u8max]; omega) | refine And.intro ?_ ?_), ?_⟩
              conv => whnf
              refine ⟨by repeat' (first | omega | exact Int.natCast_nonneg _ | (simp only [i64max]; omega) | (simp only [u8max]; omega) | refine And.intro ?_ ?_), ?_⟩
              conv => whnf
              refine ⟨[0, 1], (j + 1 : Nat), ?_, ?_, ?_⟩
              · conv => whnf
                repeat' (first | exact True.intro | rfl | refine And.intro ?_ ?_)
                all_goals (conv => whnf)
                all_goals (show nx ((rp 2 k : Nat) : Int) (gen k) (j + 1) = E.set (0 + ((j : Int)).toNat) (X (E.getD j 0) (M ((gen k).getD j 0) ((rp 2 k : Nat) : Int))); rw [hX0, hds2])
              · show j + 1 ≤ k + 1
                omega
              · show k + 1 - (j + 1) < k + 1 - j
                omega
          · refine ⟨?_, True.intro⟩
            conv => whnf
            refine ⟨_, [], refTimes_i hi2 hr, ?_⟩
            conv => whnf
            refine ⟨?_, ?_, ?_⟩
            · conv => whnf
              repeat' (first | exact True.intro | rfl | refine And.intro ?_ ?_ | omega)
              all_goals (conv => whnf)
              all_goals (try (first | rfl | omega | (simp; done)))
            · conv => whnf
              repeat' (first | exact True.intro | rfl | refine And.intro ?_ ?_ | omega)
              all_goals (conv => whnf)
              all_goals (try (first | rfl | omega | (simp; done)))
            conv => whnf
            refine ⟨by repeat' (first | omega | exact Int.natCast_nonneg _ | (simp only [i64max]; omega) | (simp only [u8max]; omega) | refine And.intro ?_ ?_), ?_⟩
            conv => whnf
            refine ⟨by repeat' (first | omega | exact Int.natCast_nonneg _ | (simp only [i64max]; omega) | (simp only [u8max]; omega) | refine And.intro ?_ ?_), ?_⟩
            conv => whnf
            rw [hX0]
            refine ⟨hxr, ?_⟩
            conv => whnf
            refine ⟨by repeat' (first | omega | exact Int.natCast_nonneg _ | (simp only [i64max]; omega) | (simp only [u8max]; omega) | refine And.intro ?_ ?_), ?_⟩
            conv => whnf
            refine ⟨by repeat' (first | omega | exact Int.natCast_nonneg _ | (simp only [i64max]; omega) | (simp only [u8max]; omega) | refine And.intro ?_ ?_), ?_⟩
            conv => whnf
            refine ⟨by repeat' (first | omega | exact Int.natCast_nonneg _ | (simp only [i64max]; omega) | (simp only [u8max]; omega) | refine And.intro ?_ ?_), ?_⟩
            conv => whnf
            refine ⟨[0, 1], (j + 1 : Nat), ?_, ?_, ?_⟩
            · conv => whnf
              repeat' (first | exact True.intro | rfl | refine And.intro ?_ ?_)
              all_goals (conv => whnf)
              all_goals (show nx ((rp 2 k : Nat) : Int) (gen k) (j + 1) = E.set (0 + ((j : Int)).toNat) (X (E.getD j 0) (M ((gen k).getD j 0) ((rp 2 k : Nat) : Int))); rw [hX0, hds2])
            · show j + 1 ≤ k + 1
              omega
            · show k + 1 - (j + 1) < k + 1 - j
              omega
        · skip
          have hge : j = k + 1 := by simp at hge; omega
          subst hge
          have hgen : D = gen (k + 1) := by
            show D = ofS ((rp 2 k : Nat) : Int) (gen k)
            rw [← hD, ← rounds _ _ hgi, hlen]
          rw [hgen]
          conv => whnf
          refine ⟨by repeat' (first | omega | exact Int.natCast_nonneg _ | (simp only [i64max]; omega) | (simp only [u8max]; omega) | refine And.intro ?_ ?_), ?_⟩
          conv => whnf
          refine ⟨[1], (k + 1 : Nat), ?_, ?_, ?_⟩
          · conv => whnf
            repeat' (first | exact True.intro | rfl | refine And.intro ?_ ?_)
            all_goals (conv => whnf)
          · show k + 1 ≤ N
            omega
          · show N - (k + 1) < N - k
            omega
    · skip
      have hge : k = N := by simp at hge; omega
      subst hge
      conv => whnf
      refine .inl ⟨(), [0], ?_⟩
      conv => whnf
      repeat' (first | exact True.intro | rfl | refine And.intro ?_ ?_)
noncomputable def cfg5w : Cfg := { cfg5 0 with wr := fun i => Nat.beq i 1 }
theorem refGen_bad (r : Int) (h : okR r = false) : Fits Try.prog 5 ⟨[.int .i64 r], [], [nilOut [] (.tup [.nils, .int .i64 1])]⟩ := by
  have hc : ∀ n, chkV n r = 1 := fun n => chk_no (fun hh => by
    have := okR_iff.2 ⟨hh.1, hh.2.1, hh.2.2.1⟩
    rw [h] at this; cases this)
  refine fits_of_body (C := cfg5w) (c := c5) (ts := [2, 3]) wtok wmixed (fun _ => none) (fun _ => none)
    Try.func5 (by kernel_rfl) (by kernel_rfl) (by kernel_rfl) (by kernel_rfl) rfl ?_
  conv => whnf
  refine ⟨_, [], refCheck_q (IntKind.i64.wrap (r + 1)) r, ?_⟩
  conv => whnf
  refine ⟨?_, ?_, ?_⟩
  · conv => whnf
    repeat' (first | exact True.intro | rfl | refine And.intro ?_ ?_ | omega)
    all_goals (conv => whnf)
    all_goals (try (first | rfl | omega | (simp; done)))
  · conv => whnf
    repeat' (first | exact True.intro | rfl | refine And.intro ?_ ?_ | omega)
    all_goals (conv => whnf)
    all_goals (try (first | rfl | omega | (simp; done)))
  conv => whnf
  rw [hc]
  conv => whnf
  refine .inl ⟨(), [], ?_⟩
  conv => whnf
  repeat' (first | exact True.intro | rfl | refine And.intro ?_ ?_)
end Go.Proofs.Ytkglckiddahngaa

set_option linter.unusedVariables false
set_option linter.unusedSimpArgs false
namespace Go.Proofs.Ytkglckiddahngaa
open Go Go.Fw
noncomputable def c8 : Code := (Try.f8.body).getD .skip
def inv8 (A B : List Int) (n ca cb : Nat) : LInv := ⟨Nat, fun k => ⟨anyTo 26 [.slice 0 0 n ca, .slice 1 0 n cb, .any, .any, .any, .int .i64 k], [.seg false (.ints .u8 A), .seg false (.ints .u8 B)]⟩, fun k => k ≤ n, fun k => n - k⟩
theorem same_q (A B : List Int) (n ca cb : Nat) (hA : n ≤ A.length) (hB : n ≤ B.length) (hs : ∀ i, i < n → A.getD i 0 = B.getD i 0) (hN : n ≤ 4611686018427387904) :
    QFits Try.prog 8 ⟨[.slice 0 0 n ca, .slice 1 0 n cb], [.seg false (.ints .u8 A), .seg false (.ints .u8 B)], .bool true⟩ := by
  refine qfits_of_body (C := cfgk 2) (c := c8) (ts := [4]) wtok wmixed (fun | 4 => some (inv8 A B n ca cb) | _ => none) (fun _ => none)
    Try.func8 (by kernel_rfl) (by kernel_rfl) (by kernel_rfl) (by kernel_rfl) (by kernel_rfl) rfl rfl ?_
  conv => whnf
  refine tst_in (fun h_ => False.elim (by simp at h_ <;> omega)) (fun _ => ?_)
  conv => whnf
  refine ⟨⟨[0, 1], (0 : Nat), ?_, Nat.zero_le _⟩, ?_⟩
  · conv => whnf
    repeat' (first | exact True.intro | rfl | refine And.intro ?_ ?_)
  · intro (k : Nat) (hk : k ≤ n)
    conv => whnf
    refine tst_in (fun hlt => ?_) (fun hge => ?_)
    · skip
      have hlt : k < n := by simp at hlt; omega
      have hs := hs k hlt
      conv => whnf
      refine ⟨by repeat' (first | omega | exact Int.natCast_nonneg _ | (simp only [i64max]; omega) | (simp only [u8max]; omega) | refine And.intro ?_ ?_), ?_⟩
      conv => whnf
      refine ⟨by repeat' (first | omega | exact Int.natCast_nonneg _ | (simp only [i64max]; omega) | (simp only [u8max]; omega) | refine And.intro ?_ ?_), ?_⟩
      conv => whnf
      refine ⟨by repeat' (first | omega | exact Int.natCast_nonneg _ | (simp only [i64max]; omega) | (simp only [u8max]; omega) | refine And.intro ?_ ?_), ?_⟩
      conv => whnf
      refine ⟨by repeat' (first | omega | exact Int.natCast_nonneg _ | (simp only [i64max]; omega) | (simp only [u8max]; omega) | refine And.intro ?_ ?_), ?_⟩
      conv => whnf
      refine tst_in (fun hne => ?_) (fun he => ?_)
      · simp at hne
        exact absurd hs hne
      · skip
        conv => whnf
        refine ⟨by repeat' (first | omega | exact Int.natCast_nonneg _ | (simp only [i64max]; omega) | (simp only [u8max]; omega) | refine And.intro ?_ ?_), ?_⟩
        conv => whnf
        refine ⟨[0, 1], k + 1, ?_, ?_, ?_⟩
        · conv => whnf
          repeat' (first | exact True.intro | rfl | refine And.intro ?_ ?_)
        · show k + 1 ≤ n
          omega
        · show n - (k + 1) < n - k
          omega
    · conv => whnf
      repeat' (first | exact True.intro | rfl | refine And.intro ?_ ?_)
theorem same_nil : QFits Try.prog 8 ⟨[.nils, .nils], [], .bool true⟩ := by
  refine qfits_of_body (C := cfgk 0) (c := c8) (ts := [4]) wtok wmixed (fun | 4 => some ⟨Unit, fun _ => ⟨anyTo 26 [.nils, .nils, .any, .any, .any, .int .i64 0], []⟩, fun _ => True, fun _ => 0⟩ | _ => none) (fun _ => none)
    Try.func8 (by kernel_rfl) (by kernel_rfl) (by kernel_rfl) (by kernel_rfl) (by kernel_rfl) rfl rfl ?_
  conv => whnf
  refine ⟨⟨[], (), ?_, True.intro⟩, ?_⟩
  · conv => whnf
    repeat' (first | exact True.intro | rfl | refine And.intro ?_ ?_)
  · intro _ _
    conv => whnf
    repeat' (first | exact True.intro | rfl | refine And.intro ?_ ?_)
noncomputable def c3 : Code := (Try.f3.body).getD .skip
def lawSpec (n r : Int) : FSpec := ⟨[.int .i64 n, .int .i64 r], [], [⟨Unit, fun _ => True, fun _ => .bool true, fun _ => []⟩]⟩
structure LS where
  k : Nat
  xs : List Int
  ys : List Int
  ca : Nat
noncomputable def inv3 (N : Nat) : LInv := ⟨LS, fun s => ⟨anyTo 69 [.any, .int .i64 N, .any, .any, .any, .slice 0 0 (N + 1) s.ca, .any, .slice 1 0 (N + 1) (N + 1), .any, .slice 2 0 (N + 1) (N + 1 + s.ys.length), .any, .int .i64 s.k], [.seg true (.ints .u8 s.xs), .seg true (.ints .u8 (gen N)), .seg true (.ints .u8 (gen N ++ s.ys))]⟩, fun s => s.k ≤ N + 1 ∧ s.xs.length = s.ca ∧ N + 1 ≤ s.ca, fun s => N + 1 - s.k⟩
theorem gen_app (N : Nat) (tl : List Int) : ∀ i, i < N + 1 → (gen N ++ tl).getD i 0 = (gen N).getD i 0 := by
  intro i hi
  rw [List.getD_eq_getElem?_getD, List.getD_eq_getElem?_getD, List.getElem?_append_left (by rw [gen_len]; omega)]
def inv3b (r : Int) : LInv := ⟨Unit, fun _ => ⟨anyTo 69 [.any, .int .i64 r, .any, .any, .any, .nils, .any, .nils, .any, .nils, .any, .int .i64 0], []⟩, fun _ => True, fun _ => 0⟩
set_option maxRecDepth 100000 in
theorem law_bad (n r : Int) (h : okR r = false) : Fits Try.prog 3 (lawSpec n r) := by
  refine fits_of_body (C := cfgk 0) (c := c3) (ts := [4]) wtok wmixed (fun | 7 => some (inv3b r) | _ => none) (fun _ => none)
    Try.func3 (by kernel_rfl) (by kernel_rfl) (by kernel_rfl) (by kernel_rfl) rfl ?_
  conv => whnf
  refine ⟨_, [], Gen_bad r h, ?_⟩
  conv => whnf
  refine ⟨?_, ?_, ?_⟩
  · conv => whnf
    repeat' (first | exact True.intro | rfl | refine And.intro ?_ ?_ | omega)
    all_goals (conv => whnf)
    all_goals (try (first | rfl | omega | (simp; done)))
  · conv => whnf
    repeat' (first | exact True.intro | rfl | refine And.intro ?_ ?_ | omega)
    all_goals (conv => whnf)
    all_goals (try (first | rfl | omega | (simp; done)))
  conv => whnf
  refine ⟨?_, True.intro⟩
  intro _ _
  conv => whnf
  refine ⟨_, [], refGen_bad r h, ?_⟩
  conv => whnf
  refine ⟨?_, ?_, ?_⟩
  · conv => whnf
    repeat' (first | exact True.intro | rfl | refine And.intro ?_ ?_ | omega)
    all_goals (conv => whnf)
    all_goals (try (first | rfl | omega | (simp; done)))
  · conv => whnf
    repeat' (first | exact True.intro | rfl | refine And.intro ?_ ?_ | omega)
    all_goals (conv => whnf)
    all_goals (try (first | rfl | omega | (simp; done)))
  conv => whnf
  refine ⟨?_, True.intro⟩
  intro _ _
  conv => whnf
  refine ⟨_, [], Gen_bad r h, ?_⟩
  conv => whnf
  refine ⟨?_, ?_, ?_⟩
  · conv => whnf
    repeat' (first | exact True.intro | rfl | refine And.intro ?_ ?_ | omega)
    all_goals (conv => whnf)
    all_goals (try (first | rfl | omega | (simp; done)))
  · conv => whnf
    repeat' (first | exact True.intro | rfl | refine And.intro ?_ ?_ | omega)
    all_goals (conv => whnf)
    all_goals (try (first | rfl | omega | (simp; done)))
  conv => whnf
  refine ⟨?_, True.intro⟩
  intro _ _
  conv => whnf
  refine ⟨_, [], Check_q n r, ?_⟩
  conv => whnf
  refine ⟨?_, ?_, ?_⟩
  · conv => whnf
    repeat' (first | exact True.intro | rfl | refine And.intro ?_ ?_ | omega)
    all_goals (conv => whnf)
    all_goals (try (first | rfl | omega | (simp; done)))
  · conv => whnf
    repeat' (first | exact True.intro | rfl | refine And.intro ?_ ?_ | omega)
    all_goals (conv => whnf)
    all_goals (try (first | rfl | omega | (simp; done)))
  conv => whnf
  refine ⟨_, [], refCheck_q n r, ?_⟩
  conv => whnf
  refine ⟨?_, ?_, ?_⟩
  · conv => whnf
    repeat' (first | exact True.intro | rfl | refine And.intro ?_ ?_ | omega)
    all_goals (conv => whnf)
    all_goals (try (first | rfl | omega | (simp; done)))
  · conv => whnf
    repeat' (first | exact True.intro | rfl | refine And.intro ?_ ?_ | omega)
    all_goals (conv => whnf)
    all_goals (try (first | rfl | omega | (simp; done)))
  conv => whnf
  refine tst_in (fun h_ => False.elim (by simp at h_ <;> omega)) (fun _ => ?_)
  conv => whnf
  refine ⟨_, [], same_nil, ?_⟩
  conv => whnf
  refine ⟨?_, ?_, ?_⟩
  · conv => whnf
    repeat' (first | exact True.intro | rfl | refine And.intro ?_ ?_ | omega)
    all_goals (conv => whnf)
    all_goals (try (first | rfl | omega | (simp; done)))
  · conv => whnf
    repeat' (first | exact True.intro | rfl | refine And.intro ?_ ?_ | omega)
    all_goals (conv => whnf)
    all_goals (try (first | rfl | omega | (simp; done)))
  conv => whnf
  refine ⟨⟨[], (), ?_, True.intro⟩, ?_⟩
  · conv => whnf
    repeat' (first | exact True.intro | rfl | refine And.intro ?_ ?_)
  · intro _ _
    conv => whnf
    refine ⟨_, [], Gen_bad r h, ?_⟩
    conv => whnf
    refine ⟨?_, ?_, ?_⟩
    · conv => whnf
      repeat' (first | exact True.intro | rfl | refine And.intro ?_ ?_ | omega)
      all_goals (conv => whnf)
      all_goals (try (first | rfl | omega | (simp; done)))
    · conv => whnf
      repeat' (first | exact True.intro | rfl | refine And.intro ?_ ?_ | omega)
      all_goals (conv => whnf)
      all_goals (try (first | rfl | omega | (simp; done)))
    conv => whnf
    refine ⟨?_, True.intro⟩
    intro _ _
    conv => whnf
    refine ⟨_, [], same_nil, ?_⟩
    conv => whnf
    refine ⟨?_, ?_, ?_⟩
    · conv => whnf
      repeat' (first | exact True.intro | rfl | refine And.intro ?_ ?_ | omega)
      all_goals (conv => whnf)
      all_goals (try (first | rfl | omega | (simp; done)))
    · conv => whnf
      repeat' (first | exact True.intro | rfl | refine And.intro ?_ ?_ | omega)
      all_goals (conv => whnf)
      all_goals (try (first | rfl | omega | (simp; done)))
    conv => whnf
    refine ⟨_, [], same_nil, ?_⟩
    conv => whnf
    refine ⟨?_, ?_, ?_⟩
    · conv => whnf
      repeat' (first | exact True.intro | rfl | refine And.intro ?_ ?_ | omega)
      all_goals (conv => whnf)
      all_goals (try (first | rfl | omega | (simp; done)))
    · conv => whnf
      repeat' (first | exact True.intro | rfl | refine And.intro ?_ ?_ | omega)
      all_goals (conv => whnf)
      all_goals (try (first | rfl | omega | (simp; done)))
    conv => whnf
    refine .inl ⟨(), [], ?_⟩
    conv => whnf
    repeat' (first | exact True.intro | rfl | refine And.intro ?_ ?_)
set_option maxRecDepth 100000 in
theorem law_ok (n : Int) (N : Nat) (h : okR (N : Int) = true) : Fits Try.prog 3 (lawSpec n N) := by
  have hN : N ≤ 64 := by have := (okR_iff.1 h).2.1; omega
  have hgl := gen_len N
  have hG : Fits Try.prog 4 ⟨[.int .i64 N], [], [⟨List Int, fun _ => True, fun tl => .tup [.slice 0 0 (N + 1) (N + 1 + tl.length), .int .i64 0], fun tl => [.seg true (.ints .u8 (gen N ++ tl))]⟩]⟩ := by
    have h0 := Gen_ok N h
    simp only [rowI, gen_len, List.nil_append] at h0
    exact h0
  have hR := refGen_ok N h
  refine fits_of_body (C := cfgk 0) (c := c3) (ts := [4]) wtok wmixed (fun | 7 => some (inv3 N) | _ => none) (fun _ => none)
    Try.func3 (by kernel_rfl) (by kernel_rfl) (by kernel_rfl) (by kernel_rfl) rfl ?_
  conv => whnf
  refine ⟨_, [], hG, ?_⟩
  conv => whnf
  refine ⟨?_, ?_, ?_⟩
  · conv => whnf
    repeat' (first | exact True.intro | rfl | refine And.intro ?_ ?_)
  · conv => whnf
    repeat' (first | exact True.intro | rfl | refine And.intro ?_ ?_)
  conv => whnf
  refine ⟨?_, True.intro⟩
  intro (tl : List Int) _
  conv => whnf
  refine ⟨_, [], hR, ?_⟩
  conv => whnf
  refine ⟨?_, ?_, ?_⟩
  · conv => whnf
    repeat' (first | exact True.intro | rfl | refine And.intro ?_ ?_ | omega)
    all_goals (conv => whnf)
    all_goals (try (first | rfl | omega | (simp; done)))
  · conv => whnf
    repeat' (first | exact True.intro | rfl | refine And.intro ?_ ?_ | omega)
    all_goals (conv => whnf)
    all_goals (try (first | rfl | omega | (simp; done)))
  conv => whnf
  refine ⟨?_, True.intro⟩
  intro _ _
  conv => whnf
  refine ⟨_, [], hG, ?_⟩
  conv => whnf
  refine ⟨?_, ?_, ?_⟩
  · conv => whnf
    repeat' (first | exact True.intro | rfl | refine And.intro ?_ ?_)
  · conv => whnf
    repeat' (first | exact True.intro | rfl | refine And.intro ?_ ?_)
  conv => whnf
  refine ⟨?_, True.intro⟩
  intro (tl2 : List Int) _
  conv => whnf
  refine ⟨_, [], Check_q n N, ?_⟩
  conv => whnf
  refine ⟨?_, ?_, ?_⟩
  · conv => whnf
    repeat' (first | exact True.intro | rfl | refine And.intro ?_ ?_ | omega)
    all_goals (conv => whnf)
    all_goals (try (first | rfl | omega | (simp; done)))
  · conv => whnf
    repeat' (first | exact True.intro | rfl | refine And.intro ?_ ?_ | omega)
    all_goals (conv => whnf)
    all_goals (try (first | rfl | omega | (simp; done)))
  conv => whnf
  refine ⟨_, [], refCheck_q n N, ?_⟩
  conv => whnf
  refine ⟨?_, ?_, ?_⟩
  · conv => whnf
    repeat' (first | exact True.intro | rfl | refine And.intro ?_ ?_ | omega)
    all_goals (conv => whnf)
    all_goals (try (first | rfl | omega | (simp; done)))
  · conv => whnf
    repeat' (first | exact True.intro | rfl | refine And.intro ?_ ?_ | omega)
    all_goals (conv => whnf)
    all_goals (try (first | rfl | omega | (simp; done)))
  conv => whnf
  refine tst_in (fun h_ => False.elim (by simp at h_ <;> omega)) (fun _ => ?_)
  conv => whnf
  have hs1 : QFits Try.prog 8 ⟨[.slice 0 0 (N + 1) (N + 1 + tl.length), .slice 1 0 (N + 1) (N + 1)], [.seg false (.ints .u8 (gen N ++ tl)), .seg false (.ints .u8 (gen N))], .bool true⟩ :=
    same_q (gen N ++ tl) (gen N) (N + 1) _ _ (by rw [List.length_append, hgl]; omega) (by omega) (gen_app N tl) (by omega)
  refine ⟨_, [0, 1], hs1, ?_⟩
  conv => whnf
  refine ⟨?_, ?_, ?_⟩
  · conv => whnf
    repeat' (first | exact True.intro | rfl | refine And.intro ?_ ?_)
  · conv => whnf
    repeat' (first | exact True.intro | rfl | refine And.intro ?_ ?_)
  conv => whnf
  refine ⟨⟨[0, 1, 2], (⟨0, gen N ++ tl, tl2, N + 1 + tl.length⟩ : LS), ?_, ⟨Nat.zero_le _, (by show (gen N ++ tl).length = N + 1 + tl.length; rw [List.length_append, hgl]), (by show N + 1 ≤ N + 1 + tl.length; omega)⟩⟩, ?_⟩
  · conv => whnf
    repeat' (first | exact True.intro | rfl | refine And.intro ?_ ?_)
  · clear hs1 hG
    rintro ⟨k, xs, ys, ca⟩ ⟨hk, hx, hca⟩
    have hk : k ≤ N + 1 := hk
    have hx : xs.length = ca := hx
    have hca : N + 1 ≤ ca := hca
    show forceSt ⟨anyTo 69 [.any, .int .i64 N, .any, .any, .any, .slice 0 0 (N + 1) ca, .any, .slice 1 0 (N + 1) (N + 1), .any, .slice 2 0 (N + 1) (N + 1 + ys.length), .any, .int .i64 k], [.seg true (.ints .u8 xs), .seg true (.ints .u8 (gen N)), .seg true (.ints .u8 (gen N ++ ys))]⟩ _
    conv => whnf
    refine tst_in (fun hlt => ?_) (fun hge => ?_)
    · skip
      have hlt : k < N + 1 := by simp at hlt; omega
      conv => whnf
      refine ⟨by repeat' (first | omega | exact Int.natCast_nonneg _ | (simp only [i64max]; omega) | (simp only [u8max]; omega) | refine And.intro ?_ ?_), ?_⟩
      conv => whnf
      refine ⟨by repeat' (first | omega | exact Int.natCast_nonneg _ | (simp only [i64max]; omega) | (simp only [u8max]; omega) | refine And.intro ?_ ?_), ?_⟩
      conv => whnf
      refine ⟨by repeat' (first | omega | exact Int.natCast_nonneg _ | (simp only [i64max]; omega) | (simp only [u8max]; omega) | refine And.intro ?_ ?_), ?_⟩
      conv => whnf
      refine ⟨[0, 1, 2], (⟨k + 1, xs.set (0 + ((k : Int)).toNat) 77, ys, ca⟩ : LS), ?_, ⟨hlt, (by show (xs.set _ _).length = ca; rw [List.length_set, hx]), hca⟩, ?_⟩
      · conv => whnf
        repeat' (first | exact True.intro | rfl | refine And.intro ?_ ?_)
      · show N + 1 - (k + 1) < N + 1 - k
        omega
    · skip
      have hG : Fits Try.prog 4 ⟨[.int .i64 N], [], [⟨List Int, fun _ => True, fun tl => .tup [.slice 0 0 (N + 1) (N + 1 + tl.length), .int .i64 0], fun tl => [.seg true (.ints .u8 (gen N ++ tl))]⟩]⟩ := by
        have h0 := Gen_ok N h
        simp only [rowI, gen_len, List.nil_append] at h0
        exact h0
      conv => whnf
      refine ⟨_, [], hG, ?_⟩
      conv => whnf
      refine ⟨?_, ?_, ?_⟩
      · conv => whnf
        repeat' (first | exact True.intro | rfl | refine And.intro ?_ ?_)
      · conv => whnf
        repeat' (first | exact True.intro | rfl | refine And.intro ?_ ?_)
      conv => whnf
      refine ⟨?_, True.intro⟩
      intro (tl3 : List Int) _
      conv => whnf
      have hs2 : ∀ zs : List Int, QFits Try.prog 8 ⟨[.slice 0 0 (N + 1) (N + 1 + zs.length), .slice 1 0 (N + 1) (N + 1)], [.seg false (.ints .u8 (gen N ++ zs)), .seg false (.ints .u8 (gen N))], .bool true⟩ := fun zs =>
        same_q (gen N ++ zs) (gen N) (N + 1) _ _ (by rw [List.length_append, hgl]; omega) (by omega) (gen_app N zs) (by omega)
      refine ⟨_, [2, 1], hs2 ys, ?_⟩
      conv => whnf
      refine ⟨?_, ?_, ?_⟩
      · conv => whnf
        repeat' (first | exact True.intro | rfl | refine And.intro ?_ ?_)
      · conv => whnf
        repeat' (first | exact True.intro | rfl | refine And.intro ?_ ?_)
      conv => whnf
      refine ⟨_, [3, 1], hs2 tl3, ?_⟩
      conv => whnf
      refine ⟨?_, ?_, ?_⟩
      · conv => whnf
        repeat' (first | exact True.intro | rfl | refine And.intro ?_ ?_)
      · conv => whnf
        repeat' (first | exact True.intro | rfl | refine And.intro ?_ ?_)
      conv => whnf
      refine .inl ⟨(), [], ?_⟩
      conv => whnf
      repeat' (first | exact True.intro | rfl | refine And.intro ?_ ?_)
theorem law_f (n r : Int) : Fits Try.prog 3 ⟨[.int .i64 n, .int .i64 r], [], [⟨Unit, fun _ => True, fun _ => .bool true, fun _ => []⟩]⟩ := by
  cases h : okR r with
  | false => exact law_bad n r h
  | true =>
    have hr := okR_iff.1 h
    have e : ((r.toNat : Nat) : Int) = r := by omega
    have := law_ok n r.toNat (by rw [e]; exact h)
    rw [e] at this
    exact this
end Go.Proofs.Ytkglckiddahngaa

namespace Go.Proofs.Ytkglckiddahngaa
open Go Go.Fw
namespace reedChecks
open Go.ChangeShapes Go.WideShapes Go.ChangeAt Go.RowKit
theorem own : ownKnob Try.prog.godebug = none := by kernel_rfl
theorem laid : laidOutB Try.prog = true := by kernel_rfl

set_option maxRecDepth 100000 in
theorem lifted (os : Os) (started : os.Started) (H : Type) (enc : TypeId × Value → H) :
    ReturnsInHanded {} Try.checked os 3 .any (Rows.reedChecksSpec.pre6 enc Try.prog Try.f3 Rows.reedChecksRow.domain false) (Rows.reedChecksSpec.post enc Try.prog Try.f3 false true false false) := by
  refine returnsInHanded_of_change_sized (C := Try.checked) own started (by kernel_rfl) Try.func3
    (ChangeSpec.witness6 (enc := enc) (C := Try.checked) false ⟨#[], #[.int .i64 0, .int .i64 0], []⟩ 8 (by kernel_rfl) (by kernel_rfl) (by kernel_rfl) (by kernel_rfl)) ?_
  intro W base args ds gs before hval0 hW _ hsz0 _
  clear hsz0
  have hval : ∀ (j : Nat) t v, Try.f3.params[j]? = some t → args[j]? = some v → Value.okWide Try.prog W .any base t v := hval0
  have hW' := hW
  obtain ⟨p, q, hA0, hV, rfl, hfz, hnd⟩ := hW
  have hA : DataW.TrodAll enc Try.prog W 0 (fun _ => true) true Try.f3.params.toList args.toList ds p := hA0
  rw [Try.params3] at hA hval
  obtain ⟨v0, vs0, d0, ds0, p0, q0, hargs, rfl, rfl, h0, r0⟩ := trodAll_cons hA
  obtain ⟨v1, vs1, d1, ds1, p1, q1, rfl, rfl, rfl, h1, r1⟩ := trodAll_cons r0
  obtain ⟨rfl, rfl, rfl⟩ := trodAll_nil r1
  obtain rfl : args = #[v0, v1] := by cases args; simp_all
  obtain ⟨rfl, rfl⟩ := trodVars_none hV
  obtain ⟨k0, rfl, rfl, rfl, w0⟩ := open_int Try.underlying3 (hval 0 3 v0 rfl rfl) h0
  obtain ⟨k1, rfl, rfl, rfl, w1⟩ := open_int Try.underlying3 (hval 1 3 v1 rfl rfl) h1
  clear hA0 hval0
  have walk := (law_f k0 k1).calls W [] [.int .i64 k0, .int .i64 k1] (heap_args rfl fun i s hs => by simp at hs) (by simp only [Dens]; exact ⟨_, _, rfl, by simp [Den], ⟨_, _, rfl, by simp [Den], rfl⟩⟩) (x := .bool true) (v := .bool true) rfl (by
      intro o ho y hy
      simp at ho
      subst ho; rfl)
  refine walk.mono fun e W' ⟨he, hg⟩ => ?_
  subst he
  exact ⟨_, rfl, law_done laid rfl rfl Try.underlying4 (by kernel_rfl) hW' rfl hg⟩

theorem over : Rows.reedChecksRow.holds Try.pinned (OpenSpec.ofChange Rows.reedChecksSpec) :=
  OpenClaim.holds_of_wide 3 Try.f3 rfl rfl rfl rfl rfl rfl rfl ⟨rfl, rfl, rfl, rfl, rfl⟩ rfl rfl rfl rfl rfl (by kernel_rfl) Try.func3 (by kernel_rfl)
    (of_decide_eq_true (by kernel_rfl)) (by unfold Func.isWrapper; first | (rw [if_pos (by decide +kernel)]; kernel_rfl) | (rw [if_neg (by decide +kernel)]; exact ⟨rfl, rfl⟩))
    (fun os started H enc _ => lifted os started H enc)

theorem proved : Rows.ReedChecksSaid := over
end reedChecks
end Go.Proofs.Ytkglckiddahngaa
