/-
  The law BitsGray is true of every int: the number of Gray, and the number whose Gray number it is, are those of the document, and so are the refusals. No condition.
-/
import Derived.Test.YtagndcamfjikhaaRows
import Derived.Test.YtagndcamfjikhaaFw
import Derived.WalkKit
import Derived.ProofKit
import Derived.OpenShut
namespace Go.Proofs.Ytagndcamfjikhaa
open Go Go.Fw

def tys : List (Nat × TyI) := [
  (3, ⟨.int .i64, 1, 8, .int .i64 0⟩),
  (4, ⟨.bool, 1, 1, .bool false⟩),
  (23, ⟨.slice 4, 1, 24, .slice none 0 0⟩)]

theorem tok : TOk Try.prog tys := by
  intro p hp
  simp only [tys, List.mem_cons, List.not_mem_nil, or_false] at hp
  rcases hp with rfl | rfl | rfl
  · exact ⟨by kernel_rfl, by kernel_rfl⟩
  · exact ⟨by kernel_rfl, by kernel_rfl⟩
  · exact ⟨by kernel_rfl, by kernel_rfl⟩

theorem mixed : Try.prog.follows .mixedOrders = true := by kernel_rfl

def qf : Nat → Bool := fun f => Nat.beq f 49 || Nat.beq f 50 || Nat.beq f 51 || Nat.beq f 25 || Nat.beq f 34 || Nat.beq f 35 || Nat.beq f 36
def cfg : Cfg := { T := tys, sgn := fun _ => false, wr := fun _ => false, k := 0, q := qf }

noncomputable def c49 : Code := (Try.f49.body).getD .skip
theorem isGray_q (n : Int) : QFits Try.prog 49 ⟨[.int .i64 n], [], .bool (decide (0 ≤ n ∧ n < 65536))⟩ := by
  refine qfits_of_body (C := cfg) (c := c49) (ts := [2]) tok mixed (fun _ => none) (fun _ => none)
    Try.func49 (by kernel_rfl) (by kernel_rfl) (by kernel_rfl) (by kernel_rfl) (by kernel_rfl) rfl rfl ?_
  conv => whnf
  split
  · rename_i h
    conv => whnf
    have h : 0 ≤ n := by simpa using h
    simp [h]
  · rename_i h
    conv => whnf
    have h : ¬ 0 ≤ n := by simpa using h
    simp [h]

noncomputable def c50 : Code := (Try.f50.body).getD .skip
def inv50 (n : Nat) : LInv := ⟨Nat, fun k => ⟨anyTo 13 [.int .i64 n, .any, .any, .int .i64 (2 ^ k), .int .i64 k], []⟩, fun k => k ≤ n, fun k => n - k⟩
theorem power_q (n : Nat) (h1 : n ≤ 62) : QFits Try.prog 50 ⟨[.int .i64 n], [], .int .i64 (2 ^ n)⟩ := by
  refine qfits_of_body (C := cfg) (c := c50) (ts := [2]) tok mixed (fun | 3 => some (inv50 n) | _ => none) (fun _ => none)
    Try.func50 (by kernel_rfl) (by kernel_rfl) (by kernel_rfl) (by kernel_rfl) (by kernel_rfl) rfl rfl ?_
  conv => whnf
  refine ⟨⟨[], (0 : Nat), ?_, Nat.zero_le _⟩, ?_⟩
  · conv => whnf
    repeat' (first | exact True.intro | rfl | refine And.intro ?_ ?_)
  · intro (k : Nat) (hk : k ≤ n)
    conv => whnf
    split
    · rename_i hlt
      have hlt : k < n := by simp at hlt; omega
      have hp : (2 : Int) ^ k ≤ 2 ^ 61 := two_pow_le (by omega)
      have hp0 := two_pow_pos k
      conv => whnf
      refine ⟨by omega, ?_⟩
      conv => whnf
      refine ⟨by omega, ?_⟩
      conv => whnf
      refine ⟨[], k + 1, ?_, ?_, ?_⟩
      · conv => whnf
        repeat' (first | exact True.intro | rfl | refine And.intro ?_ ?_)
        show (2 : Int) ^ (k + 1) = 2 * 2 ^ k
        rw [Int.pow_succ]; omega
      · show k + 1 ≤ n
        omega
      · show n - (k + 1) < n - k
        omega
    · rename_i hge
      have hge : n ≤ k := by simp at hge; omega
      conv => whnf
      have : k = n := by omega
      rw [this]

/-- Gray's number by the document, bit by bit. -/
def rg (n : Nat) : Nat → Nat
  | 0 => 0
  | i + 1 => if n / 2 ^ i % 2 ≠ n / 2 ^ (i + 1) % 2 then rg n i + 2 ^ i else rg n i

theorem rg_lt (n : Nat) : ∀ i, rg n i < 2 ^ i
  | 0 => by simp [rg]
  | i + 1 => by have := rg_lt n i; simp only [rg]; rw [Nat.pow_succ]; split <;> omega

noncomputable def c51 : Code := (Try.f51.body).getD .skip
def inv51 (n : Nat) : LInv := ⟨Nat, fun k => ⟨anyTo 26 [.int .i64 n, .any, .any, .int .i64 (rg n k), .int .i64 k], []⟩, fun k => k ≤ 16, fun k => 16 - k⟩
theorem gray_q (n : Nat) (h1 : n < 65536) : QFits Try.prog 51 ⟨[.int .i64 n], [], .int .i64 (rg n 16)⟩ := by
  refine qfits_of_body (C := cfg) (c := c51) (ts := [2]) tok mixed (fun | 3 => some (inv51 n) | _ => none) (fun _ => none)
    Try.func51 (by kernel_rfl) (by kernel_rfl) (by kernel_rfl) (by kernel_rfl) (by kernel_rfl) rfl rfl ?_
  conv => whnf
  refine ⟨⟨[], (0 : Nat), ?_, Nat.zero_le _⟩, ?_⟩
  · conv => whnf
    repeat' (first | exact True.intro | rfl | refine And.intro ?_ ?_)
  · intro (k : Nat) (hk : k ≤ 16)
    conv => whnf
    split
    · rename_i hlt
      have hlt : k < 16 := by simp at hlt; omega
      have hp : (2 : Int) ^ k ≤ 2 ^ 15 := two_pow_le (by omega)
      have hp0 := two_pow_pos k
      have hq : (2 : Int) ^ (k + 1) ≤ 2 ^ 16 := two_pow_le (by omega)
      have hq0 := two_pow_pos (k + 1)
      conv => whnf
      refine ⟨_, [], power_q k (by omega), ?_⟩
      conv => whnf
      refine ⟨⟨rfl, trivial⟩, trivial, ?_⟩
      conv => whnf
      refine ⟨⟨by omega, by omega, by rw [i64max]; omega⟩, ?_⟩
      conv => whnf
      have hd : (0 : Int) ≤ (n : Int) / 2 ^ k := Int.ediv_nonneg (by omega) (by omega)
      refine ⟨⟨hd, by omega⟩, ?_⟩
      conv => whnf
      refine ⟨by omega, ?_⟩
      conv => whnf
      refine ⟨_, [], power_q (k + 1) (by omega), ?_⟩
      conv => whnf
      refine ⟨⟨rfl, trivial⟩, trivial, ?_⟩
      conv => whnf
      refine ⟨⟨by omega, by omega, by rw [i64max]; omega⟩, ?_⟩
      conv => whnf
      have hd2 : (0 : Int) ≤ (n : Int) / 2 ^ (k + 1) := Int.ediv_nonneg (by omega) (by omega)
      refine ⟨⟨hd2, by omega⟩, ?_⟩
      conv => whnf
      have hlt2 := rg_lt n k
      have hrg : (rg n k : Int) < 2 ^ k := by exact_mod_cast hlt2
      split
      · rename_i hne
        have hne : n / 2 ^ k % 2 ≠ n / 2 ^ (k + 1) % 2 := by
          intro e
          have : (n : Int) / 2 ^ k % 2 = n / 2 ^ (k + 1) % 2 := by exact_mod_cast e
          simp [this] at hne
        conv => whnf
        refine ⟨_, [], power_q k (by omega), ?_⟩
        conv => whnf
        refine ⟨⟨rfl, trivial⟩, trivial, ?_⟩
        conv => whnf
        refine ⟨by omega, ?_⟩
        conv => whnf
        refine ⟨by omega, ?_⟩
        conv => whnf
        refine ⟨[], k + 1, ?_, ?_, ?_⟩
        · conv => whnf
          repeat' (first | exact True.intro | rfl | refine And.intro ?_ ?_)
          show (rg n (k + 1) : Int) = rg n k + 2 ^ k
          simp only [rg, hne, ne_eq, not_false_eq_true, if_true]
          exact_mod_cast rfl
        · show k + 1 ≤ 16
          omega
        · show 16 - (k + 1) < 16 - k
          omega
      · rename_i he
        have he : n / 2 ^ k % 2 = n / 2 ^ (k + 1) % 2 := by
          have : (n : Int) / 2 ^ k % 2 = n / 2 ^ (k + 1) % 2 := by simpa using he
          exact_mod_cast this
        conv => whnf
        refine ⟨by omega, ?_⟩
        conv => whnf
        refine ⟨[], k + 1, ?_, ?_, ?_⟩
        · conv => whnf
          repeat' (first | exact True.intro | rfl | refine And.intro ?_ ?_)
          show (rg n (k + 1) : Int) = rg n k
          simp only [rg, he, ne_eq, not_true_eq_false, if_false]
        · show k + 1 ≤ 16
          omega
        · show 16 - (k + 1) < 16 - k
          omega
    · rename_i hge
      have hge : 16 ≤ k := by simp at hge; omega
      conv => whnf
      have : k = 16 := by omega
      rw [this]

theorem xor2 (a b : Nat) : (a ^^^ b) % 2 = (a + b) % 2 := by
  have h := Nat.testBit_xor a b 0
  simp only [Nat.testBit_zero] at h
  rcases Nat.mod_two_eq_zero_or_one a with ha | ha <;> rcases Nat.mod_two_eq_zero_or_one b with hb | hb <;> rcases Nat.mod_two_eq_zero_or_one (a ^^^ b) with hx | hx <;> rw [ha, hb, hx] at h <;> first | omega | (simp at h)

theorem rg_eq (n : Nat) : ∀ k, rg n k = (n ^^^ (n / 2)) % 2 ^ k
  | 0 => by simp [rg, Nat.mod_one]
  | k + 1 => by
    have ih := rg_eq n k
    have hb : (n ^^^ (n / 2)) / 2 ^ k % 2 = (n / 2 ^ k + n / 2 ^ (k + 1)) % 2 := by
      rw [← Nat.shiftRight_eq_div_pow, ← Nat.shiftRight_eq_div_pow, ← Nat.shiftRight_eq_div_pow, Nat.shiftRight_xor_distrib, xor2]
      rw [show n / 2 = n >>> 1 from rfl, ← Nat.shiftRight_add, Nat.add_comm 1 k]
    rw [Nat.mod_pow_succ, ← ih, hb]
    simp only [rg]
    generalize n / 2 ^ k = a
    generalize n / 2 ^ (k + 1) = b
    split
    · rw [show (a + b) % 2 = 1 by omega, Nat.mul_one]
    · rw [show (a + b) % 2 = 0 by omega, Nat.mul_zero, Nat.add_zero]

theorem gray_eq (n : Nat) (h : n < 65536) : rg n 16 = n ^^^ (n / 2) := by
  rw [rg_eq]
  exact Nat.mod_eq_of_lt (Nat.xor_lt_two_pow (n := 16) h (by omega))

/-- n laid over itself, k places on. -/
def T (k n : Nat) : Nat := n ^^^ (n >>> k)
theorem T_T (k n : Nat) : T k (T k n) = T (k + k) n := by
  unfold T
  rw [Nat.shiftRight_xor_distrib, ← Nat.shiftRight_add, Nat.xor_assoc, ← Nat.xor_assoc (n >>> k), Nat.xor_self, Nat.zero_xor]
theorem T_comm (k m n : Nat) : T k (T m n) = T m (T k n) := by
  unfold T
  simp only [Nat.shiftRight_xor_distrib, ← Nat.shiftRight_add, Nat.add_comm k m, Nat.xor_assoc]
  congr 1
  rw [← Nat.xor_assoc, Nat.xor_comm (n >>> m), Nat.xor_assoc]
theorem T_lt {k n : Nat} (h : n < 65536) : T k n < 65536 := Nat.xor_lt_two_pow (n := 16) h (Nat.lt_of_le_of_lt (by rw [Nat.shiftRight_eq_div_pow]; exact Nat.div_le_self _ _) h)
theorem T_16 {n : Nat} (h : n < 65536) : T 16 n = n := by
  unfold T
  rw [Nat.shiftRight_eq_div_pow, Nat.div_eq_of_lt (by simpa using h), Nat.xor_zero]

/-- Ungray, round by round. -/
def it (n : Nat) : Nat → Nat
  | 0 => n
  | j + 1 => T (2 ^ j) (it n j)
theorem it_lt {n : Nat} (h : n < 65536) : ∀ j, it n j < 65536
  | 0 => h
  | j + 1 => T_lt (it_lt h j)
theorem gray_ungray {n : Nat} (h : n < 65536) : T 1 (it n 4) = n := by
  simp only [it]
  rw [T_comm 1, T_comm 1, T_comm 1, T_T, T_T, T_T, T_T]
  exact T_16 h
theorem ungray_gray {n : Nat} (h : n < 65536) : it (T 1 n) 4 = n := by
  simp only [it]
  rw [T_T, T_T, T_T, T_T]
  exact T_16 h

noncomputable def c35 : Code := (Try.f35.body).getD .skip
def inv35 (n : Nat) : LInv := ⟨Nat, fun j => ⟨anyTo 18 [.int .i64 (it n j), .any, .any, .any, .int .i64 (2 ^ j)], []⟩, fun j => j ≤ 4, fun j => 4 - j⟩

theorem shr_nat (x j : Nat) (h : 2 ^ j < 64) : ((x : Int) / 2 ^ (min ((2 : Int) ^ j).toNat IntKind.i64.bits)).toNat = x >>> (2 ^ j) := by
  have e : ((2 : Int) ^ j).toNat = 2 ^ j := by
    have : ((2 : Int) ^ j) = ((2 ^ j : Nat) : Int) := by simp
    rw [this, Int.toNat_natCast]
  have e2 : min (2 ^ j) IntKind.i64.bits = 2 ^ j := Nat.min_eq_left (by simp only [IntKind.bits]; omega)
  rw [e, e2, Nat.shiftRight_eq_div_pow]
  have : (x : Int) / 2 ^ 2 ^ j = ((x / 2 ^ 2 ^ j : Nat) : Int) := by simp
  rw [this, Int.toNat_natCast]

theorem Ungray_in (n : Int) (m : Nat) (hn : n = m) (hm : m < 65536) : QFits Try.prog 35 ⟨[.int .i64 n], [], .tup [.int .i64 (it m 4), .int .i64 0]⟩ := by
  refine qfits_of_body (C := cfg) (c := c35) (ts := [2, 3]) tok mixed (fun | 4 => some (inv35 m) | _ => none) (fun _ => none)
    Try.func35 (by kernel_rfl) (by kernel_rfl) (by kernel_rfl) (by kernel_rfl) (by kernel_rfl) rfl rfl ?_
  conv => whnf
  refine ⟨_, [], isGray_q n, ?_⟩
  conv => whnf
  refine ⟨⟨rfl, True.intro⟩, True.intro, ?_⟩
  conv => whnf
  split
  · rename_i h
    simp at h; omega
  · conv => whnf
    refine ⟨⟨[], (0 : Nat), ?_, Nat.zero_le _⟩, ?_⟩
    · conv => whnf
      repeat' (first | exact True.intro | refine And.intro ?_ ?_)
      · show ((it m 0 : Nat) : Int) = n
        exact hn.symm
      · rfl
    · intro (j : Nat) (hj : j ≤ 4)
      have hlt := it_lt (n := m) (by omega) j
      conv => whnf
      split
      · rename_i hc
        have hj4 : j < 4 := by
          rcases Nat.lt_or_ge j 4 with h | h
          · exact h
          · have : j = 4 := by omega
            subst this; simp at hc
        have hp : (2 : Int) ^ j ≤ 2 ^ 3 := two_pow_le (by omega)
        have hp0 := two_pow_pos j
        have hpn : 2 ^ j < 64 := by have : (2 : Nat) ^ j ≤ 2 ^ 3 := Nat.pow_le_pow_right (by decide) (by omega); omega
        have hs := shr_nat (it m j) j hpn
        have hle : ((it m j : Nat) : Int) / 2 ^ (min ((2 : Int) ^ j).toNat IntKind.i64.bits) ≤ it m j := Int.ediv_le_self _ (by omega)
        have hge : (0 : Int) ≤ ((it m j : Nat) : Int) / 2 ^ (min ((2 : Int) ^ j).toNat IntKind.i64.bits) := Int.ediv_nonneg (by omega) (Int.le_of_lt (two_pow_pos _))
        conv => whnf
        refine ⟨by omega, ?_⟩
        conv => whnf
        refine ⟨⟨by omega, hge, by rw [i64max]; omega, by rw [i64max]; exact Int.le_trans hle (by omega)⟩, ?_⟩
        conv => whnf
        refine ⟨by omega, ?_⟩
        conv => whnf
        refine ⟨?_, ?_⟩
        · have : (2 : Int) ^ (min (1 : Int).toNat IntKind.i64.bits) = 2 := rfl
          rw [this]; omega
        conv => whnf
        refine ⟨[], j + 1, ?_, ?_, ?_⟩
        · conv => whnf
          refine ⟨⟨?_, ?_⟩, True.intro⟩
          · have e : it m (j + 1) = ((it m j : Nat) : Int).toNat ^^^ (((it m j : Nat) : Int) / 2 ^ (min ((2 : Int) ^ j).toNat IntKind.i64.bits)).toNat := by rw [hs, Int.toNat_natCast]; rfl
            exact congrArg (fun x : Nat => (x : Int)) e
          repeat' (first | exact True.intro | refine And.intro ?_ ?_)
          show (2 : Int) ^ (j + 1) = 2 ^ j * 2
          rw [Int.pow_succ]
        · show j + 1 ≤ 4
          omega
        · show 4 - (j + 1) < 4 - j
          omega
      · rename_i hc
        have hj4 : j = 4 := by
          rcases Nat.lt_or_ge j 4 with h | h
          · have : (2 : Int) ^ j ≤ 2 ^ 3 := two_pow_le (by omega)
            simp at hc; omega
          · omega
        subst hj4
        conv => whnf
        repeat' (first | exact True.intro | rfl | refine And.intro ?_ ?_)

theorem Ungray_q (n : Int) : QFits Try.prog 35 ⟨[.int .i64 n], [], .tup [.int .i64 (if 0 ≤ n ∧ n < 65536 then (it n.toNat 4 : Nat) else 0), .int .i64 (if 0 ≤ n ∧ n < 65536 then 0 else 1)]⟩ := by
  by_cases hn : 0 ≤ n ∧ n < 65536
  · rw [if_pos hn, if_pos hn]
    obtain ⟨m, rfl⟩ : ∃ m : Nat, n = m := ⟨n.toNat, by omega⟩
    exact Ungray_in m m rfl (by omega)
  · rw [if_neg hn, if_neg hn]
    refine qfits_of_body (C := cfg) (c := c35) (ts := [2, 3]) tok mixed (fun _ => none) (fun _ => none)
      Try.func35 (by kernel_rfl) (by kernel_rfl) (by kernel_rfl) (by kernel_rfl) (by kernel_rfl) rfl rfl ?_
    conv => whnf
    refine ⟨_, [], isGray_q n, ?_⟩
    conv => whnf
    refine ⟨⟨rfl, True.intro⟩, True.intro, ?_⟩
    conv => whnf
    split
    · conv => whnf
      repeat' (first | exact True.intro | rfl | refine And.intro ?_ ?_)
    · rename_i h
      simp at h; omega

noncomputable def c34 : Code := (Try.f34.body).getD .skip
theorem refGray_q (n : Int) : QFits Try.prog 34 ⟨[.int .i64 n], [], .tup [.int .i64 (if 0 ≤ n ∧ n < 65536 then (n.toNat ^^^ (n.toNat / 2) : Nat) else 0), .int .i64 (if 0 ≤ n ∧ n < 65536 then 0 else 1)]⟩ := by
  refine qfits_of_body (C := cfg) (c := c34) (ts := [2, 3]) tok mixed (fun _ => none) (fun _ => none)
    Try.func34 (by kernel_rfl) (by kernel_rfl) (by kernel_rfl) (by kernel_rfl) (by kernel_rfl) rfl rfl ?_
  conv => whnf
  split
  · rename_i h
    have h : n < 0 := by simpa using h
    have hn : ¬ (0 ≤ n ∧ n < 65536) := by omega
    conv => whnf
    rw [if_neg hn, if_neg hn]
    repeat' (first | exact True.intro | rfl | refine And.intro ?_ ?_)
  · rename_i h
    have h : 0 ≤ n := by simp at h; omega
    conv => whnf
    split
    · rename_i h2
      have h2 : 65535 < n := by simpa using h2
      have hn : ¬ (0 ≤ n ∧ n < 65536) := by omega
      conv => whnf
      rw [if_neg hn, if_neg hn]
      repeat' (first | exact True.intro | rfl | refine And.intro ?_ ?_)
    · rename_i h2
      have h2 : n ≤ 65535 := by simp at h2; omega
      obtain ⟨m, rfl⟩ : ∃ m : Nat, n = m := ⟨n.toNat, by omega⟩
      have hn : (0 ≤ (m : Int) ∧ (m : Int) < 65536) := by omega
      conv => whnf
      refine ⟨_, [], gray_q m (by omega), ?_⟩
      conv => whnf
      refine ⟨⟨rfl, trivial⟩, trivial, ?_⟩
      conv => whnf
      rw [if_pos hn, if_pos hn, Int.toNat_natCast, ← gray_eq m (by omega)]
      repeat' (first | exact True.intro | rfl | refine And.intro ?_ ?_)

noncomputable def c25 : Code := (Try.f25.body).getD .skip
theorem Gray_q (n : Int) : QFits Try.prog 25 ⟨[.int .i64 n], [], .tup [.int .i64 (if 0 ≤ n ∧ n < 65536 then (n.toNat ^^^ (n.toNat / 2) : Nat) else 0), .int .i64 (if 0 ≤ n ∧ n < 65536 then 0 else 1)]⟩ := by
  refine qfits_of_body (C := cfg) (c := c25) (ts := [2, 3]) tok mixed (fun _ => none) (fun _ => none)
    Try.func25 (by kernel_rfl) (by kernel_rfl) (by kernel_rfl) (by kernel_rfl) (by kernel_rfl) rfl rfl ?_
  conv => whnf
  refine ⟨_, [], isGray_q n, ?_⟩
  conv => whnf
  refine ⟨⟨rfl, trivial⟩, trivial, ?_⟩
  conv => whnf
  split
  · rename_i h
    have hn : ¬ (0 ≤ n ∧ n < 65536) := by simp at h; omega
    conv => whnf
    rw [if_neg hn, if_neg hn]
    repeat' (first | exact True.intro | rfl | refine And.intro ?_ ?_)
  · rename_i h
    have hn : (0 ≤ n ∧ n < 65536) := by simpa using h
    obtain ⟨m, rfl⟩ : ∃ m : Nat, n = m := ⟨n.toNat, by omega⟩
    conv => whnf
    refine ⟨by omega, ?_⟩
    conv => whnf
    refine ⟨⟨by omega, Int.ediv_nonneg (by omega) (by decide), by rw [i64max]; omega, by rw [i64max]; have : (m : Int) / 2 ^ (min (1 : Int).toNat IntKind.i64.bits) ≤ m := Int.ediv_le_self _ (by omega); omega⟩, ?_⟩
    conv => whnf
    rw [if_pos hn, if_pos hn]
    refine ⟨?_, ?_, trivial⟩
    · conv => whnf
      rfl
    · conv => whnf

theorem gray_half {n : Nat} (h : n < 65536) (k : Nat) : n / 2 ^ k % 2 = (it n 4 / 2 ^ k + it n 4 / 2 ^ (k + 1)) % 2 := by
  have e := gray_ungray h
  unfold T at e
  rw [← xor2, ← Nat.shiftRight_eq_div_pow, ← Nat.shiftRight_eq_div_pow, ← Nat.shiftRight_eq_div_pow]
  rw [Nat.add_comm k 1, Nat.shiftRight_add, ← Nat.shiftRight_xor_distrib, e]

theorem half (u k : Nat) : u / 2 ^ (k + 1) = u / 2 ^ k / 2 := by rw [Nat.pow_succ, Nat.div_div_eq_div_mul]

/-- What Ungray has above bit k: the bit itself, and the number so far. -/
def A36 (u k : Nat) : Nat := u / 2 ^ k % 2
def X36 (u k : Nat) : Nat := u / 2 ^ k * 2 ^ k
def B36 (m k : Nat) : Nat := m / 2 ^ k
theorem A36_le (u k : Nat) : A36 u k ≤ 1 := by unfold A36; omega
theorem X36_le (u k : Nat) : X36 u k ≤ u := Nat.div_mul_le_self _ _
theorem B36_le (m k : Nat) : B36 m k ≤ m := Nat.div_le_self _ _
theorem A36_step {m : Nat} (hm : m < 65536) (j : Nat) : (A36 (it m 4) (j + 1) + B36 m j) % 2 = A36 (it m 4) j := by
  have := gray_half hm j
  unfold A36 B36; omega
theorem X36_step (u j : Nat) : X36 u (j + 1) + A36 u j * 2 ^ j = X36 u j := by
  unfold X36 A36
  rw [half, Nat.pow_succ, show u / 2 ^ j / 2 * (2 ^ j * 2) = (u / 2 ^ j / 2 * 2) * 2 ^ j by rw [Nat.mul_comm (2 ^ j) 2, Nat.mul_assoc], ← Nat.add_mul]
  congr 1; omega

noncomputable def c36 : Code := (Try.f36.body).getD .skip
def inv36 (n : Int) (u : Nat) : LInv := ⟨Nat, fun k => ⟨anyTo 31 [.int .i64 n, .any, .any, .any, .int .i64 (X36 u k), .int .i64 (A36 u k), .int .i64 ((k : Int) - 1)], []⟩, fun k => k ≤ 16, fun k => k⟩
theorem refUngray_in (n : Int) (m : Nat) (hn : n = m) (hm : m < 65536) : QFits Try.prog 36 ⟨[.int .i64 n], [], .tup [.int .i64 (it m 4), .int .i64 0]⟩ := by
  refine qfits_of_body (C := cfg) (c := c36) (ts := [2, 3]) tok mixed (fun | 6 => some (inv36 n (it m 4)) | _ => none) (fun _ => none)
    Try.func36 (by kernel_rfl) (by kernel_rfl) (by kernel_rfl) (by kernel_rfl) (by kernel_rfl) rfl rfl ?_
  have hu := it_lt hm 4
  conv => whnf
  split
  · rename_i h; simp at h; omega
  · conv => whnf
    split
    · rename_i h; simp at h; omega
    · conv => whnf
      refine ⟨⟨[], (16 : Nat), ?_, Nat.le_refl _⟩, ?_⟩
      · conv => whnf
        have h0 : it m 4 / 2 ^ 16 = 0 := Nat.div_eq_of_lt (by simpa using hu)
        have hX : X36 (it m 4) 16 = 0 := by unfold X36; rw [h0]
        have hA : A36 (it m 4) 16 = 0 := by unfold A36; rw [h0]
        repeat' (first | exact True.intro | refine And.intro ?_ ?_)
        · rfl
        · show ((X36 (it m 4) 16 : Nat) : Int) = 0
          rw [hX]; rfl
        · show ((A36 (it m 4) 16 : Nat) : Int) = 0
          rw [hA]; rfl
        · rfl
      · intro (k : Nat) (hk : k ≤ 16)
        conv => whnf
        split
        · rename_i hc
          obtain ⟨j, rfl⟩ : ∃ j, k = j + 1 := ⟨k - 1, by simp at hc; omega⟩
          have hp : (2 : Int) ^ j ≤ 2 ^ 15 := two_pow_le (by omega)
          have hp0 := two_pow_pos j
          have hd : n / 2 ^ j = ((B36 m j : Nat) : Int) := by rw [hn]; unfold B36; simp
          have hB := B36_le m j
          have hA := A36_le (it m 4) (j + 1)
          have hA' := A36_le (it m 4) j
          have hX := X36_le (it m 4) (j + 1)
          have hX' := X36_le (it m 4) j
          have hXs : (X36 (it m 4) (j + 1) : Int) + A36 (it m 4) j * 2 ^ j = X36 (it m 4) j := by exact_mod_cast X36_step (it m 4) j
          have hAs : ((A36 (it m 4) (j + 1) : Int) + B36 m j) % 2 = A36 (it m 4) j := by exact_mod_cast A36_step hm j
          have hAp : (A36 (it m 4) j : Int) * 2 ^ j ≤ 1 * 2 ^ j := Int.mul_le_mul_of_nonneg_right (by omega) (by omega)
          have hAp0 : (0 : Int) ≤ (A36 (it m 4) j : Int) * 2 ^ j := Int.mul_nonneg (by omega) (by omega)
          conv => whnf
          refine ⟨_, [], power_q j (by omega), ?_⟩
          conv => whnf
          refine ⟨⟨?_, True.intro⟩, True.intro, ?_⟩
          · show (j : Int) = ((j + 1 : Nat) : Int) - 1
            omega
          conv => whnf
          refine ⟨⟨by omega, by omega, by rw [i64max]; omega⟩, ?_⟩
          rw [hd]
          conv => whnf
          refine ⟨by omega, ?_⟩
          conv => whnf
          refine ⟨⟨by omega, by omega⟩, ?_⟩
          rw [hAs]
          conv => whnf
          refine ⟨_, [], power_q j (by omega), ?_⟩
          conv => whnf
          refine ⟨⟨?_, True.intro⟩, True.intro, ?_⟩
          · show (j : Int) = ((j + 1 : Nat) : Int) - 1
            omega
          conv => whnf
          refine ⟨by omega, ?_⟩
          conv => whnf
          refine ⟨by omega, ?_⟩
          conv => whnf
          refine ⟨by omega, ?_⟩
          conv => whnf
          refine ⟨[], j, ?_, ?_, ?_⟩
          · conv => whnf
            repeat' (first | exact True.intro | refine And.intro ?_ ?_)
            · rfl
            · exact hXs.symm
            · rfl
            · show (j : Int) - 1 = ((j + 1 : Nat) : Int) - 1 - 1
              omega
          · show j ≤ 16
            omega
          · show j < j + 1
            omega
        · rename_i hc
          have hk0 : k = 0 := by simp at hc; omega
          subst hk0
          conv => whnf
          repeat' (first | exact True.intro | refine And.intro ?_ ?_)
          · show ((it m 4 : Nat) : Int) = ((X36 (it m 4) 0 : Nat) : Int)
            unfold X36; simp
          · rfl

theorem refUngray_q (n : Int) : QFits Try.prog 36 ⟨[.int .i64 n], [], .tup [.int .i64 (if 0 ≤ n ∧ n < 65536 then (it n.toNat 4 : Nat) else 0), .int .i64 (if 0 ≤ n ∧ n < 65536 then 0 else 1)]⟩ := by
  by_cases hn : 0 ≤ n ∧ n < 65536
  · rw [if_pos hn, if_pos hn]
    exact refUngray_in n n.toNat (by omega) (by omega)
  · rw [if_neg hn, if_neg hn]
    refine qfits_of_body (C := cfg) (c := c36) (ts := [2, 3]) tok mixed (fun _ => none) (fun _ => none)
      Try.func36 (by kernel_rfl) (by kernel_rfl) (by kernel_rfl) (by kernel_rfl) (by kernel_rfl) rfl rfl ?_
    conv => whnf
    split
    · conv => whnf
      repeat' (first | exact True.intro | rfl | refine And.intro ?_ ?_)
    · rename_i h
      conv => whnf
      split
      · conv => whnf
        repeat' (first | exact True.intro | rfl | refine And.intro ?_ ?_)
      · rename_i h2
        simp at h h2; omega

noncomputable def c6 : Code := (Try.f6.body).getD .skip
set_option maxRecDepth 100000 in
theorem law_q (n : Int) : QFits Try.prog 6 ⟨[.int .i64 n], [], .bool true⟩ := by
  refine qfits_of_body (C := cfg) (c := c6) (ts := [2]) tok mixed (fun _ => none) (fun _ => none)
    Try.func6 (by kernel_rfl) (by kernel_rfl) (by kernel_rfl) (by kernel_rfl) (by kernel_rfl) rfl rfl ?_
  have h25 := Gray_q n
  have h34 := refGray_q n
  have h35 := Ungray_q n
  have h36 := refUngray_q n
  generalize he1 : (if 0 ≤ n ∧ n < 65536 then ((n.toNat ^^^ (n.toNat / 2) : Nat) : Int) else 0) = x1 at h25
  generalize he2 : (if 0 ≤ n ∧ n < 65536 then ((n.toNat ^^^ (n.toNat / 2) : Nat) : Int) else 0) = x2 at h34
  generalize he3 : (if 0 ≤ n ∧ n < 65536 then ((it n.toNat 4 : Nat) : Int) else 0) = x3 at h35
  generalize he4 : (if 0 ≤ n ∧ n < 65536 then ((it n.toNat 4 : Nat) : Int) else 0) = x4 at h36
  generalize hf1 : (if 0 ≤ n ∧ n < 65536 then (0 : Int) else 1) = y1 at h25
  generalize hf2 : (if 0 ≤ n ∧ n < 65536 then (0 : Int) else 1) = y2 at h34
  generalize hf3 : (if 0 ≤ n ∧ n < 65536 then (0 : Int) else 1) = y3 at h35
  generalize hf4 : (if 0 ≤ n ∧ n < 65536 then (0 : Int) else 1) = y4 at h36
  have k1 : x1 = x2 := he1.symm.trans he2
  have k2 : x3 = x4 := he3.symm.trans he4
  have k3 : y1 = y2 := hf1.symm.trans hf2
  have k4 : y3 = y4 := hf3.symm.trans hf4
  clear he1 he2 he3 he4 hf1 hf2 hf3 hf4
  conv => whnf
  refine ⟨_, [], h25, ?_⟩
  conv => whnf
  refine ⟨⟨rfl, True.intro⟩, True.intro, ?_⟩
  conv => whnf
  refine ⟨_, [], h34, ?_⟩
  conv => whnf
  refine ⟨⟨rfl, True.intro⟩, True.intro, ?_⟩
  conv => whnf
  refine ⟨_, [], h35, ?_⟩
  conv => whnf
  refine ⟨⟨rfl, True.intro⟩, True.intro, ?_⟩
  conv => whnf
  refine ⟨_, [], h36, ?_⟩
  conv => whnf
  refine ⟨⟨rfl, True.intro⟩, True.intro, ?_⟩
  conv => whnf
  split
  · conv => whnf
    split
    · conv => whnf
      split
      · conv => whnf
        simpa using k4
      · rename_i h; simp [k2] at h
    · rename_i h; simp [k3] at h
  · rename_i h; simp [k1] at h
end Go.Proofs.Ytagndcamfjikhaa
namespace Go.Proofs.Ytagndcamfjikhaa
open Go Go.Fw
namespace bitsGray
open Go.ChangeShapes Go.WideShapes Go.ChangeAt Go.RowKit
theorem own : ownKnob Try.prog.godebug = none := by kernel_rfl
theorem laid : laidOutB Try.prog = true := by kernel_rfl

theorem walk (a0 : Int) (w : World) : Calls Try.prog 6 #[.int .i64 a0] w fun e w' => e = .returned (.bool true) ∧ Below w.heap.size w w' :=
  (law_q a0).calls (v := .bool true) rfl w [] [.int .i64 a0] (heapOk_nil w _) (by simp [Dens, Den])

set_option maxRecDepth 100000 in
theorem lifted (os : Os) (started : os.Started) (H : Type) (enc : TypeId × Value → H) :
    ReturnsInHanded {} Try.checked os 6 .any (Rows.bitsGraySpec.pre6 enc Try.prog Try.f6 Rows.bitsGrayRow.domain false) (Rows.bitsGraySpec.post enc Try.prog Try.f6 false true false false) := by
  refine returnsInHanded_of_change (C := Try.checked) own started (by kernel_rfl) Try.func6
    (ChangeSpec.witness6 (enc := enc) (C := Try.checked) false ⟨#[], #[.int .i64 0], []⟩ 8 (by kernel_rfl) (by kernel_rfl) (by kernel_rfl) (by kernel_rfl)) ?_
  intro W base args ds gs before hval0 hW hcnd _
  have hval : ∀ (j : Nat) t v, Try.f6.params[j]? = some t → args[j]? = some v → Value.okWide Try.prog W .any base t v := hval0
  have hW' := hW
  obtain ⟨p, q, hA0, hV, rfl, hfz, hnd⟩ := hW
  have hA : DataW.TrodAll enc Try.prog W 0 (fun _ => true) true Try.f6.params.toList args.toList ds p := hA0
  rw [Try.params6] at hA hval
  obtain ⟨v0, vs0, d0, ds0, p0, q0, hargs, rfl, rfl, h0, r0⟩ := trodAll_cons hA
  obtain ⟨rfl, rfl, rfl⟩ := trodAll_nil r0
  obtain rfl : args = #[v0] := by cases args; simp_all
  obtain ⟨rfl, rfl⟩ := trodVars_none hV
  obtain ⟨a0, rfl, rfl, rfl, w0⟩ := open_int Try.underlying3 (hval 0 3 v0 rfl rfl) h0
  clear hA0 hval0
  refine (walk a0 W).mono fun e W' ⟨he, hg⟩ => ?_
  subst he
  exact ⟨_, rfl, law_done laid rfl rfl Try.underlying4 (by kernel_rfl) hW' rfl hg⟩

theorem over : Rows.bitsGrayRow.holds Try.pinned (OpenSpec.ofChange Rows.bitsGraySpec) :=
  OpenClaim.holds_of_wide 6 Try.f6 rfl rfl rfl rfl rfl rfl rfl ⟨rfl, rfl, rfl, rfl, rfl⟩ rfl rfl rfl rfl rfl (by kernel_rfl) Try.func6 (by kernel_rfl)
    (of_decide_eq_true (by kernel_rfl)) (by unfold Func.isWrapper; first | (rw [if_pos (by decide +kernel)]; kernel_rfl) | (rw [if_neg (by decide +kernel)]; exact ⟨rfl, rfl⟩))
    (fun os started H enc _ => lifted os started H enc)

theorem over2 : Rows.BitsGraySaid := over
end bitsGray
theorem bitsGray_holds : Rows.BitsGraySaid := bitsGray.over2
end Go.Proofs.Ytagndcamfjikhaa
