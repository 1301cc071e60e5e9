/-
  foghornlaw22.HardThinned returns true for all rows of bools, and leaves the rows that came in as they were. No condition.
-/
import Derived.Test.YtflbhbiflcaocaaRows
import Derived.Test.YtflbhbiflcaocaaTwHardThinned
import Derived.Test.YtflbhbiflcaocaaFw
import Derived.Test.YtflbhbiflcaocaaFa
import Derived.WalkKit
import Derived.ProofKit
import Derived.OpenShut
import Derived.SizedLaws
set_option linter.unusedSimpArgs false
set_option linter.unusedVariables false
set_option linter.unusedVariables false
set_option linter.unusedSimpArgs false
namespace Go.Proofs.Ytflbhbiflcaocaa
open Go Go.Fw
def wtys : List (Nat × TyI) := [
  (2, ⟨.int .i64, 1, 8, .int .i64 0⟩),
  (3, ⟨.int .i64, 1, 8, .int .i64 0⟩),
  (4, ⟨.bool, 1, 1, .bool false⟩),
  (5, ⟨.int .u8, 1, 1, .int .u8 0⟩),
  (22, ⟨.slice 4, 1, 24, .slice none 0 0⟩),
  (23, ⟨.int .i64, 1, 8, .int .i64 0⟩),
  (26, ⟨.slice 38, 1, 24, .slice none 0 0⟩),
  (29, ⟨.slice 5, 1, 24, .slice none 0 0⟩),
  (38, ⟨.int .u8, 1, 1, .int .u8 0⟩)]
theorem wtok : TOk Try.prog wtys := by
  intro p hp
  simp only [wtys, List.mem_cons, List.not_mem_nil, or_false] at hp
  rcases hp with rfl | rfl | rfl | rfl | rfl | rfl | rfl | rfl | rfl
  all_goals exact ⟨by kernel_rfl, by kernel_rfl⟩
theorem wmixed : Try.prog.follows .mixedOrders = true := by kernel_rfl
def qf : Nat → Bool := fun f => match f with | 9 => true | 10 => true | 14 => true | 15 => true | 16 => true | 20 => true | 26 => true | _ => false
def cfgk (k : Nat) : Cfg := { T := wtys, sgn := fun _ => false, wr := fun _ => false, k := k, q := qf }
theorem i64max : IntKind.i64.max = 9223372036854775807 := rfl
theorem take_next {α : Type} (l : List α) (k : Nat) (d : α) (h : k < l.length) : l.take (k + 1) = l.take k ++ [l.getD k d] := by
  rw [List.take_succ_eq_append_getElem h]; simp [List.getD, h]
/-- Where the first one is. -/
def fst1 (B : List Bool) : Nat → Nat → Int
  | 0, _ => -1
  | f + 1, i => if B.getD i false then (i : Int) else fst1 B f (i + 1)
def any1 (B : List Bool) : Nat → Bool
  | 0 => false
  | k + 1 => any1 B k || B.getD k false
theorem fst1_any (B : List Bool) : ∀ f i, (0 ≤ fst1 B f i ↔ ∃ j, i ≤ j ∧ j < i + f ∧ B.getD j false = true)
  | 0, i => by simp [fst1]; intro x h1 h2; omega
  | f + 1, i => by
    simp only [fst1]
    cases h : B.getD i false with
    | true => simp only [if_true]; exact ⟨fun _ => ⟨i, by omega, by omega, h⟩, fun _ => by omega⟩
    | false =>
      simp only [Bool.false_eq_true, if_false]
      rw [fst1_any B f (i + 1)]
      constructor
      · rintro ⟨j, h1, h2, h3⟩; exact ⟨j, by omega, by omega, h3⟩
      · rintro ⟨j, h1, h2, h3⟩
        rcases Nat.lt_or_ge i j with h4 | h4
        · exact ⟨j, by omega, by omega, h3⟩
        · have : j = i := by omega
          subst this; rw [h] at h3; cases h3
theorem any1_iff (B : List Bool) : ∀ k, any1 B k = true ↔ ∃ j, j < k ∧ B.getD j false = true
  | 0 => by simp [any1]
  | k + 1 => by
    simp only [any1, Bool.or_eq_true, any1_iff B k]
    constructor
    · rintro (⟨j, h1, h2⟩ | h)
      · exact ⟨j, by omega, h2⟩
      · exact ⟨k, by omega, h⟩
    · rintro ⟨j, h1, h2⟩
      rcases Nat.lt_or_ge j k with h3 | h3
      · exact .inl ⟨j, h3, h2⟩
      · have : j = k := by omega
        subst this; exact .inr h2
theorem fst1_any1 (B : List Bool) (n : Nat) : decide (0 ≤ fst1 B n 0) = any1 B n := by
  apply Bool.eq_iff_iff.mpr
  rw [decide_eq_true_eq, fst1_any, any1_iff]
  constructor
  · rintro ⟨j, h1, h2, h3⟩; exact ⟨j, by omega, h3⟩
  · rintro ⟨j, h1, h2⟩; exact ⟨j, by omega, by omega, h2⟩
def patB (n : Nat) (B : List Bool) : Bool := decide (n ≤ 64) && any1 B n
noncomputable def c26 : Code := (Try.f26.body).getD .skip
def inv26 (B : List Bool) (n ca : Nat) : LInv := ⟨Nat, fun k => ⟨anyTo 19 [.slice 0 0 n ca, .bool true, .any, .any, .any, .any, .slice 0 0 n ca, .int .i64 n, .int .i64 k], [.seg false (.bools B)]⟩, fun k => k ≤ n ∧ fst1 B n 0 = fst1 B (n - k) k, fun k => n - k⟩
theorem Index_q (B : List Bool) (n ca : Nat) (hn : n ≤ B.length) (hN : n ≤ 4611686018427387904) : QFits Try.prog 26 ⟨[.slice 0 0 n ca, .bool true], [.seg false (.bools B)], .int .i64 (fst1 B n 0)⟩ := by
  refine qfits_of_body (C := cfgk 1) (c := c26) (ts := [4]) wtok wmixed (fun | 2 => some (inv26 B n ca) | _ => none) (fun _ => none)
    Try.func26 (by kernel_rfl) (by kernel_rfl) (by kernel_rfl) (by kernel_rfl) (by kernel_rfl) rfl rfl ?_
  conv => whnf
  refine ⟨⟨[0], (0 : Nat), ?_, Nat.zero_le _, by simp⟩, ?_⟩
  · conv => whnf
    repeat' (first | exact True.intro | rfl | refine And.intro ?_ ?_)
  · intro (k : Nat) hk
    obtain ⟨hk, hf⟩ := hk
    conv => whnf
    refine tst_in (fun hlt => ?_) (fun hge => ?_)
    · skip
      have hlt : k < n := by simp at hlt; omega
      obtain ⟨r, hr⟩ : ∃ r, n - k = r + 1 := ⟨n - k - 1, by omega⟩
      rw [hr] at hf
      simp only [fst1] at hf
      conv => whnf
      refine ⟨by repeat' (first | omega | (simp only [i64max]; omega) | refine And.intro ?_ ?_), ?_⟩
      conv => whnf
      refine ⟨by repeat' (first | omega | (simp only [i64max]; omega) | refine And.intro ?_ ?_), ?_⟩
      conv => whnf
      refine tst_in (fun hb => ?_) (fun hb => ?_)
      · skip
        have hb : B.getD k false = true := by simpa using hb
        rw [hb] at hf
        conv => whnf
        repeat' (first | exact True.intro | rfl | refine And.intro ?_ ?_)
        show fst1 B n 0 = (k : Int)
        simpa using hf
      · skip
        have hb : B.getD k false = false := by simpa using hb
        rw [hb] at hf
        conv => whnf
        refine ⟨by repeat' (first | omega | (simp only [i64max]; omega) | refine And.intro ?_ ?_), ?_⟩
        conv => whnf
        refine ⟨[0], k + 1, ?_, ⟨?_, ?_⟩, ?_⟩
        · conv => whnf
          repeat' (first | exact True.intro | rfl | refine And.intro ?_ ?_)
        · show k + 1 ≤ n
          omega
        · show fst1 B n 0 = fst1 B (n - (k + 1)) (k + 1)
          rw [show n - (k + 1) = r by omega]
          simpa using hf
        · show n - (k + 1) < n - k
          omega
    · skip
      have hge : n ≤ k := by simp at hge; omega
      have e : n - k = 0 := by omega
      rw [e] at hf
      conv => whnf
      repeat' (first | exact True.intro | rfl | refine And.intro ?_ ?_)
      exact hf
noncomputable def c20 : Code := (Try.f20.body).getD .skip
theorem Contains_q (B : List Bool) (n ca : Nat) (hn : n ≤ B.length) (hN : n ≤ 4611686018427387904) : QFits Try.prog 20 ⟨[.slice 0 0 n ca, .bool true], [.seg false (.bools B)], .bool (any1 B n)⟩ := by
  refine qfits_of_body (C := cfgk 1) (c := c20) (ts := [4]) wtok wmixed (fun _ => none) (fun _ => none)
    Try.func20 (by kernel_rfl) (by kernel_rfl) (by kernel_rfl) (by kernel_rfl) (by kernel_rfl) rfl rfl ?_
  conv => whnf
  refine ⟨_, [0], Index_q B n ca hn hN, ?_⟩
  conv => whnf
  refine ⟨?_, ?_, ?_⟩
  · conv => whnf
    repeat' (first | exact True.intro | rfl | refine And.intro ?_ ?_)
  · conv => whnf
    repeat' (first | exact True.intro | rfl | refine And.intro ?_ ?_)
  conv => whnf
  repeat' (first | exact True.intro | rfl | refine And.intro ?_ ?_)
  exact (fst1_any1 B n).symm.trans (decide_eq_decide.mpr Iff.rfl)
noncomputable def c14 : Code := (Try.f14.body).getD .skip
theorem isPattern_q (B : List Bool) (n ca : Nat) (hn : n ≤ B.length) (hN : n ≤ 4611686018427387904) : QFits Try.prog 14 ⟨[.slice 0 0 n ca], [.seg false (.bools B)], .bool (patB n B)⟩ := by
  refine qfits_of_body (C := cfgk 1) (c := c14) (ts := [2]) wtok wmixed (fun _ => none) (fun _ => none)
    Try.func14 (by kernel_rfl) (by kernel_rfl) (by kernel_rfl) (by kernel_rfl) (by kernel_rfl) rfl rfl ?_
  conv => whnf
  refine tst_in (fun h => ?_) (fun h => ?_)
  · skip
    have h : n ≤ 64 := by simp at h; omega
    conv => whnf
    refine ⟨_, [0], Contains_q B n ca hn hN, ?_⟩
    conv => whnf
    refine ⟨?_, ?_, ?_⟩
    · conv => whnf
      repeat' (first | exact True.intro | rfl | refine And.intro ?_ ?_)
    · conv => whnf
      repeat' (first | exact True.intro | rfl | refine And.intro ?_ ?_)
    conv => whnf
    repeat' (first | exact True.intro | rfl | refine And.intro ?_ ?_)
    all_goals (show patB n B = any1 B n; simp [patB, h])
  · skip
    have h : ¬ n ≤ 64 := by simp at h; omega
    conv => whnf
    repeat' (first | exact True.intro | rfl | refine And.intro ?_ ?_)
    all_goals (show patB n B = false; simp [patB, h])
noncomputable def c16 : Code := (Try.f16.body).getD .skip
def mk (b : Bool) : Int := if b then 1 else 0
theorem mark_q (b : Bool) : QFits Try.prog 16 ⟨[.bool b], [], .int .u8 (mk b)⟩ := by
  refine qfits_of_body (C := cfgk 0) (c := c16) (ts := [2]) wtok wmixed (fun _ => none) (fun _ => none)
    Try.func16 (by kernel_rfl) (by kernel_rfl) (by kernel_rfl) (by kernel_rfl) (by kernel_rfl) rfl rfl ?_
  cases b <;> (conv => whnf) <;> repeat' (first | exact True.intro | rfl | refine And.intro ?_ ?_)
end Go.Proofs.Ytflbhbiflcaocaa

set_option linter.unusedVariables false
set_option linter.unusedSimpArgs false
namespace Go.Proofs.Ytflbhbiflcaocaa
open Go Go.Fw
noncomputable def c15 : Code := (Try.f15.body).getD .skip
def inv15 (B : List Bool) (n ca : Nat) : LInv := ⟨Nat, fun k => ⟨anyTo 24 [.slice 0 0 n ca, .any, .any, .bool (any1 B k), .int .i64 k], [.seg false (.bools B)]⟩, fun k => k ≤ n, fun k => n - k⟩
theorem pattern_q (B : List Bool) (n ca : Nat) (hn : n ≤ B.length) (hN : n ≤ 4611686018427387904) : QFits Try.prog 15 ⟨[.slice 0 0 n ca], [.seg false (.bools B)], .bool (patB n B)⟩ := by
  refine qfits_of_body (C := cfgk 1) (c := c15) (ts := [2]) wtok wmixed (fun | 3 => some (inv15 B n ca) | _ => none) (fun _ => none)
    Try.func15 (by kernel_rfl) (by kernel_rfl) (by kernel_rfl) (by kernel_rfl) (by kernel_rfl) rfl rfl ?_
  conv => whnf
  refine ⟨⟨[0], (0 : Nat), ?_, Nat.zero_le _⟩, ?_⟩
  · conv => whnf
    repeat' (first | exact True.intro | rfl | refine And.intro ?_ ?_)
  · intro (k : Nat) (hk : k ≤ n)
    cases ha : any1 B k with
    | true =>
      show forceSt ⟨anyTo 24 [.slice 0 0 n ca, .any, .any, .bool (any1 B k), .int .i64 k], [.seg false (.bools B)]⟩ _
      rw [ha]
      conv => whnf
      refine tst_in (fun hlt => ?_) (fun hge => ?_)
      · skip
        have hlt : k < n := by simp at hlt; omega
        conv => whnf
        refine ⟨by repeat' (first | omega | (simp only [i64max]; omega) | refine And.intro ?_ ?_), ?_⟩
        conv => whnf
        refine ⟨[0], k + 1, ?_, ?_, ?_⟩
        · conv => whnf
          repeat' (first | exact True.intro | rfl | refine And.intro ?_ ?_)
          all_goals (show any1 B (k + 1) = true; simp [any1, ha])
        · show k + 1 ≤ n
          omega
        · show n - (k + 1) < n - k
          omega
      · skip
        have hge : k = n := by simp at hge; omega
        subst hge
        conv => whnf
        repeat' (first | exact True.intro | rfl | refine And.intro ?_ ?_)
        all_goals (show patB k B = _; unfold patB; rw [ha, Bool.and_true]; exact decide_eq_decide.mpr (by omega))
    | false =>
      show forceSt ⟨anyTo 24 [.slice 0 0 n ca, .any, .any, .bool (any1 B k), .int .i64 k], [.seg false (.bools B)]⟩ _
      rw [ha]
      conv => whnf
      refine tst_in (fun hlt => ?_) (fun hge => ?_)
      · skip
        have hlt : k < n := by simp at hlt; omega
        conv => whnf
        refine ⟨by repeat' (first | omega | (simp only [i64max]; omega) | refine And.intro ?_ ?_), ?_⟩
        conv => whnf
        refine ⟨by repeat' (first | omega | (simp only [i64max]; omega) | refine And.intro ?_ ?_), ?_⟩
        conv => whnf
        refine ⟨by repeat' (first | omega | (simp only [i64max]; omega) | refine And.intro ?_ ?_), ?_⟩
        conv => whnf
        refine ⟨[0], k + 1, ?_, ?_, ?_⟩
        · conv => whnf
          repeat' (first | exact True.intro | rfl | refine And.intro ?_ ?_)
          all_goals (show any1 B (k + 1) = _; simp only [any1, ha, Bool.false_or]; rw [Nat.zero_add]; rfl)
        · show k + 1 ≤ n
          omega
        · show n - (k + 1) < n - k
          omega
      · skip
        have hge : k = n := by simp at hge; omega
        subst hge
        conv => whnf
        repeat' (first | exact True.intro | rfl | refine And.intro ?_ ?_)
        all_goals (show patB k B = _; simp [patB, ha])
noncomputable def c9 : Code := (Try.f9.body).getD .skip
def inv9 (A B : List Bool) (n ca cb : Nat) : LInv := ⟨Nat, fun k => ⟨anyTo 26 [.slice 0 0 n ca, .slice 1 0 n cb, .any, .any, .any, .int .i64 k], [.seg false (.bools A), .seg false (.bools B)]⟩, fun k => k ≤ n, fun k => n - k⟩
theorem same_q (A B : List Bool) (n ca cb : Nat) (hA : n ≤ A.length) (hB : n ≤ B.length) (hs : ∀ i, i < n → A.getD i false = B.getD i false) (hN : n ≤ 4611686018427387904) :
    QFits Try.prog 9 ⟨[.slice 0 0 n ca, .slice 1 0 n cb], [.seg false (.bools A), .seg false (.bools B)], .bool true⟩ := by
  refine qfits_of_body (C := cfgk 2) (c := c9) (ts := [4]) wtok wmixed (fun | 4 => some (inv9 A B n ca cb) | _ => none) (fun _ => none)
    Try.func9 (by kernel_rfl) (by kernel_rfl) (by kernel_rfl) (by kernel_rfl) (by kernel_rfl) rfl rfl ?_
  conv => whnf
  refine tst_in (fun h_ => False.elim (by simp at h_ <;> omega)) (fun _ => ?_)
  conv => whnf
  refine ⟨⟨[0, 1], (0 : Nat), ?_, Nat.zero_le _⟩, ?_⟩
  · conv => whnf
    repeat' (first | exact True.intro | rfl | refine And.intro ?_ ?_)
  · intro (k : Nat) (hk : k ≤ n)
    conv => whnf
    refine tst_in (fun hlt => ?_) (fun hge => ?_)
    · skip
      have hlt : k < n := by simp at hlt; omega
      have hs := hs k hlt
      conv => whnf
      refine ⟨by repeat' (first | omega | (simp only [i64max]; omega) | refine And.intro ?_ ?_), ?_⟩
      conv => whnf
      refine ⟨by repeat' (first | omega | (simp only [i64max]; omega) | refine And.intro ?_ ?_), ?_⟩
      conv => whnf
      refine ⟨by repeat' (first | omega | (simp only [i64max]; omega) | refine And.intro ?_ ?_), ?_⟩
      conv => whnf
      refine ⟨by repeat' (first | omega | (simp only [i64max]; omega) | refine And.intro ?_ ?_), ?_⟩
      conv => whnf
      refine tst_in (fun hne => ?_) (fun he => ?_)
      · simp at hne
        exact absurd hs hne
      · skip
        conv => whnf
        refine ⟨by repeat' (first | omega | (simp only [i64max]; omega) | refine And.intro ?_ ?_), ?_⟩
        conv => whnf
        refine ⟨[0, 1], k + 1, ?_, ?_, ?_⟩
        · conv => whnf
          repeat' (first | exact True.intro | rfl | refine And.intro ?_ ?_)
        · show k + 1 ≤ n
          omega
        · show n - (k + 1) < n - k
          omega
    · conv => whnf
      repeat' (first | exact True.intro | rfl | refine And.intro ?_ ?_)
theorem same_nil : QFits Try.prog 9 ⟨[.nils, .nils], [], .bool true⟩ := by
  refine qfits_of_body (C := cfgk 0) (c := c9) (ts := [4]) wtok wmixed (fun | 4 => some ⟨Unit, fun _ => ⟨anyTo 26 [.nils, .nils, .any, .any, .any, .int .i64 0], []⟩, fun _ => True, fun _ => 0⟩ | _ => none) (fun _ => none)
    Try.func9 (by kernel_rfl) (by kernel_rfl) (by kernel_rfl) (by kernel_rfl) (by kernel_rfl) rfl rfl ?_
  conv => whnf
  refine ⟨⟨[], (), ?_, True.intro⟩, ?_⟩
  · conv => whnf
    repeat' (first | exact True.intro | rfl | refine And.intro ?_ ?_)
  · intro _ _
    conv => whnf
    repeat' (first | exact True.intro | rfl | refine And.intro ?_ ?_)
noncomputable def c10 : Code := (Try.f10.body).getD .skip
def inv10 (A B : List Int) (n ca cb : Nat) : LInv := ⟨Nat, fun k => ⟨anyTo 26 [.slice 0 0 n ca, .slice 1 0 n cb, .any, .any, .any, .int .i64 k], [.seg false (.ints .u8 A), .seg false (.ints .u8 B)]⟩, fun k => k ≤ n, fun k => n - k⟩
theorem marks_q (A B : List Int) (n ca cb : Nat) (hA : n ≤ A.length) (hB : n ≤ B.length) (hs : ∀ i, i < n → A.getD i 0 = B.getD i 0) (hN : n ≤ 4611686018427387904) :
    QFits Try.prog 10 ⟨[.slice 0 0 n ca, .slice 1 0 n cb], [.seg false (.ints .u8 A), .seg false (.ints .u8 B)], .bool true⟩ := by
  refine qfits_of_body (C := cfgk 2) (c := c10) (ts := [4]) wtok wmixed (fun | 4 => some (inv10 A B n ca cb) | _ => none) (fun _ => none)
    Try.func10 (by kernel_rfl) (by kernel_rfl) (by kernel_rfl) (by kernel_rfl) (by kernel_rfl) rfl rfl ?_
  conv => whnf
  refine tst_in (fun h_ => False.elim (by simp at h_ <;> omega)) (fun _ => ?_)
  conv => whnf
  refine ⟨⟨[0, 1], (0 : Nat), ?_, Nat.zero_le _⟩, ?_⟩
  · conv => whnf
    repeat' (first | exact True.intro | rfl | refine And.intro ?_ ?_)
  · intro (k : Nat) (hk : k ≤ n)
    conv => whnf
    refine tst_in (fun hlt => ?_) (fun hge => ?_)
    · skip
      have hlt : k < n := by simp at hlt; omega
      have hs := hs k hlt
      conv => whnf
      refine ⟨by repeat' (first | omega | (simp only [i64max]; omega) | refine And.intro ?_ ?_), ?_⟩
      conv => whnf
      refine ⟨by repeat' (first | omega | (simp only [i64max]; omega) | refine And.intro ?_ ?_), ?_⟩
      conv => whnf
      refine ⟨by repeat' (first | omega | (simp only [i64max]; omega) | refine And.intro ?_ ?_), ?_⟩
      conv => whnf
      refine ⟨by repeat' (first | omega | (simp only [i64max]; omega) | refine And.intro ?_ ?_), ?_⟩
      conv => whnf
      refine tst_in (fun hne => ?_) (fun he => ?_)
      · simp at hne
        exact absurd hs hne
      · skip
        conv => whnf
        refine ⟨by repeat' (first | omega | (simp only [i64max]; omega) | refine And.intro ?_ ?_), ?_⟩
        conv => whnf
        refine ⟨[0, 1], k + 1, ?_, ?_, ?_⟩
        · conv => whnf
          repeat' (first | exact True.intro | rfl | refine And.intro ?_ ?_)
        · show k + 1 ≤ n
          omega
        · show n - (k + 1) < n - k
          omega
    · conv => whnf
      repeat' (first | exact True.intro | rfl | refine And.intro ?_ ?_)
theorem marks_nil : QFits Try.prog 10 ⟨[.nils, .nils], [], .bool true⟩ := by
  refine qfits_of_body (C := cfgk 0) (c := c10) (ts := [4]) wtok wmixed (fun | 4 => some ⟨Unit, fun _ => ⟨anyTo 26 [.nils, .nils, .any, .any, .any, .int .i64 0], []⟩, fun _ => True, fun _ => 0⟩ | _ => none) (fun _ => none)
    Try.func10 (by kernel_rfl) (by kernel_rfl) (by kernel_rfl) (by kernel_rfl) (by kernel_rfl) rfl rfl ?_
  conv => whnf
  refine ⟨⟨[], (), ?_, True.intro⟩, ?_⟩
  · conv => whnf
    repeat' (first | exact True.intro | rfl | refine And.intro ?_ ?_)
  · intro _ _
    conv => whnf
    repeat' (first | exact True.intro | rfl | refine And.intro ?_ ?_)
/-- A row that is made and one that is nil, both empty. -/
theorem marks_0n (A : List Int) (ca : Nat) : QFits Try.prog 10 ⟨[.slice 0 0 0 ca, .nils], [.seg false (.ints .u8 A)], .bool true⟩ := by
  refine qfits_of_body (C := cfgk 1) (c := c10) (ts := [4]) wtok wmixed (fun | 4 => some ⟨Unit, fun _ => ⟨anyTo 26 [.slice 0 0 0 ca, .nils, .any, .any, .any, .int .i64 0], [.seg false (.ints .u8 A)]⟩, fun _ => True, fun _ => 0⟩ | _ => none) (fun _ => none)
    Try.func10 (by kernel_rfl) (by kernel_rfl) (by kernel_rfl) (by kernel_rfl) (by kernel_rfl) rfl rfl ?_
  conv => whnf
  refine ⟨⟨[0], (), ?_, True.intro⟩, ?_⟩
  · conv => whnf
    repeat' (first | exact True.intro | rfl | refine And.intro ?_ ?_)
  · intro _ _
    conv => whnf
    repeat' (first | exact True.intro | rfl | refine And.intro ?_ ?_)
end Go.Proofs.Ytflbhbiflcaocaa

set_option linter.unusedVariables false
set_option linter.unusedSimpArgs false
namespace Go.Proofs.Ytflbhbiflcaocaa
open Go Go.Fw
def kb (B : List Bool) (m i : Nat) : Bool := B.getD (i % m) false
def thinP (A B : List Bool) (m : Nat) : Nat → List Bool
  | 0 => []
  | i + 1 => if kb B m i then thinP A B m i ++ [A.getD i false] else thinP A B m i
theorem thinP_le (A B : List Bool) (m : Nat) : ∀ k, (thinP A B m k).length ≤ k
  | 0 => by simp [thinP]
  | k + 1 => by
    have := thinP_le A B m k
    simp only [thinP]
    split <;> simp <;> omega
theorem rem_nat (k m : Nat) : ((k : Int) % (m : Int)).toNat = k % m := by rw [← Int.natCast_emod, Int.toNat_natCast]
/-- One slice made anew, which holds xs: how much room is behind it is open. -/
def rowOut (k : Nat) (pre : List Seg) (xs : List Bool) (f : AV → AV) : FOut := ⟨List Bool, fun _ => True, fun tl => f (.slice k 0 xs.length (xs.length + tl.length)), fun tl => pre ++ [.seg true (.bools (xs ++ tl))]⟩
def nilOut (pre : List Seg) (r : AV) : FOut := ⟨Unit, fun _ => True, fun _ => r, fun _ => pre⟩
noncomputable def c6 : Code := (Try.f6.body).getD .skip
def st6 (A B : List Bool) (n m ca cb : Nat) : Nat ⊕ (Nat × List Bool) → St
  | .inl k => ⟨anyTo 37 [.slice 0 0 n ca, .slice 1 0 m cb, .any, .any, .any, .any, .nils, .int .i64 k], [.seg false (.bools A), .seg false (.bools B)]⟩
  | .inr (k, tl) => ⟨anyTo 37 [.slice 0 0 n ca, .slice 1 0 m cb, .any, .any, .any, .any, .slice 2 0 (thinP A B m k).length ((thinP A B m k).length + tl.length), .int .i64 k], [.seg false (.bools A), .seg false (.bools B), .seg true (.bools (thinP A B m k ++ tl))]⟩
def pr6 (A B : List Bool) (n m : Nat) : Nat ⊕ (Nat × List Bool) → Prop
  | .inl k => k ≤ n ∧ thinP A B m k = []
  | .inr (k, _) => k ≤ n ∧ thinP A B m k ≠ []
def mu6 (n : Nat) : Nat ⊕ (Nat × List Bool) → Nat
  | .inl k => n - k
  | .inr (k, _) => n - k
def inv6 (A B : List Bool) (n m ca cb : Nat) : LInv := ⟨Nat ⊕ (Nat × List Bool), st6 A B n m ca cb, pr6 A B n m, mu6 n⟩
set_option maxRecDepth 100000 in
theorem Thin_n6 (A B : List Bool) (n m ca cb : Nat) (hn : n ≤ A.length) (hm : m ≤ B.length) (hN : n ≤ 32768) (hp : patB m B = true) (hm1 : 0 < m) (hm2 : m ≤ 64) (hE : thinP A B m n = []) :
    Fits Try.prog 6 ⟨[.slice 0 0 n ca, .slice 1 0 m cb], [.seg false (.bools A), .seg false (.bools B)], [nilOut [.dead, .dead] (.tup [.nils, .int .i64 0])]⟩ := by
  refine fits_of_body (C := cfgk 2) (c := c6) (ts := [4, 5]) wtok wmixed (fun | 5 => some (inv6 A B n m ca cb) | _ => none) (fun _ => none)
    Try.func6 (by kernel_rfl) (by kernel_rfl) (by kernel_rfl) (by kernel_rfl) rfl ?_
  conv => whnf
  refine tst_in (fun h_ => False.elim (by simp at h_ <;> omega)) (fun _ => ?_)
  conv => whnf
  refine ⟨_, [1], pattern_q B m cb hm (by omega), ?_⟩
  conv => whnf
  refine ⟨?_, ?_, ?_⟩
  · conv => whnf
    repeat' (first | exact True.intro | rfl | refine And.intro ?_ ?_)
  · conv => whnf
    repeat' (first | exact True.intro | rfl | refine And.intro ?_ ?_)
  conv => whnf
  refine tst_in (fun h_ => False.elim (by simp [hp] at h_ <;> omega)) (fun _ => ?_)
  conv => whnf
  refine ⟨⟨[0, 1], (Sum.inl 0 : Nat ⊕ (Nat × List Bool)), ?_, Nat.zero_le _, rfl⟩, ?_⟩
  · conv => whnf
    repeat' (first | exact True.intro | rfl | refine And.intro ?_ ?_)
  · rintro (k | ⟨k, tl⟩) hpr
    · obtain ⟨hk, hT⟩ : k ≤ n ∧ thinP A B m k = [] := hpr
      conv => whnf
      refine tst_in (fun hlt => ?_) (fun hge => ?_)
      · skip
        have hlt : k < n := by simp at hlt; omega
        have hr := rem_nat k m
        have hm0 := Nat.mod_lt k hm1
        have hq0 : 0 ≤ (k : Int) % (m : Int) := Int.emod_nonneg _ (by omega)
        have hq1 : (k : Int) % (m : Int) < m := Int.emod_lt_of_pos _ (by omega)
        conv => whnf
        refine ⟨by repeat' (first | omega | (simp only [i64max]; omega) | refine And.intro ?_ ?_), ?_⟩
        conv => whnf
        refine ⟨by repeat' (first | omega | (simp only [i64max]; omega) | refine And.intro ?_ ?_), ?_⟩
        conv => whnf
        refine ⟨by repeat' (first | omega | (simp only [i64max]; omega) | refine And.intro ?_ ?_), ?_⟩
        conv => whnf
        refine tst_in (fun hb => ?_) (fun hb => ?_)
        · have hb : kb B m k = true := by unfold kb; rw [← hr]; simpa using hb
          have hT2 : thinP A B m (k + 1) = [A.getD k false] := by simp [thinP, hb, hT]
          conv => whnf
          refine ⟨by repeat' (first | omega | (simp only [i64max]; omega) | refine And.intro ?_ ?_), ?_⟩
          conv => whnf
          conv => whnf
          repeat (refine And.intro ?_ ?_; (focus (first | omega | ((conv => whnf); omega) | (simp [mulSz, Cont.len]; done) | (simp [mulSz, Cont.len]; omega))); conv => whnf)
          intro (tl2 : List Bool)
          conv => whnf
          repeat (refine And.intro ?_ ?_; (focus (first | omega | ((conv => whnf); omega) | (simp [mulSz, Cont.len]; done) | (simp [mulSz, Cont.len]; omega))); conv => whnf)
          refine ⟨[0, 1, 3], (Sum.inr (k + 1, tl2) : Nat ⊕ (Nat × List Bool)), ?_, ⟨by omega, by rw [hT2]; simp⟩, ?_⟩
          · conv => whnf
            repeat' (first | exact True.intro | rfl | refine And.intro ?_ ?_)
            all_goals (conv => whnf)
            all_goals first | rfl | (rw [hT2]; rfl) | (simp [hT2, mulSz]; done) | skip
          · show n - (k + 1) < n - k
            omega
        · have hb : kb B m k = false := by unfold kb; rw [← hr]; simpa using hb
          have hT2 : thinP A B m (k + 1) = [] := by simp [thinP, hb, hT]
          conv => whnf
          refine ⟨by repeat' (first | omega | (simp only [i64max]; omega) | refine And.intro ?_ ?_), ?_⟩
          conv => whnf
          refine ⟨[0, 1], (Sum.inl (k + 1) : Nat ⊕ (Nat × List Bool)), ?_, ⟨by omega, hT2⟩, ?_⟩
          · conv => whnf
            repeat' (first | exact True.intro | rfl | refine And.intro ?_ ?_)
          · show n - (k + 1) < n - k
            omega
      · have hge : k = n := by simp at hge; omega
        subst hge
        conv => whnf
        refine .inl ⟨(), [0, 1], ?_⟩
        conv => whnf
        repeat' (first | exact True.intro | rfl | refine And.intro ?_ ?_)
    · obtain ⟨hk, hT⟩ : k ≤ n ∧ thinP A B m k ≠ [] := hpr
      have hle := thinP_le A B m k
      conv => whnf
      refine tst_in (fun hlt => ?_) (fun hge => ?_)
      · skip
        have hlt : k < n := by simp at hlt; omega
        have hr := rem_nat k m
        have hm0 := Nat.mod_lt k hm1
        have hq0 : 0 ≤ (k : Int) % (m : Int) := Int.emod_nonneg _ (by omega)
        have hq1 : (k : Int) % (m : Int) < m := Int.emod_lt_of_pos _ (by omega)
        conv => whnf
        refine ⟨by repeat' (first | omega | (simp only [i64max]; omega) | refine And.intro ?_ ?_), ?_⟩
        conv => whnf
        refine ⟨by repeat' (first | omega | (simp only [i64max]; omega) | refine And.intro ?_ ?_), ?_⟩
        conv => whnf
        refine ⟨by repeat' (first | omega | (simp only [i64max]; omega) | refine And.intro ?_ ?_), ?_⟩
        conv => whnf
        refine tst_in (fun hb => ?_) (fun hb => ?_)
        · have hb : kb B m k = true := by unfold kb; rw [← hr]; simpa using hb
          have hT2 : thinP A B m (k + 1) = thinP A B m k ++ [A.getD k false] := by simp [thinP, hb]
          conv => whnf
          refine ⟨by repeat' (first | omega | (simp only [i64max]; omega) | refine And.intro ?_ ?_), ?_⟩
          conv => whnf
          conv => whnf
          repeat (refine And.intro ?_ ?_; (focus (first | omega | ((conv => whnf); omega) | (simp [mulSz, Cont.len]; done) | (simp [mulSz, Cont.len]; omega))); conv => whnf)
          intro (tl2 : List Bool)
          conv => whnf
          repeat (refine And.intro ?_ ?_; (focus (first | omega | ((conv => whnf); omega) | (simp [mulSz, Cont.len]; done) | (simp [mulSz, Cont.len]; omega))); conv => whnf)
          refine ⟨[0, 1, 4], (Sum.inr (k + 1, tl2) : Nat ⊕ (Nat × List Bool)), ?_, ⟨by omega, by rw [hT2]; simp⟩, ?_⟩
          · conv => whnf
            repeat' (first | exact True.intro | rfl | refine And.intro ?_ ?_)
            all_goals (conv => whnf)
            all_goals first | rfl | (rw [hT2, List.length_append]; rfl) | (simp [hT2, mulSz]; done) | skip
          · show n - (k + 1) < n - k
            omega
        · have hb : kb B m k = false := by unfold kb; rw [← hr]; simpa using hb
          have hT2 : thinP A B m (k + 1) = thinP A B m k := by simp [thinP, hb]
          conv => whnf
          refine ⟨by repeat' (first | omega | (simp only [i64max]; omega) | refine And.intro ?_ ?_), ?_⟩
          conv => whnf
          refine ⟨[0, 1, 2], (Sum.inr (k + 1, tl) : Nat ⊕ (Nat × List Bool)), ?_, ⟨by omega, by rw [hT2]; exact hT⟩, ?_⟩
          · conv => whnf
            repeat' (first | exact True.intro | rfl | refine And.intro ?_ ?_)
            all_goals (conv => whnf)
            all_goals first | rfl | (rw [hT2]; rfl) | (rw [hT2]) | skip
          · show n - (k + 1) < n - k
            omega
      · have hge : k = n := by simp at hge; omega
        subst hge
        exact absurd hE hT
set_option maxRecDepth 100000 in
theorem Thin_r6 (A B : List Bool) (n m ca cb : Nat) (hn : n ≤ A.length) (hm : m ≤ B.length) (hN : n ≤ 32768) (hp : patB m B = true) (hm1 : 0 < m) (hm2 : m ≤ 64) (hE : thinP A B m n ≠ []) :
    Fits Try.prog 6 ⟨[.slice 0 0 n ca, .slice 1 0 m cb], [.seg false (.bools A), .seg false (.bools B)], [rowOut 2 [.dead, .dead] (thinP A B m n) fun s => .tup [s, .int .i64 0]]⟩ := by
  refine fits_of_body (C := cfgk 2) (c := c6) (ts := [4, 5]) wtok wmixed (fun | 5 => some (inv6 A B n m ca cb) | _ => none) (fun _ => none)
    Try.func6 (by kernel_rfl) (by kernel_rfl) (by kernel_rfl) (by kernel_rfl) rfl ?_
  conv => whnf
  refine tst_in (fun h_ => False.elim (by simp at h_ <;> omega)) (fun _ => ?_)
  conv => whnf
  refine ⟨_, [1], pattern_q B m cb hm (by omega), ?_⟩
  conv => whnf
  refine ⟨?_, ?_, ?_⟩
  · conv => whnf
    repeat' (first | exact True.intro | rfl | refine And.intro ?_ ?_)
  · conv => whnf
    repeat' (first | exact True.intro | rfl | refine And.intro ?_ ?_)
  conv => whnf
  refine tst_in (fun h_ => False.elim (by simp [hp] at h_ <;> omega)) (fun _ => ?_)
  conv => whnf
  refine ⟨⟨[0, 1], (Sum.inl 0 : Nat ⊕ (Nat × List Bool)), ?_, Nat.zero_le _, rfl⟩, ?_⟩
  · conv => whnf
    repeat' (first | exact True.intro | rfl | refine And.intro ?_ ?_)
  · rintro (k | ⟨k, tl⟩) hpr
    · obtain ⟨hk, hT⟩ : k ≤ n ∧ thinP A B m k = [] := hpr
      conv => whnf
      refine tst_in (fun hlt => ?_) (fun hge => ?_)
      · skip
        have hlt : k < n := by simp at hlt; omega
        have hr := rem_nat k m
        have hm0 := Nat.mod_lt k hm1
        have hq0 : 0 ≤ (k : Int) % (m : Int) := Int.emod_nonneg _ (by omega)
        have hq1 : (k : Int) % (m : Int) < m := Int.emod_lt_of_pos _ (by omega)
        conv => whnf
        refine ⟨by repeat' (first | omega | (simp only [i64max]; omega) | refine And.intro ?_ ?_), ?_⟩
        conv => whnf
        refine ⟨by repeat' (first | omega | (simp only [i64max]; omega) | refine And.intro ?_ ?_), ?_⟩
        conv => whnf
        refine ⟨by repeat' (first | omega | (simp only [i64max]; omega) | refine And.intro ?_ ?_), ?_⟩
        conv => whnf
        refine tst_in (fun hb => ?_) (fun hb => ?_)
        · have hb : kb B m k = true := by unfold kb; rw [← hr]; simpa using hb
          have hT2 : thinP A B m (k + 1) = [A.getD k false] := by simp [thinP, hb, hT]
          conv => whnf
          refine ⟨by repeat' (first | omega | (simp only [i64max]; omega) | refine And.intro ?_ ?_), ?_⟩
          conv => whnf
          conv => whnf
          repeat (refine And.intro ?_ ?_; (focus (first | omega | ((conv => whnf); omega) | (simp [mulSz, Cont.len]; done) | (simp [mulSz, Cont.len]; omega))); conv => whnf)
          intro (tl2 : List Bool)
          conv => whnf
          repeat (refine And.intro ?_ ?_; (focus (first | omega | ((conv => whnf); omega) | (simp [mulSz, Cont.len]; done) | (simp [mulSz, Cont.len]; omega))); conv => whnf)
          refine ⟨[0, 1, 3], (Sum.inr (k + 1, tl2) : Nat ⊕ (Nat × List Bool)), ?_, ⟨by omega, by rw [hT2]; simp⟩, ?_⟩
          · conv => whnf
            repeat' (first | exact True.intro | rfl | refine And.intro ?_ ?_)
            all_goals (conv => whnf)
            all_goals first | rfl | (rw [hT2]; rfl) | (simp [hT2, mulSz]; done) | skip
          · show n - (k + 1) < n - k
            omega
        · have hb : kb B m k = false := by unfold kb; rw [← hr]; simpa using hb
          have hT2 : thinP A B m (k + 1) = [] := by simp [thinP, hb, hT]
          conv => whnf
          refine ⟨by repeat' (first | omega | (simp only [i64max]; omega) | refine And.intro ?_ ?_), ?_⟩
          conv => whnf
          refine ⟨[0, 1], (Sum.inl (k + 1) : Nat ⊕ (Nat × List Bool)), ?_, ⟨by omega, hT2⟩, ?_⟩
          · conv => whnf
            repeat' (first | exact True.intro | rfl | refine And.intro ?_ ?_)
          · show n - (k + 1) < n - k
            omega
      · have hge : k = n := by simp at hge; omega
        subst hge
        exact absurd hT hE
    · obtain ⟨hk, hT⟩ : k ≤ n ∧ thinP A B m k ≠ [] := hpr
      have hle := thinP_le A B m k
      conv => whnf
      refine tst_in (fun hlt => ?_) (fun hge => ?_)
      · skip
        have hlt : k < n := by simp at hlt; omega
        have hr := rem_nat k m
        have hm0 := Nat.mod_lt k hm1
        have hq0 : 0 ≤ (k : Int) % (m : Int) := Int.emod_nonneg _ (by omega)
        have hq1 : (k : Int) % (m : Int) < m := Int.emod_lt_of_pos _ (by omega)
        conv => whnf
        refine ⟨by repeat' (first | omega | (simp only [i64max]; omega) | refine And.intro ?_ ?_), ?_⟩
        conv => whnf
        refine ⟨by repeat' (first | omega | (simp only [i64max]; omega) | refine And.intro ?_ ?_), ?_⟩
        conv => whnf
        refine ⟨by repeat' (first | omega | (simp only [i64max]; omega) | refine And.intro ?_ ?_), ?_⟩
        conv => whnf
        refine tst_in (fun hb => ?_) (fun hb => ?_)
        · have hb : kb B m k = true := by unfold kb; rw [← hr]; simpa using hb
          have hT2 : thinP A B m (k + 1) = thinP A B m k ++ [A.getD k false] := by simp [thinP, hb]
          conv => whnf
          refine ⟨by repeat' (first | omega | (simp only [i64max]; omega) | refine And.intro ?_ ?_), ?_⟩
          conv => whnf
          conv => whnf
          repeat (refine And.intro ?_ ?_; (focus (first | omega | ((conv => whnf); omega) | (simp [mulSz, Cont.len]; done) | (simp [mulSz, Cont.len]; omega))); conv => whnf)
          intro (tl2 : List Bool)
          conv => whnf
          repeat (refine And.intro ?_ ?_; (focus (first | omega | ((conv => whnf); omega) | (simp [mulSz, Cont.len]; done) | (simp [mulSz, Cont.len]; omega))); conv => whnf)
          refine ⟨[0, 1, 4], (Sum.inr (k + 1, tl2) : Nat ⊕ (Nat × List Bool)), ?_, ⟨by omega, by rw [hT2]; simp⟩, ?_⟩
          · conv => whnf
            repeat' (first | exact True.intro | rfl | refine And.intro ?_ ?_)
            all_goals (conv => whnf)
            all_goals first | rfl | (rw [hT2, List.length_append]; rfl) | (simp [hT2, mulSz]; done) | skip
          · show n - (k + 1) < n - k
            omega
        · have hb : kb B m k = false := by unfold kb; rw [← hr]; simpa using hb
          have hT2 : thinP A B m (k + 1) = thinP A B m k := by simp [thinP, hb]
          conv => whnf
          refine ⟨by repeat' (first | omega | (simp only [i64max]; omega) | refine And.intro ?_ ?_), ?_⟩
          conv => whnf
          refine ⟨[0, 1, 2], (Sum.inr (k + 1, tl) : Nat ⊕ (Nat × List Bool)), ?_, ⟨by omega, by rw [hT2]; exact hT⟩, ?_⟩
          · conv => whnf
            repeat' (first | exact True.intro | rfl | refine And.intro ?_ ?_)
            all_goals (conv => whnf)
            all_goals first | rfl | (rw [hT2]; rfl) | (rw [hT2]) | skip
          · show n - (k + 1) < n - k
            omega
      · have hge : k = n := by simp at hge; omega
        subst hge
        conv => whnf
        refine .inl ⟨tl, [0, 1, 2], ?_⟩
        conv => whnf
        repeat' (first | exact True.intro | rfl | refine And.intro ?_ ?_)
        all_goals (conv => whnf)
        all_goals first | rfl | skip
set_option maxRecDepth 100000 in
theorem Thin_b6 (A B : List Bool) (n m ca cb : Nat) (hm : m ≤ B.length) (hMN : m ≤ 4611686018427387904) (hb : ¬ (n ≤ 32768 ∧ patB m B = true)) :
    Fits Try.prog 6 ⟨[.slice 0 0 n ca, .slice 1 0 m cb], [.seg false (.bools A), .seg false (.bools B)], [nilOut [.dead, .dead] (.tup [.nils, .int .i64 1])]⟩ := by
  refine fits_of_body (C := cfgk 2) (c := c6) (ts := [4, 5]) wtok wmixed (fun _ => none) (fun _ => none)
    Try.func6 (by kernel_rfl) (by kernel_rfl) (by kernel_rfl) (by kernel_rfl) rfl ?_
  conv => whnf
  refine tst_in (fun h1 => ?_) (fun h1 => ?_)
  · conv => whnf
    refine .inl ⟨(), [0, 1], ?_⟩
    conv => whnf
    repeat' (first | exact True.intro | rfl | refine And.intro ?_ ?_)
  · have h1 : n ≤ 32768 := by simp at h1; omega
    conv => whnf
    refine ⟨_, [1], pattern_q B m cb hm hMN, ?_⟩
    conv => whnf
    refine ⟨?_, ?_, ?_⟩
    · conv => whnf
      repeat' (first | exact True.intro | rfl | refine And.intro ?_ ?_)
    · conv => whnf
      repeat' (first | exact True.intro | rfl | refine And.intro ?_ ?_)
    conv => whnf
    have hp : patB m B = false := by
      cases h : patB m B with
      | true => exact absurd ⟨h1, h⟩ hb
      | false => rfl
    refine tst_in (fun _ => ?_) (fun h_ => False.elim (by simp [hp] at h_ <;> omega))
    conv => whnf
    refine .inl ⟨(), [0, 1], ?_⟩
    conv => whnf
    repeat' (first | exact True.intro | rfl | refine And.intro ?_ ?_)
end Go.Proofs.Ytflbhbiflcaocaa

set_option linter.unusedVariables false
set_option linter.unusedSimpArgs false
namespace Go.Proofs.Ytflbhbiflcaocaa
open Go Go.Fw
noncomputable def c5 : Code := (Try.f5.body).getD .skip
def st5 (A B : List Bool) (n m ca cb : Nat) : Nat ⊕ (Nat × List Bool) → St
  | .inl k => ⟨anyTo 37 [.slice 0 0 n ca, .slice 1 0 m cb, .any, .any, .any, .any, .nils, .any, .any, .any, .any, .any, .any, .any, .any, .any, .any, .slice 0 0 n ca, .int .i64 n, .int .i64 k], [.seg false (.bools A), .seg false (.bools B)]⟩
  | .inr (k, tl) => ⟨anyTo 37 [.slice 0 0 n ca, .slice 1 0 m cb, .any, .any, .any, .any, .slice 2 0 (thinP A B m k).length ((thinP A B m k).length + tl.length), .any, .any, .any, .any, .any, .any, .any, .any, .any, .any, .slice 0 0 n ca, .int .i64 n, .int .i64 k], [.seg false (.bools A), .seg false (.bools B), .seg true (.bools (thinP A B m k ++ tl))]⟩
def pr5 (A B : List Bool) (n m : Nat) : Nat ⊕ (Nat × List Bool) → Prop
  | .inl k => k ≤ n ∧ thinP A B m k = []
  | .inr (k, _) => k ≤ n ∧ thinP A B m k ≠ []
def mu5 (n : Nat) : Nat ⊕ (Nat × List Bool) → Nat
  | .inl k => n - k
  | .inr (k, _) => n - k
def inv5 (A B : List Bool) (n m ca cb : Nat) : LInv := ⟨Nat ⊕ (Nat × List Bool), st5 A B n m ca cb, pr5 A B n m, mu5 n⟩
set_option maxRecDepth 100000 in
theorem Thin_n5 (A B : List Bool) (n m ca cb : Nat) (hn : n ≤ A.length) (hm : m ≤ B.length) (hN : n ≤ 32768) (hp : patB m B = true) (hm1 : 0 < m) (hm2 : m ≤ 64) (hE : thinP A B m n = []) :
    Fits Try.prog 5 ⟨[.slice 0 0 n ca, .slice 1 0 m cb], [.seg false (.bools A), .seg false (.bools B)], [nilOut [.dead, .dead] (.tup [.nils, .int .i64 0])]⟩ := by
  refine fits_of_body (C := cfgk 2) (c := c5) (ts := [4, 5]) wtok wmixed (fun | 5 => some (inv5 A B n m ca cb) | _ => none) (fun _ => none)
    Try.func5 (by kernel_rfl) (by kernel_rfl) (by kernel_rfl) (by kernel_rfl) rfl ?_
  conv => whnf
  refine tst_in (fun h_ => False.elim (by simp at h_ <;> omega)) (fun _ => ?_)
  conv => whnf
  refine ⟨_, [1], isPattern_q B m cb hm (by omega), ?_⟩
  conv => whnf
  refine ⟨?_, ?_, ?_⟩
  · conv => whnf
    repeat' (first | exact True.intro | rfl | refine And.intro ?_ ?_)
  · conv => whnf
    repeat' (first | exact True.intro | rfl | refine And.intro ?_ ?_)
  conv => whnf
  refine tst_in (fun h_ => False.elim (by simp [hp] at h_ <;> omega)) (fun _ => ?_)
  conv => whnf
  refine ⟨⟨[0, 1], (Sum.inl 0 : Nat ⊕ (Nat × List Bool)), ?_, Nat.zero_le _, rfl⟩, ?_⟩
  · conv => whnf
    repeat' (first | exact True.intro | rfl | refine And.intro ?_ ?_)
  · rintro (k | ⟨k, tl⟩) hpr
    · obtain ⟨hk, hT⟩ : k ≤ n ∧ thinP A B m k = [] := hpr
      conv => whnf
      refine tst_in (fun hlt => ?_) (fun hge => ?_)
      · skip
        have hlt : k < n := by simp at hlt; omega
        have hr := rem_nat k m
        have hm0 := Nat.mod_lt k hm1
        have hq0 : 0 ≤ (k : Int) % (m : Int) := Int.emod_nonneg _ (by omega)
        have hq1 : (k : Int) % (m : Int) < m := Int.emod_lt_of_pos _ (by omega)
        conv => whnf
        refine ⟨by repeat' (first | omega | (simp only [i64max]; omega) | refine And.intro ?_ ?_), ?_⟩
        conv => whnf
        refine ⟨by repeat' (first | omega | (simp only [i64max]; omega) | refine And.intro ?_ ?_), ?_⟩
        conv => whnf
        refine ⟨by repeat' (first | omega | (simp only [i64max]; omega) | refine And.intro ?_ ?_), ?_⟩
        conv => whnf
        refine ⟨by repeat' (first | omega | (simp only [i64max]; omega) | refine And.intro ?_ ?_), ?_⟩
        conv => whnf
        refine ⟨by repeat' (first | omega | (simp only [i64max]; omega) | refine And.intro ?_ ?_), ?_⟩
        conv => whnf
        refine tst_in (fun hb => ?_) (fun hb => ?_)
        · have hb : kb B m k = true := by unfold kb; rw [← hr]; simpa using hb
          have hT2 : thinP A B m (k + 1) = [A.getD k false] := by simp [thinP, hb, hT]
          conv => whnf
          repeat (refine And.intro ?_ ?_; (focus (first | omega | ((conv => whnf); omega) | (simp [mulSz, Cont.len]; done) | (simp [mulSz, Cont.len]; omega))); conv => whnf)
          intro (tl2 : List Bool)
          conv => whnf
          repeat (refine And.intro ?_ ?_; (focus (first | omega | ((conv => whnf); omega) | (simp [mulSz, Cont.len]; done) | (simp [mulSz, Cont.len]; omega))); conv => whnf)
          refine ⟨[0, 1, 3], (Sum.inr (k + 1, tl2) : Nat ⊕ (Nat × List Bool)), ?_, ⟨by omega, by rw [hT2]; simp⟩, ?_⟩
          · conv => whnf
            repeat' (first | exact True.intro | rfl | refine And.intro ?_ ?_)
            all_goals (conv => whnf)
            all_goals first | rfl | (rw [hT2]; rfl) | (simp [hT2, mulSz]; done) | skip
          · show n - (k + 1) < n - k
            omega
        · have hb : kb B m k = false := by unfold kb; rw [← hr]; simpa using hb
          have hT2 : thinP A B m (k + 1) = [] := by simp [thinP, hb, hT]
          conv => whnf
          refine ⟨by repeat' (first | omega | (simp only [i64max]; omega) | refine And.intro ?_ ?_), ?_⟩
          conv => whnf
          refine ⟨[0, 1], (Sum.inl (k + 1) : Nat ⊕ (Nat × List Bool)), ?_, ⟨by omega, hT2⟩, ?_⟩
          · conv => whnf
            repeat' (first | exact True.intro | rfl | refine And.intro ?_ ?_)
          · show n - (k + 1) < n - k
            omega
      · have hge : k = n := by simp at hge; omega
        subst hge
        conv => whnf
        refine .inl ⟨(), [0, 1], ?_⟩
        conv => whnf
        repeat' (first | exact True.intro | rfl | refine And.intro ?_ ?_)
    · obtain ⟨hk, hT⟩ : k ≤ n ∧ thinP A B m k ≠ [] := hpr
      have hle := thinP_le A B m k
      conv => whnf
      refine tst_in (fun hlt => ?_) (fun hge => ?_)
      · skip
        have hlt : k < n := by simp at hlt; omega
        have hr := rem_nat k m
        have hm0 := Nat.mod_lt k hm1
        have hq0 : 0 ≤ (k : Int) % (m : Int) := Int.emod_nonneg _ (by omega)
        have hq1 : (k : Int) % (m : Int) < m := Int.emod_lt_of_pos _ (by omega)
        conv => whnf
        refine ⟨by repeat' (first | omega | (simp only [i64max]; omega) | refine And.intro ?_ ?_), ?_⟩
        conv => whnf
        refine ⟨by repeat' (first | omega | (simp only [i64max]; omega) | refine And.intro ?_ ?_), ?_⟩
        conv => whnf
        refine ⟨by repeat' (first | omega | (simp only [i64max]; omega) | refine And.intro ?_ ?_), ?_⟩
        conv => whnf
        refine ⟨by repeat' (first | omega | (simp only [i64max]; omega) | refine And.intro ?_ ?_), ?_⟩
        conv => whnf
        refine ⟨by repeat' (first | omega | (simp only [i64max]; omega) | refine And.intro ?_ ?_), ?_⟩
        conv => whnf
        refine tst_in (fun hb => ?_) (fun hb => ?_)
        · have hb : kb B m k = true := by unfold kb; rw [← hr]; simpa using hb
          have hT2 : thinP A B m (k + 1) = thinP A B m k ++ [A.getD k false] := by simp [thinP, hb]
          conv => whnf
          repeat (refine And.intro ?_ ?_; (focus (first | omega | ((conv => whnf); omega) | (simp [mulSz, Cont.len]; done) | (simp [mulSz, Cont.len]; omega))); conv => whnf)
          intro (tl2 : List Bool)
          conv => whnf
          repeat (refine And.intro ?_ ?_; (focus (first | omega | ((conv => whnf); omega) | (simp [mulSz, Cont.len]; done) | (simp [mulSz, Cont.len]; omega))); conv => whnf)
          refine ⟨[0, 1, 4], (Sum.inr (k + 1, tl2) : Nat ⊕ (Nat × List Bool)), ?_, ⟨by omega, by rw [hT2]; simp⟩, ?_⟩
          · conv => whnf
            repeat' (first | exact True.intro | rfl | refine And.intro ?_ ?_)
            all_goals (conv => whnf)
            all_goals first | rfl | (rw [hT2, List.length_append]; rfl) | (simp [hT2, mulSz]; done) | skip
          · show n - (k + 1) < n - k
            omega
        · have hb : kb B m k = false := by unfold kb; rw [← hr]; simpa using hb
          have hT2 : thinP A B m (k + 1) = thinP A B m k := by simp [thinP, hb]
          conv => whnf
          refine ⟨by repeat' (first | omega | (simp only [i64max]; omega) | refine And.intro ?_ ?_), ?_⟩
          conv => whnf
          refine ⟨[0, 1, 2], (Sum.inr (k + 1, tl) : Nat ⊕ (Nat × List Bool)), ?_, ⟨by omega, by rw [hT2]; exact hT⟩, ?_⟩
          · conv => whnf
            repeat' (first | exact True.intro | rfl | refine And.intro ?_ ?_)
            all_goals (conv => whnf)
            all_goals first | rfl | (rw [hT2]; rfl) | (rw [hT2]) | skip
          · show n - (k + 1) < n - k
            omega
      · have hge : k = n := by simp at hge; omega
        subst hge
        exact absurd hE hT
set_option maxRecDepth 100000 in
theorem Thin_r5 (A B : List Bool) (n m ca cb : Nat) (hn : n ≤ A.length) (hm : m ≤ B.length) (hN : n ≤ 32768) (hp : patB m B = true) (hm1 : 0 < m) (hm2 : m ≤ 64) (hE : thinP A B m n ≠ []) :
    Fits Try.prog 5 ⟨[.slice 0 0 n ca, .slice 1 0 m cb], [.seg false (.bools A), .seg false (.bools B)], [rowOut 2 [.dead, .dead] (thinP A B m n) fun s => .tup [s, .int .i64 0]]⟩ := by
  refine fits_of_body (C := cfgk 2) (c := c5) (ts := [4, 5]) wtok wmixed (fun | 5 => some (inv5 A B n m ca cb) | _ => none) (fun _ => none)
    Try.func5 (by kernel_rfl) (by kernel_rfl) (by kernel_rfl) (by kernel_rfl) rfl ?_
  conv => whnf
  refine tst_in (fun h_ => False.elim (by simp at h_ <;> omega)) (fun _ => ?_)
  conv => whnf
  refine ⟨_, [1], isPattern_q B m cb hm (by omega), ?_⟩
  conv => whnf
  refine ⟨?_, ?_, ?_⟩
  · conv => whnf
    repeat' (first | exact True.intro | rfl | refine And.intro ?_ ?_)
  · conv => whnf
    repeat' (first | exact True.intro | rfl | refine And.intro ?_ ?_)
  conv => whnf
  refine tst_in (fun h_ => False.elim (by simp [hp] at h_ <;> omega)) (fun _ => ?_)
  conv => whnf
  refine ⟨⟨[0, 1], (Sum.inl 0 : Nat ⊕ (Nat × List Bool)), ?_, Nat.zero_le _, rfl⟩, ?_⟩
  · conv => whnf
    repeat' (first | exact True.intro | rfl | refine And.intro ?_ ?_)
  · rintro (k | ⟨k, tl⟩) hpr
    · obtain ⟨hk, hT⟩ : k ≤ n ∧ thinP A B m k = [] := hpr
      conv => whnf
      refine tst_in (fun hlt => ?_) (fun hge => ?_)
      · skip
        have hlt : k < n := by simp at hlt; omega
        have hr := rem_nat k m
        have hm0 := Nat.mod_lt k hm1
        have hq0 : 0 ≤ (k : Int) % (m : Int) := Int.emod_nonneg _ (by omega)
        have hq1 : (k : Int) % (m : Int) < m := Int.emod_lt_of_pos _ (by omega)
        conv => whnf
        refine ⟨by repeat' (first | omega | (simp only [i64max]; omega) | refine And.intro ?_ ?_), ?_⟩
        conv => whnf
        refine ⟨by repeat' (first | omega | (simp only [i64max]; omega) | refine And.intro ?_ ?_), ?_⟩
        conv => whnf
        refine ⟨by repeat' (first | omega | (simp only [i64max]; omega) | refine And.intro ?_ ?_), ?_⟩
        conv => whnf
        refine ⟨by repeat' (first | omega | (simp only [i64max]; omega) | refine And.intro ?_ ?_), ?_⟩
        conv => whnf
        refine ⟨by repeat' (first | omega | (simp only [i64max]; omega) | refine And.intro ?_ ?_), ?_⟩
        conv => whnf
        refine tst_in (fun hb => ?_) (fun hb => ?_)
        · have hb : kb B m k = true := by unfold kb; rw [← hr]; simpa using hb
          have hT2 : thinP A B m (k + 1) = [A.getD k false] := by simp [thinP, hb, hT]
          conv => whnf
          repeat (refine And.intro ?_ ?_; (focus (first | omega | ((conv => whnf); omega) | (simp [mulSz, Cont.len]; done) | (simp [mulSz, Cont.len]; omega))); conv => whnf)
          intro (tl2 : List Bool)
          conv => whnf
          repeat (refine And.intro ?_ ?_; (focus (first | omega | ((conv => whnf); omega) | (simp [mulSz, Cont.len]; done) | (simp [mulSz, Cont.len]; omega))); conv => whnf)
          refine ⟨[0, 1, 3], (Sum.inr (k + 1, tl2) : Nat ⊕ (Nat × List Bool)), ?_, ⟨by omega, by rw [hT2]; simp⟩, ?_⟩
          · conv => whnf
            repeat' (first | exact True.intro | rfl | refine And.intro ?_ ?_)
            all_goals (conv => whnf)
            all_goals first | rfl | (rw [hT2]; rfl) | (simp [hT2, mulSz]; done) | skip
          · show n - (k + 1) < n - k
            omega
        · have hb : kb B m k = false := by unfold kb; rw [← hr]; simpa using hb
          have hT2 : thinP A B m (k + 1) = [] := by simp [thinP, hb, hT]
          conv => whnf
          refine ⟨by repeat' (first | omega | (simp only [i64max]; omega) | refine And.intro ?_ ?_), ?_⟩
          conv => whnf
          refine ⟨[0, 1], (Sum.inl (k + 1) : Nat ⊕ (Nat × List Bool)), ?_, ⟨by omega, hT2⟩, ?_⟩
          · conv => whnf
            repeat' (first | exact True.intro | rfl | refine And.intro ?_ ?_)
          · show n - (k + 1) < n - k
            omega
      · have hge : k = n := by simp at hge; omega
        subst hge
        exact absurd hT hE
    · obtain ⟨hk, hT⟩ : k ≤ n ∧ thinP A B m k ≠ [] := hpr
      have hle := thinP_le A B m k
      conv => whnf
      refine tst_in (fun hlt => ?_) (fun hge => ?_)
      · skip
        have hlt : k < n := by simp at hlt; omega
        have hr := rem_nat k m
        have hm0 := Nat.mod_lt k hm1
        have hq0 : 0 ≤ (k : Int) % (m : Int) := Int.emod_nonneg _ (by omega)
        have hq1 : (k : Int) % (m : Int) < m := Int.emod_lt_of_pos _ (by omega)
        conv => whnf
        refine ⟨by repeat' (first | omega | (simp only [i64max]; omega) | refine And.intro ?_ ?_), ?_⟩
        conv => whnf
        refine ⟨by repeat' (first | omega | (simp only [i64max]; omega) | refine And.intro ?_ ?_), ?_⟩
        conv => whnf
        refine ⟨by repeat' (first | omega | (simp only [i64max]; omega) | refine And.intro ?_ ?_), ?_⟩
        conv => whnf
        refine ⟨by repeat' (first | omega | (simp only [i64max]; omega) | refine And.intro ?_ ?_), ?_⟩
        conv => whnf
        refine ⟨by repeat' (first | omega | (simp only [i64max]; omega) | refine And.intro ?_ ?_), ?_⟩
        conv => whnf
        refine tst_in (fun hb => ?_) (fun hb => ?_)
        · have hb : kb B m k = true := by unfold kb; rw [← hr]; simpa using hb
          have hT2 : thinP A B m (k + 1) = thinP A B m k ++ [A.getD k false] := by simp [thinP, hb]
          conv => whnf
          repeat (refine And.intro ?_ ?_; (focus (first | omega | ((conv => whnf); omega) | (simp [mulSz, Cont.len]; done) | (simp [mulSz, Cont.len]; omega))); conv => whnf)
          intro (tl2 : List Bool)
          conv => whnf
          repeat (refine And.intro ?_ ?_; (focus (first | omega | ((conv => whnf); omega) | (simp [mulSz, Cont.len]; done) | (simp [mulSz, Cont.len]; omega))); conv => whnf)
          refine ⟨[0, 1, 4], (Sum.inr (k + 1, tl2) : Nat ⊕ (Nat × List Bool)), ?_, ⟨by omega, by rw [hT2]; simp⟩, ?_⟩
          · conv => whnf
            repeat' (first | exact True.intro | rfl | refine And.intro ?_ ?_)
            all_goals (conv => whnf)
            all_goals first | rfl | (rw [hT2, List.length_append]; rfl) | (simp [hT2, mulSz]; done) | skip
          · show n - (k + 1) < n - k
            omega
        · have hb : kb B m k = false := by unfold kb; rw [← hr]; simpa using hb
          have hT2 : thinP A B m (k + 1) = thinP A B m k := by simp [thinP, hb]
          conv => whnf
          refine ⟨by repeat' (first | omega | (simp only [i64max]; omega) | refine And.intro ?_ ?_), ?_⟩
          conv => whnf
          refine ⟨[0, 1, 2], (Sum.inr (k + 1, tl) : Nat ⊕ (Nat × List Bool)), ?_, ⟨by omega, by rw [hT2]; exact hT⟩, ?_⟩
          · conv => whnf
            repeat' (first | exact True.intro | rfl | refine And.intro ?_ ?_)
            all_goals (conv => whnf)
            all_goals first | rfl | (rw [hT2]; rfl) | (rw [hT2]) | skip
          · show n - (k + 1) < n - k
            omega
      · have hge : k = n := by simp at hge; omega
        subst hge
        conv => whnf
        refine .inl ⟨tl, [0, 1, 2], ?_⟩
        conv => whnf
        repeat' (first | exact True.intro | rfl | refine And.intro ?_ ?_)
        all_goals (conv => whnf)
        all_goals first | rfl | skip
set_option maxRecDepth 100000 in
theorem Thin_b5 (A B : List Bool) (n m ca cb : Nat) (hm : m ≤ B.length) (hMN : m ≤ 4611686018427387904) (hb : ¬ (n ≤ 32768 ∧ patB m B = true)) :
    Fits Try.prog 5 ⟨[.slice 0 0 n ca, .slice 1 0 m cb], [.seg false (.bools A), .seg false (.bools B)], [nilOut [.dead, .dead] (.tup [.nils, .int .i64 1])]⟩ := by
  refine fits_of_body (C := cfgk 2) (c := c5) (ts := [4, 5]) wtok wmixed (fun _ => none) (fun _ => none)
    Try.func5 (by kernel_rfl) (by kernel_rfl) (by kernel_rfl) (by kernel_rfl) rfl ?_
  conv => whnf
  refine tst_in (fun h1 => ?_) (fun h1 => ?_)
  · conv => whnf
    refine .inl ⟨(), [0, 1], ?_⟩
    conv => whnf
    repeat' (first | exact True.intro | rfl | refine And.intro ?_ ?_)
  · have h1 : n ≤ 32768 := by simp at h1; omega
    conv => whnf
    refine ⟨_, [1], isPattern_q B m cb hm hMN, ?_⟩
    conv => whnf
    refine ⟨?_, ?_, ?_⟩
    · conv => whnf
      repeat' (first | exact True.intro | rfl | refine And.intro ?_ ?_)
    · conv => whnf
      repeat' (first | exact True.intro | rfl | refine And.intro ?_ ?_)
    conv => whnf
    have hp : patB m B = false := by
      cases h : patB m B with
      | true => exact absurd ⟨h1, h⟩ hb
      | false => rfl
    refine tst_in (fun _ => ?_) (fun h_ => False.elim (by simp [hp] at h_ <;> omega))
    conv => whnf
    refine .inl ⟨(), [0, 1], ?_⟩
    conv => whnf
    repeat' (first | exact True.intro | rfl | refine And.intro ?_ ?_)
end Go.Proofs.Ytflbhbiflcaocaa

set_option linter.unusedVariables false
set_option linter.unusedSimpArgs false
namespace Go.Proofs.Ytflbhbiflcaocaa
open Go Go.Fw
def mkP (A : List Bool) : Nat → List Int
  | 0 => []
  | k + 1 => mkP A k ++ [mk (A.getD k false)]
theorem mkP_len (A : List Bool) : ∀ k, (mkP A k).length = k
  | 0 => rfl
  | k + 1 => by simp [mkP, mkP_len A k]
theorem mk_in (b : Bool) : 0 ≤ mk b ∧ mk b ≤ 1 := by cases b <;> simp [mk]
def rowI (k : Nat) (pre : List Seg) (xs : List Int) (f : AV → AV) : FOut := ⟨List Int, fun _ => True, fun tl => f (.slice k 0 xs.length (xs.length + tl.length)), fun tl => pre ++ [.seg true (.ints .u8 (xs ++ tl))]⟩
def rowX (k : Nat) (pre : List Seg) (xs : List Int) (f : AV → AV) : FOut := ⟨Unit, fun _ => True, fun _ => f (.slice k 0 xs.length xs.length), fun _ => pre ++ [.seg true (.ints .u8 xs)]⟩
theorem set_fill (l : List Int) (k r : Nat) (x y : Int) (hl : l.length = k) : (l ++ y :: List.replicate r 0).set k x = l ++ [x] ++ List.replicate r 0 := by
  subst hl
  simp
noncomputable def c11 : Code := (Try.f11.body).getD .skip
def inv11 (A : List Bool) (n ca : Nat) : LInv := ⟨Nat, fun k => ⟨anyTo 23 [.slice 0 0 n ca, .any, .any, .slice 1 0 n n, .any, .any, .any, .any, .any, .slice 0 0 n ca, .int .i64 n, .int .i64 k], [.seg false (.bools A), .seg true (.ints .u8 (mkP A k ++ List.replicate (n - k) 0))]⟩, fun k => k ≤ n, fun k => n - k⟩
theorem Marks_11 (A : List Bool) (n ca : Nat) (hn : n ≤ A.length) (hN : n ≤ 140737488355328) : Fits Try.prog 11 ⟨[.slice 0 0 n ca], [.seg false (.bools A)], [rowX 1 [.dead] (mkP A n) fun s => s]⟩ := by
  refine fits_of_body (C := cfgk 1) (c := c11) (ts := [2]) wtok wmixed (fun | 3 => some (inv11 A n ca) | _ => none) (fun _ => none)
    Try.func11 (by kernel_rfl) (by kernel_rfl) (by kernel_rfl) (by kernel_rfl) rfl ?_
  conv => whnf
  refine ⟨⟨by omega, by omega, by show (1 : Int) * (n : Int) ≤ 281474976710656; omega, by omega⟩, ?_⟩
  conv => whnf
  refine ⟨⟨[0, 1], (0 : Nat), ?_, Nat.zero_le _⟩, ?_⟩
  · conv => whnf
    repeat' (first | exact True.intro | rfl | refine And.intro ?_ ?_)
  · intro (k : Nat) (hk : k ≤ n)
    have hlen := mkP_len A k
    conv => whnf
    refine tst_in (fun hlt => ?_) (fun hge => ?_)
    · skip
      have hlt : k < n := by simp at hlt; omega
      conv => whnf
      refine ⟨by repeat' (first | omega | (simp only [i64max]; omega) | refine And.intro ?_ ?_), ?_⟩
      conv => whnf
      refine ⟨by repeat' (first | omega | (simp only [i64max]; omega) | refine And.intro ?_ ?_), ?_⟩
      conv => whnf
      refine ⟨_, [], mark_q (A.getD (0 + ((k : Int)).toNat) false), ?_⟩
      conv => whnf
      refine ⟨?_, ?_, ?_⟩
      · conv => whnf
        repeat' (first | exact True.intro | rfl | refine And.intro ?_ ?_)
      · conv => whnf
        repeat' (first | exact True.intro | rfl | refine And.intro ?_ ?_)
      conv => whnf
      have hcl : (mkP A k ++ List.replicate (n - k) (0 : Int)).length = n := by simp [hlen]; omega
      refine ⟨by repeat' (first | omega | (simp only [i64max]; omega) | refine And.intro ?_ ?_), ?_⟩
      conv => whnf
      refine ⟨by repeat' (first | omega | (simp only [i64max]; omega) | refine And.intro ?_ ?_), ?_⟩
      conv => whnf
      refine ⟨by repeat' (first | omega | (simp only [i64max]; omega) | refine And.intro ?_ ?_), ?_⟩
      conv => whnf
      refine ⟨[0, 1], k + 1, ?_, ?_, ?_⟩
      · conv => whnf
        repeat' (first | exact True.intro | rfl | refine And.intro ?_ ?_)
        all_goals first | rfl | skip
        show mkP A (k + 1) ++ List.replicate (n - (k + 1)) 0 = (mkP A k ++ List.replicate (n - k) 0).set (0 + ((k : Int)).toNat) (mk (A.getD (0 + ((k : Int)).toNat) false))
        rw [show 0 + ((k : Int)).toNat = k by omega, show n - k = (n - (k + 1)) + 1 by omega, List.replicate_succ, set_fill _ _ _ _ _ hlen]
        rfl
      · show k + 1 ≤ n
        omega
      · show n - (k + 1) < n - k
        omega
    · skip
      have hge : k = n := by simp at hge; omega
      subst hge
      conv => whnf
      refine .inl ⟨(), [0, 1], ?_⟩
      conv => whnf
      repeat' (first | exact True.intro | rfl | refine And.intro ?_ ?_)
      all_goals (show _ = _; first | rfl | (simp [hlen]; done) | (rw [hlen]; rfl))
noncomputable def c12 : Code := (Try.f12.body).getD .skip
def st12 (A : List Bool) (n ca : Nat) : Nat → List Int → St
  | 0, _ => ⟨anyTo 22 [.slice 0 0 n ca, .any, .any, .nils, .int .i64 0], [.seg false (.bools A)]⟩
  | k + 1, tl => ⟨anyTo 22 [.slice 0 0 n ca, .any, .any, .slice 1 0 (k + 1) (k + 1 + tl.length), .int .i64 (k + 1 : Nat)], [.seg false (.bools A), .seg true (.ints .u8 (mkP A (k + 1) ++ tl))]⟩
def inv12 (A : List Bool) (n ca : Nat) : LInv := ⟨Nat × List Int, fun p => st12 A n ca p.1 p.2, fun p => p.1 ≤ n, fun p => n - p.1⟩
theorem Marks_12n (A : List Bool) (ca : Nat) : Fits Try.prog 12 ⟨[.slice 0 0 0 ca], [.seg false (.bools A)], [nilOut [.dead] .nils]⟩ := by
  refine fits_of_body (C := cfgk 1) (c := c12) (ts := [2]) wtok wmixed (fun | 3 => some ⟨Unit, fun _ => ⟨anyTo 22 [.slice 0 0 0 ca, .any, .any, .nils, .int .i64 0], [.seg false (.bools A)]⟩, fun _ => True, fun _ => 0⟩ | _ => none) (fun _ => none)
    Try.func12 (by kernel_rfl) (by kernel_rfl) (by kernel_rfl) (by kernel_rfl) rfl ?_
  conv => whnf
  refine ⟨⟨[0], (), ?_, True.intro⟩, ?_⟩
  · conv => whnf
    repeat' (first | exact True.intro | rfl | refine And.intro ?_ ?_)
  · intro _ _
    conv => whnf
    refine .inl ⟨(), [0], ?_⟩
    conv => whnf
    repeat' (first | exact True.intro | rfl | refine And.intro ?_ ?_)
theorem Marks_12 (A : List Bool) (n ca : Nat) (hn : n ≤ A.length) (hN : n ≤ 140737488355328) (h0 : 0 < n) : Fits Try.prog 12 ⟨[.slice 0 0 n ca], [.seg false (.bools A)], [rowI 1 [.dead] (mkP A n) fun s => s]⟩ := by
  refine fits_of_body (C := cfgk 1) (c := c12) (ts := [2]) wtok wmixed (fun | 3 => some (inv12 A n ca) | _ => none) (fun _ => none)
    Try.func12 (by kernel_rfl) (by kernel_rfl) (by kernel_rfl) (by kernel_rfl) rfl ?_
  conv => whnf
  refine ⟨⟨[0], ((0, []) : Nat × List Int), ?_, Nat.zero_le _⟩, ?_⟩
  · conv => whnf
    repeat' (first | exact True.intro | rfl | refine And.intro ?_ ?_)
  · rintro ⟨k, tl⟩ hk
    have hk : k ≤ n := hk
    have hlen := mkP_len A k
    cases k with
    | zero =>
      conv => whnf
      refine tst_in (fun hlt => ?_) (fun hge => ?_)
      · skip
        conv => whnf
        refine ⟨by repeat' (first | omega | (simp only [i64max]; omega) | refine And.intro ?_ ?_), ?_⟩
        conv => whnf
        refine ⟨by repeat' (first | omega | (simp only [i64max]; omega) | refine And.intro ?_ ?_), ?_⟩
        conv => whnf
        refine tst_in (fun hb => ?_) (fun hb => ?_)
        · skip
          have hb : A.getD 0 false = true := by simpa using hb
          conv => whnf
          repeat (refine And.intro ?_ ?_; (focus (first | omega | ((conv => whnf); omega) | (simp [mulSz, Cont.len]; done) | (simp [mulSz, Cont.len]; omega))); conv => whnf)
          intro (tl2 : List Int)
          conv => whnf
          repeat (refine And.intro ?_ ?_; (focus (first | omega | ((conv => whnf); omega) | (simp [mulSz, Cont.len]; done) | (simp [mulSz, Cont.len]; omega))); conv => whnf)
          refine ⟨[0, 2], ((1, tl2) : Nat × List Int), ?_, ?_, ?_⟩
          · conv => whnf
            repeat' (first | exact True.intro | rfl | refine And.intro ?_ ?_)
            all_goals (conv => whnf)
            all_goals (show mkP A 1 ++ tl2 = _; simp only [mkP, hb]; rfl)
          · exact h0
          · show n - 1 < n - 0
            omega
        · skip
          have hb : A.getD 0 false = false := by simpa using hb
          conv => whnf
          repeat (refine And.intro ?_ ?_; (focus (first | omega | ((conv => whnf); omega) | (simp [mulSz, Cont.len]; done) | (simp [mulSz, Cont.len]; omega))); conv => whnf)
          intro (tl2 : List Int)
          conv => whnf
          repeat (refine And.intro ?_ ?_; (focus (first | omega | ((conv => whnf); omega) | (simp [mulSz, Cont.len]; done) | (simp [mulSz, Cont.len]; omega))); conv => whnf)
          refine ⟨[0, 2], ((1, tl2) : Nat × List Int), ?_, ?_, ?_⟩
          · conv => whnf
            repeat' (first | exact True.intro | rfl | refine And.intro ?_ ?_)
            all_goals (conv => whnf)
            all_goals (show mkP A 1 ++ tl2 = _; simp only [mkP, hb]; rfl)
          · exact h0
          · show n - 1 < n - 0
            omega
      · simp at hge; omega
    | succ k =>
      conv => whnf
      refine tst_in (fun hlt => ?_) (fun hge => ?_)
      · skip
        have hlt : k + 1 < n := by simp at hlt; omega
        have hX : 0 + (((k + 1 : Nat) : Int)).toNat = k + 1 := by omega
        conv => whnf
        refine ⟨by repeat' (first | omega | (simp only [i64max]; omega) | refine And.intro ?_ ?_), ?_⟩
        conv => whnf
        refine ⟨by repeat' (first | omega | (simp only [i64max]; omega) | refine And.intro ?_ ?_), ?_⟩
        conv => whnf
        refine tst_in (fun hb => ?_) (fun hb => ?_)
        · skip
          have hb : A.getD (k + 1) false = true := by simpa using hb
          conv => whnf
          repeat (refine And.intro ?_ ?_; (focus (first | omega | ((conv => whnf); omega) | (simp [mulSz, Cont.len]; done) | (simp [mulSz, Cont.len]; omega))); conv => whnf)
          intro (tl2 : List Int)
          conv => whnf
          repeat (refine And.intro ?_ ?_; (focus (first | omega | ((conv => whnf); omega) | (simp [mulSz, Cont.len]; done) | (simp [mulSz, Cont.len]; omega))); conv => whnf)
          refine ⟨[0, 3], ((k + 1 + 1, tl2) : Nat × List Int), ?_, ?_, ?_⟩
          · conv => whnf
            repeat' (first | exact True.intro | rfl | refine And.intro ?_ ?_)
            all_goals (conv => whnf)
            all_goals (show mkP A (k + 1 + 1) ++ tl2 = ((mkP A (k + 1) ++ tl).drop 0).take (k + 1) ++ (([1] : List Int).drop 0).take 1 ++ tl2; rw [List.drop_zero, List.take_left' hlen]; simp only [mkP, hb]; rfl)
          · exact hlt
          · show n - (k + 1 + 1) < n - (k + 1)
            omega
        · skip
          have hb : A.getD (k + 1) false = false := by simpa using hb
          conv => whnf
          repeat (refine And.intro ?_ ?_; (focus (first | omega | ((conv => whnf); omega) | (simp [mulSz, Cont.len]; done) | (simp [mulSz, Cont.len]; omega))); conv => whnf)
          intro (tl2 : List Int)
          conv => whnf
          repeat (refine And.intro ?_ ?_; (focus (first | omega | ((conv => whnf); omega) | (simp [mulSz, Cont.len]; done) | (simp [mulSz, Cont.len]; omega))); conv => whnf)
          refine ⟨[0, 3], ((k + 1 + 1, tl2) : Nat × List Int), ?_, ?_, ?_⟩
          · conv => whnf
            repeat' (first | exact True.intro | rfl | refine And.intro ?_ ?_)
            all_goals (conv => whnf)
            all_goals (show mkP A (k + 1 + 1) ++ tl2 = ((mkP A (k + 1) ++ tl).drop 0).take (k + 1) ++ (([0] : List Int).drop 0).take 1 ++ tl2; rw [List.drop_zero, List.take_left' hlen]; simp only [mkP, hb]; rfl)
          · exact hlt
          · show n - (k + 1 + 1) < n - (k + 1)
            omega
      · skip
        have hge : k + 1 = n := by simp at hge; omega
        subst hge
        conv => whnf
        refine .inl ⟨tl, [0, 1], ?_⟩
        conv => whnf
        repeat' (first | exact True.intro | rfl | refine And.intro ?_ ?_)
        all_goals (show _ = _; first | rfl | (simp [hlen]; done) | (rw [hlen]; rfl))
end Go.Proofs.Ytflbhbiflcaocaa

set_option linter.unusedVariables false
set_option linter.unusedSimpArgs false
namespace Go.Proofs.Ytflbhbiflcaocaa
open Go Go.Fw
def cntP (B : List Bool) (m : Nat) : Nat → Nat
  | 0 => 0
  | k + 1 => if kb B m k then cntP B m k + 1 else cntP B m k
theorem cntP_le (B : List Bool) (m : Nat) : ∀ k, cntP B m k ≤ k
  | 0 => Nat.le_refl _
  | k + 1 => by
    have := cntP_le B m k
    simp only [cntP]
    split <;> omega
theorem cntP_mono (B : List Bool) (m : Nat) (k : Nat) : ∀ d, cntP B m k ≤ cntP B m (k + d)
  | 0 => Nat.le_refl _
  | d + 1 => by
    have := cntP_mono B m k d
    show cntP B m k ≤ cntP B m (k + d + 1)
    simp only [cntP]
    split <;> omega
def cellP (L B : List Bool) (m ln k : Nat) : Int := if kb B m k then (if cntP B m k < ln then mk (L.getD (cntP B m k) false) else 2) else 2
def fillP (L B : List Bool) (m ln : Nat) : Nat → List Int
  | 0 => []
  | k + 1 => fillP L B m ln k ++ [cellP L B m ln k]
theorem fillP_len (L B : List Bool) (m ln : Nat) : ∀ k, (fillP L B m ln k).length = k
  | 0 => rfl
  | k + 1 => by simp [fillP, fillP_len L B m ln k]
theorem set_at (l : List Int) (k r : Nat) (x y : Int) (hl : l.length = k) : ((l ++ [x] ++ List.replicate r (0 : Int))).set k y = l ++ [y] ++ List.replicate r 0 := by
  subst hl
  simp
noncomputable def c7 : Code := (Try.f7.body).getD .skip
def inv7 (L B : List Bool) (N : Int) (ln m ca cb n : Nat) : LInv := ⟨Nat, fun k => ⟨anyTo 60 [.slice 0 0 ln ca, .slice 1 0 m cb, .int .i64 N, .any, .any, .any, .any, .any, .slice 2 0 N.toNat N.toNat, .int .i64 (cntP B m k : Nat), .any, .any, .any, .any, .any, .any, .any, .any, .any, .any, .any, .any, .any, .any, .any, .int .i64 (N.toNat : Nat), .int .i64 k], [.seg false (.bools L), .seg false (.bools B), .seg true (.ints .u8 (fillP L B m ln k ++ List.replicate (n - k) 0))]⟩, fun k => k ≤ n, fun k => n - k⟩
set_option maxRecDepth 100000 in
theorem Fill_7 (L B : List Bool) (N : Int) (ln m ca cb n : Nat) (hl : ln ≤ L.length) (hlN : ln ≤ 140737488355328) (hm : m ≤ B.length) (hN : N = n) (hn : n ≤ 32768) (hp : patB m B = true) (hm1 : 0 < m) (hm2 : m ≤ 64) {o : FOut}
    (ho : (cntP B m n = ln ∧ o = rowX 2 [.dead, .dead] (fillP L B m ln n) fun s => .tup [s, .int .i64 0]) ∨ (cntP B m n ≠ ln ∧ o = nilOut [.dead, .dead] (.tup [.nils, .int .i64 1]))) :
    Fits Try.prog 7 ⟨[.slice 0 0 ln ca, .slice 1 0 m cb, .int .i64 N], [.seg false (.bools L), .seg false (.bools B)], [o]⟩ := by
  refine fits_of_body (C := cfgk 2) (c := c7) (ts := [6, 7]) wtok wmixed (fun | 6 => some (inv7 L B N ln m ca cb n) | _ => none) (fun _ => none)
    Try.func7 (by kernel_rfl) (by kernel_rfl) (by kernel_rfl) (by kernel_rfl) rfl ?_
  have hNn : N.toNat = n := by omega
  conv => whnf
  refine ⟨_, [1], isPattern_q B m cb hm (by omega), ?_⟩
  conv => whnf
  refine ⟨?_, ?_, ?_⟩
  · conv => whnf
    repeat' (first | exact True.intro | rfl | refine And.intro ?_ ?_)
  · conv => whnf
    repeat' (first | exact True.intro | rfl | refine And.intro ?_ ?_)
  conv => whnf
  refine tst_in (fun h_ => False.elim (by simp [hp] at h_ <;> omega)) (fun _ => ?_)
  conv => whnf
  refine tst_in (fun h_ => False.elim (by simp at h_ <;> omega)) (fun _ => ?_)
  conv => whnf
  refine tst_in (fun h_ => False.elim (by simp at h_ <;> omega)) (fun _ => ?_)
  conv => whnf
  refine ⟨⟨by omega, by omega, by show (1 : Int) * N ≤ 281474976710656; omega, by omega⟩, ?_⟩
  conv => whnf
  refine ⟨⟨[0, 1, 2], (0 : Nat), ?_, Nat.zero_le _⟩, ?_⟩
  · conv => whnf
    repeat' (first | exact True.intro | rfl | refine And.intro ?_ ?_)
    all_goals (show List.replicate n 0 = List.replicate N.toNat 0; rw [hNn])
  · intro (k : Nat) (hk : k ≤ n)
    have hlen := fillP_len L B m ln k
    have hcn := cntP_le B m k
    conv => whnf
    refine tst_in (fun hlt => ?_) (fun hge => ?_)
    · skip
      have hlt : k < n := by simp at hlt; omega
      have hr := rem_nat k m
      have hm0 := Nat.mod_lt k hm1
      have hq0 : 0 ≤ (k : Int) % (m : Int) := Int.emod_nonneg _ (by omega)
      have hq1 : (k : Int) % (m : Int) < m := Int.emod_lt_of_pos _ (by omega)
      have hcl : (fillP L B m ln k ++ List.replicate (n - k) (0 : Int)).length = n := by simp [hlen]; omega
      have hX : 0 + ((k : Int)).toNat = k := by omega
      have e1 : (fillP L B m ln k ++ List.replicate (n - k) (0 : Int)).set k 2 = fillP L B m ln k ++ [2] ++ List.replicate (n - (k + 1)) 0 := by
        rw [show n - k = (n - (k + 1)) + 1 by omega, List.replicate_succ, set_fill _ _ _ _ _ hlen]
      conv => whnf
      refine ⟨by repeat' (first | omega | (simp only [i64max]; omega) | refine And.intro ?_ ?_), ?_⟩
      conv => whnf
      refine ⟨by repeat' (first | omega | (simp only [i64max]; omega) | refine And.intro ?_ ?_), ?_⟩
      conv => whnf
      refine ⟨by repeat' (first | omega | (simp only [i64max]; omega) | refine And.intro ?_ ?_), ?_⟩
      conv => whnf
      refine ⟨by repeat' (first | omega | (simp only [i64max]; omega) | refine And.intro ?_ ?_), ?_⟩
      conv => whnf
      refine ⟨by repeat' (first | omega | (simp only [i64max]; omega) | refine And.intro ?_ ?_), ?_⟩
      conv => whnf
      refine tst_in (fun hb => ?_) (fun hb => ?_)
      · skip
        have hb : kb B m k = false := by unfold kb; rw [← hr]; simpa using hb
        have hF : fillP L B m ln (k + 1) = fillP L B m ln k ++ [2] := by simp [fillP, cellP, hb]
        have hC : cntP B m (k + 1) = cntP B m k := by simp [cntP, hb]
        conv => whnf
        refine ⟨by repeat' (first | omega | (simp only [i64max]; omega) | refine And.intro ?_ ?_), ?_⟩
        conv => whnf
        refine ⟨[0, 1, 2], k + 1, ?_, ?_, ?_⟩
        · conv => whnf
          repeat' (first | exact True.intro | rfl | refine And.intro ?_ ?_)
          all_goals (conv => whnf)
          all_goals first | rfl | (show ((cntP B m (k + 1) : Nat) : Int) = _; rw [hC]; done) | (show fillP L B m ln (k + 1) ++ List.replicate (n - (k + 1)) 0 = (fillP L B m ln k ++ List.replicate (n - k) 0).set (0 + ((k : Int)).toNat) 2; rw [hX, e1, hF]; done) | skip
        · show k + 1 ≤ n
          omega
        · show n - (k + 1) < n - k
          omega
      · skip
        have hb : kb B m k = true := by unfold kb; rw [← hr]; simpa using hb
        have hC : cntP B m (k + 1) = cntP B m k + 1 := by simp [cntP, hb]
        conv => whnf
        refine tst_in (fun hx => ?_) (fun hx => ?_)
        · skip
          have hx : cntP B m k < ln := by simp at hx; omega
          have hF : fillP L B m ln (k + 1) = fillP L B m ln k ++ [mk (L.getD (cntP B m k) false)] := by simp [fillP, cellP, hb, hx]
          have hY : 0 + ((cntP B m k : Nat) : Int).toNat = cntP B m k := by omega
          conv => whnf
          refine ⟨by repeat' (first | omega | (simp only [i64max]; omega) | refine And.intro ?_ ?_), ?_⟩
          conv => whnf
          refine ⟨by repeat' (first | omega | (simp only [i64max]; omega) | refine And.intro ?_ ?_), ?_⟩
          conv => whnf
          refine ⟨_, [], mark_q (L.getD (0 + ((cntP B m k : Nat) : Int).toNat) false), ?_⟩
          conv => whnf
          refine ⟨?_, ?_, ?_⟩
          · conv => whnf
            repeat' (first | exact True.intro | rfl | refine And.intro ?_ ?_)
          · conv => whnf
            repeat' (first | exact True.intro | rfl | refine And.intro ?_ ?_)
          conv => whnf
          have hcl2 : ((fillP L B m ln k ++ List.replicate (n - k) (0 : Int)).set (0 + ((k : Int)).toNat) 2).length = n := by rw [List.length_set, hcl]
          refine ⟨by repeat' (first | omega | (simp only [i64max]; omega) | refine And.intro ?_ ?_), ?_⟩
          conv => whnf
          refine ⟨by repeat' (first | omega | (simp only [i64max]; omega) | refine And.intro ?_ ?_), ?_⟩
          conv => whnf
          refine ⟨by repeat' (first | omega | (simp only [i64max]; omega) | refine And.intro ?_ ?_), ?_⟩
          conv => whnf
          refine ⟨by repeat' (first | omega | (simp only [i64max]; omega) | refine And.intro ?_ ?_), ?_⟩
          conv => whnf
          refine ⟨[0, 1, 2], k + 1, ?_, ?_, ?_⟩
          · conv => whnf
            repeat' (first | exact True.intro | rfl | refine And.intro ?_ ?_)
            all_goals (conv => whnf)
            all_goals first | rfl | (show ((cntP B m (k + 1) : Nat) : Int) = _; rw [hC]; rfl) | (show fillP L B m ln (k + 1) ++ List.replicate (n - (k + 1)) 0 = ((fillP L B m ln k ++ List.replicate (n - k) 0).set (0 + ((k : Int)).toNat) 2).set (0 + ((k : Int)).toNat) (mk (L.getD (0 + ((cntP B m k : Nat) : Int).toNat) false)); rw [hX, hY, e1, set_at _ _ _ _ _ hlen, hF]; done) | skip
          · show k + 1 ≤ n
            omega
          · show n - (k + 1) < n - k
            omega
        · skip
          have hx : ¬ cntP B m k < ln := by simp at hx; omega
          have hF : fillP L B m ln (k + 1) = fillP L B m ln k ++ [2] := by simp [fillP, cellP, hb, hx]
          conv => whnf
          refine ⟨by repeat' (first | omega | (simp only [i64max]; omega) | refine And.intro ?_ ?_), ?_⟩
          conv => whnf
          refine ⟨by repeat' (first | omega | (simp only [i64max]; omega) | refine And.intro ?_ ?_), ?_⟩
          conv => whnf
          refine ⟨[0, 1, 2], k + 1, ?_, ?_, ?_⟩
          · conv => whnf
            repeat' (first | exact True.intro | rfl | refine And.intro ?_ ?_)
            all_goals (conv => whnf)
            all_goals first | rfl | (show ((cntP B m (k + 1) : Nat) : Int) = _; rw [hC]; rfl) | (show fillP L B m ln (k + 1) ++ List.replicate (n - (k + 1)) 0 = (fillP L B m ln k ++ List.replicate (n - k) 0).set (0 + ((k : Int)).toNat) 2; rw [hX, e1, hF]; done) | skip
          · show k + 1 ≤ n
            omega
          · show n - (k + 1) < n - k
            omega
    · skip
      have hge : k = n := by simp at hge; omega
      subst hge
      rcases ho with ⟨hc, rfl⟩ | ⟨hc, rfl⟩
      · conv => whnf
        refine tst_in (fun h_ => False.elim (by simp [hc] at h_ <;> omega)) (fun _ => ?_)
        conv => whnf
        refine .inl ⟨(), [0, 1, 2], ?_⟩
        conv => whnf
        repeat' (first | exact True.intro | rfl | refine And.intro ?_ ?_)
        all_goals (show _ = _; first | rfl | (simp [hlen, hNn]; done) | skip)
      · conv => whnf
        refine tst_in (fun _ => ?_) (fun h_ => False.elim (hc (by simp at h_; omega)))
        conv => whnf
        refine .inl ⟨(), [0, 1], ?_⟩
        conv => whnf
        repeat' (first | exact True.intro | rfl | refine And.intro ?_ ?_)
end Go.Proofs.Ytflbhbiflcaocaa

set_option linter.unusedVariables false
set_option linter.unusedSimpArgs false
namespace Go.Proofs.Ytflbhbiflcaocaa
open Go Go.Fw
theorem getD_app (xs y : List Bool) (i : Nat) (h : i < xs.length) : (xs ++ y).getD i false = xs.getD i false := by
  rw [List.getD_eq_getElem?_getD, List.getD_eq_getElem?_getD, List.getElem?_append_left h]
theorem getI_app (xs y : List Int) (i : Nat) (h : i < xs.length) : (xs ++ y).getD i 0 = xs.getD i 0 := by
  rw [List.getD_eq_getElem?_getD, List.getD_eq_getElem?_getD, List.getElem?_append_left h]
theorem getD_take (A t : List Bool) (i n : Nat) (h : i < n) (hn : n ≤ A.length) : (A.take n ++ t).getD i false = A.getD i false := by
  rw [getD_app _ _ _ (by simp; omega), List.getD_eq_getElem?_getD, List.getD_eq_getElem?_getD, List.getElem?_take, if_pos h]
theorem kb_congr {B B1 : List Bool} {m : Nat} (h : ∀ i, i < m → B1.getD i false = B.getD i false) (hm : 0 < m) (i : Nat) : kb B1 m i = kb B m i := h _ (Nat.mod_lt _ hm)
theorem any1_congr {B B1 : List Bool} : ∀ {m : Nat}, (∀ i, i < m → B1.getD i false = B.getD i false) → any1 B1 m = any1 B m
  | 0, _ => rfl
  | m + 1, h => by simp only [any1, any1_congr (m := m) fun i hi => h i (by omega), h m (by omega)]
theorem patB_congr {B B1 : List Bool} {m : Nat} (h : ∀ i, i < m → B1.getD i false = B.getD i false) : patB m B1 = patB m B := by unfold patB; rw [any1_congr h]
theorem thinP_congr {A A1 B B1 : List Bool} {m : Nat} (h : ∀ i, i < m → B1.getD i false = B.getD i false) (hm : 0 < m) : ∀ {n : Nat}, (∀ i, i < n → A1.getD i false = A.getD i false) → thinP A1 B1 m n = thinP A B m n
  | 0, _ => rfl
  | n + 1, hA => by simp only [thinP, kb_congr h hm, thinP_congr h hm (n := n) fun i hi => hA i (by omega), hA n (by omega)]
theorem cntP_congr {B B1 : List Bool} {m : Nat} (h : ∀ i, i < m → B1.getD i false = B.getD i false) (hm : 0 < m) : ∀ n, cntP B1 m n = cntP B m n
  | 0 => rfl
  | n + 1 => by simp only [cntP, kb_congr h hm, cntP_congr h hm n]
theorem fillP_congr {B B1 : List Bool} {m : Nat} (L : List Bool) (ln : Nat) (h : ∀ i, i < m → B1.getD i false = B.getD i false) (hm : 0 < m) : ∀ n, fillP L B1 m ln n = fillP L B m ln n
  | 0 => rfl
  | n + 1 => by simp only [fillP, cellP, kb_congr h hm, cntP_congr h hm, fillP_congr L ln h hm n]
theorem mkP_congr {A A1 : List Bool} : ∀ {n : Nat}, (∀ i, i < n → A1.getD i false = A.getD i false) → mkP A1 n = mkP A n
  | 0, _ => rfl
  | n + 1, h => by simp only [mkP, mkP_congr (n := n) fun i hi => h i (by omega), h n (by omega)]
theorem patB_pos {B : List Bool} {m : Nat} (h : patB m B = true) : 0 < m ∧ m ≤ 64 := by
  simp only [patB, Bool.and_eq_true, decide_eq_true_eq] at h
  refine ⟨?_, h.1⟩
  rcases Nat.eq_zero_or_pos m with h0 | h0
  · subst h0; simp [any1] at h
  · exact h0

end Go.Proofs.Ytflbhbiflcaocaa

set_option linter.unusedVariables false
set_option linter.unusedSimpArgs false
namespace Go.Proofs.Ytflbhbiflcaocaa
open Go Go.Fw
def inv7n (B : List Bool) (N : Int) (m cb n : Nat) : LInv := ⟨Nat, fun k => ⟨anyTo 60 [.nils, .slice 0 0 m cb, .int .i64 N, .any, .any, .any, .any, .any, .slice 1 0 N.toNat N.toNat, .int .i64 0, .any, .any, .any, .any, .any, .any, .any, .any, .any, .any, .any, .any, .any, .any, .any, .int .i64 (N.toNat : Nat), .int .i64 k], [.seg false (.bools B), .seg true (.ints .u8 (fillP [] B m 0 k ++ List.replicate (n - k) 0))]⟩, fun k => k ≤ n, fun k => n - k⟩
set_option maxRecDepth 100000 in
theorem Fill_7n (B : List Bool) (N : Int) (m cb n : Nat) (hm : m ≤ B.length) (hN : N = n) (hn : n ≤ 32768) (hp : patB m B = true) (hm1 : 0 < m) (hm2 : m ≤ 64) (hz : ∀ j, j < n → kb B m j = false) :
    Fits Try.prog 7 ⟨[.nils, .slice 0 0 m cb, .int .i64 N], [.seg false (.bools B)], [rowX 1 [.dead] (fillP [] B m 0 n) fun s => .tup [s, .int .i64 0]]⟩ := by
  refine fits_of_body (C := cfgk 1) (c := c7) (ts := [6, 7]) wtok wmixed (fun | 6 => some (inv7n B N m cb n) | _ => none) (fun _ => none)
    Try.func7 (by kernel_rfl) (by kernel_rfl) (by kernel_rfl) (by kernel_rfl) rfl ?_
  have hNn : N.toNat = n := by omega
  conv => whnf
  refine ⟨_, [0], isPattern_q B m cb hm (by omega), ?_⟩
  conv => whnf
  refine ⟨?_, ?_, ?_⟩
  · conv => whnf
    repeat' (first | exact True.intro | rfl | refine And.intro ?_ ?_)
  · conv => whnf
    repeat' (first | exact True.intro | rfl | refine And.intro ?_ ?_)
  conv => whnf
  refine tst_in (fun h_ => False.elim (by simp [hp] at h_ <;> omega)) (fun _ => ?_)
  conv => whnf
  refine tst_in (fun h_ => False.elim (by simp at h_ <;> omega)) (fun _ => ?_)
  conv => whnf
  refine tst_in (fun h_ => False.elim (by simp at h_ <;> omega)) (fun _ => ?_)
  conv => whnf
  refine ⟨⟨by omega, by omega, by show (1 : Int) * N ≤ 281474976710656; omega, by omega⟩, ?_⟩
  conv => whnf
  refine ⟨⟨[0, 1], (0 : Nat), ?_, Nat.zero_le _⟩, ?_⟩
  · conv => whnf
    repeat' (first | exact True.intro | rfl | refine And.intro ?_ ?_)
    all_goals (show List.replicate n 0 = List.replicate N.toNat 0; rw [hNn])
  · intro (k : Nat) (hk : k ≤ n)
    have hlen := fillP_len [] B m 0 k
    conv => whnf
    refine tst_in (fun hlt => ?_) (fun hge => ?_)
    · skip
      have hlt : k < n := by simp at hlt; omega
      have hr := rem_nat k m
      have hm0 := Nat.mod_lt k hm1
      have hq0 : 0 ≤ (k : Int) % (m : Int) := Int.emod_nonneg _ (by omega)
      have hq1 : (k : Int) % (m : Int) < m := Int.emod_lt_of_pos _ (by omega)
      have hcl : (fillP [] B m 0 k ++ List.replicate (n - k) (0 : Int)).length = n := by simp [hlen]; omega
      have hX : 0 + ((k : Int)).toNat = k := by omega
      have e1 : (fillP [] B m 0 k ++ List.replicate (n - k) (0 : Int)).set k 2 = fillP [] B m 0 k ++ [2] ++ List.replicate (n - (k + 1)) 0 := by
        rw [show n - k = (n - (k + 1)) + 1 by omega, List.replicate_succ, set_fill _ _ _ _ _ hlen]
      have hb := hz k hlt
      have hF : fillP [] B m 0 (k + 1) = fillP [] B m 0 k ++ [2] := by rw [fillP]; simp [cellP, hb]
      conv => whnf
      refine ⟨by repeat' (first | omega | (simp only [i64max]; omega) | refine And.intro ?_ ?_), ?_⟩
      conv => whnf
      refine ⟨by repeat' (first | omega | (simp only [i64max]; omega) | refine And.intro ?_ ?_), ?_⟩
      conv => whnf
      refine ⟨by repeat' (first | omega | (simp only [i64max]; omega) | refine And.intro ?_ ?_), ?_⟩
      conv => whnf
      refine ⟨by repeat' (first | omega | (simp only [i64max]; omega) | refine And.intro ?_ ?_), ?_⟩
      conv => whnf
      refine ⟨by repeat' (first | omega | (simp only [i64max]; omega) | refine And.intro ?_ ?_), ?_⟩
      conv => whnf
      refine tst_in (fun _ => ?_) (fun h_ => False.elim (by
        have h2 : kb B m k = true := by unfold kb; rw [← hr]; simpa using h_
        rw [hb] at h2; cases h2))
      conv => whnf
      refine ⟨by repeat' (first | omega | (simp only [i64max]; omega) | refine And.intro ?_ ?_), ?_⟩
      conv => whnf
      refine ⟨[0, 1], k + 1, ?_, ?_, ?_⟩
      · conv => whnf
        repeat' (first | exact True.intro | rfl | refine And.intro ?_ ?_)
        all_goals (conv => whnf)
        all_goals first | rfl | (show fillP [] B m 0 (k + 1) ++ List.replicate (n - (k + 1)) 0 = (fillP [] B m 0 k ++ List.replicate (n - k) 0).set (0 + ((k : Int)).toNat) 2; rw [hX, e1, hF]; done) | skip
      · show k + 1 ≤ n
        omega
      · show n - (k + 1) < n - k
        omega
    · skip
      have hge : k = n := by simp at hge; omega
      subst hge
      conv => whnf
      refine .inl ⟨(), [0, 1], ?_⟩
      conv => whnf
      repeat' (first | exact True.intro | rfl | refine And.intro ?_ ?_)
      all_goals (show _ = _; first | rfl | (simp [hlen, hNn]; done) | skip)
theorem same_n0 (B : List Bool) (cb : Nat) : QFits Try.prog 9 ⟨[.nils, .slice 0 0 0 cb], [.seg false (.bools B)], .bool true⟩ := by
  refine qfits_of_body (C := cfgk 1) (c := c9) (ts := [4]) wtok wmixed (fun | 4 => some ⟨Unit, fun _ => ⟨anyTo 26 [.nils, .slice 0 0 0 cb, .any, .any, .any, .int .i64 0], [.seg false (.bools B)]⟩, fun _ => True, fun _ => 0⟩ | _ => none) (fun _ => none)
    Try.func9 (by kernel_rfl) (by kernel_rfl) (by kernel_rfl) (by kernel_rfl) (by kernel_rfl) rfl rfl ?_
  conv => whnf
  refine ⟨⟨[0], (), ?_, True.intro⟩, ?_⟩
  · conv => whnf
    repeat' (first | exact True.intro | rfl | refine And.intro ?_ ?_)
  · intro _ _
    conv => whnf
    repeat' (first | exact True.intro | rfl | refine And.intro ?_ ?_)
theorem thin_cnt (A B : List Bool) (m : Nat) : ∀ n, (thinP A B m n).length = cntP B m n
  | 0 => rfl
  | n + 1 => by
    have := thin_cnt A B m n
    simp only [thinP, cntP]
    split <;> simp [this]
theorem thin_pre (A B : List Bool) (m k : Nat) : ∀ d j, j < (thinP A B m k).length → (thinP A B m (k + d)).getD j false = (thinP A B m k).getD j false
  | 0, _, _ => rfl
  | d + 1, j, h => by
    have ih := thin_pre A B m k d j h
    have hl := cntP_mono B m k d
    rw [thin_cnt] at h
    show (thinP A B m (k + d + 1)).getD j false = _
    simp only [thinP]
    split
    · rw [getD_app _ _ _ (by rw [thin_cnt]; omega), ih]
    · exact ih
theorem thin_get (A B : List Bool) (m n i : Nat) (hi : i < n) (hb : kb B m i = true) : (thinP A B m n).getD (cntP B m i) false = A.getD i false := by
  have e : thinP A B m (i + 1) = thinP A B m i ++ [A.getD i false] := by simp [thinP, hb]
  have hl := thin_cnt A B m i
  have := thin_pre A B m (i + 1) (n - (i + 1)) (cntP B m i) (by rw [e]; simp [hl])
  rw [show i + 1 + (n - (i + 1)) = n by omega] at this
  rw [this, e, List.getD_eq_getElem?_getD, List.getElem?_append_right (by omega), hl, Nat.sub_self]
  rfl
/-- Every bit kept. -/
theorem thin_all (A B : List Bool) (m : Nat) : ∀ n, n ≤ A.length → (∀ i, i < n → kb B m i = true) → thinP A B m n = A.take n
  | 0, _, _ => by simp [thinP]
  | n + 1, h, hk => by
    rw [take_next A n false h, thinP, if_pos (hk n (by omega)), thin_all A B m n (by omega) fun i hi => hk i (by omega)]
theorem fill_get (L B : List Bool) (m ln : Nat) : ∀ n i, i < n → (fillP L B m ln n).getD i 0 = cellP L B m ln i
  | 0, i, h => absurd h (by omega)
  | n + 1, i, h => by
    have hl := fillP_len L B m ln n
    simp only [fillP]
    rcases Nat.lt_or_ge i n with h1 | h1
    · rw [getI_app _ _ _ (by omega)]; exact fill_get L B m ln n i h1
    · have : i = n := by omega
      subst this
      rw [List.getD_eq_getElem?_getD, List.getElem?_append_right (by omega), hl, Nat.sub_self]
      rfl
/-- What the law asks of a mark. -/
def wantP (A B : List Bool) (m i : Nat) : Int := if kb B m i then mk (A.getD i false) else 2
theorem cell_want (A B : List Bool) (m n i : Nat) (hi : i < n) : cellP (thinP A B m n) B m (thinP A B m n).length i = wantP A B m i := by
  unfold cellP wantP
  cases hb : kb B m i with
  | false => rfl
  | true =>
    have h1 := cntP_mono B m (i + 1) (n - (i + 1))
    rw [show i + 1 + (n - (i + 1)) = n by omega] at h1
    have h2 : cntP B m (i + 1) = cntP B m i + 1 := by simp [cntP, hb]
    simp only [if_true]
    rw [if_pos (by rw [thin_cnt]; omega), thin_get A B m n i hi hb]
theorem cell_app (L y B : List Bool) (m i : Nat) : cellP (L ++ y) B m L.length i = cellP L B m L.length i := by
  unfold cellP
  split
  · split
    · rename_i h; rw [getD_app _ _ _ h]
    · rfl
  · rfl
theorem fill_app (L y B : List Bool) (m : Nat) : ∀ n, fillP (L ++ y) B m L.length n = fillP L B m L.length n
  | 0 => rfl
  | n + 1 => by simp only [fillP, cell_app, fill_app L y B m n]
end Go.Proofs.Ytflbhbiflcaocaa

set_option linter.unusedVariables false
set_option linter.unusedSimpArgs false
namespace Go.Proofs.Ytflbhbiflcaocaa
open Go Go.Fw
def thinnedSpec (A B : List Bool) (n m ca cb : Nat) : FSpec := ⟨[.slice 0 0 n ca, .slice 1 0 m cb], [.seg false (.bools A), .seg false (.bools B)], [⟨Unit, fun _ => True, fun _ => .bool true, fun _ => [.dead, .dead]⟩]⟩
noncomputable def c4 : Code := (Try.f4.body).getD .skip
/-- The pattern that the law takes. -/
def patP (B : List Bool) (M : Nat) : List Bool := B.take M ++ [true]
theorem kb_one (i : Nat) : kb [true] 1 i = true := by unfold kb; rw [Nat.mod_one]; rfl
theorem patP_ok (B t : List Bool) (M : Nat) (hM : M ≤ B.length) (h : M ≤ 63) : patB (M + 1) (patP B M ++ t) = true := by
  have hl : (B.take M).length = M := by simp; omega
  have : (patP B M ++ t).getD M false = true := by
    unfold patP
    rw [List.append_assoc, List.getD_eq_getElem?_getD, List.getElem?_append_right (by omega), hl, Nat.sub_self]
    rfl
  simp only [patB, any1, this, Bool.or_true, Bool.and_true, decide_eq_true_eq]
  omega
theorem patP_len (B : List Bool) (M : Nat) (hM : M ≤ B.length) : (patP B M).length = M + 1 := by unfold patP; simp; omega
def sl4 (n' c3 m' c7 : Nat) (mm : AV) (i : AV) : List AV := anyTo 105 [.slice 2 0 (0 + n') c3, .slice 3 0 (0 + m' + 1) c7, .any, .any, .any, .any, .any, mm, .any, .any, .any, i]
def inv4 (A B : List Bool) (n' m' : Nat) (F : List Int) : LInv := ⟨List Bool × List Bool × Nat, fun p => ⟨sl4 n' (0 + n' + p.1.length) m' (0 + m' + 1 + p.2.1.length) (.slice 4 0 F.length F.length) (.int .i64 p.2.2), [.seg false (.bools A), .seg false (.bools B), .seg true (.bools (A.take n' ++ p.1)), .seg true (.bools (patP B m' ++ p.2.1)), .seg true (.ints .u8 F)]⟩, fun p => p.2.2 ≤ n', fun p => n' - p.2.2⟩
set_option maxRecDepth 100000 in
theorem thinned_R (A B : List Bool) (n m ca cb n' m' : Nat) (hn : n ≤ A.length) (hm : m ≤ B.length) (hca : n ≤ ca) (hcb : m ≤ cb) (hnK : min (n : Int) 32768 = (n' : Int)) (hn1 : n' ≤ n) (hn2 : n' ≤ 32768) (hmK : min (m : Int) 63 = (m' : Int)) (hm1 : m' ≤ m) (hm2 : m' ≤ 63)
    (hE : thinP A (patP B m') (m' + 1) n' ≠ []) : Fits Try.prog 4 (thinnedSpec A B n m ca cb) := by
  have hlA : (A.take n').length = n' := by simp; omega
  have hlB : (B.take m').length = m' := by simp; omega
  have hlP := patP_len B m' (by omega)
  have cA : ∀ t1 : List Bool, ∀ i, i < n' → (A.take n' ++ t1).getD i false = A.getD i false := fun t1 i hi => getD_take A t1 i n' hi (by omega)
  have cP : ∀ t3 : List Bool, ∀ i, i < m' + 1 → (patP B m' ++ t3).getD i false = (patP B m').getD i false := fun t3 i hi => getD_app _ _ _ (by omega)
  have lA : ∀ t1 : List Bool, n' ≤ (A.take n' ++ t1).length := fun t1 => by simp; omega
  have lP : ∀ t3 : List Bool, m' + 1 ≤ (patP B m' ++ t3).length := fun t3 => by rw [List.length_append, hlP]; omega
  have hp := fun t3 => patP_ok B t3 m' (by omega) hm2
  have hxl := thinP_le A (patP B m') (m' + 1) n'
  have hxc := thin_cnt A (patP B m') (m' + 1) n'
  have hF : ∀ i, i < n' → (fillP (thinP A (patP B m') (m' + 1) n') (patP B m') (m' + 1) (thinP A (patP B m') (m' + 1) n').length n').getD i 0 = wantP A (patP B m') (m' + 1) i := fun i hi => by
    rw [fill_get _ _ _ _ n' i hi, cell_want A _ _ n' i hi]
  have hFl := fillP_len (thinP A (patP B m') (m' + 1) n') (patP B m') (m' + 1) (thinP A (patP B m') (m' + 1) n').length n'
  have h5 : ∀ t1 t3 : List Bool, Fits Try.prog 5 ⟨[.slice 0 0 n' (0 + n' + t1.length), .slice 1 0 (m' + 1) (0 + m' + 1 + t3.length)], [.seg false (.bools (A.take n' ++ t1)), .seg false (.bools (patP B m' ++ t3))], [rowOut 2 [.dead, .dead] (thinP A (patP B m') (m' + 1) n') fun s => .tup [s, .int .i64 0]]⟩ := fun t1 t3 => by
    have := Thin_r5 (A.take n' ++ t1) (patP B m' ++ t3) n' (m' + 1) (0 + n' + t1.length) (0 + m' + 1 + t3.length) (lA t1) (lP t3) hn2 (hp t3) (by omega) (by omega) (by rw [thinP_congr (cP t3) (by omega) (cA t1)]; exact hE)
    rwa [thinP_congr (cP t3) (by omega) (cA t1)] at this
  have h7 : ∀ y t3 : List Bool, Fits Try.prog 7 ⟨[.slice 0 0 (thinP A (patP B m') (m' + 1) n').length ((thinP A (patP B m') (m' + 1) n').length + y.length), .slice 1 0 (m' + 1) (0 + m' + 1 + t3.length), .int .i64 (n' : Int)], [.seg false (.bools (thinP A (patP B m') (m' + 1) n' ++ y)), .seg false (.bools (patP B m' ++ t3))], [rowX 2 [.dead, .dead] (fillP (thinP A (patP B m') (m' + 1) n') (patP B m') (m' + 1) (thinP A (patP B m') (m' + 1) n').length n') fun s => .tup [s, .int .i64 0]]⟩ := fun y t3 => by
    have := Fill_7 (thinP A (patP B m') (m' + 1) n' ++ y) (patP B m' ++ t3) n' (thinP A (patP B m') (m' + 1) n').length (m' + 1) ((thinP A (patP B m') (m' + 1) n').length + y.length) (0 + m' + 1 + t3.length) n' (by simp) (by omega) (lP t3) rfl hn2 (hp t3) (by omega) (by omega) (.inl ⟨by rw [cntP_congr (cP t3) (by omega)]; exact hxc.symm, rfl⟩)
    rwa [fillP_congr _ _ (cP t3) (by omega), fill_app] at this
  generalize fillP (thinP A (patP B m') (m' + 1) n') (patP B m') (m' + 1) (thinP A (patP B m') (m' + 1) n').length n' = F at h7 hF hFl
  generalize thinP A (patP B m') (m' + 1) n' = xs at h5 h7 hxl hxc hE
  have hpos : 0 < n' := (by rcases Nat.eq_zero_or_pos n' with h | h; (exact absurd (List.eq_nil_of_length_eq_zero (by omega)) hE); exact h)
  have h5b : ∀ t1 : List Bool, Fits Try.prog 5 ⟨[.slice 0 0 n' (0 + n' + t1.length), .slice 1 0 1 1], [.seg false (.bools (A.take n' ++ t1)), .seg false (.bools [true])], [rowOut 2 [.dead, .dead] (A.take n') fun s => .tup [s, .int .i64 0]]⟩ := fun t1 => by
    have e : thinP (A.take n' ++ t1) [true] 1 n' = A.take n' := by rw [thin_all _ _ _ n' (lA t1) fun i _ => kb_one i, List.take_left' hlA]
    have := Thin_r5 (A.take n' ++ t1) [true] n' 1 (0 + n' + t1.length) 1 (lA t1) (by simp) hn2 (by rfl) (by omega) (by omega) (by rw [e]; intro h; rw [h] at hlA; simp at hlA; omega)
    rwa [e] at this
  have hS : ∀ (y t1 : List Bool) (c1 c2 : Nat), QFits Try.prog 9 ⟨[.slice 0 0 n' c1, .slice 1 0 n' c2], [.seg false (.bools (A.take n' ++ y)), .seg false (.bools (A.take n' ++ t1))], .bool true⟩ := fun y t1 c1 c2 => same_q _ _ n' c1 c2 (lA y) (lA t1) (fun i hi => by rw [cA y i hi, cA t1 i hi]) (by omega)
  refine fits_of_body (C := cfgk 2) (c := c4) (ts := [4]) wtok wmixed (fun | 11 => some (inv4 A B n' m' F) | _ => none) (fun _ => none)
    Try.func4 (by kernel_rfl) (by kernel_rfl) (by kernel_rfl) (by kernel_rfl) rfl ?_
  conv => whnf
  refine ⟨_, [], works_f, ?_⟩
  conv => whnf
  refine ⟨?_, ?_, ?_⟩
  · conv => whnf
    repeat' (first | exact True.intro | rfl | refine And.intro ?_ ?_ | omega)
    all_goals (conv => whnf)
    all_goals (try (first | rfl | omega | (simp; done)))
  · conv => whnf
    repeat' (first | exact True.intro | rfl | refine And.intro ?_ ?_ | omega)
    all_goals (conv => whnf)
    all_goals (try (first | rfl | omega | (simp; done)))
  conv => whnf
  refine ⟨?_, True.intro⟩
  intro _ _
  conv => whnf
  rw [hnK]
  conv => whnf
  repeat (refine And.intro ?_ ?_; (focus (first | omega | ((conv => whnf); omega) | (simp [mulSz, Cont.len]; done) | (simp [mulSz, Cont.len]; omega))); conv => whnf)
  intro (t1 : List Bool)
  conv => whnf
  rw [hmK]
  conv => whnf
  repeat (refine And.intro ?_ ?_; (focus (first | omega | ((conv => whnf); omega) | (simp [mulSz, Cont.len]; done) | (simp [mulSz, Cont.len]; omega))); conv => whnf)
  intro (t2 : List Bool)
  conv => whnf
  repeat (refine And.intro ?_ ?_; (focus (first | omega | ((conv => whnf); omega) | (simp [mulSz, Cont.len]; done) | (simp [mulSz, Cont.len]; omega))); conv => whnf)
  intro (t3 : List Bool)
  conv => whnf
  repeat (refine And.intro ?_ ?_; (focus (first | omega | ((conv => whnf); omega) | (simp [mulSz, Cont.len]; done) | (simp [mulSz, Cont.len]; omega))); conv => whnf)
  refine ⟨_, [3, 7], h5 t1 t3, ?_⟩
  conv => whnf
  refine ⟨?_, ?_, ?_⟩
  · conv => whnf
    repeat' (first | exact True.intro | rfl | refine And.intro ?_ ?_ | omega)
    all_goals (conv => whnf)
    all_goals (try (first | rfl | omega | (simp [mulSz]; done) | (show patP B m' ++ t3 = ((B.take m' ++ t2).take (0 + m')) ++ [true] ++ t3; rw [Nat.zero_add, List.take_left' hlB]; rfl) | (simp [mulSz]; omega)))
  · conv => whnf
    repeat' (first | exact True.intro | rfl | refine And.intro ?_ ?_ | omega)
    all_goals (conv => whnf)
    all_goals (try (first | rfl | omega | (simp [mulSz]; done) | (show patP B m' ++ t3 = ((B.take m' ++ t2).take (0 + m')) ++ [true] ++ t3; rw [Nat.zero_add, List.take_left' hlB]; rfl) | (simp [mulSz]; omega)))
  conv => whnf
  refine ⟨?_, True.intro⟩
  intro (y1 : List Bool) _
  conv => whnf
  refine ⟨_, [8, 7], h7 y1 t3, ?_⟩
  conv => whnf
  refine ⟨?_, ?_, ?_⟩
  · conv => whnf
    repeat' (first | exact True.intro | rfl | refine And.intro ?_ ?_ | omega)
    all_goals (conv => whnf)
    all_goals (try (first | rfl | omega | (simp [mulSz]; done) | (show patP B m' ++ t3 = ((B.take m' ++ t2).take (0 + m')) ++ [true] ++ t3; rw [Nat.zero_add, List.take_left' hlB]; rfl) | (simp [mulSz]; omega)))
  · conv => whnf
    repeat' (first | exact True.intro | rfl | refine And.intro ?_ ?_ | omega)
    all_goals (conv => whnf)
    all_goals (try (first | rfl | omega | (simp [mulSz]; done) | (show patP B m' ++ t3 = ((B.take m' ++ t2).take (0 + m')) ++ [true] ++ t3; rw [Nat.zero_add, List.take_left' hlB]; rfl) | (simp [mulSz]; omega)))
  conv => whnf
  refine ⟨?_, True.intro⟩
  intro _ _
  conv => whnf
  refine ⟨_, [3, 10], h5b t1, ?_⟩
  conv => whnf
  refine ⟨?_, ?_, ?_⟩
  · conv => whnf
    repeat' (first | exact True.intro | rfl | refine And.intro ?_ ?_ | omega)
    all_goals (conv => whnf)
    all_goals (try (first | rfl | omega | (simp [mulSz]; done) | (show patP B m' ++ t3 = ((B.take m' ++ t2).take (0 + m')) ++ [true] ++ t3; rw [Nat.zero_add, List.take_left' hlB]; rfl) | (simp [mulSz]; omega)))
  · conv => whnf
    repeat' (first | exact True.intro | rfl | refine And.intro ?_ ?_ | omega)
    all_goals (conv => whnf)
    all_goals (try (first | rfl | omega | (simp [mulSz]; done) | (show patP B m' ++ t3 = ((B.take m' ++ t2).take (0 + m')) ++ [true] ++ t3; rw [Nat.zero_add, List.take_left' hlB]; rfl) | (simp [mulSz]; omega)))
  conv => whnf
  refine ⟨?_, True.intro⟩
  intro (y2 : List Bool) _
  conv => whnf
  refine tst_in (fun h_ => False.elim (by simp [hFl] at h_ <;> omega)) (fun _ => ?_)
  conv => whnf
  refine ⟨_, [11, 3], hS y2 t1 ((A.take n').length + y2.length) (0 + n' + t1.length), ?_⟩
  conv => whnf
  refine ⟨?_, ?_, ?_⟩
  · conv => whnf
    repeat' (first | exact True.intro | rfl | refine And.intro ?_ ?_ | omega)
    all_goals (conv => whnf)
    all_goals (try (first | rfl | omega | (simp [mulSz]; done) | (show patP B m' ++ t3 = ((B.take m' ++ t2).take (0 + m')) ++ [true] ++ t3; rw [Nat.zero_add, List.take_left' hlB]; rfl) | (simp [mulSz]; omega)))
  · conv => whnf
    repeat' (first | exact True.intro | rfl | refine And.intro ?_ ?_ | omega)
    all_goals (conv => whnf)
    all_goals (try (first | rfl | omega | (simp [mulSz]; done) | (show patP B m' ++ t3 = ((B.take m' ++ t2).take (0 + m')) ++ [true] ++ t3; rw [Nat.zero_add, List.take_left' hlB]; rfl) | (simp [mulSz]; omega)))
  conv => whnf
  refine tst_in (fun h_ => False.elim (by simp at h_ <;> omega)) (fun _ => ?_)
  conv => whnf
  refine ⟨⟨[0, 1, 3, 7, 9], ((t1, t3, 0) : List Bool × List Bool × Nat), ?_, Nat.zero_le _⟩, ?_⟩
  · conv => whnf
    repeat' (first | exact True.intro | rfl | refine And.intro ?_ ?_ | omega)
    all_goals (conv => whnf)
    all_goals (try (first | rfl | omega | (simp [mulSz]; done) | (show patP B m' ++ t3 = ((B.take m' ++ t2).take (0 + m')) ++ [true] ++ t3; rw [Nat.zero_add, List.take_left' hlB]; rfl)))
  · clear h5 h5b h7 hS
    rintro ⟨t1, t3, k⟩ hk
    have hk : k ≤ n' := hk
    conv => whnf
    refine tst_in (fun hlt => ?_) (fun hge => ?_)
    · skip
      have hlt : k < n' := by simp at hlt; omega
      have hFk := hF k hlt
      have hAk := cA t1 k hlt
      have hX : 0 + ((k : Int)).toNat = k := by omega
      have hlAt := lA t1
      have hlPt := lP t3
      have hr : ((k : Int) % ((0 + m' + 1 : Nat) : Int)).toNat = k % (m' + 1) := by rw [Nat.zero_add]; exact rem_nat k (m' + 1)
      have hm0 := Nat.mod_lt k (show 0 < m' + 1 by omega)
      have hq0 : 0 ≤ (k : Int) % ((0 + m' + 1 : Nat) : Int) := Int.emod_nonneg _ (by omega)
      have hq1 : (k : Int) % ((0 + m' + 1 : Nat) : Int) < ((0 + m' + 1 : Nat) : Int) := Int.emod_lt_of_pos _ (by omega)
      have hPk := cP t3 (k % (m' + 1)) hm0
      conv => whnf
      refine ⟨by repeat' (first | omega | (simp only [i64max]; omega) | refine And.intro ?_ ?_), ?_⟩
      conv => whnf
      refine ⟨by repeat' (first | omega | (simp only [i64max]; omega) | refine And.intro ?_ ?_), ?_⟩
      conv => whnf
      refine tst_in (fun hb => ?_) (fun hb => ?_)
      · have hb : A.getD k false = true := by rw [← hAk]; exact (congrArg (fun i => (A.take n' ++ t1).getD i false) hX).symm.trans hb
        conv => whnf
        refine ⟨by repeat' (first | omega | (simp only [i64max]; omega) | refine And.intro ?_ ?_), ?_⟩
        conv => whnf
        refine ⟨by repeat' (first | omega | (simp only [i64max]; omega) | refine And.intro ?_ ?_), ?_⟩
        conv => whnf
        refine ⟨by repeat' (first | omega | (simp only [i64max]; omega) | refine And.intro ?_ ?_), ?_⟩
        conv => whnf
        refine tst_in (fun hc => ?_) (fun hc => ?_)
        · have hc : kb (patP B m') (m' + 1) k = false := by unfold kb; rw [← hPk, ← hr]; simpa using hc
          have hw : F.getD (0 + ((k : Int)).toNat) 0 = 2 := by rw [hX, hFk]; unfold wantP; rw [hc, hb]; rfl
          conv => whnf
          refine ⟨by repeat' (first | omega | (simp only [i64max]; omega) | refine And.intro ?_ ?_), ?_⟩
          conv => whnf
          refine ⟨by repeat' (first | omega | (simp only [i64max]; omega) | refine And.intro ?_ ?_), ?_⟩
          conv => whnf
          refine tst_in (fun h_ => False.elim (by rw [hw] at h_; simp at h_)) (fun _ => ?_)
          conv => whnf
          refine ⟨by repeat' (first | omega | (simp only [i64max]; omega) | refine And.intro ?_ ?_), ?_⟩
          conv => whnf
          refine ⟨[0, 1, 2, 3, 4], ((t1, t3, k + 1) : List Bool × List Bool × Nat), ?_, hlt, ?_⟩
          · conv => whnf
            repeat' (first | exact True.intro | rfl | refine And.intro ?_ ?_ | omega)
          · show n' - (k + 1) < n' - k
            omega
        · have hc : kb (patP B m') (m' + 1) k = true := by unfold kb; rw [← hPk, ← hr]; simpa using hc
          have hw : F.getD (0 + ((k : Int)).toNat) 0 = 1 := by rw [hX, hFk]; unfold wantP; rw [hc, hb]; rfl
          conv => whnf
          refine ⟨by repeat' (first | omega | (simp only [i64max]; omega) | refine And.intro ?_ ?_), ?_⟩
          conv => whnf
          refine ⟨by repeat' (first | omega | (simp only [i64max]; omega) | refine And.intro ?_ ?_), ?_⟩
          conv => whnf
          refine tst_in (fun h_ => False.elim (by rw [hw] at h_; simp at h_)) (fun _ => ?_)
          conv => whnf
          refine ⟨by repeat' (first | omega | (simp only [i64max]; omega) | refine And.intro ?_ ?_), ?_⟩
          conv => whnf
          refine ⟨[0, 1, 2, 3, 4], ((t1, t3, k + 1) : List Bool × List Bool × Nat), ?_, hlt, ?_⟩
          · conv => whnf
            repeat' (first | exact True.intro | rfl | refine And.intro ?_ ?_ | omega)
          · show n' - (k + 1) < n' - k
            omega
      · have hb : A.getD k false = false := by rw [← hAk]; exact (congrArg (fun i => (A.take n' ++ t1).getD i false) hX).symm.trans hb
        conv => whnf
        refine ⟨by repeat' (first | omega | (simp only [i64max]; omega) | refine And.intro ?_ ?_), ?_⟩
        conv => whnf
        refine ⟨by repeat' (first | omega | (simp only [i64max]; omega) | refine And.intro ?_ ?_), ?_⟩
        conv => whnf
        refine ⟨by repeat' (first | omega | (simp only [i64max]; omega) | refine And.intro ?_ ?_), ?_⟩
        conv => whnf
        refine tst_in (fun hc => ?_) (fun hc => ?_)
        · have hc : kb (patP B m') (m' + 1) k = false := by unfold kb; rw [← hPk, ← hr]; simpa using hc
          have hw : F.getD (0 + ((k : Int)).toNat) 0 = 2 := by rw [hX, hFk]; unfold wantP; rw [hc, hb]; rfl
          conv => whnf
          refine ⟨by repeat' (first | omega | (simp only [i64max]; omega) | refine And.intro ?_ ?_), ?_⟩
          conv => whnf
          refine ⟨by repeat' (first | omega | (simp only [i64max]; omega) | refine And.intro ?_ ?_), ?_⟩
          conv => whnf
          refine tst_in (fun h_ => False.elim (by rw [hw] at h_; simp at h_)) (fun _ => ?_)
          conv => whnf
          refine ⟨by repeat' (first | omega | (simp only [i64max]; omega) | refine And.intro ?_ ?_), ?_⟩
          conv => whnf
          refine ⟨[0, 1, 2, 3, 4], ((t1, t3, k + 1) : List Bool × List Bool × Nat), ?_, hlt, ?_⟩
          · conv => whnf
            repeat' (first | exact True.intro | rfl | refine And.intro ?_ ?_ | omega)
          · show n' - (k + 1) < n' - k
            omega
        · have hc : kb (patP B m') (m' + 1) k = true := by unfold kb; rw [← hPk, ← hr]; simpa using hc
          have hw : F.getD (0 + ((k : Int)).toNat) 0 = 0 := by rw [hX, hFk]; unfold wantP; rw [hc, hb]; rfl
          conv => whnf
          refine ⟨by repeat' (first | omega | (simp only [i64max]; omega) | refine And.intro ?_ ?_), ?_⟩
          conv => whnf
          refine ⟨by repeat' (first | omega | (simp only [i64max]; omega) | refine And.intro ?_ ?_), ?_⟩
          conv => whnf
          refine tst_in (fun h_ => False.elim (by rw [hw] at h_; simp at h_)) (fun _ => ?_)
          conv => whnf
          refine ⟨by repeat' (first | omega | (simp only [i64max]; omega) | refine And.intro ?_ ?_), ?_⟩
          conv => whnf
          refine ⟨[0, 1, 2, 3, 4], ((t1, t3, k + 1) : List Bool × List Bool × Nat), ?_, hlt, ?_⟩
          · conv => whnf
            repeat' (first | exact True.intro | rfl | refine And.intro ?_ ?_ | omega)
          · show n' - (k + 1) < n' - k
            omega
    · conv => whnf
      refine .inl ⟨(), [0, 1], ?_⟩
      conv => whnf
      repeat' (first | exact True.intro | rfl | refine And.intro ?_ ?_ | omega)
set_option maxRecDepth 100000 in
theorem thinned_N (A B : List Bool) (n m ca cb n' m' : Nat) (hn : n ≤ A.length) (hm : m ≤ B.length) (hca : n ≤ ca) (hcb : m ≤ cb) (hnK : min (n : Int) 32768 = (n' : Int)) (hn1 : n' ≤ n) (hn2 : n' ≤ 32768) (hmK : min (m : Int) 63 = (m' : Int)) (hm1 : m' ≤ m) (hm2 : m' ≤ 63)
    (hE : thinP A (patP B m') (m' + 1) n' = []) (h0 : 0 < n') : Fits Try.prog 4 (thinnedSpec A B n m ca cb) := by
  have hlA : (A.take n').length = n' := by simp; omega
  have hlB : (B.take m').length = m' := by simp; omega
  have hlP := patP_len B m' (by omega)
  have cA : ∀ t1 : List Bool, ∀ i, i < n' → (A.take n' ++ t1).getD i false = A.getD i false := fun t1 i hi => getD_take A t1 i n' hi (by omega)
  have cP : ∀ t3 : List Bool, ∀ i, i < m' + 1 → (patP B m' ++ t3).getD i false = (patP B m').getD i false := fun t3 i hi => getD_app _ _ _ (by omega)
  have lA : ∀ t1 : List Bool, n' ≤ (A.take n' ++ t1).length := fun t1 => by simp; omega
  have lP : ∀ t3 : List Bool, m' + 1 ≤ (patP B m' ++ t3).length := fun t3 => by rw [List.length_append, hlP]; omega
  have hp := fun t3 => patP_ok B t3 m' (by omega) hm2
  have hE0 : thinP A (patP B m') (m' + 1) n' = [] := hE
  have hz : ∀ j, j < n' → kb (patP B m') (m' + 1) j = false := fun j hj => by
    cases h : kb (patP B m') (m' + 1) j with
    | false => rfl
    | true =>
      have h1 := cntP_mono (patP B m') (m' + 1) (j + 1) (n' - (j + 1))
      rw [show j + 1 + (n' - (j + 1)) = n' by omega, ← thin_cnt A, ← thin_cnt A, hE0] at h1
      simp [thinP, h] at h1
  have hF : ∀ i, i < n' → (fillP [] (patP B m') (m' + 1) 0 n').getD i 0 = wantP A (patP B m') (m' + 1) i := fun i hi => by
    rw [fill_get _ _ _ _ n' i hi]; simp [cellP, wantP, hz i hi]
  have hFl := fillP_len [] (patP B m') (m' + 1) 0 n'
  have h7 : ∀ t3 : List Bool, Fits Try.prog 7 ⟨[.nils, .slice 0 0 (m' + 1) (0 + m' + 1 + t3.length), .int .i64 (n' : Int)], [.seg false (.bools (patP B m' ++ t3))], [rowX 1 [.dead] (fillP [] (patP B m') (m' + 1) 0 n') fun s => .tup [s, .int .i64 0]]⟩ := fun t3 => by
    have := Fill_7n (patP B m' ++ t3) n' (m' + 1) (0 + m' + 1 + t3.length) n' (lP t3) rfl hn2 (hp t3) (by omega) (by omega) (fun j hj => by rw [kb_congr (cP t3) (by omega)]; exact hz j hj)
    rwa [fillP_congr [] 0 (cP t3) (by omega)] at this
  generalize fillP [] (patP B m') (m' + 1) 0 n' = F at h7 hF hFl
  have h5 : ∀ t1 t3 : List Bool, Fits Try.prog 5 ⟨[.slice 0 0 n' (0 + n' + t1.length), .slice 1 0 (m' + 1) (0 + m' + 1 + t3.length)], [.seg false (.bools (A.take n' ++ t1)), .seg false (.bools (patP B m' ++ t3))], [nilOut [.dead, .dead] (.tup [.nils, .int .i64 0])]⟩ := fun t1 t3 => Thin_n5 (A.take n' ++ t1) (patP B m' ++ t3) n' (m' + 1) _ _ (lA t1) (lP t3) hn2 (hp t3) (by omega) (by omega) (by rw [thinP_congr (cP t3) (by omega) (cA t1)]; exact hE0)
  have hpos : 0 < n' := h0
  have h5b : ∀ t1 : List Bool, Fits Try.prog 5 ⟨[.slice 0 0 n' (0 + n' + t1.length), .slice 1 0 1 1], [.seg false (.bools (A.take n' ++ t1)), .seg false (.bools [true])], [rowOut 2 [.dead, .dead] (A.take n') fun s => .tup [s, .int .i64 0]]⟩ := fun t1 => by
    have e : thinP (A.take n' ++ t1) [true] 1 n' = A.take n' := by rw [thin_all _ _ _ n' (lA t1) fun i _ => kb_one i, List.take_left' hlA]
    have := Thin_r5 (A.take n' ++ t1) [true] n' 1 (0 + n' + t1.length) 1 (lA t1) (by simp) hn2 (by rfl) (by omega) (by omega) (by rw [e]; intro h; rw [h] at hlA; simp at hlA; omega)
    rwa [e] at this
  have hS : ∀ (y t1 : List Bool) (c1 c2 : Nat), QFits Try.prog 9 ⟨[.slice 0 0 n' c1, .slice 1 0 n' c2], [.seg false (.bools (A.take n' ++ y)), .seg false (.bools (A.take n' ++ t1))], .bool true⟩ := fun y t1 c1 c2 => same_q _ _ n' c1 c2 (lA y) (lA t1) (fun i hi => by rw [cA y i hi, cA t1 i hi]) (by omega)
  refine fits_of_body (C := cfgk 2) (c := c4) (ts := [4]) wtok wmixed (fun | 11 => some (inv4 A B n' m' F) | _ => none) (fun _ => none)
    Try.func4 (by kernel_rfl) (by kernel_rfl) (by kernel_rfl) (by kernel_rfl) rfl ?_
  conv => whnf
  refine ⟨_, [], works_f, ?_⟩
  conv => whnf
  refine ⟨?_, ?_, ?_⟩
  · conv => whnf
    repeat' (first | exact True.intro | rfl | refine And.intro ?_ ?_ | omega)
    all_goals (conv => whnf)
    all_goals (try (first | rfl | omega | (simp; done)))
  · conv => whnf
    repeat' (first | exact True.intro | rfl | refine And.intro ?_ ?_ | omega)
    all_goals (conv => whnf)
    all_goals (try (first | rfl | omega | (simp; done)))
  conv => whnf
  refine ⟨?_, True.intro⟩
  intro _ _
  conv => whnf
  rw [hnK]
  conv => whnf
  repeat (refine And.intro ?_ ?_; (focus (first | omega | ((conv => whnf); omega) | (simp [mulSz, Cont.len]; done) | (simp [mulSz, Cont.len]; omega))); conv => whnf)
  intro (t1 : List Bool)
  conv => whnf
  rw [hmK]
  conv => whnf
  repeat (refine And.intro ?_ ?_; (focus (first | omega | ((conv => whnf); omega) | (simp [mulSz, Cont.len]; done) | (simp [mulSz, Cont.len]; omega))); conv => whnf)
  intro (t2 : List Bool)
  conv => whnf
  repeat (refine And.intro ?_ ?_; (focus (first | omega | ((conv => whnf); omega) | (simp [mulSz, Cont.len]; done) | (simp [mulSz, Cont.len]; omega))); conv => whnf)
  intro (t3 : List Bool)
  conv => whnf
  repeat (refine And.intro ?_ ?_; (focus (first | omega | ((conv => whnf); omega) | (simp [mulSz, Cont.len]; done) | (simp [mulSz, Cont.len]; omega))); conv => whnf)
  refine ⟨_, [3, 7], h5 t1 t3, ?_⟩
  conv => whnf
  refine ⟨?_, ?_, ?_⟩
  · conv => whnf
    repeat' (first | exact True.intro | rfl | refine And.intro ?_ ?_ | omega)
    all_goals (conv => whnf)
    all_goals (try (first | rfl | omega | (simp [mulSz]; done) | (show patP B m' ++ t3 = ((B.take m' ++ t2).take (0 + m')) ++ [true] ++ t3; rw [Nat.zero_add, List.take_left' hlB]; rfl) | (simp [mulSz]; omega)))
  · conv => whnf
    repeat' (first | exact True.intro | rfl | refine And.intro ?_ ?_ | omega)
    all_goals (conv => whnf)
    all_goals (try (first | rfl | omega | (simp [mulSz]; done) | (show patP B m' ++ t3 = ((B.take m' ++ t2).take (0 + m')) ++ [true] ++ t3; rw [Nat.zero_add, List.take_left' hlB]; rfl) | (simp [mulSz]; omega)))
  conv => whnf
  refine ⟨?_, True.intro⟩
  intro _ _
  conv => whnf
  refine ⟨_, [7], h7 t3, ?_⟩
  conv => whnf
  refine ⟨?_, ?_, ?_⟩
  · conv => whnf
    repeat' (first | exact True.intro | rfl | refine And.intro ?_ ?_ | omega)
    all_goals (conv => whnf)
    all_goals (try (first | rfl | omega | (simp [mulSz]; done) | (show patP B m' ++ t3 = ((B.take m' ++ t2).take (0 + m')) ++ [true] ++ t3; rw [Nat.zero_add, List.take_left' hlB]; rfl) | (simp [mulSz]; omega)))
  · conv => whnf
    repeat' (first | exact True.intro | rfl | refine And.intro ?_ ?_ | omega)
    all_goals (conv => whnf)
    all_goals (try (first | rfl | omega | (simp [mulSz]; done) | (show patP B m' ++ t3 = ((B.take m' ++ t2).take (0 + m')) ++ [true] ++ t3; rw [Nat.zero_add, List.take_left' hlB]; rfl) | (simp [mulSz]; omega)))
  conv => whnf
  refine ⟨?_, True.intro⟩
  intro _ _
  conv => whnf
  refine ⟨_, [3, 9], h5b t1, ?_⟩
  conv => whnf
  refine ⟨?_, ?_, ?_⟩
  · conv => whnf
    repeat' (first | exact True.intro | rfl | refine And.intro ?_ ?_ | omega)
    all_goals (conv => whnf)
    all_goals (try (first | rfl | omega | (simp [mulSz]; done) | (show patP B m' ++ t3 = ((B.take m' ++ t2).take (0 + m')) ++ [true] ++ t3; rw [Nat.zero_add, List.take_left' hlB]; rfl) | (simp [mulSz]; omega)))
  · conv => whnf
    repeat' (first | exact True.intro | rfl | refine And.intro ?_ ?_ | omega)
    all_goals (conv => whnf)
    all_goals (try (first | rfl | omega | (simp [mulSz]; done) | (show patP B m' ++ t3 = ((B.take m' ++ t2).take (0 + m')) ++ [true] ++ t3; rw [Nat.zero_add, List.take_left' hlB]; rfl) | (simp [mulSz]; omega)))
  conv => whnf
  refine ⟨?_, True.intro⟩
  intro (y2 : List Bool) _
  conv => whnf
  refine tst_in (fun h_ => False.elim (by simp [hFl] at h_ <;> omega)) (fun _ => ?_)
  conv => whnf
  refine ⟨_, [10, 3], hS y2 t1 ((A.take n').length + y2.length) (0 + n' + t1.length), ?_⟩
  conv => whnf
  refine ⟨?_, ?_, ?_⟩
  · conv => whnf
    repeat' (first | exact True.intro | rfl | refine And.intro ?_ ?_ | omega)
    all_goals (conv => whnf)
    all_goals (try (first | rfl | omega | (simp [mulSz]; done) | (show patP B m' ++ t3 = ((B.take m' ++ t2).take (0 + m')) ++ [true] ++ t3; rw [Nat.zero_add, List.take_left' hlB]; rfl) | (simp [mulSz]; omega)))
  · conv => whnf
    repeat' (first | exact True.intro | rfl | refine And.intro ?_ ?_ | omega)
    all_goals (conv => whnf)
    all_goals (try (first | rfl | omega | (simp [mulSz]; done) | (show patP B m' ++ t3 = ((B.take m' ++ t2).take (0 + m')) ++ [true] ++ t3; rw [Nat.zero_add, List.take_left' hlB]; rfl) | (simp [mulSz]; omega)))
  conv => whnf
  refine ⟨⟨[0, 1, 3, 7, 8], ((t1, t3, 0) : List Bool × List Bool × Nat), ?_, Nat.zero_le _⟩, ?_⟩
  · conv => whnf
    repeat' (first | exact True.intro | rfl | refine And.intro ?_ ?_ | omega)
    all_goals (conv => whnf)
    all_goals (try (first | rfl | omega | (simp [mulSz]; done) | (show patP B m' ++ t3 = ((B.take m' ++ t2).take (0 + m')) ++ [true] ++ t3; rw [Nat.zero_add, List.take_left' hlB]; rfl)))
  · clear h5 h5b h7 hS
    rintro ⟨t1, t3, k⟩ hk
    have hk : k ≤ n' := hk
    conv => whnf
    refine tst_in (fun hlt => ?_) (fun hge => ?_)
    · skip
      have hlt : k < n' := by simp at hlt; omega
      have hFk := hF k hlt
      have hAk := cA t1 k hlt
      have hX : 0 + ((k : Int)).toNat = k := by omega
      have hlAt := lA t1
      have hlPt := lP t3
      have hr : ((k : Int) % ((0 + m' + 1 : Nat) : Int)).toNat = k % (m' + 1) := by rw [Nat.zero_add]; exact rem_nat k (m' + 1)
      have hm0 := Nat.mod_lt k (show 0 < m' + 1 by omega)
      have hq0 : 0 ≤ (k : Int) % ((0 + m' + 1 : Nat) : Int) := Int.emod_nonneg _ (by omega)
      have hq1 : (k : Int) % ((0 + m' + 1 : Nat) : Int) < ((0 + m' + 1 : Nat) : Int) := Int.emod_lt_of_pos _ (by omega)
      have hPk := cP t3 (k % (m' + 1)) hm0
      conv => whnf
      refine ⟨by repeat' (first | omega | (simp only [i64max]; omega) | refine And.intro ?_ ?_), ?_⟩
      conv => whnf
      refine ⟨by repeat' (first | omega | (simp only [i64max]; omega) | refine And.intro ?_ ?_), ?_⟩
      conv => whnf
      refine tst_in (fun hb => ?_) (fun hb => ?_)
      · have hb : A.getD k false = true := by rw [← hAk]; exact (congrArg (fun i => (A.take n' ++ t1).getD i false) hX).symm.trans hb
        conv => whnf
        refine ⟨by repeat' (first | omega | (simp only [i64max]; omega) | refine And.intro ?_ ?_), ?_⟩
        conv => whnf
        refine ⟨by repeat' (first | omega | (simp only [i64max]; omega) | refine And.intro ?_ ?_), ?_⟩
        conv => whnf
        refine ⟨by repeat' (first | omega | (simp only [i64max]; omega) | refine And.intro ?_ ?_), ?_⟩
        conv => whnf
        refine tst_in (fun hc => ?_) (fun hc => ?_)
        · have hc : kb (patP B m') (m' + 1) k = false := by unfold kb; rw [← hPk, ← hr]; simpa using hc
          have hw : F.getD (0 + ((k : Int)).toNat) 0 = 2 := by rw [hX, hFk]; unfold wantP; rw [hc, hb]; rfl
          conv => whnf
          refine ⟨by repeat' (first | omega | (simp only [i64max]; omega) | refine And.intro ?_ ?_), ?_⟩
          conv => whnf
          refine ⟨by repeat' (first | omega | (simp only [i64max]; omega) | refine And.intro ?_ ?_), ?_⟩
          conv => whnf
          refine tst_in (fun h_ => False.elim (by rw [hw] at h_; simp at h_)) (fun _ => ?_)
          conv => whnf
          refine ⟨by repeat' (first | omega | (simp only [i64max]; omega) | refine And.intro ?_ ?_), ?_⟩
          conv => whnf
          refine ⟨[0, 1, 2, 3, 4], ((t1, t3, k + 1) : List Bool × List Bool × Nat), ?_, hlt, ?_⟩
          · conv => whnf
            repeat' (first | exact True.intro | rfl | refine And.intro ?_ ?_ | omega)
          · show n' - (k + 1) < n' - k
            omega
        · have hc : kb (patP B m') (m' + 1) k = true := by unfold kb; rw [← hPk, ← hr]; simpa using hc
          have hw : F.getD (0 + ((k : Int)).toNat) 0 = 1 := by rw [hX, hFk]; unfold wantP; rw [hc, hb]; rfl
          conv => whnf
          refine ⟨by repeat' (first | omega | (simp only [i64max]; omega) | refine And.intro ?_ ?_), ?_⟩
          conv => whnf
          refine ⟨by repeat' (first | omega | (simp only [i64max]; omega) | refine And.intro ?_ ?_), ?_⟩
          conv => whnf
          refine tst_in (fun h_ => False.elim (by rw [hw] at h_; simp at h_)) (fun _ => ?_)
          conv => whnf
          refine ⟨by repeat' (first | omega | (simp only [i64max]; omega) | refine And.intro ?_ ?_), ?_⟩
          conv => whnf
          refine ⟨[0, 1, 2, 3, 4], ((t1, t3, k + 1) : List Bool × List Bool × Nat), ?_, hlt, ?_⟩
          · conv => whnf
            repeat' (first | exact True.intro | rfl | refine And.intro ?_ ?_ | omega)
          · show n' - (k + 1) < n' - k
            omega
      · have hb : A.getD k false = false := by rw [← hAk]; exact (congrArg (fun i => (A.take n' ++ t1).getD i false) hX).symm.trans hb
        conv => whnf
        refine ⟨by repeat' (first | omega | (simp only [i64max]; omega) | refine And.intro ?_ ?_), ?_⟩
        conv => whnf
        refine ⟨by repeat' (first | omega | (simp only [i64max]; omega) | refine And.intro ?_ ?_), ?_⟩
        conv => whnf
        refine ⟨by repeat' (first | omega | (simp only [i64max]; omega) | refine And.intro ?_ ?_), ?_⟩
        conv => whnf
        refine tst_in (fun hc => ?_) (fun hc => ?_)
        · have hc : kb (patP B m') (m' + 1) k = false := by unfold kb; rw [← hPk, ← hr]; simpa using hc
          have hw : F.getD (0 + ((k : Int)).toNat) 0 = 2 := by rw [hX, hFk]; unfold wantP; rw [hc, hb]; rfl
          conv => whnf
          refine ⟨by repeat' (first | omega | (simp only [i64max]; omega) | refine And.intro ?_ ?_), ?_⟩
          conv => whnf
          refine ⟨by repeat' (first | omega | (simp only [i64max]; omega) | refine And.intro ?_ ?_), ?_⟩
          conv => whnf
          refine tst_in (fun h_ => False.elim (by rw [hw] at h_; simp at h_)) (fun _ => ?_)
          conv => whnf
          refine ⟨by repeat' (first | omega | (simp only [i64max]; omega) | refine And.intro ?_ ?_), ?_⟩
          conv => whnf
          refine ⟨[0, 1, 2, 3, 4], ((t1, t3, k + 1) : List Bool × List Bool × Nat), ?_, hlt, ?_⟩
          · conv => whnf
            repeat' (first | exact True.intro | rfl | refine And.intro ?_ ?_ | omega)
          · show n' - (k + 1) < n' - k
            omega
        · have hc : kb (patP B m') (m' + 1) k = true := by unfold kb; rw [← hPk, ← hr]; simpa using hc
          have hw : F.getD (0 + ((k : Int)).toNat) 0 = 0 := by rw [hX, hFk]; unfold wantP; rw [hc, hb]; rfl
          conv => whnf
          refine ⟨by repeat' (first | omega | (simp only [i64max]; omega) | refine And.intro ?_ ?_), ?_⟩
          conv => whnf
          refine ⟨by repeat' (first | omega | (simp only [i64max]; omega) | refine And.intro ?_ ?_), ?_⟩
          conv => whnf
          refine tst_in (fun h_ => False.elim (by rw [hw] at h_; simp at h_)) (fun _ => ?_)
          conv => whnf
          refine ⟨by repeat' (first | omega | (simp only [i64max]; omega) | refine And.intro ?_ ?_), ?_⟩
          conv => whnf
          refine ⟨[0, 1, 2, 3, 4], ((t1, t3, k + 1) : List Bool × List Bool × Nat), ?_, hlt, ?_⟩
          · conv => whnf
            repeat' (first | exact True.intro | rfl | refine And.intro ?_ ?_ | omega)
          · show n' - (k + 1) < n' - k
            omega
    · conv => whnf
      refine .inl ⟨(), [0, 1], ?_⟩
      conv => whnf
      repeat' (first | exact True.intro | rfl | refine And.intro ?_ ?_ | omega)
set_option maxRecDepth 100000 in
theorem thinned_Z (A B : List Bool) (n m ca cb n' m' : Nat) (hn : n ≤ A.length) (hm : m ≤ B.length) (hca : n ≤ ca) (hcb : m ≤ cb) (hnK : min (n : Int) 32768 = (n' : Int)) (hn1 : n' ≤ n) (hn2 : n' ≤ 32768) (hmK : min (m : Int) 63 = (m' : Int)) (hm1 : m' ≤ m) (hm2 : m' ≤ 63)
    (h0 : n' = 0) : Fits Try.prog 4 (thinnedSpec A B n m ca cb) := by
  have hlA : (A.take n').length = n' := by simp; omega
  have hlB : (B.take m').length = m' := by simp; omega
  have hlP := patP_len B m' (by omega)
  have cA : ∀ t1 : List Bool, ∀ i, i < n' → (A.take n' ++ t1).getD i false = A.getD i false := fun t1 i hi => getD_take A t1 i n' hi (by omega)
  have cP : ∀ t3 : List Bool, ∀ i, i < m' + 1 → (patP B m' ++ t3).getD i false = (patP B m').getD i false := fun t3 i hi => getD_app _ _ _ (by omega)
  have lA : ∀ t1 : List Bool, n' ≤ (A.take n' ++ t1).length := fun t1 => by simp; omega
  have lP : ∀ t3 : List Bool, m' + 1 ≤ (patP B m' ++ t3).length := fun t3 => by rw [List.length_append, hlP]; omega
  have hp := fun t3 => patP_ok B t3 m' (by omega) hm2
  have hE0 : thinP A (patP B m') (m' + 1) n' = [] := by subst h0; rfl
  have hz : ∀ j, j < n' → kb (patP B m') (m' + 1) j = false := fun j hj => by
    cases h : kb (patP B m') (m' + 1) j with
    | false => rfl
    | true =>
      have h1 := cntP_mono (patP B m') (m' + 1) (j + 1) (n' - (j + 1))
      rw [show j + 1 + (n' - (j + 1)) = n' by omega, ← thin_cnt A, ← thin_cnt A, hE0] at h1
      simp [thinP, h] at h1
  have hF : ∀ i, i < n' → (fillP [] (patP B m') (m' + 1) 0 n').getD i 0 = wantP A (patP B m') (m' + 1) i := fun i hi => by
    rw [fill_get _ _ _ _ n' i hi]; simp [cellP, wantP, hz i hi]
  have hFl := fillP_len [] (patP B m') (m' + 1) 0 n'
  have h7 : ∀ t3 : List Bool, Fits Try.prog 7 ⟨[.nils, .slice 0 0 (m' + 1) (0 + m' + 1 + t3.length), .int .i64 (n' : Int)], [.seg false (.bools (patP B m' ++ t3))], [rowX 1 [.dead] (fillP [] (patP B m') (m' + 1) 0 n') fun s => .tup [s, .int .i64 0]]⟩ := fun t3 => by
    have := Fill_7n (patP B m' ++ t3) n' (m' + 1) (0 + m' + 1 + t3.length) n' (lP t3) rfl hn2 (hp t3) (by omega) (by omega) (fun j hj => by rw [kb_congr (cP t3) (by omega)]; exact hz j hj)
    rwa [fillP_congr [] 0 (cP t3) (by omega)] at this
  generalize fillP [] (patP B m') (m' + 1) 0 n' = F at h7 hF hFl
  have h5 : ∀ t1 t3 : List Bool, Fits Try.prog 5 ⟨[.slice 0 0 n' (0 + n' + t1.length), .slice 1 0 (m' + 1) (0 + m' + 1 + t3.length)], [.seg false (.bools (A.take n' ++ t1)), .seg false (.bools (patP B m' ++ t3))], [nilOut [.dead, .dead] (.tup [.nils, .int .i64 0])]⟩ := fun t1 t3 => Thin_n5 (A.take n' ++ t1) (patP B m' ++ t3) n' (m' + 1) _ _ (lA t1) (lP t3) hn2 (hp t3) (by omega) (by omega) (by rw [thinP_congr (cP t3) (by omega) (cA t1)]; exact hE0)
  have h5b : ∀ t1 : List Bool, Fits Try.prog 5 ⟨[.slice 0 0 n' (0 + n' + t1.length), .slice 1 0 1 1], [.seg false (.bools (A.take n' ++ t1)), .seg false (.bools [true])], [nilOut [.dead, .dead] (.tup [.nils, .int .i64 0])]⟩ := fun t1 => Thin_n5 (A.take n' ++ t1) [true] n' 1 _ 1 (lA t1) (by simp) hn2 (by rfl) (by omega) (by omega) (by subst h0; rfl)
  have hS : ∀ (t1 : List Bool) (c2 : Nat), QFits Try.prog 9 ⟨[.nils, .slice 0 0 n' c2], [.seg false (.bools (A.take n' ++ t1))], .bool true⟩ := fun t1 c2 => by subst h0; exact same_n0 _ _
  refine fits_of_body (C := cfgk 2) (c := c4) (ts := [4]) wtok wmixed (fun | 11 => some (inv4 A B n' m' F) | _ => none) (fun _ => none)
    Try.func4 (by kernel_rfl) (by kernel_rfl) (by kernel_rfl) (by kernel_rfl) rfl ?_
  conv => whnf
  refine ⟨_, [], works_f, ?_⟩
  conv => whnf
  refine ⟨?_, ?_, ?_⟩
  · conv => whnf
    repeat' (first | exact True.intro | rfl | refine And.intro ?_ ?_ | omega)
    all_goals (conv => whnf)
    all_goals (try (first | rfl | omega | (simp; done)))
  · conv => whnf
    repeat' (first | exact True.intro | rfl | refine And.intro ?_ ?_ | omega)
    all_goals (conv => whnf)
    all_goals (try (first | rfl | omega | (simp; done)))
  conv => whnf
  refine ⟨?_, True.intro⟩
  intro _ _
  conv => whnf
  rw [hnK]
  conv => whnf
  repeat (refine And.intro ?_ ?_; (focus (first | omega | ((conv => whnf); omega) | (simp [mulSz, Cont.len]; done) | (simp [mulSz, Cont.len]; omega))); conv => whnf)
  intro (t1 : List Bool)
  conv => whnf
  rw [hmK]
  conv => whnf
  repeat (refine And.intro ?_ ?_; (focus (first | omega | ((conv => whnf); omega) | (simp [mulSz, Cont.len]; done) | (simp [mulSz, Cont.len]; omega))); conv => whnf)
  intro (t2 : List Bool)
  conv => whnf
  repeat (refine And.intro ?_ ?_; (focus (first | omega | ((conv => whnf); omega) | (simp [mulSz, Cont.len]; done) | (simp [mulSz, Cont.len]; omega))); conv => whnf)
  intro (t3 : List Bool)
  conv => whnf
  repeat (refine And.intro ?_ ?_; (focus (first | omega | ((conv => whnf); omega) | (simp [mulSz, Cont.len]; done) | (simp [mulSz, Cont.len]; omega))); conv => whnf)
  refine ⟨_, [3, 7], h5 t1 t3, ?_⟩
  conv => whnf
  refine ⟨?_, ?_, ?_⟩
  · conv => whnf
    repeat' (first | exact True.intro | rfl | refine And.intro ?_ ?_ | omega)
    all_goals (conv => whnf)
    all_goals (try (first | rfl | omega | (simp [mulSz]; done) | (show patP B m' ++ t3 = ((B.take m' ++ t2).take (0 + m')) ++ [true] ++ t3; rw [Nat.zero_add, List.take_left' hlB]; rfl) | (simp [mulSz]; omega)))
  · conv => whnf
    repeat' (first | exact True.intro | rfl | refine And.intro ?_ ?_ | omega)
    all_goals (conv => whnf)
    all_goals (try (first | rfl | omega | (simp [mulSz]; done) | (show patP B m' ++ t3 = ((B.take m' ++ t2).take (0 + m')) ++ [true] ++ t3; rw [Nat.zero_add, List.take_left' hlB]; rfl) | (simp [mulSz]; omega)))
  conv => whnf
  refine ⟨?_, True.intro⟩
  intro _ _
  conv => whnf
  refine ⟨_, [7], h7 t3, ?_⟩
  conv => whnf
  refine ⟨?_, ?_, ?_⟩
  · conv => whnf
    repeat' (first | exact True.intro | rfl | refine And.intro ?_ ?_ | omega)
    all_goals (conv => whnf)
    all_goals (try (first | rfl | omega | (simp [mulSz]; done) | (show patP B m' ++ t3 = ((B.take m' ++ t2).take (0 + m')) ++ [true] ++ t3; rw [Nat.zero_add, List.take_left' hlB]; rfl) | (simp [mulSz]; omega)))
  · conv => whnf
    repeat' (first | exact True.intro | rfl | refine And.intro ?_ ?_ | omega)
    all_goals (conv => whnf)
    all_goals (try (first | rfl | omega | (simp [mulSz]; done) | (show patP B m' ++ t3 = ((B.take m' ++ t2).take (0 + m')) ++ [true] ++ t3; rw [Nat.zero_add, List.take_left' hlB]; rfl) | (simp [mulSz]; omega)))
  conv => whnf
  refine ⟨?_, True.intro⟩
  intro _ _
  conv => whnf
  refine ⟨_, [3, 9], h5b t1, ?_⟩
  conv => whnf
  refine ⟨?_, ?_, ?_⟩
  · conv => whnf
    repeat' (first | exact True.intro | rfl | refine And.intro ?_ ?_ | omega)
    all_goals (conv => whnf)
    all_goals (try (first | rfl | omega | (simp [mulSz]; done) | (show patP B m' ++ t3 = ((B.take m' ++ t2).take (0 + m')) ++ [true] ++ t3; rw [Nat.zero_add, List.take_left' hlB]; rfl) | (simp [mulSz]; omega)))
  · conv => whnf
    repeat' (first | exact True.intro | rfl | refine And.intro ?_ ?_ | omega)
    all_goals (conv => whnf)
    all_goals (try (first | rfl | omega | (simp [mulSz]; done) | (show patP B m' ++ t3 = ((B.take m' ++ t2).take (0 + m')) ++ [true] ++ t3; rw [Nat.zero_add, List.take_left' hlB]; rfl) | (simp [mulSz]; omega)))
  conv => whnf
  refine ⟨?_, True.intro⟩
  intro _ _
  conv => whnf
  refine tst_in (fun h_ => False.elim (by simp [hFl] at h_ <;> omega)) (fun _ => ?_)
  conv => whnf
  refine ⟨_, [3], hS t1 (0 + n' + t1.length), ?_⟩
  conv => whnf
  refine ⟨?_, ?_, ?_⟩
  · conv => whnf
    repeat' (first | exact True.intro | rfl | refine And.intro ?_ ?_ | omega)
    all_goals (conv => whnf)
    all_goals (try (first | rfl | omega | (simp [mulSz]; done) | (show patP B m' ++ t3 = ((B.take m' ++ t2).take (0 + m')) ++ [true] ++ t3; rw [Nat.zero_add, List.take_left' hlB]; rfl) | (simp [mulSz]; omega)))
  · conv => whnf
    repeat' (first | exact True.intro | rfl | refine And.intro ?_ ?_ | omega)
    all_goals (conv => whnf)
    all_goals (try (first | rfl | omega | (simp [mulSz]; done) | (show patP B m' ++ t3 = ((B.take m' ++ t2).take (0 + m')) ++ [true] ++ t3; rw [Nat.zero_add, List.take_left' hlB]; rfl) | (simp [mulSz]; omega)))
  conv => whnf
  refine ⟨⟨[0, 1, 3, 7, 8], ((t1, t3, 0) : List Bool × List Bool × Nat), ?_, Nat.zero_le _⟩, ?_⟩
  · conv => whnf
    repeat' (first | exact True.intro | rfl | refine And.intro ?_ ?_ | omega)
    all_goals (conv => whnf)
    all_goals (try (first | rfl | omega | (simp [mulSz]; done) | (show patP B m' ++ t3 = ((B.take m' ++ t2).take (0 + m')) ++ [true] ++ t3; rw [Nat.zero_add, List.take_left' hlB]; rfl)))
  · clear h5 h5b h7 hS
    rintro ⟨t1, t3, k⟩ hk
    have hk : k ≤ n' := hk
    conv => whnf
    refine tst_in (fun hlt => ?_) (fun hge => ?_)
    · skip
      have hlt : k < n' := by simp at hlt; omega
      have hFk := hF k hlt
      have hAk := cA t1 k hlt
      have hX : 0 + ((k : Int)).toNat = k := by omega
      have hlAt := lA t1
      have hlPt := lP t3
      have hr : ((k : Int) % ((0 + m' + 1 : Nat) : Int)).toNat = k % (m' + 1) := by rw [Nat.zero_add]; exact rem_nat k (m' + 1)
      have hm0 := Nat.mod_lt k (show 0 < m' + 1 by omega)
      have hq0 : 0 ≤ (k : Int) % ((0 + m' + 1 : Nat) : Int) := Int.emod_nonneg _ (by omega)
      have hq1 : (k : Int) % ((0 + m' + 1 : Nat) : Int) < ((0 + m' + 1 : Nat) : Int) := Int.emod_lt_of_pos _ (by omega)
      have hPk := cP t3 (k % (m' + 1)) hm0
      conv => whnf
      refine ⟨by repeat' (first | omega | (simp only [i64max]; omega) | refine And.intro ?_ ?_), ?_⟩
      conv => whnf
      refine ⟨by repeat' (first | omega | (simp only [i64max]; omega) | refine And.intro ?_ ?_), ?_⟩
      conv => whnf
      refine tst_in (fun hb => ?_) (fun hb => ?_)
      · have hb : A.getD k false = true := by rw [← hAk]; exact (congrArg (fun i => (A.take n' ++ t1).getD i false) hX).symm.trans hb
        conv => whnf
        refine ⟨by repeat' (first | omega | (simp only [i64max]; omega) | refine And.intro ?_ ?_), ?_⟩
        conv => whnf
        refine ⟨by repeat' (first | omega | (simp only [i64max]; omega) | refine And.intro ?_ ?_), ?_⟩
        conv => whnf
        refine ⟨by repeat' (first | omega | (simp only [i64max]; omega) | refine And.intro ?_ ?_), ?_⟩
        conv => whnf
        refine tst_in (fun hc => ?_) (fun hc => ?_)
        · have hc : kb (patP B m') (m' + 1) k = false := by unfold kb; rw [← hPk, ← hr]; simpa using hc
          have hw : F.getD (0 + ((k : Int)).toNat) 0 = 2 := by rw [hX, hFk]; unfold wantP; rw [hc, hb]; rfl
          conv => whnf
          refine ⟨by repeat' (first | omega | (simp only [i64max]; omega) | refine And.intro ?_ ?_), ?_⟩
          conv => whnf
          refine ⟨by repeat' (first | omega | (simp only [i64max]; omega) | refine And.intro ?_ ?_), ?_⟩
          conv => whnf
          refine tst_in (fun h_ => False.elim (by rw [hw] at h_; simp at h_)) (fun _ => ?_)
          conv => whnf
          refine ⟨by repeat' (first | omega | (simp only [i64max]; omega) | refine And.intro ?_ ?_), ?_⟩
          conv => whnf
          refine ⟨[0, 1, 2, 3, 4], ((t1, t3, k + 1) : List Bool × List Bool × Nat), ?_, hlt, ?_⟩
          · conv => whnf
            repeat' (first | exact True.intro | rfl | refine And.intro ?_ ?_ | omega)
          · show n' - (k + 1) < n' - k
            omega
        · have hc : kb (patP B m') (m' + 1) k = true := by unfold kb; rw [← hPk, ← hr]; simpa using hc
          have hw : F.getD (0 + ((k : Int)).toNat) 0 = 1 := by rw [hX, hFk]; unfold wantP; rw [hc, hb]; rfl
          conv => whnf
          refine ⟨by repeat' (first | omega | (simp only [i64max]; omega) | refine And.intro ?_ ?_), ?_⟩
          conv => whnf
          refine ⟨by repeat' (first | omega | (simp only [i64max]; omega) | refine And.intro ?_ ?_), ?_⟩
          conv => whnf
          refine tst_in (fun h_ => False.elim (by rw [hw] at h_; simp at h_)) (fun _ => ?_)
          conv => whnf
          refine ⟨by repeat' (first | omega | (simp only [i64max]; omega) | refine And.intro ?_ ?_), ?_⟩
          conv => whnf
          refine ⟨[0, 1, 2, 3, 4], ((t1, t3, k + 1) : List Bool × List Bool × Nat), ?_, hlt, ?_⟩
          · conv => whnf
            repeat' (first | exact True.intro | rfl | refine And.intro ?_ ?_ | omega)
          · show n' - (k + 1) < n' - k
            omega
      · have hb : A.getD k false = false := by rw [← hAk]; exact (congrArg (fun i => (A.take n' ++ t1).getD i false) hX).symm.trans hb
        conv => whnf
        refine ⟨by repeat' (first | omega | (simp only [i64max]; omega) | refine And.intro ?_ ?_), ?_⟩
        conv => whnf
        refine ⟨by repeat' (first | omega | (simp only [i64max]; omega) | refine And.intro ?_ ?_), ?_⟩
        conv => whnf
        refine ⟨by repeat' (first | omega | (simp only [i64max]; omega) | refine And.intro ?_ ?_), ?_⟩
        conv => whnf
        refine tst_in (fun hc => ?_) (fun hc => ?_)
        · have hc : kb (patP B m') (m' + 1) k = false := by unfold kb; rw [← hPk, ← hr]; simpa using hc
          have hw : F.getD (0 + ((k : Int)).toNat) 0 = 2 := by rw [hX, hFk]; unfold wantP; rw [hc, hb]; rfl
          conv => whnf
          refine ⟨by repeat' (first | omega | (simp only [i64max]; omega) | refine And.intro ?_ ?_), ?_⟩
          conv => whnf
          refine ⟨by repeat' (first | omega | (simp only [i64max]; omega) | refine And.intro ?_ ?_), ?_⟩
          conv => whnf
          refine tst_in (fun h_ => False.elim (by rw [hw] at h_; simp at h_)) (fun _ => ?_)
          conv => whnf
          refine ⟨by repeat' (first | omega | (simp only [i64max]; omega) | refine And.intro ?_ ?_), ?_⟩
          conv => whnf
          refine ⟨[0, 1, 2, 3, 4], ((t1, t3, k + 1) : List Bool × List Bool × Nat), ?_, hlt, ?_⟩
          · conv => whnf
            repeat' (first | exact True.intro | rfl | refine And.intro ?_ ?_ | omega)
          · show n' - (k + 1) < n' - k
            omega
        · have hc : kb (patP B m') (m' + 1) k = true := by unfold kb; rw [← hPk, ← hr]; simpa using hc
          have hw : F.getD (0 + ((k : Int)).toNat) 0 = 0 := by rw [hX, hFk]; unfold wantP; rw [hc, hb]; rfl
          conv => whnf
          refine ⟨by repeat' (first | omega | (simp only [i64max]; omega) | refine And.intro ?_ ?_), ?_⟩
          conv => whnf
          refine ⟨by repeat' (first | omega | (simp only [i64max]; omega) | refine And.intro ?_ ?_), ?_⟩
          conv => whnf
          refine tst_in (fun h_ => False.elim (by rw [hw] at h_; simp at h_)) (fun _ => ?_)
          conv => whnf
          refine ⟨by repeat' (first | omega | (simp only [i64max]; omega) | refine And.intro ?_ ?_), ?_⟩
          conv => whnf
          refine ⟨[0, 1, 2, 3, 4], ((t1, t3, k + 1) : List Bool × List Bool × Nat), ?_, hlt, ?_⟩
          · conv => whnf
            repeat' (first | exact True.intro | rfl | refine And.intro ?_ ?_ | omega)
          · show n' - (k + 1) < n' - k
            omega
    · conv => whnf
      refine .inl ⟨(), [0, 1], ?_⟩
      conv => whnf
      repeat' (first | exact True.intro | rfl | refine And.intro ?_ ?_ | omega)
end Go.Proofs.Ytflbhbiflcaocaa

set_option linter.unusedVariables false
set_option linter.unusedSimpArgs false
namespace Go.Proofs.Ytflbhbiflcaocaa
open Go Go.Fw
theorem thinned_f (A B : List Bool) (n m ca cb : Nat) (hn : n ≤ A.length) (hm : m ≤ B.length) (hca : n ≤ ca) (hcb : m ≤ cb) : Fits Try.prog 4 (thinnedSpec A B n m ca cb) := by
  obtain ⟨n', hnK, hn1, hn2⟩ : ∃ K : Nat, min (n : Int) 32768 = (K : Int) ∧ K ≤ n ∧ K ≤ 32768 := ⟨min n 32768, by omega, by omega, by omega⟩
  obtain ⟨m', hmK, hm1, hm2⟩ : ∃ K : Nat, min (m : Int) 63 = (K : Int) ∧ K ≤ m ∧ K ≤ 63 := ⟨min m 63, by omega, by omega, by omega⟩
  rcases Nat.eq_zero_or_pos n' with h0 | h0
  · exact thinned_Z A B n m ca cb n' m' hn hm hca hcb hnK hn1 hn2 hmK hm1 hm2 h0
  · by_cases hE : thinP A (patP B m') (m' + 1) n' = []
    · exact thinned_N A B n m ca cb n' m' hn hm hca hcb hnK hn1 hn2 hmK hm1 hm2 hE h0
    · exact thinned_R A B n m ca cb n' m' hn hm hca hcb hnK hn1 hn2 hmK hm1 hm2 hE
end Go.Proofs.Ytflbhbiflcaocaa

namespace Go.Proofs.Ytflbhbiflcaocaa
open Go Go.Fw
namespace hardThinned
open Go.ChangeShapes Go.WideShapes Go.ChangeAt Go.RowKit
theorem own : ownKnob Try.prog.godebug = none := by kernel_rfl
theorem laid : laidOutB Try.prog = true := by kernel_rfl

set_option maxRecDepth 100000 in
theorem lifted (os : Os) (started : os.Started) (H : Type) (enc : TypeId × Value → H) :
    ReturnsInHanded {} Try.checked os 4 .any (Rows.hardThinnedSpec.pre6 enc Try.prog Try.f4 Rows.hardThinnedRow.domain false) (Rows.hardThinnedSpec.post enc Try.prog Try.f4 false true false false) := by
  refine returnsInHanded_of_change_sized (C := Try.checked) own started (by kernel_rfl) Try.func4
    (ChangeSpec.witness6 (enc := enc) (C := Try.checked) false ⟨#[], #[.slice none 0 0, .slice none 0 0], []⟩ 8 (by kernel_rfl) (by kernel_rfl) (by kernel_rfl) (by kernel_rfl)) ?_
  intro W base args ds gs before hval0 hW _ hsz0 _
  have hsz : (DataW.weightsEach Try.prog (Try.f4.params.toList ++ Rows.hardThinnedSpec.plain.varTypes Try.prog) (ds ++ gs)).all (· ≤ reachBytes) = true := hsz0
  clear hsz0
  have hval : ∀ (j : Nat) t v, Try.f4.params[j]? = some t → args[j]? = some v → Value.okWide Try.prog W .any base t v := hval0
  have hW' := hW
  obtain ⟨p, q, hA0, hV, rfl, hfz, hnd⟩ := hW
  have hA : DataW.TrodAll enc Try.prog W 0 (fun _ => true) true Try.f4.params.toList args.toList ds p := hA0
  rw [Try.params4] at hA hval hsz
  obtain ⟨v0, vs0, d0, ds0, p0, q0, hargs, rfl, rfl, h0, r0⟩ := trodAll_cons hA
  obtain ⟨v1, vs1, d1, ds1, p1, q1, rfl, rfl, rfl, h1, r1⟩ := trodAll_cons r0
  obtain ⟨rfl, rfl, rfl⟩ := trodAll_nil r1
  obtain rfl : args = #[v0, v1] := by cases args; simp_all
  obtain ⟨rfl, rfl⟩ := trodVars_none hV
  obtain ⟨a0, l0, z0, hv0⟩ := okWide_slice Try.underlying22 (hval 0 22 v0 rfl rfl)
  obtain ⟨n0, c0, A0, pl0, hn0, hl0, hs0, hc0⟩ := arg_bools Try.underlying22 Try.underlying4 (by kernel_rfl) hv0 h0
  have by0 : Try.prog.bytesOf 4 = 1 := by kernel_rfl
  have hN0 : n0 * 1 ≤ 140737488351232 := by
    rcases hs0 with ⟨h, _⟩ | ⟨xs, ys, rfl, hx, hy⟩
    · omega
    · have := sized_slice hsz (j := 0) (t := 22) (e := 4) rfl rfl Try.underlying22
      rw [by0] at this
      simp only [reachBytes] at this
      omega
  obtain ⟨a1, l1, z1, hv1⟩ := okWide_slice Try.underlying22 (hval 1 22 v1 rfl rfl)
  obtain ⟨n1, c1, A1, pl1, hn1, hl1, hs1, hc1⟩ := arg_bools Try.underlying22 Try.underlying4 (by kernel_rfl) hv1 h1
  have by1 : Try.prog.bytesOf 4 = 1 := by kernel_rfl
  have hN1 : n1 * 1 ≤ 140737488351232 := by
    rcases hs1 with ⟨h, _⟩ | ⟨xs, ys, rfl, hx, hy⟩
    · omega
    · have := sized_slice hsz (j := 1) (t := 22) (e := 4) rfl rfl Try.underlying22
      rw [by1] at this
      simp only [reachBytes] at this
      omega
  clear hA0 hval0
  obtain ⟨dd0, cc0⟩ := hc0 [pl0, pl1] 0 (by simp) rfl
  obtain ⟨dd1, cc1⟩ := hc1 [pl0, pl1] 1 (by simp) rfl
  have walk := (thinned_f A0 A1 n0 n1 c0 c1 (by omega) (by omega) hn0 hn1).calls W [pl0, pl1] [v0, v1] (heap_args rfl fun i s hs => by
      match i, hs with
      | 0, hs => simp only [thinnedSpec, List.getElem?_cons_zero, Option.some.injEq] at hs; subst hs; exact ⟨_, rfl, cc0⟩
      | 1, hs => simp only [thinnedSpec, List.getElem?_cons_succ, List.getElem?_cons_zero, Option.some.injEq] at hs; subst hs; exact ⟨_, rfl, cc1⟩
      | i + 2, hs => simp [thinnedSpec] at hs) (by simp only [thinnedSpec, Dens]; exact ⟨_, _, rfl, dd0, ⟨_, _, rfl, dd1, rfl⟩⟩) (x := .bool true) (v := .bool true) rfl (by
      intro o ho y hy
      simp [thinnedSpec] at ho
      subst ho; rfl)
  refine walk.mono fun e W' ⟨he, hg⟩ => ?_
  subst he
  exact ⟨_, rfl, law_done laid rfl rfl Try.underlying4 (by kernel_rfl) hW' rfl hg⟩

theorem over : Rows.hardThinnedRow.holds Try.pinned (OpenSpec.ofChange Rows.hardThinnedSpec) :=
  OpenClaim.holds_of_wide 4 Try.f4 rfl rfl rfl rfl rfl rfl rfl ⟨rfl, rfl, rfl, rfl, rfl⟩ rfl rfl rfl rfl rfl (by kernel_rfl) Try.func4 (by kernel_rfl)
    (of_decide_eq_true (by kernel_rfl)) (by unfold Func.isWrapper; first | (rw [if_pos (by decide +kernel)]; kernel_rfl) | (rw [if_neg (by decide +kernel)]; exact ⟨rfl, rfl⟩))
    (fun os started H enc _ => lifted os started H enc)

theorem proved : Rows.HardThinnedSaid := over
end hardThinned
end Go.Proofs.Ytflbhbiflcaocaa
