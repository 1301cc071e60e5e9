/-
  foghornlaw22.HardThins returns true for all rows of bools and all numbers, and leaves the rows that came in as they were. No condition.
-/
import Derived.Test.YtflbhbiflcaocaaRows
import Derived.Test.YtflbhbiflcaocaaFw
import Derived.Test.YtflbhbiflcaocaaFa
import Derived.WalkKit
import Derived.ProofKit
import Derived.OpenShut
import Derived.SizedLaws
set_option linter.unusedSimpArgs false
set_option linter.unusedVariables false
set_option linter.unusedVariables false
set_option linter.unusedSimpArgs false
namespace Go.Proofs.Ytflbhbiflcaocaa
open Go Go.Fw
def tys : List (Nat × TyI) := [
  (2, ⟨.int .i64, 1, 8, .int .i64 0⟩),
  (3, ⟨.int .i64, 1, 8, .int .i64 0⟩),
  (4, ⟨.bool, 1, 1, .bool false⟩),
  (5, ⟨.int .u8, 1, 1, .int .u8 0⟩),
  (22, ⟨.slice 4, 1, 24, .slice none 0 0⟩),
  (23, ⟨.int .i64, 1, 8, .int .i64 0⟩),
  (26, ⟨.slice 38, 1, 24, .slice none 0 0⟩),
  (29, ⟨.slice 5, 1, 24, .slice none 0 0⟩),
  (38, ⟨.int .u8, 1, 1, .int .u8 0⟩)]
theorem tok : TOk Try.prog tys := by
  intro p hp
  simp only [tys, List.mem_cons, List.not_mem_nil, or_false] at hp
  rcases hp with rfl | rfl | rfl | rfl | rfl | rfl | rfl | rfl | rfl
  all_goals exact ⟨by kernel_rfl, by kernel_rfl⟩
theorem mixed : Try.prog.follows .mixedOrders = true := by kernel_rfl
def qf : Nat → Bool := fun f => match f with | 9 => true | 10 => true | 14 => true | 15 => true | 16 => true | 20 => true | 26 => true | _ => false
def cfgk (k : Nat) : Cfg := { T := tys, sgn := fun _ => false, wr := fun _ => false, k := k, q := qf }
theorem i64max : IntKind.i64.max = 9223372036854775807 := rfl
theorem take_next {α : Type} (l : List α) (k : Nat) (d : α) (h : k < l.length) : l.take (k + 1) = l.take k ++ [l.getD k d] := by
  rw [List.take_succ_eq_append_getElem h]; simp [List.getD, h]
/-- Where the first one is. -/
def fst1 (B : List Bool) : Nat → Nat → Int
  | 0, _ => -1
  | f + 1, i => if B.getD i false then (i : Int) else fst1 B f (i + 1)
def any1 (B : List Bool) : Nat → Bool
  | 0 => false
  | k + 1 => any1 B k || B.getD k false
theorem fst1_any (B : List Bool) : ∀ f i, (0 ≤ fst1 B f i ↔ ∃ j, i ≤ j ∧ j < i + f ∧ B.getD j false = true)
  | 0, i => by simp [fst1]; intro x h1 h2; omega
  | f + 1, i => by
    simp only [fst1]
    cases h : B.getD i false with
    | true => simp only [if_true]; exact ⟨fun _ => ⟨i, by omega, by omega, h⟩, fun _ => by omega⟩
    | false =>
      simp only [Bool.false_eq_true, if_false]
      rw [fst1_any B f (i + 1)]
      constructor
      · rintro ⟨j, h1, h2, h3⟩; exact ⟨j, by omega, by omega, h3⟩
      · rintro ⟨j, h1, h2, h3⟩
        rcases Nat.lt_or_ge i j with h4 | h4
        · exact ⟨j, by omega, by omega, h3⟩
        · have : j = i := by omega
          subst this; rw [h] at h3; cases h3
theorem any1_iff (B : List Bool) : ∀ k, any1 B k = true ↔ ∃ j, j < k ∧ B.getD j false = true
  | 0 => by simp [any1]
  | k + 1 => by
    simp only [any1, Bool.or_eq_true, any1_iff B k]
    constructor
    · rintro (⟨j, h1, h2⟩ | h)
      · exact ⟨j, by omega, h2⟩
      · exact ⟨k, by omega, h⟩
    · rintro ⟨j, h1, h2⟩
      rcases Nat.lt_or_ge j k with h3 | h3
      · exact .inl ⟨j, h3, h2⟩
      · have : j = k := by omega
        subst this; exact .inr h2
theorem fst1_any1 (B : List Bool) (n : Nat) : decide (0 ≤ fst1 B n 0) = any1 B n := by
  apply Bool.eq_iff_iff.mpr
  rw [decide_eq_true_eq, fst1_any, any1_iff]
  constructor
  · rintro ⟨j, h1, h2, h3⟩; exact ⟨j, by omega, h3⟩
  · rintro ⟨j, h1, h2⟩; exact ⟨j, by omega, by omega, h2⟩
def patB (n : Nat) (B : List Bool) : Bool := decide (n ≤ 64) && any1 B n
noncomputable def c26 : Code := (Try.f26.body).getD .skip
def inv26 (B : List Bool) (n ca : Nat) : LInv := ⟨Nat, fun k => ⟨anyTo 19 [.slice 0 0 n ca, .bool true, .any, .any, .any, .any, .slice 0 0 n ca, .int .i64 n, .int .i64 k], [.seg false (.bools B)]⟩, fun k => k ≤ n ∧ fst1 B n 0 = fst1 B (n - k) k, fun k => n - k⟩
theorem Index_q (B : List Bool) (n ca : Nat) (hn : n ≤ B.length) (hN : n ≤ 4611686018427387904) : QFits Try.prog 26 ⟨[.slice 0 0 n ca, .bool true], [.seg false (.bools B)], .int .i64 (fst1 B n 0)⟩ := by
  refine qfits_of_body (C := cfgk 1) (c := c26) (ts := [4]) tok mixed (fun | 2 => some (inv26 B n ca) | _ => none) (fun _ => none)
    Try.func26 (by kernel_rfl) (by kernel_rfl) (by kernel_rfl) (by kernel_rfl) (by kernel_rfl) rfl rfl ?_
  conv => whnf
  refine ⟨⟨[0], (0 : Nat), ?_, Nat.zero_le _, by simp⟩, ?_⟩
  · conv => whnf
    repeat' (first | exact True.intro | rfl | refine And.intro ?_ ?_)
  · intro (k : Nat) hk
    obtain ⟨hk, hf⟩ := hk
    conv => whnf
    refine tst_in (fun hlt => ?_) (fun hge => ?_)
    · skip
      have hlt : k < n := by simp at hlt; omega
      obtain ⟨r, hr⟩ : ∃ r, n - k = r + 1 := ⟨n - k - 1, by omega⟩
      rw [hr] at hf
      simp only [fst1] at hf
      conv => whnf
      refine ⟨by repeat' (first | omega | (simp only [i64max]; omega) | refine And.intro ?_ ?_), ?_⟩
      conv => whnf
      refine ⟨by repeat' (first | omega | (simp only [i64max]; omega) | refine And.intro ?_ ?_), ?_⟩
      conv => whnf
      refine tst_in (fun hb => ?_) (fun hb => ?_)
      · skip
        have hb : B.getD k false = true := by simpa using hb
        rw [hb] at hf
        conv => whnf
        repeat' (first | exact True.intro | rfl | refine And.intro ?_ ?_)
        show fst1 B n 0 = (k : Int)
        simpa using hf
      · skip
        have hb : B.getD k false = false := by simpa using hb
        rw [hb] at hf
        conv => whnf
        refine ⟨by repeat' (first | omega | (simp only [i64max]; omega) | refine And.intro ?_ ?_), ?_⟩
        conv => whnf
        refine ⟨[0], k + 1, ?_, ⟨?_, ?_⟩, ?_⟩
        · conv => whnf
          repeat' (first | exact True.intro | rfl | refine And.intro ?_ ?_)
        · show k + 1 ≤ n
          omega
        · show fst1 B n 0 = fst1 B (n - (k + 1)) (k + 1)
          rw [show n - (k + 1) = r by omega]
          simpa using hf
        · show n - (k + 1) < n - k
          omega
    · skip
      have hge : n ≤ k := by simp at hge; omega
      have e : n - k = 0 := by omega
      rw [e] at hf
      conv => whnf
      repeat' (first | exact True.intro | rfl | refine And.intro ?_ ?_)
      exact hf
noncomputable def c20 : Code := (Try.f20.body).getD .skip
theorem Contains_q (B : List Bool) (n ca : Nat) (hn : n ≤ B.length) (hN : n ≤ 4611686018427387904) : QFits Try.prog 20 ⟨[.slice 0 0 n ca, .bool true], [.seg false (.bools B)], .bool (any1 B n)⟩ := by
  refine qfits_of_body (C := cfgk 1) (c := c20) (ts := [4]) tok mixed (fun _ => none) (fun _ => none)
    Try.func20 (by kernel_rfl) (by kernel_rfl) (by kernel_rfl) (by kernel_rfl) (by kernel_rfl) rfl rfl ?_
  conv => whnf
  refine ⟨_, [0], Index_q B n ca hn hN, ?_⟩
  conv => whnf
  refine ⟨?_, ?_, ?_⟩
  · conv => whnf
    repeat' (first | exact True.intro | rfl | refine And.intro ?_ ?_)
  · conv => whnf
    repeat' (first | exact True.intro | rfl | refine And.intro ?_ ?_)
  conv => whnf
  repeat' (first | exact True.intro | rfl | refine And.intro ?_ ?_)
  exact (fst1_any1 B n).symm.trans (decide_eq_decide.mpr Iff.rfl)
noncomputable def c14 : Code := (Try.f14.body).getD .skip
theorem isPattern_q (B : List Bool) (n ca : Nat) (hn : n ≤ B.length) (hN : n ≤ 4611686018427387904) : QFits Try.prog 14 ⟨[.slice 0 0 n ca], [.seg false (.bools B)], .bool (patB n B)⟩ := by
  refine qfits_of_body (C := cfgk 1) (c := c14) (ts := [2]) tok mixed (fun _ => none) (fun _ => none)
    Try.func14 (by kernel_rfl) (by kernel_rfl) (by kernel_rfl) (by kernel_rfl) (by kernel_rfl) rfl rfl ?_
  conv => whnf
  refine tst_in (fun h => ?_) (fun h => ?_)
  · skip
    have h : n ≤ 64 := by simp at h; omega
    conv => whnf
    refine ⟨_, [0], Contains_q B n ca hn hN, ?_⟩
    conv => whnf
    refine ⟨?_, ?_, ?_⟩
    · conv => whnf
      repeat' (first | exact True.intro | rfl | refine And.intro ?_ ?_)
    · conv => whnf
      repeat' (first | exact True.intro | rfl | refine And.intro ?_ ?_)
    conv => whnf
    repeat' (first | exact True.intro | rfl | refine And.intro ?_ ?_)
    all_goals (show patB n B = any1 B n; simp [patB, h])
  · skip
    have h : ¬ n ≤ 64 := by simp at h; omega
    conv => whnf
    repeat' (first | exact True.intro | rfl | refine And.intro ?_ ?_)
    all_goals (show patB n B = false; simp [patB, h])
noncomputable def c16 : Code := (Try.f16.body).getD .skip
def mk (b : Bool) : Int := if b then 1 else 0
theorem mark_q (b : Bool) : QFits Try.prog 16 ⟨[.bool b], [], .int .u8 (mk b)⟩ := by
  refine qfits_of_body (C := cfgk 0) (c := c16) (ts := [2]) tok mixed (fun _ => none) (fun _ => none)
    Try.func16 (by kernel_rfl) (by kernel_rfl) (by kernel_rfl) (by kernel_rfl) (by kernel_rfl) rfl rfl ?_
  cases b <;> (conv => whnf) <;> repeat' (first | exact True.intro | rfl | refine And.intro ?_ ?_)
end Go.Proofs.Ytflbhbiflcaocaa

set_option linter.unusedVariables false
set_option linter.unusedSimpArgs false
namespace Go.Proofs.Ytflbhbiflcaocaa
open Go Go.Fw
noncomputable def c15 : Code := (Try.f15.body).getD .skip
def inv15 (B : List Bool) (n ca : Nat) : LInv := ⟨Nat, fun k => ⟨anyTo 24 [.slice 0 0 n ca, .any, .any, .bool (any1 B k), .int .i64 k], [.seg false (.bools B)]⟩, fun k => k ≤ n, fun k => n - k⟩
theorem pattern_q (B : List Bool) (n ca : Nat) (hn : n ≤ B.length) (hN : n ≤ 4611686018427387904) : QFits Try.prog 15 ⟨[.slice 0 0 n ca], [.seg false (.bools B)], .bool (patB n B)⟩ := by
  refine qfits_of_body (C := cfgk 1) (c := c15) (ts := [2]) tok mixed (fun | 3 => some (inv15 B n ca) | _ => none) (fun _ => none)
    Try.func15 (by kernel_rfl) (by kernel_rfl) (by kernel_rfl) (by kernel_rfl) (by kernel_rfl) rfl rfl ?_
  conv => whnf
  refine ⟨⟨[0], (0 : Nat), ?_, Nat.zero_le _⟩, ?_⟩
  · conv => whnf
    repeat' (first | exact True.intro | rfl | refine And.intro ?_ ?_)
  · intro (k : Nat) (hk : k ≤ n)
    cases ha : any1 B k with
    | true =>
      show forceSt ⟨anyTo 24 [.slice 0 0 n ca, .any, .any, .bool (any1 B k), .int .i64 k], [.seg false (.bools B)]⟩ _
      rw [ha]
      conv => whnf
      refine tst_in (fun hlt => ?_) (fun hge => ?_)
      · skip
        have hlt : k < n := by simp at hlt; omega
        conv => whnf
        refine ⟨by repeat' (first | omega | (simp only [i64max]; omega) | refine And.intro ?_ ?_), ?_⟩
        conv => whnf
        refine ⟨[0], k + 1, ?_, ?_, ?_⟩
        · conv => whnf
          repeat' (first | exact True.intro | rfl | refine And.intro ?_ ?_)
          all_goals (show any1 B (k + 1) = true; simp [any1, ha])
        · show k + 1 ≤ n
          omega
        · show n - (k + 1) < n - k
          omega
      · skip
        have hge : k = n := by simp at hge; omega
        subst hge
        conv => whnf
        repeat' (first | exact True.intro | rfl | refine And.intro ?_ ?_)
        all_goals (show patB k B = _; unfold patB; rw [ha, Bool.and_true]; exact decide_eq_decide.mpr (by omega))
    | false =>
      show forceSt ⟨anyTo 24 [.slice 0 0 n ca, .any, .any, .bool (any1 B k), .int .i64 k], [.seg false (.bools B)]⟩ _
      rw [ha]
      conv => whnf
      refine tst_in (fun hlt => ?_) (fun hge => ?_)
      · skip
        have hlt : k < n := by simp at hlt; omega
        conv => whnf
        refine ⟨by repeat' (first | omega | (simp only [i64max]; omega) | refine And.intro ?_ ?_), ?_⟩
        conv => whnf
        refine ⟨by repeat' (first | omega | (simp only [i64max]; omega) | refine And.intro ?_ ?_), ?_⟩
        conv => whnf
        refine ⟨by repeat' (first | omega | (simp only [i64max]; omega) | refine And.intro ?_ ?_), ?_⟩
        conv => whnf
        refine ⟨[0], k + 1, ?_, ?_, ?_⟩
        · conv => whnf
          repeat' (first | exact True.intro | rfl | refine And.intro ?_ ?_)
          all_goals (show any1 B (k + 1) = _; simp only [any1, ha, Bool.false_or]; rw [Nat.zero_add]; rfl)
        · show k + 1 ≤ n
          omega
        · show n - (k + 1) < n - k
          omega
      · skip
        have hge : k = n := by simp at hge; omega
        subst hge
        conv => whnf
        repeat' (first | exact True.intro | rfl | refine And.intro ?_ ?_)
        all_goals (show patB k B = _; simp [patB, ha])
noncomputable def c9 : Code := (Try.f9.body).getD .skip
def inv9 (A B : List Bool) (n ca cb : Nat) : LInv := ⟨Nat, fun k => ⟨anyTo 26 [.slice 0 0 n ca, .slice 1 0 n cb, .any, .any, .any, .int .i64 k], [.seg false (.bools A), .seg false (.bools B)]⟩, fun k => k ≤ n, fun k => n - k⟩
theorem same_q (A B : List Bool) (n ca cb : Nat) (hA : n ≤ A.length) (hB : n ≤ B.length) (hs : ∀ i, i < n → A.getD i false = B.getD i false) (hN : n ≤ 4611686018427387904) :
    QFits Try.prog 9 ⟨[.slice 0 0 n ca, .slice 1 0 n cb], [.seg false (.bools A), .seg false (.bools B)], .bool true⟩ := by
  refine qfits_of_body (C := cfgk 2) (c := c9) (ts := [4]) tok mixed (fun | 4 => some (inv9 A B n ca cb) | _ => none) (fun _ => none)
    Try.func9 (by kernel_rfl) (by kernel_rfl) (by kernel_rfl) (by kernel_rfl) (by kernel_rfl) rfl rfl ?_
  conv => whnf
  refine tst_in (fun h_ => False.elim (by simp at h_ <;> omega)) (fun _ => ?_)
  conv => whnf
  refine ⟨⟨[0, 1], (0 : Nat), ?_, Nat.zero_le _⟩, ?_⟩
  · conv => whnf
    repeat' (first | exact True.intro | rfl | refine And.intro ?_ ?_)
  · intro (k : Nat) (hk : k ≤ n)
    conv => whnf
    refine tst_in (fun hlt => ?_) (fun hge => ?_)
    · skip
      have hlt : k < n := by simp at hlt; omega
      have hs := hs k hlt
      conv => whnf
      refine ⟨by repeat' (first | omega | (simp only [i64max]; omega) | refine And.intro ?_ ?_), ?_⟩
      conv => whnf
      refine ⟨by repeat' (first | omega | (simp only [i64max]; omega) | refine And.intro ?_ ?_), ?_⟩
      conv => whnf
      refine ⟨by repeat' (first | omega | (simp only [i64max]; omega) | refine And.intro ?_ ?_), ?_⟩
      conv => whnf
      refine ⟨by repeat' (first | omega | (simp only [i64max]; omega) | refine And.intro ?_ ?_), ?_⟩
      conv => whnf
      refine tst_in (fun hne => ?_) (fun he => ?_)
      · simp at hne
        exact absurd hs hne
      · skip
        conv => whnf
        refine ⟨by repeat' (first | omega | (simp only [i64max]; omega) | refine And.intro ?_ ?_), ?_⟩
        conv => whnf
        refine ⟨[0, 1], k + 1, ?_, ?_, ?_⟩
        · conv => whnf
          repeat' (first | exact True.intro | rfl | refine And.intro ?_ ?_)
        · show k + 1 ≤ n
          omega
        · show n - (k + 1) < n - k
          omega
    · conv => whnf
      repeat' (first | exact True.intro | rfl | refine And.intro ?_ ?_)
theorem same_nil : QFits Try.prog 9 ⟨[.nils, .nils], [], .bool true⟩ := by
  refine qfits_of_body (C := cfgk 0) (c := c9) (ts := [4]) tok mixed (fun | 4 => some ⟨Unit, fun _ => ⟨anyTo 26 [.nils, .nils, .any, .any, .any, .int .i64 0], []⟩, fun _ => True, fun _ => 0⟩ | _ => none) (fun _ => none)
    Try.func9 (by kernel_rfl) (by kernel_rfl) (by kernel_rfl) (by kernel_rfl) (by kernel_rfl) rfl rfl ?_
  conv => whnf
  refine ⟨⟨[], (), ?_, True.intro⟩, ?_⟩
  · conv => whnf
    repeat' (first | exact True.intro | rfl | refine And.intro ?_ ?_)
  · intro _ _
    conv => whnf
    repeat' (first | exact True.intro | rfl | refine And.intro ?_ ?_)
noncomputable def c10 : Code := (Try.f10.body).getD .skip
def inv10 (A B : List Int) (n ca cb : Nat) : LInv := ⟨Nat, fun k => ⟨anyTo 26 [.slice 0 0 n ca, .slice 1 0 n cb, .any, .any, .any, .int .i64 k], [.seg false (.ints .u8 A), .seg false (.ints .u8 B)]⟩, fun k => k ≤ n, fun k => n - k⟩
theorem marks_q (A B : List Int) (n ca cb : Nat) (hA : n ≤ A.length) (hB : n ≤ B.length) (hs : ∀ i, i < n → A.getD i 0 = B.getD i 0) (hN : n ≤ 4611686018427387904) :
    QFits Try.prog 10 ⟨[.slice 0 0 n ca, .slice 1 0 n cb], [.seg false (.ints .u8 A), .seg false (.ints .u8 B)], .bool true⟩ := by
  refine qfits_of_body (C := cfgk 2) (c := c10) (ts := [4]) tok mixed (fun | 4 => some (inv10 A B n ca cb) | _ => none) (fun _ => none)
    Try.func10 (by kernel_rfl) (by kernel_rfl) (by kernel_rfl) (by kernel_rfl) (by kernel_rfl) rfl rfl ?_
  conv => whnf
  refine tst_in (fun h_ => False.elim (by simp at h_ <;> omega)) (fun _ => ?_)
  conv => whnf
  refine ⟨⟨[0, 1], (0 : Nat), ?_, Nat.zero_le _⟩, ?_⟩
  · conv => whnf
    repeat' (first | exact True.intro | rfl | refine And.intro ?_ ?_)
  · intro (k : Nat) (hk : k ≤ n)
    conv => whnf
    refine tst_in (fun hlt => ?_) (fun hge => ?_)
    · skip
      have hlt : k < n := by simp at hlt; omega
      have hs := hs k hlt
      conv => whnf
      refine ⟨by repeat' (first | omega | (simp only [i64max]; omega) | refine And.intro ?_ ?_), ?_⟩
      conv => whnf
      refine ⟨by repeat' (first | omega | (simp only [i64max]; omega) | refine And.intro ?_ ?_), ?_⟩
      conv => whnf
      refine ⟨by repeat' (first | omega | (simp only [i64max]; omega) | refine And.intro ?_ ?_), ?_⟩
      conv => whnf
      refine ⟨by repeat' (first | omega | (simp only [i64max]; omega) | refine And.intro ?_ ?_), ?_⟩
      conv => whnf
      refine tst_in (fun hne => ?_) (fun he => ?_)
      · simp at hne
        exact absurd hs hne
      · skip
        conv => whnf
        refine ⟨by repeat' (first | omega | (simp only [i64max]; omega) | refine And.intro ?_ ?_), ?_⟩
        conv => whnf
        refine ⟨[0, 1], k + 1, ?_, ?_, ?_⟩
        · conv => whnf
          repeat' (first | exact True.intro | rfl | refine And.intro ?_ ?_)
        · show k + 1 ≤ n
          omega
        · show n - (k + 1) < n - k
          omega
    · conv => whnf
      repeat' (first | exact True.intro | rfl | refine And.intro ?_ ?_)
theorem marks_nil : QFits Try.prog 10 ⟨[.nils, .nils], [], .bool true⟩ := by
  refine qfits_of_body (C := cfgk 0) (c := c10) (ts := [4]) tok mixed (fun | 4 => some ⟨Unit, fun _ => ⟨anyTo 26 [.nils, .nils, .any, .any, .any, .int .i64 0], []⟩, fun _ => True, fun _ => 0⟩ | _ => none) (fun _ => none)
    Try.func10 (by kernel_rfl) (by kernel_rfl) (by kernel_rfl) (by kernel_rfl) (by kernel_rfl) rfl rfl ?_
  conv => whnf
  refine ⟨⟨[], (), ?_, True.intro⟩, ?_⟩
  · conv => whnf
    repeat' (first | exact True.intro | rfl | refine And.intro ?_ ?_)
  · intro _ _
    conv => whnf
    repeat' (first | exact True.intro | rfl | refine And.intro ?_ ?_)
/-- A row that is made and one that is nil, both empty. -/
theorem marks_0n (A : List Int) (ca : Nat) : QFits Try.prog 10 ⟨[.slice 0 0 0 ca, .nils], [.seg false (.ints .u8 A)], .bool true⟩ := by
  refine qfits_of_body (C := cfgk 1) (c := c10) (ts := [4]) tok mixed (fun | 4 => some ⟨Unit, fun _ => ⟨anyTo 26 [.slice 0 0 0 ca, .nils, .any, .any, .any, .int .i64 0], [.seg false (.ints .u8 A)]⟩, fun _ => True, fun _ => 0⟩ | _ => none) (fun _ => none)
    Try.func10 (by kernel_rfl) (by kernel_rfl) (by kernel_rfl) (by kernel_rfl) (by kernel_rfl) rfl rfl ?_
  conv => whnf
  refine ⟨⟨[0], (), ?_, True.intro⟩, ?_⟩
  · conv => whnf
    repeat' (first | exact True.intro | rfl | refine And.intro ?_ ?_)
  · intro _ _
    conv => whnf
    repeat' (first | exact True.intro | rfl | refine And.intro ?_ ?_)
end Go.Proofs.Ytflbhbiflcaocaa

set_option linter.unusedVariables false
set_option linter.unusedSimpArgs false
namespace Go.Proofs.Ytflbhbiflcaocaa
open Go Go.Fw
def kb (B : List Bool) (m i : Nat) : Bool := B.getD (i % m) false
def thinP (A B : List Bool) (m : Nat) : Nat → List Bool
  | 0 => []
  | i + 1 => if kb B m i then thinP A B m i ++ [A.getD i false] else thinP A B m i
theorem thinP_le (A B : List Bool) (m : Nat) : ∀ k, (thinP A B m k).length ≤ k
  | 0 => by simp [thinP]
  | k + 1 => by
    have := thinP_le A B m k
    simp only [thinP]
    split <;> simp <;> omega
theorem rem_nat (k m : Nat) : ((k : Int) % (m : Int)).toNat = k % m := by rw [← Int.natCast_emod, Int.toNat_natCast]
/-- One slice made anew, which holds xs: how much room is behind it is open. -/
def rowOut (k : Nat) (pre : List Seg) (xs : List Bool) (f : AV → AV) : FOut := ⟨List Bool, fun _ => True, fun tl => f (.slice k 0 xs.length (xs.length + tl.length)), fun tl => pre ++ [.seg true (.bools (xs ++ tl))]⟩
def nilOut (pre : List Seg) (r : AV) : FOut := ⟨Unit, fun _ => True, fun _ => r, fun _ => pre⟩
noncomputable def c6 : Code := (Try.f6.body).getD .skip
def st6 (A B : List Bool) (n m ca cb : Nat) : Nat ⊕ (Nat × List Bool) → St
  | .inl k => ⟨anyTo 37 [.slice 0 0 n ca, .slice 1 0 m cb, .any, .any, .any, .any, .nils, .int .i64 k], [.seg false (.bools A), .seg false (.bools B)]⟩
  | .inr (k, tl) => ⟨anyTo 37 [.slice 0 0 n ca, .slice 1 0 m cb, .any, .any, .any, .any, .slice 2 0 (thinP A B m k).length ((thinP A B m k).length + tl.length), .int .i64 k], [.seg false (.bools A), .seg false (.bools B), .seg true (.bools (thinP A B m k ++ tl))]⟩
def pr6 (A B : List Bool) (n m : Nat) : Nat ⊕ (Nat × List Bool) → Prop
  | .inl k => k ≤ n ∧ thinP A B m k = []
  | .inr (k, _) => k ≤ n ∧ thinP A B m k ≠ []
def mu6 (n : Nat) : Nat ⊕ (Nat × List Bool) → Nat
  | .inl k => n - k
  | .inr (k, _) => n - k
def inv6 (A B : List Bool) (n m ca cb : Nat) : LInv := ⟨Nat ⊕ (Nat × List Bool), st6 A B n m ca cb, pr6 A B n m, mu6 n⟩
set_option maxRecDepth 100000 in
theorem Thin_n6 (A B : List Bool) (n m ca cb : Nat) (hn : n ≤ A.length) (hm : m ≤ B.length) (hN : n ≤ 32768) (hp : patB m B = true) (hm1 : 0 < m) (hm2 : m ≤ 64) (hE : thinP A B m n = []) :
    Fits Try.prog 6 ⟨[.slice 0 0 n ca, .slice 1 0 m cb], [.seg false (.bools A), .seg false (.bools B)], [nilOut [.dead, .dead] (.tup [.nils, .int .i64 0])]⟩ := by
  refine fits_of_body (C := cfgk 2) (c := c6) (ts := [4, 5]) tok mixed (fun | 5 => some (inv6 A B n m ca cb) | _ => none) (fun _ => none)
    Try.func6 (by kernel_rfl) (by kernel_rfl) (by kernel_rfl) (by kernel_rfl) rfl ?_
  conv => whnf
  refine tst_in (fun h_ => False.elim (by simp at h_ <;> omega)) (fun _ => ?_)
  conv => whnf
  refine ⟨_, [1], pattern_q B m cb hm (by omega), ?_⟩
  conv => whnf
  refine ⟨?_, ?_, ?_⟩
  · conv => whnf
    repeat' (first | exact True.intro | rfl | refine And.intro ?_ ?_)
  · conv => whnf
    repeat' (first | exact True.intro | rfl | refine And.intro ?_ ?_)
  conv => whnf
  refine tst_in (fun h_ => False.elim (by simp [hp] at h_ <;> omega)) (fun _ => ?_)
  conv => whnf
  refine ⟨⟨[0, 1], (Sum.inl 0 : Nat ⊕ (Nat × List Bool)), ?_, Nat.zero_le _, rfl⟩, ?_⟩
  · conv => whnf
    repeat' (first | exact True.intro | rfl | refine And.intro ?_ ?_)
  · rintro (k | ⟨k, tl⟩) hpr
    · obtain ⟨hk, hT⟩ : k ≤ n ∧ thinP A B m k = [] := hpr
      conv => whnf
      refine tst_in (fun hlt => ?_) (fun hge => ?_)
      · skip
        have hlt : k < n := by simp at hlt; omega
        have hr := rem_nat k m
        have hm0 := Nat.mod_lt k hm1
        have hq0 : 0 ≤ (k : Int) % (m : Int) := Int.emod_nonneg _ (by omega)
        have hq1 : (k : Int) % (m : Int) < m := Int.emod_lt_of_pos _ (by omega)
        conv => whnf
        refine ⟨by repeat' (first | omega | (simp only [i64max]; omega) | refine And.intro ?_ ?_), ?_⟩
        conv => whnf
        refine ⟨by repeat' (first | omega | (simp only [i64max]; omega) | refine And.intro ?_ ?_), ?_⟩
        conv => whnf
        refine ⟨by repeat' (first | omega | (simp only [i64max]; omega) | refine And.intro ?_ ?_), ?_⟩
        conv => whnf
        refine tst_in (fun hb => ?_) (fun hb => ?_)
        · have hb : kb B m k = true := by unfold kb; rw [← hr]; simpa using hb
          have hT2 : thinP A B m (k + 1) = [A.getD k false] := by simp [thinP, hb, hT]
          conv => whnf
          refine ⟨by repeat' (first | omega | (simp only [i64max]; omega) | refine And.intro ?_ ?_), ?_⟩
          conv => whnf
          conv => whnf
          repeat (refine And.intro ?_ ?_; (focus (first | omega | ((conv => whnf); omega) | (simp [mulSz, Cont.len]; done) | (simp [mulSz, Cont.len]; omega))); conv => whnf)
          intro (tl2 : List Bool)
          conv => whnf
          repeat (refine And.intro ?_ ?_; (focus (first | omega | ((conv => whnf); omega) | (simp [mulSz, Cont.len]; done) | (simp [mulSz, Cont.len]; omega))); conv => whnf)
          refine ⟨[0, 1, 3], (Sum.inr (k + 1, tl2) : Nat ⊕ (Nat × List Bool)), ?_, ⟨by omega, by rw [hT2]; simp⟩, ?_⟩
          · conv => whnf
            repeat' (first | exact True.intro | rfl | refine And.intro ?_ ?_)
            all_goals (conv => whnf)
            all_goals first | rfl | (rw [hT2]; rfl) | (simp [hT2, mulSz]; done) | skip
          · show n - (k + 1) < n - k
            omega
        · have hb : kb B m k = false := by unfold kb; rw [← hr]; simpa using hb
          have hT2 : thinP A B m (k + 1) = [] := by simp [thinP, hb, hT]
          conv => whnf
          refine ⟨by repeat' (first | omega | (simp only [i64max]; omega) | refine And.intro ?_ ?_), ?_⟩
          conv => whnf
          refine ⟨[0, 1], (Sum.inl (k + 1) : Nat ⊕ (Nat × List Bool)), ?_, ⟨by omega, hT2⟩, ?_⟩
          · conv => whnf
            repeat' (first | exact True.intro | rfl | refine And.intro ?_ ?_)
          · show n - (k + 1) < n - k
            omega
      · have hge : k = n := by simp at hge; omega
        subst hge
        conv => whnf
        refine .inl ⟨(), [0, 1], ?_⟩
        conv => whnf
        repeat' (first | exact True.intro | rfl | refine And.intro ?_ ?_)
    · obtain ⟨hk, hT⟩ : k ≤ n ∧ thinP A B m k ≠ [] := hpr
      have hle := thinP_le A B m k
      conv => whnf
      refine tst_in (fun hlt => ?_) (fun hge => ?_)
      · skip
        have hlt : k < n := by simp at hlt; omega
        have hr := rem_nat k m
        have hm0 := Nat.mod_lt k hm1
        have hq0 : 0 ≤ (k : Int) % (m : Int) := Int.emod_nonneg _ (by omega)
        have hq1 : (k : Int) % (m : Int) < m := Int.emod_lt_of_pos _ (by omega)
        conv => whnf
        refine ⟨by repeat' (first | omega | (simp only [i64max]; omega) | refine And.intro ?_ ?_), ?_⟩
        conv => whnf
        refine ⟨by repeat' (first | omega | (simp only [i64max]; omega) | refine And.intro ?_ ?_), ?_⟩
        conv => whnf
        refine ⟨by repeat' (first | omega | (simp only [i64max]; omega) | refine And.intro ?_ ?_), ?_⟩
        conv => whnf
        refine tst_in (fun hb => ?_) (fun hb => ?_)
        · have hb : kb B m k = true := by unfold kb; rw [← hr]; simpa using hb
          have hT2 : thinP A B m (k + 1) = thinP A B m k ++ [A.getD k false] := by simp [thinP, hb]
          conv => whnf
          refine ⟨by repeat' (first | omega | (simp only [i64max]; omega) | refine And.intro ?_ ?_), ?_⟩
          conv => whnf
          conv => whnf
          repeat (refine And.intro ?_ ?_; (focus (first | omega | ((conv => whnf); omega) | (simp [mulSz, Cont.len]; done) | (simp [mulSz, Cont.len]; omega))); conv => whnf)
          intro (tl2 : List Bool)
          conv => whnf
          repeat (refine And.intro ?_ ?_; (focus (first | omega | ((conv => whnf); omega) | (simp [mulSz, Cont.len]; done) | (simp [mulSz, Cont.len]; omega))); conv => whnf)
          refine ⟨[0, 1, 4], (Sum.inr (k + 1, tl2) : Nat ⊕ (Nat × List Bool)), ?_, ⟨by omega, by rw [hT2]; simp⟩, ?_⟩
          · conv => whnf
            repeat' (first | exact True.intro | rfl | refine And.intro ?_ ?_)
            all_goals (conv => whnf)
            all_goals first | rfl | (rw [hT2, List.length_append]; rfl) | (simp [hT2, mulSz]; done) | skip
          · show n - (k + 1) < n - k
            omega
        · have hb : kb B m k = false := by unfold kb; rw [← hr]; simpa using hb
          have hT2 : thinP A B m (k + 1) = thinP A B m k := by simp [thinP, hb]
          conv => whnf
          refine ⟨by repeat' (first | omega | (simp only [i64max]; omega) | refine And.intro ?_ ?_), ?_⟩
          conv => whnf
          refine ⟨[0, 1, 2], (Sum.inr (k + 1, tl) : Nat ⊕ (Nat × List Bool)), ?_, ⟨by omega, by rw [hT2]; exact hT⟩, ?_⟩
          · conv => whnf
            repeat' (first | exact True.intro | rfl | refine And.intro ?_ ?_)
            all_goals (conv => whnf)
            all_goals first | rfl | (rw [hT2]; rfl) | (rw [hT2]) | skip
          · show n - (k + 1) < n - k
            omega
      · have hge : k = n := by simp at hge; omega
        subst hge
        exact absurd hE hT
set_option maxRecDepth 100000 in
theorem Thin_r6 (A B : List Bool) (n m ca cb : Nat) (hn : n ≤ A.length) (hm : m ≤ B.length) (hN : n ≤ 32768) (hp : patB m B = true) (hm1 : 0 < m) (hm2 : m ≤ 64) (hE : thinP A B m n ≠ []) :
    Fits Try.prog 6 ⟨[.slice 0 0 n ca, .slice 1 0 m cb], [.seg false (.bools A), .seg false (.bools B)], [rowOut 2 [.dead, .dead] (thinP A B m n) fun s => .tup [s, .int .i64 0]]⟩ := by
  refine fits_of_body (C := cfgk 2) (c := c6) (ts := [4, 5]) tok mixed (fun | 5 => some (inv6 A B n m ca cb) | _ => none) (fun _ => none)
    Try.func6 (by kernel_rfl) (by kernel_rfl) (by kernel_rfl) (by kernel_rfl) rfl ?_
  conv => whnf
  refine tst_in (fun h_ => False.elim (by simp at h_ <;> omega)) (fun _ => ?_)
  conv => whnf
  refine ⟨_, [1], pattern_q B m cb hm (by omega), ?_⟩
  conv => whnf
  refine ⟨?_, ?_, ?_⟩
  · conv => whnf
    repeat' (first | exact True.intro | rfl | refine And.intro ?_ ?_)
  · conv => whnf
    repeat' (first | exact True.intro | rfl | refine And.intro ?_ ?_)
  conv => whnf
  refine tst_in (fun h_ => False.elim (by simp [hp] at h_ <;> omega)) (fun _ => ?_)
  conv => whnf
  refine ⟨⟨[0, 1], (Sum.inl 0 : Nat ⊕ (Nat × List Bool)), ?_, Nat.zero_le _, rfl⟩, ?_⟩
  · conv => whnf
    repeat' (first | exact True.intro | rfl | refine And.intro ?_ ?_)
  · rintro (k | ⟨k, tl⟩) hpr
    · obtain ⟨hk, hT⟩ : k ≤ n ∧ thinP A B m k = [] := hpr
      conv => whnf
      refine tst_in (fun hlt => ?_) (fun hge => ?_)
      · skip
        have hlt : k < n := by simp at hlt; omega
        have hr := rem_nat k m
        have hm0 := Nat.mod_lt k hm1
        have hq0 : 0 ≤ (k : Int) % (m : Int) := Int.emod_nonneg _ (by omega)
        have hq1 : (k : Int) % (m : Int) < m := Int.emod_lt_of_pos _ (by omega)
        conv => whnf
        refine ⟨by repeat' (first | omega | (simp only [i64max]; omega) | refine And.intro ?_ ?_), ?_⟩
        conv => whnf
        refine ⟨by repeat' (first | omega | (simp only [i64max]; omega) | refine And.intro ?_ ?_), ?_⟩
        conv => whnf
        refine ⟨by repeat' (first | omega | (simp only [i64max]; omega) | refine And.intro ?_ ?_), ?_⟩
        conv => whnf
        refine tst_in (fun hb => ?_) (fun hb => ?_)
        · have hb : kb B m k = true := by unfold kb; rw [← hr]; simpa using hb
          have hT2 : thinP A B m (k + 1) = [A.getD k false] := by simp [thinP, hb, hT]
          conv => whnf
          refine ⟨by repeat' (first | omega | (simp only [i64max]; omega) | refine And.intro ?_ ?_), ?_⟩
          conv => whnf
          conv => whnf
          repeat (refine And.intro ?_ ?_; (focus (first | omega | ((conv => whnf); omega) | (simp [mulSz, Cont.len]; done) | (simp [mulSz, Cont.len]; omega))); conv => whnf)
          intro (tl2 : List Bool)
          conv => whnf
          repeat (refine And.intro ?_ ?_; (focus (first | omega | ((conv => whnf); omega) | (simp [mulSz, Cont.len]; done) | (simp [mulSz, Cont.len]; omega))); conv => whnf)
          refine ⟨[0, 1, 3], (Sum.inr (k + 1, tl2) : Nat ⊕ (Nat × List Bool)), ?_, ⟨by omega, by rw [hT2]; simp⟩, ?_⟩
          · conv => whnf
            repeat' (first | exact True.intro | rfl | refine And.intro ?_ ?_)
            all_goals (conv => whnf)
            all_goals first | rfl | (rw [hT2]; rfl) | (simp [hT2, mulSz]; done) | skip
          · show n - (k + 1) < n - k
            omega
        · have hb : kb B m k = false := by unfold kb; rw [← hr]; simpa using hb
          have hT2 : thinP A B m (k + 1) = [] := by simp [thinP, hb, hT]
          conv => whnf
          refine ⟨by repeat' (first | omega | (simp only [i64max]; omega) | refine And.intro ?_ ?_), ?_⟩
          conv => whnf
          refine ⟨[0, 1], (Sum.inl (k + 1) : Nat ⊕ (Nat × List Bool)), ?_, ⟨by omega, hT2⟩, ?_⟩
          · conv => whnf
            repeat' (first | exact True.intro | rfl | refine And.intro ?_ ?_)
          · show n - (k + 1) < n - k
            omega
      · have hge : k = n := by simp at hge; omega
        subst hge
        exact absurd hT hE
    · obtain ⟨hk, hT⟩ : k ≤ n ∧ thinP A B m k ≠ [] := hpr
      have hle := thinP_le A B m k
      conv => whnf
      refine tst_in (fun hlt => ?_) (fun hge => ?_)
      · skip
        have hlt : k < n := by simp at hlt; omega
        have hr := rem_nat k m
        have hm0 := Nat.mod_lt k hm1
        have hq0 : 0 ≤ (k : Int) % (m : Int) := Int.emod_nonneg _ (by omega)
        have hq1 : (k : Int) % (m : Int) < m := Int.emod_lt_of_pos _ (by omega)
        conv => whnf
        refine ⟨by repeat' (first | omega | (simp only [i64max]; omega) | refine And.intro ?_ ?_), ?_⟩
        conv => whnf
        refine ⟨by repeat' (first | omega | (simp only [i64max]; omega) | refine And.intro ?_ ?_), ?_⟩
        conv => whnf
        refine ⟨by repeat' (first | omega | (simp only [i64max]; omega) | refine And.intro ?_ ?_), ?_⟩
        conv => whnf
        refine tst_in (fun hb => ?_) (fun hb => ?_)
        · have hb : kb B m k = true := by unfold kb; rw [← hr]; simpa using hb
          have hT2 : thinP A B m (k + 1) = thinP A B m k ++ [A.getD k false] := by simp [thinP, hb]
          conv => whnf
          refine ⟨by repeat' (first | omega | (simp only [i64max]; omega) | refine And.intro ?_ ?_), ?_⟩
          conv => whnf
          conv => whnf
          repeat (refine And.intro ?_ ?_; (focus (first | omega | ((conv => whnf); omega) | (simp [mulSz, Cont.len]; done) | (simp [mulSz, Cont.len]; omega))); conv => whnf)
          intro (tl2 : List Bool)
          conv => whnf
          repeat (refine And.intro ?_ ?_; (focus (first | omega | ((conv => whnf); omega) | (simp [mulSz, Cont.len]; done) | (simp [mulSz, Cont.len]; omega))); conv => whnf)
          refine ⟨[0, 1, 4], (Sum.inr (k + 1, tl2) : Nat ⊕ (Nat × List Bool)), ?_, ⟨by omega, by rw [hT2]; simp⟩, ?_⟩
          · conv => whnf
            repeat' (first | exact True.intro | rfl | refine And.intro ?_ ?_)
            all_goals (conv => whnf)
            all_goals first | rfl | (rw [hT2, List.length_append]; rfl) | (simp [hT2, mulSz]; done) | skip
          · show n - (k + 1) < n - k
            omega
        · have hb : kb B m k = false := by unfold kb; rw [← hr]; simpa using hb
          have hT2 : thinP A B m (k + 1) = thinP A B m k := by simp [thinP, hb]
          conv => whnf
          refine ⟨by repeat' (first | omega | (simp only [i64max]; omega) | refine And.intro ?_ ?_), ?_⟩
          conv => whnf
          refine ⟨[0, 1, 2], (Sum.inr (k + 1, tl) : Nat ⊕ (Nat × List Bool)), ?_, ⟨by omega, by rw [hT2]; exact hT⟩, ?_⟩
          · conv => whnf
            repeat' (first | exact True.intro | rfl | refine And.intro ?_ ?_)
            all_goals (conv => whnf)
            all_goals first | rfl | (rw [hT2]; rfl) | (rw [hT2]) | skip
          · show n - (k + 1) < n - k
            omega
      · have hge : k = n := by simp at hge; omega
        subst hge
        conv => whnf
        refine .inl ⟨tl, [0, 1, 2], ?_⟩
        conv => whnf
        repeat' (first | exact True.intro | rfl | refine And.intro ?_ ?_)
        all_goals (conv => whnf)
        all_goals first | rfl | skip
set_option maxRecDepth 100000 in
theorem Thin_b6 (A B : List Bool) (n m ca cb : Nat) (hm : m ≤ B.length) (hMN : m ≤ 4611686018427387904) (hb : ¬ (n ≤ 32768 ∧ patB m B = true)) :
    Fits Try.prog 6 ⟨[.slice 0 0 n ca, .slice 1 0 m cb], [.seg false (.bools A), .seg false (.bools B)], [nilOut [.dead, .dead] (.tup [.nils, .int .i64 1])]⟩ := by
  refine fits_of_body (C := cfgk 2) (c := c6) (ts := [4, 5]) tok mixed (fun _ => none) (fun _ => none)
    Try.func6 (by kernel_rfl) (by kernel_rfl) (by kernel_rfl) (by kernel_rfl) rfl ?_
  conv => whnf
  refine tst_in (fun h1 => ?_) (fun h1 => ?_)
  · conv => whnf
    refine .inl ⟨(), [0, 1], ?_⟩
    conv => whnf
    repeat' (first | exact True.intro | rfl | refine And.intro ?_ ?_)
  · have h1 : n ≤ 32768 := by simp at h1; omega
    conv => whnf
    refine ⟨_, [1], pattern_q B m cb hm hMN, ?_⟩
    conv => whnf
    refine ⟨?_, ?_, ?_⟩
    · conv => whnf
      repeat' (first | exact True.intro | rfl | refine And.intro ?_ ?_)
    · conv => whnf
      repeat' (first | exact True.intro | rfl | refine And.intro ?_ ?_)
    conv => whnf
    have hp : patB m B = false := by
      cases h : patB m B with
      | true => exact absurd ⟨h1, h⟩ hb
      | false => rfl
    refine tst_in (fun _ => ?_) (fun h_ => False.elim (by simp [hp] at h_ <;> omega))
    conv => whnf
    refine .inl ⟨(), [0, 1], ?_⟩
    conv => whnf
    repeat' (first | exact True.intro | rfl | refine And.intro ?_ ?_)
end Go.Proofs.Ytflbhbiflcaocaa

set_option linter.unusedVariables false
set_option linter.unusedSimpArgs false
namespace Go.Proofs.Ytflbhbiflcaocaa
open Go Go.Fw
noncomputable def c5 : Code := (Try.f5.body).getD .skip
def st5 (A B : List Bool) (n m ca cb : Nat) : Nat ⊕ (Nat × List Bool) → St
  | .inl k => ⟨anyTo 37 [.slice 0 0 n ca, .slice 1 0 m cb, .any, .any, .any, .any, .nils, .any, .any, .any, .any, .any, .any, .any, .any, .any, .any, .slice 0 0 n ca, .int .i64 n, .int .i64 k], [.seg false (.bools A), .seg false (.bools B)]⟩
  | .inr (k, tl) => ⟨anyTo 37 [.slice 0 0 n ca, .slice 1 0 m cb, .any, .any, .any, .any, .slice 2 0 (thinP A B m k).length ((thinP A B m k).length + tl.length), .any, .any, .any, .any, .any, .any, .any, .any, .any, .any, .slice 0 0 n ca, .int .i64 n, .int .i64 k], [.seg false (.bools A), .seg false (.bools B), .seg true (.bools (thinP A B m k ++ tl))]⟩
def pr5 (A B : List Bool) (n m : Nat) : Nat ⊕ (Nat × List Bool) → Prop
  | .inl k => k ≤ n ∧ thinP A B m k = []
  | .inr (k, _) => k ≤ n ∧ thinP A B m k ≠ []
def mu5 (n : Nat) : Nat ⊕ (Nat × List Bool) → Nat
  | .inl k => n - k
  | .inr (k, _) => n - k
def inv5 (A B : List Bool) (n m ca cb : Nat) : LInv := ⟨Nat ⊕ (Nat × List Bool), st5 A B n m ca cb, pr5 A B n m, mu5 n⟩
set_option maxRecDepth 100000 in
theorem Thin_n5 (A B : List Bool) (n m ca cb : Nat) (hn : n ≤ A.length) (hm : m ≤ B.length) (hN : n ≤ 32768) (hp : patB m B = true) (hm1 : 0 < m) (hm2 : m ≤ 64) (hE : thinP A B m n = []) :
    Fits Try.prog 5 ⟨[.slice 0 0 n ca, .slice 1 0 m cb], [.seg false (.bools A), .seg false (.bools B)], [nilOut [.dead, .dead] (.tup [.nils, .int .i64 0])]⟩ := by
  refine fits_of_body (C := cfgk 2) (c := c5) (ts := [4, 5]) tok mixed (fun | 5 => some (inv5 A B n m ca cb) | _ => none) (fun _ => none)
    Try.func5 (by kernel_rfl) (by kernel_rfl) (by kernel_rfl) (by kernel_rfl) rfl ?_
  conv => whnf
  refine tst_in (fun h_ => False.elim (by simp at h_ <;> omega)) (fun _ => ?_)
  conv => whnf
  refine ⟨_, [1], isPattern_q B m cb hm (by omega), ?_⟩
  conv => whnf
  refine ⟨?_, ?_, ?_⟩
  · conv => whnf
    repeat' (first | exact True.intro | rfl | refine And.intro ?_ ?_)
  · conv => whnf
    repeat' (first | exact True.intro | rfl | refine And.intro ?_ ?_)
  conv => whnf
  refine tst_in (fun h_ => False.elim (by simp [hp] at h_ <;> omega)) (fun _ => ?_)
  conv => whnf
  refine ⟨⟨[0, 1], (Sum.inl 0 : Nat ⊕ (Nat × List Bool)), ?_, Nat.zero_le _, rfl⟩, ?_⟩
  · conv => whnf
    repeat' (first | exact True.intro | rfl | refine And.intro ?_ ?_)
  · rintro (k | ⟨k, tl⟩) hpr
    · obtain ⟨hk, hT⟩ : k ≤ n ∧ thinP A B m k = [] := hpr
      conv => whnf
      refine tst_in (fun hlt => ?_) (fun hge => ?_)
      · skip
        have hlt : k < n := by simp at hlt; omega
        have hr := rem_nat k m
        have hm0 := Nat.mod_lt k hm1
        have hq0 : 0 ≤ (k : Int) % (m : Int) := Int.emod_nonneg _ (by omega)
        have hq1 : (k : Int) % (m : Int) < m := Int.emod_lt_of_pos _ (by omega)
        conv => whnf
        refine ⟨by repeat' (first | omega | (simp only [i64max]; omega) | refine And.intro ?_ ?_), ?_⟩
        conv => whnf
        refine ⟨by repeat' (first | omega | (simp only [i64max]; omega) | refine And.intro ?_ ?_), ?_⟩
        conv => whnf
        refine ⟨by repeat' (first | omega | (simp only [i64max]; omega) | refine And.intro ?_ ?_), ?_⟩
        conv => whnf
        refine ⟨by repeat' (first | omega | (simp only [i64max]; omega) | refine And.intro ?_ ?_), ?_⟩
        conv => whnf
        refine ⟨by repeat' (first | omega | (simp only [i64max]; omega) | refine And.intro ?_ ?_), ?_⟩
        conv => whnf
        refine tst_in (fun hb => ?_) (fun hb => ?_)
        · have hb : kb B m k = true := by unfold kb; rw [← hr]; simpa using hb
          have hT2 : thinP A B m (k + 1) = [A.getD k false] := by simp [thinP, hb, hT]
          conv => whnf
          repeat (refine And.intro ?_ ?_; (focus (first | omega | ((conv => whnf); omega) | (simp [mulSz, Cont.len]; done) | (simp [mulSz, Cont.len]; omega))); conv => whnf)
          intro (tl2 : List Bool)
          conv => whnf
          repeat (refine And.intro ?_ ?_; (focus (first | omega | ((conv => whnf); omega) | (simp [mulSz, Cont.len]; done) | (simp [mulSz, Cont.len]; omega))); conv => whnf)
          refine ⟨[0, 1, 3], (Sum.inr (k + 1, tl2) : Nat ⊕ (Nat × List Bool)), ?_, ⟨by omega, by rw [hT2]; simp⟩, ?_⟩
          · conv => whnf
            repeat' (first | exact True.intro | rfl | refine And.intro ?_ ?_)
            all_goals (conv => whnf)
            all_goals first | rfl | (rw [hT2]; rfl) | (simp [hT2, mulSz]; done) | skip
          · show n - (k + 1) < n - k
            omega
        · have hb : kb B m k = false := by unfold kb; rw [← hr]; simpa using hb
          have hT2 : thinP A B m (k + 1) = [] := by simp [thinP, hb, hT]
          conv => whnf
          refine ⟨by repeat' (first | omega | (simp only [i64max]; omega) | refine And.intro ?_ ?_), ?_⟩
          conv => whnf
          refine ⟨[0, 1], (Sum.inl (k + 1) : Nat ⊕ (Nat × List Bool)), ?_, ⟨by omega, hT2⟩, ?_⟩
          · conv => whnf
            repeat' (first | exact True.intro | rfl | refine And.intro ?_ ?_)
          · show n - (k + 1) < n - k
            omega
      · have hge : k = n := by simp at hge; omega
        subst hge
        conv => whnf
        refine .inl ⟨(), [0, 1], ?_⟩
        conv => whnf
        repeat' (first | exact True.intro | rfl | refine And.intro ?_ ?_)
    · obtain ⟨hk, hT⟩ : k ≤ n ∧ thinP A B m k ≠ [] := hpr
      have hle := thinP_le A B m k
      conv => whnf
      refine tst_in (fun hlt => ?_) (fun hge => ?_)
      · skip
        have hlt : k < n := by simp at hlt; omega
        have hr := rem_nat k m
        have hm0 := Nat.mod_lt k hm1
        have hq0 : 0 ≤ (k : Int) % (m : Int) := Int.emod_nonneg _ (by omega)
        have hq1 : (k : Int) % (m : Int) < m := Int.emod_lt_of_pos _ (by omega)
        conv => whnf
        refine ⟨by repeat' (first | omega | (simp only [i64max]; omega) | refine And.intro ?_ ?_), ?_⟩
        conv => whnf
        refine ⟨by repeat' (first | omega | (simp only [i64max]; omega) | refine And.intro ?_ ?_), ?_⟩
        conv => whnf
        refine ⟨by repeat' (first | omega | (simp only [i64max]; omega) | refine And.intro ?_ ?_), ?_⟩
        conv => whnf
        refine ⟨by repeat' (first | omega | (simp only [i64max]; omega) | refine And.intro ?_ ?_), ?_⟩
        conv => whnf
        refine ⟨by repeat' (first | omega | (simp only [i64max]; omega) | refine And.intro ?_ ?_), ?_⟩
        conv => whnf
        refine tst_in (fun hb => ?_) (fun hb => ?_)
        · have hb : kb B m k = true := by unfold kb; rw [← hr]; simpa using hb
          have hT2 : thinP A B m (k + 1) = thinP A B m k ++ [A.getD k false] := by simp [thinP, hb]
          conv => whnf
          repeat (refine And.intro ?_ ?_; (focus (first | omega | ((conv => whnf); omega) | (simp [mulSz, Cont.len]; done) | (simp [mulSz, Cont.len]; omega))); conv => whnf)
          intro (tl2 : List Bool)
          conv => whnf
          repeat (refine And.intro ?_ ?_; (focus (first | omega | ((conv => whnf); omega) | (simp [mulSz, Cont.len]; done) | (simp [mulSz, Cont.len]; omega))); conv => whnf)
          refine ⟨[0, 1, 4], (Sum.inr (k + 1, tl2) : Nat ⊕ (Nat × List Bool)), ?_, ⟨by omega, by rw [hT2]; simp⟩, ?_⟩
          · conv => whnf
            repeat' (first | exact True.intro | rfl | refine And.intro ?_ ?_)
            all_goals (conv => whnf)
            all_goals first | rfl | (rw [hT2, List.length_append]; rfl) | (simp [hT2, mulSz]; done) | skip
          · show n - (k + 1) < n - k
            omega
        · have hb : kb B m k = false := by unfold kb; rw [← hr]; simpa using hb
          have hT2 : thinP A B m (k + 1) = thinP A B m k := by simp [thinP, hb]
          conv => whnf
          refine ⟨by repeat' (first | omega | (simp only [i64max]; omega) | refine And.intro ?_ ?_), ?_⟩
          conv => whnf
          refine ⟨[0, 1, 2], (Sum.inr (k + 1, tl) : Nat ⊕ (Nat × List Bool)), ?_, ⟨by omega, by rw [hT2]; exact hT⟩, ?_⟩
          · conv => whnf
            repeat' (first | exact True.intro | rfl | refine And.intro ?_ ?_)
            all_goals (conv => whnf)
            all_goals first | rfl | (rw [hT2]; rfl) | (rw [hT2]) | skip
          · show n - (k + 1) < n - k
            omega
      · have hge : k = n := by simp at hge; omega
        subst hge
        exact absurd hE hT
set_option maxRecDepth 100000 in
theorem Thin_r5 (A B : List Bool) (n m ca cb : Nat) (hn : n ≤ A.length) (hm : m ≤ B.length) (hN : n ≤ 32768) (hp : patB m B = true) (hm1 : 0 < m) (hm2 : m ≤ 64) (hE : thinP A B m n ≠ []) :
    Fits Try.prog 5 ⟨[.slice 0 0 n ca, .slice 1 0 m cb], [.seg false (.bools A), .seg false (.bools B)], [rowOut 2 [.dead, .dead] (thinP A B m n) fun s => .tup [s, .int .i64 0]]⟩ := by
  refine fits_of_body (C := cfgk 2) (c := c5) (ts := [4, 5]) tok mixed (fun | 5 => some (inv5 A B n m ca cb) | _ => none) (fun _ => none)
    Try.func5 (by kernel_rfl) (by kernel_rfl) (by kernel_rfl) (by kernel_rfl) rfl ?_
  conv => whnf
  refine tst_in (fun h_ => False.elim (by simp at h_ <;> omega)) (fun _ => ?_)
  conv => whnf
  refine ⟨_, [1], isPattern_q B m cb hm (by omega), ?_⟩
  conv => whnf
  refine ⟨?_, ?_, ?_⟩
  · conv => whnf
    repeat' (first | exact True.intro | rfl | refine And.intro ?_ ?_)
  · conv => whnf
    repeat' (first | exact True.intro | rfl | refine And.intro ?_ ?_)
  conv => whnf
  refine tst_in (fun h_ => False.elim (by simp [hp] at h_ <;> omega)) (fun _ => ?_)
  conv => whnf
  refine ⟨⟨[0, 1], (Sum.inl 0 : Nat ⊕ (Nat × List Bool)), ?_, Nat.zero_le _, rfl⟩, ?_⟩
  · conv => whnf
    repeat' (first | exact True.intro | rfl | refine And.intro ?_ ?_)
  · rintro (k | ⟨k, tl⟩) hpr
    · obtain ⟨hk, hT⟩ : k ≤ n ∧ thinP A B m k = [] := hpr
      conv => whnf
      refine tst_in (fun hlt => ?_) (fun hge => ?_)
      · skip
        have hlt : k < n := by simp at hlt; omega
        have hr := rem_nat k m
        have hm0 := Nat.mod_lt k hm1
        have hq0 : 0 ≤ (k : Int) % (m : Int) := Int.emod_nonneg _ (by omega)
        have hq1 : (k : Int) % (m : Int) < m := Int.emod_lt_of_pos _ (by omega)
        conv => whnf
        refine ⟨by repeat' (first | omega | (simp only [i64max]; omega) | refine And.intro ?_ ?_), ?_⟩
        conv => whnf
        refine ⟨by repeat' (first | omega | (simp only [i64max]; omega) | refine And.intro ?_ ?_), ?_⟩
        conv => whnf
        refine ⟨by repeat' (first | omega | (simp only [i64max]; omega) | refine And.intro ?_ ?_), ?_⟩
        conv => whnf
        refine ⟨by repeat' (first | omega | (simp only [i64max]; omega) | refine And.intro ?_ ?_), ?_⟩
        conv => whnf
        refine ⟨by repeat' (first | omega | (simp only [i64max]; omega) | refine And.intro ?_ ?_), ?_⟩
        conv => whnf
        refine tst_in (fun hb => ?_) (fun hb => ?_)
        · have hb : kb B m k = true := by unfold kb; rw [← hr]; simpa using hb
          have hT2 : thinP A B m (k + 1) = [A.getD k false] := by simp [thinP, hb, hT]
          conv => whnf
          repeat (refine And.intro ?_ ?_; (focus (first | omega | ((conv => whnf); omega) | (simp [mulSz, Cont.len]; done) | (simp [mulSz, Cont.len]; omega))); conv => whnf)
          intro (tl2 : List Bool)
          conv => whnf
          repeat (refine And.intro ?_ ?_; (focus (first | omega | ((conv => whnf); omega) | (simp [mulSz, Cont.len]; done) | (simp [mulSz, Cont.len]; omega))); conv => whnf)
          refine ⟨[0, 1, 3], (Sum.inr (k + 1, tl2) : Nat ⊕ (Nat × List Bool)), ?_, ⟨by omega, by rw [hT2]; simp⟩, ?_⟩
          · conv => whnf
            repeat' (first | exact True.intro | rfl | refine And.intro ?_ ?_)
            all_goals (conv => whnf)
            all_goals first | rfl | (rw [hT2]; rfl) | (simp [hT2, mulSz]; done) | skip
          · show n - (k + 1) < n - k
            omega
        · have hb : kb B m k = false := by unfold kb; rw [← hr]; simpa using hb
          have hT2 : thinP A B m (k + 1) = [] := by simp [thinP, hb, hT]
          conv => whnf
          refine ⟨by repeat' (first | omega | (simp only [i64max]; omega) | refine And.intro ?_ ?_), ?_⟩
          conv => whnf
          refine ⟨[0, 1], (Sum.inl (k + 1) : Nat ⊕ (Nat × List Bool)), ?_, ⟨by omega, hT2⟩, ?_⟩
          · conv => whnf
            repeat' (first | exact True.intro | rfl | refine And.intro ?_ ?_)
          · show n - (k + 1) < n - k
            omega
      · have hge : k = n := by simp at hge; omega
        subst hge
        exact absurd hT hE
    · obtain ⟨hk, hT⟩ : k ≤ n ∧ thinP A B m k ≠ [] := hpr
      have hle := thinP_le A B m k
      conv => whnf
      refine tst_in (fun hlt => ?_) (fun hge => ?_)
      · skip
        have hlt : k < n := by simp at hlt; omega
        have hr := rem_nat k m
        have hm0 := Nat.mod_lt k hm1
        have hq0 : 0 ≤ (k : Int) % (m : Int) := Int.emod_nonneg _ (by omega)
        have hq1 : (k : Int) % (m : Int) < m := Int.emod_lt_of_pos _ (by omega)
        conv => whnf
        refine ⟨by repeat' (first | omega | (simp only [i64max]; omega) | refine And.intro ?_ ?_), ?_⟩
        conv => whnf
        refine ⟨by repeat' (first | omega | (simp only [i64max]; omega) | refine And.intro ?_ ?_), ?_⟩
        conv => whnf
        refine ⟨by repeat' (first | omega | (simp only [i64max]; omega) | refine And.intro ?_ ?_), ?_⟩
        conv => whnf
        refine ⟨by repeat' (first | omega | (simp only [i64max]; omega) | refine And.intro ?_ ?_), ?_⟩
        conv => whnf
        refine ⟨by repeat' (first | omega | (simp only [i64max]; omega) | refine And.intro ?_ ?_), ?_⟩
        conv => whnf
        refine tst_in (fun hb => ?_) (fun hb => ?_)
        · have hb : kb B m k = true := by unfold kb; rw [← hr]; simpa using hb
          have hT2 : thinP A B m (k + 1) = thinP A B m k ++ [A.getD k false] := by simp [thinP, hb]
          conv => whnf
          repeat (refine And.intro ?_ ?_; (focus (first | omega | ((conv => whnf); omega) | (simp [mulSz, Cont.len]; done) | (simp [mulSz, Cont.len]; omega))); conv => whnf)
          intro (tl2 : List Bool)
          conv => whnf
          repeat (refine And.intro ?_ ?_; (focus (first | omega | ((conv => whnf); omega) | (simp [mulSz, Cont.len]; done) | (simp [mulSz, Cont.len]; omega))); conv => whnf)
          refine ⟨[0, 1, 4], (Sum.inr (k + 1, tl2) : Nat ⊕ (Nat × List Bool)), ?_, ⟨by omega, by rw [hT2]; simp⟩, ?_⟩
          · conv => whnf
            repeat' (first | exact True.intro | rfl | refine And.intro ?_ ?_)
            all_goals (conv => whnf)
            all_goals first | rfl | (rw [hT2, List.length_append]; rfl) | (simp [hT2, mulSz]; done) | skip
          · show n - (k + 1) < n - k
            omega
        · have hb : kb B m k = false := by unfold kb; rw [← hr]; simpa using hb
          have hT2 : thinP A B m (k + 1) = thinP A B m k := by simp [thinP, hb]
          conv => whnf
          refine ⟨by repeat' (first | omega | (simp only [i64max]; omega) | refine And.intro ?_ ?_), ?_⟩
          conv => whnf
          refine ⟨[0, 1, 2], (Sum.inr (k + 1, tl) : Nat ⊕ (Nat × List Bool)), ?_, ⟨by omega, by rw [hT2]; exact hT⟩, ?_⟩
          · conv => whnf
            repeat' (first | exact True.intro | rfl | refine And.intro ?_ ?_)
            all_goals (conv => whnf)
            all_goals first | rfl | (rw [hT2]; rfl) | (rw [hT2]) | skip
          · show n - (k + 1) < n - k
            omega
      · have hge : k = n := by simp at hge; omega
        subst hge
        conv => whnf
        refine .inl ⟨tl, [0, 1, 2], ?_⟩
        conv => whnf
        repeat' (first | exact True.intro | rfl | refine And.intro ?_ ?_)
        all_goals (conv => whnf)
        all_goals first | rfl | skip
set_option maxRecDepth 100000 in
theorem Thin_b5 (A B : List Bool) (n m ca cb : Nat) (hm : m ≤ B.length) (hMN : m ≤ 4611686018427387904) (hb : ¬ (n ≤ 32768 ∧ patB m B = true)) :
    Fits Try.prog 5 ⟨[.slice 0 0 n ca, .slice 1 0 m cb], [.seg false (.bools A), .seg false (.bools B)], [nilOut [.dead, .dead] (.tup [.nils, .int .i64 1])]⟩ := by
  refine fits_of_body (C := cfgk 2) (c := c5) (ts := [4, 5]) tok mixed (fun _ => none) (fun _ => none)
    Try.func5 (by kernel_rfl) (by kernel_rfl) (by kernel_rfl) (by kernel_rfl) rfl ?_
  conv => whnf
  refine tst_in (fun h1 => ?_) (fun h1 => ?_)
  · conv => whnf
    refine .inl ⟨(), [0, 1], ?_⟩
    conv => whnf
    repeat' (first | exact True.intro | rfl | refine And.intro ?_ ?_)
  · have h1 : n ≤ 32768 := by simp at h1; omega
    conv => whnf
    refine ⟨_, [1], isPattern_q B m cb hm hMN, ?_⟩
    conv => whnf
    refine ⟨?_, ?_, ?_⟩
    · conv => whnf
      repeat' (first | exact True.intro | rfl | refine And.intro ?_ ?_)
    · conv => whnf
      repeat' (first | exact True.intro | rfl | refine And.intro ?_ ?_)
    conv => whnf
    have hp : patB m B = false := by
      cases h : patB m B with
      | true => exact absurd ⟨h1, h⟩ hb
      | false => rfl
    refine tst_in (fun _ => ?_) (fun h_ => False.elim (by simp [hp] at h_ <;> omega))
    conv => whnf
    refine .inl ⟨(), [0, 1], ?_⟩
    conv => whnf
    repeat' (first | exact True.intro | rfl | refine And.intro ?_ ?_)
end Go.Proofs.Ytflbhbiflcaocaa

set_option linter.unusedVariables false
set_option linter.unusedSimpArgs false
namespace Go.Proofs.Ytflbhbiflcaocaa
open Go Go.Fw
def mkP (A : List Bool) : Nat → List Int
  | 0 => []
  | k + 1 => mkP A k ++ [mk (A.getD k false)]
theorem mkP_len (A : List Bool) : ∀ k, (mkP A k).length = k
  | 0 => rfl
  | k + 1 => by simp [mkP, mkP_len A k]
theorem mk_in (b : Bool) : 0 ≤ mk b ∧ mk b ≤ 1 := by cases b <;> simp [mk]
def rowI (k : Nat) (pre : List Seg) (xs : List Int) (f : AV → AV) : FOut := ⟨List Int, fun _ => True, fun tl => f (.slice k 0 xs.length (xs.length + tl.length)), fun tl => pre ++ [.seg true (.ints .u8 (xs ++ tl))]⟩
def rowX (k : Nat) (pre : List Seg) (xs : List Int) (f : AV → AV) : FOut := ⟨Unit, fun _ => True, fun _ => f (.slice k 0 xs.length xs.length), fun _ => pre ++ [.seg true (.ints .u8 xs)]⟩
theorem set_fill (l : List Int) (k r : Nat) (x y : Int) (hl : l.length = k) : (l ++ y :: List.replicate r 0).set k x = l ++ [x] ++ List.replicate r 0 := by
  subst hl
  simp
noncomputable def c11 : Code := (Try.f11.body).getD .skip
def inv11 (A : List Bool) (n ca : Nat) : LInv := ⟨Nat, fun k => ⟨anyTo 23 [.slice 0 0 n ca, .any, .any, .slice 1 0 n n, .any, .any, .any, .any, .any, .slice 0 0 n ca, .int .i64 n, .int .i64 k], [.seg false (.bools A), .seg true (.ints .u8 (mkP A k ++ List.replicate (n - k) 0))]⟩, fun k => k ≤ n, fun k => n - k⟩
theorem Marks_11 (A : List Bool) (n ca : Nat) (hn : n ≤ A.length) (hN : n ≤ 140737488355328) : Fits Try.prog 11 ⟨[.slice 0 0 n ca], [.seg false (.bools A)], [rowX 1 [.dead] (mkP A n) fun s => s]⟩ := by
  refine fits_of_body (C := cfgk 1) (c := c11) (ts := [2]) tok mixed (fun | 3 => some (inv11 A n ca) | _ => none) (fun _ => none)
    Try.func11 (by kernel_rfl) (by kernel_rfl) (by kernel_rfl) (by kernel_rfl) rfl ?_
  conv => whnf
  refine ⟨⟨by omega, by omega, by show (1 : Int) * (n : Int) ≤ 281474976710656; omega, by omega⟩, ?_⟩
  conv => whnf
  refine ⟨⟨[0, 1], (0 : Nat), ?_, Nat.zero_le _⟩, ?_⟩
  · conv => whnf
    repeat' (first | exact True.intro | rfl | refine And.intro ?_ ?_)
  · intro (k : Nat) (hk : k ≤ n)
    have hlen := mkP_len A k
    conv => whnf
    refine tst_in (fun hlt => ?_) (fun hge => ?_)
    · skip
      have hlt : k < n := by simp at hlt; omega
      conv => whnf
      refine ⟨by repeat' (first | omega | (simp only [i64max]; omega) | refine And.intro ?_ ?_), ?_⟩
      conv => whnf
      refine ⟨by repeat' (first | omega | (simp only [i64max]; omega) | refine And.intro ?_ ?_), ?_⟩
      conv => whnf
      refine ⟨_, [], mark_q (A.getD (0 + ((k : Int)).toNat) false), ?_⟩
      conv => whnf
      refine ⟨?_, ?_, ?_⟩
      · conv => whnf
        repeat' (first | exact True.intro | rfl | refine And.intro ?_ ?_)
      · conv => whnf
        repeat' (first | exact True.intro | rfl | refine And.intro ?_ ?_)
      conv => whnf
      have hcl : (mkP A k ++ List.replicate (n - k) (0 : Int)).length = n := by simp [hlen]; omega
      refine ⟨by repeat' (first | omega | (simp only [i64max]; omega) | refine And.intro ?_ ?_), ?_⟩
      conv => whnf
      refine ⟨by repeat' (first | omega | (simp only [i64max]; omega) | refine And.intro ?_ ?_), ?_⟩
      conv => whnf
      refine ⟨by repeat' (first | omega | (simp only [i64max]; omega) | refine And.intro ?_ ?_), ?_⟩
      conv => whnf
      refine ⟨[0, 1], k + 1, ?_, ?_, ?_⟩
      · conv => whnf
        repeat' (first | exact True.intro | rfl | refine And.intro ?_ ?_)
        all_goals first | rfl | skip
        show mkP A (k + 1) ++ List.replicate (n - (k + 1)) 0 = (mkP A k ++ List.replicate (n - k) 0).set (0 + ((k : Int)).toNat) (mk (A.getD (0 + ((k : Int)).toNat) false))
        rw [show 0 + ((k : Int)).toNat = k by omega, show n - k = (n - (k + 1)) + 1 by omega, List.replicate_succ, set_fill _ _ _ _ _ hlen]
        rfl
      · show k + 1 ≤ n
        omega
      · show n - (k + 1) < n - k
        omega
    · skip
      have hge : k = n := by simp at hge; omega
      subst hge
      conv => whnf
      refine .inl ⟨(), [0, 1], ?_⟩
      conv => whnf
      repeat' (first | exact True.intro | rfl | refine And.intro ?_ ?_)
      all_goals (show _ = _; first | rfl | (simp [hlen]; done) | (rw [hlen]; rfl))
noncomputable def c12 : Code := (Try.f12.body).getD .skip
def st12 (A : List Bool) (n ca : Nat) : Nat → List Int → St
  | 0, _ => ⟨anyTo 22 [.slice 0 0 n ca, .any, .any, .nils, .int .i64 0], [.seg false (.bools A)]⟩
  | k + 1, tl => ⟨anyTo 22 [.slice 0 0 n ca, .any, .any, .slice 1 0 (k + 1) (k + 1 + tl.length), .int .i64 (k + 1 : Nat)], [.seg false (.bools A), .seg true (.ints .u8 (mkP A (k + 1) ++ tl))]⟩
def inv12 (A : List Bool) (n ca : Nat) : LInv := ⟨Nat × List Int, fun p => st12 A n ca p.1 p.2, fun p => p.1 ≤ n, fun p => n - p.1⟩
theorem Marks_12n (A : List Bool) (ca : Nat) : Fits Try.prog 12 ⟨[.slice 0 0 0 ca], [.seg false (.bools A)], [nilOut [.dead] .nils]⟩ := by
  refine fits_of_body (C := cfgk 1) (c := c12) (ts := [2]) tok mixed (fun | 3 => some ⟨Unit, fun _ => ⟨anyTo 22 [.slice 0 0 0 ca, .any, .any, .nils, .int .i64 0], [.seg false (.bools A)]⟩, fun _ => True, fun _ => 0⟩ | _ => none) (fun _ => none)
    Try.func12 (by kernel_rfl) (by kernel_rfl) (by kernel_rfl) (by kernel_rfl) rfl ?_
  conv => whnf
  refine ⟨⟨[0], (), ?_, True.intro⟩, ?_⟩
  · conv => whnf
    repeat' (first | exact True.intro | rfl | refine And.intro ?_ ?_)
  · intro _ _
    conv => whnf
    refine .inl ⟨(), [0], ?_⟩
    conv => whnf
    repeat' (first | exact True.intro | rfl | refine And.intro ?_ ?_)
theorem Marks_12 (A : List Bool) (n ca : Nat) (hn : n ≤ A.length) (hN : n ≤ 140737488355328) (h0 : 0 < n) : Fits Try.prog 12 ⟨[.slice 0 0 n ca], [.seg false (.bools A)], [rowI 1 [.dead] (mkP A n) fun s => s]⟩ := by
  refine fits_of_body (C := cfgk 1) (c := c12) (ts := [2]) tok mixed (fun | 3 => some (inv12 A n ca) | _ => none) (fun _ => none)
    Try.func12 (by kernel_rfl) (by kernel_rfl) (by kernel_rfl) (by kernel_rfl) rfl ?_
  conv => whnf
  refine ⟨⟨[0], ((0, []) : Nat × List Int), ?_, Nat.zero_le _⟩, ?_⟩
  · conv => whnf
    repeat' (first | exact True.intro | rfl | refine And.intro ?_ ?_)
  · rintro ⟨k, tl⟩ hk
    have hk : k ≤ n := hk
    have hlen := mkP_len A k
    cases k with
    | zero =>
      conv => whnf
      refine tst_in (fun hlt => ?_) (fun hge => ?_)
      · skip
        conv => whnf
        refine ⟨by repeat' (first | omega | (simp only [i64max]; omega) | refine And.intro ?_ ?_), ?_⟩
        conv => whnf
        refine ⟨by repeat' (first | omega | (simp only [i64max]; omega) | refine And.intro ?_ ?_), ?_⟩
        conv => whnf
        refine tst_in (fun hb => ?_) (fun hb => ?_)
        · skip
          have hb : A.getD 0 false = true := by simpa using hb
          conv => whnf
          repeat (refine And.intro ?_ ?_; (focus (first | omega | ((conv => whnf); omega) | (simp [mulSz, Cont.len]; done) | (simp [mulSz, Cont.len]; omega))); conv => whnf)
          intro (tl2 : List Int)
          conv => whnf
          repeat (refine And.intro ?_ ?_; (focus (first | omega | ((conv => whnf); omega) | (simp [mulSz, Cont.len]; done) | (simp [mulSz, Cont.len]; omega))); conv => whnf)
          refine ⟨[0, 2], ((1, tl2) : Nat × List Int), ?_, ?_, ?_⟩
          · conv => whnf
            repeat' (first | exact True.intro | rfl | refine And.intro ?_ ?_)
            all_goals (conv => whnf)
            all_goals (show mkP A 1 ++ tl2 = _; simp only [mkP, hb]; rfl)
          · exact h0
          · show n - 1 < n - 0
            omega
        · skip
          have hb : A.getD 0 false = false := by simpa using hb
          conv => whnf
          repeat (refine And.intro ?_ ?_; (focus (first | omega | ((conv => whnf); omega) | (simp [mulSz, Cont.len]; done) | (simp [mulSz, Cont.len]; omega))); conv => whnf)
          intro (tl2 : List Int)
          conv => whnf
          repeat (refine And.intro ?_ ?_; (focus (first | omega | ((conv => whnf); omega) | (simp [mulSz, Cont.len]; done) | (simp [mulSz, Cont.len]; omega))); conv => whnf)
          refine ⟨[0, 2], ((1, tl2) : Nat × List Int), ?_, ?_, ?_⟩
          · conv => whnf
            repeat' (first | exact True.intro | rfl | refine And.intro ?_ ?_)
            all_goals (conv => whnf)
            all_goals (show mkP A 1 ++ tl2 = _; simp only [mkP, hb]; rfl)
          · exact h0
          · show n - 1 < n - 0
            omega
      · simp at hge; omega
    | succ k =>
      conv => whnf
      refine tst_in (fun hlt => ?_) (fun hge => ?_)
      · skip
        have hlt : k + 1 < n := by simp at hlt; omega
        have hX : 0 + (((k + 1 : Nat) : Int)).toNat = k + 1 := by omega
        conv => whnf
        refine ⟨by repeat' (first | omega | (simp only [i64max]; omega) | refine And.intro ?_ ?_), ?_⟩
        conv => whnf
        refine ⟨by repeat' (first | omega | (simp only [i64max]; omega) | refine And.intro ?_ ?_), ?_⟩
        conv => whnf
        refine tst_in (fun hb => ?_) (fun hb => ?_)
        · skip
          have hb : A.getD (k + 1) false = true := by simpa using hb
          conv => whnf
          repeat (refine And.intro ?_ ?_; (focus (first | omega | ((conv => whnf); omega) | (simp [mulSz, Cont.len]; done) | (simp [mulSz, Cont.len]; omega))); conv => whnf)
          intro (tl2 : List Int)
          conv => whnf
          repeat (refine And.intro ?_ ?_; (focus (first | omega | ((conv => whnf); omega) | (simp [mulSz, Cont.len]; done) | (simp [mulSz, Cont.len]; omega))); conv => whnf)
          refine ⟨[0, 3], ((k + 1 + 1, tl2) : Nat × List Int), ?_, ?_, ?_⟩
          · conv => whnf
            repeat' (first | exact True.intro | rfl | refine And.intro ?_ ?_)
            all_goals (conv => whnf)
            all_goals (show mkP A (k + 1 + 1) ++ tl2 = ((mkP A (k + 1) ++ tl).drop 0).take (k + 1) ++ (([1] : List Int).drop 0).take 1 ++ tl2; rw [List.drop_zero, List.take_left' hlen]; simp only [mkP, hb]; rfl)
          · exact hlt
          · show n - (k + 1 + 1) < n - (k + 1)
            omega
        · skip
          have hb : A.getD (k + 1) false = false := by simpa using hb
          conv => whnf
          repeat (refine And.intro ?_ ?_; (focus (first | omega | ((conv => whnf); omega) | (simp [mulSz, Cont.len]; done) | (simp [mulSz, Cont.len]; omega))); conv => whnf)
          intro (tl2 : List Int)
          conv => whnf
          repeat (refine And.intro ?_ ?_; (focus (first | omega | ((conv => whnf); omega) | (simp [mulSz, Cont.len]; done) | (simp [mulSz, Cont.len]; omega))); conv => whnf)
          refine ⟨[0, 3], ((k + 1 + 1, tl2) : Nat × List Int), ?_, ?_, ?_⟩
          · conv => whnf
            repeat' (first | exact True.intro | rfl | refine And.intro ?_ ?_)
            all_goals (conv => whnf)
            all_goals (show mkP A (k + 1 + 1) ++ tl2 = ((mkP A (k + 1) ++ tl).drop 0).take (k + 1) ++ (([0] : List Int).drop 0).take 1 ++ tl2; rw [List.drop_zero, List.take_left' hlen]; simp only [mkP, hb]; rfl)
          · exact hlt
          · show n - (k + 1 + 1) < n - (k + 1)
            omega
      · skip
        have hge : k + 1 = n := by simp at hge; omega
        subst hge
        conv => whnf
        refine .inl ⟨tl, [0, 1], ?_⟩
        conv => whnf
        repeat' (first | exact True.intro | rfl | refine And.intro ?_ ?_)
        all_goals (show _ = _; first | rfl | (simp [hlen]; done) | (rw [hlen]; rfl))
end Go.Proofs.Ytflbhbiflcaocaa

set_option linter.unusedVariables false
set_option linter.unusedSimpArgs false
namespace Go.Proofs.Ytflbhbiflcaocaa
open Go Go.Fw
def cntP (B : List Bool) (m : Nat) : Nat → Nat
  | 0 => 0
  | k + 1 => if kb B m k then cntP B m k + 1 else cntP B m k
theorem cntP_le (B : List Bool) (m : Nat) : ∀ k, cntP B m k ≤ k
  | 0 => Nat.le_refl _
  | k + 1 => by
    have := cntP_le B m k
    simp only [cntP]
    split <;> omega
theorem cntP_mono (B : List Bool) (m : Nat) (k : Nat) : ∀ d, cntP B m k ≤ cntP B m (k + d)
  | 0 => Nat.le_refl _
  | d + 1 => by
    have := cntP_mono B m k d
    show cntP B m k ≤ cntP B m (k + d + 1)
    simp only [cntP]
    split <;> omega
def cellP (L B : List Bool) (m ln k : Nat) : Int := if kb B m k then (if cntP B m k < ln then mk (L.getD (cntP B m k) false) else 2) else 2
def fillP (L B : List Bool) (m ln : Nat) : Nat → List Int
  | 0 => []
  | k + 1 => fillP L B m ln k ++ [cellP L B m ln k]
theorem fillP_len (L B : List Bool) (m ln : Nat) : ∀ k, (fillP L B m ln k).length = k
  | 0 => rfl
  | k + 1 => by simp [fillP, fillP_len L B m ln k]
theorem set_at (l : List Int) (k r : Nat) (x y : Int) (hl : l.length = k) : ((l ++ [x] ++ List.replicate r (0 : Int))).set k y = l ++ [y] ++ List.replicate r 0 := by
  subst hl
  simp
noncomputable def c7 : Code := (Try.f7.body).getD .skip
def inv7 (L B : List Bool) (N : Int) (ln m ca cb n : Nat) : LInv := ⟨Nat, fun k => ⟨anyTo 60 [.slice 0 0 ln ca, .slice 1 0 m cb, .int .i64 N, .any, .any, .any, .any, .any, .slice 2 0 N.toNat N.toNat, .int .i64 (cntP B m k : Nat), .any, .any, .any, .any, .any, .any, .any, .any, .any, .any, .any, .any, .any, .any, .any, .int .i64 (N.toNat : Nat), .int .i64 k], [.seg false (.bools L), .seg false (.bools B), .seg true (.ints .u8 (fillP L B m ln k ++ List.replicate (n - k) 0))]⟩, fun k => k ≤ n, fun k => n - k⟩
set_option maxRecDepth 100000 in
theorem Fill_7 (L B : List Bool) (N : Int) (ln m ca cb n : Nat) (hl : ln ≤ L.length) (hlN : ln ≤ 140737488355328) (hm : m ≤ B.length) (hN : N = n) (hn : n ≤ 32768) (hp : patB m B = true) (hm1 : 0 < m) (hm2 : m ≤ 64) {o : FOut}
    (ho : (cntP B m n = ln ∧ o = rowX 2 [.dead, .dead] (fillP L B m ln n) fun s => .tup [s, .int .i64 0]) ∨ (cntP B m n ≠ ln ∧ o = nilOut [.dead, .dead] (.tup [.nils, .int .i64 1]))) :
    Fits Try.prog 7 ⟨[.slice 0 0 ln ca, .slice 1 0 m cb, .int .i64 N], [.seg false (.bools L), .seg false (.bools B)], [o]⟩ := by
  refine fits_of_body (C := cfgk 2) (c := c7) (ts := [6, 7]) tok mixed (fun | 6 => some (inv7 L B N ln m ca cb n) | _ => none) (fun _ => none)
    Try.func7 (by kernel_rfl) (by kernel_rfl) (by kernel_rfl) (by kernel_rfl) rfl ?_
  have hNn : N.toNat = n := by omega
  conv => whnf
  refine ⟨_, [1], isPattern_q B m cb hm (by omega), ?_⟩
  conv => whnf
  refine ⟨?_, ?_, ?_⟩
  · conv => whnf
    repeat' (first | exact True.intro | rfl | refine And.intro ?_ ?_)
  · conv => whnf
    repeat' (first | exact True.intro | rfl | refine And.intro ?_ ?_)
  conv => whnf
  refine tst_in (fun h_ => False.elim (by simp [hp] at h_ <;> omega)) (fun _ => ?_)
  conv => whnf
  refine tst_in (fun h_ => False.elim (by simp at h_ <;> omega)) (fun _ => ?_)
  conv => whnf
  refine tst_in (fun h_ => False.elim (by simp at h_ <;> omega)) (fun _ => ?_)
  conv => whnf
  refine ⟨⟨by omega, by omega, by show (1 : Int) * N ≤ 281474976710656; omega, by omega⟩, ?_⟩
  conv => whnf
  refine ⟨⟨[0, 1, 2], (0 : Nat), ?_, Nat.zero_le _⟩, ?_⟩
  · conv => whnf
    repeat' (first | exact True.intro | rfl | refine And.intro ?_ ?_)
    all_goals (show List.replicate n 0 = List.replicate N.toNat 0; rw [hNn])
  · intro (k : Nat) (hk : k ≤ n)
    have hlen := fillP_len L B m ln k
    have hcn := cntP_le B m k
    conv => whnf
    refine tst_in (fun hlt => ?_) (fun hge => ?_)
    · skip
      have hlt : k < n := by simp at hlt; omega
      have hr := rem_nat k m
      have hm0 := Nat.mod_lt k hm1
      have hq0 : 0 ≤ (k : Int) % (m : Int) := Int.emod_nonneg _ (by omega)
      have hq1 : (k : Int) % (m : Int) < m := Int.emod_lt_of_pos _ (by omega)
      have hcl : (fillP L B m ln k ++ List.replicate (n - k) (0 : Int)).length = n := by simp [hlen]; omega
      have hX : 0 + ((k : Int)).toNat = k := by omega
      have e1 : (fillP L B m ln k ++ List.replicate (n - k) (0 : Int)).set k 2 = fillP L B m ln k ++ [2] ++ List.replicate (n - (k + 1)) 0 := by
        rw [show n - k = (n - (k + 1)) + 1 by omega, List.replicate_succ, set_fill _ _ _ _ _ hlen]
      conv => whnf
      refine ⟨by repeat' (first | omega | (simp only [i64max]; omega) | refine And.intro ?_ ?_), ?_⟩
      conv => whnf
      refine ⟨by repeat' (first | omega | (simp only [i64max]; omega) | refine And.intro ?_ ?_), ?_⟩
      conv => whnf
      refine ⟨by repeat' (first | omega | (simp only [i64max]; omega) | refine And.intro ?_ ?_), ?_⟩
      conv => whnf
      refine ⟨by repeat' (first | omega | (simp only [i64max]; omega) | refine And.intro ?_ ?_), ?_⟩
      conv => whnf
      refine ⟨by repeat' (first | omega | (simp only [i64max]; omega) | refine And.intro ?_ ?_), ?_⟩
      conv => whnf
      refine tst_in (fun hb => ?_) (fun hb => ?_)
      · skip
        have hb : kb B m k = false := by unfold kb; rw [← hr]; simpa using hb
        have hF : fillP L B m ln (k + 1) = fillP L B m ln k ++ [2] := by simp [fillP, cellP, hb]
        have hC : cntP B m (k + 1) = cntP B m k := by simp [cntP, hb]
        conv => whnf
        refine ⟨by repeat' (first | omega | (simp only [i64max]; omega) | refine And.intro ?_ ?_), ?_⟩
        conv => whnf
        refine ⟨[0, 1, 2], k + 1, ?_, ?_, ?_⟩
        · conv => whnf
          repeat' (first | exact True.intro | rfl | refine And.intro ?_ ?_)
          all_goals (conv => whnf)
          all_goals first | rfl | (show ((cntP B m (k + 1) : Nat) : Int) = _; rw [hC]; done) | (show fillP L B m ln (k + 1) ++ List.replicate (n - (k + 1)) 0 = (fillP L B m ln k ++ List.replicate (n - k) 0).set (0 + ((k : Int)).toNat) 2; rw [hX, e1, hF]; done) | skip
        · show k + 1 ≤ n
          omega
        · show n - (k + 1) < n - k
          omega
      · skip
        have hb : kb B m k = true := by unfold kb; rw [← hr]; simpa using hb
        have hC : cntP B m (k + 1) = cntP B m k + 1 := by simp [cntP, hb]
        conv => whnf
        refine tst_in (fun hx => ?_) (fun hx => ?_)
        · skip
          have hx : cntP B m k < ln := by simp at hx; omega
          have hF : fillP L B m ln (k + 1) = fillP L B m ln k ++ [mk (L.getD (cntP B m k) false)] := by simp [fillP, cellP, hb, hx]
          have hY : 0 + ((cntP B m k : Nat) : Int).toNat = cntP B m k := by omega
          conv => whnf
          refine ⟨by repeat' (first | omega | (simp only [i64max]; omega) | refine And.intro ?_ ?_), ?_⟩
          conv => whnf
          refine ⟨by repeat' (first | omega | (simp only [i64max]; omega) | refine And.intro ?_ ?_), ?_⟩
          conv => whnf
          refine ⟨_, [], mark_q (L.getD (0 + ((cntP B m k : Nat) : Int).toNat) false), ?_⟩
          conv => whnf
          refine ⟨?_, ?_, ?_⟩
          · conv => whnf
            repeat' (first | exact True.intro | rfl | refine And.intro ?_ ?_)
          · conv => whnf
            repeat' (first | exact True.intro | rfl | refine And.intro ?_ ?_)
          conv => whnf
          have hcl2 : ((fillP L B m ln k ++ List.replicate (n - k) (0 : Int)).set (0 + ((k : Int)).toNat) 2).length = n := by rw [List.length_set, hcl]
          refine ⟨by repeat' (first | omega | (simp only [i64max]; omega) | refine And.intro ?_ ?_), ?_⟩
          conv => whnf
          refine ⟨by repeat' (first | omega | (simp only [i64max]; omega) | refine And.intro ?_ ?_), ?_⟩
          conv => whnf
          refine ⟨by repeat' (first | omega | (simp only [i64max]; omega) | refine And.intro ?_ ?_), ?_⟩
          conv => whnf
          refine ⟨by repeat' (first | omega | (simp only [i64max]; omega) | refine And.intro ?_ ?_), ?_⟩
          conv => whnf
          refine ⟨[0, 1, 2], k + 1, ?_, ?_, ?_⟩
          · conv => whnf
            repeat' (first | exact True.intro | rfl | refine And.intro ?_ ?_)
            all_goals (conv => whnf)
            all_goals first | rfl | (show ((cntP B m (k + 1) : Nat) : Int) = _; rw [hC]; rfl) | (show fillP L B m ln (k + 1) ++ List.replicate (n - (k + 1)) 0 = ((fillP L B m ln k ++ List.replicate (n - k) 0).set (0 + ((k : Int)).toNat) 2).set (0 + ((k : Int)).toNat) (mk (L.getD (0 + ((cntP B m k : Nat) : Int).toNat) false)); rw [hX, hY, e1, set_at _ _ _ _ _ hlen, hF]; done) | skip
          · show k + 1 ≤ n
            omega
          · show n - (k + 1) < n - k
            omega
        · skip
          have hx : ¬ cntP B m k < ln := by simp at hx; omega
          have hF : fillP L B m ln (k + 1) = fillP L B m ln k ++ [2] := by simp [fillP, cellP, hb, hx]
          conv => whnf
          refine ⟨by repeat' (first | omega | (simp only [i64max]; omega) | refine And.intro ?_ ?_), ?_⟩
          conv => whnf
          refine ⟨by repeat' (first | omega | (simp only [i64max]; omega) | refine And.intro ?_ ?_), ?_⟩
          conv => whnf
          refine ⟨[0, 1, 2], k + 1, ?_, ?_, ?_⟩
          · conv => whnf
            repeat' (first | exact True.intro | rfl | refine And.intro ?_ ?_)
            all_goals (conv => whnf)
            all_goals first | rfl | (show ((cntP B m (k + 1) : Nat) : Int) = _; rw [hC]; rfl) | (show fillP L B m ln (k + 1) ++ List.replicate (n - (k + 1)) 0 = (fillP L B m ln k ++ List.replicate (n - k) 0).set (0 + ((k : Int)).toNat) 2; rw [hX, e1, hF]; done) | skip
          · show k + 1 ≤ n
            omega
          · show n - (k + 1) < n - k
            omega
    · skip
      have hge : k = n := by simp at hge; omega
      subst hge
      rcases ho with ⟨hc, rfl⟩ | ⟨hc, rfl⟩
      · conv => whnf
        refine tst_in (fun h_ => False.elim (by simp [hc] at h_ <;> omega)) (fun _ => ?_)
        conv => whnf
        refine .inl ⟨(), [0, 1, 2], ?_⟩
        conv => whnf
        repeat' (first | exact True.intro | rfl | refine And.intro ?_ ?_)
        all_goals (show _ = _; first | rfl | (simp [hlen, hNn]; done) | skip)
      · conv => whnf
        refine tst_in (fun _ => ?_) (fun h_ => False.elim (hc (by simp at h_; omega)))
        conv => whnf
        refine .inl ⟨(), [0, 1], ?_⟩
        conv => whnf
        repeat' (first | exact True.intro | rfl | refine And.intro ?_ ?_)
end Go.Proofs.Ytflbhbiflcaocaa

set_option linter.unusedVariables false
set_option linter.unusedSimpArgs false
namespace Go.Proofs.Ytflbhbiflcaocaa
open Go Go.Fw
noncomputable def c8 : Code := (Try.f8.body).getD .skip
def inv8 (L B : List Bool) (N : Int) (ln m ca cb n : Nat) : LInv := ⟨Nat, fun k => ⟨anyTo 71 [.slice 0 0 ln ca, .slice 1 0 m cb, .int .i64 N, .any, .any, .any, .any, .any, .int .i64 (cntP B m k : Nat), .int .i64 k], [.seg false (.bools L), .seg false (.bools B)]⟩, fun k => k ≤ n, fun k => n - k⟩
theorem mkP_get (L : List Bool) : ∀ (ln : Nat) (t : List Int) (j : Nat), j < ln → (mkP L ln ++ t).getD j 0 = mk (L.getD j false)
  | 0, _, j, h => absurd h (by omega)
  | ln + 1, t, j, h => by
    simp only [mkP, List.append_assoc]
    rcases Nat.lt_or_ge j ln with h1 | h1
    · exact mkP_get L ln _ j h1
    · have : j = ln := by omega
      subst this
      have hl := mkP_len L j
      rw [List.getD_eq_getElem?_getD, List.getElem?_append_right (by omega), hl, Nat.sub_self]
      rfl
set_option maxRecDepth 100000 in
theorem Fill_8x (L B : List Bool) (N : Int) (ln m ca cb n : Nat) (hl : ln ≤ L.length) (hlN : ln ≤ 140737488355328) (hm : m ≤ B.length) (hN : N = n) (hn : n ≤ 32768) (hp : patB m B = true) (hm1 : 0 < m) (hm2 : m ≤ 64) (hc : cntP B m n ≠ ln) :
    Fits Try.prog 8 ⟨[.slice 0 0 ln ca, .slice 1 0 m cb, .int .i64 N], [.seg false (.bools L), .seg false (.bools B)], [nilOut [.dead, .dead] (.tup [.nils, .int .i64 1])]⟩ := by
  refine fits_of_body (C := cfgk 2) (c := c8) (ts := [6, 7]) tok mixed (fun | 5 => some (inv8 L B N ln m ca cb n) | _ => none) (fun _ => none)
    Try.func8 (by kernel_rfl) (by kernel_rfl) (by kernel_rfl) (by kernel_rfl) rfl ?_
  conv => whnf
  refine ⟨_, [1], pattern_q B m cb hm (by omega), ?_⟩
  conv => whnf
  refine ⟨?_, ?_, ?_⟩
  · conv => whnf
    repeat' (first | exact True.intro | rfl | refine And.intro ?_ ?_)
  · conv => whnf
    repeat' (first | exact True.intro | rfl | refine And.intro ?_ ?_)
  conv => whnf
  refine tst_in (fun h_ => False.elim (by simp [hp] at h_ <;> omega)) (fun _ => ?_)
  conv => whnf
  refine tst_in (fun h_ => False.elim (by simp at h_ <;> omega)) (fun _ => ?_)
  conv => whnf
  refine tst_in (fun h_ => False.elim (by simp at h_ <;> omega)) (fun _ => ?_)
  conv => whnf
  refine ⟨⟨[0, 1], (0 : Nat), ?_, Nat.zero_le _⟩, ?_⟩
  · conv => whnf
    repeat' (first | exact True.intro | rfl | refine And.intro ?_ ?_)
  · intro (k : Nat) (hk : k ≤ n)
    have hcn := cntP_le B m k
    conv => whnf
    refine tst_in (fun hlt => ?_) (fun hge => ?_)
    · skip
      have hlt : k < n := by simp at hlt; omega
      have hr := rem_nat k m
      have hm0 := Nat.mod_lt k hm1
      have hq0 : 0 ≤ (k : Int) % (m : Int) := Int.emod_nonneg _ (by omega)
      have hq1 : (k : Int) % (m : Int) < m := Int.emod_lt_of_pos _ (by omega)
      conv => whnf
      refine ⟨by repeat' (first | omega | (simp only [i64max]; omega) | refine And.intro ?_ ?_), ?_⟩
      conv => whnf
      refine ⟨by repeat' (first | omega | (simp only [i64max]; omega) | refine And.intro ?_ ?_), ?_⟩
      conv => whnf
      refine ⟨by repeat' (first | omega | (simp only [i64max]; omega) | refine And.intro ?_ ?_), ?_⟩
      conv => whnf
      refine tst_in (fun hb => ?_) (fun hb => ?_)
      · skip
        have hb : kb B m k = true := by unfold kb; rw [← hr]; simpa using hb
        have hC : cntP B m (k + 1) = cntP B m k + 1 := by simp [cntP, hb]
        conv => whnf
        refine ⟨by repeat' (first | omega | (simp only [i64max]; omega) | refine And.intro ?_ ?_), ?_⟩
        conv => whnf
        refine ⟨by repeat' (first | omega | (simp only [i64max]; omega) | refine And.intro ?_ ?_), ?_⟩
        conv => whnf
        refine ⟨[0, 1], k + 1, ?_, ?_, ?_⟩
        · conv => whnf
          repeat' (first | exact True.intro | rfl | refine And.intro ?_ ?_)
          all_goals (conv => whnf)
          all_goals first | rfl | (show ((cntP B m (k + 1) : Nat) : Int) = _; rw [hC]; rfl) | skip
        · show k + 1 ≤ n
          omega
        · show n - (k + 1) < n - k
          omega
      · skip
        have hb : kb B m k = false := by unfold kb; rw [← hr]; simpa using hb
        have hC : cntP B m (k + 1) = cntP B m k := by simp [cntP, hb]
        conv => whnf
        refine ⟨by repeat' (first | omega | (simp only [i64max]; omega) | refine And.intro ?_ ?_), ?_⟩
        conv => whnf
        refine ⟨[0, 1], k + 1, ?_, ?_, ?_⟩
        · conv => whnf
          repeat' (first | exact True.intro | rfl | refine And.intro ?_ ?_)
          all_goals (conv => whnf)
          all_goals first | rfl | (show ((cntP B m (k + 1) : Nat) : Int) = _; rw [hC]; done) | skip
        · show k + 1 ≤ n
          omega
        · show n - (k + 1) < n - k
          omega
    · skip
      have hge : k = n := by simp at hge; omega
      subst hge
      conv => whnf
      refine tst_in (fun _ => ?_) (fun h_ => False.elim (hc (by simp at h_; omega)))
      conv => whnf
      refine .inl ⟨(), [0, 1], ?_⟩
      conv => whnf
      repeat' (first | exact True.intro | rfl | refine And.intro ?_ ?_)
def st8z (L B : List Bool) (N : Int) (ln m ca cb : Nat) : Nat → List Int → St
  | 0, _ => ⟨anyTo 71 [.slice 0 0 ln ca, .slice 1 0 m cb, .int .i64 N, .any, .any, .any, .any, .any, .any, .any, .nils, .nils, .int .i64 (0), .int .i64 (0)], [.seg false (.bools L), .seg false (.bools B)]⟩
  | k + 1, tl => ⟨anyTo 71 [.slice 0 0 ln ca, .slice 1 0 m cb, .int .i64 N, .any, .any, .any, .any, .any, .any, .any, .slice 2 0 (k + 1) (k + 1 + tl.length), .nils, .int .i64 (0), .int .i64 ((k + 1 : Nat))], [.seg false (.bools L), .seg false (.bools B), .seg true (.ints .u8 (fillP L B m ln (k + 1) ++ tl))]⟩
def inv8z (L B : List Bool) (N : Int) (ln m ca cb n : Nat) : LInv := ⟨Nat × List Int, fun p => st8z L B N ln m ca cb p.1 p.2, fun p => p.1 ≤ n, fun p => n - p.1⟩
set_option maxRecDepth 100000 in
theorem Fill_8z (L B : List Bool) (N : Int) (ln m ca cb n : Nat) (hl : ln ≤ L.length) (hlN : ln ≤ 140737488355328) (hm : m ≤ B.length) (hN : N = n) (hn : n ≤ 32768) (hp : patB m B = true) (hm1 : 0 < m) (hm2 : m ≤ 64) (hc : cntP B m n = 0) (h0 : ln = 0) {o : FOut} (ho : (n = 0 ∧ o = nilOut [.dead, .dead] (.tup [.nils, .int .i64 0])) ∨ (0 < n ∧ o = rowI 2 [.dead, .dead] (fillP L B m ln n) fun s => .tup [s, .int .i64 0])) :
    Fits Try.prog 8 ⟨[.slice 0 0 ln ca, .slice 1 0 m cb, .int .i64 N], [.seg false (.bools L), .seg false (.bools B)], [o]⟩ := by
  refine fits_of_body (C := cfgk 2) (c := c8) (ts := [6, 7]) tok mixed (fun | 5 => some (inv8 L B N ln m ca cb n) | 15 => some (inv8z L B N ln m ca cb n) | _ => none) (fun _ => none)
    Try.func8 (by kernel_rfl) (by kernel_rfl) (by kernel_rfl) (by kernel_rfl) rfl ?_
  conv => whnf
  refine ⟨_, [1], pattern_q B m cb hm (by omega), ?_⟩
  conv => whnf
  refine ⟨?_, ?_, ?_⟩
  · conv => whnf
    repeat' (first | exact True.intro | rfl | refine And.intro ?_ ?_)
  · conv => whnf
    repeat' (first | exact True.intro | rfl | refine And.intro ?_ ?_)
  conv => whnf
  refine tst_in (fun h_ => False.elim (by simp [hp] at h_ <;> omega)) (fun _ => ?_)
  conv => whnf
  refine tst_in (fun h_ => False.elim (by simp at h_ <;> omega)) (fun _ => ?_)
  conv => whnf
  refine tst_in (fun h_ => False.elim (by simp at h_ <;> omega)) (fun _ => ?_)
  conv => whnf
  refine ⟨⟨[0, 1], (0 : Nat), ?_, Nat.zero_le _⟩, ?_⟩
  · conv => whnf
    repeat' (first | exact True.intro | rfl | refine And.intro ?_ ?_)
  · intro (k : Nat) (hk : k ≤ n)
    have hcn := cntP_le B m k
    conv => whnf
    refine tst_in (fun hlt => ?_) (fun hge => ?_)
    · skip
      have hlt : k < n := by simp at hlt; omega
      have hr := rem_nat k m
      have hm0 := Nat.mod_lt k hm1
      have hq0 : 0 ≤ (k : Int) % (m : Int) := Int.emod_nonneg _ (by omega)
      have hq1 : (k : Int) % (m : Int) < m := Int.emod_lt_of_pos _ (by omega)
      conv => whnf
      refine ⟨by repeat' (first | omega | (simp only [i64max]; omega) | refine And.intro ?_ ?_), ?_⟩
      conv => whnf
      refine ⟨by repeat' (first | omega | (simp only [i64max]; omega) | refine And.intro ?_ ?_), ?_⟩
      conv => whnf
      refine ⟨by repeat' (first | omega | (simp only [i64max]; omega) | refine And.intro ?_ ?_), ?_⟩
      conv => whnf
      refine tst_in (fun hb => ?_) (fun hb => ?_)
      · skip
        have hb : kb B m k = true := by unfold kb; rw [← hr]; simpa using hb
        have hC : cntP B m (k + 1) = cntP B m k + 1 := by simp [cntP, hb]
        conv => whnf
        refine ⟨by repeat' (first | omega | (simp only [i64max]; omega) | refine And.intro ?_ ?_), ?_⟩
        conv => whnf
        refine ⟨by repeat' (first | omega | (simp only [i64max]; omega) | refine And.intro ?_ ?_), ?_⟩
        conv => whnf
        refine ⟨[0, 1], k + 1, ?_, ?_, ?_⟩
        · conv => whnf
          repeat' (first | exact True.intro | rfl | refine And.intro ?_ ?_)
          all_goals (conv => whnf)
          all_goals first | rfl | (show ((cntP B m (k + 1) : Nat) : Int) = _; rw [hC]; rfl) | skip
        · show k + 1 ≤ n
          omega
        · show n - (k + 1) < n - k
          omega
      · skip
        have hb : kb B m k = false := by unfold kb; rw [← hr]; simpa using hb
        have hC : cntP B m (k + 1) = cntP B m k := by simp [cntP, hb]
        conv => whnf
        refine ⟨by repeat' (first | omega | (simp only [i64max]; omega) | refine And.intro ?_ ?_), ?_⟩
        conv => whnf
        refine ⟨[0, 1], k + 1, ?_, ?_, ?_⟩
        · conv => whnf
          repeat' (first | exact True.intro | rfl | refine And.intro ?_ ?_)
          all_goals (conv => whnf)
          all_goals first | rfl | (show ((cntP B m (k + 1) : Nat) : Int) = _; rw [hC]; done) | skip
        · show k + 1 ≤ n
          omega
        · show n - (k + 1) < n - k
          omega
    · skip
      have hge : k = n := by simp at hge; omega
      subst hge
      conv => whnf
      refine tst_in (fun h_ => False.elim (by simp [hc] at h_ <;> omega)) (fun _ => ?_)
      conv => whnf
      subst h0
      refine ⟨_, [0], Marks_12n L ca, ?_⟩
      conv => whnf
      refine ⟨?_, ?_, ?_⟩
      · conv => whnf
        repeat' (first | exact True.intro | rfl | refine And.intro ?_ ?_ | omega)
      · conv => whnf
        repeat' (first | exact True.intro | rfl | refine And.intro ?_ ?_ | omega)
      conv => whnf
      refine ⟨?_, True.intro⟩
      intro _ _
      conv => whnf
      refine ⟨⟨[0, 1], ((0, []) : Nat × List Int), ?_, Nat.zero_le _⟩, ?_⟩
      · conv => whnf
        repeat' (first | exact True.intro | rfl | refine And.intro ?_ ?_)
      · rintro ⟨i, tl⟩ hi
        have hi : i ≤ k := hi
        have hz : ∀ j, j < k → kb B m j = false := fun j hj => by
          cases h : kb B m j with
          | false => rfl
          | true =>
            have h1 := cntP_mono B m (j + 1) (k - (j + 1))
            rw [show j + 1 + (k - (j + 1)) = k by omega, hc] at h1
            simp [cntP, h] at h1
        have hlen := fillP_len L B m 0 i
        cases i with
        | zero =>
          conv => whnf
          refine tst_in (fun hlt => ?_) (fun hge => ?_)
          · skip
            have hlt : 0 < k := by simp at hlt; omega
            have hb := hz 0 hlt
            have hr : ((0 : Int) % (m : Int)).toNat = 0 % m := by simp
            have hq0 : (0 : Int) % (m : Int) = 0 := Int.zero_emod _
            have hF : fillP L B m 0 1 = [2] := by simp [fillP, cellP, hb]
            conv => whnf
            refine ⟨by repeat' (first | omega | (simp only [i64max]; omega) | refine And.intro ?_ ?_), ?_⟩
            conv => whnf
            refine ⟨by repeat' (first | omega | (simp only [i64max]; omega) | refine And.intro ?_ ?_), ?_⟩
            conv => whnf
            refine ⟨by repeat' (first | omega | (simp only [i64max]; omega) | refine And.intro ?_ ?_), ?_⟩
            conv => whnf
            refine tst_in (fun _ => ?_) (fun h_ => False.elim (by
              have h2 : kb B m 0 = true := by unfold kb; rw [← hr]; simpa using h_
              rw [hb] at h2; cases h2))
            conv => whnf
            repeat (refine And.intro ?_ ?_; (focus (first | omega | ((conv => whnf); omega) | (simp [mulSz, Cont.len]; done) | (simp [mulSz, Cont.len]; omega))); conv => whnf)
            intro (tl2 : List Int)
            conv => whnf
            repeat (refine And.intro ?_ ?_; (focus (first | omega | ((conv => whnf); omega) | (simp [mulSz, Cont.len]; done) | (simp [mulSz, Cont.len]; omega))); conv => whnf)
            refine ⟨[0, 1, 3], ((1, tl2) : Nat × List Int), ?_, ?_, ?_⟩
            · conv => whnf
              repeat' (first | exact True.intro | rfl | refine And.intro ?_ ?_)
              all_goals (conv => whnf)
              all_goals first | rfl | (show fillP L B m 0 1 ++ tl2 = _; rw [hF]; rfl) | skip
            · exact hlt
            · show k - 1 < k - 0
              omega
          · skip
            have hge : k = 0 := by simp at hge; omega
            subst hge
            rcases ho with ⟨h1, rfl⟩ | ⟨h1, rfl⟩
            · conv => whnf
              refine .inl ⟨(), [0, 1], ?_⟩
              conv => whnf
              repeat' (first | exact True.intro | rfl | refine And.intro ?_ ?_)
            · omega
        | succ i =>
          conv => whnf
          refine tst_in (fun hlt => ?_) (fun hge => ?_)
          · skip
            have hlt : i + 1 < k := by simp at hlt; omega
            have hb := hz (i + 1) hlt
            have hr := rem_nat (i + 1) m
            have hm0 := Nat.mod_lt (i + 1) hm1
            have hq0 : 0 ≤ ((i + 1 : Nat) : Int) % (m : Int) := Int.emod_nonneg _ (by omega)
            have hq1 : ((i + 1 : Nat) : Int) % (m : Int) < m := Int.emod_lt_of_pos _ (by omega)
            have hF : fillP L B m 0 (i + 1 + 1) = fillP L B m 0 (i + 1) ++ [2] := by rw [fillP]; simp [cellP, hb]
            conv => whnf
            refine ⟨by repeat' (first | omega | (simp only [i64max]; omega) | refine And.intro ?_ ?_), ?_⟩
            conv => whnf
            refine ⟨by repeat' (first | omega | (simp only [i64max]; omega) | refine And.intro ?_ ?_), ?_⟩
            conv => whnf
            refine ⟨by repeat' (first | omega | (simp only [i64max]; omega) | refine And.intro ?_ ?_), ?_⟩
            conv => whnf
            refine tst_in (fun _ => ?_) (fun h_ => False.elim (by
              have h2 : kb B m (i + 1) = true := by unfold kb; rw [← hr]; simpa using h_
              rw [hb] at h2; cases h2))
            conv => whnf
            repeat (refine And.intro ?_ ?_; (focus (first | omega | ((conv => whnf); omega) | (simp [mulSz, Cont.len]; done) | (simp [mulSz, Cont.len]; omega))); conv => whnf)
            intro (tl2 : List Int)
            conv => whnf
            repeat (refine And.intro ?_ ?_; (focus (first | omega | ((conv => whnf); omega) | (simp [mulSz, Cont.len]; done) | (simp [mulSz, Cont.len]; omega))); conv => whnf)
            refine ⟨[0, 1, 4], ((i + 1 + 1, tl2) : Nat × List Int), ?_, ?_, ?_⟩
            · conv => whnf
              repeat' (first | exact True.intro | rfl | refine And.intro ?_ ?_)
              all_goals (conv => whnf)
              all_goals first | rfl | (show fillP L B m 0 (i + 1 + 1) ++ tl2 = ((fillP L B m 0 (i + 1) ++ tl).drop 0).take (i + 1) ++ (([2] : List Int).drop 0).take 1 ++ tl2; rw [hF, List.drop_zero, List.take_left' hlen]; rfl) | skip
            · exact hlt
            · show k - (i + 1 + 1) < k - (i + 1)
              omega
          · skip
            have hge : i + 1 = k := by simp at hge; omega
            subst hge
            rcases ho with ⟨h1, rfl⟩ | ⟨h1, rfl⟩
            · omega
            · conv => whnf
              refine .inl ⟨tl, [0, 1, 2], ?_⟩
              conv => whnf
              repeat' (first | exact True.intro | rfl | refine And.intro ?_ ?_)
              all_goals (show _ = _; first | rfl | (simp [hlen]; done) | (rw [hlen]; rfl))
end Go.Proofs.Ytflbhbiflcaocaa

set_option linter.unusedVariables false
set_option linter.unusedSimpArgs false
namespace Go.Proofs.Ytflbhbiflcaocaa
open Go Go.Fw
theorem kb_lt (B : List Bool) (m n ln k : Nat) (hc : cntP B m n = ln) (h : k < n) (hb : kb B m k = true) : cntP B m k < ln := by
  have h1 := cntP_mono B m (k + 1) (n - (k + 1))
  rw [show k + 1 + (n - (k + 1)) = n by omega, hc] at h1
  simp [cntP, hb] at h1
  omega
def st8r (L B : List Bool) (N : Int) (ln m ca cb : Nat) (p : List Int) : Nat → List Int → St
  | 0, _ => ⟨anyTo 71 [.slice 0 0 ln ca, .slice 1 0 m cb, .int .i64 N, .any, .any, .any, .any, .any, .any, .any, .nils, .slice 2 0 ln (ln + p.length), .int .i64 (0), .int .i64 (0)], [.seg false (.bools L), .seg false (.bools B), .seg true (.ints .u8 (mkP L ln ++ p))]⟩
  | k + 1, tl => ⟨anyTo 71 [.slice 0 0 ln ca, .slice 1 0 m cb, .int .i64 N, .any, .any, .any, .any, .any, .any, .any, .slice 3 0 (k + 1) (k + 1 + tl.length), .slice 2 0 ln (ln + p.length), .int .i64 (cntP B m (k + 1) : Nat), .int .i64 ((k + 1 : Nat))], [.seg false (.bools L), .seg false (.bools B), .seg true (.ints .u8 (mkP L ln ++ p)), .seg true (.ints .u8 (fillP L B m ln (k + 1) ++ tl))]⟩
def inv8r (L B : List Bool) (N : Int) (ln m ca cb n : Nat) : LInv := ⟨List Int × Nat × List Int, fun p => st8r L B N ln m ca cb p.1 p.2.1 p.2.2, fun p => p.2.1 ≤ n, fun p => n - p.2.1⟩
set_option maxRecDepth 100000 in
theorem Fill_8r (L B : List Bool) (N : Int) (ln m ca cb n : Nat) (hl : ln ≤ L.length) (hlN : ln ≤ 140737488355328) (hm : m ≤ B.length) (hN : N = n) (hn : n ≤ 32768) (hp : patB m B = true) (hm1 : 0 < m) (hm2 : m ≤ 64) (hc : cntP B m n = ln) (h0 : 0 < ln) :
    Fits Try.prog 8 ⟨[.slice 0 0 ln ca, .slice 1 0 m cb, .int .i64 N], [.seg false (.bools L), .seg false (.bools B)], [rowI 2 [.dead, .dead] (fillP L B m ln n) fun s => .tup [s, .int .i64 0]]⟩ := by
  refine fits_of_body (C := cfgk 2) (c := c8) (ts := [6, 7]) tok mixed (fun | 5 => some (inv8 L B N ln m ca cb n) | 15 => some (inv8r L B N ln m ca cb n) | _ => none) (fun _ => none)
    Try.func8 (by kernel_rfl) (by kernel_rfl) (by kernel_rfl) (by kernel_rfl) rfl ?_
  conv => whnf
  refine ⟨_, [1], pattern_q B m cb hm (by omega), ?_⟩
  conv => whnf
  refine ⟨?_, ?_, ?_⟩
  · conv => whnf
    repeat' (first | exact True.intro | rfl | refine And.intro ?_ ?_)
  · conv => whnf
    repeat' (first | exact True.intro | rfl | refine And.intro ?_ ?_)
  conv => whnf
  refine tst_in (fun h_ => False.elim (by simp [hp] at h_ <;> omega)) (fun _ => ?_)
  conv => whnf
  refine tst_in (fun h_ => False.elim (by simp at h_ <;> omega)) (fun _ => ?_)
  conv => whnf
  refine tst_in (fun h_ => False.elim (by simp at h_ <;> omega)) (fun _ => ?_)
  conv => whnf
  refine ⟨⟨[0, 1], (0 : Nat), ?_, Nat.zero_le _⟩, ?_⟩
  · conv => whnf
    repeat' (first | exact True.intro | rfl | refine And.intro ?_ ?_)
  · intro (k : Nat) (hk : k ≤ n)
    have hcn := cntP_le B m k
    conv => whnf
    refine tst_in (fun hlt => ?_) (fun hge => ?_)
    · skip
      have hlt : k < n := by simp at hlt; omega
      have hr := rem_nat k m
      have hm0 := Nat.mod_lt k hm1
      have hq0 : 0 ≤ (k : Int) % (m : Int) := Int.emod_nonneg _ (by omega)
      have hq1 : (k : Int) % (m : Int) < m := Int.emod_lt_of_pos _ (by omega)
      conv => whnf
      refine ⟨by repeat' (first | omega | (simp only [i64max]; omega) | refine And.intro ?_ ?_), ?_⟩
      conv => whnf
      refine ⟨by repeat' (first | omega | (simp only [i64max]; omega) | refine And.intro ?_ ?_), ?_⟩
      conv => whnf
      refine ⟨by repeat' (first | omega | (simp only [i64max]; omega) | refine And.intro ?_ ?_), ?_⟩
      conv => whnf
      refine tst_in (fun hb => ?_) (fun hb => ?_)
      · skip
        have hb : kb B m k = true := by unfold kb; rw [← hr]; simpa using hb
        have hC : cntP B m (k + 1) = cntP B m k + 1 := by simp [cntP, hb]
        conv => whnf
        refine ⟨by repeat' (first | omega | (simp only [i64max]; omega) | refine And.intro ?_ ?_), ?_⟩
        conv => whnf
        refine ⟨by repeat' (first | omega | (simp only [i64max]; omega) | refine And.intro ?_ ?_), ?_⟩
        conv => whnf
        refine ⟨[0, 1], k + 1, ?_, ?_, ?_⟩
        · conv => whnf
          repeat' (first | exact True.intro | rfl | refine And.intro ?_ ?_)
          all_goals (conv => whnf)
          all_goals first | rfl | (show ((cntP B m (k + 1) : Nat) : Int) = _; rw [hC]; rfl) | skip
        · show k + 1 ≤ n
          omega
        · show n - (k + 1) < n - k
          omega
      · skip
        have hb : kb B m k = false := by unfold kb; rw [← hr]; simpa using hb
        have hC : cntP B m (k + 1) = cntP B m k := by simp [cntP, hb]
        conv => whnf
        refine ⟨by repeat' (first | omega | (simp only [i64max]; omega) | refine And.intro ?_ ?_), ?_⟩
        conv => whnf
        refine ⟨[0, 1], k + 1, ?_, ?_, ?_⟩
        · conv => whnf
          repeat' (first | exact True.intro | rfl | refine And.intro ?_ ?_)
          all_goals (conv => whnf)
          all_goals first | rfl | (show ((cntP B m (k + 1) : Nat) : Int) = _; rw [hC]; done) | skip
        · show k + 1 ≤ n
          omega
        · show n - (k + 1) < n - k
          omega
    · skip
      have hge : k = n := by simp at hge; omega
      subst hge
      conv => whnf
      refine tst_in (fun h_ => False.elim (by simp [hc] at h_ <;> omega)) (fun _ => ?_)
      conv => whnf
      refine ⟨_, [0], Marks_12 L ln ca hl hlN h0, ?_⟩
      conv => whnf
      refine ⟨?_, ?_, ?_⟩
      · conv => whnf
        repeat' (first | exact True.intro | rfl | refine And.intro ?_ ?_ | omega)
      · conv => whnf
        repeat' (first | exact True.intro | rfl | refine And.intro ?_ ?_ | omega)
      conv => whnf
      refine ⟨?_, True.intro⟩
      intro (p : List Int) _
      conv => whnf
      refine ⟨⟨[0, 1, 2], ((p, 0, []) : List Int × Nat × List Int), ?_, Nat.zero_le _⟩, ?_⟩
      · conv => whnf
        repeat' (first | exact True.intro | rfl | refine And.intro ?_ ?_)
        all_goals (conv => whnf)
        all_goals first | rfl | (simp [mkP_len]; done) | skip
      · rintro ⟨p, i, tl⟩ hi
        have hi : i ≤ k := hi
        have hlen := fillP_len L B m ln i
        cases i with
        | zero =>
          conv => whnf
          refine tst_in (fun hlt => ?_) (fun hge => ?_)
          · skip
            have hlt : 0 < k := by simp at hlt; omega
            have hr : ((0 : Int) % (m : Int)).toNat = 0 % m := by simp
            have hq0 : (0 : Int) % (m : Int) = 0 := Int.zero_emod _
            conv => whnf
            refine ⟨by repeat' (first | omega | (simp only [i64max]; omega) | refine And.intro ?_ ?_), ?_⟩
            conv => whnf
            refine ⟨by repeat' (first | omega | (simp only [i64max]; omega) | refine And.intro ?_ ?_), ?_⟩
            conv => whnf
            refine ⟨by repeat' (first | omega | (simp only [i64max]; omega) | refine And.intro ?_ ?_), ?_⟩
            conv => whnf
            refine tst_in (fun hb => ?_) (fun hb => ?_)
            · have hb : kb B m (0) = false := by unfold kb; rw [← hr]; simpa using hb
              have hg : True := True.intro
              have hF : fillP L B m ln 1 = [2] := by simp [fillP, cellP, hb]
              have hC : cntP B m (1) = cntP B m (0) := by simp [cntP, hb]
              conv => whnf
              repeat (refine And.intro ?_ ?_; (focus (first | omega | ((conv => whnf); omega) | (simp [mulSz, Cont.len]; done) | (simp [mulSz, Cont.len]; omega))); conv => whnf)
              intro (tl2 : List Int)
              conv => whnf
              repeat (refine And.intro ?_ ?_; (focus (first | omega | ((conv => whnf); omega) | (simp [mulSz, Cont.len]; done) | (simp [mulSz, Cont.len]; omega))); conv => whnf)
              refine ⟨[0, 1, 2, 4], ((p, 1, tl2) : List Int × Nat × List Int), ?_, ?_, ?_⟩
              · conv => whnf
                repeat' (first | exact True.intro | rfl | refine And.intro ?_ ?_)
                all_goals (conv => whnf)
                all_goals first | rfl | (show ((cntP B m 1 : Nat) : Int) = _; rw [hC]; rfl) | (show fillP L B m ln 1 ++ tl2 = _; rw [hF]; rfl) | (show fillP L B m ln 1 ++ tl2 = [(mkP L ln ++ p).getD 0 0] ++ tl2; rw [hF, hg]; done) | skip
              · exact hlt
              · show k - (1) < k - (0)
                omega
            · have hb : kb B m (0) = true := by unfold kb; rw [← hr]; simpa using hb
              have hx := kb_lt B m k ln (0) hc hlt hb
              have hF : fillP L B m ln 1 = [mk (L.getD 0 false)] := by show [cellP L B m ln 0] = _; unfold cellP; rw [if_pos hb, show cntP B m 0 = 0 from rfl, if_pos h0]
              have hC : cntP B m (1) = cntP B m (0) + 1 := by simp [cntP, hb]
              have hg := mkP_get L ln p (cntP B m (0)) hx
              have hcz : cntP B m 0 = 0 := rfl
              rw [hcz] at hg hC hx
              have hlo : (mkP L ln ++ p).length = ln + p.length := by simp [mkP_len]
              have hci := cntP_le B m (0)
              conv => whnf
              refine ⟨by repeat' (first | omega | (simp only [i64max]; omega) | refine And.intro ?_ ?_), ?_⟩
              conv => whnf
              refine ⟨by repeat' (first | omega | (simp only [i64max]; omega) | refine And.intro ?_ ?_), ?_⟩
              conv => whnf
              conv => whnf
              repeat (refine And.intro ?_ ?_; (focus (first | omega | ((conv => whnf); omega) | (simp [mulSz, Cont.len]; done) | (simp [mulSz, Cont.len]; omega))); conv => whnf)
              intro (tl2 : List Int)
              conv => whnf
              repeat (refine And.intro ?_ ?_; (focus (first | omega | ((conv => whnf); omega) | (simp [mulSz, Cont.len]; done) | (simp [mulSz, Cont.len]; omega))); conv => whnf)
              refine ⟨[0, 1, 2, 4], ((p, 1, tl2) : List Int × Nat × List Int), ?_, ?_, ?_⟩
              · conv => whnf
                repeat' (first | exact True.intro | rfl | refine And.intro ?_ ?_)
                all_goals (conv => whnf)
                all_goals first | rfl | (show ((cntP B m 1 : Nat) : Int) = _; rw [hC]; rfl) | (show fillP L B m ln 1 ++ tl2 = _; rw [hF]; rfl) | (show fillP L B m ln 1 ++ tl2 = [(mkP L ln ++ p).getD 0 0] ++ tl2; rw [hF, hg]; done) | skip
              · exact hlt
              · show k - (1) < k - (0)
                omega
          · skip
            have hge : k = 0 := by simp at hge; omega
            subst hge
            simp [cntP] at hc
            omega
        | succ i =>
          conv => whnf
          refine tst_in (fun hlt => ?_) (fun hge => ?_)
          · skip
            have hlt : i + 1 < k := by simp at hlt; omega
            have hr := rem_nat (i + 1) m
            have hm0 := Nat.mod_lt (i + 1) hm1
            have hq0 : 0 ≤ ((i + 1 : Nat) : Int) % (m : Int) := Int.emod_nonneg _ (by omega)
            have hq1 : ((i + 1 : Nat) : Int) % (m : Int) < m := Int.emod_lt_of_pos _ (by omega)
            conv => whnf
            refine ⟨by repeat' (first | omega | (simp only [i64max]; omega) | refine And.intro ?_ ?_), ?_⟩
            conv => whnf
            refine ⟨by repeat' (first | omega | (simp only [i64max]; omega) | refine And.intro ?_ ?_), ?_⟩
            conv => whnf
            refine ⟨by repeat' (first | omega | (simp only [i64max]; omega) | refine And.intro ?_ ?_), ?_⟩
            conv => whnf
            refine tst_in (fun hb => ?_) (fun hb => ?_)
            · have hb : kb B m (i + 1) = false := by unfold kb; rw [← hr]; simpa using hb
              have hg : True := True.intro
              have hF : fillP L B m ln (i + 1 + 1) = fillP L B m ln (i + 1) ++ [2] := by rw [fillP]; simp [cellP, hb]
              have hC : cntP B m (i + 1 + 1) = cntP B m (i + 1) := by simp [cntP, hb]
              conv => whnf
              repeat (refine And.intro ?_ ?_; (focus (first | omega | ((conv => whnf); omega) | (simp [mulSz, Cont.len]; done) | (simp [mulSz, Cont.len]; omega))); conv => whnf)
              intro (tl2 : List Int)
              conv => whnf
              repeat (refine And.intro ?_ ?_; (focus (first | omega | ((conv => whnf); omega) | (simp [mulSz, Cont.len]; done) | (simp [mulSz, Cont.len]; omega))); conv => whnf)
              refine ⟨[0, 1, 2, 5], ((p, i + 1 + 1, tl2) : List Int × Nat × List Int), ?_, ?_, ?_⟩
              · conv => whnf
                repeat' (first | exact True.intro | rfl | refine And.intro ?_ ?_)
                all_goals (conv => whnf)
                all_goals first | rfl | (show ((cntP B m (i + 1 + 1) : Nat) : Int) = _; rw [hC]; rfl) | (show ((cntP B m (i + 1 + 1) : Nat) : Int) = _; rw [hC]; done) | (show fillP L B m ln (i + 1 + 1) ++ tl2 = ((fillP L B m ln (i + 1) ++ tl).drop 0).take (i + 1) ++ _ ++ tl2; rw [hF, List.drop_zero, List.take_left' hlen]; rfl) | (show fillP L B m ln (i + 1 + 1) ++ tl2 = ((fillP L B m ln (i + 1) ++ tl).drop 0).take (i + 1) ++ [(mkP L ln ++ p).getD (0 + ((cntP B m (i + 1) : Nat) : Int).toNat) 0] ++ tl2; rw [show 0 + ((cntP B m (i + 1) : Nat) : Int).toNat = cntP B m (i + 1) by omega, hg, hF, List.drop_zero, List.take_left' hlen]; done) | skip
              · exact hlt
              · show k - (i + 1 + 1) < k - (i + 1)
                omega
            · have hb : kb B m (i + 1) = true := by unfold kb; rw [← hr]; simpa using hb
              have hx := kb_lt B m k ln (i + 1) hc hlt hb
              have hF : fillP L B m ln (i + 1 + 1) = fillP L B m ln (i + 1) ++ [mk (L.getD (cntP B m (i + 1)) false)] := by rw [fillP]; unfold cellP; rw [if_pos hb, if_pos hx]
              have hC : cntP B m (i + 1 + 1) = cntP B m (i + 1) + 1 := by simp [cntP, hb]
              have hg := mkP_get L ln p (cntP B m (i + 1)) hx
              have hlo : (mkP L ln ++ p).length = ln + p.length := by simp [mkP_len]
              have hci := cntP_le B m (i + 1)
              conv => whnf
              refine ⟨by repeat' (first | omega | (simp only [i64max]; omega) | refine And.intro ?_ ?_), ?_⟩
              conv => whnf
              refine ⟨by repeat' (first | omega | (simp only [i64max]; omega) | refine And.intro ?_ ?_), ?_⟩
              conv => whnf
              conv => whnf
              repeat (refine And.intro ?_ ?_; (focus (first | omega | ((conv => whnf); omega) | (simp [mulSz, Cont.len]; done) | (simp [mulSz, Cont.len]; omega))); conv => whnf)
              intro (tl2 : List Int)
              conv => whnf
              repeat (refine And.intro ?_ ?_; (focus (first | omega | ((conv => whnf); omega) | (simp [mulSz, Cont.len]; done) | (simp [mulSz, Cont.len]; omega))); conv => whnf)
              refine ⟨[0, 1, 2, 5], ((p, i + 1 + 1, tl2) : List Int × Nat × List Int), ?_, ?_, ?_⟩
              · conv => whnf
                repeat' (first | exact True.intro | rfl | refine And.intro ?_ ?_)
                all_goals (conv => whnf)
                all_goals first | rfl | (show ((cntP B m (i + 1 + 1) : Nat) : Int) = _; rw [hC]; rfl) | (show ((cntP B m (i + 1 + 1) : Nat) : Int) = _; rw [hC]; done) | (show fillP L B m ln (i + 1 + 1) ++ tl2 = ((fillP L B m ln (i + 1) ++ tl).drop 0).take (i + 1) ++ _ ++ tl2; rw [hF, List.drop_zero, List.take_left' hlen]; rfl) | (show fillP L B m ln (i + 1 + 1) ++ tl2 = ((fillP L B m ln (i + 1) ++ tl).drop 0).take (i + 1) ++ [(mkP L ln ++ p).getD (0 + ((cntP B m (i + 1) : Nat) : Int).toNat) 0] ++ tl2; rw [show 0 + ((cntP B m (i + 1) : Nat) : Int).toNat = cntP B m (i + 1) by omega, hg, hF, List.drop_zero, List.take_left' hlen]; done) | skip
              · exact hlt
              · show k - (i + 1 + 1) < k - (i + 1)
                omega
          · skip
            have hge : i + 1 = k := by simp at hge; omega
            subst hge
            conv => whnf
            refine .inl ⟨tl, [0, 1, 3], ?_⟩
            conv => whnf
            repeat' (first | exact True.intro | rfl | refine And.intro ?_ ?_)
            all_goals (show _ = _; first | rfl | (simp [hlen]; done) | (rw [hlen]; rfl))
end Go.Proofs.Ytflbhbiflcaocaa

set_option linter.unusedVariables false
set_option linter.unusedSimpArgs false
namespace Go.Proofs.Ytflbhbiflcaocaa
open Go Go.Fw
set_option maxRecDepth 100000 in
theorem Fill_b7 (L B : List Bool) (N : Int) (ln m ca cb : Nat) (hm : m ≤ B.length) (hMN : m ≤ 4611686018427387904) (hb : ¬ (patB m B = true ∧ 0 ≤ N ∧ N ≤ 32768)) :
    Fits Try.prog 7 ⟨[.slice 0 0 ln ca, .slice 1 0 m cb, .int .i64 N], [.seg false (.bools L), .seg false (.bools B)], [nilOut [.dead, .dead] (.tup [.nils, .int .i64 1])]⟩ := by
  refine fits_of_body (C := cfgk 2) (c := c7) (ts := [6, 7]) tok mixed (fun _ => none) (fun _ => none)
    Try.func7 (by kernel_rfl) (by kernel_rfl) (by kernel_rfl) (by kernel_rfl) rfl ?_
  conv => whnf
  refine ⟨_, [1], isPattern_q B m cb hm hMN, ?_⟩
  conv => whnf
  refine ⟨?_, ?_, ?_⟩
  · conv => whnf
    repeat' (first | exact True.intro | rfl | refine And.intro ?_ ?_)
  · conv => whnf
    repeat' (first | exact True.intro | rfl | refine And.intro ?_ ?_)
  conv => whnf
  refine tst_in (fun h1 => ?_) (fun h1 => ?_)
  · conv => whnf
    refine .inl ⟨(), [0, 1], ?_⟩
    conv => whnf
    repeat' (first | exact True.intro | rfl | refine And.intro ?_ ?_)
  · conv => whnf
    refine tst_in (fun h2 => ?_) (fun h2 => ?_)
    · conv => whnf
      refine .inl ⟨(), [0, 1], ?_⟩
      conv => whnf
      repeat' (first | exact True.intro | rfl | refine And.intro ?_ ?_)
    · conv => whnf
      refine tst_in (fun h3 => ?_) (fun h3 => ?_)
      · conv => whnf
        refine .inl ⟨(), [0, 1], ?_⟩
        conv => whnf
        repeat' (first | exact True.intro | rfl | refine And.intro ?_ ?_)
      · exfalso
        simp only [decide_eq_true_eq, decide_eq_false_iff_not, Bool.not_eq_true', Bool.not_eq_false'] at h1 h2 h3
        exact hb ⟨h1, by omega, by omega⟩
set_option maxRecDepth 100000 in
theorem Fill_b8 (L B : List Bool) (N : Int) (ln m ca cb : Nat) (hm : m ≤ B.length) (hMN : m ≤ 4611686018427387904) (hb : ¬ (patB m B = true ∧ 0 ≤ N ∧ N ≤ 32768)) :
    Fits Try.prog 8 ⟨[.slice 0 0 ln ca, .slice 1 0 m cb, .int .i64 N], [.seg false (.bools L), .seg false (.bools B)], [nilOut [.dead, .dead] (.tup [.nils, .int .i64 1])]⟩ := by
  refine fits_of_body (C := cfgk 2) (c := c8) (ts := [6, 7]) tok mixed (fun _ => none) (fun _ => none)
    Try.func8 (by kernel_rfl) (by kernel_rfl) (by kernel_rfl) (by kernel_rfl) rfl ?_
  conv => whnf
  refine ⟨_, [1], pattern_q B m cb hm hMN, ?_⟩
  conv => whnf
  refine ⟨?_, ?_, ?_⟩
  · conv => whnf
    repeat' (first | exact True.intro | rfl | refine And.intro ?_ ?_)
  · conv => whnf
    repeat' (first | exact True.intro | rfl | refine And.intro ?_ ?_)
  conv => whnf
  refine tst_in (fun h1 => ?_) (fun h1 => ?_)
  · conv => whnf
    refine .inl ⟨(), [0, 1], ?_⟩
    conv => whnf
    repeat' (first | exact True.intro | rfl | refine And.intro ?_ ?_)
  · conv => whnf
    refine tst_in (fun h2 => ?_) (fun h2 => ?_)
    · conv => whnf
      refine .inl ⟨(), [0, 1], ?_⟩
      conv => whnf
      repeat' (first | exact True.intro | rfl | refine And.intro ?_ ?_)
    · conv => whnf
      refine tst_in (fun h3 => ?_) (fun h3 => ?_)
      · conv => whnf
        refine .inl ⟨(), [0, 1], ?_⟩
        conv => whnf
        repeat' (first | exact True.intro | rfl | refine And.intro ?_ ?_)
      · exfalso
        simp only [decide_eq_true_eq, decide_eq_false_iff_not, Bool.not_eq_true', Bool.not_eq_false'] at h1 h2 h3
        exact hb ⟨h1, by omega, by omega⟩
end Go.Proofs.Ytflbhbiflcaocaa

set_option linter.unusedVariables false
set_option linter.unusedSimpArgs false
namespace Go.Proofs.Ytflbhbiflcaocaa
open Go Go.Fw
theorem getD_app (xs y : List Bool) (i : Nat) (h : i < xs.length) : (xs ++ y).getD i false = xs.getD i false := by
  rw [List.getD_eq_getElem?_getD, List.getD_eq_getElem?_getD, List.getElem?_append_left h]
theorem getI_app (xs y : List Int) (i : Nat) (h : i < xs.length) : (xs ++ y).getD i 0 = xs.getD i 0 := by
  rw [List.getD_eq_getElem?_getD, List.getD_eq_getElem?_getD, List.getElem?_append_left h]
theorem getD_take (A t : List Bool) (i n : Nat) (h : i < n) (hn : n ≤ A.length) : (A.take n ++ t).getD i false = A.getD i false := by
  rw [getD_app _ _ _ (by simp; omega), List.getD_eq_getElem?_getD, List.getD_eq_getElem?_getD, List.getElem?_take, if_pos h]
def thinsSpec (A B L : List Bool) (N : Int) (n m ln ca cb cl : Nat) : FSpec := ⟨[.slice 0 0 n ca, .slice 1 0 m cb, .slice 2 0 ln cl, .int .i64 N], [.seg false (.bools A), .seg false (.bools B), .seg false (.bools L)], [⟨Unit, fun _ => True, fun _ => .bool true, fun _ => [.dead, .dead, .dead]⟩]⟩
noncomputable def c3 : Code := (Try.f3.body).getD .skip
def sl3 (n ca : Nat) (t1 : List Bool) (a i : AV) : List AV := anyTo 103 [.slice 0 0 n ca, .any, .any, .any, .any, .any, .any, .any, .any, .slice 3 0 n (0 + n + t1.length), .any, a, .any, .any, .any, .any, .any, .any, .any, i]
def inv10N (A B L : List Bool) (n ca : Nat) : LInv := ⟨List Bool, fun t1 => ⟨sl3 n ca t1 .nils (.int .i64 0), [.seg false (.bools A), .seg false (.bools B), .seg false (.bools L), .seg true (.bools (A.take n ++ t1))]⟩, fun _ => True, fun _ => 0⟩
def inv10R (A B L : List Bool) (n ca w : Nat) : LInv := ⟨List Bool × Nat × List Bool, fun p => ⟨sl3 n ca p.1 (.slice 4 0 w p.2.2.length) (.int .i64 p.2.1), [.seg false (.bools A), .seg false (.bools B), .seg false (.bools L), .seg true (.bools (A.take n ++ p.1)), .seg true (.bools p.2.2)]⟩, fun p => p.2.1 ≤ w ∧ w ≤ p.2.2.length, fun p => w - p.2.1⟩
set_option maxRecDepth 100000 in
theorem law_NNR (A B L : List Bool) (N : Int) (n m ln ca cb cl : Nat) (hn : n ≤ A.length) (hm : m ≤ B.length) (hnN : n ≤ 140737488355328) (hmN : m ≤ 140737488355328) (e g : Int) (xs : List Bool) (F M : List Int) (hx : xs.length ≤ 140737488355328) (hF : F.length ≤ 140737488355328) (hMl : M.length ≤ 140737488355328)
    (h5 : ∀ t1 t2 : List Bool, Fits Try.prog 5 ⟨[.slice 0 0 n (0 + n + t1.length), .slice 1 0 m (0 + m + t2.length)], [.seg false (.bools (A.take n ++ t1)), .seg false (.bools (B.take m ++ t2))], [nilOut [.dead, .dead] (.tup [.nils, .int .i64 e])]⟩)
    (h6 : Fits Try.prog 6 ⟨[.slice 0 0 n ca, .slice 1 0 m cb], [.seg false (.bools A), .seg false (.bools B)], [nilOut [.dead, .dead] (.tup [.nils, .int .i64 e])]⟩)
    (h7 : ∀ t2 : List Bool, Fits Try.prog 7 ⟨[.slice 0 0 ln cl, .slice 1 0 m (0 + m + t2.length), .int .i64 N], [.seg false (.bools L), .seg false (.bools (B.take m ++ t2))], [nilOut [.dead, .dead] (.tup [.nils, .int .i64 g])]⟩)
    (h8 : Fits Try.prog 8 ⟨[.slice 0 0 ln cl, .slice 1 0 m cb, .int .i64 N], [.seg false (.bools L), .seg false (.bools B)], [nilOut [.dead, .dead] (.tup [.nils, .int .i64 g])]⟩)
    (h11 : ∀ t1 : List Bool, Fits Try.prog 11 ⟨[.slice 0 0 n (0 + n + t1.length)], [.seg false (.bools (A.take n ++ t1))], [rowX 1 [.dead] M fun s => s]⟩)
    (h12 : Fits Try.prog 12 ⟨[.slice 0 0 n ca], [.seg false (.bools A)], [rowI 1 [.dead] M fun s => s]⟩) :
    Fits Try.prog 3 (thinsSpec A B L N n m ln ca cb cl) := by
  refine fits_of_body (C := cfgk 3) (c := c3) (ts := [8]) tok mixed (fun | 10 => some (inv10N A B L n ca) | _ => none) (fun _ => none)
    Try.func3 (by kernel_rfl) (by kernel_rfl) (by kernel_rfl) (by kernel_rfl) rfl ?_
  have sIn : ∀ (t1 : List Bool) (c1 c2 : Nat), QFits Try.prog 9 ⟨[.slice 0 0 n c1, .slice 1 0 n c2], [.seg false (.bools (A.take n ++ t1)), .seg false (.bools A)], .bool true⟩ := fun t1 c1 c2 => same_q _ _ n c1 c2 (by simp; omega) hn (fun i hi => getD_take A t1 i n hi hn) (by omega)
  have sOwn : ∀ (t2 : List Bool) (c1 c2 : Nat), QFits Try.prog 9 ⟨[.slice 0 0 m c1, .slice 1 0 m c2], [.seg false (.bools (B.take m ++ t2)), .seg false (.bools B)], .bool true⟩ := fun t2 c1 c2 => same_q _ _ m c1 c2 (by simp; omega) hm (fun i hi => getD_take B t2 i m hi hm) (by omega)
  conv => whnf
  repeat (refine And.intro ?_ ?_; (focus (first | omega | ((conv => whnf); omega) | (simp [mulSz, Cont.len]; done) | (simp [mulSz, Cont.len]; omega))); conv => whnf)
  intro (t1 : List Bool)
  conv => whnf
  repeat (refine And.intro ?_ ?_; (focus (first | omega | ((conv => whnf); omega) | (simp [mulSz, Cont.len]; done) | (simp [mulSz, Cont.len]; omega))); conv => whnf)
  intro (t2 : List Bool)
  conv => whnf
  repeat (refine And.intro ?_ ?_; (focus (first | omega | ((conv => whnf); omega) | (simp [mulSz, Cont.len]; done) | (simp [mulSz, Cont.len]; omega))); conv => whnf)
  refine ⟨_, [4, 6], h5 t1 t2, ?_⟩
  conv => whnf
  refine ⟨?_, ?_, ?_⟩
  · conv => whnf
    repeat' (first | exact True.intro | rfl | refine And.intro ?_ ?_ | omega)
    all_goals (conv => whnf)
    all_goals (try (first | rfl | omega | (simp [mulSz]; done)))
  · conv => whnf
    repeat' (first | exact True.intro | rfl | refine And.intro ?_ ?_ | omega)
    all_goals (conv => whnf)
    all_goals (try (first | rfl | omega | (simp [mulSz]; done)))
  conv => whnf
  refine ⟨?_, True.intro⟩
  intro _ _
  conv => whnf
  refine ⟨_, [0, 1], h6, ?_⟩
  conv => whnf
  refine ⟨?_, ?_, ?_⟩
  · conv => whnf
    repeat' (first | exact True.intro | rfl | refine And.intro ?_ ?_ | omega)
    all_goals (conv => whnf)
    all_goals (try (first | rfl | omega | (simp [mulSz]; done)))
  · conv => whnf
    repeat' (first | exact True.intro | rfl | refine And.intro ?_ ?_ | omega)
    all_goals (conv => whnf)
    all_goals (try (first | rfl | omega | (simp [mulSz]; done)))
  conv => whnf
  refine ⟨?_, True.intro⟩
  intro _ _
  conv => whnf
  refine ⟨_, [2, 6], h7 t2, ?_⟩
  conv => whnf
  refine ⟨?_, ?_, ?_⟩
  · conv => whnf
    repeat' (first | exact True.intro | rfl | refine And.intro ?_ ?_ | omega)
    all_goals (conv => whnf)
    all_goals (try (first | rfl | omega | (simp [mulSz]; done)))
  · conv => whnf
    repeat' (first | exact True.intro | rfl | refine And.intro ?_ ?_ | omega)
    all_goals (conv => whnf)
    all_goals (try (first | rfl | omega | (simp [mulSz]; done)))
  conv => whnf
  refine ⟨?_, True.intro⟩
  intro _ _
  conv => whnf
  refine ⟨_, [2, 1], h8, ?_⟩
  conv => whnf
  refine ⟨?_, ?_, ?_⟩
  · conv => whnf
    repeat' (first | exact True.intro | rfl | refine And.intro ?_ ?_ | omega)
    all_goals (conv => whnf)
    all_goals (try (first | rfl | omega | (simp [mulSz]; done)))
  · conv => whnf
    repeat' (first | exact True.intro | rfl | refine And.intro ?_ ?_ | omega)
    all_goals (conv => whnf)
    all_goals (try (first | rfl | omega | (simp [mulSz]; done)))
  conv => whnf
  refine ⟨?_, True.intro⟩
  intro _ _
  conv => whnf
  refine ⟨_, [], same_nil, ?_⟩
  conv => whnf
  refine ⟨?_, ?_, ?_⟩
  · conv => whnf
    repeat' (first | exact True.intro | rfl | refine And.intro ?_ ?_ | omega)
    all_goals (conv => whnf)
    all_goals (try (first | rfl | omega | (simp [mulSz]; done)))
  · conv => whnf
    repeat' (first | exact True.intro | rfl | refine And.intro ?_ ?_ | omega)
    all_goals (conv => whnf)
    all_goals (try (first | rfl | omega | (simp [mulSz]; done)))
  conv => whnf
  refine tst_in (fun h_ => False.elim (by simp at h_ <;> omega)) (fun _ => ?_)
  conv => whnf
  refine ⟨_, [], marks_nil, ?_⟩
  conv => whnf
  refine ⟨?_, ?_, ?_⟩
  · conv => whnf
    repeat' (first | exact True.intro | rfl | refine And.intro ?_ ?_ | omega)
    all_goals (conv => whnf)
    all_goals (try (first | rfl | omega | (simp [mulSz]; done)))
  · conv => whnf
    repeat' (first | exact True.intro | rfl | refine And.intro ?_ ?_ | omega)
    all_goals (conv => whnf)
    all_goals (try (first | rfl | omega | (simp [mulSz]; done)))
  conv => whnf
  refine tst_in (fun h_ => False.elim (by simp at h_ <;> omega)) (fun _ => ?_)
  conv => whnf
  refine ⟨_, [4], h11 t1, ?_⟩
  conv => whnf
  refine ⟨?_, ?_, ?_⟩
  · conv => whnf
    repeat' (first | exact True.intro | rfl | refine And.intro ?_ ?_ | omega)
    all_goals (conv => whnf)
    all_goals (try (first | rfl | omega | (simp [mulSz]; done)))
  · conv => whnf
    repeat' (first | exact True.intro | rfl | refine And.intro ?_ ?_ | omega)
    all_goals (conv => whnf)
    all_goals (try (first | rfl | omega | (simp [mulSz]; done)))
  conv => whnf
  refine ⟨?_, True.intro⟩
  intro _ _
  conv => whnf
  refine ⟨_, [0], h12, ?_⟩
  conv => whnf
  refine ⟨?_, ?_, ?_⟩
  · conv => whnf
    repeat' (first | exact True.intro | rfl | refine And.intro ?_ ?_ | omega)
    all_goals (conv => whnf)
    all_goals (try (first | rfl | omega | (simp [mulSz]; done)))
  · conv => whnf
    repeat' (first | exact True.intro | rfl | refine And.intro ?_ ?_ | omega)
    all_goals (conv => whnf)
    all_goals (try (first | rfl | omega | (simp [mulSz]; done)))
  conv => whnf
  refine ⟨?_, True.intro⟩
  intro (y4 : List Int) _
  conv => whnf
  refine ⟨_, [7, 8], marks_q M (M ++ y4) M.length M.length (M.length + y4.length) (by simp) (by simp) (fun i hi => by rw [getI_app _ _ _ hi]) (by omega), ?_⟩
  conv => whnf
  refine ⟨?_, ?_, ?_⟩
  · conv => whnf
    repeat' (first | exact True.intro | rfl | refine And.intro ?_ ?_ | omega)
    all_goals (conv => whnf)
    all_goals (try (first | rfl | omega | (simp [mulSz]; done)))
  · conv => whnf
    repeat' (first | exact True.intro | rfl | refine And.intro ?_ ?_ | omega)
    all_goals (conv => whnf)
    all_goals (try (first | rfl | omega | (simp [mulSz]; done)))
  conv => whnf
  refine ⟨_, [6, 1], sOwn t2 (0 + m + t2.length) cb, ?_⟩
  conv => whnf
  refine ⟨?_, ?_, ?_⟩
  · conv => whnf
    repeat' (first | exact True.intro | rfl | refine And.intro ?_ ?_ | omega)
    all_goals (conv => whnf)
    all_goals (try (first | rfl | omega | (simp [mulSz]; done)))
  · conv => whnf
    repeat' (first | exact True.intro | rfl | refine And.intro ?_ ?_ | omega)
    all_goals (conv => whnf)
    all_goals (try (first | rfl | omega | (simp [mulSz]; done)))
  conv => whnf
  refine ⟨⟨[0, 1, 2, 4], t1, ?_, True.intro⟩, ?_⟩
  · conv => whnf
    repeat' (first | exact True.intro | rfl | refine And.intro ?_ ?_ | omega)
    all_goals (conv => whnf)
    all_goals (try (first | rfl | omega | (simp [mulSz]; done)))
  · intro (t1 : List Bool) _
    conv => whnf
    refine ⟨_, [3, 0], sIn t1 (0 + n + t1.length) ca, ?_⟩
    conv => whnf
    refine ⟨?_, ?_, ?_⟩
    · conv => whnf
      repeat' (first | exact True.intro | rfl | refine And.intro ?_ ?_ | omega)
      all_goals (conv => whnf)
      all_goals (try (first | rfl | omega | (simp [mulSz]; done)))
    · conv => whnf
      repeat' (first | exact True.intro | rfl | refine And.intro ?_ ?_ | omega)
      all_goals (conv => whnf)
      all_goals (try (first | rfl | omega | (simp [mulSz]; done)))
    conv => whnf
    refine .inl ⟨(), [0, 1, 2], ?_⟩
    conv => whnf
    repeat' (first | exact True.intro | rfl | refine And.intro ?_ ?_ | omega)
set_option maxRecDepth 100000 in
theorem law_NNZ (A B L : List Bool) (N : Int) (n m ln ca cb cl : Nat) (hn : n ≤ A.length) (hm : m ≤ B.length) (hnN : n ≤ 140737488355328) (hmN : m ≤ 140737488355328) (e g : Int) (xs : List Bool) (F M : List Int) (hx : xs.length ≤ 140737488355328) (hF : F.length ≤ 140737488355328) (hMl : M.length ≤ 140737488355328)
    (h5 : ∀ t1 t2 : List Bool, Fits Try.prog 5 ⟨[.slice 0 0 n (0 + n + t1.length), .slice 1 0 m (0 + m + t2.length)], [.seg false (.bools (A.take n ++ t1)), .seg false (.bools (B.take m ++ t2))], [nilOut [.dead, .dead] (.tup [.nils, .int .i64 e])]⟩)
    (h6 : Fits Try.prog 6 ⟨[.slice 0 0 n ca, .slice 1 0 m cb], [.seg false (.bools A), .seg false (.bools B)], [nilOut [.dead, .dead] (.tup [.nils, .int .i64 e])]⟩)
    (h7 : ∀ t2 : List Bool, Fits Try.prog 7 ⟨[.slice 0 0 ln cl, .slice 1 0 m (0 + m + t2.length), .int .i64 N], [.seg false (.bools L), .seg false (.bools (B.take m ++ t2))], [nilOut [.dead, .dead] (.tup [.nils, .int .i64 g])]⟩)
    (h8 : Fits Try.prog 8 ⟨[.slice 0 0 ln cl, .slice 1 0 m cb, .int .i64 N], [.seg false (.bools L), .seg false (.bools B)], [nilOut [.dead, .dead] (.tup [.nils, .int .i64 g])]⟩)
    (h11 : ∀ t1 : List Bool, Fits Try.prog 11 ⟨[.slice 0 0 n (0 + n + t1.length)], [.seg false (.bools (A.take n ++ t1))], [rowX 1 [.dead] M fun s => s]⟩)
    (hM : M = []) (h12 : Fits Try.prog 12 ⟨[.slice 0 0 n ca], [.seg false (.bools A)], [nilOut [.dead] .nils]⟩) :
    Fits Try.prog 3 (thinsSpec A B L N n m ln ca cb cl) := by
  subst hM
  refine fits_of_body (C := cfgk 3) (c := c3) (ts := [8]) tok mixed (fun | 10 => some (inv10N A B L n ca) | _ => none) (fun _ => none)
    Try.func3 (by kernel_rfl) (by kernel_rfl) (by kernel_rfl) (by kernel_rfl) rfl ?_
  have sIn : ∀ (t1 : List Bool) (c1 c2 : Nat), QFits Try.prog 9 ⟨[.slice 0 0 n c1, .slice 1 0 n c2], [.seg false (.bools (A.take n ++ t1)), .seg false (.bools A)], .bool true⟩ := fun t1 c1 c2 => same_q _ _ n c1 c2 (by simp; omega) hn (fun i hi => getD_take A t1 i n hi hn) (by omega)
  have sOwn : ∀ (t2 : List Bool) (c1 c2 : Nat), QFits Try.prog 9 ⟨[.slice 0 0 m c1, .slice 1 0 m c2], [.seg false (.bools (B.take m ++ t2)), .seg false (.bools B)], .bool true⟩ := fun t2 c1 c2 => same_q _ _ m c1 c2 (by simp; omega) hm (fun i hi => getD_take B t2 i m hi hm) (by omega)
  conv => whnf
  repeat (refine And.intro ?_ ?_; (focus (first | omega | ((conv => whnf); omega) | (simp [mulSz, Cont.len]; done) | (simp [mulSz, Cont.len]; omega))); conv => whnf)
  intro (t1 : List Bool)
  conv => whnf
  repeat (refine And.intro ?_ ?_; (focus (first | omega | ((conv => whnf); omega) | (simp [mulSz, Cont.len]; done) | (simp [mulSz, Cont.len]; omega))); conv => whnf)
  intro (t2 : List Bool)
  conv => whnf
  repeat (refine And.intro ?_ ?_; (focus (first | omega | ((conv => whnf); omega) | (simp [mulSz, Cont.len]; done) | (simp [mulSz, Cont.len]; omega))); conv => whnf)
  refine ⟨_, [4, 6], h5 t1 t2, ?_⟩
  conv => whnf
  refine ⟨?_, ?_, ?_⟩
  · conv => whnf
    repeat' (first | exact True.intro | rfl | refine And.intro ?_ ?_ | omega)
    all_goals (conv => whnf)
    all_goals (try (first | rfl | omega | (simp [mulSz]; done)))
  · conv => whnf
    repeat' (first | exact True.intro | rfl | refine And.intro ?_ ?_ | omega)
    all_goals (conv => whnf)
    all_goals (try (first | rfl | omega | (simp [mulSz]; done)))
  conv => whnf
  refine ⟨?_, True.intro⟩
  intro _ _
  conv => whnf
  refine ⟨_, [0, 1], h6, ?_⟩
  conv => whnf
  refine ⟨?_, ?_, ?_⟩
  · conv => whnf
    repeat' (first | exact True.intro | rfl | refine And.intro ?_ ?_ | omega)
    all_goals (conv => whnf)
    all_goals (try (first | rfl | omega | (simp [mulSz]; done)))
  · conv => whnf
    repeat' (first | exact True.intro | rfl | refine And.intro ?_ ?_ | omega)
    all_goals (conv => whnf)
    all_goals (try (first | rfl | omega | (simp [mulSz]; done)))
  conv => whnf
  refine ⟨?_, True.intro⟩
  intro _ _
  conv => whnf
  refine ⟨_, [2, 6], h7 t2, ?_⟩
  conv => whnf
  refine ⟨?_, ?_, ?_⟩
  · conv => whnf
    repeat' (first | exact True.intro | rfl | refine And.intro ?_ ?_ | omega)
    all_goals (conv => whnf)
    all_goals (try (first | rfl | omega | (simp [mulSz]; done)))
  · conv => whnf
    repeat' (first | exact True.intro | rfl | refine And.intro ?_ ?_ | omega)
    all_goals (conv => whnf)
    all_goals (try (first | rfl | omega | (simp [mulSz]; done)))
  conv => whnf
  refine ⟨?_, True.intro⟩
  intro _ _
  conv => whnf
  refine ⟨_, [2, 1], h8, ?_⟩
  conv => whnf
  refine ⟨?_, ?_, ?_⟩
  · conv => whnf
    repeat' (first | exact True.intro | rfl | refine And.intro ?_ ?_ | omega)
    all_goals (conv => whnf)
    all_goals (try (first | rfl | omega | (simp [mulSz]; done)))
  · conv => whnf
    repeat' (first | exact True.intro | rfl | refine And.intro ?_ ?_ | omega)
    all_goals (conv => whnf)
    all_goals (try (first | rfl | omega | (simp [mulSz]; done)))
  conv => whnf
  refine ⟨?_, True.intro⟩
  intro _ _
  conv => whnf
  refine ⟨_, [], same_nil, ?_⟩
  conv => whnf
  refine ⟨?_, ?_, ?_⟩
  · conv => whnf
    repeat' (first | exact True.intro | rfl | refine And.intro ?_ ?_ | omega)
    all_goals (conv => whnf)
    all_goals (try (first | rfl | omega | (simp [mulSz]; done)))
  · conv => whnf
    repeat' (first | exact True.intro | rfl | refine And.intro ?_ ?_ | omega)
    all_goals (conv => whnf)
    all_goals (try (first | rfl | omega | (simp [mulSz]; done)))
  conv => whnf
  refine tst_in (fun h_ => False.elim (by simp at h_ <;> omega)) (fun _ => ?_)
  conv => whnf
  refine ⟨_, [], marks_nil, ?_⟩
  conv => whnf
  refine ⟨?_, ?_, ?_⟩
  · conv => whnf
    repeat' (first | exact True.intro | rfl | refine And.intro ?_ ?_ | omega)
    all_goals (conv => whnf)
    all_goals (try (first | rfl | omega | (simp [mulSz]; done)))
  · conv => whnf
    repeat' (first | exact True.intro | rfl | refine And.intro ?_ ?_ | omega)
    all_goals (conv => whnf)
    all_goals (try (first | rfl | omega | (simp [mulSz]; done)))
  conv => whnf
  refine tst_in (fun h_ => False.elim (by simp at h_ <;> omega)) (fun _ => ?_)
  conv => whnf
  refine ⟨_, [4], h11 t1, ?_⟩
  conv => whnf
  refine ⟨?_, ?_, ?_⟩
  · conv => whnf
    repeat' (first | exact True.intro | rfl | refine And.intro ?_ ?_ | omega)
    all_goals (conv => whnf)
    all_goals (try (first | rfl | omega | (simp [mulSz]; done)))
  · conv => whnf
    repeat' (first | exact True.intro | rfl | refine And.intro ?_ ?_ | omega)
    all_goals (conv => whnf)
    all_goals (try (first | rfl | omega | (simp [mulSz]; done)))
  conv => whnf
  refine ⟨?_, True.intro⟩
  intro _ _
  conv => whnf
  refine ⟨_, [0], h12, ?_⟩
  conv => whnf
  refine ⟨?_, ?_, ?_⟩
  · conv => whnf
    repeat' (first | exact True.intro | rfl | refine And.intro ?_ ?_ | omega)
    all_goals (conv => whnf)
    all_goals (try (first | rfl | omega | (simp [mulSz]; done)))
  · conv => whnf
    repeat' (first | exact True.intro | rfl | refine And.intro ?_ ?_ | omega)
    all_goals (conv => whnf)
    all_goals (try (first | rfl | omega | (simp [mulSz]; done)))
  conv => whnf
  refine ⟨?_, True.intro⟩
  intro _ _
  conv => whnf
  refine ⟨_, [7], marks_0n [] 0, ?_⟩
  conv => whnf
  refine ⟨?_, ?_, ?_⟩
  · conv => whnf
    repeat' (first | exact True.intro | rfl | refine And.intro ?_ ?_ | omega)
    all_goals (conv => whnf)
    all_goals (try (first | rfl | omega | (simp [mulSz]; done)))
  · conv => whnf
    repeat' (first | exact True.intro | rfl | refine And.intro ?_ ?_ | omega)
    all_goals (conv => whnf)
    all_goals (try (first | rfl | omega | (simp [mulSz]; done)))
  conv => whnf
  refine ⟨_, [6, 1], sOwn t2 (0 + m + t2.length) cb, ?_⟩
  conv => whnf
  refine ⟨?_, ?_, ?_⟩
  · conv => whnf
    repeat' (first | exact True.intro | rfl | refine And.intro ?_ ?_ | omega)
    all_goals (conv => whnf)
    all_goals (try (first | rfl | omega | (simp [mulSz]; done)))
  · conv => whnf
    repeat' (first | exact True.intro | rfl | refine And.intro ?_ ?_ | omega)
    all_goals (conv => whnf)
    all_goals (try (first | rfl | omega | (simp [mulSz]; done)))
  conv => whnf
  refine ⟨⟨[0, 1, 2, 4], t1, ?_, True.intro⟩, ?_⟩
  · conv => whnf
    repeat' (first | exact True.intro | rfl | refine And.intro ?_ ?_ | omega)
    all_goals (conv => whnf)
    all_goals (try (first | rfl | omega | (simp [mulSz]; done)))
  · intro (t1 : List Bool) _
    conv => whnf
    refine ⟨_, [3, 0], sIn t1 (0 + n + t1.length) ca, ?_⟩
    conv => whnf
    refine ⟨?_, ?_, ?_⟩
    · conv => whnf
      repeat' (first | exact True.intro | rfl | refine And.intro ?_ ?_ | omega)
      all_goals (conv => whnf)
      all_goals (try (first | rfl | omega | (simp [mulSz]; done)))
    · conv => whnf
      repeat' (first | exact True.intro | rfl | refine And.intro ?_ ?_ | omega)
      all_goals (conv => whnf)
      all_goals (try (first | rfl | omega | (simp [mulSz]; done)))
    conv => whnf
    refine .inl ⟨(), [0, 1, 2], ?_⟩
    conv => whnf
    repeat' (first | exact True.intro | rfl | refine And.intro ?_ ?_ | omega)
set_option maxRecDepth 100000 in
theorem law_NRR (A B L : List Bool) (N : Int) (n m ln ca cb cl : Nat) (hn : n ≤ A.length) (hm : m ≤ B.length) (hnN : n ≤ 140737488355328) (hmN : m ≤ 140737488355328) (e g : Int) (xs : List Bool) (F M : List Int) (hx : xs.length ≤ 140737488355328) (hF : F.length ≤ 140737488355328) (hMl : M.length ≤ 140737488355328)
    (h5 : ∀ t1 t2 : List Bool, Fits Try.prog 5 ⟨[.slice 0 0 n (0 + n + t1.length), .slice 1 0 m (0 + m + t2.length)], [.seg false (.bools (A.take n ++ t1)), .seg false (.bools (B.take m ++ t2))], [nilOut [.dead, .dead] (.tup [.nils, .int .i64 e])]⟩)
    (h6 : Fits Try.prog 6 ⟨[.slice 0 0 n ca, .slice 1 0 m cb], [.seg false (.bools A), .seg false (.bools B)], [nilOut [.dead, .dead] (.tup [.nils, .int .i64 e])]⟩)
    (h7 : ∀ t2 : List Bool, Fits Try.prog 7 ⟨[.slice 0 0 ln cl, .slice 1 0 m (0 + m + t2.length), .int .i64 N], [.seg false (.bools L), .seg false (.bools (B.take m ++ t2))], [rowX 2 [.dead, .dead] F fun s => .tup [s, .int .i64 0]]⟩)
    (h8 : Fits Try.prog 8 ⟨[.slice 0 0 ln cl, .slice 1 0 m cb, .int .i64 N], [.seg false (.bools L), .seg false (.bools B)], [rowI 2 [.dead, .dead] F fun s => .tup [s, .int .i64 0]]⟩)
    (h11 : ∀ t1 : List Bool, Fits Try.prog 11 ⟨[.slice 0 0 n (0 + n + t1.length)], [.seg false (.bools (A.take n ++ t1))], [rowX 1 [.dead] M fun s => s]⟩)
    (h12 : Fits Try.prog 12 ⟨[.slice 0 0 n ca], [.seg false (.bools A)], [rowI 1 [.dead] M fun s => s]⟩) :
    Fits Try.prog 3 (thinsSpec A B L N n m ln ca cb cl) := by
  refine fits_of_body (C := cfgk 3) (c := c3) (ts := [8]) tok mixed (fun | 10 => some (inv10N A B L n ca) | _ => none) (fun _ => none)
    Try.func3 (by kernel_rfl) (by kernel_rfl) (by kernel_rfl) (by kernel_rfl) rfl ?_
  have sIn : ∀ (t1 : List Bool) (c1 c2 : Nat), QFits Try.prog 9 ⟨[.slice 0 0 n c1, .slice 1 0 n c2], [.seg false (.bools (A.take n ++ t1)), .seg false (.bools A)], .bool true⟩ := fun t1 c1 c2 => same_q _ _ n c1 c2 (by simp; omega) hn (fun i hi => getD_take A t1 i n hi hn) (by omega)
  have sOwn : ∀ (t2 : List Bool) (c1 c2 : Nat), QFits Try.prog 9 ⟨[.slice 0 0 m c1, .slice 1 0 m c2], [.seg false (.bools (B.take m ++ t2)), .seg false (.bools B)], .bool true⟩ := fun t2 c1 c2 => same_q _ _ m c1 c2 (by simp; omega) hm (fun i hi => getD_take B t2 i m hi hm) (by omega)
  conv => whnf
  repeat (refine And.intro ?_ ?_; (focus (first | omega | ((conv => whnf); omega) | (simp [mulSz, Cont.len]; done) | (simp [mulSz, Cont.len]; omega))); conv => whnf)
  intro (t1 : List Bool)
  conv => whnf
  repeat (refine And.intro ?_ ?_; (focus (first | omega | ((conv => whnf); omega) | (simp [mulSz, Cont.len]; done) | (simp [mulSz, Cont.len]; omega))); conv => whnf)
  intro (t2 : List Bool)
  conv => whnf
  repeat (refine And.intro ?_ ?_; (focus (first | omega | ((conv => whnf); omega) | (simp [mulSz, Cont.len]; done) | (simp [mulSz, Cont.len]; omega))); conv => whnf)
  refine ⟨_, [4, 6], h5 t1 t2, ?_⟩
  conv => whnf
  refine ⟨?_, ?_, ?_⟩
  · conv => whnf
    repeat' (first | exact True.intro | rfl | refine And.intro ?_ ?_ | omega)
    all_goals (conv => whnf)
    all_goals (try (first | rfl | omega | (simp [mulSz]; done)))
  · conv => whnf
    repeat' (first | exact True.intro | rfl | refine And.intro ?_ ?_ | omega)
    all_goals (conv => whnf)
    all_goals (try (first | rfl | omega | (simp [mulSz]; done)))
  conv => whnf
  refine ⟨?_, True.intro⟩
  intro _ _
  conv => whnf
  refine ⟨_, [0, 1], h6, ?_⟩
  conv => whnf
  refine ⟨?_, ?_, ?_⟩
  · conv => whnf
    repeat' (first | exact True.intro | rfl | refine And.intro ?_ ?_ | omega)
    all_goals (conv => whnf)
    all_goals (try (first | rfl | omega | (simp [mulSz]; done)))
  · conv => whnf
    repeat' (first | exact True.intro | rfl | refine And.intro ?_ ?_ | omega)
    all_goals (conv => whnf)
    all_goals (try (first | rfl | omega | (simp [mulSz]; done)))
  conv => whnf
  refine ⟨?_, True.intro⟩
  intro _ _
  conv => whnf
  refine ⟨_, [2, 6], h7 t2, ?_⟩
  conv => whnf
  refine ⟨?_, ?_, ?_⟩
  · conv => whnf
    repeat' (first | exact True.intro | rfl | refine And.intro ?_ ?_ | omega)
    all_goals (conv => whnf)
    all_goals (try (first | rfl | omega | (simp [mulSz]; done)))
  · conv => whnf
    repeat' (first | exact True.intro | rfl | refine And.intro ?_ ?_ | omega)
    all_goals (conv => whnf)
    all_goals (try (first | rfl | omega | (simp [mulSz]; done)))
  conv => whnf
  refine ⟨?_, True.intro⟩
  intro _ _
  conv => whnf
  refine ⟨_, [2, 1], h8, ?_⟩
  conv => whnf
  refine ⟨?_, ?_, ?_⟩
  · conv => whnf
    repeat' (first | exact True.intro | rfl | refine And.intro ?_ ?_ | omega)
    all_goals (conv => whnf)
    all_goals (try (first | rfl | omega | (simp [mulSz]; done)))
  · conv => whnf
    repeat' (first | exact True.intro | rfl | refine And.intro ?_ ?_ | omega)
    all_goals (conv => whnf)
    all_goals (try (first | rfl | omega | (simp [mulSz]; done)))
  conv => whnf
  refine ⟨?_, True.intro⟩
  intro (y3 : List Int) _
  conv => whnf
  refine ⟨_, [], same_nil, ?_⟩
  conv => whnf
  refine ⟨?_, ?_, ?_⟩
  · conv => whnf
    repeat' (first | exact True.intro | rfl | refine And.intro ?_ ?_ | omega)
    all_goals (conv => whnf)
    all_goals (try (first | rfl | omega | (simp [mulSz]; done)))
  · conv => whnf
    repeat' (first | exact True.intro | rfl | refine And.intro ?_ ?_ | omega)
    all_goals (conv => whnf)
    all_goals (try (first | rfl | omega | (simp [mulSz]; done)))
  conv => whnf
  refine tst_in (fun h_ => False.elim (by simp at h_ <;> omega)) (fun _ => ?_)
  conv => whnf
  refine ⟨_, [7, 8], marks_q F (F ++ y3) F.length F.length (F.length + y3.length) (by simp) (by simp) (fun i hi => by rw [getI_app _ _ _ hi]) (by omega), ?_⟩
  conv => whnf
  refine ⟨?_, ?_, ?_⟩
  · conv => whnf
    repeat' (first | exact True.intro | rfl | refine And.intro ?_ ?_ | omega)
    all_goals (conv => whnf)
    all_goals (try (first | rfl | omega | (simp [mulSz]; done)))
  · conv => whnf
    repeat' (first | exact True.intro | rfl | refine And.intro ?_ ?_ | omega)
    all_goals (conv => whnf)
    all_goals (try (first | rfl | omega | (simp [mulSz]; done)))
  conv => whnf
  refine ⟨_, [4], h11 t1, ?_⟩
  conv => whnf
  refine ⟨?_, ?_, ?_⟩
  · conv => whnf
    repeat' (first | exact True.intro | rfl | refine And.intro ?_ ?_ | omega)
    all_goals (conv => whnf)
    all_goals (try (first | rfl | omega | (simp [mulSz]; done)))
  · conv => whnf
    repeat' (first | exact True.intro | rfl | refine And.intro ?_ ?_ | omega)
    all_goals (conv => whnf)
    all_goals (try (first | rfl | omega | (simp [mulSz]; done)))
  conv => whnf
  refine ⟨?_, True.intro⟩
  intro _ _
  conv => whnf
  refine ⟨_, [0], h12, ?_⟩
  conv => whnf
  refine ⟨?_, ?_, ?_⟩
  · conv => whnf
    repeat' (first | exact True.intro | rfl | refine And.intro ?_ ?_ | omega)
    all_goals (conv => whnf)
    all_goals (try (first | rfl | omega | (simp [mulSz]; done)))
  · conv => whnf
    repeat' (first | exact True.intro | rfl | refine And.intro ?_ ?_ | omega)
    all_goals (conv => whnf)
    all_goals (try (first | rfl | omega | (simp [mulSz]; done)))
  conv => whnf
  refine ⟨?_, True.intro⟩
  intro (y4 : List Int) _
  conv => whnf
  refine ⟨_, [9, 10], marks_q M (M ++ y4) M.length M.length (M.length + y4.length) (by simp) (by simp) (fun i hi => by rw [getI_app _ _ _ hi]) (by omega), ?_⟩
  conv => whnf
  refine ⟨?_, ?_, ?_⟩
  · conv => whnf
    repeat' (first | exact True.intro | rfl | refine And.intro ?_ ?_ | omega)
    all_goals (conv => whnf)
    all_goals (try (first | rfl | omega | (simp [mulSz]; done)))
  · conv => whnf
    repeat' (first | exact True.intro | rfl | refine And.intro ?_ ?_ | omega)
    all_goals (conv => whnf)
    all_goals (try (first | rfl | omega | (simp [mulSz]; done)))
  conv => whnf
  refine ⟨_, [6, 1], sOwn t2 (0 + m + t2.length) cb, ?_⟩
  conv => whnf
  refine ⟨?_, ?_, ?_⟩
  · conv => whnf
    repeat' (first | exact True.intro | rfl | refine And.intro ?_ ?_ | omega)
    all_goals (conv => whnf)
    all_goals (try (first | rfl | omega | (simp [mulSz]; done)))
  · conv => whnf
    repeat' (first | exact True.intro | rfl | refine And.intro ?_ ?_ | omega)
    all_goals (conv => whnf)
    all_goals (try (first | rfl | omega | (simp [mulSz]; done)))
  conv => whnf
  refine ⟨⟨[0, 1, 2, 4], t1, ?_, True.intro⟩, ?_⟩
  · conv => whnf
    repeat' (first | exact True.intro | rfl | refine And.intro ?_ ?_ | omega)
    all_goals (conv => whnf)
    all_goals (try (first | rfl | omega | (simp [mulSz]; done)))
  · intro (t1 : List Bool) _
    conv => whnf
    refine ⟨_, [3, 0], sIn t1 (0 + n + t1.length) ca, ?_⟩
    conv => whnf
    refine ⟨?_, ?_, ?_⟩
    · conv => whnf
      repeat' (first | exact True.intro | rfl | refine And.intro ?_ ?_ | omega)
      all_goals (conv => whnf)
      all_goals (try (first | rfl | omega | (simp [mulSz]; done)))
    · conv => whnf
      repeat' (first | exact True.intro | rfl | refine And.intro ?_ ?_ | omega)
      all_goals (conv => whnf)
      all_goals (try (first | rfl | omega | (simp [mulSz]; done)))
    conv => whnf
    refine .inl ⟨(), [0, 1, 2], ?_⟩
    conv => whnf
    repeat' (first | exact True.intro | rfl | refine And.intro ?_ ?_ | omega)
set_option maxRecDepth 100000 in
theorem law_NRZ (A B L : List Bool) (N : Int) (n m ln ca cb cl : Nat) (hn : n ≤ A.length) (hm : m ≤ B.length) (hnN : n ≤ 140737488355328) (hmN : m ≤ 140737488355328) (e g : Int) (xs : List Bool) (F M : List Int) (hx : xs.length ≤ 140737488355328) (hF : F.length ≤ 140737488355328) (hMl : M.length ≤ 140737488355328)
    (h5 : ∀ t1 t2 : List Bool, Fits Try.prog 5 ⟨[.slice 0 0 n (0 + n + t1.length), .slice 1 0 m (0 + m + t2.length)], [.seg false (.bools (A.take n ++ t1)), .seg false (.bools (B.take m ++ t2))], [nilOut [.dead, .dead] (.tup [.nils, .int .i64 e])]⟩)
    (h6 : Fits Try.prog 6 ⟨[.slice 0 0 n ca, .slice 1 0 m cb], [.seg false (.bools A), .seg false (.bools B)], [nilOut [.dead, .dead] (.tup [.nils, .int .i64 e])]⟩)
    (h7 : ∀ t2 : List Bool, Fits Try.prog 7 ⟨[.slice 0 0 ln cl, .slice 1 0 m (0 + m + t2.length), .int .i64 N], [.seg false (.bools L), .seg false (.bools (B.take m ++ t2))], [rowX 2 [.dead, .dead] F fun s => .tup [s, .int .i64 0]]⟩)
    (h8 : Fits Try.prog 8 ⟨[.slice 0 0 ln cl, .slice 1 0 m cb, .int .i64 N], [.seg false (.bools L), .seg false (.bools B)], [rowI 2 [.dead, .dead] F fun s => .tup [s, .int .i64 0]]⟩)
    (h11 : ∀ t1 : List Bool, Fits Try.prog 11 ⟨[.slice 0 0 n (0 + n + t1.length)], [.seg false (.bools (A.take n ++ t1))], [rowX 1 [.dead] M fun s => s]⟩)
    (hM : M = []) (h12 : Fits Try.prog 12 ⟨[.slice 0 0 n ca], [.seg false (.bools A)], [nilOut [.dead] .nils]⟩) :
    Fits Try.prog 3 (thinsSpec A B L N n m ln ca cb cl) := by
  subst hM
  refine fits_of_body (C := cfgk 3) (c := c3) (ts := [8]) tok mixed (fun | 10 => some (inv10N A B L n ca) | _ => none) (fun _ => none)
    Try.func3 (by kernel_rfl) (by kernel_rfl) (by kernel_rfl) (by kernel_rfl) rfl ?_
  have sIn : ∀ (t1 : List Bool) (c1 c2 : Nat), QFits Try.prog 9 ⟨[.slice 0 0 n c1, .slice 1 0 n c2], [.seg false (.bools (A.take n ++ t1)), .seg false (.bools A)], .bool true⟩ := fun t1 c1 c2 => same_q _ _ n c1 c2 (by simp; omega) hn (fun i hi => getD_take A t1 i n hi hn) (by omega)
  have sOwn : ∀ (t2 : List Bool) (c1 c2 : Nat), QFits Try.prog 9 ⟨[.slice 0 0 m c1, .slice 1 0 m c2], [.seg false (.bools (B.take m ++ t2)), .seg false (.bools B)], .bool true⟩ := fun t2 c1 c2 => same_q _ _ m c1 c2 (by simp; omega) hm (fun i hi => getD_take B t2 i m hi hm) (by omega)
  conv => whnf
  repeat (refine And.intro ?_ ?_; (focus (first | omega | ((conv => whnf); omega) | (simp [mulSz, Cont.len]; done) | (simp [mulSz, Cont.len]; omega))); conv => whnf)
  intro (t1 : List Bool)
  conv => whnf
  repeat (refine And.intro ?_ ?_; (focus (first | omega | ((conv => whnf); omega) | (simp [mulSz, Cont.len]; done) | (simp [mulSz, Cont.len]; omega))); conv => whnf)
  intro (t2 : List Bool)
  conv => whnf
  repeat (refine And.intro ?_ ?_; (focus (first | omega | ((conv => whnf); omega) | (simp [mulSz, Cont.len]; done) | (simp [mulSz, Cont.len]; omega))); conv => whnf)
  refine ⟨_, [4, 6], h5 t1 t2, ?_⟩
  conv => whnf
  refine ⟨?_, ?_, ?_⟩
  · conv => whnf
    repeat' (first | exact True.intro | rfl | refine And.intro ?_ ?_ | omega)
    all_goals (conv => whnf)
    all_goals (try (first | rfl | omega | (simp [mulSz]; done)))
  · conv => whnf
    repeat' (first | exact True.intro | rfl | refine And.intro ?_ ?_ | omega)
    all_goals (conv => whnf)
    all_goals (try (first | rfl | omega | (simp [mulSz]; done)))
  conv => whnf
  refine ⟨?_, True.intro⟩
  intro _ _
  conv => whnf
  refine ⟨_, [0, 1], h6, ?_⟩
  conv => whnf
  refine ⟨?_, ?_, ?_⟩
  · conv => whnf
    repeat' (first | exact True.intro | rfl | refine And.intro ?_ ?_ | omega)
    all_goals (conv => whnf)
    all_goals (try (first | rfl | omega | (simp [mulSz]; done)))
  · conv => whnf
    repeat' (first | exact True.intro | rfl | refine And.intro ?_ ?_ | omega)
    all_goals (conv => whnf)
    all_goals (try (first | rfl | omega | (simp [mulSz]; done)))
  conv => whnf
  refine ⟨?_, True.intro⟩
  intro _ _
  conv => whnf
  refine ⟨_, [2, 6], h7 t2, ?_⟩
  conv => whnf
  refine ⟨?_, ?_, ?_⟩
  · conv => whnf
    repeat' (first | exact True.intro | rfl | refine And.intro ?_ ?_ | omega)
    all_goals (conv => whnf)
    all_goals (try (first | rfl | omega | (simp [mulSz]; done)))
  · conv => whnf
    repeat' (first | exact True.intro | rfl | refine And.intro ?_ ?_ | omega)
    all_goals (conv => whnf)
    all_goals (try (first | rfl | omega | (simp [mulSz]; done)))
  conv => whnf
  refine ⟨?_, True.intro⟩
  intro _ _
  conv => whnf
  refine ⟨_, [2, 1], h8, ?_⟩
  conv => whnf
  refine ⟨?_, ?_, ?_⟩
  · conv => whnf
    repeat' (first | exact True.intro | rfl | refine And.intro ?_ ?_ | omega)
    all_goals (conv => whnf)
    all_goals (try (first | rfl | omega | (simp [mulSz]; done)))
  · conv => whnf
    repeat' (first | exact True.intro | rfl | refine And.intro ?_ ?_ | omega)
    all_goals (conv => whnf)
    all_goals (try (first | rfl | omega | (simp [mulSz]; done)))
  conv => whnf
  refine ⟨?_, True.intro⟩
  intro (y3 : List Int) _
  conv => whnf
  refine ⟨_, [], same_nil, ?_⟩
  conv => whnf
  refine ⟨?_, ?_, ?_⟩
  · conv => whnf
    repeat' (first | exact True.intro | rfl | refine And.intro ?_ ?_ | omega)
    all_goals (conv => whnf)
    all_goals (try (first | rfl | omega | (simp [mulSz]; done)))
  · conv => whnf
    repeat' (first | exact True.intro | rfl | refine And.intro ?_ ?_ | omega)
    all_goals (conv => whnf)
    all_goals (try (first | rfl | omega | (simp [mulSz]; done)))
  conv => whnf
  refine tst_in (fun h_ => False.elim (by simp at h_ <;> omega)) (fun _ => ?_)
  conv => whnf
  refine ⟨_, [7, 8], marks_q F (F ++ y3) F.length F.length (F.length + y3.length) (by simp) (by simp) (fun i hi => by rw [getI_app _ _ _ hi]) (by omega), ?_⟩
  conv => whnf
  refine ⟨?_, ?_, ?_⟩
  · conv => whnf
    repeat' (first | exact True.intro | rfl | refine And.intro ?_ ?_ | omega)
    all_goals (conv => whnf)
    all_goals (try (first | rfl | omega | (simp [mulSz]; done)))
  · conv => whnf
    repeat' (first | exact True.intro | rfl | refine And.intro ?_ ?_ | omega)
    all_goals (conv => whnf)
    all_goals (try (first | rfl | omega | (simp [mulSz]; done)))
  conv => whnf
  refine ⟨_, [4], h11 t1, ?_⟩
  conv => whnf
  refine ⟨?_, ?_, ?_⟩
  · conv => whnf
    repeat' (first | exact True.intro | rfl | refine And.intro ?_ ?_ | omega)
    all_goals (conv => whnf)
    all_goals (try (first | rfl | omega | (simp [mulSz]; done)))
  · conv => whnf
    repeat' (first | exact True.intro | rfl | refine And.intro ?_ ?_ | omega)
    all_goals (conv => whnf)
    all_goals (try (first | rfl | omega | (simp [mulSz]; done)))
  conv => whnf
  refine ⟨?_, True.intro⟩
  intro _ _
  conv => whnf
  refine ⟨_, [0], h12, ?_⟩
  conv => whnf
  refine ⟨?_, ?_, ?_⟩
  · conv => whnf
    repeat' (first | exact True.intro | rfl | refine And.intro ?_ ?_ | omega)
    all_goals (conv => whnf)
    all_goals (try (first | rfl | omega | (simp [mulSz]; done)))
  · conv => whnf
    repeat' (first | exact True.intro | rfl | refine And.intro ?_ ?_ | omega)
    all_goals (conv => whnf)
    all_goals (try (first | rfl | omega | (simp [mulSz]; done)))
  conv => whnf
  refine ⟨?_, True.intro⟩
  intro _ _
  conv => whnf
  refine ⟨_, [9], marks_0n [] 0, ?_⟩
  conv => whnf
  refine ⟨?_, ?_, ?_⟩
  · conv => whnf
    repeat' (first | exact True.intro | rfl | refine And.intro ?_ ?_ | omega)
    all_goals (conv => whnf)
    all_goals (try (first | rfl | omega | (simp [mulSz]; done)))
  · conv => whnf
    repeat' (first | exact True.intro | rfl | refine And.intro ?_ ?_ | omega)
    all_goals (conv => whnf)
    all_goals (try (first | rfl | omega | (simp [mulSz]; done)))
  conv => whnf
  refine ⟨_, [6, 1], sOwn t2 (0 + m + t2.length) cb, ?_⟩
  conv => whnf
  refine ⟨?_, ?_, ?_⟩
  · conv => whnf
    repeat' (first | exact True.intro | rfl | refine And.intro ?_ ?_ | omega)
    all_goals (conv => whnf)
    all_goals (try (first | rfl | omega | (simp [mulSz]; done)))
  · conv => whnf
    repeat' (first | exact True.intro | rfl | refine And.intro ?_ ?_ | omega)
    all_goals (conv => whnf)
    all_goals (try (first | rfl | omega | (simp [mulSz]; done)))
  conv => whnf
  refine ⟨⟨[0, 1, 2, 4], t1, ?_, True.intro⟩, ?_⟩
  · conv => whnf
    repeat' (first | exact True.intro | rfl | refine And.intro ?_ ?_ | omega)
    all_goals (conv => whnf)
    all_goals (try (first | rfl | omega | (simp [mulSz]; done)))
  · intro (t1 : List Bool) _
    conv => whnf
    refine ⟨_, [3, 0], sIn t1 (0 + n + t1.length) ca, ?_⟩
    conv => whnf
    refine ⟨?_, ?_, ?_⟩
    · conv => whnf
      repeat' (first | exact True.intro | rfl | refine And.intro ?_ ?_ | omega)
      all_goals (conv => whnf)
      all_goals (try (first | rfl | omega | (simp [mulSz]; done)))
    · conv => whnf
      repeat' (first | exact True.intro | rfl | refine And.intro ?_ ?_ | omega)
      all_goals (conv => whnf)
      all_goals (try (first | rfl | omega | (simp [mulSz]; done)))
    conv => whnf
    refine .inl ⟨(), [0, 1, 2], ?_⟩
    conv => whnf
    repeat' (first | exact True.intro | rfl | refine And.intro ?_ ?_ | omega)
set_option maxRecDepth 100000 in
theorem law_NZR (A B L : List Bool) (N : Int) (n m ln ca cb cl : Nat) (hn : n ≤ A.length) (hm : m ≤ B.length) (hnN : n ≤ 140737488355328) (hmN : m ≤ 140737488355328) (e g : Int) (xs : List Bool) (F M : List Int) (hx : xs.length ≤ 140737488355328) (hF : F.length ≤ 140737488355328) (hMl : M.length ≤ 140737488355328)
    (h5 : ∀ t1 t2 : List Bool, Fits Try.prog 5 ⟨[.slice 0 0 n (0 + n + t1.length), .slice 1 0 m (0 + m + t2.length)], [.seg false (.bools (A.take n ++ t1)), .seg false (.bools (B.take m ++ t2))], [nilOut [.dead, .dead] (.tup [.nils, .int .i64 e])]⟩)
    (h6 : Fits Try.prog 6 ⟨[.slice 0 0 n ca, .slice 1 0 m cb], [.seg false (.bools A), .seg false (.bools B)], [nilOut [.dead, .dead] (.tup [.nils, .int .i64 e])]⟩)
    (h7 : ∀ t2 : List Bool, Fits Try.prog 7 ⟨[.slice 0 0 ln cl, .slice 1 0 m (0 + m + t2.length), .int .i64 N], [.seg false (.bools L), .seg false (.bools (B.take m ++ t2))], [rowX 2 [.dead, .dead] [] fun s => .tup [s, .int .i64 0]]⟩)
    (h8 : Fits Try.prog 8 ⟨[.slice 0 0 ln cl, .slice 1 0 m cb, .int .i64 N], [.seg false (.bools L), .seg false (.bools B)], [nilOut [.dead, .dead] (.tup [.nils, .int .i64 0])]⟩)
    (h11 : ∀ t1 : List Bool, Fits Try.prog 11 ⟨[.slice 0 0 n (0 + n + t1.length)], [.seg false (.bools (A.take n ++ t1))], [rowX 1 [.dead] M fun s => s]⟩)
    (h12 : Fits Try.prog 12 ⟨[.slice 0 0 n ca], [.seg false (.bools A)], [rowI 1 [.dead] M fun s => s]⟩) :
    Fits Try.prog 3 (thinsSpec A B L N n m ln ca cb cl) := by
  refine fits_of_body (C := cfgk 3) (c := c3) (ts := [8]) tok mixed (fun | 10 => some (inv10N A B L n ca) | _ => none) (fun _ => none)
    Try.func3 (by kernel_rfl) (by kernel_rfl) (by kernel_rfl) (by kernel_rfl) rfl ?_
  have sIn : ∀ (t1 : List Bool) (c1 c2 : Nat), QFits Try.prog 9 ⟨[.slice 0 0 n c1, .slice 1 0 n c2], [.seg false (.bools (A.take n ++ t1)), .seg false (.bools A)], .bool true⟩ := fun t1 c1 c2 => same_q _ _ n c1 c2 (by simp; omega) hn (fun i hi => getD_take A t1 i n hi hn) (by omega)
  have sOwn : ∀ (t2 : List Bool) (c1 c2 : Nat), QFits Try.prog 9 ⟨[.slice 0 0 m c1, .slice 1 0 m c2], [.seg false (.bools (B.take m ++ t2)), .seg false (.bools B)], .bool true⟩ := fun t2 c1 c2 => same_q _ _ m c1 c2 (by simp; omega) hm (fun i hi => getD_take B t2 i m hi hm) (by omega)
  conv => whnf
  repeat (refine And.intro ?_ ?_; (focus (first | omega | ((conv => whnf); omega) | (simp [mulSz, Cont.len]; done) | (simp [mulSz, Cont.len]; omega))); conv => whnf)
  intro (t1 : List Bool)
  conv => whnf
  repeat (refine And.intro ?_ ?_; (focus (first | omega | ((conv => whnf); omega) | (simp [mulSz, Cont.len]; done) | (simp [mulSz, Cont.len]; omega))); conv => whnf)
  intro (t2 : List Bool)
  conv => whnf
  repeat (refine And.intro ?_ ?_; (focus (first | omega | ((conv => whnf); omega) | (simp [mulSz, Cont.len]; done) | (simp [mulSz, Cont.len]; omega))); conv => whnf)
  refine ⟨_, [4, 6], h5 t1 t2, ?_⟩
  conv => whnf
  refine ⟨?_, ?_, ?_⟩
  · conv => whnf
    repeat' (first | exact True.intro | rfl | refine And.intro ?_ ?_ | omega)
    all_goals (conv => whnf)
    all_goals (try (first | rfl | omega | (simp [mulSz]; done)))
  · conv => whnf
    repeat' (first | exact True.intro | rfl | refine And.intro ?_ ?_ | omega)
    all_goals (conv => whnf)
    all_goals (try (first | rfl | omega | (simp [mulSz]; done)))
  conv => whnf
  refine ⟨?_, True.intro⟩
  intro _ _
  conv => whnf
  refine ⟨_, [0, 1], h6, ?_⟩
  conv => whnf
  refine ⟨?_, ?_, ?_⟩
  · conv => whnf
    repeat' (first | exact True.intro | rfl | refine And.intro ?_ ?_ | omega)
    all_goals (conv => whnf)
    all_goals (try (first | rfl | omega | (simp [mulSz]; done)))
  · conv => whnf
    repeat' (first | exact True.intro | rfl | refine And.intro ?_ ?_ | omega)
    all_goals (conv => whnf)
    all_goals (try (first | rfl | omega | (simp [mulSz]; done)))
  conv => whnf
  refine ⟨?_, True.intro⟩
  intro _ _
  conv => whnf
  refine ⟨_, [2, 6], h7 t2, ?_⟩
  conv => whnf
  refine ⟨?_, ?_, ?_⟩
  · conv => whnf
    repeat' (first | exact True.intro | rfl | refine And.intro ?_ ?_ | omega)
    all_goals (conv => whnf)
    all_goals (try (first | rfl | omega | (simp [mulSz]; done)))
  · conv => whnf
    repeat' (first | exact True.intro | rfl | refine And.intro ?_ ?_ | omega)
    all_goals (conv => whnf)
    all_goals (try (first | rfl | omega | (simp [mulSz]; done)))
  conv => whnf
  refine ⟨?_, True.intro⟩
  intro _ _
  conv => whnf
  refine ⟨_, [2, 1], h8, ?_⟩
  conv => whnf
  refine ⟨?_, ?_, ?_⟩
  · conv => whnf
    repeat' (first | exact True.intro | rfl | refine And.intro ?_ ?_ | omega)
    all_goals (conv => whnf)
    all_goals (try (first | rfl | omega | (simp [mulSz]; done)))
  · conv => whnf
    repeat' (first | exact True.intro | rfl | refine And.intro ?_ ?_ | omega)
    all_goals (conv => whnf)
    all_goals (try (first | rfl | omega | (simp [mulSz]; done)))
  conv => whnf
  refine ⟨?_, True.intro⟩
  intro _ _
  conv => whnf
  refine ⟨_, [], same_nil, ?_⟩
  conv => whnf
  refine ⟨?_, ?_, ?_⟩
  · conv => whnf
    repeat' (first | exact True.intro | rfl | refine And.intro ?_ ?_ | omega)
    all_goals (conv => whnf)
    all_goals (try (first | rfl | omega | (simp [mulSz]; done)))
  · conv => whnf
    repeat' (first | exact True.intro | rfl | refine And.intro ?_ ?_ | omega)
    all_goals (conv => whnf)
    all_goals (try (first | rfl | omega | (simp [mulSz]; done)))
  conv => whnf
  refine tst_in (fun h_ => False.elim (by simp at h_ <;> omega)) (fun _ => ?_)
  conv => whnf
  refine ⟨_, [7], marks_0n [] 0, ?_⟩
  conv => whnf
  refine ⟨?_, ?_, ?_⟩
  · conv => whnf
    repeat' (first | exact True.intro | rfl | refine And.intro ?_ ?_ | omega)
    all_goals (conv => whnf)
    all_goals (try (first | rfl | omega | (simp [mulSz]; done)))
  · conv => whnf
    repeat' (first | exact True.intro | rfl | refine And.intro ?_ ?_ | omega)
    all_goals (conv => whnf)
    all_goals (try (first | rfl | omega | (simp [mulSz]; done)))
  conv => whnf
  refine ⟨_, [4], h11 t1, ?_⟩
  conv => whnf
  refine ⟨?_, ?_, ?_⟩
  · conv => whnf
    repeat' (first | exact True.intro | rfl | refine And.intro ?_ ?_ | omega)
    all_goals (conv => whnf)
    all_goals (try (first | rfl | omega | (simp [mulSz]; done)))
  · conv => whnf
    repeat' (first | exact True.intro | rfl | refine And.intro ?_ ?_ | omega)
    all_goals (conv => whnf)
    all_goals (try (first | rfl | omega | (simp [mulSz]; done)))
  conv => whnf
  refine ⟨?_, True.intro⟩
  intro _ _
  conv => whnf
  refine ⟨_, [0], h12, ?_⟩
  conv => whnf
  refine ⟨?_, ?_, ?_⟩
  · conv => whnf
    repeat' (first | exact True.intro | rfl | refine And.intro ?_ ?_ | omega)
    all_goals (conv => whnf)
    all_goals (try (first | rfl | omega | (simp [mulSz]; done)))
  · conv => whnf
    repeat' (first | exact True.intro | rfl | refine And.intro ?_ ?_ | omega)
    all_goals (conv => whnf)
    all_goals (try (first | rfl | omega | (simp [mulSz]; done)))
  conv => whnf
  refine ⟨?_, True.intro⟩
  intro (y4 : List Int) _
  conv => whnf
  refine ⟨_, [8, 9], marks_q M (M ++ y4) M.length M.length (M.length + y4.length) (by simp) (by simp) (fun i hi => by rw [getI_app _ _ _ hi]) (by omega), ?_⟩
  conv => whnf
  refine ⟨?_, ?_, ?_⟩
  · conv => whnf
    repeat' (first | exact True.intro | rfl | refine And.intro ?_ ?_ | omega)
    all_goals (conv => whnf)
    all_goals (try (first | rfl | omega | (simp [mulSz]; done)))
  · conv => whnf
    repeat' (first | exact True.intro | rfl | refine And.intro ?_ ?_ | omega)
    all_goals (conv => whnf)
    all_goals (try (first | rfl | omega | (simp [mulSz]; done)))
  conv => whnf
  refine ⟨_, [6, 1], sOwn t2 (0 + m + t2.length) cb, ?_⟩
  conv => whnf
  refine ⟨?_, ?_, ?_⟩
  · conv => whnf
    repeat' (first | exact True.intro | rfl | refine And.intro ?_ ?_ | omega)
    all_goals (conv => whnf)
    all_goals (try (first | rfl | omega | (simp [mulSz]; done)))
  · conv => whnf
    repeat' (first | exact True.intro | rfl | refine And.intro ?_ ?_ | omega)
    all_goals (conv => whnf)
    all_goals (try (first | rfl | omega | (simp [mulSz]; done)))
  conv => whnf
  refine ⟨⟨[0, 1, 2, 4], t1, ?_, True.intro⟩, ?_⟩
  · conv => whnf
    repeat' (first | exact True.intro | rfl | refine And.intro ?_ ?_ | omega)
    all_goals (conv => whnf)
    all_goals (try (first | rfl | omega | (simp [mulSz]; done)))
  · intro (t1 : List Bool) _
    conv => whnf
    refine ⟨_, [3, 0], sIn t1 (0 + n + t1.length) ca, ?_⟩
    conv => whnf
    refine ⟨?_, ?_, ?_⟩
    · conv => whnf
      repeat' (first | exact True.intro | rfl | refine And.intro ?_ ?_ | omega)
      all_goals (conv => whnf)
      all_goals (try (first | rfl | omega | (simp [mulSz]; done)))
    · conv => whnf
      repeat' (first | exact True.intro | rfl | refine And.intro ?_ ?_ | omega)
      all_goals (conv => whnf)
      all_goals (try (first | rfl | omega | (simp [mulSz]; done)))
    conv => whnf
    refine .inl ⟨(), [0, 1, 2], ?_⟩
    conv => whnf
    repeat' (first | exact True.intro | rfl | refine And.intro ?_ ?_ | omega)
set_option maxRecDepth 100000 in
theorem law_NZZ (A B L : List Bool) (N : Int) (n m ln ca cb cl : Nat) (hn : n ≤ A.length) (hm : m ≤ B.length) (hnN : n ≤ 140737488355328) (hmN : m ≤ 140737488355328) (e g : Int) (xs : List Bool) (F M : List Int) (hx : xs.length ≤ 140737488355328) (hF : F.length ≤ 140737488355328) (hMl : M.length ≤ 140737488355328)
    (h5 : ∀ t1 t2 : List Bool, Fits Try.prog 5 ⟨[.slice 0 0 n (0 + n + t1.length), .slice 1 0 m (0 + m + t2.length)], [.seg false (.bools (A.take n ++ t1)), .seg false (.bools (B.take m ++ t2))], [nilOut [.dead, .dead] (.tup [.nils, .int .i64 e])]⟩)
    (h6 : Fits Try.prog 6 ⟨[.slice 0 0 n ca, .slice 1 0 m cb], [.seg false (.bools A), .seg false (.bools B)], [nilOut [.dead, .dead] (.tup [.nils, .int .i64 e])]⟩)
    (h7 : ∀ t2 : List Bool, Fits Try.prog 7 ⟨[.slice 0 0 ln cl, .slice 1 0 m (0 + m + t2.length), .int .i64 N], [.seg false (.bools L), .seg false (.bools (B.take m ++ t2))], [rowX 2 [.dead, .dead] [] fun s => .tup [s, .int .i64 0]]⟩)
    (h8 : Fits Try.prog 8 ⟨[.slice 0 0 ln cl, .slice 1 0 m cb, .int .i64 N], [.seg false (.bools L), .seg false (.bools B)], [nilOut [.dead, .dead] (.tup [.nils, .int .i64 0])]⟩)
    (h11 : ∀ t1 : List Bool, Fits Try.prog 11 ⟨[.slice 0 0 n (0 + n + t1.length)], [.seg false (.bools (A.take n ++ t1))], [rowX 1 [.dead] M fun s => s]⟩)
    (hM : M = []) (h12 : Fits Try.prog 12 ⟨[.slice 0 0 n ca], [.seg false (.bools A)], [nilOut [.dead] .nils]⟩) :
    Fits Try.prog 3 (thinsSpec A B L N n m ln ca cb cl) := by
  subst hM
  refine fits_of_body (C := cfgk 3) (c := c3) (ts := [8]) tok mixed (fun | 10 => some (inv10N A B L n ca) | _ => none) (fun _ => none)
    Try.func3 (by kernel_rfl) (by kernel_rfl) (by kernel_rfl) (by kernel_rfl) rfl ?_
  have sIn : ∀ (t1 : List Bool) (c1 c2 : Nat), QFits Try.prog 9 ⟨[.slice 0 0 n c1, .slice 1 0 n c2], [.seg false (.bools (A.take n ++ t1)), .seg false (.bools A)], .bool true⟩ := fun t1 c1 c2 => same_q _ _ n c1 c2 (by simp; omega) hn (fun i hi => getD_take A t1 i n hi hn) (by omega)
  have sOwn : ∀ (t2 : List Bool) (c1 c2 : Nat), QFits Try.prog 9 ⟨[.slice 0 0 m c1, .slice 1 0 m c2], [.seg false (.bools (B.take m ++ t2)), .seg false (.bools B)], .bool true⟩ := fun t2 c1 c2 => same_q _ _ m c1 c2 (by simp; omega) hm (fun i hi => getD_take B t2 i m hi hm) (by omega)
  conv => whnf
  repeat (refine And.intro ?_ ?_; (focus (first | omega | ((conv => whnf); omega) | (simp [mulSz, Cont.len]; done) | (simp [mulSz, Cont.len]; omega))); conv => whnf)
  intro (t1 : List Bool)
  conv => whnf
  repeat (refine And.intro ?_ ?_; (focus (first | omega | ((conv => whnf); omega) | (simp [mulSz, Cont.len]; done) | (simp [mulSz, Cont.len]; omega))); conv => whnf)
  intro (t2 : List Bool)
  conv => whnf
  repeat (refine And.intro ?_ ?_; (focus (first | omega | ((conv => whnf); omega) | (simp [mulSz, Cont.len]; done) | (simp [mulSz, Cont.len]; omega))); conv => whnf)
  refine ⟨_, [4, 6], h5 t1 t2, ?_⟩
  conv => whnf
  refine ⟨?_, ?_, ?_⟩
  · conv => whnf
    repeat' (first | exact True.intro | rfl | refine And.intro ?_ ?_ | omega)
    all_goals (conv => whnf)
    all_goals (try (first | rfl | omega | (simp [mulSz]; done)))
  · conv => whnf
    repeat' (first | exact True.intro | rfl | refine And.intro ?_ ?_ | omega)
    all_goals (conv => whnf)
    all_goals (try (first | rfl | omega | (simp [mulSz]; done)))
  conv => whnf
  refine ⟨?_, True.intro⟩
  intro _ _
  conv => whnf
  refine ⟨_, [0, 1], h6, ?_⟩
  conv => whnf
  refine ⟨?_, ?_, ?_⟩
  · conv => whnf
    repeat' (first | exact True.intro | rfl | refine And.intro ?_ ?_ | omega)
    all_goals (conv => whnf)
    all_goals (try (first | rfl | omega | (simp [mulSz]; done)))
  · conv => whnf
    repeat' (first | exact True.intro | rfl | refine And.intro ?_ ?_ | omega)
    all_goals (conv => whnf)
    all_goals (try (first | rfl | omega | (simp [mulSz]; done)))
  conv => whnf
  refine ⟨?_, True.intro⟩
  intro _ _
  conv => whnf
  refine ⟨_, [2, 6], h7 t2, ?_⟩
  conv => whnf
  refine ⟨?_, ?_, ?_⟩
  · conv => whnf
    repeat' (first | exact True.intro | rfl | refine And.intro ?_ ?_ | omega)
    all_goals (conv => whnf)
    all_goals (try (first | rfl | omega | (simp [mulSz]; done)))
  · conv => whnf
    repeat' (first | exact True.intro | rfl | refine And.intro ?_ ?_ | omega)
    all_goals (conv => whnf)
    all_goals (try (first | rfl | omega | (simp [mulSz]; done)))
  conv => whnf
  refine ⟨?_, True.intro⟩
  intro _ _
  conv => whnf
  refine ⟨_, [2, 1], h8, ?_⟩
  conv => whnf
  refine ⟨?_, ?_, ?_⟩
  · conv => whnf
    repeat' (first | exact True.intro | rfl | refine And.intro ?_ ?_ | omega)
    all_goals (conv => whnf)
    all_goals (try (first | rfl | omega | (simp [mulSz]; done)))
  · conv => whnf
    repeat' (first | exact True.intro | rfl | refine And.intro ?_ ?_ | omega)
    all_goals (conv => whnf)
    all_goals (try (first | rfl | omega | (simp [mulSz]; done)))
  conv => whnf
  refine ⟨?_, True.intro⟩
  intro _ _
  conv => whnf
  refine ⟨_, [], same_nil, ?_⟩
  conv => whnf
  refine ⟨?_, ?_, ?_⟩
  · conv => whnf
    repeat' (first | exact True.intro | rfl | refine And.intro ?_ ?_ | omega)
    all_goals (conv => whnf)
    all_goals (try (first | rfl | omega | (simp [mulSz]; done)))
  · conv => whnf
    repeat' (first | exact True.intro | rfl | refine And.intro ?_ ?_ | omega)
    all_goals (conv => whnf)
    all_goals (try (first | rfl | omega | (simp [mulSz]; done)))
  conv => whnf
  refine tst_in (fun h_ => False.elim (by simp at h_ <;> omega)) (fun _ => ?_)
  conv => whnf
  refine ⟨_, [7], marks_0n [] 0, ?_⟩
  conv => whnf
  refine ⟨?_, ?_, ?_⟩
  · conv => whnf
    repeat' (first | exact True.intro | rfl | refine And.intro ?_ ?_ | omega)
    all_goals (conv => whnf)
    all_goals (try (first | rfl | omega | (simp [mulSz]; done)))
  · conv => whnf
    repeat' (first | exact True.intro | rfl | refine And.intro ?_ ?_ | omega)
    all_goals (conv => whnf)
    all_goals (try (first | rfl | omega | (simp [mulSz]; done)))
  conv => whnf
  refine ⟨_, [4], h11 t1, ?_⟩
  conv => whnf
  refine ⟨?_, ?_, ?_⟩
  · conv => whnf
    repeat' (first | exact True.intro | rfl | refine And.intro ?_ ?_ | omega)
    all_goals (conv => whnf)
    all_goals (try (first | rfl | omega | (simp [mulSz]; done)))
  · conv => whnf
    repeat' (first | exact True.intro | rfl | refine And.intro ?_ ?_ | omega)
    all_goals (conv => whnf)
    all_goals (try (first | rfl | omega | (simp [mulSz]; done)))
  conv => whnf
  refine ⟨?_, True.intro⟩
  intro _ _
  conv => whnf
  refine ⟨_, [0], h12, ?_⟩
  conv => whnf
  refine ⟨?_, ?_, ?_⟩
  · conv => whnf
    repeat' (first | exact True.intro | rfl | refine And.intro ?_ ?_ | omega)
    all_goals (conv => whnf)
    all_goals (try (first | rfl | omega | (simp [mulSz]; done)))
  · conv => whnf
    repeat' (first | exact True.intro | rfl | refine And.intro ?_ ?_ | omega)
    all_goals (conv => whnf)
    all_goals (try (first | rfl | omega | (simp [mulSz]; done)))
  conv => whnf
  refine ⟨?_, True.intro⟩
  intro _ _
  conv => whnf
  refine ⟨_, [8], marks_0n [] 0, ?_⟩
  conv => whnf
  refine ⟨?_, ?_, ?_⟩
  · conv => whnf
    repeat' (first | exact True.intro | rfl | refine And.intro ?_ ?_ | omega)
    all_goals (conv => whnf)
    all_goals (try (first | rfl | omega | (simp [mulSz]; done)))
  · conv => whnf
    repeat' (first | exact True.intro | rfl | refine And.intro ?_ ?_ | omega)
    all_goals (conv => whnf)
    all_goals (try (first | rfl | omega | (simp [mulSz]; done)))
  conv => whnf
  refine ⟨_, [6, 1], sOwn t2 (0 + m + t2.length) cb, ?_⟩
  conv => whnf
  refine ⟨?_, ?_, ?_⟩
  · conv => whnf
    repeat' (first | exact True.intro | rfl | refine And.intro ?_ ?_ | omega)
    all_goals (conv => whnf)
    all_goals (try (first | rfl | omega | (simp [mulSz]; done)))
  · conv => whnf
    repeat' (first | exact True.intro | rfl | refine And.intro ?_ ?_ | omega)
    all_goals (conv => whnf)
    all_goals (try (first | rfl | omega | (simp [mulSz]; done)))
  conv => whnf
  refine ⟨⟨[0, 1, 2, 4], t1, ?_, True.intro⟩, ?_⟩
  · conv => whnf
    repeat' (first | exact True.intro | rfl | refine And.intro ?_ ?_ | omega)
    all_goals (conv => whnf)
    all_goals (try (first | rfl | omega | (simp [mulSz]; done)))
  · intro (t1 : List Bool) _
    conv => whnf
    refine ⟨_, [3, 0], sIn t1 (0 + n + t1.length) ca, ?_⟩
    conv => whnf
    refine ⟨?_, ?_, ?_⟩
    · conv => whnf
      repeat' (first | exact True.intro | rfl | refine And.intro ?_ ?_ | omega)
      all_goals (conv => whnf)
      all_goals (try (first | rfl | omega | (simp [mulSz]; done)))
    · conv => whnf
      repeat' (first | exact True.intro | rfl | refine And.intro ?_ ?_ | omega)
      all_goals (conv => whnf)
      all_goals (try (first | rfl | omega | (simp [mulSz]; done)))
    conv => whnf
    refine .inl ⟨(), [0, 1, 2], ?_⟩
    conv => whnf
    repeat' (first | exact True.intro | rfl | refine And.intro ?_ ?_ | omega)
set_option maxRecDepth 100000 in
theorem law_RNR (A B L : List Bool) (N : Int) (n m ln ca cb cl : Nat) (hn : n ≤ A.length) (hm : m ≤ B.length) (hnN : n ≤ 140737488355328) (hmN : m ≤ 140737488355328) (e g : Int) (xs : List Bool) (F M : List Int) (hx : xs.length ≤ 140737488355328) (hF : F.length ≤ 140737488355328) (hMl : M.length ≤ 140737488355328)
    (h5 : ∀ t1 t2 : List Bool, Fits Try.prog 5 ⟨[.slice 0 0 n (0 + n + t1.length), .slice 1 0 m (0 + m + t2.length)], [.seg false (.bools (A.take n ++ t1)), .seg false (.bools (B.take m ++ t2))], [rowOut 2 [.dead, .dead] xs fun s => .tup [s, .int .i64 0]]⟩)
    (h6 : Fits Try.prog 6 ⟨[.slice 0 0 n ca, .slice 1 0 m cb], [.seg false (.bools A), .seg false (.bools B)], [rowOut 2 [.dead, .dead] xs fun s => .tup [s, .int .i64 0]]⟩)
    (h7 : ∀ t2 : List Bool, Fits Try.prog 7 ⟨[.slice 0 0 ln cl, .slice 1 0 m (0 + m + t2.length), .int .i64 N], [.seg false (.bools L), .seg false (.bools (B.take m ++ t2))], [nilOut [.dead, .dead] (.tup [.nils, .int .i64 g])]⟩)
    (h8 : Fits Try.prog 8 ⟨[.slice 0 0 ln cl, .slice 1 0 m cb, .int .i64 N], [.seg false (.bools L), .seg false (.bools B)], [nilOut [.dead, .dead] (.tup [.nils, .int .i64 g])]⟩)
    (h11 : ∀ t1 : List Bool, Fits Try.prog 11 ⟨[.slice 0 0 n (0 + n + t1.length)], [.seg false (.bools (A.take n ++ t1))], [rowX 1 [.dead] M fun s => s]⟩)
    (h12 : Fits Try.prog 12 ⟨[.slice 0 0 n ca], [.seg false (.bools A)], [rowI 1 [.dead] M fun s => s]⟩) :
    Fits Try.prog 3 (thinsSpec A B L N n m ln ca cb cl) := by
  refine fits_of_body (C := cfgk 3) (c := c3) (ts := [8]) tok mixed (fun | 10 => some (inv10R A B L n ca xs.length) | _ => none) (fun _ => none)
    Try.func3 (by kernel_rfl) (by kernel_rfl) (by kernel_rfl) (by kernel_rfl) rfl ?_
  have sIn : ∀ (t1 : List Bool) (c1 c2 : Nat), QFits Try.prog 9 ⟨[.slice 0 0 n c1, .slice 1 0 n c2], [.seg false (.bools (A.take n ++ t1)), .seg false (.bools A)], .bool true⟩ := fun t1 c1 c2 => same_q _ _ n c1 c2 (by simp; omega) hn (fun i hi => getD_take A t1 i n hi hn) (by omega)
  have sOwn : ∀ (t2 : List Bool) (c1 c2 : Nat), QFits Try.prog 9 ⟨[.slice 0 0 m c1, .slice 1 0 m c2], [.seg false (.bools (B.take m ++ t2)), .seg false (.bools B)], .bool true⟩ := fun t2 c1 c2 => same_q _ _ m c1 c2 (by simp; omega) hm (fun i hi => getD_take B t2 i m hi hm) (by omega)
  conv => whnf
  repeat (refine And.intro ?_ ?_; (focus (first | omega | ((conv => whnf); omega) | (simp [mulSz, Cont.len]; done) | (simp [mulSz, Cont.len]; omega))); conv => whnf)
  intro (t1 : List Bool)
  conv => whnf
  repeat (refine And.intro ?_ ?_; (focus (first | omega | ((conv => whnf); omega) | (simp [mulSz, Cont.len]; done) | (simp [mulSz, Cont.len]; omega))); conv => whnf)
  intro (t2 : List Bool)
  conv => whnf
  repeat (refine And.intro ?_ ?_; (focus (first | omega | ((conv => whnf); omega) | (simp [mulSz, Cont.len]; done) | (simp [mulSz, Cont.len]; omega))); conv => whnf)
  refine ⟨_, [4, 6], h5 t1 t2, ?_⟩
  conv => whnf
  refine ⟨?_, ?_, ?_⟩
  · conv => whnf
    repeat' (first | exact True.intro | rfl | refine And.intro ?_ ?_ | omega)
    all_goals (conv => whnf)
    all_goals (try (first | rfl | omega | (simp [mulSz]; done)))
  · conv => whnf
    repeat' (first | exact True.intro | rfl | refine And.intro ?_ ?_ | omega)
    all_goals (conv => whnf)
    all_goals (try (first | rfl | omega | (simp [mulSz]; done)))
  conv => whnf
  refine ⟨?_, True.intro⟩
  intro (y1 : List Bool) _
  conv => whnf
  refine ⟨_, [0, 1], h6, ?_⟩
  conv => whnf
  refine ⟨?_, ?_, ?_⟩
  · conv => whnf
    repeat' (first | exact True.intro | rfl | refine And.intro ?_ ?_ | omega)
    all_goals (conv => whnf)
    all_goals (try (first | rfl | omega | (simp [mulSz]; done)))
  · conv => whnf
    repeat' (first | exact True.intro | rfl | refine And.intro ?_ ?_ | omega)
    all_goals (conv => whnf)
    all_goals (try (first | rfl | omega | (simp [mulSz]; done)))
  conv => whnf
  refine ⟨?_, True.intro⟩
  intro (y2 : List Bool) _
  conv => whnf
  refine ⟨_, [2, 6], h7 t2, ?_⟩
  conv => whnf
  refine ⟨?_, ?_, ?_⟩
  · conv => whnf
    repeat' (first | exact True.intro | rfl | refine And.intro ?_ ?_ | omega)
    all_goals (conv => whnf)
    all_goals (try (first | rfl | omega | (simp [mulSz]; done)))
  · conv => whnf
    repeat' (first | exact True.intro | rfl | refine And.intro ?_ ?_ | omega)
    all_goals (conv => whnf)
    all_goals (try (first | rfl | omega | (simp [mulSz]; done)))
  conv => whnf
  refine ⟨?_, True.intro⟩
  intro _ _
  conv => whnf
  refine ⟨_, [2, 1], h8, ?_⟩
  conv => whnf
  refine ⟨?_, ?_, ?_⟩
  · conv => whnf
    repeat' (first | exact True.intro | rfl | refine And.intro ?_ ?_ | omega)
    all_goals (conv => whnf)
    all_goals (try (first | rfl | omega | (simp [mulSz]; done)))
  · conv => whnf
    repeat' (first | exact True.intro | rfl | refine And.intro ?_ ?_ | omega)
    all_goals (conv => whnf)
    all_goals (try (first | rfl | omega | (simp [mulSz]; done)))
  conv => whnf
  refine ⟨?_, True.intro⟩
  intro _ _
  conv => whnf
  refine ⟨_, [7, 8], same_q (xs ++ y1) (xs ++ y2) xs.length (xs.length + y1.length) (xs.length + y2.length) (by simp) (by simp) (fun i hi => by rw [getD_app _ _ _ hi, getD_app _ _ _ hi]) (by omega), ?_⟩
  conv => whnf
  refine ⟨?_, ?_, ?_⟩
  · conv => whnf
    repeat' (first | exact True.intro | rfl | refine And.intro ?_ ?_ | omega)
    all_goals (conv => whnf)
    all_goals (try (first | rfl | omega | (simp [mulSz]; done)))
  · conv => whnf
    repeat' (first | exact True.intro | rfl | refine And.intro ?_ ?_ | omega)
    all_goals (conv => whnf)
    all_goals (try (first | rfl | omega | (simp [mulSz]; done)))
  conv => whnf
  refine ⟨_, [], marks_nil, ?_⟩
  conv => whnf
  refine ⟨?_, ?_, ?_⟩
  · conv => whnf
    repeat' (first | exact True.intro | rfl | refine And.intro ?_ ?_ | omega)
    all_goals (conv => whnf)
    all_goals (try (first | rfl | omega | (simp [mulSz]; done)))
  · conv => whnf
    repeat' (first | exact True.intro | rfl | refine And.intro ?_ ?_ | omega)
    all_goals (conv => whnf)
    all_goals (try (first | rfl | omega | (simp [mulSz]; done)))
  conv => whnf
  refine tst_in (fun h_ => False.elim (by simp at h_ <;> omega)) (fun _ => ?_)
  conv => whnf
  refine ⟨_, [4], h11 t1, ?_⟩
  conv => whnf
  refine ⟨?_, ?_, ?_⟩
  · conv => whnf
    repeat' (first | exact True.intro | rfl | refine And.intro ?_ ?_ | omega)
    all_goals (conv => whnf)
    all_goals (try (first | rfl | omega | (simp [mulSz]; done)))
  · conv => whnf
    repeat' (first | exact True.intro | rfl | refine And.intro ?_ ?_ | omega)
    all_goals (conv => whnf)
    all_goals (try (first | rfl | omega | (simp [mulSz]; done)))
  conv => whnf
  refine ⟨?_, True.intro⟩
  intro _ _
  conv => whnf
  refine ⟨_, [0], h12, ?_⟩
  conv => whnf
  refine ⟨?_, ?_, ?_⟩
  · conv => whnf
    repeat' (first | exact True.intro | rfl | refine And.intro ?_ ?_ | omega)
    all_goals (conv => whnf)
    all_goals (try (first | rfl | omega | (simp [mulSz]; done)))
  · conv => whnf
    repeat' (first | exact True.intro | rfl | refine And.intro ?_ ?_ | omega)
    all_goals (conv => whnf)
    all_goals (try (first | rfl | omega | (simp [mulSz]; done)))
  conv => whnf
  refine ⟨?_, True.intro⟩
  intro (y4 : List Int) _
  conv => whnf
  refine ⟨_, [9, 10], marks_q M (M ++ y4) M.length M.length (M.length + y4.length) (by simp) (by simp) (fun i hi => by rw [getI_app _ _ _ hi]) (by omega), ?_⟩
  conv => whnf
  refine ⟨?_, ?_, ?_⟩
  · conv => whnf
    repeat' (first | exact True.intro | rfl | refine And.intro ?_ ?_ | omega)
    all_goals (conv => whnf)
    all_goals (try (first | rfl | omega | (simp [mulSz]; done)))
  · conv => whnf
    repeat' (first | exact True.intro | rfl | refine And.intro ?_ ?_ | omega)
    all_goals (conv => whnf)
    all_goals (try (first | rfl | omega | (simp [mulSz]; done)))
  conv => whnf
  refine ⟨_, [6, 1], sOwn t2 (0 + m + t2.length) cb, ?_⟩
  conv => whnf
  refine ⟨?_, ?_, ?_⟩
  · conv => whnf
    repeat' (first | exact True.intro | rfl | refine And.intro ?_ ?_ | omega)
    all_goals (conv => whnf)
    all_goals (try (first | rfl | omega | (simp [mulSz]; done)))
  · conv => whnf
    repeat' (first | exact True.intro | rfl | refine And.intro ?_ ?_ | omega)
    all_goals (conv => whnf)
    all_goals (try (first | rfl | omega | (simp [mulSz]; done)))
  conv => whnf
  refine ⟨⟨[0, 1, 2, 4, 7], ((t1, 0, xs ++ y1) : List Bool × Nat × List Bool), ?_, Nat.zero_le _, by simp⟩, ?_⟩
  · conv => whnf
    repeat' (first | exact True.intro | rfl | refine And.intro ?_ ?_ | omega)
    all_goals (conv => whnf)
    all_goals (try (first | rfl | omega | (simp [mulSz]; done)))
  · rintro ⟨t1, k, Z⟩ ⟨hk, hZ⟩
    have hk : k ≤ xs.length := hk
    have hZ : xs.length ≤ Z.length := hZ
    conv => whnf
    refine tst_in (fun hlt => ?_) (fun hge => ?_)
    · skip
      have hlt : k < xs.length := by simp at hlt; omega
      conv => whnf
      refine ⟨by repeat' (first | omega | (simp only [i64max]; omega) | refine And.intro ?_ ?_), ?_⟩
      conv => whnf
      refine ⟨by repeat' (first | omega | (simp only [i64max]; omega) | refine And.intro ?_ ?_), ?_⟩
      conv => whnf
      refine ⟨by repeat' (first | omega | (simp only [i64max]; omega) | refine And.intro ?_ ?_), ?_⟩
      conv => whnf
      refine ⟨by repeat' (first | omega | (simp only [i64max]; omega) | refine And.intro ?_ ?_), ?_⟩
      conv => whnf
      refine ⟨by repeat' (first | omega | (simp only [i64max]; omega) | refine And.intro ?_ ?_), ?_⟩
      conv => whnf
      refine ⟨[0, 1, 2, 3, 4], ((t1, k + 1, Z.set (0 + ((k : Int)).toNat) (!(Z.getD (0 + ((k : Int)).toNat) false))) : List Bool × Nat × List Bool), ?_, ⟨hlt, by show xs.length ≤ (Z.set _ _).length; rw [List.length_set]; exact hZ⟩, ?_⟩
      · conv => whnf
        repeat' (first | exact True.intro | rfl | refine And.intro ?_ ?_ | omega)
        all_goals (conv => whnf)
        all_goals (try (first | rfl | omega | (simp [mulSz]; done)))
      · show xs.length - (k + 1) < xs.length - k
        omega
    · conv => whnf
      refine ⟨_, [3, 0], sIn t1 (0 + n + t1.length) ca, ?_⟩
      conv => whnf
      refine ⟨?_, ?_, ?_⟩
      · conv => whnf
        repeat' (first | exact True.intro | rfl | refine And.intro ?_ ?_ | omega)
        all_goals (conv => whnf)
        all_goals (try (first | rfl | omega | (simp [mulSz]; done)))
      · conv => whnf
        repeat' (first | exact True.intro | rfl | refine And.intro ?_ ?_ | omega)
        all_goals (conv => whnf)
        all_goals (try (first | rfl | omega | (simp [mulSz]; done)))
      conv => whnf
      refine .inl ⟨(), [0, 1, 2], ?_⟩
      conv => whnf
      repeat' (first | exact True.intro | rfl | refine And.intro ?_ ?_ | omega)
set_option maxRecDepth 100000 in
theorem law_RNZ (A B L : List Bool) (N : Int) (n m ln ca cb cl : Nat) (hn : n ≤ A.length) (hm : m ≤ B.length) (hnN : n ≤ 140737488355328) (hmN : m ≤ 140737488355328) (e g : Int) (xs : List Bool) (F M : List Int) (hx : xs.length ≤ 140737488355328) (hF : F.length ≤ 140737488355328) (hMl : M.length ≤ 140737488355328)
    (h5 : ∀ t1 t2 : List Bool, Fits Try.prog 5 ⟨[.slice 0 0 n (0 + n + t1.length), .slice 1 0 m (0 + m + t2.length)], [.seg false (.bools (A.take n ++ t1)), .seg false (.bools (B.take m ++ t2))], [rowOut 2 [.dead, .dead] xs fun s => .tup [s, .int .i64 0]]⟩)
    (h6 : Fits Try.prog 6 ⟨[.slice 0 0 n ca, .slice 1 0 m cb], [.seg false (.bools A), .seg false (.bools B)], [rowOut 2 [.dead, .dead] xs fun s => .tup [s, .int .i64 0]]⟩)
    (h7 : ∀ t2 : List Bool, Fits Try.prog 7 ⟨[.slice 0 0 ln cl, .slice 1 0 m (0 + m + t2.length), .int .i64 N], [.seg false (.bools L), .seg false (.bools (B.take m ++ t2))], [nilOut [.dead, .dead] (.tup [.nils, .int .i64 g])]⟩)
    (h8 : Fits Try.prog 8 ⟨[.slice 0 0 ln cl, .slice 1 0 m cb, .int .i64 N], [.seg false (.bools L), .seg false (.bools B)], [nilOut [.dead, .dead] (.tup [.nils, .int .i64 g])]⟩)
    (h11 : ∀ t1 : List Bool, Fits Try.prog 11 ⟨[.slice 0 0 n (0 + n + t1.length)], [.seg false (.bools (A.take n ++ t1))], [rowX 1 [.dead] M fun s => s]⟩)
    (hM : M = []) (h12 : Fits Try.prog 12 ⟨[.slice 0 0 n ca], [.seg false (.bools A)], [nilOut [.dead] .nils]⟩) :
    Fits Try.prog 3 (thinsSpec A B L N n m ln ca cb cl) := by
  subst hM
  refine fits_of_body (C := cfgk 3) (c := c3) (ts := [8]) tok mixed (fun | 10 => some (inv10R A B L n ca xs.length) | _ => none) (fun _ => none)
    Try.func3 (by kernel_rfl) (by kernel_rfl) (by kernel_rfl) (by kernel_rfl) rfl ?_
  have sIn : ∀ (t1 : List Bool) (c1 c2 : Nat), QFits Try.prog 9 ⟨[.slice 0 0 n c1, .slice 1 0 n c2], [.seg false (.bools (A.take n ++ t1)), .seg false (.bools A)], .bool true⟩ := fun t1 c1 c2 => same_q _ _ n c1 c2 (by simp; omega) hn (fun i hi => getD_take A t1 i n hi hn) (by omega)
  have sOwn : ∀ (t2 : List Bool) (c1 c2 : Nat), QFits Try.prog 9 ⟨[.slice 0 0 m c1, .slice 1 0 m c2], [.seg false (.bools (B.take m ++ t2)), .seg false (.bools B)], .bool true⟩ := fun t2 c1 c2 => same_q _ _ m c1 c2 (by simp; omega) hm (fun i hi => getD_take B t2 i m hi hm) (by omega)
  conv => whnf
  repeat (refine And.intro ?_ ?_; (focus (first | omega | ((conv => whnf); omega) | (simp [mulSz, Cont.len]; done) | (simp [mulSz, Cont.len]; omega))); conv => whnf)
  intro (t1 : List Bool)
  conv => whnf
  repeat (refine And.intro ?_ ?_; (focus (first | omega | ((conv => whnf); omega) | (simp [mulSz, Cont.len]; done) | (simp [mulSz, Cont.len]; omega))); conv => whnf)
  intro (t2 : List Bool)
  conv => whnf
  repeat (refine And.intro ?_ ?_; (focus (first | omega | ((conv => whnf); omega) | (simp [mulSz, Cont.len]; done) | (simp [mulSz, Cont.len]; omega))); conv => whnf)
  refine ⟨_, [4, 6], h5 t1 t2, ?_⟩
  conv => whnf
  refine ⟨?_, ?_, ?_⟩
  · conv => whnf
    repeat' (first | exact True.intro | rfl | refine And.intro ?_ ?_ | omega)
    all_goals (conv => whnf)
    all_goals (try (first | rfl | omega | (simp [mulSz]; done)))
  · conv => whnf
    repeat' (first | exact True.intro | rfl | refine And.intro ?_ ?_ | omega)
    all_goals (conv => whnf)
    all_goals (try (first | rfl | omega | (simp [mulSz]; done)))
  conv => whnf
  refine ⟨?_, True.intro⟩
  intro (y1 : List Bool) _
  conv => whnf
  refine ⟨_, [0, 1], h6, ?_⟩
  conv => whnf
  refine ⟨?_, ?_, ?_⟩
  · conv => whnf
    repeat' (first | exact True.intro | rfl | refine And.intro ?_ ?_ | omega)
    all_goals (conv => whnf)
    all_goals (try (first | rfl | omega | (simp [mulSz]; done)))
  · conv => whnf
    repeat' (first | exact True.intro | rfl | refine And.intro ?_ ?_ | omega)
    all_goals (conv => whnf)
    all_goals (try (first | rfl | omega | (simp [mulSz]; done)))
  conv => whnf
  refine ⟨?_, True.intro⟩
  intro (y2 : List Bool) _
  conv => whnf
  refine ⟨_, [2, 6], h7 t2, ?_⟩
  conv => whnf
  refine ⟨?_, ?_, ?_⟩
  · conv => whnf
    repeat' (first | exact True.intro | rfl | refine And.intro ?_ ?_ | omega)
    all_goals (conv => whnf)
    all_goals (try (first | rfl | omega | (simp [mulSz]; done)))
  · conv => whnf
    repeat' (first | exact True.intro | rfl | refine And.intro ?_ ?_ | omega)
    all_goals (conv => whnf)
    all_goals (try (first | rfl | omega | (simp [mulSz]; done)))
  conv => whnf
  refine ⟨?_, True.intro⟩
  intro _ _
  conv => whnf
  refine ⟨_, [2, 1], h8, ?_⟩
  conv => whnf
  refine ⟨?_, ?_, ?_⟩
  · conv => whnf
    repeat' (first | exact True.intro | rfl | refine And.intro ?_ ?_ | omega)
    all_goals (conv => whnf)
    all_goals (try (first | rfl | omega | (simp [mulSz]; done)))
  · conv => whnf
    repeat' (first | exact True.intro | rfl | refine And.intro ?_ ?_ | omega)
    all_goals (conv => whnf)
    all_goals (try (first | rfl | omega | (simp [mulSz]; done)))
  conv => whnf
  refine ⟨?_, True.intro⟩
  intro _ _
  conv => whnf
  refine ⟨_, [7, 8], same_q (xs ++ y1) (xs ++ y2) xs.length (xs.length + y1.length) (xs.length + y2.length) (by simp) (by simp) (fun i hi => by rw [getD_app _ _ _ hi, getD_app _ _ _ hi]) (by omega), ?_⟩
  conv => whnf
  refine ⟨?_, ?_, ?_⟩
  · conv => whnf
    repeat' (first | exact True.intro | rfl | refine And.intro ?_ ?_ | omega)
    all_goals (conv => whnf)
    all_goals (try (first | rfl | omega | (simp [mulSz]; done)))
  · conv => whnf
    repeat' (first | exact True.intro | rfl | refine And.intro ?_ ?_ | omega)
    all_goals (conv => whnf)
    all_goals (try (first | rfl | omega | (simp [mulSz]; done)))
  conv => whnf
  refine ⟨_, [], marks_nil, ?_⟩
  conv => whnf
  refine ⟨?_, ?_, ?_⟩
  · conv => whnf
    repeat' (first | exact True.intro | rfl | refine And.intro ?_ ?_ | omega)
    all_goals (conv => whnf)
    all_goals (try (first | rfl | omega | (simp [mulSz]; done)))
  · conv => whnf
    repeat' (first | exact True.intro | rfl | refine And.intro ?_ ?_ | omega)
    all_goals (conv => whnf)
    all_goals (try (first | rfl | omega | (simp [mulSz]; done)))
  conv => whnf
  refine tst_in (fun h_ => False.elim (by simp at h_ <;> omega)) (fun _ => ?_)
  conv => whnf
  refine ⟨_, [4], h11 t1, ?_⟩
  conv => whnf
  refine ⟨?_, ?_, ?_⟩
  · conv => whnf
    repeat' (first | exact True.intro | rfl | refine And.intro ?_ ?_ | omega)
    all_goals (conv => whnf)
    all_goals (try (first | rfl | omega | (simp [mulSz]; done)))
  · conv => whnf
    repeat' (first | exact True.intro | rfl | refine And.intro ?_ ?_ | omega)
    all_goals (conv => whnf)
    all_goals (try (first | rfl | omega | (simp [mulSz]; done)))
  conv => whnf
  refine ⟨?_, True.intro⟩
  intro _ _
  conv => whnf
  refine ⟨_, [0], h12, ?_⟩
  conv => whnf
  refine ⟨?_, ?_, ?_⟩
  · conv => whnf
    repeat' (first | exact True.intro | rfl | refine And.intro ?_ ?_ | omega)
    all_goals (conv => whnf)
    all_goals (try (first | rfl | omega | (simp [mulSz]; done)))
  · conv => whnf
    repeat' (first | exact True.intro | rfl | refine And.intro ?_ ?_ | omega)
    all_goals (conv => whnf)
    all_goals (try (first | rfl | omega | (simp [mulSz]; done)))
  conv => whnf
  refine ⟨?_, True.intro⟩
  intro _ _
  conv => whnf
  refine ⟨_, [9], marks_0n [] 0, ?_⟩
  conv => whnf
  refine ⟨?_, ?_, ?_⟩
  · conv => whnf
    repeat' (first | exact True.intro | rfl | refine And.intro ?_ ?_ | omega)
    all_goals (conv => whnf)
    all_goals (try (first | rfl | omega | (simp [mulSz]; done)))
  · conv => whnf
    repeat' (first | exact True.intro | rfl | refine And.intro ?_ ?_ | omega)
    all_goals (conv => whnf)
    all_goals (try (first | rfl | omega | (simp [mulSz]; done)))
  conv => whnf
  refine ⟨_, [6, 1], sOwn t2 (0 + m + t2.length) cb, ?_⟩
  conv => whnf
  refine ⟨?_, ?_, ?_⟩
  · conv => whnf
    repeat' (first | exact True.intro | rfl | refine And.intro ?_ ?_ | omega)
    all_goals (conv => whnf)
    all_goals (try (first | rfl | omega | (simp [mulSz]; done)))
  · conv => whnf
    repeat' (first | exact True.intro | rfl | refine And.intro ?_ ?_ | omega)
    all_goals (conv => whnf)
    all_goals (try (first | rfl | omega | (simp [mulSz]; done)))
  conv => whnf
  refine ⟨⟨[0, 1, 2, 4, 7], ((t1, 0, xs ++ y1) : List Bool × Nat × List Bool), ?_, Nat.zero_le _, by simp⟩, ?_⟩
  · conv => whnf
    repeat' (first | exact True.intro | rfl | refine And.intro ?_ ?_ | omega)
    all_goals (conv => whnf)
    all_goals (try (first | rfl | omega | (simp [mulSz]; done)))
  · rintro ⟨t1, k, Z⟩ ⟨hk, hZ⟩
    have hk : k ≤ xs.length := hk
    have hZ : xs.length ≤ Z.length := hZ
    conv => whnf
    refine tst_in (fun hlt => ?_) (fun hge => ?_)
    · skip
      have hlt : k < xs.length := by simp at hlt; omega
      conv => whnf
      refine ⟨by repeat' (first | omega | (simp only [i64max]; omega) | refine And.intro ?_ ?_), ?_⟩
      conv => whnf
      refine ⟨by repeat' (first | omega | (simp only [i64max]; omega) | refine And.intro ?_ ?_), ?_⟩
      conv => whnf
      refine ⟨by repeat' (first | omega | (simp only [i64max]; omega) | refine And.intro ?_ ?_), ?_⟩
      conv => whnf
      refine ⟨by repeat' (first | omega | (simp only [i64max]; omega) | refine And.intro ?_ ?_), ?_⟩
      conv => whnf
      refine ⟨by repeat' (first | omega | (simp only [i64max]; omega) | refine And.intro ?_ ?_), ?_⟩
      conv => whnf
      refine ⟨[0, 1, 2, 3, 4], ((t1, k + 1, Z.set (0 + ((k : Int)).toNat) (!(Z.getD (0 + ((k : Int)).toNat) false))) : List Bool × Nat × List Bool), ?_, ⟨hlt, by show xs.length ≤ (Z.set _ _).length; rw [List.length_set]; exact hZ⟩, ?_⟩
      · conv => whnf
        repeat' (first | exact True.intro | rfl | refine And.intro ?_ ?_ | omega)
        all_goals (conv => whnf)
        all_goals (try (first | rfl | omega | (simp [mulSz]; done)))
      · show xs.length - (k + 1) < xs.length - k
        omega
    · conv => whnf
      refine ⟨_, [3, 0], sIn t1 (0 + n + t1.length) ca, ?_⟩
      conv => whnf
      refine ⟨?_, ?_, ?_⟩
      · conv => whnf
        repeat' (first | exact True.intro | rfl | refine And.intro ?_ ?_ | omega)
        all_goals (conv => whnf)
        all_goals (try (first | rfl | omega | (simp [mulSz]; done)))
      · conv => whnf
        repeat' (first | exact True.intro | rfl | refine And.intro ?_ ?_ | omega)
        all_goals (conv => whnf)
        all_goals (try (first | rfl | omega | (simp [mulSz]; done)))
      conv => whnf
      refine .inl ⟨(), [0, 1, 2], ?_⟩
      conv => whnf
      repeat' (first | exact True.intro | rfl | refine And.intro ?_ ?_ | omega)
set_option maxRecDepth 100000 in
theorem law_RRR (A B L : List Bool) (N : Int) (n m ln ca cb cl : Nat) (hn : n ≤ A.length) (hm : m ≤ B.length) (hnN : n ≤ 140737488355328) (hmN : m ≤ 140737488355328) (e g : Int) (xs : List Bool) (F M : List Int) (hx : xs.length ≤ 140737488355328) (hF : F.length ≤ 140737488355328) (hMl : M.length ≤ 140737488355328)
    (h5 : ∀ t1 t2 : List Bool, Fits Try.prog 5 ⟨[.slice 0 0 n (0 + n + t1.length), .slice 1 0 m (0 + m + t2.length)], [.seg false (.bools (A.take n ++ t1)), .seg false (.bools (B.take m ++ t2))], [rowOut 2 [.dead, .dead] xs fun s => .tup [s, .int .i64 0]]⟩)
    (h6 : Fits Try.prog 6 ⟨[.slice 0 0 n ca, .slice 1 0 m cb], [.seg false (.bools A), .seg false (.bools B)], [rowOut 2 [.dead, .dead] xs fun s => .tup [s, .int .i64 0]]⟩)
    (h7 : ∀ t2 : List Bool, Fits Try.prog 7 ⟨[.slice 0 0 ln cl, .slice 1 0 m (0 + m + t2.length), .int .i64 N], [.seg false (.bools L), .seg false (.bools (B.take m ++ t2))], [rowX 2 [.dead, .dead] F fun s => .tup [s, .int .i64 0]]⟩)
    (h8 : Fits Try.prog 8 ⟨[.slice 0 0 ln cl, .slice 1 0 m cb, .int .i64 N], [.seg false (.bools L), .seg false (.bools B)], [rowI 2 [.dead, .dead] F fun s => .tup [s, .int .i64 0]]⟩)
    (h11 : ∀ t1 : List Bool, Fits Try.prog 11 ⟨[.slice 0 0 n (0 + n + t1.length)], [.seg false (.bools (A.take n ++ t1))], [rowX 1 [.dead] M fun s => s]⟩)
    (h12 : Fits Try.prog 12 ⟨[.slice 0 0 n ca], [.seg false (.bools A)], [rowI 1 [.dead] M fun s => s]⟩) :
    Fits Try.prog 3 (thinsSpec A B L N n m ln ca cb cl) := by
  refine fits_of_body (C := cfgk 3) (c := c3) (ts := [8]) tok mixed (fun | 10 => some (inv10R A B L n ca xs.length) | _ => none) (fun _ => none)
    Try.func3 (by kernel_rfl) (by kernel_rfl) (by kernel_rfl) (by kernel_rfl) rfl ?_
  have sIn : ∀ (t1 : List Bool) (c1 c2 : Nat), QFits Try.prog 9 ⟨[.slice 0 0 n c1, .slice 1 0 n c2], [.seg false (.bools (A.take n ++ t1)), .seg false (.bools A)], .bool true⟩ := fun t1 c1 c2 => same_q _ _ n c1 c2 (by simp; omega) hn (fun i hi => getD_take A t1 i n hi hn) (by omega)
  have sOwn : ∀ (t2 : List Bool) (c1 c2 : Nat), QFits Try.prog 9 ⟨[.slice 0 0 m c1, .slice 1 0 m c2], [.seg false (.bools (B.take m ++ t2)), .seg false (.bools B)], .bool true⟩ := fun t2 c1 c2 => same_q _ _ m c1 c2 (by simp; omega) hm (fun i hi => getD_take B t2 i m hi hm) (by omega)
  conv => whnf
  repeat (refine And.intro ?_ ?_; (focus (first | omega | ((conv => whnf); omega) | (simp [mulSz, Cont.len]; done) | (simp [mulSz, Cont.len]; omega))); conv => whnf)
  intro (t1 : List Bool)
  conv => whnf
  repeat (refine And.intro ?_ ?_; (focus (first | omega | ((conv => whnf); omega) | (simp [mulSz, Cont.len]; done) | (simp [mulSz, Cont.len]; omega))); conv => whnf)
  intro (t2 : List Bool)
  conv => whnf
  repeat (refine And.intro ?_ ?_; (focus (first | omega | ((conv => whnf); omega) | (simp [mulSz, Cont.len]; done) | (simp [mulSz, Cont.len]; omega))); conv => whnf)
  refine ⟨_, [4, 6], h5 t1 t2, ?_⟩
  conv => whnf
  refine ⟨?_, ?_, ?_⟩
  · conv => whnf
    repeat' (first | exact True.intro | rfl | refine And.intro ?_ ?_ | omega)
    all_goals (conv => whnf)
    all_goals (try (first | rfl | omega | (simp [mulSz]; done)))
  · conv => whnf
    repeat' (first | exact True.intro | rfl | refine And.intro ?_ ?_ | omega)
    all_goals (conv => whnf)
    all_goals (try (first | rfl | omega | (simp [mulSz]; done)))
  conv => whnf
  refine ⟨?_, True.intro⟩
  intro (y1 : List Bool) _
  conv => whnf
  refine ⟨_, [0, 1], h6, ?_⟩
  conv => whnf
  refine ⟨?_, ?_, ?_⟩
  · conv => whnf
    repeat' (first | exact True.intro | rfl | refine And.intro ?_ ?_ | omega)
    all_goals (conv => whnf)
    all_goals (try (first | rfl | omega | (simp [mulSz]; done)))
  · conv => whnf
    repeat' (first | exact True.intro | rfl | refine And.intro ?_ ?_ | omega)
    all_goals (conv => whnf)
    all_goals (try (first | rfl | omega | (simp [mulSz]; done)))
  conv => whnf
  refine ⟨?_, True.intro⟩
  intro (y2 : List Bool) _
  conv => whnf
  refine ⟨_, [2, 6], h7 t2, ?_⟩
  conv => whnf
  refine ⟨?_, ?_, ?_⟩
  · conv => whnf
    repeat' (first | exact True.intro | rfl | refine And.intro ?_ ?_ | omega)
    all_goals (conv => whnf)
    all_goals (try (first | rfl | omega | (simp [mulSz]; done)))
  · conv => whnf
    repeat' (first | exact True.intro | rfl | refine And.intro ?_ ?_ | omega)
    all_goals (conv => whnf)
    all_goals (try (first | rfl | omega | (simp [mulSz]; done)))
  conv => whnf
  refine ⟨?_, True.intro⟩
  intro _ _
  conv => whnf
  refine ⟨_, [2, 1], h8, ?_⟩
  conv => whnf
  refine ⟨?_, ?_, ?_⟩
  · conv => whnf
    repeat' (first | exact True.intro | rfl | refine And.intro ?_ ?_ | omega)
    all_goals (conv => whnf)
    all_goals (try (first | rfl | omega | (simp [mulSz]; done)))
  · conv => whnf
    repeat' (first | exact True.intro | rfl | refine And.intro ?_ ?_ | omega)
    all_goals (conv => whnf)
    all_goals (try (first | rfl | omega | (simp [mulSz]; done)))
  conv => whnf
  refine ⟨?_, True.intro⟩
  intro (y3 : List Int) _
  conv => whnf
  refine ⟨_, [7, 8], same_q (xs ++ y1) (xs ++ y2) xs.length (xs.length + y1.length) (xs.length + y2.length) (by simp) (by simp) (fun i hi => by rw [getD_app _ _ _ hi, getD_app _ _ _ hi]) (by omega), ?_⟩
  conv => whnf
  refine ⟨?_, ?_, ?_⟩
  · conv => whnf
    repeat' (first | exact True.intro | rfl | refine And.intro ?_ ?_ | omega)
    all_goals (conv => whnf)
    all_goals (try (first | rfl | omega | (simp [mulSz]; done)))
  · conv => whnf
    repeat' (first | exact True.intro | rfl | refine And.intro ?_ ?_ | omega)
    all_goals (conv => whnf)
    all_goals (try (first | rfl | omega | (simp [mulSz]; done)))
  conv => whnf
  refine ⟨_, [9, 10], marks_q F (F ++ y3) F.length F.length (F.length + y3.length) (by simp) (by simp) (fun i hi => by rw [getI_app _ _ _ hi]) (by omega), ?_⟩
  conv => whnf
  refine ⟨?_, ?_, ?_⟩
  · conv => whnf
    repeat' (first | exact True.intro | rfl | refine And.intro ?_ ?_ | omega)
    all_goals (conv => whnf)
    all_goals (try (first | rfl | omega | (simp [mulSz]; done)))
  · conv => whnf
    repeat' (first | exact True.intro | rfl | refine And.intro ?_ ?_ | omega)
    all_goals (conv => whnf)
    all_goals (try (first | rfl | omega | (simp [mulSz]; done)))
  conv => whnf
  refine ⟨_, [4], h11 t1, ?_⟩
  conv => whnf
  refine ⟨?_, ?_, ?_⟩
  · conv => whnf
    repeat' (first | exact True.intro | rfl | refine And.intro ?_ ?_ | omega)
    all_goals (conv => whnf)
    all_goals (try (first | rfl | omega | (simp [mulSz]; done)))
  · conv => whnf
    repeat' (first | exact True.intro | rfl | refine And.intro ?_ ?_ | omega)
    all_goals (conv => whnf)
    all_goals (try (first | rfl | omega | (simp [mulSz]; done)))
  conv => whnf
  refine ⟨?_, True.intro⟩
  intro _ _
  conv => whnf
  refine ⟨_, [0], h12, ?_⟩
  conv => whnf
  refine ⟨?_, ?_, ?_⟩
  · conv => whnf
    repeat' (first | exact True.intro | rfl | refine And.intro ?_ ?_ | omega)
    all_goals (conv => whnf)
    all_goals (try (first | rfl | omega | (simp [mulSz]; done)))
  · conv => whnf
    repeat' (first | exact True.intro | rfl | refine And.intro ?_ ?_ | omega)
    all_goals (conv => whnf)
    all_goals (try (first | rfl | omega | (simp [mulSz]; done)))
  conv => whnf
  refine ⟨?_, True.intro⟩
  intro (y4 : List Int) _
  conv => whnf
  refine ⟨_, [11, 12], marks_q M (M ++ y4) M.length M.length (M.length + y4.length) (by simp) (by simp) (fun i hi => by rw [getI_app _ _ _ hi]) (by omega), ?_⟩
  conv => whnf
  refine ⟨?_, ?_, ?_⟩
  · conv => whnf
    repeat' (first | exact True.intro | rfl | refine And.intro ?_ ?_ | omega)
    all_goals (conv => whnf)
    all_goals (try (first | rfl | omega | (simp [mulSz]; done)))
  · conv => whnf
    repeat' (first | exact True.intro | rfl | refine And.intro ?_ ?_ | omega)
    all_goals (conv => whnf)
    all_goals (try (first | rfl | omega | (simp [mulSz]; done)))
  conv => whnf
  refine ⟨_, [6, 1], sOwn t2 (0 + m + t2.length) cb, ?_⟩
  conv => whnf
  refine ⟨?_, ?_, ?_⟩
  · conv => whnf
    repeat' (first | exact True.intro | rfl | refine And.intro ?_ ?_ | omega)
    all_goals (conv => whnf)
    all_goals (try (first | rfl | omega | (simp [mulSz]; done)))
  · conv => whnf
    repeat' (first | exact True.intro | rfl | refine And.intro ?_ ?_ | omega)
    all_goals (conv => whnf)
    all_goals (try (first | rfl | omega | (simp [mulSz]; done)))
  conv => whnf
  refine ⟨⟨[0, 1, 2, 4, 7], ((t1, 0, xs ++ y1) : List Bool × Nat × List Bool), ?_, Nat.zero_le _, by simp⟩, ?_⟩
  · conv => whnf
    repeat' (first | exact True.intro | rfl | refine And.intro ?_ ?_ | omega)
    all_goals (conv => whnf)
    all_goals (try (first | rfl | omega | (simp [mulSz]; done)))
  · rintro ⟨t1, k, Z⟩ ⟨hk, hZ⟩
    have hk : k ≤ xs.length := hk
    have hZ : xs.length ≤ Z.length := hZ
    conv => whnf
    refine tst_in (fun hlt => ?_) (fun hge => ?_)
    · skip
      have hlt : k < xs.length := by simp at hlt; omega
      conv => whnf
      refine ⟨by repeat' (first | omega | (simp only [i64max]; omega) | refine And.intro ?_ ?_), ?_⟩
      conv => whnf
      refine ⟨by repeat' (first | omega | (simp only [i64max]; omega) | refine And.intro ?_ ?_), ?_⟩
      conv => whnf
      refine ⟨by repeat' (first | omega | (simp only [i64max]; omega) | refine And.intro ?_ ?_), ?_⟩
      conv => whnf
      refine ⟨by repeat' (first | omega | (simp only [i64max]; omega) | refine And.intro ?_ ?_), ?_⟩
      conv => whnf
      refine ⟨by repeat' (first | omega | (simp only [i64max]; omega) | refine And.intro ?_ ?_), ?_⟩
      conv => whnf
      refine ⟨[0, 1, 2, 3, 4], ((t1, k + 1, Z.set (0 + ((k : Int)).toNat) (!(Z.getD (0 + ((k : Int)).toNat) false))) : List Bool × Nat × List Bool), ?_, ⟨hlt, by show xs.length ≤ (Z.set _ _).length; rw [List.length_set]; exact hZ⟩, ?_⟩
      · conv => whnf
        repeat' (first | exact True.intro | rfl | refine And.intro ?_ ?_ | omega)
        all_goals (conv => whnf)
        all_goals (try (first | rfl | omega | (simp [mulSz]; done)))
      · show xs.length - (k + 1) < xs.length - k
        omega
    · conv => whnf
      refine ⟨_, [3, 0], sIn t1 (0 + n + t1.length) ca, ?_⟩
      conv => whnf
      refine ⟨?_, ?_, ?_⟩
      · conv => whnf
        repeat' (first | exact True.intro | rfl | refine And.intro ?_ ?_ | omega)
        all_goals (conv => whnf)
        all_goals (try (first | rfl | omega | (simp [mulSz]; done)))
      · conv => whnf
        repeat' (first | exact True.intro | rfl | refine And.intro ?_ ?_ | omega)
        all_goals (conv => whnf)
        all_goals (try (first | rfl | omega | (simp [mulSz]; done)))
      conv => whnf
      refine .inl ⟨(), [0, 1, 2], ?_⟩
      conv => whnf
      repeat' (first | exact True.intro | rfl | refine And.intro ?_ ?_ | omega)
set_option maxRecDepth 100000 in
theorem law_RRZ (A B L : List Bool) (N : Int) (n m ln ca cb cl : Nat) (hn : n ≤ A.length) (hm : m ≤ B.length) (hnN : n ≤ 140737488355328) (hmN : m ≤ 140737488355328) (e g : Int) (xs : List Bool) (F M : List Int) (hx : xs.length ≤ 140737488355328) (hF : F.length ≤ 140737488355328) (hMl : M.length ≤ 140737488355328)
    (h5 : ∀ t1 t2 : List Bool, Fits Try.prog 5 ⟨[.slice 0 0 n (0 + n + t1.length), .slice 1 0 m (0 + m + t2.length)], [.seg false (.bools (A.take n ++ t1)), .seg false (.bools (B.take m ++ t2))], [rowOut 2 [.dead, .dead] xs fun s => .tup [s, .int .i64 0]]⟩)
    (h6 : Fits Try.prog 6 ⟨[.slice 0 0 n ca, .slice 1 0 m cb], [.seg false (.bools A), .seg false (.bools B)], [rowOut 2 [.dead, .dead] xs fun s => .tup [s, .int .i64 0]]⟩)
    (h7 : ∀ t2 : List Bool, Fits Try.prog 7 ⟨[.slice 0 0 ln cl, .slice 1 0 m (0 + m + t2.length), .int .i64 N], [.seg false (.bools L), .seg false (.bools (B.take m ++ t2))], [rowX 2 [.dead, .dead] F fun s => .tup [s, .int .i64 0]]⟩)
    (h8 : Fits Try.prog 8 ⟨[.slice 0 0 ln cl, .slice 1 0 m cb, .int .i64 N], [.seg false (.bools L), .seg false (.bools B)], [rowI 2 [.dead, .dead] F fun s => .tup [s, .int .i64 0]]⟩)
    (h11 : ∀ t1 : List Bool, Fits Try.prog 11 ⟨[.slice 0 0 n (0 + n + t1.length)], [.seg false (.bools (A.take n ++ t1))], [rowX 1 [.dead] M fun s => s]⟩)
    (hM : M = []) (h12 : Fits Try.prog 12 ⟨[.slice 0 0 n ca], [.seg false (.bools A)], [nilOut [.dead] .nils]⟩) :
    Fits Try.prog 3 (thinsSpec A B L N n m ln ca cb cl) := by
  subst hM
  refine fits_of_body (C := cfgk 3) (c := c3) (ts := [8]) tok mixed (fun | 10 => some (inv10R A B L n ca xs.length) | _ => none) (fun _ => none)
    Try.func3 (by kernel_rfl) (by kernel_rfl) (by kernel_rfl) (by kernel_rfl) rfl ?_
  have sIn : ∀ (t1 : List Bool) (c1 c2 : Nat), QFits Try.prog 9 ⟨[.slice 0 0 n c1, .slice 1 0 n c2], [.seg false (.bools (A.take n ++ t1)), .seg false (.bools A)], .bool true⟩ := fun t1 c1 c2 => same_q _ _ n c1 c2 (by simp; omega) hn (fun i hi => getD_take A t1 i n hi hn) (by omega)
  have sOwn : ∀ (t2 : List Bool) (c1 c2 : Nat), QFits Try.prog 9 ⟨[.slice 0 0 m c1, .slice 1 0 m c2], [.seg false (.bools (B.take m ++ t2)), .seg false (.bools B)], .bool true⟩ := fun t2 c1 c2 => same_q _ _ m c1 c2 (by simp; omega) hm (fun i hi => getD_take B t2 i m hi hm) (by omega)
  conv => whnf
  repeat (refine And.intro ?_ ?_; (focus (first | omega | ((conv => whnf); omega) | (simp [mulSz, Cont.len]; done) | (simp [mulSz, Cont.len]; omega))); conv => whnf)
  intro (t1 : List Bool)
  conv => whnf
  repeat (refine And.intro ?_ ?_; (focus (first | omega | ((conv => whnf); omega) | (simp [mulSz, Cont.len]; done) | (simp [mulSz, Cont.len]; omega))); conv => whnf)
  intro (t2 : List Bool)
  conv => whnf
  repeat (refine And.intro ?_ ?_; (focus (first | omega | ((conv => whnf); omega) | (simp [mulSz, Cont.len]; done) | (simp [mulSz, Cont.len]; omega))); conv => whnf)
  refine ⟨_, [4, 6], h5 t1 t2, ?_⟩
  conv => whnf
  refine ⟨?_, ?_, ?_⟩
  · conv => whnf
    repeat' (first | exact True.intro | rfl | refine And.intro ?_ ?_ | omega)
    all_goals (conv => whnf)
    all_goals (try (first | rfl | omega | (simp [mulSz]; done)))
  · conv => whnf
    repeat' (first | exact True.intro | rfl | refine And.intro ?_ ?_ | omega)
    all_goals (conv => whnf)
    all_goals (try (first | rfl | omega | (simp [mulSz]; done)))
  conv => whnf
  refine ⟨?_, True.intro⟩
  intro (y1 : List Bool) _
  conv => whnf
  refine ⟨_, [0, 1], h6, ?_⟩
  conv => whnf
  refine ⟨?_, ?_, ?_⟩
  · conv => whnf
    repeat' (first | exact True.intro | rfl | refine And.intro ?_ ?_ | omega)
    all_goals (conv => whnf)
    all_goals (try (first | rfl | omega | (simp [mulSz]; done)))
  · conv => whnf
    repeat' (first | exact True.intro | rfl | refine And.intro ?_ ?_ | omega)
    all_goals (conv => whnf)
    all_goals (try (first | rfl | omega | (simp [mulSz]; done)))
  conv => whnf
  refine ⟨?_, True.intro⟩
  intro (y2 : List Bool) _
  conv => whnf
  refine ⟨_, [2, 6], h7 t2, ?_⟩
  conv => whnf
  refine ⟨?_, ?_, ?_⟩
  · conv => whnf
    repeat' (first | exact True.intro | rfl | refine And.intro ?_ ?_ | omega)
    all_goals (conv => whnf)
    all_goals (try (first | rfl | omega | (simp [mulSz]; done)))
  · conv => whnf
    repeat' (first | exact True.intro | rfl | refine And.intro ?_ ?_ | omega)
    all_goals (conv => whnf)
    all_goals (try (first | rfl | omega | (simp [mulSz]; done)))
  conv => whnf
  refine ⟨?_, True.intro⟩
  intro _ _
  conv => whnf
  refine ⟨_, [2, 1], h8, ?_⟩
  conv => whnf
  refine ⟨?_, ?_, ?_⟩
  · conv => whnf
    repeat' (first | exact True.intro | rfl | refine And.intro ?_ ?_ | omega)
    all_goals (conv => whnf)
    all_goals (try (first | rfl | omega | (simp [mulSz]; done)))
  · conv => whnf
    repeat' (first | exact True.intro | rfl | refine And.intro ?_ ?_ | omega)
    all_goals (conv => whnf)
    all_goals (try (first | rfl | omega | (simp [mulSz]; done)))
  conv => whnf
  refine ⟨?_, True.intro⟩
  intro (y3 : List Int) _
  conv => whnf
  refine ⟨_, [7, 8], same_q (xs ++ y1) (xs ++ y2) xs.length (xs.length + y1.length) (xs.length + y2.length) (by simp) (by simp) (fun i hi => by rw [getD_app _ _ _ hi, getD_app _ _ _ hi]) (by omega), ?_⟩
  conv => whnf
  refine ⟨?_, ?_, ?_⟩
  · conv => whnf
    repeat' (first | exact True.intro | rfl | refine And.intro ?_ ?_ | omega)
    all_goals (conv => whnf)
    all_goals (try (first | rfl | omega | (simp [mulSz]; done)))
  · conv => whnf
    repeat' (first | exact True.intro | rfl | refine And.intro ?_ ?_ | omega)
    all_goals (conv => whnf)
    all_goals (try (first | rfl | omega | (simp [mulSz]; done)))
  conv => whnf
  refine ⟨_, [9, 10], marks_q F (F ++ y3) F.length F.length (F.length + y3.length) (by simp) (by simp) (fun i hi => by rw [getI_app _ _ _ hi]) (by omega), ?_⟩
  conv => whnf
  refine ⟨?_, ?_, ?_⟩
  · conv => whnf
    repeat' (first | exact True.intro | rfl | refine And.intro ?_ ?_ | omega)
    all_goals (conv => whnf)
    all_goals (try (first | rfl | omega | (simp [mulSz]; done)))
  · conv => whnf
    repeat' (first | exact True.intro | rfl | refine And.intro ?_ ?_ | omega)
    all_goals (conv => whnf)
    all_goals (try (first | rfl | omega | (simp [mulSz]; done)))
  conv => whnf
  refine ⟨_, [4], h11 t1, ?_⟩
  conv => whnf
  refine ⟨?_, ?_, ?_⟩
  · conv => whnf
    repeat' (first | exact True.intro | rfl | refine And.intro ?_ ?_ | omega)
    all_goals (conv => whnf)
    all_goals (try (first | rfl | omega | (simp [mulSz]; done)))
  · conv => whnf
    repeat' (first | exact True.intro | rfl | refine And.intro ?_ ?_ | omega)
    all_goals (conv => whnf)
    all_goals (try (first | rfl | omega | (simp [mulSz]; done)))
  conv => whnf
  refine ⟨?_, True.intro⟩
  intro _ _
  conv => whnf
  refine ⟨_, [0], h12, ?_⟩
  conv => whnf
  refine ⟨?_, ?_, ?_⟩
  · conv => whnf
    repeat' (first | exact True.intro | rfl | refine And.intro ?_ ?_ | omega)
    all_goals (conv => whnf)
    all_goals (try (first | rfl | omega | (simp [mulSz]; done)))
  · conv => whnf
    repeat' (first | exact True.intro | rfl | refine And.intro ?_ ?_ | omega)
    all_goals (conv => whnf)
    all_goals (try (first | rfl | omega | (simp [mulSz]; done)))
  conv => whnf
  refine ⟨?_, True.intro⟩
  intro _ _
  conv => whnf
  refine ⟨_, [11], marks_0n [] 0, ?_⟩
  conv => whnf
  refine ⟨?_, ?_, ?_⟩
  · conv => whnf
    repeat' (first | exact True.intro | rfl | refine And.intro ?_ ?_ | omega)
    all_goals (conv => whnf)
    all_goals (try (first | rfl | omega | (simp [mulSz]; done)))
  · conv => whnf
    repeat' (first | exact True.intro | rfl | refine And.intro ?_ ?_ | omega)
    all_goals (conv => whnf)
    all_goals (try (first | rfl | omega | (simp [mulSz]; done)))
  conv => whnf
  refine ⟨_, [6, 1], sOwn t2 (0 + m + t2.length) cb, ?_⟩
  conv => whnf
  refine ⟨?_, ?_, ?_⟩
  · conv => whnf
    repeat' (first | exact True.intro | rfl | refine And.intro ?_ ?_ | omega)
    all_goals (conv => whnf)
    all_goals (try (first | rfl | omega | (simp [mulSz]; done)))
  · conv => whnf
    repeat' (first | exact True.intro | rfl | refine And.intro ?_ ?_ | omega)
    all_goals (conv => whnf)
    all_goals (try (first | rfl | omega | (simp [mulSz]; done)))
  conv => whnf
  refine ⟨⟨[0, 1, 2, 4, 7], ((t1, 0, xs ++ y1) : List Bool × Nat × List Bool), ?_, Nat.zero_le _, by simp⟩, ?_⟩
  · conv => whnf
    repeat' (first | exact True.intro | rfl | refine And.intro ?_ ?_ | omega)
    all_goals (conv => whnf)
    all_goals (try (first | rfl | omega | (simp [mulSz]; done)))
  · rintro ⟨t1, k, Z⟩ ⟨hk, hZ⟩
    have hk : k ≤ xs.length := hk
    have hZ : xs.length ≤ Z.length := hZ
    conv => whnf
    refine tst_in (fun hlt => ?_) (fun hge => ?_)
    · skip
      have hlt : k < xs.length := by simp at hlt; omega
      conv => whnf
      refine ⟨by repeat' (first | omega | (simp only [i64max]; omega) | refine And.intro ?_ ?_), ?_⟩
      conv => whnf
      refine ⟨by repeat' (first | omega | (simp only [i64max]; omega) | refine And.intro ?_ ?_), ?_⟩
      conv => whnf
      refine ⟨by repeat' (first | omega | (simp only [i64max]; omega) | refine And.intro ?_ ?_), ?_⟩
      conv => whnf
      refine ⟨by repeat' (first | omega | (simp only [i64max]; omega) | refine And.intro ?_ ?_), ?_⟩
      conv => whnf
      refine ⟨by repeat' (first | omega | (simp only [i64max]; omega) | refine And.intro ?_ ?_), ?_⟩
      conv => whnf
      refine ⟨[0, 1, 2, 3, 4], ((t1, k + 1, Z.set (0 + ((k : Int)).toNat) (!(Z.getD (0 + ((k : Int)).toNat) false))) : List Bool × Nat × List Bool), ?_, ⟨hlt, by show xs.length ≤ (Z.set _ _).length; rw [List.length_set]; exact hZ⟩, ?_⟩
      · conv => whnf
        repeat' (first | exact True.intro | rfl | refine And.intro ?_ ?_ | omega)
        all_goals (conv => whnf)
        all_goals (try (first | rfl | omega | (simp [mulSz]; done)))
      · show xs.length - (k + 1) < xs.length - k
        omega
    · conv => whnf
      refine ⟨_, [3, 0], sIn t1 (0 + n + t1.length) ca, ?_⟩
      conv => whnf
      refine ⟨?_, ?_, ?_⟩
      · conv => whnf
        repeat' (first | exact True.intro | rfl | refine And.intro ?_ ?_ | omega)
        all_goals (conv => whnf)
        all_goals (try (first | rfl | omega | (simp [mulSz]; done)))
      · conv => whnf
        repeat' (first | exact True.intro | rfl | refine And.intro ?_ ?_ | omega)
        all_goals (conv => whnf)
        all_goals (try (first | rfl | omega | (simp [mulSz]; done)))
      conv => whnf
      refine .inl ⟨(), [0, 1, 2], ?_⟩
      conv => whnf
      repeat' (first | exact True.intro | rfl | refine And.intro ?_ ?_ | omega)
set_option maxRecDepth 100000 in
theorem law_RZR (A B L : List Bool) (N : Int) (n m ln ca cb cl : Nat) (hn : n ≤ A.length) (hm : m ≤ B.length) (hnN : n ≤ 140737488355328) (hmN : m ≤ 140737488355328) (e g : Int) (xs : List Bool) (F M : List Int) (hx : xs.length ≤ 140737488355328) (hF : F.length ≤ 140737488355328) (hMl : M.length ≤ 140737488355328)
    (h5 : ∀ t1 t2 : List Bool, Fits Try.prog 5 ⟨[.slice 0 0 n (0 + n + t1.length), .slice 1 0 m (0 + m + t2.length)], [.seg false (.bools (A.take n ++ t1)), .seg false (.bools (B.take m ++ t2))], [rowOut 2 [.dead, .dead] xs fun s => .tup [s, .int .i64 0]]⟩)
    (h6 : Fits Try.prog 6 ⟨[.slice 0 0 n ca, .slice 1 0 m cb], [.seg false (.bools A), .seg false (.bools B)], [rowOut 2 [.dead, .dead] xs fun s => .tup [s, .int .i64 0]]⟩)
    (h7 : ∀ t2 : List Bool, Fits Try.prog 7 ⟨[.slice 0 0 ln cl, .slice 1 0 m (0 + m + t2.length), .int .i64 N], [.seg false (.bools L), .seg false (.bools (B.take m ++ t2))], [rowX 2 [.dead, .dead] [] fun s => .tup [s, .int .i64 0]]⟩)
    (h8 : Fits Try.prog 8 ⟨[.slice 0 0 ln cl, .slice 1 0 m cb, .int .i64 N], [.seg false (.bools L), .seg false (.bools B)], [nilOut [.dead, .dead] (.tup [.nils, .int .i64 0])]⟩)
    (h11 : ∀ t1 : List Bool, Fits Try.prog 11 ⟨[.slice 0 0 n (0 + n + t1.length)], [.seg false (.bools (A.take n ++ t1))], [rowX 1 [.dead] M fun s => s]⟩)
    (h12 : Fits Try.prog 12 ⟨[.slice 0 0 n ca], [.seg false (.bools A)], [rowI 1 [.dead] M fun s => s]⟩) :
    Fits Try.prog 3 (thinsSpec A B L N n m ln ca cb cl) := by
  refine fits_of_body (C := cfgk 3) (c := c3) (ts := [8]) tok mixed (fun | 10 => some (inv10R A B L n ca xs.length) | _ => none) (fun _ => none)
    Try.func3 (by kernel_rfl) (by kernel_rfl) (by kernel_rfl) (by kernel_rfl) rfl ?_
  have sIn : ∀ (t1 : List Bool) (c1 c2 : Nat), QFits Try.prog 9 ⟨[.slice 0 0 n c1, .slice 1 0 n c2], [.seg false (.bools (A.take n ++ t1)), .seg false (.bools A)], .bool true⟩ := fun t1 c1 c2 => same_q _ _ n c1 c2 (by simp; omega) hn (fun i hi => getD_take A t1 i n hi hn) (by omega)
  have sOwn : ∀ (t2 : List Bool) (c1 c2 : Nat), QFits Try.prog 9 ⟨[.slice 0 0 m c1, .slice 1 0 m c2], [.seg false (.bools (B.take m ++ t2)), .seg false (.bools B)], .bool true⟩ := fun t2 c1 c2 => same_q _ _ m c1 c2 (by simp; omega) hm (fun i hi => getD_take B t2 i m hi hm) (by omega)
  conv => whnf
  repeat (refine And.intro ?_ ?_; (focus (first | omega | ((conv => whnf); omega) | (simp [mulSz, Cont.len]; done) | (simp [mulSz, Cont.len]; omega))); conv => whnf)
  intro (t1 : List Bool)
  conv => whnf
  repeat (refine And.intro ?_ ?_; (focus (first | omega | ((conv => whnf); omega) | (simp [mulSz, Cont.len]; done) | (simp [mulSz, Cont.len]; omega))); conv => whnf)
  intro (t2 : List Bool)
  conv => whnf
  repeat (refine And.intro ?_ ?_; (focus (first | omega | ((conv => whnf); omega) | (simp [mulSz, Cont.len]; done) | (simp [mulSz, Cont.len]; omega))); conv => whnf)
  refine ⟨_, [4, 6], h5 t1 t2, ?_⟩
  conv => whnf
  refine ⟨?_, ?_, ?_⟩
  · conv => whnf
    repeat' (first | exact True.intro | rfl | refine And.intro ?_ ?_ | omega)
    all_goals (conv => whnf)
    all_goals (try (first | rfl | omega | (simp [mulSz]; done)))
  · conv => whnf
    repeat' (first | exact True.intro | rfl | refine And.intro ?_ ?_ | omega)
    all_goals (conv => whnf)
    all_goals (try (first | rfl | omega | (simp [mulSz]; done)))
  conv => whnf
  refine ⟨?_, True.intro⟩
  intro (y1 : List Bool) _
  conv => whnf
  refine ⟨_, [0, 1], h6, ?_⟩
  conv => whnf
  refine ⟨?_, ?_, ?_⟩
  · conv => whnf
    repeat' (first | exact True.intro | rfl | refine And.intro ?_ ?_ | omega)
    all_goals (conv => whnf)
    all_goals (try (first | rfl | omega | (simp [mulSz]; done)))
  · conv => whnf
    repeat' (first | exact True.intro | rfl | refine And.intro ?_ ?_ | omega)
    all_goals (conv => whnf)
    all_goals (try (first | rfl | omega | (simp [mulSz]; done)))
  conv => whnf
  refine ⟨?_, True.intro⟩
  intro (y2 : List Bool) _
  conv => whnf
  refine ⟨_, [2, 6], h7 t2, ?_⟩
  conv => whnf
  refine ⟨?_, ?_, ?_⟩
  · conv => whnf
    repeat' (first | exact True.intro | rfl | refine And.intro ?_ ?_ | omega)
    all_goals (conv => whnf)
    all_goals (try (first | rfl | omega | (simp [mulSz]; done)))
  · conv => whnf
    repeat' (first | exact True.intro | rfl | refine And.intro ?_ ?_ | omega)
    all_goals (conv => whnf)
    all_goals (try (first | rfl | omega | (simp [mulSz]; done)))
  conv => whnf
  refine ⟨?_, True.intro⟩
  intro _ _
  conv => whnf
  refine ⟨_, [2, 1], h8, ?_⟩
  conv => whnf
  refine ⟨?_, ?_, ?_⟩
  · conv => whnf
    repeat' (first | exact True.intro | rfl | refine And.intro ?_ ?_ | omega)
    all_goals (conv => whnf)
    all_goals (try (first | rfl | omega | (simp [mulSz]; done)))
  · conv => whnf
    repeat' (first | exact True.intro | rfl | refine And.intro ?_ ?_ | omega)
    all_goals (conv => whnf)
    all_goals (try (first | rfl | omega | (simp [mulSz]; done)))
  conv => whnf
  refine ⟨?_, True.intro⟩
  intro _ _
  conv => whnf
  refine ⟨_, [7, 8], same_q (xs ++ y1) (xs ++ y2) xs.length (xs.length + y1.length) (xs.length + y2.length) (by simp) (by simp) (fun i hi => by rw [getD_app _ _ _ hi, getD_app _ _ _ hi]) (by omega), ?_⟩
  conv => whnf
  refine ⟨?_, ?_, ?_⟩
  · conv => whnf
    repeat' (first | exact True.intro | rfl | refine And.intro ?_ ?_ | omega)
    all_goals (conv => whnf)
    all_goals (try (first | rfl | omega | (simp [mulSz]; done)))
  · conv => whnf
    repeat' (first | exact True.intro | rfl | refine And.intro ?_ ?_ | omega)
    all_goals (conv => whnf)
    all_goals (try (first | rfl | omega | (simp [mulSz]; done)))
  conv => whnf
  refine ⟨_, [9], marks_0n [] 0, ?_⟩
  conv => whnf
  refine ⟨?_, ?_, ?_⟩
  · conv => whnf
    repeat' (first | exact True.intro | rfl | refine And.intro ?_ ?_ | omega)
    all_goals (conv => whnf)
    all_goals (try (first | rfl | omega | (simp [mulSz]; done)))
  · conv => whnf
    repeat' (first | exact True.intro | rfl | refine And.intro ?_ ?_ | omega)
    all_goals (conv => whnf)
    all_goals (try (first | rfl | omega | (simp [mulSz]; done)))
  conv => whnf
  refine ⟨_, [4], h11 t1, ?_⟩
  conv => whnf
  refine ⟨?_, ?_, ?_⟩
  · conv => whnf
    repeat' (first | exact True.intro | rfl | refine And.intro ?_ ?_ | omega)
    all_goals (conv => whnf)
    all_goals (try (first | rfl | omega | (simp [mulSz]; done)))
  · conv => whnf
    repeat' (first | exact True.intro | rfl | refine And.intro ?_ ?_ | omega)
    all_goals (conv => whnf)
    all_goals (try (first | rfl | omega | (simp [mulSz]; done)))
  conv => whnf
  refine ⟨?_, True.intro⟩
  intro _ _
  conv => whnf
  refine ⟨_, [0], h12, ?_⟩
  conv => whnf
  refine ⟨?_, ?_, ?_⟩
  · conv => whnf
    repeat' (first | exact True.intro | rfl | refine And.intro ?_ ?_ | omega)
    all_goals (conv => whnf)
    all_goals (try (first | rfl | omega | (simp [mulSz]; done)))
  · conv => whnf
    repeat' (first | exact True.intro | rfl | refine And.intro ?_ ?_ | omega)
    all_goals (conv => whnf)
    all_goals (try (first | rfl | omega | (simp [mulSz]; done)))
  conv => whnf
  refine ⟨?_, True.intro⟩
  intro (y4 : List Int) _
  conv => whnf
  refine ⟨_, [10, 11], marks_q M (M ++ y4) M.length M.length (M.length + y4.length) (by simp) (by simp) (fun i hi => by rw [getI_app _ _ _ hi]) (by omega), ?_⟩
  conv => whnf
  refine ⟨?_, ?_, ?_⟩
  · conv => whnf
    repeat' (first | exact True.intro | rfl | refine And.intro ?_ ?_ | omega)
    all_goals (conv => whnf)
    all_goals (try (first | rfl | omega | (simp [mulSz]; done)))
  · conv => whnf
    repeat' (first | exact True.intro | rfl | refine And.intro ?_ ?_ | omega)
    all_goals (conv => whnf)
    all_goals (try (first | rfl | omega | (simp [mulSz]; done)))
  conv => whnf
  refine ⟨_, [6, 1], sOwn t2 (0 + m + t2.length) cb, ?_⟩
  conv => whnf
  refine ⟨?_, ?_, ?_⟩
  · conv => whnf
    repeat' (first | exact True.intro | rfl | refine And.intro ?_ ?_ | omega)
    all_goals (conv => whnf)
    all_goals (try (first | rfl | omega | (simp [mulSz]; done)))
  · conv => whnf
    repeat' (first | exact True.intro | rfl | refine And.intro ?_ ?_ | omega)
    all_goals (conv => whnf)
    all_goals (try (first | rfl | omega | (simp [mulSz]; done)))
  conv => whnf
  refine ⟨⟨[0, 1, 2, 4, 7], ((t1, 0, xs ++ y1) : List Bool × Nat × List Bool), ?_, Nat.zero_le _, by simp⟩, ?_⟩
  · conv => whnf
    repeat' (first | exact True.intro | rfl | refine And.intro ?_ ?_ | omega)
    all_goals (conv => whnf)
    all_goals (try (first | rfl | omega | (simp [mulSz]; done)))
  · rintro ⟨t1, k, Z⟩ ⟨hk, hZ⟩
    have hk : k ≤ xs.length := hk
    have hZ : xs.length ≤ Z.length := hZ
    conv => whnf
    refine tst_in (fun hlt => ?_) (fun hge => ?_)
    · skip
      have hlt : k < xs.length := by simp at hlt; omega
      conv => whnf
      refine ⟨by repeat' (first | omega | (simp only [i64max]; omega) | refine And.intro ?_ ?_), ?_⟩
      conv => whnf
      refine ⟨by repeat' (first | omega | (simp only [i64max]; omega) | refine And.intro ?_ ?_), ?_⟩
      conv => whnf
      refine ⟨by repeat' (first | omega | (simp only [i64max]; omega) | refine And.intro ?_ ?_), ?_⟩
      conv => whnf
      refine ⟨by repeat' (first | omega | (simp only [i64max]; omega) | refine And.intro ?_ ?_), ?_⟩
      conv => whnf
      refine ⟨by repeat' (first | omega | (simp only [i64max]; omega) | refine And.intro ?_ ?_), ?_⟩
      conv => whnf
      refine ⟨[0, 1, 2, 3, 4], ((t1, k + 1, Z.set (0 + ((k : Int)).toNat) (!(Z.getD (0 + ((k : Int)).toNat) false))) : List Bool × Nat × List Bool), ?_, ⟨hlt, by show xs.length ≤ (Z.set _ _).length; rw [List.length_set]; exact hZ⟩, ?_⟩
      · conv => whnf
        repeat' (first | exact True.intro | rfl | refine And.intro ?_ ?_ | omega)
        all_goals (conv => whnf)
        all_goals (try (first | rfl | omega | (simp [mulSz]; done)))
      · show xs.length - (k + 1) < xs.length - k
        omega
    · conv => whnf
      refine ⟨_, [3, 0], sIn t1 (0 + n + t1.length) ca, ?_⟩
      conv => whnf
      refine ⟨?_, ?_, ?_⟩
      · conv => whnf
        repeat' (first | exact True.intro | rfl | refine And.intro ?_ ?_ | omega)
        all_goals (conv => whnf)
        all_goals (try (first | rfl | omega | (simp [mulSz]; done)))
      · conv => whnf
        repeat' (first | exact True.intro | rfl | refine And.intro ?_ ?_ | omega)
        all_goals (conv => whnf)
        all_goals (try (first | rfl | omega | (simp [mulSz]; done)))
      conv => whnf
      refine .inl ⟨(), [0, 1, 2], ?_⟩
      conv => whnf
      repeat' (first | exact True.intro | rfl | refine And.intro ?_ ?_ | omega)
set_option maxRecDepth 100000 in
theorem law_RZZ (A B L : List Bool) (N : Int) (n m ln ca cb cl : Nat) (hn : n ≤ A.length) (hm : m ≤ B.length) (hnN : n ≤ 140737488355328) (hmN : m ≤ 140737488355328) (e g : Int) (xs : List Bool) (F M : List Int) (hx : xs.length ≤ 140737488355328) (hF : F.length ≤ 140737488355328) (hMl : M.length ≤ 140737488355328)
    (h5 : ∀ t1 t2 : List Bool, Fits Try.prog 5 ⟨[.slice 0 0 n (0 + n + t1.length), .slice 1 0 m (0 + m + t2.length)], [.seg false (.bools (A.take n ++ t1)), .seg false (.bools (B.take m ++ t2))], [rowOut 2 [.dead, .dead] xs fun s => .tup [s, .int .i64 0]]⟩)
    (h6 : Fits Try.prog 6 ⟨[.slice 0 0 n ca, .slice 1 0 m cb], [.seg false (.bools A), .seg false (.bools B)], [rowOut 2 [.dead, .dead] xs fun s => .tup [s, .int .i64 0]]⟩)
    (h7 : ∀ t2 : List Bool, Fits Try.prog 7 ⟨[.slice 0 0 ln cl, .slice 1 0 m (0 + m + t2.length), .int .i64 N], [.seg false (.bools L), .seg false (.bools (B.take m ++ t2))], [rowX 2 [.dead, .dead] [] fun s => .tup [s, .int .i64 0]]⟩)
    (h8 : Fits Try.prog 8 ⟨[.slice 0 0 ln cl, .slice 1 0 m cb, .int .i64 N], [.seg false (.bools L), .seg false (.bools B)], [nilOut [.dead, .dead] (.tup [.nils, .int .i64 0])]⟩)
    (h11 : ∀ t1 : List Bool, Fits Try.prog 11 ⟨[.slice 0 0 n (0 + n + t1.length)], [.seg false (.bools (A.take n ++ t1))], [rowX 1 [.dead] M fun s => s]⟩)
    (hM : M = []) (h12 : Fits Try.prog 12 ⟨[.slice 0 0 n ca], [.seg false (.bools A)], [nilOut [.dead] .nils]⟩) :
    Fits Try.prog 3 (thinsSpec A B L N n m ln ca cb cl) := by
  subst hM
  refine fits_of_body (C := cfgk 3) (c := c3) (ts := [8]) tok mixed (fun | 10 => some (inv10R A B L n ca xs.length) | _ => none) (fun _ => none)
    Try.func3 (by kernel_rfl) (by kernel_rfl) (by kernel_rfl) (by kernel_rfl) rfl ?_
  have sIn : ∀ (t1 : List Bool) (c1 c2 : Nat), QFits Try.prog 9 ⟨[.slice 0 0 n c1, .slice 1 0 n c2], [.seg false (.bools (A.take n ++ t1)), .seg false (.bools A)], .bool true⟩ := fun t1 c1 c2 => same_q _ _ n c1 c2 (by simp; omega) hn (fun i hi => getD_take A t1 i n hi hn) (by omega)
  have sOwn : ∀ (t2 : List Bool) (c1 c2 : Nat), QFits Try.prog 9 ⟨[.slice 0 0 m c1, .slice 1 0 m c2], [.seg false (.bools (B.take m ++ t2)), .seg false (.bools B)], .bool true⟩ := fun t2 c1 c2 => same_q _ _ m c1 c2 (by simp; omega) hm (fun i hi => getD_take B t2 i m hi hm) (by omega)
  conv => whnf
  repeat (refine And.intro ?_ ?_; (focus (first | omega | ((conv => whnf); omega) | (simp [mulSz, Cont.len]; done) | (simp [mulSz, Cont.len]; omega))); conv => whnf)
  intro (t1 : List Bool)
  conv => whnf
  repeat (refine And.intro ?_ ?_; (focus (first | omega | ((conv => whnf); omega) | (simp [mulSz, Cont.len]; done) | (simp [mulSz, Cont.len]; omega))); conv => whnf)
  intro (t2 : List Bool)
  conv => whnf
  repeat (refine And.intro ?_ ?_; (focus (first | omega | ((conv => whnf); omega) | (simp [mulSz, Cont.len]; done) | (simp [mulSz, Cont.len]; omega))); conv => whnf)
  refine ⟨_, [4, 6], h5 t1 t2, ?_⟩
  conv => whnf
  refine ⟨?_, ?_, ?_⟩
  · conv => whnf
    repeat' (first | exact True.intro | rfl | refine And.intro ?_ ?_ | omega)
    all_goals (conv => whnf)
    all_goals (try (first | rfl | omega | (simp [mulSz]; done)))
  · conv => whnf
    repeat' (first | exact True.intro | rfl | refine And.intro ?_ ?_ | omega)
    all_goals (conv => whnf)
    all_goals (try (first | rfl | omega | (simp [mulSz]; done)))
  conv => whnf
  refine ⟨?_, True.intro⟩
  intro (y1 : List Bool) _
  conv => whnf
  refine ⟨_, [0, 1], h6, ?_⟩
  conv => whnf
  refine ⟨?_, ?_, ?_⟩
  · conv => whnf
    repeat' (first | exact True.intro | rfl | refine And.intro ?_ ?_ | omega)
    all_goals (conv => whnf)
    all_goals (try (first | rfl | omega | (simp [mulSz]; done)))
  · conv => whnf
    repeat' (first | exact True.intro | rfl | refine And.intro ?_ ?_ | omega)
    all_goals (conv => whnf)
    all_goals (try (first | rfl | omega | (simp [mulSz]; done)))
  conv => whnf
  refine ⟨?_, True.intro⟩
  intro (y2 : List Bool) _
  conv => whnf
  refine ⟨_, [2, 6], h7 t2, ?_⟩
  conv => whnf
  refine ⟨?_, ?_, ?_⟩
  · conv => whnf
    repeat' (first | exact True.intro | rfl | refine And.intro ?_ ?_ | omega)
    all_goals (conv => whnf)
    all_goals (try (first | rfl | omega | (simp [mulSz]; done)))
  · conv => whnf
    repeat' (first | exact True.intro | rfl | refine And.intro ?_ ?_ | omega)
    all_goals (conv => whnf)
    all_goals (try (first | rfl | omega | (simp [mulSz]; done)))
  conv => whnf
  refine ⟨?_, True.intro⟩
  intro _ _
  conv => whnf
  refine ⟨_, [2, 1], h8, ?_⟩
  conv => whnf
  refine ⟨?_, ?_, ?_⟩
  · conv => whnf
    repeat' (first | exact True.intro | rfl | refine And.intro ?_ ?_ | omega)
    all_goals (conv => whnf)
    all_goals (try (first | rfl | omega | (simp [mulSz]; done)))
  · conv => whnf
    repeat' (first | exact True.intro | rfl | refine And.intro ?_ ?_ | omega)
    all_goals (conv => whnf)
    all_goals (try (first | rfl | omega | (simp [mulSz]; done)))
  conv => whnf
  refine ⟨?_, True.intro⟩
  intro _ _
  conv => whnf
  refine ⟨_, [7, 8], same_q (xs ++ y1) (xs ++ y2) xs.length (xs.length + y1.length) (xs.length + y2.length) (by simp) (by simp) (fun i hi => by rw [getD_app _ _ _ hi, getD_app _ _ _ hi]) (by omega), ?_⟩
  conv => whnf
  refine ⟨?_, ?_, ?_⟩
  · conv => whnf
    repeat' (first | exact True.intro | rfl | refine And.intro ?_ ?_ | omega)
    all_goals (conv => whnf)
    all_goals (try (first | rfl | omega | (simp [mulSz]; done)))
  · conv => whnf
    repeat' (first | exact True.intro | rfl | refine And.intro ?_ ?_ | omega)
    all_goals (conv => whnf)
    all_goals (try (first | rfl | omega | (simp [mulSz]; done)))
  conv => whnf
  refine ⟨_, [9], marks_0n [] 0, ?_⟩
  conv => whnf
  refine ⟨?_, ?_, ?_⟩
  · conv => whnf
    repeat' (first | exact True.intro | rfl | refine And.intro ?_ ?_ | omega)
    all_goals (conv => whnf)
    all_goals (try (first | rfl | omega | (simp [mulSz]; done)))
  · conv => whnf
    repeat' (first | exact True.intro | rfl | refine And.intro ?_ ?_ | omega)
    all_goals (conv => whnf)
    all_goals (try (first | rfl | omega | (simp [mulSz]; done)))
  conv => whnf
  refine ⟨_, [4], h11 t1, ?_⟩
  conv => whnf
  refine ⟨?_, ?_, ?_⟩
  · conv => whnf
    repeat' (first | exact True.intro | rfl | refine And.intro ?_ ?_ | omega)
    all_goals (conv => whnf)
    all_goals (try (first | rfl | omega | (simp [mulSz]; done)))
  · conv => whnf
    repeat' (first | exact True.intro | rfl | refine And.intro ?_ ?_ | omega)
    all_goals (conv => whnf)
    all_goals (try (first | rfl | omega | (simp [mulSz]; done)))
  conv => whnf
  refine ⟨?_, True.intro⟩
  intro _ _
  conv => whnf
  refine ⟨_, [0], h12, ?_⟩
  conv => whnf
  refine ⟨?_, ?_, ?_⟩
  · conv => whnf
    repeat' (first | exact True.intro | rfl | refine And.intro ?_ ?_ | omega)
    all_goals (conv => whnf)
    all_goals (try (first | rfl | omega | (simp [mulSz]; done)))
  · conv => whnf
    repeat' (first | exact True.intro | rfl | refine And.intro ?_ ?_ | omega)
    all_goals (conv => whnf)
    all_goals (try (first | rfl | omega | (simp [mulSz]; done)))
  conv => whnf
  refine ⟨?_, True.intro⟩
  intro _ _
  conv => whnf
  refine ⟨_, [10], marks_0n [] 0, ?_⟩
  conv => whnf
  refine ⟨?_, ?_, ?_⟩
  · conv => whnf
    repeat' (first | exact True.intro | rfl | refine And.intro ?_ ?_ | omega)
    all_goals (conv => whnf)
    all_goals (try (first | rfl | omega | (simp [mulSz]; done)))
  · conv => whnf
    repeat' (first | exact True.intro | rfl | refine And.intro ?_ ?_ | omega)
    all_goals (conv => whnf)
    all_goals (try (first | rfl | omega | (simp [mulSz]; done)))
  conv => whnf
  refine ⟨_, [6, 1], sOwn t2 (0 + m + t2.length) cb, ?_⟩
  conv => whnf
  refine ⟨?_, ?_, ?_⟩
  · conv => whnf
    repeat' (first | exact True.intro | rfl | refine And.intro ?_ ?_ | omega)
    all_goals (conv => whnf)
    all_goals (try (first | rfl | omega | (simp [mulSz]; done)))
  · conv => whnf
    repeat' (first | exact True.intro | rfl | refine And.intro ?_ ?_ | omega)
    all_goals (conv => whnf)
    all_goals (try (first | rfl | omega | (simp [mulSz]; done)))
  conv => whnf
  refine ⟨⟨[0, 1, 2, 4, 7], ((t1, 0, xs ++ y1) : List Bool × Nat × List Bool), ?_, Nat.zero_le _, by simp⟩, ?_⟩
  · conv => whnf
    repeat' (first | exact True.intro | rfl | refine And.intro ?_ ?_ | omega)
    all_goals (conv => whnf)
    all_goals (try (first | rfl | omega | (simp [mulSz]; done)))
  · rintro ⟨t1, k, Z⟩ ⟨hk, hZ⟩
    have hk : k ≤ xs.length := hk
    have hZ : xs.length ≤ Z.length := hZ
    conv => whnf
    refine tst_in (fun hlt => ?_) (fun hge => ?_)
    · skip
      have hlt : k < xs.length := by simp at hlt; omega
      conv => whnf
      refine ⟨by repeat' (first | omega | (simp only [i64max]; omega) | refine And.intro ?_ ?_), ?_⟩
      conv => whnf
      refine ⟨by repeat' (first | omega | (simp only [i64max]; omega) | refine And.intro ?_ ?_), ?_⟩
      conv => whnf
      refine ⟨by repeat' (first | omega | (simp only [i64max]; omega) | refine And.intro ?_ ?_), ?_⟩
      conv => whnf
      refine ⟨by repeat' (first | omega | (simp only [i64max]; omega) | refine And.intro ?_ ?_), ?_⟩
      conv => whnf
      refine ⟨by repeat' (first | omega | (simp only [i64max]; omega) | refine And.intro ?_ ?_), ?_⟩
      conv => whnf
      refine ⟨[0, 1, 2, 3, 4], ((t1, k + 1, Z.set (0 + ((k : Int)).toNat) (!(Z.getD (0 + ((k : Int)).toNat) false))) : List Bool × Nat × List Bool), ?_, ⟨hlt, by show xs.length ≤ (Z.set _ _).length; rw [List.length_set]; exact hZ⟩, ?_⟩
      · conv => whnf
        repeat' (first | exact True.intro | rfl | refine And.intro ?_ ?_ | omega)
        all_goals (conv => whnf)
        all_goals (try (first | rfl | omega | (simp [mulSz]; done)))
      · show xs.length - (k + 1) < xs.length - k
        omega
    · conv => whnf
      refine ⟨_, [3, 0], sIn t1 (0 + n + t1.length) ca, ?_⟩
      conv => whnf
      refine ⟨?_, ?_, ?_⟩
      · conv => whnf
        repeat' (first | exact True.intro | rfl | refine And.intro ?_ ?_ | omega)
        all_goals (conv => whnf)
        all_goals (try (first | rfl | omega | (simp [mulSz]; done)))
      · conv => whnf
        repeat' (first | exact True.intro | rfl | refine And.intro ?_ ?_ | omega)
        all_goals (conv => whnf)
        all_goals (try (first | rfl | omega | (simp [mulSz]; done)))
      conv => whnf
      refine .inl ⟨(), [0, 1, 2], ?_⟩
      conv => whnf
      repeat' (first | exact True.intro | rfl | refine And.intro ?_ ?_ | omega)
end Go.Proofs.Ytflbhbiflcaocaa

set_option linter.unusedVariables false
set_option linter.unusedSimpArgs false
namespace Go.Proofs.Ytflbhbiflcaocaa
open Go Go.Fw
theorem kb_congr {B B1 : List Bool} {m : Nat} (h : ∀ i, i < m → B1.getD i false = B.getD i false) (hm : 0 < m) (i : Nat) : kb B1 m i = kb B m i := h _ (Nat.mod_lt _ hm)
theorem any1_congr {B B1 : List Bool} : ∀ {m : Nat}, (∀ i, i < m → B1.getD i false = B.getD i false) → any1 B1 m = any1 B m
  | 0, _ => rfl
  | m + 1, h => by simp only [any1, any1_congr (m := m) fun i hi => h i (by omega), h m (by omega)]
theorem patB_congr {B B1 : List Bool} {m : Nat} (h : ∀ i, i < m → B1.getD i false = B.getD i false) : patB m B1 = patB m B := by unfold patB; rw [any1_congr h]
theorem thinP_congr {A A1 B B1 : List Bool} {m : Nat} (h : ∀ i, i < m → B1.getD i false = B.getD i false) (hm : 0 < m) : ∀ {n : Nat}, (∀ i, i < n → A1.getD i false = A.getD i false) → thinP A1 B1 m n = thinP A B m n
  | 0, _ => rfl
  | n + 1, hA => by simp only [thinP, kb_congr h hm, thinP_congr h hm (n := n) fun i hi => hA i (by omega), hA n (by omega)]
theorem cntP_congr {B B1 : List Bool} {m : Nat} (h : ∀ i, i < m → B1.getD i false = B.getD i false) (hm : 0 < m) : ∀ n, cntP B1 m n = cntP B m n
  | 0 => rfl
  | n + 1 => by simp only [cntP, kb_congr h hm, cntP_congr h hm n]
theorem fillP_congr {B B1 : List Bool} {m : Nat} (L : List Bool) (ln : Nat) (h : ∀ i, i < m → B1.getD i false = B.getD i false) (hm : 0 < m) : ∀ n, fillP L B1 m ln n = fillP L B m ln n
  | 0 => rfl
  | n + 1 => by simp only [fillP, cellP, kb_congr h hm, cntP_congr h hm, fillP_congr L ln h hm n]
theorem mkP_congr {A A1 : List Bool} : ∀ {n : Nat}, (∀ i, i < n → A1.getD i false = A.getD i false) → mkP A1 n = mkP A n
  | 0, _ => rfl
  | n + 1, h => by simp only [mkP, mkP_congr (n := n) fun i hi => h i (by omega), h n (by omega)]
theorem patB_pos {B : List Bool} {m : Nat} (h : patB m B = true) : 0 < m ∧ m ≤ 64 := by
  simp only [patB, Bool.and_eq_true, decide_eq_true_eq] at h
  refine ⟨?_, h.1⟩
  rcases Nat.eq_zero_or_pos m with h0 | h0
  · subst h0; simp [any1] at h
  · exact h0

section
variable (A B L : List Bool) (N : Int) (n m ln ca cb cl : Nat)
def F5 (o : FOut) : Prop := ∀ t1 t2 : List Bool, Fits Try.prog 5 ⟨[.slice 0 0 n (0 + n + t1.length), .slice 1 0 m (0 + m + t2.length)], [.seg false (.bools (A.take n ++ t1)), .seg false (.bools (B.take m ++ t2))], [o]⟩
def F6 (o : FOut) : Prop := Fits Try.prog 6 ⟨[.slice 0 0 n ca, .slice 1 0 m cb], [.seg false (.bools A), .seg false (.bools B)], [o]⟩
def F7 (o : FOut) : Prop := ∀ t2 : List Bool, Fits Try.prog 7 ⟨[.slice 0 0 ln cl, .slice 1 0 m (0 + m + t2.length), .int .i64 N], [.seg false (.bools L), .seg false (.bools (B.take m ++ t2))], [o]⟩
def F8 (o : FOut) : Prop := Fits Try.prog 8 ⟨[.slice 0 0 ln cl, .slice 1 0 m cb, .int .i64 N], [.seg false (.bools L), .seg false (.bools B)], [o]⟩
end
theorem thin_both (A B : List Bool) (n m ca cb : Nat) (hn : n ≤ A.length) (hm : m ≤ B.length) (hmN : m ≤ 140737488355328) :
    (∃ e, F5 A B n m (nilOut [.dead, .dead] (.tup [.nils, .int .i64 e])) ∧ F6 A B n m ca cb (nilOut [.dead, .dead] (.tup [.nils, .int .i64 e]))) ∨
    (∃ xs : List Bool, xs.length ≤ 140737488355328 ∧ F5 A B n m (rowOut 2 [.dead, .dead] xs fun s => .tup [s, .int .i64 0]) ∧ F6 A B n m ca cb (rowOut 2 [.dead, .dead] xs fun s => .tup [s, .int .i64 0])) := by
  have cA : ∀ t1 : List Bool, ∀ i, i < n → (A.take n ++ t1).getD i false = A.getD i false := fun t1 i hi => getD_take A t1 i n hi hn
  have cB : ∀ t2 : List Bool, ∀ i, i < m → (B.take m ++ t2).getD i false = B.getD i false := fun t2 i hi => getD_take B t2 i m hi hm
  have lA : ∀ t1 : List Bool, n ≤ (A.take n ++ t1).length := fun t1 => by simp; omega
  have lB : ∀ t2 : List Bool, m ≤ (B.take m ++ t2).length := fun t2 => by simp; omega
  by_cases ht : n ≤ 32768 ∧ patB m B = true
  · obtain ⟨h1, h2⟩ := ht
    obtain ⟨p1, p2⟩ := patB_pos h2
    by_cases hE : thinP A B m n = []
    · refine .inl ⟨0, fun t1 t2 => ?_, Thin_n6 A B n m ca cb hn hm h1 h2 p1 p2 hE⟩
      exact Thin_n5 _ _ n m _ _ (lA t1) (lB t2) h1 (by rw [patB_congr (cB t2)]; exact h2) p1 p2 (by rw [thinP_congr (cB t2) p1 (cA t1)]; exact hE)
    · refine .inr ⟨thinP A B m n, ?_, fun t1 t2 => ?_, Thin_r6 A B n m ca cb hn hm h1 h2 p1 p2 hE⟩
      · have := thinP_le A B m n; omega
      · have := Thin_r5 _ _ n m (0 + n + t1.length) (0 + m + t2.length) (lA t1) (lB t2) h1 (by rw [patB_congr (cB t2)]; exact h2) p1 p2 (by rw [thinP_congr (cB t2) p1 (cA t1)]; exact hE)
        rwa [thinP_congr (cB t2) p1 (cA t1)] at this
  · refine .inl ⟨1, fun t1 t2 => ?_, Thin_b6 A B n m ca cb hm (by omega) ht⟩
    exact Thin_b5 _ _ n m _ _ (lB t2) (by omega) (by rw [patB_congr (cB t2)]; exact ht)
theorem fill_both (B L : List Bool) (N : Int) (m ln cb cl : Nat) (hm : m ≤ B.length) (hl : ln ≤ L.length) (hmN : m ≤ 140737488355328) (hlN : ln ≤ 140737488355328) :
    (∃ e, F7 B L N m ln cl (nilOut [.dead, .dead] (.tup [.nils, .int .i64 e])) ∧ F8 B L N m ln cb cl (nilOut [.dead, .dead] (.tup [.nils, .int .i64 e]))) ∨
    (∃ F : List Int, F.length ≤ 140737488355328 ∧ F7 B L N m ln cl (rowX 2 [.dead, .dead] F fun s => .tup [s, .int .i64 0]) ∧ F8 B L N m ln cb cl (rowI 2 [.dead, .dead] F fun s => .tup [s, .int .i64 0])) ∨
    (F7 B L N m ln cl (rowX 2 [.dead, .dead] [] fun s => .tup [s, .int .i64 0]) ∧ F8 B L N m ln cb cl (nilOut [.dead, .dead] (.tup [.nils, .int .i64 0]))) := by
  have cB : ∀ t2 : List Bool, ∀ i, i < m → (B.take m ++ t2).getD i false = B.getD i false := fun t2 i hi => getD_take B t2 i m hi hm
  have lB : ∀ t2 : List Bool, m ≤ (B.take m ++ t2).length := fun t2 => by simp; omega
  by_cases hf : patB m B = true ∧ 0 ≤ N ∧ N ≤ 32768
  · obtain ⟨h1, h2, h3⟩ := hf
    obtain ⟨p1, p2⟩ := patB_pos h1
    obtain ⟨k, hk⟩ := Int.eq_ofNat_of_zero_le h2
    have hk2 : k ≤ 32768 := by omega
    have h1' : ∀ t2 : List Bool, patB m (B.take m ++ t2) = true := fun t2 => by rw [patB_congr (cB t2)]; exact h1
    by_cases hc : cntP B m k = ln
    · rcases Nat.eq_zero_or_pos k with hz | hz
      · subst hz
        have hln : ln = 0 := by rw [← hc]; rfl
        refine .inr (.inr ⟨fun t2 => ?_, ?_⟩)
        · have := Fill_7 L (B.take m ++ t2) N ln m cl (0 + m + t2.length) 0 hl hlN (lB t2) hk hk2 (h1' t2) p1 p2 (.inl ⟨by rw [cntP_congr (cB t2) p1]; exact hc, rfl⟩)
          exact this
        · exact Fill_8z L B N ln m cl cb 0 hl hlN hm hk hk2 h1 p1 p2 (by rw [hc]; exact hln) hln (.inl ⟨rfl, rfl⟩)
      · refine .inr (.inl ⟨fillP L B m ln k, by rw [fillP_len]; omega, fun t2 => ?_, ?_⟩)
        · have := Fill_7 L (B.take m ++ t2) N ln m cl (0 + m + t2.length) k hl hlN (lB t2) hk hk2 (h1' t2) p1 p2 (.inl ⟨by rw [cntP_congr (cB t2) p1]; exact hc, rfl⟩)
          rwa [fillP_congr L ln (cB t2) p1] at this
        · rcases Nat.eq_zero_or_pos ln with h0 | h0
          · exact Fill_8z L B N ln m cl cb k hl hlN hm hk hk2 h1 p1 p2 (by rw [hc]; exact h0) h0 (.inr ⟨hz, rfl⟩)
          · exact Fill_8r L B N ln m cl cb k hl hlN hm hk hk2 h1 p1 p2 hc h0
    · refine .inl ⟨1, fun t2 => ?_, Fill_8x L B N ln m cl cb k hl hlN hm hk hk2 h1 p1 p2 hc⟩
      exact Fill_7 L (B.take m ++ t2) N ln m cl (0 + m + t2.length) k hl hlN (lB t2) hk hk2 (h1' t2) p1 p2 (.inr ⟨by rw [cntP_congr (cB t2) p1]; exact hc, rfl⟩)
  · refine .inl ⟨1, fun t2 => ?_, Fill_b8 L B N ln m cl cb hm (by omega) hf⟩
    exact Fill_b7 L _ N ln m cl _ (lB t2) (by omega) (by rw [patB_congr (cB t2)]; exact hf)
theorem law_f (A B L : List Bool) (N : Int) (n m ln ca cb cl : Nat) (hn : n ≤ A.length) (hm : m ≤ B.length) (hl : ln ≤ L.length) (hnN : n ≤ 140737488355328) (hmN : m ≤ 140737488355328) (hlN : ln ≤ 140737488355328) : Fits Try.prog 3 (thinsSpec A B L N n m ln ca cb cl) := by
  have cA : ∀ t1 : List Bool, ∀ i, i < n → (A.take n ++ t1).getD i false = A.getD i false := fun t1 i hi => getD_take A t1 i n hi hn
  have lA : ∀ t1 : List Bool, n ≤ (A.take n ++ t1).length := fun t1 => by simp; omega
  have h11 : ∀ t1 : List Bool, Fits Try.prog 11 ⟨[.slice 0 0 n (0 + n + t1.length)], [.seg false (.bools (A.take n ++ t1))], [rowX 1 [.dead] (mkP A n) fun s => s]⟩ := fun t1 => by
    have := Marks_11 (A.take n ++ t1) n (0 + n + t1.length) (lA t1) hnN
    rwa [mkP_congr (cA t1)] at this
  have hMl : (mkP A n).length ≤ 140737488355328 := by rw [mkP_len]; exact hnN
  have h0 : ([] : List Bool).length ≤ 140737488355328 := by simp
  have h0i : ([] : List Int).length ≤ 140737488355328 := by simp
  rcases Nat.eq_zero_or_pos n with hz | hz
  · subst hz
    have h12 := Marks_12n A ca
    rcases thin_both A B 0 m ca cb hn hm hmN with ⟨e, h5, h6⟩ | ⟨xs, hx, h5, h6⟩ <;> rcases fill_both B L N m ln cb cl hm hl hmN hlN with ⟨g, h7, h8⟩ | ⟨F, hF, h7, h8⟩ | ⟨h7, h8⟩
    · exact law_NNZ A B L N 0 m ln ca cb cl hn hm hnN hmN e g [] [] _ h0 h0i hMl h5 h6 h7 h8 h11 rfl h12
    · exact law_NRZ A B L N 0 m ln ca cb cl hn hm hnN hmN e 0 [] F _ h0 hF hMl h5 h6 h7 h8 h11 rfl h12
    · exact law_NZZ A B L N 0 m ln ca cb cl hn hm hnN hmN e 0 [] [] _ h0 h0i hMl h5 h6 h7 h8 h11 rfl h12
    · exact law_RNZ A B L N 0 m ln ca cb cl hn hm hnN hmN 0 g xs [] _ hx h0i hMl h5 h6 h7 h8 h11 rfl h12
    · exact law_RRZ A B L N 0 m ln ca cb cl hn hm hnN hmN 0 0 xs F _ hx hF hMl h5 h6 h7 h8 h11 rfl h12
    · exact law_RZZ A B L N 0 m ln ca cb cl hn hm hnN hmN 0 0 xs [] _ hx h0i hMl h5 h6 h7 h8 h11 rfl h12
  · have h12 := Marks_12 A n ca hn hnN hz
    rcases thin_both A B n m ca cb hn hm hmN with ⟨e, h5, h6⟩ | ⟨xs, hx, h5, h6⟩ <;> rcases fill_both B L N m ln cb cl hm hl hmN hlN with ⟨g, h7, h8⟩ | ⟨F, hF, h7, h8⟩ | ⟨h7, h8⟩
    · exact law_NNR A B L N n m ln ca cb cl hn hm hnN hmN e g [] [] _ h0 h0i hMl h5 h6 h7 h8 h11 h12
    · exact law_NRR A B L N n m ln ca cb cl hn hm hnN hmN e 0 [] F _ h0 hF hMl h5 h6 h7 h8 h11 h12
    · exact law_NZR A B L N n m ln ca cb cl hn hm hnN hmN e 0 [] [] _ h0 h0i hMl h5 h6 h7 h8 h11 h12
    · exact law_RNR A B L N n m ln ca cb cl hn hm hnN hmN 0 g xs [] _ hx h0i hMl h5 h6 h7 h8 h11 h12
    · exact law_RRR A B L N n m ln ca cb cl hn hm hnN hmN 0 0 xs F _ hx hF hMl h5 h6 h7 h8 h11 h12
    · exact law_RZR A B L N n m ln ca cb cl hn hm hnN hmN 0 0 xs [] _ hx h0i hMl h5 h6 h7 h8 h11 h12
end Go.Proofs.Ytflbhbiflcaocaa

namespace Go.Proofs.Ytflbhbiflcaocaa
open Go Go.Fw
namespace hardThins
open Go.ChangeShapes Go.WideShapes Go.ChangeAt Go.RowKit
theorem own : ownKnob Try.prog.godebug = none := by kernel_rfl
theorem laid : laidOutB Try.prog = true := by kernel_rfl

set_option maxRecDepth 100000 in
theorem lifted (os : Os) (started : os.Started) (H : Type) (enc : TypeId × Value → H) :
    ReturnsInHanded {} Try.checked os 3 .any (Rows.hardThinsSpec.pre6 enc Try.prog Try.f3 Rows.hardThinsRow.domain false) (Rows.hardThinsSpec.post enc Try.prog Try.f3 false true false false) := by
  refine returnsInHanded_of_change_sized (C := Try.checked) own started (by kernel_rfl) Try.func3
    (ChangeSpec.witness6 (enc := enc) (C := Try.checked) false ⟨#[], #[.slice none 0 0, .slice none 0 0, .slice none 0 0, .int .i64 0], []⟩ 8 (by kernel_rfl) (by kernel_rfl) (by kernel_rfl) (by kernel_rfl)) ?_
  intro W base args ds gs before hval0 hW _ hsz0 _
  have hsz : (DataW.weightsEach Try.prog (Try.f3.params.toList ++ Rows.hardThinsSpec.plain.varTypes Try.prog) (ds ++ gs)).all (· ≤ reachBytes) = true := hsz0
  clear hsz0
  have hval : ∀ (j : Nat) t v, Try.f3.params[j]? = some t → args[j]? = some v → Value.okWide Try.prog W .any base t v := hval0
  have hW' := hW
  obtain ⟨p, q, hA0, hV, rfl, hfz, hnd⟩ := hW
  have hA : DataW.TrodAll enc Try.prog W 0 (fun _ => true) true Try.f3.params.toList args.toList ds p := hA0
  rw [Try.params3] at hA hval hsz
  obtain ⟨v0, vs0, d0, ds0, p0, q0, hargs, rfl, rfl, h0, r0⟩ := trodAll_cons hA
  obtain ⟨v1, vs1, d1, ds1, p1, q1, rfl, rfl, rfl, h1, r1⟩ := trodAll_cons r0
  obtain ⟨v2, vs2, d2, ds2, p2, q2, rfl, rfl, rfl, h2, r2⟩ := trodAll_cons r1
  obtain ⟨v3, vs3, d3, ds3, p3, q3, rfl, rfl, rfl, h3, r3⟩ := trodAll_cons r2
  obtain ⟨rfl, rfl, rfl⟩ := trodAll_nil r3
  obtain rfl : args = #[v0, v1, v2, v3] := by cases args; simp_all
  obtain ⟨rfl, rfl⟩ := trodVars_none hV
  obtain ⟨k3, rfl, rfl, rfl, w3⟩ := open_int Try.underlying3 (hval 3 3 v3 rfl rfl) h3
  obtain ⟨a0, l0, z0, hv0⟩ := okWide_slice Try.underlying22 (hval 0 22 v0 rfl rfl)
  obtain ⟨n0, c0, A0, pl0, hn0, hl0, hs0, hc0⟩ := arg_bools Try.underlying22 Try.underlying4 (by kernel_rfl) hv0 h0
  have by0 : Try.prog.bytesOf 4 = 1 := by kernel_rfl
  have hN0 : n0 * 1 ≤ 140737488351232 := by
    rcases hs0 with ⟨h, _⟩ | ⟨xs, ys, rfl, hx, hy⟩
    · omega
    · have := sized_slice hsz (j := 0) (t := 22) (e := 4) rfl rfl Try.underlying22
      rw [by0] at this
      simp only [reachBytes] at this
      omega
  obtain ⟨a1, l1, z1, hv1⟩ := okWide_slice Try.underlying22 (hval 1 22 v1 rfl rfl)
  obtain ⟨n1, c1, A1, pl1, hn1, hl1, hs1, hc1⟩ := arg_bools Try.underlying22 Try.underlying4 (by kernel_rfl) hv1 h1
  have by1 : Try.prog.bytesOf 4 = 1 := by kernel_rfl
  have hN1 : n1 * 1 ≤ 140737488351232 := by
    rcases hs1 with ⟨h, _⟩ | ⟨xs, ys, rfl, hx, hy⟩
    · omega
    · have := sized_slice hsz (j := 1) (t := 22) (e := 4) rfl rfl Try.underlying22
      rw [by1] at this
      simp only [reachBytes] at this
      omega
  obtain ⟨a2, l2, z2, hv2⟩ := okWide_slice Try.underlying22 (hval 2 22 v2 rfl rfl)
  obtain ⟨n2, c2, A2, pl2, hn2, hl2, hs2, hc2⟩ := arg_bools Try.underlying22 Try.underlying4 (by kernel_rfl) hv2 h2
  have by2 : Try.prog.bytesOf 4 = 1 := by kernel_rfl
  have hN2 : n2 * 1 ≤ 140737488351232 := by
    rcases hs2 with ⟨h, _⟩ | ⟨xs, ys, rfl, hx, hy⟩
    · omega
    · have := sized_slice hsz (j := 2) (t := 22) (e := 4) rfl rfl Try.underlying22
      rw [by2] at this
      simp only [reachBytes] at this
      omega
  clear hA0 hval0
  obtain ⟨dd0, cc0⟩ := hc0 [pl0, pl1, pl2] 0 (by simp) rfl
  obtain ⟨dd1, cc1⟩ := hc1 [pl0, pl1, pl2] 1 (by simp) rfl
  obtain ⟨dd2, cc2⟩ := hc2 [pl0, pl1, pl2] 2 (by simp) rfl
  have walk := (law_f A0 A1 A2 k3 n0 n1 n2 c0 c1 c2 (by omega) (by omega) (by omega) (by omega) (by omega) (by omega)).calls W [pl0, pl1, pl2] [v0, v1, v2, .int .i64 k3] (heap_args rfl fun i s hs => by
      match i, hs with
      | 0, hs => simp only [thinsSpec, List.getElem?_cons_zero, Option.some.injEq] at hs; subst hs; exact ⟨_, rfl, cc0⟩
      | 1, hs => simp only [thinsSpec, List.getElem?_cons_succ, List.getElem?_cons_zero, Option.some.injEq] at hs; subst hs; exact ⟨_, rfl, cc1⟩
      | 2, hs => simp only [thinsSpec, List.getElem?_cons_succ, List.getElem?_cons_zero, Option.some.injEq] at hs; subst hs; exact ⟨_, rfl, cc2⟩
      | i + 3, hs => simp [thinsSpec] at hs) (by simp only [thinsSpec, Dens]; exact ⟨_, _, rfl, dd0, ⟨_, _, rfl, dd1, ⟨_, _, rfl, dd2, ⟨_, _, rfl, by simp [Den], rfl⟩⟩⟩⟩) (x := .bool true) (v := .bool true) rfl (by
      intro o ho y hy
      simp [thinsSpec] at ho
      subst ho; rfl)
  refine walk.mono fun e W' ⟨he, hg⟩ => ?_
  subst he
  exact ⟨_, rfl, law_done laid rfl rfl Try.underlying4 (by kernel_rfl) hW' rfl hg⟩

theorem over : Rows.hardThinsRow.holds Try.pinned (OpenSpec.ofChange Rows.hardThinsSpec) :=
  OpenClaim.holds_of_wide 3 Try.f3 rfl rfl rfl rfl rfl rfl rfl ⟨rfl, rfl, rfl, rfl, rfl⟩ rfl rfl rfl rfl rfl (by kernel_rfl) Try.func3 (by kernel_rfl)
    (of_decide_eq_true (by kernel_rfl)) (by unfold Func.isWrapper; first | (rw [if_pos (by decide +kernel)]; kernel_rfl) | (rw [if_neg (by decide +kernel)]; exact ⟨rfl, rfl⟩))
    (fun os started H enc _ => lifted os started H enc)

theorem proved : Rows.HardThinsSaid := over
end hardThins
end Go.Proofs.Ytflbhbiflcaocaa
