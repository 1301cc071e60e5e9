/-
  foghornlaw17.WeavePlaces returns true for all numbers, and leaves the memory that was there as it was. No condition.
-/
import Derived.Test.YtniniiibgfodbaaRows
import Derived.Test.YtniniiibgfodbaaFw
import Derived.Test.YtniniiibgfodbaaFa
import Derived.WalkKit
import Derived.ProofKit
import Derived.OpenShut
import Derived.SizedLaws
set_option linter.unusedSimpArgs false
set_option linter.unusedVariables false
set_option linter.unusedVariables false
set_option linter.unusedSimpArgs false
namespace Go.Proofs.Ytniniiibgfodbaa
open Go Go.Fw
def tys : List (Nat × TyI) := [
  (2, ⟨.int .i64, 1, 8, .int .i64 0⟩),
  (3, ⟨.int .i64, 1, 8, .int .i64 0⟩),
  (4, ⟨.bool, 1, 1, .bool false⟩),
  (22, ⟨.int .i64, 1, 8, .int .i64 0⟩),
  (27, ⟨.slice 3, 1, 24, .slice none 0 0⟩)]
theorem tok : TOk Try.prog tys := by
  intro p hp
  simp only [tys, List.mem_cons, List.not_mem_nil, or_false] at hp
  rcases hp with rfl | rfl | rfl | rfl | rfl
  all_goals exact ⟨by kernel_rfl, by kernel_rfl⟩
theorem mixed : Try.prog.follows .mixedOrders = true := by kernel_rfl
def qf : Nat → Bool := fun f => match f with | 6 => true | 7 => true | 8 => true | 9 => true | 12 => true | 17 => true | 18 => true | _ => false
def cfgk (k : Nat) : Cfg := { T := tys, sgn := fun _ => false, wr := fun _ => false, k := k, q := qf }

def okW (c l : Int) : Bool := decide (1 ≤ c) && (decide (c ≤ 255) && (decide (1 ≤ l) && decide (l ≤ 255)))
theorem okW_iff {c l : Int} : okW c l = true ↔ 1 ≤ c ∧ c ≤ 255 ∧ 1 ≤ l ∧ l ≤ 255 := by simp [okW]

noncomputable def c17 : Code := (Try.f17.body).getD .skip
theorem Of_q (c l : Int) : QFits Try.prog 17 ⟨[.int .i64 c, .int .i64 l], [], .bool (okW c l)⟩ := by
  refine qfits_of_body (C := cfgk 0) (c := c17) (ts := [4]) tok mixed (fun _ => none) (fun _ => none)
    Try.func17 (by kernel_rfl) (by kernel_rfl) (by kernel_rfl) (by kernel_rfl) (by kernel_rfl) rfl rfl ?_
  conv => whnf
  refine tst_in (fun h1 => ?_) (fun h1 => ?_)
  · conv => whnf
    refine tst_in (fun h2 => ?_) (fun h2 => ?_)
    · conv => whnf
      refine tst_in (fun h3 => ?_) (fun h3 => ?_)
      · conv => whnf
        repeat' (first | exact True.intro | rfl | refine And.intro ?_ ?_)
        all_goals (simp only [decide_eq_true_eq, decide_eq_false_iff_not] at *; apply Bool.eq_iff_iff.mpr; simp only [okW, Bool.and_eq_true, decide_eq_true_eq, Bool.false_eq_true, iff_false]; omega)
      · conv => whnf
        repeat' (first | exact True.intro | rfl | refine And.intro ?_ ?_)
        all_goals (simp only [decide_eq_true_eq, decide_eq_false_iff_not] at *; apply Bool.eq_iff_iff.mpr; simp only [okW, Bool.and_eq_true, decide_eq_true_eq, Bool.false_eq_true, iff_false]; omega)
    · conv => whnf
      repeat' (first | exact True.intro | rfl | refine And.intro ?_ ?_)
      all_goals (simp only [decide_eq_true_eq, decide_eq_false_iff_not] at *; apply Bool.eq_iff_iff.mpr; simp only [okW, Bool.and_eq_true, decide_eq_true_eq, Bool.false_eq_true, iff_false]; omega)
  · conv => whnf
    repeat' (first | exact True.intro | rfl | refine And.intro ?_ ?_)
    all_goals (simp only [decide_eq_true_eq, decide_eq_false_iff_not] at *; apply Bool.eq_iff_iff.mpr; simp only [okW, Bool.and_eq_true, decide_eq_true_eq, Bool.false_eq_true, iff_false]; omega)
noncomputable def c18 : Code := (Try.f18.body).getD .skip
theorem isWeave_q (c l : Int) : QFits Try.prog 18 ⟨[.int .i64 c, .int .i64 l], [], .bool (okW c l)⟩ := by
  refine qfits_of_body (C := cfgk 0) (c := c18) (ts := [4]) tok mixed (fun _ => none) (fun _ => none)
    Try.func18 (by kernel_rfl) (by kernel_rfl) (by kernel_rfl) (by kernel_rfl) (by kernel_rfl) rfl rfl ?_
  conv => whnf
  refine tst_in (fun h1 => ?_) (fun h1 => ?_)
  · conv => whnf
    refine tst_in (fun h2 => ?_) (fun h2 => ?_)
    · conv => whnf
      refine tst_in (fun h3 => ?_) (fun h3 => ?_)
      · conv => whnf
        repeat' (first | exact True.intro | rfl | refine And.intro ?_ ?_)
        all_goals (simp only [decide_eq_true_eq, decide_eq_false_iff_not] at *; apply Bool.eq_iff_iff.mpr; simp only [okW, Bool.and_eq_true, decide_eq_true_eq, Bool.false_eq_true, iff_false]; omega)
      · conv => whnf
        repeat' (first | exact True.intro | rfl | refine And.intro ?_ ?_)
        all_goals (simp only [decide_eq_true_eq, decide_eq_false_iff_not] at *; apply Bool.eq_iff_iff.mpr; simp only [okW, Bool.and_eq_true, decide_eq_true_eq, Bool.false_eq_true, iff_false]; omega)
    · conv => whnf
      repeat' (first | exact True.intro | rfl | refine And.intro ?_ ?_)
      all_goals (simp only [decide_eq_true_eq, decide_eq_false_iff_not] at *; apply Bool.eq_iff_iff.mpr; simp only [okW, Bool.and_eq_true, decide_eq_true_eq, Bool.false_eq_true, iff_false]; omega)
  · conv => whnf
    repeat' (first | exact True.intro | rfl | refine And.intro ?_ ?_)
    all_goals (simp only [decide_eq_true_eq, decide_eq_false_iff_not] at *; apply Bool.eq_iff_iff.mpr; simp only [okW, Bool.and_eq_true, decide_eq_true_eq, Bool.false_eq_true, iff_false]; omega)
end Go.Proofs.Ytniniiibgfodbaa

set_option linter.unusedVariables false
set_option linter.unusedSimpArgs false
namespace Go.Proofs.Ytniniiibgfodbaa
open Go Go.Fw
def plOk (w a c l : Int) : Bool := okW c l && (decide (0 ≤ w) && (decide (w < c) && (decide (0 ≤ a) && decide (a < l))))
def plV (w a c l : Int) : Int := if plOk w a c l = true then a * c + w else 0
def plE (w a c l : Int) : Int := if plOk w a c l = true then 0 else 1
theorem pl_bad {w a c l : Int} (h : plOk w a c l = false) : plV w a c l = 0 ∧ plE w a c l = 1 := by simp [plV, plE, h]
theorem pl_ok {w a c l : Int} (h : plOk w a c l = true) : plV w a c l = a * c + w ∧ plE w a c l = 0 := by simp [plV, plE, h]
theorem mul_lt {a c l : Int} (h0 : 0 ≤ a) (h1 : a < l) (hc : 1 ≤ c) (hc2 : c ≤ 255) (hl : l ≤ 255) : 0 ≤ a * c ∧ a * c ≤ 64770 := by
  refine ⟨Int.mul_nonneg h0 (by omega), ?_⟩
  have := Int.mul_le_mul (show a ≤ 254 by omega) hc2 (by omega) (by omega)
  omega
theorem i64max : IntKind.i64.max = 9223372036854775807 := rfl
def bkOk (p c l : Int) : Bool := okW c l && (decide (0 ≤ p) && decide (p < c * l))
def bkW (p c l : Int) : Int := if bkOk p c l = true then p % c else 0
def bkA (p c l : Int) : Int := if bkOk p c l = true then p / c else 0
def bkE (p c l : Int) : Int := if bkOk p c l = true then 0 else 1
theorem bk_bad {p c l : Int} (h : bkOk p c l = false) : bkW p c l = 0 ∧ bkA p c l = 0 ∧ bkE p c l = 1 := by simp [bkW, bkA, bkE, h]
theorem bk_ok {p c l : Int} (h : bkOk p c l = true) : bkW p c l = p % c ∧ bkA p c l = p / c ∧ bkE p c l = 0 := by simp [bkW, bkA, bkE, h]
theorem mul_in {c l : Int} (h : okW c l = true) : 1 ≤ c * l ∧ c * l ≤ 65025 := by
  obtain ⟨h1, h2, h3, h4⟩ := okW_iff.1 h
  have e1 := Int.mul_le_mul h1 h3 (by omega) (by omega)
  have e2 := Int.mul_le_mul h2 h4 (by omega) (by omega)
  omega
noncomputable def c6 : Code := (Try.f6.body).getD .skip
set_option maxRecDepth 100000 in
theorem Place_q6 (w a c l : Int) : QFits Try.prog 6 ⟨[.int .i64 w, .int .i64 a, .int .i64 c, .int .i64 l], [], .tup [.int .i64 (plV w a c l), .int .i64 (plE w a c l)]⟩ := by
  refine qfits_of_body (C := cfgk 0) (c := c6) (ts := [8, 9]) tok mixed (fun _ => none) (fun _ => none)
    Try.func6 (by kernel_rfl) (by kernel_rfl) (by kernel_rfl) (by kernel_rfl) (by kernel_rfl) rfl rfl ?_
  conv => whnf
  refine ⟨_, [], Of_q c l, ?_⟩
  conv => whnf
  refine ⟨?_, ?_, ?_⟩
  · conv => whnf
    repeat' (first | exact True.intro | rfl | refine And.intro ?_ ?_ | omega)
    all_goals (conv => whnf)
    all_goals (try (first | rfl | omega | (simp; done)))
  · conv => whnf
    repeat' (first | exact True.intro | rfl | refine And.intro ?_ ?_ | omega)
    all_goals (conv => whnf)
    all_goals (try (first | rfl | omega | (simp; done)))
  conv => whnf
  refine tst_in (fun h1 => ?_) (fun h1 => ?_)
  · conv => whnf
    have hb : plOk w a c l = false := by
      simp only [decide_eq_true_eq, decide_eq_false_iff_not, Bool.not_eq_true', Bool.not_eq_false'] at *
      apply Bool.eq_false_iff.mpr
      intro hh
      simp only [plOk, Bool.and_eq_true, decide_eq_true_eq] at hh
      first | omega | (rw [h1] at hh; exact absurd hh.1 (by decide))
    rw [(pl_bad hb).1, (pl_bad hb).2]
    repeat' (first | exact True.intro | rfl | refine And.intro ?_ ?_)
  · conv => whnf
    refine tst_in (fun h2 => ?_) (fun h2 => ?_)
    · conv => whnf
      have hb : plOk w a c l = false := by
        simp only [decide_eq_true_eq, decide_eq_false_iff_not, Bool.not_eq_true', Bool.not_eq_false'] at *
        apply Bool.eq_false_iff.mpr
        intro hh
        simp only [plOk, Bool.and_eq_true, decide_eq_true_eq] at hh
        first | omega | (rw [h1] at hh; exact absurd hh.1 (by decide))
      rw [(pl_bad hb).1, (pl_bad hb).2]
      repeat' (first | exact True.intro | rfl | refine And.intro ?_ ?_)
    · conv => whnf
      refine tst_in (fun h3 => ?_) (fun h3 => ?_)
      · conv => whnf
        have hb : plOk w a c l = false := by
          simp only [decide_eq_true_eq, decide_eq_false_iff_not, Bool.not_eq_true', Bool.not_eq_false'] at *
          apply Bool.eq_false_iff.mpr
          intro hh
          simp only [plOk, Bool.and_eq_true, decide_eq_true_eq] at hh
          first | omega | (rw [h1] at hh; exact absurd hh.1 (by decide))
        rw [(pl_bad hb).1, (pl_bad hb).2]
        repeat' (first | exact True.intro | rfl | refine And.intro ?_ ?_)
      · conv => whnf
        refine tst_in (fun h4 => ?_) (fun h4 => ?_)
        · conv => whnf
          have hb : plOk w a c l = false := by
            simp only [decide_eq_true_eq, decide_eq_false_iff_not, Bool.not_eq_true', Bool.not_eq_false'] at *
            apply Bool.eq_false_iff.mpr
            intro hh
            simp only [plOk, Bool.and_eq_true, decide_eq_true_eq] at hh
            first | omega | (rw [h1] at hh; exact absurd hh.1 (by decide))
          rw [(pl_bad hb).1, (pl_bad hb).2]
          repeat' (first | exact True.intro | rfl | refine And.intro ?_ ?_)
        · conv => whnf
          refine tst_in (fun h5 => ?_) (fun h5 => ?_)
          · conv => whnf
            have hb : plOk w a c l = false := by
              simp only [decide_eq_true_eq, decide_eq_false_iff_not, Bool.not_eq_true', Bool.not_eq_false'] at *
              apply Bool.eq_false_iff.mpr
              intro hh
              simp only [plOk, Bool.and_eq_true, decide_eq_true_eq] at hh
              first | omega | (rw [h1] at hh; exact absurd hh.1 (by decide))
            rw [(pl_bad hb).1, (pl_bad hb).2]
            repeat' (first | exact True.intro | rfl | refine And.intro ?_ ?_)
          · conv => whnf
            simp only [decide_eq_true_eq, decide_eq_false_iff_not, Bool.not_eq_true', Bool.not_eq_false'] at *
            obtain ⟨g1, g2, g3, g4⟩ := okW_iff.1 h1
            have hp : plOk w a c l = true := by simp only [plOk, Bool.and_eq_true, decide_eq_true_eq, h1, true_and]; omega
            have hm := mul_lt (show 0 ≤ a by omega) (show a < l by omega) g1 g2 g4
            refine ⟨by omega, ?_⟩
            conv => whnf
            refine ⟨by omega, ?_⟩
            conv => whnf
            rw [(pl_ok hp).1, (pl_ok hp).2]
            repeat' (first | exact True.intro | rfl | refine And.intro ?_ ?_)
noncomputable def c7 : Code := (Try.f7.body).getD .skip
set_option maxRecDepth 100000 in
theorem Place_q7 (w a c l : Int) : QFits Try.prog 7 ⟨[.int .i64 w, .int .i64 a, .int .i64 c, .int .i64 l], [], .tup [.int .i64 (plV w a c l), .int .i64 (plE w a c l)]⟩ := by
  refine qfits_of_body (C := cfgk 0) (c := c7) (ts := [8, 9]) tok mixed (fun _ => none) (fun _ => none)
    Try.func7 (by kernel_rfl) (by kernel_rfl) (by kernel_rfl) (by kernel_rfl) (by kernel_rfl) rfl rfl ?_
  conv => whnf
  refine ⟨_, [], isWeave_q c l, ?_⟩
  conv => whnf
  refine ⟨?_, ?_, ?_⟩
  · conv => whnf
    repeat' (first | exact True.intro | rfl | refine And.intro ?_ ?_ | omega)
    all_goals (conv => whnf)
    all_goals (try (first | rfl | omega | (simp; done)))
  · conv => whnf
    repeat' (first | exact True.intro | rfl | refine And.intro ?_ ?_ | omega)
    all_goals (conv => whnf)
    all_goals (try (first | rfl | omega | (simp; done)))
  conv => whnf
  refine tst_in (fun h1 => ?_) (fun h1 => ?_)
  · conv => whnf
    have hb : plOk w a c l = false := by
      simp only [decide_eq_true_eq, decide_eq_false_iff_not, Bool.not_eq_true', Bool.not_eq_false'] at *
      apply Bool.eq_false_iff.mpr
      intro hh
      simp only [plOk, Bool.and_eq_true, decide_eq_true_eq] at hh
      first | omega | (rw [h1] at hh; exact absurd hh.1 (by decide))
    rw [(pl_bad hb).1, (pl_bad hb).2]
    repeat' (first | exact True.intro | rfl | refine And.intro ?_ ?_)
  · conv => whnf
    refine tst_in (fun h2 => ?_) (fun h2 => ?_)
    · conv => whnf
      have hb : plOk w a c l = false := by
        simp only [decide_eq_true_eq, decide_eq_false_iff_not, Bool.not_eq_true', Bool.not_eq_false'] at *
        apply Bool.eq_false_iff.mpr
        intro hh
        simp only [plOk, Bool.and_eq_true, decide_eq_true_eq] at hh
        first | omega | (rw [h1] at hh; exact absurd hh.1 (by decide))
      rw [(pl_bad hb).1, (pl_bad hb).2]
      repeat' (first | exact True.intro | rfl | refine And.intro ?_ ?_)
    · conv => whnf
      refine tst_in (fun h3 => ?_) (fun h3 => ?_)
      · conv => whnf
        have hb : plOk w a c l = false := by
          simp only [decide_eq_true_eq, decide_eq_false_iff_not, Bool.not_eq_true', Bool.not_eq_false'] at *
          apply Bool.eq_false_iff.mpr
          intro hh
          simp only [plOk, Bool.and_eq_true, decide_eq_true_eq] at hh
          first | omega | (rw [h1] at hh; exact absurd hh.1 (by decide))
        rw [(pl_bad hb).1, (pl_bad hb).2]
        repeat' (first | exact True.intro | rfl | refine And.intro ?_ ?_)
      · conv => whnf
        refine tst_in (fun h4 => ?_) (fun h4 => ?_)
        · conv => whnf
          have hb : plOk w a c l = false := by
            simp only [decide_eq_true_eq, decide_eq_false_iff_not, Bool.not_eq_true', Bool.not_eq_false'] at *
            apply Bool.eq_false_iff.mpr
            intro hh
            simp only [plOk, Bool.and_eq_true, decide_eq_true_eq] at hh
            first | omega | (rw [h1] at hh; exact absurd hh.1 (by decide))
          rw [(pl_bad hb).1, (pl_bad hb).2]
          repeat' (first | exact True.intro | rfl | refine And.intro ?_ ?_)
        · conv => whnf
          refine tst_in (fun h5 => ?_) (fun h5 => ?_)
          · conv => whnf
            have hb : plOk w a c l = false := by
              simp only [decide_eq_true_eq, decide_eq_false_iff_not, Bool.not_eq_true', Bool.not_eq_false'] at *
              apply Bool.eq_false_iff.mpr
              intro hh
              simp only [plOk, Bool.and_eq_true, decide_eq_true_eq] at hh
              first | omega | (rw [h1] at hh; exact absurd hh.1 (by decide))
            rw [(pl_bad hb).1, (pl_bad hb).2]
            repeat' (first | exact True.intro | rfl | refine And.intro ?_ ?_)
          · conv => whnf
            simp only [decide_eq_true_eq, decide_eq_false_iff_not, Bool.not_eq_true', Bool.not_eq_false'] at *
            obtain ⟨g1, g2, g3, g4⟩ := okW_iff.1 h1
            have hp : plOk w a c l = true := by simp only [plOk, Bool.and_eq_true, decide_eq_true_eq, h1, true_and]; omega
            have hm := mul_lt (show 0 ≤ a by omega) (show a < l by omega) g1 g2 g4
            refine ⟨by omega, ?_⟩
            conv => whnf
            refine ⟨by omega, ?_⟩
            conv => whnf
            rw [(pl_ok hp).1, (pl_ok hp).2]
            repeat' (first | exact True.intro | rfl | refine And.intro ?_ ?_)
end Go.Proofs.Ytniniiibgfodbaa

set_option linter.unusedVariables false
set_option linter.unusedSimpArgs false
namespace Go.Proofs.Ytniniiibgfodbaa
open Go Go.Fw
noncomputable def c8 : Code := (Try.f8.body).getD .skip
set_option maxRecDepth 100000 in
theorem Back_q8 (p c l : Int) : QFits Try.prog 8 ⟨[.int .i64 p, .int .i64 c, .int .i64 l], [], .tup [.int .i64 (bkW p c l), .int .i64 (bkA p c l), .int .i64 (bkE p c l)]⟩ := by
  refine qfits_of_body (C := cfgk 0) (c := c8) (ts := [6, 7, 8]) tok mixed (fun _ => none) (fun _ => none)
    Try.func8 (by kernel_rfl) (by kernel_rfl) (by kernel_rfl) (by kernel_rfl) (by kernel_rfl) rfl rfl ?_
  conv => whnf
  refine ⟨_, [], Of_q c l, ?_⟩
  conv => whnf
  refine ⟨?_, ?_, ?_⟩
  · conv => whnf
    repeat' (first | exact True.intro | rfl | refine And.intro ?_ ?_ | omega)
    all_goals (conv => whnf)
    all_goals (try (first | rfl | omega | (simp; done)))
  · conv => whnf
    repeat' (first | exact True.intro | rfl | refine And.intro ?_ ?_ | omega)
    all_goals (conv => whnf)
    all_goals (try (first | rfl | omega | (simp; done)))
  conv => whnf
  refine tst_in (fun h1 => ?_) (fun h1 => ?_)
  · conv => whnf
    have hb : bkOk p c l = false := by
      simp only [decide_eq_true_eq, decide_eq_false_iff_not, Bool.not_eq_true', Bool.not_eq_false'] at *
      apply Bool.eq_false_iff.mpr
      intro hh
      simp only [bkOk, Bool.and_eq_true, decide_eq_true_eq] at hh
      first | omega | (rw [h1] at hh; exact absurd hh.1 (by decide))
    rw [(bk_bad hb).1, (bk_bad hb).2.1, (bk_bad hb).2.2]
    repeat' (first | exact True.intro | rfl | refine And.intro ?_ ?_)
  · conv => whnf
    refine tst_in (fun h2 => ?_) (fun h2 => ?_)
    · conv => whnf
      have hb : bkOk p c l = false := by
        simp only [decide_eq_true_eq, decide_eq_false_iff_not, Bool.not_eq_true', Bool.not_eq_false'] at *
        apply Bool.eq_false_iff.mpr
        intro hh
        simp only [bkOk, Bool.and_eq_true, decide_eq_true_eq] at hh
        first | omega | (rw [h1] at hh; exact absurd hh.1 (by decide))
      rw [(bk_bad hb).1, (bk_bad hb).2.1, (bk_bad hb).2.2]
      repeat' (first | exact True.intro | rfl | refine And.intro ?_ ?_)
    · conv => whnf
      simp only [decide_eq_true_eq, decide_eq_false_iff_not, Bool.not_eq_true', Bool.not_eq_false'] at *
      obtain ⟨g1, g2, g3, g4⟩ := okW_iff.1 h1
      have hm := mul_in h1
      refine ⟨by omega, ?_⟩
      conv => whnf
      refine tst_in (fun h3 => ?_) (fun h3 => ?_)
      · conv => whnf
        have hb : bkOk p c l = false := by
          simp only [decide_eq_true_eq, decide_eq_false_iff_not, Bool.not_eq_true', Bool.not_eq_false'] at *
          apply Bool.eq_false_iff.mpr
          intro hh
          simp only [bkOk, Bool.and_eq_true, decide_eq_true_eq] at hh
          first | omega | (rw [h1] at hh; exact absurd hh.1 (by decide))
        rw [(bk_bad hb).1, (bk_bad hb).2.1, (bk_bad hb).2.2]
        repeat' (first | exact True.intro | rfl | refine And.intro ?_ ?_)
      · conv => whnf
        simp only [decide_eq_true_eq, decide_eq_false_iff_not] at h3
        have hp : bkOk p c l = true := by simp only [bkOk, Bool.and_eq_true, decide_eq_true_eq, h1, true_and]; omega
        refine ⟨by repeat' (first | omega | (simp only [i64max]; omega) | refine And.intro ?_ ?_), ?_⟩
        conv => whnf
        refine ⟨by repeat' (first | omega | (simp only [i64max]; omega) | refine And.intro ?_ ?_), ?_⟩
        conv => whnf
        rw [(bk_ok hp).1, (bk_ok hp).2.1, (bk_ok hp).2.2]
        repeat' (first | exact True.intro | rfl | refine And.intro ?_ ?_)
noncomputable def c9 : Code := (Try.f9.body).getD .skip
set_option maxRecDepth 100000 in
theorem Back_q9 (p c l : Int) : QFits Try.prog 9 ⟨[.int .i64 p, .int .i64 c, .int .i64 l], [], .tup [.int .i64 (bkW p c l), .int .i64 (bkA p c l), .int .i64 (bkE p c l)]⟩ := by
  refine qfits_of_body (C := cfgk 0) (c := c9) (ts := [6, 7, 8]) tok mixed (fun _ => none) (fun _ => none)
    Try.func9 (by kernel_rfl) (by kernel_rfl) (by kernel_rfl) (by kernel_rfl) (by kernel_rfl) rfl rfl ?_
  conv => whnf
  refine ⟨_, [], isWeave_q c l, ?_⟩
  conv => whnf
  refine ⟨?_, ?_, ?_⟩
  · conv => whnf
    repeat' (first | exact True.intro | rfl | refine And.intro ?_ ?_ | omega)
    all_goals (conv => whnf)
    all_goals (try (first | rfl | omega | (simp; done)))
  · conv => whnf
    repeat' (first | exact True.intro | rfl | refine And.intro ?_ ?_ | omega)
    all_goals (conv => whnf)
    all_goals (try (first | rfl | omega | (simp; done)))
  conv => whnf
  refine tst_in (fun h1 => ?_) (fun h1 => ?_)
  · conv => whnf
    have hb : bkOk p c l = false := by
      simp only [decide_eq_true_eq, decide_eq_false_iff_not, Bool.not_eq_true', Bool.not_eq_false'] at *
      apply Bool.eq_false_iff.mpr
      intro hh
      simp only [bkOk, Bool.and_eq_true, decide_eq_true_eq] at hh
      first | omega | (rw [h1] at hh; exact absurd hh.1 (by decide))
    rw [(bk_bad hb).1, (bk_bad hb).2.1, (bk_bad hb).2.2]
    repeat' (first | exact True.intro | rfl | refine And.intro ?_ ?_)
  · conv => whnf
    refine tst_in (fun h2 => ?_) (fun h2 => ?_)
    · conv => whnf
      have hb : bkOk p c l = false := by
        simp only [decide_eq_true_eq, decide_eq_false_iff_not, Bool.not_eq_true', Bool.not_eq_false'] at *
        apply Bool.eq_false_iff.mpr
        intro hh
        simp only [bkOk, Bool.and_eq_true, decide_eq_true_eq] at hh
        first | omega | (rw [h1] at hh; exact absurd hh.1 (by decide))
      rw [(bk_bad hb).1, (bk_bad hb).2.1, (bk_bad hb).2.2]
      repeat' (first | exact True.intro | rfl | refine And.intro ?_ ?_)
    · conv => whnf
      simp only [decide_eq_true_eq, decide_eq_false_iff_not, Bool.not_eq_true', Bool.not_eq_false'] at *
      obtain ⟨g1, g2, g3, g4⟩ := okW_iff.1 h1
      have hm := mul_in h1
      refine ⟨by omega, ?_⟩
      conv => whnf
      refine tst_in (fun h3 => ?_) (fun h3 => ?_)
      · conv => whnf
        have hb : bkOk p c l = false := by
          simp only [decide_eq_true_eq, decide_eq_false_iff_not, Bool.not_eq_true', Bool.not_eq_false'] at *
          apply Bool.eq_false_iff.mpr
          intro hh
          simp only [bkOk, Bool.and_eq_true, decide_eq_true_eq] at hh
          first | omega | (rw [h1] at hh; exact absurd hh.1 (by decide))
        rw [(bk_bad hb).1, (bk_bad hb).2.1, (bk_bad hb).2.2]
        repeat' (first | exact True.intro | rfl | refine And.intro ?_ ?_)
      · conv => whnf
        simp only [decide_eq_true_eq, decide_eq_false_iff_not] at h3
        have hp : bkOk p c l = true := by simp only [bkOk, Bool.and_eq_true, decide_eq_true_eq, h1, true_and]; omega
        refine ⟨by repeat' (first | omega | (simp only [i64max]; omega) | refine And.intro ?_ ?_), ?_⟩
        conv => whnf
        refine ⟨by repeat' (first | omega | (simp only [i64max]; omega) | refine And.intro ?_ ?_), ?_⟩
        conv => whnf
        rw [(bk_ok hp).1, (bk_ok hp).2.1, (bk_ok hp).2.2]
        repeat' (first | exact True.intro | rfl | refine And.intro ?_ ?_)
end Go.Proofs.Ytniniiibgfodbaa

set_option linter.unusedVariables false
set_option linter.unusedSimpArgs false
namespace Go.Proofs.Ytniniiibgfodbaa
open Go Go.Fw
def hit (c f : Nat) : Nat → List Int
  | 0 => List.replicate c 0
  | k + 1 => (hit c f k).set ((f + k) % c) ((hit c f k).getD ((f + k) % c) 0 + 1)
theorem hit_len (c f : Nat) : ∀ k, (hit c f k).length = c
  | 0 => by simp [hit]
  | k + 1 => by simp [hit, hit_len c f k]
theorem hit_le (c f : Nat) : ∀ k, ∀ x ∈ hit c f k, 0 ≤ x ∧ x ≤ k
  | 0, x, h => by simp [hit] at h; omega
  | k + 1, x, h => by
    simp only [hit] at h
    rcases List.mem_or_eq_of_mem_set h with h | rfl
    · have := hit_le c f k x h; omega
    · rcases Nat.lt_or_ge ((f + k) % c) (hit c f k).length with hl | hl
      · have := hit_le c f k _ (List.getElem_mem hl)
        rw [List.getD_eq_getElem?_getD, List.getElem?_eq_getElem hl]
        simp only [Option.getD_some]
        omega
      · rw [List.getD_eq_getElem?_getD, List.getElem?_eq_none hl]
        simp only [Option.getD_none]
        omega
theorem hit_getD (c f k i : Nat) : 0 ≤ (hit c f k).getD i 0 ∧ (hit c f k).getD i 0 ≤ k := by
  rw [List.getD_eq_getElem?_getD]
  rcases Nat.lt_or_ge i (hit c f k).length with hl | hl
  · rw [List.getElem?_eq_getElem hl]
    exact hit_le c f k _ (List.getElem_mem hl)
  · rw [List.getElem?_eq_none hl]
    simp only [Option.getD_none]
    omega
def hitOk (f t c l : Int) : Bool := okW c l && (decide (0 ≤ f) && (decide (f ≤ t) && decide (t ≤ c * l)))
def iOut (k : Nat) (pre : List Seg) (xs : List Int) (f : AV → AV) : FOut := ⟨Unit, fun _ => True, fun _ => f (.slice k 0 xs.length xs.length), fun _ => pre ++ [.seg true (.ints .i64 xs)]⟩
noncomputable def c10 : Code := (Try.f10.body).getD .skip
def inv10 (F T C L : Int) (f t c : Nat) : LInv := ⟨Nat, fun k => ⟨anyTo 49 [.int .i64 F, .int .i64 T, .int .i64 C, .int .i64 L, .any, .any, .any, .any, .any, .any, .slice 0 0 C.toNat C.toNat, .int .i64 (F + (k : Int))], [.seg true (.ints .i64 (hit c f k))]⟩, fun k => k ≤ t - f, fun k => t - f - k⟩
set_option maxRecDepth 100000 in
theorem Hit_f10 (F T C L : Int) (f t c : Nat) (hf : F = f) (ht : T = t) (hc : C = c) (h : hitOk F T C L = true) :
    Fits Try.prog 10 ⟨[.int .i64 F, .int .i64 T, .int .i64 C, .int .i64 L], [], [iOut 0 [] (hit c f (t - f)) fun s => .tup [s, .int .i64 0]]⟩ := by
  refine fits_of_body (C := cfgk 0) (c := c10) (ts := [8, 9]) tok mixed (fun | 5 => some (inv10 F T C L f t c) | _ => none) (fun _ => none)
    Try.func10 (by kernel_rfl) (by kernel_rfl) (by kernel_rfl) (by kernel_rfl) rfl ?_
  simp only [hitOk, Bool.and_eq_true, decide_eq_true_eq] at h
  obtain ⟨h1, h2, h3, h4⟩ := h
  obtain ⟨g1, g2, g3, g4⟩ := okW_iff.1 h1
  have hm := mul_in h1
  conv => whnf
  refine ⟨_, [], Of_q C L, ?_⟩
  conv => whnf
  refine ⟨?_, ?_, ?_⟩
  · conv => whnf
    repeat' (first | exact True.intro | rfl | refine And.intro ?_ ?_ | omega)
    all_goals (conv => whnf)
    all_goals (try (first | rfl | omega | (simp; done)))
  · conv => whnf
    repeat' (first | exact True.intro | rfl | refine And.intro ?_ ?_ | omega)
    all_goals (conv => whnf)
    all_goals (try (first | rfl | omega | (simp; done)))
  conv => whnf
  refine tst_in (fun h_ => False.elim (by simp [h1] at h_ <;> omega)) (fun _ => ?_)
  conv => whnf
  refine tst_in (fun h_ => False.elim (by simp at h_ <;> omega)) (fun _ => ?_)
  conv => whnf
  refine tst_in (fun h_ => False.elim (by simp at h_ <;> omega)) (fun _ => ?_)
  conv => whnf
  refine ⟨by omega, ?_⟩
  conv => whnf
  refine tst_in (fun h_ => False.elim (by simp at h_ <;> omega)) (fun _ => ?_)
  conv => whnf
  refine ⟨⟨by omega, by omega, by show (8 : Int) * C ≤ 281474976710656; omega, by omega⟩, ?_⟩
  conv => whnf
  refine ⟨⟨[0], (0 : Nat), ?_, Nat.zero_le _⟩, ?_⟩
  · conv => whnf
    repeat' (first | exact True.intro | rfl | refine And.intro ?_ ?_)
    all_goals first | (show F + ((0 : Nat) : Int) = F; omega) | (show hit c f 0 = List.replicate C.toNat 0; rw [hc]; rfl) | skip
  · intro (k : Nat) (hk : k ≤ t - f)
    conv => whnf
    refine tst_in (fun hlt => ?_) (fun hge => ?_)
    · skip
      have hlt : F + (k : Int) < T := by simpa using hlt
      have hx0 := Int.emod_nonneg (F + (k : Int)) (show C ≠ 0 by omega)
      have hx1 := Int.emod_lt_of_pos (F + (k : Int)) (show 0 < C by omega)
      have hX : ((F + (k : Int)) % C).toNat = (f + k) % c := by rw [hf, hc, ← Int.natCast_add, ← Int.natCast_emod, Int.toNat_natCast]
      have hlen := hit_len c f k
      conv => whnf
      refine ⟨by repeat' (first | omega | (simp only [i64max]; omega) | refine And.intro ?_ ?_), ?_⟩
      conv => whnf
      refine ⟨by repeat' (first | omega | (simp only [i64max]; omega) | refine And.intro ?_ ?_), ?_⟩
      conv => whnf
      refine ⟨by repeat' (first | omega | (simp only [i64max]; omega) | refine And.intro ?_ ?_), ?_⟩
      conv => whnf
      have hv := hit_getD c f k (0 + ((F + (k : Int)) % C).toNat)
      refine ⟨by repeat' (first | omega | (simp only [i64max]; omega) | refine And.intro ?_ ?_), ?_⟩
      conv => whnf
      refine ⟨by repeat' (first | omega | (simp only [i64max]; omega) | refine And.intro ?_ ?_), ?_⟩
      conv => whnf
      refine ⟨by repeat' (first | omega | (simp only [i64max]; omega) | refine And.intro ?_ ?_), ?_⟩
      conv => whnf
      refine ⟨by repeat' (first | omega | (simp only [i64max]; omega) | refine And.intro ?_ ?_), ?_⟩
      conv => whnf
      refine ⟨[0], k + 1, ?_, ?_, ?_⟩
      · conv => whnf
        repeat' (first | exact True.intro | rfl | refine And.intro ?_ ?_)
        · show F + ((k + 1 : Nat) : Int) = F + (k : Int) + 1
          omega
        · show hit c f (k + 1) = (hit c f k).set (0 + ((F + (k : Int)) % C).toNat) ((hit c f k).getD (0 + ((F + (k : Int)) % C).toNat) 0 + 1)
          rw [hX, Nat.zero_add]
          rfl
      · show k + 1 ≤ t - f
        omega
      · show t - f - (k + 1) < t - f - k
        omega
    · skip
      have hge : ¬ F + (k : Int) < T := by simpa using hge
      conv => whnf
      have hk2 : k = t - f := by omega
      subst hk2
      refine .inl ⟨(), [0], ?_⟩
      conv => whnf
      repeat' (first | exact True.intro | rfl | refine And.intro ?_ ?_)
      all_goals first | (show _ = _; rw [hit_len, hc]; rfl) | skip
      trace_state
set_option maxRecDepth 100000 in
theorem Hit_b10 (F T C L : Int) (h : hitOk F T C L = false) :
    Fits Try.prog 10 ⟨[.int .i64 F, .int .i64 T, .int .i64 C, .int .i64 L], [], [⟨Unit, fun _ => True, fun _ => .tup [.nils, .int .i64 1], fun _ => []⟩]⟩ := by
  refine fits_of_body (C := cfgk 0) (c := c10) (ts := [8, 9]) tok mixed (fun _ => none) (fun _ => none)
    Try.func10 (by kernel_rfl) (by kernel_rfl) (by kernel_rfl) (by kernel_rfl) rfl ?_
  conv => whnf
  refine ⟨_, [], Of_q C L, ?_⟩
  conv => whnf
  refine ⟨?_, ?_, ?_⟩
  · conv => whnf
    repeat' (first | exact True.intro | rfl | refine And.intro ?_ ?_ | omega)
    all_goals (conv => whnf)
    all_goals (try (first | rfl | omega | (simp; done)))
  · conv => whnf
    repeat' (first | exact True.intro | rfl | refine And.intro ?_ ?_ | omega)
    all_goals (conv => whnf)
    all_goals (try (first | rfl | omega | (simp; done)))
  conv => whnf
  refine tst_in (fun h1 => ?_) (fun h1 => ?_)
  · conv => whnf
    refine .inl ⟨(), [], ?_⟩
    conv => whnf
    repeat' (first | exact True.intro | rfl | refine And.intro ?_ ?_)
  · conv => whnf
    refine tst_in (fun h2 => ?_) (fun h2 => ?_)
    · conv => whnf
      refine .inl ⟨(), [], ?_⟩
      conv => whnf
      repeat' (first | exact True.intro | rfl | refine And.intro ?_ ?_)
    · conv => whnf
      refine tst_in (fun h3 => ?_) (fun h3 => ?_)
      · conv => whnf
        refine .inl ⟨(), [], ?_⟩
        conv => whnf
        repeat' (first | exact True.intro | rfl | refine And.intro ?_ ?_)
      · conv => whnf
        have g1 : okW C L = true := by simpa using h1
        have hm := mul_in g1
        refine ⟨by repeat' (first | omega | (simp only [i64max]; omega) | refine And.intro ?_ ?_), ?_⟩
        conv => whnf
        refine tst_in (fun h4 => ?_) (fun h4 => ?_)
        · conv => whnf
          refine .inl ⟨(), [], ?_⟩
          conv => whnf
          repeat' (first | exact True.intro | rfl | refine And.intro ?_ ?_)
        · conv => whnf
          simp only [decide_eq_true_eq, decide_eq_false_iff_not, Bool.not_eq_true', Bool.not_eq_false'] at *
          exfalso
          have : hitOk F T C L = true := by simp only [hitOk, Bool.and_eq_true, decide_eq_true_eq, g1, true_and]; omega
          rw [h] at this; cases this
noncomputable def c11 : Code := (Try.f11.body).getD .skip
def inv11 (F T C L : Int) (f t c : Nat) : LInv := ⟨Nat, fun k => ⟨anyTo 49 [.int .i64 F, .int .i64 T, .int .i64 C, .int .i64 L, .any, .any, .any, .any, .any, .any, .slice 0 0 C.toNat C.toNat, .int .i64 (F + (k : Int))], [.seg true (.ints .i64 (hit c f k))]⟩, fun k => k ≤ t - f, fun k => t - f - k⟩
set_option maxRecDepth 100000 in
theorem Hit_f11 (F T C L : Int) (f t c : Nat) (hf : F = f) (ht : T = t) (hc : C = c) (h : hitOk F T C L = true) :
    Fits Try.prog 11 ⟨[.int .i64 F, .int .i64 T, .int .i64 C, .int .i64 L], [], [iOut 0 [] (hit c f (t - f)) fun s => .tup [s, .int .i64 0]]⟩ := by
  refine fits_of_body (C := cfgk 0) (c := c11) (ts := [8, 9]) tok mixed (fun | 5 => some (inv11 F T C L f t c) | _ => none) (fun _ => none)
    Try.func11 (by kernel_rfl) (by kernel_rfl) (by kernel_rfl) (by kernel_rfl) rfl ?_
  simp only [hitOk, Bool.and_eq_true, decide_eq_true_eq] at h
  obtain ⟨h1, h2, h3, h4⟩ := h
  obtain ⟨g1, g2, g3, g4⟩ := okW_iff.1 h1
  have hm := mul_in h1
  conv => whnf
  refine ⟨_, [], isWeave_q C L, ?_⟩
  conv => whnf
  refine ⟨?_, ?_, ?_⟩
  · conv => whnf
    repeat' (first | exact True.intro | rfl | refine And.intro ?_ ?_ | omega)
    all_goals (conv => whnf)
    all_goals (try (first | rfl | omega | (simp; done)))
  · conv => whnf
    repeat' (first | exact True.intro | rfl | refine And.intro ?_ ?_ | omega)
    all_goals (conv => whnf)
    all_goals (try (first | rfl | omega | (simp; done)))
  conv => whnf
  refine tst_in (fun h_ => False.elim (by simp [h1] at h_ <;> omega)) (fun _ => ?_)
  conv => whnf
  refine tst_in (fun h_ => False.elim (by simp at h_ <;> omega)) (fun _ => ?_)
  conv => whnf
  refine tst_in (fun h_ => False.elim (by simp at h_ <;> omega)) (fun _ => ?_)
  conv => whnf
  refine ⟨by omega, ?_⟩
  conv => whnf
  refine tst_in (fun h_ => False.elim (by simp at h_ <;> omega)) (fun _ => ?_)
  conv => whnf
  refine ⟨⟨by omega, by omega, by show (8 : Int) * C ≤ 281474976710656; omega, by omega⟩, ?_⟩
  conv => whnf
  refine ⟨⟨[0], (0 : Nat), ?_, Nat.zero_le _⟩, ?_⟩
  · conv => whnf
    repeat' (first | exact True.intro | rfl | refine And.intro ?_ ?_)
    all_goals first | (show F + ((0 : Nat) : Int) = F; omega) | (show hit c f 0 = List.replicate C.toNat 0; rw [hc]; rfl) | skip
  · intro (k : Nat) (hk : k ≤ t - f)
    conv => whnf
    refine tst_in (fun hlt => ?_) (fun hge => ?_)
    · skip
      have hlt : F + (k : Int) < T := by simpa using hlt
      have hx0 := Int.emod_nonneg (F + (k : Int)) (show C ≠ 0 by omega)
      have hx1 := Int.emod_lt_of_pos (F + (k : Int)) (show 0 < C by omega)
      have hX : ((F + (k : Int)) % C).toNat = (f + k) % c := by rw [hf, hc, ← Int.natCast_add, ← Int.natCast_emod, Int.toNat_natCast]
      have hlen := hit_len c f k
      conv => whnf
      refine ⟨by repeat' (first | omega | (simp only [i64max]; omega) | refine And.intro ?_ ?_), ?_⟩
      conv => whnf
      refine ⟨by repeat' (first | omega | (simp only [i64max]; omega) | refine And.intro ?_ ?_), ?_⟩
      conv => whnf
      refine ⟨by repeat' (first | omega | (simp only [i64max]; omega) | refine And.intro ?_ ?_), ?_⟩
      conv => whnf
      have hv := hit_getD c f k (0 + ((F + (k : Int)) % C).toNat)
      refine ⟨by repeat' (first | omega | (simp only [i64max]; omega) | refine And.intro ?_ ?_), ?_⟩
      conv => whnf
      refine ⟨by repeat' (first | omega | (simp only [i64max]; omega) | refine And.intro ?_ ?_), ?_⟩
      conv => whnf
      refine ⟨by repeat' (first | omega | (simp only [i64max]; omega) | refine And.intro ?_ ?_), ?_⟩
      conv => whnf
      refine ⟨by repeat' (first | omega | (simp only [i64max]; omega) | refine And.intro ?_ ?_), ?_⟩
      conv => whnf
      refine ⟨[0], k + 1, ?_, ?_, ?_⟩
      · conv => whnf
        repeat' (first | exact True.intro | rfl | refine And.intro ?_ ?_)
        · show F + ((k + 1 : Nat) : Int) = F + (k : Int) + 1
          omega
        · show hit c f (k + 1) = (hit c f k).set (0 + ((F + (k : Int)) % C).toNat) ((hit c f k).getD (0 + ((F + (k : Int)) % C).toNat) 0 + 1)
          rw [hX, Nat.zero_add]
          rfl
      · show k + 1 ≤ t - f
        omega
      · show t - f - (k + 1) < t - f - k
        omega
    · skip
      have hge : ¬ F + (k : Int) < T := by simpa using hge
      conv => whnf
      have hk2 : k = t - f := by omega
      subst hk2
      refine .inl ⟨(), [0], ?_⟩
      conv => whnf
      repeat' (first | exact True.intro | rfl | refine And.intro ?_ ?_)
      all_goals first | (show _ = _; rw [hit_len, hc]; rfl) | skip
      trace_state
set_option maxRecDepth 100000 in
theorem Hit_b11 (F T C L : Int) (h : hitOk F T C L = false) :
    Fits Try.prog 11 ⟨[.int .i64 F, .int .i64 T, .int .i64 C, .int .i64 L], [], [⟨Unit, fun _ => True, fun _ => .tup [.nils, .int .i64 1], fun _ => []⟩]⟩ := by
  refine fits_of_body (C := cfgk 0) (c := c11) (ts := [8, 9]) tok mixed (fun _ => none) (fun _ => none)
    Try.func11 (by kernel_rfl) (by kernel_rfl) (by kernel_rfl) (by kernel_rfl) rfl ?_
  conv => whnf
  refine ⟨_, [], isWeave_q C L, ?_⟩
  conv => whnf
  refine ⟨?_, ?_, ?_⟩
  · conv => whnf
    repeat' (first | exact True.intro | rfl | refine And.intro ?_ ?_ | omega)
    all_goals (conv => whnf)
    all_goals (try (first | rfl | omega | (simp; done)))
  · conv => whnf
    repeat' (first | exact True.intro | rfl | refine And.intro ?_ ?_ | omega)
    all_goals (conv => whnf)
    all_goals (try (first | rfl | omega | (simp; done)))
  conv => whnf
  refine tst_in (fun h1 => ?_) (fun h1 => ?_)
  · conv => whnf
    refine .inl ⟨(), [], ?_⟩
    conv => whnf
    repeat' (first | exact True.intro | rfl | refine And.intro ?_ ?_)
  · conv => whnf
    refine tst_in (fun h2 => ?_) (fun h2 => ?_)
    · conv => whnf
      refine .inl ⟨(), [], ?_⟩
      conv => whnf
      repeat' (first | exact True.intro | rfl | refine And.intro ?_ ?_)
    · conv => whnf
      refine tst_in (fun h3 => ?_) (fun h3 => ?_)
      · conv => whnf
        refine .inl ⟨(), [], ?_⟩
        conv => whnf
        repeat' (first | exact True.intro | rfl | refine And.intro ?_ ?_)
      · conv => whnf
        have g1 : okW C L = true := by simpa using h1
        have hm := mul_in g1
        refine ⟨by repeat' (first | omega | (simp only [i64max]; omega) | refine And.intro ?_ ?_), ?_⟩
        conv => whnf
        refine tst_in (fun h4 => ?_) (fun h4 => ?_)
        · conv => whnf
          refine .inl ⟨(), [], ?_⟩
          conv => whnf
          repeat' (first | exact True.intro | rfl | refine And.intro ?_ ?_)
        · conv => whnf
          simp only [decide_eq_true_eq, decide_eq_false_iff_not, Bool.not_eq_true', Bool.not_eq_false'] at *
          exfalso
          have : hitOk F T C L = true := by simp only [hitOk, Bool.and_eq_true, decide_eq_true_eq, g1, true_and]; omega
          rw [h] at this; cases this
end Go.Proofs.Ytniniiibgfodbaa

set_option linter.unusedVariables false
set_option linter.unusedSimpArgs false
namespace Go.Proofs.Ytniniiibgfodbaa
open Go Go.Fw
theorem take_next {α : Type} (l : List α) (k : Nat) (d : α) (h : k < l.length) : l.take (k + 1) = l.take k ++ [l.getD k d] := by
  rw [List.take_succ_eq_append_getElem h]; simp [List.getD, h]
noncomputable def c12 : Code := (Try.f12.body).getD .skip
def inv12 (A : List Int) (n ca cb : Nat) : LInv := ⟨Nat, fun k => ⟨anyTo 26 [.slice 0 0 n ca, .slice 1 0 n cb, .any, .any, .any, .int .i64 k], [.seg false (.ints .i64 A), .seg false (.ints .i64 A)]⟩, fun k => k ≤ n, fun k => n - k⟩
set_option maxRecDepth 100000 in
theorem same_q (A : List Int) (n ca cb : Nat) (hn : n = A.length) (hN : n ≤ 4611686018427387904) :
    QFits Try.prog 12 ⟨[.slice 0 0 n ca, .slice 1 0 n cb], [.seg false (.ints .i64 A), .seg false (.ints .i64 A)], .bool true⟩ := by
  refine qfits_of_body (C := cfgk 2) (c := c12) (ts := [4]) tok mixed (fun | 4 => some (inv12 A n ca cb) | _ => none) (fun _ => none)
    Try.func12 (by kernel_rfl) (by kernel_rfl) (by kernel_rfl) (by kernel_rfl) (by kernel_rfl) rfl rfl ?_
  conv => whnf
  refine tst_in (fun h_ => False.elim (by simp at h_ <;> omega)) (fun _ => ?_)
  conv => whnf
  refine ⟨⟨[0, 1], (0 : Nat), ?_, Nat.zero_le _⟩, ?_⟩
  · conv => whnf
    repeat' (first | exact True.intro | rfl | refine And.intro ?_ ?_)
  · intro (k : Nat) (hk : k ≤ n)
    conv => whnf
    refine tst_in (fun hlt => ?_) (fun hge => ?_)
    · skip
      have hlt : k < n := by simp at hlt; omega
      conv => whnf
      refine ⟨by repeat' (first | omega | (simp only [i64max]; omega) | refine And.intro ?_ ?_), ?_⟩
      conv => whnf
      refine ⟨by repeat' (first | omega | (simp only [i64max]; omega) | refine And.intro ?_ ?_), ?_⟩
      conv => whnf
      refine ⟨by repeat' (first | omega | (simp only [i64max]; omega) | refine And.intro ?_ ?_), ?_⟩
      conv => whnf
      refine ⟨by repeat' (first | omega | (simp only [i64max]; omega) | refine And.intro ?_ ?_), ?_⟩
      conv => whnf
      refine tst_in (fun hne => ?_) (fun he => ?_)
      · simp at hne
      · skip
        conv => whnf
        refine ⟨by repeat' (first | omega | (simp only [i64max]; omega) | refine And.intro ?_ ?_), ?_⟩
        conv => whnf
        refine ⟨[0, 1], k + 1, ?_, ?_, ?_⟩
        · conv => whnf
          repeat' (first | exact True.intro | rfl | refine And.intro ?_ ?_)
        · show k + 1 ≤ n
          omega
        · show n - (k + 1) < n - k
          omega
    · conv => whnf
      repeat' (first | exact True.intro | rfl | refine And.intro ?_ ?_)
theorem same_nil : QFits Try.prog 12 ⟨[.nils, .nils], [], .bool true⟩ := by
  refine qfits_of_body (C := cfgk 0) (c := c12) (ts := [4]) tok mixed (fun | 4 => some ⟨Unit, fun _ => ⟨anyTo 26 [.nils, .nils, .any, .any, .any, .int .i64 0], []⟩, fun _ => True, fun _ => 0⟩ | _ => none) (fun _ => none)
    Try.func12 (by kernel_rfl) (by kernel_rfl) (by kernel_rfl) (by kernel_rfl) (by kernel_rfl) rfl rfl ?_
  conv => whnf
  refine ⟨⟨[], (), ?_, True.intro⟩, ?_⟩
  · conv => whnf
    repeat' (first | exact True.intro | rfl | refine And.intro ?_ ?_)
  · intro _ _
    conv => whnf
    repeat' (first | exact True.intro | rfl | refine And.intro ?_ ?_)
end Go.Proofs.Ytniniiibgfodbaa

set_option linter.unusedVariables false
set_option linter.unusedSimpArgs false
namespace Go.Proofs.Ytniniiibgfodbaa
open Go Go.Fw
def lawSpec (w a c l p F T : Int) : FSpec := ⟨[.int .i64 w, .int .i64 a, .int .i64 c, .int .i64 l, .int .i64 p, .int .i64 F, .int .i64 T], [], [⟨Unit, fun _ => True, fun _ => .bool true, fun _ => []⟩]⟩
def sl27 (X Y Z : AV) (i j : AV) : List AV := anyTo 153 (anyTo 25 [] ++ [X, .any, Y, .any, Z, .any, i, j])
def inv11b : LInv := ⟨Unit, fun _ => ⟨sl27 .nils .nils .nils (.int .i64 0) .any, []⟩, fun _ => True, fun _ => 0⟩
def st15b : Nat → List Int → St
  | 0, _ => ⟨sl27 .nils .nils .nils .any (.int .i64 0), []⟩
  | k + 1, tl => ⟨sl27 .nils (.slice 0 0 (k + 1) (k + 1 + tl.length)) .nils .any (.int .i64 (k + 1 : Nat)), [.seg true (.ints .i64 (List.replicate (k + 1) (-2) ++ tl))]⟩
def inv15b : LInv := ⟨Nat × List Int, fun p => st15b p.1 p.2, fun p => p.1 ≤ 20, fun p => 20 - p.1⟩
noncomputable def c3 : Code := (Try.f3.body).getD .skip
set_option maxRecDepth 100000 in
theorem law_bad (w a c l p F T : Int) (h : hitOk F T c l = false) : Fits Try.prog 3 (lawSpec w a c l p F T) := by
  refine fits_of_body (C := cfgk 0) (c := c3) (ts := [14]) tok mixed (fun | 11 => some inv11b | 15 => some inv15b | _ => none) (fun _ => none)
    Try.func3 (by kernel_rfl) (by kernel_rfl) (by kernel_rfl) (by kernel_rfl) rfl ?_
  conv => whnf
  refine ⟨_, [], Place_q6 w a c l, ?_⟩
  conv => whnf
  refine ⟨?_, ?_, ?_⟩
  · conv => whnf
    repeat' (first | exact True.intro | rfl | refine And.intro ?_ ?_ | omega)
    all_goals (conv => whnf)
    all_goals (try (first | rfl | omega | (simp; done)))
  · conv => whnf
    repeat' (first | exact True.intro | rfl | refine And.intro ?_ ?_ | omega)
    all_goals (conv => whnf)
    all_goals (try (first | rfl | omega | (simp; done)))
  conv => whnf
  refine ⟨_, [], Place_q7 w a c l, ?_⟩
  conv => whnf
  refine ⟨?_, ?_, ?_⟩
  · conv => whnf
    repeat' (first | exact True.intro | rfl | refine And.intro ?_ ?_ | omega)
    all_goals (conv => whnf)
    all_goals (try (first | rfl | omega | (simp; done)))
  · conv => whnf
    repeat' (first | exact True.intro | rfl | refine And.intro ?_ ?_ | omega)
    all_goals (conv => whnf)
    all_goals (try (first | rfl | omega | (simp; done)))
  conv => whnf
  refine ⟨_, [], Back_q8 p c l, ?_⟩
  conv => whnf
  refine ⟨?_, ?_, ?_⟩
  · conv => whnf
    repeat' (first | exact True.intro | rfl | refine And.intro ?_ ?_ | omega)
    all_goals (conv => whnf)
    all_goals (try (first | rfl | omega | (simp; done)))
  · conv => whnf
    repeat' (first | exact True.intro | rfl | refine And.intro ?_ ?_ | omega)
    all_goals (conv => whnf)
    all_goals (try (first | rfl | omega | (simp; done)))
  conv => whnf
  refine ⟨_, [], Back_q9 p c l, ?_⟩
  conv => whnf
  refine ⟨?_, ?_, ?_⟩
  · conv => whnf
    repeat' (first | exact True.intro | rfl | refine And.intro ?_ ?_ | omega)
    all_goals (conv => whnf)
    all_goals (try (first | rfl | omega | (simp; done)))
  · conv => whnf
    repeat' (first | exact True.intro | rfl | refine And.intro ?_ ?_ | omega)
    all_goals (conv => whnf)
    all_goals (try (first | rfl | omega | (simp; done)))
  conv => whnf
  refine ⟨_, [], Hit_b10 F T c l h, ?_⟩
  conv => whnf
  refine ⟨?_, ?_, ?_⟩
  · conv => whnf
    repeat' (first | exact True.intro | rfl | refine And.intro ?_ ?_ | omega)
    all_goals (conv => whnf)
    all_goals (try (first | rfl | omega | (simp; done)))
  · conv => whnf
    repeat' (first | exact True.intro | rfl | refine And.intro ?_ ?_ | omega)
    all_goals (conv => whnf)
    all_goals (try (first | rfl | omega | (simp; done)))
  conv => whnf
  refine ⟨?_, True.intro⟩
  intro _ _
  conv => whnf
  refine ⟨_, [], Hit_b11 F T c l h, ?_⟩
  conv => whnf
  refine ⟨?_, ?_, ?_⟩
  · conv => whnf
    repeat' (first | exact True.intro | rfl | refine And.intro ?_ ?_ | omega)
    all_goals (conv => whnf)
    all_goals (try (first | rfl | omega | (simp; done)))
  · conv => whnf
    repeat' (first | exact True.intro | rfl | refine And.intro ?_ ?_ | omega)
    all_goals (conv => whnf)
    all_goals (try (first | rfl | omega | (simp; done)))
  conv => whnf
  refine ⟨?_, True.intro⟩
  intro _ _
  conv => whnf
  refine ⟨_, [], Hit_b11 F T c l h, ?_⟩
  conv => whnf
  refine ⟨?_, ?_, ?_⟩
  · conv => whnf
    repeat' (first | exact True.intro | rfl | refine And.intro ?_ ?_ | omega)
    all_goals (conv => whnf)
    all_goals (try (first | rfl | omega | (simp; done)))
  · conv => whnf
    repeat' (first | exact True.intro | rfl | refine And.intro ?_ ?_ | omega)
    all_goals (conv => whnf)
    all_goals (try (first | rfl | omega | (simp; done)))
  conv => whnf
  refine ⟨?_, True.intro⟩
  intro _ _
  conv => whnf
  refine tst_in (fun h_ => False.elim (by simp at h_ <;> omega)) (fun _ => ?_)
  conv => whnf
  refine tst_in (fun h_ => False.elim (by simp at h_ <;> omega)) (fun _ => ?_)
  conv => whnf
  refine tst_in (fun h_ => False.elim (by simp at h_ <;> omega)) (fun _ => ?_)
  conv => whnf
  refine tst_in (fun h_ => False.elim (by simp at h_ <;> omega)) (fun _ => ?_)
  conv => whnf
  refine tst_in (fun h_ => False.elim (by simp at h_ <;> omega)) (fun _ => ?_)
  conv => whnf
  refine ⟨_, [], same_nil, ?_⟩
  conv => whnf
  refine ⟨?_, ?_, ?_⟩
  · conv => whnf
    repeat' (first | exact True.intro | rfl | refine And.intro ?_ ?_ | omega)
    all_goals (conv => whnf)
    all_goals (try (first | rfl | omega | (simp; done)))
  · conv => whnf
    repeat' (first | exact True.intro | rfl | refine And.intro ?_ ?_ | omega)
    all_goals (conv => whnf)
    all_goals (try (first | rfl | omega | (simp; done)))
  conv => whnf
  refine ⟨_, [], same_nil, ?_⟩
  conv => whnf
  refine ⟨?_, ?_, ?_⟩
  · conv => whnf
    repeat' (first | exact True.intro | rfl | refine And.intro ?_ ?_ | omega)
    all_goals (conv => whnf)
    all_goals (try (first | rfl | omega | (simp; done)))
  · conv => whnf
    repeat' (first | exact True.intro | rfl | refine And.intro ?_ ?_ | omega)
    all_goals (conv => whnf)
    all_goals (try (first | rfl | omega | (simp; done)))
  conv => whnf
  refine ⟨⟨[], (), ?_, True.intro⟩, ?_⟩
  · conv => whnf
    repeat' (first | exact True.intro | rfl | refine And.intro ?_ ?_)
  · intro _ _
    conv => whnf
    refine ⟨⟨[], ((0, []) : Nat × List Int), ?_, Nat.zero_le _⟩, ?_⟩
    · conv => whnf
      repeat' (first | exact True.intro | rfl | refine And.intro ?_ ?_)
    · rintro ⟨k, tl⟩ hk
      have hk : k ≤ 20 := hk
      cases k with
      | zero =>
        conv => whnf
        repeat (refine And.intro ?_ ?_; (focus (first | omega | ((conv => whnf); omega) | (simp [mulSz, Cont.len]; done) | (simp [mulSz, Cont.len]; omega))); conv => whnf)
        intro (tl2 : List Int)
        conv => whnf
        repeat (refine And.intro ?_ ?_; (focus (first | omega | ((conv => whnf); omega) | (simp [mulSz, Cont.len]; done) | (simp [mulSz, Cont.len]; omega))); conv => whnf)
        refine ⟨[1], ((1, tl2) : Nat × List Int), ?_, ?_, ?_⟩
        · conv => whnf
          repeat' (first | exact True.intro | rfl | refine And.intro ?_ ?_)
        · show 1 ≤ 20
          omega
        · show 20 - 1 < 20 - 0
          omega
      | succ k =>
        conv => whnf
        refine tst_in (fun hlt => ?_) (fun hge => ?_)
        · skip
          have hlt : k + 1 < 20 := by simp at hlt; omega
          conv => whnf
          repeat (refine And.intro ?_ ?_; (focus (first | omega | ((conv => whnf); omega) | (simp [mulSz, Cont.len]; done) | (simp [mulSz, Cont.len]; omega))); conv => whnf)
          intro (tl2 : List Int)
          conv => whnf
          repeat (refine And.intro ?_ ?_; (focus (first | omega | ((conv => whnf); omega) | (simp [mulSz, Cont.len]; done) | (simp [mulSz, Cont.len]; omega))); conv => whnf)
          refine ⟨[2], ((k + 1 + 1, tl2) : Nat × List Int), ?_, ?_, ?_⟩
          · conv => whnf
            repeat' (first | exact True.intro | rfl | refine And.intro ?_ ?_)
            conv => whnf
            show List.replicate (k + 1 + 1) (-2) ++ tl2 = ((List.replicate (k + 1) (-2) ++ tl).drop 0).take (k + 1) ++ (([-2] : List Int).drop 0).take 1 ++ tl2
            rw [List.drop_zero, List.take_left' (by simp), List.replicate_succ' (n := k + 1)]
            rfl
          · exact hlt
          · show 20 - (k + 1 + 1) < 20 - (k + 1)
            omega
        · skip
          obtain rfl : k = 19 := by simp at hge; omega
          conv => whnf
          refine ⟨_, [], same_nil, ?_⟩
          conv => whnf
          refine ⟨?_, ?_, ?_⟩
          · conv => whnf
            repeat' (first | exact True.intro | rfl | refine And.intro ?_ ?_ | omega)
            all_goals (conv => whnf)
            all_goals (try (first | rfl | omega | (simp; done)))
          · conv => whnf
            repeat' (first | exact True.intro | rfl | refine And.intro ?_ ?_ | omega)
            all_goals (conv => whnf)
            all_goals (try (first | rfl | omega | (simp; done)))
          conv => whnf
          conv => whnf
          repeat (refine And.intro ?_ ?_; (focus (first | omega | ((conv => whnf); omega) | (simp [mulSz, Cont.len]; done) | (simp [mulSz, Cont.len]; omega))); conv => whnf)
          refine .inl ⟨(), [], ?_⟩
          conv => whnf
          repeat' (first | exact True.intro | rfl | refine And.intro ?_ ?_)
          all_goals (conv => whnf)
end Go.Proofs.Ytniniiibgfodbaa

set_option linter.unusedVariables false
set_option linter.unusedSimpArgs false
namespace Go.Proofs.Ytniniiibgfodbaa
open Go Go.Fw
def inv11g (A : List Int) : LInv := ⟨Nat, fun k => ⟨sl27 (.slice 0 0 A.length A.length) (.slice 1 0 A.length A.length) (.slice 2 0 A.length A.length) (.int .i64 k) .any, [.seg true (.ints .i64 A), .seg true (.ints .i64 (List.replicate k (-1) ++ A.drop k)), .seg true (.ints .i64 A)]⟩, fun k => k ≤ A.length, fun k => A.length - k⟩
def st15g (A : List Int) : Nat → List Int → St
  | 0, _ => ⟨sl27 (.slice 0 0 A.length A.length) (.slice 2 0 A.length A.length) (.slice 1 0 A.length A.length) .any (.int .i64 0), [.seg true (.ints .i64 A), .seg true (.ints .i64 A), .seg true (.ints .i64 (List.replicate A.length (-1)))]⟩
  | k + 1, tl => ⟨sl27 (.slice 0 0 A.length A.length) (.slice 2 0 (A.length + (k + 1)) (A.length + (k + 1) + tl.length)) (.slice 1 0 A.length A.length) .any (.int .i64 (k + 1 : Nat)), [.seg true (.ints .i64 A), .seg true (.ints .i64 A), .seg true (.ints .i64 (List.replicate A.length (-1) ++ List.replicate (k + 1) (-2) ++ tl))]⟩
def inv15g (A : List Int) : LInv := ⟨Nat × List Int, fun p => st15g A p.1 p.2, fun p => p.1 ≤ 20, fun p => 20 - p.1⟩
theorem fill_next (A : List Int) (k : Nat) (h : k < A.length) : (List.replicate k (-1) ++ A.drop k).set k (-1) = List.replicate (k + 1) (-1 : Int) ++ A.drop (k + 1) := by
  rw [List.drop_eq_getElem_cons h, List.set_append_right _ _ (by simp)]
  simp only [List.length_replicate, Nat.sub_self, List.set_cons_zero, List.replicate_succ', List.append_assoc]
  rfl
set_option maxRecDepth 100000 in
theorem law_ok (w a c l p F T : Int) (h : hitOk F T c l = true) : Fits Try.prog 3 (lawSpec w a c l p F T) := by
  have h0 := h
  simp only [hitOk, Bool.and_eq_true, decide_eq_true_eq] at h0
  obtain ⟨h1, h2, h3, h4⟩ := h0
  obtain ⟨g1, g2, g3, g4⟩ := okW_iff.1 h1
  obtain ⟨f, hf⟩ := Int.eq_ofNat_of_zero_le h2
  obtain ⟨t, ht⟩ := Int.eq_ofNat_of_zero_le (show 0 ≤ T by omega)
  obtain ⟨n, hn⟩ := Int.eq_ofNat_of_zero_le (show 0 ≤ c by omega)
  have f10 := Hit_f10 F T c l f t n hf ht hn h
  have f11 := Hit_f11 F T c l f t n hf ht hn h
  have hl := hit_len n f (t - f)
  generalize hit n f (t - f) = A at f10 f11 hl
  have hA : A.length ≤ 255 := by omega
  clear hl hf ht hn
  refine fits_of_body (C := cfgk 0) (c := c3) (ts := [14]) tok mixed (fun | 11 => some (inv11g A) | 15 => some (inv15g A) | _ => none) (fun _ => none)
    Try.func3 (by kernel_rfl) (by kernel_rfl) (by kernel_rfl) (by kernel_rfl) rfl ?_
  conv => whnf
  refine ⟨_, [], Place_q6 w a c l, ?_⟩
  conv => whnf
  refine ⟨?_, ?_, ?_⟩
  · conv => whnf
    repeat' (first | exact True.intro | rfl | refine And.intro ?_ ?_ | omega)
    all_goals (conv => whnf)
    all_goals (try (first | rfl | omega | (simp; done)))
  · conv => whnf
    repeat' (first | exact True.intro | rfl | refine And.intro ?_ ?_ | omega)
    all_goals (conv => whnf)
    all_goals (try (first | rfl | omega | (simp; done)))
  conv => whnf
  refine ⟨_, [], Place_q7 w a c l, ?_⟩
  conv => whnf
  refine ⟨?_, ?_, ?_⟩
  · conv => whnf
    repeat' (first | exact True.intro | rfl | refine And.intro ?_ ?_ | omega)
    all_goals (conv => whnf)
    all_goals (try (first | rfl | omega | (simp; done)))
  · conv => whnf
    repeat' (first | exact True.intro | rfl | refine And.intro ?_ ?_ | omega)
    all_goals (conv => whnf)
    all_goals (try (first | rfl | omega | (simp; done)))
  conv => whnf
  refine ⟨_, [], Back_q8 p c l, ?_⟩
  conv => whnf
  refine ⟨?_, ?_, ?_⟩
  · conv => whnf
    repeat' (first | exact True.intro | rfl | refine And.intro ?_ ?_ | omega)
    all_goals (conv => whnf)
    all_goals (try (first | rfl | omega | (simp; done)))
  · conv => whnf
    repeat' (first | exact True.intro | rfl | refine And.intro ?_ ?_ | omega)
    all_goals (conv => whnf)
    all_goals (try (first | rfl | omega | (simp; done)))
  conv => whnf
  refine ⟨_, [], Back_q9 p c l, ?_⟩
  conv => whnf
  refine ⟨?_, ?_, ?_⟩
  · conv => whnf
    repeat' (first | exact True.intro | rfl | refine And.intro ?_ ?_ | omega)
    all_goals (conv => whnf)
    all_goals (try (first | rfl | omega | (simp; done)))
  · conv => whnf
    repeat' (first | exact True.intro | rfl | refine And.intro ?_ ?_ | omega)
    all_goals (conv => whnf)
    all_goals (try (first | rfl | omega | (simp; done)))
  conv => whnf
  refine ⟨_, [], f10, ?_⟩
  conv => whnf
  refine ⟨?_, ?_, ?_⟩
  · conv => whnf
    repeat' (first | exact True.intro | rfl | refine And.intro ?_ ?_ | omega)
    all_goals (conv => whnf)
    all_goals (try (first | rfl | omega | (simp; done)))
  · conv => whnf
    repeat' (first | exact True.intro | rfl | refine And.intro ?_ ?_ | omega)
    all_goals (conv => whnf)
    all_goals (try (first | rfl | omega | (simp; done)))
  conv => whnf
  refine ⟨?_, True.intro⟩
  intro _ _
  conv => whnf
  refine ⟨_, [], f11, ?_⟩
  conv => whnf
  refine ⟨?_, ?_, ?_⟩
  · conv => whnf
    repeat' (first | exact True.intro | rfl | refine And.intro ?_ ?_ | omega)
    all_goals (conv => whnf)
    all_goals (try (first | rfl | omega | (simp; done)))
  · conv => whnf
    repeat' (first | exact True.intro | rfl | refine And.intro ?_ ?_ | omega)
    all_goals (conv => whnf)
    all_goals (try (first | rfl | omega | (simp; done)))
  conv => whnf
  refine ⟨?_, True.intro⟩
  intro _ _
  conv => whnf
  refine ⟨_, [], f11, ?_⟩
  conv => whnf
  refine ⟨?_, ?_, ?_⟩
  · conv => whnf
    repeat' (first | exact True.intro | rfl | refine And.intro ?_ ?_ | omega)
    all_goals (conv => whnf)
    all_goals (try (first | rfl | omega | (simp; done)))
  · conv => whnf
    repeat' (first | exact True.intro | rfl | refine And.intro ?_ ?_ | omega)
    all_goals (conv => whnf)
    all_goals (try (first | rfl | omega | (simp; done)))
  conv => whnf
  refine ⟨?_, True.intro⟩
  intro _ _
  conv => whnf
  refine tst_in (fun h_ => False.elim (by simp at h_ <;> omega)) (fun _ => ?_)
  conv => whnf
  refine tst_in (fun h_ => False.elim (by simp at h_ <;> omega)) (fun _ => ?_)
  conv => whnf
  refine tst_in (fun h_ => False.elim (by simp at h_ <;> omega)) (fun _ => ?_)
  conv => whnf
  refine tst_in (fun h_ => False.elim (by simp at h_ <;> omega)) (fun _ => ?_)
  conv => whnf
  refine tst_in (fun h_ => False.elim (by simp at h_ <;> omega)) (fun _ => ?_)
  conv => whnf
  refine ⟨_, [1, 0], same_q A A.length A.length A.length rfl (by omega), ?_⟩
  conv => whnf
  refine ⟨?_, ?_, ?_⟩
  · conv => whnf
    repeat' (first | exact True.intro | rfl | refine And.intro ?_ ?_ | omega)
  · conv => whnf
    repeat' (first | exact True.intro | rfl | refine And.intro ?_ ?_ | omega)
  conv => whnf
  refine ⟨_, [2, 0], same_q A A.length A.length A.length rfl (by omega), ?_⟩
  conv => whnf
  refine ⟨?_, ?_, ?_⟩
  · conv => whnf
    repeat' (first | exact True.intro | rfl | refine And.intro ?_ ?_ | omega)
  · conv => whnf
    repeat' (first | exact True.intro | rfl | refine And.intro ?_ ?_ | omega)
  conv => whnf
  refine ⟨⟨[0, 1, 2], (0 : Nat), ?_, Nat.zero_le _⟩, ?_⟩
  · conv => whnf
    repeat' (first | exact True.intro | rfl | refine And.intro ?_ ?_)
  · intro (k : Nat) (hk : k ≤ A.length)
    conv => whnf
    refine tst_in (fun hlt => ?_) (fun hge => ?_)
    · skip
      have hlt : k < A.length := by simp at hlt; omega
      conv => whnf
      refine ⟨by repeat' (first | omega | (simp only [i64max]; omega) | refine And.intro ?_ ?_), ?_⟩
      conv => whnf
      have hlen : (List.replicate k (-1) ++ A.drop k).length = A.length := by simp; omega
      refine ⟨by repeat' (first | omega | (simp only [i64max]; omega) | refine And.intro ?_ ?_), ?_⟩
      conv => whnf
      refine ⟨by repeat' (first | omega | (simp only [i64max]; omega) | refine And.intro ?_ ?_), ?_⟩
      conv => whnf
      refine ⟨[0, 1, 2], k + 1, ?_, ?_, ?_⟩
      · conv => whnf
        repeat' (first | exact True.intro | rfl | refine And.intro ?_ ?_)
        show List.replicate (k + 1) (-1) ++ A.drop (k + 1) = (List.replicate k (-1) ++ A.drop k).set (0 + k) (-1)
        rw [Nat.zero_add, fill_next A k hlt]
      · show k + 1 ≤ A.length
        omega
      · show A.length - (k + 1) < A.length - k
        omega
    · skip
      have hge : k = A.length := by simp at hge; omega
      subst hge
      conv => whnf
      refine ⟨⟨[0, 2, 1], ((0, []) : Nat × List Int), ?_, Nat.zero_le _⟩, ?_⟩
      · conv => whnf
        repeat' (first | exact True.intro | rfl | refine And.intro ?_ ?_)
        all_goals (show List.replicate A.length (-1) = List.replicate A.length (-1) ++ A.drop A.length; simp)
      · rintro ⟨k, tl⟩ hk
        have hk : k ≤ 20 := hk
        cases k with
        | zero =>
          conv => whnf
          repeat (refine And.intro ?_ ?_; (focus (first | omega | ((conv => whnf); omega) | (simp [mulSz, Cont.len]; done) | (simp [mulSz, Cont.len]; omega))); conv => whnf)
          intro (tl2 : List Int)
          conv => whnf
          repeat (refine And.intro ?_ ?_; (focus (first | omega | ((conv => whnf); omega) | (simp [mulSz, Cont.len]; done) | (simp [mulSz, Cont.len]; omega))); conv => whnf)
          refine ⟨[0, 1, 4], ((1, tl2) : Nat × List Int), ?_, ?_, ?_⟩
          · conv => whnf
            repeat' (first | exact True.intro | rfl | refine And.intro ?_ ?_)
            conv => whnf
            show List.replicate A.length (-1) ++ List.replicate 1 (-2) ++ tl2 = ((List.replicate A.length (-1 : Int)).drop 0).take A.length ++ (([-2] : List Int).drop 0).take 1 ++ tl2
            rw [List.drop_zero, List.take_of_length_le (by simp)]
            rfl
          · show 1 ≤ 20
            omega
          · show 20 - 1 < 20 - 0
            omega
        | succ k =>
          conv => whnf
          refine tst_in (fun hlt => ?_) (fun hge => ?_)
          · skip
            have hlt : k + 1 < 20 := by simp at hlt; omega
            conv => whnf
            repeat (refine And.intro ?_ ?_; (focus (first | omega | ((conv => whnf); omega) | (simp [mulSz, Cont.len]; done) | (simp [mulSz, Cont.len]; omega))); conv => whnf)
            intro (tl2 : List Int)
            conv => whnf
            repeat (refine And.intro ?_ ?_; (focus (first | omega | ((conv => whnf); omega) | (simp [mulSz, Cont.len]; done) | (simp [mulSz, Cont.len]; omega))); conv => whnf)
            refine ⟨[0, 1, 4], ((k + 1 + 1, tl2) : Nat × List Int), ?_, ?_, ?_⟩
            · conv => whnf
              repeat' (first | exact True.intro | rfl | refine And.intro ?_ ?_)
              conv => whnf
              show List.replicate A.length (-1) ++ List.replicate (k + 1 + 1) (-2) ++ tl2 = ((List.replicate A.length (-1) ++ List.replicate (k + 1) (-2) ++ tl).drop 0).take (A.length + (k + 1)) ++ (([-2] : List Int).drop 0).take 1 ++ tl2
              rw [List.drop_zero, List.take_left' (by simp), List.replicate_succ' (n := k + 1)]
              simp
            · exact hlt
            · show 20 - (k + 1 + 1) < 20 - (k + 1)
              omega
          · skip
            obtain rfl : k = 19 := by simp at hge; omega
            conv => whnf
            refine ⟨_, [1, 0], same_q A A.length A.length A.length rfl (by omega), ?_⟩
            conv => whnf
            refine ⟨?_, ?_, ?_⟩
            · conv => whnf
              repeat' (first | exact True.intro | rfl | refine And.intro ?_ ?_ | omega)
            · conv => whnf
              repeat' (first | exact True.intro | rfl | refine And.intro ?_ ?_ | omega)
            conv => whnf
            refine .inl ⟨(), [], ?_⟩
            conv => whnf
            repeat' (first | exact True.intro | rfl | refine And.intro ?_ ?_)
            all_goals (conv => whnf)
            all_goals (symm; simp; omega)
theorem law_f (w a c l p F T : Int) : Fits Try.prog 3 ⟨[.int .i64 w, .int .i64 a, .int .i64 c, .int .i64 l, .int .i64 p, .int .i64 F, .int .i64 T], [], [⟨Unit, fun _ => True, fun _ => .bool true, fun _ => []⟩]⟩ := by
  cases h : hitOk F T c l with
  | true => exact law_ok w a c l p F T h
  | false => exact law_bad w a c l p F T h
end Go.Proofs.Ytniniiibgfodbaa

namespace Go.Proofs.Ytniniiibgfodbaa
open Go Go.Fw
namespace weavePlaces
open Go.ChangeShapes Go.WideShapes Go.ChangeAt Go.RowKit
theorem own : ownKnob Try.prog.godebug = none := by kernel_rfl
theorem laid : laidOutB Try.prog = true := by kernel_rfl

set_option maxRecDepth 100000 in
theorem lifted (os : Os) (started : os.Started) (H : Type) (enc : TypeId × Value → H) :
    ReturnsInHanded {} Try.checked os 3 .any (Rows.weavePlacesSpec.pre6 enc Try.prog Try.f3 Rows.weavePlacesRow.domain false) (Rows.weavePlacesSpec.post enc Try.prog Try.f3 false true false false) := by
  refine returnsInHanded_of_change_sized (C := Try.checked) own started (by kernel_rfl) Try.func3
    (ChangeSpec.witness6 (enc := enc) (C := Try.checked) false ⟨#[], #[.int .i64 0, .int .i64 0, .int .i64 0, .int .i64 0, .int .i64 0, .int .i64 0, .int .i64 0], []⟩ 8 (by kernel_rfl) (by kernel_rfl) (by kernel_rfl) (by kernel_rfl)) ?_
  intro W base args ds gs before hval0 hW _ hsz0 _
  clear hsz0
  have hval : ∀ (j : Nat) t v, Try.f3.params[j]? = some t → args[j]? = some v → Value.okWide Try.prog W .any base t v := hval0
  have hW' := hW
  obtain ⟨p, q, hA0, hV, rfl, hfz, hnd⟩ := hW
  have hA : DataW.TrodAll enc Try.prog W 0 (fun _ => true) true Try.f3.params.toList args.toList ds p := hA0
  rw [Try.params3] at hA hval
  obtain ⟨v0, vs0, d0, ds0, p0, q0, hargs, rfl, rfl, h0, r0⟩ := trodAll_cons hA
  obtain ⟨v1, vs1, d1, ds1, p1, q1, rfl, rfl, rfl, h1, r1⟩ := trodAll_cons r0
  obtain ⟨v2, vs2, d2, ds2, p2, q2, rfl, rfl, rfl, h2, r2⟩ := trodAll_cons r1
  obtain ⟨v3, vs3, d3, ds3, p3, q3, rfl, rfl, rfl, h3, r3⟩ := trodAll_cons r2
  obtain ⟨v4, vs4, d4, ds4, p4, q4, rfl, rfl, rfl, h4, r4⟩ := trodAll_cons r3
  obtain ⟨v5, vs5, d5, ds5, p5, q5, rfl, rfl, rfl, h5, r5⟩ := trodAll_cons r4
  obtain ⟨v6, vs6, d6, ds6, p6, q6, rfl, rfl, rfl, h6, r6⟩ := trodAll_cons r5
  obtain ⟨rfl, rfl, rfl⟩ := trodAll_nil r6
  obtain rfl : args = #[v0, v1, v2, v3, v4, v5, v6] := by cases args; simp_all
  obtain ⟨rfl, rfl⟩ := trodVars_none hV
  obtain ⟨k0, rfl, rfl, rfl, w0⟩ := open_int Try.underlying3 (hval 0 3 v0 rfl rfl) h0
  obtain ⟨k1, rfl, rfl, rfl, w1⟩ := open_int Try.underlying3 (hval 1 3 v1 rfl rfl) h1
  obtain ⟨k2, rfl, rfl, rfl, w2⟩ := open_int Try.underlying3 (hval 2 3 v2 rfl rfl) h2
  obtain ⟨k3, rfl, rfl, rfl, w3⟩ := open_int Try.underlying3 (hval 3 3 v3 rfl rfl) h3
  obtain ⟨k4, rfl, rfl, rfl, w4⟩ := open_int Try.underlying3 (hval 4 3 v4 rfl rfl) h4
  obtain ⟨k5, rfl, rfl, rfl, w5⟩ := open_int Try.underlying3 (hval 5 3 v5 rfl rfl) h5
  obtain ⟨k6, rfl, rfl, rfl, w6⟩ := open_int Try.underlying3 (hval 6 3 v6 rfl rfl) h6
  clear hA0 hval0
  have walk := (law_f k0 k1 k2 k3 k4 k5 k6).calls W [] [.int .i64 k0, .int .i64 k1, .int .i64 k2, .int .i64 k3, .int .i64 k4, .int .i64 k5, .int .i64 k6] (heap_args rfl fun i s hs => by simp at hs) (by simp only [Dens]; exact ⟨_, _, rfl, by simp [Den], ⟨_, _, rfl, by simp [Den], ⟨_, _, rfl, by simp [Den], ⟨_, _, rfl, by simp [Den], ⟨_, _, rfl, by simp [Den], ⟨_, _, rfl, by simp [Den], ⟨_, _, rfl, by simp [Den], rfl⟩⟩⟩⟩⟩⟩⟩) (x := .bool true) (v := .bool true) rfl (by
      intro o ho y hy
      simp at ho
      subst ho; rfl)
  refine walk.mono fun e W' ⟨he, hg⟩ => ?_
  subst he
  exact ⟨_, rfl, law_done laid rfl rfl Try.underlying4 (by kernel_rfl) hW' rfl hg⟩

theorem over : Rows.weavePlacesRow.holds Try.pinned (OpenSpec.ofChange Rows.weavePlacesSpec) :=
  OpenClaim.holds_of_wide 3 Try.f3 rfl rfl rfl rfl rfl rfl rfl ⟨rfl, rfl, rfl, rfl, rfl⟩ rfl rfl rfl rfl rfl (by kernel_rfl) Try.func3 (by kernel_rfl)
    (of_decide_eq_true (by kernel_rfl)) (by unfold Func.isWrapper; first | (rw [if_pos (by decide +kernel)]; kernel_rfl) | (rw [if_neg (by decide +kernel)]; exact ⟨rfl, rfl⟩))
    (fun os started H enc _ => lifted os started H enc)

theorem proved : Rows.WeavePlacesSaid := over
end weavePlaces
end Go.Proofs.Ytniniiibgfodbaa
