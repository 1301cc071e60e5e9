/-
  Floats that are whole numbers over a power of two: sums, differences, products, comparisons are exact within the bound. No condition: each theorem states its own.
-/
import Derived.Laws.FloatArith
set_option linter.unusedSimpArgs false
set_option linter.unusedVariables false
namespace Go.Fw
open Go Ieee
abbrev D : Format := FloatKind.f64.format
/-- The bits b stand for x / 2 ^ q. -/
def V (q b : Nat) (x : Int) : Prop := ∃ s m P, D.read b = .number s m P ∧ signed s m (P + 1074).toNat = x * 2 ^ (1074 - q)
attribute [irreducible] V
end Go.Fw
