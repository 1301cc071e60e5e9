/-
  foghornlaw18.FieldNone returns true, whatever the memory it begins in. No condition.
-/
import Derived.Test.YtmfkbpccihnhiaaRows
import Derived.Test.YtmfkbpccihnhiaaGx
import Derived.WalkKit
import Derived.ProofKit
import Derived.OpenShut
set_option linter.unusedVariables false
set_option maxRecDepth 1000000
namespace Go.Proofs.Ytmfkbpccihnhiaa
open Go Go.Fw
def tys : List (Nat × TyI) := [
  (1, ⟨.func, 1, 8, .nilFunc⟩),
  (2, ⟨.int .i64, 1, 8, .int .i64 0⟩),
  (3, ⟨.int .i64, 1, 8, .int .i64 0⟩),
  (4, ⟨.bool, 1, 1, .bool false⟩),
  (5, ⟨.int .u8, 1, 1, .int .u8 0⟩),
  (9, ⟨.str, 1, 16, .string (ByteArray.mk #[])⟩),
  (12, ⟨.int .u64, 1, 8, .int .u64 0⟩),
  (21, ⟨.int .i32, 1, 4, .int .i32 0⟩),
  (22, ⟨.int .i64, 1, 8, .int .i64 0⟩),
  (24, ⟨.func, 1, 8, .nilFunc⟩),
  (25, ⟨.func, 1, 8, .nilFunc⟩),
  (27, ⟨.func, 1, 8, .nilFunc⟩),
  (28, ⟨.func, 1, 8, .nilFunc⟩),
  (29, ⟨.func, 1, 8, .nilFunc⟩),
  (30, ⟨.func, 1, 8, .nilFunc⟩),
  (31, ⟨.func, 1, 8, .nilFunc⟩),
  (32, ⟨.slice 5, 1, 24, .slice none 0 0⟩),
  (33, ⟨.func, 1, 8, .nilFunc⟩),
  (34, ⟨.func, 1, 8, .nilFunc⟩),
  (35, ⟨.func, 1, 8, .nilFunc⟩),
  (36, ⟨.func, 1, 8, .nilFunc⟩),
  (37, ⟨.slice 40, 1, 24, .slice none 0 0⟩),
  (38, ⟨.slice 41, 1, 24, .slice none 0 0⟩),
  (39, ⟨.struct [(0, 5), (1, 5)], 2, 2, .agg #[.int .u8 0, .int .u8 0]⟩),
  (40, ⟨.struct [(0, 5), (1, 5)], 2, 2, .agg #[.int .u8 0, .int .u8 0]⟩),
  (41, ⟨.struct [(0, 5), (1, 5)], 2, 2, .agg #[.int .u8 0, .int .u8 0]⟩),
  (43, ⟨.func, 1, 8, .nilFunc⟩),
  (44, ⟨.func, 1, 8, .nilFunc⟩),
  (45, ⟨.func, 1, 8, .nilFunc⟩),
  (46, ⟨.struct [(0, 5), (1, 5), (2, 5), (3, 21), (4, 21)], 5, 12, .agg #[.int .u8 0, .int .u8 0, .int .u8 0, .int .i32 0, .int .i32 0]⟩),
  (47, ⟨.struct [(0, 5), (1, 5), (2, 5), (3, 21), (4, 21)], 5, 12, .agg #[.int .u8 0, .int .u8 0, .int .u8 0, .int .i32 0, .int .i32 0]⟩),
  (48, ⟨.func, 1, 8, .nilFunc⟩),
  (49, ⟨.struct [(0, 32), (1, 32), (2, 32), (3, 5)], 4, 80, .agg #[.slice none 0 0, .slice none 0 0, .slice none 0 0, .int .u8 0]⟩),
  (50, ⟨.struct [(0, 32), (1, 32), (2, 32), (3, 5)], 4, 80, .agg #[.slice none 0 0, .slice none 0 0, .slice none 0 0, .int .u8 0]⟩),
  (51, ⟨.func, 1, 8, .nilFunc⟩),
  (52, ⟨.func, 1, 8, .nilFunc⟩),
  (53, ⟨.func, 1, 8, .nilFunc⟩),
  (55, ⟨.func, 1, 8, .nilFunc⟩),
  (56, ⟨.func, 1, 8, .nilFunc⟩),
  (57, ⟨.func, 1, 8, .nilFunc⟩),
  (58, ⟨.array 256 3, 256, 2048, .agg ⟨List.replicate 256 (.int .i64 0)⟩⟩),
  (59, ⟨.func, 1, 8, .nilFunc⟩),
  (60, ⟨.func, 1, 8, .nilFunc⟩),
  (61, ⟨.int .u64, 1, 8, .int .u64 0⟩),
  (62, ⟨.func, 1, 8, .nilFunc⟩),
  (63, ⟨.func, 1, 8, .nilFunc⟩),
  (64, ⟨.func, 1, 8, .nilFunc⟩),
  (65, ⟨.array 256 4, 256, 256, .agg ⟨List.replicate 256 (.bool false)⟩⟩),
  (66, ⟨.func, 1, 8, .nilFunc⟩),
  (68, ⟨.func, 1, 8, .nilFunc⟩),
  (69, ⟨.func, 1, 8, .nilFunc⟩),
  (70, ⟨.func, 1, 8, .nilFunc⟩),
  (71, ⟨.slice 32, 1, 24, .slice none 0 0⟩),
  (72, ⟨.func, 1, 8, .nilFunc⟩),
  (78, ⟨.func, 1, 8, .nilFunc⟩),
  (79, ⟨.int .u32, 1, 4, .int .u32 0⟩),
  (82, ⟨.func, 1, 8, .nilFunc⟩),
  (83, ⟨.ptr 5, 1, 8, .pointer none⟩)]


theorem tok : TOk Try.prog tys := tok_of ⟨⟨by kernel_rfl, by kernel_rfl⟩, ⟨by kernel_rfl, by kernel_rfl⟩, ⟨by kernel_rfl, by kernel_rfl⟩, ⟨by kernel_rfl, by kernel_rfl⟩, ⟨by kernel_rfl, by kernel_rfl⟩, ⟨by kernel_rfl, by kernel_rfl⟩, ⟨by kernel_rfl, by kernel_rfl⟩, ⟨by kernel_rfl, by kernel_rfl⟩, ⟨by kernel_rfl, by kernel_rfl⟩, ⟨by kernel_rfl, by kernel_rfl⟩, ⟨by kernel_rfl, by kernel_rfl⟩, ⟨by kernel_rfl, by kernel_rfl⟩, ⟨by kernel_rfl, by kernel_rfl⟩, ⟨by kernel_rfl, by kernel_rfl⟩, ⟨by kernel_rfl, by kernel_rfl⟩, ⟨by kernel_rfl, by kernel_rfl⟩, ⟨by kernel_rfl, by kernel_rfl⟩, ⟨by kernel_rfl, by kernel_rfl⟩, ⟨by kernel_rfl, by kernel_rfl⟩, ⟨by kernel_rfl, by kernel_rfl⟩, ⟨by kernel_rfl, by kernel_rfl⟩, ⟨by kernel_rfl, by kernel_rfl⟩, ⟨by kernel_rfl, by kernel_rfl⟩, ⟨by kernel_rfl, by kernel_rfl⟩, ⟨by kernel_rfl, by kernel_rfl⟩, ⟨by kernel_rfl, by kernel_rfl⟩, ⟨by kernel_rfl, by kernel_rfl⟩, ⟨by kernel_rfl, by kernel_rfl⟩, ⟨by kernel_rfl, by kernel_rfl⟩, ⟨by kernel_rfl, by kernel_rfl⟩, ⟨by kernel_rfl, by kernel_rfl⟩, ⟨by kernel_rfl, by kernel_rfl⟩, ⟨by kernel_rfl, by kernel_rfl⟩, ⟨by kernel_rfl, by kernel_rfl⟩, ⟨by kernel_rfl, by kernel_rfl⟩, ⟨by kernel_rfl, by kernel_rfl⟩, ⟨by kernel_rfl, by kernel_rfl⟩, ⟨by kernel_rfl, by kernel_rfl⟩, ⟨by kernel_rfl, by kernel_rfl⟩, ⟨by kernel_rfl, by kernel_rfl⟩, ⟨by kernel_rfl, by kernel_rfl⟩, ⟨by kernel_rfl, by kernel_rfl⟩, ⟨by kernel_rfl, by kernel_rfl⟩, ⟨by kernel_rfl, by kernel_rfl⟩, ⟨by kernel_rfl, by kernel_rfl⟩, ⟨by kernel_rfl, by kernel_rfl⟩, ⟨by kernel_rfl, by kernel_rfl⟩, ⟨by kernel_rfl, by kernel_rfl⟩, ⟨by kernel_rfl, by kernel_rfl⟩, ⟨by kernel_rfl, by kernel_rfl⟩, ⟨by kernel_rfl, by kernel_rfl⟩, ⟨by kernel_rfl, by kernel_rfl⟩, ⟨by kernel_rfl, by kernel_rfl⟩, ⟨by kernel_rfl, by kernel_rfl⟩, ⟨by kernel_rfl, by kernel_rfl⟩, ⟨by kernel_rfl, by kernel_rfl⟩, ⟨by kernel_rfl, by kernel_rfl⟩, ⟨by kernel_rfl, by kernel_rfl⟩, True.intro⟩
theorem mixed : Try.prog.follows .mixedOrders = true := by kernel_rfl
def inL : List Nat → Nat → Bool
  | [], _ => false
  | a :: r, n => match Nat.beq a n with | true => true | false => inL r n
def stl : Nat → Bool := inL [12, 18, 40, 41, 57, 58]
/- 9: foghorn/foghornlaw18.FieldNone -/
def p9 : Nat → Option PlanC := fun
  | 8 => some (.two 0 1 (.op 2 false (.op 3 false (.op 4 false (.op 5 false (.op 6 false (.op 7 false (.done))))))))
  | _ => none
def wl9 : Nat → List Nat := fun _ => []
def wj9 : Nat → Option (List Nat) := fun _ => none
def kr9 : Nat → List Nat := fun _ => []
noncomputable def e9 : Ent := entOf Try.f9 ⟨p9, wl9, wj9, kr9, []⟩
theorem g9 : EntOk Try.prog stl 9 e9 := .inr ⟨rfl, Try.func9, by kernel_rfl, by kernel_rfl, by kernel_rfl, by kernel_rfl, by kernel_rfl, rfl⟩
/- 12: foghorn/field.Power -/
def p12 : Nat → Option PlanC := fun _ => none
def wl12 : Nat → List Nat := fun _ => []
def wj12 : Nat → Option (List Nat) := fun _ => none
def kr12 : Nat → List Nat := fun _ => []
noncomputable def e12 : Ent := entOf Try.f12 ⟨p12, wl12, wj12, kr12, []⟩
theorem g12 : EntOk Try.prog stl 12 e12 := .inr ⟨rfl, Try.func12, by kernel_rfl, by kernel_rfl, by kernel_rfl, by kernel_rfl, by kernel_rfl, rfl⟩
/- 18: foghorn/field.Times -/
def p18 : Nat → Option PlanC := fun _ => none
def wl18 : Nat → List Nat := fun
  | 2 => [0, 1, 5]
  | _ => []
def wj18 : Nat → Option (List Nat) := fun _ => none
def kr18 : Nat → List Nat := fun _ => []
noncomputable def e18 : Ent := entOf Try.f18 ⟨p18, wl18, wj18, kr18, []⟩
theorem g18 : EntOk Try.prog stl 18 e18 := .inr ⟨rfl, Try.func18, by kernel_rfl, by kernel_rfl, by kernel_rfl, by kernel_rfl, by kernel_rfl, rfl⟩
/- 22: foghorn/foghornlaw18.awake -/
def p22 : Nat → Option PlanC := fun _ => none
def wl22 : Nat → List Nat := fun _ => []
def wj22 : Nat → Option (List Nat) := fun _ => none
def kr22 : Nat → List Nat := fun _ => []
noncomputable def e22 : Ent := entOf Try.f22 ⟨p22, wl22, wj22, kr22, []⟩
theorem g22 : EntOk Try.prog stl 22 e22 := .inr ⟨rfl, Try.func22, by kernel_rfl, by kernel_rfl, by kernel_rfl, by kernel_rfl, by kernel_rfl, rfl⟩
/- 26: foghorn/field.Through -/
def p26 : Nat → Option PlanC := fun
  | 16 => some (.op 0 false (.op 1 false (.op 2 false (.op 4 true (.alt 3 (.op 5 false (.op 6 false (.op 7 false (.done)))) (.alt 5 (.op 3 false (.op 6 false (.op 7 false (.done)))) (.fin)))))))
  | _ => none
def wl26 : Nat → List Nat := fun
  | 5 => [18]
  | 14 => [7, 8, 37]
  | _ => []
def wj26 : Nat → Option (List Nat) := fun _ => none
def kr26 : Nat → List Nat := fun _ => []
noncomputable def e26 : Ent := entOf Try.f26 ⟨p26, wl26, wj26, kr26, [4]⟩
theorem g26 : EntOk Try.prog stl 26 e26 := .inr ⟨rfl, Try.func26, by kernel_rfl, by kernel_rfl, by kernel_rfl, by kernel_rfl, by kernel_rfl, rfl⟩
/- 28: foghorn/foghornref18.Same -/
def p28 : Nat → Option PlanC := fun _ => none
def wl28 : Nat → List Nat := fun
  | 4 => [5]
  | _ => []
def wj28 : Nat → Option (List Nat) := fun _ => none
def kr28 : Nat → List Nat := fun _ => []
noncomputable def e28 : Ent := entOf Try.f28 ⟨p28, wl28, wj28, kr28, []⟩
theorem g28 : EntOk Try.prog stl 28 e28 := .inr ⟨rfl, Try.func28, by kernel_rfl, by kernel_rfl, by kernel_rfl, by kernel_rfl, by kernel_rfl, rfl⟩
/- 29: foghorn/field.Sum -/
def p29 : Nat → Option PlanC := fun _ => none
def wl29 : Nat → List Nat := fun _ => []
def wj29 : Nat → Option (List Nat) := fun _ => none
def kr29 : Nat → List Nat := fun _ => []
noncomputable def e29 : Ent := entOf Try.f29 ⟨p29, wl29, wj29, kr29, []⟩
theorem g29 : EntOk Try.prog stl 29 e29 := .inr ⟨rfl, Try.func29, by kernel_rfl, by kernel_rfl, by kernel_rfl, by kernel_rfl, by kernel_rfl, rfl⟩
/- 30: foghorn/field.Product -/
def p30 : Nat → Option PlanC := fun _ => none
def wl30 : Nat → List Nat := fun _ => []
def wj30 : Nat → Option (List Nat) := fun _ => none
def kr30 : Nat → List Nat := fun _ => []
noncomputable def e30 : Ent := entOf Try.f30 ⟨p30, wl30, wj30, kr30, []⟩
theorem g30 : EntOk Try.prog stl 30 e30 := .inr ⟨rfl, Try.func30, by kernel_rfl, by kernel_rfl, by kernel_rfl, by kernel_rfl, by kernel_rfl, rfl⟩
/- 31: foghorn/field.At -/
def p31 : Nat → Option PlanC := fun _ => none
def wl31 : Nat → List Nat := fun _ => []
def wj31 : Nat → Option (List Nat) := fun _ => none
def kr31 : Nat → List Nat := fun _ => []
noncomputable def e31 : Ent := entOf Try.f31 ⟨p31, wl31, wj31, kr31, []⟩
theorem g31 : EntOk Try.prog stl 31 e31 := .inr ⟨rfl, Try.func31, by kernel_rfl, by kernel_rfl, by kernel_rfl, by kernel_rfl, by kernel_rfl, rfl⟩
/- 33: foghorn/field.Divide -/
def p33 : Nat → Option PlanC := fun _ => none
def wl33 : Nat → List Nat := fun _ => []
def wj33 : Nat → Option (List Nat) := fun _ => none
def kr33 : Nat → List Nat := fun _ => []
noncomputable def e33 : Ent := entOf Try.f33 ⟨p33, wl33, wj33, kr33, []⟩
theorem g33 : EntOk Try.prog stl 33 e33 := .inr ⟨rfl, Try.func33, by kernel_rfl, by kernel_rfl, by kernel_rfl, by kernel_rfl, by kernel_rfl, rfl⟩
/- 35: foghorn/field.Gcd -/
def p35 : Nat → Option PlanC := fun _ => none
def wl35 : Nat → List Nat := fun
  | 4 => [6, 7]
  | _ => []
def wj35 : Nat → Option (List Nat) := fun
  | 9 => some [6]
  | _ => none
def kr35 : Nat → List Nat := fun _ => []
noncomputable def e35 : Ent := entOf Try.f35 ⟨p35, wl35, wj35, kr35, []⟩
theorem g35 : EntOk Try.prog stl 35 e35 := .inr ⟨rfl, Try.func35, by kernel_rfl, by kernel_rfl, by kernel_rfl, by kernel_rfl, by kernel_rfl, rfl⟩
/- 37: foghorn/field.Of -/
def p37 : Nat → Option PlanC := fun _ => none
def wl37 : Nat → List Nat := fun _ => []
def wj37 : Nat → Option (List Nat) := fun _ => none
def kr37 : Nat → List Nat := fun _ => []
noncomputable def e37 : Ent := entOf Try.f37 ⟨p37, wl37, wj37, kr37, []⟩
theorem g37 : EntOk Try.prog stl 37 e37 := .inr ⟨rfl, Try.func37, by kernel_rfl, by kernel_rfl, by kernel_rfl, by kernel_rfl, by kernel_rfl, rfl⟩
/- 38: foghorn/field.Roots -/
def p38 : Nat → Option PlanC := fun _ => none
def wl38 : Nat → List Nat := fun
  | 8 => [4, 14]
  | _ => []
def wj38 : Nat → Option (List Nat) := fun
  | 12 => some [4]
  | _ => none
def kr38 : Nat → List Nat := fun
  | 11 => [25]
  | _ => []
noncomputable def e38 : Ent := entOf Try.f38 ⟨p38, wl38, wj38, kr38, []⟩
theorem g38 : EntOk Try.prog stl 38 e38 := .inr ⟨rfl, Try.func38, by kernel_rfl, by kernel_rfl, by kernel_rfl, by kernel_rfl, by kernel_rfl, rfl⟩
/- 39: foghorn/field.Slope -/
def p39 : Nat → Option PlanC := fun _ => none
def wl39 : Nat → List Nat := fun
  | 5 => [5]
  | _ => []
def wj39 : Nat → Option (List Nat) := fun _ => none
def kr39 : Nat → List Nat := fun _ => []
noncomputable def e39 : Ent := entOf Try.f39 ⟨p39, wl39, wj39, kr39, []⟩
theorem g39 : EntOk Try.prog stl 39 e39 := .inr ⟨rfl, Try.func39, by kernel_rfl, by kernel_rfl, by kernel_rfl, by kernel_rfl, by kernel_rfl, rfl⟩
/- 40: foghorn/field.power -/
def p40 : Nat → Option PlanC := fun _ => none
def wl40 : Nat → List Nat := fun
  | 2 => [0, 1, 5]
  | _ => []
def wj40 : Nat → Option (List Nat) := fun
  | 6 => some [5]
  | _ => none
def kr40 : Nat → List Nat := fun _ => []
noncomputable def e40 : Ent := entOf Try.f40 ⟨p40, wl40, wj40, kr40, []⟩
theorem g40 : EntOk Try.prog stl 40 e40 := .inr ⟨rfl, Try.func40, by kernel_rfl, by kernel_rfl, by kernel_rfl, by kernel_rfl, by kernel_rfl, rfl⟩
/- 41: foghorn/field.turned -/
def p41 : Nat → Option PlanC := fun _ => none
def wl41 : Nat → List Nat := fun _ => []
def wj41 : Nat → Option (List Nat) := fun
  | 4 => some [0]
  | _ => none
def kr41 : Nat → List Nat := fun _ => []
noncomputable def e41 : Ent := entOf Try.f41 ⟨p41, wl41, wj41, kr41, []⟩
theorem g41 : EntOk Try.prog stl 41 e41 := .inr ⟨rfl, Try.func41, by kernel_rfl, by kernel_rfl, by kernel_rfl, by kernel_rfl, by kernel_rfl, rfl⟩
/- 51: foghorn/field.at -/
def p51 : Nat → Option PlanC := fun _ => none
def wl51 : Nat → List Nat := fun _ => []
def wj51 : Nat → Option (List Nat) := fun _ => none
def kr51 : Nat → List Nat := fun _ => []
noncomputable def e51 : Ent := entOf Try.f51 ⟨p51, wl51, wj51, kr51, []⟩
theorem g51 : EntOk Try.prog stl 51 e51 := .inr ⟨rfl, Try.func51, by kernel_rfl, by kernel_rfl, by kernel_rfl, by kernel_rfl, by kernel_rfl, rfl⟩
/- 52: foghorn/field.sum -/
def p52 : Nat → Option PlanC := fun _ => none
def wl52 : Nat → List Nat := fun
  | 4 => [19]
  | _ => []
def wj52 : Nat → Option (List Nat) := fun _ => none
def kr52 : Nat → List Nat := fun _ => []
noncomputable def e52 : Ent := entOf Try.f52 ⟨p52, wl52, wj52, kr52, []⟩
theorem g52 : EntOk Try.prog stl 52 e52 := .inr ⟨rfl, Try.func52, by kernel_rfl, by kernel_rfl, by kernel_rfl, by kernel_rfl, by kernel_rfl, rfl⟩
/- 53: foghorn/field.product -/
def p53 : Nat → Option PlanC := fun
  | 11 => some (.op 0 false (.op 1 false (.op 2 false (.op 3 false (.op 4 false (.op 5 false (.op 6 false (.op 7 false (.op 8 false (.op 9 false (.op 10 false (.op 11 false (.done)))))))))))))
  | _ => none
def wl53 : Nat → List Nat := fun
  | 6 => [31]
  | 9 => [38]
  | _ => []
def wj53 : Nat → Option (List Nat) := fun _ => none
def kr53 : Nat → List Nat := fun _ => []
noncomputable def e53 : Ent := entOf Try.f53 ⟨p53, wl53, wj53, kr53, []⟩
theorem g53 : EntOk Try.prog stl 53 e53 := .inr ⟨rfl, Try.func53, by kernel_rfl, by kernel_rfl, by kernel_rfl, by kernel_rfl, by kernel_rfl, rfl⟩
/- 57: foghorn/field.tooLong -/
def p57 : Nat → Option PlanC := fun _ => none
def wl57 : Nat → List Nat := fun
  | 2 => [7]
  | _ => []
def wj57 : Nat → Option (List Nat) := fun _ => none
def kr57 : Nat → List Nat := fun _ => []
noncomputable def e57 : Ent := entOf Try.f57 ⟨p57, wl57, wj57, kr57, []⟩
theorem g57 : EntOk Try.prog stl 57 e57 := .inr ⟨rfl, Try.func57, by kernel_rfl, by kernel_rfl, by kernel_rfl, by kernel_rfl, by kernel_rfl, rfl⟩
/- 58: foghorn/field.trimmed -/
def p58 : Nat → Option PlanC := fun _ => none
def wl58 : Nat → List Nat := fun
  | 2 => [3]
  | _ => []
def wj58 : Nat → Option (List Nat) := fun _ => none
def kr58 : Nat → List Nat := fun _ => []
noncomputable def e58 : Ent := entOf Try.f58 ⟨p58, wl58, wj58, kr58, []⟩
theorem g58 : EntOk Try.prog stl 58 e58 := .inr ⟨rfl, Try.func58, by kernel_rfl, by kernel_rfl, by kernel_rfl, by kernel_rfl, by kernel_rfl, rfl⟩
/- 59: foghorn/field.divided -/
def p59 : Nat → Option PlanC := fun
  | 11 => some (.op 0 false (.op 1 false (.op 2 false (.op 3 false (.op 4 false (.op 5 false (.op 6 false (.op 7 false (.op 8 false (.op 9 false (.op 10 false (.op 11 false (.op 12 false (.op 13 false (.op 14 false (.done))))))))))))))))
  | _ => none
def wl59 : Nat → List Nat := fun
  | 5 => [7]
  | 9 => [51]
  | _ => []
def wj59 : Nat → Option (List Nat) := fun _ => none
def kr59 : Nat → List Nat := fun _ => []
noncomputable def e59 : Ent := entOf Try.f59 ⟨p59, wl59, wj59, kr59, []⟩
theorem g59 : EntOk Try.prog stl 59 e59 := .inr ⟨rfl, Try.func59, by kernel_rfl, by kernel_rfl, by kernel_rfl, by kernel_rfl, by kernel_rfl, rfl⟩
/- 60: foghorn/field.of -/
def p60 : Nat → Option PlanC := fun
  | 10 => some (.op 0 false (.op 1 false (.op 2 false (.op 3 false (.op 4 false (.op 5 false (.op 6 false (.op 7 false (.op 8 false (.op 9 false (.op 10 false (.op 11 false (.op 12 false (.op 13 false (.op 14 false (.op 15 false (.done)))))))))))))))))
  | _ => none
def wl60 : Nat → List Nat := fun
  | 4 => [3, 15]
  | 8 => [6]
  | _ => []
def wj60 : Nat → Option (List Nat) := fun _ => none
def kr60 : Nat → List Nat := fun
  | 6 => [20]
  | _ => []
noncomputable def e60 : Ent := entOf Try.f60 ⟨p60, wl60, wj60, kr60, []⟩
theorem g60 : EntOk Try.prog stl 60 e60 := .inr ⟨rfl, Try.func60, by kernel_rfl, by kernel_rfl, by kernel_rfl, by kernel_rfl, by kernel_rfl, rfl⟩
/- 63: foghorn/field.fromEnd -/
def p63 : Nat → Option PlanC := fun _ => none
def wl63 : Nat → List Nat := fun
  | 1 => [4]
  | _ => []
def wj63 : Nat → Option (List Nat) := fun _ => none
def kr63 : Nat → List Nat := fun _ => []
noncomputable def e63 : Ent := entOf Try.f63 ⟨p63, wl63, wj63, kr63, []⟩
theorem g63 : EntOk Try.prog stl 63 e63 := .inr ⟨rfl, Try.func63, by kernel_rfl, by kernel_rfl, by kernel_rfl, by kernel_rfl, by kernel_rfl, rfl⟩
/- 64: foghorn/field.at$1 -/
def p64 : Nat → Option PlanC := fun _ => none
def wl64 : Nat → List Nat := fun _ => []
def wj64 : Nat → Option (List Nat) := fun _ => none
def kr64 : Nat → List Nat := fun _ => []
noncomputable def e64 : Ent := entOf Try.f64 ⟨p64, wl64, wj64, kr64, []⟩
theorem g64 : EntOk Try.prog stl 64 e64 := .inr ⟨rfl, Try.func64, by kernel_rfl, by kernel_rfl, by kernel_rfl, by kernel_rfl, by kernel_rfl, rfl⟩
noncomputable def ents : List (Nat × Ent) := [(9, e9), (12, e12), (18, e18), (22, e22), (26, e26), (28, e28), (29, e29), (30, e30), (31, e31), (33, e33), (35, e35), (37, e37), (38, e38), (39, e39), (40, e40), (41, e41), (51, e51), (52, e52), (53, e53), (57, e57), (58, e58), (59, e59), (60, e60), (63, e63), (64, e64)]
theorem goods : EntsOk Try.prog stl ents := ⟨g9, g12, g18, g22, g26, g28, g29, g30, g31, g33, g35, g37, g38, g39, g40, g41, g51, g52, g53, g57, g58, g59, g60, g63, g64, True.intro⟩
noncomputable def tab : Nat → Option Ent := (tabOf ents).get
theorem fok : FOk Try.prog stl tab := fok_of goods
noncomputable def d0 : Disp := .leaf
theorem d0_ok : CallSim Try.prog tys stl tab d0.fn := Disp.sim True.intro
/- foghorn/field.Times -/
noncomputable def R18 (q_bitW : (Nat → Nat → Nat) → Nat → Nat → Option CV → W → W → (W → Bool) → Bool) (q_cmpW : (Nat → Nat → Bool) → Nat → Option CV → W → W → (W → Bool) → Bool) (q_shlW : Nat → Nat → Nat → Option CV → W → W → (W → Bool) → Bool) (q_shrW : Nat → Nat → Option CV → W → W → (W → Bool) → Bool) (q_negW : Nat → Nat → Bool → Option CV → W → (W → Bool) → Bool) (q_condW : W → Bool → Bool → Bool) (fu : Nat) (call : CallW) (a0 : W) (a1 : W) (h0 : HW) (c0 : Nat) (K : KW) : Bool :=
@Nat.rec (fun _ => Fun 3) (fun _ _ _ _ _ => false) (fun _ f6 v1 v2 v3 h4 c5 =>
q_cmpW (cmpF2 .neq) 4 (binC Try.prog .neq 5 (.tmp 7) (.const (.int .u8 (.ofNat 0))) (dec v2) (dec ⟨4, 0, r0, []⟩)) v2 ⟨4, 0, r0, []⟩ fun v7 =>
q_condW v7 (
q_bitW Nat.land 4 255 (binC Try.prog .and 5 (.tmp 13) (.const (.int .u8 (.ofNat 1))) (dec v2) (dec ⟨4, 1, r0, []⟩)) v2 ⟨4, 1, r0, []⟩ fun v8 =>
q_negW 4 255 true (two Try.prog (dec v8) (Op.unary .neg)) v8 fun v9 =>
q_bitW Nat.land 4 255 (binC Try.prog .and 5 (.tmp 12) (.tmp 15) (dec v1) (dec v9)) v1 v9 fun v10 =>
q_bitW Nat.xor 4 255 (binC Try.prog .xor 5 (.tmp 11) (.tmp 16) (dec v3) (dec v10)) v3 v10 fun v11 =>
q_shrW 4 8 (binC Try.prog .shr 5 (.tmp 18) (.const (.int .u64 (.ofNat 7))) (dec v1) (dec ⟨7, 7, r0, []⟩)) v1 ⟨7, 7, r0, []⟩ fun v12 =>
q_negW 4 255 true (two Try.prog (dec v12) (Op.unary .neg)) v12 fun v13 =>
q_bitW Nat.land 4 255 (binC Try.prog .and 5 (.const (.int .u8 (.ofNat 29))) (.tmp 20) (dec ⟨4, 29, r0, []⟩) (dec v13)) ⟨4, 29, r0, []⟩ v13 fun v14 =>
q_shlW 4 255 8 (binC Try.prog .shl 5 (.tmp 22) (.const (.int .u64 (.ofNat 1))) (dec v1) (dec ⟨7, 1, r0, []⟩)) v1 ⟨7, 1, r0, []⟩ fun v15 =>
q_bitW Nat.xor 4 255 (binC Try.prog .xor 5 (.tmp 24) (.tmp 25) (dec v15) (dec v14)) v15 v14 fun v16 =>
q_shrW 4 8 (binC Try.prog .shr 5 (.tmp 9) (.const (.int .u64 (.ofNat 1))) (dec v2) (dec ⟨7, 1, r0, []⟩)) v2 ⟨7, 1, r0, []⟩ fun v17 =>
f6 v16 v17 v11 h4 c5) (
K v3 h4 c5)) fu a0 a1 ⟨4, 0, r0, []⟩ h0 c0
theorem R18_eq (Q : PrimW) (fu : Nat) (call : CallW) : curryA 2 (fnK Q Try.prog tys stl fu call e18) = R18 Q.bitW Q.cmpW Q.shlW Q.shrW Q.negW Q.condW fu call := by kernel_rfl
noncomputable def n18 : List W → HW → Nat → KW → Bool := appF 2 (R18 bitW cmpW shlW shrW negW condW 1000000 d0.fn)
theorem n18_ok : FnGood Try.prog tys stl tab 18 n18 := node_ok d0_ok (by kernel_rfl) rfl g18 (R18_eq real _ _)
/- foghorn/foghornref18.Same -/
noncomputable def R28 (q_addW : Nat → Nat → Option CV → W → W → (W → Bool) → Bool) (q_cmpW : (Nat → Nat → Bool) → Nat → Option CV → W → W → (W → Bool) → Bool) (q_condW : W → Bool → Bool → Bool) (q_idxSW : Nat → W → W → (W → Bool) → Bool) (q_lenW : Option CV → W → (W → Bool) → Bool) (q_loadSW : HW → W → (W → Bool) → Bool) (fu : Nat) (call : CallW) (a0 : W) (a1 : W) (h0 : HW) (c0 : Nat) (K : KW) : Bool :=
q_lenW (lenC tys 32 (dec a0)) a0 fun v1 =>
q_lenW (lenC tys 32 (dec a1)) a1 fun v2 =>
q_cmpW (cmpF2 .neq) 3 (binC Try.prog .neq 3 (.tmp 7) (.tmp 9) (dec v1) (dec v2)) v1 v2 fun v3 =>
q_condW v3 (
K ⟨8, 0, r0, []⟩ h0 c0) (
@Nat.rec (fun _ => Fun 1) (fun _ _ _ => false) (fun _ f7 v4 h5 c6 =>
q_lenW (lenC tys 32 (dec a0)) a0 fun v8 =>
q_cmpW (cmpF2 .lss) 3 (binC Try.prog .lss 3 (.tmp 11) (.tmp 13) (dec v4) (dec v8)) v4 v8 fun v9 =>
q_condW v9 (
q_idxSW 1 a0 v4 fun v10 =>
q_loadSW h5 v10 fun v11 =>
q_idxSW 1 a1 v4 fun v12 =>
q_loadSW h5 v12 fun v13 =>
q_cmpW (cmpF2 .neq) 4 (binC Try.prog .neq 5 (.tmp 20) (.tmp 24) (dec v11) (dec v13)) v11 v13 fun v14 =>
q_condW v14 (
K ⟨8, 0, r0, []⟩ h5 c6) (
q_addW 3 9223372036854775807 (binC Try.prog .add 3 (.tmp 15) (.const (.int .i64 (.ofNat 1))) (dec v4) (dec ⟨3, 1, r0, []⟩)) v4 ⟨3, 1, r0, []⟩ fun v15 =>
f7 v15 h5 c6)) (
K ⟨8, 1, r0, []⟩ h5 c6)) fu ⟨3, 0, r0, []⟩ h0 c0)
theorem R28_eq (Q : PrimW) (fu : Nat) (call : CallW) : curryA 2 (fnK Q Try.prog tys stl fu call e28) = R28 Q.addW Q.cmpW Q.condW Q.idxSW Q.lenW Q.loadSW fu call := by kernel_rfl
noncomputable def n28 : List W → HW → Nat → KW → Bool := appF 2 (R28 addW cmpW condW idxSW lenW loadSW 1000000 d0.fn)
theorem n28_ok : FnGood Try.prog tys stl tab 28 n28 := node_ok d0_ok (by kernel_rfl) rfl g28 (R28_eq real _ _)
/- foghorn/field.turned -/
noncomputable def R41 (q_share : (α : Type) → α → (α → Bool) → Bool) (q_addW : Nat → Nat → Option CV → W → W → (W → Bool) → Bool) (q_remW : Nat → Nat → Option CV → W → W → (W → Bool) → Bool) (q_cmpW : (Nat → Nat → Bool) → Nat → Option CV → W → W → (W → Bool) → Bool) (q_condW : W → Bool → Bool → Bool) (fu : Nat) (call : CallW) (a0 : W) (h0 : HW) (c0 : Nat) (K : KW) : Bool :=
q_remW 3 9223372036854775807 (binC Try.prog .rem 3 (.tmp 3) (.const (.int .i64 (.ofNat 255))) (dec a0) (dec ⟨3, 255, r0, []⟩)) a0 ⟨3, 255, r0, []⟩ fun v1 =>
q_share _ (fun (v2 : W) (h3 : HW) (c4 : Nat) =>
K v2 h3 c4) fun f5 =>
q_cmpW (cmpF2 .lss) 3 (binC Try.prog .lss 3 (.tmp 5) (.const (.int .i64 (.ofNat 0))) (dec v1) (dec ⟨3, 0, r0, []⟩)) v1 ⟨3, 0, r0, []⟩ fun v6 =>
q_condW v6 (
q_addW 3 9223372036854775807 (binC Try.prog .add 3 (.tmp 7) (.const (.int .i64 (.ofNat 255))) (dec v1) (dec ⟨3, 255, r0, []⟩)) v1 ⟨3, 255, r0, []⟩ fun v7 =>
f5 v7 h0 c0) (
f5 v1 h0 c0)
theorem R41_eq (Q : PrimW) (fu : Nat) (call : CallW) : curryA 1 (fnK Q Try.prog tys stl fu call e41) = R41 Q.share Q.addW Q.remW Q.cmpW Q.condW fu call := by kernel_rfl
noncomputable def n41 : List W → HW → Nat → KW → Bool := appF 1 (R41 (fun _ x f => f x) addW remW cmpW condW 1000000 d0.fn)
theorem n41_ok : FnGood Try.prog tys stl tab 41 n41 := node_ok d0_ok (by kernel_rfl) rfl g41 (R41_eq real _ _)
/- foghorn/field.tooLong -/
noncomputable def R57 (q_addW : Nat → Nat → Option CV → W → W → (W → Bool) → Bool) (q_cmpW : (Nat → Nat → Bool) → Nat → Option CV → W → W → (W → Bool) → Bool) (q_condW : W → Bool → Bool → Bool) (q_idxSW : Nat → W → W → (W → Bool) → Bool) (q_lenW : Option CV → W → (W → Bool) → Bool) (q_loadSW : HW → W → (W → Bool) → Bool) (fu : Nat) (call : CallW) (a0 : W) (h0 : HW) (c0 : Nat) (K : KW) : Bool :=
q_lenW (lenC tys 71 (dec a0)) a0 fun v1 =>
@Nat.rec (fun _ => Fun 1) (fun _ _ _ => false) (fun _ f5 v2 h3 c4 =>
q_cmpW (cmpF2 .lss) 3 (binC Try.prog .lss 3 (.tmp 7) (.tmp 6) (dec v2) (dec v1)) v2 v1 fun v6 =>
q_condW v6 (
q_idxSW 1 a0 v2 fun v7 =>
q_loadSW h3 v7 fun v8 =>
q_lenW (lenC tys 32 (dec v8)) v8 fun v9 =>
q_cmpW (cmpF2 .gtr) 3 (binC Try.prog .gtr 3 (.tmp 12) (.const (.int .i64 (.ofNat 512))) (dec v9) (dec ⟨3, 512, r0, []⟩)) v9 ⟨3, 512, r0, []⟩ fun v10 =>
q_condW v10 (
K ⟨8, 1, r0, []⟩ h3 c4) (
q_addW 3 9223372036854775807 (binC Try.prog .add 3 (.tmp 7) (.const (.int .i64 (.ofNat 1))) (dec v2) (dec ⟨3, 1, r0, []⟩)) v2 ⟨3, 1, r0, []⟩ fun v11 =>
f5 v11 h3 c4)) (
K ⟨8, 0, r0, []⟩ h3 c4)) fu ⟨3, 0, r0, []⟩ h0 c0
theorem R57_eq (Q : PrimW) (fu : Nat) (call : CallW) : curryA 1 (fnK Q Try.prog tys stl fu call e57) = R57 Q.addW Q.cmpW Q.condW Q.idxSW Q.lenW Q.loadSW fu call := by kernel_rfl
noncomputable def n57 : List W → HW → Nat → KW → Bool := appF 1 (R57 addW cmpW condW idxSW lenW loadSW 1000000 d0.fn)
theorem n57_ok : FnGood Try.prog tys stl tab 57 n57 := node_ok d0_ok (by kernel_rfl) rfl g57 (R57_eq real _ _)
/- foghorn/field.trimmed -/
noncomputable def R58 (q_share : (α : Type) → α → (α → Bool) → Bool) (q_genW : Option CV → (W → Bool) → Bool) (q_subW : Nat → Nat → Option CV → W → W → (W → Bool) → Bool) (q_cmpW : (Nat → Nat → Bool) → Nat → Option CV → W → W → (W → Bool) → Bool) (q_condW : W → Bool → Bool → Bool) (q_guardW : Bool → W → Bool → Bool → Bool) (q_pickW : W → W → W → (W → Bool) → Bool) (q_idxSW : Nat → W → W → (W → Bool) → Bool) (q_lenW : Option CV → W → (W → Bool) → Bool) (q_loadSW : HW → W → (W → Bool) → Bool) (fu : Nat) (call : CallW) (a0 : W) (h0 : HW) (c0 : Nat) (K : KW) : Bool :=
q_lenW (lenC tys 32 (dec a0)) a0 fun v1 =>
@Nat.rec (fun _ => Fun 1) (fun _ _ _ => false) (fun _ f5 v2 h3 c4 =>
q_cmpW (cmpF2 .gtr) 3 (binC Try.prog .gtr 3 (.tmp 6) (.const (.int .i64 (.ofNat 0))) (dec v2) (dec ⟨3, 0, r0, []⟩)) v2 ⟨3, 0, r0, []⟩ fun v6 =>
q_share _ (fun (v8 : W) (h9 : HW) (c10 : Nat) =>
q_share _ (fun (v12 : W) (h13 : HW) (c14 : Nat) =>
q_share _ (fun (v16 : W) (h17 : HW) (c18 : Nat) =>
q_share _ (fun (v20 : W) (h21 : HW) (c22 : Nat) =>
q_share _ (fun (v24 : W) (h25 : HW) (c26 : Nat) =>
q_share _ (fun (v28 : W) (h29 : HW) (c30 : Nat) =>
q_pickW v6 v28 ⟨8, 0, r0, []⟩ fun v31 =>
q_condW v31 (
q_subW 3 9223372036854775807 (binC Try.prog .sub 3 (.tmp 16) (.const (.int .i64 (.ofNat 1))) (dec v2) (dec ⟨3, 1, r0, []⟩)) v2 ⟨3, 1, r0, []⟩ fun v32 =>
f5 v32 h29 c30) (
q_genW (sliceC tys 32 (dec a0) none (some (dec v2)) none) fun v33 =>
K v33 h29 c30)) fun f27 =>
q_guardW true v6 (q_cmpW (cmpF2 .eql) 4 (binC Try.prog .eql 5 (.tmp 13) (.const (.int .u8 (.ofNat 0))) (dec v24) (dec ⟨4, 0, r0, []⟩)) v24 ⟨4, 0, r0, []⟩ fun v34 =>
f27 v34 h25 c26) (f27 wUnd h25 c26)) fun f23 =>
q_guardW true v6 (q_loadSW h21 v20 fun v35 =>
f23 v35 h21 c22) (f23 wUnd h21 c22)) fun f19 =>
q_guardW true v6 (q_idxSW 1 v8 v16 fun v36 =>
f19 v36 h17 c18) (f19 wUnd h17 c18)) fun f15 =>
q_guardW true v6 (q_subW 3 9223372036854775807 (binC Try.prog .sub 3 (.tmp 10) (.const (.int .i64 (.ofNat 1))) (dec v12) (dec ⟨3, 1, r0, []⟩)) v12 ⟨3, 1, r0, []⟩ fun v37 =>
f15 v37 h13 c14) (f15 wUnd h13 c14)) fun f11 =>
q_guardW true v6 (f11 v2 h9 c10) (f11 wUnd h9 c10)) fun f7 =>
q_guardW true v6 (f7 a0 h3 c4) (f7 wUnd h3 c4)) fu v1 h0 c0
theorem R58_eq (Q : PrimW) (fu : Nat) (call : CallW) : curryA 1 (fnK Q Try.prog tys stl fu call e58) = R58 Q.share Q.genW Q.subW Q.cmpW Q.condW Q.guardW Q.pickW Q.idxSW Q.lenW Q.loadSW fu call := by kernel_rfl
noncomputable def n58 : List W → HW → Nat → KW → Bool := appF 1 (R58 (fun _ x f => f x) genW subW cmpW condW guardW pickW idxSW lenW loadSW 1000000 d0.fn)
theorem n58_ok : FnGood Try.prog tys stl tab 58 n58 := node_ok d0_ok (by kernel_rfl) rfl g58 (R58_eq real _ _)
noncomputable def d1 : Disp := (.node 41 n41 (.node 28 n28 (.node 18 n18 .leaf .leaf) .leaf) (.node 58 n58 (.node 57 n57 .leaf .leaf) .leaf))
theorem d1_ok : CallSim Try.prog tys stl tab d1.fn := Disp.sim ⟨n41_ok, ⟨n28_ok, ⟨n18_ok, True.intro, True.intro⟩, True.intro⟩, ⟨n58_ok, ⟨n57_ok, True.intro, True.intro⟩, True.intro⟩⟩
/- foghorn/field.Slope -/
noncomputable def R39 (q_addW : Nat → Nat → Option CV → W → W → (W → Bool) → Bool) (q_subW : Nat → Nat → Option CV → W → W → (W → Bool) → Bool) (q_cmpW : (Nat → Nat → Bool) → Nat → Option CV → W → W → (W → Bool) → Bool) (q_condW : W → Bool → Bool → Bool) (q_idxSW : Nat → W → W → (W → Bool) → Bool) (q_lenW : Option CV → W → (W → Bool) → Bool) (q_loadSW : HW → W → (W → Bool) → Bool) (q_storeSW : HW → W → W → (HW → Bool) → Bool) (q_makeSW : Nat → Nat → Nat → Kind → List W → Bool → HW → Nat → W → W → KW → Bool) (q_buildSW : Nat → Nat → Kind → Nat → Bool → HW → Nat → Nat → List W → KW → Bool) (fu : Nat) (call : CallW) (a0 : W) (h0 : HW) (c0 : Nat) (K : KW) : Bool :=
q_buildSW 1 9 .avs 1 true h0 c0 1 [a0] fun v1 h2 c3 =>
call 57 [v1] h2 c3 fun v4 h5 c6 =>
q_condW v4 (
K ⟨13, 0, r0, [⟨12, 0, ⟨0, 0, 0, .nils⟩, []⟩, ⟨3, 1, r0, []⟩]⟩ h5 c6) (
q_lenW (lenC tys 32 (dec a0)) a0 fun v7 =>
q_makeSW 1 1 4 (.ints .u8) [⟨4, 0, r0, []⟩] true h5 c6 v7 v7 fun v8 h9 c10 =>
@Nat.rec (fun _ => Fun 1) (fun _ _ _ => false) (fun _ f14 v11 h12 c13 =>
q_lenW (lenC tys 32 (dec a0)) a0 fun v15 =>
q_cmpW (cmpF2 .lss) 3 (binC Try.prog .lss 3 (.tmp 12) (.tmp 14) (dec v11) (dec v15)) v11 v15 fun v16 =>
q_condW v16 (
q_subW 3 9223372036854775807 (binC Try.prog .sub 3 (.tmp 19) (.const (.int .i64 (.ofNat 1))) (dec v11) (dec ⟨3, 1, r0, []⟩)) v11 ⟨3, 1, r0, []⟩ fun v17 =>
q_idxSW 1 a0 v11 fun v18 =>
q_loadSW h12 v18 fun v19 =>
q_idxSW 1 v8 v17 fun v20 =>
q_storeSW h12 v20 v19 fun h21 =>
q_addW 3 9223372036854775807 (binC Try.prog .add 3 (.tmp 16) (.const (.int .i64 (.ofNat 2))) (dec v11) (dec ⟨3, 2, r0, []⟩)) v11 ⟨3, 2, r0, []⟩ fun v22 =>
f14 v22 h21 c13) (
call 58 [v8] h12 c13 fun v23 h24 c25 =>
K ⟨13, 0, r0, [v23, ⟨3, 0, r0, []⟩]⟩ h24 c25)) fu ⟨3, 1, r0, []⟩ h9 c10)
theorem R39_eq (Q : PrimW) (fu : Nat) (call : CallW) : curryA 1 (fnK Q Try.prog tys stl fu call e39) = R39 Q.addW Q.subW Q.cmpW Q.condW Q.idxSW Q.lenW Q.loadSW Q.storeSW Q.makeSW Q.buildSW fu call := by kernel_rfl
noncomputable def n39 : List W → HW → Nat → KW → Bool := appF 1 (R39 addW subW cmpW condW idxSW lenW loadSW storeSW makeSW buildSW 1000000 d1.fn)
theorem n39_ok : FnGood Try.prog tys stl tab 39 n39 := node_ok d1_ok (by kernel_rfl) rfl g39 (R39_eq real _ _)
/- foghorn/field.power -/
noncomputable def R40 (q_share : (α : Type) → α → (α → Bool) → Bool) (q_bitW : (Nat → Nat → Nat) → Nat → Nat → Option CV → W → W → (W → Bool) → Bool) (q_cmpW : (Nat → Nat → Bool) → Nat → Option CV → W → W → (W → Bool) → Bool) (q_shrW : Nat → Nat → Option CV → W → W → (W → Bool) → Bool) (q_condW : W → Bool → Bool → Bool) (fu : Nat) (call : CallW) (a0 : W) (a1 : W) (h0 : HW) (c0 : Nat) (K : KW) : Bool :=
@Nat.rec (fun _ => Fun 3) (fun _ _ _ _ _ => false) (fun _ f6 v1 v2 v3 h4 c5 =>
q_cmpW (cmpF2 .gtr) 3 (binC Try.prog .gtr 3 (.tmp 6) (.const (.int .i64 (.ofNat 0))) (dec v2) (dec ⟨3, 0, r0, []⟩)) v2 ⟨3, 0, r0, []⟩ fun v7 =>
q_condW v7 (
q_share _ (fun (v8 : W) (h9 : HW) (c10 : Nat) =>
call 18 [v1, v1] h9 c10 fun v12 h13 c14 =>
q_shrW 3 64 (binC Try.prog .shr 3 (.tmp 8) (.const (.int .u64 (.ofNat 1))) (dec v2) (dec ⟨7, 1, r0, []⟩)) v2 ⟨7, 1, r0, []⟩ fun v15 =>
f6 v12 v15 v8 h13 c14) fun f11 =>
q_bitW Nat.land 3 9223372036854775807 (binC Try.prog .and 3 (.tmp 10) (.const (.int .i64 (.ofNat 1))) (dec v2) (dec ⟨3, 1, r0, []⟩)) v2 ⟨3, 1, r0, []⟩ fun v16 =>
q_cmpW (cmpF2 .neq) 3 (binC Try.prog .neq 3 (.tmp 11) (.const (.int .i64 (.ofNat 0))) (dec v16) (dec ⟨3, 0, r0, []⟩)) v16 ⟨3, 0, r0, []⟩ fun v17 =>
q_condW v17 (
call 18 [v3, v1] h4 c5 fun v18 h19 c20 =>
f11 v18 h19 c20) (
f11 v3 h4 c5)) (
K v3 h4 c5)) fu a0 a1 ⟨4, 1, r0, []⟩ h0 c0
theorem R40_eq (Q : PrimW) (fu : Nat) (call : CallW) : curryA 2 (fnK Q Try.prog tys stl fu call e40) = R40 Q.share Q.bitW Q.cmpW Q.shrW Q.condW fu call := by kernel_rfl
noncomputable def n40 : List W → HW → Nat → KW → Bool := appF 2 (R40 (fun _ x f => f x) bitW cmpW shrW condW 1000000 d1.fn)
theorem n40_ok : FnGood Try.prog tys stl tab 40 n40 := node_ok d1_ok (by kernel_rfl) rfl g40 (R40_eq real _ _)
/- foghorn/field.sum -/
noncomputable def R52 (q_genW : Option CV → (W → Bool) → Bool) (q_addW : Nat → Nat → Option CV → W → W → (W → Bool) → Bool) (q_bitW : (Nat → Nat → Nat) → Nat → Nat → Option CV → W → W → (W → Bool) → Bool) (q_cmpW : (Nat → Nat → Bool) → Nat → Option CV → W → W → (W → Bool) → Bool) (q_condW : W → Bool → Bool → Bool) (q_idxSW : Nat → W → W → (W → Bool) → Bool) (q_lenW : Option CV → W → (W → Bool) → Bool) (q_loadSW : HW → W → (W → Bool) → Bool) (q_storeSW : HW → W → W → (HW → Bool) → Bool) (q_makeSW : Nat → Nat → Nat → Kind → List W → Bool → HW → Nat → W → W → KW → Bool) (q_cpySW : Nat → HW → Nat → W → W → KW → Bool) (fu : Nat) (call : CallW) (a0 : W) (a1 : W) (h0 : HW) (c0 : Nat) (K : KW) : Bool :=
q_lenW (lenC tys 32 (dec a0)) a0 fun v1 =>
q_lenW (lenC tys 32 (dec a1)) a1 fun v2 =>
q_genW (two2 Try.prog (dec v1) (dec v2) fun v u => Builtin.max_ #[3, 3] 3 #[v, u]) fun v3 =>
q_makeSW 1 1 4 (.ints .u8) [⟨4, 0, r0, []⟩] true h0 c0 v3 v3 fun v4 h5 c6 =>
q_cpySW 1 h5 c6 v4 a0 fun v7 h8 c9 =>
q_lenW (lenC tys 32 (dec a1)) a1 fun v10 =>
@Nat.rec (fun _ => Fun 1) (fun _ _ _ => false) (fun _ f14 v11 h12 c13 =>
q_cmpW (cmpF2 .lss) 3 (binC Try.prog .lss 3 (.tmp 19) (.tmp 18) (dec v11) (dec v10)) v11 v10 fun v15 =>
q_condW v15 (
q_idxSW 1 a1 v11 fun v16 =>
q_loadSW h12 v16 fun v17 =>
q_idxSW 1 v4 v11 fun v18 =>
q_loadSW h12 v18 fun v19 =>
q_bitW Nat.xor 4 255 (binC Try.prog .xor 5 (.tmp 27) (.tmp 28) (dec v19) (dec v17)) v19 v17 fun v20 =>
q_idxSW 1 v4 v11 fun v21 =>
q_storeSW h12 v21 v20 fun h22 =>
q_addW 3 9223372036854775807 (binC Try.prog .add 3 (.tmp 19) (.const (.int .i64 (.ofNat 1))) (dec v11) (dec ⟨3, 1, r0, []⟩)) v11 ⟨3, 1, r0, []⟩ fun v23 =>
f14 v23 h22 c13) (
call 58 [v4] h12 c13 fun v24 h25 c26 =>
K v24 h25 c26)) fu ⟨3, 0, r0, []⟩ h8 c9
theorem R52_eq (Q : PrimW) (fu : Nat) (call : CallW) : curryA 2 (fnK Q Try.prog tys stl fu call e52) = R52 Q.genW Q.addW Q.bitW Q.cmpW Q.condW Q.idxSW Q.lenW Q.loadSW Q.storeSW Q.makeSW Q.cpySW fu call := by kernel_rfl
noncomputable def n52 : List W → HW → Nat → KW → Bool := appF 2 (R52 genW addW bitW cmpW condW idxSW lenW loadSW storeSW makeSW cpySW 1000000 d1.fn)
theorem n52_ok : FnGood Try.prog tys stl tab 52 n52 := node_ok d1_ok (by kernel_rfl) rfl g52 (R52_eq real _ _)
/- foghorn/field.product -/
noncomputable def R53 (q_share : (α : Type) → α → (α → Bool) → Bool) (q_addW : Nat → Nat → Option CV → W → W → (W → Bool) → Bool) (q_subW : Nat → Nat → Option CV → W → W → (W → Bool) → Bool) (q_bitW : (Nat → Nat → Nat) → Nat → Nat → Option CV → W → W → (W → Bool) → Bool) (q_cmpW : (Nat → Nat → Bool) → Nat → Option CV → W → W → (W → Bool) → Bool) (q_condW : W → Bool → Bool → Bool) (q_guardW : Bool → W → Bool → Bool → Bool) (q_pickW : W → W → W → (W → Bool) → Bool) (q_idxSW : Nat → W → W → (W → Bool) → Bool) (q_lenW : Option CV → W → (W → Bool) → Bool) (q_knownW : W → Bool → Bool) (q_loadSW : HW → W → (W → Bool) → Bool) (q_storeSW : HW → W → W → (HW → Bool) → Bool) (q_makeSW : Nat → Nat → Nat → Kind → List W → Bool → HW → Nat → W → W → KW → Bool) (fu : Nat) (call : CallW) (a0 : W) (a1 : W) (h0 : HW) (c0 : Nat) (K : KW) : Bool :=
call 58 [a0] h0 c0 fun v1 h2 c3 =>
call 58 [a1] h2 c3 fun v4 h5 c6 =>
q_lenW (lenC tys 32 (dec v1)) v1 fun v7 =>
q_cmpW (cmpF2 .eql) 3 (binC Try.prog .eql 3 (.tmp 15) (.const (.int .i64 (.ofNat 0))) (dec v7) (dec ⟨3, 0, r0, []⟩)) v7 ⟨3, 0, r0, []⟩ fun v8 =>
q_share _ (fun (v10 : W) (h11 : HW) (c12 : Nat) =>
q_share _ (fun (v14 : W) (h15 : HW) (c16 : Nat) =>
q_share _ (fun (v18 : W) (h19 : HW) (c20 : Nat) =>
q_pickW v8 ⟨8, 1, r0, []⟩ v18 fun v21 =>
q_condW v21 (
K ⟨12, 0, ⟨0, 0, 0, .nils⟩, []⟩ h19 c20) (
q_lenW (lenC tys 32 (dec v1)) v1 fun v22 =>
q_lenW (lenC tys 32 (dec v4)) v4 fun v23 =>
q_addW 3 9223372036854775807 (binC Try.prog .add 3 (.tmp 23) (.tmp 25) (dec v22) (dec v23)) v22 v23 fun v24 =>
q_subW 3 9223372036854775807 (binC Try.prog .sub 3 (.tmp 26) (.const (.int .i64 (.ofNat 1))) (dec v24) (dec ⟨3, 1, r0, []⟩)) v24 ⟨3, 1, r0, []⟩ fun v25 =>
q_makeSW 1 1 4 (.ints .u8) [⟨4, 0, r0, []⟩] true h19 c20 v25 v25 fun v26 h27 c28 =>
q_lenW (lenC tys 32 (dec v1)) v1 fun v29 =>
@Nat.rec (fun _ => Fun 1) (fun _ _ _ => false) (fun _ f33 v30 h31 c32 =>
q_cmpW (cmpF2 .lss) 3 (binC Try.prog .lss 3 (.tmp 31) (.tmp 30) (dec v30) (dec v29)) v30 v29 fun v34 =>
q_condW v34 (
q_idxSW 1 v1 v30 fun v35 =>
q_loadSW h31 v35 fun v36 =>
q_lenW (lenC tys 32 (dec v4)) v4 fun v37 =>
@Nat.rec (fun _ => Fun 1) (fun _ _ _ => false) (fun _ f41 v38 h39 c40 =>
q_cmpW (cmpF2 .lss) 3 (binC Try.prog .lss 3 (.tmp 38) (.tmp 37) (dec v38) (dec v37)) v38 v37 fun v42 =>
q_condW v42 (
q_idxSW 1 v4 v38 fun v43 =>
q_loadSW h39 v43 fun v44 =>
q_addW 3 9223372036854775807 (binC Try.prog .add 3 (.tmp 44) (.tmp 45) (dec v30) (dec v38)) v30 v38 fun v45 =>
q_idxSW 1 v26 v45 fun v46 =>
q_loadSW h39 v46 fun v47 =>
call 18 [v36, v44] h39 c40 fun v48 _ _ => q_knownW v48 (
q_bitW Nat.xor 4 255 (binC Try.prog .xor 5 (.tmp 48) (.tmp 51) (dec v47) (dec v48)) v47 v48 fun v49 =>
q_idxSW 1 v26 v45 fun v50 =>
q_storeSW h39 v50 v49 fun h51 =>
q_addW 3 9223372036854775807 (binC Try.prog .add 3 (.tmp 38) (.const (.int .i64 (.ofNat 1))) (dec v38) (dec ⟨3, 1, r0, []⟩)) v38 ⟨3, 1, r0, []⟩ fun v52 =>
f41 v52 h51 c40)) (
q_addW 3 9223372036854775807 (binC Try.prog .add 3 (.tmp 31) (.const (.int .i64 (.ofNat 1))) (dec v30) (dec ⟨3, 1, r0, []⟩)) v30 ⟨3, 1, r0, []⟩ fun v53 =>
f33 v53 h39 c40)) fu ⟨3, 0, r0, []⟩ h31 c32) (
K v26 h31 c32)) fu ⟨3, 0, r0, []⟩ h27 c28)) fun f17 =>
q_guardW false v8 (q_cmpW (cmpF2 .eql) 3 (binC Try.prog .eql 3 (.tmp 19) (.const (.int .i64 (.ofNat 0))) (dec v14) (dec ⟨3, 0, r0, []⟩)) v14 ⟨3, 0, r0, []⟩ fun v54 =>
f17 v54 h15 c16) (f17 wUnd h15 c16)) fun f13 =>
q_guardW false v8 (q_lenW (lenC tys 32 (dec v10)) v10 fun v55 =>
f13 v55 h11 c12) (f13 wUnd h11 c12)) fun f9 =>
q_guardW false v8 (f9 v4 h5 c6) (f9 wUnd h5 c6)
theorem R53_eq (Q : PrimW) (fu : Nat) (call : CallW) : curryA 2 (fnK Q Try.prog tys stl fu call e53) = R53 Q.share Q.addW Q.subW Q.bitW Q.cmpW Q.condW Q.guardW Q.pickW Q.idxSW Q.lenW Q.knownW Q.loadSW Q.storeSW Q.makeSW fu call := by kernel_rfl
noncomputable def n53 : List W → HW → Nat → KW → Bool := appF 2 (R53 (fun _ x f => f x) addW subW bitW cmpW condW guardW pickW idxSW lenW knownW loadSW storeSW makeSW 1000000 d1.fn)
theorem n53_ok : FnGood Try.prog tys stl tab 53 n53 := node_ok d1_ok (by kernel_rfl) rfl g53 (R53_eq real _ _)
/- foghorn/field.of -/
noncomputable def R60 (q_addW : Nat → Nat → Option CV → W → W → (W → Bool) → Bool) (q_subW : Nat → Nat → Option CV → W → W → (W → Bool) → Bool) (q_bitW : (Nat → Nat → Nat) → Nat → Nat → Option CV → W → W → (W → Bool) → Bool) (q_cmpW : (Nat → Nat → Bool) → Nat → Option CV → W → W → (W → Bool) → Bool) (q_condW : W → Bool → Bool → Bool) (q_idxSW : Nat → W → W → (W → Bool) → Bool) (q_lenW : Option CV → W → (W → Bool) → Bool) (q_knownW : W → Bool → Bool) (q_killVW : W → HW → (HW → Bool) → Bool) (q_loadSW : HW → W → (W → Bool) → Bool) (q_storeSW : HW → W → W → (HW → Bool) → Bool) (q_makeSW : Nat → Nat → Nat → Kind → List W → Bool → HW → Nat → W → W → KW → Bool) (q_buildSW : Nat → Nat → Kind → Nat → Bool → HW → Nat → Nat → List W → KW → Bool) (q_appSW : Nat → Nat → (Kind → Bool) → Bool → HW → Nat → W → W → Bool → KW → Bool) (fu : Nat) (call : CallW) (a0 : W) (h0 : HW) (c0 : Nat) (K : KW) : Bool :=
q_lenW (lenC tys 32 (dec a0)) a0 fun v1 =>
q_addW 3 9223372036854775807 (binC Try.prog .add 3 (.tmp 8) (.const (.int .i64 (.ofNat 1))) (dec v1) (dec ⟨3, 1, r0, []⟩)) v1 ⟨3, 1, r0, []⟩ fun v2 =>
q_makeSW 1 1 4 (.ints .u8) [⟨4, 0, r0, []⟩] true h0 c0 ⟨3, 1, r0, []⟩ v2 fun v3 h4 c5 =>
q_idxSW 1 v3 ⟨3, 0, r0, []⟩ fun v6 =>
q_storeSW h4 v6 ⟨4, 1, r0, []⟩ fun h7 =>
q_lenW (lenC tys 32 (dec a0)) a0 fun v8 =>
@Nat.rec (fun _ => Fun 2) (fun _ _ _ _ => false) (fun _ f13 v9 v10 h11 c12 =>
q_cmpW (cmpF2 .lss) 3 (binC Try.prog .lss 3 (.tmp 15) (.tmp 14) (dec v10) (dec v8)) v10 v8 fun v14 =>
q_condW v14 (
q_idxSW 1 a0 v10 fun v15 =>
q_loadSW h11 v15 fun v16 =>
q_buildSW 1 4 (.ints .u8) 1 true h11 c12 1 [⟨4, 0, r0, []⟩] fun v17 h18 c19 =>
q_appSW 1 1 (appKindOk (elemJ tys 32)) false h18 c19 v9 v17 false fun v20 h21 c22 =>
q_killVW v17 h21 fun h23 =>
q_lenW (lenC tys 32 (dec v20)) v20 fun v24 =>
q_subW 3 9223372036854775807 (binC Try.prog .sub 3 (.tmp 23) (.const (.int .i64 (.ofNat 1))) (dec v24) (dec ⟨3, 1, r0, []⟩)) v24 ⟨3, 1, r0, []⟩ fun v25 =>
@Nat.rec (fun _ => Fun 1) (fun _ _ _ => false) (fun _ f29 v26 h27 c28 =>
q_cmpW (cmpF2 .gtr) 3 (binC Try.prog .gtr 3 (.tmp 25) (.const (.int .i64 (.ofNat 0))) (dec v26) (dec ⟨3, 0, r0, []⟩)) v26 ⟨3, 0, r0, []⟩ fun v30 =>
q_condW v30 (
q_subW 3 9223372036854775807 (binC Try.prog .sub 3 (.tmp 32) (.const (.int .i64 (.ofNat 1))) (dec v26) (dec ⟨3, 1, r0, []⟩)) v26 ⟨3, 1, r0, []⟩ fun v31 =>
q_idxSW 1 v20 v31 fun v32 =>
q_loadSW h27 v32 fun v33 =>
q_idxSW 1 v20 v26 fun v34 =>
q_loadSW h27 v34 fun v35 =>
call 18 [v35, v16] h27 c28 fun v36 _ _ => q_knownW v36 (
q_bitW Nat.xor 4 255 (binC Try.prog .xor 5 (.tmp 35) (.tmp 41) (dec v33) (dec v36)) v33 v36 fun v37 =>
q_idxSW 1 v20 v26 fun v38 =>
q_storeSW h27 v38 v37 fun h39 =>
q_subW 3 9223372036854775807 (binC Try.prog .sub 3 (.tmp 27) (.const (.int .i64 (.ofNat 1))) (dec v26) (dec ⟨3, 1, r0, []⟩)) v26 ⟨3, 1, r0, []⟩ fun v40 =>
f29 v40 h39 c28)) (
q_idxSW 1 v20 ⟨3, 0, r0, []⟩ fun v41 =>
q_loadSW h27 v41 fun v42 =>
call 18 [v42, v16] h27 c28 fun v43 h44 c45 =>
q_idxSW 1 v20 ⟨3, 0, r0, []⟩ fun v46 =>
q_storeSW h44 v46 v43 fun h47 =>
q_addW 3 9223372036854775807 (binC Try.prog .add 3 (.tmp 15) (.const (.int .i64 (.ofNat 1))) (dec v10) (dec ⟨3, 1, r0, []⟩)) v10 ⟨3, 1, r0, []⟩ fun v48 =>
f13 v20 v48 h47 c45)) fu v25 h23 c22) (
K v9 h11 c12)) fu v3 ⟨3, 0, r0, []⟩ h7 c5
theorem R60_eq (Q : PrimW) (fu : Nat) (call : CallW) : curryA 1 (fnK Q Try.prog tys stl fu call e60) = R60 Q.addW Q.subW Q.bitW Q.cmpW Q.condW Q.idxSW Q.lenW Q.knownW Q.killVW Q.loadSW Q.storeSW Q.makeSW Q.buildSW Q.appSW fu call := by kernel_rfl
noncomputable def n60 : List W → HW → Nat → KW → Bool := appF 1 (R60 addW subW bitW cmpW condW idxSW lenW knownW killVW loadSW storeSW makeSW buildSW appSW 1000000 d1.fn)
theorem n60_ok : FnGood Try.prog tys stl tab 60 n60 := node_ok d1_ok (by kernel_rfl) rfl g60 (R60_eq real _ _)
/- foghorn/field.at$1 -/
noncomputable def R64 (q_bitW : (Nat → Nat → Nat) → Nat → Nat → Option CV → W → W → (W → Bool) → Bool) (q_loadSW : HW → W → (W → Bool) → Bool) (q_storeSW : HW → W → W → (HW → Bool) → Bool) (fu : Nat) (call : CallW) (a0 : W) (a1 : W) (a2 : W) (h0 : HW) (c0 : Nat) (K : KW) : Bool :=
q_loadSW h0 a1 fun v1 =>
q_loadSW h0 a2 fun v2 =>
call 18 [v1, v2] h0 c0 fun v3 h4 c5 =>
q_bitW Nat.xor 4 255 (binC Try.prog .xor 5 (.tmp 6) (.tmp 7) (dec v3) (dec a0)) v3 a0 fun v6 =>
q_storeSW h4 a1 v6 fun h7 =>
K ⟨13, 0, r0, []⟩ h7 c5
theorem R64_eq (Q : PrimW) (fu : Nat) (call : CallW) : curryA 3 (fnK Q Try.prog tys stl fu call e64) = R64 Q.bitW Q.loadSW Q.storeSW fu call := by kernel_rfl
noncomputable def n64 : List W → HW → Nat → KW → Bool := appF 3 (R64 bitW loadSW storeSW 1000000 d1.fn)
theorem n64_ok : FnGood Try.prog tys stl tab 64 n64 := node_ok d1_ok (by kernel_rfl) rfl g64 (R64_eq real _ _)
noncomputable def d2 : Disp := (.node 52 n52 (.node 39 n39 (.node 28 n28 (.node 18 n18 .leaf .leaf) .leaf) (.node 41 n41 (.node 40 n40 .leaf .leaf) .leaf)) (.node 58 n58 (.node 57 n57 (.node 53 n53 .leaf .leaf) .leaf) (.node 64 n64 (.node 60 n60 .leaf .leaf) .leaf)))
theorem d2_ok : CallSim Try.prog tys stl tab d2.fn := Disp.sim ⟨n52_ok, ⟨n39_ok, ⟨n28_ok, ⟨n18_ok, True.intro, True.intro⟩, True.intro⟩, ⟨n41_ok, ⟨n40_ok, True.intro, True.intro⟩, True.intro⟩⟩, ⟨n58_ok, ⟨n57_ok, ⟨n53_ok, True.intro, True.intro⟩, True.intro⟩, ⟨n64_ok, ⟨n60_ok, True.intro, True.intro⟩, True.intro⟩⟩⟩
/- foghorn/field.Power -/
noncomputable def R12 (q_cmpW : (Nat → Nat → Bool) → Nat → Option CV → W → W → (W → Bool) → Bool) (q_condW : W → Bool → Bool → Bool) (fu : Nat) (call : CallW) (a0 : W) (a1 : W) (h0 : HW) (c0 : Nat) (K : KW) : Bool :=
q_cmpW (cmpF2 .neq) 4 (binC Try.prog .neq 5 (.tmp 7) (.const (.int .u8 (.ofNat 0))) (dec a0) (dec ⟨4, 0, r0, []⟩)) a0 ⟨4, 0, r0, []⟩ fun v1 =>
q_condW v1 (
call 41 [a1] h0 c0 fun v2 h3 c4 =>
call 40 [a0, v2] h3 c4 fun v5 h6 c7 =>
K ⟨13, 0, r0, [v5, ⟨3, 0, r0, []⟩]⟩ h6 c7) (
q_cmpW (cmpF2 .lss) 3 (binC Try.prog .lss 3 (.tmp 14) (.const (.int .i64 (.ofNat 0))) (dec a1) (dec ⟨3, 0, r0, []⟩)) a1 ⟨3, 0, r0, []⟩ fun v8 =>
q_condW v8 (
K ⟨13, 0, r0, [⟨4, 0, r0, []⟩, ⟨3, 6, r0, []⟩]⟩ h0 c0) (
q_cmpW (cmpF2 .eql) 3 (binC Try.prog .eql 3 (.tmp 17) (.const (.int .i64 (.ofNat 0))) (dec a1) (dec ⟨3, 0, r0, []⟩)) a1 ⟨3, 0, r0, []⟩ fun v9 =>
q_condW v9 (
K ⟨13, 0, r0, [⟨4, 1, r0, []⟩, ⟨3, 0, r0, []⟩]⟩ h0 c0) (
K ⟨13, 0, r0, [⟨4, 0, r0, []⟩, ⟨3, 0, r0, []⟩]⟩ h0 c0)))
theorem R12_eq (Q : PrimW) (fu : Nat) (call : CallW) : curryA 2 (fnK Q Try.prog tys stl fu call e12) = R12 Q.cmpW Q.condW fu call := by kernel_rfl
noncomputable def n12 : List W → HW → Nat → KW → Bool := appF 2 (R12 cmpW condW 1000000 d2.fn)
theorem n12_ok : FnGood Try.prog tys stl tab 12 n12 := node_ok d2_ok (by kernel_rfl) rfl g12 (R12_eq real _ _)
/- foghorn/field.Sum -/
noncomputable def R29 (q_condW : W → Bool → Bool → Bool) (q_buildSW : Nat → Nat → Kind → Nat → Bool → HW → Nat → Nat → List W → KW → Bool) (fu : Nat) (call : CallW) (a0 : W) (a1 : W) (h0 : HW) (c0 : Nat) (K : KW) : Bool :=
q_buildSW 1 9 .avs 2 true h0 c0 2 [a0, a1] fun v1 h2 c3 =>
call 57 [v1] h2 c3 fun v4 h5 c6 =>
q_condW v4 (
K ⟨13, 0, r0, [⟨12, 0, ⟨0, 0, 0, .nils⟩, []⟩, ⟨3, 1, r0, []⟩]⟩ h5 c6) (
call 52 [a0, a1] h5 c6 fun v7 h8 c9 =>
K ⟨13, 0, r0, [v7, ⟨3, 0, r0, []⟩]⟩ h8 c9)
theorem R29_eq (Q : PrimW) (fu : Nat) (call : CallW) : curryA 2 (fnK Q Try.prog tys stl fu call e29) = R29 Q.condW Q.buildSW fu call := by kernel_rfl
noncomputable def n29 : List W → HW → Nat → KW → Bool := appF 2 (R29 condW buildSW 1000000 d2.fn)
theorem n29_ok : FnGood Try.prog tys stl tab 29 n29 := node_ok d2_ok (by kernel_rfl) rfl g29 (R29_eq real _ _)
/- foghorn/field.Product -/
noncomputable def R30 (q_condW : W → Bool → Bool → Bool) (q_buildSW : Nat → Nat → Kind → Nat → Bool → HW → Nat → Nat → List W → KW → Bool) (fu : Nat) (call : CallW) (a0 : W) (a1 : W) (h0 : HW) (c0 : Nat) (K : KW) : Bool :=
q_buildSW 1 9 .avs 2 true h0 c0 2 [a0, a1] fun v1 h2 c3 =>
call 57 [v1] h2 c3 fun v4 h5 c6 =>
q_condW v4 (
K ⟨13, 0, r0, [⟨12, 0, ⟨0, 0, 0, .nils⟩, []⟩, ⟨3, 1, r0, []⟩]⟩ h5 c6) (
call 53 [a0, a1] h5 c6 fun v7 h8 c9 =>
q_buildSW 1 9 .avs 1 true h8 c9 1 [v7] fun v10 h11 c12 =>
call 57 [v10] h11 c12 fun v13 h14 c15 =>
q_condW v13 (
K ⟨13, 0, r0, [⟨12, 0, ⟨0, 0, 0, .nils⟩, []⟩, ⟨3, 1, r0, []⟩]⟩ h14 c15) (
K ⟨13, 0, r0, [v7, ⟨3, 0, r0, []⟩]⟩ h14 c15))
theorem R30_eq (Q : PrimW) (fu : Nat) (call : CallW) : curryA 2 (fnK Q Try.prog tys stl fu call e30) = R30 Q.condW Q.buildSW fu call := by kernel_rfl
noncomputable def n30 : List W → HW → Nat → KW → Bool := appF 2 (R30 condW buildSW 1000000 d2.fn)
theorem n30_ok : FnGood Try.prog tys stl tab 30 n30 := node_ok d2_ok (by kernel_rfl) rfl g30 (R30_eq real _ _)
/- foghorn/field.Of -/
noncomputable def R37 (q_cmpW : (Nat → Nat → Bool) → Nat → Option CV → W → W → (W → Bool) → Bool) (q_condW : W → Bool → Bool → Bool) (q_lenW : Option CV → W → (W → Bool) → Bool) (fu : Nat) (call : CallW) (a0 : W) (h0 : HW) (c0 : Nat) (K : KW) : Bool :=
q_lenW (lenC tys 32 (dec a0)) a0 fun v1 =>
q_cmpW (cmpF2 .geq) 3 (binC Try.prog .geq 3 (.tmp 5) (.const (.int .i64 (.ofNat 512))) (dec v1) (dec ⟨3, 512, r0, []⟩)) v1 ⟨3, 512, r0, []⟩ fun v2 =>
q_condW v2 (
K ⟨13, 0, r0, [⟨12, 0, ⟨0, 0, 0, .nils⟩, []⟩, ⟨3, 1, r0, []⟩]⟩ h0 c0) (
call 60 [a0] h0 c0 fun v3 h4 c5 =>
K ⟨13, 0, r0, [v3, ⟨3, 0, r0, []⟩]⟩ h4 c5)
theorem R37_eq (Q : PrimW) (fu : Nat) (call : CallW) : curryA 1 (fnK Q Try.prog tys stl fu call e37) = R37 Q.cmpW Q.condW Q.lenW fu call := by kernel_rfl
noncomputable def n37 : List W → HW → Nat → KW → Bool := appF 1 (R37 cmpW condW lenW 1000000 d2.fn)
theorem n37_ok : FnGood Try.prog tys stl tab 37 n37 := node_ok d2_ok (by kernel_rfl) rfl g37 (R37_eq real _ _)
/- foghorn/field.divided -/
noncomputable def R59 (q_genW : Option CV → (W → Bool) → Bool) (q_addW : Nat → Nat → Option CV → W → W → (W → Bool) → Bool) (q_subW : Nat → Nat → Option CV → W → W → (W → Bool) → Bool) (q_bitW : (Nat → Nat → Nat) → Nat → Nat → Option CV → W → W → (W → Bool) → Bool) (q_cmpW : (Nat → Nat → Bool) → Nat → Option CV → W → W → (W → Bool) → Bool) (q_condW : W → Bool → Bool → Bool) (q_idxSW : Nat → W → W → (W → Bool) → Bool) (q_lenW : Option CV → W → (W → Bool) → Bool) (q_knownW : W → Bool → Bool) (q_loadSW : HW → W → (W → Bool) → Bool) (q_storeSW : HW → W → W → (HW → Bool) → Bool) (q_makeSW : Nat → Nat → Nat → Kind → List W → Bool → HW → Nat → W → W → KW → Bool) (q_appSW : Nat → Nat → (Kind → Bool) → Bool → HW → Nat → W → W → Bool → KW → Bool) (fu : Nat) (call : CallW) (a0 : W) (a1 : W) (h0 : HW) (c0 : Nat) (K : KW) : Bool :=
call 58 [a0] h0 c0 fun v1 h2 c3 =>
q_appSW 1 1 (appKindOk (elemJ tys 32)) false h2 c3 ⟨12, 0, ⟨0, 0, 0, .nils⟩, []⟩ v1 false fun v4 h5 c6 =>
q_lenW (lenC tys 32 (dec a1)) a1 fun v7 =>
q_subW 3 9223372036854775807 (binC Try.prog .sub 3 (.tmp 16) (.const (.int .i64 (.ofNat 1))) (dec v7) (dec ⟨3, 1, r0, []⟩)) v7 ⟨3, 1, r0, []⟩ fun v8 =>
q_idxSW 1 a1 v8 fun v9 =>
q_loadSW h5 v9 fun v10 =>
call 40 [v10, ⟨3, 254, r0, []⟩] h5 c6 fun v11 h12 c13 =>
q_lenW (lenC tys 32 (dec v4)) v4 fun v14 =>
q_lenW (lenC tys 32 (dec a1)) a1 fun v15 =>
q_subW 3 9223372036854775807 (binC Try.prog .sub 3 (.tmp 22) (.tmp 24) (dec v14) (dec v15)) v14 v15 fun v16 =>
q_addW 3 9223372036854775807 (binC Try.prog .add 3 (.tmp 25) (.const (.int .i64 (.ofNat 1))) (dec v16) (dec ⟨3, 1, r0, []⟩)) v16 ⟨3, 1, r0, []⟩ fun v17 =>
q_genW (two2 Try.prog (dec ⟨3, 0, r0, []⟩) (dec v17) fun v u => Builtin.max_ #[3, 3] 3 #[v, u]) fun v18 =>
q_makeSW 1 1 4 (.ints .u8) [⟨4, 0, r0, []⟩] true h12 c13 v18 v18 fun v19 h20 c21 =>
q_lenW (lenC tys 32 (dec v19)) v19 fun v22 =>
q_subW 3 9223372036854775807 (binC Try.prog .sub 3 (.tmp 30) (.const (.int .i64 (.ofNat 1))) (dec v22) (dec ⟨3, 1, r0, []⟩)) v22 ⟨3, 1, r0, []⟩ fun v23 =>
@Nat.rec (fun _ => Fun 1) (fun _ _ _ => false) (fun _ f27 v24 h25 c26 =>
q_cmpW (cmpF2 .geq) 3 (binC Try.prog .geq 3 (.tmp 32) (.const (.int .i64 (.ofNat 0))) (dec v24) (dec ⟨3, 0, r0, []⟩)) v24 ⟨3, 0, r0, []⟩ fun v28 =>
q_condW v28 (
q_lenW (lenC tys 32 (dec a1)) a1 fun v29 =>
q_addW 3 9223372036854775807 (binC Try.prog .add 3 (.tmp 39) (.tmp 41) (dec v24) (dec v29)) v24 v29 fun v30 =>
q_subW 3 9223372036854775807 (binC Try.prog .sub 3 (.tmp 42) (.const (.int .i64 (.ofNat 1))) (dec v30) (dec ⟨3, 1, r0, []⟩)) v30 ⟨3, 1, r0, []⟩ fun v31 =>
q_idxSW 1 v4 v31 fun v32 =>
q_loadSW h25 v32 fun v33 =>
call 18 [v33, v11] h25 c26 fun v34 h35 c36 =>
q_idxSW 1 v19 v24 fun v37 =>
q_storeSW h35 v37 v34 fun h38 =>
q_lenW (lenC tys 32 (dec a1)) a1 fun v39 =>
@Nat.rec (fun _ => Fun 1) (fun _ _ _ => false) (fun _ f43 v40 h41 c42 =>
q_cmpW (cmpF2 .lss) 3 (binC Try.prog .lss 3 (.tmp 51) (.tmp 50) (dec v40) (dec v39)) v40 v39 fun v44 =>
q_condW v44 (
q_idxSW 1 a1 v40 fun v45 =>
q_loadSW h41 v45 fun v46 =>
q_addW 3 9223372036854775807 (binC Try.prog .add 3 (.tmp 57) (.tmp 58) (dec v24) (dec v40)) v24 v40 fun v47 =>
q_idxSW 1 v4 v47 fun v48 =>
q_loadSW h41 v48 fun v49 =>
q_idxSW 1 v19 v24 fun v50 =>
q_loadSW h41 v50 fun v51 =>
call 18 [v51, v46] h41 c42 fun v52 _ _ => q_knownW v52 (
q_bitW Nat.xor 4 255 (binC Try.prog .xor 5 (.tmp 61) (.tmp 67) (dec v49) (dec v52)) v49 v52 fun v53 =>
q_idxSW 1 v4 v47 fun v54 =>
q_storeSW h41 v54 v53 fun h55 =>
q_addW 3 9223372036854775807 (binC Try.prog .add 3 (.tmp 51) (.const (.int .i64 (.ofNat 1))) (dec v40) (dec ⟨3, 1, r0, []⟩)) v40 ⟨3, 1, r0, []⟩ fun v56 =>
f43 v56 h55 c42)) (
q_subW 3 9223372036854775807 (binC Try.prog .sub 3 (.tmp 34) (.const (.int .i64 (.ofNat 1))) (dec v24) (dec ⟨3, 1, r0, []⟩)) v24 ⟨3, 1, r0, []⟩ fun v57 =>
f27 v57 h41 c42)) fu ⟨3, 0, r0, []⟩ h38 c36) (
call 58 [v19] h25 c26 fun v58 h59 c60 =>
call 58 [v4] h59 c60 fun v61 h62 c63 =>
K ⟨13, 0, r0, [v58, v61]⟩ h62 c63)) fu v23 h20 c21
theorem R59_eq (Q : PrimW) (fu : Nat) (call : CallW) : curryA 2 (fnK Q Try.prog tys stl fu call e59) = R59 Q.genW Q.addW Q.subW Q.bitW Q.cmpW Q.condW Q.idxSW Q.lenW Q.knownW Q.loadSW Q.storeSW Q.makeSW Q.appSW fu call := by kernel_rfl
noncomputable def n59 : List W → HW → Nat → KW → Bool := appF 2 (R59 genW addW subW bitW cmpW condW idxSW lenW knownW loadSW storeSW makeSW appSW 1000000 d2.fn)
theorem n59_ok : FnGood Try.prog tys stl tab 59 n59 := node_ok d2_ok (by kernel_rfl) rfl g59 (R59_eq real _ _)
/- foghorn/field.fromEnd -/
noncomputable def R63 (q_subW : Nat → Nat → Option CV → W → W → (W → Bool) → Bool) (q_cmpW : (Nat → Nat → Bool) → Nat → Option CV → W → W → (W → Bool) → Bool) (q_condW : W → Bool → Bool → Bool) (q_idxSW : Nat → W → W → (W → Bool) → Bool) (q_lenW : Option CV → W → (W → Bool) → Bool) (q_onF : W → (FuncId → List W → Bool) → Bool) (q_loadSW : HW → W → (W → Bool) → Bool) (fu : Nat) (call : CallW) (a0 : W) (a1 : W) (h0 : HW) (c0 : Nat) (K : KW) : Bool :=
q_lenW (lenC tys 32 (dec a0)) a0 fun v1 =>
q_subW 3 9223372036854775807 (binC Try.prog .sub 3 (.tmp 6) (.const (.int .i64 (.ofNat 1))) (dec v1) (dec ⟨3, 1, r0, []⟩)) v1 ⟨3, 1, r0, []⟩ fun v2 =>
@Nat.rec (fun _ => Fun 1) (fun _ _ _ => false) (fun _ f6 v3 h4 c5 =>
q_cmpW (cmpF2 .geq) 3 (binC Try.prog .geq 3 (.tmp 8) (.const (.int .i64 (.ofNat 0))) (dec v3) (dec ⟨3, 0, r0, []⟩)) v3 ⟨3, 0, r0, []⟩ fun v7 =>
q_condW v7 (
q_idxSW 1 a0 v3 fun v8 =>
q_loadSW h4 v8 fun v9 =>
q_onF a1 fun g10 l11 => call g10 (appL [v9] l11) h4 c5 fun v12 h13 c14 =>
q_subW 3 9223372036854775807 (binC Try.prog .sub 3 (.tmp 10) (.const (.int .i64 (.ofNat 1))) (dec v3) (dec ⟨3, 1, r0, []⟩)) v3 ⟨3, 1, r0, []⟩ fun v15 =>
f6 v15 h13 c14) (
K ⟨13, 0, r0, []⟩ h4 c5)) fu v2 h0 c0
theorem R63_eq (Q : PrimW) (fu : Nat) (call : CallW) : curryA 2 (fnK Q Try.prog tys stl fu call e63) = R63 Q.subW Q.cmpW Q.condW Q.idxSW Q.lenW Q.onF Q.loadSW fu call := by kernel_rfl
noncomputable def n63 : List W → HW → Nat → KW → Bool := appF 2 (R63 subW cmpW condW idxSW lenW onF loadSW 1000000 d2.fn)
theorem n63_ok : FnGood Try.prog tys stl tab 63 n63 := node_ok d2_ok (by kernel_rfl) rfl g63 (R63_eq real _ _)
noncomputable def d3 : Disp := (.node 41 n41 (.node 30 n30 (.node 28 n28 (.node 18 n18 (.node 12 n12 .leaf .leaf) .leaf) (.node 29 n29 .leaf .leaf)) (.node 39 n39 (.node 37 n37 .leaf .leaf) (.node 40 n40 .leaf .leaf))) (.node 59 n59 (.node 57 n57 (.node 53 n53 (.node 52 n52 .leaf .leaf) .leaf) (.node 58 n58 .leaf .leaf)) (.node 63 n63 (.node 60 n60 .leaf .leaf) (.node 64 n64 .leaf .leaf))))
theorem d3_ok : CallSim Try.prog tys stl tab d3.fn := Disp.sim ⟨n41_ok, ⟨n30_ok, ⟨n28_ok, ⟨n18_ok, ⟨n12_ok, True.intro, True.intro⟩, True.intro⟩, ⟨n29_ok, True.intro, True.intro⟩⟩, ⟨n39_ok, ⟨n37_ok, True.intro, True.intro⟩, ⟨n40_ok, True.intro, True.intro⟩⟩⟩, ⟨n59_ok, ⟨n57_ok, ⟨n53_ok, ⟨n52_ok, True.intro, True.intro⟩, True.intro⟩, ⟨n58_ok, True.intro, True.intro⟩⟩, ⟨n63_ok, ⟨n60_ok, True.intro, True.intro⟩, ⟨n64_ok, True.intro, True.intro⟩⟩⟩⟩
/- foghorn/foghornlaw18.awake -/
noncomputable def R22 (q_share : (α : Type) → α → (α → Bool) → Bool) (q_cmpW : (Nat → Nat → Bool) → Nat → Option CV → W → W → (W → Bool) → Bool) (q_guardW : Bool → W → Bool → Bool → Bool) (q_pickW : W → W → W → (W → Bool) → Bool) (q_tupW : W → (List W → Bool) → Bool) (q_nthW : Nat → List W → (W → Bool) → Bool) (q_buildSW : Nat → Nat → Kind → Nat → Bool → HW → Nat → Nat → List W → KW → Bool) (fu : Nat) (call : CallW) (h0 : HW) (c0 : Nat) (K : KW) : Bool :=
q_buildSW 1 4 (.ints .u8) 2 true h0 c0 2 [⟨4, 1, r0, []⟩, ⟨4, 1, r0, []⟩] fun v1 h2 c3 =>
q_buildSW 1 4 (.ints .u8) 2 true h2 c3 2 [⟨4, 1, r0, []⟩, ⟨4, 1, r0, []⟩] fun v4 h5 c6 =>
call 30 [v1, v4] h5 c6 fun v7 h8 c9 =>
q_tupW v7 fun l10 => q_nthW 0 l10 fun v11 =>
q_tupW v7 fun l12 => q_nthW 1 l12 fun v13 =>
call 18 [⟨4, 2, r0, []⟩, ⟨4, 128, r0, []⟩] h8 c9 fun v14 h15 c16 =>
q_cmpW (cmpF2 .eql) 4 (binC Try.prog .eql 5 (.tmp 9) (.const (.int .u8 (.ofNat 29))) (dec v14) (dec ⟨4, 29, r0, []⟩)) v14 ⟨4, 29, r0, []⟩ fun v17 =>
q_share _ (fun (v19 : W) (h20 : HW) (c21 : Nat) =>
q_share _ (fun (v23 : W) (h24 : HW) (c25 : Nat) =>
q_pickW v17 v23 ⟨8, 0, r0, []⟩ fun v26 =>
q_share _ (fun (v28 : W) (h29 : HW) (c30 : Nat) =>
q_share _ (fun (v32 : W) (h33 : HW) (c34 : Nat) =>
q_share _ (fun (v36 : W) (h37 : HW) (c38 : Nat) =>
q_pickW v26 v36 ⟨8, 0, r0, []⟩ fun v39 =>
K v39 h37 c38) fun f35 =>
q_guardW true v26 (call 28 [v28, v32] h33 c34 fun v40 h41 c42 =>
f35 v40 h41 c42) (f35 wUnd h33 c34)) fun f31 =>
q_guardW true v26 (q_buildSW 1 4 (.ints .u8) 3 true h29 c30 3 [⟨4, 1, r0, []⟩, ⟨4, 0, r0, []⟩, ⟨4, 1, r0, []⟩] fun v43 h44 c45 =>
f31 v43 h44 c45) (f31 wUnd h29 c30)) fun f27 =>
q_guardW true v26 (f27 v11 h24 c25) (f27 wUnd h24 c25)) fun f22 =>
q_guardW true v17 (q_cmpW (cmpF2 .eql) 3 (binC Try.prog .eql 22 (.tmp 12) (.const (.int .i64 (.ofNat 0))) (dec v19) (dec ⟨3, 0, r0, []⟩)) v19 ⟨3, 0, r0, []⟩ fun v46 =>
f22 v46 h20 c21) (f22 wUnd h20 c21)) fun f18 =>
q_guardW true v17 (f18 v13 h15 c16) (f18 wUnd h15 c16)
theorem R22_eq (Q : PrimW) (fu : Nat) (call : CallW) : curryA 0 (fnK Q Try.prog tys stl fu call e22) = R22 Q.share Q.cmpW Q.guardW Q.pickW Q.tupW Q.nthW Q.buildSW fu call := by kernel_rfl
noncomputable def n22 : List W → HW → Nat → KW → Bool := appF 0 (R22 (fun _ x f => f x) cmpW guardW pickW tupW nthW buildSW 1000000 d3.fn)
theorem n22_ok : FnGood Try.prog tys stl tab 22 n22 := node_ok d3_ok (by kernel_rfl) rfl g22 (R22_eq real _ _)
/- foghorn/field.Divide -/
noncomputable def R33 (q_cmpW : (Nat → Nat → Bool) → Nat → Option CV → W → W → (W → Bool) → Bool) (q_condW : W → Bool → Bool → Bool) (q_lenW : Option CV → W → (W → Bool) → Bool) (q_tupW : W → (List W → Bool) → Bool) (q_nthW : Nat → List W → (W → Bool) → Bool) (q_buildSW : Nat → Nat → Kind → Nat → Bool → HW → Nat → Nat → List W → KW → Bool) (fu : Nat) (call : CallW) (a0 : W) (a1 : W) (h0 : HW) (c0 : Nat) (K : KW) : Bool :=
q_buildSW 1 9 .avs 2 true h0 c0 2 [a0, a1] fun v1 h2 c3 =>
call 57 [v1] h2 c3 fun v4 h5 c6 =>
q_condW v4 (
K ⟨13, 0, r0, [⟨12, 0, ⟨0, 0, 0, .nils⟩, []⟩, ⟨12, 0, ⟨0, 0, 0, .nils⟩, []⟩, ⟨3, 1, r0, []⟩]⟩ h5 c6) (
call 58 [a1] h5 c6 fun v7 h8 c9 =>
q_lenW (lenC tys 32 (dec v7)) v7 fun v10 =>
q_cmpW (cmpF2 .eql) 3 (binC Try.prog .eql 3 (.tmp 14) (.const (.int .i64 (.ofNat 0))) (dec v10) (dec ⟨3, 0, r0, []⟩)) v10 ⟨3, 0, r0, []⟩ fun v11 =>
q_condW v11 (
K ⟨13, 0, r0, [⟨12, 0, ⟨0, 0, 0, .nils⟩, []⟩, ⟨12, 0, ⟨0, 0, 0, .nils⟩, []⟩, ⟨3, 6, r0, []⟩]⟩ h8 c9) (
call 59 [a0, v7] h8 c9 fun v12 h13 c14 =>
q_tupW v12 fun l15 => q_nthW 0 l15 fun v16 =>
q_tupW v12 fun l17 => q_nthW 1 l17 fun v18 =>
K ⟨13, 0, r0, [v16, v18, ⟨3, 0, r0, []⟩]⟩ h13 c14))
theorem R33_eq (Q : PrimW) (fu : Nat) (call : CallW) : curryA 2 (fnK Q Try.prog tys stl fu call e33) = R33 Q.cmpW Q.condW Q.lenW Q.tupW Q.nthW Q.buildSW fu call := by kernel_rfl
noncomputable def n33 : List W → HW → Nat → KW → Bool := appF 2 (R33 cmpW condW lenW tupW nthW buildSW 1000000 d3.fn)
theorem n33_ok : FnGood Try.prog tys stl tab 33 n33 := node_ok d3_ok (by kernel_rfl) rfl g33 (R33_eq real _ _)
/- foghorn/field.Gcd -/
noncomputable def R35 (q_share : (α : Type) → α → (α → Bool) → Bool) (q_subW : Nat → Nat → Option CV → W → W → (W → Bool) → Bool) (q_cmpW : (Nat → Nat → Bool) → Nat → Option CV → W → W → (W → Bool) → Bool) (q_condW : W → Bool → Bool → Bool) (q_idxSW : Nat → W → W → (W → Bool) → Bool) (q_lenW : Option CV → W → (W → Bool) → Bool) (q_tupW : W → (List W → Bool) → Bool) (q_nthW : Nat → List W → (W → Bool) → Bool) (q_loadSW : HW → W → (W → Bool) → Bool) (q_buildSW : Nat → Nat → Kind → Nat → Bool → HW → Nat → Nat → List W → KW → Bool) (fu : Nat) (call : CallW) (a0 : W) (a1 : W) (h0 : HW) (c0 : Nat) (K : KW) : Bool :=
q_buildSW 1 9 .avs 2 true h0 c0 2 [a0, a1] fun v1 h2 c3 =>
call 57 [v1] h2 c3 fun v4 h5 c6 =>
q_condW v4 (
K ⟨13, 0, r0, [⟨12, 0, ⟨0, 0, 0, .nils⟩, []⟩, ⟨3, 1, r0, []⟩]⟩ h5 c6) (
call 52 [a0, ⟨12, 0, ⟨0, 0, 0, .nils⟩, []⟩] h5 c6 fun v7 h8 c9 =>
call 52 [a1, ⟨12, 0, ⟨0, 0, 0, .nils⟩, []⟩] h8 c9 fun v10 h11 c12 =>
@Nat.rec (fun _ => Fun 2) (fun _ _ _ _ => false) (fun _ f17 v13 v14 h15 c16 =>
q_lenW (lenC tys 32 (dec v14)) v14 fun v18 =>
q_cmpW (cmpF2 .gtr) 3 (binC Try.prog .gtr 3 (.tmp 19) (.const (.int .i64 (.ofNat 0))) (dec v18) (dec ⟨3, 0, r0, []⟩)) v18 ⟨3, 0, r0, []⟩ fun v19 =>
q_condW v19 (
call 59 [v13, v14] h15 c16 fun v20 h21 c22 =>
q_tupW v20 fun l23 => q_nthW 0 l23 fun v24 =>
q_tupW v20 fun l25 => q_nthW 1 l25 fun v26 =>
f17 v14 v26 h21 c22) (
q_share _ (fun (v27 : W) (h28 : HW) (c29 : Nat) =>
K ⟨13, 0, r0, [v27, ⟨3, 0, r0, []⟩]⟩ h28 c29) fun f30 =>
q_lenW (lenC tys 32 (dec v13)) v13 fun v31 =>
q_cmpW (cmpF2 .gtr) 3 (binC Try.prog .gtr 3 (.tmp 30) (.const (.int .i64 (.ofNat 0))) (dec v31) (dec ⟨3, 0, r0, []⟩)) v31 ⟨3, 0, r0, []⟩ fun v32 =>
q_condW v32 (
q_lenW (lenC tys 32 (dec v13)) v13 fun v33 =>
q_subW 3 9223372036854775807 (binC Try.prog .sub 3 (.tmp 35) (.const (.int .i64 (.ofNat 1))) (dec v33) (dec ⟨3, 1, r0, []⟩)) v33 ⟨3, 1, r0, []⟩ fun v34 =>
q_idxSW 1 v13 v34 fun v35 =>
q_loadSW h15 v35 fun v36 =>
call 40 [v36, ⟨3, 254, r0, []⟩] h15 c16 fun v37 h38 c39 =>
q_buildSW 1 4 (.ints .u8) 1 true h38 c39 1 [v37] fun v40 h41 c42 =>
call 53 [v13, v40] h41 c42 fun v43 h44 c45 =>
f30 v43 h44 c45) (
f30 v13 h15 c16))) fu v7 v10 h11 c12)
theorem R35_eq (Q : PrimW) (fu : Nat) (call : CallW) : curryA 2 (fnK Q Try.prog tys stl fu call e35) = R35 Q.share Q.subW Q.cmpW Q.condW Q.idxSW Q.lenW Q.tupW Q.nthW Q.loadSW Q.buildSW fu call := by kernel_rfl
noncomputable def n35 : List W → HW → Nat → KW → Bool := appF 2 (R35 (fun _ x f => f x) subW cmpW condW idxSW lenW tupW nthW loadSW buildSW 1000000 d3.fn)
theorem n35_ok : FnGood Try.prog tys stl tab 35 n35 := node_ok d3_ok (by kernel_rfl) rfl g35 (R35_eq real _ _)
/- foghorn/field.at -/
noncomputable def R51 (q_loadSW : HW → W → (W → Bool) → Bool) (q_allocW : Trie W → Nat → Bool → HW → Nat → KW → Bool) (q_boxW : HW → Nat → W → KW → Bool) (fu : Nat) (call : CallW) (a0 : W) (a1 : W) (h0 : HW) (c0 : Nat) (K : KW) : Bool :=
q_boxW h0 c0 a1 fun v1 h2 c3 =>
q_allocW (allocT tys 5) 1 true h2 c3 fun v4 h5 c6 =>
(fun (v7 : W) =>
call 63 [a0, v7] h5 c6 fun v8 h9 c10 =>
q_loadSW h9 v4 fun v11 =>
K v11 h9 c10) ⟨14, 64, r0, [v4, v1]⟩
theorem R51_eq (Q : PrimW) (fu : Nat) (call : CallW) : curryA 2 (fnK Q Try.prog tys stl fu call e51) = R51 Q.loadSW Q.allocW Q.boxW fu call := by kernel_rfl
noncomputable def n51 : List W → HW → Nat → KW → Bool := appF 2 (R51 loadSW allocW boxW 1000000 d3.fn)
theorem n51_ok : FnGood Try.prog tys stl tab 51 n51 := node_ok d3_ok (by kernel_rfl) rfl g51 (R51_eq real _ _)
noncomputable def d4 : Disp := (.node 40 n40 (.node 30 n30 (.node 22 n22 (.node 18 n18 (.node 12 n12 .leaf .leaf) .leaf) (.node 29 n29 (.node 28 n28 .leaf .leaf) .leaf)) (.node 37 n37 (.node 35 n35 (.node 33 n33 .leaf .leaf) .leaf) (.node 39 n39 .leaf .leaf))) (.node 58 n58 (.node 52 n52 (.node 51 n51 (.node 41 n41 .leaf .leaf) .leaf) (.node 57 n57 (.node 53 n53 .leaf .leaf) .leaf)) (.node 63 n63 (.node 60 n60 (.node 59 n59 .leaf .leaf) .leaf) (.node 64 n64 .leaf .leaf))))
theorem d4_ok : CallSim Try.prog tys stl tab d4.fn := Disp.sim ⟨n40_ok, ⟨n30_ok, ⟨n22_ok, ⟨n18_ok, ⟨n12_ok, True.intro, True.intro⟩, True.intro⟩, ⟨n29_ok, ⟨n28_ok, True.intro, True.intro⟩, True.intro⟩⟩, ⟨n37_ok, ⟨n35_ok, ⟨n33_ok, True.intro, True.intro⟩, True.intro⟩, ⟨n39_ok, True.intro, True.intro⟩⟩⟩, ⟨n58_ok, ⟨n52_ok, ⟨n51_ok, ⟨n41_ok, True.intro, True.intro⟩, True.intro⟩, ⟨n57_ok, ⟨n53_ok, True.intro, True.intro⟩, True.intro⟩⟩, ⟨n63_ok, ⟨n60_ok, ⟨n59_ok, True.intro, True.intro⟩, True.intro⟩, ⟨n64_ok, True.intro, True.intro⟩⟩⟩⟩
/- foghorn/field.Through -/
noncomputable def R26 (q_addW : Nat → Nat → Option CV → W → W → (W → Bool) → Bool) (q_bitW : (Nat → Nat → Nat) → Nat → Nat → Option CV → W → W → (W → Bool) → Bool) (q_cmpW : (Nat → Nat → Bool) → Nat → Option CV → W → W → (W → Bool) → Bool) (q_condW : W → Bool → Bool → Bool) (q_fadW : Nat → W → (W → Bool) → Bool) (q_idxSW : Nat → W → W → (W → Bool) → Bool) (q_idxAW : Nat → Nat → W → W → (W → Bool) → Bool) (q_lenW : Option CV → W → (W → Bool) → Bool) (q_detW : W → Bool → Bool) (q_killVW : W → HW → (HW → Bool) → Bool) (q_loadSW : HW → W → (W → Bool) → Bool) (q_loadAW : Nat → HW → W → (W → Bool) → Bool) (q_storeSW : HW → W → W → (HW → Bool) → Bool) (q_storeAW : Nat → HW → W → W → (HW → Bool) → Bool) (q_allocW : Trie W → Nat → Bool → HW → Nat → KW → Bool) (q_buildSW : Nat → Nat → Kind → Nat → Bool → HW → Nat → Nat → List W → KW → Bool) (q_andW : Bool → Bool → Bool) (fu : Nat) (call : CallW) (a0 : W) (h0 : HW) (c0 : Nat) (K : KW) : Bool :=
q_lenW (lenC tys 38 (dec a0)) a0 fun v1 =>
q_cmpW (cmpF2 .gtr) 3 (binC Try.prog .gtr 3 (.tmp 14) (.const (.int .i64 (.ofNat 256))) (dec v1) (dec ⟨3, 256, r0, []⟩)) v1 ⟨3, 256, r0, []⟩ fun v2 =>
q_condW v2 (
q_killVW wUnd h0 fun h3 =>
K ⟨13, 0, r0, [⟨12, 0, ⟨0, 0, 0, .nils⟩, []⟩, ⟨3, 1, r0, []⟩]⟩ h3 c0) (
q_allocW (allocT tys 58) 256 true h0 c0 fun v4 h5 c6 =>
q_lenW (lenC tys 38 (dec a0)) a0 fun v7 =>
@Nat.rec (fun _ => Fun 1) (fun _ _ _ => false) (fun _ f11 v8 h9 c10 =>
q_cmpW (cmpF2 .lss) 3 (binC Try.prog .lss 3 (.tmp 18) (.tmp 17) (dec v8) (dec v7)) v8 v7 fun v12 =>
q_condW v12 (
q_idxSW 2 a0 v8 fun v13 =>
q_loadAW 2 h9 v13 fun v14 =>
q_allocW (allocT tys 41) 2 true h9 c10 fun v15 h16 c17 =>
q_storeAW 2 h16 v15 v14 fun h18 =>
q_fadW 0 v15 fun v19 =>
q_loadSW h18 v19 fun v20 =>
q_idxAW 1 256 v4 v20 fun v21 =>
q_loadSW h18 v21 fun v22 =>
q_addW 3 9223372036854775807 (binC Try.prog .add 3 (.tmp 25) (.const (.int .i64 (.ofNat 1))) (dec v22) (dec ⟨3, 1, r0, []⟩)) v22 ⟨3, 1, r0, []⟩ fun v23 =>
q_idxAW 1 256 v4 v20 fun v24 =>
q_storeSW h18 v24 v23 fun h25 =>
q_fadW 0 v15 fun v26 =>
q_loadSW h25 v26 fun v27 =>
q_idxAW 1 256 v4 v27 fun v28 =>
q_loadSW h25 v28 fun v29 =>
q_cmpW (cmpF2 .gtr) 3 (binC Try.prog .gtr 3 (.tmp 31) (.const (.int .i64 (.ofNat 1))) (dec v29) (dec ⟨3, 1, r0, []⟩)) v29 ⟨3, 1, r0, []⟩ fun v30 =>
q_condW v30 (
q_killVW v4 h25 fun h31 =>
K ⟨13, 0, r0, [⟨12, 0, ⟨0, 0, 0, .nils⟩, []⟩, ⟨3, 1, r0, []⟩]⟩ h31 c17) (
q_addW 3 9223372036854775807 (binC Try.prog .add 3 (.tmp 18) (.const (.int .i64 (.ofNat 1))) (dec v8) (dec ⟨3, 1, r0, []⟩)) v8 ⟨3, 1, r0, []⟩ fun v32 =>
f11 v32 h25 c17)) (
q_buildSW 1 4 (.ints .u8) 1 true h9 c10 1 [⟨4, 1, r0, []⟩] fun v33 h34 c35 =>
q_lenW (lenC tys 38 (dec a0)) a0 fun v36 =>
@Nat.rec (fun _ => Fun 3) (fun _ _ _ _ _ => false) (fun _ f42 v37 v38 v39 h40 c41 =>
q_cmpW (cmpF2 .lss) 3 (binC Try.prog .lss 3 (.tmp 37) (.tmp 36) (dec v39) (dec v36)) v39 v36 fun v43 =>
q_condW v43 (
q_idxSW 2 a0 v39 fun v44 =>
q_loadAW 2 h40 v44 fun v45 =>
q_allocW (allocT tys 41) 2 true h40 c41 fun v46 h47 c48 =>
q_storeAW 2 h47 v46 v45 fun h49 =>
q_fadW 0 v46 fun v50 =>
q_loadSW h49 v50 fun v51 =>
q_fadW 1 v46 fun v52 =>
q_detW v52 (
q_andW (call 51 [v37, v51] h49 c48 fun v53 h54 c55 =>
q_loadSW h54 v52 fun v56 =>
q_bitW Nat.xor 4 255 (binC Try.prog .xor 5 (.tmp 44) (.tmp 46) (dec v53) (dec v56)) v53 v56 fun v57 =>
q_fadW 0 v46 fun v58 =>
q_loadSW h54 v58 fun v59 =>
call 51 [v38, v59] h54 c55 fun v60 h61 c62 =>
call 40 [v60, ⟨3, 254, r0, []⟩] h61 c62 fun v63 h64 c65 =>
call 18 [v57, v63] h64 c65 fun v66 h67 c68 =>
q_buildSW 1 4 (.ints .u8) 1 true h67 c68 1 [v66] fun v69 h70 c71 =>
call 53 [v38, v69] h70 c71 fun v72 h73 c74 =>
call 52 [v37, v72] h73 c74 fun v75 h76 c77 =>
q_fadW 0 v46 fun v78 =>
q_loadSW h76 v78 fun v79 =>
q_buildSW 1 4 (.ints .u8) 2 true h76 c77 2 [v79, ⟨4, 1, r0, []⟩] fun v80 h81 c82 =>
call 53 [v38, v80] h81 c82 fun v83 h84 c85 =>
q_addW 3 9223372036854775807 (binC Try.prog .add 3 (.tmp 37) (.const (.int .i64 (.ofNat 1))) (dec v39) (dec ⟨3, 1, r0, []⟩)) v39 ⟨3, 1, r0, []⟩ fun v86 =>
f42 v75 v83 v86 h84 c85) (q_andW (q_loadSW h49 v52 fun v87 =>
call 51 [v37, v51] h49 c48 fun v88 h89 c90 =>
q_bitW Nat.xor 4 255 (binC Try.prog .xor 5 (.tmp 44) (.tmp 46) (dec v88) (dec v87)) v88 v87 fun v91 =>
q_fadW 0 v46 fun v92 =>
q_loadSW h89 v92 fun v93 =>
call 51 [v38, v93] h89 c90 fun v94 h95 c96 =>
call 40 [v94, ⟨3, 254, r0, []⟩] h95 c96 fun v97 h98 c99 =>
call 18 [v91, v97] h98 c99 fun v100 h101 c102 =>
q_buildSW 1 4 (.ints .u8) 1 true h101 c102 1 [v100] fun v103 h104 c105 =>
call 53 [v38, v103] h104 c105 fun v106 h107 c108 =>
call 52 [v37, v106] h107 c108 fun v109 h110 c111 =>
q_fadW 0 v46 fun v112 =>
q_loadSW h110 v112 fun v113 =>
q_buildSW 1 4 (.ints .u8) 2 true h110 c111 2 [v113, ⟨4, 1, r0, []⟩] fun v114 h115 c116 =>
call 53 [v38, v114] h115 c116 fun v117 h118 c119 =>
q_addW 3 9223372036854775807 (binC Try.prog .add 3 (.tmp 37) (.const (.int .i64 (.ofNat 1))) (dec v39) (dec ⟨3, 1, r0, []⟩)) v39 ⟨3, 1, r0, []⟩ fun v120 =>
f42 v109 v117 v120 h118 c119) (true)))) (
q_killVW v4 h40 fun h121 =>
K ⟨13, 0, r0, [v37, ⟨3, 0, r0, []⟩]⟩ h121 c41)) fu ⟨12, 0, ⟨0, 0, 0, .nils⟩, []⟩ v33 ⟨3, 0, r0, []⟩ h34 c35)) fu ⟨3, 0, r0, []⟩ h5 c6)
theorem R26_eq (Q : PrimW) (fu : Nat) (call : CallW) : curryA 1 (fnK Q Try.prog tys stl fu call e26) = R26 Q.addW Q.bitW Q.cmpW Q.condW Q.fadW Q.idxSW Q.idxAW Q.lenW Q.detW Q.killVW Q.loadSW Q.loadAW Q.storeSW Q.storeAW Q.allocW Q.buildSW Q.andW fu call := by kernel_rfl
noncomputable def n26 : List W → HW → Nat → KW → Bool := appF 1 (R26 addW bitW cmpW condW fadW idxSW idxAW lenW detW killVW loadSW loadAW storeSW storeAW allocW buildSW andW 1000000 d4.fn)
theorem n26_ok : FnGood Try.prog tys stl tab 26 n26 := node_ok d4_ok (by kernel_rfl) rfl g26 (R26_eq real _ _)
/- foghorn/field.At -/
noncomputable def R31 (q_condW : W → Bool → Bool → Bool) (q_buildSW : Nat → Nat → Kind → Nat → Bool → HW → Nat → Nat → List W → KW → Bool) (fu : Nat) (call : CallW) (a0 : W) (a1 : W) (h0 : HW) (c0 : Nat) (K : KW) : Bool :=
q_buildSW 1 9 .avs 1 true h0 c0 1 [a0] fun v1 h2 c3 =>
call 57 [v1] h2 c3 fun v4 h5 c6 =>
q_condW v4 (
K ⟨13, 0, r0, [⟨4, 0, r0, []⟩, ⟨3, 1, r0, []⟩]⟩ h5 c6) (
call 51 [a0, a1] h5 c6 fun v7 h8 c9 =>
K ⟨13, 0, r0, [v7, ⟨3, 0, r0, []⟩]⟩ h8 c9)
theorem R31_eq (Q : PrimW) (fu : Nat) (call : CallW) : curryA 2 (fnK Q Try.prog tys stl fu call e31) = R31 Q.condW Q.buildSW fu call := by kernel_rfl
noncomputable def n31 : List W → HW → Nat → KW → Bool := appF 2 (R31 condW buildSW 1000000 d4.fn)
theorem n31_ok : FnGood Try.prog tys stl tab 31 n31 := node_ok d4_ok (by kernel_rfl) rfl g31 (R31_eq real _ _)
/- foghorn/field.Roots -/
noncomputable def R38 (q_share : (α : Type) → α → (α → Bool) → Bool) (q_addW : Nat → Nat → Option CV → W → W → (W → Bool) → Bool) (q_cmpW : (Nat → Nat → Bool) → Nat → Option CV → W → W → (W → Bool) → Bool) (q_icvW : Nat → Nat → Option CV → W → (W → Bool) → Bool) (q_condW : W → Bool → Bool → Bool) (q_lenW : Option CV → W → (W → Bool) → Bool) (q_killVW : W → HW → (HW → Bool) → Bool) (q_buildSW : Nat → Nat → Kind → Nat → Bool → HW → Nat → Nat → List W → KW → Bool) (q_appSW : Nat → Nat → (Kind → Bool) → Bool → HW → Nat → W → W → Bool → KW → Bool) (fu : Nat) (call : CallW) (a0 : W) (h0 : HW) (c0 : Nat) (K : KW) : Bool :=
q_buildSW 1 9 .avs 1 true h0 c0 1 [a0] fun v1 h2 c3 =>
call 57 [v1] h2 c3 fun v4 h5 c6 =>
q_condW v4 (
K ⟨13, 0, r0, [⟨12, 0, ⟨0, 0, 0, .nils⟩, []⟩, ⟨3, 1, r0, []⟩]⟩ h5 c6) (
call 58 [a0] h5 c6 fun v7 h8 c9 =>
q_lenW (lenC tys 32 (dec v7)) v7 fun v10 =>
q_cmpW (cmpF2 .eql) 3 (binC Try.prog .eql 3 (.tmp 12) (.const (.int .i64 (.ofNat 0))) (dec v10) (dec ⟨3, 0, r0, []⟩)) v10 ⟨3, 0, r0, []⟩ fun v11 =>
q_condW v11 (
K ⟨13, 0, r0, [⟨12, 0, ⟨0, 0, 0, .nils⟩, []⟩, ⟨3, 6, r0, []⟩]⟩ h8 c9) (
@Nat.rec (fun _ => Fun 2) (fun _ _ _ _ => false) (fun _ f16 v12 v13 h14 c15 =>
q_cmpW (cmpF2 .lss) 3 (binC Try.prog .lss 3 (.tmp 14) (.const (.int .i64 (.ofNat 256))) (dec v13) (dec ⟨3, 256, r0, []⟩)) v13 ⟨3, 256, r0, []⟩ fun v17 =>
q_condW v17 (
q_share _ (fun (v18 : W) (h19 : HW) (c20 : Nat) =>
q_addW 3 9223372036854775807 (binC Try.prog .add 3 (.tmp 14) (.const (.int .i64 (.ofNat 1))) (dec v13) (dec ⟨3, 1, r0, []⟩)) v13 ⟨3, 1, r0, []⟩ fun v22 =>
f16 v18 v22 h19 c20) fun f21 =>
q_icvW 4 255 (convC Try.prog tys ⟨[], 0, decH h14, 0⟩ 3 5 (dec v13)) v13 fun v23 =>
call 51 [v7, v23] h14 c15 fun v24 h25 c26 =>
q_cmpW (cmpF2 .eql) 4 (binC Try.prog .eql 5 (.tmp 20) (.const (.int .u8 (.ofNat 0))) (dec v24) (dec ⟨4, 0, r0, []⟩)) v24 ⟨4, 0, r0, []⟩ fun v27 =>
q_condW v27 (
q_icvW 4 255 (convC Try.prog tys ⟨[], 0, decH h25, 0⟩ 3 5 (dec v13)) v13 fun v28 =>
q_buildSW 1 4 (.ints .u8) 1 true h25 c26 1 [v28] fun v29 h30 c31 =>
q_appSW 1 1 (appKindOk (elemJ tys 32)) false h30 c31 v12 v29 false fun v32 h33 c34 =>
q_killVW v29 h33 fun h35 =>
f21 v32 h35 c34) (
f21 v12 h25 c26)) (
K ⟨13, 0, r0, [v12, ⟨3, 0, r0, []⟩]⟩ h14 c15)) fu ⟨12, 0, ⟨0, 0, 0, .nils⟩, []⟩ ⟨3, 0, r0, []⟩ h8 c9))
theorem R38_eq (Q : PrimW) (fu : Nat) (call : CallW) : curryA 1 (fnK Q Try.prog tys stl fu call e38) = R38 Q.share Q.addW Q.cmpW Q.icvW Q.condW Q.lenW Q.killVW Q.buildSW Q.appSW fu call := by kernel_rfl
noncomputable def n38 : List W → HW → Nat → KW → Bool := appF 1 (R38 (fun _ x f => f x) addW cmpW icvW condW lenW killVW buildSW appSW 1000000 d4.fn)
theorem n38_ok : FnGood Try.prog tys stl tab 38 n38 := node_ok d4_ok (by kernel_rfl) rfl g38 (R38_eq real _ _)
noncomputable def d5 : Disp := (.node 39 n39 (.node 30 n30 (.node 26 n26 (.node 18 n18 (.node 12 n12 .leaf .leaf) (.node 22 n22 .leaf .leaf)) (.node 29 n29 (.node 28 n28 .leaf .leaf) .leaf)) (.node 35 n35 (.node 33 n33 (.node 31 n31 .leaf .leaf) .leaf) (.node 38 n38 (.node 37 n37 .leaf .leaf) .leaf))) (.node 57 n57 (.node 51 n51 (.node 41 n41 (.node 40 n40 .leaf .leaf) .leaf) (.node 53 n53 (.node 52 n52 .leaf .leaf) .leaf)) (.node 60 n60 (.node 59 n59 (.node 58 n58 .leaf .leaf) .leaf) (.node 64 n64 (.node 63 n63 .leaf .leaf) .leaf))))
theorem d5_ok : CallSim Try.prog tys stl tab d5.fn := Disp.sim ⟨n39_ok, ⟨n30_ok, ⟨n26_ok, ⟨n18_ok, ⟨n12_ok, True.intro, True.intro⟩, ⟨n22_ok, True.intro, True.intro⟩⟩, ⟨n29_ok, ⟨n28_ok, True.intro, True.intro⟩, True.intro⟩⟩, ⟨n35_ok, ⟨n33_ok, ⟨n31_ok, True.intro, True.intro⟩, True.intro⟩, ⟨n38_ok, ⟨n37_ok, True.intro, True.intro⟩, True.intro⟩⟩⟩, ⟨n57_ok, ⟨n51_ok, ⟨n41_ok, ⟨n40_ok, True.intro, True.intro⟩, True.intro⟩, ⟨n53_ok, ⟨n52_ok, True.intro, True.intro⟩, True.intro⟩⟩, ⟨n60_ok, ⟨n59_ok, ⟨n58_ok, True.intro, True.intro⟩, True.intro⟩, ⟨n64_ok, ⟨n63_ok, True.intro, True.intro⟩, True.intro⟩⟩⟩⟩
/- foghorn/foghornlaw18.FieldNone -/
noncomputable def R9 (q_share : (α : Type) → α → (α → Bool) → Bool) (q_cmpW : (Nat → Nat → Bool) → Nat → Option CV → W → W → (W → Bool) → Bool) (q_guardW : Bool → W → Bool → Bool → Bool) (q_pickW : W → W → W → (W → Bool) → Bool) (q_idxSW : Nat → W → W → (W → Bool) → Bool) (q_lenW : Option CV → W → (W → Bool) → Bool) (q_tupW : W → (List W → Bool) → Bool) (q_nthW : Nat → List W → (W → Bool) → Bool) (q_storeSW : HW → W → W → (HW → Bool) → Bool) (q_makeSW : Nat → Nat → Nat → Kind → List W → Bool → HW → Nat → W → W → KW → Bool) (q_buildSW : Nat → Nat → Kind → Nat → Bool → HW → Nat → Nat → List W → KW → Bool) (fu : Nat) (call : CallW) (h0 : HW) (c0 : Nat) (K : KW) : Bool :=
q_makeSW 1 1 4 (.ints .u8) [⟨4, 0, r0, []⟩] true h0 c0 ⟨3, 512, r0, []⟩ ⟨3, 512, r0, []⟩ fun v1 h2 c3 =>
q_idxSW 1 v1 ⟨3, 511, r0, []⟩ fun v4 =>
q_storeSW h2 v4 ⟨4, 1, r0, []⟩ fun h5 =>
q_makeSW 1 1 4 (.ints .u8) [⟨4, 0, r0, []⟩] true h5 c3 ⟨3, 513, r0, []⟩ ⟨3, 513, r0, []⟩ fun v6 h7 c8 =>
call 29 [v6, ⟨12, 0, ⟨0, 0, 0, .nils⟩, []⟩] h7 c8 fun v9 h10 c11 =>
q_tupW v9 fun l12 => q_nthW 0 l12 fun v13 =>
q_tupW v9 fun l14 => q_nthW 1 l14 fun v15 =>
call 29 [⟨12, 0, ⟨0, 0, 0, .nils⟩, []⟩, ⟨12, 0, ⟨0, 0, 0, .nils⟩, []⟩] h10 c11 fun v16 h17 c18 =>
q_tupW v16 fun l19 => q_nthW 0 l19 fun v20 =>
q_tupW v16 fun l21 => q_nthW 1 l21 fun v22 =>
q_buildSW 1 4 (.ints .u8) 2 true h17 c18 2 [⟨4, 0, r0, []⟩, ⟨4, 1, r0, []⟩] fun v23 h24 c25 =>
call 30 [v1, v23] h24 c25 fun v26 h27 c28 =>
q_tupW v26 fun l29 => q_nthW 0 l29 fun v30 =>
q_tupW v26 fun l31 => q_nthW 1 l31 fun v32 =>
q_buildSW 1 4 (.ints .u8) 1 true h27 c28 1 [⟨4, 5, r0, []⟩] fun v33 h34 c35 =>
call 30 [v1, v33] h34 c35 fun v36 h37 c38 =>
q_tupW v36 fun l39 => q_nthW 0 l39 fun v40 =>
q_tupW v36 fun l41 => q_nthW 1 l41 fun v42 =>
call 30 [v1, ⟨12, 0, ⟨0, 0, 0, .nils⟩, []⟩] h37 c38 fun v43 h44 c45 =>
q_tupW v43 fun l46 => q_nthW 0 l46 fun v47 =>
q_tupW v43 fun l48 => q_nthW 1 l48 fun v49 =>
q_makeSW 1 1 4 (.ints .u8) [⟨4, 0, r0, []⟩] true h44 c45 ⟨3, 512, r0, []⟩ ⟨3, 512, r0, []⟩ fun v50 h51 c52 =>
q_makeSW 1 1 4 (.ints .u8) [⟨4, 0, r0, []⟩] true h51 c52 ⟨3, 512, r0, []⟩ ⟨3, 512, r0, []⟩ fun v53 h54 c55 =>
call 30 [v50, v53] h54 c55 fun v56 h57 c58 =>
q_tupW v56 fun l59 => q_nthW 0 l59 fun v60 =>
q_tupW v56 fun l61 => q_nthW 1 l61 fun v62 =>
q_makeSW 1 1 4 (.ints .u8) [⟨4, 0, r0, []⟩] true h57 c58 ⟨3, 9, r0, []⟩ ⟨3, 9, r0, []⟩ fun v63 h64 c65 =>
call 33 [⟨12, 0, ⟨0, 0, 0, .nils⟩, []⟩, v63] h64 c65 fun v66 h67 c68 =>
q_tupW v66 fun l69 => q_nthW 0 l69 fun v70 =>
q_tupW v66 fun l71 => q_nthW 1 l71 fun v72 =>
q_tupW v66 fun l73 => q_nthW 2 l73 fun v74 =>
q_makeSW 1 1 4 (.ints .u8) [⟨4, 0, r0, []⟩] true h67 c68 ⟨3, 9, r0, []⟩ ⟨3, 9, r0, []⟩ fun v75 h76 c77 =>
call 38 [v75] h76 c77 fun v78 h79 c80 =>
q_tupW v78 fun l81 => q_nthW 0 l81 fun v82 =>
q_tupW v78 fun l83 => q_nthW 1 l83 fun v84 =>
q_buildSW 1 4 (.ints .u8) 1 true h79 c80 1 [⟨4, 1, r0, []⟩] fun v85 h86 c87 =>
call 38 [v85] h86 c87 fun v88 h89 c90 =>
q_tupW v88 fun l91 => q_nthW 0 l91 fun v92 =>
q_tupW v88 fun l93 => q_nthW 1 l93 fun v94 =>
q_makeSW 1 1 4 (.ints .u8) [⟨4, 0, r0, []⟩] true h89 c90 ⟨3, 512, r0, []⟩ ⟨3, 512, r0, []⟩ fun v95 h96 c97 =>
call 37 [v95] h96 c97 fun v98 h99 c100 =>
q_tupW v98 fun l101 => q_nthW 0 l101 fun v102 =>
q_tupW v98 fun l103 => q_nthW 1 l103 fun v104 =>
q_makeSW 1 1 4 (.ints .u8) [⟨4, 0, r0, []⟩] true h99 c100 ⟨3, 511, r0, []⟩ ⟨3, 511, r0, []⟩ fun v105 h106 c107 =>
call 37 [v105] h106 c107 fun v108 h109 c110 =>
q_tupW v108 fun l111 => q_nthW 0 l111 fun v112 =>
q_tupW v108 fun l113 => q_nthW 1 l113 fun v114 =>
call 26 [⟨12, 0, ⟨0, 0, 0, .nils⟩, []⟩] h109 c110 fun v115 h116 c117 =>
q_tupW v115 fun l118 => q_nthW 0 l118 fun v119 =>
q_tupW v115 fun l120 => q_nthW 1 l120 fun v121 =>
q_makeSW 1 1 4 (.ints .u8) [⟨4, 0, r0, []⟩] true h116 c117 ⟨3, 3, r0, []⟩ ⟨3, 3, r0, []⟩ fun v122 h123 c124 =>
call 35 [⟨12, 0, ⟨0, 0, 0, .nils⟩, []⟩, v122] h123 c124 fun v125 h126 c127 =>
q_tupW v125 fun l128 => q_nthW 0 l128 fun v129 =>
q_tupW v125 fun l130 => q_nthW 1 l130 fun v131 =>
q_makeSW 1 1 4 (.ints .u8) [⟨4, 0, r0, []⟩] true h126 c127 ⟨3, 513, r0, []⟩ ⟨3, 513, r0, []⟩ fun v132 h133 c134 =>
call 31 [v132, ⟨4, 0, r0, []⟩] h133 c134 fun v135 h136 c137 =>
q_tupW v135 fun l138 => q_nthW 0 l138 fun v139 =>
q_tupW v135 fun l140 => q_nthW 1 l140 fun v141 =>
q_makeSW 1 1 4 (.ints .u8) [⟨4, 0, r0, []⟩] true h136 c137 ⟨3, 513, r0, []⟩ ⟨3, 513, r0, []⟩ fun v142 h143 c144 =>
call 39 [v142] h143 c144 fun v145 h146 c147 =>
q_tupW v145 fun l148 => q_nthW 0 l148 fun v149 =>
q_tupW v145 fun l150 => q_nthW 1 l150 fun v151 =>
call 12 [⟨4, 0, r0, []⟩, ⟨3, 0, r0, []⟩] h146 c147 fun v152 h153 c154 =>
q_tupW v152 fun l155 => q_nthW 0 l155 fun v156 =>
q_tupW v152 fun l157 => q_nthW 1 l157 fun v158 =>
q_cmpW (cmpF2 .eql) 3 (binC Try.prog .eql 22 (.tmp 119) (.const (.int .i64 (.ofNat 1))) (dec v15) (dec ⟨3, 1, r0, []⟩)) v15 ⟨3, 1, r0, []⟩ fun v159 =>
q_share _ (fun (v161 : W) (h162 : HW) (c163 : Nat) =>
q_share _ (fun (v165 : W) (h166 : HW) (c167 : Nat) =>
q_share _ (fun (v169 : W) (h170 : HW) (c171 : Nat) =>
q_pickW v159 v169 ⟨8, 0, r0, []⟩ fun v172 =>
q_share _ (fun (v174 : W) (h175 : HW) (c176 : Nat) =>
q_share _ (fun (v178 : W) (h179 : HW) (c180 : Nat) =>
q_pickW v172 v178 ⟨8, 0, r0, []⟩ fun v181 =>
q_share _ (fun (v183 : W) (h184 : HW) (c185 : Nat) =>
q_share _ (fun (v187 : W) (h188 : HW) (c189 : Nat) =>
q_pickW v181 v187 ⟨8, 0, r0, []⟩ fun v190 =>
q_share _ (fun (v192 : W) (h193 : HW) (c194 : Nat) =>
q_share _ (fun (v196 : W) (h197 : HW) (c198 : Nat) =>
q_share _ (fun (v200 : W) (h201 : HW) (c202 : Nat) =>
q_pickW v190 v200 ⟨8, 0, r0, []⟩ fun v203 =>
q_share _ (fun (v205 : W) (h206 : HW) (c207 : Nat) =>
q_share _ (fun (v209 : W) (h210 : HW) (c211 : Nat) =>
q_pickW v203 v209 ⟨8, 0, r0, []⟩ fun v212 =>
q_share _ (fun (v214 : W) (h215 : HW) (c216 : Nat) =>
q_share _ (fun (v218 : W) (h219 : HW) (c220 : Nat) =>
q_share _ (fun (v222 : W) (h223 : HW) (c224 : Nat) =>
q_pickW v212 v222 ⟨8, 0, r0, []⟩ fun v225 =>
q_share _ (fun (v227 : W) (h228 : HW) (c229 : Nat) =>
q_share _ (fun (v231 : W) (h232 : HW) (c233 : Nat) =>
q_pickW v225 v231 ⟨8, 0, r0, []⟩ fun v234 =>
q_share _ (fun (v236 : W) (h237 : HW) (c238 : Nat) =>
q_share _ (fun (v240 : W) (h241 : HW) (c242 : Nat) =>
q_share _ (fun (v244 : W) (h245 : HW) (c246 : Nat) =>
q_pickW v234 v244 ⟨8, 0, r0, []⟩ fun v247 =>
q_share _ (fun (v249 : W) (h250 : HW) (c251 : Nat) =>
q_share _ (fun (v253 : W) (h254 : HW) (c255 : Nat) =>
q_pickW v247 v253 ⟨8, 0, r0, []⟩ fun v256 =>
q_share _ (fun (v258 : W) (h259 : HW) (c260 : Nat) =>
q_share _ (fun (v262 : W) (h263 : HW) (c264 : Nat) =>
q_pickW v256 v262 ⟨8, 0, r0, []⟩ fun v265 =>
q_share _ (fun (v267 : W) (h268 : HW) (c269 : Nat) =>
q_share _ (fun (v271 : W) (h272 : HW) (c273 : Nat) =>
q_pickW v265 v271 ⟨8, 0, r0, []⟩ fun v274 =>
q_share _ (fun (v276 : W) (h277 : HW) (c278 : Nat) =>
q_share _ (fun (v280 : W) (h281 : HW) (c282 : Nat) =>
q_share _ (fun (v284 : W) (h285 : HW) (c286 : Nat) =>
q_pickW v274 v284 ⟨8, 0, r0, []⟩ fun v287 =>
q_share _ (fun (v289 : W) (h290 : HW) (c291 : Nat) =>
q_share _ (fun (v293 : W) (h294 : HW) (c295 : Nat) =>
q_pickW v287 v293 ⟨8, 0, r0, []⟩ fun v296 =>
q_share _ (fun (v298 : W) (h299 : HW) (c300 : Nat) =>
q_share _ (fun (v302 : W) (h303 : HW) (c304 : Nat) =>
q_pickW v296 v302 ⟨8, 0, r0, []⟩ fun v305 =>
q_share _ (fun (v307 : W) (h308 : HW) (c309 : Nat) =>
q_share _ (fun (v311 : W) (h312 : HW) (c313 : Nat) =>
q_share _ (fun (v315 : W) (h316 : HW) (c317 : Nat) =>
q_pickW v305 v315 ⟨8, 0, r0, []⟩ fun v318 =>
q_share _ (fun (v320 : W) (h321 : HW) (c322 : Nat) =>
q_share _ (fun (v324 : W) (h325 : HW) (c326 : Nat) =>
q_pickW v318 v324 ⟨8, 0, r0, []⟩ fun v327 =>
q_share _ (fun (v329 : W) (h330 : HW) (c331 : Nat) =>
q_share _ (fun (v333 : W) (h334 : HW) (c335 : Nat) =>
q_share _ (fun (v337 : W) (h338 : HW) (c339 : Nat) =>
q_pickW v327 v337 ⟨8, 0, r0, []⟩ fun v340 =>
q_share _ (fun (v342 : W) (h343 : HW) (c344 : Nat) =>
q_share _ (fun (v346 : W) (h347 : HW) (c348 : Nat) =>
q_pickW v340 v346 ⟨8, 0, r0, []⟩ fun v349 =>
q_share _ (fun (v351 : W) (h352 : HW) (c353 : Nat) =>
q_share _ (fun (v355 : W) (h356 : HW) (c357 : Nat) =>
q_share _ (fun (v359 : W) (h360 : HW) (c361 : Nat) =>
q_pickW v349 v359 ⟨8, 0, r0, []⟩ fun v362 =>
q_share _ (fun (v364 : W) (h365 : HW) (c366 : Nat) =>
q_share _ (fun (v368 : W) (h369 : HW) (c370 : Nat) =>
q_pickW v362 v368 ⟨8, 0, r0, []⟩ fun v371 =>
q_share _ (fun (v373 : W) (h374 : HW) (c375 : Nat) =>
q_share _ (fun (v377 : W) (h378 : HW) (c379 : Nat) =>
q_pickW v371 v377 ⟨8, 0, r0, []⟩ fun v380 =>
q_share _ (fun (v382 : W) (h383 : HW) (c384 : Nat) =>
q_share _ (fun (v386 : W) (h387 : HW) (c388 : Nat) =>
q_pickW v380 v386 ⟨8, 0, r0, []⟩ fun v389 =>
q_share _ (fun (v391 : W) (h392 : HW) (c393 : Nat) =>
q_share _ (fun (v395 : W) (h396 : HW) (c397 : Nat) =>
q_pickW v389 v395 ⟨8, 0, r0, []⟩ fun v398 =>
q_share _ (fun (v400 : W) (h401 : HW) (c402 : Nat) =>
q_share _ (fun (v404 : W) (h405 : HW) (c406 : Nat) =>
q_pickW v398 v404 ⟨8, 0, r0, []⟩ fun v407 =>
q_share _ (fun (v409 : W) (h410 : HW) (c411 : Nat) =>
q_pickW v407 v409 ⟨8, 0, r0, []⟩ fun v412 =>
K v412 h410 c411) fun f408 =>
q_guardW true v407 (call 22 [] h405 c406 fun v413 h414 c415 =>
f408 v413 h414 c415) (f408 wUnd h405 c406)) fun f403 =>
q_guardW true v398 (q_cmpW (cmpF2 .eql) 3 (binC Try.prog .eql 22 (.tmp 222) (.const (.int .i64 (.ofNat 0))) (dec v400) (dec ⟨3, 0, r0, []⟩)) v400 ⟨3, 0, r0, []⟩ fun v416 =>
f403 v416 h401 c402) (f403 wUnd h401 c402)) fun f399 =>
q_guardW true v398 (f399 v158 h396 c397) (f399 wUnd h396 c397)) fun f394 =>
q_guardW true v389 (q_cmpW (cmpF2 .eql) 4 (binC Try.prog .eql 5 (.tmp 218) (.const (.int .u8 (.ofNat 1))) (dec v391) (dec ⟨4, 1, r0, []⟩)) v391 ⟨4, 1, r0, []⟩ fun v417 =>
f394 v417 h392 c393) (f394 wUnd h392 c393)) fun f390 =>
q_guardW true v389 (f390 v156 h387 c388) (f390 wUnd h387 c388)) fun f385 =>
q_guardW true v380 (q_cmpW (cmpF2 .eql) 3 (binC Try.prog .eql 22 (.tmp 214) (.const (.int .i64 (.ofNat 1))) (dec v382) (dec ⟨3, 1, r0, []⟩)) v382 ⟨3, 1, r0, []⟩ fun v418 =>
f385 v418 h383 c384) (f385 wUnd h383 c384)) fun f381 =>
q_guardW true v380 (f381 v151 h378 c379) (f381 wUnd h378 c379)) fun f376 =>
q_guardW true v371 (q_cmpW (cmpF2 .eql) 3 (binC Try.prog .eql 22 (.tmp 210) (.const (.int .i64 (.ofNat 1))) (dec v373) (dec ⟨3, 1, r0, []⟩)) v373 ⟨3, 1, r0, []⟩ fun v419 =>
f376 v419 h374 c375) (f376 wUnd h374 c375)) fun f372 =>
q_guardW true v371 (f372 v141 h369 c370) (f372 wUnd h369 c370)) fun f367 =>
q_guardW true v362 (q_cmpW (cmpF2 .eql) 3 (binC Try.prog .eql 22 (.tmp 206) (.const (.int .i64 (.ofNat 0))) (dec v364) (dec ⟨3, 0, r0, []⟩)) v364 ⟨3, 0, r0, []⟩ fun v420 =>
f367 v420 h365 c366) (f367 wUnd h365 c366)) fun f363 =>
q_guardW true v362 (f363 v131 h360 c361) (f363 wUnd h360 c361)) fun f358 =>
q_guardW true v349 (q_cmpW (cmpF2 .eql) 3 (binC Try.prog .eql 3 (.tmp 202) (.const (.int .i64 (.ofNat 0))) (dec v355) (dec ⟨3, 0, r0, []⟩)) v355 ⟨3, 0, r0, []⟩ fun v421 =>
f358 v421 h356 c357) (f358 wUnd h356 c357)) fun f354 =>
q_guardW true v349 (q_lenW (lenC tys 32 (dec v351)) v351 fun v422 =>
f354 v422 h352 c353) (f354 wUnd h352 c353)) fun f350 =>
q_guardW true v349 (f350 v129 h347 c348) (f350 wUnd h347 c348)) fun f345 =>
q_guardW true v340 (q_cmpW (cmpF2 .eql) 3 (binC Try.prog .eql 22 (.tmp 197) (.const (.int .i64 (.ofNat 0))) (dec v342) (dec ⟨3, 0, r0, []⟩)) v342 ⟨3, 0, r0, []⟩ fun v423 =>
f345 v423 h343 c344) (f345 wUnd h343 c344)) fun f341 =>
q_guardW true v340 (f341 v121 h338 c339) (f341 wUnd h338 c339)) fun f336 =>
q_guardW true v327 (q_cmpW (cmpF2 .eql) 3 (binC Try.prog .eql 3 (.tmp 193) (.const (.int .i64 (.ofNat 0))) (dec v333) (dec ⟨3, 0, r0, []⟩)) v333 ⟨3, 0, r0, []⟩ fun v424 =>
f336 v424 h334 c335) (f336 wUnd h334 c335)) fun f332 =>
q_guardW true v327 (q_lenW (lenC tys 32 (dec v329)) v329 fun v425 =>
f332 v425 h330 c331) (f332 wUnd h330 c331)) fun f328 =>
q_guardW true v327 (f328 v119 h325 c326) (f328 wUnd h325 c326)) fun f323 =>
q_guardW true v318 (q_cmpW (cmpF2 .eql) 3 (binC Try.prog .eql 22 (.tmp 188) (.const (.int .i64 (.ofNat 0))) (dec v320) (dec ⟨3, 0, r0, []⟩)) v320 ⟨3, 0, r0, []⟩ fun v426 =>
f323 v426 h321 c322) (f323 wUnd h321 c322)) fun f319 =>
q_guardW true v318 (f319 v114 h316 c317) (f319 wUnd h316 c317)) fun f314 =>
q_guardW true v305 (q_cmpW (cmpF2 .eql) 3 (binC Try.prog .eql 3 (.tmp 184) (.const (.int .i64 (.ofNat 512))) (dec v311) (dec ⟨3, 512, r0, []⟩)) v311 ⟨3, 512, r0, []⟩ fun v427 =>
f314 v427 h312 c313) (f314 wUnd h312 c313)) fun f310 =>
q_guardW true v305 (q_lenW (lenC tys 32 (dec v307)) v307 fun v428 =>
f310 v428 h308 c309) (f310 wUnd h308 c309)) fun f306 =>
q_guardW true v305 (f306 v112 h303 c304) (f306 wUnd h303 c304)) fun f301 =>
q_guardW true v296 (q_cmpW (cmpF2 .eql) 3 (binC Try.prog .eql 22 (.tmp 179) (.const (.int .i64 (.ofNat 1))) (dec v298) (dec ⟨3, 1, r0, []⟩)) v298 ⟨3, 1, r0, []⟩ fun v429 =>
f301 v429 h299 c300) (f301 wUnd h299 c300)) fun f297 =>
q_guardW true v296 (f297 v104 h294 c295) (f297 wUnd h294 c295)) fun f292 =>
q_guardW true v287 (q_cmpW (cmpF2 .eql) 3 (binC Try.prog .eql 22 (.tmp 175) (.const (.int .i64 (.ofNat 0))) (dec v289) (dec ⟨3, 0, r0, []⟩)) v289 ⟨3, 0, r0, []⟩ fun v430 =>
f292 v430 h290 c291) (f292 wUnd h290 c291)) fun f288 =>
q_guardW true v287 (f288 v94 h285 c286) (f288 wUnd h285 c286)) fun f283 =>
q_guardW true v274 (q_cmpW (cmpF2 .eql) 3 (binC Try.prog .eql 3 (.tmp 171) (.const (.int .i64 (.ofNat 0))) (dec v280) (dec ⟨3, 0, r0, []⟩)) v280 ⟨3, 0, r0, []⟩ fun v431 =>
f283 v431 h281 c282) (f283 wUnd h281 c282)) fun f279 =>
q_guardW true v274 (q_lenW (lenC tys 32 (dec v276)) v276 fun v432 =>
f279 v432 h277 c278) (f279 wUnd h277 c278)) fun f275 =>
q_guardW true v274 (f275 v92 h272 c273) (f275 wUnd h272 c273)) fun f270 =>
q_guardW true v265 (q_cmpW (cmpF2 .eql) 3 (binC Try.prog .eql 22 (.tmp 166) (.const (.int .i64 (.ofNat 6))) (dec v267) (dec ⟨3, 6, r0, []⟩)) v267 ⟨3, 6, r0, []⟩ fun v433 =>
f270 v433 h268 c269) (f270 wUnd h268 c269)) fun f266 =>
q_guardW true v265 (f266 v84 h263 c264) (f266 wUnd h263 c264)) fun f261 =>
q_guardW true v256 (q_cmpW (cmpF2 .eql) 3 (binC Try.prog .eql 22 (.tmp 162) (.const (.int .i64 (.ofNat 6))) (dec v258) (dec ⟨3, 6, r0, []⟩)) v258 ⟨3, 6, r0, []⟩ fun v434 =>
f261 v434 h259 c260) (f261 wUnd h259 c260)) fun f257 =>
q_guardW true v256 (f257 v74 h254 c255) (f257 wUnd h254 c255)) fun f252 =>
q_guardW true v247 (q_cmpW (cmpF2 .eql) 3 (binC Try.prog .eql 22 (.tmp 158) (.const (.int .i64 (.ofNat 0))) (dec v249) (dec ⟨3, 0, r0, []⟩)) v249 ⟨3, 0, r0, []⟩ fun v435 =>
f252 v435 h250 c251) (f252 wUnd h250 c251)) fun f248 =>
q_guardW true v247 (f248 v62 h245 c246) (f248 wUnd h245 c246)) fun f243 =>
q_guardW true v234 (q_cmpW (cmpF2 .eql) 3 (binC Try.prog .eql 3 (.tmp 154) (.const (.int .i64 (.ofNat 0))) (dec v240) (dec ⟨3, 0, r0, []⟩)) v240 ⟨3, 0, r0, []⟩ fun v436 =>
f243 v436 h241 c242) (f243 wUnd h241 c242)) fun f239 =>
q_guardW true v234 (q_lenW (lenC tys 32 (dec v236)) v236 fun v437 =>
f239 v437 h237 c238) (f239 wUnd h237 c238)) fun f235 =>
q_guardW true v234 (f235 v60 h232 c233) (f235 wUnd h232 c233)) fun f230 =>
q_guardW true v225 (q_cmpW (cmpF2 .eql) 3 (binC Try.prog .eql 22 (.tmp 149) (.const (.int .i64 (.ofNat 0))) (dec v227) (dec ⟨3, 0, r0, []⟩)) v227 ⟨3, 0, r0, []⟩ fun v438 =>
f230 v438 h228 c229) (f230 wUnd h228 c229)) fun f226 =>
q_guardW true v225 (f226 v49 h223 c224) (f226 wUnd h223 c224)) fun f221 =>
q_guardW true v212 (q_cmpW (cmpF2 .eql) 3 (binC Try.prog .eql 3 (.tmp 145) (.const (.int .i64 (.ofNat 0))) (dec v218) (dec ⟨3, 0, r0, []⟩)) v218 ⟨3, 0, r0, []⟩ fun v439 =>
f221 v439 h219 c220) (f221 wUnd h219 c220)) fun f217 =>
q_guardW true v212 (q_lenW (lenC tys 32 (dec v214)) v214 fun v440 =>
f217 v440 h215 c216) (f217 wUnd h215 c216)) fun f213 =>
q_guardW true v212 (f213 v47 h210 c211) (f213 wUnd h210 c211)) fun f208 =>
q_guardW true v203 (q_cmpW (cmpF2 .eql) 3 (binC Try.prog .eql 22 (.tmp 140) (.const (.int .i64 (.ofNat 0))) (dec v205) (dec ⟨3, 0, r0, []⟩)) v205 ⟨3, 0, r0, []⟩ fun v441 =>
f208 v441 h206 c207) (f208 wUnd h206 c207)) fun f204 =>
q_guardW true v203 (f204 v42 h201 c202) (f204 wUnd h201 c202)) fun f199 =>
q_guardW true v190 (q_cmpW (cmpF2 .eql) 3 (binC Try.prog .eql 3 (.tmp 136) (.const (.int .i64 (.ofNat 512))) (dec v196) (dec ⟨3, 512, r0, []⟩)) v196 ⟨3, 512, r0, []⟩ fun v442 =>
f199 v442 h197 c198) (f199 wUnd h197 c198)) fun f195 =>
q_guardW true v190 (q_lenW (lenC tys 32 (dec v192)) v192 fun v443 =>
f195 v443 h193 c194) (f195 wUnd h193 c194)) fun f191 =>
q_guardW true v190 (f191 v40 h188 c189) (f191 wUnd h188 c189)) fun f186 =>
q_guardW true v181 (q_cmpW (cmpF2 .eql) 3 (binC Try.prog .eql 22 (.tmp 131) (.const (.int .i64 (.ofNat 1))) (dec v183) (dec ⟨3, 1, r0, []⟩)) v183 ⟨3, 1, r0, []⟩ fun v444 =>
f186 v444 h184 c185) (f186 wUnd h184 c185)) fun f182 =>
q_guardW true v181 (f182 v32 h179 c180) (f182 wUnd h179 c180)) fun f177 =>
q_guardW true v172 (q_cmpW (cmpF2 .eql) 3 (binC Try.prog .eql 22 (.tmp 127) (.const (.int .i64 (.ofNat 0))) (dec v174) (dec ⟨3, 0, r0, []⟩)) v174 ⟨3, 0, r0, []⟩ fun v445 =>
f177 v445 h175 c176) (f177 wUnd h175 c176)) fun f173 =>
q_guardW true v172 (f173 v22 h170 c171) (f173 wUnd h170 c171)) fun f168 =>
q_guardW true v159 (q_cmpW (cmpF2 .eql) 3 (binC Try.prog .eql 3 (.tmp 123) (.const (.int .i64 (.ofNat 0))) (dec v165) (dec ⟨3, 0, r0, []⟩)) v165 ⟨3, 0, r0, []⟩ fun v446 =>
f168 v446 h166 c167) (f168 wUnd h166 c167)) fun f164 =>
q_guardW true v159 (q_lenW (lenC tys 32 (dec v161)) v161 fun v447 =>
f164 v447 h162 c163) (f164 wUnd h162 c163)) fun f160 =>
q_guardW true v159 (f160 v20 h153 c154) (f160 wUnd h153 c154)
theorem R9_eq (Q : PrimW) (fu : Nat) (call : CallW) : curryA 0 (fnK Q Try.prog tys stl fu call e9) = R9 Q.share Q.cmpW Q.guardW Q.pickW Q.idxSW Q.lenW Q.tupW Q.nthW Q.storeSW Q.makeSW Q.buildSW fu call := by kernel_rfl
noncomputable def n9 : List W → HW → Nat → KW → Bool := appF 0 (R9 (fun _ x f => f x) cmpW guardW pickW idxSW lenW tupW nthW storeSW makeSW buildSW 1000000 d5.fn)
theorem n9_ok : FnGood Try.prog tys stl tab 9 n9 := node_ok d5_ok (by kernel_rfl) rfl g9 (R9_eq real _ _)
noncomputable def d6 : Disp := (.node 38 n38 (.node 29 n29 (.node 22 n22 (.node 12 n12 (.node 9 n9 .leaf .leaf) (.node 18 n18 .leaf .leaf)) (.node 28 n28 (.node 26 n26 .leaf .leaf) .leaf)) (.node 33 n33 (.node 31 n31 (.node 30 n30 .leaf .leaf) .leaf) (.node 37 n37 (.node 35 n35 .leaf .leaf) .leaf))) (.node 57 n57 (.node 51 n51 (.node 40 n40 (.node 39 n39 .leaf .leaf) (.node 41 n41 .leaf .leaf)) (.node 53 n53 (.node 52 n52 .leaf .leaf) .leaf)) (.node 60 n60 (.node 59 n59 (.node 58 n58 .leaf .leaf) .leaf) (.node 64 n64 (.node 63 n63 .leaf .leaf) .leaf))))
theorem d6_ok : CallSim Try.prog tys stl tab d6.fn := Disp.sim ⟨n38_ok, ⟨n29_ok, ⟨n22_ok, ⟨n12_ok, ⟨n9_ok, True.intro, True.intro⟩, ⟨n18_ok, True.intro, True.intro⟩⟩, ⟨n28_ok, ⟨n26_ok, True.intro, True.intro⟩, True.intro⟩⟩, ⟨n33_ok, ⟨n31_ok, ⟨n30_ok, True.intro, True.intro⟩, True.intro⟩, ⟨n37_ok, ⟨n35_ok, True.intro, True.intro⟩, True.intro⟩⟩⟩, ⟨n57_ok, ⟨n51_ok, ⟨n40_ok, ⟨n39_ok, True.intro, True.intro⟩, ⟨n41_ok, True.intro, True.intro⟩⟩, ⟨n53_ok, ⟨n52_ok, True.intro, True.intro⟩, True.intro⟩⟩, ⟨n60_ok, ⟨n59_ok, ⟨n58_ok, True.intro, True.intro⟩, True.intro⟩, ⟨n64_ok, ⟨n63_ok, True.intro, True.intro⟩, True.intro⟩⟩⟩⟩
noncomputable abbrev dT : Disp := d6
theorem dT_ok : CallSim Try.prog tys stl tab dT.fn := d6_ok

set_option maxHeartbeats 0 in
theorem run9 : lawK dT.fn 9 = true := by kernel_rfl
namespace fieldNone
open Go.ChangeShapes Go.WideShapes Go.ChangeAt Go.RowKit
theorem own : ownKnob Try.prog.godebug = none := by kernel_rfl
theorem laid : laidOutB Try.prog = true := by kernel_rfl
theorem lifted (os : Os) (started : os.Started) (H : Type) (enc : TypeId × Value → H) :
    ReturnsInHanded {} Try.checked os 9 .any (Rows.fieldNoneSpec.pre6 enc Try.prog Try.f9 Rows.fieldNoneRow.domain false) (Rows.fieldNoneSpec.post enc Try.prog Try.f9 false true false false) := by
  refine returnsInHanded_of_change (C := Try.checked) own started (by kernel_rfl) Try.func9
    (ChangeSpec.witness6 (enc := enc) (C := Try.checked) false ⟨#[], #[], []⟩ 8 (by kernel_rfl) (by kernel_rfl) (by kernel_rfl) (by kernel_rfl)) ?_
  intro W base args ds gs before hval0 hW hcnd _
  have hW' := hW
  obtain ⟨p, q, hA0, hV, rfl, hfz, hnd⟩ := hW
  have hA : DataW.TrodAll enc Try.prog W 0 (fun _ => true) true Try.f9.params.toList args.toList ds p := hA0
  rw [Try.params9] at hA
  obtain ⟨hargs, rfl, rfl⟩ := trodAll_nil hA
  obtain rfl : args = #[] := by cases args; simp_all
  obtain ⟨rfl, rfl⟩ := trodVars_none hV
  clear hA0 hval0
  refine (lawK_true tok mixed fok dT_ok (by kernel_rfl : tab 9 = some e9) rfl run9 W).mono fun e W' ⟨he, hg⟩ => ?_
  subst he
  exact ⟨_, rfl, law_done laid rfl rfl Try.underlying4 (by kernel_rfl) hW' rfl hg⟩

theorem over : Rows.fieldNoneRow.holds Try.pinned (OpenSpec.ofChange Rows.fieldNoneSpec) :=
  OpenClaim.holds_of_wide 9 Try.f9 rfl rfl rfl rfl rfl rfl rfl ⟨rfl, rfl, rfl, rfl, rfl⟩ rfl rfl rfl rfl rfl (by kernel_rfl) Try.func9 (by kernel_rfl)
    (of_decide_eq_true (by kernel_rfl)) (by unfold Func.isWrapper; first | (rw [if_pos (by decide +kernel)]; kernel_rfl) | (rw [if_neg (by decide +kernel)]; exact ⟨rfl, rfl⟩))
    (fun os started H enc _ => lifted os started H enc)

theorem proved : Rows.FieldNoneSaid := over
end fieldNone
end Go.Proofs.Ytmfkbpccihnhiaa
