/-
  foghornlaw04.PointsGray returns true, whatever the memory it begins in. No condition.
-/
import Derived.Test.YtnpofigcmhgnmaaRows
import Derived.Test.YtnpofigcmhgnmaaGx
import Derived.WalkKit
import Derived.ProofKit
import Derived.OpenShut
set_option linter.unusedVariables false
set_option maxRecDepth 1000000
namespace Go.Proofs.Ytnpofigcmhgnmaa
open Go Go.Fw
def tys : List (Nat × TyI) := [
  (1, ⟨.func, 1, 8, .nilFunc⟩),
  (2, ⟨.int .i64, 1, 8, .int .i64 0⟩),
  (3, ⟨.int .i64, 1, 8, .int .i64 0⟩),
  (4, ⟨.bool, 1, 1, .bool false⟩),
  (5, ⟨.int .u8, 1, 1, .int .u8 0⟩),
  (9, ⟨.str, 1, 16, .string (ByteArray.mk #[])⟩),
  (12, ⟨.int .u64, 1, 8, .int .u64 0⟩),
  (21, ⟨.int .i32, 1, 4, .int .i32 0⟩),
  (22, ⟨.slice 3, 1, 24, .slice none 0 0⟩),
  (23, ⟨.func, 1, 8, .nilFunc⟩),
  (24, ⟨.slice 31, 1, 24, .slice none 0 0⟩),
  (25, ⟨.int .i64, 1, 8, .int .i64 0⟩),
  (27, ⟨.func, 1, 8, .nilFunc⟩),
  (29, ⟨.func, 1, 8, .nilFunc⟩),
  (30, ⟨.func, 1, 8, .nilFunc⟩),
  (31, ⟨.cpx .f64, 1, 16, .complex .f64 0 0⟩),
  (32, ⟨.func, 1, 8, .nilFunc⟩),
  (33, ⟨.func, 1, 8, .nilFunc⟩),
  (34, ⟨.float .f64, 1, 8, .float .f64 0⟩),
  (35, ⟨.func, 1, 8, .nilFunc⟩),
  (36, ⟨.slice 4, 1, 24, .slice none 0 0⟩),
  (37, ⟨.func, 1, 8, .nilFunc⟩),
  (39, ⟨.func, 1, 8, .nilFunc⟩),
  (40, ⟨.func, 1, 8, .nilFunc⟩),
  (41, ⟨.func, 1, 8, .nilFunc⟩),
  (42, ⟨.int .u64, 1, 8, .int .u64 0⟩),
  (43, ⟨.slice 22, 1, 24, .slice none 0 0⟩),
  (44, ⟨.func, 1, 8, .nilFunc⟩),
  (45, ⟨.func, 1, 8, .nilFunc⟩),
  (47, ⟨.func, 1, 8, .nilFunc⟩),
  (48, ⟨.func, 1, 8, .nilFunc⟩),
  (49, ⟨.func, 1, 8, .nilFunc⟩),
  (51, ⟨.func, 1, 8, .nilFunc⟩),
  (52, ⟨.func, 1, 8, .nilFunc⟩),
  (53, ⟨.func, 1, 8, .nilFunc⟩),
  (54, ⟨.func, 1, 8, .nilFunc⟩),
  (55, ⟨.func, 1, 8, .nilFunc⟩),
  (56, ⟨.func, 1, 8, .nilFunc⟩),
  (57, ⟨.struct [(0, 3), (1, 3), (2, 3), (3, 55), (4, 56)], 5, 40, .agg #[.int .i64 0, .int .i64 0, .int .i64 0, .nilFunc, .nilFunc]⟩),
  (58, ⟨.struct [(0, 3), (1, 3), (2, 3), (3, 55), (4, 56)], 5, 40, .agg #[.int .i64 0, .int .i64 0, .int .i64 0, .nilFunc, .nilFunc]⟩),
  (60, ⟨.func, 1, 8, .nilFunc⟩),
  (61, ⟨.slice 66, 1, 24, .slice none 0 0⟩),
  (63, ⟨.func, 1, 8, .nilFunc⟩),
  (64, ⟨.func, 1, 8, .nilFunc⟩),
  (65, ⟨.struct [(0, 3), (1, 3)], 2, 16, .agg #[.int .i64 0, .int .i64 0]⟩),
  (66, ⟨.struct [(0, 3), (1, 3)], 2, 16, .agg #[.int .i64 0, .int .i64 0]⟩),
  (68, ⟨.func, 1, 8, .nilFunc⟩),
  (70, ⟨.func, 1, 8, .nilFunc⟩),
  (71, ⟨.func, 1, 8, .nilFunc⟩),
  (72, ⟨.struct [(0, 2), (1, 2)], 2, 16, .agg #[.int .i64 0, .int .i64 0]⟩),
  (73, ⟨.struct [(0, 2), (1, 2)], 2, 16, .agg #[.int .i64 0, .int .i64 0]⟩),
  (75, ⟨.func, 1, 8, .nilFunc⟩),
  (76, ⟨.int .u32, 1, 4, .int .u32 0⟩),
  (78, ⟨.func, 1, 8, .nilFunc⟩),
  (79, ⟨.func, 1, 8, .nilFunc⟩),
  (80, ⟨.func, 1, 8, .nilFunc⟩),
  (81, ⟨.func, 1, 8, .nilFunc⟩),
  (82, ⟨.func, 1, 8, .nilFunc⟩),
  (83, ⟨.func, 1, 8, .nilFunc⟩),
  (84, ⟨.func, 1, 8, .nilFunc⟩),
  (85, ⟨.func, 1, 8, .nilFunc⟩),
  (86, ⟨.func, 1, 8, .nilFunc⟩),
  (87, ⟨.func, 1, 8, .nilFunc⟩),
  (88, ⟨.func, 1, 8, .nilFunc⟩),
  (89, ⟨.func, 1, 8, .nilFunc⟩),
  (90, ⟨.func, 1, 8, .nilFunc⟩),
  (91, ⟨.func, 1, 8, .nilFunc⟩),
  (92, ⟨.func, 1, 8, .nilFunc⟩),
  (93, ⟨.func, 1, 8, .nilFunc⟩),
  (94, ⟨.int .u64, 1, 8, .int .u64 0⟩),
  (95, ⟨.func, 1, 8, .nilFunc⟩),
  (96, ⟨.func, 1, 8, .nilFunc⟩),
  (97, ⟨.func, 1, 8, .nilFunc⟩),
  (103, ⟨.func, 1, 8, .nilFunc⟩),
  (106, ⟨.func, 1, 8, .nilFunc⟩),
  (107, ⟨.ptr 5, 1, 8, .pointer none⟩),
  (112, ⟨.func, 1, 8, .nilFunc⟩)]


theorem tok : TOk Try.prog tys := tok_of ⟨⟨by kernel_rfl, by kernel_rfl⟩, ⟨by kernel_rfl, by kernel_rfl⟩, ⟨by kernel_rfl, by kernel_rfl⟩, ⟨by kernel_rfl, by kernel_rfl⟩, ⟨by kernel_rfl, by kernel_rfl⟩, ⟨by kernel_rfl, by kernel_rfl⟩, ⟨by kernel_rfl, by kernel_rfl⟩, ⟨by kernel_rfl, by kernel_rfl⟩, ⟨by kernel_rfl, by kernel_rfl⟩, ⟨by kernel_rfl, by kernel_rfl⟩, ⟨by kernel_rfl, by kernel_rfl⟩, ⟨by kernel_rfl, by kernel_rfl⟩, ⟨by kernel_rfl, by kernel_rfl⟩, ⟨by kernel_rfl, by kernel_rfl⟩, ⟨by kernel_rfl, by kernel_rfl⟩, ⟨by kernel_rfl, by kernel_rfl⟩, ⟨by kernel_rfl, by kernel_rfl⟩, ⟨by kernel_rfl, by kernel_rfl⟩, ⟨by kernel_rfl, by kernel_rfl⟩, ⟨by kernel_rfl, by kernel_rfl⟩, ⟨by kernel_rfl, by kernel_rfl⟩, ⟨by kernel_rfl, by kernel_rfl⟩, ⟨by kernel_rfl, by kernel_rfl⟩, ⟨by kernel_rfl, by kernel_rfl⟩, ⟨by kernel_rfl, by kernel_rfl⟩, ⟨by kernel_rfl, by kernel_rfl⟩, ⟨by kernel_rfl, by kernel_rfl⟩, ⟨by kernel_rfl, by kernel_rfl⟩, ⟨by kernel_rfl, by kernel_rfl⟩, ⟨by kernel_rfl, by kernel_rfl⟩, ⟨by kernel_rfl, by kernel_rfl⟩, ⟨by kernel_rfl, by kernel_rfl⟩, ⟨by kernel_rfl, by kernel_rfl⟩, ⟨by kernel_rfl, by kernel_rfl⟩, ⟨by kernel_rfl, by kernel_rfl⟩, ⟨by kernel_rfl, by kernel_rfl⟩, ⟨by kernel_rfl, by kernel_rfl⟩, ⟨by kernel_rfl, by kernel_rfl⟩, ⟨by kernel_rfl, by kernel_rfl⟩, ⟨by kernel_rfl, by kernel_rfl⟩, ⟨by kernel_rfl, by kernel_rfl⟩, ⟨by kernel_rfl, by kernel_rfl⟩, ⟨by kernel_rfl, by kernel_rfl⟩, ⟨by kernel_rfl, by kernel_rfl⟩, ⟨by kernel_rfl, by kernel_rfl⟩, ⟨by kernel_rfl, by kernel_rfl⟩, ⟨by kernel_rfl, by kernel_rfl⟩, ⟨by kernel_rfl, by kernel_rfl⟩, ⟨by kernel_rfl, by kernel_rfl⟩, ⟨by kernel_rfl, by kernel_rfl⟩, ⟨by kernel_rfl, by kernel_rfl⟩, ⟨by kernel_rfl, by kernel_rfl⟩, ⟨by kernel_rfl, by kernel_rfl⟩, ⟨by kernel_rfl, by kernel_rfl⟩, ⟨by kernel_rfl, by kernel_rfl⟩, ⟨by kernel_rfl, by kernel_rfl⟩, ⟨by kernel_rfl, by kernel_rfl⟩, ⟨by kernel_rfl, by kernel_rfl⟩, ⟨by kernel_rfl, by kernel_rfl⟩, ⟨by kernel_rfl, by kernel_rfl⟩, ⟨by kernel_rfl, by kernel_rfl⟩, ⟨by kernel_rfl, by kernel_rfl⟩, ⟨by kernel_rfl, by kernel_rfl⟩, ⟨by kernel_rfl, by kernel_rfl⟩, ⟨by kernel_rfl, by kernel_rfl⟩, ⟨by kernel_rfl, by kernel_rfl⟩, ⟨by kernel_rfl, by kernel_rfl⟩, ⟨by kernel_rfl, by kernel_rfl⟩, ⟨by kernel_rfl, by kernel_rfl⟩, ⟨by kernel_rfl, by kernel_rfl⟩, ⟨by kernel_rfl, by kernel_rfl⟩, ⟨by kernel_rfl, by kernel_rfl⟩, ⟨by kernel_rfl, by kernel_rfl⟩, ⟨by kernel_rfl, by kernel_rfl⟩, ⟨by kernel_rfl, by kernel_rfl⟩, ⟨by kernel_rfl, by kernel_rfl⟩, ⟨by kernel_rfl, by kernel_rfl⟩, True.intro⟩
theorem mixed : Try.prog.follows .mixedOrders = true := by kernel_rfl
def inL : List Nat → Nat → Bool
  | [], _ => false
  | a :: r, n => match Nat.beq a n with | true => true | false => inL r n
def stl : Nat → Bool := inL [44, 50, 57, 58, 62, 64, 74, 75, 77, 78, 81, 82, 83, 84, 85, 86, 87, 88]
/- 5: foghorn/foghornlaw04.PointsGray -/
def p5 : Nat → Option PlanC := fun _ => none
def wl5 : Nat → List Nat := fun
  | 4 => [18]
  | 11 => [7]
  | 14 => [51]
  | _ => []
def wj5 : Nat → Option (List Nat) := fun _ => none
def kr5 : Nat → List Nat := fun _ => []
noncomputable def e5 : Ent := entOf Try.f5 ⟨p5, wl5, wj5, kr5, []⟩
theorem g5 : EntOk Try.prog stl 5 e5 := .inr ⟨rfl, Try.func5, by kernel_rfl, by kernel_rfl, by kernel_rfl, by kernel_rfl, by kernel_rfl, rfl⟩
/- 11: foghorn/points.Sizes -/
def p11 : Nat → Option PlanC := fun _ => none
def wl11 : Nat → List Nat := fun _ => []
def wj11 : Nat → Option (List Nat) := fun _ => none
def kr11 : Nat → List Nat := fun _ => []
noncomputable def e11 : Ent := entOf Try.f11 ⟨p11, wl11, wj11, kr11, []⟩
theorem g11 : EntOk Try.prog stl 11 e11 := .inr ⟨rfl, Try.func11, by kernel_rfl, by kernel_rfl, by kernel_rfl, by kernel_rfl, by kernel_rfl, rfl⟩
/- 13: foghorn/points.All -/
def p13 : Nat → Option PlanC := fun _ => none
def wl13 : Nat → List Nat := fun
  | 6 => [19]
  | _ => []
def wj13 : Nat → Option (List Nat) := fun _ => none
def kr13 : Nat → List Nat := fun _ => []
noncomputable def e13 : Ent := entOf Try.f13 ⟨p13, wl13, wj13, kr13, [4]⟩
theorem g13 : EntOk Try.prog stl 13 e13 := .inr ⟨rfl, Try.func13, by kernel_rfl, by kernel_rfl, by kernel_rfl, by kernel_rfl, by kernel_rfl, rfl⟩
/- 17: foghorn/points.Edge -/
def p17 : Nat → Option PlanC := fun _ => none
def wl17 : Nat → List Nat := fun _ => []
def wj17 : Nat → Option (List Nat) := fun _ => none
def kr17 : Nat → List Nat := fun _ => []
noncomputable def e17 : Ent := entOf Try.f17 ⟨p17, wl17, wj17, kr17, [4]⟩
theorem g17 : EntOk Try.prog stl 17 e17 := .inr ⟨rfl, Try.func17, by kernel_rfl, by kernel_rfl, by kernel_rfl, by kernel_rfl, by kernel_rfl, rfl⟩
/- 19: foghorn/points.Energy -/
def p19 : Nat → Option PlanC := fun _ => none
def wl19 : Nat → List Nat := fun
  | 4 => [6, 16]
  | _ => []
def wj19 : Nat → Option (List Nat) := fun _ => none
def kr19 : Nat → List Nat := fun _ => []
noncomputable def e19 : Ent := entOf Try.f19 ⟨p19, wl19, wj19, kr19, []⟩
theorem g19 : EntOk Try.prog stl 19 e19 := .inr ⟨rfl, Try.func19, by kernel_rfl, by kernel_rfl, by kernel_rfl, by kernel_rfl, by kernel_rfl, rfl⟩
/- 21: foghorn/foghornlaw04.samePoints -/
def p21 : Nat → Option PlanC := fun _ => none
def wl21 : Nat → List Nat := fun
  | 4 => [5]
  | _ => []
def wj21 : Nat → Option (List Nat) := fun _ => none
def kr21 : Nat → List Nat := fun _ => []
noncomputable def e21 : Ent := entOf Try.f21 ⟨p21, wl21, wj21, kr21, []⟩
theorem g21 : EntOk Try.prog stl 21 e21 := .inr ⟨rfl, Try.func21, by kernel_rfl, by kernel_rfl, by kernel_rfl, by kernel_rfl, by kernel_rfl, rfl⟩
/- 22: foghorn/foghornlaw04.works -/
def p22 : Nat → Option PlanC := fun _ => none
def wl22 : Nat → List Nat := fun _ => []
def wj22 : Nat → Option (List Nat) := fun _ => none
def kr22 : Nat → List Nat := fun _ => []
noncomputable def e22 : Ent := entOf Try.f22 ⟨p22, wl22, wj22, kr22, []⟩
theorem g22 : EntOk Try.prog stl 22 e22 := .inr ⟨rfl, Try.func22, by kernel_rfl, by kernel_rfl, by kernel_rfl, by kernel_rfl, by kernel_rfl, rfl⟩
/- 25: foghorn/points.Row -/
def p25 : Nat → Option PlanC := fun _ => none
def wl25 : Nat → List Nat := fun
  | 9 => [35]
  | _ => []
def wj25 : Nat → Option (List Nat) := fun _ => none
def kr25 : Nat → List Nat := fun _ => []
noncomputable def e25 : Ent := entOf Try.f25 ⟨p25, wl25, wj25, kr25, [6]⟩
theorem g25 : EntOk Try.prog stl 25 e25 := .inr ⟨rfl, Try.func25, by kernel_rfl, by kernel_rfl, by kernel_rfl, by kernel_rfl, by kernel_rfl, rfl⟩
/- 28: foghorn/points.Label -/
def p28 : Nat → Option PlanC := fun _ => none
def wl28 : Nat → List Nat := fun _ => []
def wj28 : Nat → Option (List Nat) := fun _ => none
def kr28 : Nat → List Nat := fun _ => []
noncomputable def e28 : Ent := entOf Try.f28 ⟨p28, wl28, wj28, kr28, [6]⟩
theorem g28 : EntOk Try.prog stl 28 e28 := .inr ⟨rfl, Try.func28, by kernel_rfl, by kernel_rfl, by kernel_rfl, by kernel_rfl, by kernel_rfl, rfl⟩
/- 29: foghorn/points.Coset -/
def p29 : Nat → Option PlanC := fun _ => none
def wl29 : Nat → List Nat := fun _ => []
def wj29 : Nat → Option (List Nat) := fun _ => none
def kr29 : Nat → List Nat := fun _ => []
noncomputable def e29 : Ent := entOf Try.f29 ⟨p29, wl29, wj29, kr29, [8, 12]⟩
theorem g29 : EntOk Try.prog stl 29 e29 := .inr ⟨rfl, Try.func29, by kernel_rfl, by kernel_rfl, by kernel_rfl, by kernel_rfl, by kernel_rfl, rfl⟩
/- 31: foghorn/points.At -/
def p31 : Nat → Option PlanC := fun _ => none
def wl31 : Nat → List Nat := fun _ => []
def wj31 : Nat → Option (List Nat) := fun _ => none
def kr31 : Nat → List Nat := fun _ => []
noncomputable def e31 : Ent := entOf Try.f31 ⟨p31, wl31, wj31, kr31, [6]⟩
theorem g31 : EntOk Try.prog stl 31 e31 := .inr ⟨rfl, Try.func31, by kernel_rfl, by kernel_rfl, by kernel_rfl, by kernel_rfl, by kernel_rfl, rfl⟩
/- 34: foghorn/points.Turned -/
def p34 : Nat → Option PlanC := fun _ => none
def wl34 : Nat → List Nat := fun _ => []
def wj34 : Nat → Option (List Nat) := fun _ => none
def kr34 : Nat → List Nat := fun _ => []
noncomputable def e34 : Ent := entOf Try.f34 ⟨p34, wl34, wj34, kr34, []⟩
theorem g34 : EntOk Try.prog stl 34 e34 := .inr ⟨rfl, Try.func34, by kernel_rfl, by kernel_rfl, by kernel_rfl, by kernel_rfl, by kernel_rfl, rfl⟩
/- 41: foghorn/points.of -/
def p41 : Nat → Option PlanC := fun _ => none
def wl41 : Nat → List Nat := fun _ => []
def wj41 : Nat → Option (List Nat) := fun _ => none
def kr41 : Nat → List Nat := fun _ => []
noncomputable def e41 : Ent := entOf Try.f41 ⟨p41, wl41, wj41, kr41, []⟩
theorem g41 : EntOk Try.prog stl 41 e41 := .inr ⟨rfl, Try.func41, by kernel_rfl, by kernel_rfl, by kernel_rfl, by kernel_rfl, by kernel_rfl, rfl⟩
/- 44: foghorn/plane.Norm -/
def p44 : Nat → Option PlanC := fun _ => none
def wl44 : Nat → List Nat := fun _ => []
def wj44 : Nat → Option (List Nat) := fun _ => none
def kr44 : Nat → List Nat := fun _ => []
noncomputable def e44 : Ent := entOf Try.f44 ⟨p44, wl44, wj44, kr44, []⟩
theorem g44 : EntOk Try.prog stl 44 e44 := .inr ⟨rfl, Try.func44, by kernel_rfl, by kernel_rfl, by kernel_rfl, by kernel_rfl, by kernel_rfl, rfl⟩
/- 45: foghorn/bits.Words -/
def p45 : Nat → Option PlanC := fun _ => none
def wl45 : Nat → List Nat := fun
  | 5 => [32]
  | 8 => [45]
  | _ => []
def wj45 : Nat → Option (List Nat) := fun
  | 13 => some []
  | _ => none
def kr45 : Nat → List Nat := fun _ => []
noncomputable def e45 : Ent := entOf Try.f45 ⟨p45, wl45, wj45, kr45, []⟩
theorem g45 : EntOk Try.prog stl 45 e45 := .inr ⟨rfl, Try.func45, by kernel_rfl, by kernel_rfl, by kernel_rfl, by kernel_rfl, by kernel_rfl, rfl⟩
/- 46: (foghorn/points.set).labelOf -/
def p46 : Nat → Option PlanC := fun
  | 3 => some (.op 0 false (.op 1 false (.op 2 false (.op 3 false (.op 4 false (.op 5 false (.op 6 false (.op 8 false (.op 9 false (.op 7 true (.op 10 false (.op 11 false (.op 12 false (.op 13 false (.op 17 false (.op 18 false (.op 14 true (.alt 15 (.alt 16 (.op 19 false (.op 20 false (.op 21 false (.op 22 false (.done))))) (.alt 19 (.op 16 false (.op 20 false (.op 21 false (.op 22 false (.done))))) (.fin))) (.alt 19 (.op 15 false (.op 16 false (.op 20 false (.op 21 false (.op 22 false (.done)))))) (.fin))))))))))))))))))))
  | _ => none
def wl46 : Nat → List Nat := fun _ => []
def wj46 : Nat → Option (List Nat) := fun _ => none
def kr46 : Nat → List Nat := fun _ => []
noncomputable def e46 : Ent := entOf Try.f46 ⟨p46, wl46, wj46, kr46, [2]⟩
theorem g46 : EntOk Try.prog stl 46 e46 := .inr ⟨rfl, Try.func46, by kernel_rfl, by kernel_rfl, by kernel_rfl, by kernel_rfl, by kernel_rfl, rfl⟩
/- 48: foghorn/plane.Whole -/
def p48 : Nat → Option PlanC := fun _ => none
def wl48 : Nat → List Nat := fun _ => []
def wj48 : Nat → Option (List Nat) := fun _ => none
def kr48 : Nat → List Nat := fun _ => []
noncomputable def e48 : Ent := entOf Try.f48 ⟨p48, wl48, wj48, kr48, []⟩
theorem g48 : EntOk Try.prog stl 48 e48 := .inr ⟨rfl, Try.func48, by kernel_rfl, by kernel_rfl, by kernel_rfl, by kernel_rfl, by kernel_rfl, rfl⟩
/- 49: (foghorn/plane.Gauss).Class -/
def p49 : Nat → Option PlanC := fun _ => none
def wl49 : Nat → List Nat := fun
  | 5 => [6, 18]
  | _ => []
def wj49 : Nat → Option (List Nat) := fun _ => none
def kr49 : Nat → List Nat := fun _ => []
noncomputable def e49 : Ent := entOf Try.f49 ⟨p49, wl49, wj49, kr49, [2]⟩
theorem g49 : EntOk Try.prog stl 49 e49 := .inr ⟨rfl, Try.func49, by kernel_rfl, by kernel_rfl, by kernel_rfl, by kernel_rfl, by kernel_rfl, rfl⟩
/- 50: foghorn/plane.Turn -/
def p50 : Nat → Option PlanC := fun _ => none
def wl50 : Nat → List Nat := fun _ => []
def wj50 : Nat → Option (List Nat) := fun _ => none
def kr50 : Nat → List Nat := fun _ => []
noncomputable def e50 : Ent := entOf Try.f50 ⟨p50, wl50, wj50, kr50, []⟩
theorem g50 : EntOk Try.prog stl 50 e50 := .inr ⟨rfl, Try.func50, by kernel_rfl, by kernel_rfl, by kernel_rfl, by kernel_rfl, by kernel_rfl, rfl⟩
/- 53: foghorn/points.square -/
def p53 : Nat → Option PlanC := fun _ => none
def wl53 : Nat → List Nat := fun _ => []
def wj53 : Nat → Option (List Nat) := fun _ => none
def kr53 : Nat → List Nat := fun _ => []
noncomputable def e53 : Ent := entOf Try.f53 ⟨p53, wl53, wj53, kr53, []⟩
theorem g53 : EntOk Try.prog stl 53 e53 := .inr ⟨rfl, Try.func53, by kernel_rfl, by kernel_rfl, by kernel_rfl, by kernel_rfl, by kernel_rfl, rfl⟩
/- 54: foghorn/points.cross -/
def p54 : Nat → Option PlanC := fun _ => none
def wl54 : Nat → List Nat := fun _ => []
def wj54 : Nat → Option (List Nat) := fun _ => none
def kr54 : Nat → List Nat := fun _ => []
noncomputable def e54 : Ent := entOf Try.f54 ⟨p54, wl54, wj54, kr54, []⟩
theorem g54 : EntOk Try.prog stl 54 e54 := .inr ⟨rfl, Try.func54, by kernel_rfl, by kernel_rfl, by kernel_rfl, by kernel_rfl, by kernel_rfl, rfl⟩
/- 57: foghorn/bits.isWidth -/
def p57 : Nat → Option PlanC := fun _ => none
def wl57 : Nat → List Nat := fun _ => []
def wj57 : Nat → Option (List Nat) := fun _ => none
def kr57 : Nat → List Nat := fun _ => []
noncomputable def e57 : Ent := entOf Try.f57 ⟨p57, wl57, wj57, kr57, []⟩
theorem g57 : EntOk Try.prog stl 57 e57 := .inr ⟨rfl, Try.func57, by kernel_rfl, by kernel_rfl, by kernel_rfl, by kernel_rfl, by kernel_rfl, rfl⟩
/- 58: foghorn/bits.isRow -/
def p58 : Nat → Option PlanC := fun _ => none
def wl58 : Nat → List Nat := fun _ => []
def wj58 : Nat → Option (List Nat) := fun _ => none
def kr58 : Nat → List Nat := fun _ => []
noncomputable def e58 : Ent := entOf Try.f58 ⟨p58, wl58, wj58, kr58, []⟩
theorem g58 : EntOk Try.prog stl 58 e58 := .inr ⟨rfl, Try.func58, by kernel_rfl, by kernel_rfl, by kernel_rfl, by kernel_rfl, by kernel_rfl, rfl⟩
/- 59: (foghorn/points.set).place -/
def p59 : Nat → Option PlanC := fun
  | 1 => some (.op 0 false (.op 1 false (.op 2 false (.op 3 false (.op 4 false (.op 5 false (.op 6 false (.op 7 false (.op 8 false (.op 9 false (.op 10 false (.op 11 false (.op 12 false (.done))))))))))))))
  | _ => none
def wl59 : Nat → List Nat := fun _ => []
def wj59 : Nat → Option (List Nat) := fun _ => none
def kr59 : Nat → List Nat := fun _ => []
noncomputable def e59 : Ent := entOf Try.f59 ⟨p59, wl59, wj59, kr59, [2]⟩
theorem g59 : EntOk Try.prog stl 59 e59 := .inr ⟨rfl, Try.func59, by kernel_rfl, by kernel_rfl, by kernel_rfl, by kernel_rfl, by kernel_rfl, rfl⟩
/- 60: (foghorn/points.set).first -/
def p60 : Nat → Option PlanC := fun _ => none
def wl60 : Nat → List Nat := fun _ => []
def wj60 : Nat → Option (List Nat) := fun _ => none
def kr60 : Nat → List Nat := fun _ => []
noncomputable def e60 : Ent := entOf Try.f60 ⟨p60, wl60, wj60, kr60, [2]⟩
theorem g60 : EntOk Try.prog stl 60 e60 := .inr ⟨rfl, Try.func60, by kernel_rfl, by kernel_rfl, by kernel_rfl, by kernel_rfl, by kernel_rfl, rfl⟩
/- 62: foghorn/plane.isWhole -/
def p62 : Nat → Option PlanC := fun _ => none
def wl62 : Nat → List Nat := fun _ => []
def wj62 : Nat → Option (List Nat) := fun _ => none
def kr62 : Nat → List Nat := fun _ => []
noncomputable def e62 : Ent := entOf Try.f62 ⟨p62, wl62, wj62, kr62, []⟩
theorem g62 : EntOk Try.prog stl 62 e62 := .inr ⟨rfl, Try.func62, by kernel_rfl, by kernel_rfl, by kernel_rfl, by kernel_rfl, by kernel_rfl, rfl⟩
/- 63: (foghorn/plane.Gauss).mayBe -/
def p63 : Nat → Option PlanC := fun _ => none
def wl63 : Nat → List Nat := fun _ => []
def wj63 : Nat → Option (List Nat) := fun _ => none
def kr63 : Nat → List Nat := fun _ => []
noncomputable def e63 : Ent := entOf Try.f63 ⟨p63, wl63, wj63, kr63, [1]⟩
theorem g63 : EntOk Try.prog stl 63 e63 := .inr ⟨rfl, Try.func63, by kernel_rfl, by kernel_rfl, by kernel_rfl, by kernel_rfl, by kernel_rfl, rfl⟩
/- 64: foghorn/plane.isDepth -/
def p64 : Nat → Option PlanC := fun _ => none
def wl64 : Nat → List Nat := fun _ => []
def wj64 : Nat → Option (List Nat) := fun _ => none
def kr64 : Nat → List Nat := fun _ => []
noncomputable def e64 : Ent := entOf Try.f64 ⟨p64, wl64, wj64, kr64, []⟩
theorem g64 : EntOk Try.prog stl 64 e64 := .inr ⟨rfl, Try.func64, by kernel_rfl, by kernel_rfl, by kernel_rfl, by kernel_rfl, by kernel_rfl, rfl⟩
/- 65: (foghorn/plane.Gauss).odd -/
def p65 : Nat → Option PlanC := fun _ => none
def wl65 : Nat → List Nat := fun _ => []
def wj65 : Nat → Option (List Nat) := fun _ => none
def kr65 : Nat → List Nat := fun _ => []
noncomputable def e65 : Ent := entOf Try.f65 ⟨p65, wl65, wj65, kr65, [1]⟩
theorem g65 : EntOk Try.prog stl 65 e65 := .inr ⟨rfl, Try.func65, by kernel_rfl, by kernel_rfl, by kernel_rfl, by kernel_rfl, by kernel_rfl, rfl⟩
/- 66: (foghorn/plane.Gauss).divided -/
def p66 : Nat → Option PlanC := fun _ => none
def wl66 : Nat → List Nat := fun _ => []
def wj66 : Nat → Option (List Nat) := fun _ => none
def kr66 : Nat → List Nat := fun _ => []
noncomputable def e66 : Ent := entOf Try.f66 ⟨p66, wl66, wj66, kr66, [1]⟩
theorem g66 : EntOk Try.prog stl 66 e66 := .inr ⟨rfl, Try.func66, by kernel_rfl, by kernel_rfl, by kernel_rfl, by kernel_rfl, by kernel_rfl, rfl⟩
/- 68: foghorn/points.squareAt -/
def p68 : Nat → Option PlanC := fun
  | 2 => some (.op 0 false (.op 1 false (.op 2 false (.op 3 false (.op 4 false (.op 5 false (.op 6 false (.op 7 false (.op 8 false (.op 9 false (.op 10 false (.op 11 false (.op 12 false (.done))))))))))))))
  | _ => none
def wl68 : Nat → List Nat := fun _ => []
def wj68 : Nat → Option (List Nat) := fun _ => none
def kr68 : Nat → List Nat := fun _ => []
noncomputable def e68 : Ent := entOf Try.f68 ⟨p68, wl68, wj68, kr68, [2]⟩
theorem g68 : EntOk Try.prog stl 68 e68 := .inr ⟨rfl, Try.func68, by kernel_rfl, by kernel_rfl, by kernel_rfl, by kernel_rfl, by kernel_rfl, rfl⟩
/- 69: foghorn/points.squareLabel -/
def p69 : Nat → Option PlanC := fun
  | 1 => some (.op 0 false (.op 1 false (.op 2 false (.op 3 false (.op 4 false (.op 5 false (.op 6 false (.op 7 false (.op 8 false (.op 9 false (.done)))))))))))
  | _ => none
def wl69 : Nat → List Nat := fun _ => []
def wj69 : Nat → Option (List Nat) := fun _ => none
def kr69 : Nat → List Nat := fun _ => []
noncomputable def e69 : Ent := entOf Try.f69 ⟨p69, wl69, wj69, kr69, [3]⟩
theorem g69 : EntOk Try.prog stl 69 e69 := .inr ⟨rfl, Try.func69, by kernel_rfl, by kernel_rfl, by kernel_rfl, by kernel_rfl, by kernel_rfl, rfl⟩
/- 70: foghorn/points.crossAt -/
def p70 : Nat → Option PlanC := fun
  | 5 => some (.op 2 false (.op 3 false (.op 1 true (.op 5 true (.alt 0 (.op 4 false (.op 6 false (.op 7 false (.op 8 false (.done))))) (.alt 4 (.op 0 false (.op 6 false (.op 7 false (.op 8 false (.done))))) (.fin)))))))
  | _ => none
def wl70 : Nat → List Nat := fun
  | 2 => [1, 5]
  | _ => []
def wj70 : Nat → Option (List Nat) := fun _ => none
def kr70 : Nat → List Nat := fun _ => []
noncomputable def e70 : Ent := entOf Try.f70 ⟨p70, wl70, wj70, kr70, [2]⟩
theorem g70 : EntOk Try.prog stl 70 e70 := .inr ⟨rfl, Try.func70, by kernel_rfl, by kernel_rfl, by kernel_rfl, by kernel_rfl, by kernel_rfl, rfl⟩
/- 71: foghorn/points.crossLabel -/
def p71 : Nat → Option PlanC := fun _ => none
def wl71 : Nat → List Nat := fun
  | 3 => [7, 15]
  | _ => []
def wj71 : Nat → Option (List Nat) := fun _ => none
def kr71 : Nat → List Nat := fun _ => []
noncomputable def e71 : Ent := entOf Try.f71 ⟨p71, wl71, wj71, kr71, [3]⟩
theorem g71 : EntOk Try.prog stl 71 e71 := .inr ⟨rfl, Try.func71, by kernel_rfl, by kernel_rfl, by kernel_rfl, by kernel_rfl, by kernel_rfl, rfl⟩
/- 74: math.Abs -/
def p74 : Nat → Option PlanC := fun _ => none
def wl74 : Nat → List Nat := fun _ => []
def wj74 : Nat → Option (List Nat) := fun _ => none
def kr74 : Nat → List Nat := fun _ => []
noncomputable def e74 : Ent := entOf Try.f74 ⟨p74, wl74, wj74, kr74, []⟩
theorem g74 : EntOk Try.prog stl 74 e74 := .inr ⟨rfl, Try.func74, by kernel_rfl, by kernel_rfl, by kernel_rfl, by kernel_rfl, by kernel_rfl, rfl⟩
/- 75: math.Trunc -/
def p75 : Nat → Option PlanC := fun _ => none
def wl75 : Nat → List Nat := fun _ => []
def wj75 : Nat → Option (List Nat) := fun _ => none
def kr75 : Nat → List Nat := fun _ => []
noncomputable def e75 : Ent := entOf Try.f75 ⟨p75, wl75, wj75, kr75, []⟩
theorem g75 : EntOk Try.prog stl 75 e75 := .inr ⟨rfl, Try.func75, by kernel_rfl, by kernel_rfl, by kernel_rfl, by kernel_rfl, by kernel_rfl, rfl⟩
/- 76: (foghorn/points.set).point -/
def p76 : Nat → Option PlanC := fun _ => none
def wl76 : Nat → List Nat := fun _ => []
def wj76 : Nat → Option (List Nat) := fun _ => none
def kr76 : Nat → List Nat := fun _ => []
noncomputable def e76 : Ent := entOf Try.f76 ⟨p76, wl76, wj76, kr76, [3]⟩
theorem g76 : EntOk Try.prog stl 76 e76 := .inr ⟨rfl, Try.func76, by kernel_rfl, by kernel_rfl, by kernel_rfl, by kernel_rfl, by kernel_rfl, rfl⟩
/- 77: foghorn/points.ungray -/
def p77 : Nat → Option PlanC := fun _ => none
def wl77 : Nat → List Nat := fun _ => []
def wj77 : Nat → Option (List Nat) := fun _ => none
def kr77 : Nat → List Nat := fun _ => []
noncomputable def e77 : Ent := entOf Try.f77 ⟨p77, wl77, wj77, kr77, []⟩
theorem g77 : EntOk Try.prog stl 77 e77 := .inr ⟨rfl, Try.func77, by kernel_rfl, by kernel_rfl, by kernel_rfl, by kernel_rfl, by kernel_rfl, rfl⟩
/- 78: foghorn/points.gray -/
def p78 : Nat → Option PlanC := fun _ => none
def wl78 : Nat → List Nat := fun _ => []
def wj78 : Nat → Option (List Nat) := fun _ => none
def kr78 : Nat → List Nat := fun _ => []
noncomputable def e78 : Ent := entOf Try.f78 ⟨p78, wl78, wj78, kr78, []⟩
theorem g78 : EntOk Try.prog stl 78 e78 := .inr ⟨rfl, Try.func78, by kernel_rfl, by kernel_rfl, by kernel_rfl, by kernel_rfl, by kernel_rfl, rfl⟩
/- 79: (foghorn/points.set).rows -/
def p79 : Nat → Option PlanC := fun
  | 1 => some (.op 3 false (.op 4 false (.op 0 true (.alt 1 (.op 2 true (.op 5 false (.op 6 false (.op 7 false (.op 8 false (.done)))))) (.alt 5 (.op 1 false (.op 2 false (.op 6 false (.op 7 false (.op 8 false (.done)))))) (.fin))))))
  | _ => none
def wl79 : Nat → List Nat := fun _ => []
def wj79 : Nat → Option (List Nat) := fun _ => none
def kr79 : Nat → List Nat := fun _ => []
noncomputable def e79 : Ent := entOf Try.f79 ⟨p79, wl79, wj79, kr79, [2]⟩
theorem g79 : EntOk Try.prog stl 79 e79 := .inr ⟨rfl, Try.func79, by kernel_rfl, by kernel_rfl, by kernel_rfl, by kernel_rfl, by kernel_rfl, rfl⟩
/- 81: math.Float64frombits (no Go text) -/
noncomputable def e81 : Ent := extEnt
theorem g81 : EntOk Try.prog stl 81 e81 := .inl rfl
/- 82: math.Float64bits (no Go text) -/
noncomputable def e82 : Ent := extEnt
theorem g82 : EntOk Try.prog stl 82 e82 := .inl rfl
/- 83: math.archTrunc (no Go text) -/
noncomputable def e83 : Ent := extEnt
theorem g83 : EntOk Try.prog stl 83 e83 := .inl rfl
/- 84: math.trunc -/
def p84 : Nat → Option PlanC := fun _ => none
def wl84 : Nat → List Nat := fun _ => []
def wj84 : Nat → Option (List Nat) := fun
  | 7 => some [3]
  | _ => none
def kr84 : Nat → List Nat := fun _ => []
noncomputable def e84 : Ent := entOf Try.f84 ⟨p84, wl84, wj84, kr84, []⟩
theorem g84 : EntOk Try.prog stl 84 e84 := .inr ⟨rfl, Try.func84, by kernel_rfl, by kernel_rfl, by kernel_rfl, by kernel_rfl, by kernel_rfl, rfl⟩
/- 85: foghorn/bits.Ungray -/
def p85 : Nat → Option PlanC := fun _ => none
def wl85 : Nat → List Nat := fun
  | 4 => [0, 4]
  | _ => []
def wj85 : Nat → Option (List Nat) := fun _ => none
def kr85 : Nat → List Nat := fun _ => []
noncomputable def e85 : Ent := entOf Try.f85 ⟨p85, wl85, wj85, kr85, []⟩
theorem g85 : EntOk Try.prog stl 85 e85 := .inr ⟨rfl, Try.func85, by kernel_rfl, by kernel_rfl, by kernel_rfl, by kernel_rfl, by kernel_rfl, rfl⟩
/- 86: foghorn/bits.Gray -/
def p86 : Nat → Option PlanC := fun _ => none
def wl86 : Nat → List Nat := fun _ => []
def wj86 : Nat → Option (List Nat) := fun _ => none
def kr86 : Nat → List Nat := fun _ => []
noncomputable def e86 : Ent := entOf Try.f86 ⟨p86, wl86, wj86, kr86, []⟩
theorem g86 : EntOk Try.prog stl 86 e86 := .inr ⟨rfl, Try.func86, by kernel_rfl, by kernel_rfl, by kernel_rfl, by kernel_rfl, by kernel_rfl, rfl⟩
/- 87: math.Copysign -/
def p87 : Nat → Option PlanC := fun _ => none
def wl87 : Nat → List Nat := fun _ => []
def wj87 : Nat → Option (List Nat) := fun _ => none
def kr87 : Nat → List Nat := fun _ => []
noncomputable def e87 : Ent := entOf Try.f87 ⟨p87, wl87, wj87, kr87, []⟩
theorem g87 : EntOk Try.prog stl 87 e87 := .inr ⟨rfl, Try.func87, by kernel_rfl, by kernel_rfl, by kernel_rfl, by kernel_rfl, by kernel_rfl, rfl⟩
/- 88: foghorn/bits.isGray -/
def p88 : Nat → Option PlanC := fun _ => none
def wl88 : Nat → List Nat := fun _ => []
def wj88 : Nat → Option (List Nat) := fun _ => none
def kr88 : Nat → List Nat := fun _ => []
noncomputable def e88 : Ent := entOf Try.f88 ⟨p88, wl88, wj88, kr88, []⟩
theorem g88 : EntOk Try.prog stl 88 e88 := .inr ⟨rfl, Try.func88, by kernel_rfl, by kernel_rfl, by kernel_rfl, by kernel_rfl, by kernel_rfl, rfl⟩
noncomputable def ents : List (Nat × Ent) := [(5, e5), (11, e11), (13, e13), (17, e17), (19, e19), (21, e21), (22, e22), (25, e25), (28, e28), (29, e29), (31, e31), (34, e34), (41, e41), (44, e44), (45, e45), (46, e46), (48, e48), (49, e49), (50, e50), (53, e53), (54, e54), (57, e57), (58, e58), (59, e59), (60, e60), (62, e62), (63, e63), (64, e64), (65, e65), (66, e66), (68, e68), (69, e69), (70, e70), (71, e71), (74, e74), (75, e75), (76, e76), (77, e77), (78, e78), (79, e79), (81, e81), (82, e82), (83, e83), (84, e84), (85, e85), (86, e86), (87, e87), (88, e88)]
theorem goods : EntsOk Try.prog stl ents := ⟨g5, g11, g13, g17, g19, g21, g22, g25, g28, g29, g31, g34, g41, g44, g45, g46, g48, g49, g50, g53, g54, g57, g58, g59, g60, g62, g63, g64, g65, g66, g68, g69, g70, g71, g74, g75, g76, g77, g78, g79, g81, g82, g83, g84, g85, g86, g87, g88, True.intro⟩
noncomputable def tab : Nat → Option Ent := (tabOf ents).get
theorem fok : FOk Try.prog stl tab := fok_of goods
noncomputable def d0 : Disp := .leaf
theorem d0_ok : CallSim Try.prog tys stl tab d0.fn := Disp.sim True.intro
/- foghorn/points.Sizes -/
noncomputable def R11 (q_buildSW : Nat → Nat → Kind → Nat → Bool → HW → Nat → Nat → List W → KW → Bool) (fu : Nat) (call : CallW) (h0 : HW) (c0 : Nat) (K : KW) : Bool :=
q_buildSW 1 3 (.ints .i64) 6 true h0 c0 6 [(.i 3 4 r0), (.i 3 16 r0), (.i 3 32 r0), (.i 3 64 r0), (.i 3 128 r0), (.i 3 256 r0)] fun v1 h2 c3 =>
K v1 h2 c3
theorem R11_eq (Q : PrimW) (fu : Nat) (call : CallW) : curryA 0 (fnK Q Try.prog tys stl fu call e11) = R11 Q.buildSW fu call := by kernel_rfl
noncomputable def n11 : List W → HW → Nat → KW → Bool := appF 0 (R11 buildSW 1000000 d0.fn)
theorem n11_ok : FnGood Try.prog tys stl tab 11 n11 := node_ok d0_ok (by kernel_rfl) rfl g11 (R11_eq real _ _)
/- foghorn/foghornlaw04.samePoints -/
noncomputable def R21 (q_genW : Option CV → (W → Bool) → Bool) (q_addW : Nat → Nat → Option CV → W → W → (W → Bool) → Bool) (q_cmpW : (Nat → Nat → Bool) → Nat → Option CV → W → W → (W → Bool) → Bool) (q_condW : W → Bool → Bool → Bool) (q_idxSW : Nat → W → W → (W → Bool) → Bool) (q_lenW : Option CV → W → (W → Bool) → Bool) (q_loadSW : HW → W → (W → Bool) → Bool) (fu : Nat) (call : CallW) (a0 : W) (a1 : W) (h0 : HW) (c0 : Nat) (K : KW) : Bool :=
q_lenW (lenC tys 24 (dec a0)) a0 fun v1 =>
q_lenW (lenC tys 24 (dec a1)) a1 fun v2 =>
q_cmpW (cmpF2 .neq) 3 (binC Try.prog .neq 3 (.tmp 7) (.tmp 9) (dec v1) (dec v2)) v1 v2 fun v3 =>
q_condW v3 (
K (.i 8 0 r0) h0 c0) (
@Nat.rec (fun _ => Fun 1) (fun _ _ _ => false) (fun _ f7 v4 h5 c6 =>
q_lenW (lenC tys 24 (dec a0)) a0 fun v8 =>
q_cmpW (cmpF2 .lss) 3 (binC Try.prog .lss 3 (.tmp 11) (.tmp 13) (dec v4) (dec v8)) v4 v8 fun v9 =>
q_condW v9 (
q_idxSW 1 a0 v4 fun v10 =>
q_loadSW h5 v10 fun v11 =>
q_idxSW 1 a1 v4 fun v12 =>
q_loadSW h5 v12 fun v13 =>
q_genW (binC Try.prog .neq 31 (.tmp 20) (.tmp 24) (dec v11) (dec v13)) fun v14 =>
q_condW v14 (
K (.i 8 0 r0) h5 c6) (
q_addW 3 9223372036854775807 (binC Try.prog .add 3 (.tmp 15) (.const (.int .i64 (.ofNat 1))) (dec v4) (dec (.i 3 1 r0))) v4 (.i 3 1 r0) fun v15 =>
f7 v15 h5 c6)) (
K (.i 8 1 r0) h5 c6)) fu (.i 3 0 r0) h0 c0)
theorem R21_eq (Q : PrimW) (fu : Nat) (call : CallW) : curryA 2 (fnK Q Try.prog tys stl fu call e21) = R21 Q.genW Q.addW Q.cmpW Q.condW Q.idxSW Q.lenW Q.loadSW fu call := by kernel_rfl
noncomputable def n21 : List W → HW → Nat → KW → Bool := appF 2 (R21 genW addW cmpW condW idxSW lenW loadSW 1000000 d0.fn)
theorem n21_ok : FnGood Try.prog tys stl tab 21 n21 := node_ok d0_ok (by kernel_rfl) rfl g21 (R21_eq real _ _)
/- foghorn/plane.Norm -/
noncomputable def R44 (q_genW : Option CV → (W → Bool) → Bool) (fu : Nat) (call : CallW) (a0 : W) (h0 : HW) (c0 : Nat) (K : KW) : Bool :=
q_genW (two Try.prog (dec a0) fun v => Builtin.real_ #[31] 34 #[v]) fun v1 =>
q_genW (two Try.prog (dec a0) fun v => Builtin.real_ #[31] 34 #[v]) fun v2 =>
q_genW (binC Try.prog .mul 34 (.tmp 4) (.tmp 6) (dec v1) (dec v2)) fun v3 =>
q_genW (two Try.prog (dec a0) fun v => Builtin.imag_ #[31] 34 #[v]) fun v4 =>
q_genW (two Try.prog (dec a0) fun v => Builtin.imag_ #[31] 34 #[v]) fun v5 =>
q_genW (binC Try.prog .mul 34 (.tmp 9) (.tmp 11) (dec v4) (dec v5)) fun v6 =>
q_genW (binC Try.prog .add 34 (.tmp 7) (.tmp 12) (dec v3) (dec v6)) fun v7 =>
K v7 h0 c0
theorem R44_eq (Q : PrimW) (fu : Nat) (call : CallW) : curryA 1 (fnK Q Try.prog tys stl fu call e44) = R44 Q.genW fu call := by kernel_rfl
noncomputable def n44 : List W → HW → Nat → KW → Bool := appF 1 (R44 genW 1000000 d0.fn)
theorem n44_ok : FnGood Try.prog tys stl tab 44 n44 := node_ok d0_ok (by kernel_rfl) rfl g44 (R44_eq real _ _)
/- foghorn/plane.Turn -/
noncomputable def R50 (q_genW : Option CV → (W → Bool) → Bool) (q_bitW : (Nat → Nat → Nat) → Nat → Nat → Option CV → W → W → (W → Bool) → Bool) (q_cmpW : (Nat → Nat → Bool) → Nat → Option CV → W → W → (W → Bool) → Bool) (q_condW : W → Bool → Bool → Bool) (fu : Nat) (call : CallW) (a0 : W) (a1 : W) (h0 : HW) (c0 : Nat) (K : KW) : Bool :=
q_genW (two Try.prog (dec a0) fun v => Builtin.real_ #[31] 34 #[v]) fun v1 =>
q_genW (two Try.prog (dec a0) fun v => Builtin.imag_ #[31] 34 #[v]) fun v2 =>
q_bitW Nat.land 3 9223372036854775807 (binC Try.prog .and 3 (.tmp 11) (.const (.int .i64 (.ofNat 3))) (dec a1) (dec (.i 3 3 r0))) a1 (.i 3 3 r0) fun v3 =>
q_cmpW (cmpF2 .eql) 3 (binC Try.prog .eql 3 (.tmp 12) (.const (.int .i64 (.ofNat 1))) (dec v3) (dec (.i 3 1 r0))) v3 (.i 3 1 r0) fun v4 =>
q_condW v4 (
q_genW (two Try.prog (dec v2) (Op.unary .neg)) fun v5 =>
q_genW (two2 Try.prog (dec v5) (dec v1) fun v u => Builtin.complex_ #[34, 34] 31 #[v, u]) fun v6 =>
K v6 h0 c0) (
q_cmpW (cmpF2 .eql) 3 (binC Try.prog .eql 3 (.tmp 12) (.const (.int .i64 (.ofNat 2))) (dec v3) (dec (.i 3 2 r0))) v3 (.i 3 2 r0) fun v7 =>
q_condW v7 (
q_genW (two Try.prog (dec v1) (Op.unary .neg)) fun v8 =>
q_genW (two Try.prog (dec v2) (Op.unary .neg)) fun v9 =>
q_genW (two2 Try.prog (dec v8) (dec v9) fun v u => Builtin.complex_ #[34, 34] 31 #[v, u]) fun v10 =>
K v10 h0 c0) (
q_cmpW (cmpF2 .eql) 3 (binC Try.prog .eql 3 (.tmp 12) (.const (.int .i64 (.ofNat 3))) (dec v3) (dec (.i 3 3 r0))) v3 (.i 3 3 r0) fun v11 =>
q_condW v11 (
q_genW (two Try.prog (dec v1) (Op.unary .neg)) fun v12 =>
q_genW (two2 Try.prog (dec v2) (dec v12) fun v u => Builtin.complex_ #[34, 34] 31 #[v, u]) fun v13 =>
K v13 h0 c0) (
K a0 h0 c0)))
theorem R50_eq (Q : PrimW) (fu : Nat) (call : CallW) : curryA 2 (fnK Q Try.prog tys stl fu call e50) = R50 Q.genW Q.bitW Q.cmpW Q.condW fu call := by kernel_rfl
noncomputable def n50 : List W → HW → Nat → KW → Bool := appF 2 (R50 genW bitW cmpW condW 1000000 d0.fn)
theorem n50_ok : FnGood Try.prog tys stl tab 50 n50 := node_ok d0_ok (by kernel_rfl) rfl g50 (R50_eq real _ _)
/- foghorn/points.square -/
noncomputable def R53 (q_loadAW : Nat → HW → W → (W → Bool) → Bool) (q_storeAW : Nat → HW → W → W → (HW → Bool) → Bool) (q_allocW : Trie W → Nat → Bool → HW → Nat → KW → Bool) (q_flatW : W → Bool → Bool) (fu : Nat) (call : CallW) (a0 : W) (a1 : W) (h0 : HW) (c0 : Nat) (K : KW) : Bool :=
q_allocW (allocT tys 58) 5 true h0 c0 fun v1 h2 c3 =>
q_flatW a0 (
q_flatW a1 (
q_flatW (.cons (.i 14 68 r0) .nil) (
q_flatW (.cons (.i 14 69 r0) .nil) (
(fun (v4 : W) =>
q_storeAW 5 h2 v1 v4 fun h5 =>
q_loadAW 5 h5 v1 fun v6 =>
K v6 h5 c3) (.cons (.i 15 0 r0) (.cons a0 (.cons a1 (.cons (.i 3 0 r0) (.cons (.cons (.i 14 68 r0) .nil) (.cons (.cons (.i 14 69 r0) .nil) .nil))))))))))
theorem R53_eq (Q : PrimW) (fu : Nat) (call : CallW) : curryA 2 (fnK Q Try.prog tys stl fu call e53) = R53 Q.loadAW Q.storeAW Q.allocW Q.flatW fu call := by kernel_rfl
noncomputable def n53 : List W → HW → Nat → KW → Bool := appF 2 (R53 loadAW storeAW allocW flatW 1000000 d0.fn)
theorem n53_ok : FnGood Try.prog tys stl tab 53 n53 := node_ok d0_ok (by kernel_rfl) rfl g53 (R53_eq real _ _)
/- foghorn/points.cross -/
noncomputable def R54 (q_loadAW : Nat → HW → W → (W → Bool) → Bool) (q_storeAW : Nat → HW → W → W → (HW → Bool) → Bool) (q_allocW : Trie W → Nat → Bool → HW → Nat → KW → Bool) (q_flatW : W → Bool → Bool) (fu : Nat) (call : CallW) (a0 : W) (a1 : W) (a2 : W) (h0 : HW) (c0 : Nat) (K : KW) : Bool :=
q_allocW (allocT tys 58) 5 true h0 c0 fun v1 h2 c3 =>
q_flatW a0 (
q_flatW a1 (
q_flatW a2 (
q_flatW (.cons (.i 14 70 r0) .nil) (
q_flatW (.cons (.i 14 71 r0) .nil) (
(fun (v4 : W) =>
q_storeAW 5 h2 v1 v4 fun h5 =>
q_loadAW 5 h5 v1 fun v6 =>
K v6 h5 c3) (.cons (.i 15 0 r0) (.cons a0 (.cons a1 (.cons a2 (.cons (.cons (.i 14 70 r0) .nil) (.cons (.cons (.i 14 71 r0) .nil) .nil)))))))))))
theorem R54_eq (Q : PrimW) (fu : Nat) (call : CallW) : curryA 3 (fnK Q Try.prog tys stl fu call e54) = R54 Q.loadAW Q.storeAW Q.allocW Q.flatW fu call := by kernel_rfl
noncomputable def n54 : List W → HW → Nat → KW → Bool := appF 3 (R54 loadAW storeAW allocW flatW 1000000 d0.fn)
theorem n54_ok : FnGood Try.prog tys stl tab 54 n54 := node_ok d0_ok (by kernel_rfl) rfl g54 (R54_eq real _ _)
/- foghorn/bits.isWidth -/
noncomputable def R57 (q_share : (α : Type) → α → (α → Bool) → Bool) (q_cmpW : (Nat → Nat → Bool) → Nat → Option CV → W → W → (W → Bool) → Bool) (q_guardW : Bool → W → Bool → Bool → Bool) (q_pickW : W → W → W → (W → Bool) → Bool) (fu : Nat) (call : CallW) (a0 : W) (h0 : HW) (c0 : Nat) (K : KW) : Bool :=
q_cmpW (cmpF2 .geq) 3 (binC Try.prog .geq 3 (.tmp 3) (.const (.int .i64 (.ofNat 1))) (dec a0) (dec (.i 3 1 r0))) a0 (.i 3 1 r0) fun v1 =>
q_share _ (fun v3 h4 c5 =>
q_share _ (fun v7 h8 c9 =>
q_pickW v1 v7 (.i 8 0 r0) fun v10 =>
K v10 h8 c9) fun f6 =>
q_guardW true v1 (q_cmpW (cmpF2 .leq) 3 (binC Try.prog .leq 3 (.tmp 6) (.const (.int .i64 (.ofNat 16))) (dec v3) (dec (.i 3 16 r0))) v3 (.i 3 16 r0) fun v11 =>
f6 v11 h4 c5) (f6 wUnd h4 c5)) fun f2 =>
q_guardW true v1 (f2 a0 h0 c0) (f2 wUnd h0 c0)
theorem R57_eq (Q : PrimW) (fu : Nat) (call : CallW) : curryA 1 (fnK Q Try.prog tys stl fu call e57) = R57 Q.share Q.cmpW Q.guardW Q.pickW fu call := by kernel_rfl
noncomputable def n57 : List W → HW → Nat → KW → Bool := appF 1 (R57 (fun _ x f => f x) cmpW guardW pickW 1000000 d0.fn)
theorem n57_ok : FnGood Try.prog tys stl tab 57 n57 := node_ok d0_ok (by kernel_rfl) rfl g57 (R57_eq real _ _)
/- foghorn/bits.isRow -/
noncomputable def R58 (q_cmpW : (Nat → Nat → Bool) → Nat → Option CV → W → W → (W → Bool) → Bool) (q_lenW : Option CV → W → (W → Bool) → Bool) (fu : Nat) (call : CallW) (a0 : W) (h0 : HW) (c0 : Nat) (K : KW) : Bool :=
q_lenW (lenC tys 36 (dec a0)) a0 fun v1 =>
q_cmpW (cmpF2 .leq) 3 (binC Try.prog .leq 3 (.tmp 4) (.const (.int .i64 (.ofNat 32768))) (dec v1) (dec (.i 3 32768 r0))) v1 (.i 3 32768 r0) fun v2 =>
K v2 h0 c0
theorem R58_eq (Q : PrimW) (fu : Nat) (call : CallW) : curryA 1 (fnK Q Try.prog tys stl fu call e58) = R58 Q.cmpW Q.lenW fu call := by kernel_rfl
noncomputable def n58 : List W → HW → Nat → KW → Bool := appF 1 (R58 cmpW lenW 1000000 d0.fn)
theorem n58_ok : FnGood Try.prog tys stl tab 58 n58 := node_ok d0_ok (by kernel_rfl) rfl g58 (R58_eq real _ _)
/- (foghorn/points.set).first -/
noncomputable def R60 (q_share : (α : Type) → α → (α → Bool) → Bool) (q_subW : Nat → Nat → Option CV → W → W → (W → Bool) → Bool) (q_cmpW : (Nat → Nat → Bool) → Nat → Option CV → W → W → (W → Bool) → Bool) (q_condW : W → Bool → Bool → Bool) (q_guardW : Bool → W → Bool → Bool → Bool) (q_pickW : W → W → W → (W → Bool) → Bool) (q_fadW : Nat → W → (W → Bool) → Bool) (q_killVW : W → HW → (HW → Bool) → Bool) (q_loadSW : HW → W → (W → Bool) → Bool) (q_boxW : HW → Nat → W → KW → Bool) (fu : Nat) (call : CallW) (a0 : W) (a1 : W) (h0 : HW) (c0 : Nat) (K : KW) : Bool :=
q_boxW h0 c0 a0 fun v1 h2 c3 =>
q_fadW 2 v1 fun v4 =>
q_loadSW h2 v4 fun v5 =>
q_cmpW (cmpF2 .lss) 3 (binC Try.prog .lss 3 (.tmp 5) (.tmp 7) (dec a1) (dec v5)) a1 v5 fun v6 =>
q_share _ (fun v8 h9 c10 =>
q_share _ (fun v12 h13 c14 =>
q_share _ (fun v16 h17 c18 =>
q_share _ (fun v20 h21 c22 =>
q_share _ (fun v24 h25 c26 =>
q_share _ (fun v28 h29 c30 =>
q_share _ (fun v32 h33 c34 =>
q_pickW v6 (.i 8 1 r0) v32 fun v35 =>
q_condW v35 (
q_fadW 2 v1 fun v36 =>
q_loadSW h33 v36 fun v37 =>
q_killVW v1 h33 fun h38 =>
K v37 h38 c34) (
q_killVW v1 h33 fun h39 =>
K (.i 3 0 r0) h39 c34)) fun f31 =>
q_guardW false v6 (q_cmpW (cmpF2 .gtr) 3 (binC Try.prog .gtr 3 (.tmp 10) (.tmp 15) (dec v8) (dec v28)) v8 v28 fun v40 =>
f31 v40 h29 c30) (f31 wUnd h29 c30)) fun f27 =>
q_guardW false v6 (q_subW 3 9223372036854775807 (binC Try.prog .sub 3 (.tmp 12) (.tmp 14) (dec v16) (dec v24)) v16 v24 fun v41 =>
f27 v41 h25 c26) (f27 wUnd h25 c26)) fun f23 =>
q_guardW false v6 (q_loadSW h21 v20 fun v42 =>
f23 v42 h21 c22) (f23 wUnd h21 c22)) fun f19 =>
q_guardW false v6 (q_fadW 2 v1 fun v43 =>
f19 v43 h17 c18) (f19 wUnd h17 c18)) fun f15 =>
q_guardW false v6 (q_loadSW h13 v12 fun v44 =>
f15 v44 h13 c14) (f15 wUnd h13 c14)) fun f11 =>
q_guardW false v6 (q_fadW 1 v1 fun v45 =>
f11 v45 h9 c10) (f11 wUnd h9 c10)) fun f7 =>
q_guardW false v6 (f7 a1 h2 c3) (f7 wUnd h2 c3)
theorem R60_eq (Q : PrimW) (fu : Nat) (call : CallW) : curryA 2 (fnK Q Try.prog tys stl fu call e60) = R60 Q.share Q.subW Q.cmpW Q.condW Q.guardW Q.pickW Q.fadW Q.killVW Q.loadSW Q.boxW fu call := by kernel_rfl
noncomputable def n60 : List W → HW → Nat → KW → Bool := appF 2 (R60 (fun _ x f => f x) subW cmpW condW guardW pickW fadW killVW loadSW boxW 1000000 d0.fn)
theorem n60_ok : FnGood Try.prog tys stl tab 60 n60 := node_ok d0_ok (by kernel_rfl) rfl g60 (R60_eq real _ _)
/- (foghorn/plane.Gauss).mayBe -/
noncomputable def R63 (q_share : (α : Type) → α → (α → Bool) → Bool) (q_cmpW : (Nat → Nat → Bool) → Nat → Option CV → W → W → (W → Bool) → Bool) (q_guardW : Bool → W → Bool → Bool → Bool) (q_pickW : W → W → W → (W → Bool) → Bool) (q_fadW : Nat → W → (W → Bool) → Bool) (q_killVW : W → HW → (HW → Bool) → Bool) (q_loadSW : HW → W → (W → Bool) → Bool) (q_boxW : HW → Nat → W → KW → Bool) (fu : Nat) (call : CallW) (a0 : W) (h0 : HW) (c0 : Nat) (K : KW) : Bool :=
q_boxW h0 c0 a0 fun v1 h2 c3 =>
q_fadW 0 v1 fun v4 =>
q_loadSW h2 v4 fun v5 =>
q_cmpW (cmpF2 .geq) 3 (binC Try.prog .geq 2 (.tmp 4) (.const (.int .i64 (.negSucc 1073741823))) (dec v5) (dec (.i 12 0 ⟨0, 0, 0, .int .i64 (.negSucc 1073741823)⟩))) v5 (.i 12 0 ⟨0, 0, 0, .int .i64 (.negSucc 1073741823)⟩) fun v6 =>
q_share _ (fun v8 h9 c10 =>
q_share _ (fun v12 h13 c14 =>
q_share _ (fun v16 h17 c18 =>
q_pickW v6 v16 (.i 8 0 r0) fun v19 =>
q_share _ (fun v21 h22 c23 =>
q_share _ (fun v25 h26 c27 =>
q_share _ (fun v29 h30 c31 =>
q_pickW v19 v29 (.i 8 0 r0) fun v32 =>
q_share _ (fun v34 h35 c36 =>
q_share _ (fun v38 h39 c40 =>
q_share _ (fun v42 h43 c44 =>
q_pickW v32 v42 (.i 8 0 r0) fun v45 =>
q_killVW v1 h43 fun h46 =>
K v45 h46 c44) fun f41 =>
q_guardW true v32 (q_cmpW (cmpF2 .leq) 3 (binC Try.prog .leq 2 (.tmp 18) (.const (.int .i64 (.ofNat 1073741824))) (dec v38) (dec (.i 3 1073741824 r0))) v38 (.i 3 1073741824 r0) fun v47 =>
f41 v47 h39 c40) (f41 wUnd h39 c40)) fun f37 =>
q_guardW true v32 (q_loadSW h35 v34 fun v48 =>
f37 v48 h35 c36) (f37 wUnd h35 c36)) fun f33 =>
q_guardW true v32 (q_fadW 1 v1 fun v49 =>
f33 v49 h30 c31) (f33 wUnd h30 c31)) fun f28 =>
q_guardW true v19 (q_cmpW (cmpF2 .geq) 3 (binC Try.prog .geq 2 (.tmp 13) (.const (.int .i64 (.negSucc 1073741823))) (dec v25) (dec (.i 12 0 ⟨0, 0, 0, .int .i64 (.negSucc 1073741823)⟩))) v25 (.i 12 0 ⟨0, 0, 0, .int .i64 (.negSucc 1073741823)⟩) fun v50 =>
f28 v50 h26 c27) (f28 wUnd h26 c27)) fun f24 =>
q_guardW true v19 (q_loadSW h22 v21 fun v51 =>
f24 v51 h22 c23) (f24 wUnd h22 c23)) fun f20 =>
q_guardW true v19 (q_fadW 1 v1 fun v52 =>
f20 v52 h17 c18) (f20 wUnd h17 c18)) fun f15 =>
q_guardW true v6 (q_cmpW (cmpF2 .leq) 3 (binC Try.prog .leq 2 (.tmp 8) (.const (.int .i64 (.ofNat 1073741824))) (dec v12) (dec (.i 3 1073741824 r0))) v12 (.i 3 1073741824 r0) fun v53 =>
f15 v53 h13 c14) (f15 wUnd h13 c14)) fun f11 =>
q_guardW true v6 (q_loadSW h9 v8 fun v54 =>
f11 v54 h9 c10) (f11 wUnd h9 c10)) fun f7 =>
q_guardW true v6 (q_fadW 0 v1 fun v55 =>
f7 v55 h2 c3) (f7 wUnd h2 c3)
theorem R63_eq (Q : PrimW) (fu : Nat) (call : CallW) : curryA 1 (fnK Q Try.prog tys stl fu call e63) = R63 Q.share Q.cmpW Q.guardW Q.pickW Q.fadW Q.killVW Q.loadSW Q.boxW fu call := by kernel_rfl
noncomputable def n63 : List W → HW → Nat → KW → Bool := appF 1 (R63 (fun _ x f => f x) cmpW guardW pickW fadW killVW loadSW boxW 1000000 d0.fn)
theorem n63_ok : FnGood Try.prog tys stl tab 63 n63 := node_ok d0_ok (by kernel_rfl) rfl g63 (R63_eq real _ _)
/- foghorn/plane.isDepth -/
noncomputable def R64 (q_share : (α : Type) → α → (α → Bool) → Bool) (q_cmpW : (Nat → Nat → Bool) → Nat → Option CV → W → W → (W → Bool) → Bool) (q_guardW : Bool → W → Bool → Bool → Bool) (q_pickW : W → W → W → (W → Bool) → Bool) (fu : Nat) (call : CallW) (a0 : W) (h0 : HW) (c0 : Nat) (K : KW) : Bool :=
q_cmpW (cmpF2 .geq) 3 (binC Try.prog .geq 3 (.tmp 3) (.const (.int .i64 (.ofNat 0))) (dec a0) (dec (.i 3 0 r0))) a0 (.i 3 0 r0) fun v1 =>
q_share _ (fun v3 h4 c5 =>
q_share _ (fun v7 h8 c9 =>
q_pickW v1 v7 (.i 8 0 r0) fun v10 =>
K v10 h8 c9) fun f6 =>
q_guardW true v1 (q_cmpW (cmpF2 .leq) 3 (binC Try.prog .leq 3 (.tmp 6) (.const (.int .i64 (.ofNat 30))) (dec v3) (dec (.i 3 30 r0))) v3 (.i 3 30 r0) fun v11 =>
f6 v11 h4 c5) (f6 wUnd h4 c5)) fun f2 =>
q_guardW true v1 (f2 a0 h0 c0) (f2 wUnd h0 c0)
theorem R64_eq (Q : PrimW) (fu : Nat) (call : CallW) : curryA 1 (fnK Q Try.prog tys stl fu call e64) = R64 Q.share Q.cmpW Q.guardW Q.pickW fu call := by kernel_rfl
noncomputable def n64 : List W → HW → Nat → KW → Bool := appF 1 (R64 (fun _ x f => f x) cmpW guardW pickW 1000000 d0.fn)
theorem n64_ok : FnGood Try.prog tys stl tab 64 n64 := node_ok d0_ok (by kernel_rfl) rfl g64 (R64_eq real _ _)
/- (foghorn/plane.Gauss).odd -/
noncomputable def R65 (q_addW : Nat → Nat → Option CV → W → W → (W → Bool) → Bool) (q_bitW : (Nat → Nat → Nat) → Nat → Nat → Option CV → W → W → (W → Bool) → Bool) (q_fadW : Nat → W → (W → Bool) → Bool) (q_killVW : W → HW → (HW → Bool) → Bool) (q_loadSW : HW → W → (W → Bool) → Bool) (q_boxW : HW → Nat → W → KW → Bool) (fu : Nat) (call : CallW) (a0 : W) (h0 : HW) (c0 : Nat) (K : KW) : Bool :=
q_boxW h0 c0 a0 fun v1 h2 c3 =>
q_fadW 0 v1 fun v4 =>
q_loadSW h2 v4 fun v5 =>
q_fadW 1 v1 fun v6 =>
q_loadSW h2 v6 fun v7 =>
q_addW 3 9223372036854775807 (binC Try.prog .add 2 (.tmp 4) (.tmp 6) (dec v5) (dec v7)) v5 v7 fun v8 =>
q_bitW Nat.land 3 9223372036854775807 (binC Try.prog .and 2 (.tmp 7) (.const (.int .i64 (.ofNat 1))) (dec v8) (dec (.i 3 1 r0))) v8 (.i 3 1 r0) fun v9 =>
q_killVW v1 h2 fun h10 =>
K v9 h10 c3
theorem R65_eq (Q : PrimW) (fu : Nat) (call : CallW) : curryA 1 (fnK Q Try.prog tys stl fu call e65) = R65 Q.addW Q.bitW Q.fadW Q.killVW Q.loadSW Q.boxW fu call := by kernel_rfl
noncomputable def n65 : List W → HW → Nat → KW → Bool := appF 1 (R65 addW bitW fadW killVW loadSW boxW 1000000 d0.fn)
theorem n65_ok : FnGood Try.prog tys stl tab 65 n65 := node_ok d0_ok (by kernel_rfl) rfl g65 (R65_eq real _ _)
/- (foghorn/plane.Gauss).divided -/
noncomputable def R66 (q_addW : Nat → Nat → Option CV → W → W → (W → Bool) → Bool) (q_subW : Nat → Nat → Option CV → W → W → (W → Bool) → Bool) (q_quoW : Nat → Nat → Option CV → W → W → (W → Bool) → Bool) (q_fadW : Nat → W → (W → Bool) → Bool) (q_killVW : W → HW → (HW → Bool) → Bool) (q_loadSW : HW → W → (W → Bool) → Bool) (q_loadAW : Nat → HW → W → (W → Bool) → Bool) (q_storeAW : Nat → HW → W → W → (HW → Bool) → Bool) (q_allocW : Trie W → Nat → Bool → HW → Nat → KW → Bool) (q_boxW : HW → Nat → W → KW → Bool) (q_flatW : W → Bool → Bool) (fu : Nat) (call : CallW) (a0 : W) (h0 : HW) (c0 : Nat) (K : KW) : Bool :=
q_boxW h0 c0 a0 fun v1 h2 c3 =>
q_allocW (allocT tys 73) 2 true h2 c3 fun v4 h5 c6 =>
q_fadW 0 v1 fun v7 =>
q_loadSW h5 v7 fun v8 =>
q_fadW 1 v1 fun v9 =>
q_loadSW h5 v9 fun v10 =>
q_addW 3 9223372036854775807 (binC Try.prog .add 2 (.tmp 4) (.tmp 6) (dec v8) (dec v10)) v8 v10 fun v11 =>
q_quoW 3 9223372036854775807 (binC Try.prog .quo 2 (.tmp 7) (.const (.int .i64 (.ofNat 2))) (dec v11) (dec (.i 3 2 r0))) v11 (.i 3 2 r0) fun v12 =>
q_fadW 1 v1 fun v13 =>
q_loadSW h5 v13 fun v14 =>
q_fadW 0 v1 fun v15 =>
q_loadSW h5 v15 fun v16 =>
q_subW 3 9223372036854775807 (binC Try.prog .sub 2 (.tmp 10) (.tmp 12) (dec v14) (dec v16)) v14 v16 fun v17 =>
q_quoW 3 9223372036854775807 (binC Try.prog .quo 2 (.tmp 13) (.const (.int .i64 (.ofNat 2))) (dec v17) (dec (.i 3 2 r0))) v17 (.i 3 2 r0) fun v18 =>
q_flatW v12 (
q_flatW v18 (
(fun (v19 : W) =>
q_storeAW 2 h5 v4 v19 fun h20 =>
q_loadAW 2 h20 v4 fun v21 =>
q_killVW v1 h20 fun h22 =>
K v21 h22 c6) (.cons (.i 15 0 r0) (.cons v12 (.cons v18 .nil)))))
theorem R66_eq (Q : PrimW) (fu : Nat) (call : CallW) : curryA 1 (fnK Q Try.prog tys stl fu call e66) = R66 Q.addW Q.subW Q.quoW Q.fadW Q.killVW Q.loadSW Q.loadAW Q.storeAW Q.allocW Q.boxW Q.flatW fu call := by kernel_rfl
noncomputable def n66 : List W → HW → Nat → KW → Bool := appF 1 (R66 addW subW quoW fadW killVW loadSW loadAW storeAW allocW boxW flatW 1000000 d0.fn)
theorem n66_ok : FnGood Try.prog tys stl tab 66 n66 := node_ok d0_ok (by kernel_rfl) rfl g66 (R66_eq real _ _)
/- (foghorn/points.set).point -/
noncomputable def R76 (q_genW : Option CV → (W → Bool) → Bool) (q_subW : Nat → Nat → Option CV → W → W → (W → Bool) → Bool) (q_mulW : Nat → Nat → Option CV → W → W → (W → Bool) → Bool) (q_fadW : Nat → W → (W → Bool) → Bool) (q_killVW : W → HW → (HW → Bool) → Bool) (q_loadSW : HW → W → (W → Bool) → Bool) (q_boxW : HW → Nat → W → KW → Bool) (fu : Nat) (call : CallW) (a0 : W) (a1 : W) (a2 : W) (h0 : HW) (c0 : Nat) (K : KW) : Bool :=
q_boxW h0 c0 a0 fun v1 h2 c3 =>
q_mulW 3 9223372036854775807 (binC Try.prog .mul 3 (.const (.int .i64 (.ofNat 2))) (.tmp 7) (dec (.i 3 2 r0)) (dec a1)) (.i 3 2 r0) a1 fun v4 =>
q_fadW 1 v1 fun v5 =>
q_loadSW h2 v5 fun v6 =>
q_subW 3 9223372036854775807 (binC Try.prog .sub 3 (.tmp 8) (.tmp 10) (dec v4) (dec v6)) v4 v6 fun v7 =>
q_genW (convC Try.prog tys ⟨[], 0, decH h2, 0⟩ 3 34 (dec v7)) fun v8 =>
q_mulW 3 9223372036854775807 (binC Try.prog .mul 3 (.const (.int .i64 (.ofNat 2))) (.tmp 13) (dec (.i 3 2 r0)) (dec a2)) (.i 3 2 r0) a2 fun v9 =>
q_fadW 1 v1 fun v10 =>
q_loadSW h2 v10 fun v11 =>
q_subW 3 9223372036854775807 (binC Try.prog .sub 3 (.tmp 14) (.tmp 16) (dec v9) (dec v11)) v9 v11 fun v12 =>
q_genW (convC Try.prog tys ⟨[], 0, decH h2, 0⟩ 3 34 (dec v12)) fun v13 =>
q_genW (two2 Try.prog (dec v8) (dec v13) fun v u => Builtin.complex_ #[34, 34] 31 #[v, u]) fun v14 =>
q_killVW v1 h2 fun h15 =>
K v14 h15 c3
theorem R76_eq (Q : PrimW) (fu : Nat) (call : CallW) : curryA 3 (fnK Q Try.prog tys stl fu call e76) = R76 Q.genW Q.subW Q.mulW Q.fadW Q.killVW Q.loadSW Q.boxW fu call := by kernel_rfl
noncomputable def n76 : List W → HW → Nat → KW → Bool := appF 3 (R76 genW subW mulW fadW killVW loadSW boxW 1000000 d0.fn)
theorem n76_ok : FnGood Try.prog tys stl tab 76 n76 := node_ok d0_ok (by kernel_rfl) rfl g76 (R76_eq real _ _)
noncomputable def n81 : List W → HW → Nat → KW → Bool := extN Try.prog 81
theorem n81_ok : FnGood Try.prog tys stl tab 81 n81 := ext_ok (e := e81) (by kernel_rfl) rfl
noncomputable def n82 : List W → HW → Nat → KW → Bool := extN Try.prog 82
theorem n82_ok : FnGood Try.prog tys stl tab 82 n82 := ext_ok (e := e82) (by kernel_rfl) rfl
noncomputable def n83 : List W → HW → Nat → KW → Bool := extN Try.prog 83
theorem n83_ok : FnGood Try.prog tys stl tab 83 n83 := ext_ok (e := e83) (by kernel_rfl) rfl
/- foghorn/bits.isGray -/
noncomputable def R88 (q_share : (α : Type) → α → (α → Bool) → Bool) (q_cmpW : (Nat → Nat → Bool) → Nat → Option CV → W → W → (W → Bool) → Bool) (q_guardW : Bool → W → Bool → Bool → Bool) (q_pickW : W → W → W → (W → Bool) → Bool) (fu : Nat) (call : CallW) (a0 : W) (h0 : HW) (c0 : Nat) (K : KW) : Bool :=
q_cmpW (cmpF2 .geq) 3 (binC Try.prog .geq 3 (.tmp 3) (.const (.int .i64 (.ofNat 0))) (dec a0) (dec (.i 3 0 r0))) a0 (.i 3 0 r0) fun v1 =>
q_share _ (fun v3 h4 c5 =>
q_share _ (fun v7 h8 c9 =>
q_pickW v1 v7 (.i 8 0 r0) fun v10 =>
K v10 h8 c9) fun f6 =>
q_guardW true v1 (q_cmpW (cmpF2 .lss) 3 (binC Try.prog .lss 3 (.tmp 6) (.const (.int .i64 (.ofNat 65536))) (dec v3) (dec (.i 3 65536 r0))) v3 (.i 3 65536 r0) fun v11 =>
f6 v11 h4 c5) (f6 wUnd h4 c5)) fun f2 =>
q_guardW true v1 (f2 a0 h0 c0) (f2 wUnd h0 c0)
theorem R88_eq (Q : PrimW) (fu : Nat) (call : CallW) : curryA 1 (fnK Q Try.prog tys stl fu call e88) = R88 Q.share Q.cmpW Q.guardW Q.pickW fu call := by kernel_rfl
noncomputable def n88 : List W → HW → Nat → KW → Bool := appF 1 (R88 (fun _ x f => f x) cmpW guardW pickW 1000000 d0.fn)
theorem n88_ok : FnGood Try.prog tys stl tab 88 n88 := node_ok d0_ok (by kernel_rfl) rfl g88 (R88_eq real _ _)
noncomputable def d1 : Disp := (.node 63 n63 (.node 53 n53 (.node 44 n44 (.node 21 n21 (.node 11 n11 .leaf .leaf) .leaf) (.node 50 n50 .leaf .leaf)) (.node 58 n58 (.node 57 n57 (.node 54 n54 .leaf .leaf) .leaf) (.node 60 n60 .leaf .leaf))) (.node 81 n81 (.node 66 n66 (.node 65 n65 (.node 64 n64 .leaf .leaf) .leaf) (.node 76 n76 .leaf .leaf)) (.node 83 n83 (.node 82 n82 .leaf .leaf) (.node 88 n88 .leaf .leaf))))
theorem d1_ok : CallSim Try.prog tys stl tab d1.fn := Disp.sim ⟨n63_ok, ⟨n53_ok, ⟨n44_ok, ⟨n21_ok, ⟨n11_ok, True.intro, True.intro⟩, True.intro⟩, ⟨n50_ok, True.intro, True.intro⟩⟩, ⟨n58_ok, ⟨n57_ok, ⟨n54_ok, True.intro, True.intro⟩, True.intro⟩, ⟨n60_ok, True.intro, True.intro⟩⟩⟩, ⟨n81_ok, ⟨n66_ok, ⟨n65_ok, ⟨n64_ok, True.intro, True.intro⟩, True.intro⟩, ⟨n76_ok, True.intro, True.intro⟩⟩, ⟨n83_ok, ⟨n82_ok, True.intro, True.intro⟩, ⟨n88_ok, True.intro, True.intro⟩⟩⟩⟩
/- foghorn/points.of -/
noncomputable def R41 (q_cmpW : (Nat → Nat → Bool) → Nat → Option CV → W → W → (W → Bool) → Bool) (q_condW : W → Bool → Bool → Bool) (q_loadAW : Nat → HW → W → (W → Bool) → Bool) (q_storeAW : Nat → HW → W → W → (HW → Bool) → Bool) (q_allocW : Trie W → Nat → Bool → HW → Nat → KW → Bool) (fu : Nat) (call : CallW) (a0 : W) (h0 : HW) (c0 : Nat) (K : KW) : Bool :=
q_allocW (allocT tys 58) 5 true h0 c0 fun v1 h2 c3 =>
q_cmpW (cmpF2 .eql) 3 (binC Try.prog .eql 3 (.tmp 4) (.const (.int .i64 (.ofNat 4))) (dec a0) (dec (.i 3 4 r0))) a0 (.i 3 4 r0) fun v4 =>
q_condW v4 (
call 53 [(.i 3 2 r0), (.i 3 1 r0)] h2 c3 fun v5 h6 c7 =>
q_storeAW 5 h6 v1 v5 fun h8 =>
q_loadAW 5 h8 v1 fun v9 =>
K (.cons (.i 13 0 r0) (.cons v9 (.cons (.i 8 1 r0) .nil))) h8 c7) (
q_cmpW (cmpF2 .eql) 3 (binC Try.prog .eql 3 (.tmp 4) (.const (.int .i64 (.ofNat 16))) (dec a0) (dec (.i 3 16 r0))) a0 (.i 3 16 r0) fun v10 =>
q_condW v10 (
call 53 [(.i 3 4 r0), (.i 3 3 r0)] h2 c3 fun v11 h12 c13 =>
q_storeAW 5 h12 v1 v11 fun h14 =>
q_loadAW 5 h14 v1 fun v15 =>
K (.cons (.i 13 0 r0) (.cons v15 (.cons (.i 8 1 r0) .nil))) h14 c13) (
q_cmpW (cmpF2 .eql) 3 (binC Try.prog .eql 3 (.tmp 4) (.const (.int .i64 (.ofNat 32))) (dec a0) (dec (.i 3 32 r0))) a0 (.i 3 32 r0) fun v16 =>
q_condW v16 (
call 54 [(.i 3 5 r0), (.i 3 5 r0), (.i 3 1 r0)] h2 c3 fun v17 h18 c19 =>
q_storeAW 5 h18 v1 v17 fun h20 =>
q_loadAW 5 h20 v1 fun v21 =>
K (.cons (.i 13 0 r0) (.cons v21 (.cons (.i 8 1 r0) .nil))) h20 c19) (
q_cmpW (cmpF2 .eql) 3 (binC Try.prog .eql 3 (.tmp 4) (.const (.int .i64 (.ofNat 64))) (dec a0) (dec (.i 3 64 r0))) a0 (.i 3 64 r0) fun v22 =>
q_condW v22 (
call 53 [(.i 3 6 r0), (.i 3 7 r0)] h2 c3 fun v23 h24 c25 =>
q_storeAW 5 h24 v1 v23 fun h26 =>
q_loadAW 5 h26 v1 fun v27 =>
K (.cons (.i 13 0 r0) (.cons v27 (.cons (.i 8 1 r0) .nil))) h26 c25) (
q_cmpW (cmpF2 .eql) 3 (binC Try.prog .eql 3 (.tmp 4) (.const (.int .i64 (.ofNat 128))) (dec a0) (dec (.i 3 128 r0))) a0 (.i 3 128 r0) fun v28 =>
q_condW v28 (
call 54 [(.i 3 7 r0), (.i 3 11 r0), (.i 3 2 r0)] h2 c3 fun v29 h30 c31 =>
q_storeAW 5 h30 v1 v29 fun h32 =>
q_loadAW 5 h32 v1 fun v33 =>
K (.cons (.i 13 0 r0) (.cons v33 (.cons (.i 8 1 r0) .nil))) h32 c31) (
q_cmpW (cmpF2 .eql) 3 (binC Try.prog .eql 3 (.tmp 4) (.const (.int .i64 (.ofNat 256))) (dec a0) (dec (.i 3 256 r0))) a0 (.i 3 256 r0) fun v34 =>
q_condW v34 (
call 53 [(.i 3 8 r0), (.i 3 15 r0)] h2 c3 fun v35 h36 c37 =>
q_storeAW 5 h36 v1 v35 fun h38 =>
q_loadAW 5 h38 v1 fun v39 =>
K (.cons (.i 13 0 r0) (.cons v39 (.cons (.i 8 1 r0) .nil))) h38 c37) (
(fun (v40 : W) =>
q_storeAW 5 h2 v1 v40 fun h41 =>
q_loadAW 5 h41 v1 fun v42 =>
K (.cons (.i 13 0 r0) (.cons v42 (.cons (.i 8 0 r0) .nil))) h41 c3) (.cons (.i 15 0 r0) (.cons (.i 3 0 r0) (.cons (.i 3 0 r0) (.cons (.i 3 0 r0) (.cons (.i 12 0 ⟨0, 0, 0, .nilf⟩) (.cons (.i 12 0 ⟨0, 0, 0, .nilf⟩) .nil))))))))))))
theorem R41_eq (Q : PrimW) (fu : Nat) (call : CallW) : curryA 1 (fnK Q Try.prog tys stl fu call e41) = R41 Q.cmpW Q.condW Q.loadAW Q.storeAW Q.allocW fu call := by kernel_rfl
noncomputable def n41 : List W → HW → Nat → KW → Bool := appF 1 (R41 cmpW condW loadAW storeAW allocW 1000000 d1.fn)
theorem n41_ok : FnGood Try.prog tys stl tab 41 n41 := node_ok d1_ok (by kernel_rfl) rfl g41 (R41_eq real _ _)
/- foghorn/bits.Words -/
noncomputable def R45 (q_share : (α : Type) → α → (α → Bool) → Bool) (q_genW : Option CV → (W → Bool) → Bool) (q_addW : Nat → Nat → Option CV → W → W → (W → Bool) → Bool) (q_mulW : Nat → Nat → Option CV → W → W → (W → Bool) → Bool) (q_quoW : Nat → Nat → Option CV → W → W → (W → Bool) → Bool) (q_remW : Nat → Nat → Option CV → W → W → (W → Bool) → Bool) (q_bitW : (Nat → Nat → Nat) → Nat → Nat → Option CV → W → W → (W → Bool) → Bool) (q_cmpW : (Nat → Nat → Bool) → Nat → Option CV → W → W → (W → Bool) → Bool) (q_shlW : Nat → Nat → Nat → Option CV → W → W → (W → Bool) → Bool) (q_notW : Option CV → W → (W → Bool) → Bool) (q_condW : W → Bool → Bool → Bool) (q_guardW : Bool → W → Bool → Bool → Bool) (q_pickW : W → W → W → (W → Bool) → Bool) (q_idxSW : Nat → W → W → (W → Bool) → Bool) (q_lenW : Option CV → W → (W → Bool) → Bool) (q_loadSW : HW → W → (W → Bool) → Bool) (q_storeSW : HW → W → W → (HW → Bool) → Bool) (q_makeSW : Nat → Nat → Nat → Kind → List W → Bool → HW → Nat → W → W → KW → Bool) (fu : Nat) (call : CallW) (a0 : W) (a1 : W) (h0 : HW) (c0 : Nat) (K : KW) : Bool :=
call 57 [a1] h0 c0 fun v1 h2 c3 =>
q_notW (two Try.prog (dec v1) (Op.unary .not)) v1 fun v4 =>
q_share _ (fun v6 h7 c8 =>
q_share _ (fun v10 h11 c12 =>
q_share _ (fun v14 h15 c16 =>
q_pickW v4 (.i 8 1 r0) v14 fun v17 =>
q_share _ (fun v19 h20 c21 =>
q_share _ (fun v23 h24 c25 =>
q_share _ (fun v27 h28 c29 =>
q_share _ (fun v31 h32 c33 =>
q_share _ (fun v35 h36 c37 =>
q_pickW v17 (.i 8 1 r0) v35 fun v38 =>
q_condW v38 (
K (.cons (.i 13 0 r0) (.cons (.i 12 0 ⟨0, 0, 0, .nils⟩) (.cons (.i 3 1 r0) .nil))) h36 c37) (
q_lenW (lenC tys 36 (dec a0)) a0 fun v39 =>
q_quoW 3 9223372036854775807 (binC Try.prog .quo 3 (.tmp 26) (.tmp 27) (dec v39) (dec a1)) v39 a1 fun v40 =>
q_makeSW 8 1 3 (.ints .i64) [(.i 3 0 r0)] true h36 c37 v40 v40 fun v41 h42 c43 =>
q_lenW (lenC tys 22 (dec v41)) v41 fun v44 =>
@Nat.rec (fun _ => Fun 1) (fun _ _ _ => false) (fun _ f48 v45 h46 c47 =>
q_cmpW (cmpF2 .lss) 3 (binC Try.prog .lss 3 (.tmp 32) (.tmp 31) (dec v45) (dec v44)) v45 v44 fun v49 =>
q_condW v49 (
q_mulW 3 9223372036854775807 (binC Try.prog .mul 3 (.tmp 36) (.tmp 37) (dec v45) (dec a1)) v45 a1 fun v50 =>
q_addW 3 9223372036854775807 (binC Try.prog .add 3 (.tmp 39) (.const (.int .i64 (.ofNat 1))) (dec v45) (dec (.i 3 1 r0))) v45 (.i 3 1 r0) fun v51 =>
q_mulW 3 9223372036854775807 (binC Try.prog .mul 3 (.tmp 40) (.tmp 41) (dec v51) (dec a1)) v51 a1 fun v52 =>
q_genW (sliceC tys 36 (dec a0) (some (dec v50)) (some (dec v52)) none) fun v53 =>
q_lenW (lenC tys 36 (dec v53)) v53 fun v54 =>
@Nat.rec (fun _ => Fun 1) (fun _ _ _ => false) (fun _ f58 v55 h56 c57 =>
q_cmpW (cmpF2 .lss) 3 (binC Try.prog .lss 3 (.tmp 45) (.tmp 44) (dec v55) (dec v54)) v55 v54 fun v59 =>
q_condW v59 (
q_share _ (fun h60 c61 =>
q_addW 3 9223372036854775807 (binC Try.prog .add 3 (.tmp 45) (.const (.int .i64 (.ofNat 1))) (dec v55) (dec (.i 3 1 r0))) v55 (.i 3 1 r0) fun v63 =>
f58 v63 h60 c61) fun f62 =>
q_idxSW 1 v53 v55 fun v64 =>
q_loadSW h56 v64 fun v65 =>
q_idxSW 1 v41 v45 fun v66 =>
q_loadSW h56 v66 fun v67 =>
q_shlW 3 9223372036854775807 64 (binC Try.prog .shl 3 (.tmp 52) (.const (.int .u64 (.ofNat 1))) (dec v67) (dec (.i 7 1 r0))) v67 (.i 7 1 r0) fun v68 =>
q_idxSW 1 v41 v45 fun v69 =>
q_storeSW h56 v69 v68 fun h70 =>
q_condW v65 (
q_idxSW 1 v41 v45 fun v71 =>
q_loadSW h70 v71 fun v72 =>
q_bitW Nat.lor 3 9223372036854775807 (binC Try.prog .or 3 (.tmp 59) (.const (.int .i64 (.ofNat 1))) (dec v72) (dec (.i 3 1 r0))) v72 (.i 3 1 r0) fun v73 =>
q_idxSW 1 v41 v45 fun v74 =>
q_storeSW h70 v74 v73 fun h75 =>
f62 h75 c57) (
f62 h70 c57)) (
q_addW 3 9223372036854775807 (binC Try.prog .add 3 (.tmp 32) (.const (.int .i64 (.ofNat 1))) (dec v45) (dec (.i 3 1 r0))) v45 (.i 3 1 r0) fun v76 =>
f48 v76 h56 c57)) fu (.i 3 0 r0) h46 c47) (
K (.cons (.i 13 0 r0) (.cons v41 (.cons (.i 3 0 r0) .nil))) h46 c47)) fu (.i 3 0 r0) h42 c43)) fun f34 =>
q_guardW false v17 (q_cmpW (cmpF2 .neq) 3 (binC Try.prog .neq 3 (.tmp 22) (.const (.int .i64 (.ofNat 0))) (dec v31) (dec (.i 3 0 r0))) v31 (.i 3 0 r0) fun v77 =>
f34 v77 h32 c33) (f34 wUnd h32 c33)) fun f30 =>
q_guardW false v17 (q_remW 3 9223372036854775807 (binC Try.prog .rem 3 (.tmp 20) (.tmp 21) (dec v23) (dec v27)) v23 v27 fun v78 =>
f30 v78 h28 c29) (f30 wUnd h28 c29)) fun f26 =>
q_guardW false v17 (f26 a1 h24 c25) (f26 wUnd h24 c25)) fun f22 =>
q_guardW false v17 (q_lenW (lenC tys 36 (dec v19)) v19 fun v79 =>
f22 v79 h20 c21) (f22 wUnd h20 c21)) fun f18 =>
q_guardW false v17 (f18 a0 h15 c16) (f18 wUnd h15 c16)) fun f13 =>
q_guardW false v4 (q_notW (two Try.prog (dec v10) (Op.unary .not)) v10 fun v80 =>
f13 v80 h11 c12) (f13 wUnd h11 c12)) fun f9 =>
q_guardW false v4 (call 58 [v6] h7 c8 fun v81 h82 c83 =>
f9 v81 h82 c83) (f9 wUnd h7 c8)) fun f5 =>
q_guardW false v4 (f5 a0 h2 c3) (f5 wUnd h2 c3)
theorem R45_eq (Q : PrimW) (fu : Nat) (call : CallW) : curryA 2 (fnK Q Try.prog tys stl fu call e45) = R45 Q.share Q.genW Q.addW Q.mulW Q.quoW Q.remW Q.bitW Q.cmpW Q.shlW Q.notW Q.condW Q.guardW Q.pickW Q.idxSW Q.lenW Q.loadSW Q.storeSW Q.makeSW fu call := by kernel_rfl
noncomputable def n45 : List W → HW → Nat → KW → Bool := appF 2 (R45 (fun _ x f => f x) genW addW mulW quoW remW bitW cmpW shlW notW condW guardW pickW idxSW lenW loadSW storeSW makeSW 1000000 d1.fn)
theorem n45_ok : FnGood Try.prog tys stl tab 45 n45 := node_ok d1_ok (by kernel_rfl) rfl g45 (R45_eq real _ _)
/- (foghorn/plane.Gauss).Class -/
noncomputable def R49 (q_share : (α : Type) → α → (α → Bool) → Bool) (q_addW : Nat → Nat → Option CV → W → W → (W → Bool) → Bool) (q_subW : Nat → Nat → Option CV → W → W → (W → Bool) → Bool) (q_bitW : (Nat → Nat → Nat) → Nat → Nat → Option CV → W → W → (W → Bool) → Bool) (q_cmpW : (Nat → Nat → Bool) → Nat → Option CV → W → W → (W → Bool) → Bool) (q_shlW : Nat → Nat → Nat → Option CV → W → W → (W → Bool) → Bool) (q_notW : Option CV → W → (W → Bool) → Bool) (q_icvW : Nat → Nat → Option CV → W → (W → Bool) → Bool) (q_condW : W → Bool → Bool → Bool) (q_guardW : Bool → W → Bool → Bool → Bool) (q_pickW : W → W → W → (W → Bool) → Bool) (q_fadW : Nat → W → (W → Bool) → Bool) (q_killVW : W → HW → (HW → Bool) → Bool) (q_loadSW : HW → W → (W → Bool) → Bool) (q_loadAW : Nat → HW → W → (W → Bool) → Bool) (q_storeSW : HW → W → W → (HW → Bool) → Bool) (q_storeAW : Nat → HW → W → W → (HW → Bool) → Bool) (q_boxW : HW → Nat → W → KW → Bool) (fu : Nat) (call : CallW) (a0 : W) (a1 : W) (h0 : HW) (c0 : Nat) (K : KW) : Bool :=
q_boxW h0 c0 a0 fun v1 h2 c3 =>
q_loadAW 2 h2 v1 fun v4 =>
call 63 [v4] h2 c3 fun v5 h6 c7 =>
q_notW (two Try.prog (dec v5) (Op.unary .not)) v5 fun v8 =>
q_share _ (fun v10 h11 c12 =>
q_share _ (fun v14 h15 c16 =>
q_share _ (fun v18 h19 c20 =>
q_pickW v8 (.i 8 1 r0) v18 fun v21 =>
q_condW v21 (
q_killVW v1 h19 fun h22 =>
K (.cons (.i 13 0 r0) (.cons (.i 6 0 r0) (.cons (.i 3 1 r0) .nil))) h22 c20) (
@Nat.rec (fun _ => Fun 2) (fun _ _ _ _ => false) (fun _ f27 v23 v24 h25 c26 =>
q_cmpW (cmpF2 .lss) 3 (binC Try.prog .lss 3 (.tmp 18) (.tmp 17) (dec v24) (dec a1)) v24 a1 fun v28 =>
q_condW v28 (
q_loadAW 2 h25 v1 fun v29 =>
call 65 [v29] h25 c26 fun v30 h31 c32 =>
q_icvW 6 4294967295 (convC Try.prog tys ⟨[], 0, decH h31, 0⟩ 2 76 (dec v30)) v30 fun v33 =>
q_shlW 6 4294967295 32 (binC Try.prog .shl 76 (.tmp 25) (.tmp 26) (dec v33) (dec v24)) v33 v24 fun v34 =>
q_bitW Nat.lor 6 4294967295 (binC Try.prog .or 76 (.tmp 23) (.tmp 27) (dec v23) (dec v34)) v23 v34 fun v35 =>
q_fadW 0 v1 fun v36 =>
q_loadSW h31 v36 fun v37 =>
q_subW 3 9223372036854775807 (binC Try.prog .sub 2 (.tmp 30) (.tmp 31) (dec v37) (dec v30)) v37 v30 fun v38 =>
q_fadW 0 v1 fun v39 =>
q_storeSW h31 v39 v38 fun h40 =>
q_loadAW 2 h40 v1 fun v41 =>
call 66 [v41] h40 c32 fun v42 h43 c44 =>
q_storeAW 2 h43 v1 v42 fun h45 =>
q_addW 3 9223372036854775807 (binC Try.prog .add 3 (.tmp 18) (.const (.int .i64 (.ofNat 1))) (dec v24) (dec (.i 3 1 r0))) v24 (.i 3 1 r0) fun v46 =>
f27 v35 v46 h45 c44) (
q_killVW v1 h25 fun h47 =>
K (.cons (.i 13 0 r0) (.cons v23 (.cons (.i 3 0 r0) .nil))) h47 c26)) fu (.i 6 0 r0) (.i 3 0 r0) h19 c20)) fun f17 =>
q_guardW false v8 (q_notW (two Try.prog (dec v14) (Op.unary .not)) v14 fun v48 =>
f17 v48 h15 c16) (f17 wUnd h15 c16)) fun f13 =>
q_guardW false v8 (call 64 [v10] h11 c12 fun v49 h50 c51 =>
f13 v49 h50 c51) (f13 wUnd h11 c12)) fun f9 =>
q_guardW false v8 (f9 a1 h6 c7) (f9 wUnd h6 c7)
theorem R49_eq (Q : PrimW) (fu : Nat) (call : CallW) : curryA 2 (fnK Q Try.prog tys stl fu call e49) = R49 Q.share Q.addW Q.subW Q.bitW Q.cmpW Q.shlW Q.notW Q.icvW Q.condW Q.guardW Q.pickW Q.fadW Q.killVW Q.loadSW Q.loadAW Q.storeSW Q.storeAW Q.boxW fu call := by kernel_rfl
noncomputable def n49 : List W → HW → Nat → KW → Bool := appF 2 (R49 (fun _ x f => f x) addW subW bitW cmpW shlW notW icvW condW guardW pickW fadW killVW loadSW loadAW storeSW storeAW boxW 1000000 d1.fn)
theorem n49_ok : FnGood Try.prog tys stl tab 49 n49 := node_ok d1_ok (by kernel_rfl) rfl g49 (R49_eq real _ _)
/- math.Abs -/
noncomputable def R74 (q_genW : Option CV → (W → Bool) → Bool) (fu : Nat) (call : CallW) (a0 : W) (h0 : HW) (c0 : Nat) (K : KW) : Bool :=
call 82 [a0] h0 c0 fun v1 h2 c3 =>
q_genW (binC Try.prog .andNot 94 (.tmp 4) (.const (.int .u64 (.ofNat 9223372036854775808))) (dec v1) (dec (.i 7 9223372036854775808 r0))) fun v4 =>
call 81 [v4] h2 c3 fun v5 h6 c7 =>
K v5 h6 c7
theorem R74_eq (Q : PrimW) (fu : Nat) (call : CallW) : curryA 1 (fnK Q Try.prog tys stl fu call e74) = R74 Q.genW fu call := by kernel_rfl
noncomputable def n74 : List W → HW → Nat → KW → Bool := appF 1 (R74 genW 1000000 d1.fn)
theorem n74_ok : FnGood Try.prog tys stl tab 74 n74 := node_ok d1_ok (by kernel_rfl) rfl g74 (R74_eq real _ _)
/- (foghorn/points.set).rows -/
noncomputable def R79 (q_addW : Nat → Nat → Option CV → W → W → (W → Bool) → Bool) (q_subW : Nat → Nat → Option CV → W → W → (W → Bool) → Bool) (q_mulW : Nat → Nat → Option CV → W → W → (W → Bool) → Bool) (q_fadW : Nat → W → (W → Bool) → Bool) (q_detW : W → Bool → Bool) (q_killVW : W → HW → (HW → Bool) → Bool) (q_loadSW : HW → W → (W → Bool) → Bool) (q_loadAW : Nat → HW → W → (W → Bool) → Bool) (q_boxW : HW → Nat → W → KW → Bool) (q_andW : Bool → Bool → Bool) (fu : Nat) (call : CallW) (a0 : W) (a1 : W) (h0 : HW) (c0 : Nat) (K : KW) : Bool :=
q_boxW h0 c0 a0 fun v1 h2 c3 =>
q_loadAW 5 h2 v1 fun v4 =>
q_fadW 1 v1 fun v5 =>
q_detW v5 (
q_andW (q_loadSW h2 v5 fun v6 =>
q_addW 3 9223372036854775807 (binC Try.prog .add 3 (.tmp 6) (.const (.int .i64 (.ofNat 1))) (dec v6) (dec (.i 3 1 r0))) v6 (.i 3 1 r0) fun v7 =>
q_detW v7 (
call 60 [v4, a1] h2 c3 fun v8 h9 c10 =>
q_mulW 3 9223372036854775807 (binC Try.prog .mul 3 (.const (.int .i64 (.ofNat 2))) (.tmp 10) (dec (.i 3 2 r0)) (dec v8)) (.i 3 2 r0) v8 fun v11 =>
q_subW 3 9223372036854775807 (binC Try.prog .sub 3 (.tmp 7) (.tmp 11) (dec v7) (dec v11)) v7 v11 fun v12 =>
q_killVW v1 h9 fun h13 =>
K v12 h13 c10)) (q_andW (call 60 [v4, a1] h2 c3 fun v14 h15 c16 =>
q_loadSW h15 v5 fun v17 =>
q_addW 3 9223372036854775807 (binC Try.prog .add 3 (.tmp 6) (.const (.int .i64 (.ofNat 1))) (dec v17) (dec (.i 3 1 r0))) v17 (.i 3 1 r0) fun v18 =>
q_mulW 3 9223372036854775807 (binC Try.prog .mul 3 (.const (.int .i64 (.ofNat 2))) (.tmp 10) (dec (.i 3 2 r0)) (dec v14)) (.i 3 2 r0) v14 fun v19 =>
q_subW 3 9223372036854775807 (binC Try.prog .sub 3 (.tmp 7) (.tmp 11) (dec v18) (dec v19)) v18 v19 fun v20 =>
q_killVW v1 h15 fun h21 =>
K v20 h21 c16) (true)))
theorem R79_eq (Q : PrimW) (fu : Nat) (call : CallW) : curryA 2 (fnK Q Try.prog tys stl fu call e79) = R79 Q.addW Q.subW Q.mulW Q.fadW Q.detW Q.killVW Q.loadSW Q.loadAW Q.boxW Q.andW fu call := by kernel_rfl
noncomputable def n79 : List W → HW → Nat → KW → Bool := appF 2 (R79 addW subW mulW fadW detW killVW loadSW loadAW boxW andW 1000000 d1.fn)
theorem n79_ok : FnGood Try.prog tys stl tab 79 n79 := node_ok d1_ok (by kernel_rfl) rfl g79 (R79_eq real _ _)
/- foghorn/bits.Ungray -/
noncomputable def R85 (q_bitW : (Nat → Nat → Nat) → Nat → Nat → Option CV → W → W → (W → Bool) → Bool) (q_cmpW : (Nat → Nat → Bool) → Nat → Option CV → W → W → (W → Bool) → Bool) (q_shlW : Nat → Nat → Nat → Option CV → W → W → (W → Bool) → Bool) (q_shrW : Nat → Nat → Option CV → W → W → (W → Bool) → Bool) (q_notW : Option CV → W → (W → Bool) → Bool) (q_condW : W → Bool → Bool → Bool) (fu : Nat) (call : CallW) (a0 : W) (h0 : HW) (c0 : Nat) (K : KW) : Bool :=
call 88 [a0] h0 c0 fun v1 h2 c3 =>
q_notW (two Try.prog (dec v1) (Op.unary .not)) v1 fun v4 =>
q_condW v4 (
K (.cons (.i 13 0 r0) (.cons (.i 3 0 r0) (.cons (.i 3 1 r0) .nil))) h2 c3) (
@Nat.rec (fun _ => Fun 2) (fun _ _ _ _ => false) (fun _ f9 v5 v6 h7 c8 =>
q_cmpW (cmpF2 .lss) 3 (binC Try.prog .lss 3 (.tmp 8) (.const (.int .i64 (.ofNat 16))) (dec v6) (dec (.i 3 16 r0))) v6 (.i 3 16 r0) fun v10 =>
q_condW v10 (
q_shrW 3 64 (binC Try.prog .shr 3 (.tmp 13) (.tmp 14) (dec v5) (dec v6)) v5 v6 fun v11 =>
q_bitW Nat.xor 3 9223372036854775807 (binC Try.prog .xor 3 (.tmp 12) (.tmp 15) (dec v5) (dec v11)) v5 v11 fun v12 =>
q_shlW 3 9223372036854775807 64 (binC Try.prog .shl 3 (.tmp 10) (.const (.int .u64 (.ofNat 1))) (dec v6) (dec (.i 7 1 r0))) v6 (.i 7 1 r0) fun v13 =>
f9 v12 v13 h7 c8) (
K (.cons (.i 13 0 r0) (.cons v5 (.cons (.i 3 0 r0) .nil))) h7 c8)) fu a0 (.i 3 1 r0) h2 c3)
theorem R85_eq (Q : PrimW) (fu : Nat) (call : CallW) : curryA 1 (fnK Q Try.prog tys stl fu call e85) = R85 Q.bitW Q.cmpW Q.shlW Q.shrW Q.notW Q.condW fu call := by kernel_rfl
noncomputable def n85 : List W → HW → Nat → KW → Bool := appF 1 (R85 bitW cmpW shlW shrW notW condW 1000000 d1.fn)
theorem n85_ok : FnGood Try.prog tys stl tab 85 n85 := node_ok d1_ok (by kernel_rfl) rfl g85 (R85_eq real _ _)
/- foghorn/bits.Gray -/
noncomputable def R86 (q_bitW : (Nat → Nat → Nat) → Nat → Nat → Option CV → W → W → (W → Bool) → Bool) (q_shrW : Nat → Nat → Option CV → W → W → (W → Bool) → Bool) (q_notW : Option CV → W → (W → Bool) → Bool) (q_condW : W → Bool → Bool → Bool) (fu : Nat) (call : CallW) (a0 : W) (h0 : HW) (c0 : Nat) (K : KW) : Bool :=
call 88 [a0] h0 c0 fun v1 h2 c3 =>
q_notW (two Try.prog (dec v1) (Op.unary .not)) v1 fun v4 =>
q_condW v4 (
K (.cons (.i 13 0 r0) (.cons (.i 3 0 r0) (.cons (.i 3 1 r0) .nil))) h2 c3) (
q_shrW 3 64 (binC Try.prog .shr 3 (.tmp 8) (.const (.int .u64 (.ofNat 1))) (dec a0) (dec (.i 7 1 r0))) a0 (.i 7 1 r0) fun v5 =>
q_bitW Nat.xor 3 9223372036854775807 (binC Try.prog .xor 3 (.tmp 7) (.tmp 9) (dec a0) (dec v5)) a0 v5 fun v6 =>
K (.cons (.i 13 0 r0) (.cons v6 (.cons (.i 3 0 r0) .nil))) h2 c3)
theorem R86_eq (Q : PrimW) (fu : Nat) (call : CallW) : curryA 1 (fnK Q Try.prog tys stl fu call e86) = R86 Q.bitW Q.shrW Q.notW Q.condW fu call := by kernel_rfl
noncomputable def n86 : List W → HW → Nat → KW → Bool := appF 1 (R86 bitW shrW notW condW 1000000 d1.fn)
theorem n86_ok : FnGood Try.prog tys stl tab 86 n86 := node_ok d1_ok (by kernel_rfl) rfl g86 (R86_eq real _ _)
/- math.Copysign -/
noncomputable def R87 (q_genW : Option CV → (W → Bool) → Bool) (q_bitW : (Nat → Nat → Nat) → Nat → Nat → Option CV → W → W → (W → Bool) → Bool) (fu : Nat) (call : CallW) (a0 : W) (a1 : W) (h0 : HW) (c0 : Nat) (K : KW) : Bool :=
call 82 [a0] h0 c0 fun v1 h2 c3 =>
q_genW (binC Try.prog .andNot 94 (.tmp 6) (.const (.int .u64 (.ofNat 9223372036854775808))) (dec v1) (dec (.i 7 9223372036854775808 r0))) fun v4 =>
call 82 [a1] h2 c3 fun v5 h6 c7 =>
q_bitW Nat.land 7 18446744073709551615 (binC Try.prog .and 94 (.tmp 9) (.const (.int .u64 (.ofNat 9223372036854775808))) (dec v5) (dec (.i 7 9223372036854775808 r0))) v5 (.i 7 9223372036854775808 r0) fun v8 =>
q_bitW Nat.lor 7 18446744073709551615 (binC Try.prog .or 94 (.tmp 7) (.tmp 10) (dec v4) (dec v8)) v4 v8 fun v9 =>
call 81 [v9] h6 c7 fun v10 h11 c12 =>
K v10 h11 c12
theorem R87_eq (Q : PrimW) (fu : Nat) (call : CallW) : curryA 2 (fnK Q Try.prog tys stl fu call e87) = R87 Q.genW Q.bitW fu call := by kernel_rfl
noncomputable def n87 : List W → HW → Nat → KW → Bool := appF 2 (R87 genW bitW 1000000 d1.fn)
theorem n87_ok : FnGood Try.prog tys stl tab 87 n87 := node_ok d1_ok (by kernel_rfl) rfl g87 (R87_eq real _ _)
noncomputable def d2 : Disp := (.node 64 n64 (.node 50 n50 (.node 44 n44 (.node 21 n21 (.node 11 n11 .leaf .leaf) (.node 41 n41 .leaf .leaf)) (.node 49 n49 (.node 45 n45 .leaf .leaf) .leaf)) (.node 58 n58 (.node 54 n54 (.node 53 n53 .leaf .leaf) (.node 57 n57 .leaf .leaf)) (.node 63 n63 (.node 60 n60 .leaf .leaf) .leaf))) (.node 82 n82 (.node 76 n76 (.node 66 n66 (.node 65 n65 .leaf .leaf) (.node 74 n74 .leaf .leaf)) (.node 81 n81 (.node 79 n79 .leaf .leaf) .leaf)) (.node 86 n86 (.node 85 n85 (.node 83 n83 .leaf .leaf) .leaf) (.node 88 n88 (.node 87 n87 .leaf .leaf) .leaf))))
theorem d2_ok : CallSim Try.prog tys stl tab d2.fn := Disp.sim ⟨n64_ok, ⟨n50_ok, ⟨n44_ok, ⟨n21_ok, ⟨n11_ok, True.intro, True.intro⟩, ⟨n41_ok, True.intro, True.intro⟩⟩, ⟨n49_ok, ⟨n45_ok, True.intro, True.intro⟩, True.intro⟩⟩, ⟨n58_ok, ⟨n54_ok, ⟨n53_ok, True.intro, True.intro⟩, ⟨n57_ok, True.intro, True.intro⟩⟩, ⟨n63_ok, ⟨n60_ok, True.intro, True.intro⟩, True.intro⟩⟩⟩, ⟨n82_ok, ⟨n76_ok, ⟨n66_ok, ⟨n65_ok, True.intro, True.intro⟩, ⟨n74_ok, True.intro, True.intro⟩⟩, ⟨n81_ok, ⟨n79_ok, True.intro, True.intro⟩, True.intro⟩⟩, ⟨n86_ok, ⟨n85_ok, ⟨n83_ok, True.intro, True.intro⟩, True.intro⟩, ⟨n88_ok, ⟨n87_ok, True.intro, True.intro⟩, True.intro⟩⟩⟩⟩
/- foghorn/points.Edge -/
noncomputable def R17 (q_notW : Option CV → W → (W → Bool) → Bool) (q_condW : W → Bool → Bool → Bool) (q_fadW : Nat → W → (W → Bool) → Bool) (q_tupW : W → (W → Bool) → Bool) (q_nthW : Nat → W → (W → Bool) → Bool) (q_killVW : W → HW → (HW → Bool) → Bool) (q_loadSW : HW → W → (W → Bool) → Bool) (q_storeAW : Nat → HW → W → W → (HW → Bool) → Bool) (q_allocW : Trie W → Nat → Bool → HW → Nat → KW → Bool) (fu : Nat) (call : CallW) (a0 : W) (h0 : HW) (c0 : Nat) (K : KW) : Bool :=
call 41 [a0] h0 c0 fun v1 h2 c3 =>
q_tupW v1 fun l4 => q_nthW 0 l4 fun v5 =>
q_tupW v1 fun l6 => q_nthW 1 l6 fun v7 =>
q_allocW (allocT tys 58) 5 true h2 c3 fun v8 h9 c10 =>
q_storeAW 5 h9 v8 v5 fun h11 =>
q_notW (two Try.prog (dec v7) (Op.unary .not)) v7 fun v12 =>
q_condW v12 (
q_killVW v8 h11 fun h13 =>
K (.cons (.i 13 0 r0) (.cons (.i 3 0 r0) (.cons (.i 3 1 r0) .nil))) h13 c10) (
q_fadW 1 v8 fun v14 =>
q_loadSW h11 v14 fun v15 =>
q_killVW v8 h11 fun h16 =>
K (.cons (.i 13 0 r0) (.cons v15 (.cons (.i 3 0 r0) .nil))) h16 c10)
theorem R17_eq (Q : PrimW) (fu : Nat) (call : CallW) : curryA 1 (fnK Q Try.prog tys stl fu call e17) = R17 Q.notW Q.condW Q.fadW Q.tupW Q.nthW Q.killVW Q.loadSW Q.storeAW Q.allocW fu call := by kernel_rfl
noncomputable def n17 : List W → HW → Nat → KW → Bool := appF 1 (R17 notW condW fadW tupW nthW killVW loadSW storeAW allocW 1000000 d2.fn)
theorem n17_ok : FnGood Try.prog tys stl tab 17 n17 := node_ok d2_ok (by kernel_rfl) rfl g17 (R17_eq real _ _)
/- foghorn/points.crossAt -/
noncomputable def R70 (q_addW : Nat → Nat → Option CV → W → W → (W → Bool) → Bool) (q_subW : Nat → Nat → Option CV → W → W → (W → Bool) → Bool) (q_cmpW : (Nat → Nat → Bool) → Nat → Option CV → W → W → (W → Bool) → Bool) (q_condW : W → Bool → Bool → Bool) (q_killVW : W → HW → (HW → Bool) → Bool) (q_loadAW : Nat → HW → W → (W → Bool) → Bool) (q_boxW : HW → Nat → W → KW → Bool) (q_andW : Bool → Bool → Bool) (fu : Nat) (call : CallW) (a0 : W) (a1 : W) (h0 : HW) (c0 : Nat) (K : KW) : Bool :=
q_boxW h0 c0 a0 fun v1 h2 c3 =>
@Nat.rec (fun _ => Fun 2) (fun _ _ _ _ => false) (fun _ f8 v4 v5 h6 c7 =>
q_loadAW 5 h6 v1 fun v9 =>
call 79 [v9, v5] h6 c7 fun v10 h11 c12 =>
q_cmpW (cmpF2 .geq) 3 (binC Try.prog .geq 3 (.tmp 6) (.tmp 9) (dec v4) (dec v10)) v4 v10 fun v13 =>
q_condW v13 (
q_loadAW 5 h11 v1 fun v14 =>
call 79 [v14, v5] h11 c12 fun v15 h16 c17 =>
q_subW 3 9223372036854775807 (binC Try.prog .sub 3 (.tmp 11) (.tmp 14) (dec v4) (dec v15)) v4 v15 fun v18 =>
q_addW 3 9223372036854775807 (binC Try.prog .add 3 (.tmp 16) (.const (.int .i64 (.ofNat 1))) (dec v5) (dec (.i 3 1 r0))) v5 (.i 3 1 r0) fun v19 =>
f8 v18 v19 h16 c17) (
q_loadAW 5 h11 v1 fun v20 =>
q_andW (q_loadAW 5 h11 v1 fun v21 =>
call 60 [v20, v5] h11 c12 fun v22 h23 c24 =>
q_addW 3 9223372036854775807 (binC Try.prog .add 3 (.tmp 22) (.tmp 23) (dec v22) (dec v4)) v22 v4 fun v25 =>
call 76 [v21, v5, v25] h23 c24 fun v26 h27 c28 =>
q_killVW v1 h27 fun h29 =>
K v26 h29 c28) (q_andW (call 60 [v20, v5] h11 c12 fun v30 h31 c32 =>
q_loadAW 5 h31 v1 fun v33 =>
q_addW 3 9223372036854775807 (binC Try.prog .add 3 (.tmp 22) (.tmp 23) (dec v30) (dec v4)) v30 v4 fun v34 =>
call 76 [v33, v5, v34] h31 c32 fun v35 h36 c37 =>
q_killVW v1 h36 fun h38 =>
K v35 h38 c37) (true)))) fu a1 (.i 3 0 r0) h2 c3
theorem R70_eq (Q : PrimW) (fu : Nat) (call : CallW) : curryA 2 (fnK Q Try.prog tys stl fu call e70) = R70 Q.addW Q.subW Q.cmpW Q.condW Q.killVW Q.loadAW Q.boxW Q.andW fu call := by kernel_rfl
noncomputable def n70 : List W → HW → Nat → KW → Bool := appF 2 (R70 addW subW cmpW condW killVW loadAW boxW andW 1000000 d2.fn)
theorem n70_ok : FnGood Try.prog tys stl tab 70 n70 := node_ok d2_ok (by kernel_rfl) rfl g70 (R70_eq real _ _)
/- foghorn/points.crossLabel -/
noncomputable def R71 (q_addW : Nat → Nat → Option CV → W → W → (W → Bool) → Bool) (q_subW : Nat → Nat → Option CV → W → W → (W → Bool) → Bool) (q_cmpW : (Nat → Nat → Bool) → Nat → Option CV → W → W → (W → Bool) → Bool) (q_condW : W → Bool → Bool → Bool) (q_killVW : W → HW → (HW → Bool) → Bool) (q_loadAW : Nat → HW → W → (W → Bool) → Bool) (q_boxW : HW → Nat → W → KW → Bool) (fu : Nat) (call : CallW) (a0 : W) (a1 : W) (a2 : W) (h0 : HW) (c0 : Nat) (K : KW) : Bool :=
q_boxW h0 c0 a0 fun v1 h2 c3 =>
q_loadAW 5 h2 v1 fun v4 =>
call 60 [v4, a1] h2 c3 fun v5 h6 c7 =>
q_subW 3 9223372036854775807 (binC Try.prog .sub 3 (.tmp 9) (.tmp 12) (dec a2) (dec v5)) a2 v5 fun v8 =>
@Nat.rec (fun _ => Fun 2) (fun _ _ _ _ => false) (fun _ f13 v9 v10 h11 c12 =>
q_cmpW (cmpF2 .lss) 3 (binC Try.prog .lss 3 (.tmp 15) (.tmp 14) (dec v10) (dec a1)) v10 a1 fun v14 =>
q_condW v14 (
q_loadAW 5 h11 v1 fun v15 =>
call 79 [v15, v10] h11 c12 fun v16 h17 c18 =>
q_addW 3 9223372036854775807 (binC Try.prog .add 3 (.tmp 18) (.tmp 21) (dec v9) (dec v16)) v9 v16 fun v19 =>
q_addW 3 9223372036854775807 (binC Try.prog .add 3 (.tmp 15) (.const (.int .i64 (.ofNat 1))) (dec v10) (dec (.i 3 1 r0))) v10 (.i 3 1 r0) fun v20 =>
f13 v19 v20 h17 c18) (
q_killVW v1 h11 fun h21 =>
K v9 h21 c12)) fu v8 (.i 3 0 r0) h6 c7
theorem R71_eq (Q : PrimW) (fu : Nat) (call : CallW) : curryA 3 (fnK Q Try.prog tys stl fu call e71) = R71 Q.addW Q.subW Q.cmpW Q.condW Q.killVW Q.loadAW Q.boxW fu call := by kernel_rfl
noncomputable def n71 : List W → HW → Nat → KW → Bool := appF 3 (R71 addW subW cmpW condW killVW loadAW boxW 1000000 d2.fn)
theorem n71_ok : FnGood Try.prog tys stl tab 71 n71 := node_ok d2_ok (by kernel_rfl) rfl g71 (R71_eq real _ _)
/- foghorn/points.ungray -/
noncomputable def R77 (q_tupW : W → (W → Bool) → Bool) (q_nthW : Nat → W → (W → Bool) → Bool) (fu : Nat) (call : CallW) (a0 : W) (h0 : HW) (c0 : Nat) (K : KW) : Bool :=
call 85 [a0] h0 c0 fun v1 h2 c3 =>
q_tupW v1 fun l4 => q_nthW 0 l4 fun v5 =>
q_tupW v1 fun l6 => q_nthW 1 l6 fun v7 =>
K v5 h2 c3
theorem R77_eq (Q : PrimW) (fu : Nat) (call : CallW) : curryA 1 (fnK Q Try.prog tys stl fu call e77) = R77 Q.tupW Q.nthW fu call := by kernel_rfl
noncomputable def n77 : List W → HW → Nat → KW → Bool := appF 1 (R77 tupW nthW 1000000 d2.fn)
theorem n77_ok : FnGood Try.prog tys stl tab 77 n77 := node_ok d2_ok (by kernel_rfl) rfl g77 (R77_eq real _ _)
/- foghorn/points.gray -/
noncomputable def R78 (q_tupW : W → (W → Bool) → Bool) (q_nthW : Nat → W → (W → Bool) → Bool) (fu : Nat) (call : CallW) (a0 : W) (h0 : HW) (c0 : Nat) (K : KW) : Bool :=
call 86 [a0] h0 c0 fun v1 h2 c3 =>
q_tupW v1 fun l4 => q_nthW 0 l4 fun v5 =>
q_tupW v1 fun l6 => q_nthW 1 l6 fun v7 =>
K v5 h2 c3
theorem R78_eq (Q : PrimW) (fu : Nat) (call : CallW) : curryA 1 (fnK Q Try.prog tys stl fu call e78) = R78 Q.tupW Q.nthW fu call := by kernel_rfl
noncomputable def n78 : List W → HW → Nat → KW → Bool := appF 1 (R78 tupW nthW 1000000 d2.fn)
theorem n78_ok : FnGood Try.prog tys stl tab 78 n78 := node_ok d2_ok (by kernel_rfl) rfl g78 (R78_eq real _ _)
/- math.trunc -/
noncomputable def R84 (q_share : (α : Type) → α → (α → Bool) → Bool) (q_genW : Option CV → (W → Bool) → Bool) (q_subW : Nat → Nat → Option CV → W → W → (W → Bool) → Bool) (q_bitW : (Nat → Nat → Nat) → Nat → Nat → Option CV → W → W → (W → Bool) → Bool) (q_cmpW : (Nat → Nat → Bool) → Nat → Option CV → W → W → (W → Bool) → Bool) (q_shlW : Nat → Nat → Nat → Option CV → W → W → (W → Bool) → Bool) (q_shrW : Nat → Nat → Option CV → W → W → (W → Bool) → Bool) (q_condW : W → Bool → Bool → Bool) (fu : Nat) (call : CallW) (a0 : W) (h0 : HW) (c0 : Nat) (K : KW) : Bool :=
call 74 [a0] h0 c0 fun v1 h2 c3 =>
q_genW (binC Try.prog .lss 34 (.tmp 6) (.const (.float .f64 4607182418800017408)) (dec v1) (dec (.i 12 0 ⟨0, 0, 0, .flt .f64 4607182418800017408⟩))) fun v4 =>
q_condW v4 (
call 87 [(.i 12 0 ⟨0, 0, 0, .flt .f64 0⟩), a0] h2 c3 fun v5 h6 c7 =>
K v5 h6 c7) (
call 82 [a0] h2 c3 fun v8 h9 c10 =>
q_shrW 7 64 (binC Try.prog .shr 94 (.tmp 12) (.const (.int .u64 (.ofNat 52))) (dec v8) (dec (.i 7 52 r0))) v8 (.i 7 52 r0) fun v11 =>
q_bitW Nat.land 7 18446744073709551615 (binC Try.prog .and 42 (.tmp 13) (.const (.int .u64 (.ofNat 2047))) (dec v11) (dec (.i 7 2047 r0))) v11 (.i 7 2047 r0) fun v12 =>
q_subW 7 18446744073709551615 (binC Try.prog .sub 42 (.tmp 14) (.const (.int .u64 (.ofNat 1023))) (dec v12) (dec (.i 7 1023 r0))) v12 (.i 7 1023 r0) fun v13 =>
q_share _ (fun v14 h15 c16 =>
call 81 [v14] h15 c16 fun v18 h19 c20 =>
K v18 h19 c20) fun f17 =>
q_cmpW (cmpF2 .lss) 7 (binC Try.prog .lss 42 (.tmp 16) (.const (.int .u64 (.ofNat 52))) (dec v13) (dec (.i 7 52 r0))) v13 (.i 7 52 r0) fun v21 =>
q_condW v21 (
q_subW 7 18446744073709551615 (binC Try.prog .sub 42 (.const (.int .u64 (.ofNat 52))) (.tmp 19) (dec (.i 7 52 r0)) (dec v13)) (.i 7 52 r0) v13 fun v22 =>
q_shlW 7 18446744073709551615 64 (binC Try.prog .shl 94 (.const (.int .u64 (.ofNat 1))) (.tmp 20) (dec (.i 7 1 r0)) (dec v22)) (.i 7 1 r0) v22 fun v23 =>
q_subW 7 18446744073709551615 (binC Try.prog .sub 94 (.tmp 21) (.const (.int .u64 (.ofNat 1))) (dec v23) (dec (.i 7 1 r0))) v23 (.i 7 1 r0) fun v24 =>
q_genW (binC Try.prog .andNot 94 (.tmp 18) (.tmp 22) (dec v8) (dec v24)) fun v25 =>
f17 v25 h9 c10) (
f17 v8 h9 c10))
theorem R84_eq (Q : PrimW) (fu : Nat) (call : CallW) : curryA 1 (fnK Q Try.prog tys stl fu call e84) = R84 Q.share Q.genW Q.subW Q.bitW Q.cmpW Q.shlW Q.shrW Q.condW fu call := by kernel_rfl
noncomputable def n84 : List W → HW → Nat → KW → Bool := appF 1 (R84 (fun _ x f => f x) genW subW bitW cmpW shlW shrW condW 1000000 d2.fn)
theorem n84_ok : FnGood Try.prog tys stl tab 84 n84 := node_ok d2_ok (by kernel_rfl) rfl g84 (R84_eq real _ _)
noncomputable def d3 : Disp := (.node 66 n66 (.node 53 n53 (.node 44 n44 (.node 21 n21 (.node 17 n17 (.node 11 n11 .leaf .leaf) .leaf) (.node 41 n41 .leaf .leaf)) (.node 49 n49 (.node 45 n45 .leaf .leaf) (.node 50 n50 .leaf .leaf))) (.node 60 n60 (.node 57 n57 (.node 54 n54 .leaf .leaf) (.node 58 n58 .leaf .leaf)) (.node 64 n64 (.node 63 n63 .leaf .leaf) (.node 65 n65 .leaf .leaf)))) (.node 81 n81 (.node 76 n76 (.node 71 n71 (.node 70 n70 .leaf .leaf) (.node 74 n74 .leaf .leaf)) (.node 78 n78 (.node 77 n77 .leaf .leaf) (.node 79 n79 .leaf .leaf))) (.node 85 n85 (.node 83 n83 (.node 82 n82 .leaf .leaf) (.node 84 n84 .leaf .leaf)) (.node 87 n87 (.node 86 n86 .leaf .leaf) (.node 88 n88 .leaf .leaf)))))
theorem d3_ok : CallSim Try.prog tys stl tab d3.fn := Disp.sim ⟨n66_ok, ⟨n53_ok, ⟨n44_ok, ⟨n21_ok, ⟨n17_ok, ⟨n11_ok, True.intro, True.intro⟩, True.intro⟩, ⟨n41_ok, True.intro, True.intro⟩⟩, ⟨n49_ok, ⟨n45_ok, True.intro, True.intro⟩, ⟨n50_ok, True.intro, True.intro⟩⟩⟩, ⟨n60_ok, ⟨n57_ok, ⟨n54_ok, True.intro, True.intro⟩, ⟨n58_ok, True.intro, True.intro⟩⟩, ⟨n64_ok, ⟨n63_ok, True.intro, True.intro⟩, ⟨n65_ok, True.intro, True.intro⟩⟩⟩⟩, ⟨n81_ok, ⟨n76_ok, ⟨n71_ok, ⟨n70_ok, True.intro, True.intro⟩, ⟨n74_ok, True.intro, True.intro⟩⟩, ⟨n78_ok, ⟨n77_ok, True.intro, True.intro⟩, ⟨n79_ok, True.intro, True.intro⟩⟩⟩, ⟨n85_ok, ⟨n83_ok, ⟨n82_ok, True.intro, True.intro⟩, ⟨n84_ok, True.intro, True.intro⟩⟩, ⟨n87_ok, ⟨n86_ok, True.intro, True.intro⟩, ⟨n88_ok, True.intro, True.intro⟩⟩⟩⟩⟩
/- foghorn/points.squareAt -/
noncomputable def R68 (q_subW : Nat → Nat → Option CV → W → W → (W → Bool) → Bool) (q_quoW : Nat → Nat → Option CV → W → W → (W → Bool) → Bool) (q_bitW : (Nat → Nat → Nat) → Nat → Nat → Option CV → W → W → (W → Bool) → Bool) (q_shlW : Nat → Nat → Nat → Option CV → W → W → (W → Bool) → Bool) (q_shrW : Nat → Nat → Option CV → W → W → (W → Bool) → Bool) (q_fadW : Nat → W → (W → Bool) → Bool) (q_knownW : W → Bool → Bool) (q_killVW : W → HW → (HW → Bool) → Bool) (q_loadSW : HW → W → (W → Bool) → Bool) (q_loadAW : Nat → HW → W → (W → Bool) → Bool) (q_boxW : HW → Nat → W → KW → Bool) (fu : Nat) (call : CallW) (a0 : W) (a1 : W) (h0 : HW) (c0 : Nat) (K : KW) : Bool :=
q_boxW h0 c0 a0 fun v1 h2 c3 =>
q_fadW 0 v1 fun v4 =>
q_loadSW h2 v4 fun v5 =>
q_quoW 3 9223372036854775807 (binC Try.prog .quo 3 (.tmp 7) (.const (.int .i64 (.ofNat 2))) (dec v5) (dec (.i 3 2 r0))) v5 (.i 3 2 r0) fun v6 =>
q_loadAW 5 h2 v1 fun v7 =>
q_shrW 3 64 (binC Try.prog .shr 3 (.tmp 10) (.tmp 11) (dec a1) (dec v6)) a1 v6 fun v8 =>
call 77 [v8] h2 c3 fun v9 _ _ => q_knownW v9 (
q_shlW 3 9223372036854775807 64 (binC Try.prog .shl 3 (.const (.int .i64 (.ofNat 1))) (.tmp 15) (dec (.i 3 1 r0)) (dec v6)) (.i 3 1 r0) v6 fun v10 =>
q_subW 3 9223372036854775807 (binC Try.prog .sub 3 (.tmp 16) (.const (.int .i64 (.ofNat 1))) (dec v10) (dec (.i 3 1 r0))) v10 (.i 3 1 r0) fun v11 =>
q_bitW Nat.land 3 9223372036854775807 (binC Try.prog .and 3 (.tmp 14) (.tmp 17) (dec a1) (dec v11)) a1 v11 fun v12 =>
call 77 [v12] h2 c3 fun v13 _ _ => q_knownW v13 (
call 76 [v7, v9, v13] h2 c3 fun v14 h15 c16 =>
q_killVW v1 h15 fun h17 =>
K v14 h17 c16))
theorem R68_eq (Q : PrimW) (fu : Nat) (call : CallW) : curryA 2 (fnK Q Try.prog tys stl fu call e68) = R68 Q.subW Q.quoW Q.bitW Q.shlW Q.shrW Q.fadW Q.knownW Q.killVW Q.loadSW Q.loadAW Q.boxW fu call := by kernel_rfl
noncomputable def n68 : List W → HW → Nat → KW → Bool := appF 2 (R68 subW quoW bitW shlW shrW fadW knownW killVW loadSW loadAW boxW 1000000 d3.fn)
theorem n68_ok : FnGood Try.prog tys stl tab 68 n68 := node_ok d3_ok (by kernel_rfl) rfl g68 (R68_eq real _ _)
/- foghorn/points.squareLabel -/
noncomputable def R69 (q_quoW : Nat → Nat → Option CV → W → W → (W → Bool) → Bool) (q_bitW : (Nat → Nat → Nat) → Nat → Nat → Option CV → W → W → (W → Bool) → Bool) (q_shlW : Nat → Nat → Nat → Option CV → W → W → (W → Bool) → Bool) (q_fadW : Nat → W → (W → Bool) → Bool) (q_knownW : W → Bool → Bool) (q_killVW : W → HW → (HW → Bool) → Bool) (q_loadSW : HW → W → (W → Bool) → Bool) (q_boxW : HW → Nat → W → KW → Bool) (fu : Nat) (call : CallW) (a0 : W) (a1 : W) (a2 : W) (h0 : HW) (c0 : Nat) (K : KW) : Bool :=
q_boxW h0 c0 a0 fun v1 h2 c3 =>
call 78 [a1] h2 c3 fun v4 _ _ => q_knownW v4 (
q_fadW 0 v1 fun v5 =>
q_loadSW h2 v5 fun v6 =>
q_quoW 3 9223372036854775807 (binC Try.prog .quo 3 (.tmp 10) (.const (.int .i64 (.ofNat 2))) (dec v6) (dec (.i 3 2 r0))) v6 (.i 3 2 r0) fun v7 =>
q_shlW 3 9223372036854775807 64 (binC Try.prog .shl 3 (.tmp 8) (.tmp 11) (dec v4) (dec v7)) v4 v7 fun v8 =>
call 78 [a2] h2 c3 fun v9 _ _ => q_knownW v9 (
q_bitW Nat.lor 3 9223372036854775807 (binC Try.prog .or 3 (.tmp 12) (.tmp 14) (dec v8) (dec v9)) v8 v9 fun v10 =>
q_killVW v1 h2 fun h11 =>
K v10 h11 c3))
theorem R69_eq (Q : PrimW) (fu : Nat) (call : CallW) : curryA 3 (fnK Q Try.prog tys stl fu call e69) = R69 Q.quoW Q.bitW Q.shlW Q.fadW Q.knownW Q.killVW Q.loadSW Q.boxW fu call := by kernel_rfl
noncomputable def n69 : List W → HW → Nat → KW → Bool := appF 3 (R69 quoW bitW shlW fadW knownW killVW loadSW boxW 1000000 d3.fn)
theorem n69_ok : FnGood Try.prog tys stl tab 69 n69 := node_ok d3_ok (by kernel_rfl) rfl g69 (R69_eq real _ _)
/- math.Trunc -/
noncomputable def R75 (q_condW : W → Bool → Bool → Bool) (fu : Nat) (call : CallW) (a0 : W) (h0 : HW) (c0 : Nat) (K : KW) : Bool :=
q_condW (.i 8 1 r0) (
call 83 [a0] h0 c0 fun v1 h2 c3 =>
K v1 h2 c3) (
call 84 [a0] h0 c0 fun v4 h5 c6 =>
K v4 h5 c6)
theorem R75_eq (Q : PrimW) (fu : Nat) (call : CallW) : curryA 1 (fnK Q Try.prog tys stl fu call e75) = R75 Q.condW fu call := by kernel_rfl
noncomputable def n75 : List W → HW → Nat → KW → Bool := appF 1 (R75 condW 1000000 d3.fn)
theorem n75_ok : FnGood Try.prog tys stl tab 75 n75 := node_ok d3_ok (by kernel_rfl) rfl g75 (R75_eq real _ _)
noncomputable def d4 : Disp := (.node 68 n68 (.node 53 n53 (.node 44 n44 (.node 21 n21 (.node 17 n17 (.node 11 n11 .leaf .leaf) .leaf) (.node 41 n41 .leaf .leaf)) (.node 49 n49 (.node 45 n45 .leaf .leaf) (.node 50 n50 .leaf .leaf))) (.node 63 n63 (.node 58 n58 (.node 57 n57 (.node 54 n54 .leaf .leaf) .leaf) (.node 60 n60 .leaf .leaf)) (.node 65 n65 (.node 64 n64 .leaf .leaf) (.node 66 n66 .leaf .leaf)))) (.node 79 n79 (.node 75 n75 (.node 71 n71 (.node 70 n70 (.node 69 n69 .leaf .leaf) .leaf) (.node 74 n74 .leaf .leaf)) (.node 77 n77 (.node 76 n76 .leaf .leaf) (.node 78 n78 .leaf .leaf))) (.node 85 n85 (.node 83 n83 (.node 82 n82 (.node 81 n81 .leaf .leaf) .leaf) (.node 84 n84 .leaf .leaf)) (.node 87 n87 (.node 86 n86 .leaf .leaf) (.node 88 n88 .leaf .leaf)))))
theorem d4_ok : CallSim Try.prog tys stl tab d4.fn := Disp.sim ⟨n68_ok, ⟨n53_ok, ⟨n44_ok, ⟨n21_ok, ⟨n17_ok, ⟨n11_ok, True.intro, True.intro⟩, True.intro⟩, ⟨n41_ok, True.intro, True.intro⟩⟩, ⟨n49_ok, ⟨n45_ok, True.intro, True.intro⟩, ⟨n50_ok, True.intro, True.intro⟩⟩⟩, ⟨n63_ok, ⟨n58_ok, ⟨n57_ok, ⟨n54_ok, True.intro, True.intro⟩, True.intro⟩, ⟨n60_ok, True.intro, True.intro⟩⟩, ⟨n65_ok, ⟨n64_ok, True.intro, True.intro⟩, ⟨n66_ok, True.intro, True.intro⟩⟩⟩⟩, ⟨n79_ok, ⟨n75_ok, ⟨n71_ok, ⟨n70_ok, ⟨n69_ok, True.intro, True.intro⟩, True.intro⟩, ⟨n74_ok, True.intro, True.intro⟩⟩, ⟨n77_ok, ⟨n76_ok, True.intro, True.intro⟩, ⟨n78_ok, True.intro, True.intro⟩⟩⟩, ⟨n85_ok, ⟨n83_ok, ⟨n82_ok, ⟨n81_ok, True.intro, True.intro⟩, True.intro⟩, ⟨n84_ok, True.intro, True.intro⟩⟩, ⟨n87_ok, ⟨n86_ok, True.intro, True.intro⟩, ⟨n88_ok, True.intro, True.intro⟩⟩⟩⟩⟩
/- foghorn/points.All -/
noncomputable def R13 (q_addW : Nat → Nat → Option CV → W → W → (W → Bool) → Bool) (q_cmpW : (Nat → Nat → Bool) → Nat → Option CV → W → W → (W → Bool) → Bool) (q_notW : Option CV → W → (W → Bool) → Bool) (q_condW : W → Bool → Bool → Bool) (q_fadW : Nat → W → (W → Bool) → Bool) (q_idxSW : Nat → W → W → (W → Bool) → Bool) (q_lenW : Option CV → W → (W → Bool) → Bool) (q_tupW : W → (W → Bool) → Bool) (q_nthW : Nat → W → (W → Bool) → Bool) (q_onF : W → (FuncId → W → Bool) → Bool) (q_killVW : W → HW → (HW → Bool) → Bool) (q_loadSW : HW → W → (W → Bool) → Bool) (q_loadAW : Nat → HW → W → (W → Bool) → Bool) (q_storeSW : HW → W → W → (HW → Bool) → Bool) (q_storeAW : Nat → HW → W → W → (HW → Bool) → Bool) (q_makeSW : Nat → Nat → Nat → Kind → List W → Bool → HW → Nat → W → W → KW → Bool) (q_allocW : Trie W → Nat → Bool → HW → Nat → KW → Bool) (fu : Nat) (call : CallW) (a0 : W) (h0 : HW) (c0 : Nat) (K : KW) : Bool :=
call 41 [a0] h0 c0 fun v1 h2 c3 =>
q_tupW v1 fun l4 => q_nthW 0 l4 fun v5 =>
q_tupW v1 fun l6 => q_nthW 1 l6 fun v7 =>
q_allocW (allocT tys 58) 5 true h2 c3 fun v8 h9 c10 =>
q_storeAW 5 h9 v8 v5 fun h11 =>
q_notW (two Try.prog (dec v7) (Op.unary .not)) v7 fun v12 =>
q_condW v12 (
q_killVW v8 h11 fun h13 =>
K (.cons (.i 13 0 r0) (.cons (.i 12 0 ⟨0, 0, 0, .nils⟩) (.cons (.i 3 1 r0) .nil))) h13 c10) (
q_makeSW 16 1 99 (.cpxs .f64) [(.i 12 0 ⟨0, 0, 0, .cpx .f64 0 0⟩)] true h11 c10 a0 a0 fun v14 h15 c16 =>
q_lenW (lenC tys 24 (dec v14)) v14 fun v17 =>
@Nat.rec (fun _ => Fun 1) (fun _ _ _ => false) (fun _ f21 v18 h19 c20 =>
q_cmpW (cmpF2 .lss) 3 (binC Try.prog .lss 3 (.tmp 19) (.tmp 18) (dec v18) (dec v17)) v18 v17 fun v22 =>
q_condW v22 (
q_fadW 3 v8 fun v23 =>
q_loadSW h19 v23 fun v24 =>
q_loadAW 5 h19 v8 fun v25 =>
q_onF v24 fun g26 l27 => call g26 ([v25, v18] ++ toL l27) h19 c20 fun v28 h29 c30 =>
q_idxSW 1 v14 v18 fun v31 =>
q_storeSW h29 v31 v28 fun h32 =>
q_addW 3 9223372036854775807 (binC Try.prog .add 3 (.tmp 19) (.const (.int .i64 (.ofNat 1))) (dec v18) (dec (.i 3 1 r0))) v18 (.i 3 1 r0) fun v33 =>
f21 v33 h32 c30) (
q_killVW v8 h19 fun h34 =>
K (.cons (.i 13 0 r0) (.cons v14 (.cons (.i 3 0 r0) .nil))) h34 c20)) fu (.i 3 0 r0) h15 c16)
theorem R13_eq (Q : PrimW) (fu : Nat) (call : CallW) : curryA 1 (fnK Q Try.prog tys stl fu call e13) = R13 Q.addW Q.cmpW Q.notW Q.condW Q.fadW Q.idxSW Q.lenW Q.tupW Q.nthW Q.onF Q.killVW Q.loadSW Q.loadAW Q.storeSW Q.storeAW Q.makeSW Q.allocW fu call := by kernel_rfl
noncomputable def n13 : List W → HW → Nat → KW → Bool := appF 1 (R13 addW cmpW notW condW fadW idxSW lenW tupW nthW onF killVW loadSW loadAW storeSW storeAW makeSW allocW 1000000 d4.fn)
theorem n13_ok : FnGood Try.prog tys stl tab 13 n13 := node_ok d4_ok (by kernel_rfl) rfl g13 (R13_eq real _ _)
/- foghorn/points.Row -/
noncomputable def R25 (q_addW : Nat → Nat → Option CV → W → W → (W → Bool) → Bool) (q_cmpW : (Nat → Nat → Bool) → Nat → Option CV → W → W → (W → Bool) → Bool) (q_notW : Option CV → W → (W → Bool) → Bool) (q_condW : W → Bool → Bool → Bool) (q_fadW : Nat → W → (W → Bool) → Bool) (q_idxSW : Nat → W → W → (W → Bool) → Bool) (q_lenW : Option CV → W → (W → Bool) → Bool) (q_tupW : W → (W → Bool) → Bool) (q_nthW : Nat → W → (W → Bool) → Bool) (q_onF : W → (FuncId → W → Bool) → Bool) (q_killVW : W → HW → (HW → Bool) → Bool) (q_loadSW : HW → W → (W → Bool) → Bool) (q_loadAW : Nat → HW → W → (W → Bool) → Bool) (q_storeSW : HW → W → W → (HW → Bool) → Bool) (q_storeAW : Nat → HW → W → W → (HW → Bool) → Bool) (q_makeSW : Nat → Nat → Nat → Kind → List W → Bool → HW → Nat → W → W → KW → Bool) (q_allocW : Trie W → Nat → Bool → HW → Nat → KW → Bool) (fu : Nat) (call : CallW) (a0 : W) (a1 : W) (h0 : HW) (c0 : Nat) (K : KW) : Bool :=
call 41 [a1] h0 c0 fun v1 h2 c3 =>
q_tupW v1 fun l4 => q_nthW 0 l4 fun v5 =>
q_tupW v1 fun l6 => q_nthW 1 l6 fun v7 =>
q_allocW (allocT tys 58) 5 true h2 c3 fun v8 h9 c10 =>
q_storeAW 5 h9 v8 v5 fun h11 =>
q_notW (two Try.prog (dec v7) (Op.unary .not)) v7 fun v12 =>
q_condW v12 (
q_killVW v8 h11 fun h13 =>
K (.cons (.i 13 0 r0) (.cons (.i 12 0 ⟨0, 0, 0, .nils⟩) (.cons (.i 3 1 r0) .nil))) h13 c10) (
q_fadW 0 v8 fun v14 =>
q_loadSW h11 v14 fun v15 =>
call 45 [a0, v15] h11 c10 fun v16 h17 c18 =>
q_tupW v16 fun l19 => q_nthW 0 l19 fun v20 =>
q_tupW v16 fun l21 => q_nthW 1 l21 fun v22 =>
q_cmpW (cmpF2 .neq) 3 (binC Try.prog .neq 25 (.tmp 27) (.const (.int .i64 (.ofNat 0))) (dec v22) (dec (.i 3 0 r0))) v22 (.i 3 0 r0) fun v23 =>
q_condW v23 (
q_killVW v8 h17 fun h24 =>
K (.cons (.i 13 0 r0) (.cons (.i 12 0 ⟨0, 0, 0, .nils⟩) (.cons v22 .nil))) h24 c18) (
q_lenW (lenC tys 22 (dec v20)) v20 fun v25 =>
q_makeSW 16 1 99 (.cpxs .f64) [(.i 12 0 ⟨0, 0, 0, .cpx .f64 0 0⟩)] true h17 c18 v25 v25 fun v26 h27 c28 =>
q_lenW (lenC tys 22 (dec v20)) v20 fun v29 =>
@Nat.rec (fun _ => Fun 1) (fun _ _ _ => false) (fun _ f33 v30 h31 c32 =>
q_cmpW (cmpF2 .lss) 3 (binC Try.prog .lss 3 (.tmp 35) (.tmp 34) (dec v30) (dec v29)) v30 v29 fun v34 =>
q_condW v34 (
q_idxSW 1 v20 v30 fun v35 =>
q_loadSW h31 v35 fun v36 =>
q_fadW 3 v8 fun v37 =>
q_loadSW h31 v37 fun v38 =>
q_loadAW 5 h31 v8 fun v39 =>
q_onF v38 fun g40 l41 => call g40 ([v39, v36] ++ toL l41) h31 c32 fun v42 h43 c44 =>
q_idxSW 1 v26 v30 fun v45 =>
q_storeSW h43 v45 v42 fun h46 =>
q_addW 3 9223372036854775807 (binC Try.prog .add 3 (.tmp 35) (.const (.int .i64 (.ofNat 1))) (dec v30) (dec (.i 3 1 r0))) v30 (.i 3 1 r0) fun v47 =>
f33 v47 h46 c44) (
q_killVW v8 h31 fun h48 =>
K (.cons (.i 13 0 r0) (.cons v26 (.cons (.i 3 0 r0) .nil))) h48 c32)) fu (.i 3 0 r0) h27 c28))
theorem R25_eq (Q : PrimW) (fu : Nat) (call : CallW) : curryA 2 (fnK Q Try.prog tys stl fu call e25) = R25 Q.addW Q.cmpW Q.notW Q.condW Q.fadW Q.idxSW Q.lenW Q.tupW Q.nthW Q.onF Q.killVW Q.loadSW Q.loadAW Q.storeSW Q.storeAW Q.makeSW Q.allocW fu call := by kernel_rfl
noncomputable def n25 : List W → HW → Nat → KW → Bool := appF 2 (R25 addW cmpW notW condW fadW idxSW lenW tupW nthW onF killVW loadSW loadAW storeSW storeAW makeSW allocW 1000000 d4.fn)
theorem n25_ok : FnGood Try.prog tys stl tab 25 n25 := node_ok d4_ok (by kernel_rfl) rfl g25 (R25_eq real _ _)
/- foghorn/points.At -/
noncomputable def R31 (q_share : (α : Type) → α → (α → Bool) → Bool) (q_cmpW : (Nat → Nat → Bool) → Nat → Option CV → W → W → (W → Bool) → Bool) (q_notW : Option CV → W → (W → Bool) → Bool) (q_condW : W → Bool → Bool → Bool) (q_guardW : Bool → W → Bool → Bool → Bool) (q_pickW : W → W → W → (W → Bool) → Bool) (q_fadW : Nat → W → (W → Bool) → Bool) (q_tupW : W → (W → Bool) → Bool) (q_nthW : Nat → W → (W → Bool) → Bool) (q_onF : W → (FuncId → W → Bool) → Bool) (q_killVW : W → HW → (HW → Bool) → Bool) (q_loadSW : HW → W → (W → Bool) → Bool) (q_loadAW : Nat → HW → W → (W → Bool) → Bool) (q_storeAW : Nat → HW → W → W → (HW → Bool) → Bool) (q_allocW : Trie W → Nat → Bool → HW → Nat → KW → Bool) (fu : Nat) (call : CallW) (a0 : W) (a1 : W) (h0 : HW) (c0 : Nat) (K : KW) : Bool :=
call 41 [a0] h0 c0 fun v1 h2 c3 =>
q_tupW v1 fun l4 => q_nthW 0 l4 fun v5 =>
q_tupW v1 fun l6 => q_nthW 1 l6 fun v7 =>
q_allocW (allocT tys 58) 5 true h2 c3 fun v8 h9 c10 =>
q_storeAW 5 h9 v8 v5 fun h11 =>
q_notW (two Try.prog (dec v7) (Op.unary .not)) v7 fun v12 =>
q_share _ (fun v14 h15 c16 =>
q_share _ (fun v18 h19 c20 =>
q_pickW v12 (.i 8 1 r0) v18 fun v21 =>
q_share _ (fun v23 h24 c25 =>
q_share _ (fun v27 h28 c29 =>
q_share _ (fun v31 h32 c33 =>
q_pickW v21 (.i 8 1 r0) v31 fun v34 =>
q_condW v34 (
q_killVW v8 h32 fun h35 =>
K (.cons (.i 13 0 r0) (.cons (.i 12 0 ⟨0, 0, 0, .cpx .f64 0 0⟩) (.cons (.i 3 1 r0) .nil))) h35 c33) (
q_fadW 3 v8 fun v36 =>
q_loadSW h32 v36 fun v37 =>
q_loadAW 5 h32 v8 fun v38 =>
q_onF v37 fun g39 l40 => call g39 ([v38, a1] ++ toL l40) h32 c33 fun v41 h42 c43 =>
q_killVW v8 h42 fun h44 =>
K (.cons (.i 13 0 r0) (.cons v41 (.cons (.i 3 0 r0) .nil))) h44 c43)) fun f30 =>
q_guardW false v21 (q_cmpW (cmpF2 .geq) 3 (binC Try.prog .geq 3 (.tmp 20) (.tmp 21) (dec v23) (dec v27)) v23 v27 fun v45 =>
f30 v45 h28 c29) (f30 wUnd h28 c29)) fun f26 =>
q_guardW false v21 (f26 a0 h24 c25) (f26 wUnd h24 c25)) fun f22 =>
q_guardW false v21 (f22 a1 h19 c20) (f22 wUnd h19 c20)) fun f17 =>
q_guardW false v12 (q_cmpW (cmpF2 .lss) 3 (binC Try.prog .lss 3 (.tmp 16) (.const (.int .i64 (.ofNat 0))) (dec v14) (dec (.i 3 0 r0))) v14 (.i 3 0 r0) fun v46 =>
f17 v46 h15 c16) (f17 wUnd h15 c16)) fun f13 =>
q_guardW false v12 (f13 a1 h11 c10) (f13 wUnd h11 c10)
theorem R31_eq (Q : PrimW) (fu : Nat) (call : CallW) : curryA 2 (fnK Q Try.prog tys stl fu call e31) = R31 Q.share Q.cmpW Q.notW Q.condW Q.guardW Q.pickW Q.fadW Q.tupW Q.nthW Q.onF Q.killVW Q.loadSW Q.loadAW Q.storeAW Q.allocW fu call := by kernel_rfl
noncomputable def n31 : List W → HW → Nat → KW → Bool := appF 2 (R31 (fun _ x f => f x) cmpW notW condW guardW pickW fadW tupW nthW onF killVW loadSW loadAW storeAW allocW 1000000 d4.fn)
theorem n31_ok : FnGood Try.prog tys stl tab 31 n31 := node_ok d4_ok (by kernel_rfl) rfl g31 (R31_eq real _ _)
/- (foghorn/points.set).place -/
noncomputable def R59 (q_share : (α : Type) → α → (α → Bool) → Bool) (q_genW : Option CV → (W → Bool) → Bool) (q_addW : Nat → Nat → Option CV → W → W → (W → Bool) → Bool) (q_quoW : Nat → Nat → Option CV → W → W → (W → Bool) → Bool) (q_remW : Nat → Nat → Option CV → W → W → (W → Bool) → Bool) (q_cmpW : (Nat → Nat → Bool) → Nat → Option CV → W → W → (W → Bool) → Bool) (q_notW : Option CV → W → (W → Bool) → Bool) (q_condW : W → Bool → Bool → Bool) (q_guardW : Bool → W → Bool → Bool → Bool) (q_pickW : W → W → W → (W → Bool) → Bool) (q_fadW : Nat → W → (W → Bool) → Bool) (q_knownW : W → Bool → Bool) (q_killVW : W → HW → (HW → Bool) → Bool) (q_loadSW : HW → W → (W → Bool) → Bool) (q_boxW : HW → Nat → W → KW → Bool) (fu : Nat) (call : CallW) (a0 : W) (a1 : W) (h0 : HW) (c0 : Nat) (K : KW) : Bool :=
q_boxW h0 c0 a0 fun v1 h2 c3 =>
call 74 [a1] h2 c3 fun v4 _ _ => q_knownW v4 (
q_fadW 1 v1 fun v5 =>
q_loadSW h2 v5 fun v6 =>
q_genW (convC Try.prog tys ⟨[], 0, decH h2, 0⟩ 3 34 (dec v6)) fun v7 =>
q_genW (binC Try.prog .leq 34 (.tmp 8) (.tmp 11) (dec v4) (dec v7)) fun v8 =>
q_notW (two Try.prog (dec v8) (Op.unary .not)) v8 fun v9 =>
q_share _ (fun v11 h12 c13 =>
q_share _ (fun v15 h16 c17 =>
q_share _ (fun v19 h20 c21 =>
q_share _ (fun v24 h25 c26 =>
q_pickW v9 (.i 8 1 r0) v24 fun v27 =>
q_condW v27 (
q_killVW v1 h25 fun h28 =>
K (.cons (.i 13 0 r0) (.cons (.i 3 0 r0) (.cons (.i 8 0 r0) .nil))) h28 c26) (
q_genW (convC Try.prog tys ⟨[], 0, decH h25, 0⟩ 34 3 (dec a1)) fun v29 =>
q_fadW 1 v1 fun v30 =>
q_loadSW h25 v30 fun v31 =>
q_addW 3 9223372036854775807 (binC Try.prog .add 3 (.tmp 21) (.tmp 23) (dec v29) (dec v31)) v29 v31 fun v32 =>
q_quoW 3 9223372036854775807 (binC Try.prog .quo 3 (.tmp 25) (.const (.int .i64 (.ofNat 2))) (dec v32) (dec (.i 3 2 r0))) v32 (.i 3 2 r0) fun v33 =>
q_remW 3 9223372036854775807 (binC Try.prog .rem 3 (.tmp 27) (.const (.int .i64 (.ofNat 2))) (dec v32) (dec (.i 3 2 r0))) v32 (.i 3 2 r0) fun v34 =>
q_cmpW (cmpF2 .eql) 3 (binC Try.prog .eql 3 (.tmp 28) (.const (.int .i64 (.ofNat 0))) (dec v34) (dec (.i 3 0 r0))) v34 (.i 3 0 r0) fun v35 =>
q_killVW v1 h25 fun h36 =>
K (.cons (.i 13 0 r0) (.cons v33 (.cons v35 .nil))) h36 c26)) fun f23 =>
q_guardW false v9 (q_genW (binC Try.prog .neq 34 (.tmp 15) (.tmp 17) (dec v11) (dec v19)) fun v37 =>
f23 v37 h20 c21) (f23 wUnd h20 c21)) fun f18 =>
q_guardW false v9 (call 75 [v15] h16 c17 fun v22 _ _ => q_knownW v22 (f18 v22 h16 c17)) (f18 wUnd h16 c17)) fun f14 =>
q_guardW false v9 (f14 a1 h12 c13) (f14 wUnd h12 c13)) fun f10 =>
q_guardW false v9 (f10 a1 h2 c3) (f10 wUnd h2 c3))
theorem R59_eq (Q : PrimW) (fu : Nat) (call : CallW) : curryA 2 (fnK Q Try.prog tys stl fu call e59) = R59 Q.share Q.genW Q.addW Q.quoW Q.remW Q.cmpW Q.notW Q.condW Q.guardW Q.pickW Q.fadW Q.knownW Q.killVW Q.loadSW Q.boxW fu call := by kernel_rfl
noncomputable def n59 : List W → HW → Nat → KW → Bool := appF 2 (R59 (fun _ x f => f x) genW addW quoW remW cmpW notW condW guardW pickW fadW knownW killVW loadSW boxW 1000000 d4.fn)
theorem n59_ok : FnGood Try.prog tys stl tab 59 n59 := node_ok d4_ok (by kernel_rfl) rfl g59 (R59_eq real _ _)
/- foghorn/plane.isWhole -/
noncomputable def R62 (q_share : (α : Type) → α → (α → Bool) → Bool) (q_genW : Option CV → (W → Bool) → Bool) (q_guardW : Bool → W → Bool → Bool → Bool) (q_pickW : W → W → W → (W → Bool) → Bool) (fu : Nat) (call : CallW) (a0 : W) (h0 : HW) (c0 : Nat) (K : KW) : Bool :=
call 74 [a0] h0 c0 fun v1 h2 c3 =>
q_genW (binC Try.prog .leq 34 (.tmp 4) (.const (.float .f64 4742290407621132288)) (dec v1) (dec (.i 12 0 ⟨0, 0, 0, .flt .f64 4742290407621132288⟩))) fun v4 =>
q_share _ (fun v6 h7 c8 =>
q_share _ (fun v10 h11 c12 =>
q_share _ (fun v14 h15 c16 =>
q_share _ (fun v18 h19 c20 =>
q_pickW v4 v18 (.i 8 0 r0) fun v21 =>
K v21 h19 c20) fun f17 =>
q_guardW true v4 (q_genW (binC Try.prog .eql 34 (.tmp 7) (.tmp 9) (dec v6) (dec v14)) fun v22 =>
f17 v22 h15 c16) (f17 wUnd h15 c16)) fun f13 =>
q_guardW true v4 (call 75 [v10] h11 c12 fun v23 h24 c25 =>
f13 v23 h24 c25) (f13 wUnd h11 c12)) fun f9 =>
q_guardW true v4 (f9 a0 h7 c8) (f9 wUnd h7 c8)) fun f5 =>
q_guardW true v4 (f5 a0 h2 c3) (f5 wUnd h2 c3)
theorem R62_eq (Q : PrimW) (fu : Nat) (call : CallW) : curryA 1 (fnK Q Try.prog tys stl fu call e62) = R62 Q.share Q.genW Q.guardW Q.pickW fu call := by kernel_rfl
noncomputable def n62 : List W → HW → Nat → KW → Bool := appF 1 (R62 (fun _ x f => f x) genW guardW pickW 1000000 d4.fn)
theorem n62_ok : FnGood Try.prog tys stl tab 62 n62 := node_ok d4_ok (by kernel_rfl) rfl g62 (R62_eq real _ _)
noncomputable def d5 : Disp := (.node 65 n65 (.node 50 n50 (.node 31 n31 (.node 17 n17 (.node 13 n13 (.node 11 n11 .leaf .leaf) .leaf) (.node 25 n25 (.node 21 n21 .leaf .leaf) .leaf)) (.node 45 n45 (.node 44 n44 (.node 41 n41 .leaf .leaf) .leaf) (.node 49 n49 .leaf .leaf))) (.node 59 n59 (.node 57 n57 (.node 54 n54 (.node 53 n53 .leaf .leaf) .leaf) (.node 58 n58 .leaf .leaf)) (.node 63 n63 (.node 62 n62 (.node 60 n60 .leaf .leaf) .leaf) (.node 64 n64 .leaf .leaf)))) (.node 78 n78 (.node 71 n71 (.node 69 n69 (.node 68 n68 (.node 66 n66 .leaf .leaf) .leaf) (.node 70 n70 .leaf .leaf)) (.node 76 n76 (.node 75 n75 (.node 74 n74 .leaf .leaf) .leaf) (.node 77 n77 .leaf .leaf))) (.node 84 n84 (.node 82 n82 (.node 81 n81 (.node 79 n79 .leaf .leaf) .leaf) (.node 83 n83 .leaf .leaf)) (.node 87 n87 (.node 86 n86 (.node 85 n85 .leaf .leaf) .leaf) (.node 88 n88 .leaf .leaf)))))
theorem d5_ok : CallSim Try.prog tys stl tab d5.fn := Disp.sim ⟨n65_ok, ⟨n50_ok, ⟨n31_ok, ⟨n17_ok, ⟨n13_ok, ⟨n11_ok, True.intro, True.intro⟩, True.intro⟩, ⟨n25_ok, ⟨n21_ok, True.intro, True.intro⟩, True.intro⟩⟩, ⟨n45_ok, ⟨n44_ok, ⟨n41_ok, True.intro, True.intro⟩, True.intro⟩, ⟨n49_ok, True.intro, True.intro⟩⟩⟩, ⟨n59_ok, ⟨n57_ok, ⟨n54_ok, ⟨n53_ok, True.intro, True.intro⟩, True.intro⟩, ⟨n58_ok, True.intro, True.intro⟩⟩, ⟨n63_ok, ⟨n62_ok, ⟨n60_ok, True.intro, True.intro⟩, True.intro⟩, ⟨n64_ok, True.intro, True.intro⟩⟩⟩⟩, ⟨n78_ok, ⟨n71_ok, ⟨n69_ok, ⟨n68_ok, ⟨n66_ok, True.intro, True.intro⟩, True.intro⟩, ⟨n70_ok, True.intro, True.intro⟩⟩, ⟨n76_ok, ⟨n75_ok, ⟨n74_ok, True.intro, True.intro⟩, True.intro⟩, ⟨n77_ok, True.intro, True.intro⟩⟩⟩, ⟨n84_ok, ⟨n82_ok, ⟨n81_ok, ⟨n79_ok, True.intro, True.intro⟩, True.intro⟩, ⟨n83_ok, True.intro, True.intro⟩⟩, ⟨n87_ok, ⟨n86_ok, ⟨n85_ok, True.intro, True.intro⟩, True.intro⟩, ⟨n88_ok, True.intro, True.intro⟩⟩⟩⟩⟩
/- foghorn/points.Energy -/
noncomputable def R19 (q_genW : Option CV → (W → Bool) → Bool) (q_addW : Nat → Nat → Option CV → W → W → (W → Bool) → Bool) (q_cmpW : (Nat → Nat → Bool) → Nat → Option CV → W → W → (W → Bool) → Bool) (q_condW : W → Bool → Bool → Bool) (q_idxSW : Nat → W → W → (W → Bool) → Bool) (q_lenW : Option CV → W → (W → Bool) → Bool) (q_tupW : W → (W → Bool) → Bool) (q_nthW : Nat → W → (W → Bool) → Bool) (q_loadSW : HW → W → (W → Bool) → Bool) (fu : Nat) (call : CallW) (a0 : W) (h0 : HW) (c0 : Nat) (K : KW) : Bool :=
call 13 [a0] h0 c0 fun v1 h2 c3 =>
q_tupW v1 fun l4 => q_nthW 0 l4 fun v5 =>
q_tupW v1 fun l6 => q_nthW 1 l6 fun v7 =>
q_lenW (lenC tys 24 (dec v5)) v5 fun v8 =>
@Nat.rec (fun _ => Fun 2) (fun _ _ _ _ => false) (fun _ f13 v9 v10 h11 c12 =>
q_cmpW (cmpF2 .lss) 3 (binC Try.prog .lss 3 (.tmp 16) (.tmp 15) (dec v10) (dec v8)) v10 v8 fun v14 =>
q_condW v14 (
q_idxSW 1 v5 v10 fun v15 =>
q_loadSW h11 v15 fun v16 =>
call 44 [v16] h11 c12 fun v17 h18 c19 =>
q_genW (convC Try.prog tys ⟨[], 0, decH h18, 0⟩ 34 3 (dec v17)) fun v20 =>
q_addW 3 9223372036854775807 (binC Try.prog .add 3 (.tmp 20) (.tmp 23) (dec v9) (dec v20)) v9 v20 fun v21 =>
q_addW 3 9223372036854775807 (binC Try.prog .add 3 (.tmp 16) (.const (.int .i64 (.ofNat 1))) (dec v10) (dec (.i 3 1 r0))) v10 (.i 3 1 r0) fun v22 =>
f13 v21 v22 h18 c19) (
K (.cons (.i 13 0 r0) (.cons v9 (.cons v7 .nil))) h11 c12)) fu (.i 3 0 r0) (.i 3 0 r0) h2 c3
theorem R19_eq (Q : PrimW) (fu : Nat) (call : CallW) : curryA 1 (fnK Q Try.prog tys stl fu call e19) = R19 Q.genW Q.addW Q.cmpW Q.condW Q.idxSW Q.lenW Q.tupW Q.nthW Q.loadSW fu call := by kernel_rfl
noncomputable def n19 : List W → HW → Nat → KW → Bool := appF 1 (R19 genW addW cmpW condW idxSW lenW tupW nthW loadSW 1000000 d5.fn)
theorem n19_ok : FnGood Try.prog tys stl tab 19 n19 := node_ok d5_ok (by kernel_rfl) rfl g19 (R19_eq real _ _)
/- (foghorn/points.set).labelOf -/
noncomputable def R46 (q_share : (α : Type) → α → (α → Bool) → Bool) (q_genW : Option CV → (W → Bool) → Bool) (q_subW : Nat → Nat → Option CV → W → W → (W → Bool) → Bool) (q_cmpW : (Nat → Nat → Bool) → Nat → Option CV → W → W → (W → Bool) → Bool) (q_notW : Option CV → W → (W → Bool) → Bool) (q_condW : W → Bool → Bool → Bool) (q_guardW : Bool → W → Bool → Bool → Bool) (q_pickW : W → W → W → (W → Bool) → Bool) (q_fadW : Nat → W → (W → Bool) → Bool) (q_tupW : W → (W → Bool) → Bool) (q_nthW : Nat → W → (W → Bool) → Bool) (q_onF : W → (FuncId → W → Bool) → Bool) (q_killVW : W → HW → (HW → Bool) → Bool) (q_loadSW : HW → W → (W → Bool) → Bool) (q_loadAW : Nat → HW → W → (W → Bool) → Bool) (q_boxW : HW → Nat → W → KW → Bool) (q_andW : Bool → Bool → Bool) (fu : Nat) (call : CallW) (a0 : W) (a1 : W) (h0 : HW) (c0 : Nat) (K : KW) : Bool :=
q_boxW h0 c0 a0 fun v1 h2 c3 =>
q_loadAW 5 h2 v1 fun v4 =>
q_genW (two Try.prog (dec a1) fun v => Builtin.real_ #[31] 34 #[v]) fun v5 =>
call 59 [v4, v5] h2 c3 fun v6 h7 c8 =>
q_tupW v6 fun l9 => q_nthW 0 l9 fun v10 =>
q_tupW v6 fun l11 => q_nthW 1 l11 fun v12 =>
q_loadAW 5 h7 v1 fun v13 =>
q_genW (two Try.prog (dec a1) fun v => Builtin.imag_ #[31] 34 #[v]) fun v14 =>
call 59 [v13, v14] h7 c8 fun v15 h16 c17 =>
q_tupW v15 fun l18 => q_nthW 0 l18 fun v19 =>
q_tupW v15 fun l20 => q_nthW 1 l20 fun v21 =>
q_notW (two Try.prog (dec v12) (Op.unary .not)) v12 fun v22 =>
q_share _ (fun v24 h25 c26 =>
q_share _ (fun v28 h29 c30 =>
q_pickW v22 (.i 8 1 r0) v28 fun v31 =>
q_share _ (fun v33 h34 c35 =>
q_share _ (fun v37 h38 c39 =>
q_share _ (fun v41 h42 c43 =>
q_share _ (fun v45 h46 c47 =>
q_share _ (fun v49 h50 c51 =>
q_pickW v31 (.i 8 1 r0) v49 fun v52 =>
q_share _ (fun v54 h55 c56 =>
q_share _ (fun v58 h59 c60 =>
q_share _ (fun v62 h63 c64 =>
q_andW (q_share _ (fun v66 h67 c68 =>
q_andW (q_share _ (fun v70 h71 c72 =>
q_share _ (fun v74 h75 c76 =>
q_share _ (fun v78 h79 c80 =>
q_share _ (fun v82 h83 c84 =>
q_pickW v52 (.i 8 1 r0) v82 fun v85 =>
q_condW v85 (
q_killVW v1 h83 fun h86 =>
K (.cons (.i 13 0 r0) (.cons (.i 3 0 r0) (.cons (.i 8 0 r0) .nil))) h86 c84) (
q_fadW 4 v1 fun v87 =>
q_loadSW h83 v87 fun v88 =>
q_loadAW 5 h83 v1 fun v89 =>
q_onF v88 fun g90 l91 => call g90 ([v89, v10, v19] ++ toL l91) h83 c84 fun v92 h93 c94 =>
q_killVW v1 h93 fun h95 =>
K (.cons (.i 13 0 r0) (.cons v92 (.cons (.i 8 1 r0) .nil))) h95 c94)) fun f81 =>
q_guardW false v52 (q_cmpW (cmpF2 .gtr) 3 (binC Try.prog .gtr 3 (.tmp 38) (.tmp 44) (dec v62) (dec v78)) v62 v78 fun v96 =>
f81 v96 h79 c80) (f81 wUnd h79 c80)) fun f77 =>
q_guardW false v52 (q_subW 3 9223372036854775807 (binC Try.prog .sub 3 (.tmp 40) (.tmp 43) (dec v70) (dec v74)) v70 v74 fun v97 =>
f77 v97 h75 c76) (f77 wUnd h75 c76)) fun f73 =>
q_guardW false v52 (call 60 [v54, v58] h71 c72 fun v98 h99 c100 =>
f73 v98 h99 c100) (f73 wUnd h71 c72)) fun f69 =>
q_guardW false v52 (q_loadSW h67 v66 fun v101 =>
f69 v101 h67 c68) (f69 wUnd h67 c68)) (q_andW (q_share _ (fun v103 h104 c105 =>
q_share _ (fun v107 h108 c109 =>
q_share _ (fun v111 h112 c113 =>
q_share _ (fun v115 h116 c117 =>
q_pickW v52 (.i 8 1 r0) v115 fun v118 =>
q_condW v118 (
q_killVW v1 h116 fun h119 =>
K (.cons (.i 13 0 r0) (.cons (.i 3 0 r0) (.cons (.i 8 0 r0) .nil))) h119 c117) (
q_fadW 4 v1 fun v120 =>
q_loadSW h116 v120 fun v121 =>
q_loadAW 5 h116 v1 fun v122 =>
q_onF v121 fun g123 l124 => call g123 ([v122, v10, v19] ++ toL l124) h116 c117 fun v125 h126 c127 =>
q_killVW v1 h126 fun h128 =>
K (.cons (.i 13 0 r0) (.cons v125 (.cons (.i 8 1 r0) .nil))) h128 c127)) fun f114 =>
q_guardW false v52 (q_cmpW (cmpF2 .gtr) 3 (binC Try.prog .gtr 3 (.tmp 38) (.tmp 44) (dec v62) (dec v111)) v62 v111 fun v129 =>
f114 v129 h112 c113) (f114 wUnd h112 c113)) fun f110 =>
q_guardW false v52 (q_subW 3 9223372036854775807 (binC Try.prog .sub 3 (.tmp 40) (.tmp 43) (dec v107) (dec v103)) v107 v103 fun v130 =>
f110 v130 h108 c109) (f110 wUnd h108 c109)) fun f106 =>
q_guardW false v52 (q_loadSW h104 v66 fun v131 =>
f106 v131 h104 c105) (f106 wUnd h104 c105)) fun f102 =>
q_guardW false v52 (call 60 [v54, v58] h67 c68 fun v132 h133 c134 =>
f102 v132 h133 c134) (f102 wUnd h67 c68)) (true))) fun f65 =>
q_guardW false v52 (q_fadW 1 v1 fun v135 =>
f65 v135 h63 c64) (f65 wUnd h63 c64)) (q_andW (q_share _ (fun v137 h138 c139 =>
q_share _ (fun v141 h142 c143 =>
q_share _ (fun v145 h146 c147 =>
q_share _ (fun v149 h150 c151 =>
q_share _ (fun v153 h154 c155 =>
q_pickW v52 (.i 8 1 r0) v153 fun v156 =>
q_condW v156 (
q_killVW v1 h154 fun h157 =>
K (.cons (.i 13 0 r0) (.cons (.i 3 0 r0) (.cons (.i 8 0 r0) .nil))) h157 c155) (
q_fadW 4 v1 fun v158 =>
q_loadSW h154 v158 fun v159 =>
q_loadAW 5 h154 v1 fun v160 =>
q_onF v159 fun g161 l162 => call g161 ([v160, v10, v19] ++ toL l162) h154 c155 fun v163 h164 c165 =>
q_killVW v1 h164 fun h166 =>
K (.cons (.i 13 0 r0) (.cons v163 (.cons (.i 8 1 r0) .nil))) h166 c165)) fun f152 =>
q_guardW false v52 (q_cmpW (cmpF2 .gtr) 3 (binC Try.prog .gtr 3 (.tmp 38) (.tmp 44) (dec v62) (dec v149)) v62 v149 fun v167 =>
f152 v167 h150 c151) (f152 wUnd h150 c151)) fun f148 =>
q_guardW false v52 (q_subW 3 9223372036854775807 (binC Try.prog .sub 3 (.tmp 40) (.tmp 43) (dec v145) (dec v137)) v145 v137 fun v168 =>
f148 v168 h146 c147) (f148 wUnd h146 c147)) fun f144 =>
q_guardW false v52 (q_loadSW h142 v141 fun v169 =>
f144 v169 h142 c143) (f144 wUnd h142 c143)) fun f140 =>
q_guardW false v52 (q_fadW 1 v1 fun v170 =>
f140 v170 h138 c139) (f140 wUnd h138 c139)) fun f136 =>
q_guardW false v52 (call 60 [v54, v58] h63 c64 fun v171 h172 c173 =>
f136 v171 h172 c173) (f136 wUnd h63 c64)) (true))) fun f61 =>
q_guardW false v52 (f61 v19 h59 c60) (f61 wUnd h59 c60)) fun f57 =>
q_guardW false v52 (f57 v10 h55 c56) (f57 wUnd h55 c56)) fun f53 =>
q_guardW false v52 (q_loadAW 5 h50 v1 fun v174 =>
f53 v174 h50 c51) (f53 wUnd h50 c51)) fun f48 =>
q_guardW false v31 (q_cmpW (cmpF2 .lss) 3 (binC Try.prog .lss 3 (.tmp 31) (.tmp 34) (dec v41) (dec v45)) v41 v45 fun v175 =>
f48 v175 h46 c47) (f48 wUnd h46 c47)) fun f44 =>
q_guardW false v31 (call 60 [v33, v37] h42 c43 fun v176 h177 c178 =>
f44 v176 h177 c178) (f44 wUnd h42 c43)) fun f40 =>
q_guardW false v31 (f40 v19 h38 c39) (f40 wUnd h38 c39)) fun f36 =>
q_guardW false v31 (f36 v10 h34 c35) (f36 wUnd h34 c35)) fun f32 =>
q_guardW false v31 (q_loadAW 5 h29 v1 fun v179 =>
f32 v179 h29 c30) (f32 wUnd h29 c30)) fun f27 =>
q_guardW false v22 (q_notW (two Try.prog (dec v24) (Op.unary .not)) v24 fun v180 =>
f27 v180 h25 c26) (f27 wUnd h25 c26)) fun f23 =>
q_guardW false v22 (f23 v21 h16 c17) (f23 wUnd h16 c17)
theorem R46_eq (Q : PrimW) (fu : Nat) (call : CallW) : curryA 2 (fnK Q Try.prog tys stl fu call e46) = R46 Q.share Q.genW Q.subW Q.cmpW Q.notW Q.condW Q.guardW Q.pickW Q.fadW Q.tupW Q.nthW Q.onF Q.killVW Q.loadSW Q.loadAW Q.boxW Q.andW fu call := by kernel_rfl
noncomputable def n46 : List W → HW → Nat → KW → Bool := appF 2 (R46 (fun _ x f => f x) genW subW cmpW notW condW guardW pickW fadW tupW nthW onF killVW loadSW loadAW boxW andW 1000000 d5.fn)
theorem n46_ok : FnGood Try.prog tys stl tab 46 n46 := node_ok d5_ok (by kernel_rfl) rfl g46 (R46_eq real _ _)
/- foghorn/plane.Whole -/
noncomputable def R48 (q_share : (α : Type) → α → (α → Bool) → Bool) (q_genW : Option CV → (W → Bool) → Bool) (q_notW : Option CV → W → (W → Bool) → Bool) (q_condW : W → Bool → Bool → Bool) (q_guardW : Bool → W → Bool → Bool → Bool) (q_pickW : W → W → W → (W → Bool) → Bool) (q_loadAW : Nat → HW → W → (W → Bool) → Bool) (q_storeAW : Nat → HW → W → W → (HW → Bool) → Bool) (q_allocW : Trie W → Nat → Bool → HW → Nat → KW → Bool) (q_flatW : W → Bool → Bool) (fu : Nat) (call : CallW) (a0 : W) (h0 : HW) (c0 : Nat) (K : KW) : Bool :=
q_allocW (allocT tys 73) 2 true h0 c0 fun v1 h2 c3 =>
q_genW (two Try.prog (dec a0) fun v => Builtin.real_ #[31] 34 #[v]) fun v4 =>
call 62 [v4] h2 c3 fun v5 h6 c7 =>
q_notW (two Try.prog (dec v5) (Op.unary .not)) v5 fun v8 =>
q_share _ (fun v10 h11 c12 =>
q_share _ (fun v14 h15 c16 =>
q_share _ (fun v18 h19 c20 =>
q_share _ (fun v22 h23 c24 =>
q_pickW v8 (.i 8 1 r0) v22 fun v25 =>
q_condW v25 (
(fun (v26 : W) =>
q_storeAW 2 h23 v1 v26 fun h27 =>
q_loadAW 2 h27 v1 fun v28 =>
K (.cons (.i 13 0 r0) (.cons v28 (.cons (.i 3 1 r0) .nil))) h27 c24) (.cons (.i 15 0 r0) (.cons (.i 3 0 r0) (.cons (.i 3 0 r0) .nil)))) (
q_genW (two Try.prog (dec a0) fun v => Builtin.real_ #[31] 34 #[v]) fun v29 =>
q_genW (convC Try.prog tys ⟨[], 0, decH h23, 0⟩ 34 2 (dec v29)) fun v30 =>
q_genW (two Try.prog (dec a0) fun v => Builtin.imag_ #[31] 34 #[v]) fun v31 =>
q_genW (convC Try.prog tys ⟨[], 0, decH h23, 0⟩ 34 2 (dec v31)) fun v32 =>
q_flatW v30 (
q_flatW v32 (
(fun (v33 : W) =>
q_storeAW 2 h23 v1 v33 fun h34 =>
q_loadAW 2 h34 v1 fun v35 =>
K (.cons (.i 13 0 r0) (.cons v35 (.cons (.i 3 0 r0) .nil))) h34 c24) (.cons (.i 15 0 r0) (.cons v30 (.cons v32 .nil))))))) fun f21 =>
q_guardW false v8 (q_notW (two Try.prog (dec v18) (Op.unary .not)) v18 fun v36 =>
f21 v36 h19 c20) (f21 wUnd h19 c20)) fun f17 =>
q_guardW false v8 (call 62 [v14] h15 c16 fun v37 h38 c39 =>
f17 v37 h38 c39) (f17 wUnd h15 c16)) fun f13 =>
q_guardW false v8 (q_genW (two Try.prog (dec v10) fun v => Builtin.imag_ #[31] 34 #[v]) fun v40 =>
f13 v40 h11 c12) (f13 wUnd h11 c12)) fun f9 =>
q_guardW false v8 (f9 a0 h6 c7) (f9 wUnd h6 c7)
theorem R48_eq (Q : PrimW) (fu : Nat) (call : CallW) : curryA 1 (fnK Q Try.prog tys stl fu call e48) = R48 Q.share Q.genW Q.notW Q.condW Q.guardW Q.pickW Q.loadAW Q.storeAW Q.allocW Q.flatW fu call := by kernel_rfl
noncomputable def n48 : List W → HW → Nat → KW → Bool := appF 1 (R48 (fun _ x f => f x) genW notW condW guardW pickW loadAW storeAW allocW flatW 1000000 d5.fn)
theorem n48_ok : FnGood Try.prog tys stl tab 48 n48 := node_ok d5_ok (by kernel_rfl) rfl g48 (R48_eq real _ _)
noncomputable def d6 : Disp := (.node 63 n63 (.node 46 n46 (.node 25 n25 (.node 17 n17 (.node 13 n13 (.node 11 n11 .leaf .leaf) .leaf) (.node 21 n21 (.node 19 n19 .leaf .leaf) .leaf)) (.node 44 n44 (.node 41 n41 (.node 31 n31 .leaf .leaf) .leaf) (.node 45 n45 .leaf .leaf))) (.node 57 n57 (.node 50 n50 (.node 49 n49 (.node 48 n48 .leaf .leaf) .leaf) (.node 54 n54 (.node 53 n53 .leaf .leaf) .leaf)) (.node 60 n60 (.node 59 n59 (.node 58 n58 .leaf .leaf) .leaf) (.node 62 n62 .leaf .leaf)))) (.node 77 n77 (.node 70 n70 (.node 66 n66 (.node 65 n65 (.node 64 n64 .leaf .leaf) .leaf) (.node 69 n69 (.node 68 n68 .leaf .leaf) .leaf)) (.node 75 n75 (.node 74 n74 (.node 71 n71 .leaf .leaf) .leaf) (.node 76 n76 .leaf .leaf))) (.node 84 n84 (.node 81 n81 (.node 79 n79 (.node 78 n78 .leaf .leaf) .leaf) (.node 83 n83 (.node 82 n82 .leaf .leaf) .leaf)) (.node 87 n87 (.node 86 n86 (.node 85 n85 .leaf .leaf) .leaf) (.node 88 n88 .leaf .leaf)))))
theorem d6_ok : CallSim Try.prog tys stl tab d6.fn := Disp.sim ⟨n63_ok, ⟨n46_ok, ⟨n25_ok, ⟨n17_ok, ⟨n13_ok, ⟨n11_ok, True.intro, True.intro⟩, True.intro⟩, ⟨n21_ok, ⟨n19_ok, True.intro, True.intro⟩, True.intro⟩⟩, ⟨n44_ok, ⟨n41_ok, ⟨n31_ok, True.intro, True.intro⟩, True.intro⟩, ⟨n45_ok, True.intro, True.intro⟩⟩⟩, ⟨n57_ok, ⟨n50_ok, ⟨n49_ok, ⟨n48_ok, True.intro, True.intro⟩, True.intro⟩, ⟨n54_ok, ⟨n53_ok, True.intro, True.intro⟩, True.intro⟩⟩, ⟨n60_ok, ⟨n59_ok, ⟨n58_ok, True.intro, True.intro⟩, True.intro⟩, ⟨n62_ok, True.intro, True.intro⟩⟩⟩⟩, ⟨n77_ok, ⟨n70_ok, ⟨n66_ok, ⟨n65_ok, ⟨n64_ok, True.intro, True.intro⟩, True.intro⟩, ⟨n69_ok, ⟨n68_ok, True.intro, True.intro⟩, True.intro⟩⟩, ⟨n75_ok, ⟨n74_ok, ⟨n71_ok, True.intro, True.intro⟩, True.intro⟩, ⟨n76_ok, True.intro, True.intro⟩⟩⟩, ⟨n84_ok, ⟨n81_ok, ⟨n79_ok, ⟨n78_ok, True.intro, True.intro⟩, True.intro⟩, ⟨n83_ok, ⟨n82_ok, True.intro, True.intro⟩, True.intro⟩⟩, ⟨n87_ok, ⟨n86_ok, ⟨n85_ok, True.intro, True.intro⟩, True.intro⟩, ⟨n88_ok, True.intro, True.intro⟩⟩⟩⟩⟩
/- foghorn/points.Label -/
noncomputable def R28 (q_notW : Option CV → W → (W → Bool) → Bool) (q_condW : W → Bool → Bool → Bool) (q_tupW : W → (W → Bool) → Bool) (q_nthW : Nat → W → (W → Bool) → Bool) (q_killVW : W → HW → (HW → Bool) → Bool) (q_loadAW : Nat → HW → W → (W → Bool) → Bool) (q_storeAW : Nat → HW → W → W → (HW → Bool) → Bool) (q_allocW : Trie W → Nat → Bool → HW → Nat → KW → Bool) (fu : Nat) (call : CallW) (a0 : W) (a1 : W) (h0 : HW) (c0 : Nat) (K : KW) : Bool :=
call 41 [a0] h0 c0 fun v1 h2 c3 =>
q_tupW v1 fun l4 => q_nthW 0 l4 fun v5 =>
q_tupW v1 fun l6 => q_nthW 1 l6 fun v7 =>
q_allocW (allocT tys 58) 5 true h2 c3 fun v8 h9 c10 =>
q_storeAW 5 h9 v8 v5 fun h11 =>
q_notW (two Try.prog (dec v7) (Op.unary .not)) v7 fun v12 =>
q_condW v12 (
q_killVW v8 h11 fun h13 =>
K (.cons (.i 13 0 r0) (.cons (.i 3 0 r0) (.cons (.i 3 1 r0) .nil))) h13 c10) (
q_loadAW 5 h11 v8 fun v14 =>
call 46 [v14, a1] h11 c10 fun v15 h16 c17 =>
q_tupW v15 fun l18 => q_nthW 0 l18 fun v19 =>
q_tupW v15 fun l20 => q_nthW 1 l20 fun v21 =>
q_notW (two Try.prog (dec v21) (Op.unary .not)) v21 fun v22 =>
q_condW v22 (
q_killVW v8 h16 fun h23 =>
K (.cons (.i 13 0 r0) (.cons (.i 3 0 r0) (.cons (.i 3 6 r0) .nil))) h23 c17) (
q_killVW v8 h16 fun h24 =>
K (.cons (.i 13 0 r0) (.cons v19 (.cons (.i 3 0 r0) .nil))) h24 c17))
theorem R28_eq (Q : PrimW) (fu : Nat) (call : CallW) : curryA 2 (fnK Q Try.prog tys stl fu call e28) = R28 Q.notW Q.condW Q.tupW Q.nthW Q.killVW Q.loadAW Q.storeAW Q.allocW fu call := by kernel_rfl
noncomputable def n28 : List W → HW → Nat → KW → Bool := appF 2 (R28 notW condW tupW nthW killVW loadAW storeAW allocW 1000000 d6.fn)
theorem n28_ok : FnGood Try.prog tys stl tab 28 n28 := node_ok d6_ok (by kernel_rfl) rfl g28 (R28_eq real _ _)
/- foghorn/points.Coset -/
noncomputable def R29 (q_share : (α : Type) → α → (α → Bool) → Bool) (q_genW : Option CV → (W → Bool) → Bool) (q_cmpW : (Nat → Nat → Bool) → Nat → Option CV → W → W → (W → Bool) → Bool) (q_notW : Option CV → W → (W → Bool) → Bool) (q_icvW : Nat → Nat → Option CV → W → (W → Bool) → Bool) (q_condW : W → Bool → Bool → Bool) (q_guardW : Bool → W → Bool → Bool → Bool) (q_pickW : W → W → W → (W → Bool) → Bool) (q_tupW : W → (W → Bool) → Bool) (q_nthW : Nat → W → (W → Bool) → Bool) (q_killVW : W → HW → (HW → Bool) → Bool) (q_loadAW : Nat → HW → W → (W → Bool) → Bool) (q_storeAW : Nat → HW → W → W → (HW → Bool) → Bool) (q_allocW : Trie W → Nat → Bool → HW → Nat → KW → Bool) (fu : Nat) (call : CallW) (a0 : W) (a1 : W) (a2 : W) (h0 : HW) (c0 : Nat) (K : KW) : Bool :=
call 41 [a0] h0 c0 fun v1 h2 c3 =>
q_tupW v1 fun l4 => q_nthW 0 l4 fun v5 =>
q_tupW v1 fun l6 => q_nthW 1 l6 fun v7 =>
q_allocW (allocT tys 58) 5 true h2 c3 fun v8 h9 c10 =>
q_storeAW 5 h9 v8 v5 fun h11 =>
q_notW (two Try.prog (dec v7) (Op.unary .not)) v7 fun v12 =>
q_share _ (fun v14 h15 c16 =>
q_share _ (fun v18 h19 c20 =>
q_pickW v12 (.i 8 1 r0) v18 fun v21 =>
q_share _ (fun v23 h24 c25 =>
q_share _ (fun v27 h28 c29 =>
q_pickW v21 (.i 8 1 r0) v27 fun v30 =>
q_condW v30 (
q_killVW v8 h28 fun h31 =>
q_killVW wUnd h31 fun h32 =>
K (.cons (.i 13 0 r0) (.cons (.i 3 0 r0) (.cons (.i 3 1 r0) .nil))) h32 c29) (
q_loadAW 5 h28 v8 fun v33 =>
call 46 [v33, a1] h28 c29 fun v34 h35 c36 =>
q_tupW v34 fun l37 => q_nthW 0 l37 fun v38 =>
q_tupW v34 fun l39 => q_nthW 1 l39 fun v40 =>
q_notW (two Try.prog (dec v40) (Op.unary .not)) v40 fun v41 =>
q_condW v41 (
q_killVW v8 h35 fun h42 =>
q_killVW wUnd h42 fun h43 =>
K (.cons (.i 13 0 r0) (.cons (.i 3 0 r0) (.cons (.i 3 6 r0) .nil))) h43 c36) (
q_genW (two Try.prog (dec a1) fun v => Builtin.real_ #[31] 34 #[v]) fun v44 =>
q_genW (binC Try.prog .add 34 (.tmp 40) (.const (.float .f64 4607182418800017408)) (dec v44) (dec (.i 12 0 ⟨0, 0, 0, .flt .f64 4607182418800017408⟩))) fun v45 =>
q_genW (binC Try.prog .quo 34 (.tmp 41) (.const (.float .f64 4611686018427387904)) (dec v45) (dec (.i 12 0 ⟨0, 0, 0, .flt .f64 4611686018427387904⟩))) fun v46 =>
q_genW (two Try.prog (dec a1) fun v => Builtin.imag_ #[31] 34 #[v]) fun v47 =>
q_genW (binC Try.prog .add 34 (.tmp 44) (.const (.float .f64 4607182418800017408)) (dec v47) (dec (.i 12 0 ⟨0, 0, 0, .flt .f64 4607182418800017408⟩))) fun v48 =>
q_genW (binC Try.prog .quo 34 (.tmp 45) (.const (.float .f64 4611686018427387904)) (dec v48) (dec (.i 12 0 ⟨0, 0, 0, .flt .f64 4611686018427387904⟩))) fun v49 =>
q_genW (two2 Try.prog (dec v46) (dec v49) fun v u => Builtin.complex_ #[34, 34] 31 #[v, u]) fun v50 =>
call 48 [v50] h35 c36 fun v51 h52 c53 =>
q_tupW v51 fun l54 => q_nthW 0 l54 fun v55 =>
q_tupW v51 fun l56 => q_nthW 1 l56 fun v57 =>
q_allocW (allocT tys 73) 2 true h52 c53 fun v58 h59 c60 =>
q_storeAW 2 h59 v58 v55 fun h61 =>
q_cmpW (cmpF2 .neq) 3 (binC Try.prog .neq 25 (.tmp 51) (.const (.int .i64 (.ofNat 0))) (dec v57) (dec (.i 3 0 r0))) v57 (.i 3 0 r0) fun v62 =>
q_condW v62 (
q_killVW v8 h61 fun h63 =>
q_killVW v58 h63 fun h64 =>
K (.cons (.i 13 0 r0) (.cons (.i 3 0 r0) (.cons v57 .nil))) h64 c60) (
q_loadAW 2 h61 v58 fun v65 =>
call 49 [v65, a2] h61 c60 fun v66 h67 c68 =>
q_tupW v66 fun l69 => q_nthW 0 l69 fun v70 =>
q_tupW v66 fun l71 => q_nthW 1 l71 fun v72 =>
q_icvW 3 9223372036854775807 (convC Try.prog tys ⟨[], 0, decH h67, 0⟩ 76 3 (dec v70)) v70 fun v73 =>
q_killVW v8 h67 fun h74 =>
q_killVW v58 h74 fun h75 =>
K (.cons (.i 13 0 r0) (.cons v73 (.cons v72 .nil))) h75 c68)))) fun f26 =>
q_guardW false v21 (q_cmpW (cmpF2 .gtr) 3 (binC Try.prog .gtr 3 (.tmp 27) (.const (.int .i64 (.ofNat 8))) (dec v23) (dec (.i 3 8 r0))) v23 (.i 3 8 r0) fun v76 =>
f26 v76 h24 c25) (f26 wUnd h24 c25)) fun f22 =>
q_guardW false v21 (f22 a2 h19 c20) (f22 wUnd h19 c20)) fun f17 =>
q_guardW false v12 (q_cmpW (cmpF2 .lss) 3 (binC Try.prog .lss 3 (.tmp 23) (.const (.int .i64 (.ofNat 0))) (dec v14) (dec (.i 3 0 r0))) v14 (.i 3 0 r0) fun v77 =>
f17 v77 h15 c16) (f17 wUnd h15 c16)) fun f13 =>
q_guardW false v12 (f13 a2 h11 c10) (f13 wUnd h11 c10)
theorem R29_eq (Q : PrimW) (fu : Nat) (call : CallW) : curryA 3 (fnK Q Try.prog tys stl fu call e29) = R29 Q.share Q.genW Q.cmpW Q.notW Q.icvW Q.condW Q.guardW Q.pickW Q.tupW Q.nthW Q.killVW Q.loadAW Q.storeAW Q.allocW fu call := by kernel_rfl
noncomputable def n29 : List W → HW → Nat → KW → Bool := appF 3 (R29 (fun _ x f => f x) genW cmpW notW icvW condW guardW pickW tupW nthW killVW loadAW storeAW allocW 1000000 d6.fn)
theorem n29_ok : FnGood Try.prog tys stl tab 29 n29 := node_ok d6_ok (by kernel_rfl) rfl g29 (R29_eq real _ _)
noncomputable def d7 : Disp := (.node 62 n62 (.node 45 n45 (.node 25 n25 (.node 17 n17 (.node 13 n13 (.node 11 n11 .leaf .leaf) .leaf) (.node 21 n21 (.node 19 n19 .leaf .leaf) .leaf)) (.node 31 n31 (.node 29 n29 (.node 28 n28 .leaf .leaf) .leaf) (.node 44 n44 (.node 41 n41 .leaf .leaf) .leaf))) (.node 54 n54 (.node 49 n49 (.node 48 n48 (.node 46 n46 .leaf .leaf) .leaf) (.node 53 n53 (.node 50 n50 .leaf .leaf) .leaf)) (.node 59 n59 (.node 58 n58 (.node 57 n57 .leaf .leaf) .leaf) (.node 60 n60 .leaf .leaf)))) (.node 77 n77 (.node 69 n69 (.node 65 n65 (.node 64 n64 (.node 63 n63 .leaf .leaf) .leaf) (.node 68 n68 (.node 66 n66 .leaf .leaf) .leaf)) (.node 74 n74 (.node 71 n71 (.node 70 n70 .leaf .leaf) .leaf) (.node 76 n76 (.node 75 n75 .leaf .leaf) .leaf))) (.node 84 n84 (.node 81 n81 (.node 79 n79 (.node 78 n78 .leaf .leaf) .leaf) (.node 83 n83 (.node 82 n82 .leaf .leaf) .leaf)) (.node 87 n87 (.node 86 n86 (.node 85 n85 .leaf .leaf) .leaf) (.node 88 n88 .leaf .leaf)))))
theorem d7_ok : CallSim Try.prog tys stl tab d7.fn := Disp.sim ⟨n62_ok, ⟨n45_ok, ⟨n25_ok, ⟨n17_ok, ⟨n13_ok, ⟨n11_ok, True.intro, True.intro⟩, True.intro⟩, ⟨n21_ok, ⟨n19_ok, True.intro, True.intro⟩, True.intro⟩⟩, ⟨n31_ok, ⟨n29_ok, ⟨n28_ok, True.intro, True.intro⟩, True.intro⟩, ⟨n44_ok, ⟨n41_ok, True.intro, True.intro⟩, True.intro⟩⟩⟩, ⟨n54_ok, ⟨n49_ok, ⟨n48_ok, ⟨n46_ok, True.intro, True.intro⟩, True.intro⟩, ⟨n53_ok, ⟨n50_ok, True.intro, True.intro⟩, True.intro⟩⟩, ⟨n59_ok, ⟨n58_ok, ⟨n57_ok, True.intro, True.intro⟩, True.intro⟩, ⟨n60_ok, True.intro, True.intro⟩⟩⟩⟩, ⟨n77_ok, ⟨n69_ok, ⟨n65_ok, ⟨n64_ok, ⟨n63_ok, True.intro, True.intro⟩, True.intro⟩, ⟨n68_ok, ⟨n66_ok, True.intro, True.intro⟩, True.intro⟩⟩, ⟨n74_ok, ⟨n71_ok, ⟨n70_ok, True.intro, True.intro⟩, True.intro⟩, ⟨n76_ok, ⟨n75_ok, True.intro, True.intro⟩, True.intro⟩⟩⟩, ⟨n84_ok, ⟨n81_ok, ⟨n79_ok, ⟨n78_ok, True.intro, True.intro⟩, True.intro⟩, ⟨n83_ok, ⟨n82_ok, True.intro, True.intro⟩, True.intro⟩⟩, ⟨n87_ok, ⟨n86_ok, ⟨n85_ok, True.intro, True.intro⟩, True.intro⟩, ⟨n88_ok, True.intro, True.intro⟩⟩⟩⟩⟩
/- foghorn/points.Turned -/
noncomputable def R34 (q_cmpW : (Nat → Nat → Bool) → Nat → Option CV → W → W → (W → Bool) → Bool) (q_condW : W → Bool → Bool → Bool) (q_tupW : W → (W → Bool) → Bool) (q_nthW : Nat → W → (W → Bool) → Bool) (fu : Nat) (call : CallW) (a0 : W) (a1 : W) (a2 : W) (h0 : HW) (c0 : Nat) (K : KW) : Bool :=
call 31 [a0, a1] h0 c0 fun v1 h2 c3 =>
q_tupW v1 fun l4 => q_nthW 0 l4 fun v5 =>
q_tupW v1 fun l6 => q_nthW 1 l6 fun v7 =>
q_cmpW (cmpF2 .neq) 3 (binC Try.prog .neq 25 (.tmp 16) (.const (.int .i64 (.ofNat 0))) (dec v7) (dec (.i 3 0 r0))) v7 (.i 3 0 r0) fun v8 =>
q_condW v8 (
K (.cons (.i 13 0 r0) (.cons (.i 3 0 r0) (.cons v7 .nil))) h2 c3) (
call 50 [v5, a2] h2 c3 fun v9 h10 c11 =>
call 28 [a0, v9] h10 c11 fun v12 h13 c14 =>
q_tupW v12 fun l15 => q_nthW 0 l15 fun v16 =>
q_tupW v12 fun l17 => q_nthW 1 l17 fun v18 =>
K (.cons (.i 13 0 r0) (.cons v16 (.cons v18 .nil))) h13 c14)
theorem R34_eq (Q : PrimW) (fu : Nat) (call : CallW) : curryA 3 (fnK Q Try.prog tys stl fu call e34) = R34 Q.cmpW Q.condW Q.tupW Q.nthW fu call := by kernel_rfl
noncomputable def n34 : List W → HW → Nat → KW → Bool := appF 3 (R34 cmpW condW tupW nthW 1000000 d7.fn)
theorem n34_ok : FnGood Try.prog tys stl tab 34 n34 := node_ok d7_ok (by kernel_rfl) rfl g34 (R34_eq real _ _)
noncomputable def d8 : Disp := (.node 62 n62 (.node 44 n44 (.node 25 n25 (.node 17 n17 (.node 13 n13 (.node 11 n11 .leaf .leaf) .leaf) (.node 21 n21 (.node 19 n19 .leaf .leaf) .leaf)) (.node 31 n31 (.node 29 n29 (.node 28 n28 .leaf .leaf) .leaf) (.node 41 n41 (.node 34 n34 .leaf .leaf) .leaf))) (.node 53 n53 (.node 48 n48 (.node 46 n46 (.node 45 n45 .leaf .leaf) .leaf) (.node 50 n50 (.node 49 n49 .leaf .leaf) .leaf)) (.node 58 n58 (.node 57 n57 (.node 54 n54 .leaf .leaf) .leaf) (.node 60 n60 (.node 59 n59 .leaf .leaf) .leaf)))) (.node 77 n77 (.node 69 n69 (.node 65 n65 (.node 64 n64 (.node 63 n63 .leaf .leaf) .leaf) (.node 68 n68 (.node 66 n66 .leaf .leaf) .leaf)) (.node 74 n74 (.node 71 n71 (.node 70 n70 .leaf .leaf) .leaf) (.node 76 n76 (.node 75 n75 .leaf .leaf) .leaf))) (.node 84 n84 (.node 81 n81 (.node 79 n79 (.node 78 n78 .leaf .leaf) .leaf) (.node 83 n83 (.node 82 n82 .leaf .leaf) .leaf)) (.node 87 n87 (.node 86 n86 (.node 85 n85 .leaf .leaf) .leaf) (.node 88 n88 .leaf .leaf)))))
theorem d8_ok : CallSim Try.prog tys stl tab d8.fn := Disp.sim ⟨n62_ok, ⟨n44_ok, ⟨n25_ok, ⟨n17_ok, ⟨n13_ok, ⟨n11_ok, True.intro, True.intro⟩, True.intro⟩, ⟨n21_ok, ⟨n19_ok, True.intro, True.intro⟩, True.intro⟩⟩, ⟨n31_ok, ⟨n29_ok, ⟨n28_ok, True.intro, True.intro⟩, True.intro⟩, ⟨n41_ok, ⟨n34_ok, True.intro, True.intro⟩, True.intro⟩⟩⟩, ⟨n53_ok, ⟨n48_ok, ⟨n46_ok, ⟨n45_ok, True.intro, True.intro⟩, True.intro⟩, ⟨n50_ok, ⟨n49_ok, True.intro, True.intro⟩, True.intro⟩⟩, ⟨n58_ok, ⟨n57_ok, ⟨n54_ok, True.intro, True.intro⟩, True.intro⟩, ⟨n60_ok, ⟨n59_ok, True.intro, True.intro⟩, True.intro⟩⟩⟩⟩, ⟨n77_ok, ⟨n69_ok, ⟨n65_ok, ⟨n64_ok, ⟨n63_ok, True.intro, True.intro⟩, True.intro⟩, ⟨n68_ok, ⟨n66_ok, True.intro, True.intro⟩, True.intro⟩⟩, ⟨n74_ok, ⟨n71_ok, ⟨n70_ok, True.intro, True.intro⟩, True.intro⟩, ⟨n76_ok, ⟨n75_ok, True.intro, True.intro⟩, True.intro⟩⟩⟩, ⟨n84_ok, ⟨n81_ok, ⟨n79_ok, ⟨n78_ok, True.intro, True.intro⟩, True.intro⟩, ⟨n83_ok, ⟨n82_ok, True.intro, True.intro⟩, True.intro⟩⟩, ⟨n87_ok, ⟨n86_ok, ⟨n85_ok, True.intro, True.intro⟩, True.intro⟩, ⟨n88_ok, True.intro, True.intro⟩⟩⟩⟩⟩
/- foghorn/foghornlaw04.works -/
noncomputable def R22 (q_share : (α : Type) → α → (α → Bool) → Bool) (q_genW : Option CV → (W → Bool) → Bool) (q_cmpW : (Nat → Nat → Bool) → Nat → Option CV → W → W → (W → Bool) → Bool) (q_guardW : Bool → W → Bool → Bool → Bool) (q_pickW : W → W → W → (W → Bool) → Bool) (q_lenW : Option CV → W → (W → Bool) → Bool) (q_tupW : W → (W → Bool) → Bool) (q_nthW : Nat → W → (W → Bool) → Bool) (q_buildSW : Nat → Nat → Kind → Nat → Bool → HW → Nat → Nat → List W → KW → Bool) (fu : Nat) (call : CallW) (h0 : HW) (c0 : Nat) (K : KW) : Bool :=
call 31 [(.i 3 16 r0), (.i 3 2 r0)] h0 c0 fun v1 h2 c3 =>
q_tupW v1 fun l4 => q_nthW 0 l4 fun v5 =>
q_tupW v1 fun l6 => q_nthW 1 l6 fun v7 =>
call 28 [(.i 3 16 r0), (.i 12 0 ⟨0, 0, 0, .cpx .f64 4607182418800017408 13837309855095848960⟩)] h2 c3 fun v8 h9 c10 =>
q_tupW v8 fun l11 => q_nthW 0 l11 fun v12 =>
q_tupW v8 fun l13 => q_nthW 1 l13 fun v14 =>
call 29 [(.i 3 16 r0), (.i 12 0 ⟨0, 0, 0, .cpx .f64 4607182418800017408 4607182418800017408⟩), (.i 3 4 r0)] h9 c10 fun v15 h16 c17 =>
q_tupW v15 fun l18 => q_nthW 0 l18 fun v19 =>
q_tupW v15 fun l20 => q_nthW 1 l20 fun v21 =>
call 19 [(.i 3 32 r0)] h16 c17 fun v22 h23 c24 =>
q_tupW v22 fun l25 => q_nthW 0 l25 fun v26 =>
q_tupW v22 fun l27 => q_nthW 1 l27 fun v28 =>
q_buildSW 1 8 .bools 4 true h23 c24 4 [(.i 8 0 r0), (.i 8 0 r0), (.i 8 1 r0), (.i 8 1 r0)] fun v29 h30 c31 =>
call 25 [v29, (.i 3 4 r0)] h30 c31 fun v32 h33 c34 =>
q_tupW v32 fun l35 => q_nthW 0 l35 fun v36 =>
q_tupW v32 fun l37 => q_nthW 1 l37 fun v38 =>
call 34 [(.i 3 4 r0), (.i 3 0 r0), (.i 3 1 r0)] h33 c34 fun v39 h40 c41 =>
q_tupW v39 fun l42 => q_nthW 0 l42 fun v43 =>
q_tupW v39 fun l44 => q_nthW 1 l44 fun v45 =>
q_cmpW (cmpF2 .eql) 3 (binC Try.prog .eql 25 (.tmp 38) (.const (.int .i64 (.ofNat 0))) (dec v7) (dec (.i 3 0 r0))) v7 (.i 3 0 r0) fun v46 =>
q_share _ (fun v48 h49 c50 =>
q_share _ (fun v52 h53 c54 =>
q_pickW v46 v52 (.i 8 0 r0) fun v55 =>
q_share _ (fun v57 h58 c59 =>
q_share _ (fun v61 h62 c63 =>
q_pickW v55 v61 (.i 8 0 r0) fun v64 =>
q_share _ (fun v66 h67 c68 =>
q_share _ (fun v70 h71 c72 =>
q_pickW v64 v70 (.i 8 0 r0) fun v73 =>
q_share _ (fun v75 h76 c77 =>
q_share _ (fun v79 h80 c81 =>
q_pickW v73 v79 (.i 8 0 r0) fun v82 =>
q_share _ (fun v84 h85 c86 =>
q_share _ (fun v88 h89 c90 =>
q_pickW v82 v88 (.i 8 0 r0) fun v91 =>
q_share _ (fun v93 h94 c95 =>
q_share _ (fun v97 h98 c99 =>
q_pickW v91 v97 (.i 8 0 r0) fun v100 =>
q_share _ (fun v102 h103 c104 =>
q_share _ (fun v106 h107 c108 =>
q_pickW v100 v106 (.i 8 0 r0) fun v109 =>
q_share _ (fun v111 h112 c113 =>
q_share _ (fun v115 h116 c117 =>
q_pickW v109 v115 (.i 8 0 r0) fun v118 =>
q_share _ (fun v120 h121 c122 =>
q_share _ (fun v124 h125 c126 =>
q_pickW v118 v124 (.i 8 0 r0) fun v127 =>
q_share _ (fun v129 h130 c131 =>
q_share _ (fun v133 h134 c135 =>
q_share _ (fun v137 h138 c139 =>
q_pickW v127 v137 (.i 8 0 r0) fun v140 =>
q_share _ (fun v142 h143 c144 =>
q_share _ (fun v146 h147 c148 =>
q_pickW v140 v146 (.i 8 0 r0) fun v149 =>
q_share _ (fun v151 h152 c153 =>
q_share _ (fun v155 h156 c157 =>
q_share _ (fun v159 h160 c161 =>
q_pickW v149 v159 (.i 8 0 r0) fun v162 =>
K v162 h160 c161) fun f158 =>
q_guardW true v149 (q_cmpW (cmpF2 .eql) 3 (binC Try.prog .eql 3 (.tmp 87) (.const (.int .i64 (.ofNat 6))) (dec v155) (dec (.i 3 6 r0))) v155 (.i 3 6 r0) fun v163 =>
f158 v163 h156 c157) (f158 wUnd h156 c157)) fun f154 =>
q_guardW true v149 (q_lenW (lenC tys 22 (dec v151)) v151 fun v164 =>
f154 v164 h152 c153) (f154 wUnd h152 c153)) fun f150 =>
q_guardW true v149 (call 11 [] h147 c148 fun v165 h166 c167 =>
f150 v165 h166 c167) (f150 wUnd h147 c148)) fun f145 =>
q_guardW true v140 (q_cmpW (cmpF2 .eql) 3 (binC Try.prog .eql 3 (.tmp 82) (.const (.int .i64 (.ofNat 2))) (dec v142) (dec (.i 3 2 r0))) v142 (.i 3 2 r0) fun v168 =>
f145 v168 h143 c144) (f145 wUnd h143 c144)) fun f141 =>
q_guardW true v140 (f141 v43 h138 c139) (f141 wUnd h138 c139)) fun f136 =>
q_guardW true v127 (call 21 [v129, v133] h134 c135 fun v169 h170 c171 =>
f136 v169 h170 c171) (f136 wUnd h134 c135)) fun f132 =>
q_guardW true v127 (q_buildSW 1 99 (.cpxs .f64) 2 true h130 c131 2 [(.i 12 0 ⟨0, 0, 0, .cpx .f64 13830554455654793216 13830554455654793216⟩), (.i 12 0 ⟨0, 0, 0, .cpx .f64 4607182418800017408 4607182418800017408⟩)] fun v172 h173 c174 =>
f132 v172 h173 c174) (f132 wUnd h130 c131)) fun f128 =>
q_guardW true v127 (f128 v36 h125 c126) (f128 wUnd h125 c126)) fun f123 =>
q_guardW true v118 (q_cmpW (cmpF2 .eql) 3 (binC Try.prog .eql 3 (.tmp 73) (.const (.int .i64 (.ofNat 640))) (dec v120) (dec (.i 3 640 r0))) v120 (.i 3 640 r0) fun v175 =>
f123 v175 h121 c122) (f123 wUnd h121 c122)) fun f119 =>
q_guardW true v118 (f119 v26 h116 c117) (f119 wUnd h116 c117)) fun f114 =>
q_guardW true v109 (q_cmpW (cmpF2 .eql) 3 (binC Try.prog .eql 3 (.tmp 69) (.const (.int .i64 (.ofNat 2))) (dec v111) (dec (.i 3 2 r0))) v111 (.i 3 2 r0) fun v176 =>
f114 v176 h112 c113) (f114 wUnd h112 c113)) fun f110 =>
q_guardW true v109 (f110 v19 h107 c108) (f110 wUnd h107 c108)) fun f105 =>
q_guardW true v100 (q_cmpW (cmpF2 .eql) 3 (binC Try.prog .eql 3 (.tmp 65) (.const (.int .i64 (.ofNat 12))) (dec v102) (dec (.i 3 12 r0))) v102 (.i 3 12 r0) fun v177 =>
f105 v177 h103 c104) (f105 wUnd h103 c104)) fun f101 =>
q_guardW true v100 (f101 v12 h98 c99) (f101 wUnd h98 c99)) fun f96 =>
q_guardW true v91 (q_genW (binC Try.prog .eql 31 (.tmp 61) (.const (.complex .f64 13837309855095848960 4613937818241073152)) (dec v93) (dec (.i 12 0 ⟨0, 0, 0, .cpx .f64 13837309855095848960 4613937818241073152⟩))) fun v178 =>
f96 v178 h94 c95) (f96 wUnd h94 c95)) fun f92 =>
q_guardW true v91 (f92 v5 h89 c90) (f92 wUnd h89 c90)) fun f87 =>
q_guardW true v82 (q_cmpW (cmpF2 .eql) 3 (binC Try.prog .eql 25 (.tmp 57) (.const (.int .i64 (.ofNat 0))) (dec v84) (dec (.i 3 0 r0))) v84 (.i 3 0 r0) fun v179 =>
f87 v179 h85 c86) (f87 wUnd h85 c86)) fun f83 =>
q_guardW true v82 (f83 v45 h80 c81) (f83 wUnd h80 c81)) fun f78 =>
q_guardW true v73 (q_cmpW (cmpF2 .eql) 3 (binC Try.prog .eql 25 (.tmp 53) (.const (.int .i64 (.ofNat 0))) (dec v75) (dec (.i 3 0 r0))) v75 (.i 3 0 r0) fun v180 =>
f78 v180 h76 c77) (f78 wUnd h76 c77)) fun f74 =>
q_guardW true v73 (f74 v38 h71 c72) (f74 wUnd h71 c72)) fun f69 =>
q_guardW true v64 (q_cmpW (cmpF2 .eql) 3 (binC Try.prog .eql 25 (.tmp 49) (.const (.int .i64 (.ofNat 0))) (dec v66) (dec (.i 3 0 r0))) v66 (.i 3 0 r0) fun v181 =>
f69 v181 h67 c68) (f69 wUnd h67 c68)) fun f65 =>
q_guardW true v64 (f65 v28 h62 c63) (f65 wUnd h62 c63)) fun f60 =>
q_guardW true v55 (q_cmpW (cmpF2 .eql) 3 (binC Try.prog .eql 25 (.tmp 45) (.const (.int .i64 (.ofNat 0))) (dec v57) (dec (.i 3 0 r0))) v57 (.i 3 0 r0) fun v182 =>
f60 v182 h58 c59) (f60 wUnd h58 c59)) fun f56 =>
q_guardW true v55 (f56 v21 h53 c54) (f56 wUnd h53 c54)) fun f51 =>
q_guardW true v46 (q_cmpW (cmpF2 .eql) 3 (binC Try.prog .eql 25 (.tmp 41) (.const (.int .i64 (.ofNat 0))) (dec v48) (dec (.i 3 0 r0))) v48 (.i 3 0 r0) fun v183 =>
f51 v183 h49 c50) (f51 wUnd h49 c50)) fun f47 =>
q_guardW true v46 (f47 v14 h40 c41) (f47 wUnd h40 c41)
theorem R22_eq (Q : PrimW) (fu : Nat) (call : CallW) : curryA 0 (fnK Q Try.prog tys stl fu call e22) = R22 Q.share Q.genW Q.cmpW Q.guardW Q.pickW Q.lenW Q.tupW Q.nthW Q.buildSW fu call := by kernel_rfl
noncomputable def n22 : List W → HW → Nat → KW → Bool := appF 0 (R22 (fun _ x f => f x) genW cmpW guardW pickW lenW tupW nthW buildSW 1000000 d8.fn)
theorem n22_ok : FnGood Try.prog tys stl tab 22 n22 := node_ok d8_ok (by kernel_rfl) rfl g22 (R22_eq real _ _)
noncomputable def d9 : Disp := (.node 60 n60 (.node 41 n41 (.node 22 n22 (.node 17 n17 (.node 13 n13 (.node 11 n11 .leaf .leaf) .leaf) (.node 21 n21 (.node 19 n19 .leaf .leaf) .leaf)) (.node 29 n29 (.node 28 n28 (.node 25 n25 .leaf .leaf) .leaf) (.node 34 n34 (.node 31 n31 .leaf .leaf) .leaf))) (.node 50 n50 (.node 46 n46 (.node 45 n45 (.node 44 n44 .leaf .leaf) .leaf) (.node 49 n49 (.node 48 n48 .leaf .leaf) .leaf)) (.node 57 n57 (.node 54 n54 (.node 53 n53 .leaf .leaf) .leaf) (.node 59 n59 (.node 58 n58 .leaf .leaf) .leaf)))) (.node 76 n76 (.node 68 n68 (.node 64 n64 (.node 63 n63 (.node 62 n62 .leaf .leaf) .leaf) (.node 66 n66 (.node 65 n65 .leaf .leaf) .leaf)) (.node 71 n71 (.node 70 n70 (.node 69 n69 .leaf .leaf) .leaf) (.node 75 n75 (.node 74 n74 .leaf .leaf) .leaf))) (.node 83 n83 (.node 79 n79 (.node 78 n78 (.node 77 n77 .leaf .leaf) .leaf) (.node 82 n82 (.node 81 n81 .leaf .leaf) .leaf)) (.node 86 n86 (.node 85 n85 (.node 84 n84 .leaf .leaf) .leaf) (.node 88 n88 (.node 87 n87 .leaf .leaf) .leaf)))))
theorem d9_ok : CallSim Try.prog tys stl tab d9.fn := Disp.sim ⟨n60_ok, ⟨n41_ok, ⟨n22_ok, ⟨n17_ok, ⟨n13_ok, ⟨n11_ok, True.intro, True.intro⟩, True.intro⟩, ⟨n21_ok, ⟨n19_ok, True.intro, True.intro⟩, True.intro⟩⟩, ⟨n29_ok, ⟨n28_ok, ⟨n25_ok, True.intro, True.intro⟩, True.intro⟩, ⟨n34_ok, ⟨n31_ok, True.intro, True.intro⟩, True.intro⟩⟩⟩, ⟨n50_ok, ⟨n46_ok, ⟨n45_ok, ⟨n44_ok, True.intro, True.intro⟩, True.intro⟩, ⟨n49_ok, ⟨n48_ok, True.intro, True.intro⟩, True.intro⟩⟩, ⟨n57_ok, ⟨n54_ok, ⟨n53_ok, True.intro, True.intro⟩, True.intro⟩, ⟨n59_ok, ⟨n58_ok, True.intro, True.intro⟩, True.intro⟩⟩⟩⟩, ⟨n76_ok, ⟨n68_ok, ⟨n64_ok, ⟨n63_ok, ⟨n62_ok, True.intro, True.intro⟩, True.intro⟩, ⟨n66_ok, ⟨n65_ok, True.intro, True.intro⟩, True.intro⟩⟩, ⟨n71_ok, ⟨n70_ok, ⟨n69_ok, True.intro, True.intro⟩, True.intro⟩, ⟨n75_ok, ⟨n74_ok, True.intro, True.intro⟩, True.intro⟩⟩⟩, ⟨n83_ok, ⟨n79_ok, ⟨n78_ok, ⟨n77_ok, True.intro, True.intro⟩, True.intro⟩, ⟨n82_ok, ⟨n81_ok, True.intro, True.intro⟩, True.intro⟩⟩, ⟨n86_ok, ⟨n85_ok, ⟨n84_ok, True.intro, True.intro⟩, True.intro⟩, ⟨n88_ok, ⟨n87_ok, True.intro, True.intro⟩, True.intro⟩⟩⟩⟩⟩
/- foghorn/foghornlaw04.PointsGray -/
noncomputable def R5 (q_share : (α : Type) → α → (α → Bool) → Bool) (q_genW : Option CV → (W → Bool) → Bool) (q_addW : Nat → Nat → Option CV → W → W → (W → Bool) → Bool) (q_subW : Nat → Nat → Option CV → W → W → (W → Bool) → Bool) (q_bitW : (Nat → Nat → Nat) → Nat → Nat → Option CV → W → W → (W → Bool) → Bool) (q_cmpW : (Nat → Nat → Bool) → Nat → Option CV → W → W → (W → Bool) → Bool) (q_notW : Option CV → W → (W → Bool) → Bool) (q_icvW : Nat → Nat → Option CV → W → (W → Bool) → Bool) (q_condW : W → Bool → Bool → Bool) (q_guardW : Bool → W → Bool → Bool → Bool) (q_pickW : W → W → W → (W → Bool) → Bool) (q_idxSW : Nat → W → W → (W → Bool) → Bool) (q_lenW : Option CV → W → (W → Bool) → Bool) (q_tupW : W → (W → Bool) → Bool) (q_nthW : Nat → W → (W → Bool) → Bool) (q_loadSW : HW → W → (W → Bool) → Bool) (q_buildSW : Nat → Nat → Kind → Nat → Bool → HW → Nat → Nat → List W → KW → Bool) (fu : Nat) (call : CallW) (h0 : HW) (c0 : Nat) (K : KW) : Bool :=
call 22 [] h0 c0 fun v1 h2 c3 =>
q_notW (two Try.prog (dec v1) (Op.unary .not)) v1 fun v4 =>
q_condW v4 (
K (.i 8 0 r0) h2 c3) (
q_buildSW 1 3 (.ints .i64) 4 true h2 c3 4 [(.i 3 4 r0), (.i 3 16 r0), (.i 3 64 r0), (.i 3 256 r0)] fun v5 h6 c7 =>
q_lenW (lenC tys 22 (dec v5)) v5 fun v8 =>
@Nat.rec (fun _ => Fun 1) (fun _ _ _ => false) (fun _ f12 v9 h10 c11 =>
q_cmpW (cmpF2 .lss) 3 (binC Try.prog .lss 3 (.tmp 18) (.tmp 17) (dec v9) (dec v8)) v9 v8 fun v13 =>
q_condW v13 (
q_idxSW 1 v5 v9 fun v14 =>
q_loadSW h10 v14 fun v15 =>
call 13 [v15] h10 c11 fun v16 h17 c18 =>
q_tupW v16 fun l19 => q_nthW 0 l19 fun v20 =>
q_tupW v16 fun l21 => q_nthW 1 l21 fun v22 =>
call 17 [v15] h17 c18 fun v23 h24 c25 =>
q_tupW v23 fun l26 => q_nthW 0 l26 fun v27 =>
q_tupW v23 fun l28 => q_nthW 1 l28 fun v29 =>
q_cmpW (cmpF2 .neq) 3 (binC Try.prog .neq 25 (.tmp 32) (.const (.int .i64 (.ofNat 0))) (dec v22) (dec (.i 3 0 r0))) v22 (.i 3 0 r0) fun v30 =>
q_share _ (fun v32 h33 c34 =>
q_share _ (fun v36 h37 c38 =>
q_pickW v30 (.i 8 1 r0) v36 fun v39 =>
q_share _ (fun v41 h42 c43 =>
q_share _ (fun v45 h46 c47 =>
q_share _ (fun v49 h50 c51 =>
q_share _ (fun v53 h54 c55 =>
q_pickW v39 (.i 8 1 r0) v53 fun v56 =>
q_condW v56 (
K (.i 8 0 r0) h54 c55) (
@Nat.rec (fun _ => Fun 1) (fun _ _ _ => false) (fun _ f60 v57 h58 c59 =>
q_cmpW (cmpF2 .lss) 3 (binC Try.prog .lss 3 (.tmp 44) (.tmp 45) (dec v57) (dec v15)) v57 v15 fun v61 =>
q_condW v61 (
q_buildSW 1 99 (.cpxs .f64) 2 true h58 c59 2 [(.i 12 0 ⟨0, 0, 0, .cpx .f64 4611686018427387904 0⟩), (.i 12 0 ⟨0, 0, 0, .cpx .f64 0 4611686018427387904⟩)] fun v62 h63 c64 =>
q_lenW (lenC tys 24 (dec v62)) v62 fun v65 =>
@Nat.rec (fun _ => Fun 1) (fun _ _ _ => false) (fun _ f69 v66 h67 c68 =>
q_cmpW (cmpF2 .lss) 3 (binC Try.prog .lss 3 (.tmp 51) (.tmp 50) (dec v66) (dec v65)) v66 v65 fun v70 =>
q_condW v70 (
q_idxSW 1 v62 v66 fun v71 =>
q_loadSW h67 v71 fun v72 =>
q_idxSW 1 v20 v57 fun v73 =>
q_loadSW h67 v73 fun v74 =>
q_genW (binC Try.prog .add 31 (.tmp 60) (.tmp 61) (dec v74) (dec v72)) fun v75 =>
call 28 [v15, v75] h67 c68 fun v76 h77 c78 =>
q_tupW v76 fun l79 => q_nthW 0 l79 fun v80 =>
q_tupW v76 fun l81 => q_nthW 1 l81 fun v82 =>
q_idxSW 1 v20 v57 fun v83 =>
q_loadSW h77 v83 fun v84 =>
q_genW (binC Try.prog .add 31 (.tmp 69) (.tmp 70) (dec v84) (dec v72)) fun v85 =>
q_genW (two Try.prog (dec v85) fun v => Builtin.real_ #[31] 34 #[v]) fun v86 =>
q_genW (convC Try.prog tys ⟨[], 0, decH h77, 0⟩ 3 34 (dec v27)) fun v87 =>
q_genW (binC Try.prog .gtr 34 (.tmp 72) (.tmp 74) (dec v86) (dec v87)) fun v88 =>
q_share _ (fun v90 h91 c92 =>
q_share _ (fun v94 h95 c96 =>
q_share _ (fun v98 h99 c100 =>
q_share _ (fun v102 h103 c104 =>
q_share _ (fun v106 h107 c108 =>
q_share _ (fun v110 h111 c112 =>
q_share _ (fun v114 h115 c116 =>
q_share _ (fun v118 h119 c120 =>
q_share _ (fun v122 h123 c124 =>
q_share _ (fun v126 h127 c128 =>
q_pickW v88 (.i 8 1 r0) v126 fun v129 =>
q_cmpW (cmpF2 .eql) 3 (binC Try.prog .eql 25 (.tmp 89) (.const (.int .i64 (.ofNat 6))) (dec v82) (dec (.i 3 6 r0))) v82 (.i 3 6 r0) fun v130 =>
q_genW (binC Try.prog .neq 4 (.tmp 88) (.tmp 90) (dec v129) (dec v130)) fun v131 =>
q_condW v131 (
K (.i 8 0 r0) h127 c128) (
q_bitW Nat.xor 3 9223372036854775807 (binC Try.prog .xor 3 (.tmp 92) (.tmp 93) (dec v80) (dec v57)) v80 v57 fun v132 =>
q_icvW 7 18446744073709551615 (convC Try.prog tys ⟨[], 0, decH h127, 0⟩ 3 42 (dec v132)) v132 fun v133 =>
q_notW (two Try.prog (dec v129) (Op.unary .not)) v129 fun v134 =>
q_share _ (fun v136 h137 c138 =>
q_share _ (fun v140 h141 c142 =>
q_share _ (fun v144 h145 c146 =>
q_share _ (fun v148 h149 c150 =>
q_share _ (fun v152 h153 c154 =>
q_share _ (fun v156 h157 c158 =>
q_share _ (fun v160 h161 c162 =>
q_share _ (fun v164 h165 c166 =>
q_share _ (fun v168 h169 c170 =>
q_pickW v134 v168 (.i 8 0 r0) fun v171 =>
q_condW v171 (
K (.i 8 0 r0) h169 c170) (
q_addW 3 9223372036854775807 (binC Try.prog .add 3 (.tmp 51) (.const (.int .i64 (.ofNat 1))) (dec v66) (dec (.i 3 1 r0))) v66 (.i 3 1 r0) fun v172 =>
f69 v172 h169 c170)) fun f167 =>
q_guardW true v134 (q_pickW v144 (.i 8 1 r0) v164 fun v173 =>
f167 v173 h165 c166) (f167 wUnd h165 c166)) fun f163 =>
q_guardW false v144 (q_cmpW (cmpF2 .neq) 7 (binC Try.prog .neq 42 (.tmp 105) (.const (.int .u64 (.ofNat 0))) (dec v160) (dec (.i 7 0 r0))) v160 (.i 7 0 r0) fun v174 =>
f163 v174 h161 c162) (f163 wUnd h161 c162)) fun f159 =>
q_guardW false v144 (q_bitW Nat.land 7 18446744073709551615 (binC Try.prog .and 42 (.tmp 102) (.tmp 104) (dec v148) (dec v156)) v148 v156 fun v175 =>
f159 v175 h157 c158) (f159 wUnd h157 c158)) fun f155 =>
q_guardW false v144 (q_subW 7 18446744073709551615 (binC Try.prog .sub 42 (.tmp 103) (.const (.int .u64 (.ofNat 1))) (dec v152) (dec (.i 7 1 r0))) v152 (.i 7 1 r0) fun v176 =>
f155 v176 h153 c154) (f155 wUnd h153 c154)) fun f151 =>
q_guardW false v144 (f151 v133 h149 c150) (f151 wUnd h149 c150)) fun f147 =>
q_guardW false v144 (f147 v133 h145 c146) (f147 wUnd h145 c146)) fun f143 =>
q_guardW true v134 (f143 v140 h141 c142) (f143 wUnd h141 c142)) fun f139 =>
q_guardW true v134 (q_cmpW (cmpF2 .eql) 7 (binC Try.prog .eql 42 (.tmp 99) (.const (.int .u64 (.ofNat 0))) (dec v136) (dec (.i 7 0 r0))) v136 (.i 7 0 r0) fun v177 =>
f139 v177 h137 c138) (f139 wUnd h137 c138)) fun f135 =>
q_guardW true v134 (f135 v133 h127 c128) (f135 wUnd h127 c128))) fun f125 =>
q_guardW false v88 (q_genW (binC Try.prog .gtr 34 (.tmp 83) (.tmp 85) (dec v114) (dec v122)) fun v178 =>
f125 v178 h123 c124) (f125 wUnd h123 c124)) fun f121 =>
q_guardW false v88 (q_genW (convC Try.prog tys ⟨[], 0, decH h119, 0⟩ 3 34 (dec v118)) fun v179 =>
f121 v179 h119 c120) (f121 wUnd h119 c120)) fun f117 =>
q_guardW false v88 (f117 v27 h115 c116) (f117 wUnd h115 c116)) fun f113 =>
q_guardW false v88 (q_genW (two Try.prog (dec v110) fun v => Builtin.imag_ #[31] 34 #[v]) fun v180 =>
f113 v180 h111 c112) (f113 wUnd h111 c112)) fun f109 =>
q_guardW false v88 (q_genW (binC Try.prog .add 31 (.tmp 80) (.tmp 81) (dec v102) (dec v106)) fun v181 =>
f109 v181 h107 c108) (f109 wUnd h107 c108)) fun f105 =>
q_guardW false v88 (f105 v72 h103 c104) (f105 wUnd h103 c104)) fun f101 =>
q_guardW false v88 (q_loadSW h99 v98 fun v182 =>
f101 v182 h99 c100) (f101 wUnd h99 c100)) fun f97 =>
q_guardW false v88 (q_idxSW 1 v90 v94 fun v183 =>
f97 v183 h95 c96) (f97 wUnd h95 c96)) fun f93 =>
q_guardW false v88 (f93 v57 h91 c92) (f93 wUnd h91 c92)) fun f89 =>
q_guardW false v88 (f89 v20 h77 c78) (f89 wUnd h77 c78)) (
q_addW 3 9223372036854775807 (binC Try.prog .add 3 (.tmp 47) (.const (.int .i64 (.ofNat 1))) (dec v57) (dec (.i 3 1 r0))) v57 (.i 3 1 r0) fun v184 =>
f60 v184 h67 c68)) fu (.i 3 0 r0) h63 c64) (
q_addW 3 9223372036854775807 (binC Try.prog .add 3 (.tmp 18) (.const (.int .i64 (.ofNat 1))) (dec v9) (dec (.i 3 1 r0))) v9 (.i 3 1 r0) fun v185 =>
f12 v185 h58 c59)) fu (.i 3 0 r0) h54 c55)) fun f52 =>
q_guardW false v39 (q_cmpW (cmpF2 .neq) 3 (binC Try.prog .neq 3 (.tmp 40) (.tmp 41) (dec v45) (dec v49)) v45 v49 fun v186 =>
f52 v186 h50 c51) (f52 wUnd h50 c51)) fun f48 =>
q_guardW false v39 (f48 v15 h46 c47) (f48 wUnd h46 c47)) fun f44 =>
q_guardW false v39 (q_lenW (lenC tys 24 (dec v41)) v41 fun v187 =>
f44 v187 h42 c43) (f44 wUnd h42 c43)) fun f40 =>
q_guardW false v39 (f40 v20 h37 c38) (f40 wUnd h37 c38)) fun f35 =>
q_guardW false v30 (q_cmpW (cmpF2 .neq) 3 (binC Try.prog .neq 25 (.tmp 35) (.const (.int .i64 (.ofNat 0))) (dec v32) (dec (.i 3 0 r0))) v32 (.i 3 0 r0) fun v188 =>
f35 v188 h33 c34) (f35 wUnd h33 c34)) fun f31 =>
q_guardW false v30 (f31 v29 h24 c25) (f31 wUnd h24 c25)) (
K (.i 8 1 r0) h10 c11)) fu (.i 3 0 r0) h6 c7)
theorem R5_eq (Q : PrimW) (fu : Nat) (call : CallW) : curryA 0 (fnK Q Try.prog tys stl fu call e5) = R5 Q.share Q.genW Q.addW Q.subW Q.bitW Q.cmpW Q.notW Q.icvW Q.condW Q.guardW Q.pickW Q.idxSW Q.lenW Q.tupW Q.nthW Q.loadSW Q.buildSW fu call := by kernel_rfl
noncomputable def n5 : List W → HW → Nat → KW → Bool := appF 0 (R5 (fun _ x f => f x) genW addW subW bitW cmpW notW icvW condW guardW pickW idxSW lenW tupW nthW loadSW buildSW 1000000 d9.fn)
theorem n5_ok : FnGood Try.prog tys stl tab 5 n5 := node_ok d9_ok (by kernel_rfl) rfl g5 (R5_eq real _ _)
noncomputable def d10 : Disp := (.node 60 n60 (.node 41 n41 (.node 22 n22 (.node 17 n17 (.node 11 n11 (.node 5 n5 .leaf .leaf) (.node 13 n13 .leaf .leaf)) (.node 21 n21 (.node 19 n19 .leaf .leaf) .leaf)) (.node 29 n29 (.node 28 n28 (.node 25 n25 .leaf .leaf) .leaf) (.node 34 n34 (.node 31 n31 .leaf .leaf) .leaf))) (.node 50 n50 (.node 46 n46 (.node 45 n45 (.node 44 n44 .leaf .leaf) .leaf) (.node 49 n49 (.node 48 n48 .leaf .leaf) .leaf)) (.node 57 n57 (.node 54 n54 (.node 53 n53 .leaf .leaf) .leaf) (.node 59 n59 (.node 58 n58 .leaf .leaf) .leaf)))) (.node 76 n76 (.node 68 n68 (.node 64 n64 (.node 63 n63 (.node 62 n62 .leaf .leaf) .leaf) (.node 66 n66 (.node 65 n65 .leaf .leaf) .leaf)) (.node 71 n71 (.node 70 n70 (.node 69 n69 .leaf .leaf) .leaf) (.node 75 n75 (.node 74 n74 .leaf .leaf) .leaf))) (.node 83 n83 (.node 79 n79 (.node 78 n78 (.node 77 n77 .leaf .leaf) .leaf) (.node 82 n82 (.node 81 n81 .leaf .leaf) .leaf)) (.node 86 n86 (.node 85 n85 (.node 84 n84 .leaf .leaf) .leaf) (.node 88 n88 (.node 87 n87 .leaf .leaf) .leaf)))))
theorem d10_ok : CallSim Try.prog tys stl tab d10.fn := Disp.sim ⟨n60_ok, ⟨n41_ok, ⟨n22_ok, ⟨n17_ok, ⟨n11_ok, ⟨n5_ok, True.intro, True.intro⟩, ⟨n13_ok, True.intro, True.intro⟩⟩, ⟨n21_ok, ⟨n19_ok, True.intro, True.intro⟩, True.intro⟩⟩, ⟨n29_ok, ⟨n28_ok, ⟨n25_ok, True.intro, True.intro⟩, True.intro⟩, ⟨n34_ok, ⟨n31_ok, True.intro, True.intro⟩, True.intro⟩⟩⟩, ⟨n50_ok, ⟨n46_ok, ⟨n45_ok, ⟨n44_ok, True.intro, True.intro⟩, True.intro⟩, ⟨n49_ok, ⟨n48_ok, True.intro, True.intro⟩, True.intro⟩⟩, ⟨n57_ok, ⟨n54_ok, ⟨n53_ok, True.intro, True.intro⟩, True.intro⟩, ⟨n59_ok, ⟨n58_ok, True.intro, True.intro⟩, True.intro⟩⟩⟩⟩, ⟨n76_ok, ⟨n68_ok, ⟨n64_ok, ⟨n63_ok, ⟨n62_ok, True.intro, True.intro⟩, True.intro⟩, ⟨n66_ok, ⟨n65_ok, True.intro, True.intro⟩, True.intro⟩⟩, ⟨n71_ok, ⟨n70_ok, ⟨n69_ok, True.intro, True.intro⟩, True.intro⟩, ⟨n75_ok, ⟨n74_ok, True.intro, True.intro⟩, True.intro⟩⟩⟩, ⟨n83_ok, ⟨n79_ok, ⟨n78_ok, ⟨n77_ok, True.intro, True.intro⟩, True.intro⟩, ⟨n82_ok, ⟨n81_ok, True.intro, True.intro⟩, True.intro⟩⟩, ⟨n86_ok, ⟨n85_ok, ⟨n84_ok, True.intro, True.intro⟩, True.intro⟩, ⟨n88_ok, ⟨n87_ok, True.intro, True.intro⟩, True.intro⟩⟩⟩⟩⟩
noncomputable abbrev dT : Disp := d10
theorem dT_ok : CallSim Try.prog tys stl tab dT.fn := d10_ok

set_option maxHeartbeats 0 in
theorem run5 : lawK dT.fn 5 = true := by kernel_rfl
namespace pointsGray
open Go.ChangeShapes Go.WideShapes Go.ChangeAt Go.RowKit
theorem own : ownKnob Try.prog.godebug = none := by kernel_rfl
theorem laid : laidOutB Try.prog = true := by kernel_rfl
theorem lifted (os : Os) (started : os.Started) (H : Type) (enc : TypeId × Value → H) :
    ReturnsInHanded {} Try.checked os 5 .any (Rows.pointsGraySpec.pre6 enc Try.prog Try.f5 Rows.pointsGrayRow.domain false) (Rows.pointsGraySpec.post enc Try.prog Try.f5 false true false false) := by
  refine returnsInHanded_of_change (C := Try.checked) own started (by kernel_rfl) Try.func5
    (ChangeSpec.witness6 (enc := enc) (C := Try.checked) false ⟨#[], #[], []⟩ 8 (by kernel_rfl) (by kernel_rfl) (by kernel_rfl) (by kernel_rfl)) ?_
  intro W base args ds gs before hval0 hW hcnd _
  have hW' := hW
  obtain ⟨p, q, hA0, hV, rfl, hfz, hnd⟩ := hW
  have hA : DataW.TrodAll enc Try.prog W 0 (fun _ => true) true Try.f5.params.toList args.toList ds p := hA0
  rw [Try.params5] at hA
  obtain ⟨hargs, rfl, rfl⟩ := trodAll_nil hA
  obtain rfl : args = #[] := by cases args; simp_all
  obtain ⟨rfl, rfl⟩ := trodVars_none hV
  clear hA0 hval0
  refine (lawK_true tok mixed fok dT_ok (by kernel_rfl : tab 5 = some e5) rfl run5 W).mono fun e W' ⟨he, hg⟩ => ?_
  subst he
  exact ⟨_, rfl, law_done laid rfl rfl Try.underlying4 (by kernel_rfl) hW' rfl hg⟩

theorem over : Rows.pointsGrayRow.holds Try.pinned (OpenSpec.ofChange Rows.pointsGraySpec) :=
  OpenClaim.holds_of_wide 5 Try.f5 rfl rfl rfl rfl rfl rfl rfl ⟨rfl, rfl, rfl, rfl, rfl⟩ rfl rfl rfl rfl rfl (by kernel_rfl) Try.func5 (by kernel_rfl)
    (of_decide_eq_true (by kernel_rfl)) (by unfold Func.isWrapper; first | (rw [if_pos (by decide +kernel)]; kernel_rfl) | (rw [if_neg (by decide +kernel)]; exact ⟨rfl, rfl⟩))
    (fun os started H enc _ => lifted os started H enc)

theorem proved : Rows.PointsGraySaid := over
end pointsGray
end Go.Proofs.Ytnpofigcmhgnmaa
