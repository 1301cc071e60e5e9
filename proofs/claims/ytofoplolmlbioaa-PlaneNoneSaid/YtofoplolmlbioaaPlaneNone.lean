/-
  foghornlaw03.PlaneNone returns true, whatever the memory it begins in. No condition.
-/
import Derived.Test.YtofoplolmlbioaaRows
import Derived.Test.YtofoplolmlbioaaGx
import Derived.WalkKit
import Derived.ProofKit
import Derived.OpenShut
set_option linter.unusedVariables false
set_option maxRecDepth 1000000
namespace Go.Proofs.Ytofoplolmlbioaa
open Go Go.Fw
def tys : List (Nat × TyI) := [
  (1, ⟨.func, 1, 8, .nilFunc⟩),
  (2, ⟨.int .i64, 1, 8, .int .i64 0⟩),
  (3, ⟨.int .i64, 1, 8, .int .i64 0⟩),
  (4, ⟨.bool, 1, 1, .bool false⟩),
  (5, ⟨.int .u8, 1, 1, .int .u8 0⟩),
  (9, ⟨.str, 1, 16, .string (ByteArray.mk #[])⟩),
  (12, ⟨.int .u64, 1, 8, .int .u64 0⟩),
  (21, ⟨.int .i32, 1, 4, .int .i32 0⟩),
  (22, ⟨.float .f64, 1, 8, .float .f64 0⟩),
  (23, ⟨.array 2 22, 2, 16, .agg #[.float .f64 0, .float .f64 0]⟩),
  (24, ⟨.cpx .f64, 1, 16, .complex .f64 0 0⟩),
  (25, ⟨.func, 1, 8, .nilFunc⟩),
  (26, ⟨.func, 1, 8, .nilFunc⟩),
  (27, ⟨.func, 1, 8, .nilFunc⟩),
  (28, ⟨.func, 1, 8, .nilFunc⟩),
  (29, ⟨.func, 1, 8, .nilFunc⟩),
  (30, ⟨.func, 1, 8, .nilFunc⟩),
  (31, ⟨.func, 1, 8, .nilFunc⟩),
  (32, ⟨.func, 1, 8, .nilFunc⟩),
  (33, ⟨.func, 1, 8, .nilFunc⟩),
  (34, ⟨.func, 1, 8, .nilFunc⟩),
  (35, ⟨.slice 23, 1, 24, .slice none 0 0⟩),
  (36, ⟨.slice 24, 1, 24, .slice none 0 0⟩),
  (37, ⟨.func, 1, 8, .nilFunc⟩),
  (38, ⟨.func, 1, 8, .nilFunc⟩),
  (39, ⟨.func, 1, 8, .nilFunc⟩),
  (40, ⟨.struct [(0, 2), (1, 2)], 2, 16, .agg #[.int .i64 0, .int .i64 0]⟩),
  (41, ⟨.struct [(0, 2), (1, 2)], 2, 16, .agg #[.int .i64 0, .int .i64 0]⟩),
  (42, ⟨.int .u32, 1, 4, .int .u32 0⟩),
  (43, ⟨.struct [(0, 3), (1, 42), (2, 23)], 4, 32, .agg #[.int .i64 0, .int .u32 0, .float .f64 0, .float .f64 0]⟩),
  (44, ⟨.struct [(0, 3), (1, 42), (2, 23)], 4, 32, .agg #[.int .i64 0, .int .u32 0, .float .f64 0, .float .f64 0]⟩),
  (45, ⟨.struct [(0, 2), (1, 2)], 2, 16, .agg #[.int .i64 0, .int .i64 0]⟩),
  (46, ⟨.int .i64, 1, 8, .int .i64 0⟩),
  (48, ⟨.func, 1, 8, .nilFunc⟩),
  (49, ⟨.func, 1, 8, .nilFunc⟩),
  (51, ⟨.func, 1, 8, .nilFunc⟩),
  (53, ⟨.func, 1, 8, .nilFunc⟩),
  (54, ⟨.func, 1, 8, .nilFunc⟩),
  (55, ⟨.func, 1, 8, .nilFunc⟩),
  (57, ⟨.func, 1, 8, .nilFunc⟩),
  (59, ⟨.func, 1, 8, .nilFunc⟩),
  (60, ⟨.func, 1, 8, .nilFunc⟩),
  (62, ⟨.func, 1, 8, .nilFunc⟩),
  (63, ⟨.func, 1, 8, .nilFunc⟩),
  (64, ⟨.func, 1, 8, .nilFunc⟩),
  (65, ⟨.func, 1, 8, .nilFunc⟩),
  (67, ⟨.func, 1, 8, .nilFunc⟩),
  (68, ⟨.func, 1, 8, .nilFunc⟩),
  (69, ⟨.func, 1, 8, .nilFunc⟩),
  (70, ⟨.func, 1, 8, .nilFunc⟩),
  (71, ⟨.func, 1, 8, .nilFunc⟩),
  (72, ⟨.func, 1, 8, .nilFunc⟩),
  (73, ⟨.int .i16, 1, 2, .int .i16 0⟩),
  (74, ⟨.array 2 73, 2, 4, .agg #[.int .i16 0, .int .i16 0]⟩),
  (75, ⟨.struct [(0, 74), (2, 74), (4, 74), (6, 3), (7, 3)], 8, 32, .agg #[.int .i16 0, .int .i16 0, .int .i16 0, .int .i16 0, .int .i16 0, .int .i16 0, .int .i64 0, .int .i64 0]⟩),
  (76, ⟨.struct [(0, 74), (2, 74), (4, 74), (6, 3), (7, 3)], 8, 32, .agg #[.int .i16 0, .int .i16 0, .int .i16 0, .int .i16 0, .int .i16 0, .int .i16 0, .int .i64 0, .int .i64 0]⟩),
  (77, ⟨.func, 1, 8, .nilFunc⟩),
  (78, ⟨.func, 1, 8, .nilFunc⟩),
  (79, ⟨.func, 1, 8, .nilFunc⟩),
  (80, ⟨.slice 109, 1, 24, .slice none 0 0⟩),
  (81, ⟨.struct [(0, 80), (1, 80), (2, 80), (3, 80), (4, 3)], 5, 104, .agg #[.slice none 0 0, .slice none 0 0, .slice none 0 0, .slice none 0 0, .int .i64 0]⟩),
  (82, ⟨.struct [(0, 80), (1, 80), (2, 80), (3, 80), (4, 3)], 5, 104, .agg #[.slice none 0 0, .slice none 0 0, .slice none 0 0, .slice none 0 0, .int .i64 0]⟩),
  (83, ⟨.func, 1, 8, .nilFunc⟩),
  (85, ⟨.func, 1, 8, .nilFunc⟩),
  (86, ⟨.func, 1, 8, .nilFunc⟩),
  (87, ⟨.func, 1, 8, .nilFunc⟩),
  (88, ⟨.func, 1, 8, .nilFunc⟩),
  (89, ⟨.func, 1, 8, .nilFunc⟩),
  (90, ⟨.func, 1, 8, .nilFunc⟩),
  (91, ⟨.func, 1, 8, .nilFunc⟩),
  (92, ⟨.func, 1, 8, .nilFunc⟩),
  (93, ⟨.func, 1, 8, .nilFunc⟩),
  (94, ⟨.func, 1, 8, .nilFunc⟩),
  (95, ⟨.func, 1, 8, .nilFunc⟩),
  (96, ⟨.func, 1, 8, .nilFunc⟩),
  (98, ⟨.func, 1, 8, .nilFunc⟩),
  (100, ⟨.func, 1, 8, .nilFunc⟩),
  (101, ⟨.func, 1, 8, .nilFunc⟩),
  (102, ⟨.func, 1, 8, .nilFunc⟩),
  (104, ⟨.func, 1, 8, .nilFunc⟩),
  (105, ⟨.func, 1, 8, .nilFunc⟩),
  (107, ⟨.func, 1, 8, .nilFunc⟩),
  (108, ⟨.int .i8, 1, 1, .int .i8 0⟩),
  (109, ⟨.array 2 108, 2, 2, .agg #[.int .i8 0, .int .i8 0]⟩),
  (110, ⟨.func, 1, 8, .nilFunc⟩),
  (111, ⟨.func, 1, 8, .nilFunc⟩),
  (112, ⟨.int .u64, 1, 8, .int .u64 0⟩),
  (113, ⟨.func, 1, 8, .nilFunc⟩),
  (114, ⟨.func, 1, 8, .nilFunc⟩),
  (115, ⟨.func, 1, 8, .nilFunc⟩),
  (116, ⟨.int .u64, 1, 8, .int .u64 0⟩),
  (117, ⟨.func, 1, 8, .nilFunc⟩),
  (119, ⟨.func, 1, 8, .nilFunc⟩),
  (120, ⟨.func, 1, 8, .nilFunc⟩),
  (126, ⟨.func, 1, 8, .nilFunc⟩),
  (129, ⟨.func, 1, 8, .nilFunc⟩),
  (130, ⟨.ptr 5, 1, 8, .pointer none⟩)]


theorem tok : TOk Try.prog tys := tok_of ⟨⟨by kernel_rfl, by kernel_rfl⟩, ⟨by kernel_rfl, by kernel_rfl⟩, ⟨by kernel_rfl, by kernel_rfl⟩, ⟨by kernel_rfl, by kernel_rfl⟩, ⟨by kernel_rfl, by kernel_rfl⟩, ⟨by kernel_rfl, by kernel_rfl⟩, ⟨by kernel_rfl, by kernel_rfl⟩, ⟨by kernel_rfl, by kernel_rfl⟩, ⟨by kernel_rfl, by kernel_rfl⟩, ⟨by kernel_rfl, by kernel_rfl⟩, ⟨by kernel_rfl, by kernel_rfl⟩, ⟨by kernel_rfl, by kernel_rfl⟩, ⟨by kernel_rfl, by kernel_rfl⟩, ⟨by kernel_rfl, by kernel_rfl⟩, ⟨by kernel_rfl, by kernel_rfl⟩, ⟨by kernel_rfl, by kernel_rfl⟩, ⟨by kernel_rfl, by kernel_rfl⟩, ⟨by kernel_rfl, by kernel_rfl⟩, ⟨by kernel_rfl, by kernel_rfl⟩, ⟨by kernel_rfl, by kernel_rfl⟩, ⟨by kernel_rfl, by kernel_rfl⟩, ⟨by kernel_rfl, by kernel_rfl⟩, ⟨by kernel_rfl, by kernel_rfl⟩, ⟨by kernel_rfl, by kernel_rfl⟩, ⟨by kernel_rfl, by kernel_rfl⟩, ⟨by kernel_rfl, by kernel_rfl⟩, ⟨by kernel_rfl, by kernel_rfl⟩, ⟨by kernel_rfl, by kernel_rfl⟩, ⟨by kernel_rfl, by kernel_rfl⟩, ⟨by kernel_rfl, by kernel_rfl⟩, ⟨by kernel_rfl, by kernel_rfl⟩, ⟨by kernel_rfl, by kernel_rfl⟩, ⟨by kernel_rfl, by kernel_rfl⟩, ⟨by kernel_rfl, by kernel_rfl⟩, ⟨by kernel_rfl, by kernel_rfl⟩, ⟨by kernel_rfl, by kernel_rfl⟩, ⟨by kernel_rfl, by kernel_rfl⟩, ⟨by kernel_rfl, by kernel_rfl⟩, ⟨by kernel_rfl, by kernel_rfl⟩, ⟨by kernel_rfl, by kernel_rfl⟩, ⟨by kernel_rfl, by kernel_rfl⟩, ⟨by kernel_rfl, by kernel_rfl⟩, ⟨by kernel_rfl, by kernel_rfl⟩, ⟨by kernel_rfl, by kernel_rfl⟩, ⟨by kernel_rfl, by kernel_rfl⟩, ⟨by kernel_rfl, by kernel_rfl⟩, ⟨by kernel_rfl, by kernel_rfl⟩, ⟨by kernel_rfl, by kernel_rfl⟩, ⟨by kernel_rfl, by kernel_rfl⟩, ⟨by kernel_rfl, by kernel_rfl⟩, ⟨by kernel_rfl, by kernel_rfl⟩, ⟨by kernel_rfl, by kernel_rfl⟩, ⟨by kernel_rfl, by kernel_rfl⟩, ⟨by kernel_rfl, by kernel_rfl⟩, ⟨by kernel_rfl, by kernel_rfl⟩, ⟨by kernel_rfl, by kernel_rfl⟩, ⟨by kernel_rfl, by kernel_rfl⟩, ⟨by kernel_rfl, by kernel_rfl⟩, ⟨by kernel_rfl, by kernel_rfl⟩, ⟨by kernel_rfl, by kernel_rfl⟩, ⟨by kernel_rfl, by kernel_rfl⟩, ⟨by kernel_rfl, by kernel_rfl⟩, ⟨by kernel_rfl, by kernel_rfl⟩, ⟨by kernel_rfl, by kernel_rfl⟩, ⟨by kernel_rfl, by kernel_rfl⟩, ⟨by kernel_rfl, by kernel_rfl⟩, ⟨by kernel_rfl, by kernel_rfl⟩, ⟨by kernel_rfl, by kernel_rfl⟩, ⟨by kernel_rfl, by kernel_rfl⟩, ⟨by kernel_rfl, by kernel_rfl⟩, ⟨by kernel_rfl, by kernel_rfl⟩, ⟨by kernel_rfl, by kernel_rfl⟩, ⟨by kernel_rfl, by kernel_rfl⟩, ⟨by kernel_rfl, by kernel_rfl⟩, ⟨by kernel_rfl, by kernel_rfl⟩, ⟨by kernel_rfl, by kernel_rfl⟩, ⟨by kernel_rfl, by kernel_rfl⟩, ⟨by kernel_rfl, by kernel_rfl⟩, ⟨by kernel_rfl, by kernel_rfl⟩, ⟨by kernel_rfl, by kernel_rfl⟩, ⟨by kernel_rfl, by kernel_rfl⟩, ⟨by kernel_rfl, by kernel_rfl⟩, ⟨by kernel_rfl, by kernel_rfl⟩, ⟨by kernel_rfl, by kernel_rfl⟩, ⟨by kernel_rfl, by kernel_rfl⟩, ⟨by kernel_rfl, by kernel_rfl⟩, ⟨by kernel_rfl, by kernel_rfl⟩, ⟨by kernel_rfl, by kernel_rfl⟩, ⟨by kernel_rfl, by kernel_rfl⟩, ⟨by kernel_rfl, by kernel_rfl⟩, ⟨by kernel_rfl, by kernel_rfl⟩, ⟨by kernel_rfl, by kernel_rfl⟩, ⟨by kernel_rfl, by kernel_rfl⟩, ⟨by kernel_rfl, by kernel_rfl⟩, ⟨by kernel_rfl, by kernel_rfl⟩, ⟨by kernel_rfl, by kernel_rfl⟩, ⟨by kernel_rfl, by kernel_rfl⟩, True.intro⟩
theorem mixed : Try.prog.follows .mixedOrders = true := by kernel_rfl
def inL : List Nat → Nat → Bool
  | [], _ => false
  | a :: r, n => match Nat.beq a n with | true => true | false => inL r n
def stl : Nat → Bool := inL [13, 15, 47, 63, 67, 69, 72, 74, 75, 77, 78, 79, 80, 83]
/- 10: foghorn/foghornlaw03.PlaneNone -/
def p10 : Nat → Option PlanC := fun
  | 3 => some (.alt 0 (.op 1 false (.op 2 false (.op 3 false (.op 4 false (.op 5 false (.op 6 false (.op 7 false (.done)))))))) (.alt 1 (.op 0 false (.op 2 false (.op 3 false (.op 4 false (.op 5 false (.op 6 false (.op 7 false (.done)))))))) (.fin)))
  | 4 => some (.alt 0 (.op 1 false (.op 2 false (.op 3 false (.op 4 false (.op 5 false (.op 6 false (.op 7 false (.done)))))))) (.alt 1 (.op 0 false (.op 2 false (.op 3 false (.op 4 false (.op 5 false (.op 6 false (.op 7 false (.done)))))))) (.fin)))
  | _ => none
def wl10 : Nat → List Nat := fun _ => []
def wj10 : Nat → Option (List Nat) := fun _ => none
def kr10 : Nat → List Nat := fun _ => []
noncomputable def e10 : Ent := entOf Try.f10 ⟨p10, wl10, wj10, kr10, [9, 10, 15, 21, 23, 27, 29]⟩
theorem g10 : EntOk Try.prog stl 10 e10 := .inr ⟨rfl, Try.func10, by kernel_rfl, by kernel_rfl, by kernel_rfl, by kernel_rfl, by kernel_rfl, rfl⟩
/- 13: foghorn/plane.Mul -/
def p13 : Nat → Option PlanC := fun _ => none
def wl13 : Nat → List Nat := fun _ => []
def wj13 : Nat → Option (List Nat) := fun _ => none
def kr13 : Nat → List Nat := fun _ => []
noncomputable def e13 : Ent := entOf Try.f13 ⟨p13, wl13, wj13, kr13, []⟩
theorem g13 : EntOk Try.prog stl 13 e13 := .inr ⟨rfl, Try.func13, by kernel_rfl, by kernel_rfl, by kernel_rfl, by kernel_rfl, by kernel_rfl, rfl⟩
/- 15: foghorn/plane.Turn -/
def p15 : Nat → Option PlanC := fun _ => none
def wl15 : Nat → List Nat := fun _ => []
def wj15 : Nat → Option (List Nat) := fun _ => none
def kr15 : Nat → List Nat := fun _ => []
noncomputable def e15 : Ent := entOf Try.f15 ⟨p15, wl15, wj15, kr15, []⟩
theorem g15 : EntOk Try.prog stl 15 e15 := .inr ⟨rfl, Try.func15, by kernel_rfl, by kernel_rfl, by kernel_rfl, by kernel_rfl, by kernel_rfl, rfl⟩
/- 24: foghorn/foghornlaw03.awake -/
def p24 : Nat → Option PlanC := fun _ => none
def wl24 : Nat → List Nat := fun _ => []
def wj24 : Nat → Option (List Nat) := fun _ => none
def kr24 : Nat → List Nat := fun _ => []
noncomputable def e24 : Ent := entOf Try.f24 ⟨p24, wl24, wj24, kr24, []⟩
theorem g24 : EntOk Try.prog stl 24 e24 := .inr ⟨rfl, Try.func24, by kernel_rfl, by kernel_rfl, by kernel_rfl, by kernel_rfl, by kernel_rfl, rfl⟩
/- 30: (foghorn/plane.Gauss).Norm -/
def p30 : Nat → Option PlanC := fun _ => none
def wl30 : Nat → List Nat := fun _ => []
def wj30 : Nat → Option (List Nat) := fun _ => none
def kr30 : Nat → List Nat := fun _ => []
noncomputable def e30 : Ent := entOf Try.f30 ⟨p30, wl30, wj30, kr30, [1]⟩
theorem g30 : EntOk Try.prog stl 30 e30 := .inr ⟨rfl, Try.func30, by kernel_rfl, by kernel_rfl, by kernel_rfl, by kernel_rfl, by kernel_rfl, rfl⟩
/- 35: foghorn/plane.Gcd -/
def p35 : Nat → Option PlanC := fun
  | 5 => some (.op 0 false (.alt 1 (.op 2 false (.op 3 false (.done))) (.alt 2 (.op 1 false (.op 3 false (.done))) (.fin))))
  | _ => none
def wl35 : Nat → List Nat := fun
  | 3 => []
  | 6 => []
  | _ => []
def wj35 : Nat → Option (List Nat) := fun _ => none
def kr35 : Nat → List Nat := fun _ => []
noncomputable def e35 : Ent := entOf Try.f35 ⟨p35, wl35, wj35, kr35, [2, 3]⟩
theorem g35 : EntOk Try.prog stl 35 e35 := .inr ⟨rfl, Try.func35, by kernel_rfl, by kernel_rfl, by kernel_rfl, by kernel_rfl, by kernel_rfl, rfl⟩
/- 37: (foghorn/plane.Gauss).Class -/
def p37 : Nat → Option PlanC := fun _ => none
def wl37 : Nat → List Nat := fun
  | 5 => [6, 18]
  | _ => []
def wj37 : Nat → Option (List Nat) := fun _ => none
def kr37 : Nat → List Nat := fun _ => []
noncomputable def e37 : Ent := entOf Try.f37 ⟨p37, wl37, wj37, kr37, [2]⟩
theorem g37 : EntOk Try.prog stl 37 e37 := .inr ⟨rfl, Try.func37, by kernel_rfl, by kernel_rfl, by kernel_rfl, by kernel_rfl, by kernel_rfl, rfl⟩
/- 39: foghorn/plane.First -/
def p39 : Nat → Option PlanC := fun _ => none
def wl39 : Nat → List Nat := fun
  | 6 => [21]
  | _ => []
def wj39 : Nat → Option (List Nat) := fun
  | 10 => some []
  | _ => none
def kr39 : Nat → List Nat := fun _ => []
noncomputable def e39 : Ent := entOf Try.f39 ⟨p39, wl39, wj39, kr39, [6, 7]⟩
theorem g39 : EntOk Try.prog stl 39 e39 := .inr ⟨rfl, Try.func39, by kernel_rfl, by kernel_rfl, by kernel_rfl, by kernel_rfl, by kernel_rfl, rfl⟩
/- 41: (foghorn/plane.Gauss).Depth -/
def p41 : Nat → Option PlanC := fun _ => none
def wl41 : Nat → List Nat := fun
  | 6 => [4]
  | _ => []
def wj41 : Nat → Option (List Nat) := fun _ => none
def kr41 : Nat → List Nat := fun _ => []
noncomputable def e41 : Ent := entOf Try.f41 ⟨p41, wl41, wj41, kr41, [1]⟩
theorem g41 : EntOk Try.prog stl 41 e41 := .inr ⟨rfl, Try.func41, by kernel_rfl, by kernel_rfl, by kernel_rfl, by kernel_rfl, by kernel_rfl, rfl⟩
/- 43: foghorn/plane.Whole -/
def p43 : Nat → Option PlanC := fun _ => none
def wl43 : Nat → List Nat := fun _ => []
def wj43 : Nat → Option (List Nat) := fun _ => none
def kr43 : Nat → List Nat := fun _ => []
noncomputable def e43 : Ent := entOf Try.f43 ⟨p43, wl43, wj43, kr43, []⟩
theorem g43 : EntOk Try.prog stl 43 e43 := .inr ⟨rfl, Try.func43, by kernel_rfl, by kernel_rfl, by kernel_rfl, by kernel_rfl, by kernel_rfl, rfl⟩
/- 47: foghorn/plane.Sum -/
def p47 : Nat → Option PlanC := fun _ => none
def wl47 : Nat → List Nat := fun
  | 3 => [3, 8]
  | _ => []
def wj47 : Nat → Option (List Nat) := fun _ => none
def kr47 : Nat → List Nat := fun _ => []
noncomputable def e47 : Ent := entOf Try.f47 ⟨p47, wl47, wj47, kr47, []⟩
theorem g47 : EntOk Try.prog stl 47 e47 := .inr ⟨rfl, Try.func47, by kernel_rfl, by kernel_rfl, by kernel_rfl, by kernel_rfl, by kernel_rfl, rfl⟩
/- 49: foghorn/plane.Filter -/
def p49 : Nat → Option PlanC := fun
  | 10 => some (.op 0 false (.op 1 false (.op 2 false (.op 3 false (.op 4 false (.op 5 false (.op 6 false (.op 7 false (.op 8 false (.op 9 false (.op 10 false (.op 11 false (.op 12 false (.op 13 false (.op 14 false (.op 15 false (.op 16 false (.op 17 false (.op 18 false (.op 19 false (.done)))))))))))))))))))))
  | _ => none
def wl49 : Nat → List Nat := fun
  | 5 => [27]
  | 8 => [35]
  | _ => []
def wj49 : Nat → Option (List Nat) := fun _ => none
def kr49 : Nat → List Nat := fun _ => []
noncomputable def e49 : Ent := entOf Try.f49 ⟨p49, wl49, wj49, kr49, []⟩
theorem g49 : EntOk Try.prog stl 49 e49 := .inr ⟨rfl, Try.func49, by kernel_rfl, by kernel_rfl, by kernel_rfl, by kernel_rfl, by kernel_rfl, rfl⟩
/- 55: (foghorn/plane.Gauss).mayBe -/
def p55 : Nat → Option PlanC := fun _ => none
def wl55 : Nat → List Nat := fun _ => []
def wj55 : Nat → Option (List Nat) := fun _ => none
def kr55 : Nat → List Nat := fun _ => []
noncomputable def e55 : Ent := entOf Try.f55 ⟨p55, wl55, wj55, kr55, [1]⟩
theorem g55 : EntOk Try.prog stl 55 e55 := .inr ⟨rfl, Try.func55, by kernel_rfl, by kernel_rfl, by kernel_rfl, by kernel_rfl, by kernel_rfl, rfl⟩
/- 56: (foghorn/plane.Gauss).times -/
def p56 : Nat → Option PlanC := fun _ => none
def wl56 : Nat → List Nat := fun _ => []
def wj56 : Nat → Option (List Nat) := fun _ => none
def kr56 : Nat → List Nat := fun _ => []
noncomputable def e56 : Ent := entOf Try.f56 ⟨p56, wl56, wj56, kr56, [2, 3]⟩
theorem g56 : EntOk Try.prog stl 56 e56 := .inr ⟨rfl, Try.func56, by kernel_rfl, by kernel_rfl, by kernel_rfl, by kernel_rfl, by kernel_rfl, rfl⟩
/- 59: (foghorn/plane.Gauss).norm -/
def p59 : Nat → Option PlanC := fun _ => none
def wl59 : Nat → List Nat := fun _ => []
def wj59 : Nat → Option (List Nat) := fun _ => none
def kr59 : Nat → List Nat := fun _ => []
noncomputable def e59 : Ent := entOf Try.f59 ⟨p59, wl59, wj59, kr59, [1]⟩
theorem g59 : EntOk Try.prog stl 59 e59 := .inr ⟨rfl, Try.func59, by kernel_rfl, by kernel_rfl, by kernel_rfl, by kernel_rfl, by kernel_rfl, rfl⟩
/- 61: (foghorn/plane.Gauss).by -/
def p61 : Nat → Option PlanC := fun
  | 3 => some (.op 0 false (.op 1 false (.op 2 false (.op 3 false (.op 4 false (.op 5 false (.op 6 false (.op 7 false (.op 8 false (.op 9 false (.done)))))))))))
  | 5 => some (.op 0 false (.op 1 true (.op 3 true (.op 6 true (.op 8 true (.alt 2 (.alt 4 (.op 5 true (.alt 7 (.alt 9 (.op 10 true (.alt 11 (.op 12 false (.op 13 false (.done))) (.alt 12 (.op 11 false (.op 13 false (.done))) (.fin)))) (.alt 12 (.op 9 false (.op 10 false (.op 11 false (.op 13 false (.done))))) (.fin))) (.alt 9 (.alt 7 (.op 10 true (.alt 11 (.op 12 false (.op 13 false (.done))) (.alt 12 (.op 11 false (.op 13 false (.done))) (.fin)))) (.alt 12 (.op 7 false (.op 10 false (.op 11 false (.op 13 false (.done))))) (.fin))) (.alt 12 (.op 7 false (.op 9 false (.op 10 false (.op 11 false (.op 13 false (.done)))))) (.fin))))) (.alt 7 (.alt 4 (.op 5 true (.alt 9 (.op 10 true (.alt 11 (.op 12 false (.op 13 false (.done))) (.alt 12 (.op 11 false (.op 13 false (.done))) (.fin)))) (.alt 12 (.op 9 false (.op 10 false (.op 11 false (.op 13 false (.done))))) (.fin)))) (.alt 9 (.op 10 true (.alt 4 (.op 5 true (.alt 11 (.op 12 false (.op 13 false (.done))) (.alt 12 (.op 11 false (.op 13 false (.done))) (.fin)))) (.alt 12 (.op 4 false (.op 5 false (.op 11 false (.op 13 false (.done))))) (.fin)))) (.alt 12 (.op 4 false (.op 5 false (.op 9 false (.op 10 false (.op 11 false (.op 13 false (.done))))))) (.fin)))) (.alt 9 (.alt 4 (.op 5 true (.alt 7 (.op 10 true (.alt 11 (.op 12 false (.op 13 false (.done))) (.alt 12 (.op 11 false (.op 13 false (.done))) (.fin)))) (.alt 12 (.op 7 false (.op 10 false (.op 11 false (.op 13 false (.done))))) (.fin)))) (.alt 7 (.op 10 true (.alt 4 (.op 5 true (.alt 11 (.op 12 false (.op 13 false (.done))) (.alt 12 (.op 11 false (.op 13 false (.done))) (.fin)))) (.alt 12 (.op 4 false (.op 5 false (.op 11 false (.op 13 false (.done))))) (.fin)))) (.alt 12 (.op 4 false (.op 5 false (.op 7 false (.op 10 false (.op 11 false (.op 13 false (.done))))))) (.fin)))) (.alt 12 (.op 4 false (.op 5 false (.op 7 false (.op 9 false (.op 10 false (.op 11 false (.op 13 false (.done)))))))) (.fin))))) (.alt 4 (.alt 2 (.op 5 true (.alt 7 (.alt 9 (.op 10 true (.alt 11 (.op 12 false (.op 13 false (.done))) (.alt 12 (.op 11 false (.op 13 false (.done))) (.fin)))) (.alt 12 (.op 9 false (.op 10 false (.op 11 false (.op 13 false (.done))))) (.fin))) (.alt 9 (.alt 7 (.op 10 true (.alt 11 (.op 12 false (.op 13 false (.done))) (.alt 12 (.op 11 false (.op 13 false (.done))) (.fin)))) (.alt 12 (.op 7 false (.op 10 false (.op 11 false (.op 13 false (.done))))) (.fin))) (.alt 12 (.op 7 false (.op 9 false (.op 10 false (.op 11 false (.op 13 false (.done)))))) (.fin))))) (.alt 7 (.alt 2 (.op 5 true (.alt 9 (.op 10 true (.alt 11 (.op 12 false (.op 13 false (.done))) (.alt 12 (.op 11 false (.op 13 false (.done))) (.fin)))) (.alt 12 (.op 9 false (.op 10 false (.op 11 false (.op 13 false (.done))))) (.fin)))) (.alt 9 (.op 10 true (.alt 2 (.op 5 true (.alt 11 (.op 12 false (.op 13 false (.done))) (.alt 12 (.op 11 false (.op 13 false (.done))) (.fin)))) (.alt 12 (.op 2 false (.op 5 false (.op 11 false (.op 13 false (.done))))) (.fin)))) (.alt 12 (.op 2 false (.op 5 false (.op 9 false (.op 10 false (.op 11 false (.op 13 false (.done))))))) (.fin)))) (.alt 9 (.alt 2 (.op 5 true (.alt 7 (.op 10 true (.alt 11 (.op 12 false (.op 13 false (.done))) (.alt 12 (.op 11 false (.op 13 false (.done))) (.fin)))) (.alt 12 (.op 7 false (.op 10 false (.op 11 false (.op 13 false (.done))))) (.fin)))) (.alt 7 (.op 10 true (.alt 2 (.op 5 true (.alt 11 (.op 12 false (.op 13 false (.done))) (.alt 12 (.op 11 false (.op 13 false (.done))) (.fin)))) (.alt 12 (.op 2 false (.op 5 false (.op 11 false (.op 13 false (.done))))) (.fin)))) (.alt 12 (.op 2 false (.op 5 false (.op 7 false (.op 10 false (.op 11 false (.op 13 false (.done))))))) (.fin)))) (.alt 12 (.op 2 false (.op 5 false (.op 7 false (.op 9 false (.op 10 false (.op 11 false (.op 13 false (.done)))))))) (.fin))))) (.alt 7 (.alt 2 (.alt 4 (.op 5 true (.alt 9 (.op 10 true (.alt 11 (.op 12 false (.op 13 false (.done))) (.alt 12 (.op 11 false (.op 13 false (.done))) (.fin)))) (.alt 12 (.op 9 false (.op 10 false (.op 11 false (.op 13 false (.done))))) (.fin)))) (.alt 9 (.op 10 true (.alt 4 (.op 5 true (.alt 11 (.op 12 false (.op 13 false (.done))) (.alt 12 (.op 11 false (.op 13 false (.done))) (.fin)))) (.alt 12 (.op 4 false (.op 5 false (.op 11 false (.op 13 false (.done))))) (.fin)))) (.alt 12 (.op 4 false (.op 5 false (.op 9 false (.op 10 false (.op 11 false (.op 13 false (.done))))))) (.fin)))) (.alt 4 (.alt 2 (.op 5 true (.alt 9 (.op 10 true (.alt 11 (.op 12 false (.op 13 false (.done))) (.alt 12 (.op 11 false (.op 13 false (.done))) (.fin)))) (.alt 12 (.op 9 false (.op 10 false (.op 11 false (.op 13 false (.done))))) (.fin)))) (.alt 9 (.op 10 true (.alt 2 (.op 5 true (.alt 11 (.op 12 false (.op 13 false (.done))) (.alt 12 (.op 11 false (.op 13 false (.done))) (.fin)))) (.alt 12 (.op 2 false (.op 5 false (.op 11 false (.op 13 false (.done))))) (.fin)))) (.alt 12 (.op 2 false (.op 5 false (.op 9 false (.op 10 false (.op 11 false (.op 13 false (.done))))))) (.fin)))) (.alt 9 (.op 10 true (.alt 2 (.alt 4 (.op 5 true (.alt 11 (.op 12 false (.op 13 false (.done))) (.alt 12 (.op 11 false (.op 13 false (.done))) (.fin)))) (.alt 12 (.op 4 false (.op 5 false (.op 11 false (.op 13 false (.done))))) (.fin))) (.alt 4 (.alt 2 (.op 5 true (.alt 11 (.op 12 false (.op 13 false (.done))) (.alt 12 (.op 11 false (.op 13 false (.done))) (.fin)))) (.alt 12 (.op 2 false (.op 5 false (.op 11 false (.op 13 false (.done))))) (.fin))) (.alt 12 (.op 2 false (.op 4 false (.op 5 false (.op 11 false (.op 13 false (.done)))))) (.fin))))) (.alt 12 (.op 2 false (.op 4 false (.op 5 false (.op 9 false (.op 10 false (.op 11 false (.op 13 false (.done)))))))) (.fin))))) (.alt 9 (.alt 2 (.alt 4 (.op 5 true (.alt 7 (.op 10 true (.alt 11 (.op 12 false (.op 13 false (.done))) (.alt 12 (.op 11 false (.op 13 false (.done))) (.fin)))) (.alt 12 (.op 7 false (.op 10 false (.op 11 false (.op 13 false (.done))))) (.fin)))) (.alt 7 (.op 10 true (.alt 4 (.op 5 true (.alt 11 (.op 12 false (.op 13 false (.done))) (.alt 12 (.op 11 false (.op 13 false (.done))) (.fin)))) (.alt 12 (.op 4 false (.op 5 false (.op 11 false (.op 13 false (.done))))) (.fin)))) (.alt 12 (.op 4 false (.op 5 false (.op 7 false (.op 10 false (.op 11 false (.op 13 false (.done))))))) (.fin)))) (.alt 4 (.alt 2 (.op 5 true (.alt 7 (.op 10 true (.alt 11 (.op 12 false (.op 13 false (.done))) (.alt 12 (.op 11 false (.op 13 false (.done))) (.fin)))) (.alt 12 (.op 7 false (.op 10 false (.op 11 false (.op 13 false (.done))))) (.fin)))) (.alt 7 (.op 10 true (.alt 2 (.op 5 true (.alt 11 (.op 12 false (.op 13 false (.done))) (.alt 12 (.op 11 false (.op 13 false (.done))) (.fin)))) (.alt 12 (.op 2 false (.op 5 false (.op 11 false (.op 13 false (.done))))) (.fin)))) (.alt 12 (.op 2 false (.op 5 false (.op 7 false (.op 10 false (.op 11 false (.op 13 false (.done))))))) (.fin)))) (.alt 7 (.op 10 true (.alt 2 (.alt 4 (.op 5 true (.alt 11 (.op 12 false (.op 13 false (.done))) (.alt 12 (.op 11 false (.op 13 false (.done))) (.fin)))) (.alt 12 (.op 4 false (.op 5 false (.op 11 false (.op 13 false (.done))))) (.fin))) (.alt 4 (.alt 2 (.op 5 true (.alt 11 (.op 12 false (.op 13 false (.done))) (.alt 12 (.op 11 false (.op 13 false (.done))) (.fin)))) (.alt 12 (.op 2 false (.op 5 false (.op 11 false (.op 13 false (.done))))) (.fin))) (.alt 12 (.op 2 false (.op 4 false (.op 5 false (.op 11 false (.op 13 false (.done)))))) (.fin))))) (.alt 12 (.op 2 false (.op 4 false (.op 5 false (.op 7 false (.op 10 false (.op 11 false (.op 13 false (.done)))))))) (.fin))))) (.alt 12 (.op 2 false (.op 4 false (.op 5 false (.op 7 false (.op 9 false (.op 10 false (.op 11 false (.op 13 false (.done))))))))) (.fin)))))))))))
  | _ => none
def wl61 : Nat → List Nat := fun _ => []
def wj61 : Nat → Option (List Nat) := fun _ => none
def kr61 : Nat → List Nat := fun _ => []
noncomputable def e61 : Ent := entOf Try.f61 ⟨p61, wl61, wj61, kr61, [2, 3, 6, 8]⟩
theorem g61 : EntOk Try.prog stl 61 e61 := .inr ⟨rfl, Try.func61, by kernel_rfl, by kernel_rfl, by kernel_rfl, by kernel_rfl, by kernel_rfl, rfl⟩
/- 63: foghorn/plane.isDepth -/
def p63 : Nat → Option PlanC := fun _ => none
def wl63 : Nat → List Nat := fun _ => []
def wj63 : Nat → Option (List Nat) := fun _ => none
def kr63 : Nat → List Nat := fun _ => []
noncomputable def e63 : Ent := entOf Try.f63 ⟨p63, wl63, wj63, kr63, []⟩
theorem g63 : EntOk Try.prog stl 63 e63 := .inr ⟨rfl, Try.func63, by kernel_rfl, by kernel_rfl, by kernel_rfl, by kernel_rfl, by kernel_rfl, rfl⟩
/- 64: (foghorn/plane.Gauss).odd -/
def p64 : Nat → Option PlanC := fun _ => none
def wl64 : Nat → List Nat := fun _ => []
def wj64 : Nat → Option (List Nat) := fun _ => none
def kr64 : Nat → List Nat := fun _ => []
noncomputable def e64 : Ent := entOf Try.f64 ⟨p64, wl64, wj64, kr64, [1]⟩
theorem g64 : EntOk Try.prog stl 64 e64 := .inr ⟨rfl, Try.func64, by kernel_rfl, by kernel_rfl, by kernel_rfl, by kernel_rfl, by kernel_rfl, rfl⟩
/- 65: (foghorn/plane.Gauss).divided -/
def p65 : Nat → Option PlanC := fun _ => none
def wl65 : Nat → List Nat := fun _ => []
def wj65 : Nat → Option (List Nat) := fun _ => none
def kr65 : Nat → List Nat := fun _ => []
noncomputable def e65 : Ent := entOf Try.f65 ⟨p65, wl65, wj65, kr65, [1]⟩
theorem g65 : EntOk Try.prog stl 65 e65 := .inr ⟨rfl, Try.func65, by kernel_rfl, by kernel_rfl, by kernel_rfl, by kernel_rfl, by kernel_rfl, rfl⟩
/- 67: foghorn/plane.isWhole -/
def p67 : Nat → Option PlanC := fun _ => none
def wl67 : Nat → List Nat := fun _ => []
def wj67 : Nat → Option (List Nat) := fun _ => none
def kr67 : Nat → List Nat := fun _ => []
noncomputable def e67 : Ent := entOf Try.f67 ⟨p67, wl67, wj67, kr67, []⟩
theorem g67 : EntOk Try.prog stl 67 e67 := .inr ⟨rfl, Try.func67, by kernel_rfl, by kernel_rfl, by kernel_rfl, by kernel_rfl, by kernel_rfl, rfl⟩
/- 69: foghorn/plane.plus -/
def p69 : Nat → Option PlanC := fun _ => none
def wl69 : Nat → List Nat := fun _ => []
def wj69 : Nat → Option (List Nat) := fun _ => none
def kr69 : Nat → List Nat := fun _ => []
noncomputable def e69 : Ent := entOf Try.f69 ⟨p69, wl69, wj69, kr69, []⟩
theorem g69 : EntOk Try.prog stl 69 e69 := .inr ⟨rfl, Try.func69, by kernel_rfl, by kernel_rfl, by kernel_rfl, by kernel_rfl, by kernel_rfl, rfl⟩
/- 72: foghorn/plane.nearest -/
def p72 : Nat → Option PlanC := fun _ => none
def wl72 : Nat → List Nat := fun _ => []
def wj72 : Nat → Option (List Nat) := fun
  | 6 => some [5]
  | _ => none
def kr72 : Nat → List Nat := fun _ => []
noncomputable def e72 : Ent := entOf Try.f72 ⟨p72, wl72, wj72, kr72, []⟩
theorem g72 : EntOk Try.prog stl 72 e72 := .inr ⟨rfl, Try.func72, by kernel_rfl, by kernel_rfl, by kernel_rfl, by kernel_rfl, by kernel_rfl, rfl⟩
/- 74: math.Abs -/
def p74 : Nat → Option PlanC := fun _ => none
def wl74 : Nat → List Nat := fun _ => []
def wj74 : Nat → Option (List Nat) := fun _ => none
def kr74 : Nat → List Nat := fun _ => []
noncomputable def e74 : Ent := entOf Try.f74 ⟨p74, wl74, wj74, kr74, []⟩
theorem g74 : EntOk Try.prog stl 74 e74 := .inr ⟨rfl, Try.func74, by kernel_rfl, by kernel_rfl, by kernel_rfl, by kernel_rfl, by kernel_rfl, rfl⟩
/- 75: math.Trunc -/
def p75 : Nat → Option PlanC := fun _ => none
def wl75 : Nat → List Nat := fun _ => []
def wj75 : Nat → Option (List Nat) := fun _ => none
def kr75 : Nat → List Nat := fun _ => []
noncomputable def e75 : Ent := entOf Try.f75 ⟨p75, wl75, wj75, kr75, []⟩
theorem g75 : EntOk Try.prog stl 75 e75 := .inr ⟨rfl, Try.func75, by kernel_rfl, by kernel_rfl, by kernel_rfl, by kernel_rfl, by kernel_rfl, rfl⟩
/- 77: math.Float64bits (no Go text) -/
noncomputable def e77 : Ent := extEnt
theorem g77 : EntOk Try.prog stl 77 e77 := .inl rfl
/- 78: math.Float64frombits (no Go text) -/
noncomputable def e78 : Ent := extEnt
theorem g78 : EntOk Try.prog stl 78 e78 := .inl rfl
/- 79: math.archTrunc (no Go text) -/
noncomputable def e79 : Ent := extEnt
theorem g79 : EntOk Try.prog stl 79 e79 := .inl rfl
/- 80: math.trunc -/
def p80 : Nat → Option PlanC := fun _ => none
def wl80 : Nat → List Nat := fun _ => []
def wj80 : Nat → Option (List Nat) := fun
  | 7 => some [3]
  | _ => none
def kr80 : Nat → List Nat := fun _ => []
noncomputable def e80 : Ent := entOf Try.f80 ⟨p80, wl80, wj80, kr80, []⟩
theorem g80 : EntOk Try.prog stl 80 e80 := .inr ⟨rfl, Try.func80, by kernel_rfl, by kernel_rfl, by kernel_rfl, by kernel_rfl, by kernel_rfl, rfl⟩
/- 83: math.Copysign -/
def p83 : Nat → Option PlanC := fun _ => none
def wl83 : Nat → List Nat := fun _ => []
def wj83 : Nat → Option (List Nat) := fun _ => none
def kr83 : Nat → List Nat := fun _ => []
noncomputable def e83 : Ent := entOf Try.f83 ⟨p83, wl83, wj83, kr83, []⟩
theorem g83 : EntOk Try.prog stl 83 e83 := .inr ⟨rfl, Try.func83, by kernel_rfl, by kernel_rfl, by kernel_rfl, by kernel_rfl, by kernel_rfl, rfl⟩
noncomputable def ents : List (Nat × Ent) := [(10, e10), (13, e13), (15, e15), (24, e24), (30, e30), (35, e35), (37, e37), (39, e39), (41, e41), (43, e43), (47, e47), (49, e49), (55, e55), (56, e56), (59, e59), (61, e61), (63, e63), (64, e64), (65, e65), (67, e67), (69, e69), (72, e72), (74, e74), (75, e75), (77, e77), (78, e78), (79, e79), (80, e80), (83, e83)]
theorem goods : EntsOk Try.prog stl ents := ⟨g10, g13, g15, g24, g30, g35, g37, g39, g41, g43, g47, g49, g55, g56, g59, g61, g63, g64, g65, g67, g69, g72, g74, g75, g77, g78, g79, g80, g83, True.intro⟩
noncomputable def tab : Nat → Option Ent := (tabOf ents).get
theorem fok : FOk Try.prog stl tab := fok_of goods
noncomputable def d0 : Disp := .leaf
theorem d0_ok : CallSim Try.prog tys stl tab d0.fn := Disp.sim True.intro
/- foghorn/plane.Mul -/
noncomputable def R13 (Q : Prim) (fu : Nat) (call : CallK) (a0 : CV) (a1 : CV) (h0 : HP) (c0 : Nat) (K : KV) : Bool :=
Q.genK (two Try.prog a0 fun v => Builtin.real_ #[24] 22 #[v]) fun v1 =>
Q.genK (two Try.prog a1 fun v => Builtin.real_ #[24] 22 #[v]) fun v2 =>
Q.mulK (binC Try.prog .mul 22 (.tmp 10) (.tmp 12) v1 v2) v1 v2 fun v3 =>
Q.genK (two Try.prog a0 fun v => Builtin.imag_ #[24] 22 #[v]) fun v4 =>
Q.genK (two Try.prog a1 fun v => Builtin.imag_ #[24] 22 #[v]) fun v5 =>
Q.mulK (binC Try.prog .mul 22 (.tmp 15) (.tmp 17) v4 v5) v4 v5 fun v6 =>
Q.genK (two Try.prog a0 fun v => Builtin.real_ #[24] 22 #[v]) fun v7 =>
Q.genK (two Try.prog a1 fun v => Builtin.imag_ #[24] 22 #[v]) fun v8 =>
Q.mulK (binC Try.prog .mul 22 (.tmp 20) (.tmp 22) v7 v8) v7 v8 fun v9 =>
Q.genK (two Try.prog a0 fun v => Builtin.imag_ #[24] 22 #[v]) fun v10 =>
Q.genK (two Try.prog a1 fun v => Builtin.real_ #[24] 22 #[v]) fun v11 =>
Q.mulK (binC Try.prog .mul 22 (.tmp 25) (.tmp 27) v10 v11) v10 v11 fun v12 =>
Q.subK (binC Try.prog .sub 22 (.tmp 29) (.tmp 30) v3 v6) v3 v6 fun v13 =>
Q.addK (binC Try.prog .add 22 (.tmp 32) (.tmp 33) v9 v12) v9 v12 fun v14 =>
Q.genK (two2 Try.prog v13 v14 fun v u => Builtin.complex_ #[22, 22] 24 #[v, u]) fun v15 =>
K v15 h0 c0
theorem R13_eq (Q : Prim) (fu : Nat) (call : CallK) : curryA 2 (fnK Q Try.prog tys stl fu call e13) = R13 Q fu call := by kernel_rfl
noncomputable def n13 : List CV → HP → Nat → KV → Bool := appF 2 (R13 real 1000000 d0.fn)
theorem n13_ok : ∀ args hp c K, n13 args hp c K = true → Out (fun N => enterK Try.prog tys tab (execC Try.prog tys stl tab N) 13 args hp c) (stl 13 = true) fun p => K p.1 p.2.1 p.2.2 = true := node_ok d0_ok (by kernel_rfl) rfl g13 (R13_eq _ _ _)
/- foghorn/plane.Turn -/
noncomputable def R15 (Q : Prim) (fu : Nat) (call : CallK) (a0 : CV) (a1 : CV) (h0 : HP) (c0 : Nat) (K : KV) : Bool :=
Q.genK (two Try.prog a0 fun v => Builtin.real_ #[24] 22 #[v]) fun v1 =>
Q.genK (two Try.prog a0 fun v => Builtin.imag_ #[24] 22 #[v]) fun v2 =>
Q.bitK Nat.land (binC Try.prog .and 3 (.tmp 11) (.const (.int .i64 (.ofNat 3))) a1 (.int .i64 (.ofNat 3))) a1 (.int .i64 (.ofNat 3)) fun v3 =>
Q.cmpK (cmpF .eql) (binC Try.prog .eql 3 (.tmp 12) (.const (.int .i64 (.ofNat 1))) v3 (.int .i64 (.ofNat 1))) v3 (.int .i64 (.ofNat 1)) fun v4 =>
Q.condK v4 (
Q.negK (two Try.prog v2 (Op.unary .neg)) v2 fun v5 =>
Q.genK (two2 Try.prog v5 v1 fun v u => Builtin.complex_ #[22, 22] 24 #[v, u]) fun v6 =>
K v6 h0 c0) (
Q.cmpK (cmpF .eql) (binC Try.prog .eql 3 (.tmp 12) (.const (.int .i64 (.ofNat 2))) v3 (.int .i64 (.ofNat 2))) v3 (.int .i64 (.ofNat 2)) fun v7 =>
Q.condK v7 (
Q.negK (two Try.prog v1 (Op.unary .neg)) v1 fun v8 =>
Q.negK (two Try.prog v2 (Op.unary .neg)) v2 fun v9 =>
Q.genK (two2 Try.prog v8 v9 fun v u => Builtin.complex_ #[22, 22] 24 #[v, u]) fun v10 =>
K v10 h0 c0) (
Q.cmpK (cmpF .eql) (binC Try.prog .eql 3 (.tmp 12) (.const (.int .i64 (.ofNat 3))) v3 (.int .i64 (.ofNat 3))) v3 (.int .i64 (.ofNat 3)) fun v11 =>
Q.condK v11 (
Q.negK (two Try.prog v1 (Op.unary .neg)) v1 fun v12 =>
Q.genK (two2 Try.prog v2 v12 fun v u => Builtin.complex_ #[22, 22] 24 #[v, u]) fun v13 =>
K v13 h0 c0) (
K a0 h0 c0)))
theorem R15_eq (Q : Prim) (fu : Nat) (call : CallK) : curryA 2 (fnK Q Try.prog tys stl fu call e15) = R15 Q fu call := by kernel_rfl
noncomputable def n15 : List CV → HP → Nat → KV → Bool := appF 2 (R15 real 1000000 d0.fn)
theorem n15_ok : ∀ args hp c K, n15 args hp c K = true → Out (fun N => enterK Try.prog tys tab (execC Try.prog tys stl tab N) 15 args hp c) (stl 15 = true) fun p => K p.1 p.2.1 p.2.2 = true := node_ok d0_ok (by kernel_rfl) rfl g15 (R15_eq _ _ _)
/- (foghorn/plane.Gauss).mayBe -/
noncomputable def R55 (Q : Prim) (fu : Nat) (call : CallK) (a0 : CV) (h0 : HP) (c0 : Nat) (K : KV) : Bool :=
Q.genM (boxC ⟨[], 0, h0, c0⟩ a0) fun v1 h2 c3 =>
Q.fadK 0 v1 fun v4 =>
Q.loadSK h2 v4 fun v5 =>
Q.cmpK (cmpF .geq) (binC Try.prog .geq 2 (.tmp 4) (.const (.int .i64 (.negSucc 1073741823))) v5 (.int .i64 (.negSucc 1073741823))) v5 (.int .i64 (.negSucc 1073741823)) fun v6 =>
Q.share _ (fun v8 h9 c10 =>
Q.share _ (fun v12 h13 c14 =>
Q.share _ (fun v16 h17 c18 =>
Q.pickK v6 v16 (.bool false) fun v19 =>
Q.share _ (fun v21 h22 c23 =>
Q.share _ (fun v25 h26 c27 =>
Q.share _ (fun v29 h30 c31 =>
Q.pickK v19 v29 (.bool false) fun v32 =>
Q.share _ (fun v34 h35 c36 =>
Q.share _ (fun v38 h39 c40 =>
Q.share _ (fun v42 h43 c44 =>
Q.pickK v32 v42 (.bool false) fun v45 =>
Q.killVK v1 h43 fun h46 =>
K v45 h46 c44) fun f41 =>
Q.guardK true v32 (Q.cmpK (cmpF .leq) (binC Try.prog .leq 2 (.tmp 18) (.const (.int .i64 (.ofNat 1073741824))) v38 (.int .i64 (.ofNat 1073741824))) v38 (.int .i64 (.ofNat 1073741824)) fun v47 =>
f41 v47 h39 c40) (f41 (.tup []) h39 c40)) fun f37 =>
Q.guardK true v32 (Q.loadSK h35 v34 fun v48 =>
f37 v48 h35 c36) (f37 (.tup []) h35 c36)) fun f33 =>
Q.guardK true v32 (Q.fadK 1 v1 fun v49 =>
f33 v49 h30 c31) (f33 (.tup []) h30 c31)) fun f28 =>
Q.guardK true v19 (Q.cmpK (cmpF .geq) (binC Try.prog .geq 2 (.tmp 13) (.const (.int .i64 (.negSucc 1073741823))) v25 (.int .i64 (.negSucc 1073741823))) v25 (.int .i64 (.negSucc 1073741823)) fun v50 =>
f28 v50 h26 c27) (f28 (.tup []) h26 c27)) fun f24 =>
Q.guardK true v19 (Q.loadSK h22 v21 fun v51 =>
f24 v51 h22 c23) (f24 (.tup []) h22 c23)) fun f20 =>
Q.guardK true v19 (Q.fadK 1 v1 fun v52 =>
f20 v52 h17 c18) (f20 (.tup []) h17 c18)) fun f15 =>
Q.guardK true v6 (Q.cmpK (cmpF .leq) (binC Try.prog .leq 2 (.tmp 8) (.const (.int .i64 (.ofNat 1073741824))) v12 (.int .i64 (.ofNat 1073741824))) v12 (.int .i64 (.ofNat 1073741824)) fun v53 =>
f15 v53 h13 c14) (f15 (.tup []) h13 c14)) fun f11 =>
Q.guardK true v6 (Q.loadSK h9 v8 fun v54 =>
f11 v54 h9 c10) (f11 (.tup []) h9 c10)) fun f7 =>
Q.guardK true v6 (Q.fadK 0 v1 fun v55 =>
f7 v55 h2 c3) (f7 (.tup []) h2 c3)
theorem R55_eq (Q : Prim) (fu : Nat) (call : CallK) : curryA 1 (fnK Q Try.prog tys stl fu call e55) = R55 Q fu call := by kernel_rfl
noncomputable def n55 : List CV → HP → Nat → KV → Bool := appF 1 (R55 real 1000000 d0.fn)
theorem n55_ok : ∀ args hp c K, n55 args hp c K = true → Out (fun N => enterK Try.prog tys tab (execC Try.prog tys stl tab N) 55 args hp c) (stl 55 = true) fun p => K p.1 p.2.1 p.2.2 = true := node_ok d0_ok (by kernel_rfl) rfl g55 (R55_eq _ _ _)
/- (foghorn/plane.Gauss).times -/
noncomputable def R56 (Q : Prim) (fu : Nat) (call : CallK) (a0 : CV) (a1 : CV) (h0 : HP) (c0 : Nat) (K : KV) : Bool :=
Q.genM (boxC ⟨[], 0, h0, c0⟩ a0) fun v1 h2 c3 =>
Q.genM (boxC ⟨[], 0, h2, c3⟩ a1) fun v4 h5 c6 =>
Q.genM (allocC tys ⟨[], 0, h5, c6⟩ 45) fun v7 h8 c9 =>
Q.fadK 0 v1 fun v10 =>
Q.loadSK h8 v10 fun v11 =>
Q.fadK 0 v4 fun v12 =>
Q.loadSK h8 v12 fun v13 =>
Q.mulK (binC Try.prog .mul 2 (.tmp 6) (.tmp 8) v11 v13) v11 v13 fun v14 =>
Q.fadK 1 v1 fun v15 =>
Q.loadSK h8 v15 fun v16 =>
Q.fadK 1 v4 fun v17 =>
Q.loadSK h8 v17 fun v18 =>
Q.mulK (binC Try.prog .mul 2 (.tmp 11) (.tmp 13) v16 v18) v16 v18 fun v19 =>
Q.subK (binC Try.prog .sub 2 (.tmp 9) (.tmp 14) v14 v19) v14 v19 fun v20 =>
Q.fadK 0 v1 fun v21 =>
Q.loadSK h8 v21 fun v22 =>
Q.fadK 1 v4 fun v23 =>
Q.loadSK h8 v23 fun v24 =>
Q.mulK (binC Try.prog .mul 2 (.tmp 17) (.tmp 19) v22 v24) v22 v24 fun v25 =>
Q.fadK 1 v1 fun v26 =>
Q.loadSK h8 v26 fun v27 =>
Q.fadK 0 v4 fun v28 =>
Q.loadSK h8 v28 fun v29 =>
Q.mulK (binC Try.prog .mul 2 (.tmp 22) (.tmp 24) v27 v29) v27 v29 fun v30 =>
Q.addK (binC Try.prog .add 2 (.tmp 20) (.tmp 25) v25 v30) v25 v30 fun v31 =>
Q.genK (buildV tys 45 [(0, v20), (1, v31)]) fun v32 =>
Q.storeAK (storeC tys ⟨[], 0, h8, 0⟩ 45 v7 v32) fun h33 =>
Q.genK (loadCC tys ⟨[], 0, h33, 0⟩ 45 v7) fun v34 =>
Q.killVK v1 h33 fun h35 =>
Q.killVK v4 h35 fun h36 =>
K v34 h36 c9
theorem R56_eq (Q : Prim) (fu : Nat) (call : CallK) : curryA 2 (fnK Q Try.prog tys stl fu call e56) = R56 Q fu call := by kernel_rfl
noncomputable def n56 : List CV → HP → Nat → KV → Bool := appF 2 (R56 real 1000000 d0.fn)
theorem n56_ok : ∀ args hp c K, n56 args hp c K = true → Out (fun N => enterK Try.prog tys tab (execC Try.prog tys stl tab N) 56 args hp c) (stl 56 = true) fun p => K p.1 p.2.1 p.2.2 = true := node_ok d0_ok (by kernel_rfl) rfl g56 (R56_eq _ _ _)
/- (foghorn/plane.Gauss).norm -/
noncomputable def R59 (Q : Prim) (fu : Nat) (call : CallK) (a0 : CV) (h0 : HP) (c0 : Nat) (K : KV) : Bool :=
Q.genM (boxC ⟨[], 0, h0, c0⟩ a0) fun v1 h2 c3 =>
Q.fadK 0 v1 fun v4 =>
Q.loadSK h2 v4 fun v5 =>
Q.fadK 0 v1 fun v6 =>
Q.loadSK h2 v6 fun v7 =>
Q.mulK (binC Try.prog .mul 2 (.tmp 4) (.tmp 6) v5 v7) v5 v7 fun v8 =>
Q.fadK 1 v1 fun v9 =>
Q.loadSK h2 v9 fun v10 =>
Q.fadK 1 v1 fun v11 =>
Q.loadSK h2 v11 fun v12 =>
Q.mulK (binC Try.prog .mul 2 (.tmp 9) (.tmp 11) v10 v12) v10 v12 fun v13 =>
Q.addK (binC Try.prog .add 2 (.tmp 7) (.tmp 12) v8 v13) v8 v13 fun v14 =>
Q.killVK v1 h2 fun h15 =>
K v14 h15 c3
theorem R59_eq (Q : Prim) (fu : Nat) (call : CallK) : curryA 1 (fnK Q Try.prog tys stl fu call e59) = R59 Q fu call := by kernel_rfl
noncomputable def n59 : List CV → HP → Nat → KV → Bool := appF 1 (R59 real 1000000 d0.fn)
theorem n59_ok : ∀ args hp c K, n59 args hp c K = true → Out (fun N => enterK Try.prog tys tab (execC Try.prog tys stl tab N) 59 args hp c) (stl 59 = true) fun p => K p.1 p.2.1 p.2.2 = true := node_ok d0_ok (by kernel_rfl) rfl g59 (R59_eq _ _ _)
/- foghorn/plane.isDepth -/
noncomputable def R63 (Q : Prim) (fu : Nat) (call : CallK) (a0 : CV) (h0 : HP) (c0 : Nat) (K : KV) : Bool :=
Q.cmpK (cmpF .geq) (binC Try.prog .geq 3 (.tmp 3) (.const (.int .i64 (.ofNat 0))) a0 (.int .i64 (.ofNat 0))) a0 (.int .i64 (.ofNat 0)) fun v1 =>
Q.share _ (fun v3 h4 c5 =>
Q.share _ (fun v7 h8 c9 =>
Q.pickK v1 v7 (.bool false) fun v10 =>
K v10 h8 c9) fun f6 =>
Q.guardK true v1 (Q.cmpK (cmpF .leq) (binC Try.prog .leq 3 (.tmp 6) (.const (.int .i64 (.ofNat 30))) v3 (.int .i64 (.ofNat 30))) v3 (.int .i64 (.ofNat 30)) fun v11 =>
f6 v11 h4 c5) (f6 (.tup []) h4 c5)) fun f2 =>
Q.guardK true v1 (f2 a0 h0 c0) (f2 (.tup []) h0 c0)
theorem R63_eq (Q : Prim) (fu : Nat) (call : CallK) : curryA 1 (fnK Q Try.prog tys stl fu call e63) = R63 Q fu call := by kernel_rfl
noncomputable def n63 : List CV → HP → Nat → KV → Bool := appF 1 (R63 real 1000000 d0.fn)
theorem n63_ok : ∀ args hp c K, n63 args hp c K = true → Out (fun N => enterK Try.prog tys tab (execC Try.prog tys stl tab N) 63 args hp c) (stl 63 = true) fun p => K p.1 p.2.1 p.2.2 = true := node_ok d0_ok (by kernel_rfl) rfl g63 (R63_eq _ _ _)
/- (foghorn/plane.Gauss).odd -/
noncomputable def R64 (Q : Prim) (fu : Nat) (call : CallK) (a0 : CV) (h0 : HP) (c0 : Nat) (K : KV) : Bool :=
Q.genM (boxC ⟨[], 0, h0, c0⟩ a0) fun v1 h2 c3 =>
Q.fadK 0 v1 fun v4 =>
Q.loadSK h2 v4 fun v5 =>
Q.fadK 1 v1 fun v6 =>
Q.loadSK h2 v6 fun v7 =>
Q.addK (binC Try.prog .add 2 (.tmp 4) (.tmp 6) v5 v7) v5 v7 fun v8 =>
Q.bitK Nat.land (binC Try.prog .and 2 (.tmp 7) (.const (.int .i64 (.ofNat 1))) v8 (.int .i64 (.ofNat 1))) v8 (.int .i64 (.ofNat 1)) fun v9 =>
Q.killVK v1 h2 fun h10 =>
K v9 h10 c3
theorem R64_eq (Q : Prim) (fu : Nat) (call : CallK) : curryA 1 (fnK Q Try.prog tys stl fu call e64) = R64 Q fu call := by kernel_rfl
noncomputable def n64 : List CV → HP → Nat → KV → Bool := appF 1 (R64 real 1000000 d0.fn)
theorem n64_ok : ∀ args hp c K, n64 args hp c K = true → Out (fun N => enterK Try.prog tys tab (execC Try.prog tys stl tab N) 64 args hp c) (stl 64 = true) fun p => K p.1 p.2.1 p.2.2 = true := node_ok d0_ok (by kernel_rfl) rfl g64 (R64_eq _ _ _)
/- (foghorn/plane.Gauss).divided -/
noncomputable def R65 (Q : Prim) (fu : Nat) (call : CallK) (a0 : CV) (h0 : HP) (c0 : Nat) (K : KV) : Bool :=
Q.genM (boxC ⟨[], 0, h0, c0⟩ a0) fun v1 h2 c3 =>
Q.genM (allocC tys ⟨[], 0, h2, c3⟩ 45) fun v4 h5 c6 =>
Q.fadK 0 v1 fun v7 =>
Q.loadSK h5 v7 fun v8 =>
Q.fadK 1 v1 fun v9 =>
Q.loadSK h5 v9 fun v10 =>
Q.addK (binC Try.prog .add 2 (.tmp 4) (.tmp 6) v8 v10) v8 v10 fun v11 =>
Q.quoK (binC Try.prog .quo 2 (.tmp 7) (.const (.int .i64 (.ofNat 2))) v11 (.int .i64 (.ofNat 2))) v11 (.int .i64 (.ofNat 2)) fun v12 =>
Q.fadK 1 v1 fun v13 =>
Q.loadSK h5 v13 fun v14 =>
Q.fadK 0 v1 fun v15 =>
Q.loadSK h5 v15 fun v16 =>
Q.subK (binC Try.prog .sub 2 (.tmp 10) (.tmp 12) v14 v16) v14 v16 fun v17 =>
Q.quoK (binC Try.prog .quo 2 (.tmp 13) (.const (.int .i64 (.ofNat 2))) v17 (.int .i64 (.ofNat 2))) v17 (.int .i64 (.ofNat 2)) fun v18 =>
Q.genK (buildV tys 45 [(0, v12), (1, v18)]) fun v19 =>
Q.storeAK (storeC tys ⟨[], 0, h5, 0⟩ 45 v4 v19) fun h20 =>
Q.genK (loadCC tys ⟨[], 0, h20, 0⟩ 45 v4) fun v21 =>
Q.killVK v1 h20 fun h22 =>
K v21 h22 c6
theorem R65_eq (Q : Prim) (fu : Nat) (call : CallK) : curryA 1 (fnK Q Try.prog tys stl fu call e65) = R65 Q fu call := by kernel_rfl
noncomputable def n65 : List CV → HP → Nat → KV → Bool := appF 1 (R65 real 1000000 d0.fn)
theorem n65_ok : ∀ args hp c K, n65 args hp c K = true → Out (fun N => enterK Try.prog tys tab (execC Try.prog tys stl tab N) 65 args hp c) (stl 65 = true) fun p => K p.1 p.2.1 p.2.2 = true := node_ok d0_ok (by kernel_rfl) rfl g65 (R65_eq _ _ _)
/- foghorn/plane.plus -/
noncomputable def R69 (Q : Prim) (fu : Nat) (call : CallK) (a0 : CV) (a1 : CV) (h0 : HP) (c0 : Nat) (K : KV) : Bool :=
Q.genK (two Try.prog a0 fun v => Builtin.real_ #[24] 22 #[v]) fun v1 =>
Q.genK (two Try.prog a1 fun v => Builtin.real_ #[24] 22 #[v]) fun v2 =>
Q.addK (binC Try.prog .add 22 (.tmp 6) (.tmp 8) v1 v2) v1 v2 fun v3 =>
Q.genK (two Try.prog a0 fun v => Builtin.imag_ #[24] 22 #[v]) fun v4 =>
Q.genK (two Try.prog a1 fun v => Builtin.imag_ #[24] 22 #[v]) fun v5 =>
Q.addK (binC Try.prog .add 22 (.tmp 11) (.tmp 13) v4 v5) v4 v5 fun v6 =>
Q.genK (two2 Try.prog v3 v6 fun v u => Builtin.complex_ #[22, 22] 24 #[v, u]) fun v7 =>
K v7 h0 c0
theorem R69_eq (Q : Prim) (fu : Nat) (call : CallK) : curryA 2 (fnK Q Try.prog tys stl fu call e69) = R69 Q fu call := by kernel_rfl
noncomputable def n69 : List CV → HP → Nat → KV → Bool := appF 2 (R69 real 1000000 d0.fn)
theorem n69_ok : ∀ args hp c K, n69 args hp c K = true → Out (fun N => enterK Try.prog tys tab (execC Try.prog tys stl tab N) 69 args hp c) (stl 69 = true) fun p => K p.1 p.2.1 p.2.2 = true := node_ok d0_ok (by kernel_rfl) rfl g69 (R69_eq _ _ _)
/- foghorn/plane.nearest -/
noncomputable def R72 (Q : Prim) (fu : Nat) (call : CallK) (a0 : CV) (a1 : CV) (h0 : HP) (c0 : Nat) (K : KV) : Bool :=
Q.mulK (binC Try.prog .mul 2 (.const (.int .i64 (.ofNat 2))) (.tmp 6) (.int .i64 (.ofNat 2)) a0) (.int .i64 (.ofNat 2)) a0 fun v1 =>
Q.subK (binC Try.prog .sub 2 (.tmp 7) (.tmp 8) v1 a1) v1 a1 fun v2 =>
Q.mulK (binC Try.prog .mul 2 (.tmp 10) (.const (.int .i64 (.ofNat 2))) a1 (.int .i64 (.ofNat 2))) a1 (.int .i64 (.ofNat 2)) fun v3 =>
Q.quoK (binC Try.prog .quo 2 (.tmp 12) (.tmp 13) v2 v3) v2 v3 fun v4 =>
Q.share _ (fun v5 h6 c7 =>
K v5 h6 c7) fun f8 =>
Q.remK (binC Try.prog .rem 2 (.tmp 15) (.tmp 16) v2 v3) v2 v3 fun v9 =>
Q.cmpK (cmpF .gtr) (binC Try.prog .gtr 2 (.tmp 17) (.const (.int .i64 (.ofNat 0))) v9 (.int .i64 (.ofNat 0))) v9 (.int .i64 (.ofNat 0)) fun v10 =>
Q.condK v10 (
Q.addK (binC Try.prog .add 2 (.tmp 19) (.const (.int .i64 (.ofNat 1))) v4 (.int .i64 (.ofNat 1))) v4 (.int .i64 (.ofNat 1)) fun v11 =>
f8 v11 h0 c0) (
f8 v4 h0 c0)
theorem R72_eq (Q : Prim) (fu : Nat) (call : CallK) : curryA 2 (fnK Q Try.prog tys stl fu call e72) = R72 Q fu call := by kernel_rfl
noncomputable def n72 : List CV → HP → Nat → KV → Bool := appF 2 (R72 real 1000000 d0.fn)
theorem n72_ok : ∀ args hp c K, n72 args hp c K = true → Out (fun N => enterK Try.prog tys tab (execC Try.prog tys stl tab N) 72 args hp c) (stl 72 = true) fun p => K p.1 p.2.1 p.2.2 = true := node_ok d0_ok (by kernel_rfl) rfl g72 (R72_eq _ _ _)
noncomputable def n77 : List CV → HP → Nat → KV → Bool := extN Try.prog 77
theorem n77_ok : ∀ args hp c K, n77 args hp c K = true → Out (fun N => enterK Try.prog tys tab (execC Try.prog tys stl tab N) 77 args hp c) (stl 77 = true) fun p => K p.1 p.2.1 p.2.2 = true := ext_ok (e := e77) (by kernel_rfl) rfl
noncomputable def n78 : List CV → HP → Nat → KV → Bool := extN Try.prog 78
theorem n78_ok : ∀ args hp c K, n78 args hp c K = true → Out (fun N => enterK Try.prog tys tab (execC Try.prog tys stl tab N) 78 args hp c) (stl 78 = true) fun p => K p.1 p.2.1 p.2.2 = true := ext_ok (e := e78) (by kernel_rfl) rfl
noncomputable def n79 : List CV → HP → Nat → KV → Bool := extN Try.prog 79
theorem n79_ok : ∀ args hp c K, n79 args hp c K = true → Out (fun N => enterK Try.prog tys tab (execC Try.prog tys stl tab N) 79 args hp c) (stl 79 = true) fun p => K p.1 p.2.1 p.2.2 = true := ext_ok (e := e79) (by kernel_rfl) rfl
noncomputable def d1 : Disp := (.node 64 n64 (.node 56 n56 (.node 15 n15 (.node 13 n13 .leaf .leaf) (.node 55 n55 .leaf .leaf)) (.node 63 n63 (.node 59 n59 .leaf .leaf) .leaf)) (.node 77 n77 (.node 69 n69 (.node 65 n65 .leaf .leaf) (.node 72 n72 .leaf .leaf)) (.node 79 n79 (.node 78 n78 .leaf .leaf) .leaf)))
theorem d1_ok : CallSim Try.prog tys stl tab d1.fn := Disp.sim ⟨n64_ok, ⟨n56_ok, ⟨n15_ok, ⟨n13_ok, True.intro, True.intro⟩, ⟨n55_ok, True.intro, True.intro⟩⟩, ⟨n63_ok, ⟨n59_ok, True.intro, True.intro⟩, True.intro⟩⟩, ⟨n77_ok, ⟨n69_ok, ⟨n65_ok, True.intro, True.intro⟩, ⟨n72_ok, True.intro, True.intro⟩⟩, ⟨n79_ok, ⟨n78_ok, True.intro, True.intro⟩, True.intro⟩⟩⟩
/- (foghorn/plane.Gauss).Norm -/
noncomputable def R30 (Q : Prim) (fu : Nat) (call : CallK) (a0 : CV) (h0 : HP) (c0 : Nat) (K : KV) : Bool :=
Q.genM (boxC ⟨[], 0, h0, c0⟩ a0) fun v1 h2 c3 =>
Q.genK (loadCC tys ⟨[], 0, h2, 0⟩ 45 v1) fun v4 =>
call 55 [v4] h2 c3 fun v5 h6 c7 =>
Q.notK (two Try.prog v5 (Op.unary .not)) v5 fun v8 =>
Q.condK v8 (
Q.killVK v1 h6 fun h9 =>
K (.tup [(.int .i64 (.ofNat 0)), (.int .i64 (.ofNat 1))]) h9 c7) (
Q.genK (loadCC tys ⟨[], 0, h6, 0⟩ 45 v1) fun v10 =>
call 59 [v10] h6 c7 fun v11 h12 c13 =>
Q.killVK v1 h12 fun h14 =>
K (.tup [v11, (.int .i64 (.ofNat 0))]) h14 c13)
theorem R30_eq (Q : Prim) (fu : Nat) (call : CallK) : curryA 1 (fnK Q Try.prog tys stl fu call e30) = R30 Q fu call := by kernel_rfl
noncomputable def n30 : List CV → HP → Nat → KV → Bool := appF 1 (R30 real 1000000 d1.fn)
theorem n30_ok : ∀ args hp c K, n30 args hp c K = true → Out (fun N => enterK Try.prog tys tab (execC Try.prog tys stl tab N) 30 args hp c) (stl 30 = true) fun p => K p.1 p.2.1 p.2.2 = true := node_ok d1_ok (by kernel_rfl) rfl g30 (R30_eq _ _ _)
/- (foghorn/plane.Gauss).Class -/
noncomputable def R37 (Q : Prim) (fu : Nat) (call : CallK) (a0 : CV) (a1 : CV) (h0 : HP) (c0 : Nat) (K : KV) : Bool :=
Q.genM (boxC ⟨[], 0, h0, c0⟩ a0) fun v1 h2 c3 =>
Q.genK (loadCC tys ⟨[], 0, h2, 0⟩ 45 v1) fun v4 =>
call 55 [v4] h2 c3 fun v5 h6 c7 =>
Q.notK (two Try.prog v5 (Op.unary .not)) v5 fun v8 =>
Q.share _ (fun v10 h11 c12 =>
Q.share _ (fun v14 h15 c16 =>
Q.share _ (fun v18 h19 c20 =>
Q.pickK v8 (.bool true) v18 fun v21 =>
Q.condK v21 (
Q.killVK v1 h19 fun h22 =>
K (.tup [(.int .u32 (.ofNat 0)), (.int .i64 (.ofNat 1))]) h22 c20) (
@Nat.rec (fun _ => Fun 2) (fun _ _ _ _ => false) (fun _ f27 v23 v24 h25 c26 =>
Q.cmpK (cmpF .lss) (binC Try.prog .lss 3 (.tmp 18) (.tmp 17) v24 a1) v24 a1 fun v28 =>
Q.condK v28 (
Q.genK (loadCC tys ⟨[], 0, h25, 0⟩ 45 v1) fun v29 =>
call 64 [v29] h25 c26 fun v30 h31 c32 =>
Q.icvF .u32 (convC Try.prog tys ⟨[], 0, h31, 0⟩ 2 42 v30) v30 fun v33 =>
Q.shlK (binC Try.prog .shl 42 (.tmp 25) (.tmp 26) v33 v24) v33 v24 fun v34 =>
Q.bitK Nat.lor (binC Try.prog .or 42 (.tmp 23) (.tmp 27) v23 v34) v23 v34 fun v35 =>
Q.fadK 0 v1 fun v36 =>
Q.loadSK h31 v36 fun v37 =>
Q.subK (binC Try.prog .sub 2 (.tmp 30) (.tmp 31) v37 v30) v37 v30 fun v38 =>
Q.fadK 0 v1 fun v39 =>
Q.storeSK h31 v39 v38 fun h40 =>
Q.genK (loadCC tys ⟨[], 0, h40, 0⟩ 45 v1) fun v41 =>
call 65 [v41] h40 c32 fun v42 h43 c44 =>
Q.storeAK (storeC tys ⟨[], 0, h43, 0⟩ 45 v1 v42) fun h45 =>
Q.addK (binC Try.prog .add 3 (.tmp 18) (.const (.int .i64 (.ofNat 1))) v24 (.int .i64 (.ofNat 1))) v24 (.int .i64 (.ofNat 1)) fun v46 =>
f27 v35 v46 h45 c44) (
Q.killVK v1 h25 fun h47 =>
K (.tup [v23, (.int .i64 (.ofNat 0))]) h47 c26)) fu (.int .u32 (.ofNat 0)) (.int .i64 (.ofNat 0)) h19 c20)) fun f17 =>
Q.guardK false v8 (Q.notK (two Try.prog v14 (Op.unary .not)) v14 fun v48 =>
f17 v48 h15 c16) (f17 (.tup []) h15 c16)) fun f13 =>
Q.guardK false v8 (call 63 [v10] h11 c12 fun v49 h50 c51 =>
f13 v49 h50 c51) (f13 (.tup []) h11 c12)) fun f9 =>
Q.guardK false v8 (f9 a1 h6 c7) (f9 (.tup []) h6 c7)
theorem R37_eq (Q : Prim) (fu : Nat) (call : CallK) : curryA 2 (fnK Q Try.prog tys stl fu call e37) = R37 Q fu call := by kernel_rfl
noncomputable def n37 : List CV → HP → Nat → KV → Bool := appF 2 (R37 real 1000000 d1.fn)
theorem n37_ok : ∀ args hp c K, n37 args hp c K = true → Out (fun N => enterK Try.prog tys tab (execC Try.prog tys stl tab N) 37 args hp c) (stl 37 = true) fun p => K p.1 p.2.1 p.2.2 = true := node_ok d1_ok (by kernel_rfl) rfl g37 (R37_eq _ _ _)
/- foghorn/plane.First -/
noncomputable def R39 (Q : Prim) (fu : Nat) (call : CallK) (a0 : CV) (a1 : CV) (h0 : HP) (c0 : Nat) (K : KV) : Bool :=
Q.genM (allocC tys ⟨[], 0, h0, c0⟩ 45) fun v1 h2 c3 =>
call 63 [a1] h2 c3 fun v4 h5 c6 =>
Q.notK (two Try.prog v4 (Op.unary .not)) v4 fun v7 =>
Q.share _ (fun v9 h10 c11 =>
Q.share _ (fun v13 h14 c15 =>
Q.share _ (fun v17 h18 c19 =>
Q.share _ (fun v21 h22 c23 =>
Q.pickK v7 (.bool true) v21 fun v24 =>
Q.condK v24 (
Q.genK (buildV tys 45 []) fun v25 =>
Q.storeAK (storeC tys ⟨[], 0, h22, 0⟩ 45 v1 v25) fun h26 =>
Q.genK (loadCC tys ⟨[], 0, h26, 0⟩ 45 v1) fun v27 =>
Q.killVK (.tup []) h26 fun h28 =>
Q.killVK (.tup []) h28 fun h29 =>
K (.tup [v27, (.int .i64 (.ofNat 1))]) h29 c23) (
Q.genM (allocC tys ⟨[], 0, h22, c23⟩ 45) fun v30 h31 c32 =>
Q.genK (buildV tys 45 [(0, (.int .i64 (.ofNat 1))), (1, (.int .i64 (.ofNat 0)))]) fun v33 =>
Q.genM (allocC tys ⟨[], 0, h31, c32⟩ 45) fun v34 h35 c36 =>
Q.storeAK (storeC tys ⟨[], 0, h35, 0⟩ 45 v34 v33) fun h37 =>
@Nat.rec (fun _ => Fun 1) (fun _ _ _ => false) (fun _ f41 v38 h39 c40 =>
Q.cmpK (cmpF .lss) (binC Try.prog .lss 3 (.tmp 21) (.tmp 20) v38 a1) v38 a1 fun v42 =>
Q.condK v42 (
Q.share _ (fun h43 c44 =>
Q.genK (loadCC tys ⟨[], 0, h43, 0⟩ 45 v34) fun v46 =>
Q.genK (buildV tys 45 [(0, (.int .i64 (.ofNat 1))), (1, (.int .i64 (.ofNat 1)))]) fun v47 =>
call 56 [v46, v47] h43 c44 fun v48 h49 c50 =>
Q.storeAK (storeC tys ⟨[], 0, h49, 0⟩ 45 v34 v48) fun h51 =>
Q.addK (binC Try.prog .add 3 (.tmp 21) (.const (.int .i64 (.ofNat 1))) v38 (.int .i64 (.ofNat 1))) v38 (.int .i64 (.ofNat 1)) fun v52 =>
f41 v52 h51 c50) fun f45 =>
Q.shrK (binC Try.prog .shr 42 (.tmp 24) (.tmp 25) a0 v38) a0 v38 fun v53 =>
Q.bitK Nat.land (binC Try.prog .and 42 (.tmp 26) (.const (.int .u32 (.ofNat 1))) v53 (.int .u32 (.ofNat 1))) v53 (.int .u32 (.ofNat 1)) fun v54 =>
Q.cmpK (cmpF .neq) (binC Try.prog .neq 42 (.tmp 27) (.const (.int .u32 (.ofNat 0))) v54 (.int .u32 (.ofNat 0))) v54 (.int .u32 (.ofNat 0)) fun v55 =>
Q.condK v55 (
Q.fadK 0 v30 fun v56 =>
Q.loadSK h39 v56 fun v57 =>
Q.fadK 0 v34 fun v58 =>
Q.loadSK h39 v58 fun v59 =>
Q.addK (binC Try.prog .add 2 (.tmp 30) (.tmp 32) v57 v59) v57 v59 fun v60 =>
Q.fadK 1 v30 fun v61 =>
Q.loadSK h39 v61 fun v62 =>
Q.fadK 1 v34 fun v63 =>
Q.loadSK h39 v63 fun v64 =>
Q.addK (binC Try.prog .add 2 (.tmp 35) (.tmp 37) v62 v64) v62 v64 fun v65 =>
Q.genK (buildV tys 45 [(0, v60), (1, v65)]) fun v66 =>
Q.storeAK (storeC tys ⟨[], 0, h39, 0⟩ 45 v30 v66) fun h67 =>
f45 h67 c40) (
f45 h39 c40)) (
Q.genK (loadCC tys ⟨[], 0, h39, 0⟩ 45 v30) fun v68 =>
Q.storeAK (storeC tys ⟨[], 0, h39, 0⟩ 45 v1 v68) fun h69 =>
Q.genK (loadCC tys ⟨[], 0, h69, 0⟩ 45 v1) fun v70 =>
Q.killVK v30 h69 fun h71 =>
Q.killVK v34 h71 fun h72 =>
K (.tup [v70, (.int .i64 (.ofNat 0))]) h72 c40)) fu (.int .i64 (.ofNat 0)) h37 c36)) fun f20 =>
Q.guardK false v7 (Q.cmpK (cmpF .geq) (binC Try.prog .geq 42 (.tmp 13) (.tmp 15) v9 v17) v9 v17 fun v73 =>
f20 v73 h18 c19) (f20 (.tup []) h18 c19)) fun f16 =>
Q.guardK false v7 (Q.shlK (binC Try.prog .shl 42 (.const (.int .u32 (.ofNat 1))) (.tmp 14) (.int .u32 (.ofNat 1)) v13) (.int .u32 (.ofNat 1)) v13 fun v74 =>
f16 v74 h14 c15) (f16 (.tup []) h14 c15)) fun f12 =>
Q.guardK false v7 (f12 a1 h10 c11) (f12 (.tup []) h10 c11)) fun f8 =>
Q.guardK false v7 (f8 a0 h5 c6) (f8 (.tup []) h5 c6)
theorem R39_eq (Q : Prim) (fu : Nat) (call : CallK) : curryA 2 (fnK Q Try.prog tys stl fu call e39) = R39 Q fu call := by kernel_rfl
noncomputable def n39 : List CV → HP → Nat → KV → Bool := appF 2 (R39 real 1000000 d1.fn)
theorem n39_ok : ∀ args hp c K, n39 args hp c K = true → Out (fun N => enterK Try.prog tys tab (execC Try.prog tys stl tab N) 39 args hp c) (stl 39 = true) fun p => K p.1 p.2.1 p.2.2 = true := node_ok d1_ok (by kernel_rfl) rfl g39 (R39_eq _ _ _)
/- (foghorn/plane.Gauss).Depth -/
noncomputable def R41 (Q : Prim) (fu : Nat) (call : CallK) (a0 : CV) (h0 : HP) (c0 : Nat) (K : KV) : Bool :=
Q.genM (boxC ⟨[], 0, h0, c0⟩ a0) fun v1 h2 c3 =>
Q.genK (loadCC tys ⟨[], 0, h2, 0⟩ 45 v1) fun v4 =>
call 55 [v4] h2 c3 fun v5 h6 c7 =>
Q.notK (two Try.prog v5 (Op.unary .not)) v5 fun v8 =>
Q.condK v8 (
Q.killVK v1 h6 fun h9 =>
K (.tup [(.int .i64 (.ofNat 0)), (.int .i64 (.ofNat 1))]) h9 c7) (
Q.genK (loadCC tys ⟨[], 0, h6, 0⟩ 45 v1) fun v10 =>
Q.genK (buildV tys 45 []) fun v11 =>
Q.cmpK (cmpF .eql) (binC Try.prog .eql 45 (.tmp 8) (.tmp 9) v10 v11) v10 v11 fun v12 =>
Q.condK v12 (
Q.killVK v1 h6 fun h13 =>
K (.tup [(.int .i64 (.ofNat 0)), (.int .i64 (.ofNat 6))]) h13 c7) (
@Nat.rec (fun _ => Fun 1) (fun _ _ _ => false) (fun _ f17 v14 h15 c16 =>
Q.genK (loadCC tys ⟨[], 0, h15, 0⟩ 45 v1) fun v18 =>
call 64 [v18] h15 c16 fun v19 h20 c21 =>
Q.cmpK (cmpF .eql) (binC Try.prog .eql 2 (.tmp 12) (.const (.int .i64 (.ofNat 0))) v19 (.int .i64 (.ofNat 0))) v19 (.int .i64 (.ofNat 0)) fun v22 =>
Q.condK v22 (
Q.genK (loadCC tys ⟨[], 0, h20, 0⟩ 45 v1) fun v23 =>
call 65 [v23] h20 c21 fun v24 h25 c26 =>
Q.storeAK (storeC tys ⟨[], 0, h25, 0⟩ 45 v1 v24) fun h27 =>
Q.addK (binC Try.prog .add 3 (.tmp 14) (.const (.int .i64 (.ofNat 1))) v14 (.int .i64 (.ofNat 1))) v14 (.int .i64 (.ofNat 1)) fun v28 =>
f17 v28 h27 c26) (
Q.killVK v1 h20 fun h29 =>
K (.tup [v14, (.int .i64 (.ofNat 0))]) h29 c21)) fu (.int .i64 (.ofNat 0)) h6 c7))
theorem R41_eq (Q : Prim) (fu : Nat) (call : CallK) : curryA 1 (fnK Q Try.prog tys stl fu call e41) = R41 Q fu call := by kernel_rfl
noncomputable def n41 : List CV → HP → Nat → KV → Bool := appF 1 (R41 real 1000000 d1.fn)
theorem n41_ok : ∀ args hp c K, n41 args hp c K = true → Out (fun N => enterK Try.prog tys tab (execC Try.prog tys stl tab N) 41 args hp c) (stl 41 = true) fun p => K p.1 p.2.1 p.2.2 = true := node_ok d1_ok (by kernel_rfl) rfl g41 (R41_eq _ _ _)
/- foghorn/plane.Sum -/
noncomputable def R47 (Q : Prim) (fu : Nat) (call : CallK) (a0 : CV) (h0 : HP) (c0 : Nat) (K : KV) : Bool :=
Q.lenF (lenC tys 36 a0) a0 fun v1 =>
@Nat.rec (fun _ => Fun 2) (fun _ _ _ _ => false) (fun _ f6 v2 v3 h4 c5 =>
Q.cmpK (cmpF .lss) (binC Try.prog .lss 3 (.tmp 8) (.tmp 7) v3 v1) v3 v1 fun v7 =>
Q.condK v7 (
Q.idxSK 1 a0 v3 fun v8 =>
Q.loadSK h4 v8 fun v9 =>
call 69 [v2, v9] h4 c5 fun v10 h11 c12 =>
Q.addK (binC Try.prog .add 3 (.tmp 8) (.const (.int .i64 (.ofNat 1))) v3 (.int .i64 (.ofNat 1))) v3 (.int .i64 (.ofNat 1)) fun v13 =>
f6 v10 v13 h11 c12) (
K v2 h4 c5)) fu (.cpx .f64 0 0) (.int .i64 (.ofNat 0)) h0 c0
theorem R47_eq (Q : Prim) (fu : Nat) (call : CallK) : curryA 1 (fnK Q Try.prog tys stl fu call e47) = R47 Q fu call := by kernel_rfl
noncomputable def n47 : List CV → HP → Nat → KV → Bool := appF 1 (R47 real 1000000 d1.fn)
theorem n47_ok : ∀ args hp c K, n47 args hp c K = true → Out (fun N => enterK Try.prog tys tab (execC Try.prog tys stl tab N) 47 args hp c) (stl 47 = true) fun p => K p.1 p.2.1 p.2.2 = true := node_ok d1_ok (by kernel_rfl) rfl g47 (R47_eq _ _ _)
/- foghorn/plane.Filter -/
noncomputable def R49 (Q : Prim) (fu : Nat) (call : CallK) (a0 : CV) (a1 : CV) (h0 : HP) (c0 : Nat) (K : KV) : Bool :=
Q.lenF (lenC tys 36 a0) a0 fun v1 =>
Q.cmpK (cmpF .lss) (binC Try.prog .lss 3 (.tmp 10) (.const (.int .i64 (.ofNat 1))) v1 (.int .i64 (.ofNat 1))) v1 (.int .i64 (.ofNat 1)) fun v2 =>
Q.share _ (fun v4 h5 c6 =>
Q.share _ (fun v8 h9 c10 =>
Q.share _ (fun v12 h13 c14 =>
Q.pickK v2 (.bool true) v12 fun v15 =>
Q.share _ (fun v17 h18 c19 =>
Q.share _ (fun v21 h22 c23 =>
Q.share _ (fun v25 h26 c27 =>
Q.pickK v15 (.bool true) v25 fun v28 =>
Q.condK v28 (
K (.tup [.nils, (.int .i64 (.ofNat 1))]) h26 c27) (
Q.lenF (lenC tys 36 a1) a1 fun v29 =>
Q.genM (makeC tys ⟨[], 0, h26, c27⟩ 36 v29 v29) fun v30 h31 c32 =>
Q.lenF (lenC tys 36 v30) v30 fun v33 =>
@Nat.rec (fun _ => Fun 1) (fun _ _ _ => false) (fun _ f37 v34 h35 c36 =>
Q.cmpK (cmpF .lss) (binC Try.prog .lss 3 (.tmp 27) (.tmp 26) v34 v33) v34 v33 fun v38 =>
Q.condK v38 (
Q.addK (binC Try.prog .add 3 (.tmp 30) (.const (.int .i64 (.ofNat 1))) v34 (.int .i64 (.ofNat 1))) v34 (.int .i64 (.ofNat 1)) fun v39 =>
Q.lenF (lenC tys 36 a0) a0 fun v40 =>
Q.genK (two2 Try.prog v39 v40 fun v u => Builtin.min_ #[3, 3] 3 #[v, u]) fun v41 =>
@Nat.rec (fun _ => Fun 1) (fun _ _ _ => false) (fun _ f45 v42 h43 c44 =>
Q.cmpK (cmpF .lss) (binC Try.prog .lss 3 (.tmp 35) (.tmp 34) v42 v41) v42 v41 fun v46 =>
Q.condK v46 (
Q.idxSK 1 v30 v34 fun v47 =>
Q.loadSK h43 v47 fun v48 =>
Q.idxSK 1 a0 v42 fun v49 =>
Q.loadSK h43 v49 fun v50 =>
Q.subK (binC Try.prog .sub 3 (.tmp 49) (.tmp 50) v34 v42) v34 v42 fun v51 =>
Q.idxSK 1 a1 v51 fun v52 =>
Q.loadSK h43 v52 fun v53 =>
call 13 [v50, v53] h43 c44 fun v54 _ _ => Q.knownK v54 (
call 69 [v48, v54] h43 c44 fun v55 _ _ => Q.knownK v55 (
Q.idxSK 1 v30 v34 fun v56 =>
Q.storeSK h43 v56 v55 fun h57 =>
Q.addK (binC Try.prog .add 3 (.tmp 35) (.const (.int .i64 (.ofNat 1))) v42 (.int .i64 (.ofNat 1))) v42 (.int .i64 (.ofNat 1)) fun v58 =>
f45 v58 h57 c44))) (
Q.addK (binC Try.prog .add 3 (.tmp 27) (.const (.int .i64 (.ofNat 1))) v34 (.int .i64 (.ofNat 1))) v34 (.int .i64 (.ofNat 1)) fun v59 =>
f37 v59 h43 c44)) fu (.int .i64 (.ofNat 0)) h35 c36) (
K (.tup [v30, (.int .i64 (.ofNat 0))]) h35 c36)) fu (.int .i64 (.ofNat 0)) h31 c32)) fun f24 =>
Q.guardK false v15 (Q.cmpK (cmpF .gtr) (binC Try.prog .gtr 3 (.tmp 19) (.const (.int .i64 (.ofNat 65536))) v21 (.int .i64 (.ofNat 65536))) v21 (.int .i64 (.ofNat 65536)) fun v60 =>
f24 v60 h22 c23) (f24 (.tup []) h22 c23)) fun f20 =>
Q.guardK false v15 (Q.lenF (lenC tys 36 v17) v17 fun v61 =>
f20 v61 h18 c19) (f20 (.tup []) h18 c19)) fun f16 =>
Q.guardK false v15 (f16 a1 h13 c14) (f16 (.tup []) h13 c14)) fun f11 =>
Q.guardK false v2 (Q.cmpK (cmpF .gtr) (binC Try.prog .gtr 3 (.tmp 14) (.const (.int .i64 (.ofNat 64))) v8 (.int .i64 (.ofNat 64))) v8 (.int .i64 (.ofNat 64)) fun v62 =>
f11 v62 h9 c10) (f11 (.tup []) h9 c10)) fun f7 =>
Q.guardK false v2 (Q.lenF (lenC tys 36 v4) v4 fun v63 =>
f7 v63 h5 c6) (f7 (.tup []) h5 c6)) fun f3 =>
Q.guardK false v2 (f3 a0 h0 c0) (f3 (.tup []) h0 c0)
theorem R49_eq (Q : Prim) (fu : Nat) (call : CallK) : curryA 2 (fnK Q Try.prog tys stl fu call e49) = R49 Q fu call := by kernel_rfl
noncomputable def n49 : List CV → HP → Nat → KV → Bool := appF 2 (R49 real 1000000 d1.fn)
theorem n49_ok : ∀ args hp c K, n49 args hp c K = true → Out (fun N => enterK Try.prog tys tab (execC Try.prog tys stl tab N) 49 args hp c) (stl 49 = true) fun p => K p.1 p.2.1 p.2.2 = true := node_ok d1_ok (by kernel_rfl) rfl g49 (R49_eq _ _ _)
/- (foghorn/plane.Gauss).by -/
noncomputable def R61 (Q : Prim) (fu : Nat) (call : CallK) (a0 : CV) (a1 : CV) (h0 : HP) (c0 : Nat) (K : KV) : Bool :=
Q.genM (boxC ⟨[], 0, h0, c0⟩ a0) fun v1 h2 c3 =>
Q.genM (boxC ⟨[], 0, h2, c3⟩ a1) fun v4 h5 c6 =>
Q.genM (allocC tys ⟨[], 0, h5, c6⟩ 45) fun v7 h8 c9 =>
Q.genM (allocC tys ⟨[], 0, h8, c9⟩ 45) fun v10 h11 c12 =>
Q.genK (loadCC tys ⟨[], 0, h11, 0⟩ 45 v1) fun v13 =>
Q.fadK 0 v4 fun v14 =>
Q.loadSK h11 v14 fun v15 =>
Q.fadK 1 v4 fun v16 =>
Q.loadSK h11 v16 fun v17 =>
Q.negK (two Try.prog v17 (Op.unary .neg)) v17 fun v18 =>
Q.genK (buildV tys 45 [(0, v15), (1, v18)]) fun v19 =>
call 56 [v13, v19] h11 c12 fun v20 h21 c22 =>
Q.genM (allocC tys ⟨[], 0, h21, c22⟩ 45) fun v23 h24 c25 =>
Q.storeAK (storeC tys ⟨[], 0, h24, 0⟩ 45 v23 v20) fun h26 =>
Q.genK (loadCC tys ⟨[], 0, h26, 0⟩ 45 v4) fun v27 =>
call 59 [v27] h26 c25 fun v28 h29 c30 =>
Q.fadK 0 v23 fun v31 =>
Q.loadSK h29 v31 fun v32 =>
call 72 [v32, v28] h29 c30 fun v33 _ _ => Q.knownK v33 (
Q.fadK 1 v23 fun v34 =>
Q.loadSK h29 v34 fun v35 =>
call 72 [v35, v28] h29 c30 fun v36 _ _ => Q.knownK v36 (
Q.genK (buildV tys 45 [(0, v33), (1, v36)]) fun v37 =>
Q.storeAK (storeC tys ⟨[], 0, h29, 0⟩ 45 v7 v37) fun h38 =>
Q.genK (loadCC tys ⟨[], 0, h38, 0⟩ 45 v7) fun v39 =>
Q.genK (loadCC tys ⟨[], 0, h38, 0⟩ 45 v4) fun v40 =>
call 56 [v39, v40] h38 c30 fun v41 h42 c43 =>
Q.genM (allocC tys ⟨[], 0, h42, c43⟩ 45) fun v44 h45 c46 =>
Q.storeAK (storeC tys ⟨[], 0, h45, 0⟩ 45 v44 v41) fun h47 =>
Q.genK (loadCC tys ⟨[], 0, h47, 0⟩ 45 v7) fun v48 =>
Q.fadK 0 v1 fun v49 =>
Q.detK v49 (
Q.fadK 0 v44 fun v50 =>
Q.detK v50 (
Q.fadK 1 v1 fun v51 =>
Q.detK v51 (
Q.fadK 1 v44 fun v52 =>
Q.detK v52 (
Q.ifB (Q.loadSK h47 v49 fun v53 =>
Q.ifB (Q.loadSK h47 v50 fun v54 =>
Q.subK (binC Try.prog .sub 2 (.tmp 33) (.tmp 35) v53 v54) v53 v54 fun v55 =>
Q.detK v55 (
Q.ifB (Q.loadSK h47 v51 fun v56 =>
Q.ifB (Q.loadSK h47 v52 fun v57 =>
Q.subK (binC Try.prog .sub 2 (.tmp 38) (.tmp 40) v56 v57) v56 v57 fun v58 =>
Q.detK v58 (
Q.ifB (Q.genK (buildV tys 45 [(0, v55), (1, v58)]) fun v59 =>
Q.storeAK (storeC tys ⟨[], 0, h47, 0⟩ 45 v7 v48) fun h60 =>
Q.storeAK (storeC tys ⟨[], 0, h60, 0⟩ 45 v10 v59) fun h61 =>
Q.genK (loadCC tys ⟨[], 0, h61, 0⟩ 45 v7) fun v62 =>
Q.genK (loadCC tys ⟨[], 0, h61, 0⟩ 45 v10) fun v63 =>
Q.killVK v1 h61 fun h64 =>
Q.killVK v4 h64 fun h65 =>
Q.killVK v23 h65 fun h66 =>
Q.killVK v44 h66 fun h67 =>
K (.tup [v62, v63]) h67 c46) (Q.ifB (Q.storeAK (storeC tys ⟨[], 0, h47, 0⟩ 45 v7 v48) fun h68 =>
Q.genK (buildV tys 45 [(0, v55), (1, v58)]) fun v69 =>
Q.storeAK (storeC tys ⟨[], 0, h68, 0⟩ 45 v10 v69) fun h70 =>
Q.genK (loadCC tys ⟨[], 0, h70, 0⟩ 45 v7) fun v71 =>
Q.genK (loadCC tys ⟨[], 0, h70, 0⟩ 45 v10) fun v72 =>
Q.killVK v1 h70 fun h73 =>
Q.killVK v4 h73 fun h74 =>
Q.killVK v23 h74 fun h75 =>
Q.killVK v44 h75 fun h76 =>
K (.tup [v71, v72]) h76 c46) (true) false) false)) (Q.ifB (Q.storeAK (storeC tys ⟨[], 0, h47, 0⟩ 45 v7 v48) fun h77 =>
Q.loadSK h77 v52 fun v78 =>
Q.subK (binC Try.prog .sub 2 (.tmp 38) (.tmp 40) v56 v78) v56 v78 fun v79 =>
Q.genK (buildV tys 45 [(0, v55), (1, v79)]) fun v80 =>
Q.storeAK (storeC tys ⟨[], 0, h77, 0⟩ 45 v10 v80) fun h81 =>
Q.genK (loadCC tys ⟨[], 0, h81, 0⟩ 45 v7) fun v82 =>
Q.genK (loadCC tys ⟨[], 0, h81, 0⟩ 45 v10) fun v83 =>
Q.killVK v1 h81 fun h84 =>
Q.killVK v4 h84 fun h85 =>
Q.killVK v23 h85 fun h86 =>
Q.killVK v44 h86 fun h87 =>
K (.tup [v82, v83]) h87 c46) (true) false) false) (Q.ifB (Q.loadSK h47 v52 fun v88 =>
Q.ifB (Q.loadSK h47 v51 fun v89 =>
Q.subK (binC Try.prog .sub 2 (.tmp 38) (.tmp 40) v89 v88) v89 v88 fun v90 =>
Q.detK v90 (
Q.ifB (Q.genK (buildV tys 45 [(0, v55), (1, v90)]) fun v91 =>
Q.storeAK (storeC tys ⟨[], 0, h47, 0⟩ 45 v7 v48) fun h92 =>
Q.storeAK (storeC tys ⟨[], 0, h92, 0⟩ 45 v10 v91) fun h93 =>
Q.genK (loadCC tys ⟨[], 0, h93, 0⟩ 45 v7) fun v94 =>
Q.genK (loadCC tys ⟨[], 0, h93, 0⟩ 45 v10) fun v95 =>
Q.killVK v1 h93 fun h96 =>
Q.killVK v4 h96 fun h97 =>
Q.killVK v23 h97 fun h98 =>
Q.killVK v44 h98 fun h99 =>
K (.tup [v94, v95]) h99 c46) (Q.ifB (Q.storeAK (storeC tys ⟨[], 0, h47, 0⟩ 45 v7 v48) fun h100 =>
Q.genK (buildV tys 45 [(0, v55), (1, v90)]) fun v101 =>
Q.storeAK (storeC tys ⟨[], 0, h100, 0⟩ 45 v10 v101) fun h102 =>
Q.genK (loadCC tys ⟨[], 0, h102, 0⟩ 45 v7) fun v103 =>
Q.genK (loadCC tys ⟨[], 0, h102, 0⟩ 45 v10) fun v104 =>
Q.killVK v1 h102 fun h105 =>
Q.killVK v4 h105 fun h106 =>
Q.killVK v23 h106 fun h107 =>
Q.killVK v44 h107 fun h108 =>
K (.tup [v103, v104]) h108 c46) (true) false) false)) (Q.ifB (Q.storeAK (storeC tys ⟨[], 0, h47, 0⟩ 45 v7 v48) fun h109 =>
Q.loadSK h109 v51 fun v110 =>
Q.subK (binC Try.prog .sub 2 (.tmp 38) (.tmp 40) v110 v88) v110 v88 fun v111 =>
Q.genK (buildV tys 45 [(0, v55), (1, v111)]) fun v112 =>
Q.storeAK (storeC tys ⟨[], 0, h109, 0⟩ 45 v10 v112) fun h113 =>
Q.genK (loadCC tys ⟨[], 0, h113, 0⟩ 45 v7) fun v114 =>
Q.genK (loadCC tys ⟨[], 0, h113, 0⟩ 45 v10) fun v115 =>
Q.killVK v1 h113 fun h116 =>
Q.killVK v4 h116 fun h117 =>
Q.killVK v23 h117 fun h118 =>
Q.killVK v44 h118 fun h119 =>
K (.tup [v114, v115]) h119 c46) (true) false) false) (Q.ifB (Q.storeAK (storeC tys ⟨[], 0, h47, 0⟩ 45 v7 v48) fun h120 =>
Q.loadSK h120 v51 fun v121 =>
Q.loadSK h120 v52 fun v122 =>
Q.subK (binC Try.prog .sub 2 (.tmp 38) (.tmp 40) v121 v122) v121 v122 fun v123 =>
Q.genK (buildV tys 45 [(0, v55), (1, v123)]) fun v124 =>
Q.storeAK (storeC tys ⟨[], 0, h120, 0⟩ 45 v10 v124) fun h125 =>
Q.genK (loadCC tys ⟨[], 0, h125, 0⟩ 45 v7) fun v126 =>
Q.genK (loadCC tys ⟨[], 0, h125, 0⟩ 45 v10) fun v127 =>
Q.killVK v1 h125 fun h128 =>
Q.killVK v4 h128 fun h129 =>
Q.killVK v23 h129 fun h130 =>
Q.killVK v44 h130 fun h131 =>
K (.tup [v126, v127]) h131 c46) (true) false) false) false)) (Q.ifB (Q.loadSK h47 v51 fun v132 =>
Q.ifB (Q.loadSK h47 v50 fun v133 =>
Q.subK (binC Try.prog .sub 2 (.tmp 33) (.tmp 35) v53 v133) v53 v133 fun v134 =>
Q.detK v134 (
Q.ifB (Q.loadSK h47 v52 fun v135 =>
Q.subK (binC Try.prog .sub 2 (.tmp 38) (.tmp 40) v132 v135) v132 v135 fun v136 =>
Q.detK v136 (
Q.ifB (Q.genK (buildV tys 45 [(0, v134), (1, v136)]) fun v137 =>
Q.storeAK (storeC tys ⟨[], 0, h47, 0⟩ 45 v7 v48) fun h138 =>
Q.storeAK (storeC tys ⟨[], 0, h138, 0⟩ 45 v10 v137) fun h139 =>
Q.genK (loadCC tys ⟨[], 0, h139, 0⟩ 45 v7) fun v140 =>
Q.genK (loadCC tys ⟨[], 0, h139, 0⟩ 45 v10) fun v141 =>
Q.killVK v1 h139 fun h142 =>
Q.killVK v4 h142 fun h143 =>
Q.killVK v23 h143 fun h144 =>
Q.killVK v44 h144 fun h145 =>
K (.tup [v140, v141]) h145 c46) (Q.ifB (Q.storeAK (storeC tys ⟨[], 0, h47, 0⟩ 45 v7 v48) fun h146 =>
Q.genK (buildV tys 45 [(0, v134), (1, v136)]) fun v147 =>
Q.storeAK (storeC tys ⟨[], 0, h146, 0⟩ 45 v10 v147) fun h148 =>
Q.genK (loadCC tys ⟨[], 0, h148, 0⟩ 45 v7) fun v149 =>
Q.genK (loadCC tys ⟨[], 0, h148, 0⟩ 45 v10) fun v150 =>
Q.killVK v1 h148 fun h151 =>
Q.killVK v4 h151 fun h152 =>
Q.killVK v23 h152 fun h153 =>
Q.killVK v44 h153 fun h154 =>
K (.tup [v149, v150]) h154 c46) (true) false) false)) (Q.ifB (Q.storeAK (storeC tys ⟨[], 0, h47, 0⟩ 45 v7 v48) fun h155 =>
Q.loadSK h155 v52 fun v156 =>
Q.subK (binC Try.prog .sub 2 (.tmp 38) (.tmp 40) v132 v156) v132 v156 fun v157 =>
Q.genK (buildV tys 45 [(0, v134), (1, v157)]) fun v158 =>
Q.storeAK (storeC tys ⟨[], 0, h155, 0⟩ 45 v10 v158) fun h159 =>
Q.genK (loadCC tys ⟨[], 0, h159, 0⟩ 45 v7) fun v160 =>
Q.genK (loadCC tys ⟨[], 0, h159, 0⟩ 45 v10) fun v161 =>
Q.killVK v1 h159 fun h162 =>
Q.killVK v4 h162 fun h163 =>
Q.killVK v23 h163 fun h164 =>
Q.killVK v44 h164 fun h165 =>
K (.tup [v160, v161]) h165 c46) (true) false) false)) (Q.ifB (Q.loadSK h47 v52 fun v166 =>
Q.subK (binC Try.prog .sub 2 (.tmp 38) (.tmp 40) v132 v166) v132 v166 fun v167 =>
Q.detK v167 (
Q.ifB (Q.loadSK h47 v50 fun v168 =>
Q.subK (binC Try.prog .sub 2 (.tmp 33) (.tmp 35) v53 v168) v53 v168 fun v169 =>
Q.detK v169 (
Q.ifB (Q.genK (buildV tys 45 [(0, v169), (1, v167)]) fun v170 =>
Q.storeAK (storeC tys ⟨[], 0, h47, 0⟩ 45 v7 v48) fun h171 =>
Q.storeAK (storeC tys ⟨[], 0, h171, 0⟩ 45 v10 v170) fun h172 =>
Q.genK (loadCC tys ⟨[], 0, h172, 0⟩ 45 v7) fun v173 =>
Q.genK (loadCC tys ⟨[], 0, h172, 0⟩ 45 v10) fun v174 =>
Q.killVK v1 h172 fun h175 =>
Q.killVK v4 h175 fun h176 =>
Q.killVK v23 h176 fun h177 =>
Q.killVK v44 h177 fun h178 =>
K (.tup [v173, v174]) h178 c46) (Q.ifB (Q.storeAK (storeC tys ⟨[], 0, h47, 0⟩ 45 v7 v48) fun h179 =>
Q.genK (buildV tys 45 [(0, v169), (1, v167)]) fun v180 =>
Q.storeAK (storeC tys ⟨[], 0, h179, 0⟩ 45 v10 v180) fun h181 =>
Q.genK (loadCC tys ⟨[], 0, h181, 0⟩ 45 v7) fun v182 =>
Q.genK (loadCC tys ⟨[], 0, h181, 0⟩ 45 v10) fun v183 =>
Q.killVK v1 h181 fun h184 =>
Q.killVK v4 h184 fun h185 =>
Q.killVK v23 h185 fun h186 =>
Q.killVK v44 h186 fun h187 =>
K (.tup [v182, v183]) h187 c46) (true) false) false)) (Q.ifB (Q.storeAK (storeC tys ⟨[], 0, h47, 0⟩ 45 v7 v48) fun h188 =>
Q.loadSK h188 v50 fun v189 =>
Q.subK (binC Try.prog .sub 2 (.tmp 33) (.tmp 35) v53 v189) v53 v189 fun v190 =>
Q.genK (buildV tys 45 [(0, v190), (1, v167)]) fun v191 =>
Q.storeAK (storeC tys ⟨[], 0, h188, 0⟩ 45 v10 v191) fun h192 =>
Q.genK (loadCC tys ⟨[], 0, h192, 0⟩ 45 v7) fun v193 =>
Q.genK (loadCC tys ⟨[], 0, h192, 0⟩ 45 v10) fun v194 =>
Q.killVK v1 h192 fun h195 =>
Q.killVK v4 h195 fun h196 =>
Q.killVK v23 h196 fun h197 =>
Q.killVK v44 h197 fun h198 =>
K (.tup [v193, v194]) h198 c46) (true) false) false)) (Q.ifB (Q.storeAK (storeC tys ⟨[], 0, h47, 0⟩ 45 v7 v48) fun h199 =>
Q.loadSK h199 v50 fun v200 =>
Q.subK (binC Try.prog .sub 2 (.tmp 33) (.tmp 35) v53 v200) v53 v200 fun v201 =>
Q.loadSK h199 v52 fun v202 =>
Q.subK (binC Try.prog .sub 2 (.tmp 38) (.tmp 40) v132 v202) v132 v202 fun v203 =>
Q.genK (buildV tys 45 [(0, v201), (1, v203)]) fun v204 =>
Q.storeAK (storeC tys ⟨[], 0, h199, 0⟩ 45 v10 v204) fun h205 =>
Q.genK (loadCC tys ⟨[], 0, h205, 0⟩ 45 v7) fun v206 =>
Q.genK (loadCC tys ⟨[], 0, h205, 0⟩ 45 v10) fun v207 =>
Q.killVK v1 h205 fun h208 =>
Q.killVK v4 h208 fun h209 =>
Q.killVK v23 h209 fun h210 =>
Q.killVK v44 h210 fun h211 =>
K (.tup [v206, v207]) h211 c46) (true) false) false) false) (Q.ifB (Q.loadSK h47 v52 fun v212 =>
Q.ifB (Q.loadSK h47 v50 fun v213 =>
Q.subK (binC Try.prog .sub 2 (.tmp 33) (.tmp 35) v53 v213) v53 v213 fun v214 =>
Q.detK v214 (
Q.ifB (Q.loadSK h47 v51 fun v215 =>
Q.subK (binC Try.prog .sub 2 (.tmp 38) (.tmp 40) v215 v212) v215 v212 fun v216 =>
Q.detK v216 (
Q.ifB (Q.genK (buildV tys 45 [(0, v214), (1, v216)]) fun v217 =>
Q.storeAK (storeC tys ⟨[], 0, h47, 0⟩ 45 v7 v48) fun h218 =>
Q.storeAK (storeC tys ⟨[], 0, h218, 0⟩ 45 v10 v217) fun h219 =>
Q.genK (loadCC tys ⟨[], 0, h219, 0⟩ 45 v7) fun v220 =>
Q.genK (loadCC tys ⟨[], 0, h219, 0⟩ 45 v10) fun v221 =>
Q.killVK v1 h219 fun h222 =>
Q.killVK v4 h222 fun h223 =>
Q.killVK v23 h223 fun h224 =>
Q.killVK v44 h224 fun h225 =>
K (.tup [v220, v221]) h225 c46) (Q.ifB (Q.storeAK (storeC tys ⟨[], 0, h47, 0⟩ 45 v7 v48) fun h226 =>
Q.genK (buildV tys 45 [(0, v214), (1, v216)]) fun v227 =>
Q.storeAK (storeC tys ⟨[], 0, h226, 0⟩ 45 v10 v227) fun h228 =>
Q.genK (loadCC tys ⟨[], 0, h228, 0⟩ 45 v7) fun v229 =>
Q.genK (loadCC tys ⟨[], 0, h228, 0⟩ 45 v10) fun v230 =>
Q.killVK v1 h228 fun h231 =>
Q.killVK v4 h231 fun h232 =>
Q.killVK v23 h232 fun h233 =>
Q.killVK v44 h233 fun h234 =>
K (.tup [v229, v230]) h234 c46) (true) false) false)) (Q.ifB (Q.storeAK (storeC tys ⟨[], 0, h47, 0⟩ 45 v7 v48) fun h235 =>
Q.loadSK h235 v51 fun v236 =>
Q.subK (binC Try.prog .sub 2 (.tmp 38) (.tmp 40) v236 v212) v236 v212 fun v237 =>
Q.genK (buildV tys 45 [(0, v214), (1, v237)]) fun v238 =>
Q.storeAK (storeC tys ⟨[], 0, h235, 0⟩ 45 v10 v238) fun h239 =>
Q.genK (loadCC tys ⟨[], 0, h239, 0⟩ 45 v7) fun v240 =>
Q.genK (loadCC tys ⟨[], 0, h239, 0⟩ 45 v10) fun v241 =>
Q.killVK v1 h239 fun h242 =>
Q.killVK v4 h242 fun h243 =>
Q.killVK v23 h243 fun h244 =>
Q.killVK v44 h244 fun h245 =>
K (.tup [v240, v241]) h245 c46) (true) false) false)) (Q.ifB (Q.loadSK h47 v51 fun v246 =>
Q.subK (binC Try.prog .sub 2 (.tmp 38) (.tmp 40) v246 v212) v246 v212 fun v247 =>
Q.detK v247 (
Q.ifB (Q.loadSK h47 v50 fun v248 =>
Q.subK (binC Try.prog .sub 2 (.tmp 33) (.tmp 35) v53 v248) v53 v248 fun v249 =>
Q.detK v249 (
Q.ifB (Q.genK (buildV tys 45 [(0, v249), (1, v247)]) fun v250 =>
Q.storeAK (storeC tys ⟨[], 0, h47, 0⟩ 45 v7 v48) fun h251 =>
Q.storeAK (storeC tys ⟨[], 0, h251, 0⟩ 45 v10 v250) fun h252 =>
Q.genK (loadCC tys ⟨[], 0, h252, 0⟩ 45 v7) fun v253 =>
Q.genK (loadCC tys ⟨[], 0, h252, 0⟩ 45 v10) fun v254 =>
Q.killVK v1 h252 fun h255 =>
Q.killVK v4 h255 fun h256 =>
Q.killVK v23 h256 fun h257 =>
Q.killVK v44 h257 fun h258 =>
K (.tup [v253, v254]) h258 c46) (Q.ifB (Q.storeAK (storeC tys ⟨[], 0, h47, 0⟩ 45 v7 v48) fun h259 =>
Q.genK (buildV tys 45 [(0, v249), (1, v247)]) fun v260 =>
Q.storeAK (storeC tys ⟨[], 0, h259, 0⟩ 45 v10 v260) fun h261 =>
Q.genK (loadCC tys ⟨[], 0, h261, 0⟩ 45 v7) fun v262 =>
Q.genK (loadCC tys ⟨[], 0, h261, 0⟩ 45 v10) fun v263 =>
Q.killVK v1 h261 fun h264 =>
Q.killVK v4 h264 fun h265 =>
Q.killVK v23 h265 fun h266 =>
Q.killVK v44 h266 fun h267 =>
K (.tup [v262, v263]) h267 c46) (true) false) false)) (Q.ifB (Q.storeAK (storeC tys ⟨[], 0, h47, 0⟩ 45 v7 v48) fun h268 =>
Q.loadSK h268 v50 fun v269 =>
Q.subK (binC Try.prog .sub 2 (.tmp 33) (.tmp 35) v53 v269) v53 v269 fun v270 =>
Q.genK (buildV tys 45 [(0, v270), (1, v247)]) fun v271 =>
Q.storeAK (storeC tys ⟨[], 0, h268, 0⟩ 45 v10 v271) fun h272 =>
Q.genK (loadCC tys ⟨[], 0, h272, 0⟩ 45 v7) fun v273 =>
Q.genK (loadCC tys ⟨[], 0, h272, 0⟩ 45 v10) fun v274 =>
Q.killVK v1 h272 fun h275 =>
Q.killVK v4 h275 fun h276 =>
Q.killVK v23 h276 fun h277 =>
Q.killVK v44 h277 fun h278 =>
K (.tup [v273, v274]) h278 c46) (true) false) false)) (Q.ifB (Q.storeAK (storeC tys ⟨[], 0, h47, 0⟩ 45 v7 v48) fun h279 =>
Q.loadSK h279 v50 fun v280 =>
Q.subK (binC Try.prog .sub 2 (.tmp 33) (.tmp 35) v53 v280) v53 v280 fun v281 =>
Q.loadSK h279 v51 fun v282 =>
Q.subK (binC Try.prog .sub 2 (.tmp 38) (.tmp 40) v282 v212) v282 v212 fun v283 =>
Q.genK (buildV tys 45 [(0, v281), (1, v283)]) fun v284 =>
Q.storeAK (storeC tys ⟨[], 0, h279, 0⟩ 45 v10 v284) fun h285 =>
Q.genK (loadCC tys ⟨[], 0, h285, 0⟩ 45 v7) fun v286 =>
Q.genK (loadCC tys ⟨[], 0, h285, 0⟩ 45 v10) fun v287 =>
Q.killVK v1 h285 fun h288 =>
Q.killVK v4 h288 fun h289 =>
Q.killVK v23 h289 fun h290 =>
Q.killVK v44 h290 fun h291 =>
K (.tup [v286, v287]) h291 c46) (true) false) false) false) (Q.ifB (Q.storeAK (storeC tys ⟨[], 0, h47, 0⟩ 45 v7 v48) fun h292 =>
Q.loadSK h292 v50 fun v293 =>
Q.subK (binC Try.prog .sub 2 (.tmp 33) (.tmp 35) v53 v293) v53 v293 fun v294 =>
Q.loadSK h292 v51 fun v295 =>
Q.loadSK h292 v52 fun v296 =>
Q.subK (binC Try.prog .sub 2 (.tmp 38) (.tmp 40) v295 v296) v295 v296 fun v297 =>
Q.genK (buildV tys 45 [(0, v294), (1, v297)]) fun v298 =>
Q.storeAK (storeC tys ⟨[], 0, h292, 0⟩ 45 v10 v298) fun h299 =>
Q.genK (loadCC tys ⟨[], 0, h299, 0⟩ 45 v7) fun v300 =>
Q.genK (loadCC tys ⟨[], 0, h299, 0⟩ 45 v10) fun v301 =>
Q.killVK v1 h299 fun h302 =>
Q.killVK v4 h302 fun h303 =>
Q.killVK v23 h303 fun h304 =>
Q.killVK v44 h304 fun h305 =>
K (.tup [v300, v301]) h305 c46) (true) false) false) false) false) (Q.ifB (Q.loadSK h47 v50 fun v306 =>
Q.ifB (Q.loadSK h47 v49 fun v307 =>
Q.subK (binC Try.prog .sub 2 (.tmp 33) (.tmp 35) v307 v306) v307 v306 fun v308 =>
Q.detK v308 (
Q.ifB (Q.loadSK h47 v51 fun v309 =>
Q.ifB (Q.loadSK h47 v52 fun v310 =>
Q.subK (binC Try.prog .sub 2 (.tmp 38) (.tmp 40) v309 v310) v309 v310 fun v311 =>
Q.detK v311 (
Q.ifB (Q.genK (buildV tys 45 [(0, v308), (1, v311)]) fun v312 =>
Q.storeAK (storeC tys ⟨[], 0, h47, 0⟩ 45 v7 v48) fun h313 =>
Q.storeAK (storeC tys ⟨[], 0, h313, 0⟩ 45 v10 v312) fun h314 =>
Q.genK (loadCC tys ⟨[], 0, h314, 0⟩ 45 v7) fun v315 =>
Q.genK (loadCC tys ⟨[], 0, h314, 0⟩ 45 v10) fun v316 =>
Q.killVK v1 h314 fun h317 =>
Q.killVK v4 h317 fun h318 =>
Q.killVK v23 h318 fun h319 =>
Q.killVK v44 h319 fun h320 =>
K (.tup [v315, v316]) h320 c46) (Q.ifB (Q.storeAK (storeC tys ⟨[], 0, h47, 0⟩ 45 v7 v48) fun h321 =>
Q.genK (buildV tys 45 [(0, v308), (1, v311)]) fun v322 =>
Q.storeAK (storeC tys ⟨[], 0, h321, 0⟩ 45 v10 v322) fun h323 =>
Q.genK (loadCC tys ⟨[], 0, h323, 0⟩ 45 v7) fun v324 =>
Q.genK (loadCC tys ⟨[], 0, h323, 0⟩ 45 v10) fun v325 =>
Q.killVK v1 h323 fun h326 =>
Q.killVK v4 h326 fun h327 =>
Q.killVK v23 h327 fun h328 =>
Q.killVK v44 h328 fun h329 =>
K (.tup [v324, v325]) h329 c46) (true) false) false)) (Q.ifB (Q.storeAK (storeC tys ⟨[], 0, h47, 0⟩ 45 v7 v48) fun h330 =>
Q.loadSK h330 v52 fun v331 =>
Q.subK (binC Try.prog .sub 2 (.tmp 38) (.tmp 40) v309 v331) v309 v331 fun v332 =>
Q.genK (buildV tys 45 [(0, v308), (1, v332)]) fun v333 =>
Q.storeAK (storeC tys ⟨[], 0, h330, 0⟩ 45 v10 v333) fun h334 =>
Q.genK (loadCC tys ⟨[], 0, h334, 0⟩ 45 v7) fun v335 =>
Q.genK (loadCC tys ⟨[], 0, h334, 0⟩ 45 v10) fun v336 =>
Q.killVK v1 h334 fun h337 =>
Q.killVK v4 h337 fun h338 =>
Q.killVK v23 h338 fun h339 =>
Q.killVK v44 h339 fun h340 =>
K (.tup [v335, v336]) h340 c46) (true) false) false) (Q.ifB (Q.loadSK h47 v52 fun v341 =>
Q.ifB (Q.loadSK h47 v51 fun v342 =>
Q.subK (binC Try.prog .sub 2 (.tmp 38) (.tmp 40) v342 v341) v342 v341 fun v343 =>
Q.detK v343 (
Q.ifB (Q.genK (buildV tys 45 [(0, v308), (1, v343)]) fun v344 =>
Q.storeAK (storeC tys ⟨[], 0, h47, 0⟩ 45 v7 v48) fun h345 =>
Q.storeAK (storeC tys ⟨[], 0, h345, 0⟩ 45 v10 v344) fun h346 =>
Q.genK (loadCC tys ⟨[], 0, h346, 0⟩ 45 v7) fun v347 =>
Q.genK (loadCC tys ⟨[], 0, h346, 0⟩ 45 v10) fun v348 =>
Q.killVK v1 h346 fun h349 =>
Q.killVK v4 h349 fun h350 =>
Q.killVK v23 h350 fun h351 =>
Q.killVK v44 h351 fun h352 =>
K (.tup [v347, v348]) h352 c46) (Q.ifB (Q.storeAK (storeC tys ⟨[], 0, h47, 0⟩ 45 v7 v48) fun h353 =>
Q.genK (buildV tys 45 [(0, v308), (1, v343)]) fun v354 =>
Q.storeAK (storeC tys ⟨[], 0, h353, 0⟩ 45 v10 v354) fun h355 =>
Q.genK (loadCC tys ⟨[], 0, h355, 0⟩ 45 v7) fun v356 =>
Q.genK (loadCC tys ⟨[], 0, h355, 0⟩ 45 v10) fun v357 =>
Q.killVK v1 h355 fun h358 =>
Q.killVK v4 h358 fun h359 =>
Q.killVK v23 h359 fun h360 =>
Q.killVK v44 h360 fun h361 =>
K (.tup [v356, v357]) h361 c46) (true) false) false)) (Q.ifB (Q.storeAK (storeC tys ⟨[], 0, h47, 0⟩ 45 v7 v48) fun h362 =>
Q.loadSK h362 v51 fun v363 =>
Q.subK (binC Try.prog .sub 2 (.tmp 38) (.tmp 40) v363 v341) v363 v341 fun v364 =>
Q.genK (buildV tys 45 [(0, v308), (1, v364)]) fun v365 =>
Q.storeAK (storeC tys ⟨[], 0, h362, 0⟩ 45 v10 v365) fun h366 =>
Q.genK (loadCC tys ⟨[], 0, h366, 0⟩ 45 v7) fun v367 =>
Q.genK (loadCC tys ⟨[], 0, h366, 0⟩ 45 v10) fun v368 =>
Q.killVK v1 h366 fun h369 =>
Q.killVK v4 h369 fun h370 =>
Q.killVK v23 h370 fun h371 =>
Q.killVK v44 h371 fun h372 =>
K (.tup [v367, v368]) h372 c46) (true) false) false) (Q.ifB (Q.storeAK (storeC tys ⟨[], 0, h47, 0⟩ 45 v7 v48) fun h373 =>
Q.loadSK h373 v51 fun v374 =>
Q.loadSK h373 v52 fun v375 =>
Q.subK (binC Try.prog .sub 2 (.tmp 38) (.tmp 40) v374 v375) v374 v375 fun v376 =>
Q.genK (buildV tys 45 [(0, v308), (1, v376)]) fun v377 =>
Q.storeAK (storeC tys ⟨[], 0, h373, 0⟩ 45 v10 v377) fun h378 =>
Q.genK (loadCC tys ⟨[], 0, h378, 0⟩ 45 v7) fun v379 =>
Q.genK (loadCC tys ⟨[], 0, h378, 0⟩ 45 v10) fun v380 =>
Q.killVK v1 h378 fun h381 =>
Q.killVK v4 h381 fun h382 =>
Q.killVK v23 h382 fun h383 =>
Q.killVK v44 h383 fun h384 =>
K (.tup [v379, v380]) h384 c46) (true) false) false) false)) (Q.ifB (Q.loadSK h47 v51 fun v385 =>
Q.ifB (Q.loadSK h47 v49 fun v386 =>
Q.subK (binC Try.prog .sub 2 (.tmp 33) (.tmp 35) v386 v306) v386 v306 fun v387 =>
Q.detK v387 (
Q.ifB (Q.loadSK h47 v52 fun v388 =>
Q.subK (binC Try.prog .sub 2 (.tmp 38) (.tmp 40) v385 v388) v385 v388 fun v389 =>
Q.detK v389 (
Q.ifB (Q.genK (buildV tys 45 [(0, v387), (1, v389)]) fun v390 =>
Q.storeAK (storeC tys ⟨[], 0, h47, 0⟩ 45 v7 v48) fun h391 =>
Q.storeAK (storeC tys ⟨[], 0, h391, 0⟩ 45 v10 v390) fun h392 =>
Q.genK (loadCC tys ⟨[], 0, h392, 0⟩ 45 v7) fun v393 =>
Q.genK (loadCC tys ⟨[], 0, h392, 0⟩ 45 v10) fun v394 =>
Q.killVK v1 h392 fun h395 =>
Q.killVK v4 h395 fun h396 =>
Q.killVK v23 h396 fun h397 =>
Q.killVK v44 h397 fun h398 =>
K (.tup [v393, v394]) h398 c46) (Q.ifB (Q.storeAK (storeC tys ⟨[], 0, h47, 0⟩ 45 v7 v48) fun h399 =>
Q.genK (buildV tys 45 [(0, v387), (1, v389)]) fun v400 =>
Q.storeAK (storeC tys ⟨[], 0, h399, 0⟩ 45 v10 v400) fun h401 =>
Q.genK (loadCC tys ⟨[], 0, h401, 0⟩ 45 v7) fun v402 =>
Q.genK (loadCC tys ⟨[], 0, h401, 0⟩ 45 v10) fun v403 =>
Q.killVK v1 h401 fun h404 =>
Q.killVK v4 h404 fun h405 =>
Q.killVK v23 h405 fun h406 =>
Q.killVK v44 h406 fun h407 =>
K (.tup [v402, v403]) h407 c46) (true) false) false)) (Q.ifB (Q.storeAK (storeC tys ⟨[], 0, h47, 0⟩ 45 v7 v48) fun h408 =>
Q.loadSK h408 v52 fun v409 =>
Q.subK (binC Try.prog .sub 2 (.tmp 38) (.tmp 40) v385 v409) v385 v409 fun v410 =>
Q.genK (buildV tys 45 [(0, v387), (1, v410)]) fun v411 =>
Q.storeAK (storeC tys ⟨[], 0, h408, 0⟩ 45 v10 v411) fun h412 =>
Q.genK (loadCC tys ⟨[], 0, h412, 0⟩ 45 v7) fun v413 =>
Q.genK (loadCC tys ⟨[], 0, h412, 0⟩ 45 v10) fun v414 =>
Q.killVK v1 h412 fun h415 =>
Q.killVK v4 h415 fun h416 =>
Q.killVK v23 h416 fun h417 =>
Q.killVK v44 h417 fun h418 =>
K (.tup [v413, v414]) h418 c46) (true) false) false)) (Q.ifB (Q.loadSK h47 v52 fun v419 =>
Q.subK (binC Try.prog .sub 2 (.tmp 38) (.tmp 40) v385 v419) v385 v419 fun v420 =>
Q.detK v420 (
Q.ifB (Q.loadSK h47 v49 fun v421 =>
Q.subK (binC Try.prog .sub 2 (.tmp 33) (.tmp 35) v421 v306) v421 v306 fun v422 =>
Q.detK v422 (
Q.ifB (Q.genK (buildV tys 45 [(0, v422), (1, v420)]) fun v423 =>
Q.storeAK (storeC tys ⟨[], 0, h47, 0⟩ 45 v7 v48) fun h424 =>
Q.storeAK (storeC tys ⟨[], 0, h424, 0⟩ 45 v10 v423) fun h425 =>
Q.genK (loadCC tys ⟨[], 0, h425, 0⟩ 45 v7) fun v426 =>
Q.genK (loadCC tys ⟨[], 0, h425, 0⟩ 45 v10) fun v427 =>
Q.killVK v1 h425 fun h428 =>
Q.killVK v4 h428 fun h429 =>
Q.killVK v23 h429 fun h430 =>
Q.killVK v44 h430 fun h431 =>
K (.tup [v426, v427]) h431 c46) (Q.ifB (Q.storeAK (storeC tys ⟨[], 0, h47, 0⟩ 45 v7 v48) fun h432 =>
Q.genK (buildV tys 45 [(0, v422), (1, v420)]) fun v433 =>
Q.storeAK (storeC tys ⟨[], 0, h432, 0⟩ 45 v10 v433) fun h434 =>
Q.genK (loadCC tys ⟨[], 0, h434, 0⟩ 45 v7) fun v435 =>
Q.genK (loadCC tys ⟨[], 0, h434, 0⟩ 45 v10) fun v436 =>
Q.killVK v1 h434 fun h437 =>
Q.killVK v4 h437 fun h438 =>
Q.killVK v23 h438 fun h439 =>
Q.killVK v44 h439 fun h440 =>
K (.tup [v435, v436]) h440 c46) (true) false) false)) (Q.ifB (Q.storeAK (storeC tys ⟨[], 0, h47, 0⟩ 45 v7 v48) fun h441 =>
Q.loadSK h441 v49 fun v442 =>
Q.subK (binC Try.prog .sub 2 (.tmp 33) (.tmp 35) v442 v306) v442 v306 fun v443 =>
Q.genK (buildV tys 45 [(0, v443), (1, v420)]) fun v444 =>
Q.storeAK (storeC tys ⟨[], 0, h441, 0⟩ 45 v10 v444) fun h445 =>
Q.genK (loadCC tys ⟨[], 0, h445, 0⟩ 45 v7) fun v446 =>
Q.genK (loadCC tys ⟨[], 0, h445, 0⟩ 45 v10) fun v447 =>
Q.killVK v1 h445 fun h448 =>
Q.killVK v4 h448 fun h449 =>
Q.killVK v23 h449 fun h450 =>
Q.killVK v44 h450 fun h451 =>
K (.tup [v446, v447]) h451 c46) (true) false) false)) (Q.ifB (Q.storeAK (storeC tys ⟨[], 0, h47, 0⟩ 45 v7 v48) fun h452 =>
Q.loadSK h452 v49 fun v453 =>
Q.subK (binC Try.prog .sub 2 (.tmp 33) (.tmp 35) v453 v306) v453 v306 fun v454 =>
Q.loadSK h452 v52 fun v455 =>
Q.subK (binC Try.prog .sub 2 (.tmp 38) (.tmp 40) v385 v455) v385 v455 fun v456 =>
Q.genK (buildV tys 45 [(0, v454), (1, v456)]) fun v457 =>
Q.storeAK (storeC tys ⟨[], 0, h452, 0⟩ 45 v10 v457) fun h458 =>
Q.genK (loadCC tys ⟨[], 0, h458, 0⟩ 45 v7) fun v459 =>
Q.genK (loadCC tys ⟨[], 0, h458, 0⟩ 45 v10) fun v460 =>
Q.killVK v1 h458 fun h461 =>
Q.killVK v4 h461 fun h462 =>
Q.killVK v23 h462 fun h463 =>
Q.killVK v44 h463 fun h464 =>
K (.tup [v459, v460]) h464 c46) (true) false) false) false) (Q.ifB (Q.loadSK h47 v52 fun v465 =>
Q.ifB (Q.loadSK h47 v49 fun v466 =>
Q.subK (binC Try.prog .sub 2 (.tmp 33) (.tmp 35) v466 v306) v466 v306 fun v467 =>
Q.detK v467 (
Q.ifB (Q.loadSK h47 v51 fun v468 =>
Q.subK (binC Try.prog .sub 2 (.tmp 38) (.tmp 40) v468 v465) v468 v465 fun v469 =>
Q.detK v469 (
Q.ifB (Q.genK (buildV tys 45 [(0, v467), (1, v469)]) fun v470 =>
Q.storeAK (storeC tys ⟨[], 0, h47, 0⟩ 45 v7 v48) fun h471 =>
Q.storeAK (storeC tys ⟨[], 0, h471, 0⟩ 45 v10 v470) fun h472 =>
Q.genK (loadCC tys ⟨[], 0, h472, 0⟩ 45 v7) fun v473 =>
Q.genK (loadCC tys ⟨[], 0, h472, 0⟩ 45 v10) fun v474 =>
Q.killVK v1 h472 fun h475 =>
Q.killVK v4 h475 fun h476 =>
Q.killVK v23 h476 fun h477 =>
Q.killVK v44 h477 fun h478 =>
K (.tup [v473, v474]) h478 c46) (Q.ifB (Q.storeAK (storeC tys ⟨[], 0, h47, 0⟩ 45 v7 v48) fun h479 =>
Q.genK (buildV tys 45 [(0, v467), (1, v469)]) fun v480 =>
Q.storeAK (storeC tys ⟨[], 0, h479, 0⟩ 45 v10 v480) fun h481 =>
Q.genK (loadCC tys ⟨[], 0, h481, 0⟩ 45 v7) fun v482 =>
Q.genK (loadCC tys ⟨[], 0, h481, 0⟩ 45 v10) fun v483 =>
Q.killVK v1 h481 fun h484 =>
Q.killVK v4 h484 fun h485 =>
Q.killVK v23 h485 fun h486 =>
Q.killVK v44 h486 fun h487 =>
K (.tup [v482, v483]) h487 c46) (true) false) false)) (Q.ifB (Q.storeAK (storeC tys ⟨[], 0, h47, 0⟩ 45 v7 v48) fun h488 =>
Q.loadSK h488 v51 fun v489 =>
Q.subK (binC Try.prog .sub 2 (.tmp 38) (.tmp 40) v489 v465) v489 v465 fun v490 =>
Q.genK (buildV tys 45 [(0, v467), (1, v490)]) fun v491 =>
Q.storeAK (storeC tys ⟨[], 0, h488, 0⟩ 45 v10 v491) fun h492 =>
Q.genK (loadCC tys ⟨[], 0, h492, 0⟩ 45 v7) fun v493 =>
Q.genK (loadCC tys ⟨[], 0, h492, 0⟩ 45 v10) fun v494 =>
Q.killVK v1 h492 fun h495 =>
Q.killVK v4 h495 fun h496 =>
Q.killVK v23 h496 fun h497 =>
Q.killVK v44 h497 fun h498 =>
K (.tup [v493, v494]) h498 c46) (true) false) false)) (Q.ifB (Q.loadSK h47 v51 fun v499 =>
Q.subK (binC Try.prog .sub 2 (.tmp 38) (.tmp 40) v499 v465) v499 v465 fun v500 =>
Q.detK v500 (
Q.ifB (Q.loadSK h47 v49 fun v501 =>
Q.subK (binC Try.prog .sub 2 (.tmp 33) (.tmp 35) v501 v306) v501 v306 fun v502 =>
Q.detK v502 (
Q.ifB (Q.genK (buildV tys 45 [(0, v502), (1, v500)]) fun v503 =>
Q.storeAK (storeC tys ⟨[], 0, h47, 0⟩ 45 v7 v48) fun h504 =>
Q.storeAK (storeC tys ⟨[], 0, h504, 0⟩ 45 v10 v503) fun h505 =>
Q.genK (loadCC tys ⟨[], 0, h505, 0⟩ 45 v7) fun v506 =>
Q.genK (loadCC tys ⟨[], 0, h505, 0⟩ 45 v10) fun v507 =>
Q.killVK v1 h505 fun h508 =>
Q.killVK v4 h508 fun h509 =>
Q.killVK v23 h509 fun h510 =>
Q.killVK v44 h510 fun h511 =>
K (.tup [v506, v507]) h511 c46) (Q.ifB (Q.storeAK (storeC tys ⟨[], 0, h47, 0⟩ 45 v7 v48) fun h512 =>
Q.genK (buildV tys 45 [(0, v502), (1, v500)]) fun v513 =>
Q.storeAK (storeC tys ⟨[], 0, h512, 0⟩ 45 v10 v513) fun h514 =>
Q.genK (loadCC tys ⟨[], 0, h514, 0⟩ 45 v7) fun v515 =>
Q.genK (loadCC tys ⟨[], 0, h514, 0⟩ 45 v10) fun v516 =>
Q.killVK v1 h514 fun h517 =>
Q.killVK v4 h517 fun h518 =>
Q.killVK v23 h518 fun h519 =>
Q.killVK v44 h519 fun h520 =>
K (.tup [v515, v516]) h520 c46) (true) false) false)) (Q.ifB (Q.storeAK (storeC tys ⟨[], 0, h47, 0⟩ 45 v7 v48) fun h521 =>
Q.loadSK h521 v49 fun v522 =>
Q.subK (binC Try.prog .sub 2 (.tmp 33) (.tmp 35) v522 v306) v522 v306 fun v523 =>
Q.genK (buildV tys 45 [(0, v523), (1, v500)]) fun v524 =>
Q.storeAK (storeC tys ⟨[], 0, h521, 0⟩ 45 v10 v524) fun h525 =>
Q.genK (loadCC tys ⟨[], 0, h525, 0⟩ 45 v7) fun v526 =>
Q.genK (loadCC tys ⟨[], 0, h525, 0⟩ 45 v10) fun v527 =>
Q.killVK v1 h525 fun h528 =>
Q.killVK v4 h528 fun h529 =>
Q.killVK v23 h529 fun h530 =>
Q.killVK v44 h530 fun h531 =>
K (.tup [v526, v527]) h531 c46) (true) false) false)) (Q.ifB (Q.storeAK (storeC tys ⟨[], 0, h47, 0⟩ 45 v7 v48) fun h532 =>
Q.loadSK h532 v49 fun v533 =>
Q.subK (binC Try.prog .sub 2 (.tmp 33) (.tmp 35) v533 v306) v533 v306 fun v534 =>
Q.loadSK h532 v51 fun v535 =>
Q.subK (binC Try.prog .sub 2 (.tmp 38) (.tmp 40) v535 v465) v535 v465 fun v536 =>
Q.genK (buildV tys 45 [(0, v534), (1, v536)]) fun v537 =>
Q.storeAK (storeC tys ⟨[], 0, h532, 0⟩ 45 v10 v537) fun h538 =>
Q.genK (loadCC tys ⟨[], 0, h538, 0⟩ 45 v7) fun v539 =>
Q.genK (loadCC tys ⟨[], 0, h538, 0⟩ 45 v10) fun v540 =>
Q.killVK v1 h538 fun h541 =>
Q.killVK v4 h541 fun h542 =>
Q.killVK v23 h542 fun h543 =>
Q.killVK v44 h543 fun h544 =>
K (.tup [v539, v540]) h544 c46) (true) false) false) false) (Q.ifB (Q.storeAK (storeC tys ⟨[], 0, h47, 0⟩ 45 v7 v48) fun h545 =>
Q.loadSK h545 v49 fun v546 =>
Q.subK (binC Try.prog .sub 2 (.tmp 33) (.tmp 35) v546 v306) v546 v306 fun v547 =>
Q.loadSK h545 v51 fun v548 =>
Q.loadSK h545 v52 fun v549 =>
Q.subK (binC Try.prog .sub 2 (.tmp 38) (.tmp 40) v548 v549) v548 v549 fun v550 =>
Q.genK (buildV tys 45 [(0, v547), (1, v550)]) fun v551 =>
Q.storeAK (storeC tys ⟨[], 0, h545, 0⟩ 45 v10 v551) fun h552 =>
Q.genK (loadCC tys ⟨[], 0, h552, 0⟩ 45 v7) fun v553 =>
Q.genK (loadCC tys ⟨[], 0, h552, 0⟩ 45 v10) fun v554 =>
Q.killVK v1 h552 fun h555 =>
Q.killVK v4 h555 fun h556 =>
Q.killVK v23 h556 fun h557 =>
Q.killVK v44 h557 fun h558 =>
K (.tup [v553, v554]) h558 c46) (true) false) false) false) false) (Q.ifB (Q.loadSK h47 v51 fun v559 =>
Q.ifB (Q.loadSK h47 v49 fun v560 =>
Q.ifB (Q.loadSK h47 v50 fun v561 =>
Q.subK (binC Try.prog .sub 2 (.tmp 33) (.tmp 35) v560 v561) v560 v561 fun v562 =>
Q.detK v562 (
Q.ifB (Q.loadSK h47 v52 fun v563 =>
Q.subK (binC Try.prog .sub 2 (.tmp 38) (.tmp 40) v559 v563) v559 v563 fun v564 =>
Q.detK v564 (
Q.ifB (Q.genK (buildV tys 45 [(0, v562), (1, v564)]) fun v565 =>
Q.storeAK (storeC tys ⟨[], 0, h47, 0⟩ 45 v7 v48) fun h566 =>
Q.storeAK (storeC tys ⟨[], 0, h566, 0⟩ 45 v10 v565) fun h567 =>
Q.genK (loadCC tys ⟨[], 0, h567, 0⟩ 45 v7) fun v568 =>
Q.genK (loadCC tys ⟨[], 0, h567, 0⟩ 45 v10) fun v569 =>
Q.killVK v1 h567 fun h570 =>
Q.killVK v4 h570 fun h571 =>
Q.killVK v23 h571 fun h572 =>
Q.killVK v44 h572 fun h573 =>
K (.tup [v568, v569]) h573 c46) (Q.ifB (Q.storeAK (storeC tys ⟨[], 0, h47, 0⟩ 45 v7 v48) fun h574 =>
Q.genK (buildV tys 45 [(0, v562), (1, v564)]) fun v575 =>
Q.storeAK (storeC tys ⟨[], 0, h574, 0⟩ 45 v10 v575) fun h576 =>
Q.genK (loadCC tys ⟨[], 0, h576, 0⟩ 45 v7) fun v577 =>
Q.genK (loadCC tys ⟨[], 0, h576, 0⟩ 45 v10) fun v578 =>
Q.killVK v1 h576 fun h579 =>
Q.killVK v4 h579 fun h580 =>
Q.killVK v23 h580 fun h581 =>
Q.killVK v44 h581 fun h582 =>
K (.tup [v577, v578]) h582 c46) (true) false) false)) (Q.ifB (Q.storeAK (storeC tys ⟨[], 0, h47, 0⟩ 45 v7 v48) fun h583 =>
Q.loadSK h583 v52 fun v584 =>
Q.subK (binC Try.prog .sub 2 (.tmp 38) (.tmp 40) v559 v584) v559 v584 fun v585 =>
Q.genK (buildV tys 45 [(0, v562), (1, v585)]) fun v586 =>
Q.storeAK (storeC tys ⟨[], 0, h583, 0⟩ 45 v10 v586) fun h587 =>
Q.genK (loadCC tys ⟨[], 0, h587, 0⟩ 45 v7) fun v588 =>
Q.genK (loadCC tys ⟨[], 0, h587, 0⟩ 45 v10) fun v589 =>
Q.killVK v1 h587 fun h590 =>
Q.killVK v4 h590 fun h591 =>
Q.killVK v23 h591 fun h592 =>
Q.killVK v44 h592 fun h593 =>
K (.tup [v588, v589]) h593 c46) (true) false) false)) (Q.ifB (Q.loadSK h47 v52 fun v594 =>
Q.subK (binC Try.prog .sub 2 (.tmp 38) (.tmp 40) v559 v594) v559 v594 fun v595 =>
Q.detK v595 (
Q.ifB (Q.loadSK h47 v50 fun v596 =>
Q.subK (binC Try.prog .sub 2 (.tmp 33) (.tmp 35) v560 v596) v560 v596 fun v597 =>
Q.detK v597 (
Q.ifB (Q.genK (buildV tys 45 [(0, v597), (1, v595)]) fun v598 =>
Q.storeAK (storeC tys ⟨[], 0, h47, 0⟩ 45 v7 v48) fun h599 =>
Q.storeAK (storeC tys ⟨[], 0, h599, 0⟩ 45 v10 v598) fun h600 =>
Q.genK (loadCC tys ⟨[], 0, h600, 0⟩ 45 v7) fun v601 =>
Q.genK (loadCC tys ⟨[], 0, h600, 0⟩ 45 v10) fun v602 =>
Q.killVK v1 h600 fun h603 =>
Q.killVK v4 h603 fun h604 =>
Q.killVK v23 h604 fun h605 =>
Q.killVK v44 h605 fun h606 =>
K (.tup [v601, v602]) h606 c46) (Q.ifB (Q.storeAK (storeC tys ⟨[], 0, h47, 0⟩ 45 v7 v48) fun h607 =>
Q.genK (buildV tys 45 [(0, v597), (1, v595)]) fun v608 =>
Q.storeAK (storeC tys ⟨[], 0, h607, 0⟩ 45 v10 v608) fun h609 =>
Q.genK (loadCC tys ⟨[], 0, h609, 0⟩ 45 v7) fun v610 =>
Q.genK (loadCC tys ⟨[], 0, h609, 0⟩ 45 v10) fun v611 =>
Q.killVK v1 h609 fun h612 =>
Q.killVK v4 h612 fun h613 =>
Q.killVK v23 h613 fun h614 =>
Q.killVK v44 h614 fun h615 =>
K (.tup [v610, v611]) h615 c46) (true) false) false)) (Q.ifB (Q.storeAK (storeC tys ⟨[], 0, h47, 0⟩ 45 v7 v48) fun h616 =>
Q.loadSK h616 v50 fun v617 =>
Q.subK (binC Try.prog .sub 2 (.tmp 33) (.tmp 35) v560 v617) v560 v617 fun v618 =>
Q.genK (buildV tys 45 [(0, v618), (1, v595)]) fun v619 =>
Q.storeAK (storeC tys ⟨[], 0, h616, 0⟩ 45 v10 v619) fun h620 =>
Q.genK (loadCC tys ⟨[], 0, h620, 0⟩ 45 v7) fun v621 =>
Q.genK (loadCC tys ⟨[], 0, h620, 0⟩ 45 v10) fun v622 =>
Q.killVK v1 h620 fun h623 =>
Q.killVK v4 h623 fun h624 =>
Q.killVK v23 h624 fun h625 =>
Q.killVK v44 h625 fun h626 =>
K (.tup [v621, v622]) h626 c46) (true) false) false)) (Q.ifB (Q.storeAK (storeC tys ⟨[], 0, h47, 0⟩ 45 v7 v48) fun h627 =>
Q.loadSK h627 v50 fun v628 =>
Q.subK (binC Try.prog .sub 2 (.tmp 33) (.tmp 35) v560 v628) v560 v628 fun v629 =>
Q.loadSK h627 v52 fun v630 =>
Q.subK (binC Try.prog .sub 2 (.tmp 38) (.tmp 40) v559 v630) v559 v630 fun v631 =>
Q.genK (buildV tys 45 [(0, v629), (1, v631)]) fun v632 =>
Q.storeAK (storeC tys ⟨[], 0, h627, 0⟩ 45 v10 v632) fun h633 =>
Q.genK (loadCC tys ⟨[], 0, h633, 0⟩ 45 v7) fun v634 =>
Q.genK (loadCC tys ⟨[], 0, h633, 0⟩ 45 v10) fun v635 =>
Q.killVK v1 h633 fun h636 =>
Q.killVK v4 h636 fun h637 =>
Q.killVK v23 h637 fun h638 =>
Q.killVK v44 h638 fun h639 =>
K (.tup [v634, v635]) h639 c46) (true) false) false) false) (Q.ifB (Q.loadSK h47 v50 fun v640 =>
Q.ifB (Q.loadSK h47 v49 fun v641 =>
Q.subK (binC Try.prog .sub 2 (.tmp 33) (.tmp 35) v641 v640) v641 v640 fun v642 =>
Q.detK v642 (
Q.ifB (Q.loadSK h47 v52 fun v643 =>
Q.subK (binC Try.prog .sub 2 (.tmp 38) (.tmp 40) v559 v643) v559 v643 fun v644 =>
Q.detK v644 (
Q.ifB (Q.genK (buildV tys 45 [(0, v642), (1, v644)]) fun v645 =>
Q.storeAK (storeC tys ⟨[], 0, h47, 0⟩ 45 v7 v48) fun h646 =>
Q.storeAK (storeC tys ⟨[], 0, h646, 0⟩ 45 v10 v645) fun h647 =>
Q.genK (loadCC tys ⟨[], 0, h647, 0⟩ 45 v7) fun v648 =>
Q.genK (loadCC tys ⟨[], 0, h647, 0⟩ 45 v10) fun v649 =>
Q.killVK v1 h647 fun h650 =>
Q.killVK v4 h650 fun h651 =>
Q.killVK v23 h651 fun h652 =>
Q.killVK v44 h652 fun h653 =>
K (.tup [v648, v649]) h653 c46) (Q.ifB (Q.storeAK (storeC tys ⟨[], 0, h47, 0⟩ 45 v7 v48) fun h654 =>
Q.genK (buildV tys 45 [(0, v642), (1, v644)]) fun v655 =>
Q.storeAK (storeC tys ⟨[], 0, h654, 0⟩ 45 v10 v655) fun h656 =>
Q.genK (loadCC tys ⟨[], 0, h656, 0⟩ 45 v7) fun v657 =>
Q.genK (loadCC tys ⟨[], 0, h656, 0⟩ 45 v10) fun v658 =>
Q.killVK v1 h656 fun h659 =>
Q.killVK v4 h659 fun h660 =>
Q.killVK v23 h660 fun h661 =>
Q.killVK v44 h661 fun h662 =>
K (.tup [v657, v658]) h662 c46) (true) false) false)) (Q.ifB (Q.storeAK (storeC tys ⟨[], 0, h47, 0⟩ 45 v7 v48) fun h663 =>
Q.loadSK h663 v52 fun v664 =>
Q.subK (binC Try.prog .sub 2 (.tmp 38) (.tmp 40) v559 v664) v559 v664 fun v665 =>
Q.genK (buildV tys 45 [(0, v642), (1, v665)]) fun v666 =>
Q.storeAK (storeC tys ⟨[], 0, h663, 0⟩ 45 v10 v666) fun h667 =>
Q.genK (loadCC tys ⟨[], 0, h667, 0⟩ 45 v7) fun v668 =>
Q.genK (loadCC tys ⟨[], 0, h667, 0⟩ 45 v10) fun v669 =>
Q.killVK v1 h667 fun h670 =>
Q.killVK v4 h670 fun h671 =>
Q.killVK v23 h671 fun h672 =>
Q.killVK v44 h672 fun h673 =>
K (.tup [v668, v669]) h673 c46) (true) false) false)) (Q.ifB (Q.loadSK h47 v52 fun v674 =>
Q.subK (binC Try.prog .sub 2 (.tmp 38) (.tmp 40) v559 v674) v559 v674 fun v675 =>
Q.detK v675 (
Q.ifB (Q.loadSK h47 v49 fun v676 =>
Q.subK (binC Try.prog .sub 2 (.tmp 33) (.tmp 35) v676 v640) v676 v640 fun v677 =>
Q.detK v677 (
Q.ifB (Q.genK (buildV tys 45 [(0, v677), (1, v675)]) fun v678 =>
Q.storeAK (storeC tys ⟨[], 0, h47, 0⟩ 45 v7 v48) fun h679 =>
Q.storeAK (storeC tys ⟨[], 0, h679, 0⟩ 45 v10 v678) fun h680 =>
Q.genK (loadCC tys ⟨[], 0, h680, 0⟩ 45 v7) fun v681 =>
Q.genK (loadCC tys ⟨[], 0, h680, 0⟩ 45 v10) fun v682 =>
Q.killVK v1 h680 fun h683 =>
Q.killVK v4 h683 fun h684 =>
Q.killVK v23 h684 fun h685 =>
Q.killVK v44 h685 fun h686 =>
K (.tup [v681, v682]) h686 c46) (Q.ifB (Q.storeAK (storeC tys ⟨[], 0, h47, 0⟩ 45 v7 v48) fun h687 =>
Q.genK (buildV tys 45 [(0, v677), (1, v675)]) fun v688 =>
Q.storeAK (storeC tys ⟨[], 0, h687, 0⟩ 45 v10 v688) fun h689 =>
Q.genK (loadCC tys ⟨[], 0, h689, 0⟩ 45 v7) fun v690 =>
Q.genK (loadCC tys ⟨[], 0, h689, 0⟩ 45 v10) fun v691 =>
Q.killVK v1 h689 fun h692 =>
Q.killVK v4 h692 fun h693 =>
Q.killVK v23 h693 fun h694 =>
Q.killVK v44 h694 fun h695 =>
K (.tup [v690, v691]) h695 c46) (true) false) false)) (Q.ifB (Q.storeAK (storeC tys ⟨[], 0, h47, 0⟩ 45 v7 v48) fun h696 =>
Q.loadSK h696 v49 fun v697 =>
Q.subK (binC Try.prog .sub 2 (.tmp 33) (.tmp 35) v697 v640) v697 v640 fun v698 =>
Q.genK (buildV tys 45 [(0, v698), (1, v675)]) fun v699 =>
Q.storeAK (storeC tys ⟨[], 0, h696, 0⟩ 45 v10 v699) fun h700 =>
Q.genK (loadCC tys ⟨[], 0, h700, 0⟩ 45 v7) fun v701 =>
Q.genK (loadCC tys ⟨[], 0, h700, 0⟩ 45 v10) fun v702 =>
Q.killVK v1 h700 fun h703 =>
Q.killVK v4 h703 fun h704 =>
Q.killVK v23 h704 fun h705 =>
Q.killVK v44 h705 fun h706 =>
K (.tup [v701, v702]) h706 c46) (true) false) false)) (Q.ifB (Q.storeAK (storeC tys ⟨[], 0, h47, 0⟩ 45 v7 v48) fun h707 =>
Q.loadSK h707 v49 fun v708 =>
Q.subK (binC Try.prog .sub 2 (.tmp 33) (.tmp 35) v708 v640) v708 v640 fun v709 =>
Q.loadSK h707 v52 fun v710 =>
Q.subK (binC Try.prog .sub 2 (.tmp 38) (.tmp 40) v559 v710) v559 v710 fun v711 =>
Q.genK (buildV tys 45 [(0, v709), (1, v711)]) fun v712 =>
Q.storeAK (storeC tys ⟨[], 0, h707, 0⟩ 45 v10 v712) fun h713 =>
Q.genK (loadCC tys ⟨[], 0, h713, 0⟩ 45 v7) fun v714 =>
Q.genK (loadCC tys ⟨[], 0, h713, 0⟩ 45 v10) fun v715 =>
Q.killVK v1 h713 fun h716 =>
Q.killVK v4 h716 fun h717 =>
Q.killVK v23 h717 fun h718 =>
Q.killVK v44 h718 fun h719 =>
K (.tup [v714, v715]) h719 c46) (true) false) false) false) (Q.ifB (Q.loadSK h47 v52 fun v720 =>
Q.subK (binC Try.prog .sub 2 (.tmp 38) (.tmp 40) v559 v720) v559 v720 fun v721 =>
Q.detK v721 (
Q.ifB (Q.loadSK h47 v49 fun v722 =>
Q.ifB (Q.loadSK h47 v50 fun v723 =>
Q.subK (binC Try.prog .sub 2 (.tmp 33) (.tmp 35) v722 v723) v722 v723 fun v724 =>
Q.detK v724 (
Q.ifB (Q.genK (buildV tys 45 [(0, v724), (1, v721)]) fun v725 =>
Q.storeAK (storeC tys ⟨[], 0, h47, 0⟩ 45 v7 v48) fun h726 =>
Q.storeAK (storeC tys ⟨[], 0, h726, 0⟩ 45 v10 v725) fun h727 =>
Q.genK (loadCC tys ⟨[], 0, h727, 0⟩ 45 v7) fun v728 =>
Q.genK (loadCC tys ⟨[], 0, h727, 0⟩ 45 v10) fun v729 =>
Q.killVK v1 h727 fun h730 =>
Q.killVK v4 h730 fun h731 =>
Q.killVK v23 h731 fun h732 =>
Q.killVK v44 h732 fun h733 =>
K (.tup [v728, v729]) h733 c46) (Q.ifB (Q.storeAK (storeC tys ⟨[], 0, h47, 0⟩ 45 v7 v48) fun h734 =>
Q.genK (buildV tys 45 [(0, v724), (1, v721)]) fun v735 =>
Q.storeAK (storeC tys ⟨[], 0, h734, 0⟩ 45 v10 v735) fun h736 =>
Q.genK (loadCC tys ⟨[], 0, h736, 0⟩ 45 v7) fun v737 =>
Q.genK (loadCC tys ⟨[], 0, h736, 0⟩ 45 v10) fun v738 =>
Q.killVK v1 h736 fun h739 =>
Q.killVK v4 h739 fun h740 =>
Q.killVK v23 h740 fun h741 =>
Q.killVK v44 h741 fun h742 =>
K (.tup [v737, v738]) h742 c46) (true) false) false)) (Q.ifB (Q.storeAK (storeC tys ⟨[], 0, h47, 0⟩ 45 v7 v48) fun h743 =>
Q.loadSK h743 v50 fun v744 =>
Q.subK (binC Try.prog .sub 2 (.tmp 33) (.tmp 35) v722 v744) v722 v744 fun v745 =>
Q.genK (buildV tys 45 [(0, v745), (1, v721)]) fun v746 =>
Q.storeAK (storeC tys ⟨[], 0, h743, 0⟩ 45 v10 v746) fun h747 =>
Q.genK (loadCC tys ⟨[], 0, h747, 0⟩ 45 v7) fun v748 =>
Q.genK (loadCC tys ⟨[], 0, h747, 0⟩ 45 v10) fun v749 =>
Q.killVK v1 h747 fun h750 =>
Q.killVK v4 h750 fun h751 =>
Q.killVK v23 h751 fun h752 =>
Q.killVK v44 h752 fun h753 =>
K (.tup [v748, v749]) h753 c46) (true) false) false) (Q.ifB (Q.loadSK h47 v50 fun v754 =>
Q.ifB (Q.loadSK h47 v49 fun v755 =>
Q.subK (binC Try.prog .sub 2 (.tmp 33) (.tmp 35) v755 v754) v755 v754 fun v756 =>
Q.detK v756 (
Q.ifB (Q.genK (buildV tys 45 [(0, v756), (1, v721)]) fun v757 =>
Q.storeAK (storeC tys ⟨[], 0, h47, 0⟩ 45 v7 v48) fun h758 =>
Q.storeAK (storeC tys ⟨[], 0, h758, 0⟩ 45 v10 v757) fun h759 =>
Q.genK (loadCC tys ⟨[], 0, h759, 0⟩ 45 v7) fun v760 =>
Q.genK (loadCC tys ⟨[], 0, h759, 0⟩ 45 v10) fun v761 =>
Q.killVK v1 h759 fun h762 =>
Q.killVK v4 h762 fun h763 =>
Q.killVK v23 h763 fun h764 =>
Q.killVK v44 h764 fun h765 =>
K (.tup [v760, v761]) h765 c46) (Q.ifB (Q.storeAK (storeC tys ⟨[], 0, h47, 0⟩ 45 v7 v48) fun h766 =>
Q.genK (buildV tys 45 [(0, v756), (1, v721)]) fun v767 =>
Q.storeAK (storeC tys ⟨[], 0, h766, 0⟩ 45 v10 v767) fun h768 =>
Q.genK (loadCC tys ⟨[], 0, h768, 0⟩ 45 v7) fun v769 =>
Q.genK (loadCC tys ⟨[], 0, h768, 0⟩ 45 v10) fun v770 =>
Q.killVK v1 h768 fun h771 =>
Q.killVK v4 h771 fun h772 =>
Q.killVK v23 h772 fun h773 =>
Q.killVK v44 h773 fun h774 =>
K (.tup [v769, v770]) h774 c46) (true) false) false)) (Q.ifB (Q.storeAK (storeC tys ⟨[], 0, h47, 0⟩ 45 v7 v48) fun h775 =>
Q.loadSK h775 v49 fun v776 =>
Q.subK (binC Try.prog .sub 2 (.tmp 33) (.tmp 35) v776 v754) v776 v754 fun v777 =>
Q.genK (buildV tys 45 [(0, v777), (1, v721)]) fun v778 =>
Q.storeAK (storeC tys ⟨[], 0, h775, 0⟩ 45 v10 v778) fun h779 =>
Q.genK (loadCC tys ⟨[], 0, h779, 0⟩ 45 v7) fun v780 =>
Q.genK (loadCC tys ⟨[], 0, h779, 0⟩ 45 v10) fun v781 =>
Q.killVK v1 h779 fun h782 =>
Q.killVK v4 h782 fun h783 =>
Q.killVK v23 h783 fun h784 =>
Q.killVK v44 h784 fun h785 =>
K (.tup [v780, v781]) h785 c46) (true) false) false) (Q.ifB (Q.storeAK (storeC tys ⟨[], 0, h47, 0⟩ 45 v7 v48) fun h786 =>
Q.loadSK h786 v49 fun v787 =>
Q.loadSK h786 v50 fun v788 =>
Q.subK (binC Try.prog .sub 2 (.tmp 33) (.tmp 35) v787 v788) v787 v788 fun v789 =>
Q.genK (buildV tys 45 [(0, v789), (1, v721)]) fun v790 =>
Q.storeAK (storeC tys ⟨[], 0, h786, 0⟩ 45 v10 v790) fun h791 =>
Q.genK (loadCC tys ⟨[], 0, h791, 0⟩ 45 v7) fun v792 =>
Q.genK (loadCC tys ⟨[], 0, h791, 0⟩ 45 v10) fun v793 =>
Q.killVK v1 h791 fun h794 =>
Q.killVK v4 h794 fun h795 =>
Q.killVK v23 h795 fun h796 =>
Q.killVK v44 h796 fun h797 =>
K (.tup [v792, v793]) h797 c46) (true) false) false) false)) (Q.ifB (Q.storeAK (storeC tys ⟨[], 0, h47, 0⟩ 45 v7 v48) fun h798 =>
Q.loadSK h798 v49 fun v799 =>
Q.loadSK h798 v50 fun v800 =>
Q.subK (binC Try.prog .sub 2 (.tmp 33) (.tmp 35) v799 v800) v799 v800 fun v801 =>
Q.loadSK h798 v52 fun v802 =>
Q.subK (binC Try.prog .sub 2 (.tmp 38) (.tmp 40) v559 v802) v559 v802 fun v803 =>
Q.genK (buildV tys 45 [(0, v801), (1, v803)]) fun v804 =>
Q.storeAK (storeC tys ⟨[], 0, h798, 0⟩ 45 v10 v804) fun h805 =>
Q.genK (loadCC tys ⟨[], 0, h805, 0⟩ 45 v7) fun v806 =>
Q.genK (loadCC tys ⟨[], 0, h805, 0⟩ 45 v10) fun v807 =>
Q.killVK v1 h805 fun h808 =>
Q.killVK v4 h808 fun h809 =>
Q.killVK v23 h809 fun h810 =>
Q.killVK v44 h810 fun h811 =>
K (.tup [v806, v807]) h811 c46) (true) false) false) false) false) (Q.ifB (Q.loadSK h47 v52 fun v812 =>
Q.ifB (Q.loadSK h47 v49 fun v813 =>
Q.ifB (Q.loadSK h47 v50 fun v814 =>
Q.subK (binC Try.prog .sub 2 (.tmp 33) (.tmp 35) v813 v814) v813 v814 fun v815 =>
Q.detK v815 (
Q.ifB (Q.loadSK h47 v51 fun v816 =>
Q.subK (binC Try.prog .sub 2 (.tmp 38) (.tmp 40) v816 v812) v816 v812 fun v817 =>
Q.detK v817 (
Q.ifB (Q.genK (buildV tys 45 [(0, v815), (1, v817)]) fun v818 =>
Q.storeAK (storeC tys ⟨[], 0, h47, 0⟩ 45 v7 v48) fun h819 =>
Q.storeAK (storeC tys ⟨[], 0, h819, 0⟩ 45 v10 v818) fun h820 =>
Q.genK (loadCC tys ⟨[], 0, h820, 0⟩ 45 v7) fun v821 =>
Q.genK (loadCC tys ⟨[], 0, h820, 0⟩ 45 v10) fun v822 =>
Q.killVK v1 h820 fun h823 =>
Q.killVK v4 h823 fun h824 =>
Q.killVK v23 h824 fun h825 =>
Q.killVK v44 h825 fun h826 =>
K (.tup [v821, v822]) h826 c46) (Q.ifB (Q.storeAK (storeC tys ⟨[], 0, h47, 0⟩ 45 v7 v48) fun h827 =>
Q.genK (buildV tys 45 [(0, v815), (1, v817)]) fun v828 =>
Q.storeAK (storeC tys ⟨[], 0, h827, 0⟩ 45 v10 v828) fun h829 =>
Q.genK (loadCC tys ⟨[], 0, h829, 0⟩ 45 v7) fun v830 =>
Q.genK (loadCC tys ⟨[], 0, h829, 0⟩ 45 v10) fun v831 =>
Q.killVK v1 h829 fun h832 =>
Q.killVK v4 h832 fun h833 =>
Q.killVK v23 h833 fun h834 =>
Q.killVK v44 h834 fun h835 =>
K (.tup [v830, v831]) h835 c46) (true) false) false)) (Q.ifB (Q.storeAK (storeC tys ⟨[], 0, h47, 0⟩ 45 v7 v48) fun h836 =>
Q.loadSK h836 v51 fun v837 =>
Q.subK (binC Try.prog .sub 2 (.tmp 38) (.tmp 40) v837 v812) v837 v812 fun v838 =>
Q.genK (buildV tys 45 [(0, v815), (1, v838)]) fun v839 =>
Q.storeAK (storeC tys ⟨[], 0, h836, 0⟩ 45 v10 v839) fun h840 =>
Q.genK (loadCC tys ⟨[], 0, h840, 0⟩ 45 v7) fun v841 =>
Q.genK (loadCC tys ⟨[], 0, h840, 0⟩ 45 v10) fun v842 =>
Q.killVK v1 h840 fun h843 =>
Q.killVK v4 h843 fun h844 =>
Q.killVK v23 h844 fun h845 =>
Q.killVK v44 h845 fun h846 =>
K (.tup [v841, v842]) h846 c46) (true) false) false)) (Q.ifB (Q.loadSK h47 v51 fun v847 =>
Q.subK (binC Try.prog .sub 2 (.tmp 38) (.tmp 40) v847 v812) v847 v812 fun v848 =>
Q.detK v848 (
Q.ifB (Q.loadSK h47 v50 fun v849 =>
Q.subK (binC Try.prog .sub 2 (.tmp 33) (.tmp 35) v813 v849) v813 v849 fun v850 =>
Q.detK v850 (
Q.ifB (Q.genK (buildV tys 45 [(0, v850), (1, v848)]) fun v851 =>
Q.storeAK (storeC tys ⟨[], 0, h47, 0⟩ 45 v7 v48) fun h852 =>
Q.storeAK (storeC tys ⟨[], 0, h852, 0⟩ 45 v10 v851) fun h853 =>
Q.genK (loadCC tys ⟨[], 0, h853, 0⟩ 45 v7) fun v854 =>
Q.genK (loadCC tys ⟨[], 0, h853, 0⟩ 45 v10) fun v855 =>
Q.killVK v1 h853 fun h856 =>
Q.killVK v4 h856 fun h857 =>
Q.killVK v23 h857 fun h858 =>
Q.killVK v44 h858 fun h859 =>
K (.tup [v854, v855]) h859 c46) (Q.ifB (Q.storeAK (storeC tys ⟨[], 0, h47, 0⟩ 45 v7 v48) fun h860 =>
Q.genK (buildV tys 45 [(0, v850), (1, v848)]) fun v861 =>
Q.storeAK (storeC tys ⟨[], 0, h860, 0⟩ 45 v10 v861) fun h862 =>
Q.genK (loadCC tys ⟨[], 0, h862, 0⟩ 45 v7) fun v863 =>
Q.genK (loadCC tys ⟨[], 0, h862, 0⟩ 45 v10) fun v864 =>
Q.killVK v1 h862 fun h865 =>
Q.killVK v4 h865 fun h866 =>
Q.killVK v23 h866 fun h867 =>
Q.killVK v44 h867 fun h868 =>
K (.tup [v863, v864]) h868 c46) (true) false) false)) (Q.ifB (Q.storeAK (storeC tys ⟨[], 0, h47, 0⟩ 45 v7 v48) fun h869 =>
Q.loadSK h869 v50 fun v870 =>
Q.subK (binC Try.prog .sub 2 (.tmp 33) (.tmp 35) v813 v870) v813 v870 fun v871 =>
Q.genK (buildV tys 45 [(0, v871), (1, v848)]) fun v872 =>
Q.storeAK (storeC tys ⟨[], 0, h869, 0⟩ 45 v10 v872) fun h873 =>
Q.genK (loadCC tys ⟨[], 0, h873, 0⟩ 45 v7) fun v874 =>
Q.genK (loadCC tys ⟨[], 0, h873, 0⟩ 45 v10) fun v875 =>
Q.killVK v1 h873 fun h876 =>
Q.killVK v4 h876 fun h877 =>
Q.killVK v23 h877 fun h878 =>
Q.killVK v44 h878 fun h879 =>
K (.tup [v874, v875]) h879 c46) (true) false) false)) (Q.ifB (Q.storeAK (storeC tys ⟨[], 0, h47, 0⟩ 45 v7 v48) fun h880 =>
Q.loadSK h880 v50 fun v881 =>
Q.subK (binC Try.prog .sub 2 (.tmp 33) (.tmp 35) v813 v881) v813 v881 fun v882 =>
Q.loadSK h880 v51 fun v883 =>
Q.subK (binC Try.prog .sub 2 (.tmp 38) (.tmp 40) v883 v812) v883 v812 fun v884 =>
Q.genK (buildV tys 45 [(0, v882), (1, v884)]) fun v885 =>
Q.storeAK (storeC tys ⟨[], 0, h880, 0⟩ 45 v10 v885) fun h886 =>
Q.genK (loadCC tys ⟨[], 0, h886, 0⟩ 45 v7) fun v887 =>
Q.genK (loadCC tys ⟨[], 0, h886, 0⟩ 45 v10) fun v888 =>
Q.killVK v1 h886 fun h889 =>
Q.killVK v4 h889 fun h890 =>
Q.killVK v23 h890 fun h891 =>
Q.killVK v44 h891 fun h892 =>
K (.tup [v887, v888]) h892 c46) (true) false) false) false) (Q.ifB (Q.loadSK h47 v50 fun v893 =>
Q.ifB (Q.loadSK h47 v49 fun v894 =>
Q.subK (binC Try.prog .sub 2 (.tmp 33) (.tmp 35) v894 v893) v894 v893 fun v895 =>
Q.detK v895 (
Q.ifB (Q.loadSK h47 v51 fun v896 =>
Q.subK (binC Try.prog .sub 2 (.tmp 38) (.tmp 40) v896 v812) v896 v812 fun v897 =>
Q.detK v897 (
Q.ifB (Q.genK (buildV tys 45 [(0, v895), (1, v897)]) fun v898 =>
Q.storeAK (storeC tys ⟨[], 0, h47, 0⟩ 45 v7 v48) fun h899 =>
Q.storeAK (storeC tys ⟨[], 0, h899, 0⟩ 45 v10 v898) fun h900 =>
Q.genK (loadCC tys ⟨[], 0, h900, 0⟩ 45 v7) fun v901 =>
Q.genK (loadCC tys ⟨[], 0, h900, 0⟩ 45 v10) fun v902 =>
Q.killVK v1 h900 fun h903 =>
Q.killVK v4 h903 fun h904 =>
Q.killVK v23 h904 fun h905 =>
Q.killVK v44 h905 fun h906 =>
K (.tup [v901, v902]) h906 c46) (Q.ifB (Q.storeAK (storeC tys ⟨[], 0, h47, 0⟩ 45 v7 v48) fun h907 =>
Q.genK (buildV tys 45 [(0, v895), (1, v897)]) fun v908 =>
Q.storeAK (storeC tys ⟨[], 0, h907, 0⟩ 45 v10 v908) fun h909 =>
Q.genK (loadCC tys ⟨[], 0, h909, 0⟩ 45 v7) fun v910 =>
Q.genK (loadCC tys ⟨[], 0, h909, 0⟩ 45 v10) fun v911 =>
Q.killVK v1 h909 fun h912 =>
Q.killVK v4 h912 fun h913 =>
Q.killVK v23 h913 fun h914 =>
Q.killVK v44 h914 fun h915 =>
K (.tup [v910, v911]) h915 c46) (true) false) false)) (Q.ifB (Q.storeAK (storeC tys ⟨[], 0, h47, 0⟩ 45 v7 v48) fun h916 =>
Q.loadSK h916 v51 fun v917 =>
Q.subK (binC Try.prog .sub 2 (.tmp 38) (.tmp 40) v917 v812) v917 v812 fun v918 =>
Q.genK (buildV tys 45 [(0, v895), (1, v918)]) fun v919 =>
Q.storeAK (storeC tys ⟨[], 0, h916, 0⟩ 45 v10 v919) fun h920 =>
Q.genK (loadCC tys ⟨[], 0, h920, 0⟩ 45 v7) fun v921 =>
Q.genK (loadCC tys ⟨[], 0, h920, 0⟩ 45 v10) fun v922 =>
Q.killVK v1 h920 fun h923 =>
Q.killVK v4 h923 fun h924 =>
Q.killVK v23 h924 fun h925 =>
Q.killVK v44 h925 fun h926 =>
K (.tup [v921, v922]) h926 c46) (true) false) false)) (Q.ifB (Q.loadSK h47 v51 fun v927 =>
Q.subK (binC Try.prog .sub 2 (.tmp 38) (.tmp 40) v927 v812) v927 v812 fun v928 =>
Q.detK v928 (
Q.ifB (Q.loadSK h47 v49 fun v929 =>
Q.subK (binC Try.prog .sub 2 (.tmp 33) (.tmp 35) v929 v893) v929 v893 fun v930 =>
Q.detK v930 (
Q.ifB (Q.genK (buildV tys 45 [(0, v930), (1, v928)]) fun v931 =>
Q.storeAK (storeC tys ⟨[], 0, h47, 0⟩ 45 v7 v48) fun h932 =>
Q.storeAK (storeC tys ⟨[], 0, h932, 0⟩ 45 v10 v931) fun h933 =>
Q.genK (loadCC tys ⟨[], 0, h933, 0⟩ 45 v7) fun v934 =>
Q.genK (loadCC tys ⟨[], 0, h933, 0⟩ 45 v10) fun v935 =>
Q.killVK v1 h933 fun h936 =>
Q.killVK v4 h936 fun h937 =>
Q.killVK v23 h937 fun h938 =>
Q.killVK v44 h938 fun h939 =>
K (.tup [v934, v935]) h939 c46) (Q.ifB (Q.storeAK (storeC tys ⟨[], 0, h47, 0⟩ 45 v7 v48) fun h940 =>
Q.genK (buildV tys 45 [(0, v930), (1, v928)]) fun v941 =>
Q.storeAK (storeC tys ⟨[], 0, h940, 0⟩ 45 v10 v941) fun h942 =>
Q.genK (loadCC tys ⟨[], 0, h942, 0⟩ 45 v7) fun v943 =>
Q.genK (loadCC tys ⟨[], 0, h942, 0⟩ 45 v10) fun v944 =>
Q.killVK v1 h942 fun h945 =>
Q.killVK v4 h945 fun h946 =>
Q.killVK v23 h946 fun h947 =>
Q.killVK v44 h947 fun h948 =>
K (.tup [v943, v944]) h948 c46) (true) false) false)) (Q.ifB (Q.storeAK (storeC tys ⟨[], 0, h47, 0⟩ 45 v7 v48) fun h949 =>
Q.loadSK h949 v49 fun v950 =>
Q.subK (binC Try.prog .sub 2 (.tmp 33) (.tmp 35) v950 v893) v950 v893 fun v951 =>
Q.genK (buildV tys 45 [(0, v951), (1, v928)]) fun v952 =>
Q.storeAK (storeC tys ⟨[], 0, h949, 0⟩ 45 v10 v952) fun h953 =>
Q.genK (loadCC tys ⟨[], 0, h953, 0⟩ 45 v7) fun v954 =>
Q.genK (loadCC tys ⟨[], 0, h953, 0⟩ 45 v10) fun v955 =>
Q.killVK v1 h953 fun h956 =>
Q.killVK v4 h956 fun h957 =>
Q.killVK v23 h957 fun h958 =>
Q.killVK v44 h958 fun h959 =>
K (.tup [v954, v955]) h959 c46) (true) false) false)) (Q.ifB (Q.storeAK (storeC tys ⟨[], 0, h47, 0⟩ 45 v7 v48) fun h960 =>
Q.loadSK h960 v49 fun v961 =>
Q.subK (binC Try.prog .sub 2 (.tmp 33) (.tmp 35) v961 v893) v961 v893 fun v962 =>
Q.loadSK h960 v51 fun v963 =>
Q.subK (binC Try.prog .sub 2 (.tmp 38) (.tmp 40) v963 v812) v963 v812 fun v964 =>
Q.genK (buildV tys 45 [(0, v962), (1, v964)]) fun v965 =>
Q.storeAK (storeC tys ⟨[], 0, h960, 0⟩ 45 v10 v965) fun h966 =>
Q.genK (loadCC tys ⟨[], 0, h966, 0⟩ 45 v7) fun v967 =>
Q.genK (loadCC tys ⟨[], 0, h966, 0⟩ 45 v10) fun v968 =>
Q.killVK v1 h966 fun h969 =>
Q.killVK v4 h969 fun h970 =>
Q.killVK v23 h970 fun h971 =>
Q.killVK v44 h971 fun h972 =>
K (.tup [v967, v968]) h972 c46) (true) false) false) false) (Q.ifB (Q.loadSK h47 v51 fun v973 =>
Q.subK (binC Try.prog .sub 2 (.tmp 38) (.tmp 40) v973 v812) v973 v812 fun v974 =>
Q.detK v974 (
Q.ifB (Q.loadSK h47 v49 fun v975 =>
Q.ifB (Q.loadSK h47 v50 fun v976 =>
Q.subK (binC Try.prog .sub 2 (.tmp 33) (.tmp 35) v975 v976) v975 v976 fun v977 =>
Q.detK v977 (
Q.ifB (Q.genK (buildV tys 45 [(0, v977), (1, v974)]) fun v978 =>
Q.storeAK (storeC tys ⟨[], 0, h47, 0⟩ 45 v7 v48) fun h979 =>
Q.storeAK (storeC tys ⟨[], 0, h979, 0⟩ 45 v10 v978) fun h980 =>
Q.genK (loadCC tys ⟨[], 0, h980, 0⟩ 45 v7) fun v981 =>
Q.genK (loadCC tys ⟨[], 0, h980, 0⟩ 45 v10) fun v982 =>
Q.killVK v1 h980 fun h983 =>
Q.killVK v4 h983 fun h984 =>
Q.killVK v23 h984 fun h985 =>
Q.killVK v44 h985 fun h986 =>
K (.tup [v981, v982]) h986 c46) (Q.ifB (Q.storeAK (storeC tys ⟨[], 0, h47, 0⟩ 45 v7 v48) fun h987 =>
Q.genK (buildV tys 45 [(0, v977), (1, v974)]) fun v988 =>
Q.storeAK (storeC tys ⟨[], 0, h987, 0⟩ 45 v10 v988) fun h989 =>
Q.genK (loadCC tys ⟨[], 0, h989, 0⟩ 45 v7) fun v990 =>
Q.genK (loadCC tys ⟨[], 0, h989, 0⟩ 45 v10) fun v991 =>
Q.killVK v1 h989 fun h992 =>
Q.killVK v4 h992 fun h993 =>
Q.killVK v23 h993 fun h994 =>
Q.killVK v44 h994 fun h995 =>
K (.tup [v990, v991]) h995 c46) (true) false) false)) (Q.ifB (Q.storeAK (storeC tys ⟨[], 0, h47, 0⟩ 45 v7 v48) fun h996 =>
Q.loadSK h996 v50 fun v997 =>
Q.subK (binC Try.prog .sub 2 (.tmp 33) (.tmp 35) v975 v997) v975 v997 fun v998 =>
Q.genK (buildV tys 45 [(0, v998), (1, v974)]) fun v999 =>
Q.storeAK (storeC tys ⟨[], 0, h996, 0⟩ 45 v10 v999) fun h1000 =>
Q.genK (loadCC tys ⟨[], 0, h1000, 0⟩ 45 v7) fun v1001 =>
Q.genK (loadCC tys ⟨[], 0, h1000, 0⟩ 45 v10) fun v1002 =>
Q.killVK v1 h1000 fun h1003 =>
Q.killVK v4 h1003 fun h1004 =>
Q.killVK v23 h1004 fun h1005 =>
Q.killVK v44 h1005 fun h1006 =>
K (.tup [v1001, v1002]) h1006 c46) (true) false) false) (Q.ifB (Q.loadSK h47 v50 fun v1007 =>
Q.ifB (Q.loadSK h47 v49 fun v1008 =>
Q.subK (binC Try.prog .sub 2 (.tmp 33) (.tmp 35) v1008 v1007) v1008 v1007 fun v1009 =>
Q.detK v1009 (
Q.ifB (Q.genK (buildV tys 45 [(0, v1009), (1, v974)]) fun v1010 =>
Q.storeAK (storeC tys ⟨[], 0, h47, 0⟩ 45 v7 v48) fun h1011 =>
Q.storeAK (storeC tys ⟨[], 0, h1011, 0⟩ 45 v10 v1010) fun h1012 =>
Q.genK (loadCC tys ⟨[], 0, h1012, 0⟩ 45 v7) fun v1013 =>
Q.genK (loadCC tys ⟨[], 0, h1012, 0⟩ 45 v10) fun v1014 =>
Q.killVK v1 h1012 fun h1015 =>
Q.killVK v4 h1015 fun h1016 =>
Q.killVK v23 h1016 fun h1017 =>
Q.killVK v44 h1017 fun h1018 =>
K (.tup [v1013, v1014]) h1018 c46) (Q.ifB (Q.storeAK (storeC tys ⟨[], 0, h47, 0⟩ 45 v7 v48) fun h1019 =>
Q.genK (buildV tys 45 [(0, v1009), (1, v974)]) fun v1020 =>
Q.storeAK (storeC tys ⟨[], 0, h1019, 0⟩ 45 v10 v1020) fun h1021 =>
Q.genK (loadCC tys ⟨[], 0, h1021, 0⟩ 45 v7) fun v1022 =>
Q.genK (loadCC tys ⟨[], 0, h1021, 0⟩ 45 v10) fun v1023 =>
Q.killVK v1 h1021 fun h1024 =>
Q.killVK v4 h1024 fun h1025 =>
Q.killVK v23 h1025 fun h1026 =>
Q.killVK v44 h1026 fun h1027 =>
K (.tup [v1022, v1023]) h1027 c46) (true) false) false)) (Q.ifB (Q.storeAK (storeC tys ⟨[], 0, h47, 0⟩ 45 v7 v48) fun h1028 =>
Q.loadSK h1028 v49 fun v1029 =>
Q.subK (binC Try.prog .sub 2 (.tmp 33) (.tmp 35) v1029 v1007) v1029 v1007 fun v1030 =>
Q.genK (buildV tys 45 [(0, v1030), (1, v974)]) fun v1031 =>
Q.storeAK (storeC tys ⟨[], 0, h1028, 0⟩ 45 v10 v1031) fun h1032 =>
Q.genK (loadCC tys ⟨[], 0, h1032, 0⟩ 45 v7) fun v1033 =>
Q.genK (loadCC tys ⟨[], 0, h1032, 0⟩ 45 v10) fun v1034 =>
Q.killVK v1 h1032 fun h1035 =>
Q.killVK v4 h1035 fun h1036 =>
Q.killVK v23 h1036 fun h1037 =>
Q.killVK v44 h1037 fun h1038 =>
K (.tup [v1033, v1034]) h1038 c46) (true) false) false) (Q.ifB (Q.storeAK (storeC tys ⟨[], 0, h47, 0⟩ 45 v7 v48) fun h1039 =>
Q.loadSK h1039 v49 fun v1040 =>
Q.loadSK h1039 v50 fun v1041 =>
Q.subK (binC Try.prog .sub 2 (.tmp 33) (.tmp 35) v1040 v1041) v1040 v1041 fun v1042 =>
Q.genK (buildV tys 45 [(0, v1042), (1, v974)]) fun v1043 =>
Q.storeAK (storeC tys ⟨[], 0, h1039, 0⟩ 45 v10 v1043) fun h1044 =>
Q.genK (loadCC tys ⟨[], 0, h1044, 0⟩ 45 v7) fun v1045 =>
Q.genK (loadCC tys ⟨[], 0, h1044, 0⟩ 45 v10) fun v1046 =>
Q.killVK v1 h1044 fun h1047 =>
Q.killVK v4 h1047 fun h1048 =>
Q.killVK v23 h1048 fun h1049 =>
Q.killVK v44 h1049 fun h1050 =>
K (.tup [v1045, v1046]) h1050 c46) (true) false) false) false)) (Q.ifB (Q.storeAK (storeC tys ⟨[], 0, h47, 0⟩ 45 v7 v48) fun h1051 =>
Q.loadSK h1051 v49 fun v1052 =>
Q.loadSK h1051 v50 fun v1053 =>
Q.subK (binC Try.prog .sub 2 (.tmp 33) (.tmp 35) v1052 v1053) v1052 v1053 fun v1054 =>
Q.loadSK h1051 v51 fun v1055 =>
Q.subK (binC Try.prog .sub 2 (.tmp 38) (.tmp 40) v1055 v812) v1055 v812 fun v1056 =>
Q.genK (buildV tys 45 [(0, v1054), (1, v1056)]) fun v1057 =>
Q.storeAK (storeC tys ⟨[], 0, h1051, 0⟩ 45 v10 v1057) fun h1058 =>
Q.genK (loadCC tys ⟨[], 0, h1058, 0⟩ 45 v7) fun v1059 =>
Q.genK (loadCC tys ⟨[], 0, h1058, 0⟩ 45 v10) fun v1060 =>
Q.killVK v1 h1058 fun h1061 =>
Q.killVK v4 h1061 fun h1062 =>
Q.killVK v23 h1062 fun h1063 =>
Q.killVK v44 h1063 fun h1064 =>
K (.tup [v1059, v1060]) h1064 c46) (true) false) false) false) false) (Q.ifB (Q.storeAK (storeC tys ⟨[], 0, h47, 0⟩ 45 v7 v48) fun h1065 =>
Q.loadSK h1065 v49 fun v1066 =>
Q.loadSK h1065 v50 fun v1067 =>
Q.subK (binC Try.prog .sub 2 (.tmp 33) (.tmp 35) v1066 v1067) v1066 v1067 fun v1068 =>
Q.loadSK h1065 v51 fun v1069 =>
Q.loadSK h1065 v52 fun v1070 =>
Q.subK (binC Try.prog .sub 2 (.tmp 38) (.tmp 40) v1069 v1070) v1069 v1070 fun v1071 =>
Q.genK (buildV tys 45 [(0, v1068), (1, v1071)]) fun v1072 =>
Q.storeAK (storeC tys ⟨[], 0, h1065, 0⟩ 45 v10 v1072) fun h1073 =>
Q.genK (loadCC tys ⟨[], 0, h1073, 0⟩ 45 v7) fun v1074 =>
Q.genK (loadCC tys ⟨[], 0, h1073, 0⟩ 45 v10) fun v1075 =>
Q.killVK v1 h1073 fun h1076 =>
Q.killVK v4 h1076 fun h1077 =>
Q.killVK v23 h1077 fun h1078 =>
Q.killVK v44 h1078 fun h1079 =>
K (.tup [v1074, v1075]) h1079 c46) (true) false) false) false) false) false))))))
theorem R61_eq (Q : Prim) (fu : Nat) (call : CallK) : curryA 2 (fnK Q Try.prog tys stl fu call e61) = R61 Q fu call := by kernel_rfl
noncomputable def n61 : List CV → HP → Nat → KV → Bool := appF 2 (R61 real 1000000 d1.fn)
theorem n61_ok : ∀ args hp c K, n61 args hp c K = true → Out (fun N => enterK Try.prog tys tab (execC Try.prog tys stl tab N) 61 args hp c) (stl 61 = true) fun p => K p.1 p.2.1 p.2.2 = true := node_ok d1_ok (by kernel_rfl) rfl g61 (R61_eq _ _ _)
/- math.Abs -/
noncomputable def R74 (Q : Prim) (fu : Nat) (call : CallK) (a0 : CV) (h0 : HP) (c0 : Nat) (K : KV) : Bool :=
call 77 [a0] h0 c0 fun v1 h2 c3 =>
Q.genK (binC Try.prog .andNot 112 (.tmp 4) (.const (.int .u64 (.ofNat 9223372036854775808))) v1 (.int .u64 (.ofNat 9223372036854775808))) fun v4 =>
call 78 [v4] h2 c3 fun v5 h6 c7 =>
K v5 h6 c7
theorem R74_eq (Q : Prim) (fu : Nat) (call : CallK) : curryA 1 (fnK Q Try.prog tys stl fu call e74) = R74 Q fu call := by kernel_rfl
noncomputable def n74 : List CV → HP → Nat → KV → Bool := appF 1 (R74 real 1000000 d1.fn)
theorem n74_ok : ∀ args hp c K, n74 args hp c K = true → Out (fun N => enterK Try.prog tys tab (execC Try.prog tys stl tab N) 74 args hp c) (stl 74 = true) fun p => K p.1 p.2.1 p.2.2 = true := node_ok d1_ok (by kernel_rfl) rfl g74 (R74_eq _ _ _)
/- math.Copysign -/
noncomputable def R83 (Q : Prim) (fu : Nat) (call : CallK) (a0 : CV) (a1 : CV) (h0 : HP) (c0 : Nat) (K : KV) : Bool :=
call 77 [a0] h0 c0 fun v1 h2 c3 =>
Q.genK (binC Try.prog .andNot 112 (.tmp 6) (.const (.int .u64 (.ofNat 9223372036854775808))) v1 (.int .u64 (.ofNat 9223372036854775808))) fun v4 =>
call 77 [a1] h2 c3 fun v5 h6 c7 =>
Q.bitK Nat.land (binC Try.prog .and 112 (.tmp 9) (.const (.int .u64 (.ofNat 9223372036854775808))) v5 (.int .u64 (.ofNat 9223372036854775808))) v5 (.int .u64 (.ofNat 9223372036854775808)) fun v8 =>
Q.bitK Nat.lor (binC Try.prog .or 112 (.tmp 7) (.tmp 10) v4 v8) v4 v8 fun v9 =>
call 78 [v9] h6 c7 fun v10 h11 c12 =>
K v10 h11 c12
theorem R83_eq (Q : Prim) (fu : Nat) (call : CallK) : curryA 2 (fnK Q Try.prog tys stl fu call e83) = R83 Q fu call := by kernel_rfl
noncomputable def n83 : List CV → HP → Nat → KV → Bool := appF 2 (R83 real 1000000 d1.fn)
theorem n83_ok : ∀ args hp c K, n83 args hp c K = true → Out (fun N => enterK Try.prog tys tab (execC Try.prog tys stl tab N) 83 args hp c) (stl 83 = true) fun p => K p.1 p.2.1 p.2.2 = true := node_ok d1_ok (by kernel_rfl) rfl g83 (R83_eq _ _ _)
noncomputable def d2 : Disp := (.node 61 n61 (.node 41 n41 (.node 30 n30 (.node 15 n15 (.node 13 n13 .leaf .leaf) .leaf) (.node 39 n39 (.node 37 n37 .leaf .leaf) .leaf)) (.node 55 n55 (.node 49 n49 (.node 47 n47 .leaf .leaf) .leaf) (.node 59 n59 (.node 56 n56 .leaf .leaf) .leaf))) (.node 74 n74 (.node 65 n65 (.node 64 n64 (.node 63 n63 .leaf .leaf) .leaf) (.node 72 n72 (.node 69 n69 .leaf .leaf) .leaf)) (.node 79 n79 (.node 78 n78 (.node 77 n77 .leaf .leaf) .leaf) (.node 83 n83 .leaf .leaf))))
theorem d2_ok : CallSim Try.prog tys stl tab d2.fn := Disp.sim ⟨n61_ok, ⟨n41_ok, ⟨n30_ok, ⟨n15_ok, ⟨n13_ok, True.intro, True.intro⟩, True.intro⟩, ⟨n39_ok, ⟨n37_ok, True.intro, True.intro⟩, True.intro⟩⟩, ⟨n55_ok, ⟨n49_ok, ⟨n47_ok, True.intro, True.intro⟩, True.intro⟩, ⟨n59_ok, ⟨n56_ok, True.intro, True.intro⟩, True.intro⟩⟩⟩, ⟨n74_ok, ⟨n65_ok, ⟨n64_ok, ⟨n63_ok, True.intro, True.intro⟩, True.intro⟩, ⟨n72_ok, ⟨n69_ok, True.intro, True.intro⟩, True.intro⟩⟩, ⟨n79_ok, ⟨n78_ok, ⟨n77_ok, True.intro, True.intro⟩, True.intro⟩, ⟨n83_ok, True.intro, True.intro⟩⟩⟩⟩
/- foghorn/foghornlaw03.awake -/
noncomputable def R24 (Q : Prim) (fu : Nat) (call : CallK) (h0 : HP) (c0 : Nat) (K : KV) : Bool :=
Q.genK (buildV tys 45 [(0, (.int .i64 (.ofNat 3))), (1, (.int .i64 (.ofNat 2)))]) fun v1 =>
call 37 [v1, (.int .i64 (.ofNat 3))] h0 c0 fun v2 h3 c4 =>
Q.onTup v2 false fun l5 => Q.nthOK 0 l5 fun v6 =>
Q.onTup v2 false fun l7 => Q.nthOK 1 l7 fun v8 =>
call 13 [(.cpx .f64 4607182418800017408 4611686018427387904), (.cpx .f64 4613937818241073152 13830554455654793216)] h3 c4 fun v9 h10 c11 =>
Q.cmpK (cmpF .eql) (binC Try.prog .eql 24 (.tmp 8) (.const (.complex .f64 4617315517961601024 4617315517961601024)) v9 (.cpx .f64 4617315517961601024 4617315517961601024)) v9 (.cpx .f64 4617315517961601024 4617315517961601024) fun v12 =>
Q.share _ (fun v14 h15 c16 =>
Q.share _ (fun v18 h19 c20 =>
Q.pickK v12 v18 (.bool false) fun v21 =>
Q.share _ (fun v23 h24 c25 =>
Q.share _ (fun v27 h28 c29 =>
Q.pickK v21 v27 (.bool false) fun v30 =>
Q.share _ (fun v32 h33 c34 =>
Q.share _ (fun v36 h37 c38 =>
Q.pickK v30 v36 (.bool false) fun v39 =>
K v39 h37 c38) fun f35 =>
Q.guardK true v30 (Q.cmpK (cmpF .eql) (binC Try.prog .eql 42 (.tmp 19) (.const (.int .u32 (.ofNat 1))) v32 (.int .u32 (.ofNat 1))) v32 (.int .u32 (.ofNat 1)) fun v40 =>
f35 v40 h33 c34) (f35 (.tup []) h33 c34)) fun f31 =>
Q.guardK true v30 (f31 v6 h28 c29) (f31 (.tup []) h28 c29)) fun f26 =>
Q.guardK true v21 (Q.cmpK (cmpF .eql) (binC Try.prog .eql 46 (.tmp 15) (.const (.int .i64 (.ofNat 0))) v23 (.int .i64 (.ofNat 0))) v23 (.int .i64 (.ofNat 0)) fun v41 =>
f26 v41 h24 c25) (f26 (.tup []) h24 c25)) fun f22 =>
Q.guardK true v21 (f22 v8 h19 c20) (f22 (.tup []) h19 c20)) fun f17 =>
Q.guardK true v12 (Q.cmpK (cmpF .eql) (binC Try.prog .eql 24 (.tmp 11) (.const (.complex .f64 13835058055282163712 4607182418800017408)) v14 (.cpx .f64 13835058055282163712 4607182418800017408)) v14 (.cpx .f64 13835058055282163712 4607182418800017408) fun v42 =>
f17 v42 h15 c16) (f17 (.tup []) h15 c16)) fun f13 =>
Q.guardK true v12 (call 15 [(.cpx .f64 4607182418800017408 4611686018427387904), (.int .i64 (.ofNat 1))] h10 c11 fun v43 h44 c45 =>
f13 v43 h44 c45) (f13 (.tup []) h10 c11)
theorem R24_eq (Q : Prim) (fu : Nat) (call : CallK) : curryA 0 (fnK Q Try.prog tys stl fu call e24) = R24 Q fu call := by kernel_rfl
noncomputable def n24 : List CV → HP → Nat → KV → Bool := appF 0 (R24 real 1000000 d2.fn)
theorem n24_ok : ∀ args hp c K, n24 args hp c K = true → Out (fun N => enterK Try.prog tys tab (execC Try.prog tys stl tab N) 24 args hp c) (stl 24 = true) fun p => K p.1 p.2.1 p.2.2 = true := node_ok d2_ok (by kernel_rfl) rfl g24 (R24_eq _ _ _)
/- foghorn/plane.Gcd -/
noncomputable def R35 (Q : Prim) (fu : Nat) (call : CallK) (a0 : CV) (a1 : CV) (h0 : HP) (c0 : Nat) (K : KV) : Bool :=
Q.genM (boxC ⟨[], 0, h0, c0⟩ a0) fun v1 h2 c3 =>
Q.genM (boxC ⟨[], 0, h2, c3⟩ a1) fun v4 h5 c6 =>
Q.genM (allocC tys ⟨[], 0, h5, c6⟩ 45) fun v7 h8 c9 =>
Q.genK (loadCC tys ⟨[], 0, h8, 0⟩ 45 v1) fun v10 =>
call 55 [v10] h8 c9 fun v11 h12 c13 =>
Q.notK (two Try.prog v11 (Op.unary .not)) v11 fun v14 =>
Q.share _ (fun v16 h17 c18 =>
Q.share _ (fun v20 h21 c22 =>
Q.share _ (fun v24 h25 c26 =>
Q.pickK v14 (.bool true) v24 fun v27 =>
Q.condK v27 (
Q.genK (buildV tys 45 []) fun v28 =>
Q.storeAK (storeC tys ⟨[], 0, h25, 0⟩ 45 v7 v28) fun h29 =>
Q.genK (loadCC tys ⟨[], 0, h29, 0⟩ 45 v7) fun v30 =>
Q.killVK v1 h29 fun h31 =>
Q.killVK v4 h31 fun h32 =>
K (.tup [v30, (.int .i64 (.ofNat 1))]) h32 c26) (
@Nat.rec (fun _ => Fun 0) (fun _ _ => false) (fun _ f35 h33 c34 =>
Q.genK (loadCC tys ⟨[], 0, h33, 0⟩ 45 v4) fun v36 =>
Q.genK (buildV tys 45 []) fun v37 =>
Q.cmpK (cmpF .eql) (binC Try.prog .eql 45 (.tmp 17) (.tmp 18) v36 v37) v36 v37 fun v38 =>
Q.condK v38 (
@Nat.rec (fun _ => Fun 0) (fun _ _ => false) (fun _ f41 h39 c40 =>
Q.genK (loadCC tys ⟨[], 0, h39, 0⟩ 45 v1) fun v42 =>
Q.genK (buildV tys 45 []) fun v43 =>
Q.cmpK (cmpF .neq) (binC Try.prog .neq 45 (.tmp 28) (.tmp 29) v42 v43) v42 v43 fun v44 =>
Q.share _ (fun v46 h47 c48 =>
Q.share _ (fun v50 h51 c52 =>
Q.share _ (fun v54 h55 c56 =>
Q.share _ (fun v58 h59 c60 =>
Q.share _ (fun v62 h63 c64 =>
Q.share _ (fun v66 h67 c68 =>
Q.share _ (fun v70 h71 c72 =>
Q.share _ (fun v74 h75 c76 =>
Q.pickK v44 v74 (.bool false) fun v77 =>
Q.condK v77 (
Q.fadK 1 v1 fun v78 =>
Q.loadSK h75 v78 fun v79 =>
Q.negK (two Try.prog v79 (Op.unary .neg)) v79 fun v80 =>
Q.fadK 0 v1 fun v81 =>
Q.loadSK h75 v81 fun v82 =>
Q.genK (buildV tys 45 [(0, v80), (1, v82)]) fun v83 =>
Q.storeAK (storeC tys ⟨[], 0, h75, 0⟩ 45 v1 v83) fun h84 =>
f41 h84 c76) (
Q.genK (loadCC tys ⟨[], 0, h75, 0⟩ 45 v1) fun v85 =>
Q.storeAK (storeC tys ⟨[], 0, h75, 0⟩ 45 v7 v85) fun h86 =>
Q.genK (loadCC tys ⟨[], 0, h86, 0⟩ 45 v7) fun v87 =>
Q.killVK v1 h86 fun h88 =>
Q.killVK v4 h88 fun h89 =>
K (.tup [v87, (.int .i64 (.ofNat 0))]) h89 c76)) fun f73 =>
Q.guardK true v44 (Q.pickK v58 (.bool true) v70 fun v90 =>
f73 v90 h71 c72) (f73 (.tup []) h71 c72)) fun f69 =>
Q.guardK false v58 (Q.cmpK (cmpF .lss) (binC Try.prog .lss 2 (.tmp 37) (.const (.int .i64 (.ofNat 0))) v66 (.int .i64 (.ofNat 0))) v66 (.int .i64 (.ofNat 0)) fun v91 =>
f69 v91 h67 c68) (f69 (.tup []) h67 c68)) fun f65 =>
Q.guardK false v58 (Q.loadSK h63 v62 fun v92 =>
f65 v92 h63 c64) (f65 (.tup []) h63 c64)) fun f61 =>
Q.guardK false v58 (Q.fadK 1 v1 fun v93 =>
f61 v93 h59 c60) (f61 (.tup []) h59 c60)) fun f57 =>
Q.guardK true v44 (f57 v54 h55 c56) (f57 (.tup []) h55 c56)) fun f53 =>
Q.guardK true v44 (Q.cmpK (cmpF .leq) (binC Try.prog .leq 2 (.tmp 33) (.const (.int .i64 (.ofNat 0))) v50 (.int .i64 (.ofNat 0))) v50 (.int .i64 (.ofNat 0)) fun v94 =>
f53 v94 h51 c52) (f53 (.tup []) h51 c52)) fun f49 =>
Q.guardK true v44 (Q.loadSK h47 v46 fun v95 =>
f49 v95 h47 c48) (f49 (.tup []) h47 c48)) fun f45 =>
Q.guardK true v44 (Q.fadK 0 v1 fun v96 =>
f45 v96 h39 c40) (f45 (.tup []) h39 c40)) fu h33 c34) (
Q.genK (loadCC tys ⟨[], 0, h33, 0⟩ 45 v1) fun v97 =>
Q.genK (loadCC tys ⟨[], 0, h33, 0⟩ 45 v4) fun v98 =>
call 61 [v97, v98] h33 c34 fun v99 h100 c101 =>
Q.onTup v99 false fun l102 => Q.nthOK 0 l102 fun v103 =>
Q.onTup v99 false fun l104 => Q.nthOK 1 l104 fun v105 =>
Q.genM (allocC tys ⟨[], 0, h100, c101⟩ 45) fun v106 h107 c108 =>
Q.genM (allocC tys ⟨[], 0, h107, c108⟩ 45) fun v109 h110 c111 =>
Q.storeAK (storeC tys ⟨[], 0, h110, 0⟩ 45 v106 v103) fun h112 =>
Q.storeAK (storeC tys ⟨[], 0, h112, 0⟩ 45 v109 v105) fun h113 =>
Q.genK (loadCC tys ⟨[], 0, h113, 0⟩ 45 v4) fun v114 =>
Q.ifB (Q.genK (loadCC tys ⟨[], 0, h113, 0⟩ 45 v109) fun v115 =>
Q.storeAK (storeC tys ⟨[], 0, h113, 0⟩ 45 v1 v114) fun h116 =>
Q.storeAK (storeC tys ⟨[], 0, h116, 0⟩ 45 v4 v115) fun h117 =>
f35 h117 c111) (Q.ifB (Q.storeAK (storeC tys ⟨[], 0, h113, 0⟩ 45 v1 v114) fun h118 =>
Q.genK (loadCC tys ⟨[], 0, h118, 0⟩ 45 v109) fun v119 =>
Q.storeAK (storeC tys ⟨[], 0, h118, 0⟩ 45 v4 v119) fun h120 =>
f35 h120 c111) (true) false) false)) fu h25 c26)) fun f23 =>
Q.guardK false v14 (Q.notK (two Try.prog v20 (Op.unary .not)) v20 fun v121 =>
f23 v121 h21 c22) (f23 (.tup []) h21 c22)) fun f19 =>
Q.guardK false v14 (call 55 [v16] h17 c18 fun v122 h123 c124 =>
f19 v122 h123 c124) (f19 (.tup []) h17 c18)) fun f15 =>
Q.guardK false v14 (Q.genK (loadCC tys ⟨[], 0, h12, 0⟩ 45 v4) fun v125 =>
f15 v125 h12 c13) (f15 (.tup []) h12 c13)
theorem R35_eq (Q : Prim) (fu : Nat) (call : CallK) : curryA 2 (fnK Q Try.prog tys stl fu call e35) = R35 Q fu call := by kernel_rfl
noncomputable def n35 : List CV → HP → Nat → KV → Bool := appF 2 (R35 real 1000000 d2.fn)
theorem n35_ok : ∀ args hp c K, n35 args hp c K = true → Out (fun N => enterK Try.prog tys tab (execC Try.prog tys stl tab N) 35 args hp c) (stl 35 = true) fun p => K p.1 p.2.1 p.2.2 = true := node_ok d2_ok (by kernel_rfl) rfl g35 (R35_eq _ _ _)
/- math.trunc -/
noncomputable def R80 (Q : Prim) (fu : Nat) (call : CallK) (a0 : CV) (h0 : HP) (c0 : Nat) (K : KV) : Bool :=
call 74 [a0] h0 c0 fun v1 h2 c3 =>
Q.cmpK (cmpF .lss) (binC Try.prog .lss 22 (.tmp 6) (.const (.float .f64 4607182418800017408)) v1 (.flt .f64 4607182418800017408)) v1 (.flt .f64 4607182418800017408) fun v4 =>
Q.condK v4 (
call 83 [(.flt .f64 0), a0] h2 c3 fun v5 h6 c7 =>
K v5 h6 c7) (
call 77 [a0] h2 c3 fun v8 h9 c10 =>
Q.shrK (binC Try.prog .shr 112 (.tmp 12) (.const (.int .u64 (.ofNat 52))) v8 (.int .u64 (.ofNat 52))) v8 (.int .u64 (.ofNat 52)) fun v11 =>
Q.bitK Nat.land (binC Try.prog .and 116 (.tmp 13) (.const (.int .u64 (.ofNat 2047))) v11 (.int .u64 (.ofNat 2047))) v11 (.int .u64 (.ofNat 2047)) fun v12 =>
Q.subK (binC Try.prog .sub 116 (.tmp 14) (.const (.int .u64 (.ofNat 1023))) v12 (.int .u64 (.ofNat 1023))) v12 (.int .u64 (.ofNat 1023)) fun v13 =>
Q.share _ (fun v14 h15 c16 =>
call 78 [v14] h15 c16 fun v18 h19 c20 =>
K v18 h19 c20) fun f17 =>
Q.cmpK (cmpF .lss) (binC Try.prog .lss 116 (.tmp 16) (.const (.int .u64 (.ofNat 52))) v13 (.int .u64 (.ofNat 52))) v13 (.int .u64 (.ofNat 52)) fun v21 =>
Q.condK v21 (
Q.subK (binC Try.prog .sub 116 (.const (.int .u64 (.ofNat 52))) (.tmp 19) (.int .u64 (.ofNat 52)) v13) (.int .u64 (.ofNat 52)) v13 fun v22 =>
Q.shlK (binC Try.prog .shl 112 (.const (.int .u64 (.ofNat 1))) (.tmp 20) (.int .u64 (.ofNat 1)) v22) (.int .u64 (.ofNat 1)) v22 fun v23 =>
Q.subK (binC Try.prog .sub 112 (.tmp 21) (.const (.int .u64 (.ofNat 1))) v23 (.int .u64 (.ofNat 1))) v23 (.int .u64 (.ofNat 1)) fun v24 =>
Q.genK (binC Try.prog .andNot 112 (.tmp 18) (.tmp 22) v8 v24) fun v25 =>
f17 v25 h9 c10) (
f17 v8 h9 c10))
theorem R80_eq (Q : Prim) (fu : Nat) (call : CallK) : curryA 1 (fnK Q Try.prog tys stl fu call e80) = R80 Q fu call := by kernel_rfl
noncomputable def n80 : List CV → HP → Nat → KV → Bool := appF 1 (R80 real 1000000 d2.fn)
theorem n80_ok : ∀ args hp c K, n80 args hp c K = true → Out (fun N => enterK Try.prog tys tab (execC Try.prog tys stl tab N) 80 args hp c) (stl 80 = true) fun p => K p.1 p.2.1 p.2.2 = true := node_ok d2_ok (by kernel_rfl) rfl g80 (R80_eq _ _ _)
noncomputable def d3 : Disp := (.node 59 n59 (.node 39 n39 (.node 30 n30 (.node 15 n15 (.node 13 n13 .leaf .leaf) (.node 24 n24 .leaf .leaf)) (.node 37 n37 (.node 35 n35 .leaf .leaf) .leaf)) (.node 49 n49 (.node 47 n47 (.node 41 n41 .leaf .leaf) .leaf) (.node 56 n56 (.node 55 n55 .leaf .leaf) .leaf))) (.node 74 n74 (.node 65 n65 (.node 63 n63 (.node 61 n61 .leaf .leaf) (.node 64 n64 .leaf .leaf)) (.node 72 n72 (.node 69 n69 .leaf .leaf) .leaf)) (.node 79 n79 (.node 78 n78 (.node 77 n77 .leaf .leaf) .leaf) (.node 83 n83 (.node 80 n80 .leaf .leaf) .leaf))))
theorem d3_ok : CallSim Try.prog tys stl tab d3.fn := Disp.sim ⟨n59_ok, ⟨n39_ok, ⟨n30_ok, ⟨n15_ok, ⟨n13_ok, True.intro, True.intro⟩, ⟨n24_ok, True.intro, True.intro⟩⟩, ⟨n37_ok, ⟨n35_ok, True.intro, True.intro⟩, True.intro⟩⟩, ⟨n49_ok, ⟨n47_ok, ⟨n41_ok, True.intro, True.intro⟩, True.intro⟩, ⟨n56_ok, ⟨n55_ok, True.intro, True.intro⟩, True.intro⟩⟩⟩, ⟨n74_ok, ⟨n65_ok, ⟨n63_ok, ⟨n61_ok, True.intro, True.intro⟩, ⟨n64_ok, True.intro, True.intro⟩⟩, ⟨n72_ok, ⟨n69_ok, True.intro, True.intro⟩, True.intro⟩⟩, ⟨n79_ok, ⟨n78_ok, ⟨n77_ok, True.intro, True.intro⟩, True.intro⟩, ⟨n83_ok, ⟨n80_ok, True.intro, True.intro⟩, True.intro⟩⟩⟩⟩
/- math.Trunc -/
noncomputable def R75 (Q : Prim) (fu : Nat) (call : CallK) (a0 : CV) (h0 : HP) (c0 : Nat) (K : KV) : Bool :=
Q.condK (.bool true) (
call 79 [a0] h0 c0 fun v1 h2 c3 =>
K v1 h2 c3) (
call 80 [a0] h0 c0 fun v4 h5 c6 =>
K v4 h5 c6)
theorem R75_eq (Q : Prim) (fu : Nat) (call : CallK) : curryA 1 (fnK Q Try.prog tys stl fu call e75) = R75 Q fu call := by kernel_rfl
noncomputable def n75 : List CV → HP → Nat → KV → Bool := appF 1 (R75 real 1000000 d3.fn)
theorem n75_ok : ∀ args hp c K, n75 args hp c K = true → Out (fun N => enterK Try.prog tys tab (execC Try.prog tys stl tab N) 75 args hp c) (stl 75 = true) fun p => K p.1 p.2.1 p.2.2 = true := node_ok d3_ok (by kernel_rfl) rfl g75 (R75_eq _ _ _)
noncomputable def d4 : Disp := (.node 61 n61 (.node 39 n39 (.node 30 n30 (.node 15 n15 (.node 13 n13 .leaf .leaf) (.node 24 n24 .leaf .leaf)) (.node 37 n37 (.node 35 n35 .leaf .leaf) .leaf)) (.node 55 n55 (.node 47 n47 (.node 41 n41 .leaf .leaf) (.node 49 n49 .leaf .leaf)) (.node 59 n59 (.node 56 n56 .leaf .leaf) .leaf))) (.node 75 n75 (.node 69 n69 (.node 64 n64 (.node 63 n63 .leaf .leaf) (.node 65 n65 .leaf .leaf)) (.node 74 n74 (.node 72 n72 .leaf .leaf) .leaf)) (.node 79 n79 (.node 78 n78 (.node 77 n77 .leaf .leaf) .leaf) (.node 83 n83 (.node 80 n80 .leaf .leaf) .leaf))))
theorem d4_ok : CallSim Try.prog tys stl tab d4.fn := Disp.sim ⟨n61_ok, ⟨n39_ok, ⟨n30_ok, ⟨n15_ok, ⟨n13_ok, True.intro, True.intro⟩, ⟨n24_ok, True.intro, True.intro⟩⟩, ⟨n37_ok, ⟨n35_ok, True.intro, True.intro⟩, True.intro⟩⟩, ⟨n55_ok, ⟨n47_ok, ⟨n41_ok, True.intro, True.intro⟩, ⟨n49_ok, True.intro, True.intro⟩⟩, ⟨n59_ok, ⟨n56_ok, True.intro, True.intro⟩, True.intro⟩⟩⟩, ⟨n75_ok, ⟨n69_ok, ⟨n64_ok, ⟨n63_ok, True.intro, True.intro⟩, ⟨n65_ok, True.intro, True.intro⟩⟩, ⟨n74_ok, ⟨n72_ok, True.intro, True.intro⟩, True.intro⟩⟩, ⟨n79_ok, ⟨n78_ok, ⟨n77_ok, True.intro, True.intro⟩, True.intro⟩, ⟨n83_ok, ⟨n80_ok, True.intro, True.intro⟩, True.intro⟩⟩⟩⟩
/- foghorn/plane.isWhole -/
noncomputable def R67 (Q : Prim) (fu : Nat) (call : CallK) (a0 : CV) (h0 : HP) (c0 : Nat) (K : KV) : Bool :=
call 74 [a0] h0 c0 fun v1 h2 c3 =>
Q.cmpK (cmpF .leq) (binC Try.prog .leq 22 (.tmp 4) (.const (.float .f64 4742290407621132288)) v1 (.flt .f64 4742290407621132288)) v1 (.flt .f64 4742290407621132288) fun v4 =>
Q.share _ (fun v6 h7 c8 =>
Q.share _ (fun v10 h11 c12 =>
Q.share _ (fun v14 h15 c16 =>
Q.share _ (fun v18 h19 c20 =>
Q.pickK v4 v18 (.bool false) fun v21 =>
K v21 h19 c20) fun f17 =>
Q.guardK true v4 (Q.cmpK (cmpF .eql) (binC Try.prog .eql 22 (.tmp 7) (.tmp 9) v6 v14) v6 v14 fun v22 =>
f17 v22 h15 c16) (f17 (.tup []) h15 c16)) fun f13 =>
Q.guardK true v4 (call 75 [v10] h11 c12 fun v23 h24 c25 =>
f13 v23 h24 c25) (f13 (.tup []) h11 c12)) fun f9 =>
Q.guardK true v4 (f9 a0 h7 c8) (f9 (.tup []) h7 c8)) fun f5 =>
Q.guardK true v4 (f5 a0 h2 c3) (f5 (.tup []) h2 c3)
theorem R67_eq (Q : Prim) (fu : Nat) (call : CallK) : curryA 1 (fnK Q Try.prog tys stl fu call e67) = R67 Q fu call := by kernel_rfl
noncomputable def n67 : List CV → HP → Nat → KV → Bool := appF 1 (R67 real 1000000 d4.fn)
theorem n67_ok : ∀ args hp c K, n67 args hp c K = true → Out (fun N => enterK Try.prog tys tab (execC Try.prog tys stl tab N) 67 args hp c) (stl 67 = true) fun p => K p.1 p.2.1 p.2.2 = true := node_ok d4_ok (by kernel_rfl) rfl g67 (R67_eq _ _ _)
noncomputable def d5 : Disp := (.node 61 n61 (.node 39 n39 (.node 30 n30 (.node 15 n15 (.node 13 n13 .leaf .leaf) (.node 24 n24 .leaf .leaf)) (.node 37 n37 (.node 35 n35 .leaf .leaf) .leaf)) (.node 55 n55 (.node 47 n47 (.node 41 n41 .leaf .leaf) (.node 49 n49 .leaf .leaf)) (.node 59 n59 (.node 56 n56 .leaf .leaf) .leaf))) (.node 74 n74 (.node 67 n67 (.node 64 n64 (.node 63 n63 .leaf .leaf) (.node 65 n65 .leaf .leaf)) (.node 72 n72 (.node 69 n69 .leaf .leaf) .leaf)) (.node 79 n79 (.node 77 n77 (.node 75 n75 .leaf .leaf) (.node 78 n78 .leaf .leaf)) (.node 83 n83 (.node 80 n80 .leaf .leaf) .leaf))))
theorem d5_ok : CallSim Try.prog tys stl tab d5.fn := Disp.sim ⟨n61_ok, ⟨n39_ok, ⟨n30_ok, ⟨n15_ok, ⟨n13_ok, True.intro, True.intro⟩, ⟨n24_ok, True.intro, True.intro⟩⟩, ⟨n37_ok, ⟨n35_ok, True.intro, True.intro⟩, True.intro⟩⟩, ⟨n55_ok, ⟨n47_ok, ⟨n41_ok, True.intro, True.intro⟩, ⟨n49_ok, True.intro, True.intro⟩⟩, ⟨n59_ok, ⟨n56_ok, True.intro, True.intro⟩, True.intro⟩⟩⟩, ⟨n74_ok, ⟨n67_ok, ⟨n64_ok, ⟨n63_ok, True.intro, True.intro⟩, ⟨n65_ok, True.intro, True.intro⟩⟩, ⟨n72_ok, ⟨n69_ok, True.intro, True.intro⟩, True.intro⟩⟩, ⟨n79_ok, ⟨n77_ok, ⟨n75_ok, True.intro, True.intro⟩, ⟨n78_ok, True.intro, True.intro⟩⟩, ⟨n83_ok, ⟨n80_ok, True.intro, True.intro⟩, True.intro⟩⟩⟩⟩
/- foghorn/plane.Whole -/
noncomputable def R43 (Q : Prim) (fu : Nat) (call : CallK) (a0 : CV) (h0 : HP) (c0 : Nat) (K : KV) : Bool :=
Q.genM (allocC tys ⟨[], 0, h0, c0⟩ 45) fun v1 h2 c3 =>
Q.genK (two Try.prog a0 fun v => Builtin.real_ #[24] 22 #[v]) fun v4 =>
call 67 [v4] h2 c3 fun v5 h6 c7 =>
Q.notK (two Try.prog v5 (Op.unary .not)) v5 fun v8 =>
Q.share _ (fun v10 h11 c12 =>
Q.share _ (fun v14 h15 c16 =>
Q.share _ (fun v18 h19 c20 =>
Q.share _ (fun v22 h23 c24 =>
Q.pickK v8 (.bool true) v22 fun v25 =>
Q.condK v25 (
Q.genK (buildV tys 45 []) fun v26 =>
Q.storeAK (storeC tys ⟨[], 0, h23, 0⟩ 45 v1 v26) fun h27 =>
Q.genK (loadCC tys ⟨[], 0, h27, 0⟩ 45 v1) fun v28 =>
K (.tup [v28, (.int .i64 (.ofNat 1))]) h27 c24) (
Q.genK (two Try.prog a0 fun v => Builtin.real_ #[24] 22 #[v]) fun v29 =>
Q.genK (convC Try.prog tys ⟨[], 0, h23, 0⟩ 22 2 v29) fun v30 =>
Q.genK (two Try.prog a0 fun v => Builtin.imag_ #[24] 22 #[v]) fun v31 =>
Q.genK (convC Try.prog tys ⟨[], 0, h23, 0⟩ 22 2 v31) fun v32 =>
Q.genK (buildV tys 45 [(0, v30), (1, v32)]) fun v33 =>
Q.storeAK (storeC tys ⟨[], 0, h23, 0⟩ 45 v1 v33) fun h34 =>
Q.genK (loadCC tys ⟨[], 0, h34, 0⟩ 45 v1) fun v35 =>
K (.tup [v35, (.int .i64 (.ofNat 0))]) h34 c24)) fun f21 =>
Q.guardK false v8 (Q.notK (two Try.prog v18 (Op.unary .not)) v18 fun v36 =>
f21 v36 h19 c20) (f21 (.tup []) h19 c20)) fun f17 =>
Q.guardK false v8 (call 67 [v14] h15 c16 fun v37 h38 c39 =>
f17 v37 h38 c39) (f17 (.tup []) h15 c16)) fun f13 =>
Q.guardK false v8 (Q.genK (two Try.prog v10 fun v => Builtin.imag_ #[24] 22 #[v]) fun v40 =>
f13 v40 h11 c12) (f13 (.tup []) h11 c12)) fun f9 =>
Q.guardK false v8 (f9 a0 h6 c7) (f9 (.tup []) h6 c7)
theorem R43_eq (Q : Prim) (fu : Nat) (call : CallK) : curryA 1 (fnK Q Try.prog tys stl fu call e43) = R43 Q fu call := by kernel_rfl
noncomputable def n43 : List CV → HP → Nat → KV → Bool := appF 1 (R43 real 1000000 d5.fn)
theorem n43_ok : ∀ args hp c K, n43 args hp c K = true → Out (fun N => enterK Try.prog tys tab (execC Try.prog tys stl tab N) 43 args hp c) (stl 43 = true) fun p => K p.1 p.2.1 p.2.2 = true := node_ok d5_ok (by kernel_rfl) rfl g43 (R43_eq _ _ _)
noncomputable def d6 : Disp := (.node 61 n61 (.node 41 n41 (.node 30 n30 (.node 15 n15 (.node 13 n13 .leaf .leaf) (.node 24 n24 .leaf .leaf)) (.node 37 n37 (.node 35 n35 .leaf .leaf) (.node 39 n39 .leaf .leaf))) (.node 55 n55 (.node 47 n47 (.node 43 n43 .leaf .leaf) (.node 49 n49 .leaf .leaf)) (.node 59 n59 (.node 56 n56 .leaf .leaf) .leaf))) (.node 74 n74 (.node 67 n67 (.node 64 n64 (.node 63 n63 .leaf .leaf) (.node 65 n65 .leaf .leaf)) (.node 72 n72 (.node 69 n69 .leaf .leaf) .leaf)) (.node 79 n79 (.node 77 n77 (.node 75 n75 .leaf .leaf) (.node 78 n78 .leaf .leaf)) (.node 83 n83 (.node 80 n80 .leaf .leaf) .leaf))))
theorem d6_ok : CallSim Try.prog tys stl tab d6.fn := Disp.sim ⟨n61_ok, ⟨n41_ok, ⟨n30_ok, ⟨n15_ok, ⟨n13_ok, True.intro, True.intro⟩, ⟨n24_ok, True.intro, True.intro⟩⟩, ⟨n37_ok, ⟨n35_ok, True.intro, True.intro⟩, ⟨n39_ok, True.intro, True.intro⟩⟩⟩, ⟨n55_ok, ⟨n47_ok, ⟨n43_ok, True.intro, True.intro⟩, ⟨n49_ok, True.intro, True.intro⟩⟩, ⟨n59_ok, ⟨n56_ok, True.intro, True.intro⟩, True.intro⟩⟩⟩, ⟨n74_ok, ⟨n67_ok, ⟨n64_ok, ⟨n63_ok, True.intro, True.intro⟩, ⟨n65_ok, True.intro, True.intro⟩⟩, ⟨n72_ok, ⟨n69_ok, True.intro, True.intro⟩, True.intro⟩⟩, ⟨n79_ok, ⟨n77_ok, ⟨n75_ok, True.intro, True.intro⟩, ⟨n78_ok, True.intro, True.intro⟩⟩, ⟨n83_ok, ⟨n80_ok, True.intro, True.intro⟩, True.intro⟩⟩⟩⟩
/- foghorn/foghornlaw03.PlaneNone -/
noncomputable def R10 (Q : Prim) (fu : Nat) (call : CallK) (h0 : HP) (c0 : Nat) (K : KV) : Bool :=
call 49 [.nils, .nils] h0 c0 fun v1 h2 c3 =>
Q.onTup v1 false fun l4 => Q.nthOK 0 l4 fun v5 =>
Q.onTup v1 false fun l6 => Q.nthOK 1 l6 fun v7 =>
Q.genM (makeC tys ⟨[], 0, h2, c3⟩ 36 (.int .i64 (.ofNat 65)) (.int .i64 (.ofNat 65))) fun v8 h9 c10 =>
call 49 [v8, .nils] h9 c10 fun v11 h12 c13 =>
Q.onTup v11 false fun l14 => Q.nthOK 0 l14 fun v15 =>
Q.onTup v11 false fun l16 => Q.nthOK 1 l16 fun v17 =>
Q.ifB (Q.genM (makeC tys ⟨[], 0, h12, c13⟩ 36 (.int .i64 (.ofNat 64)) (.int .i64 (.ofNat 64))) fun v18 h19 c20 =>
Q.genM (makeC tys ⟨[], 0, h19, c20⟩ 36 (.int .i64 (.ofNat 3)) (.int .i64 (.ofNat 3))) fun v21 h22 c23 =>
call 49 [v18, v21] h22 c23 fun v24 h25 c26 =>
Q.onTup v24 false fun l27 => Q.nthOK 0 l27 fun v28 =>
Q.onTup v24 false fun l29 => Q.nthOK 1 l29 fun v30 =>
Q.ifB (Q.genM (makeC tys ⟨[], 0, h25, c26⟩ 36 (.int .i64 (.ofNat 1)) (.int .i64 (.ofNat 1))) fun v31 h32 c33 =>
Q.genM (makeC tys ⟨[], 0, h32, c33⟩ 36 (.int .i64 (.ofNat 65537)) (.int .i64 (.ofNat 65537))) fun v34 h35 c36 =>
call 49 [v31, v34] h35 c36 fun v37 h38 c39 =>
Q.onTup v37 false fun l40 => Q.nthOK 0 l40 fun v41 =>
Q.onTup v37 false fun l42 => Q.nthOK 1 l42 fun v43 =>
Q.genK (buildV tys 45 [(0, (.int .i64 (.ofNat 1073741824))), (1, (.int .i64 (.negSucc 1073741823)))]) fun v44 =>
Q.genM (allocC tys ⟨[], 0, h38, c39⟩ 45) fun v45 h46 c47 =>
Q.storeAK (storeC tys ⟨[], 0, h46, 0⟩ 45 v45 v44) fun h48 =>
Q.genK (buildV tys 45 [(0, (.int .i64 (.ofNat 1073741825)))]) fun v49 =>
Q.genM (allocC tys ⟨[], 0, h48, c47⟩ 45) fun v50 h51 c52 =>
Q.storeAK (storeC tys ⟨[], 0, h51, 0⟩ 45 v50 v49) fun h53 =>
Q.genK (loadCC tys ⟨[], 0, h53, 0⟩ 45 v45) fun v54 =>
call 30 [v54] h53 c52 fun v55 h56 c57 =>
Q.onTup v55 false fun l58 => Q.nthOK 0 l58 fun v59 =>
Q.onTup v55 false fun l60 => Q.nthOK 1 l60 fun v61 =>
Q.genK (loadCC tys ⟨[], 0, h56, 0⟩ 45 v50) fun v62 =>
call 30 [v62] h56 c57 fun v63 h64 c65 =>
Q.onTup v63 false fun l66 => Q.nthOK 0 l66 fun v67 =>
Q.onTup v63 false fun l68 => Q.nthOK 1 l68 fun v69 =>
Q.genK (loadCC tys ⟨[], 0, h64, 0⟩ 45 v50) fun v70 =>
Q.genK (loadCC tys ⟨[], 0, h64, 0⟩ 45 v45) fun v71 =>
call 35 [v70, v71] h64 c65 fun v72 h73 c74 =>
Q.onTup v72 false fun l75 => Q.nthOK 0 l75 fun v76 =>
Q.onTup v72 false fun l77 => Q.nthOK 1 l77 fun v78 =>
Q.genM (allocC tys ⟨[], 0, h73, c74⟩ 45) fun v79 h80 c81 =>
Q.storeAK (storeC tys ⟨[], 0, h80, 0⟩ 45 v79 v76) fun h82 =>
Q.genK (loadCC tys ⟨[], 0, h82, 0⟩ 45 v45) fun v83 =>
call 37 [v83, (.int .i64 (.ofNat 31))] h82 c81 fun v84 h85 c86 =>
Q.onTup v84 false fun l87 => Q.nthOK 0 l87 fun v88 =>
Q.onTup v84 false fun l89 => Q.nthOK 1 l89 fun v90 =>
Q.genK (loadCC tys ⟨[], 0, h85, 0⟩ 45 v45) fun v91 =>
call 37 [v91, (.int .i64 (.negSucc 0))] h85 c86 fun v92 h93 c94 =>
Q.onTup v92 false fun l95 => Q.nthOK 0 l95 fun v96 =>
Q.onTup v92 false fun l97 => Q.nthOK 1 l97 fun v98 =>
call 39 [(.int .u32 (.ofNat 1)), (.int .i64 (.ofNat 0))] h93 c94 fun v99 h100 c101 =>
Q.onTup v99 false fun l102 => Q.nthOK 0 l102 fun v103 =>
Q.onTup v99 false fun l104 => Q.nthOK 1 l104 fun v105 =>
Q.genM (allocC tys ⟨[], 0, h100, c101⟩ 45) fun v106 h107 c108 =>
Q.storeAK (storeC tys ⟨[], 0, h107, 0⟩ 45 v106 v103) fun h109 =>
call 39 [(.int .u32 (.ofNat 1073741824)), (.int .i64 (.ofNat 30))] h109 c108 fun v110 h111 c112 =>
Q.onTup v110 false fun l113 => Q.nthOK 0 l113 fun v114 =>
Q.onTup v110 false fun l115 => Q.nthOK 1 l115 fun v116 =>
Q.genM (allocC tys ⟨[], 0, h111, c112⟩ 45) fun v117 h118 c119 =>
Q.storeAK (storeC tys ⟨[], 0, h118, 0⟩ 45 v117 v114) fun h120 =>
Q.genK (buildV tys 45 [(0, (.int .i64 (.ofNat 1073741824)))]) fun v121 =>
call 41 [v121] h120 c119 fun v122 h123 c124 =>
Q.onTup v122 false fun l125 => Q.nthOK 0 l125 fun v126 =>
Q.onTup v122 false fun l127 => Q.nthOK 1 l127 fun v128 =>
call 43 [(.cpx .f64 4742290407621132288 13965662444475908096)] h123 c124 fun v129 h130 c131 =>
Q.onTup v129 false fun l132 => Q.nthOK 0 l132 fun v133 =>
Q.onTup v129 false fun l134 => Q.nthOK 1 l134 fun v135 =>
Q.genM (allocC tys ⟨[], 0, h130, c131⟩ 45) fun v136 h137 c138 =>
Q.storeAK (storeC tys ⟨[], 0, h137, 0⟩ 45 v136 v133) fun h139 =>
call 43 [(.cpx .f64 4742290407625326592 0)] h139 c138 fun v140 h141 c142 =>
Q.onTup v140 false fun l143 => Q.nthOK 0 l143 fun v144 =>
Q.onTup v140 false fun l145 => Q.nthOK 1 l145 fun v146 =>
Q.genM (allocC tys ⟨[], 0, h141, c142⟩ 45) fun v147 h148 c149 =>
Q.storeAK (storeC tys ⟨[], 0, h148, 0⟩ 45 v147 v144) fun h150 =>
Q.cmpK (cmpF .eql) (binC Try.prog .eql 46 (.tmp 101) (.const (.int .i64 (.ofNat 1))) v7 (.int .i64 (.ofNat 1))) v7 (.int .i64 (.ofNat 1)) fun v151 =>
Q.share _ (fun v153 h154 c155 =>
Q.share _ (fun v157 h158 c159 =>
Q.pickK v151 v157 (.bool false) fun v160 =>
Q.share _ (fun v162 h163 c164 =>
Q.share _ (fun v166 h167 c168 =>
Q.pickK v160 v166 (.bool false) fun v169 =>
Q.share _ (fun v171 h172 c173 =>
Q.share _ (fun v175 h176 c177 =>
Q.share _ (fun v179 h180 c181 =>
Q.pickK v169 v179 (.bool false) fun v182 =>
Q.share _ (fun v184 h185 c186 =>
Q.share _ (fun v188 h189 c190 =>
Q.pickK v182 v188 (.bool false) fun v191 =>
Q.share _ (fun v193 h194 c195 =>
Q.share _ (fun v197 h198 c199 =>
Q.pickK v191 v197 (.bool false) fun v200 =>
Q.share _ (fun v202 h203 c204 =>
Q.share _ (fun v206 h207 c208 =>
Q.pickK v200 v206 (.bool false) fun v209 =>
Q.share _ (fun v211 h212 c213 =>
Q.share _ (fun v215 h216 c217 =>
Q.pickK v209 v215 (.bool false) fun v218 =>
Q.share _ (fun v220 h221 c222 =>
Q.share _ (fun v224 h225 c226 =>
Q.pickK v218 v224 (.bool false) fun v227 =>
Q.share _ (fun v229 h230 c231 =>
Q.share _ (fun v233 h234 c235 =>
Q.pickK v227 v233 (.bool false) fun v236 =>
Q.share _ (fun v238 h239 c240 =>
Q.share _ (fun v242 h243 c244 =>
Q.pickK v236 v242 (.bool false) fun v245 =>
Q.share _ (fun v247 h248 c249 =>
Q.share _ (fun v251 h252 c253 =>
Q.pickK v245 v251 (.bool false) fun v254 =>
Q.share _ (fun v256 h257 c258 =>
Q.share _ (fun v260 h261 c262 =>
Q.pickK v254 v260 (.bool false) fun v263 =>
Q.share _ (fun v265 h266 c267 =>
Q.share _ (fun v269 h270 c271 =>
Q.pickK v263 v269 (.bool false) fun v272 =>
Q.share _ (fun v274 h275 c276 =>
Q.share _ (fun v278 h279 c280 =>
Q.pickK v272 v278 (.bool false) fun v281 =>
Q.share _ (fun v283 h284 c285 =>
Q.share _ (fun v287 h288 c289 =>
Q.pickK v281 v287 (.bool false) fun v290 =>
Q.share _ (fun v292 h293 c294 =>
Q.share _ (fun v296 h297 c298 =>
Q.share _ (fun v300 h301 c302 =>
Q.pickK v290 v300 (.bool false) fun v303 =>
Q.share _ (fun v305 h306 c307 =>
Q.share _ (fun v309 h310 c311 =>
Q.pickK v303 v309 (.bool false) fun v312 =>
Q.share _ (fun v314 h315 c316 =>
Q.share _ (fun v318 h319 c320 =>
Q.pickK v312 v318 (.bool false) fun v321 =>
Q.share _ (fun v323 h324 c325 =>
Q.pickK v321 v323 (.bool false) fun v326 =>
Q.killVK v45 h324 fun h327 =>
Q.killVK v50 h327 fun h328 =>
Q.killVK v79 h328 fun h329 =>
Q.killVK v106 h329 fun h330 =>
Q.killVK v117 h330 fun h331 =>
Q.killVK v136 h331 fun h332 =>
Q.killVK v147 h332 fun h333 =>
K v326 h333 c325) fun f322 =>
Q.guardK true v321 (call 24 [] h319 c320 fun v334 h335 c336 =>
f322 v334 h335 c336) (f322 (.tup []) h319 c320)) fun f317 =>
Q.guardK true v312 (Q.cmpK (cmpF .eql) (binC Try.prog .eql 24 (.tmp 174) (.const (.complex .f64 0 0)) v314 (.cpx .f64 0 0)) v314 (.cpx .f64 0 0) fun v337 =>
f317 v337 h315 c316) (f317 (.tup []) h315 c316)) fun f313 =>
Q.guardK true v312 (call 47 [.nils] h310 c311 fun v338 h339 c340 =>
f313 v338 h339 c340) (f313 (.tup []) h310 c311)) fun f308 =>
Q.guardK true v303 (Q.cmpK (cmpF .eql) (binC Try.prog .eql 46 (.tmp 170) (.const (.int .i64 (.ofNat 1))) v305 (.int .i64 (.ofNat 1))) v305 (.int .i64 (.ofNat 1)) fun v341 =>
f308 v341 h306 c307) (f308 (.tup []) h306 c307)) fun f304 =>
Q.guardK true v303 (f304 v146 h301 c302) (f304 (.tup []) h301 c302)) fun f299 =>
Q.guardK true v290 (Q.cmpK (cmpF .eql) (binC Try.prog .eql 45 (.tmp 165) (.tmp 166) v292 v296) v292 v296 fun v342 =>
f299 v342 h297 c298) (f299 (.tup []) h297 c298)) fun f295 =>
Q.guardK true v290 (Q.genK (loadCC tys ⟨[], 0, h293, 0⟩ 45 v45) fun v343 =>
f295 v343 h293 c294) (f295 (.tup []) h293 c294)) fun f291 =>
Q.guardK true v290 (Q.genK (loadCC tys ⟨[], 0, h288, 0⟩ 45 v136) fun v344 =>
f291 v344 h288 c289) (f291 (.tup []) h288 c289)) fun f286 =>
Q.guardK true v281 (Q.cmpK (cmpF .eql) (binC Try.prog .eql 46 (.tmp 161) (.const (.int .i64 (.ofNat 0))) v283 (.int .i64 (.ofNat 0))) v283 (.int .i64 (.ofNat 0)) fun v345 =>
f286 v345 h284 c285) (f286 (.tup []) h284 c285)) fun f282 =>
Q.guardK true v281 (f282 v135 h279 c280) (f282 (.tup []) h279 c280)) fun f277 =>
Q.guardK true v272 (Q.cmpK (cmpF .eql) (binC Try.prog .eql 3 (.tmp 157) (.const (.int .i64 (.ofNat 60))) v274 (.int .i64 (.ofNat 60))) v274 (.int .i64 (.ofNat 60)) fun v346 =>
f277 v346 h275 c276) (f277 (.tup []) h275 c276)) fun f273 =>
Q.guardK true v272 (f273 v126 h270 c271) (f273 (.tup []) h270 c271)) fun f268 =>
Q.guardK true v263 (Q.cmpK (cmpF .eql) (binC Try.prog .eql 46 (.tmp 153) (.const (.int .i64 (.ofNat 0))) v265 (.int .i64 (.ofNat 0))) v265 (.int .i64 (.ofNat 0)) fun v347 =>
f268 v347 h266 c267) (f268 (.tup []) h266 c267)) fun f264 =>
Q.guardK true v263 (f264 v128 h261 c262) (f264 (.tup []) h261 c262)) fun f259 =>
Q.guardK true v254 (Q.cmpK (cmpF .eql) (binC Try.prog .eql 46 (.tmp 149) (.const (.int .i64 (.ofNat 1))) v256 (.int .i64 (.ofNat 1))) v256 (.int .i64 (.ofNat 1)) fun v348 =>
f259 v348 h257 c258) (f259 (.tup []) h257 c258)) fun f255 =>
Q.guardK true v254 (f255 v116 h252 c253) (f255 (.tup []) h252 c253)) fun f250 =>
Q.guardK true v245 (Q.cmpK (cmpF .eql) (binC Try.prog .eql 46 (.tmp 145) (.const (.int .i64 (.ofNat 1))) v247 (.int .i64 (.ofNat 1))) v247 (.int .i64 (.ofNat 1)) fun v349 =>
f250 v349 h248 c249) (f250 (.tup []) h248 c249)) fun f246 =>
Q.guardK true v245 (f246 v105 h243 c244) (f246 (.tup []) h243 c244)) fun f241 =>
Q.guardK true v236 (Q.cmpK (cmpF .eql) (binC Try.prog .eql 46 (.tmp 141) (.const (.int .i64 (.ofNat 1))) v238 (.int .i64 (.ofNat 1))) v238 (.int .i64 (.ofNat 1)) fun v350 =>
f241 v350 h239 c240) (f241 (.tup []) h239 c240)) fun f237 =>
Q.guardK true v236 (f237 v98 h234 c235) (f237 (.tup []) h234 c235)) fun f232 =>
Q.guardK true v227 (Q.cmpK (cmpF .eql) (binC Try.prog .eql 46 (.tmp 137) (.const (.int .i64 (.ofNat 1))) v229 (.int .i64 (.ofNat 1))) v229 (.int .i64 (.ofNat 1)) fun v351 =>
f232 v351 h230 c231) (f232 (.tup []) h230 c231)) fun f228 =>
Q.guardK true v227 (f228 v90 h225 c226) (f228 (.tup []) h225 c226)) fun f223 =>
Q.guardK true v218 (Q.cmpK (cmpF .eql) (binC Try.prog .eql 46 (.tmp 133) (.const (.int .i64 (.ofNat 1))) v220 (.int .i64 (.ofNat 1))) v220 (.int .i64 (.ofNat 1)) fun v352 =>
f223 v352 h221 c222) (f223 (.tup []) h221 c222)) fun f219 =>
Q.guardK true v218 (f219 v78 h216 c217) (f219 (.tup []) h216 c217)) fun f214 =>
Q.guardK true v209 (Q.cmpK (cmpF .eql) (binC Try.prog .eql 46 (.tmp 129) (.const (.int .i64 (.ofNat 1))) v211 (.int .i64 (.ofNat 1))) v211 (.int .i64 (.ofNat 1)) fun v353 =>
f214 v353 h212 c213) (f214 (.tup []) h212 c213)) fun f210 =>
Q.guardK true v209 (f210 v69 h207 c208) (f210 (.tup []) h207 c208)) fun f205 =>
Q.guardK true v200 (Q.cmpK (cmpF .eql) (binC Try.prog .eql 2 (.tmp 125) (.const (.int .i64 (.ofNat 2305843009213693952))) v202 (.int .i64 (.ofNat 2305843009213693952))) v202 (.int .i64 (.ofNat 2305843009213693952)) fun v354 =>
f205 v354 h203 c204) (f205 (.tup []) h203 c204)) fun f201 =>
Q.guardK true v200 (f201 v59 h198 c199) (f201 (.tup []) h198 c199)) fun f196 =>
Q.guardK true v191 (Q.cmpK (cmpF .eql) (binC Try.prog .eql 46 (.tmp 121) (.const (.int .i64 (.ofNat 0))) v193 (.int .i64 (.ofNat 0))) v193 (.int .i64 (.ofNat 0)) fun v355 =>
f196 v355 h194 c195) (f196 (.tup []) h194 c195)) fun f192 =>
Q.guardK true v191 (f192 v61 h189 c190) (f192 (.tup []) h189 c190)) fun f187 =>
Q.guardK true v182 (Q.cmpK (cmpF .eql) (binC Try.prog .eql 46 (.tmp 117) (.const (.int .i64 (.ofNat 1))) v184 (.int .i64 (.ofNat 1))) v184 (.int .i64 (.ofNat 1)) fun v356 =>
f187 v356 h185 c186) (f187 (.tup []) h185 c186)) fun f183 =>
Q.guardK true v182 (f183 v43 h180 c181) (f183 (.tup []) h180 c181)) fun f178 =>
Q.guardK true v169 (Q.cmpK (cmpF .eql) (binC Try.prog .eql 3 (.tmp 113) (.const (.int .i64 (.ofNat 3))) v175 (.int .i64 (.ofNat 3))) v175 (.int .i64 (.ofNat 3)) fun v357 =>
f178 v357 h176 c177) (f178 (.tup []) h176 c177)) fun f174 =>
Q.guardK true v169 (Q.lenF (lenC tys 36 v171) v171 fun v358 =>
f174 v358 h172 c173) (f174 (.tup []) h172 c173)) fun f170 =>
Q.guardK true v169 (f170 v28 h167 c168) (f170 (.tup []) h167 c168)) fun f165 =>
Q.guardK true v160 (Q.cmpK (cmpF .eql) (binC Try.prog .eql 46 (.tmp 108) (.const (.int .i64 (.ofNat 0))) v162 (.int .i64 (.ofNat 0))) v162 (.int .i64 (.ofNat 0)) fun v359 =>
f165 v359 h163 c164) (f165 (.tup []) h163 c164)) fun f161 =>
Q.guardK true v160 (f161 v30 h158 c159) (f161 (.tup []) h158 c159)) fun f156 =>
Q.guardK true v151 (Q.cmpK (cmpF .eql) (binC Try.prog .eql 46 (.tmp 104) (.const (.int .i64 (.ofNat 1))) v153 (.int .i64 (.ofNat 1))) v153 (.int .i64 (.ofNat 1)) fun v360 =>
f156 v360 h154 c155) (f156 (.tup []) h154 c155)) fun f152 =>
Q.guardK true v151 (f152 v17 h150 c149) (f152 (.tup []) h150 c149)) (Q.ifB (Q.genM (makeC tys ⟨[], 0, h25, c26⟩ 36 (.int .i64 (.ofNat 65537)) (.int .i64 (.ofNat 65537))) fun v361 h362 c363 =>
Q.genM (makeC tys ⟨[], 0, h362, c363⟩ 36 (.int .i64 (.ofNat 1)) (.int .i64 (.ofNat 1))) fun v364 h365 c366 =>
call 49 [v364, v361] h365 c366 fun v367 h368 c369 =>
Q.onTup v367 false fun l370 => Q.nthOK 0 l370 fun v371 =>
Q.onTup v367 false fun l372 => Q.nthOK 1 l372 fun v373 =>
Q.genK (buildV tys 45 [(0, (.int .i64 (.ofNat 1073741824))), (1, (.int .i64 (.negSucc 1073741823)))]) fun v374 =>
Q.genM (allocC tys ⟨[], 0, h368, c369⟩ 45) fun v375 h376 c377 =>
Q.storeAK (storeC tys ⟨[], 0, h376, 0⟩ 45 v375 v374) fun h378 =>
Q.genK (buildV tys 45 [(0, (.int .i64 (.ofNat 1073741825)))]) fun v379 =>
Q.genM (allocC tys ⟨[], 0, h378, c377⟩ 45) fun v380 h381 c382 =>
Q.storeAK (storeC tys ⟨[], 0, h381, 0⟩ 45 v380 v379) fun h383 =>
Q.genK (loadCC tys ⟨[], 0, h383, 0⟩ 45 v375) fun v384 =>
call 30 [v384] h383 c382 fun v385 h386 c387 =>
Q.onTup v385 false fun l388 => Q.nthOK 0 l388 fun v389 =>
Q.onTup v385 false fun l390 => Q.nthOK 1 l390 fun v391 =>
Q.genK (loadCC tys ⟨[], 0, h386, 0⟩ 45 v380) fun v392 =>
call 30 [v392] h386 c387 fun v393 h394 c395 =>
Q.onTup v393 false fun l396 => Q.nthOK 0 l396 fun v397 =>
Q.onTup v393 false fun l398 => Q.nthOK 1 l398 fun v399 =>
Q.genK (loadCC tys ⟨[], 0, h394, 0⟩ 45 v380) fun v400 =>
Q.genK (loadCC tys ⟨[], 0, h394, 0⟩ 45 v375) fun v401 =>
call 35 [v400, v401] h394 c395 fun v402 h403 c404 =>
Q.onTup v402 false fun l405 => Q.nthOK 0 l405 fun v406 =>
Q.onTup v402 false fun l407 => Q.nthOK 1 l407 fun v408 =>
Q.genM (allocC tys ⟨[], 0, h403, c404⟩ 45) fun v409 h410 c411 =>
Q.storeAK (storeC tys ⟨[], 0, h410, 0⟩ 45 v409 v406) fun h412 =>
Q.genK (loadCC tys ⟨[], 0, h412, 0⟩ 45 v375) fun v413 =>
call 37 [v413, (.int .i64 (.ofNat 31))] h412 c411 fun v414 h415 c416 =>
Q.onTup v414 false fun l417 => Q.nthOK 0 l417 fun v418 =>
Q.onTup v414 false fun l419 => Q.nthOK 1 l419 fun v420 =>
Q.genK (loadCC tys ⟨[], 0, h415, 0⟩ 45 v375) fun v421 =>
call 37 [v421, (.int .i64 (.negSucc 0))] h415 c416 fun v422 h423 c424 =>
Q.onTup v422 false fun l425 => Q.nthOK 0 l425 fun v426 =>
Q.onTup v422 false fun l427 => Q.nthOK 1 l427 fun v428 =>
call 39 [(.int .u32 (.ofNat 1)), (.int .i64 (.ofNat 0))] h423 c424 fun v429 h430 c431 =>
Q.onTup v429 false fun l432 => Q.nthOK 0 l432 fun v433 =>
Q.onTup v429 false fun l434 => Q.nthOK 1 l434 fun v435 =>
Q.genM (allocC tys ⟨[], 0, h430, c431⟩ 45) fun v436 h437 c438 =>
Q.storeAK (storeC tys ⟨[], 0, h437, 0⟩ 45 v436 v433) fun h439 =>
call 39 [(.int .u32 (.ofNat 1073741824)), (.int .i64 (.ofNat 30))] h439 c438 fun v440 h441 c442 =>
Q.onTup v440 false fun l443 => Q.nthOK 0 l443 fun v444 =>
Q.onTup v440 false fun l445 => Q.nthOK 1 l445 fun v446 =>
Q.genM (allocC tys ⟨[], 0, h441, c442⟩ 45) fun v447 h448 c449 =>
Q.storeAK (storeC tys ⟨[], 0, h448, 0⟩ 45 v447 v444) fun h450 =>
Q.genK (buildV tys 45 [(0, (.int .i64 (.ofNat 1073741824)))]) fun v451 =>
call 41 [v451] h450 c449 fun v452 h453 c454 =>
Q.onTup v452 false fun l455 => Q.nthOK 0 l455 fun v456 =>
Q.onTup v452 false fun l457 => Q.nthOK 1 l457 fun v458 =>
call 43 [(.cpx .f64 4742290407621132288 13965662444475908096)] h453 c454 fun v459 h460 c461 =>
Q.onTup v459 false fun l462 => Q.nthOK 0 l462 fun v463 =>
Q.onTup v459 false fun l464 => Q.nthOK 1 l464 fun v465 =>
Q.genM (allocC tys ⟨[], 0, h460, c461⟩ 45) fun v466 h467 c468 =>
Q.storeAK (storeC tys ⟨[], 0, h467, 0⟩ 45 v466 v463) fun h469 =>
call 43 [(.cpx .f64 4742290407625326592 0)] h469 c468 fun v470 h471 c472 =>
Q.onTup v470 false fun l473 => Q.nthOK 0 l473 fun v474 =>
Q.onTup v470 false fun l475 => Q.nthOK 1 l475 fun v476 =>
Q.genM (allocC tys ⟨[], 0, h471, c472⟩ 45) fun v477 h478 c479 =>
Q.storeAK (storeC tys ⟨[], 0, h478, 0⟩ 45 v477 v474) fun h480 =>
Q.cmpK (cmpF .eql) (binC Try.prog .eql 46 (.tmp 101) (.const (.int .i64 (.ofNat 1))) v7 (.int .i64 (.ofNat 1))) v7 (.int .i64 (.ofNat 1)) fun v481 =>
Q.share _ (fun v483 h484 c485 =>
Q.share _ (fun v487 h488 c489 =>
Q.pickK v481 v487 (.bool false) fun v490 =>
Q.share _ (fun v492 h493 c494 =>
Q.share _ (fun v496 h497 c498 =>
Q.pickK v490 v496 (.bool false) fun v499 =>
Q.share _ (fun v501 h502 c503 =>
Q.share _ (fun v505 h506 c507 =>
Q.share _ (fun v509 h510 c511 =>
Q.pickK v499 v509 (.bool false) fun v512 =>
Q.share _ (fun v514 h515 c516 =>
Q.share _ (fun v518 h519 c520 =>
Q.pickK v512 v518 (.bool false) fun v521 =>
Q.share _ (fun v523 h524 c525 =>
Q.share _ (fun v527 h528 c529 =>
Q.pickK v521 v527 (.bool false) fun v530 =>
Q.share _ (fun v532 h533 c534 =>
Q.share _ (fun v536 h537 c538 =>
Q.pickK v530 v536 (.bool false) fun v539 =>
Q.share _ (fun v541 h542 c543 =>
Q.share _ (fun v545 h546 c547 =>
Q.pickK v539 v545 (.bool false) fun v548 =>
Q.share _ (fun v550 h551 c552 =>
Q.share _ (fun v554 h555 c556 =>
Q.pickK v548 v554 (.bool false) fun v557 =>
Q.share _ (fun v559 h560 c561 =>
Q.share _ (fun v563 h564 c565 =>
Q.pickK v557 v563 (.bool false) fun v566 =>
Q.share _ (fun v568 h569 c570 =>
Q.share _ (fun v572 h573 c574 =>
Q.pickK v566 v572 (.bool false) fun v575 =>
Q.share _ (fun v577 h578 c579 =>
Q.share _ (fun v581 h582 c583 =>
Q.pickK v575 v581 (.bool false) fun v584 =>
Q.share _ (fun v586 h587 c588 =>
Q.share _ (fun v590 h591 c592 =>
Q.pickK v584 v590 (.bool false) fun v593 =>
Q.share _ (fun v595 h596 c597 =>
Q.share _ (fun v599 h600 c601 =>
Q.pickK v593 v599 (.bool false) fun v602 =>
Q.share _ (fun v604 h605 c606 =>
Q.share _ (fun v608 h609 c610 =>
Q.pickK v602 v608 (.bool false) fun v611 =>
Q.share _ (fun v613 h614 c615 =>
Q.share _ (fun v617 h618 c619 =>
Q.pickK v611 v617 (.bool false) fun v620 =>
Q.share _ (fun v622 h623 c624 =>
Q.share _ (fun v626 h627 c628 =>
Q.share _ (fun v630 h631 c632 =>
Q.pickK v620 v630 (.bool false) fun v633 =>
Q.share _ (fun v635 h636 c637 =>
Q.share _ (fun v639 h640 c641 =>
Q.pickK v633 v639 (.bool false) fun v642 =>
Q.share _ (fun v644 h645 c646 =>
Q.share _ (fun v648 h649 c650 =>
Q.pickK v642 v648 (.bool false) fun v651 =>
Q.share _ (fun v653 h654 c655 =>
Q.pickK v651 v653 (.bool false) fun v656 =>
Q.killVK v375 h654 fun h657 =>
Q.killVK v380 h657 fun h658 =>
Q.killVK v409 h658 fun h659 =>
Q.killVK v436 h659 fun h660 =>
Q.killVK v447 h660 fun h661 =>
Q.killVK v466 h661 fun h662 =>
Q.killVK v477 h662 fun h663 =>
K v656 h663 c655) fun f652 =>
Q.guardK true v651 (call 24 [] h649 c650 fun v664 h665 c666 =>
f652 v664 h665 c666) (f652 (.tup []) h649 c650)) fun f647 =>
Q.guardK true v642 (Q.cmpK (cmpF .eql) (binC Try.prog .eql 24 (.tmp 174) (.const (.complex .f64 0 0)) v644 (.cpx .f64 0 0)) v644 (.cpx .f64 0 0) fun v667 =>
f647 v667 h645 c646) (f647 (.tup []) h645 c646)) fun f643 =>
Q.guardK true v642 (call 47 [.nils] h640 c641 fun v668 h669 c670 =>
f643 v668 h669 c670) (f643 (.tup []) h640 c641)) fun f638 =>
Q.guardK true v633 (Q.cmpK (cmpF .eql) (binC Try.prog .eql 46 (.tmp 170) (.const (.int .i64 (.ofNat 1))) v635 (.int .i64 (.ofNat 1))) v635 (.int .i64 (.ofNat 1)) fun v671 =>
f638 v671 h636 c637) (f638 (.tup []) h636 c637)) fun f634 =>
Q.guardK true v633 (f634 v476 h631 c632) (f634 (.tup []) h631 c632)) fun f629 =>
Q.guardK true v620 (Q.cmpK (cmpF .eql) (binC Try.prog .eql 45 (.tmp 165) (.tmp 166) v622 v626) v622 v626 fun v672 =>
f629 v672 h627 c628) (f629 (.tup []) h627 c628)) fun f625 =>
Q.guardK true v620 (Q.genK (loadCC tys ⟨[], 0, h623, 0⟩ 45 v375) fun v673 =>
f625 v673 h623 c624) (f625 (.tup []) h623 c624)) fun f621 =>
Q.guardK true v620 (Q.genK (loadCC tys ⟨[], 0, h618, 0⟩ 45 v466) fun v674 =>
f621 v674 h618 c619) (f621 (.tup []) h618 c619)) fun f616 =>
Q.guardK true v611 (Q.cmpK (cmpF .eql) (binC Try.prog .eql 46 (.tmp 161) (.const (.int .i64 (.ofNat 0))) v613 (.int .i64 (.ofNat 0))) v613 (.int .i64 (.ofNat 0)) fun v675 =>
f616 v675 h614 c615) (f616 (.tup []) h614 c615)) fun f612 =>
Q.guardK true v611 (f612 v465 h609 c610) (f612 (.tup []) h609 c610)) fun f607 =>
Q.guardK true v602 (Q.cmpK (cmpF .eql) (binC Try.prog .eql 3 (.tmp 157) (.const (.int .i64 (.ofNat 60))) v604 (.int .i64 (.ofNat 60))) v604 (.int .i64 (.ofNat 60)) fun v676 =>
f607 v676 h605 c606) (f607 (.tup []) h605 c606)) fun f603 =>
Q.guardK true v602 (f603 v456 h600 c601) (f603 (.tup []) h600 c601)) fun f598 =>
Q.guardK true v593 (Q.cmpK (cmpF .eql) (binC Try.prog .eql 46 (.tmp 153) (.const (.int .i64 (.ofNat 0))) v595 (.int .i64 (.ofNat 0))) v595 (.int .i64 (.ofNat 0)) fun v677 =>
f598 v677 h596 c597) (f598 (.tup []) h596 c597)) fun f594 =>
Q.guardK true v593 (f594 v458 h591 c592) (f594 (.tup []) h591 c592)) fun f589 =>
Q.guardK true v584 (Q.cmpK (cmpF .eql) (binC Try.prog .eql 46 (.tmp 149) (.const (.int .i64 (.ofNat 1))) v586 (.int .i64 (.ofNat 1))) v586 (.int .i64 (.ofNat 1)) fun v678 =>
f589 v678 h587 c588) (f589 (.tup []) h587 c588)) fun f585 =>
Q.guardK true v584 (f585 v446 h582 c583) (f585 (.tup []) h582 c583)) fun f580 =>
Q.guardK true v575 (Q.cmpK (cmpF .eql) (binC Try.prog .eql 46 (.tmp 145) (.const (.int .i64 (.ofNat 1))) v577 (.int .i64 (.ofNat 1))) v577 (.int .i64 (.ofNat 1)) fun v679 =>
f580 v679 h578 c579) (f580 (.tup []) h578 c579)) fun f576 =>
Q.guardK true v575 (f576 v435 h573 c574) (f576 (.tup []) h573 c574)) fun f571 =>
Q.guardK true v566 (Q.cmpK (cmpF .eql) (binC Try.prog .eql 46 (.tmp 141) (.const (.int .i64 (.ofNat 1))) v568 (.int .i64 (.ofNat 1))) v568 (.int .i64 (.ofNat 1)) fun v680 =>
f571 v680 h569 c570) (f571 (.tup []) h569 c570)) fun f567 =>
Q.guardK true v566 (f567 v428 h564 c565) (f567 (.tup []) h564 c565)) fun f562 =>
Q.guardK true v557 (Q.cmpK (cmpF .eql) (binC Try.prog .eql 46 (.tmp 137) (.const (.int .i64 (.ofNat 1))) v559 (.int .i64 (.ofNat 1))) v559 (.int .i64 (.ofNat 1)) fun v681 =>
f562 v681 h560 c561) (f562 (.tup []) h560 c561)) fun f558 =>
Q.guardK true v557 (f558 v420 h555 c556) (f558 (.tup []) h555 c556)) fun f553 =>
Q.guardK true v548 (Q.cmpK (cmpF .eql) (binC Try.prog .eql 46 (.tmp 133) (.const (.int .i64 (.ofNat 1))) v550 (.int .i64 (.ofNat 1))) v550 (.int .i64 (.ofNat 1)) fun v682 =>
f553 v682 h551 c552) (f553 (.tup []) h551 c552)) fun f549 =>
Q.guardK true v548 (f549 v408 h546 c547) (f549 (.tup []) h546 c547)) fun f544 =>
Q.guardK true v539 (Q.cmpK (cmpF .eql) (binC Try.prog .eql 46 (.tmp 129) (.const (.int .i64 (.ofNat 1))) v541 (.int .i64 (.ofNat 1))) v541 (.int .i64 (.ofNat 1)) fun v683 =>
f544 v683 h542 c543) (f544 (.tup []) h542 c543)) fun f540 =>
Q.guardK true v539 (f540 v399 h537 c538) (f540 (.tup []) h537 c538)) fun f535 =>
Q.guardK true v530 (Q.cmpK (cmpF .eql) (binC Try.prog .eql 2 (.tmp 125) (.const (.int .i64 (.ofNat 2305843009213693952))) v532 (.int .i64 (.ofNat 2305843009213693952))) v532 (.int .i64 (.ofNat 2305843009213693952)) fun v684 =>
f535 v684 h533 c534) (f535 (.tup []) h533 c534)) fun f531 =>
Q.guardK true v530 (f531 v389 h528 c529) (f531 (.tup []) h528 c529)) fun f526 =>
Q.guardK true v521 (Q.cmpK (cmpF .eql) (binC Try.prog .eql 46 (.tmp 121) (.const (.int .i64 (.ofNat 0))) v523 (.int .i64 (.ofNat 0))) v523 (.int .i64 (.ofNat 0)) fun v685 =>
f526 v685 h524 c525) (f526 (.tup []) h524 c525)) fun f522 =>
Q.guardK true v521 (f522 v391 h519 c520) (f522 (.tup []) h519 c520)) fun f517 =>
Q.guardK true v512 (Q.cmpK (cmpF .eql) (binC Try.prog .eql 46 (.tmp 117) (.const (.int .i64 (.ofNat 1))) v514 (.int .i64 (.ofNat 1))) v514 (.int .i64 (.ofNat 1)) fun v686 =>
f517 v686 h515 c516) (f517 (.tup []) h515 c516)) fun f513 =>
Q.guardK true v512 (f513 v373 h510 c511) (f513 (.tup []) h510 c511)) fun f508 =>
Q.guardK true v499 (Q.cmpK (cmpF .eql) (binC Try.prog .eql 3 (.tmp 113) (.const (.int .i64 (.ofNat 3))) v505 (.int .i64 (.ofNat 3))) v505 (.int .i64 (.ofNat 3)) fun v687 =>
f508 v687 h506 c507) (f508 (.tup []) h506 c507)) fun f504 =>
Q.guardK true v499 (Q.lenF (lenC tys 36 v501) v501 fun v688 =>
f504 v688 h502 c503) (f504 (.tup []) h502 c503)) fun f500 =>
Q.guardK true v499 (f500 v28 h497 c498) (f500 (.tup []) h497 c498)) fun f495 =>
Q.guardK true v490 (Q.cmpK (cmpF .eql) (binC Try.prog .eql 46 (.tmp 108) (.const (.int .i64 (.ofNat 0))) v492 (.int .i64 (.ofNat 0))) v492 (.int .i64 (.ofNat 0)) fun v689 =>
f495 v689 h493 c494) (f495 (.tup []) h493 c494)) fun f491 =>
Q.guardK true v490 (f491 v30 h488 c489) (f491 (.tup []) h488 c489)) fun f486 =>
Q.guardK true v481 (Q.cmpK (cmpF .eql) (binC Try.prog .eql 46 (.tmp 104) (.const (.int .i64 (.ofNat 1))) v483 (.int .i64 (.ofNat 1))) v483 (.int .i64 (.ofNat 1)) fun v690 =>
f486 v690 h484 c485) (f486 (.tup []) h484 c485)) fun f482 =>
Q.guardK true v481 (f482 v17 h480 c479) (f482 (.tup []) h480 c479)) (true) false) false) (Q.ifB (Q.genM (makeC tys ⟨[], 0, h12, c13⟩ 36 (.int .i64 (.ofNat 3)) (.int .i64 (.ofNat 3))) fun v691 h692 c693 =>
Q.genM (makeC tys ⟨[], 0, h692, c693⟩ 36 (.int .i64 (.ofNat 64)) (.int .i64 (.ofNat 64))) fun v694 h695 c696 =>
call 49 [v694, v691] h695 c696 fun v697 h698 c699 =>
Q.onTup v697 false fun l700 => Q.nthOK 0 l700 fun v701 =>
Q.onTup v697 false fun l702 => Q.nthOK 1 l702 fun v703 =>
Q.ifB (Q.genM (makeC tys ⟨[], 0, h698, c699⟩ 36 (.int .i64 (.ofNat 1)) (.int .i64 (.ofNat 1))) fun v704 h705 c706 =>
Q.genM (makeC tys ⟨[], 0, h705, c706⟩ 36 (.int .i64 (.ofNat 65537)) (.int .i64 (.ofNat 65537))) fun v707 h708 c709 =>
call 49 [v704, v707] h708 c709 fun v710 h711 c712 =>
Q.onTup v710 false fun l713 => Q.nthOK 0 l713 fun v714 =>
Q.onTup v710 false fun l715 => Q.nthOK 1 l715 fun v716 =>
Q.genK (buildV tys 45 [(0, (.int .i64 (.ofNat 1073741824))), (1, (.int .i64 (.negSucc 1073741823)))]) fun v717 =>
Q.genM (allocC tys ⟨[], 0, h711, c712⟩ 45) fun v718 h719 c720 =>
Q.storeAK (storeC tys ⟨[], 0, h719, 0⟩ 45 v718 v717) fun h721 =>
Q.genK (buildV tys 45 [(0, (.int .i64 (.ofNat 1073741825)))]) fun v722 =>
Q.genM (allocC tys ⟨[], 0, h721, c720⟩ 45) fun v723 h724 c725 =>
Q.storeAK (storeC tys ⟨[], 0, h724, 0⟩ 45 v723 v722) fun h726 =>
Q.genK (loadCC tys ⟨[], 0, h726, 0⟩ 45 v718) fun v727 =>
call 30 [v727] h726 c725 fun v728 h729 c730 =>
Q.onTup v728 false fun l731 => Q.nthOK 0 l731 fun v732 =>
Q.onTup v728 false fun l733 => Q.nthOK 1 l733 fun v734 =>
Q.genK (loadCC tys ⟨[], 0, h729, 0⟩ 45 v723) fun v735 =>
call 30 [v735] h729 c730 fun v736 h737 c738 =>
Q.onTup v736 false fun l739 => Q.nthOK 0 l739 fun v740 =>
Q.onTup v736 false fun l741 => Q.nthOK 1 l741 fun v742 =>
Q.genK (loadCC tys ⟨[], 0, h737, 0⟩ 45 v723) fun v743 =>
Q.genK (loadCC tys ⟨[], 0, h737, 0⟩ 45 v718) fun v744 =>
call 35 [v743, v744] h737 c738 fun v745 h746 c747 =>
Q.onTup v745 false fun l748 => Q.nthOK 0 l748 fun v749 =>
Q.onTup v745 false fun l750 => Q.nthOK 1 l750 fun v751 =>
Q.genM (allocC tys ⟨[], 0, h746, c747⟩ 45) fun v752 h753 c754 =>
Q.storeAK (storeC tys ⟨[], 0, h753, 0⟩ 45 v752 v749) fun h755 =>
Q.genK (loadCC tys ⟨[], 0, h755, 0⟩ 45 v718) fun v756 =>
call 37 [v756, (.int .i64 (.ofNat 31))] h755 c754 fun v757 h758 c759 =>
Q.onTup v757 false fun l760 => Q.nthOK 0 l760 fun v761 =>
Q.onTup v757 false fun l762 => Q.nthOK 1 l762 fun v763 =>
Q.genK (loadCC tys ⟨[], 0, h758, 0⟩ 45 v718) fun v764 =>
call 37 [v764, (.int .i64 (.negSucc 0))] h758 c759 fun v765 h766 c767 =>
Q.onTup v765 false fun l768 => Q.nthOK 0 l768 fun v769 =>
Q.onTup v765 false fun l770 => Q.nthOK 1 l770 fun v771 =>
call 39 [(.int .u32 (.ofNat 1)), (.int .i64 (.ofNat 0))] h766 c767 fun v772 h773 c774 =>
Q.onTup v772 false fun l775 => Q.nthOK 0 l775 fun v776 =>
Q.onTup v772 false fun l777 => Q.nthOK 1 l777 fun v778 =>
Q.genM (allocC tys ⟨[], 0, h773, c774⟩ 45) fun v779 h780 c781 =>
Q.storeAK (storeC tys ⟨[], 0, h780, 0⟩ 45 v779 v776) fun h782 =>
call 39 [(.int .u32 (.ofNat 1073741824)), (.int .i64 (.ofNat 30))] h782 c781 fun v783 h784 c785 =>
Q.onTup v783 false fun l786 => Q.nthOK 0 l786 fun v787 =>
Q.onTup v783 false fun l788 => Q.nthOK 1 l788 fun v789 =>
Q.genM (allocC tys ⟨[], 0, h784, c785⟩ 45) fun v790 h791 c792 =>
Q.storeAK (storeC tys ⟨[], 0, h791, 0⟩ 45 v790 v787) fun h793 =>
Q.genK (buildV tys 45 [(0, (.int .i64 (.ofNat 1073741824)))]) fun v794 =>
call 41 [v794] h793 c792 fun v795 h796 c797 =>
Q.onTup v795 false fun l798 => Q.nthOK 0 l798 fun v799 =>
Q.onTup v795 false fun l800 => Q.nthOK 1 l800 fun v801 =>
call 43 [(.cpx .f64 4742290407621132288 13965662444475908096)] h796 c797 fun v802 h803 c804 =>
Q.onTup v802 false fun l805 => Q.nthOK 0 l805 fun v806 =>
Q.onTup v802 false fun l807 => Q.nthOK 1 l807 fun v808 =>
Q.genM (allocC tys ⟨[], 0, h803, c804⟩ 45) fun v809 h810 c811 =>
Q.storeAK (storeC tys ⟨[], 0, h810, 0⟩ 45 v809 v806) fun h812 =>
call 43 [(.cpx .f64 4742290407625326592 0)] h812 c811 fun v813 h814 c815 =>
Q.onTup v813 false fun l816 => Q.nthOK 0 l816 fun v817 =>
Q.onTup v813 false fun l818 => Q.nthOK 1 l818 fun v819 =>
Q.genM (allocC tys ⟨[], 0, h814, c815⟩ 45) fun v820 h821 c822 =>
Q.storeAK (storeC tys ⟨[], 0, h821, 0⟩ 45 v820 v817) fun h823 =>
Q.cmpK (cmpF .eql) (binC Try.prog .eql 46 (.tmp 101) (.const (.int .i64 (.ofNat 1))) v7 (.int .i64 (.ofNat 1))) v7 (.int .i64 (.ofNat 1)) fun v824 =>
Q.share _ (fun v826 h827 c828 =>
Q.share _ (fun v830 h831 c832 =>
Q.pickK v824 v830 (.bool false) fun v833 =>
Q.share _ (fun v835 h836 c837 =>
Q.share _ (fun v839 h840 c841 =>
Q.pickK v833 v839 (.bool false) fun v842 =>
Q.share _ (fun v844 h845 c846 =>
Q.share _ (fun v848 h849 c850 =>
Q.share _ (fun v852 h853 c854 =>
Q.pickK v842 v852 (.bool false) fun v855 =>
Q.share _ (fun v857 h858 c859 =>
Q.share _ (fun v861 h862 c863 =>
Q.pickK v855 v861 (.bool false) fun v864 =>
Q.share _ (fun v866 h867 c868 =>
Q.share _ (fun v870 h871 c872 =>
Q.pickK v864 v870 (.bool false) fun v873 =>
Q.share _ (fun v875 h876 c877 =>
Q.share _ (fun v879 h880 c881 =>
Q.pickK v873 v879 (.bool false) fun v882 =>
Q.share _ (fun v884 h885 c886 =>
Q.share _ (fun v888 h889 c890 =>
Q.pickK v882 v888 (.bool false) fun v891 =>
Q.share _ (fun v893 h894 c895 =>
Q.share _ (fun v897 h898 c899 =>
Q.pickK v891 v897 (.bool false) fun v900 =>
Q.share _ (fun v902 h903 c904 =>
Q.share _ (fun v906 h907 c908 =>
Q.pickK v900 v906 (.bool false) fun v909 =>
Q.share _ (fun v911 h912 c913 =>
Q.share _ (fun v915 h916 c917 =>
Q.pickK v909 v915 (.bool false) fun v918 =>
Q.share _ (fun v920 h921 c922 =>
Q.share _ (fun v924 h925 c926 =>
Q.pickK v918 v924 (.bool false) fun v927 =>
Q.share _ (fun v929 h930 c931 =>
Q.share _ (fun v933 h934 c935 =>
Q.pickK v927 v933 (.bool false) fun v936 =>
Q.share _ (fun v938 h939 c940 =>
Q.share _ (fun v942 h943 c944 =>
Q.pickK v936 v942 (.bool false) fun v945 =>
Q.share _ (fun v947 h948 c949 =>
Q.share _ (fun v951 h952 c953 =>
Q.pickK v945 v951 (.bool false) fun v954 =>
Q.share _ (fun v956 h957 c958 =>
Q.share _ (fun v960 h961 c962 =>
Q.pickK v954 v960 (.bool false) fun v963 =>
Q.share _ (fun v965 h966 c967 =>
Q.share _ (fun v969 h970 c971 =>
Q.share _ (fun v973 h974 c975 =>
Q.pickK v963 v973 (.bool false) fun v976 =>
Q.share _ (fun v978 h979 c980 =>
Q.share _ (fun v982 h983 c984 =>
Q.pickK v976 v982 (.bool false) fun v985 =>
Q.share _ (fun v987 h988 c989 =>
Q.share _ (fun v991 h992 c993 =>
Q.pickK v985 v991 (.bool false) fun v994 =>
Q.share _ (fun v996 h997 c998 =>
Q.pickK v994 v996 (.bool false) fun v999 =>
Q.killVK v718 h997 fun h1000 =>
Q.killVK v723 h1000 fun h1001 =>
Q.killVK v752 h1001 fun h1002 =>
Q.killVK v779 h1002 fun h1003 =>
Q.killVK v790 h1003 fun h1004 =>
Q.killVK v809 h1004 fun h1005 =>
Q.killVK v820 h1005 fun h1006 =>
K v999 h1006 c998) fun f995 =>
Q.guardK true v994 (call 24 [] h992 c993 fun v1007 h1008 c1009 =>
f995 v1007 h1008 c1009) (f995 (.tup []) h992 c993)) fun f990 =>
Q.guardK true v985 (Q.cmpK (cmpF .eql) (binC Try.prog .eql 24 (.tmp 174) (.const (.complex .f64 0 0)) v987 (.cpx .f64 0 0)) v987 (.cpx .f64 0 0) fun v1010 =>
f990 v1010 h988 c989) (f990 (.tup []) h988 c989)) fun f986 =>
Q.guardK true v985 (call 47 [.nils] h983 c984 fun v1011 h1012 c1013 =>
f986 v1011 h1012 c1013) (f986 (.tup []) h983 c984)) fun f981 =>
Q.guardK true v976 (Q.cmpK (cmpF .eql) (binC Try.prog .eql 46 (.tmp 170) (.const (.int .i64 (.ofNat 1))) v978 (.int .i64 (.ofNat 1))) v978 (.int .i64 (.ofNat 1)) fun v1014 =>
f981 v1014 h979 c980) (f981 (.tup []) h979 c980)) fun f977 =>
Q.guardK true v976 (f977 v819 h974 c975) (f977 (.tup []) h974 c975)) fun f972 =>
Q.guardK true v963 (Q.cmpK (cmpF .eql) (binC Try.prog .eql 45 (.tmp 165) (.tmp 166) v965 v969) v965 v969 fun v1015 =>
f972 v1015 h970 c971) (f972 (.tup []) h970 c971)) fun f968 =>
Q.guardK true v963 (Q.genK (loadCC tys ⟨[], 0, h966, 0⟩ 45 v718) fun v1016 =>
f968 v1016 h966 c967) (f968 (.tup []) h966 c967)) fun f964 =>
Q.guardK true v963 (Q.genK (loadCC tys ⟨[], 0, h961, 0⟩ 45 v809) fun v1017 =>
f964 v1017 h961 c962) (f964 (.tup []) h961 c962)) fun f959 =>
Q.guardK true v954 (Q.cmpK (cmpF .eql) (binC Try.prog .eql 46 (.tmp 161) (.const (.int .i64 (.ofNat 0))) v956 (.int .i64 (.ofNat 0))) v956 (.int .i64 (.ofNat 0)) fun v1018 =>
f959 v1018 h957 c958) (f959 (.tup []) h957 c958)) fun f955 =>
Q.guardK true v954 (f955 v808 h952 c953) (f955 (.tup []) h952 c953)) fun f950 =>
Q.guardK true v945 (Q.cmpK (cmpF .eql) (binC Try.prog .eql 3 (.tmp 157) (.const (.int .i64 (.ofNat 60))) v947 (.int .i64 (.ofNat 60))) v947 (.int .i64 (.ofNat 60)) fun v1019 =>
f950 v1019 h948 c949) (f950 (.tup []) h948 c949)) fun f946 =>
Q.guardK true v945 (f946 v799 h943 c944) (f946 (.tup []) h943 c944)) fun f941 =>
Q.guardK true v936 (Q.cmpK (cmpF .eql) (binC Try.prog .eql 46 (.tmp 153) (.const (.int .i64 (.ofNat 0))) v938 (.int .i64 (.ofNat 0))) v938 (.int .i64 (.ofNat 0)) fun v1020 =>
f941 v1020 h939 c940) (f941 (.tup []) h939 c940)) fun f937 =>
Q.guardK true v936 (f937 v801 h934 c935) (f937 (.tup []) h934 c935)) fun f932 =>
Q.guardK true v927 (Q.cmpK (cmpF .eql) (binC Try.prog .eql 46 (.tmp 149) (.const (.int .i64 (.ofNat 1))) v929 (.int .i64 (.ofNat 1))) v929 (.int .i64 (.ofNat 1)) fun v1021 =>
f932 v1021 h930 c931) (f932 (.tup []) h930 c931)) fun f928 =>
Q.guardK true v927 (f928 v789 h925 c926) (f928 (.tup []) h925 c926)) fun f923 =>
Q.guardK true v918 (Q.cmpK (cmpF .eql) (binC Try.prog .eql 46 (.tmp 145) (.const (.int .i64 (.ofNat 1))) v920 (.int .i64 (.ofNat 1))) v920 (.int .i64 (.ofNat 1)) fun v1022 =>
f923 v1022 h921 c922) (f923 (.tup []) h921 c922)) fun f919 =>
Q.guardK true v918 (f919 v778 h916 c917) (f919 (.tup []) h916 c917)) fun f914 =>
Q.guardK true v909 (Q.cmpK (cmpF .eql) (binC Try.prog .eql 46 (.tmp 141) (.const (.int .i64 (.ofNat 1))) v911 (.int .i64 (.ofNat 1))) v911 (.int .i64 (.ofNat 1)) fun v1023 =>
f914 v1023 h912 c913) (f914 (.tup []) h912 c913)) fun f910 =>
Q.guardK true v909 (f910 v771 h907 c908) (f910 (.tup []) h907 c908)) fun f905 =>
Q.guardK true v900 (Q.cmpK (cmpF .eql) (binC Try.prog .eql 46 (.tmp 137) (.const (.int .i64 (.ofNat 1))) v902 (.int .i64 (.ofNat 1))) v902 (.int .i64 (.ofNat 1)) fun v1024 =>
f905 v1024 h903 c904) (f905 (.tup []) h903 c904)) fun f901 =>
Q.guardK true v900 (f901 v763 h898 c899) (f901 (.tup []) h898 c899)) fun f896 =>
Q.guardK true v891 (Q.cmpK (cmpF .eql) (binC Try.prog .eql 46 (.tmp 133) (.const (.int .i64 (.ofNat 1))) v893 (.int .i64 (.ofNat 1))) v893 (.int .i64 (.ofNat 1)) fun v1025 =>
f896 v1025 h894 c895) (f896 (.tup []) h894 c895)) fun f892 =>
Q.guardK true v891 (f892 v751 h889 c890) (f892 (.tup []) h889 c890)) fun f887 =>
Q.guardK true v882 (Q.cmpK (cmpF .eql) (binC Try.prog .eql 46 (.tmp 129) (.const (.int .i64 (.ofNat 1))) v884 (.int .i64 (.ofNat 1))) v884 (.int .i64 (.ofNat 1)) fun v1026 =>
f887 v1026 h885 c886) (f887 (.tup []) h885 c886)) fun f883 =>
Q.guardK true v882 (f883 v742 h880 c881) (f883 (.tup []) h880 c881)) fun f878 =>
Q.guardK true v873 (Q.cmpK (cmpF .eql) (binC Try.prog .eql 2 (.tmp 125) (.const (.int .i64 (.ofNat 2305843009213693952))) v875 (.int .i64 (.ofNat 2305843009213693952))) v875 (.int .i64 (.ofNat 2305843009213693952)) fun v1027 =>
f878 v1027 h876 c877) (f878 (.tup []) h876 c877)) fun f874 =>
Q.guardK true v873 (f874 v732 h871 c872) (f874 (.tup []) h871 c872)) fun f869 =>
Q.guardK true v864 (Q.cmpK (cmpF .eql) (binC Try.prog .eql 46 (.tmp 121) (.const (.int .i64 (.ofNat 0))) v866 (.int .i64 (.ofNat 0))) v866 (.int .i64 (.ofNat 0)) fun v1028 =>
f869 v1028 h867 c868) (f869 (.tup []) h867 c868)) fun f865 =>
Q.guardK true v864 (f865 v734 h862 c863) (f865 (.tup []) h862 c863)) fun f860 =>
Q.guardK true v855 (Q.cmpK (cmpF .eql) (binC Try.prog .eql 46 (.tmp 117) (.const (.int .i64 (.ofNat 1))) v857 (.int .i64 (.ofNat 1))) v857 (.int .i64 (.ofNat 1)) fun v1029 =>
f860 v1029 h858 c859) (f860 (.tup []) h858 c859)) fun f856 =>
Q.guardK true v855 (f856 v716 h853 c854) (f856 (.tup []) h853 c854)) fun f851 =>
Q.guardK true v842 (Q.cmpK (cmpF .eql) (binC Try.prog .eql 3 (.tmp 113) (.const (.int .i64 (.ofNat 3))) v848 (.int .i64 (.ofNat 3))) v848 (.int .i64 (.ofNat 3)) fun v1030 =>
f851 v1030 h849 c850) (f851 (.tup []) h849 c850)) fun f847 =>
Q.guardK true v842 (Q.lenF (lenC tys 36 v844) v844 fun v1031 =>
f847 v1031 h845 c846) (f847 (.tup []) h845 c846)) fun f843 =>
Q.guardK true v842 (f843 v701 h840 c841) (f843 (.tup []) h840 c841)) fun f838 =>
Q.guardK true v833 (Q.cmpK (cmpF .eql) (binC Try.prog .eql 46 (.tmp 108) (.const (.int .i64 (.ofNat 0))) v835 (.int .i64 (.ofNat 0))) v835 (.int .i64 (.ofNat 0)) fun v1032 =>
f838 v1032 h836 c837) (f838 (.tup []) h836 c837)) fun f834 =>
Q.guardK true v833 (f834 v703 h831 c832) (f834 (.tup []) h831 c832)) fun f829 =>
Q.guardK true v824 (Q.cmpK (cmpF .eql) (binC Try.prog .eql 46 (.tmp 104) (.const (.int .i64 (.ofNat 1))) v826 (.int .i64 (.ofNat 1))) v826 (.int .i64 (.ofNat 1)) fun v1033 =>
f829 v1033 h827 c828) (f829 (.tup []) h827 c828)) fun f825 =>
Q.guardK true v824 (f825 v17 h823 c822) (f825 (.tup []) h823 c822)) (Q.ifB (Q.genM (makeC tys ⟨[], 0, h698, c699⟩ 36 (.int .i64 (.ofNat 65537)) (.int .i64 (.ofNat 65537))) fun v1034 h1035 c1036 =>
Q.genM (makeC tys ⟨[], 0, h1035, c1036⟩ 36 (.int .i64 (.ofNat 1)) (.int .i64 (.ofNat 1))) fun v1037 h1038 c1039 =>
call 49 [v1037, v1034] h1038 c1039 fun v1040 h1041 c1042 =>
Q.onTup v1040 false fun l1043 => Q.nthOK 0 l1043 fun v1044 =>
Q.onTup v1040 false fun l1045 => Q.nthOK 1 l1045 fun v1046 =>
Q.genK (buildV tys 45 [(0, (.int .i64 (.ofNat 1073741824))), (1, (.int .i64 (.negSucc 1073741823)))]) fun v1047 =>
Q.genM (allocC tys ⟨[], 0, h1041, c1042⟩ 45) fun v1048 h1049 c1050 =>
Q.storeAK (storeC tys ⟨[], 0, h1049, 0⟩ 45 v1048 v1047) fun h1051 =>
Q.genK (buildV tys 45 [(0, (.int .i64 (.ofNat 1073741825)))]) fun v1052 =>
Q.genM (allocC tys ⟨[], 0, h1051, c1050⟩ 45) fun v1053 h1054 c1055 =>
Q.storeAK (storeC tys ⟨[], 0, h1054, 0⟩ 45 v1053 v1052) fun h1056 =>
Q.genK (loadCC tys ⟨[], 0, h1056, 0⟩ 45 v1048) fun v1057 =>
call 30 [v1057] h1056 c1055 fun v1058 h1059 c1060 =>
Q.onTup v1058 false fun l1061 => Q.nthOK 0 l1061 fun v1062 =>
Q.onTup v1058 false fun l1063 => Q.nthOK 1 l1063 fun v1064 =>
Q.genK (loadCC tys ⟨[], 0, h1059, 0⟩ 45 v1053) fun v1065 =>
call 30 [v1065] h1059 c1060 fun v1066 h1067 c1068 =>
Q.onTup v1066 false fun l1069 => Q.nthOK 0 l1069 fun v1070 =>
Q.onTup v1066 false fun l1071 => Q.nthOK 1 l1071 fun v1072 =>
Q.genK (loadCC tys ⟨[], 0, h1067, 0⟩ 45 v1053) fun v1073 =>
Q.genK (loadCC tys ⟨[], 0, h1067, 0⟩ 45 v1048) fun v1074 =>
call 35 [v1073, v1074] h1067 c1068 fun v1075 h1076 c1077 =>
Q.onTup v1075 false fun l1078 => Q.nthOK 0 l1078 fun v1079 =>
Q.onTup v1075 false fun l1080 => Q.nthOK 1 l1080 fun v1081 =>
Q.genM (allocC tys ⟨[], 0, h1076, c1077⟩ 45) fun v1082 h1083 c1084 =>
Q.storeAK (storeC tys ⟨[], 0, h1083, 0⟩ 45 v1082 v1079) fun h1085 =>
Q.genK (loadCC tys ⟨[], 0, h1085, 0⟩ 45 v1048) fun v1086 =>
call 37 [v1086, (.int .i64 (.ofNat 31))] h1085 c1084 fun v1087 h1088 c1089 =>
Q.onTup v1087 false fun l1090 => Q.nthOK 0 l1090 fun v1091 =>
Q.onTup v1087 false fun l1092 => Q.nthOK 1 l1092 fun v1093 =>
Q.genK (loadCC tys ⟨[], 0, h1088, 0⟩ 45 v1048) fun v1094 =>
call 37 [v1094, (.int .i64 (.negSucc 0))] h1088 c1089 fun v1095 h1096 c1097 =>
Q.onTup v1095 false fun l1098 => Q.nthOK 0 l1098 fun v1099 =>
Q.onTup v1095 false fun l1100 => Q.nthOK 1 l1100 fun v1101 =>
call 39 [(.int .u32 (.ofNat 1)), (.int .i64 (.ofNat 0))] h1096 c1097 fun v1102 h1103 c1104 =>
Q.onTup v1102 false fun l1105 => Q.nthOK 0 l1105 fun v1106 =>
Q.onTup v1102 false fun l1107 => Q.nthOK 1 l1107 fun v1108 =>
Q.genM (allocC tys ⟨[], 0, h1103, c1104⟩ 45) fun v1109 h1110 c1111 =>
Q.storeAK (storeC tys ⟨[], 0, h1110, 0⟩ 45 v1109 v1106) fun h1112 =>
call 39 [(.int .u32 (.ofNat 1073741824)), (.int .i64 (.ofNat 30))] h1112 c1111 fun v1113 h1114 c1115 =>
Q.onTup v1113 false fun l1116 => Q.nthOK 0 l1116 fun v1117 =>
Q.onTup v1113 false fun l1118 => Q.nthOK 1 l1118 fun v1119 =>
Q.genM (allocC tys ⟨[], 0, h1114, c1115⟩ 45) fun v1120 h1121 c1122 =>
Q.storeAK (storeC tys ⟨[], 0, h1121, 0⟩ 45 v1120 v1117) fun h1123 =>
Q.genK (buildV tys 45 [(0, (.int .i64 (.ofNat 1073741824)))]) fun v1124 =>
call 41 [v1124] h1123 c1122 fun v1125 h1126 c1127 =>
Q.onTup v1125 false fun l1128 => Q.nthOK 0 l1128 fun v1129 =>
Q.onTup v1125 false fun l1130 => Q.nthOK 1 l1130 fun v1131 =>
call 43 [(.cpx .f64 4742290407621132288 13965662444475908096)] h1126 c1127 fun v1132 h1133 c1134 =>
Q.onTup v1132 false fun l1135 => Q.nthOK 0 l1135 fun v1136 =>
Q.onTup v1132 false fun l1137 => Q.nthOK 1 l1137 fun v1138 =>
Q.genM (allocC tys ⟨[], 0, h1133, c1134⟩ 45) fun v1139 h1140 c1141 =>
Q.storeAK (storeC tys ⟨[], 0, h1140, 0⟩ 45 v1139 v1136) fun h1142 =>
call 43 [(.cpx .f64 4742290407625326592 0)] h1142 c1141 fun v1143 h1144 c1145 =>
Q.onTup v1143 false fun l1146 => Q.nthOK 0 l1146 fun v1147 =>
Q.onTup v1143 false fun l1148 => Q.nthOK 1 l1148 fun v1149 =>
Q.genM (allocC tys ⟨[], 0, h1144, c1145⟩ 45) fun v1150 h1151 c1152 =>
Q.storeAK (storeC tys ⟨[], 0, h1151, 0⟩ 45 v1150 v1147) fun h1153 =>
Q.cmpK (cmpF .eql) (binC Try.prog .eql 46 (.tmp 101) (.const (.int .i64 (.ofNat 1))) v7 (.int .i64 (.ofNat 1))) v7 (.int .i64 (.ofNat 1)) fun v1154 =>
Q.share _ (fun v1156 h1157 c1158 =>
Q.share _ (fun v1160 h1161 c1162 =>
Q.pickK v1154 v1160 (.bool false) fun v1163 =>
Q.share _ (fun v1165 h1166 c1167 =>
Q.share _ (fun v1169 h1170 c1171 =>
Q.pickK v1163 v1169 (.bool false) fun v1172 =>
Q.share _ (fun v1174 h1175 c1176 =>
Q.share _ (fun v1178 h1179 c1180 =>
Q.share _ (fun v1182 h1183 c1184 =>
Q.pickK v1172 v1182 (.bool false) fun v1185 =>
Q.share _ (fun v1187 h1188 c1189 =>
Q.share _ (fun v1191 h1192 c1193 =>
Q.pickK v1185 v1191 (.bool false) fun v1194 =>
Q.share _ (fun v1196 h1197 c1198 =>
Q.share _ (fun v1200 h1201 c1202 =>
Q.pickK v1194 v1200 (.bool false) fun v1203 =>
Q.share _ (fun v1205 h1206 c1207 =>
Q.share _ (fun v1209 h1210 c1211 =>
Q.pickK v1203 v1209 (.bool false) fun v1212 =>
Q.share _ (fun v1214 h1215 c1216 =>
Q.share _ (fun v1218 h1219 c1220 =>
Q.pickK v1212 v1218 (.bool false) fun v1221 =>
Q.share _ (fun v1223 h1224 c1225 =>
Q.share _ (fun v1227 h1228 c1229 =>
Q.pickK v1221 v1227 (.bool false) fun v1230 =>
Q.share _ (fun v1232 h1233 c1234 =>
Q.share _ (fun v1236 h1237 c1238 =>
Q.pickK v1230 v1236 (.bool false) fun v1239 =>
Q.share _ (fun v1241 h1242 c1243 =>
Q.share _ (fun v1245 h1246 c1247 =>
Q.pickK v1239 v1245 (.bool false) fun v1248 =>
Q.share _ (fun v1250 h1251 c1252 =>
Q.share _ (fun v1254 h1255 c1256 =>
Q.pickK v1248 v1254 (.bool false) fun v1257 =>
Q.share _ (fun v1259 h1260 c1261 =>
Q.share _ (fun v1263 h1264 c1265 =>
Q.pickK v1257 v1263 (.bool false) fun v1266 =>
Q.share _ (fun v1268 h1269 c1270 =>
Q.share _ (fun v1272 h1273 c1274 =>
Q.pickK v1266 v1272 (.bool false) fun v1275 =>
Q.share _ (fun v1277 h1278 c1279 =>
Q.share _ (fun v1281 h1282 c1283 =>
Q.pickK v1275 v1281 (.bool false) fun v1284 =>
Q.share _ (fun v1286 h1287 c1288 =>
Q.share _ (fun v1290 h1291 c1292 =>
Q.pickK v1284 v1290 (.bool false) fun v1293 =>
Q.share _ (fun v1295 h1296 c1297 =>
Q.share _ (fun v1299 h1300 c1301 =>
Q.share _ (fun v1303 h1304 c1305 =>
Q.pickK v1293 v1303 (.bool false) fun v1306 =>
Q.share _ (fun v1308 h1309 c1310 =>
Q.share _ (fun v1312 h1313 c1314 =>
Q.pickK v1306 v1312 (.bool false) fun v1315 =>
Q.share _ (fun v1317 h1318 c1319 =>
Q.share _ (fun v1321 h1322 c1323 =>
Q.pickK v1315 v1321 (.bool false) fun v1324 =>
Q.share _ (fun v1326 h1327 c1328 =>
Q.pickK v1324 v1326 (.bool false) fun v1329 =>
Q.killVK v1048 h1327 fun h1330 =>
Q.killVK v1053 h1330 fun h1331 =>
Q.killVK v1082 h1331 fun h1332 =>
Q.killVK v1109 h1332 fun h1333 =>
Q.killVK v1120 h1333 fun h1334 =>
Q.killVK v1139 h1334 fun h1335 =>
Q.killVK v1150 h1335 fun h1336 =>
K v1329 h1336 c1328) fun f1325 =>
Q.guardK true v1324 (call 24 [] h1322 c1323 fun v1337 h1338 c1339 =>
f1325 v1337 h1338 c1339) (f1325 (.tup []) h1322 c1323)) fun f1320 =>
Q.guardK true v1315 (Q.cmpK (cmpF .eql) (binC Try.prog .eql 24 (.tmp 174) (.const (.complex .f64 0 0)) v1317 (.cpx .f64 0 0)) v1317 (.cpx .f64 0 0) fun v1340 =>
f1320 v1340 h1318 c1319) (f1320 (.tup []) h1318 c1319)) fun f1316 =>
Q.guardK true v1315 (call 47 [.nils] h1313 c1314 fun v1341 h1342 c1343 =>
f1316 v1341 h1342 c1343) (f1316 (.tup []) h1313 c1314)) fun f1311 =>
Q.guardK true v1306 (Q.cmpK (cmpF .eql) (binC Try.prog .eql 46 (.tmp 170) (.const (.int .i64 (.ofNat 1))) v1308 (.int .i64 (.ofNat 1))) v1308 (.int .i64 (.ofNat 1)) fun v1344 =>
f1311 v1344 h1309 c1310) (f1311 (.tup []) h1309 c1310)) fun f1307 =>
Q.guardK true v1306 (f1307 v1149 h1304 c1305) (f1307 (.tup []) h1304 c1305)) fun f1302 =>
Q.guardK true v1293 (Q.cmpK (cmpF .eql) (binC Try.prog .eql 45 (.tmp 165) (.tmp 166) v1295 v1299) v1295 v1299 fun v1345 =>
f1302 v1345 h1300 c1301) (f1302 (.tup []) h1300 c1301)) fun f1298 =>
Q.guardK true v1293 (Q.genK (loadCC tys ⟨[], 0, h1296, 0⟩ 45 v1048) fun v1346 =>
f1298 v1346 h1296 c1297) (f1298 (.tup []) h1296 c1297)) fun f1294 =>
Q.guardK true v1293 (Q.genK (loadCC tys ⟨[], 0, h1291, 0⟩ 45 v1139) fun v1347 =>
f1294 v1347 h1291 c1292) (f1294 (.tup []) h1291 c1292)) fun f1289 =>
Q.guardK true v1284 (Q.cmpK (cmpF .eql) (binC Try.prog .eql 46 (.tmp 161) (.const (.int .i64 (.ofNat 0))) v1286 (.int .i64 (.ofNat 0))) v1286 (.int .i64 (.ofNat 0)) fun v1348 =>
f1289 v1348 h1287 c1288) (f1289 (.tup []) h1287 c1288)) fun f1285 =>
Q.guardK true v1284 (f1285 v1138 h1282 c1283) (f1285 (.tup []) h1282 c1283)) fun f1280 =>
Q.guardK true v1275 (Q.cmpK (cmpF .eql) (binC Try.prog .eql 3 (.tmp 157) (.const (.int .i64 (.ofNat 60))) v1277 (.int .i64 (.ofNat 60))) v1277 (.int .i64 (.ofNat 60)) fun v1349 =>
f1280 v1349 h1278 c1279) (f1280 (.tup []) h1278 c1279)) fun f1276 =>
Q.guardK true v1275 (f1276 v1129 h1273 c1274) (f1276 (.tup []) h1273 c1274)) fun f1271 =>
Q.guardK true v1266 (Q.cmpK (cmpF .eql) (binC Try.prog .eql 46 (.tmp 153) (.const (.int .i64 (.ofNat 0))) v1268 (.int .i64 (.ofNat 0))) v1268 (.int .i64 (.ofNat 0)) fun v1350 =>
f1271 v1350 h1269 c1270) (f1271 (.tup []) h1269 c1270)) fun f1267 =>
Q.guardK true v1266 (f1267 v1131 h1264 c1265) (f1267 (.tup []) h1264 c1265)) fun f1262 =>
Q.guardK true v1257 (Q.cmpK (cmpF .eql) (binC Try.prog .eql 46 (.tmp 149) (.const (.int .i64 (.ofNat 1))) v1259 (.int .i64 (.ofNat 1))) v1259 (.int .i64 (.ofNat 1)) fun v1351 =>
f1262 v1351 h1260 c1261) (f1262 (.tup []) h1260 c1261)) fun f1258 =>
Q.guardK true v1257 (f1258 v1119 h1255 c1256) (f1258 (.tup []) h1255 c1256)) fun f1253 =>
Q.guardK true v1248 (Q.cmpK (cmpF .eql) (binC Try.prog .eql 46 (.tmp 145) (.const (.int .i64 (.ofNat 1))) v1250 (.int .i64 (.ofNat 1))) v1250 (.int .i64 (.ofNat 1)) fun v1352 =>
f1253 v1352 h1251 c1252) (f1253 (.tup []) h1251 c1252)) fun f1249 =>
Q.guardK true v1248 (f1249 v1108 h1246 c1247) (f1249 (.tup []) h1246 c1247)) fun f1244 =>
Q.guardK true v1239 (Q.cmpK (cmpF .eql) (binC Try.prog .eql 46 (.tmp 141) (.const (.int .i64 (.ofNat 1))) v1241 (.int .i64 (.ofNat 1))) v1241 (.int .i64 (.ofNat 1)) fun v1353 =>
f1244 v1353 h1242 c1243) (f1244 (.tup []) h1242 c1243)) fun f1240 =>
Q.guardK true v1239 (f1240 v1101 h1237 c1238) (f1240 (.tup []) h1237 c1238)) fun f1235 =>
Q.guardK true v1230 (Q.cmpK (cmpF .eql) (binC Try.prog .eql 46 (.tmp 137) (.const (.int .i64 (.ofNat 1))) v1232 (.int .i64 (.ofNat 1))) v1232 (.int .i64 (.ofNat 1)) fun v1354 =>
f1235 v1354 h1233 c1234) (f1235 (.tup []) h1233 c1234)) fun f1231 =>
Q.guardK true v1230 (f1231 v1093 h1228 c1229) (f1231 (.tup []) h1228 c1229)) fun f1226 =>
Q.guardK true v1221 (Q.cmpK (cmpF .eql) (binC Try.prog .eql 46 (.tmp 133) (.const (.int .i64 (.ofNat 1))) v1223 (.int .i64 (.ofNat 1))) v1223 (.int .i64 (.ofNat 1)) fun v1355 =>
f1226 v1355 h1224 c1225) (f1226 (.tup []) h1224 c1225)) fun f1222 =>
Q.guardK true v1221 (f1222 v1081 h1219 c1220) (f1222 (.tup []) h1219 c1220)) fun f1217 =>
Q.guardK true v1212 (Q.cmpK (cmpF .eql) (binC Try.prog .eql 46 (.tmp 129) (.const (.int .i64 (.ofNat 1))) v1214 (.int .i64 (.ofNat 1))) v1214 (.int .i64 (.ofNat 1)) fun v1356 =>
f1217 v1356 h1215 c1216) (f1217 (.tup []) h1215 c1216)) fun f1213 =>
Q.guardK true v1212 (f1213 v1072 h1210 c1211) (f1213 (.tup []) h1210 c1211)) fun f1208 =>
Q.guardK true v1203 (Q.cmpK (cmpF .eql) (binC Try.prog .eql 2 (.tmp 125) (.const (.int .i64 (.ofNat 2305843009213693952))) v1205 (.int .i64 (.ofNat 2305843009213693952))) v1205 (.int .i64 (.ofNat 2305843009213693952)) fun v1357 =>
f1208 v1357 h1206 c1207) (f1208 (.tup []) h1206 c1207)) fun f1204 =>
Q.guardK true v1203 (f1204 v1062 h1201 c1202) (f1204 (.tup []) h1201 c1202)) fun f1199 =>
Q.guardK true v1194 (Q.cmpK (cmpF .eql) (binC Try.prog .eql 46 (.tmp 121) (.const (.int .i64 (.ofNat 0))) v1196 (.int .i64 (.ofNat 0))) v1196 (.int .i64 (.ofNat 0)) fun v1358 =>
f1199 v1358 h1197 c1198) (f1199 (.tup []) h1197 c1198)) fun f1195 =>
Q.guardK true v1194 (f1195 v1064 h1192 c1193) (f1195 (.tup []) h1192 c1193)) fun f1190 =>
Q.guardK true v1185 (Q.cmpK (cmpF .eql) (binC Try.prog .eql 46 (.tmp 117) (.const (.int .i64 (.ofNat 1))) v1187 (.int .i64 (.ofNat 1))) v1187 (.int .i64 (.ofNat 1)) fun v1359 =>
f1190 v1359 h1188 c1189) (f1190 (.tup []) h1188 c1189)) fun f1186 =>
Q.guardK true v1185 (f1186 v1046 h1183 c1184) (f1186 (.tup []) h1183 c1184)) fun f1181 =>
Q.guardK true v1172 (Q.cmpK (cmpF .eql) (binC Try.prog .eql 3 (.tmp 113) (.const (.int .i64 (.ofNat 3))) v1178 (.int .i64 (.ofNat 3))) v1178 (.int .i64 (.ofNat 3)) fun v1360 =>
f1181 v1360 h1179 c1180) (f1181 (.tup []) h1179 c1180)) fun f1177 =>
Q.guardK true v1172 (Q.lenF (lenC tys 36 v1174) v1174 fun v1361 =>
f1177 v1361 h1175 c1176) (f1177 (.tup []) h1175 c1176)) fun f1173 =>
Q.guardK true v1172 (f1173 v701 h1170 c1171) (f1173 (.tup []) h1170 c1171)) fun f1168 =>
Q.guardK true v1163 (Q.cmpK (cmpF .eql) (binC Try.prog .eql 46 (.tmp 108) (.const (.int .i64 (.ofNat 0))) v1165 (.int .i64 (.ofNat 0))) v1165 (.int .i64 (.ofNat 0)) fun v1362 =>
f1168 v1362 h1166 c1167) (f1168 (.tup []) h1166 c1167)) fun f1164 =>
Q.guardK true v1163 (f1164 v703 h1161 c1162) (f1164 (.tup []) h1161 c1162)) fun f1159 =>
Q.guardK true v1154 (Q.cmpK (cmpF .eql) (binC Try.prog .eql 46 (.tmp 104) (.const (.int .i64 (.ofNat 1))) v1156 (.int .i64 (.ofNat 1))) v1156 (.int .i64 (.ofNat 1)) fun v1363 =>
f1159 v1363 h1157 c1158) (f1159 (.tup []) h1157 c1158)) fun f1155 =>
Q.guardK true v1154 (f1155 v17 h1153 c1152) (f1155 (.tup []) h1153 c1152)) (true) false) false) (true) false) false
theorem R10_eq (Q : Prim) (fu : Nat) (call : CallK) : curryA 0 (fnK Q Try.prog tys stl fu call e10) = R10 Q fu call := by kernel_rfl
noncomputable def n10 : List CV → HP → Nat → KV → Bool := appF 0 (R10 real 1000000 d6.fn)
theorem n10_ok : ∀ args hp c K, n10 args hp c K = true → Out (fun N => enterK Try.prog tys tab (execC Try.prog tys stl tab N) 10 args hp c) (stl 10 = true) fun p => K p.1 p.2.1 p.2.2 = true := node_ok d6_ok (by kernel_rfl) rfl g10 (R10_eq _ _ _)
noncomputable def d7 : Disp := (.node 59 n59 (.node 39 n39 (.node 24 n24 (.node 13 n13 (.node 10 n10 .leaf .leaf) (.node 15 n15 .leaf .leaf)) (.node 35 n35 (.node 30 n30 .leaf .leaf) (.node 37 n37 .leaf .leaf))) (.node 49 n49 (.node 43 n43 (.node 41 n41 .leaf .leaf) (.node 47 n47 .leaf .leaf)) (.node 56 n56 (.node 55 n55 .leaf .leaf) .leaf))) (.node 74 n74 (.node 65 n65 (.node 63 n63 (.node 61 n61 .leaf .leaf) (.node 64 n64 .leaf .leaf)) (.node 69 n69 (.node 67 n67 .leaf .leaf) (.node 72 n72 .leaf .leaf))) (.node 79 n79 (.node 77 n77 (.node 75 n75 .leaf .leaf) (.node 78 n78 .leaf .leaf)) (.node 83 n83 (.node 80 n80 .leaf .leaf) .leaf))))
theorem d7_ok : CallSim Try.prog tys stl tab d7.fn := Disp.sim ⟨n59_ok, ⟨n39_ok, ⟨n24_ok, ⟨n13_ok, ⟨n10_ok, True.intro, True.intro⟩, ⟨n15_ok, True.intro, True.intro⟩⟩, ⟨n35_ok, ⟨n30_ok, True.intro, True.intro⟩, ⟨n37_ok, True.intro, True.intro⟩⟩⟩, ⟨n49_ok, ⟨n43_ok, ⟨n41_ok, True.intro, True.intro⟩, ⟨n47_ok, True.intro, True.intro⟩⟩, ⟨n56_ok, ⟨n55_ok, True.intro, True.intro⟩, True.intro⟩⟩⟩, ⟨n74_ok, ⟨n65_ok, ⟨n63_ok, ⟨n61_ok, True.intro, True.intro⟩, ⟨n64_ok, True.intro, True.intro⟩⟩, ⟨n69_ok, ⟨n67_ok, True.intro, True.intro⟩, ⟨n72_ok, True.intro, True.intro⟩⟩⟩, ⟨n79_ok, ⟨n77_ok, ⟨n75_ok, True.intro, True.intro⟩, ⟨n78_ok, True.intro, True.intro⟩⟩, ⟨n83_ok, ⟨n80_ok, True.intro, True.intro⟩, True.intro⟩⟩⟩⟩
noncomputable abbrev dT : Disp := d7
theorem dT_ok : CallSim Try.prog tys stl tab dT.fn := d7_ok

set_option maxHeartbeats 0 in
theorem run10 : lawK dT.fn 10 = true := by kernel_rfl
namespace planeNone
open Go.ChangeShapes Go.WideShapes Go.ChangeAt Go.RowKit
theorem own : ownKnob Try.prog.godebug = none := by kernel_rfl
theorem laid : laidOutB Try.prog = true := by kernel_rfl
theorem lifted (os : Os) (started : os.Started) (H : Type) (enc : TypeId × Value → H) :
    ReturnsInHanded {} Try.checked os 10 .any (Rows.planeNoneSpec.pre6 enc Try.prog Try.f10 Rows.planeNoneRow.domain false) (Rows.planeNoneSpec.post enc Try.prog Try.f10 false true false false) := by
  refine returnsInHanded_of_change (C := Try.checked) own started (by kernel_rfl) Try.func10
    (ChangeSpec.witness6 (enc := enc) (C := Try.checked) false ⟨#[], #[], []⟩ 8 (by kernel_rfl) (by kernel_rfl) (by kernel_rfl) (by kernel_rfl)) ?_
  intro W base args ds gs before hval0 hW hcnd _
  have hW' := hW
  obtain ⟨p, q, hA0, hV, rfl, hfz, hnd⟩ := hW
  have hA : DataW.TrodAll enc Try.prog W 0 (fun _ => true) true Try.f10.params.toList args.toList ds p := hA0
  rw [Try.params10] at hA
  obtain ⟨hargs, rfl, rfl⟩ := trodAll_nil hA
  obtain rfl : args = #[] := by cases args; simp_all
  obtain ⟨rfl, rfl⟩ := trodVars_none hV
  clear hA0 hval0
  refine (lawK_true tok mixed fok dT_ok (by kernel_rfl : tab 10 = some e10) rfl run10 W).mono fun e W' ⟨he, hg⟩ => ?_
  subst he
  exact ⟨_, rfl, law_done laid rfl rfl Try.underlying4 (by kernel_rfl) hW' rfl hg⟩

theorem over : Rows.planeNoneRow.holds Try.pinned (OpenSpec.ofChange Rows.planeNoneSpec) :=
  OpenClaim.holds_of_wide 10 Try.f10 rfl rfl rfl rfl rfl rfl rfl ⟨rfl, rfl, rfl, rfl, rfl⟩ rfl rfl rfl rfl rfl (by kernel_rfl) Try.func10 (by kernel_rfl)
    (of_decide_eq_true (by kernel_rfl)) (by unfold Func.isWrapper; first | (rw [if_pos (by decide +kernel)]; kernel_rfl) | (rw [if_neg (by decide +kernel)]; exact ⟨rfl, rfl⟩))
    (fun os started H enc _ => lifted os started H enc)

theorem proved : Rows.PlaneNoneSaid := over
end planeNone
end Go.Proofs.Ytofoplolmlbioaa
