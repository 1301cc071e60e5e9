/-
  foghornlaw04.PointsNames returns true, whatever the memory it begins in. No condition.
-/
import Derived.Test.YtlnodgmjemhbeaaRows
import Derived.Test.YtlnodgmjemhbeaaGx
import Derived.WalkKit
import Derived.ProofKit
import Derived.OpenShut
set_option linter.unusedVariables false
set_option maxRecDepth 1000000
namespace Go.Proofs.Ytlnodgmjemhbeaa
open Go Go.Fw
def tys : List (Nat × TyI) := [
  (1, ⟨.func, 1, 8, .nilFunc⟩),
  (2, ⟨.int .i64, 1, 8, .int .i64 0⟩),
  (3, ⟨.int .i64, 1, 8, .int .i64 0⟩),
  (4, ⟨.bool, 1, 1, .bool false⟩),
  (5, ⟨.int .u8, 1, 1, .int .u8 0⟩),
  (9, ⟨.str, 1, 16, .string (ByteArray.mk #[])⟩),
  (12, ⟨.int .u64, 1, 8, .int .u64 0⟩),
  (21, ⟨.int .i32, 1, 4, .int .i32 0⟩),
  (22, ⟨.slice 3, 1, 24, .slice none 0 0⟩),
  (23, ⟨.func, 1, 8, .nilFunc⟩),
  (24, ⟨.func, 1, 8, .nilFunc⟩),
  (25, ⟨.int .i64, 1, 8, .int .i64 0⟩),
  (27, ⟨.func, 1, 8, .nilFunc⟩),
  (28, ⟨.slice 31, 1, 24, .slice none 0 0⟩),
  (30, ⟨.func, 1, 8, .nilFunc⟩),
  (31, ⟨.cpx .f64, 1, 16, .complex .f64 0 0⟩),
  (32, ⟨.float .f64, 1, 8, .float .f64 0⟩),
  (33, ⟨.func, 1, 8, .nilFunc⟩),
  (34, ⟨.slice 4, 1, 24, .slice none 0 0⟩),
  (35, ⟨.func, 1, 8, .nilFunc⟩),
  (37, ⟨.func, 1, 8, .nilFunc⟩),
  (38, ⟨.func, 1, 8, .nilFunc⟩),
  (39, ⟨.slice 22, 1, 24, .slice none 0 0⟩),
  (40, ⟨.func, 1, 8, .nilFunc⟩),
  (41, ⟨.func, 1, 8, .nilFunc⟩),
  (42, ⟨.func, 1, 8, .nilFunc⟩),
  (44, ⟨.func, 1, 8, .nilFunc⟩),
  (45, ⟨.func, 1, 8, .nilFunc⟩),
  (46, ⟨.func, 1, 8, .nilFunc⟩),
  (47, ⟨.int .u64, 1, 8, .int .u64 0⟩),
  (48, ⟨.func, 1, 8, .nilFunc⟩),
  (49, ⟨.func, 1, 8, .nilFunc⟩),
  (50, ⟨.struct [(0, 3), (1, 3), (2, 3), (3, 48), (4, 49)], 5, 40, .agg #[.int .i64 0, .int .i64 0, .int .i64 0, .nilFunc, .nilFunc]⟩),
  (51, ⟨.struct [(0, 3), (1, 3), (2, 3), (3, 48), (4, 49)], 5, 40, .agg #[.int .i64 0, .int .i64 0, .int .i64 0, .nilFunc, .nilFunc]⟩),
  (53, ⟨.func, 1, 8, .nilFunc⟩),
  (55, ⟨.func, 1, 8, .nilFunc⟩),
  (57, ⟨.func, 1, 8, .nilFunc⟩),
  (58, ⟨.func, 1, 8, .nilFunc⟩),
  (59, ⟨.struct [(0, 2), (1, 2)], 2, 16, .agg #[.int .i64 0, .int .i64 0]⟩),
  (60, ⟨.struct [(0, 2), (1, 2)], 2, 16, .agg #[.int .i64 0, .int .i64 0]⟩),
  (62, ⟨.func, 1, 8, .nilFunc⟩),
  (63, ⟨.int .u32, 1, 4, .int .u32 0⟩),
  (65, ⟨.func, 1, 8, .nilFunc⟩),
  (66, ⟨.slice 71, 1, 24, .slice none 0 0⟩),
  (68, ⟨.func, 1, 8, .nilFunc⟩),
  (69, ⟨.func, 1, 8, .nilFunc⟩),
  (70, ⟨.struct [(0, 3), (1, 3)], 2, 16, .agg #[.int .i64 0, .int .i64 0]⟩),
  (71, ⟨.struct [(0, 3), (1, 3)], 2, 16, .agg #[.int .i64 0, .int .i64 0]⟩),
  (72, ⟨.func, 1, 8, .nilFunc⟩),
  (73, ⟨.func, 1, 8, .nilFunc⟩),
  (74, ⟨.func, 1, 8, .nilFunc⟩),
  (75, ⟨.func, 1, 8, .nilFunc⟩),
  (76, ⟨.func, 1, 8, .nilFunc⟩),
  (77, ⟨.func, 1, 8, .nilFunc⟩),
  (78, ⟨.func, 1, 8, .nilFunc⟩),
  (79, ⟨.func, 1, 8, .nilFunc⟩),
  (80, ⟨.func, 1, 8, .nilFunc⟩),
  (81, ⟨.func, 1, 8, .nilFunc⟩),
  (82, ⟨.func, 1, 8, .nilFunc⟩),
  (83, ⟨.func, 1, 8, .nilFunc⟩),
  (84, ⟨.func, 1, 8, .nilFunc⟩),
  (85, ⟨.func, 1, 8, .nilFunc⟩),
  (86, ⟨.func, 1, 8, .nilFunc⟩),
  (87, ⟨.int .u64, 1, 8, .int .u64 0⟩),
  (88, ⟨.func, 1, 8, .nilFunc⟩),
  (89, ⟨.func, 1, 8, .nilFunc⟩),
  (90, ⟨.func, 1, 8, .nilFunc⟩),
  (96, ⟨.func, 1, 8, .nilFunc⟩),
  (99, ⟨.func, 1, 8, .nilFunc⟩),
  (100, ⟨.ptr 5, 1, 8, .pointer none⟩),
  (105, ⟨.func, 1, 8, .nilFunc⟩)]


theorem tok : TOk Try.prog tys := tok_of ⟨⟨by kernel_rfl, by kernel_rfl⟩, ⟨by kernel_rfl, by kernel_rfl⟩, ⟨by kernel_rfl, by kernel_rfl⟩, ⟨by kernel_rfl, by kernel_rfl⟩, ⟨by kernel_rfl, by kernel_rfl⟩, ⟨by kernel_rfl, by kernel_rfl⟩, ⟨by kernel_rfl, by kernel_rfl⟩, ⟨by kernel_rfl, by kernel_rfl⟩, ⟨by kernel_rfl, by kernel_rfl⟩, ⟨by kernel_rfl, by kernel_rfl⟩, ⟨by kernel_rfl, by kernel_rfl⟩, ⟨by kernel_rfl, by kernel_rfl⟩, ⟨by kernel_rfl, by kernel_rfl⟩, ⟨by kernel_rfl, by kernel_rfl⟩, ⟨by kernel_rfl, by kernel_rfl⟩, ⟨by kernel_rfl, by kernel_rfl⟩, ⟨by kernel_rfl, by kernel_rfl⟩, ⟨by kernel_rfl, by kernel_rfl⟩, ⟨by kernel_rfl, by kernel_rfl⟩, ⟨by kernel_rfl, by kernel_rfl⟩, ⟨by kernel_rfl, by kernel_rfl⟩, ⟨by kernel_rfl, by kernel_rfl⟩, ⟨by kernel_rfl, by kernel_rfl⟩, ⟨by kernel_rfl, by kernel_rfl⟩, ⟨by kernel_rfl, by kernel_rfl⟩, ⟨by kernel_rfl, by kernel_rfl⟩, ⟨by kernel_rfl, by kernel_rfl⟩, ⟨by kernel_rfl, by kernel_rfl⟩, ⟨by kernel_rfl, by kernel_rfl⟩, ⟨by kernel_rfl, by kernel_rfl⟩, ⟨by kernel_rfl, by kernel_rfl⟩, ⟨by kernel_rfl, by kernel_rfl⟩, ⟨by kernel_rfl, by kernel_rfl⟩, ⟨by kernel_rfl, by kernel_rfl⟩, ⟨by kernel_rfl, by kernel_rfl⟩, ⟨by kernel_rfl, by kernel_rfl⟩, ⟨by kernel_rfl, by kernel_rfl⟩, ⟨by kernel_rfl, by kernel_rfl⟩, ⟨by kernel_rfl, by kernel_rfl⟩, ⟨by kernel_rfl, by kernel_rfl⟩, ⟨by kernel_rfl, by kernel_rfl⟩, ⟨by kernel_rfl, by kernel_rfl⟩, ⟨by kernel_rfl, by kernel_rfl⟩, ⟨by kernel_rfl, by kernel_rfl⟩, ⟨by kernel_rfl, by kernel_rfl⟩, ⟨by kernel_rfl, by kernel_rfl⟩, ⟨by kernel_rfl, by kernel_rfl⟩, ⟨by kernel_rfl, by kernel_rfl⟩, ⟨by kernel_rfl, by kernel_rfl⟩, ⟨by kernel_rfl, by kernel_rfl⟩, ⟨by kernel_rfl, by kernel_rfl⟩, ⟨by kernel_rfl, by kernel_rfl⟩, ⟨by kernel_rfl, by kernel_rfl⟩, ⟨by kernel_rfl, by kernel_rfl⟩, ⟨by kernel_rfl, by kernel_rfl⟩, ⟨by kernel_rfl, by kernel_rfl⟩, ⟨by kernel_rfl, by kernel_rfl⟩, ⟨by kernel_rfl, by kernel_rfl⟩, ⟨by kernel_rfl, by kernel_rfl⟩, ⟨by kernel_rfl, by kernel_rfl⟩, ⟨by kernel_rfl, by kernel_rfl⟩, ⟨by kernel_rfl, by kernel_rfl⟩, ⟨by kernel_rfl, by kernel_rfl⟩, ⟨by kernel_rfl, by kernel_rfl⟩, ⟨by kernel_rfl, by kernel_rfl⟩, ⟨by kernel_rfl, by kernel_rfl⟩, ⟨by kernel_rfl, by kernel_rfl⟩, ⟨by kernel_rfl, by kernel_rfl⟩, ⟨by kernel_rfl, by kernel_rfl⟩, ⟨by kernel_rfl, by kernel_rfl⟩, ⟨by kernel_rfl, by kernel_rfl⟩, True.intro⟩
theorem mixed : Try.prog.follows .mixedOrders = true := by kernel_rfl
def inL : List Nat → Nat → Bool
  | [], _ => false
  | a :: r, n => match Nat.beq a n with | true => true | false => inL r n
def stl : Nat → Bool := inL [12, 27, 36, 39, 40, 44, 46, 55, 56, 60, 61, 63, 64, 65, 66, 68, 69, 70, 72]
/- 3: foghorn/foghornlaw04.PointsNames -/
def p3 : Nat → Option PlanC := fun
  | 27 => some (.op 1 true (.op 3 true (.op 4 true (.op 5 true (.op 6 true (.op 7 false (.op 0 false (.chk [7] (.op 2 false (.chk [7] (.op 8 false (.op 9 false (.op 10 false (.op 11 false (.op 12 false (.op 13 false (.op 14 false (.done))))))))))))))))))
  | _ => none
def wl3 : Nat → List Nat := fun
  | 5 => [2]
  | 17 => [12, 13, 14]
  | _ => []
def wj3 : Nat → Option (List Nat) := fun _ => none
def kr3 : Nat → List Nat := fun
  | 28 => [159]
  | _ => []
noncomputable def e3 : Ent := entOf Try.f3 ⟨p3, wl3, wj3, kr3, []⟩
theorem g3 : EntOk Try.prog tys stl 3 e3 := .inr ⟨rfl, Try.func3, by kernel_rfl, by kernel_rfl, by kernel_rfl, by kernel_rfl, by kernel_rfl, rfl⟩
/- 6: foghorn/foghornlaw04.works -/
def p6 : Nat → Option PlanC := fun _ => none
def wl6 : Nat → List Nat := fun _ => []
def wj6 : Nat → Option (List Nat) := fun _ => none
def kr6 : Nat → List Nat := fun _ => []
noncomputable def e6 : Ent := entOf Try.f6 ⟨p6, wl6, wj6, kr6, []⟩
theorem g6 : EntOk Try.prog tys stl 6 e6 := .inr ⟨rfl, Try.func6, by kernel_rfl, by kernel_rfl, by kernel_rfl, by kernel_rfl, by kernel_rfl, rfl⟩
/- 7: foghorn/foghornlaw04.size -/
def p7 : Nat → Option PlanC := fun _ => none
def wl7 : Nat → List Nat := fun _ => []
def wj7 : Nat → Option (List Nat) := fun _ => none
def kr7 : Nat → List Nat := fun _ => []
noncomputable def e7 : Ent := entOf Try.f7 ⟨p7, wl7, wj7, kr7, []⟩
theorem g7 : EntOk Try.prog tys stl 7 e7 := .inr ⟨rfl, Try.func7, by kernel_rfl, by kernel_rfl, by kernel_rfl, by kernel_rfl, by kernel_rfl, rfl⟩
/- 8: foghorn/points.Energy -/
def p8 : Nat → Option PlanC := fun _ => none
def wl8 : Nat → List Nat := fun
  | 4 => [6, 16]
  | _ => []
def wj8 : Nat → Option (List Nat) := fun _ => none
def kr8 : Nat → List Nat := fun _ => []
noncomputable def e8 : Ent := entOf Try.f8 ⟨p8, wl8, wj8, kr8, []⟩
theorem g8 : EntOk Try.prog tys stl 8 e8 := .inr ⟨rfl, Try.func8, by kernel_rfl, by kernel_rfl, by kernel_rfl, by kernel_rfl, by kernel_rfl, rfl⟩
/- 9: foghorn/points.Bits -/
def p9 : Nat → Option PlanC := fun _ => none
def wl9 : Nat → List Nat := fun _ => []
def wj9 : Nat → Option (List Nat) := fun _ => none
def kr9 : Nat → List Nat := fun _ => []
noncomputable def e9 : Ent := entOf Try.f9 ⟨p9, wl9, wj9, kr9, [4]⟩
theorem g9 : EntOk Try.prog tys stl 9 e9 := .inr ⟨rfl, Try.func9, by kernel_rfl, by kernel_rfl, by kernel_rfl, by kernel_rfl, by kernel_rfl, rfl⟩
/- 10: foghorn/points.All -/
def p10 : Nat → Option PlanC := fun _ => none
def wl10 : Nat → List Nat := fun
  | 6 => [19]
  | _ => []
def wj10 : Nat → Option (List Nat) := fun _ => none
def kr10 : Nat → List Nat := fun _ => []
noncomputable def e10 : Ent := entOf Try.f10 ⟨p10, wl10, wj10, kr10, [4]⟩
theorem g10 : EntOk Try.prog tys stl 10 e10 := .inr ⟨rfl, Try.func10, by kernel_rfl, by kernel_rfl, by kernel_rfl, by kernel_rfl, by kernel_rfl, rfl⟩
/- 11: foghorn/points.Edge -/
def p11 : Nat → Option PlanC := fun _ => none
def wl11 : Nat → List Nat := fun _ => []
def wj11 : Nat → Option (List Nat) := fun _ => none
def kr11 : Nat → List Nat := fun _ => []
noncomputable def e11 : Ent := entOf Try.f11 ⟨p11, wl11, wj11, kr11, [4]⟩
theorem g11 : EntOk Try.prog tys stl 11 e11 := .inr ⟨rfl, Try.func11, by kernel_rfl, by kernel_rfl, by kernel_rfl, by kernel_rfl, by kernel_rfl, rfl⟩
/- 12: foghorn/foghornlaw04.norm -/
def p12 : Nat → Option PlanC := fun _ => none
def wl12 : Nat → List Nat := fun _ => []
def wj12 : Nat → Option (List Nat) := fun _ => none
def kr12 : Nat → List Nat := fun _ => []
noncomputable def e12 : Ent := entOf Try.f12 ⟨p12, wl12, wj12, kr12, []⟩
theorem g12 : EntOk Try.prog tys stl 12 e12 := .inr ⟨rfl, Try.func12, by kernel_rfl, by kernel_rfl, by kernel_rfl, by kernel_rfl, by kernel_rfl, rfl⟩
/- 13: foghorn/points.Row -/
def p13 : Nat → Option PlanC := fun _ => none
def wl13 : Nat → List Nat := fun
  | 9 => [35]
  | _ => []
def wj13 : Nat → Option (List Nat) := fun _ => none
def kr13 : Nat → List Nat := fun _ => []
noncomputable def e13 : Ent := entOf Try.f13 ⟨p13, wl13, wj13, kr13, [6]⟩
theorem g13 : EntOk Try.prog tys stl 13 e13 := .inr ⟨rfl, Try.func13, by kernel_rfl, by kernel_rfl, by kernel_rfl, by kernel_rfl, by kernel_rfl, rfl⟩
/- 14: foghorn/points.Back -/
def p14 : Nat → Option PlanC := fun _ => none
def wl14 : Nat → List Nat := fun
  | 6 => [31]
  | _ => []
def wj14 : Nat → Option (List Nat) := fun _ => none
def kr14 : Nat → List Nat := fun _ => []
noncomputable def e14 : Ent := entOf Try.f14 ⟨p14, wl14, wj14, kr14, [6]⟩
theorem g14 : EntOk Try.prog tys stl 14 e14 := .inr ⟨rfl, Try.func14, by kernel_rfl, by kernel_rfl, by kernel_rfl, by kernel_rfl, by kernel_rfl, rfl⟩
/- 15: foghorn/foghornlaw04.sameBits -/
def p15 : Nat → Option PlanC := fun _ => none
def wl15 : Nat → List Nat := fun
  | 4 => [5]
  | _ => []
def wj15 : Nat → Option (List Nat) := fun _ => none
def kr15 : Nat → List Nat := fun _ => []
noncomputable def e15 : Ent := entOf Try.f15 ⟨p15, wl15, wj15, kr15, []⟩
theorem g15 : EntOk Try.prog tys stl 15 e15 := .inr ⟨rfl, Try.func15, by kernel_rfl, by kernel_rfl, by kernel_rfl, by kernel_rfl, by kernel_rfl, rfl⟩
/- 16: foghorn/points.Coset -/
def p16 : Nat → Option PlanC := fun _ => none
def wl16 : Nat → List Nat := fun _ => []
def wj16 : Nat → Option (List Nat) := fun _ => none
def kr16 : Nat → List Nat := fun _ => []
noncomputable def e16 : Ent := entOf Try.f16 ⟨p16, wl16, wj16, kr16, [8, 12]⟩
theorem g16 : EntOk Try.prog tys stl 16 e16 := .inr ⟨rfl, Try.func16, by kernel_rfl, by kernel_rfl, by kernel_rfl, by kernel_rfl, by kernel_rfl, rfl⟩
/- 17: foghorn/points.Sizes -/
def p17 : Nat → Option PlanC := fun _ => none
def wl17 : Nat → List Nat := fun _ => []
def wj17 : Nat → Option (List Nat) := fun _ => none
def kr17 : Nat → List Nat := fun _ => []
noncomputable def e17 : Ent := entOf Try.f17 ⟨p17, wl17, wj17, kr17, []⟩
theorem g17 : EntOk Try.prog tys stl 17 e17 := .inr ⟨rfl, Try.func17, by kernel_rfl, by kernel_rfl, by kernel_rfl, by kernel_rfl, by kernel_rfl, rfl⟩
/- 23: foghorn/foghornlaw04.samePoints -/
def p23 : Nat → Option PlanC := fun _ => none
def wl23 : Nat → List Nat := fun
  | 4 => [5]
  | _ => []
def wj23 : Nat → Option (List Nat) := fun _ => none
def kr23 : Nat → List Nat := fun _ => []
noncomputable def e23 : Ent := entOf Try.f23 ⟨p23, wl23, wj23, kr23, []⟩
theorem g23 : EntOk Try.prog tys stl 23 e23 := .inr ⟨rfl, Try.func23, by kernel_rfl, by kernel_rfl, by kernel_rfl, by kernel_rfl, by kernel_rfl, rfl⟩
/- 24: foghorn/points.At -/
def p24 : Nat → Option PlanC := fun _ => none
def wl24 : Nat → List Nat := fun _ => []
def wj24 : Nat → Option (List Nat) := fun _ => none
def kr24 : Nat → List Nat := fun _ => []
noncomputable def e24 : Ent := entOf Try.f24 ⟨p24, wl24, wj24, kr24, [6]⟩
theorem g24 : EntOk Try.prog tys stl 24 e24 := .inr ⟨rfl, Try.func24, by kernel_rfl, by kernel_rfl, by kernel_rfl, by kernel_rfl, by kernel_rfl, rfl⟩
/- 25: foghorn/points.Label -/
def p25 : Nat → Option PlanC := fun _ => none
def wl25 : Nat → List Nat := fun _ => []
def wj25 : Nat → Option (List Nat) := fun _ => none
def kr25 : Nat → List Nat := fun _ => []
noncomputable def e25 : Ent := entOf Try.f25 ⟨p25, wl25, wj25, kr25, [6]⟩
theorem g25 : EntOk Try.prog tys stl 25 e25 := .inr ⟨rfl, Try.func25, by kernel_rfl, by kernel_rfl, by kernel_rfl, by kernel_rfl, by kernel_rfl, rfl⟩
/- 26: foghorn/points.Turned -/
def p26 : Nat → Option PlanC := fun _ => none
def wl26 : Nat → List Nat := fun _ => []
def wj26 : Nat → Option (List Nat) := fun _ => none
def kr26 : Nat → List Nat := fun _ => []
noncomputable def e26 : Ent := entOf Try.f26 ⟨p26, wl26, wj26, kr26, []⟩
theorem g26 : EntOk Try.prog tys stl 26 e26 := .inr ⟨rfl, Try.func26, by kernel_rfl, by kernel_rfl, by kernel_rfl, by kernel_rfl, by kernel_rfl, rfl⟩
/- 27: foghorn/plane.Norm -/
def p27 : Nat → Option PlanC := fun _ => none
def wl27 : Nat → List Nat := fun _ => []
def wj27 : Nat → Option (List Nat) := fun _ => none
def kr27 : Nat → List Nat := fun _ => []
noncomputable def e27 : Ent := entOf Try.f27 ⟨p27, wl27, wj27, kr27, []⟩
theorem g27 : EntOk Try.prog tys stl 27 e27 := .inr ⟨rfl, Try.func27, by kernel_rfl, by kernel_rfl, by kernel_rfl, by kernel_rfl, by kernel_rfl, rfl⟩
/- 28: foghorn/points.of -/
def p28 : Nat → Option PlanC := fun _ => none
def wl28 : Nat → List Nat := fun _ => []
def wj28 : Nat → Option (List Nat) := fun _ => none
def kr28 : Nat → List Nat := fun _ => []
noncomputable def e28 : Ent := entOf Try.f28 ⟨p28, wl28, wj28, kr28, []⟩
theorem g28 : EntOk Try.prog tys stl 28 e28 := .inr ⟨rfl, Try.func28, by kernel_rfl, by kernel_rfl, by kernel_rfl, by kernel_rfl, by kernel_rfl, rfl⟩
/- 29: foghorn/bits.Words -/
def p29 : Nat → Option PlanC := fun _ => none
def wl29 : Nat → List Nat := fun
  | 5 => [32]
  | 8 => [45]
  | _ => []
def wj29 : Nat → Option (List Nat) := fun
  | 13 => some []
  | _ => none
def kr29 : Nat → List Nat := fun _ => []
noncomputable def e29 : Ent := entOf Try.f29 ⟨p29, wl29, wj29, kr29, []⟩
theorem g29 : EntOk Try.prog tys stl 29 e29 := .inr ⟨rfl, Try.func29, by kernel_rfl, by kernel_rfl, by kernel_rfl, by kernel_rfl, by kernel_rfl, rfl⟩
/- 30: (foghorn/points.set).labelOf -/
def p30 : Nat → Option PlanC := fun
  | 3 => some (.op 0 false (.op 1 false (.op 2 false (.op 3 false (.op 4 false (.op 5 false (.op 6 false (.op 8 false (.op 9 false (.op 7 true (.op 10 false (.op 11 false (.op 12 false (.op 13 false (.op 17 false (.op 18 false (.op 14 true (.op 15 false (.op 16 false (.op 19 false (.chk [16, 15] (.op 20 false (.op 21 false (.op 22 false (.done)))))))))))))))))))))))))
  | _ => none
def wl30 : Nat → List Nat := fun _ => []
def wj30 : Nat → Option (List Nat) := fun _ => none
def kr30 : Nat → List Nat := fun _ => []
noncomputable def e30 : Ent := entOf Try.f30 ⟨p30, wl30, wj30, kr30, [2]⟩
theorem g30 : EntOk Try.prog tys stl 30 e30 := .inr ⟨rfl, Try.func30, by kernel_rfl, by kernel_rfl, by kernel_rfl, by kernel_rfl, by kernel_rfl, rfl⟩
/- 31: foghorn/bits.Row -/
def p31 : Nat → Option PlanC := fun _ => none
def wl31 : Nat → List Nat := fun
  | 5 => [6, 26]
  | _ => []
def wj31 : Nat → Option (List Nat) := fun _ => none
def kr31 : Nat → List Nat := fun _ => []
noncomputable def e31 : Ent := entOf Try.f31 ⟨p31, wl31, wj31, kr31, []⟩
theorem g31 : EntOk Try.prog tys stl 31 e31 := .inr ⟨rfl, Try.func31, by kernel_rfl, by kernel_rfl, by kernel_rfl, by kernel_rfl, by kernel_rfl, rfl⟩
/- 32: foghorn/plane.Whole -/
def p32 : Nat → Option PlanC := fun _ => none
def wl32 : Nat → List Nat := fun _ => []
def wj32 : Nat → Option (List Nat) := fun _ => none
def kr32 : Nat → List Nat := fun _ => []
noncomputable def e32 : Ent := entOf Try.f32 ⟨p32, wl32, wj32, kr32, []⟩
theorem g32 : EntOk Try.prog tys stl 32 e32 := .inr ⟨rfl, Try.func32, by kernel_rfl, by kernel_rfl, by kernel_rfl, by kernel_rfl, by kernel_rfl, rfl⟩
/- 33: (foghorn/plane.Gauss).Class -/
def p33 : Nat → Option PlanC := fun _ => none
def wl33 : Nat → List Nat := fun
  | 5 => [6, 18]
  | _ => []
def wj33 : Nat → Option (List Nat) := fun _ => none
def kr33 : Nat → List Nat := fun _ => []
noncomputable def e33 : Ent := entOf Try.f33 ⟨p33, wl33, wj33, kr33, [2]⟩
theorem g33 : EntOk Try.prog tys stl 33 e33 := .inr ⟨rfl, Try.func33, by kernel_rfl, by kernel_rfl, by kernel_rfl, by kernel_rfl, by kernel_rfl, rfl⟩
/- 36: foghorn/plane.Turn -/
def p36 : Nat → Option PlanC := fun _ => none
def wl36 : Nat → List Nat := fun _ => []
def wj36 : Nat → Option (List Nat) := fun _ => none
def kr36 : Nat → List Nat := fun _ => []
noncomputable def e36 : Ent := entOf Try.f36 ⟨p36, wl36, wj36, kr36, []⟩
theorem g36 : EntOk Try.prog tys stl 36 e36 := .inr ⟨rfl, Try.func36, by kernel_rfl, by kernel_rfl, by kernel_rfl, by kernel_rfl, by kernel_rfl, rfl⟩
/- 37: foghorn/points.square -/
def p37 : Nat → Option PlanC := fun _ => none
def wl37 : Nat → List Nat := fun _ => []
def wj37 : Nat → Option (List Nat) := fun _ => none
def kr37 : Nat → List Nat := fun _ => []
noncomputable def e37 : Ent := entOf Try.f37 ⟨p37, wl37, wj37, kr37, []⟩
theorem g37 : EntOk Try.prog tys stl 37 e37 := .inr ⟨rfl, Try.func37, by kernel_rfl, by kernel_rfl, by kernel_rfl, by kernel_rfl, by kernel_rfl, rfl⟩
/- 38: foghorn/points.cross -/
def p38 : Nat → Option PlanC := fun _ => none
def wl38 : Nat → List Nat := fun _ => []
def wj38 : Nat → Option (List Nat) := fun _ => none
def kr38 : Nat → List Nat := fun _ => []
noncomputable def e38 : Ent := entOf Try.f38 ⟨p38, wl38, wj38, kr38, []⟩
theorem g38 : EntOk Try.prog tys stl 38 e38 := .inr ⟨rfl, Try.func38, by kernel_rfl, by kernel_rfl, by kernel_rfl, by kernel_rfl, by kernel_rfl, rfl⟩
/- 39: foghorn/bits.isWidth -/
def p39 : Nat → Option PlanC := fun _ => none
def wl39 : Nat → List Nat := fun _ => []
def wj39 : Nat → Option (List Nat) := fun _ => none
def kr39 : Nat → List Nat := fun _ => []
noncomputable def e39 : Ent := entOf Try.f39 ⟨p39, wl39, wj39, kr39, []⟩
theorem g39 : EntOk Try.prog tys stl 39 e39 := .inr ⟨rfl, Try.func39, by kernel_rfl, by kernel_rfl, by kernel_rfl, by kernel_rfl, by kernel_rfl, rfl⟩
/- 40: foghorn/bits.isRow -/
def p40 : Nat → Option PlanC := fun _ => none
def wl40 : Nat → List Nat := fun _ => []
def wj40 : Nat → Option (List Nat) := fun _ => none
def kr40 : Nat → List Nat := fun _ => []
noncomputable def e40 : Ent := entOf Try.f40 ⟨p40, wl40, wj40, kr40, []⟩
theorem g40 : EntOk Try.prog tys stl 40 e40 := .inr ⟨rfl, Try.func40, by kernel_rfl, by kernel_rfl, by kernel_rfl, by kernel_rfl, by kernel_rfl, rfl⟩
/- 41: (foghorn/points.set).place -/
def p41 : Nat → Option PlanC := fun
  | 1 => some (.op 0 false (.op 1 false (.op 2 false (.op 3 false (.op 4 false (.op 5 false (.op 6 false (.op 7 false (.op 8 false (.op 9 false (.op 10 false (.op 11 false (.op 12 false (.done))))))))))))))
  | _ => none
def wl41 : Nat → List Nat := fun _ => []
def wj41 : Nat → Option (List Nat) := fun _ => none
def kr41 : Nat → List Nat := fun _ => []
noncomputable def e41 : Ent := entOf Try.f41 ⟨p41, wl41, wj41, kr41, [2]⟩
theorem g41 : EntOk Try.prog tys stl 41 e41 := .inr ⟨rfl, Try.func41, by kernel_rfl, by kernel_rfl, by kernel_rfl, by kernel_rfl, by kernel_rfl, rfl⟩
/- 42: (foghorn/points.set).first -/
def p42 : Nat → Option PlanC := fun _ => none
def wl42 : Nat → List Nat := fun _ => []
def wj42 : Nat → Option (List Nat) := fun _ => none
def kr42 : Nat → List Nat := fun _ => []
noncomputable def e42 : Ent := entOf Try.f42 ⟨p42, wl42, wj42, kr42, [2]⟩
theorem g42 : EntOk Try.prog tys stl 42 e42 := .inr ⟨rfl, Try.func42, by kernel_rfl, by kernel_rfl, by kernel_rfl, by kernel_rfl, by kernel_rfl, rfl⟩
/- 43: foghorn/bits.appendWord -/
def p43 : Nat → Option PlanC := fun _ => none
def wl43 : Nat → List Nat := fun
  | 2 => [0, 9]
  | _ => []
def wj43 : Nat → Option (List Nat) := fun _ => none
def kr43 : Nat → List Nat := fun
  | 4 => [21]
  | _ => []
noncomputable def e43 : Ent := entOf Try.f43 ⟨p43, wl43, wj43, kr43, []⟩
theorem g43 : EntOk Try.prog tys stl 43 e43 := .inr ⟨rfl, Try.func43, by kernel_rfl, by kernel_rfl, by kernel_rfl, by kernel_rfl, by kernel_rfl, rfl⟩
/- 44: foghorn/plane.isWhole -/
def p44 : Nat → Option PlanC := fun _ => none
def wl44 : Nat → List Nat := fun _ => []
def wj44 : Nat → Option (List Nat) := fun _ => none
def kr44 : Nat → List Nat := fun _ => []
noncomputable def e44 : Ent := entOf Try.f44 ⟨p44, wl44, wj44, kr44, []⟩
theorem g44 : EntOk Try.prog tys stl 44 e44 := .inr ⟨rfl, Try.func44, by kernel_rfl, by kernel_rfl, by kernel_rfl, by kernel_rfl, by kernel_rfl, rfl⟩
/- 45: (foghorn/plane.Gauss).mayBe -/
def p45 : Nat → Option PlanC := fun _ => none
def wl45 : Nat → List Nat := fun _ => []
def wj45 : Nat → Option (List Nat) := fun _ => none
def kr45 : Nat → List Nat := fun _ => []
noncomputable def e45 : Ent := entOf Try.f45 ⟨p45, wl45, wj45, kr45, [1]⟩
theorem g45 : EntOk Try.prog tys stl 45 e45 := .inr ⟨rfl, Try.func45, by kernel_rfl, by kernel_rfl, by kernel_rfl, by kernel_rfl, by kernel_rfl, rfl⟩
/- 46: foghorn/plane.isDepth -/
def p46 : Nat → Option PlanC := fun _ => none
def wl46 : Nat → List Nat := fun _ => []
def wj46 : Nat → Option (List Nat) := fun _ => none
def kr46 : Nat → List Nat := fun _ => []
noncomputable def e46 : Ent := entOf Try.f46 ⟨p46, wl46, wj46, kr46, []⟩
theorem g46 : EntOk Try.prog tys stl 46 e46 := .inr ⟨rfl, Try.func46, by kernel_rfl, by kernel_rfl, by kernel_rfl, by kernel_rfl, by kernel_rfl, rfl⟩
/- 47: (foghorn/plane.Gauss).odd -/
def p47 : Nat → Option PlanC := fun _ => none
def wl47 : Nat → List Nat := fun _ => []
def wj47 : Nat → Option (List Nat) := fun _ => none
def kr47 : Nat → List Nat := fun _ => []
noncomputable def e47 : Ent := entOf Try.f47 ⟨p47, wl47, wj47, kr47, [1]⟩
theorem g47 : EntOk Try.prog tys stl 47 e47 := .inr ⟨rfl, Try.func47, by kernel_rfl, by kernel_rfl, by kernel_rfl, by kernel_rfl, by kernel_rfl, rfl⟩
/- 48: (foghorn/plane.Gauss).divided -/
def p48 : Nat → Option PlanC := fun _ => none
def wl48 : Nat → List Nat := fun _ => []
def wj48 : Nat → Option (List Nat) := fun _ => none
def kr48 : Nat → List Nat := fun _ => []
noncomputable def e48 : Ent := entOf Try.f48 ⟨p48, wl48, wj48, kr48, [1]⟩
theorem g48 : EntOk Try.prog tys stl 48 e48 := .inr ⟨rfl, Try.func48, by kernel_rfl, by kernel_rfl, by kernel_rfl, by kernel_rfl, by kernel_rfl, rfl⟩
/- 51: foghorn/points.squareAt -/
def p51 : Nat → Option PlanC := fun
  | 2 => some (.op 0 false (.op 1 false (.op 2 false (.op 3 false (.op 4 false (.op 5 false (.op 6 false (.op 7 false (.op 8 false (.op 9 false (.op 10 false (.op 11 false (.op 12 false (.done))))))))))))))
  | _ => none
def wl51 : Nat → List Nat := fun _ => []
def wj51 : Nat → Option (List Nat) := fun _ => none
def kr51 : Nat → List Nat := fun _ => []
noncomputable def e51 : Ent := entOf Try.f51 ⟨p51, wl51, wj51, kr51, [2]⟩
theorem g51 : EntOk Try.prog tys stl 51 e51 := .inr ⟨rfl, Try.func51, by kernel_rfl, by kernel_rfl, by kernel_rfl, by kernel_rfl, by kernel_rfl, rfl⟩
/- 52: foghorn/points.squareLabel -/
def p52 : Nat → Option PlanC := fun
  | 1 => some (.op 0 false (.op 1 false (.op 2 false (.op 3 false (.op 4 false (.op 5 false (.op 6 false (.op 7 false (.op 8 false (.op 9 false (.done)))))))))))
  | _ => none
def wl52 : Nat → List Nat := fun _ => []
def wj52 : Nat → Option (List Nat) := fun _ => none
def kr52 : Nat → List Nat := fun _ => []
noncomputable def e52 : Ent := entOf Try.f52 ⟨p52, wl52, wj52, kr52, [3]⟩
theorem g52 : EntOk Try.prog tys stl 52 e52 := .inr ⟨rfl, Try.func52, by kernel_rfl, by kernel_rfl, by kernel_rfl, by kernel_rfl, by kernel_rfl, rfl⟩
/- 53: foghorn/points.crossAt -/
def p53 : Nat → Option PlanC := fun
  | 5 => some (.op 2 false (.op 3 false (.op 1 true (.op 5 true (.op 0 false (.op 4 false (.chk [0] (.op 6 false (.op 7 false (.op 8 false (.done)))))))))))
  | _ => none
def wl53 : Nat → List Nat := fun
  | 2 => [1, 5]
  | _ => []
def wj53 : Nat → Option (List Nat) := fun _ => none
def kr53 : Nat → List Nat := fun _ => []
noncomputable def e53 : Ent := entOf Try.f53 ⟨p53, wl53, wj53, kr53, [2]⟩
theorem g53 : EntOk Try.prog tys stl 53 e53 := .inr ⟨rfl, Try.func53, by kernel_rfl, by kernel_rfl, by kernel_rfl, by kernel_rfl, by kernel_rfl, rfl⟩
/- 54: foghorn/points.crossLabel -/
def p54 : Nat → Option PlanC := fun _ => none
def wl54 : Nat → List Nat := fun
  | 3 => [7, 15]
  | _ => []
def wj54 : Nat → Option (List Nat) := fun _ => none
def kr54 : Nat → List Nat := fun _ => []
noncomputable def e54 : Ent := entOf Try.f54 ⟨p54, wl54, wj54, kr54, [3]⟩
theorem g54 : EntOk Try.prog tys stl 54 e54 := .inr ⟨rfl, Try.func54, by kernel_rfl, by kernel_rfl, by kernel_rfl, by kernel_rfl, by kernel_rfl, rfl⟩
/- 55: math.Abs -/
def p55 : Nat → Option PlanC := fun _ => none
def wl55 : Nat → List Nat := fun _ => []
def wj55 : Nat → Option (List Nat) := fun _ => none
def kr55 : Nat → List Nat := fun _ => []
noncomputable def e55 : Ent := entOf Try.f55 ⟨p55, wl55, wj55, kr55, []⟩
theorem g55 : EntOk Try.prog tys stl 55 e55 := .inr ⟨rfl, Try.func55, by kernel_rfl, by kernel_rfl, by kernel_rfl, by kernel_rfl, by kernel_rfl, rfl⟩
/- 56: math.Trunc -/
def p56 : Nat → Option PlanC := fun _ => none
def wl56 : Nat → List Nat := fun _ => []
def wj56 : Nat → Option (List Nat) := fun _ => none
def kr56 : Nat → List Nat := fun _ => []
noncomputable def e56 : Ent := entOf Try.f56 ⟨p56, wl56, wj56, kr56, []⟩
theorem g56 : EntOk Try.prog tys stl 56 e56 := .inr ⟨rfl, Try.func56, by kernel_rfl, by kernel_rfl, by kernel_rfl, by kernel_rfl, by kernel_rfl, rfl⟩
/- 59: (foghorn/points.set).point -/
def p59 : Nat → Option PlanC := fun _ => none
def wl59 : Nat → List Nat := fun _ => []
def wj59 : Nat → Option (List Nat) := fun _ => none
def kr59 : Nat → List Nat := fun _ => []
noncomputable def e59 : Ent := entOf Try.f59 ⟨p59, wl59, wj59, kr59, [3]⟩
theorem g59 : EntOk Try.prog tys stl 59 e59 := .inr ⟨rfl, Try.func59, by kernel_rfl, by kernel_rfl, by kernel_rfl, by kernel_rfl, by kernel_rfl, rfl⟩
/- 60: foghorn/points.ungray -/
def p60 : Nat → Option PlanC := fun _ => none
def wl60 : Nat → List Nat := fun _ => []
def wj60 : Nat → Option (List Nat) := fun _ => none
def kr60 : Nat → List Nat := fun _ => []
noncomputable def e60 : Ent := entOf Try.f60 ⟨p60, wl60, wj60, kr60, []⟩
theorem g60 : EntOk Try.prog tys stl 60 e60 := .inr ⟨rfl, Try.func60, by kernel_rfl, by kernel_rfl, by kernel_rfl, by kernel_rfl, by kernel_rfl, rfl⟩
/- 61: foghorn/points.gray -/
def p61 : Nat → Option PlanC := fun _ => none
def wl61 : Nat → List Nat := fun _ => []
def wj61 : Nat → Option (List Nat) := fun _ => none
def kr61 : Nat → List Nat := fun _ => []
noncomputable def e61 : Ent := entOf Try.f61 ⟨p61, wl61, wj61, kr61, []⟩
theorem g61 : EntOk Try.prog tys stl 61 e61 := .inr ⟨rfl, Try.func61, by kernel_rfl, by kernel_rfl, by kernel_rfl, by kernel_rfl, by kernel_rfl, rfl⟩
/- 62: (foghorn/points.set).rows -/
def p62 : Nat → Option PlanC := fun
  | 1 => some (.op 3 false (.op 4 false (.op 0 true (.op 1 false (.op 2 true (.op 5 false (.chk [1] (.op 6 false (.op 7 false (.op 8 false (.done)))))))))))
  | _ => none
def wl62 : Nat → List Nat := fun _ => []
def wj62 : Nat → Option (List Nat) := fun _ => none
def kr62 : Nat → List Nat := fun _ => []
noncomputable def e62 : Ent := entOf Try.f62 ⟨p62, wl62, wj62, kr62, [2]⟩
theorem g62 : EntOk Try.prog tys stl 62 e62 := .inr ⟨rfl, Try.func62, by kernel_rfl, by kernel_rfl, by kernel_rfl, by kernel_rfl, by kernel_rfl, rfl⟩
/- 63: math.Float64frombits (no Go text) -/
noncomputable def e63 : Ent := extEnt
theorem g63 : EntOk Try.prog tys stl 63 e63 := .inl rfl
/- 64: math.Float64bits (no Go text) -/
noncomputable def e64 : Ent := extEnt
theorem g64 : EntOk Try.prog tys stl 64 e64 := .inl rfl
/- 65: math.archTrunc (no Go text) -/
noncomputable def e65 : Ent := extEnt
theorem g65 : EntOk Try.prog tys stl 65 e65 := .inl rfl
/- 66: math.trunc -/
def p66 : Nat → Option PlanC := fun _ => none
def wl66 : Nat → List Nat := fun _ => []
def wj66 : Nat → Option (List Nat) := fun
  | 7 => some [3]
  | _ => none
def kr66 : Nat → List Nat := fun _ => []
noncomputable def e66 : Ent := entOf Try.f66 ⟨p66, wl66, wj66, kr66, []⟩
theorem g66 : EntOk Try.prog tys stl 66 e66 := .inr ⟨rfl, Try.func66, by kernel_rfl, by kernel_rfl, by kernel_rfl, by kernel_rfl, by kernel_rfl, rfl⟩
/- 68: foghorn/bits.Ungray -/
def p68 : Nat → Option PlanC := fun _ => none
def wl68 : Nat → List Nat := fun
  | 4 => [0, 4]
  | _ => []
def wj68 : Nat → Option (List Nat) := fun _ => none
def kr68 : Nat → List Nat := fun _ => []
noncomputable def e68 : Ent := entOf Try.f68 ⟨p68, wl68, wj68, kr68, []⟩
theorem g68 : EntOk Try.prog tys stl 68 e68 := .inr ⟨rfl, Try.func68, by kernel_rfl, by kernel_rfl, by kernel_rfl, by kernel_rfl, by kernel_rfl, rfl⟩
/- 69: foghorn/bits.Gray -/
def p69 : Nat → Option PlanC := fun _ => none
def wl69 : Nat → List Nat := fun _ => []
def wj69 : Nat → Option (List Nat) := fun _ => none
def kr69 : Nat → List Nat := fun _ => []
noncomputable def e69 : Ent := entOf Try.f69 ⟨p69, wl69, wj69, kr69, []⟩
theorem g69 : EntOk Try.prog tys stl 69 e69 := .inr ⟨rfl, Try.func69, by kernel_rfl, by kernel_rfl, by kernel_rfl, by kernel_rfl, by kernel_rfl, rfl⟩
/- 70: math.Copysign -/
def p70 : Nat → Option PlanC := fun _ => none
def wl70 : Nat → List Nat := fun _ => []
def wj70 : Nat → Option (List Nat) := fun _ => none
def kr70 : Nat → List Nat := fun _ => []
noncomputable def e70 : Ent := entOf Try.f70 ⟨p70, wl70, wj70, kr70, []⟩
theorem g70 : EntOk Try.prog tys stl 70 e70 := .inr ⟨rfl, Try.func70, by kernel_rfl, by kernel_rfl, by kernel_rfl, by kernel_rfl, by kernel_rfl, rfl⟩
/- 72: foghorn/bits.isGray -/
def p72 : Nat → Option PlanC := fun _ => none
def wl72 : Nat → List Nat := fun _ => []
def wj72 : Nat → Option (List Nat) := fun _ => none
def kr72 : Nat → List Nat := fun _ => []
noncomputable def e72 : Ent := entOf Try.f72 ⟨p72, wl72, wj72, kr72, []⟩
theorem g72 : EntOk Try.prog tys stl 72 e72 := .inr ⟨rfl, Try.func72, by kernel_rfl, by kernel_rfl, by kernel_rfl, by kernel_rfl, by kernel_rfl, rfl⟩
noncomputable def ents : List (Nat × Ent) := [(3, e3), (6, e6), (7, e7), (8, e8), (9, e9), (10, e10), (11, e11), (12, e12), (13, e13), (14, e14), (15, e15), (16, e16), (17, e17), (23, e23), (24, e24), (25, e25), (26, e26), (27, e27), (28, e28), (29, e29), (30, e30), (31, e31), (32, e32), (33, e33), (36, e36), (37, e37), (38, e38), (39, e39), (40, e40), (41, e41), (42, e42), (43, e43), (44, e44), (45, e45), (46, e46), (47, e47), (48, e48), (51, e51), (52, e52), (53, e53), (54, e54), (55, e55), (56, e56), (59, e59), (60, e60), (61, e61), (62, e62), (63, e63), (64, e64), (65, e65), (66, e66), (68, e68), (69, e69), (70, e70), (72, e72)]
theorem goods : EntsOk Try.prog tys stl ents := ⟨g3, g6, g7, g8, g9, g10, g11, g12, g13, g14, g15, g16, g17, g23, g24, g25, g26, g27, g28, g29, g30, g31, g32, g33, g36, g37, g38, g39, g40, g41, g42, g43, g44, g45, g46, g47, g48, g51, g52, g53, g54, g55, g56, g59, g60, g61, g62, g63, g64, g65, g66, g68, g69, g70, g72, True.intro⟩
noncomputable def tab : Nat → Option Ent := (tabOf ents).get
theorem fok : FOk Try.prog tys stl tab := fok_of goods
noncomputable def d0 : Disp := .leaf
theorem d0_ok : CallSim Try.prog tys stl tab d0.fn := Disp.sim True.intro
/- foghorn/foghornlaw04.size -/
noncomputable def R7 (q_remW : Nat → Nat → Option CV → W → W → (W → Bool) → Bool) (q_icvW : Nat → Nat → Option CV → W → (W → Bool) → Bool) (q_idxSW : Nat → W → W → (W → Bool) → Bool) (q_loadSW : HW → W → (W → Bool) → Bool) (q_buildSW : Nat → Nat → Kind → Nat → Bool → HW → Nat → Nat → List W → KW → Bool) (fu : Nat) (call : CallW) (a0 : W) (h0 : HW) (c0 : Nat) (K : KW) : Bool :=
q_buildSW 1 3 (.ints .i64) 6 true h0 c0 6 [⟨3, 4, r0, []⟩, ⟨3, 16, r0, []⟩, ⟨3, 32, r0, []⟩, ⟨3, 64, r0, []⟩, ⟨3, 128, r0, []⟩, ⟨3, 256, r0, []⟩] fun v1 h2 c3 =>
q_icvW 7 18446744073709551615 (convC Try.prog tys ⟨[], 0, decH h2, 0⟩ 3 47 (dec a0)) a0 fun v4 =>
q_remW 7 18446744073709551615 (binC Try.prog .rem 47 (.tmp 5) (.const (.int .u64 (.ofNat 6))) (dec v4) (dec ⟨7, 6, r0, []⟩)) v4 ⟨7, 6, r0, []⟩ fun v5 =>
q_idxSW 1 v1 v5 fun v6 =>
q_loadSW h2 v6 fun v7 =>
K v7 h2 c3
theorem R7_eq (Q : PrimW) (fu : Nat) (call : CallW) : curryA 1 (fnK Q Try.prog tys stl fu call e7) = R7 Q.remW Q.icvW Q.idxSW Q.loadSW Q.buildSW fu call := by kernel_rfl
noncomputable def n7 : List W → HW → Nat → KW → Bool := appF 1 (R7 remW icvW idxSW loadSW buildSW 1000000 d0.fn)
theorem n7_ok : FnGood Try.prog tys stl tab 7 n7 := node_ok d0_ok (by kernel_rfl) rfl g7 (R7_eq real _ _)
/- foghorn/foghornlaw04.norm -/
noncomputable def R12 (q_genW : Option CV → (W → Bool) → Bool) (fu : Nat) (call : CallW) (a0 : W) (h0 : HW) (c0 : Nat) (K : KW) : Bool :=
q_genW (two Try.prog (dec a0) fun v => Builtin.real_ #[31] 32 #[v]) fun v1 =>
q_genW (two Try.prog (dec a0) fun v => Builtin.real_ #[31] 32 #[v]) fun v2 =>
q_genW (binC Try.prog .mul 32 (.tmp 4) (.tmp 6) (dec v1) (dec v2)) fun v3 =>
q_genW (two Try.prog (dec a0) fun v => Builtin.imag_ #[31] 32 #[v]) fun v4 =>
q_genW (two Try.prog (dec a0) fun v => Builtin.imag_ #[31] 32 #[v]) fun v5 =>
q_genW (binC Try.prog .mul 32 (.tmp 9) (.tmp 11) (dec v4) (dec v5)) fun v6 =>
q_genW (binC Try.prog .add 32 (.tmp 7) (.tmp 12) (dec v3) (dec v6)) fun v7 =>
K v7 h0 c0
theorem R12_eq (Q : PrimW) (fu : Nat) (call : CallW) : curryA 1 (fnK Q Try.prog tys stl fu call e12) = R12 Q.genW fu call := by kernel_rfl
noncomputable def n12 : List W → HW → Nat → KW → Bool := appF 1 (R12 genW 1000000 d0.fn)
theorem n12_ok : FnGood Try.prog tys stl tab 12 n12 := node_ok d0_ok (by kernel_rfl) rfl g12 (R12_eq real _ _)
/- foghorn/foghornlaw04.sameBits -/
noncomputable def R15 (q_genW : Option CV → (W → Bool) → Bool) (q_addW : Nat → Nat → Option CV → W → W → (W → Bool) → Bool) (q_cmpW : (Nat → Nat → Bool) → Nat → Option CV → W → W → (W → Bool) → Bool) (q_condW : W → Bool → Bool → Bool) (q_idxSW : Nat → W → W → (W → Bool) → Bool) (q_lenW : Option CV → W → (W → Bool) → Bool) (q_loadSW : HW → W → (W → Bool) → Bool) (fu : Nat) (call : CallW) (a0 : W) (a1 : W) (h0 : HW) (c0 : Nat) (K : KW) : Bool :=
q_lenW (lenC tys 34 (dec a0)) a0 fun v1 =>
q_lenW (lenC tys 34 (dec a1)) a1 fun v2 =>
q_cmpW (cmpF2 .neq) 3 (binC Try.prog .neq 3 (.tmp 7) (.tmp 9) (dec v1) (dec v2)) v1 v2 fun v3 =>
q_condW v3 (
K ⟨8, 0, r0, []⟩ h0 c0) (
@Nat.rec (fun _ => Fun 1) (fun _ _ _ => false) (fun _ f7 v4 h5 c6 =>
q_lenW (lenC tys 34 (dec a0)) a0 fun v8 =>
q_cmpW (cmpF2 .lss) 3 (binC Try.prog .lss 3 (.tmp 11) (.tmp 13) (dec v4) (dec v8)) v4 v8 fun v9 =>
q_condW v9 (
q_idxSW 1 a0 v4 fun v10 =>
q_loadSW h5 v10 fun v11 =>
q_idxSW 1 a1 v4 fun v12 =>
q_loadSW h5 v12 fun v13 =>
q_genW (binC Try.prog .neq 4 (.tmp 20) (.tmp 24) (dec v11) (dec v13)) fun v14 =>
q_condW v14 (
K ⟨8, 0, r0, []⟩ h5 c6) (
q_addW 3 9223372036854775807 (binC Try.prog .add 3 (.tmp 15) (.const (.int .i64 (.ofNat 1))) (dec v4) (dec ⟨3, 1, r0, []⟩)) v4 ⟨3, 1, r0, []⟩ fun v15 =>
f7 v15 h5 c6)) (
K ⟨8, 1, r0, []⟩ h5 c6)) fu ⟨3, 0, r0, []⟩ h0 c0)
theorem R15_eq (Q : PrimW) (fu : Nat) (call : CallW) : curryA 2 (fnK Q Try.prog tys stl fu call e15) = R15 Q.genW Q.addW Q.cmpW Q.condW Q.idxSW Q.lenW Q.loadSW fu call := by kernel_rfl
noncomputable def n15 : List W → HW → Nat → KW → Bool := appF 2 (R15 genW addW cmpW condW idxSW lenW loadSW 1000000 d0.fn)
theorem n15_ok : FnGood Try.prog tys stl tab 15 n15 := node_ok d0_ok (by kernel_rfl) rfl g15 (R15_eq real _ _)
/- foghorn/points.Sizes -/
noncomputable def R17 (q_buildSW : Nat → Nat → Kind → Nat → Bool → HW → Nat → Nat → List W → KW → Bool) (fu : Nat) (call : CallW) (h0 : HW) (c0 : Nat) (K : KW) : Bool :=
q_buildSW 1 3 (.ints .i64) 6 true h0 c0 6 [⟨3, 4, r0, []⟩, ⟨3, 16, r0, []⟩, ⟨3, 32, r0, []⟩, ⟨3, 64, r0, []⟩, ⟨3, 128, r0, []⟩, ⟨3, 256, r0, []⟩] fun v1 h2 c3 =>
K v1 h2 c3
theorem R17_eq (Q : PrimW) (fu : Nat) (call : CallW) : curryA 0 (fnK Q Try.prog tys stl fu call e17) = R17 Q.buildSW fu call := by kernel_rfl
noncomputable def n17 : List W → HW → Nat → KW → Bool := appF 0 (R17 buildSW 1000000 d0.fn)
theorem n17_ok : FnGood Try.prog tys stl tab 17 n17 := node_ok d0_ok (by kernel_rfl) rfl g17 (R17_eq real _ _)
/- foghorn/foghornlaw04.samePoints -/
noncomputable def R23 (q_genW : Option CV → (W → Bool) → Bool) (q_addW : Nat → Nat → Option CV → W → W → (W → Bool) → Bool) (q_cmpW : (Nat → Nat → Bool) → Nat → Option CV → W → W → (W → Bool) → Bool) (q_condW : W → Bool → Bool → Bool) (q_idxSW : Nat → W → W → (W → Bool) → Bool) (q_lenW : Option CV → W → (W → Bool) → Bool) (q_loadSW : HW → W → (W → Bool) → Bool) (fu : Nat) (call : CallW) (a0 : W) (a1 : W) (h0 : HW) (c0 : Nat) (K : KW) : Bool :=
q_lenW (lenC tys 28 (dec a0)) a0 fun v1 =>
q_lenW (lenC tys 28 (dec a1)) a1 fun v2 =>
q_cmpW (cmpF2 .neq) 3 (binC Try.prog .neq 3 (.tmp 7) (.tmp 9) (dec v1) (dec v2)) v1 v2 fun v3 =>
q_condW v3 (
K ⟨8, 0, r0, []⟩ h0 c0) (
@Nat.rec (fun _ => Fun 1) (fun _ _ _ => false) (fun _ f7 v4 h5 c6 =>
q_lenW (lenC tys 28 (dec a0)) a0 fun v8 =>
q_cmpW (cmpF2 .lss) 3 (binC Try.prog .lss 3 (.tmp 11) (.tmp 13) (dec v4) (dec v8)) v4 v8 fun v9 =>
q_condW v9 (
q_idxSW 1 a0 v4 fun v10 =>
q_loadSW h5 v10 fun v11 =>
q_idxSW 1 a1 v4 fun v12 =>
q_loadSW h5 v12 fun v13 =>
q_genW (binC Try.prog .neq 31 (.tmp 20) (.tmp 24) (dec v11) (dec v13)) fun v14 =>
q_condW v14 (
K ⟨8, 0, r0, []⟩ h5 c6) (
q_addW 3 9223372036854775807 (binC Try.prog .add 3 (.tmp 15) (.const (.int .i64 (.ofNat 1))) (dec v4) (dec ⟨3, 1, r0, []⟩)) v4 ⟨3, 1, r0, []⟩ fun v15 =>
f7 v15 h5 c6)) (
K ⟨8, 1, r0, []⟩ h5 c6)) fu ⟨3, 0, r0, []⟩ h0 c0)
theorem R23_eq (Q : PrimW) (fu : Nat) (call : CallW) : curryA 2 (fnK Q Try.prog tys stl fu call e23) = R23 Q.genW Q.addW Q.cmpW Q.condW Q.idxSW Q.lenW Q.loadSW fu call := by kernel_rfl
noncomputable def n23 : List W → HW → Nat → KW → Bool := appF 2 (R23 genW addW cmpW condW idxSW lenW loadSW 1000000 d0.fn)
theorem n23_ok : FnGood Try.prog tys stl tab 23 n23 := node_ok d0_ok (by kernel_rfl) rfl g23 (R23_eq real _ _)
/- foghorn/plane.Norm -/
noncomputable def R27 (q_genW : Option CV → (W → Bool) → Bool) (fu : Nat) (call : CallW) (a0 : W) (h0 : HW) (c0 : Nat) (K : KW) : Bool :=
q_genW (two Try.prog (dec a0) fun v => Builtin.real_ #[31] 32 #[v]) fun v1 =>
q_genW (two Try.prog (dec a0) fun v => Builtin.real_ #[31] 32 #[v]) fun v2 =>
q_genW (binC Try.prog .mul 32 (.tmp 4) (.tmp 6) (dec v1) (dec v2)) fun v3 =>
q_genW (two Try.prog (dec a0) fun v => Builtin.imag_ #[31] 32 #[v]) fun v4 =>
q_genW (two Try.prog (dec a0) fun v => Builtin.imag_ #[31] 32 #[v]) fun v5 =>
q_genW (binC Try.prog .mul 32 (.tmp 9) (.tmp 11) (dec v4) (dec v5)) fun v6 =>
q_genW (binC Try.prog .add 32 (.tmp 7) (.tmp 12) (dec v3) (dec v6)) fun v7 =>
K v7 h0 c0
theorem R27_eq (Q : PrimW) (fu : Nat) (call : CallW) : curryA 1 (fnK Q Try.prog tys stl fu call e27) = R27 Q.genW fu call := by kernel_rfl
noncomputable def n27 : List W → HW → Nat → KW → Bool := appF 1 (R27 genW 1000000 d0.fn)
theorem n27_ok : FnGood Try.prog tys stl tab 27 n27 := node_ok d0_ok (by kernel_rfl) rfl g27 (R27_eq real _ _)
/- foghorn/plane.Turn -/
noncomputable def R36 (q_genW : Option CV → (W → Bool) → Bool) (q_bitW : (Nat → Nat → Nat) → Nat → Nat → Option CV → W → W → (W → Bool) → Bool) (q_cmpW : (Nat → Nat → Bool) → Nat → Option CV → W → W → (W → Bool) → Bool) (q_condW : W → Bool → Bool → Bool) (fu : Nat) (call : CallW) (a0 : W) (a1 : W) (h0 : HW) (c0 : Nat) (K : KW) : Bool :=
q_genW (two Try.prog (dec a0) fun v => Builtin.real_ #[31] 32 #[v]) fun v1 =>
q_genW (two Try.prog (dec a0) fun v => Builtin.imag_ #[31] 32 #[v]) fun v2 =>
q_bitW Nat.land 3 9223372036854775807 (binC Try.prog .and 3 (.tmp 11) (.const (.int .i64 (.ofNat 3))) (dec a1) (dec ⟨3, 3, r0, []⟩)) a1 ⟨3, 3, r0, []⟩ fun v3 =>
q_cmpW (cmpF2 .eql) 3 (binC Try.prog .eql 3 (.tmp 12) (.const (.int .i64 (.ofNat 1))) (dec v3) (dec ⟨3, 1, r0, []⟩)) v3 ⟨3, 1, r0, []⟩ fun v4 =>
q_condW v4 (
q_genW (two Try.prog (dec v2) (Op.unary .neg)) fun v5 =>
q_genW (two2 Try.prog (dec v5) (dec v1) fun v u => Builtin.complex_ #[32, 32] 31 #[v, u]) fun v6 =>
K v6 h0 c0) (
q_cmpW (cmpF2 .eql) 3 (binC Try.prog .eql 3 (.tmp 12) (.const (.int .i64 (.ofNat 2))) (dec v3) (dec ⟨3, 2, r0, []⟩)) v3 ⟨3, 2, r0, []⟩ fun v7 =>
q_condW v7 (
q_genW (two Try.prog (dec v1) (Op.unary .neg)) fun v8 =>
q_genW (two Try.prog (dec v2) (Op.unary .neg)) fun v9 =>
q_genW (two2 Try.prog (dec v8) (dec v9) fun v u => Builtin.complex_ #[32, 32] 31 #[v, u]) fun v10 =>
K v10 h0 c0) (
q_cmpW (cmpF2 .eql) 3 (binC Try.prog .eql 3 (.tmp 12) (.const (.int .i64 (.ofNat 3))) (dec v3) (dec ⟨3, 3, r0, []⟩)) v3 ⟨3, 3, r0, []⟩ fun v11 =>
q_condW v11 (
q_genW (two Try.prog (dec v1) (Op.unary .neg)) fun v12 =>
q_genW (two2 Try.prog (dec v2) (dec v12) fun v u => Builtin.complex_ #[32, 32] 31 #[v, u]) fun v13 =>
K v13 h0 c0) (
K a0 h0 c0)))
theorem R36_eq (Q : PrimW) (fu : Nat) (call : CallW) : curryA 2 (fnK Q Try.prog tys stl fu call e36) = R36 Q.genW Q.bitW Q.cmpW Q.condW fu call := by kernel_rfl
noncomputable def n36 : List W → HW → Nat → KW → Bool := appF 2 (R36 genW bitW cmpW condW 1000000 d0.fn)
theorem n36_ok : FnGood Try.prog tys stl tab 36 n36 := node_ok d0_ok (by kernel_rfl) rfl g36 (R36_eq real _ _)
/- foghorn/points.square -/
noncomputable def R37 (q_loadAW : Nat → HW → W → (W → Bool) → Bool) (q_storeAW : Nat → HW → W → W → (HW → Bool) → Bool) (q_allocW : Trie W → Nat → Bool → HW → Nat → KW → Bool) (q_flatW : W → Bool → Bool) (fu : Nat) (call : CallW) (a0 : W) (a1 : W) (h0 : HW) (c0 : Nat) (K : KW) : Bool :=
q_allocW (allocT tys 51) 5 true h0 c0 fun v1 h2 c3 =>
q_flatW a0 (
q_flatW a1 (
q_flatW ⟨14, 51, r0, []⟩ (
q_flatW ⟨14, 52, r0, []⟩ (
(fun (v4 : W) =>
q_storeAW 5 h2 v1 v4 fun h5 =>
q_loadAW 5 h5 v1 fun v6 =>
K v6 h5 c3) ⟨15, 0, r0, [a0, a1, ⟨3, 0, r0, []⟩, ⟨14, 51, r0, []⟩, ⟨14, 52, r0, []⟩]⟩))))
theorem R37_eq (Q : PrimW) (fu : Nat) (call : CallW) : curryA 2 (fnK Q Try.prog tys stl fu call e37) = R37 Q.loadAW Q.storeAW Q.allocW Q.flatW fu call := by kernel_rfl
noncomputable def n37 : List W → HW → Nat → KW → Bool := appF 2 (R37 loadAW storeAW allocW flatW 1000000 d0.fn)
theorem n37_ok : FnGood Try.prog tys stl tab 37 n37 := node_ok d0_ok (by kernel_rfl) rfl g37 (R37_eq real _ _)
/- foghorn/points.cross -/
noncomputable def R38 (q_loadAW : Nat → HW → W → (W → Bool) → Bool) (q_storeAW : Nat → HW → W → W → (HW → Bool) → Bool) (q_allocW : Trie W → Nat → Bool → HW → Nat → KW → Bool) (q_flatW : W → Bool → Bool) (fu : Nat) (call : CallW) (a0 : W) (a1 : W) (a2 : W) (h0 : HW) (c0 : Nat) (K : KW) : Bool :=
q_allocW (allocT tys 51) 5 true h0 c0 fun v1 h2 c3 =>
q_flatW a0 (
q_flatW a1 (
q_flatW a2 (
q_flatW ⟨14, 53, r0, []⟩ (
q_flatW ⟨14, 54, r0, []⟩ (
(fun (v4 : W) =>
q_storeAW 5 h2 v1 v4 fun h5 =>
q_loadAW 5 h5 v1 fun v6 =>
K v6 h5 c3) ⟨15, 0, r0, [a0, a1, a2, ⟨14, 53, r0, []⟩, ⟨14, 54, r0, []⟩]⟩)))))
theorem R38_eq (Q : PrimW) (fu : Nat) (call : CallW) : curryA 3 (fnK Q Try.prog tys stl fu call e38) = R38 Q.loadAW Q.storeAW Q.allocW Q.flatW fu call := by kernel_rfl
noncomputable def n38 : List W → HW → Nat → KW → Bool := appF 3 (R38 loadAW storeAW allocW flatW 1000000 d0.fn)
theorem n38_ok : FnGood Try.prog tys stl tab 38 n38 := node_ok d0_ok (by kernel_rfl) rfl g38 (R38_eq real _ _)
/- foghorn/bits.isWidth -/
noncomputable def R39 (q_share : (α : Type) → α → (α → Bool) → Bool) (q_cmpW : (Nat → Nat → Bool) → Nat → Option CV → W → W → (W → Bool) → Bool) (q_guardW : Bool → W → Bool → Bool → Bool) (q_pickW : W → W → W → (W → Bool) → Bool) (fu : Nat) (call : CallW) (a0 : W) (h0 : HW) (c0 : Nat) (K : KW) : Bool :=
q_cmpW (cmpF2 .geq) 3 (binC Try.prog .geq 3 (.tmp 3) (.const (.int .i64 (.ofNat 1))) (dec a0) (dec ⟨3, 1, r0, []⟩)) a0 ⟨3, 1, r0, []⟩ fun v1 =>
q_share _ (fun (v3 : W) (h4 : HW) (c5 : Nat) =>
q_share _ (fun (v7 : W) (h8 : HW) (c9 : Nat) =>
q_pickW v1 v7 ⟨8, 0, r0, []⟩ fun v10 =>
K v10 h8 c9) fun f6 =>
q_guardW true v1 (q_cmpW (cmpF2 .leq) 3 (binC Try.prog .leq 3 (.tmp 6) (.const (.int .i64 (.ofNat 16))) (dec v3) (dec ⟨3, 16, r0, []⟩)) v3 ⟨3, 16, r0, []⟩ fun v11 =>
f6 v11 h4 c5) (f6 wUnd h4 c5)) fun f2 =>
q_guardW true v1 (f2 a0 h0 c0) (f2 wUnd h0 c0)
theorem R39_eq (Q : PrimW) (fu : Nat) (call : CallW) : curryA 1 (fnK Q Try.prog tys stl fu call e39) = R39 Q.share Q.cmpW Q.guardW Q.pickW fu call := by kernel_rfl
noncomputable def n39 : List W → HW → Nat → KW → Bool := appF 1 (R39 (fun _ x f => f x) cmpW guardW pickW 1000000 d0.fn)
theorem n39_ok : FnGood Try.prog tys stl tab 39 n39 := node_ok d0_ok (by kernel_rfl) rfl g39 (R39_eq real _ _)
/- foghorn/bits.isRow -/
noncomputable def R40 (q_cmpW : (Nat → Nat → Bool) → Nat → Option CV → W → W → (W → Bool) → Bool) (q_lenW : Option CV → W → (W → Bool) → Bool) (fu : Nat) (call : CallW) (a0 : W) (h0 : HW) (c0 : Nat) (K : KW) : Bool :=
q_lenW (lenC tys 34 (dec a0)) a0 fun v1 =>
q_cmpW (cmpF2 .leq) 3 (binC Try.prog .leq 3 (.tmp 4) (.const (.int .i64 (.ofNat 32768))) (dec v1) (dec ⟨3, 32768, r0, []⟩)) v1 ⟨3, 32768, r0, []⟩ fun v2 =>
K v2 h0 c0
theorem R40_eq (Q : PrimW) (fu : Nat) (call : CallW) : curryA 1 (fnK Q Try.prog tys stl fu call e40) = R40 Q.cmpW Q.lenW fu call := by kernel_rfl
noncomputable def n40 : List W → HW → Nat → KW → Bool := appF 1 (R40 cmpW lenW 1000000 d0.fn)
theorem n40_ok : FnGood Try.prog tys stl tab 40 n40 := node_ok d0_ok (by kernel_rfl) rfl g40 (R40_eq real _ _)
/- (foghorn/points.set).first -/
noncomputable def R42 (q_share : (α : Type) → α → (α → Bool) → Bool) (q_subW : Nat → Nat → Option CV → W → W → (W → Bool) → Bool) (q_cmpW : (Nat → Nat → Bool) → Nat → Option CV → W → W → (W → Bool) → Bool) (q_condW : W → Bool → Bool → Bool) (q_guardW : Bool → W → Bool → Bool → Bool) (q_pickW : W → W → W → (W → Bool) → Bool) (q_fadW : Nat → W → (W → Bool) → Bool) (q_killVW : W → HW → (HW → Bool) → Bool) (q_loadSW : HW → W → (W → Bool) → Bool) (q_boxW : HW → Nat → W → KW → Bool) (fu : Nat) (call : CallW) (a0 : W) (a1 : W) (h0 : HW) (c0 : Nat) (K : KW) : Bool :=
q_boxW h0 c0 a0 fun v1 h2 c3 =>
q_fadW 2 v1 fun v4 =>
q_loadSW h2 v4 fun v5 =>
q_cmpW (cmpF2 .lss) 3 (binC Try.prog .lss 3 (.tmp 5) (.tmp 7) (dec a1) (dec v5)) a1 v5 fun v6 =>
q_share _ (fun (v8 : W) (h9 : HW) (c10 : Nat) =>
q_share _ (fun (v12 : W) (h13 : HW) (c14 : Nat) =>
q_share _ (fun (v16 : W) (h17 : HW) (c18 : Nat) =>
q_share _ (fun (v20 : W) (h21 : HW) (c22 : Nat) =>
q_share _ (fun (v24 : W) (h25 : HW) (c26 : Nat) =>
q_share _ (fun (v28 : W) (h29 : HW) (c30 : Nat) =>
q_share _ (fun (v32 : W) (h33 : HW) (c34 : Nat) =>
q_pickW v6 ⟨8, 1, r0, []⟩ v32 fun v35 =>
q_condW v35 (
q_fadW 2 v1 fun v36 =>
q_loadSW h33 v36 fun v37 =>
q_killVW v1 h33 fun h38 =>
K v37 h38 c34) (
q_killVW v1 h33 fun h39 =>
K ⟨3, 0, r0, []⟩ h39 c34)) fun f31 =>
q_guardW false v6 (q_cmpW (cmpF2 .gtr) 3 (binC Try.prog .gtr 3 (.tmp 10) (.tmp 15) (dec v8) (dec v28)) v8 v28 fun v40 =>
f31 v40 h29 c30) (f31 wUnd h29 c30)) fun f27 =>
q_guardW false v6 (q_subW 3 9223372036854775807 (binC Try.prog .sub 3 (.tmp 12) (.tmp 14) (dec v16) (dec v24)) v16 v24 fun v41 =>
f27 v41 h25 c26) (f27 wUnd h25 c26)) fun f23 =>
q_guardW false v6 (q_loadSW h21 v20 fun v42 =>
f23 v42 h21 c22) (f23 wUnd h21 c22)) fun f19 =>
q_guardW false v6 (q_fadW 2 v1 fun v43 =>
f19 v43 h17 c18) (f19 wUnd h17 c18)) fun f15 =>
q_guardW false v6 (q_loadSW h13 v12 fun v44 =>
f15 v44 h13 c14) (f15 wUnd h13 c14)) fun f11 =>
q_guardW false v6 (q_fadW 1 v1 fun v45 =>
f11 v45 h9 c10) (f11 wUnd h9 c10)) fun f7 =>
q_guardW false v6 (f7 a1 h2 c3) (f7 wUnd h2 c3)
theorem R42_eq (Q : PrimW) (fu : Nat) (call : CallW) : curryA 2 (fnK Q Try.prog tys stl fu call e42) = R42 Q.share Q.subW Q.cmpW Q.condW Q.guardW Q.pickW Q.fadW Q.killVW Q.loadSW Q.boxW fu call := by kernel_rfl
noncomputable def n42 : List W → HW → Nat → KW → Bool := appF 2 (R42 (fun _ x f => f x) subW cmpW condW guardW pickW fadW killVW loadSW boxW 1000000 d0.fn)
theorem n42_ok : FnGood Try.prog tys stl tab 42 n42 := node_ok d0_ok (by kernel_rfl) rfl g42 (R42_eq real _ _)
/- foghorn/bits.appendWord -/
noncomputable def R43 (q_addW : Nat → Nat → Option CV → W → W → (W → Bool) → Bool) (q_subW : Nat → Nat → Option CV → W → W → (W → Bool) → Bool) (q_bitW : (Nat → Nat → Nat) → Nat → Nat → Option CV → W → W → (W → Bool) → Bool) (q_cmpW : (Nat → Nat → Bool) → Nat → Option CV → W → W → (W → Bool) → Bool) (q_shrW : Nat → Nat → Option CV → W → W → (W → Bool) → Bool) (q_condW : W → Bool → Bool → Bool) (q_killVW : W → HW → (HW → Bool) → Bool) (q_buildSW : Nat → Nat → Kind → Nat → Bool → HW → Nat → Nat → List W → KW → Bool) (q_appSW : Nat → Nat → (Kind → Bool) → Bool → HW → Nat → W → W → Bool → KW → Bool) (fu : Nat) (call : CallW) (a0 : W) (a1 : W) (a2 : W) (h0 : HW) (c0 : Nat) (K : KW) : Bool :=
@Nat.rec (fun _ => Fun 2) (fun _ _ _ _ => false) (fun _ f5 v1 v2 h3 c4 =>
q_cmpW (cmpF2 .lss) 3 (binC Try.prog .lss 3 (.tmp 9) (.tmp 8) (dec v2) (dec a2)) v2 a2 fun v6 =>
q_condW v6 (
q_subW 3 9223372036854775807 (binC Try.prog .sub 3 (.tmp 14) (.const (.int .i64 (.ofNat 1))) (dec a2) (dec ⟨3, 1, r0, []⟩)) a2 ⟨3, 1, r0, []⟩ fun v7 =>
q_subW 3 9223372036854775807 (binC Try.prog .sub 3 (.tmp 15) (.tmp 16) (dec v7) (dec v2)) v7 v2 fun v8 =>
q_shrW 3 64 (binC Try.prog .shr 3 (.tmp 13) (.tmp 17) (dec a1) (dec v8)) a1 v8 fun v9 =>
q_bitW Nat.land 3 9223372036854775807 (binC Try.prog .and 3 (.tmp 18) (.const (.int .i64 (.ofNat 1))) (dec v9) (dec ⟨3, 1, r0, []⟩)) v9 ⟨3, 1, r0, []⟩ fun v10 =>
q_cmpW (cmpF2 .neq) 3 (binC Try.prog .neq 3 (.tmp 19) (.const (.int .i64 (.ofNat 0))) (dec v10) (dec ⟨3, 0, r0, []⟩)) v10 ⟨3, 0, r0, []⟩ fun v11 =>
q_buildSW 1 8 .bools 1 true h3 c4 1 [v11] fun v12 h13 c14 =>
q_appSW 1 1 (appKindOk (elemJ tys 34)) false h13 c14 v1 v12 false fun v15 h16 c17 =>
q_killVW v12 h16 fun h18 =>
q_addW 3 9223372036854775807 (binC Try.prog .add 3 (.tmp 9) (.const (.int .i64 (.ofNat 1))) (dec v2) (dec ⟨3, 1, r0, []⟩)) v2 ⟨3, 1, r0, []⟩ fun v19 =>
f5 v15 v19 h18 c17) (
K v1 h3 c4)) fu a0 ⟨3, 0, r0, []⟩ h0 c0
theorem R43_eq (Q : PrimW) (fu : Nat) (call : CallW) : curryA 3 (fnK Q Try.prog tys stl fu call e43) = R43 Q.addW Q.subW Q.bitW Q.cmpW Q.shrW Q.condW Q.killVW Q.buildSW Q.appSW fu call := by kernel_rfl
noncomputable def n43 : List W → HW → Nat → KW → Bool := appF 3 (R43 addW subW bitW cmpW shrW condW killVW buildSW appSW 1000000 d0.fn)
theorem n43_ok : FnGood Try.prog tys stl tab 43 n43 := node_ok d0_ok (by kernel_rfl) rfl g43 (R43_eq real _ _)
/- (foghorn/plane.Gauss).mayBe -/
noncomputable def R45 (q_share : (α : Type) → α → (α → Bool) → Bool) (q_cmpW : (Nat → Nat → Bool) → Nat → Option CV → W → W → (W → Bool) → Bool) (q_guardW : Bool → W → Bool → Bool → Bool) (q_pickW : W → W → W → (W → Bool) → Bool) (q_fadW : Nat → W → (W → Bool) → Bool) (q_killVW : W → HW → (HW → Bool) → Bool) (q_loadSW : HW → W → (W → Bool) → Bool) (q_boxW : HW → Nat → W → KW → Bool) (fu : Nat) (call : CallW) (a0 : W) (h0 : HW) (c0 : Nat) (K : KW) : Bool :=
q_boxW h0 c0 a0 fun v1 h2 c3 =>
q_fadW 0 v1 fun v4 =>
q_loadSW h2 v4 fun v5 =>
q_cmpW (cmpF2 .geq) 3 (binC Try.prog .geq 2 (.tmp 4) (.const (.int .i64 (.negSucc 1073741823))) (dec v5) (dec ⟨12, 0, ⟨0, 0, 0, .int .i64 (.negSucc 1073741823)⟩, []⟩)) v5 ⟨12, 0, ⟨0, 0, 0, .int .i64 (.negSucc 1073741823)⟩, []⟩ fun v6 =>
q_share _ (fun (v8 : W) (h9 : HW) (c10 : Nat) =>
q_share _ (fun (v12 : W) (h13 : HW) (c14 : Nat) =>
q_share _ (fun (v16 : W) (h17 : HW) (c18 : Nat) =>
q_pickW v6 v16 ⟨8, 0, r0, []⟩ fun v19 =>
q_share _ (fun (v21 : W) (h22 : HW) (c23 : Nat) =>
q_share _ (fun (v25 : W) (h26 : HW) (c27 : Nat) =>
q_share _ (fun (v29 : W) (h30 : HW) (c31 : Nat) =>
q_pickW v19 v29 ⟨8, 0, r0, []⟩ fun v32 =>
q_share _ (fun (v34 : W) (h35 : HW) (c36 : Nat) =>
q_share _ (fun (v38 : W) (h39 : HW) (c40 : Nat) =>
q_share _ (fun (v42 : W) (h43 : HW) (c44 : Nat) =>
q_pickW v32 v42 ⟨8, 0, r0, []⟩ fun v45 =>
q_killVW v1 h43 fun h46 =>
K v45 h46 c44) fun f41 =>
q_guardW true v32 (q_cmpW (cmpF2 .leq) 3 (binC Try.prog .leq 2 (.tmp 18) (.const (.int .i64 (.ofNat 1073741824))) (dec v38) (dec ⟨3, 1073741824, r0, []⟩)) v38 ⟨3, 1073741824, r0, []⟩ fun v47 =>
f41 v47 h39 c40) (f41 wUnd h39 c40)) fun f37 =>
q_guardW true v32 (q_loadSW h35 v34 fun v48 =>
f37 v48 h35 c36) (f37 wUnd h35 c36)) fun f33 =>
q_guardW true v32 (q_fadW 1 v1 fun v49 =>
f33 v49 h30 c31) (f33 wUnd h30 c31)) fun f28 =>
q_guardW true v19 (q_cmpW (cmpF2 .geq) 3 (binC Try.prog .geq 2 (.tmp 13) (.const (.int .i64 (.negSucc 1073741823))) (dec v25) (dec ⟨12, 0, ⟨0, 0, 0, .int .i64 (.negSucc 1073741823)⟩, []⟩)) v25 ⟨12, 0, ⟨0, 0, 0, .int .i64 (.negSucc 1073741823)⟩, []⟩ fun v50 =>
f28 v50 h26 c27) (f28 wUnd h26 c27)) fun f24 =>
q_guardW true v19 (q_loadSW h22 v21 fun v51 =>
f24 v51 h22 c23) (f24 wUnd h22 c23)) fun f20 =>
q_guardW true v19 (q_fadW 1 v1 fun v52 =>
f20 v52 h17 c18) (f20 wUnd h17 c18)) fun f15 =>
q_guardW true v6 (q_cmpW (cmpF2 .leq) 3 (binC Try.prog .leq 2 (.tmp 8) (.const (.int .i64 (.ofNat 1073741824))) (dec v12) (dec ⟨3, 1073741824, r0, []⟩)) v12 ⟨3, 1073741824, r0, []⟩ fun v53 =>
f15 v53 h13 c14) (f15 wUnd h13 c14)) fun f11 =>
q_guardW true v6 (q_loadSW h9 v8 fun v54 =>
f11 v54 h9 c10) (f11 wUnd h9 c10)) fun f7 =>
q_guardW true v6 (q_fadW 0 v1 fun v55 =>
f7 v55 h2 c3) (f7 wUnd h2 c3)
theorem R45_eq (Q : PrimW) (fu : Nat) (call : CallW) : curryA 1 (fnK Q Try.prog tys stl fu call e45) = R45 Q.share Q.cmpW Q.guardW Q.pickW Q.fadW Q.killVW Q.loadSW Q.boxW fu call := by kernel_rfl
noncomputable def n45 : List W → HW → Nat → KW → Bool := appF 1 (R45 (fun _ x f => f x) cmpW guardW pickW fadW killVW loadSW boxW 1000000 d0.fn)
theorem n45_ok : FnGood Try.prog tys stl tab 45 n45 := node_ok d0_ok (by kernel_rfl) rfl g45 (R45_eq real _ _)
/- foghorn/plane.isDepth -/
noncomputable def R46 (q_share : (α : Type) → α → (α → Bool) → Bool) (q_cmpW : (Nat → Nat → Bool) → Nat → Option CV → W → W → (W → Bool) → Bool) (q_guardW : Bool → W → Bool → Bool → Bool) (q_pickW : W → W → W → (W → Bool) → Bool) (fu : Nat) (call : CallW) (a0 : W) (h0 : HW) (c0 : Nat) (K : KW) : Bool :=
q_cmpW (cmpF2 .geq) 3 (binC Try.prog .geq 3 (.tmp 3) (.const (.int .i64 (.ofNat 0))) (dec a0) (dec ⟨3, 0, r0, []⟩)) a0 ⟨3, 0, r0, []⟩ fun v1 =>
q_share _ (fun (v3 : W) (h4 : HW) (c5 : Nat) =>
q_share _ (fun (v7 : W) (h8 : HW) (c9 : Nat) =>
q_pickW v1 v7 ⟨8, 0, r0, []⟩ fun v10 =>
K v10 h8 c9) fun f6 =>
q_guardW true v1 (q_cmpW (cmpF2 .leq) 3 (binC Try.prog .leq 3 (.tmp 6) (.const (.int .i64 (.ofNat 30))) (dec v3) (dec ⟨3, 30, r0, []⟩)) v3 ⟨3, 30, r0, []⟩ fun v11 =>
f6 v11 h4 c5) (f6 wUnd h4 c5)) fun f2 =>
q_guardW true v1 (f2 a0 h0 c0) (f2 wUnd h0 c0)
theorem R46_eq (Q : PrimW) (fu : Nat) (call : CallW) : curryA 1 (fnK Q Try.prog tys stl fu call e46) = R46 Q.share Q.cmpW Q.guardW Q.pickW fu call := by kernel_rfl
noncomputable def n46 : List W → HW → Nat → KW → Bool := appF 1 (R46 (fun _ x f => f x) cmpW guardW pickW 1000000 d0.fn)
theorem n46_ok : FnGood Try.prog tys stl tab 46 n46 := node_ok d0_ok (by kernel_rfl) rfl g46 (R46_eq real _ _)
/- (foghorn/plane.Gauss).odd -/
noncomputable def R47 (q_addW : Nat → Nat → Option CV → W → W → (W → Bool) → Bool) (q_bitW : (Nat → Nat → Nat) → Nat → Nat → Option CV → W → W → (W → Bool) → Bool) (q_fadW : Nat → W → (W → Bool) → Bool) (q_killVW : W → HW → (HW → Bool) → Bool) (q_loadSW : HW → W → (W → Bool) → Bool) (q_boxW : HW → Nat → W → KW → Bool) (fu : Nat) (call : CallW) (a0 : W) (h0 : HW) (c0 : Nat) (K : KW) : Bool :=
q_boxW h0 c0 a0 fun v1 h2 c3 =>
q_fadW 0 v1 fun v4 =>
q_loadSW h2 v4 fun v5 =>
q_fadW 1 v1 fun v6 =>
q_loadSW h2 v6 fun v7 =>
q_addW 3 9223372036854775807 (binC Try.prog .add 2 (.tmp 4) (.tmp 6) (dec v5) (dec v7)) v5 v7 fun v8 =>
q_bitW Nat.land 3 9223372036854775807 (binC Try.prog .and 2 (.tmp 7) (.const (.int .i64 (.ofNat 1))) (dec v8) (dec ⟨3, 1, r0, []⟩)) v8 ⟨3, 1, r0, []⟩ fun v9 =>
q_killVW v1 h2 fun h10 =>
K v9 h10 c3
theorem R47_eq (Q : PrimW) (fu : Nat) (call : CallW) : curryA 1 (fnK Q Try.prog tys stl fu call e47) = R47 Q.addW Q.bitW Q.fadW Q.killVW Q.loadSW Q.boxW fu call := by kernel_rfl
noncomputable def n47 : List W → HW → Nat → KW → Bool := appF 1 (R47 addW bitW fadW killVW loadSW boxW 1000000 d0.fn)
theorem n47_ok : FnGood Try.prog tys stl tab 47 n47 := node_ok d0_ok (by kernel_rfl) rfl g47 (R47_eq real _ _)
/- (foghorn/plane.Gauss).divided -/
noncomputable def R48 (q_addW : Nat → Nat → Option CV → W → W → (W → Bool) → Bool) (q_subW : Nat → Nat → Option CV → W → W → (W → Bool) → Bool) (q_quoW : Nat → Nat → Option CV → W → W → (W → Bool) → Bool) (q_fadW : Nat → W → (W → Bool) → Bool) (q_killVW : W → HW → (HW → Bool) → Bool) (q_loadSW : HW → W → (W → Bool) → Bool) (q_loadAW : Nat → HW → W → (W → Bool) → Bool) (q_storeAW : Nat → HW → W → W → (HW → Bool) → Bool) (q_allocW : Trie W → Nat → Bool → HW → Nat → KW → Bool) (q_boxW : HW → Nat → W → KW → Bool) (q_flatW : W → Bool → Bool) (fu : Nat) (call : CallW) (a0 : W) (h0 : HW) (c0 : Nat) (K : KW) : Bool :=
q_boxW h0 c0 a0 fun v1 h2 c3 =>
q_allocW (allocT tys 60) 2 true h2 c3 fun v4 h5 c6 =>
q_fadW 0 v1 fun v7 =>
q_loadSW h5 v7 fun v8 =>
q_fadW 1 v1 fun v9 =>
q_loadSW h5 v9 fun v10 =>
q_addW 3 9223372036854775807 (binC Try.prog .add 2 (.tmp 4) (.tmp 6) (dec v8) (dec v10)) v8 v10 fun v11 =>
q_quoW 3 9223372036854775807 (binC Try.prog .quo 2 (.tmp 7) (.const (.int .i64 (.ofNat 2))) (dec v11) (dec ⟨3, 2, r0, []⟩)) v11 ⟨3, 2, r0, []⟩ fun v12 =>
q_fadW 1 v1 fun v13 =>
q_loadSW h5 v13 fun v14 =>
q_fadW 0 v1 fun v15 =>
q_loadSW h5 v15 fun v16 =>
q_subW 3 9223372036854775807 (binC Try.prog .sub 2 (.tmp 10) (.tmp 12) (dec v14) (dec v16)) v14 v16 fun v17 =>
q_quoW 3 9223372036854775807 (binC Try.prog .quo 2 (.tmp 13) (.const (.int .i64 (.ofNat 2))) (dec v17) (dec ⟨3, 2, r0, []⟩)) v17 ⟨3, 2, r0, []⟩ fun v18 =>
q_flatW v12 (
q_flatW v18 (
(fun (v19 : W) =>
q_storeAW 2 h5 v4 v19 fun h20 =>
q_loadAW 2 h20 v4 fun v21 =>
q_killVW v1 h20 fun h22 =>
K v21 h22 c6) ⟨15, 0, r0, [v12, v18]⟩))
theorem R48_eq (Q : PrimW) (fu : Nat) (call : CallW) : curryA 1 (fnK Q Try.prog tys stl fu call e48) = R48 Q.addW Q.subW Q.quoW Q.fadW Q.killVW Q.loadSW Q.loadAW Q.storeAW Q.allocW Q.boxW Q.flatW fu call := by kernel_rfl
noncomputable def n48 : List W → HW → Nat → KW → Bool := appF 1 (R48 addW subW quoW fadW killVW loadSW loadAW storeAW allocW boxW flatW 1000000 d0.fn)
theorem n48_ok : FnGood Try.prog tys stl tab 48 n48 := node_ok d0_ok (by kernel_rfl) rfl g48 (R48_eq real _ _)
/- (foghorn/points.set).point -/
noncomputable def R59 (q_genW : Option CV → (W → Bool) → Bool) (q_subW : Nat → Nat → Option CV → W → W → (W → Bool) → Bool) (q_mulW : Nat → Nat → Option CV → W → W → (W → Bool) → Bool) (q_fadW : Nat → W → (W → Bool) → Bool) (q_killVW : W → HW → (HW → Bool) → Bool) (q_loadSW : HW → W → (W → Bool) → Bool) (q_boxW : HW → Nat → W → KW → Bool) (fu : Nat) (call : CallW) (a0 : W) (a1 : W) (a2 : W) (h0 : HW) (c0 : Nat) (K : KW) : Bool :=
q_boxW h0 c0 a0 fun v1 h2 c3 =>
q_mulW 3 9223372036854775807 (binC Try.prog .mul 3 (.const (.int .i64 (.ofNat 2))) (.tmp 7) (dec ⟨3, 2, r0, []⟩) (dec a1)) ⟨3, 2, r0, []⟩ a1 fun v4 =>
q_fadW 1 v1 fun v5 =>
q_loadSW h2 v5 fun v6 =>
q_subW 3 9223372036854775807 (binC Try.prog .sub 3 (.tmp 8) (.tmp 10) (dec v4) (dec v6)) v4 v6 fun v7 =>
q_genW (convC Try.prog tys ⟨[], 0, decH h2, 0⟩ 3 32 (dec v7)) fun v8 =>
q_mulW 3 9223372036854775807 (binC Try.prog .mul 3 (.const (.int .i64 (.ofNat 2))) (.tmp 13) (dec ⟨3, 2, r0, []⟩) (dec a2)) ⟨3, 2, r0, []⟩ a2 fun v9 =>
q_fadW 1 v1 fun v10 =>
q_loadSW h2 v10 fun v11 =>
q_subW 3 9223372036854775807 (binC Try.prog .sub 3 (.tmp 14) (.tmp 16) (dec v9) (dec v11)) v9 v11 fun v12 =>
q_genW (convC Try.prog tys ⟨[], 0, decH h2, 0⟩ 3 32 (dec v12)) fun v13 =>
q_genW (two2 Try.prog (dec v8) (dec v13) fun v u => Builtin.complex_ #[32, 32] 31 #[v, u]) fun v14 =>
q_killVW v1 h2 fun h15 =>
K v14 h15 c3
theorem R59_eq (Q : PrimW) (fu : Nat) (call : CallW) : curryA 3 (fnK Q Try.prog tys stl fu call e59) = R59 Q.genW Q.subW Q.mulW Q.fadW Q.killVW Q.loadSW Q.boxW fu call := by kernel_rfl
noncomputable def n59 : List W → HW → Nat → KW → Bool := appF 3 (R59 genW subW mulW fadW killVW loadSW boxW 1000000 d0.fn)
theorem n59_ok : FnGood Try.prog tys stl tab 59 n59 := node_ok d0_ok (by kernel_rfl) rfl g59 (R59_eq real _ _)
noncomputable def n63 : List W → HW → Nat → KW → Bool := extN Try.prog 63
theorem n63_ok : FnGood Try.prog tys stl tab 63 n63 := ext_ok (e := e63) (by kernel_rfl) rfl
noncomputable def n64 : List W → HW → Nat → KW → Bool := extN Try.prog 64
theorem n64_ok : FnGood Try.prog tys stl tab 64 n64 := ext_ok (e := e64) (by kernel_rfl) rfl
noncomputable def n65 : List W → HW → Nat → KW → Bool := extN Try.prog 65
theorem n65_ok : FnGood Try.prog tys stl tab 65 n65 := ext_ok (e := e65) (by kernel_rfl) rfl
/- foghorn/bits.isGray -/
noncomputable def R72 (q_share : (α : Type) → α → (α → Bool) → Bool) (q_cmpW : (Nat → Nat → Bool) → Nat → Option CV → W → W → (W → Bool) → Bool) (q_guardW : Bool → W → Bool → Bool → Bool) (q_pickW : W → W → W → (W → Bool) → Bool) (fu : Nat) (call : CallW) (a0 : W) (h0 : HW) (c0 : Nat) (K : KW) : Bool :=
q_cmpW (cmpF2 .geq) 3 (binC Try.prog .geq 3 (.tmp 3) (.const (.int .i64 (.ofNat 0))) (dec a0) (dec ⟨3, 0, r0, []⟩)) a0 ⟨3, 0, r0, []⟩ fun v1 =>
q_share _ (fun (v3 : W) (h4 : HW) (c5 : Nat) =>
q_share _ (fun (v7 : W) (h8 : HW) (c9 : Nat) =>
q_pickW v1 v7 ⟨8, 0, r0, []⟩ fun v10 =>
K v10 h8 c9) fun f6 =>
q_guardW true v1 (q_cmpW (cmpF2 .lss) 3 (binC Try.prog .lss 3 (.tmp 6) (.const (.int .i64 (.ofNat 65536))) (dec v3) (dec ⟨3, 65536, r0, []⟩)) v3 ⟨3, 65536, r0, []⟩ fun v11 =>
f6 v11 h4 c5) (f6 wUnd h4 c5)) fun f2 =>
q_guardW true v1 (f2 a0 h0 c0) (f2 wUnd h0 c0)
theorem R72_eq (Q : PrimW) (fu : Nat) (call : CallW) : curryA 1 (fnK Q Try.prog tys stl fu call e72) = R72 Q.share Q.cmpW Q.guardW Q.pickW fu call := by kernel_rfl
noncomputable def n72 : List W → HW → Nat → KW → Bool := appF 1 (R72 (fun _ x f => f x) cmpW guardW pickW 1000000 d0.fn)
theorem n72_ok : FnGood Try.prog tys stl tab 72 n72 := node_ok d0_ok (by kernel_rfl) rfl g72 (R72_eq real _ _)
noncomputable def d1 : Disp := (.node 42 n42 (.node 27 n27 (.node 15 n15 (.node 12 n12 (.node 7 n7 .leaf .leaf) .leaf) (.node 23 n23 (.node 17 n17 .leaf .leaf) .leaf)) (.node 38 n38 (.node 37 n37 (.node 36 n36 .leaf .leaf) .leaf) (.node 40 n40 (.node 39 n39 .leaf .leaf) .leaf))) (.node 59 n59 (.node 46 n46 (.node 45 n45 (.node 43 n43 .leaf .leaf) .leaf) (.node 48 n48 (.node 47 n47 .leaf .leaf) .leaf)) (.node 65 n65 (.node 64 n64 (.node 63 n63 .leaf .leaf) .leaf) (.node 72 n72 .leaf .leaf))))
theorem d1_ok : CallSim Try.prog tys stl tab d1.fn := Disp.sim ⟨n42_ok, ⟨n27_ok, ⟨n15_ok, ⟨n12_ok, ⟨n7_ok, True.intro, True.intro⟩, True.intro⟩, ⟨n23_ok, ⟨n17_ok, True.intro, True.intro⟩, True.intro⟩⟩, ⟨n38_ok, ⟨n37_ok, ⟨n36_ok, True.intro, True.intro⟩, True.intro⟩, ⟨n40_ok, ⟨n39_ok, True.intro, True.intro⟩, True.intro⟩⟩⟩, ⟨n59_ok, ⟨n46_ok, ⟨n45_ok, ⟨n43_ok, True.intro, True.intro⟩, True.intro⟩, ⟨n48_ok, ⟨n47_ok, True.intro, True.intro⟩, True.intro⟩⟩, ⟨n65_ok, ⟨n64_ok, ⟨n63_ok, True.intro, True.intro⟩, True.intro⟩, ⟨n72_ok, True.intro, True.intro⟩⟩⟩⟩
/- foghorn/points.of -/
noncomputable def R28 (q_cmpW : (Nat → Nat → Bool) → Nat → Option CV → W → W → (W → Bool) → Bool) (q_condW : W → Bool → Bool → Bool) (q_loadAW : Nat → HW → W → (W → Bool) → Bool) (q_storeAW : Nat → HW → W → W → (HW → Bool) → Bool) (q_allocW : Trie W → Nat → Bool → HW → Nat → KW → Bool) (fu : Nat) (call : CallW) (a0 : W) (h0 : HW) (c0 : Nat) (K : KW) : Bool :=
q_allocW (allocT tys 51) 5 true h0 c0 fun v1 h2 c3 =>
q_cmpW (cmpF2 .eql) 3 (binC Try.prog .eql 3 (.tmp 4) (.const (.int .i64 (.ofNat 4))) (dec a0) (dec ⟨3, 4, r0, []⟩)) a0 ⟨3, 4, r0, []⟩ fun v4 =>
q_condW v4 (
call 37 [⟨3, 2, r0, []⟩, ⟨3, 1, r0, []⟩] h2 c3 fun v5 h6 c7 =>
q_storeAW 5 h6 v1 v5 fun h8 =>
q_loadAW 5 h8 v1 fun v9 =>
K ⟨13, 0, r0, [v9, ⟨8, 1, r0, []⟩]⟩ h8 c7) (
q_cmpW (cmpF2 .eql) 3 (binC Try.prog .eql 3 (.tmp 4) (.const (.int .i64 (.ofNat 16))) (dec a0) (dec ⟨3, 16, r0, []⟩)) a0 ⟨3, 16, r0, []⟩ fun v10 =>
q_condW v10 (
call 37 [⟨3, 4, r0, []⟩, ⟨3, 3, r0, []⟩] h2 c3 fun v11 h12 c13 =>
q_storeAW 5 h12 v1 v11 fun h14 =>
q_loadAW 5 h14 v1 fun v15 =>
K ⟨13, 0, r0, [v15, ⟨8, 1, r0, []⟩]⟩ h14 c13) (
q_cmpW (cmpF2 .eql) 3 (binC Try.prog .eql 3 (.tmp 4) (.const (.int .i64 (.ofNat 32))) (dec a0) (dec ⟨3, 32, r0, []⟩)) a0 ⟨3, 32, r0, []⟩ fun v16 =>
q_condW v16 (
call 38 [⟨3, 5, r0, []⟩, ⟨3, 5, r0, []⟩, ⟨3, 1, r0, []⟩] h2 c3 fun v17 h18 c19 =>
q_storeAW 5 h18 v1 v17 fun h20 =>
q_loadAW 5 h20 v1 fun v21 =>
K ⟨13, 0, r0, [v21, ⟨8, 1, r0, []⟩]⟩ h20 c19) (
q_cmpW (cmpF2 .eql) 3 (binC Try.prog .eql 3 (.tmp 4) (.const (.int .i64 (.ofNat 64))) (dec a0) (dec ⟨3, 64, r0, []⟩)) a0 ⟨3, 64, r0, []⟩ fun v22 =>
q_condW v22 (
call 37 [⟨3, 6, r0, []⟩, ⟨3, 7, r0, []⟩] h2 c3 fun v23 h24 c25 =>
q_storeAW 5 h24 v1 v23 fun h26 =>
q_loadAW 5 h26 v1 fun v27 =>
K ⟨13, 0, r0, [v27, ⟨8, 1, r0, []⟩]⟩ h26 c25) (
q_cmpW (cmpF2 .eql) 3 (binC Try.prog .eql 3 (.tmp 4) (.const (.int .i64 (.ofNat 128))) (dec a0) (dec ⟨3, 128, r0, []⟩)) a0 ⟨3, 128, r0, []⟩ fun v28 =>
q_condW v28 (
call 38 [⟨3, 7, r0, []⟩, ⟨3, 11, r0, []⟩, ⟨3, 2, r0, []⟩] h2 c3 fun v29 h30 c31 =>
q_storeAW 5 h30 v1 v29 fun h32 =>
q_loadAW 5 h32 v1 fun v33 =>
K ⟨13, 0, r0, [v33, ⟨8, 1, r0, []⟩]⟩ h32 c31) (
q_cmpW (cmpF2 .eql) 3 (binC Try.prog .eql 3 (.tmp 4) (.const (.int .i64 (.ofNat 256))) (dec a0) (dec ⟨3, 256, r0, []⟩)) a0 ⟨3, 256, r0, []⟩ fun v34 =>
q_condW v34 (
call 37 [⟨3, 8, r0, []⟩, ⟨3, 15, r0, []⟩] h2 c3 fun v35 h36 c37 =>
q_storeAW 5 h36 v1 v35 fun h38 =>
q_loadAW 5 h38 v1 fun v39 =>
K ⟨13, 0, r0, [v39, ⟨8, 1, r0, []⟩]⟩ h38 c37) (
(fun (v40 : W) =>
q_storeAW 5 h2 v1 v40 fun h41 =>
q_loadAW 5 h41 v1 fun v42 =>
K ⟨13, 0, r0, [v42, ⟨8, 0, r0, []⟩]⟩ h41 c3) ⟨15, 0, r0, [⟨3, 0, r0, []⟩, ⟨3, 0, r0, []⟩, ⟨3, 0, r0, []⟩, ⟨12, 0, ⟨0, 0, 0, .nilf⟩, []⟩, ⟨12, 0, ⟨0, 0, 0, .nilf⟩, []⟩]⟩))))))
theorem R28_eq (Q : PrimW) (fu : Nat) (call : CallW) : curryA 1 (fnK Q Try.prog tys stl fu call e28) = R28 Q.cmpW Q.condW Q.loadAW Q.storeAW Q.allocW fu call := by kernel_rfl
noncomputable def n28 : List W → HW → Nat → KW → Bool := appF 1 (R28 cmpW condW loadAW storeAW allocW 1000000 d1.fn)
theorem n28_ok : FnGood Try.prog tys stl tab 28 n28 := node_ok d1_ok (by kernel_rfl) rfl g28 (R28_eq real _ _)
/- foghorn/bits.Words -/
noncomputable def R29 (q_share : (α : Type) → α → (α → Bool) → Bool) (q_genW : Option CV → (W → Bool) → Bool) (q_addW : Nat → Nat → Option CV → W → W → (W → Bool) → Bool) (q_mulW : Nat → Nat → Option CV → W → W → (W → Bool) → Bool) (q_quoW : Nat → Nat → Option CV → W → W → (W → Bool) → Bool) (q_remW : Nat → Nat → Option CV → W → W → (W → Bool) → Bool) (q_bitW : (Nat → Nat → Nat) → Nat → Nat → Option CV → W → W → (W → Bool) → Bool) (q_cmpW : (Nat → Nat → Bool) → Nat → Option CV → W → W → (W → Bool) → Bool) (q_shlW : Nat → Nat → Nat → Option CV → W → W → (W → Bool) → Bool) (q_notW : Option CV → W → (W → Bool) → Bool) (q_condW : W → Bool → Bool → Bool) (q_guardW : Bool → W → Bool → Bool → Bool) (q_pickW : W → W → W → (W → Bool) → Bool) (q_idxSW : Nat → W → W → (W → Bool) → Bool) (q_lenW : Option CV → W → (W → Bool) → Bool) (q_loadSW : HW → W → (W → Bool) → Bool) (q_storeSW : HW → W → W → (HW → Bool) → Bool) (q_makeSW : Nat → Nat → Nat → Kind → List W → Bool → HW → Nat → W → W → KW → Bool) (fu : Nat) (call : CallW) (a0 : W) (a1 : W) (h0 : HW) (c0 : Nat) (K : KW) : Bool :=
call 39 [a1] h0 c0 fun v1 h2 c3 =>
q_notW (two Try.prog (dec v1) (Op.unary .not)) v1 fun v4 =>
q_share _ (fun (v6 : W) (h7 : HW) (c8 : Nat) =>
q_share _ (fun (v10 : W) (h11 : HW) (c12 : Nat) =>
q_share _ (fun (v14 : W) (h15 : HW) (c16 : Nat) =>
q_pickW v4 ⟨8, 1, r0, []⟩ v14 fun v17 =>
q_share _ (fun (v19 : W) (h20 : HW) (c21 : Nat) =>
q_share _ (fun (v23 : W) (h24 : HW) (c25 : Nat) =>
q_share _ (fun (v27 : W) (h28 : HW) (c29 : Nat) =>
q_share _ (fun (v31 : W) (h32 : HW) (c33 : Nat) =>
q_share _ (fun (v35 : W) (h36 : HW) (c37 : Nat) =>
q_pickW v17 ⟨8, 1, r0, []⟩ v35 fun v38 =>
q_condW v38 (
K ⟨13, 0, r0, [⟨12, 0, ⟨0, 0, 0, .nils⟩, []⟩, ⟨3, 1, r0, []⟩]⟩ h36 c37) (
q_lenW (lenC tys 34 (dec a0)) a0 fun v39 =>
q_quoW 3 9223372036854775807 (binC Try.prog .quo 3 (.tmp 26) (.tmp 27) (dec v39) (dec a1)) v39 a1 fun v40 =>
q_makeSW 8 1 3 (.ints .i64) [⟨3, 0, r0, []⟩] true h36 c37 v40 v40 fun v41 h42 c43 =>
q_lenW (lenC tys 22 (dec v41)) v41 fun v44 =>
@Nat.rec (fun _ => Fun 1) (fun _ _ _ => false) (fun _ f48 v45 h46 c47 =>
q_cmpW (cmpF2 .lss) 3 (binC Try.prog .lss 3 (.tmp 32) (.tmp 31) (dec v45) (dec v44)) v45 v44 fun v49 =>
q_condW v49 (
q_mulW 3 9223372036854775807 (binC Try.prog .mul 3 (.tmp 36) (.tmp 37) (dec v45) (dec a1)) v45 a1 fun v50 =>
q_addW 3 9223372036854775807 (binC Try.prog .add 3 (.tmp 39) (.const (.int .i64 (.ofNat 1))) (dec v45) (dec ⟨3, 1, r0, []⟩)) v45 ⟨3, 1, r0, []⟩ fun v51 =>
q_mulW 3 9223372036854775807 (binC Try.prog .mul 3 (.tmp 40) (.tmp 41) (dec v51) (dec a1)) v51 a1 fun v52 =>
q_genW (sliceM tys ⟨[], 0, decH h46, 0⟩ 34 (dec a0) (some (dec v50)) (some (dec v52)) none) fun v53 =>
q_lenW (lenC tys 34 (dec v53)) v53 fun v54 =>
@Nat.rec (fun _ => Fun 1) (fun _ _ _ => false) (fun _ f58 v55 h56 c57 =>
q_cmpW (cmpF2 .lss) 3 (binC Try.prog .lss 3 (.tmp 45) (.tmp 44) (dec v55) (dec v54)) v55 v54 fun v59 =>
q_condW v59 (
q_share _ (fun  (h60 : HW) (c61 : Nat) =>
q_addW 3 9223372036854775807 (binC Try.prog .add 3 (.tmp 45) (.const (.int .i64 (.ofNat 1))) (dec v55) (dec ⟨3, 1, r0, []⟩)) v55 ⟨3, 1, r0, []⟩ fun v63 =>
f58 v63 h60 c61) fun f62 =>
q_idxSW 1 v53 v55 fun v64 =>
q_loadSW h56 v64 fun v65 =>
q_idxSW 1 v41 v45 fun v66 =>
q_loadSW h56 v66 fun v67 =>
q_shlW 3 9223372036854775807 64 (binC Try.prog .shl 3 (.tmp 52) (.const (.int .u64 (.ofNat 1))) (dec v67) (dec ⟨7, 1, r0, []⟩)) v67 ⟨7, 1, r0, []⟩ fun v68 =>
q_idxSW 1 v41 v45 fun v69 =>
q_storeSW h56 v69 v68 fun h70 =>
q_condW v65 (
q_idxSW 1 v41 v45 fun v71 =>
q_loadSW h70 v71 fun v72 =>
q_bitW Nat.lor 3 9223372036854775807 (binC Try.prog .or 3 (.tmp 59) (.const (.int .i64 (.ofNat 1))) (dec v72) (dec ⟨3, 1, r0, []⟩)) v72 ⟨3, 1, r0, []⟩ fun v73 =>
q_idxSW 1 v41 v45 fun v74 =>
q_storeSW h70 v74 v73 fun h75 =>
f62 h75 c57) (
f62 h70 c57)) (
q_addW 3 9223372036854775807 (binC Try.prog .add 3 (.tmp 32) (.const (.int .i64 (.ofNat 1))) (dec v45) (dec ⟨3, 1, r0, []⟩)) v45 ⟨3, 1, r0, []⟩ fun v76 =>
f48 v76 h56 c57)) fu ⟨3, 0, r0, []⟩ h46 c47) (
K ⟨13, 0, r0, [v41, ⟨3, 0, r0, []⟩]⟩ h46 c47)) fu ⟨3, 0, r0, []⟩ h42 c43)) fun f34 =>
q_guardW false v17 (q_cmpW (cmpF2 .neq) 3 (binC Try.prog .neq 3 (.tmp 22) (.const (.int .i64 (.ofNat 0))) (dec v31) (dec ⟨3, 0, r0, []⟩)) v31 ⟨3, 0, r0, []⟩ fun v77 =>
f34 v77 h32 c33) (f34 wUnd h32 c33)) fun f30 =>
q_guardW false v17 (q_remW 3 9223372036854775807 (binC Try.prog .rem 3 (.tmp 20) (.tmp 21) (dec v23) (dec v27)) v23 v27 fun v78 =>
f30 v78 h28 c29) (f30 wUnd h28 c29)) fun f26 =>
q_guardW false v17 (f26 a1 h24 c25) (f26 wUnd h24 c25)) fun f22 =>
q_guardW false v17 (q_lenW (lenC tys 34 (dec v19)) v19 fun v79 =>
f22 v79 h20 c21) (f22 wUnd h20 c21)) fun f18 =>
q_guardW false v17 (f18 a0 h15 c16) (f18 wUnd h15 c16)) fun f13 =>
q_guardW false v4 (q_notW (two Try.prog (dec v10) (Op.unary .not)) v10 fun v80 =>
f13 v80 h11 c12) (f13 wUnd h11 c12)) fun f9 =>
q_guardW false v4 (call 40 [v6] h7 c8 fun v81 h82 c83 =>
f9 v81 h82 c83) (f9 wUnd h7 c8)) fun f5 =>
q_guardW false v4 (f5 a0 h2 c3) (f5 wUnd h2 c3)
theorem R29_eq (Q : PrimW) (fu : Nat) (call : CallW) : curryA 2 (fnK Q Try.prog tys stl fu call e29) = R29 Q.share Q.genW Q.addW Q.mulW Q.quoW Q.remW Q.bitW Q.cmpW Q.shlW Q.notW Q.condW Q.guardW Q.pickW Q.idxSW Q.lenW Q.loadSW Q.storeSW Q.makeSW fu call := by kernel_rfl
noncomputable def n29 : List W → HW → Nat → KW → Bool := appF 2 (R29 (fun _ x f => f x) genW addW mulW quoW remW bitW cmpW shlW notW condW guardW pickW idxSW lenW loadSW storeSW makeSW 1000000 d1.fn)
theorem n29_ok : FnGood Try.prog tys stl tab 29 n29 := node_ok d1_ok (by kernel_rfl) rfl g29 (R29_eq real _ _)
/- foghorn/bits.Row -/
noncomputable def R31 (q_share : (α : Type) → α → (α → Bool) → Bool) (q_addW : Nat → Nat → Option CV → W → W → (W → Bool) → Bool) (q_mulW : Nat → Nat → Option CV → W → W → (W → Bool) → Bool) (q_quoW : Nat → Nat → Option CV → W → W → (W → Bool) → Bool) (q_cmpW : (Nat → Nat → Bool) → Nat → Option CV → W → W → (W → Bool) → Bool) (q_shlW : Nat → Nat → Nat → Option CV → W → W → (W → Bool) → Bool) (q_notW : Option CV → W → (W → Bool) → Bool) (q_condW : W → Bool → Bool → Bool) (q_guardW : Bool → W → Bool → Bool → Bool) (q_pickW : W → W → W → (W → Bool) → Bool) (q_idxSW : Nat → W → W → (W → Bool) → Bool) (q_lenW : Option CV → W → (W → Bool) → Bool) (q_loadSW : HW → W → (W → Bool) → Bool) (q_makeSW : Nat → Nat → Nat → Kind → List W → Bool → HW → Nat → W → W → KW → Bool) (fu : Nat) (call : CallW) (a0 : W) (a1 : W) (h0 : HW) (c0 : Nat) (K : KW) : Bool :=
call 39 [a1] h0 c0 fun v1 h2 c3 =>
q_notW (two Try.prog (dec v1) (Op.unary .not)) v1 fun v4 =>
q_share _ (fun (v6 : W) (h7 : HW) (c8 : Nat) =>
q_share _ (fun (v10 : W) (h11 : HW) (c12 : Nat) =>
q_share _ (fun (v14 : W) (h15 : HW) (c16 : Nat) =>
q_share _ (fun (v18 : W) (h19 : HW) (c20 : Nat) =>
q_share _ (fun (v22 : W) (h23 : HW) (c24 : Nat) =>
q_pickW v4 ⟨8, 1, r0, []⟩ v22 fun v25 =>
q_condW v25 (
K ⟨13, 0, r0, [⟨12, 0, ⟨0, 0, 0, .nils⟩, []⟩, ⟨3, 1, r0, []⟩]⟩ h23 c24) (
q_lenW (lenC tys 22 (dec a0)) a0 fun v26 =>
q_mulW 3 9223372036854775807 (binC Try.prog .mul 3 (.tmp 20) (.tmp 21) (dec v26) (dec a1)) v26 a1 fun v27 =>
q_makeSW 1 1 8 .bools [⟨8, 0, r0, []⟩] true h23 c24 ⟨3, 0, r0, []⟩ v27 fun v28 h29 c30 =>
q_lenW (lenC tys 22 (dec a0)) a0 fun v31 =>
@Nat.rec (fun _ => Fun 2) (fun _ _ _ _ => false) (fun _ f36 v32 v33 h34 c35 =>
q_cmpW (cmpF2 .lss) 3 (binC Try.prog .lss 3 (.tmp 26) (.tmp 25) (dec v33) (dec v31)) v33 v31 fun v37 =>
q_condW v37 (
q_idxSW 1 a0 v33 fun v38 =>
q_loadSW h34 v38 fun v39 =>
q_cmpW (cmpF2 .lss) 3 (binC Try.prog .lss 3 (.tmp 30) (.const (.int .i64 (.ofNat 0))) (dec v39) (dec ⟨3, 0, r0, []⟩)) v39 ⟨3, 0, r0, []⟩ fun v40 =>
q_share _ (fun (v42 : W) (h43 : HW) (c44 : Nat) =>
q_share _ (fun (v46 : W) (h47 : HW) (c48 : Nat) =>
q_share _ (fun (v50 : W) (h51 : HW) (c52 : Nat) =>
q_share _ (fun (v54 : W) (h55 : HW) (c56 : Nat) =>
q_pickW v40 ⟨8, 1, r0, []⟩ v54 fun v57 =>
q_condW v57 (
K ⟨13, 0, r0, [⟨12, 0, ⟨0, 0, 0, .nils⟩, []⟩, ⟨3, 1, r0, []⟩]⟩ h55 c56) (
call 43 [v32, v39, a1] h55 c56 fun v58 h59 c60 =>
q_addW 3 9223372036854775807 (binC Try.prog .add 3 (.tmp 26) (.const (.int .i64 (.ofNat 1))) (dec v33) (dec ⟨3, 1, r0, []⟩)) v33 ⟨3, 1, r0, []⟩ fun v61 =>
f36 v58 v61 h59 c60)) fun f53 =>
q_guardW false v40 (q_cmpW (cmpF2 .geq) 3 (binC Try.prog .geq 3 (.tmp 33) (.tmp 35) (dec v42) (dec v50)) v42 v50 fun v62 =>
f53 v62 h51 c52) (f53 wUnd h51 c52)) fun f49 =>
q_guardW false v40 (q_shlW 3 9223372036854775807 64 (binC Try.prog .shl 3 (.const (.int .i64 (.ofNat 1))) (.tmp 34) (dec ⟨3, 1, r0, []⟩) (dec v46)) ⟨3, 1, r0, []⟩ v46 fun v63 =>
f49 v63 h47 c48) (f49 wUnd h47 c48)) fun f45 =>
q_guardW false v40 (f45 a1 h43 c44) (f45 wUnd h43 c44)) fun f41 =>
q_guardW false v40 (f41 v39 h34 c35) (f41 wUnd h34 c35)) (
K ⟨13, 0, r0, [v32, ⟨3, 0, r0, []⟩]⟩ h34 c35)) fu v28 ⟨3, 0, r0, []⟩ h29 c30)) fun f21 =>
q_guardW false v4 (q_cmpW (cmpF2 .gtr) 3 (binC Try.prog .gtr 3 (.tmp 14) (.tmp 16) (dec v10) (dec v18)) v10 v18 fun v64 =>
f21 v64 h19 c20) (f21 wUnd h19 c20)) fun f17 =>
q_guardW false v4 (q_quoW 3 9223372036854775807 (binC Try.prog .quo 3 (.const (.int .i64 (.ofNat 32768))) (.tmp 15) (dec ⟨3, 32768, r0, []⟩) (dec v14)) ⟨3, 32768, r0, []⟩ v14 fun v65 =>
f17 v65 h15 c16) (f17 wUnd h15 c16)) fun f13 =>
q_guardW false v4 (f13 a1 h11 c12) (f13 wUnd h11 c12)) fun f9 =>
q_guardW false v4 (q_lenW (lenC tys 22 (dec v6)) v6 fun v66 =>
f9 v66 h7 c8) (f9 wUnd h7 c8)) fun f5 =>
q_guardW false v4 (f5 a0 h2 c3) (f5 wUnd h2 c3)
theorem R31_eq (Q : PrimW) (fu : Nat) (call : CallW) : curryA 2 (fnK Q Try.prog tys stl fu call e31) = R31 Q.share Q.addW Q.mulW Q.quoW Q.cmpW Q.shlW Q.notW Q.condW Q.guardW Q.pickW Q.idxSW Q.lenW Q.loadSW Q.makeSW fu call := by kernel_rfl
noncomputable def n31 : List W → HW → Nat → KW → Bool := appF 2 (R31 (fun _ x f => f x) addW mulW quoW cmpW shlW notW condW guardW pickW idxSW lenW loadSW makeSW 1000000 d1.fn)
theorem n31_ok : FnGood Try.prog tys stl tab 31 n31 := node_ok d1_ok (by kernel_rfl) rfl g31 (R31_eq real _ _)
/- (foghorn/plane.Gauss).Class -/
noncomputable def R33 (q_share : (α : Type) → α → (α → Bool) → Bool) (q_addW : Nat → Nat → Option CV → W → W → (W → Bool) → Bool) (q_subW : Nat → Nat → Option CV → W → W → (W → Bool) → Bool) (q_bitW : (Nat → Nat → Nat) → Nat → Nat → Option CV → W → W → (W → Bool) → Bool) (q_cmpW : (Nat → Nat → Bool) → Nat → Option CV → W → W → (W → Bool) → Bool) (q_shlW : Nat → Nat → Nat → Option CV → W → W → (W → Bool) → Bool) (q_notW : Option CV → W → (W → Bool) → Bool) (q_icvW : Nat → Nat → Option CV → W → (W → Bool) → Bool) (q_condW : W → Bool → Bool → Bool) (q_guardW : Bool → W → Bool → Bool → Bool) (q_pickW : W → W → W → (W → Bool) → Bool) (q_fadW : Nat → W → (W → Bool) → Bool) (q_killVW : W → HW → (HW → Bool) → Bool) (q_loadSW : HW → W → (W → Bool) → Bool) (q_loadAW : Nat → HW → W → (W → Bool) → Bool) (q_storeSW : HW → W → W → (HW → Bool) → Bool) (q_storeAW : Nat → HW → W → W → (HW → Bool) → Bool) (q_boxW : HW → Nat → W → KW → Bool) (fu : Nat) (call : CallW) (a0 : W) (a1 : W) (h0 : HW) (c0 : Nat) (K : KW) : Bool :=
q_boxW h0 c0 a0 fun v1 h2 c3 =>
q_loadAW 2 h2 v1 fun v4 =>
call 45 [v4] h2 c3 fun v5 h6 c7 =>
q_notW (two Try.prog (dec v5) (Op.unary .not)) v5 fun v8 =>
q_share _ (fun (v10 : W) (h11 : HW) (c12 : Nat) =>
q_share _ (fun (v14 : W) (h15 : HW) (c16 : Nat) =>
q_share _ (fun (v18 : W) (h19 : HW) (c20 : Nat) =>
q_pickW v8 ⟨8, 1, r0, []⟩ v18 fun v21 =>
q_condW v21 (
q_killVW v1 h19 fun h22 =>
K ⟨13, 0, r0, [⟨6, 0, r0, []⟩, ⟨3, 1, r0, []⟩]⟩ h22 c20) (
@Nat.rec (fun _ => Fun 2) (fun _ _ _ _ => false) (fun _ f27 v23 v24 h25 c26 =>
q_cmpW (cmpF2 .lss) 3 (binC Try.prog .lss 3 (.tmp 18) (.tmp 17) (dec v24) (dec a1)) v24 a1 fun v28 =>
q_condW v28 (
q_loadAW 2 h25 v1 fun v29 =>
call 47 [v29] h25 c26 fun v30 h31 c32 =>
q_icvW 6 4294967295 (convC Try.prog tys ⟨[], 0, decH h31, 0⟩ 2 63 (dec v30)) v30 fun v33 =>
q_shlW 6 4294967295 32 (binC Try.prog .shl 63 (.tmp 25) (.tmp 26) (dec v33) (dec v24)) v33 v24 fun v34 =>
q_bitW Nat.lor 6 4294967295 (binC Try.prog .or 63 (.tmp 23) (.tmp 27) (dec v23) (dec v34)) v23 v34 fun v35 =>
q_fadW 0 v1 fun v36 =>
q_loadSW h31 v36 fun v37 =>
q_subW 3 9223372036854775807 (binC Try.prog .sub 2 (.tmp 30) (.tmp 31) (dec v37) (dec v30)) v37 v30 fun v38 =>
q_fadW 0 v1 fun v39 =>
q_storeSW h31 v39 v38 fun h40 =>
q_loadAW 2 h40 v1 fun v41 =>
call 48 [v41] h40 c32 fun v42 h43 c44 =>
q_storeAW 2 h43 v1 v42 fun h45 =>
q_addW 3 9223372036854775807 (binC Try.prog .add 3 (.tmp 18) (.const (.int .i64 (.ofNat 1))) (dec v24) (dec ⟨3, 1, r0, []⟩)) v24 ⟨3, 1, r0, []⟩ fun v46 =>
f27 v35 v46 h45 c44) (
q_killVW v1 h25 fun h47 =>
K ⟨13, 0, r0, [v23, ⟨3, 0, r0, []⟩]⟩ h47 c26)) fu ⟨6, 0, r0, []⟩ ⟨3, 0, r0, []⟩ h19 c20)) fun f17 =>
q_guardW false v8 (q_notW (two Try.prog (dec v14) (Op.unary .not)) v14 fun v48 =>
f17 v48 h15 c16) (f17 wUnd h15 c16)) fun f13 =>
q_guardW false v8 (call 46 [v10] h11 c12 fun v49 h50 c51 =>
f13 v49 h50 c51) (f13 wUnd h11 c12)) fun f9 =>
q_guardW false v8 (f9 a1 h6 c7) (f9 wUnd h6 c7)
theorem R33_eq (Q : PrimW) (fu : Nat) (call : CallW) : curryA 2 (fnK Q Try.prog tys stl fu call e33) = R33 Q.share Q.addW Q.subW Q.bitW Q.cmpW Q.shlW Q.notW Q.icvW Q.condW Q.guardW Q.pickW Q.fadW Q.killVW Q.loadSW Q.loadAW Q.storeSW Q.storeAW Q.boxW fu call := by kernel_rfl
noncomputable def n33 : List W → HW → Nat → KW → Bool := appF 2 (R33 (fun _ x f => f x) addW subW bitW cmpW shlW notW icvW condW guardW pickW fadW killVW loadSW loadAW storeSW storeAW boxW 1000000 d1.fn)
theorem n33_ok : FnGood Try.prog tys stl tab 33 n33 := node_ok d1_ok (by kernel_rfl) rfl g33 (R33_eq real _ _)
/- math.Abs -/
noncomputable def R55 (q_genW : Option CV → (W → Bool) → Bool) (fu : Nat) (call : CallW) (a0 : W) (h0 : HW) (c0 : Nat) (K : KW) : Bool :=
call 64 [a0] h0 c0 fun v1 h2 c3 =>
q_genW (binC Try.prog .andNot 87 (.tmp 4) (.const (.int .u64 (.ofNat 9223372036854775808))) (dec v1) (dec ⟨7, 9223372036854775808, r0, []⟩)) fun v4 =>
call 63 [v4] h2 c3 fun v5 h6 c7 =>
K v5 h6 c7
theorem R55_eq (Q : PrimW) (fu : Nat) (call : CallW) : curryA 1 (fnK Q Try.prog tys stl fu call e55) = R55 Q.genW fu call := by kernel_rfl
noncomputable def n55 : List W → HW → Nat → KW → Bool := appF 1 (R55 genW 1000000 d1.fn)
theorem n55_ok : FnGood Try.prog tys stl tab 55 n55 := node_ok d1_ok (by kernel_rfl) rfl g55 (R55_eq real _ _)
/- (foghorn/points.set).rows -/
noncomputable def R62 (q_addW : Nat → Nat → Option CV → W → W → (W → Bool) → Bool) (q_subW : Nat → Nat → Option CV → W → W → (W → Bool) → Bool) (q_mulW : Nat → Nat → Option CV → W → W → (W → Bool) → Bool) (q_fadW : Nat → W → (W → Bool) → Bool) (q_detW : W → Bool → Bool) (q_killVW : W → HW → (HW → Bool) → Bool) (q_loadSW : HW → W → (W → Bool) → Bool) (q_loadAW : Nat → HW → W → (W → Bool) → Bool) (q_boxW : HW → Nat → W → KW → Bool) (q_samQW : W → W → Bool → Bool) (fu : Nat) (call : CallW) (a0 : W) (a1 : W) (h0 : HW) (c0 : Nat) (K : KW) : Bool :=
q_boxW h0 c0 a0 fun v1 h2 c3 =>
q_loadAW 5 h2 v1 fun v4 =>
q_fadW 1 v1 fun v5 =>
q_detW v5 (
q_loadSW h2 v5 fun v6 =>
q_addW 3 9223372036854775807 (binC Try.prog .add 3 (.tmp 6) (.const (.int .i64 (.ofNat 1))) (dec v6) (dec ⟨3, 1, r0, []⟩)) v6 ⟨3, 1, r0, []⟩ fun v7 =>
q_detW v7 (
call 42 [v4, a1] h2 c3 fun v8 h9 c10 =>
q_loadSW h9 v5 fun v11 =>
q_samQW v11 v6 (
q_mulW 3 9223372036854775807 (binC Try.prog .mul 3 (.const (.int .i64 (.ofNat 2))) (.tmp 10) (dec ⟨3, 2, r0, []⟩) (dec v8)) ⟨3, 2, r0, []⟩ v8 fun v12 =>
q_subW 3 9223372036854775807 (binC Try.prog .sub 3 (.tmp 7) (.tmp 11) (dec v7) (dec v12)) v7 v12 fun v13 =>
q_killVW v1 h9 fun h14 =>
K v13 h14 c10)))
theorem R62_eq (Q : PrimW) (fu : Nat) (call : CallW) : curryA 2 (fnK Q Try.prog tys stl fu call e62) = R62 Q.addW Q.subW Q.mulW Q.fadW Q.detW Q.killVW Q.loadSW Q.loadAW Q.boxW Q.samQW fu call := by kernel_rfl
noncomputable def n62 : List W → HW → Nat → KW → Bool := appF 2 (R62 addW subW mulW fadW detW killVW loadSW loadAW boxW samQW 1000000 d1.fn)
theorem n62_ok : FnGood Try.prog tys stl tab 62 n62 := node_ok d1_ok (by kernel_rfl) rfl g62 (R62_eq real _ _)
/- foghorn/bits.Ungray -/
noncomputable def R68 (q_bitW : (Nat → Nat → Nat) → Nat → Nat → Option CV → W → W → (W → Bool) → Bool) (q_cmpW : (Nat → Nat → Bool) → Nat → Option CV → W → W → (W → Bool) → Bool) (q_shlW : Nat → Nat → Nat → Option CV → W → W → (W → Bool) → Bool) (q_shrW : Nat → Nat → Option CV → W → W → (W → Bool) → Bool) (q_notW : Option CV → W → (W → Bool) → Bool) (q_condW : W → Bool → Bool → Bool) (fu : Nat) (call : CallW) (a0 : W) (h0 : HW) (c0 : Nat) (K : KW) : Bool :=
call 72 [a0] h0 c0 fun v1 h2 c3 =>
q_notW (two Try.prog (dec v1) (Op.unary .not)) v1 fun v4 =>
q_condW v4 (
K ⟨13, 0, r0, [⟨3, 0, r0, []⟩, ⟨3, 1, r0, []⟩]⟩ h2 c3) (
@Nat.rec (fun _ => Fun 2) (fun _ _ _ _ => false) (fun _ f9 v5 v6 h7 c8 =>
q_cmpW (cmpF2 .lss) 3 (binC Try.prog .lss 3 (.tmp 8) (.const (.int .i64 (.ofNat 16))) (dec v6) (dec ⟨3, 16, r0, []⟩)) v6 ⟨3, 16, r0, []⟩ fun v10 =>
q_condW v10 (
q_shrW 3 64 (binC Try.prog .shr 3 (.tmp 13) (.tmp 14) (dec v5) (dec v6)) v5 v6 fun v11 =>
q_bitW Nat.xor 3 9223372036854775807 (binC Try.prog .xor 3 (.tmp 12) (.tmp 15) (dec v5) (dec v11)) v5 v11 fun v12 =>
q_shlW 3 9223372036854775807 64 (binC Try.prog .shl 3 (.tmp 10) (.const (.int .u64 (.ofNat 1))) (dec v6) (dec ⟨7, 1, r0, []⟩)) v6 ⟨7, 1, r0, []⟩ fun v13 =>
f9 v12 v13 h7 c8) (
K ⟨13, 0, r0, [v5, ⟨3, 0, r0, []⟩]⟩ h7 c8)) fu a0 ⟨3, 1, r0, []⟩ h2 c3)
theorem R68_eq (Q : PrimW) (fu : Nat) (call : CallW) : curryA 1 (fnK Q Try.prog tys stl fu call e68) = R68 Q.bitW Q.cmpW Q.shlW Q.shrW Q.notW Q.condW fu call := by kernel_rfl
noncomputable def n68 : List W → HW → Nat → KW → Bool := appF 1 (R68 bitW cmpW shlW shrW notW condW 1000000 d1.fn)
theorem n68_ok : FnGood Try.prog tys stl tab 68 n68 := node_ok d1_ok (by kernel_rfl) rfl g68 (R68_eq real _ _)
/- foghorn/bits.Gray -/
noncomputable def R69 (q_bitW : (Nat → Nat → Nat) → Nat → Nat → Option CV → W → W → (W → Bool) → Bool) (q_shrW : Nat → Nat → Option CV → W → W → (W → Bool) → Bool) (q_notW : Option CV → W → (W → Bool) → Bool) (q_condW : W → Bool → Bool → Bool) (fu : Nat) (call : CallW) (a0 : W) (h0 : HW) (c0 : Nat) (K : KW) : Bool :=
call 72 [a0] h0 c0 fun v1 h2 c3 =>
q_notW (two Try.prog (dec v1) (Op.unary .not)) v1 fun v4 =>
q_condW v4 (
K ⟨13, 0, r0, [⟨3, 0, r0, []⟩, ⟨3, 1, r0, []⟩]⟩ h2 c3) (
q_shrW 3 64 (binC Try.prog .shr 3 (.tmp 8) (.const (.int .u64 (.ofNat 1))) (dec a0) (dec ⟨7, 1, r0, []⟩)) a0 ⟨7, 1, r0, []⟩ fun v5 =>
q_bitW Nat.xor 3 9223372036854775807 (binC Try.prog .xor 3 (.tmp 7) (.tmp 9) (dec a0) (dec v5)) a0 v5 fun v6 =>
K ⟨13, 0, r0, [v6, ⟨3, 0, r0, []⟩]⟩ h2 c3)
theorem R69_eq (Q : PrimW) (fu : Nat) (call : CallW) : curryA 1 (fnK Q Try.prog tys stl fu call e69) = R69 Q.bitW Q.shrW Q.notW Q.condW fu call := by kernel_rfl
noncomputable def n69 : List W → HW → Nat → KW → Bool := appF 1 (R69 bitW shrW notW condW 1000000 d1.fn)
theorem n69_ok : FnGood Try.prog tys stl tab 69 n69 := node_ok d1_ok (by kernel_rfl) rfl g69 (R69_eq real _ _)
/- math.Copysign -/
noncomputable def R70 (q_genW : Option CV → (W → Bool) → Bool) (q_bitW : (Nat → Nat → Nat) → Nat → Nat → Option CV → W → W → (W → Bool) → Bool) (fu : Nat) (call : CallW) (a0 : W) (a1 : W) (h0 : HW) (c0 : Nat) (K : KW) : Bool :=
call 64 [a0] h0 c0 fun v1 h2 c3 =>
q_genW (binC Try.prog .andNot 87 (.tmp 6) (.const (.int .u64 (.ofNat 9223372036854775808))) (dec v1) (dec ⟨7, 9223372036854775808, r0, []⟩)) fun v4 =>
call 64 [a1] h2 c3 fun v5 h6 c7 =>
q_bitW Nat.land 7 18446744073709551615 (binC Try.prog .and 87 (.tmp 9) (.const (.int .u64 (.ofNat 9223372036854775808))) (dec v5) (dec ⟨7, 9223372036854775808, r0, []⟩)) v5 ⟨7, 9223372036854775808, r0, []⟩ fun v8 =>
q_bitW Nat.lor 7 18446744073709551615 (binC Try.prog .or 87 (.tmp 7) (.tmp 10) (dec v4) (dec v8)) v4 v8 fun v9 =>
call 63 [v9] h6 c7 fun v10 h11 c12 =>
K v10 h11 c12
theorem R70_eq (Q : PrimW) (fu : Nat) (call : CallW) : curryA 2 (fnK Q Try.prog tys stl fu call e70) = R70 Q.genW Q.bitW fu call := by kernel_rfl
noncomputable def n70 : List W → HW → Nat → KW → Bool := appF 2 (R70 genW bitW 1000000 d1.fn)
theorem n70_ok : FnGood Try.prog tys stl tab 70 n70 := node_ok d1_ok (by kernel_rfl) rfl g70 (R70_eq real _ _)
noncomputable def d2 : Disp := (.node 42 n42 (.node 29 n29 (.node 17 n17 (.node 12 n12 (.node 7 n7 .leaf .leaf) (.node 15 n15 .leaf .leaf)) (.node 27 n27 (.node 23 n23 .leaf .leaf) (.node 28 n28 .leaf .leaf))) (.node 37 n37 (.node 33 n33 (.node 31 n31 .leaf .leaf) (.node 36 n36 .leaf .leaf)) (.node 39 n39 (.node 38 n38 .leaf .leaf) (.node 40 n40 .leaf .leaf)))) (.node 62 n62 (.node 47 n47 (.node 45 n45 (.node 43 n43 .leaf .leaf) (.node 46 n46 .leaf .leaf)) (.node 55 n55 (.node 48 n48 .leaf .leaf) (.node 59 n59 .leaf .leaf))) (.node 68 n68 (.node 64 n64 (.node 63 n63 .leaf .leaf) (.node 65 n65 .leaf .leaf)) (.node 70 n70 (.node 69 n69 .leaf .leaf) (.node 72 n72 .leaf .leaf)))))
theorem d2_ok : CallSim Try.prog tys stl tab d2.fn := Disp.sim ⟨n42_ok, ⟨n29_ok, ⟨n17_ok, ⟨n12_ok, ⟨n7_ok, True.intro, True.intro⟩, ⟨n15_ok, True.intro, True.intro⟩⟩, ⟨n27_ok, ⟨n23_ok, True.intro, True.intro⟩, ⟨n28_ok, True.intro, True.intro⟩⟩⟩, ⟨n37_ok, ⟨n33_ok, ⟨n31_ok, True.intro, True.intro⟩, ⟨n36_ok, True.intro, True.intro⟩⟩, ⟨n39_ok, ⟨n38_ok, True.intro, True.intro⟩, ⟨n40_ok, True.intro, True.intro⟩⟩⟩⟩, ⟨n62_ok, ⟨n47_ok, ⟨n45_ok, ⟨n43_ok, True.intro, True.intro⟩, ⟨n46_ok, True.intro, True.intro⟩⟩, ⟨n55_ok, ⟨n48_ok, True.intro, True.intro⟩, ⟨n59_ok, True.intro, True.intro⟩⟩⟩, ⟨n68_ok, ⟨n64_ok, ⟨n63_ok, True.intro, True.intro⟩, ⟨n65_ok, True.intro, True.intro⟩⟩, ⟨n70_ok, ⟨n69_ok, True.intro, True.intro⟩, ⟨n72_ok, True.intro, True.intro⟩⟩⟩⟩⟩
/- foghorn/points.Bits -/
noncomputable def R9 (q_notW : Option CV → W → (W → Bool) → Bool) (q_condW : W → Bool → Bool → Bool) (q_fadW : Nat → W → (W → Bool) → Bool) (q_tupW : W → (List W → Bool) → Bool) (q_nthW : Nat → List W → (W → Bool) → Bool) (q_killVW : W → HW → (HW → Bool) → Bool) (q_loadSW : HW → W → (W → Bool) → Bool) (q_storeAW : Nat → HW → W → W → (HW → Bool) → Bool) (q_allocW : Trie W → Nat → Bool → HW → Nat → KW → Bool) (fu : Nat) (call : CallW) (a0 : W) (h0 : HW) (c0 : Nat) (K : KW) : Bool :=
call 28 [a0] h0 c0 fun v1 h2 c3 =>
q_tupW v1 fun l4 => q_nthW 0 l4 fun v5 =>
q_tupW v1 fun l6 => q_nthW 1 l6 fun v7 =>
q_allocW (allocT tys 51) 5 true h2 c3 fun v8 h9 c10 =>
q_storeAW 5 h9 v8 v5 fun h11 =>
q_notW (two Try.prog (dec v7) (Op.unary .not)) v7 fun v12 =>
q_condW v12 (
q_killVW v8 h11 fun h13 =>
K ⟨13, 0, r0, [⟨3, 0, r0, []⟩, ⟨3, 1, r0, []⟩]⟩ h13 c10) (
q_fadW 0 v8 fun v14 =>
q_loadSW h11 v14 fun v15 =>
q_killVW v8 h11 fun h16 =>
K ⟨13, 0, r0, [v15, ⟨3, 0, r0, []⟩]⟩ h16 c10)
theorem R9_eq (Q : PrimW) (fu : Nat) (call : CallW) : curryA 1 (fnK Q Try.prog tys stl fu call e9) = R9 Q.notW Q.condW Q.fadW Q.tupW Q.nthW Q.killVW Q.loadSW Q.storeAW Q.allocW fu call := by kernel_rfl
noncomputable def n9 : List W → HW → Nat → KW → Bool := appF 1 (R9 notW condW fadW tupW nthW killVW loadSW storeAW allocW 1000000 d2.fn)
theorem n9_ok : FnGood Try.prog tys stl tab 9 n9 := node_ok d2_ok (by kernel_rfl) rfl g9 (R9_eq real _ _)
/- foghorn/points.Edge -/
noncomputable def R11 (q_notW : Option CV → W → (W → Bool) → Bool) (q_condW : W → Bool → Bool → Bool) (q_fadW : Nat → W → (W → Bool) → Bool) (q_tupW : W → (List W → Bool) → Bool) (q_nthW : Nat → List W → (W → Bool) → Bool) (q_killVW : W → HW → (HW → Bool) → Bool) (q_loadSW : HW → W → (W → Bool) → Bool) (q_storeAW : Nat → HW → W → W → (HW → Bool) → Bool) (q_allocW : Trie W → Nat → Bool → HW → Nat → KW → Bool) (fu : Nat) (call : CallW) (a0 : W) (h0 : HW) (c0 : Nat) (K : KW) : Bool :=
call 28 [a0] h0 c0 fun v1 h2 c3 =>
q_tupW v1 fun l4 => q_nthW 0 l4 fun v5 =>
q_tupW v1 fun l6 => q_nthW 1 l6 fun v7 =>
q_allocW (allocT tys 51) 5 true h2 c3 fun v8 h9 c10 =>
q_storeAW 5 h9 v8 v5 fun h11 =>
q_notW (two Try.prog (dec v7) (Op.unary .not)) v7 fun v12 =>
q_condW v12 (
q_killVW v8 h11 fun h13 =>
K ⟨13, 0, r0, [⟨3, 0, r0, []⟩, ⟨3, 1, r0, []⟩]⟩ h13 c10) (
q_fadW 1 v8 fun v14 =>
q_loadSW h11 v14 fun v15 =>
q_killVW v8 h11 fun h16 =>
K ⟨13, 0, r0, [v15, ⟨3, 0, r0, []⟩]⟩ h16 c10)
theorem R11_eq (Q : PrimW) (fu : Nat) (call : CallW) : curryA 1 (fnK Q Try.prog tys stl fu call e11) = R11 Q.notW Q.condW Q.fadW Q.tupW Q.nthW Q.killVW Q.loadSW Q.storeAW Q.allocW fu call := by kernel_rfl
noncomputable def n11 : List W → HW → Nat → KW → Bool := appF 1 (R11 notW condW fadW tupW nthW killVW loadSW storeAW allocW 1000000 d2.fn)
theorem n11_ok : FnGood Try.prog tys stl tab 11 n11 := node_ok d2_ok (by kernel_rfl) rfl g11 (R11_eq real _ _)
/- foghorn/points.crossAt -/
noncomputable def R53 (q_addW : Nat → Nat → Option CV → W → W → (W → Bool) → Bool) (q_subW : Nat → Nat → Option CV → W → W → (W → Bool) → Bool) (q_cmpW : (Nat → Nat → Bool) → Nat → Option CV → W → W → (W → Bool) → Bool) (q_condW : W → Bool → Bool → Bool) (q_killVW : W → HW → (HW → Bool) → Bool) (q_loadAW : Nat → HW → W → (W → Bool) → Bool) (q_boxW : HW → Nat → W → KW → Bool) (q_samQW : W → W → Bool → Bool) (fu : Nat) (call : CallW) (a0 : W) (a1 : W) (h0 : HW) (c0 : Nat) (K : KW) : Bool :=
q_boxW h0 c0 a0 fun v1 h2 c3 =>
@Nat.rec (fun _ => Fun 2) (fun _ _ _ _ => false) (fun _ f8 v4 v5 h6 c7 =>
q_loadAW 5 h6 v1 fun v9 =>
call 62 [v9, v5] h6 c7 fun v10 h11 c12 =>
q_cmpW (cmpF2 .geq) 3 (binC Try.prog .geq 3 (.tmp 6) (.tmp 9) (dec v4) (dec v10)) v4 v10 fun v13 =>
q_condW v13 (
q_loadAW 5 h11 v1 fun v14 =>
call 62 [v14, v5] h11 c12 fun v15 h16 c17 =>
q_subW 3 9223372036854775807 (binC Try.prog .sub 3 (.tmp 11) (.tmp 14) (dec v4) (dec v15)) v4 v15 fun v18 =>
q_addW 3 9223372036854775807 (binC Try.prog .add 3 (.tmp 16) (.const (.int .i64 (.ofNat 1))) (dec v5) (dec ⟨3, 1, r0, []⟩)) v5 ⟨3, 1, r0, []⟩ fun v19 =>
f8 v18 v19 h16 c17) (
q_loadAW 5 h11 v1 fun v20 =>
q_loadAW 5 h11 v1 fun v21 =>
call 42 [v20, v5] h11 c12 fun v22 h23 c24 =>
q_loadAW 5 h23 v1 fun v25 =>
q_samQW v25 v21 (
q_addW 3 9223372036854775807 (binC Try.prog .add 3 (.tmp 22) (.tmp 23) (dec v22) (dec v4)) v22 v4 fun v26 =>
call 59 [v21, v5, v26] h23 c24 fun v27 h28 c29 =>
q_killVW v1 h28 fun h30 =>
K v27 h30 c29))) fu a1 ⟨3, 0, r0, []⟩ h2 c3
theorem R53_eq (Q : PrimW) (fu : Nat) (call : CallW) : curryA 2 (fnK Q Try.prog tys stl fu call e53) = R53 Q.addW Q.subW Q.cmpW Q.condW Q.killVW Q.loadAW Q.boxW Q.samQW fu call := by kernel_rfl
noncomputable def n53 : List W → HW → Nat → KW → Bool := appF 2 (R53 addW subW cmpW condW killVW loadAW boxW samQW 1000000 d2.fn)
theorem n53_ok : FnGood Try.prog tys stl tab 53 n53 := node_ok d2_ok (by kernel_rfl) rfl g53 (R53_eq real _ _)
/- foghorn/points.crossLabel -/
noncomputable def R54 (q_addW : Nat → Nat → Option CV → W → W → (W → Bool) → Bool) (q_subW : Nat → Nat → Option CV → W → W → (W → Bool) → Bool) (q_cmpW : (Nat → Nat → Bool) → Nat → Option CV → W → W → (W → Bool) → Bool) (q_condW : W → Bool → Bool → Bool) (q_killVW : W → HW → (HW → Bool) → Bool) (q_loadAW : Nat → HW → W → (W → Bool) → Bool) (q_boxW : HW → Nat → W → KW → Bool) (fu : Nat) (call : CallW) (a0 : W) (a1 : W) (a2 : W) (h0 : HW) (c0 : Nat) (K : KW) : Bool :=
q_boxW h0 c0 a0 fun v1 h2 c3 =>
q_loadAW 5 h2 v1 fun v4 =>
call 42 [v4, a1] h2 c3 fun v5 h6 c7 =>
q_subW 3 9223372036854775807 (binC Try.prog .sub 3 (.tmp 9) (.tmp 12) (dec a2) (dec v5)) a2 v5 fun v8 =>
@Nat.rec (fun _ => Fun 2) (fun _ _ _ _ => false) (fun _ f13 v9 v10 h11 c12 =>
q_cmpW (cmpF2 .lss) 3 (binC Try.prog .lss 3 (.tmp 15) (.tmp 14) (dec v10) (dec a1)) v10 a1 fun v14 =>
q_condW v14 (
q_loadAW 5 h11 v1 fun v15 =>
call 62 [v15, v10] h11 c12 fun v16 h17 c18 =>
q_addW 3 9223372036854775807 (binC Try.prog .add 3 (.tmp 18) (.tmp 21) (dec v9) (dec v16)) v9 v16 fun v19 =>
q_addW 3 9223372036854775807 (binC Try.prog .add 3 (.tmp 15) (.const (.int .i64 (.ofNat 1))) (dec v10) (dec ⟨3, 1, r0, []⟩)) v10 ⟨3, 1, r0, []⟩ fun v20 =>
f13 v19 v20 h17 c18) (
q_killVW v1 h11 fun h21 =>
K v9 h21 c12)) fu v8 ⟨3, 0, r0, []⟩ h6 c7
theorem R54_eq (Q : PrimW) (fu : Nat) (call : CallW) : curryA 3 (fnK Q Try.prog tys stl fu call e54) = R54 Q.addW Q.subW Q.cmpW Q.condW Q.killVW Q.loadAW Q.boxW fu call := by kernel_rfl
noncomputable def n54 : List W → HW → Nat → KW → Bool := appF 3 (R54 addW subW cmpW condW killVW loadAW boxW 1000000 d2.fn)
theorem n54_ok : FnGood Try.prog tys stl tab 54 n54 := node_ok d2_ok (by kernel_rfl) rfl g54 (R54_eq real _ _)
/- foghorn/points.ungray -/
noncomputable def R60 (q_tupW : W → (List W → Bool) → Bool) (q_nthW : Nat → List W → (W → Bool) → Bool) (fu : Nat) (call : CallW) (a0 : W) (h0 : HW) (c0 : Nat) (K : KW) : Bool :=
call 68 [a0] h0 c0 fun v1 h2 c3 =>
q_tupW v1 fun l4 => q_nthW 0 l4 fun v5 =>
q_tupW v1 fun l6 => q_nthW 1 l6 fun v7 =>
K v5 h2 c3
theorem R60_eq (Q : PrimW) (fu : Nat) (call : CallW) : curryA 1 (fnK Q Try.prog tys stl fu call e60) = R60 Q.tupW Q.nthW fu call := by kernel_rfl
noncomputable def n60 : List W → HW → Nat → KW → Bool := appF 1 (R60 tupW nthW 1000000 d2.fn)
theorem n60_ok : FnGood Try.prog tys stl tab 60 n60 := node_ok d2_ok (by kernel_rfl) rfl g60 (R60_eq real _ _)
/- foghorn/points.gray -/
noncomputable def R61 (q_tupW : W → (List W → Bool) → Bool) (q_nthW : Nat → List W → (W → Bool) → Bool) (fu : Nat) (call : CallW) (a0 : W) (h0 : HW) (c0 : Nat) (K : KW) : Bool :=
call 69 [a0] h0 c0 fun v1 h2 c3 =>
q_tupW v1 fun l4 => q_nthW 0 l4 fun v5 =>
q_tupW v1 fun l6 => q_nthW 1 l6 fun v7 =>
K v5 h2 c3
theorem R61_eq (Q : PrimW) (fu : Nat) (call : CallW) : curryA 1 (fnK Q Try.prog tys stl fu call e61) = R61 Q.tupW Q.nthW fu call := by kernel_rfl
noncomputable def n61 : List W → HW → Nat → KW → Bool := appF 1 (R61 tupW nthW 1000000 d2.fn)
theorem n61_ok : FnGood Try.prog tys stl tab 61 n61 := node_ok d2_ok (by kernel_rfl) rfl g61 (R61_eq real _ _)
/- math.trunc -/
noncomputable def R66 (q_share : (α : Type) → α → (α → Bool) → Bool) (q_genW : Option CV → (W → Bool) → Bool) (q_subW : Nat → Nat → Option CV → W → W → (W → Bool) → Bool) (q_bitW : (Nat → Nat → Nat) → Nat → Nat → Option CV → W → W → (W → Bool) → Bool) (q_cmpW : (Nat → Nat → Bool) → Nat → Option CV → W → W → (W → Bool) → Bool) (q_shlW : Nat → Nat → Nat → Option CV → W → W → (W → Bool) → Bool) (q_shrW : Nat → Nat → Option CV → W → W → (W → Bool) → Bool) (q_condW : W → Bool → Bool → Bool) (fu : Nat) (call : CallW) (a0 : W) (h0 : HW) (c0 : Nat) (K : KW) : Bool :=
call 55 [a0] h0 c0 fun v1 h2 c3 =>
q_genW (binC Try.prog .lss 32 (.tmp 6) (.const (.float .f64 4607182418800017408)) (dec v1) (dec ⟨12, 0, ⟨0, 0, 0, .flt .f64 4607182418800017408⟩, []⟩)) fun v4 =>
q_condW v4 (
call 70 [⟨12, 0, ⟨0, 0, 0, .flt .f64 0⟩, []⟩, a0] h2 c3 fun v5 h6 c7 =>
K v5 h6 c7) (
call 64 [a0] h2 c3 fun v8 h9 c10 =>
q_shrW 7 64 (binC Try.prog .shr 87 (.tmp 12) (.const (.int .u64 (.ofNat 52))) (dec v8) (dec ⟨7, 52, r0, []⟩)) v8 ⟨7, 52, r0, []⟩ fun v11 =>
q_bitW Nat.land 7 18446744073709551615 (binC Try.prog .and 47 (.tmp 13) (.const (.int .u64 (.ofNat 2047))) (dec v11) (dec ⟨7, 2047, r0, []⟩)) v11 ⟨7, 2047, r0, []⟩ fun v12 =>
q_subW 7 18446744073709551615 (binC Try.prog .sub 47 (.tmp 14) (.const (.int .u64 (.ofNat 1023))) (dec v12) (dec ⟨7, 1023, r0, []⟩)) v12 ⟨7, 1023, r0, []⟩ fun v13 =>
q_share _ (fun (v14 : W) (h15 : HW) (c16 : Nat) =>
call 63 [v14] h15 c16 fun v18 h19 c20 =>
K v18 h19 c20) fun f17 =>
q_cmpW (cmpF2 .lss) 7 (binC Try.prog .lss 47 (.tmp 16) (.const (.int .u64 (.ofNat 52))) (dec v13) (dec ⟨7, 52, r0, []⟩)) v13 ⟨7, 52, r0, []⟩ fun v21 =>
q_condW v21 (
q_subW 7 18446744073709551615 (binC Try.prog .sub 47 (.const (.int .u64 (.ofNat 52))) (.tmp 19) (dec ⟨7, 52, r0, []⟩) (dec v13)) ⟨7, 52, r0, []⟩ v13 fun v22 =>
q_shlW 7 18446744073709551615 64 (binC Try.prog .shl 87 (.const (.int .u64 (.ofNat 1))) (.tmp 20) (dec ⟨7, 1, r0, []⟩) (dec v22)) ⟨7, 1, r0, []⟩ v22 fun v23 =>
q_subW 7 18446744073709551615 (binC Try.prog .sub 87 (.tmp 21) (.const (.int .u64 (.ofNat 1))) (dec v23) (dec ⟨7, 1, r0, []⟩)) v23 ⟨7, 1, r0, []⟩ fun v24 =>
q_genW (binC Try.prog .andNot 87 (.tmp 18) (.tmp 22) (dec v8) (dec v24)) fun v25 =>
f17 v25 h9 c10) (
f17 v8 h9 c10))
theorem R66_eq (Q : PrimW) (fu : Nat) (call : CallW) : curryA 1 (fnK Q Try.prog tys stl fu call e66) = R66 Q.share Q.genW Q.subW Q.bitW Q.cmpW Q.shlW Q.shrW Q.condW fu call := by kernel_rfl
noncomputable def n66 : List W → HW → Nat → KW → Bool := appF 1 (R66 (fun _ x f => f x) genW subW bitW cmpW shlW shrW condW 1000000 d2.fn)
theorem n66_ok : FnGood Try.prog tys stl tab 66 n66 := node_ok d2_ok (by kernel_rfl) rfl g66 (R66_eq real _ _)
noncomputable def d3 : Disp := (.node 45 n45 (.node 29 n29 (.node 15 n15 (.node 11 n11 (.node 9 n9 (.node 7 n7 .leaf .leaf) .leaf) (.node 12 n12 .leaf .leaf)) (.node 27 n27 (.node 23 n23 (.node 17 n17 .leaf .leaf) .leaf) (.node 28 n28 .leaf .leaf))) (.node 38 n38 (.node 36 n36 (.node 33 n33 (.node 31 n31 .leaf .leaf) .leaf) (.node 37 n37 .leaf .leaf)) (.node 42 n42 (.node 40 n40 (.node 39 n39 .leaf .leaf) .leaf) (.node 43 n43 .leaf .leaf)))) (.node 62 n62 (.node 54 n54 (.node 48 n48 (.node 47 n47 (.node 46 n46 .leaf .leaf) .leaf) (.node 53 n53 .leaf .leaf)) (.node 60 n60 (.node 59 n59 (.node 55 n55 .leaf .leaf) .leaf) (.node 61 n61 .leaf .leaf))) (.node 68 n68 (.node 65 n65 (.node 64 n64 (.node 63 n63 .leaf .leaf) .leaf) (.node 66 n66 .leaf .leaf)) (.node 70 n70 (.node 69 n69 .leaf .leaf) (.node 72 n72 .leaf .leaf)))))
theorem d3_ok : CallSim Try.prog tys stl tab d3.fn := Disp.sim ⟨n45_ok, ⟨n29_ok, ⟨n15_ok, ⟨n11_ok, ⟨n9_ok, ⟨n7_ok, True.intro, True.intro⟩, True.intro⟩, ⟨n12_ok, True.intro, True.intro⟩⟩, ⟨n27_ok, ⟨n23_ok, ⟨n17_ok, True.intro, True.intro⟩, True.intro⟩, ⟨n28_ok, True.intro, True.intro⟩⟩⟩, ⟨n38_ok, ⟨n36_ok, ⟨n33_ok, ⟨n31_ok, True.intro, True.intro⟩, True.intro⟩, ⟨n37_ok, True.intro, True.intro⟩⟩, ⟨n42_ok, ⟨n40_ok, ⟨n39_ok, True.intro, True.intro⟩, True.intro⟩, ⟨n43_ok, True.intro, True.intro⟩⟩⟩⟩, ⟨n62_ok, ⟨n54_ok, ⟨n48_ok, ⟨n47_ok, ⟨n46_ok, True.intro, True.intro⟩, True.intro⟩, ⟨n53_ok, True.intro, True.intro⟩⟩, ⟨n60_ok, ⟨n59_ok, ⟨n55_ok, True.intro, True.intro⟩, True.intro⟩, ⟨n61_ok, True.intro, True.intro⟩⟩⟩, ⟨n68_ok, ⟨n65_ok, ⟨n64_ok, ⟨n63_ok, True.intro, True.intro⟩, True.intro⟩, ⟨n66_ok, True.intro, True.intro⟩⟩, ⟨n70_ok, ⟨n69_ok, True.intro, True.intro⟩, ⟨n72_ok, True.intro, True.intro⟩⟩⟩⟩⟩
/- foghorn/points.squareAt -/
noncomputable def R51 (q_subW : Nat → Nat → Option CV → W → W → (W → Bool) → Bool) (q_quoW : Nat → Nat → Option CV → W → W → (W → Bool) → Bool) (q_bitW : (Nat → Nat → Nat) → Nat → Nat → Option CV → W → W → (W → Bool) → Bool) (q_shlW : Nat → Nat → Nat → Option CV → W → W → (W → Bool) → Bool) (q_shrW : Nat → Nat → Option CV → W → W → (W → Bool) → Bool) (q_fadW : Nat → W → (W → Bool) → Bool) (q_knownW : W → Bool → Bool) (q_killVW : W → HW → (HW → Bool) → Bool) (q_loadSW : HW → W → (W → Bool) → Bool) (q_loadAW : Nat → HW → W → (W → Bool) → Bool) (q_boxW : HW → Nat → W → KW → Bool) (fu : Nat) (call : CallW) (a0 : W) (a1 : W) (h0 : HW) (c0 : Nat) (K : KW) : Bool :=
q_boxW h0 c0 a0 fun v1 h2 c3 =>
q_fadW 0 v1 fun v4 =>
q_loadSW h2 v4 fun v5 =>
q_quoW 3 9223372036854775807 (binC Try.prog .quo 3 (.tmp 7) (.const (.int .i64 (.ofNat 2))) (dec v5) (dec ⟨3, 2, r0, []⟩)) v5 ⟨3, 2, r0, []⟩ fun v6 =>
q_loadAW 5 h2 v1 fun v7 =>
q_shrW 3 64 (binC Try.prog .shr 3 (.tmp 10) (.tmp 11) (dec a1) (dec v6)) a1 v6 fun v8 =>
call 60 [v8] h2 c3 fun v9 _ _ => q_knownW v9 (
q_shlW 3 9223372036854775807 64 (binC Try.prog .shl 3 (.const (.int .i64 (.ofNat 1))) (.tmp 15) (dec ⟨3, 1, r0, []⟩) (dec v6)) ⟨3, 1, r0, []⟩ v6 fun v10 =>
q_subW 3 9223372036854775807 (binC Try.prog .sub 3 (.tmp 16) (.const (.int .i64 (.ofNat 1))) (dec v10) (dec ⟨3, 1, r0, []⟩)) v10 ⟨3, 1, r0, []⟩ fun v11 =>
q_bitW Nat.land 3 9223372036854775807 (binC Try.prog .and 3 (.tmp 14) (.tmp 17) (dec a1) (dec v11)) a1 v11 fun v12 =>
call 60 [v12] h2 c3 fun v13 _ _ => q_knownW v13 (
call 59 [v7, v9, v13] h2 c3 fun v14 h15 c16 =>
q_killVW v1 h15 fun h17 =>
K v14 h17 c16))
theorem R51_eq (Q : PrimW) (fu : Nat) (call : CallW) : curryA 2 (fnK Q Try.prog tys stl fu call e51) = R51 Q.subW Q.quoW Q.bitW Q.shlW Q.shrW Q.fadW Q.knownW Q.killVW Q.loadSW Q.loadAW Q.boxW fu call := by kernel_rfl
noncomputable def n51 : List W → HW → Nat → KW → Bool := appF 2 (R51 subW quoW bitW shlW shrW fadW knownW killVW loadSW loadAW boxW 1000000 d3.fn)
theorem n51_ok : FnGood Try.prog tys stl tab 51 n51 := node_ok d3_ok (by kernel_rfl) rfl g51 (R51_eq real _ _)
/- foghorn/points.squareLabel -/
noncomputable def R52 (q_quoW : Nat → Nat → Option CV → W → W → (W → Bool) → Bool) (q_bitW : (Nat → Nat → Nat) → Nat → Nat → Option CV → W → W → (W → Bool) → Bool) (q_shlW : Nat → Nat → Nat → Option CV → W → W → (W → Bool) → Bool) (q_fadW : Nat → W → (W → Bool) → Bool) (q_knownW : W → Bool → Bool) (q_killVW : W → HW → (HW → Bool) → Bool) (q_loadSW : HW → W → (W → Bool) → Bool) (q_boxW : HW → Nat → W → KW → Bool) (fu : Nat) (call : CallW) (a0 : W) (a1 : W) (a2 : W) (h0 : HW) (c0 : Nat) (K : KW) : Bool :=
q_boxW h0 c0 a0 fun v1 h2 c3 =>
call 61 [a1] h2 c3 fun v4 _ _ => q_knownW v4 (
q_fadW 0 v1 fun v5 =>
q_loadSW h2 v5 fun v6 =>
q_quoW 3 9223372036854775807 (binC Try.prog .quo 3 (.tmp 10) (.const (.int .i64 (.ofNat 2))) (dec v6) (dec ⟨3, 2, r0, []⟩)) v6 ⟨3, 2, r0, []⟩ fun v7 =>
q_shlW 3 9223372036854775807 64 (binC Try.prog .shl 3 (.tmp 8) (.tmp 11) (dec v4) (dec v7)) v4 v7 fun v8 =>
call 61 [a2] h2 c3 fun v9 _ _ => q_knownW v9 (
q_bitW Nat.lor 3 9223372036854775807 (binC Try.prog .or 3 (.tmp 12) (.tmp 14) (dec v8) (dec v9)) v8 v9 fun v10 =>
q_killVW v1 h2 fun h11 =>
K v10 h11 c3))
theorem R52_eq (Q : PrimW) (fu : Nat) (call : CallW) : curryA 3 (fnK Q Try.prog tys stl fu call e52) = R52 Q.quoW Q.bitW Q.shlW Q.fadW Q.knownW Q.killVW Q.loadSW Q.boxW fu call := by kernel_rfl
noncomputable def n52 : List W → HW → Nat → KW → Bool := appF 3 (R52 quoW bitW shlW fadW knownW killVW loadSW boxW 1000000 d3.fn)
theorem n52_ok : FnGood Try.prog tys stl tab 52 n52 := node_ok d3_ok (by kernel_rfl) rfl g52 (R52_eq real _ _)
/- math.Trunc -/
noncomputable def R56 (q_condW : W → Bool → Bool → Bool) (fu : Nat) (call : CallW) (a0 : W) (h0 : HW) (c0 : Nat) (K : KW) : Bool :=
q_condW ⟨8, 1, r0, []⟩ (
call 65 [a0] h0 c0 fun v1 h2 c3 =>
K v1 h2 c3) (
call 66 [a0] h0 c0 fun v4 h5 c6 =>
K v4 h5 c6)
theorem R56_eq (Q : PrimW) (fu : Nat) (call : CallW) : curryA 1 (fnK Q Try.prog tys stl fu call e56) = R56 Q.condW fu call := by kernel_rfl
noncomputable def n56 : List W → HW → Nat → KW → Bool := appF 1 (R56 condW 1000000 d3.fn)
theorem n56_ok : FnGood Try.prog tys stl tab 56 n56 := node_ok d3_ok (by kernel_rfl) rfl g56 (R56_eq real _ _)
noncomputable def d4 : Disp := (.node 46 n46 (.node 31 n31 (.node 17 n17 (.node 11 n11 (.node 9 n9 (.node 7 n7 .leaf .leaf) .leaf) (.node 15 n15 (.node 12 n12 .leaf .leaf) .leaf)) (.node 28 n28 (.node 27 n27 (.node 23 n23 .leaf .leaf) .leaf) (.node 29 n29 .leaf .leaf))) (.node 39 n39 (.node 37 n37 (.node 36 n36 (.node 33 n33 .leaf .leaf) .leaf) (.node 38 n38 .leaf .leaf)) (.node 43 n43 (.node 42 n42 (.node 40 n40 .leaf .leaf) .leaf) (.node 45 n45 .leaf .leaf)))) (.node 61 n61 (.node 54 n54 (.node 51 n51 (.node 48 n48 (.node 47 n47 .leaf .leaf) .leaf) (.node 53 n53 (.node 52 n52 .leaf .leaf) .leaf)) (.node 59 n59 (.node 56 n56 (.node 55 n55 .leaf .leaf) .leaf) (.node 60 n60 .leaf .leaf))) (.node 66 n66 (.node 64 n64 (.node 63 n63 (.node 62 n62 .leaf .leaf) .leaf) (.node 65 n65 .leaf .leaf)) (.node 70 n70 (.node 69 n69 (.node 68 n68 .leaf .leaf) .leaf) (.node 72 n72 .leaf .leaf)))))
theorem d4_ok : CallSim Try.prog tys stl tab d4.fn := Disp.sim ⟨n46_ok, ⟨n31_ok, ⟨n17_ok, ⟨n11_ok, ⟨n9_ok, ⟨n7_ok, True.intro, True.intro⟩, True.intro⟩, ⟨n15_ok, ⟨n12_ok, True.intro, True.intro⟩, True.intro⟩⟩, ⟨n28_ok, ⟨n27_ok, ⟨n23_ok, True.intro, True.intro⟩, True.intro⟩, ⟨n29_ok, True.intro, True.intro⟩⟩⟩, ⟨n39_ok, ⟨n37_ok, ⟨n36_ok, ⟨n33_ok, True.intro, True.intro⟩, True.intro⟩, ⟨n38_ok, True.intro, True.intro⟩⟩, ⟨n43_ok, ⟨n42_ok, ⟨n40_ok, True.intro, True.intro⟩, True.intro⟩, ⟨n45_ok, True.intro, True.intro⟩⟩⟩⟩, ⟨n61_ok, ⟨n54_ok, ⟨n51_ok, ⟨n48_ok, ⟨n47_ok, True.intro, True.intro⟩, True.intro⟩, ⟨n53_ok, ⟨n52_ok, True.intro, True.intro⟩, True.intro⟩⟩, ⟨n59_ok, ⟨n56_ok, ⟨n55_ok, True.intro, True.intro⟩, True.intro⟩, ⟨n60_ok, True.intro, True.intro⟩⟩⟩, ⟨n66_ok, ⟨n64_ok, ⟨n63_ok, ⟨n62_ok, True.intro, True.intro⟩, True.intro⟩, ⟨n65_ok, True.intro, True.intro⟩⟩, ⟨n70_ok, ⟨n69_ok, ⟨n68_ok, True.intro, True.intro⟩, True.intro⟩, ⟨n72_ok, True.intro, True.intro⟩⟩⟩⟩⟩
/- foghorn/points.All -/
noncomputable def R10 (q_addW : Nat → Nat → Option CV → W → W → (W → Bool) → Bool) (q_cmpW : (Nat → Nat → Bool) → Nat → Option CV → W → W → (W → Bool) → Bool) (q_notW : Option CV → W → (W → Bool) → Bool) (q_condW : W → Bool → Bool → Bool) (q_fadW : Nat → W → (W → Bool) → Bool) (q_idxSW : Nat → W → W → (W → Bool) → Bool) (q_lenW : Option CV → W → (W → Bool) → Bool) (q_tupW : W → (List W → Bool) → Bool) (q_nthW : Nat → List W → (W → Bool) → Bool) (q_onG : W → List W → (FuncId → List W → Bool) → Bool) (q_killVW : W → HW → (HW → Bool) → Bool) (q_loadSW : HW → W → (W → Bool) → Bool) (q_loadAW : Nat → HW → W → (W → Bool) → Bool) (q_storeSW : HW → W → W → (HW → Bool) → Bool) (q_storeAW : Nat → HW → W → W → (HW → Bool) → Bool) (q_makeSW : Nat → Nat → Nat → Kind → List W → Bool → HW → Nat → W → W → KW → Bool) (q_allocW : Trie W → Nat → Bool → HW → Nat → KW → Bool) (fu : Nat) (call : CallW) (a0 : W) (h0 : HW) (c0 : Nat) (K : KW) : Bool :=
call 28 [a0] h0 c0 fun v1 h2 c3 =>
q_tupW v1 fun l4 => q_nthW 0 l4 fun v5 =>
q_tupW v1 fun l6 => q_nthW 1 l6 fun v7 =>
q_allocW (allocT tys 51) 5 true h2 c3 fun v8 h9 c10 =>
q_storeAW 5 h9 v8 v5 fun h11 =>
q_notW (two Try.prog (dec v7) (Op.unary .not)) v7 fun v12 =>
q_condW v12 (
q_killVW v8 h11 fun h13 =>
K ⟨13, 0, r0, [⟨12, 0, ⟨0, 0, 0, .nils⟩, []⟩, ⟨3, 1, r0, []⟩]⟩ h13 c10) (
q_makeSW 16 1 99 (.cpxs .f64) [⟨12, 0, ⟨0, 0, 0, .cpx .f64 0 0⟩, []⟩] true h11 c10 a0 a0 fun v14 h15 c16 =>
q_lenW (lenC tys 28 (dec v14)) v14 fun v17 =>
@Nat.rec (fun _ => Fun 1) (fun _ _ _ => false) (fun _ f21 v18 h19 c20 =>
q_cmpW (cmpF2 .lss) 3 (binC Try.prog .lss 3 (.tmp 19) (.tmp 18) (dec v18) (dec v17)) v18 v17 fun v22 =>
q_condW v22 (
q_fadW 3 v8 fun v23 =>
q_loadSW h19 v23 fun v24 =>
q_loadAW 5 h19 v8 fun v25 =>
q_onG v24 [v25, v18] fun g26 l27 => call g26 l27 h19 c20 fun v28 h29 c30 =>
q_idxSW 1 v14 v18 fun v31 =>
q_storeSW h29 v31 v28 fun h32 =>
q_addW 3 9223372036854775807 (binC Try.prog .add 3 (.tmp 19) (.const (.int .i64 (.ofNat 1))) (dec v18) (dec ⟨3, 1, r0, []⟩)) v18 ⟨3, 1, r0, []⟩ fun v33 =>
f21 v33 h32 c30) (
q_killVW v8 h19 fun h34 =>
K ⟨13, 0, r0, [v14, ⟨3, 0, r0, []⟩]⟩ h34 c20)) fu ⟨3, 0, r0, []⟩ h15 c16)
theorem R10_eq (Q : PrimW) (fu : Nat) (call : CallW) : curryA 1 (fnK Q Try.prog tys stl fu call e10) = R10 Q.addW Q.cmpW Q.notW Q.condW Q.fadW Q.idxSW Q.lenW Q.tupW Q.nthW Q.onG Q.killVW Q.loadSW Q.loadAW Q.storeSW Q.storeAW Q.makeSW Q.allocW fu call := by kernel_rfl
noncomputable def n10 : List W → HW → Nat → KW → Bool := appF 1 (R10 addW cmpW notW condW fadW idxSW lenW tupW nthW onG killVW loadSW loadAW storeSW storeAW makeSW allocW 1000000 d4.fn)
theorem n10_ok : FnGood Try.prog tys stl tab 10 n10 := node_ok d4_ok (by kernel_rfl) rfl g10 (R10_eq real _ _)
/- foghorn/points.Row -/
noncomputable def R13 (q_addW : Nat → Nat → Option CV → W → W → (W → Bool) → Bool) (q_cmpW : (Nat → Nat → Bool) → Nat → Option CV → W → W → (W → Bool) → Bool) (q_notW : Option CV → W → (W → Bool) → Bool) (q_condW : W → Bool → Bool → Bool) (q_fadW : Nat → W → (W → Bool) → Bool) (q_idxSW : Nat → W → W → (W → Bool) → Bool) (q_lenW : Option CV → W → (W → Bool) → Bool) (q_tupW : W → (List W → Bool) → Bool) (q_nthW : Nat → List W → (W → Bool) → Bool) (q_onG : W → List W → (FuncId → List W → Bool) → Bool) (q_killVW : W → HW → (HW → Bool) → Bool) (q_loadSW : HW → W → (W → Bool) → Bool) (q_loadAW : Nat → HW → W → (W → Bool) → Bool) (q_storeSW : HW → W → W → (HW → Bool) → Bool) (q_storeAW : Nat → HW → W → W → (HW → Bool) → Bool) (q_makeSW : Nat → Nat → Nat → Kind → List W → Bool → HW → Nat → W → W → KW → Bool) (q_allocW : Trie W → Nat → Bool → HW → Nat → KW → Bool) (fu : Nat) (call : CallW) (a0 : W) (a1 : W) (h0 : HW) (c0 : Nat) (K : KW) : Bool :=
call 28 [a1] h0 c0 fun v1 h2 c3 =>
q_tupW v1 fun l4 => q_nthW 0 l4 fun v5 =>
q_tupW v1 fun l6 => q_nthW 1 l6 fun v7 =>
q_allocW (allocT tys 51) 5 true h2 c3 fun v8 h9 c10 =>
q_storeAW 5 h9 v8 v5 fun h11 =>
q_notW (two Try.prog (dec v7) (Op.unary .not)) v7 fun v12 =>
q_condW v12 (
q_killVW v8 h11 fun h13 =>
K ⟨13, 0, r0, [⟨12, 0, ⟨0, 0, 0, .nils⟩, []⟩, ⟨3, 1, r0, []⟩]⟩ h13 c10) (
q_fadW 0 v8 fun v14 =>
q_loadSW h11 v14 fun v15 =>
call 29 [a0, v15] h11 c10 fun v16 h17 c18 =>
q_tupW v16 fun l19 => q_nthW 0 l19 fun v20 =>
q_tupW v16 fun l21 => q_nthW 1 l21 fun v22 =>
q_cmpW (cmpF2 .neq) 3 (binC Try.prog .neq 25 (.tmp 27) (.const (.int .i64 (.ofNat 0))) (dec v22) (dec ⟨3, 0, r0, []⟩)) v22 ⟨3, 0, r0, []⟩ fun v23 =>
q_condW v23 (
q_killVW v8 h17 fun h24 =>
K ⟨13, 0, r0, [⟨12, 0, ⟨0, 0, 0, .nils⟩, []⟩, v22]⟩ h24 c18) (
q_lenW (lenC tys 22 (dec v20)) v20 fun v25 =>
q_makeSW 16 1 99 (.cpxs .f64) [⟨12, 0, ⟨0, 0, 0, .cpx .f64 0 0⟩, []⟩] true h17 c18 v25 v25 fun v26 h27 c28 =>
q_lenW (lenC tys 22 (dec v20)) v20 fun v29 =>
@Nat.rec (fun _ => Fun 1) (fun _ _ _ => false) (fun _ f33 v30 h31 c32 =>
q_cmpW (cmpF2 .lss) 3 (binC Try.prog .lss 3 (.tmp 35) (.tmp 34) (dec v30) (dec v29)) v30 v29 fun v34 =>
q_condW v34 (
q_idxSW 1 v20 v30 fun v35 =>
q_loadSW h31 v35 fun v36 =>
q_fadW 3 v8 fun v37 =>
q_loadSW h31 v37 fun v38 =>
q_loadAW 5 h31 v8 fun v39 =>
q_onG v38 [v39, v36] fun g40 l41 => call g40 l41 h31 c32 fun v42 h43 c44 =>
q_idxSW 1 v26 v30 fun v45 =>
q_storeSW h43 v45 v42 fun h46 =>
q_addW 3 9223372036854775807 (binC Try.prog .add 3 (.tmp 35) (.const (.int .i64 (.ofNat 1))) (dec v30) (dec ⟨3, 1, r0, []⟩)) v30 ⟨3, 1, r0, []⟩ fun v47 =>
f33 v47 h46 c44) (
q_killVW v8 h31 fun h48 =>
K ⟨13, 0, r0, [v26, ⟨3, 0, r0, []⟩]⟩ h48 c32)) fu ⟨3, 0, r0, []⟩ h27 c28))
theorem R13_eq (Q : PrimW) (fu : Nat) (call : CallW) : curryA 2 (fnK Q Try.prog tys stl fu call e13) = R13 Q.addW Q.cmpW Q.notW Q.condW Q.fadW Q.idxSW Q.lenW Q.tupW Q.nthW Q.onG Q.killVW Q.loadSW Q.loadAW Q.storeSW Q.storeAW Q.makeSW Q.allocW fu call := by kernel_rfl
noncomputable def n13 : List W → HW → Nat → KW → Bool := appF 2 (R13 addW cmpW notW condW fadW idxSW lenW tupW nthW onG killVW loadSW loadAW storeSW storeAW makeSW allocW 1000000 d4.fn)
theorem n13_ok : FnGood Try.prog tys stl tab 13 n13 := node_ok d4_ok (by kernel_rfl) rfl g13 (R13_eq real _ _)
/- foghorn/points.At -/
noncomputable def R24 (q_share : (α : Type) → α → (α → Bool) → Bool) (q_cmpW : (Nat → Nat → Bool) → Nat → Option CV → W → W → (W → Bool) → Bool) (q_notW : Option CV → W → (W → Bool) → Bool) (q_condW : W → Bool → Bool → Bool) (q_guardW : Bool → W → Bool → Bool → Bool) (q_pickW : W → W → W → (W → Bool) → Bool) (q_fadW : Nat → W → (W → Bool) → Bool) (q_tupW : W → (List W → Bool) → Bool) (q_nthW : Nat → List W → (W → Bool) → Bool) (q_onG : W → List W → (FuncId → List W → Bool) → Bool) (q_killVW : W → HW → (HW → Bool) → Bool) (q_loadSW : HW → W → (W → Bool) → Bool) (q_loadAW : Nat → HW → W → (W → Bool) → Bool) (q_storeAW : Nat → HW → W → W → (HW → Bool) → Bool) (q_allocW : Trie W → Nat → Bool → HW → Nat → KW → Bool) (fu : Nat) (call : CallW) (a0 : W) (a1 : W) (h0 : HW) (c0 : Nat) (K : KW) : Bool :=
call 28 [a0] h0 c0 fun v1 h2 c3 =>
q_tupW v1 fun l4 => q_nthW 0 l4 fun v5 =>
q_tupW v1 fun l6 => q_nthW 1 l6 fun v7 =>
q_allocW (allocT tys 51) 5 true h2 c3 fun v8 h9 c10 =>
q_storeAW 5 h9 v8 v5 fun h11 =>
q_notW (two Try.prog (dec v7) (Op.unary .not)) v7 fun v12 =>
q_share _ (fun (v14 : W) (h15 : HW) (c16 : Nat) =>
q_share _ (fun (v18 : W) (h19 : HW) (c20 : Nat) =>
q_pickW v12 ⟨8, 1, r0, []⟩ v18 fun v21 =>
q_share _ (fun (v23 : W) (h24 : HW) (c25 : Nat) =>
q_share _ (fun (v27 : W) (h28 : HW) (c29 : Nat) =>
q_share _ (fun (v31 : W) (h32 : HW) (c33 : Nat) =>
q_pickW v21 ⟨8, 1, r0, []⟩ v31 fun v34 =>
q_condW v34 (
q_killVW v8 h32 fun h35 =>
K ⟨13, 0, r0, [⟨12, 0, ⟨0, 0, 0, .cpx .f64 0 0⟩, []⟩, ⟨3, 1, r0, []⟩]⟩ h35 c33) (
q_fadW 3 v8 fun v36 =>
q_loadSW h32 v36 fun v37 =>
q_loadAW 5 h32 v8 fun v38 =>
q_onG v37 [v38, a1] fun g39 l40 => call g39 l40 h32 c33 fun v41 h42 c43 =>
q_killVW v8 h42 fun h44 =>
K ⟨13, 0, r0, [v41, ⟨3, 0, r0, []⟩]⟩ h44 c43)) fun f30 =>
q_guardW false v21 (q_cmpW (cmpF2 .geq) 3 (binC Try.prog .geq 3 (.tmp 20) (.tmp 21) (dec v23) (dec v27)) v23 v27 fun v45 =>
f30 v45 h28 c29) (f30 wUnd h28 c29)) fun f26 =>
q_guardW false v21 (f26 a0 h24 c25) (f26 wUnd h24 c25)) fun f22 =>
q_guardW false v21 (f22 a1 h19 c20) (f22 wUnd h19 c20)) fun f17 =>
q_guardW false v12 (q_cmpW (cmpF2 .lss) 3 (binC Try.prog .lss 3 (.tmp 16) (.const (.int .i64 (.ofNat 0))) (dec v14) (dec ⟨3, 0, r0, []⟩)) v14 ⟨3, 0, r0, []⟩ fun v46 =>
f17 v46 h15 c16) (f17 wUnd h15 c16)) fun f13 =>
q_guardW false v12 (f13 a1 h11 c10) (f13 wUnd h11 c10)
theorem R24_eq (Q : PrimW) (fu : Nat) (call : CallW) : curryA 2 (fnK Q Try.prog tys stl fu call e24) = R24 Q.share Q.cmpW Q.notW Q.condW Q.guardW Q.pickW Q.fadW Q.tupW Q.nthW Q.onG Q.killVW Q.loadSW Q.loadAW Q.storeAW Q.allocW fu call := by kernel_rfl
noncomputable def n24 : List W → HW → Nat → KW → Bool := appF 2 (R24 (fun _ x f => f x) cmpW notW condW guardW pickW fadW tupW nthW onG killVW loadSW loadAW storeAW allocW 1000000 d4.fn)
theorem n24_ok : FnGood Try.prog tys stl tab 24 n24 := node_ok d4_ok (by kernel_rfl) rfl g24 (R24_eq real _ _)
/- (foghorn/points.set).place -/
noncomputable def R41 (q_share : (α : Type) → α → (α → Bool) → Bool) (q_genW : Option CV → (W → Bool) → Bool) (q_addW : Nat → Nat → Option CV → W → W → (W → Bool) → Bool) (q_quoW : Nat → Nat → Option CV → W → W → (W → Bool) → Bool) (q_remW : Nat → Nat → Option CV → W → W → (W → Bool) → Bool) (q_cmpW : (Nat → Nat → Bool) → Nat → Option CV → W → W → (W → Bool) → Bool) (q_notW : Option CV → W → (W → Bool) → Bool) (q_condW : W → Bool → Bool → Bool) (q_guardW : Bool → W → Bool → Bool → Bool) (q_pickW : W → W → W → (W → Bool) → Bool) (q_fadW : Nat → W → (W → Bool) → Bool) (q_knownW : W → Bool → Bool) (q_killVW : W → HW → (HW → Bool) → Bool) (q_loadSW : HW → W → (W → Bool) → Bool) (q_boxW : HW → Nat → W → KW → Bool) (fu : Nat) (call : CallW) (a0 : W) (a1 : W) (h0 : HW) (c0 : Nat) (K : KW) : Bool :=
q_boxW h0 c0 a0 fun v1 h2 c3 =>
call 55 [a1] h2 c3 fun v4 _ _ => q_knownW v4 (
q_fadW 1 v1 fun v5 =>
q_loadSW h2 v5 fun v6 =>
q_genW (convC Try.prog tys ⟨[], 0, decH h2, 0⟩ 3 32 (dec v6)) fun v7 =>
q_genW (binC Try.prog .leq 32 (.tmp 8) (.tmp 11) (dec v4) (dec v7)) fun v8 =>
q_notW (two Try.prog (dec v8) (Op.unary .not)) v8 fun v9 =>
q_share _ (fun (v11 : W) (h12 : HW) (c13 : Nat) =>
q_share _ (fun (v15 : W) (h16 : HW) (c17 : Nat) =>
q_share _ (fun (v19 : W) (h20 : HW) (c21 : Nat) =>
q_share _ (fun (v24 : W) (h25 : HW) (c26 : Nat) =>
q_pickW v9 ⟨8, 1, r0, []⟩ v24 fun v27 =>
q_condW v27 (
q_killVW v1 h25 fun h28 =>
K ⟨13, 0, r0, [⟨3, 0, r0, []⟩, ⟨8, 0, r0, []⟩]⟩ h28 c26) (
q_genW (convC Try.prog tys ⟨[], 0, decH h25, 0⟩ 32 3 (dec a1)) fun v29 =>
q_fadW 1 v1 fun v30 =>
q_loadSW h25 v30 fun v31 =>
q_addW 3 9223372036854775807 (binC Try.prog .add 3 (.tmp 21) (.tmp 23) (dec v29) (dec v31)) v29 v31 fun v32 =>
q_quoW 3 9223372036854775807 (binC Try.prog .quo 3 (.tmp 25) (.const (.int .i64 (.ofNat 2))) (dec v32) (dec ⟨3, 2, r0, []⟩)) v32 ⟨3, 2, r0, []⟩ fun v33 =>
q_remW 3 9223372036854775807 (binC Try.prog .rem 3 (.tmp 27) (.const (.int .i64 (.ofNat 2))) (dec v32) (dec ⟨3, 2, r0, []⟩)) v32 ⟨3, 2, r0, []⟩ fun v34 =>
q_cmpW (cmpF2 .eql) 3 (binC Try.prog .eql 3 (.tmp 28) (.const (.int .i64 (.ofNat 0))) (dec v34) (dec ⟨3, 0, r0, []⟩)) v34 ⟨3, 0, r0, []⟩ fun v35 =>
q_killVW v1 h25 fun h36 =>
K ⟨13, 0, r0, [v33, v35]⟩ h36 c26)) fun f23 =>
q_guardW false v9 (q_genW (binC Try.prog .neq 32 (.tmp 15) (.tmp 17) (dec v11) (dec v19)) fun v37 =>
f23 v37 h20 c21) (f23 wUnd h20 c21)) fun f18 =>
q_guardW false v9 (call 56 [v15] h16 c17 fun v22 _ _ => q_knownW v22 (f18 v22 h16 c17)) (f18 wUnd h16 c17)) fun f14 =>
q_guardW false v9 (f14 a1 h12 c13) (f14 wUnd h12 c13)) fun f10 =>
q_guardW false v9 (f10 a1 h2 c3) (f10 wUnd h2 c3))
theorem R41_eq (Q : PrimW) (fu : Nat) (call : CallW) : curryA 2 (fnK Q Try.prog tys stl fu call e41) = R41 Q.share Q.genW Q.addW Q.quoW Q.remW Q.cmpW Q.notW Q.condW Q.guardW Q.pickW Q.fadW Q.knownW Q.killVW Q.loadSW Q.boxW fu call := by kernel_rfl
noncomputable def n41 : List W → HW → Nat → KW → Bool := appF 2 (R41 (fun _ x f => f x) genW addW quoW remW cmpW notW condW guardW pickW fadW knownW killVW loadSW boxW 1000000 d4.fn)
theorem n41_ok : FnGood Try.prog tys stl tab 41 n41 := node_ok d4_ok (by kernel_rfl) rfl g41 (R41_eq real _ _)
/- foghorn/plane.isWhole -/
noncomputable def R44 (q_share : (α : Type) → α → (α → Bool) → Bool) (q_genW : Option CV → (W → Bool) → Bool) (q_guardW : Bool → W → Bool → Bool → Bool) (q_pickW : W → W → W → (W → Bool) → Bool) (fu : Nat) (call : CallW) (a0 : W) (h0 : HW) (c0 : Nat) (K : KW) : Bool :=
call 55 [a0] h0 c0 fun v1 h2 c3 =>
q_genW (binC Try.prog .leq 32 (.tmp 4) (.const (.float .f64 4742290407621132288)) (dec v1) (dec ⟨12, 0, ⟨0, 0, 0, .flt .f64 4742290407621132288⟩, []⟩)) fun v4 =>
q_share _ (fun (v6 : W) (h7 : HW) (c8 : Nat) =>
q_share _ (fun (v10 : W) (h11 : HW) (c12 : Nat) =>
q_share _ (fun (v14 : W) (h15 : HW) (c16 : Nat) =>
q_share _ (fun (v18 : W) (h19 : HW) (c20 : Nat) =>
q_pickW v4 v18 ⟨8, 0, r0, []⟩ fun v21 =>
K v21 h19 c20) fun f17 =>
q_guardW true v4 (q_genW (binC Try.prog .eql 32 (.tmp 7) (.tmp 9) (dec v6) (dec v14)) fun v22 =>
f17 v22 h15 c16) (f17 wUnd h15 c16)) fun f13 =>
q_guardW true v4 (call 56 [v10] h11 c12 fun v23 h24 c25 =>
f13 v23 h24 c25) (f13 wUnd h11 c12)) fun f9 =>
q_guardW true v4 (f9 a0 h7 c8) (f9 wUnd h7 c8)) fun f5 =>
q_guardW true v4 (f5 a0 h2 c3) (f5 wUnd h2 c3)
theorem R44_eq (Q : PrimW) (fu : Nat) (call : CallW) : curryA 1 (fnK Q Try.prog tys stl fu call e44) = R44 Q.share Q.genW Q.guardW Q.pickW fu call := by kernel_rfl
noncomputable def n44 : List W → HW → Nat → KW → Bool := appF 1 (R44 (fun _ x f => f x) genW guardW pickW 1000000 d4.fn)
theorem n44_ok : FnGood Try.prog tys stl tab 44 n44 := node_ok d4_ok (by kernel_rfl) rfl g44 (R44_eq real _ _)
noncomputable def d5 : Disp := (.node 44 n44 (.node 28 n28 (.node 13 n13 (.node 10 n10 (.node 9 n9 (.node 7 n7 .leaf .leaf) .leaf) (.node 12 n12 (.node 11 n11 .leaf .leaf) .leaf)) (.node 23 n23 (.node 17 n17 (.node 15 n15 .leaf .leaf) .leaf) (.node 27 n27 (.node 24 n24 .leaf .leaf) .leaf))) (.node 38 n38 (.node 33 n33 (.node 31 n31 (.node 29 n29 .leaf .leaf) .leaf) (.node 37 n37 (.node 36 n36 .leaf .leaf) .leaf)) (.node 41 n41 (.node 40 n40 (.node 39 n39 .leaf .leaf) .leaf) (.node 43 n43 (.node 42 n42 .leaf .leaf) .leaf)))) (.node 60 n60 (.node 52 n52 (.node 47 n47 (.node 46 n46 (.node 45 n45 .leaf .leaf) .leaf) (.node 51 n51 (.node 48 n48 .leaf .leaf) .leaf)) (.node 55 n55 (.node 54 n54 (.node 53 n53 .leaf .leaf) .leaf) (.node 59 n59 (.node 56 n56 .leaf .leaf) .leaf))) (.node 66 n66 (.node 63 n63 (.node 62 n62 (.node 61 n61 .leaf .leaf) .leaf) (.node 65 n65 (.node 64 n64 .leaf .leaf) .leaf)) (.node 70 n70 (.node 69 n69 (.node 68 n68 .leaf .leaf) .leaf) (.node 72 n72 .leaf .leaf)))))
theorem d5_ok : CallSim Try.prog tys stl tab d5.fn := Disp.sim ⟨n44_ok, ⟨n28_ok, ⟨n13_ok, ⟨n10_ok, ⟨n9_ok, ⟨n7_ok, True.intro, True.intro⟩, True.intro⟩, ⟨n12_ok, ⟨n11_ok, True.intro, True.intro⟩, True.intro⟩⟩, ⟨n23_ok, ⟨n17_ok, ⟨n15_ok, True.intro, True.intro⟩, True.intro⟩, ⟨n27_ok, ⟨n24_ok, True.intro, True.intro⟩, True.intro⟩⟩⟩, ⟨n38_ok, ⟨n33_ok, ⟨n31_ok, ⟨n29_ok, True.intro, True.intro⟩, True.intro⟩, ⟨n37_ok, ⟨n36_ok, True.intro, True.intro⟩, True.intro⟩⟩, ⟨n41_ok, ⟨n40_ok, ⟨n39_ok, True.intro, True.intro⟩, True.intro⟩, ⟨n43_ok, ⟨n42_ok, True.intro, True.intro⟩, True.intro⟩⟩⟩⟩, ⟨n60_ok, ⟨n52_ok, ⟨n47_ok, ⟨n46_ok, ⟨n45_ok, True.intro, True.intro⟩, True.intro⟩, ⟨n51_ok, ⟨n48_ok, True.intro, True.intro⟩, True.intro⟩⟩, ⟨n55_ok, ⟨n54_ok, ⟨n53_ok, True.intro, True.intro⟩, True.intro⟩, ⟨n59_ok, ⟨n56_ok, True.intro, True.intro⟩, True.intro⟩⟩⟩, ⟨n66_ok, ⟨n63_ok, ⟨n62_ok, ⟨n61_ok, True.intro, True.intro⟩, True.intro⟩, ⟨n65_ok, ⟨n64_ok, True.intro, True.intro⟩, True.intro⟩⟩, ⟨n70_ok, ⟨n69_ok, ⟨n68_ok, True.intro, True.intro⟩, True.intro⟩, ⟨n72_ok, True.intro, True.intro⟩⟩⟩⟩⟩
/- foghorn/points.Energy -/
noncomputable def R8 (q_genW : Option CV → (W → Bool) → Bool) (q_addW : Nat → Nat → Option CV → W → W → (W → Bool) → Bool) (q_cmpW : (Nat → Nat → Bool) → Nat → Option CV → W → W → (W → Bool) → Bool) (q_condW : W → Bool → Bool → Bool) (q_idxSW : Nat → W → W → (W → Bool) → Bool) (q_lenW : Option CV → W → (W → Bool) → Bool) (q_tupW : W → (List W → Bool) → Bool) (q_nthW : Nat → List W → (W → Bool) → Bool) (q_loadSW : HW → W → (W → Bool) → Bool) (fu : Nat) (call : CallW) (a0 : W) (h0 : HW) (c0 : Nat) (K : KW) : Bool :=
call 10 [a0] h0 c0 fun v1 h2 c3 =>
q_tupW v1 fun l4 => q_nthW 0 l4 fun v5 =>
q_tupW v1 fun l6 => q_nthW 1 l6 fun v7 =>
q_lenW (lenC tys 28 (dec v5)) v5 fun v8 =>
@Nat.rec (fun _ => Fun 2) (fun _ _ _ _ => false) (fun _ f13 v9 v10 h11 c12 =>
q_cmpW (cmpF2 .lss) 3 (binC Try.prog .lss 3 (.tmp 16) (.tmp 15) (dec v10) (dec v8)) v10 v8 fun v14 =>
q_condW v14 (
q_idxSW 1 v5 v10 fun v15 =>
q_loadSW h11 v15 fun v16 =>
call 27 [v16] h11 c12 fun v17 h18 c19 =>
q_genW (convC Try.prog tys ⟨[], 0, decH h18, 0⟩ 32 3 (dec v17)) fun v20 =>
q_addW 3 9223372036854775807 (binC Try.prog .add 3 (.tmp 20) (.tmp 23) (dec v9) (dec v20)) v9 v20 fun v21 =>
q_addW 3 9223372036854775807 (binC Try.prog .add 3 (.tmp 16) (.const (.int .i64 (.ofNat 1))) (dec v10) (dec ⟨3, 1, r0, []⟩)) v10 ⟨3, 1, r0, []⟩ fun v22 =>
f13 v21 v22 h18 c19) (
K ⟨13, 0, r0, [v9, v7]⟩ h11 c12)) fu ⟨3, 0, r0, []⟩ ⟨3, 0, r0, []⟩ h2 c3
theorem R8_eq (Q : PrimW) (fu : Nat) (call : CallW) : curryA 1 (fnK Q Try.prog tys stl fu call e8) = R8 Q.genW Q.addW Q.cmpW Q.condW Q.idxSW Q.lenW Q.tupW Q.nthW Q.loadSW fu call := by kernel_rfl
noncomputable def n8 : List W → HW → Nat → KW → Bool := appF 1 (R8 genW addW cmpW condW idxSW lenW tupW nthW loadSW 1000000 d5.fn)
theorem n8_ok : FnGood Try.prog tys stl tab 8 n8 := node_ok d5_ok (by kernel_rfl) rfl g8 (R8_eq real _ _)
/- (foghorn/points.set).labelOf -/
noncomputable def R30 (q_share : (α : Type) → α → (α → Bool) → Bool) (q_genW : Option CV → (W → Bool) → Bool) (q_subW : Nat → Nat → Option CV → W → W → (W → Bool) → Bool) (q_cmpW : (Nat → Nat → Bool) → Nat → Option CV → W → W → (W → Bool) → Bool) (q_notW : Option CV → W → (W → Bool) → Bool) (q_condW : W → Bool → Bool → Bool) (q_guardW : Bool → W → Bool → Bool → Bool) (q_pickW : W → W → W → (W → Bool) → Bool) (q_fadW : Nat → W → (W → Bool) → Bool) (q_tupW : W → (List W → Bool) → Bool) (q_nthW : Nat → List W → (W → Bool) → Bool) (q_onG : W → List W → (FuncId → List W → Bool) → Bool) (q_killVW : W → HW → (HW → Bool) → Bool) (q_loadSW : HW → W → (W → Bool) → Bool) (q_loadAW : Nat → HW → W → (W → Bool) → Bool) (q_boxW : HW → Nat → W → KW → Bool) (q_samQW : W → W → Bool → Bool) (fu : Nat) (call : CallW) (a0 : W) (a1 : W) (h0 : HW) (c0 : Nat) (K : KW) : Bool :=
q_boxW h0 c0 a0 fun v1 h2 c3 =>
q_loadAW 5 h2 v1 fun v4 =>
q_genW (two Try.prog (dec a1) fun v => Builtin.real_ #[31] 32 #[v]) fun v5 =>
call 41 [v4, v5] h2 c3 fun v6 h7 c8 =>
q_tupW v6 fun l9 => q_nthW 0 l9 fun v10 =>
q_tupW v6 fun l11 => q_nthW 1 l11 fun v12 =>
q_loadAW 5 h7 v1 fun v13 =>
q_genW (two Try.prog (dec a1) fun v => Builtin.imag_ #[31] 32 #[v]) fun v14 =>
call 41 [v13, v14] h7 c8 fun v15 h16 c17 =>
q_tupW v15 fun l18 => q_nthW 0 l18 fun v19 =>
q_tupW v15 fun l20 => q_nthW 1 l20 fun v21 =>
q_notW (two Try.prog (dec v12) (Op.unary .not)) v12 fun v22 =>
q_share _ (fun (v24 : W) (h25 : HW) (c26 : Nat) =>
q_share _ (fun (v28 : W) (h29 : HW) (c30 : Nat) =>
q_pickW v22 ⟨8, 1, r0, []⟩ v28 fun v31 =>
q_share _ (fun (v33 : W) (h34 : HW) (c35 : Nat) =>
q_share _ (fun (v37 : W) (h38 : HW) (c39 : Nat) =>
q_share _ (fun (v41 : W) (h42 : HW) (c43 : Nat) =>
q_share _ (fun (v45 : W) (h46 : HW) (c47 : Nat) =>
q_share _ (fun (v49 : W) (h50 : HW) (c51 : Nat) =>
q_pickW v31 ⟨8, 1, r0, []⟩ v49 fun v52 =>
q_share _ (fun (v54 : W) (h55 : HW) (c56 : Nat) =>
q_share _ (fun (v58 : W) (h59 : HW) (c60 : Nat) =>
q_share _ (fun (v62 : W) (h63 : HW) (c64 : Nat) =>
q_share _ (fun (v66 : W) (h67 : HW) (c68 : Nat) =>
q_share _ (fun (v70 : W) (h71 : HW) (c72 : Nat) =>
q_share _ (fun (v74 : W) (h75 : HW) (c76 : Nat) =>
q_share _ (
q_share _ (
q_share _ (fun (v80 : W) (h81 : HW) (c82 : Nat) =>
q_share _ (fun (v84 : W) (h85 : HW) (c86 : Nat) =>
q_pickW v52 ⟨8, 1, r0, []⟩ v84 fun v87 =>
q_condW v87 (
q_killVW v1 h85 fun h88 =>
K ⟨13, 0, r0, [⟨3, 0, r0, []⟩, ⟨8, 0, r0, []⟩]⟩ h88 c86) (
q_fadW 4 v1 fun v89 =>
q_loadSW h85 v89 fun v90 =>
q_loadAW 5 h85 v1 fun v91 =>
q_onG v90 [v91, v10, v19] fun g92 l93 => call g92 l93 h85 c86 fun v94 h95 c96 =>
q_killVW v1 h95 fun h97 =>
K ⟨13, 0, r0, [v94, ⟨8, 1, r0, []⟩]⟩ h97 c96)) fun f83 =>
q_guardW false v52 (q_cmpW (cmpF2 .gtr) 3 (binC Try.prog .gtr 3 (.tmp 38) (.tmp 44) (dec v62) (dec v80)) v62 v80 fun v98 =>
f83 v98 h81 c82) (f83 wUnd h81 c82)) fun f79 =>
q_guardW false v52 (q_subW 3 9223372036854775807 (binC Try.prog .sub 3 (.tmp 40) (.tmp 43) (dec v70) (dec v74)) v70 v74 fun v99 =>
f79 v99 h75 c76) (f79 wUnd h75 c76)) fun b78 =>
q_guardW false v52 (q_fadW 1 v1 fun v100 =>
q_samQW v100 v66 b78) (q_samQW wUnd v66 b78)) fun b77 =>
q_guardW false v52 (q_loadSW h75 v66 fun v101 =>
q_samQW v101 v70 b77) (q_samQW wUnd v70 b77)) fun f73 =>
q_guardW false v52 (call 42 [v54, v58] h71 c72 fun v102 h103 c104 =>
f73 v102 h103 c104) (f73 wUnd h71 c72)) fun f69 =>
q_guardW false v52 (q_loadSW h67 v66 fun v105 =>
f69 v105 h67 c68) (f69 wUnd h67 c68)) fun f65 =>
q_guardW false v52 (q_fadW 1 v1 fun v106 =>
f65 v106 h63 c64) (f65 wUnd h63 c64)) fun f61 =>
q_guardW false v52 (f61 v19 h59 c60) (f61 wUnd h59 c60)) fun f57 =>
q_guardW false v52 (f57 v10 h55 c56) (f57 wUnd h55 c56)) fun f53 =>
q_guardW false v52 (q_loadAW 5 h50 v1 fun v107 =>
f53 v107 h50 c51) (f53 wUnd h50 c51)) fun f48 =>
q_guardW false v31 (q_cmpW (cmpF2 .lss) 3 (binC Try.prog .lss 3 (.tmp 31) (.tmp 34) (dec v41) (dec v45)) v41 v45 fun v108 =>
f48 v108 h46 c47) (f48 wUnd h46 c47)) fun f44 =>
q_guardW false v31 (call 42 [v33, v37] h42 c43 fun v109 h110 c111 =>
f44 v109 h110 c111) (f44 wUnd h42 c43)) fun f40 =>
q_guardW false v31 (f40 v19 h38 c39) (f40 wUnd h38 c39)) fun f36 =>
q_guardW false v31 (f36 v10 h34 c35) (f36 wUnd h34 c35)) fun f32 =>
q_guardW false v31 (q_loadAW 5 h29 v1 fun v112 =>
f32 v112 h29 c30) (f32 wUnd h29 c30)) fun f27 =>
q_guardW false v22 (q_notW (two Try.prog (dec v24) (Op.unary .not)) v24 fun v113 =>
f27 v113 h25 c26) (f27 wUnd h25 c26)) fun f23 =>
q_guardW false v22 (f23 v21 h16 c17) (f23 wUnd h16 c17)
theorem R30_eq (Q : PrimW) (fu : Nat) (call : CallW) : curryA 2 (fnK Q Try.prog tys stl fu call e30) = R30 Q.share Q.genW Q.subW Q.cmpW Q.notW Q.condW Q.guardW Q.pickW Q.fadW Q.tupW Q.nthW Q.onG Q.killVW Q.loadSW Q.loadAW Q.boxW Q.samQW fu call := by kernel_rfl
noncomputable def n30 : List W → HW → Nat → KW → Bool := appF 2 (R30 (fun _ x f => f x) genW subW cmpW notW condW guardW pickW fadW tupW nthW onG killVW loadSW loadAW boxW samQW 1000000 d5.fn)
theorem n30_ok : FnGood Try.prog tys stl tab 30 n30 := node_ok d5_ok (by kernel_rfl) rfl g30 (R30_eq real _ _)
/- foghorn/plane.Whole -/
noncomputable def R32 (q_share : (α : Type) → α → (α → Bool) → Bool) (q_genW : Option CV → (W → Bool) → Bool) (q_notW : Option CV → W → (W → Bool) → Bool) (q_condW : W → Bool → Bool → Bool) (q_guardW : Bool → W → Bool → Bool → Bool) (q_pickW : W → W → W → (W → Bool) → Bool) (q_loadAW : Nat → HW → W → (W → Bool) → Bool) (q_storeAW : Nat → HW → W → W → (HW → Bool) → Bool) (q_allocW : Trie W → Nat → Bool → HW → Nat → KW → Bool) (q_flatW : W → Bool → Bool) (fu : Nat) (call : CallW) (a0 : W) (h0 : HW) (c0 : Nat) (K : KW) : Bool :=
q_allocW (allocT tys 60) 2 true h0 c0 fun v1 h2 c3 =>
q_genW (two Try.prog (dec a0) fun v => Builtin.real_ #[31] 32 #[v]) fun v4 =>
call 44 [v4] h2 c3 fun v5 h6 c7 =>
q_notW (two Try.prog (dec v5) (Op.unary .not)) v5 fun v8 =>
q_share _ (fun (v10 : W) (h11 : HW) (c12 : Nat) =>
q_share _ (fun (v14 : W) (h15 : HW) (c16 : Nat) =>
q_share _ (fun (v18 : W) (h19 : HW) (c20 : Nat) =>
q_share _ (fun (v22 : W) (h23 : HW) (c24 : Nat) =>
q_pickW v8 ⟨8, 1, r0, []⟩ v22 fun v25 =>
q_condW v25 (
(fun (v26 : W) =>
q_storeAW 2 h23 v1 v26 fun h27 =>
q_loadAW 2 h27 v1 fun v28 =>
K ⟨13, 0, r0, [v28, ⟨3, 1, r0, []⟩]⟩ h27 c24) ⟨15, 0, r0, [⟨3, 0, r0, []⟩, ⟨3, 0, r0, []⟩]⟩) (
q_genW (two Try.prog (dec a0) fun v => Builtin.real_ #[31] 32 #[v]) fun v29 =>
q_genW (convC Try.prog tys ⟨[], 0, decH h23, 0⟩ 32 2 (dec v29)) fun v30 =>
q_genW (two Try.prog (dec a0) fun v => Builtin.imag_ #[31] 32 #[v]) fun v31 =>
q_genW (convC Try.prog tys ⟨[], 0, decH h23, 0⟩ 32 2 (dec v31)) fun v32 =>
q_flatW v30 (
q_flatW v32 (
(fun (v33 : W) =>
q_storeAW 2 h23 v1 v33 fun h34 =>
q_loadAW 2 h34 v1 fun v35 =>
K ⟨13, 0, r0, [v35, ⟨3, 0, r0, []⟩]⟩ h34 c24) ⟨15, 0, r0, [v30, v32]⟩)))) fun f21 =>
q_guardW false v8 (q_notW (two Try.prog (dec v18) (Op.unary .not)) v18 fun v36 =>
f21 v36 h19 c20) (f21 wUnd h19 c20)) fun f17 =>
q_guardW false v8 (call 44 [v14] h15 c16 fun v37 h38 c39 =>
f17 v37 h38 c39) (f17 wUnd h15 c16)) fun f13 =>
q_guardW false v8 (q_genW (two Try.prog (dec v10) fun v => Builtin.imag_ #[31] 32 #[v]) fun v40 =>
f13 v40 h11 c12) (f13 wUnd h11 c12)) fun f9 =>
q_guardW false v8 (f9 a0 h6 c7) (f9 wUnd h6 c7)
theorem R32_eq (Q : PrimW) (fu : Nat) (call : CallW) : curryA 1 (fnK Q Try.prog tys stl fu call e32) = R32 Q.share Q.genW Q.notW Q.condW Q.guardW Q.pickW Q.loadAW Q.storeAW Q.allocW Q.flatW fu call := by kernel_rfl
noncomputable def n32 : List W → HW → Nat → KW → Bool := appF 1 (R32 (fun _ x f => f x) genW notW condW guardW pickW loadAW storeAW allocW flatW 1000000 d5.fn)
theorem n32_ok : FnGood Try.prog tys stl tab 32 n32 := node_ok d5_ok (by kernel_rfl) rfl g32 (R32_eq real _ _)
noncomputable def d6 : Disp := (.node 42 n42 (.node 28 n28 (.node 13 n13 (.node 10 n10 (.node 8 n8 (.node 7 n7 .leaf .leaf) (.node 9 n9 .leaf .leaf)) (.node 12 n12 (.node 11 n11 .leaf .leaf) .leaf)) (.node 23 n23 (.node 17 n17 (.node 15 n15 .leaf .leaf) .leaf) (.node 27 n27 (.node 24 n24 .leaf .leaf) .leaf))) (.node 36 n36 (.node 31 n31 (.node 30 n30 (.node 29 n29 .leaf .leaf) .leaf) (.node 33 n33 (.node 32 n32 .leaf .leaf) .leaf)) (.node 39 n39 (.node 38 n38 (.node 37 n37 .leaf .leaf) .leaf) (.node 41 n41 (.node 40 n40 .leaf .leaf) .leaf)))) (.node 59 n59 (.node 51 n51 (.node 46 n46 (.node 44 n44 (.node 43 n43 .leaf .leaf) (.node 45 n45 .leaf .leaf)) (.node 48 n48 (.node 47 n47 .leaf .leaf) .leaf)) (.node 54 n54 (.node 53 n53 (.node 52 n52 .leaf .leaf) .leaf) (.node 56 n56 (.node 55 n55 .leaf .leaf) .leaf))) (.node 65 n65 (.node 62 n62 (.node 61 n61 (.node 60 n60 .leaf .leaf) .leaf) (.node 64 n64 (.node 63 n63 .leaf .leaf) .leaf)) (.node 69 n69 (.node 68 n68 (.node 66 n66 .leaf .leaf) .leaf) (.node 72 n72 (.node 70 n70 .leaf .leaf) .leaf)))))
theorem d6_ok : CallSim Try.prog tys stl tab d6.fn := Disp.sim ⟨n42_ok, ⟨n28_ok, ⟨n13_ok, ⟨n10_ok, ⟨n8_ok, ⟨n7_ok, True.intro, True.intro⟩, ⟨n9_ok, True.intro, True.intro⟩⟩, ⟨n12_ok, ⟨n11_ok, True.intro, True.intro⟩, True.intro⟩⟩, ⟨n23_ok, ⟨n17_ok, ⟨n15_ok, True.intro, True.intro⟩, True.intro⟩, ⟨n27_ok, ⟨n24_ok, True.intro, True.intro⟩, True.intro⟩⟩⟩, ⟨n36_ok, ⟨n31_ok, ⟨n30_ok, ⟨n29_ok, True.intro, True.intro⟩, True.intro⟩, ⟨n33_ok, ⟨n32_ok, True.intro, True.intro⟩, True.intro⟩⟩, ⟨n39_ok, ⟨n38_ok, ⟨n37_ok, True.intro, True.intro⟩, True.intro⟩, ⟨n41_ok, ⟨n40_ok, True.intro, True.intro⟩, True.intro⟩⟩⟩⟩, ⟨n59_ok, ⟨n51_ok, ⟨n46_ok, ⟨n44_ok, ⟨n43_ok, True.intro, True.intro⟩, ⟨n45_ok, True.intro, True.intro⟩⟩, ⟨n48_ok, ⟨n47_ok, True.intro, True.intro⟩, True.intro⟩⟩, ⟨n54_ok, ⟨n53_ok, ⟨n52_ok, True.intro, True.intro⟩, True.intro⟩, ⟨n56_ok, ⟨n55_ok, True.intro, True.intro⟩, True.intro⟩⟩⟩, ⟨n65_ok, ⟨n62_ok, ⟨n61_ok, ⟨n60_ok, True.intro, True.intro⟩, True.intro⟩, ⟨n64_ok, ⟨n63_ok, True.intro, True.intro⟩, True.intro⟩⟩, ⟨n69_ok, ⟨n68_ok, ⟨n66_ok, True.intro, True.intro⟩, True.intro⟩, ⟨n72_ok, ⟨n70_ok, True.intro, True.intro⟩, True.intro⟩⟩⟩⟩⟩
/- foghorn/points.Back -/
noncomputable def R14 (q_share : (α : Type) → α → (α → Bool) → Bool) (q_addW : Nat → Nat → Option CV → W → W → (W → Bool) → Bool) (q_quoW : Nat → Nat → Option CV → W → W → (W → Bool) → Bool) (q_cmpW : (Nat → Nat → Bool) → Nat → Option CV → W → W → (W → Bool) → Bool) (q_notW : Option CV → W → (W → Bool) → Bool) (q_condW : W → Bool → Bool → Bool) (q_guardW : Bool → W → Bool → Bool → Bool) (q_pickW : W → W → W → (W → Bool) → Bool) (q_fadW : Nat → W → (W → Bool) → Bool) (q_idxSW : Nat → W → W → (W → Bool) → Bool) (q_lenW : Option CV → W → (W → Bool) → Bool) (q_tupW : W → (List W → Bool) → Bool) (q_nthW : Nat → List W → (W → Bool) → Bool) (q_killVW : W → HW → (HW → Bool) → Bool) (q_loadSW : HW → W → (W → Bool) → Bool) (q_loadAW : Nat → HW → W → (W → Bool) → Bool) (q_storeSW : HW → W → W → (HW → Bool) → Bool) (q_storeAW : Nat → HW → W → W → (HW → Bool) → Bool) (q_makeSW : Nat → Nat → Nat → Kind → List W → Bool → HW → Nat → W → W → KW → Bool) (q_allocW : Trie W → Nat → Bool → HW → Nat → KW → Bool) (fu : Nat) (call : CallW) (a0 : W) (a1 : W) (h0 : HW) (c0 : Nat) (K : KW) : Bool :=
call 28 [a1] h0 c0 fun v1 h2 c3 =>
q_tupW v1 fun l4 => q_nthW 0 l4 fun v5 =>
q_tupW v1 fun l6 => q_nthW 1 l6 fun v7 =>
q_allocW (allocT tys 51) 5 true h2 c3 fun v8 h9 c10 =>
q_storeAW 5 h9 v8 v5 fun h11 =>
q_notW (two Try.prog (dec v7) (Op.unary .not)) v7 fun v12 =>
q_share _ (fun (v14 : W) (h15 : HW) (c16 : Nat) =>
q_share _ (fun (v18 : W) (h19 : HW) (c20 : Nat) =>
q_share _ (fun (v22 : W) (h23 : HW) (c24 : Nat) =>
q_share _ (fun (v26 : W) (h27 : HW) (c28 : Nat) =>
q_share _ (fun (v30 : W) (h31 : HW) (c32 : Nat) =>
q_share _ (fun (v34 : W) (h35 : HW) (c36 : Nat) =>
q_pickW v12 ⟨8, 1, r0, []⟩ v34 fun v37 =>
q_condW v37 (
q_killVW v8 h35 fun h38 =>
K ⟨13, 0, r0, [⟨12, 0, ⟨0, 0, 0, .nils⟩, []⟩, ⟨3, 1, r0, []⟩]⟩ h38 c36) (
q_lenW (lenC tys 28 (dec a0)) a0 fun v39 =>
q_makeSW 8 1 3 (.ints .i64) [⟨3, 0, r0, []⟩] true h35 c36 v39 v39 fun v40 h41 c42 =>
q_lenW (lenC tys 28 (dec a0)) a0 fun v43 =>
@Nat.rec (fun _ => Fun 1) (fun _ _ _ => false) (fun _ f47 v44 h45 c46 =>
q_cmpW (cmpF2 .lss) 3 (binC Try.prog .lss 3 (.tmp 31) (.tmp 30) (dec v44) (dec v43)) v44 v43 fun v48 =>
q_condW v48 (
q_idxSW 1 a0 v44 fun v49 =>
q_loadSW h45 v49 fun v50 =>
q_loadAW 5 h45 v8 fun v51 =>
call 30 [v51, v50] h45 c46 fun v52 h53 c54 =>
q_tupW v52 fun l55 => q_nthW 0 l55 fun v56 =>
q_tupW v52 fun l57 => q_nthW 1 l57 fun v58 =>
q_idxSW 1 v40 v44 fun v59 =>
q_storeSW h53 v59 v56 fun h60 =>
q_notW (two Try.prog (dec v58) (Op.unary .not)) v58 fun v61 =>
q_condW v61 (
q_killVW v8 h60 fun h62 =>
K ⟨13, 0, r0, [⟨12, 0, ⟨0, 0, 0, .nils⟩, []⟩, ⟨3, 6, r0, []⟩]⟩ h62 c54) (
q_addW 3 9223372036854775807 (binC Try.prog .add 3 (.tmp 31) (.const (.int .i64 (.ofNat 1))) (dec v44) (dec ⟨3, 1, r0, []⟩)) v44 ⟨3, 1, r0, []⟩ fun v63 =>
f47 v63 h60 c54)) (
q_fadW 0 v8 fun v64 =>
q_loadSW h45 v64 fun v65 =>
call 31 [v40, v65] h45 c46 fun v66 h67 c68 =>
q_tupW v66 fun l69 => q_nthW 0 l69 fun v70 =>
q_tupW v66 fun l71 => q_nthW 1 l71 fun v72 =>
q_killVW v8 h67 fun h73 =>
K ⟨13, 0, r0, [v70, v72]⟩ h73 c68)) fu ⟨3, 0, r0, []⟩ h41 c42)) fun f33 =>
q_guardW false v12 (q_cmpW (cmpF2 .gtr) 3 (binC Try.prog .gtr 3 (.tmp 20) (.tmp 23) (dec v18) (dec v30)) v18 v30 fun v74 =>
f33 v74 h31 c32) (f33 wUnd h31 c32)) fun f29 =>
q_guardW false v12 (q_quoW 3 9223372036854775807 (binC Try.prog .quo 3 (.const (.int .i64 (.ofNat 32768))) (.tmp 22) (dec ⟨3, 32768, r0, []⟩) (dec v26)) ⟨3, 32768, r0, []⟩ v26 fun v75 =>
f29 v75 h27 c28) (f29 wUnd h27 c28)) fun f25 =>
q_guardW false v12 (q_loadSW h23 v22 fun v76 =>
f25 v76 h23 c24) (f25 wUnd h23 c24)) fun f21 =>
q_guardW false v12 (q_fadW 0 v8 fun v77 =>
f21 v77 h19 c20) (f21 wUnd h19 c20)) fun f17 =>
q_guardW false v12 (q_lenW (lenC tys 28 (dec v14)) v14 fun v78 =>
f17 v78 h15 c16) (f17 wUnd h15 c16)) fun f13 =>
q_guardW false v12 (f13 a0 h11 c10) (f13 wUnd h11 c10)
theorem R14_eq (Q : PrimW) (fu : Nat) (call : CallW) : curryA 2 (fnK Q Try.prog tys stl fu call e14) = R14 Q.share Q.addW Q.quoW Q.cmpW Q.notW Q.condW Q.guardW Q.pickW Q.fadW Q.idxSW Q.lenW Q.tupW Q.nthW Q.killVW Q.loadSW Q.loadAW Q.storeSW Q.storeAW Q.makeSW Q.allocW fu call := by kernel_rfl
noncomputable def n14 : List W → HW → Nat → KW → Bool := appF 2 (R14 (fun _ x f => f x) addW quoW cmpW notW condW guardW pickW fadW idxSW lenW tupW nthW killVW loadSW loadAW storeSW storeAW makeSW allocW 1000000 d6.fn)
theorem n14_ok : FnGood Try.prog tys stl tab 14 n14 := node_ok d6_ok (by kernel_rfl) rfl g14 (R14_eq real _ _)
/- foghorn/points.Coset -/
noncomputable def R16 (q_share : (α : Type) → α → (α → Bool) → Bool) (q_genW : Option CV → (W → Bool) → Bool) (q_cmpW : (Nat → Nat → Bool) → Nat → Option CV → W → W → (W → Bool) → Bool) (q_notW : Option CV → W → (W → Bool) → Bool) (q_icvW : Nat → Nat → Option CV → W → (W → Bool) → Bool) (q_condW : W → Bool → Bool → Bool) (q_guardW : Bool → W → Bool → Bool → Bool) (q_pickW : W → W → W → (W → Bool) → Bool) (q_tupW : W → (List W → Bool) → Bool) (q_nthW : Nat → List W → (W → Bool) → Bool) (q_killVW : W → HW → (HW → Bool) → Bool) (q_loadAW : Nat → HW → W → (W → Bool) → Bool) (q_storeAW : Nat → HW → W → W → (HW → Bool) → Bool) (q_allocW : Trie W → Nat → Bool → HW → Nat → KW → Bool) (fu : Nat) (call : CallW) (a0 : W) (a1 : W) (a2 : W) (h0 : HW) (c0 : Nat) (K : KW) : Bool :=
call 28 [a0] h0 c0 fun v1 h2 c3 =>
q_tupW v1 fun l4 => q_nthW 0 l4 fun v5 =>
q_tupW v1 fun l6 => q_nthW 1 l6 fun v7 =>
q_allocW (allocT tys 51) 5 true h2 c3 fun v8 h9 c10 =>
q_storeAW 5 h9 v8 v5 fun h11 =>
q_notW (two Try.prog (dec v7) (Op.unary .not)) v7 fun v12 =>
q_share _ (fun (v14 : W) (h15 : HW) (c16 : Nat) =>
q_share _ (fun (v18 : W) (h19 : HW) (c20 : Nat) =>
q_pickW v12 ⟨8, 1, r0, []⟩ v18 fun v21 =>
q_share _ (fun (v23 : W) (h24 : HW) (c25 : Nat) =>
q_share _ (fun (v27 : W) (h28 : HW) (c29 : Nat) =>
q_pickW v21 ⟨8, 1, r0, []⟩ v27 fun v30 =>
q_condW v30 (
q_killVW v8 h28 fun h31 =>
q_killVW wUnd h31 fun h32 =>
K ⟨13, 0, r0, [⟨3, 0, r0, []⟩, ⟨3, 1, r0, []⟩]⟩ h32 c29) (
q_loadAW 5 h28 v8 fun v33 =>
call 30 [v33, a1] h28 c29 fun v34 h35 c36 =>
q_tupW v34 fun l37 => q_nthW 0 l37 fun v38 =>
q_tupW v34 fun l39 => q_nthW 1 l39 fun v40 =>
q_notW (two Try.prog (dec v40) (Op.unary .not)) v40 fun v41 =>
q_condW v41 (
q_killVW v8 h35 fun h42 =>
q_killVW wUnd h42 fun h43 =>
K ⟨13, 0, r0, [⟨3, 0, r0, []⟩, ⟨3, 6, r0, []⟩]⟩ h43 c36) (
q_genW (two Try.prog (dec a1) fun v => Builtin.real_ #[31] 32 #[v]) fun v44 =>
q_genW (binC Try.prog .add 32 (.tmp 40) (.const (.float .f64 4607182418800017408)) (dec v44) (dec ⟨12, 0, ⟨0, 0, 0, .flt .f64 4607182418800017408⟩, []⟩)) fun v45 =>
q_genW (binC Try.prog .quo 32 (.tmp 41) (.const (.float .f64 4611686018427387904)) (dec v45) (dec ⟨12, 0, ⟨0, 0, 0, .flt .f64 4611686018427387904⟩, []⟩)) fun v46 =>
q_genW (two Try.prog (dec a1) fun v => Builtin.imag_ #[31] 32 #[v]) fun v47 =>
q_genW (binC Try.prog .add 32 (.tmp 44) (.const (.float .f64 4607182418800017408)) (dec v47) (dec ⟨12, 0, ⟨0, 0, 0, .flt .f64 4607182418800017408⟩, []⟩)) fun v48 =>
q_genW (binC Try.prog .quo 32 (.tmp 45) (.const (.float .f64 4611686018427387904)) (dec v48) (dec ⟨12, 0, ⟨0, 0, 0, .flt .f64 4611686018427387904⟩, []⟩)) fun v49 =>
q_genW (two2 Try.prog (dec v46) (dec v49) fun v u => Builtin.complex_ #[32, 32] 31 #[v, u]) fun v50 =>
call 32 [v50] h35 c36 fun v51 h52 c53 =>
q_tupW v51 fun l54 => q_nthW 0 l54 fun v55 =>
q_tupW v51 fun l56 => q_nthW 1 l56 fun v57 =>
q_allocW (allocT tys 60) 2 true h52 c53 fun v58 h59 c60 =>
q_storeAW 2 h59 v58 v55 fun h61 =>
q_cmpW (cmpF2 .neq) 3 (binC Try.prog .neq 25 (.tmp 51) (.const (.int .i64 (.ofNat 0))) (dec v57) (dec ⟨3, 0, r0, []⟩)) v57 ⟨3, 0, r0, []⟩ fun v62 =>
q_condW v62 (
q_killVW v8 h61 fun h63 =>
q_killVW v58 h63 fun h64 =>
K ⟨13, 0, r0, [⟨3, 0, r0, []⟩, v57]⟩ h64 c60) (
q_loadAW 2 h61 v58 fun v65 =>
call 33 [v65, a2] h61 c60 fun v66 h67 c68 =>
q_tupW v66 fun l69 => q_nthW 0 l69 fun v70 =>
q_tupW v66 fun l71 => q_nthW 1 l71 fun v72 =>
q_icvW 3 9223372036854775807 (convC Try.prog tys ⟨[], 0, decH h67, 0⟩ 63 3 (dec v70)) v70 fun v73 =>
q_killVW v8 h67 fun h74 =>
q_killVW v58 h74 fun h75 =>
K ⟨13, 0, r0, [v73, v72]⟩ h75 c68)))) fun f26 =>
q_guardW false v21 (q_cmpW (cmpF2 .gtr) 3 (binC Try.prog .gtr 3 (.tmp 27) (.const (.int .i64 (.ofNat 8))) (dec v23) (dec ⟨3, 8, r0, []⟩)) v23 ⟨3, 8, r0, []⟩ fun v76 =>
f26 v76 h24 c25) (f26 wUnd h24 c25)) fun f22 =>
q_guardW false v21 (f22 a2 h19 c20) (f22 wUnd h19 c20)) fun f17 =>
q_guardW false v12 (q_cmpW (cmpF2 .lss) 3 (binC Try.prog .lss 3 (.tmp 23) (.const (.int .i64 (.ofNat 0))) (dec v14) (dec ⟨3, 0, r0, []⟩)) v14 ⟨3, 0, r0, []⟩ fun v77 =>
f17 v77 h15 c16) (f17 wUnd h15 c16)) fun f13 =>
q_guardW false v12 (f13 a2 h11 c10) (f13 wUnd h11 c10)
theorem R16_eq (Q : PrimW) (fu : Nat) (call : CallW) : curryA 3 (fnK Q Try.prog tys stl fu call e16) = R16 Q.share Q.genW Q.cmpW Q.notW Q.icvW Q.condW Q.guardW Q.pickW Q.tupW Q.nthW Q.killVW Q.loadAW Q.storeAW Q.allocW fu call := by kernel_rfl
noncomputable def n16 : List W → HW → Nat → KW → Bool := appF 3 (R16 (fun _ x f => f x) genW cmpW notW icvW condW guardW pickW tupW nthW killVW loadAW storeAW allocW 1000000 d6.fn)
theorem n16_ok : FnGood Try.prog tys stl tab 16 n16 := node_ok d6_ok (by kernel_rfl) rfl g16 (R16_eq real _ _)
/- foghorn/points.Label -/
noncomputable def R25 (q_notW : Option CV → W → (W → Bool) → Bool) (q_condW : W → Bool → Bool → Bool) (q_tupW : W → (List W → Bool) → Bool) (q_nthW : Nat → List W → (W → Bool) → Bool) (q_killVW : W → HW → (HW → Bool) → Bool) (q_loadAW : Nat → HW → W → (W → Bool) → Bool) (q_storeAW : Nat → HW → W → W → (HW → Bool) → Bool) (q_allocW : Trie W → Nat → Bool → HW → Nat → KW → Bool) (fu : Nat) (call : CallW) (a0 : W) (a1 : W) (h0 : HW) (c0 : Nat) (K : KW) : Bool :=
call 28 [a0] h0 c0 fun v1 h2 c3 =>
q_tupW v1 fun l4 => q_nthW 0 l4 fun v5 =>
q_tupW v1 fun l6 => q_nthW 1 l6 fun v7 =>
q_allocW (allocT tys 51) 5 true h2 c3 fun v8 h9 c10 =>
q_storeAW 5 h9 v8 v5 fun h11 =>
q_notW (two Try.prog (dec v7) (Op.unary .not)) v7 fun v12 =>
q_condW v12 (
q_killVW v8 h11 fun h13 =>
K ⟨13, 0, r0, [⟨3, 0, r0, []⟩, ⟨3, 1, r0, []⟩]⟩ h13 c10) (
q_loadAW 5 h11 v8 fun v14 =>
call 30 [v14, a1] h11 c10 fun v15 h16 c17 =>
q_tupW v15 fun l18 => q_nthW 0 l18 fun v19 =>
q_tupW v15 fun l20 => q_nthW 1 l20 fun v21 =>
q_notW (two Try.prog (dec v21) (Op.unary .not)) v21 fun v22 =>
q_condW v22 (
q_killVW v8 h16 fun h23 =>
K ⟨13, 0, r0, [⟨3, 0, r0, []⟩, ⟨3, 6, r0, []⟩]⟩ h23 c17) (
q_killVW v8 h16 fun h24 =>
K ⟨13, 0, r0, [v19, ⟨3, 0, r0, []⟩]⟩ h24 c17))
theorem R25_eq (Q : PrimW) (fu : Nat) (call : CallW) : curryA 2 (fnK Q Try.prog tys stl fu call e25) = R25 Q.notW Q.condW Q.tupW Q.nthW Q.killVW Q.loadAW Q.storeAW Q.allocW fu call := by kernel_rfl
noncomputable def n25 : List W → HW → Nat → KW → Bool := appF 2 (R25 notW condW tupW nthW killVW loadAW storeAW allocW 1000000 d6.fn)
theorem n25_ok : FnGood Try.prog tys stl tab 25 n25 := node_ok d6_ok (by kernel_rfl) rfl g25 (R25_eq real _ _)
noncomputable def d7 : Disp := (.node 41 n41 (.node 25 n25 (.node 13 n13 (.node 10 n10 (.node 8 n8 (.node 7 n7 .leaf .leaf) (.node 9 n9 .leaf .leaf)) (.node 12 n12 (.node 11 n11 .leaf .leaf) .leaf)) (.node 17 n17 (.node 15 n15 (.node 14 n14 .leaf .leaf) (.node 16 n16 .leaf .leaf)) (.node 24 n24 (.node 23 n23 .leaf .leaf) .leaf))) (.node 33 n33 (.node 30 n30 (.node 28 n28 (.node 27 n27 .leaf .leaf) (.node 29 n29 .leaf .leaf)) (.node 32 n32 (.node 31 n31 .leaf .leaf) .leaf)) (.node 38 n38 (.node 37 n37 (.node 36 n36 .leaf .leaf) .leaf) (.node 40 n40 (.node 39 n39 .leaf .leaf) .leaf)))) (.node 56 n56 (.node 48 n48 (.node 45 n45 (.node 43 n43 (.node 42 n42 .leaf .leaf) (.node 44 n44 .leaf .leaf)) (.node 47 n47 (.node 46 n46 .leaf .leaf) .leaf)) (.node 53 n53 (.node 52 n52 (.node 51 n51 .leaf .leaf) .leaf) (.node 55 n55 (.node 54 n54 .leaf .leaf) .leaf))) (.node 65 n65 (.node 62 n62 (.node 60 n60 (.node 59 n59 .leaf .leaf) (.node 61 n61 .leaf .leaf)) (.node 64 n64 (.node 63 n63 .leaf .leaf) .leaf)) (.node 69 n69 (.node 68 n68 (.node 66 n66 .leaf .leaf) .leaf) (.node 72 n72 (.node 70 n70 .leaf .leaf) .leaf)))))
theorem d7_ok : CallSim Try.prog tys stl tab d7.fn := Disp.sim ⟨n41_ok, ⟨n25_ok, ⟨n13_ok, ⟨n10_ok, ⟨n8_ok, ⟨n7_ok, True.intro, True.intro⟩, ⟨n9_ok, True.intro, True.intro⟩⟩, ⟨n12_ok, ⟨n11_ok, True.intro, True.intro⟩, True.intro⟩⟩, ⟨n17_ok, ⟨n15_ok, ⟨n14_ok, True.intro, True.intro⟩, ⟨n16_ok, True.intro, True.intro⟩⟩, ⟨n24_ok, ⟨n23_ok, True.intro, True.intro⟩, True.intro⟩⟩⟩, ⟨n33_ok, ⟨n30_ok, ⟨n28_ok, ⟨n27_ok, True.intro, True.intro⟩, ⟨n29_ok, True.intro, True.intro⟩⟩, ⟨n32_ok, ⟨n31_ok, True.intro, True.intro⟩, True.intro⟩⟩, ⟨n38_ok, ⟨n37_ok, ⟨n36_ok, True.intro, True.intro⟩, True.intro⟩, ⟨n40_ok, ⟨n39_ok, True.intro, True.intro⟩, True.intro⟩⟩⟩⟩, ⟨n56_ok, ⟨n48_ok, ⟨n45_ok, ⟨n43_ok, ⟨n42_ok, True.intro, True.intro⟩, ⟨n44_ok, True.intro, True.intro⟩⟩, ⟨n47_ok, ⟨n46_ok, True.intro, True.intro⟩, True.intro⟩⟩, ⟨n53_ok, ⟨n52_ok, ⟨n51_ok, True.intro, True.intro⟩, True.intro⟩, ⟨n55_ok, ⟨n54_ok, True.intro, True.intro⟩, True.intro⟩⟩⟩, ⟨n65_ok, ⟨n62_ok, ⟨n60_ok, ⟨n59_ok, True.intro, True.intro⟩, ⟨n61_ok, True.intro, True.intro⟩⟩, ⟨n64_ok, ⟨n63_ok, True.intro, True.intro⟩, True.intro⟩⟩, ⟨n69_ok, ⟨n68_ok, ⟨n66_ok, True.intro, True.intro⟩, True.intro⟩, ⟨n72_ok, ⟨n70_ok, True.intro, True.intro⟩, True.intro⟩⟩⟩⟩⟩
/- foghorn/points.Turned -/
noncomputable def R26 (q_cmpW : (Nat → Nat → Bool) → Nat → Option CV → W → W → (W → Bool) → Bool) (q_condW : W → Bool → Bool → Bool) (q_tupW : W → (List W → Bool) → Bool) (q_nthW : Nat → List W → (W → Bool) → Bool) (fu : Nat) (call : CallW) (a0 : W) (a1 : W) (a2 : W) (h0 : HW) (c0 : Nat) (K : KW) : Bool :=
call 24 [a0, a1] h0 c0 fun v1 h2 c3 =>
q_tupW v1 fun l4 => q_nthW 0 l4 fun v5 =>
q_tupW v1 fun l6 => q_nthW 1 l6 fun v7 =>
q_cmpW (cmpF2 .neq) 3 (binC Try.prog .neq 25 (.tmp 16) (.const (.int .i64 (.ofNat 0))) (dec v7) (dec ⟨3, 0, r0, []⟩)) v7 ⟨3, 0, r0, []⟩ fun v8 =>
q_condW v8 (
K ⟨13, 0, r0, [⟨3, 0, r0, []⟩, v7]⟩ h2 c3) (
call 36 [v5, a2] h2 c3 fun v9 h10 c11 =>
call 25 [a0, v9] h10 c11 fun v12 h13 c14 =>
q_tupW v12 fun l15 => q_nthW 0 l15 fun v16 =>
q_tupW v12 fun l17 => q_nthW 1 l17 fun v18 =>
K ⟨13, 0, r0, [v16, v18]⟩ h13 c14)
theorem R26_eq (Q : PrimW) (fu : Nat) (call : CallW) : curryA 3 (fnK Q Try.prog tys stl fu call e26) = R26 Q.cmpW Q.condW Q.tupW Q.nthW fu call := by kernel_rfl
noncomputable def n26 : List W → HW → Nat → KW → Bool := appF 3 (R26 cmpW condW tupW nthW 1000000 d7.fn)
theorem n26_ok : FnGood Try.prog tys stl tab 26 n26 := node_ok d7_ok (by kernel_rfl) rfl g26 (R26_eq real _ _)
noncomputable def d8 : Disp := (.node 40 n40 (.node 25 n25 (.node 13 n13 (.node 10 n10 (.node 8 n8 (.node 7 n7 .leaf .leaf) (.node 9 n9 .leaf .leaf)) (.node 12 n12 (.node 11 n11 .leaf .leaf) .leaf)) (.node 17 n17 (.node 15 n15 (.node 14 n14 .leaf .leaf) (.node 16 n16 .leaf .leaf)) (.node 24 n24 (.node 23 n23 .leaf .leaf) .leaf))) (.node 32 n32 (.node 29 n29 (.node 27 n27 (.node 26 n26 .leaf .leaf) (.node 28 n28 .leaf .leaf)) (.node 31 n31 (.node 30 n30 .leaf .leaf) .leaf)) (.node 37 n37 (.node 36 n36 (.node 33 n33 .leaf .leaf) .leaf) (.node 39 n39 (.node 38 n38 .leaf .leaf) .leaf)))) (.node 56 n56 (.node 47 n47 (.node 44 n44 (.node 42 n42 (.node 41 n41 .leaf .leaf) (.node 43 n43 .leaf .leaf)) (.node 46 n46 (.node 45 n45 .leaf .leaf) .leaf)) (.node 53 n53 (.node 51 n51 (.node 48 n48 .leaf .leaf) (.node 52 n52 .leaf .leaf)) (.node 55 n55 (.node 54 n54 .leaf .leaf) .leaf))) (.node 65 n65 (.node 62 n62 (.node 60 n60 (.node 59 n59 .leaf .leaf) (.node 61 n61 .leaf .leaf)) (.node 64 n64 (.node 63 n63 .leaf .leaf) .leaf)) (.node 69 n69 (.node 68 n68 (.node 66 n66 .leaf .leaf) .leaf) (.node 72 n72 (.node 70 n70 .leaf .leaf) .leaf)))))
theorem d8_ok : CallSim Try.prog tys stl tab d8.fn := Disp.sim ⟨n40_ok, ⟨n25_ok, ⟨n13_ok, ⟨n10_ok, ⟨n8_ok, ⟨n7_ok, True.intro, True.intro⟩, ⟨n9_ok, True.intro, True.intro⟩⟩, ⟨n12_ok, ⟨n11_ok, True.intro, True.intro⟩, True.intro⟩⟩, ⟨n17_ok, ⟨n15_ok, ⟨n14_ok, True.intro, True.intro⟩, ⟨n16_ok, True.intro, True.intro⟩⟩, ⟨n24_ok, ⟨n23_ok, True.intro, True.intro⟩, True.intro⟩⟩⟩, ⟨n32_ok, ⟨n29_ok, ⟨n27_ok, ⟨n26_ok, True.intro, True.intro⟩, ⟨n28_ok, True.intro, True.intro⟩⟩, ⟨n31_ok, ⟨n30_ok, True.intro, True.intro⟩, True.intro⟩⟩, ⟨n37_ok, ⟨n36_ok, ⟨n33_ok, True.intro, True.intro⟩, True.intro⟩, ⟨n39_ok, ⟨n38_ok, True.intro, True.intro⟩, True.intro⟩⟩⟩⟩, ⟨n56_ok, ⟨n47_ok, ⟨n44_ok, ⟨n42_ok, ⟨n41_ok, True.intro, True.intro⟩, ⟨n43_ok, True.intro, True.intro⟩⟩, ⟨n46_ok, ⟨n45_ok, True.intro, True.intro⟩, True.intro⟩⟩, ⟨n53_ok, ⟨n51_ok, ⟨n48_ok, True.intro, True.intro⟩, ⟨n52_ok, True.intro, True.intro⟩⟩, ⟨n55_ok, ⟨n54_ok, True.intro, True.intro⟩, True.intro⟩⟩⟩, ⟨n65_ok, ⟨n62_ok, ⟨n60_ok, ⟨n59_ok, True.intro, True.intro⟩, ⟨n61_ok, True.intro, True.intro⟩⟩, ⟨n64_ok, ⟨n63_ok, True.intro, True.intro⟩, True.intro⟩⟩, ⟨n69_ok, ⟨n68_ok, ⟨n66_ok, True.intro, True.intro⟩, True.intro⟩, ⟨n72_ok, ⟨n70_ok, True.intro, True.intro⟩, True.intro⟩⟩⟩⟩⟩
/- foghorn/foghornlaw04.works -/
noncomputable def R6 (q_share : (α : Type) → α → (α → Bool) → Bool) (q_genW : Option CV → (W → Bool) → Bool) (q_cmpW : (Nat → Nat → Bool) → Nat → Option CV → W → W → (W → Bool) → Bool) (q_guardW : Bool → W → Bool → Bool → Bool) (q_pickW : W → W → W → (W → Bool) → Bool) (q_lenW : Option CV → W → (W → Bool) → Bool) (q_tupW : W → (List W → Bool) → Bool) (q_nthW : Nat → List W → (W → Bool) → Bool) (q_buildSW : Nat → Nat → Kind → Nat → Bool → HW → Nat → Nat → List W → KW → Bool) (fu : Nat) (call : CallW) (h0 : HW) (c0 : Nat) (K : KW) : Bool :=
call 24 [⟨3, 16, r0, []⟩, ⟨3, 2, r0, []⟩] h0 c0 fun v1 h2 c3 =>
q_tupW v1 fun l4 => q_nthW 0 l4 fun v5 =>
q_tupW v1 fun l6 => q_nthW 1 l6 fun v7 =>
call 25 [⟨3, 16, r0, []⟩, ⟨12, 0, ⟨0, 0, 0, .cpx .f64 4607182418800017408 13837309855095848960⟩, []⟩] h2 c3 fun v8 h9 c10 =>
q_tupW v8 fun l11 => q_nthW 0 l11 fun v12 =>
q_tupW v8 fun l13 => q_nthW 1 l13 fun v14 =>
call 16 [⟨3, 16, r0, []⟩, ⟨12, 0, ⟨0, 0, 0, .cpx .f64 4607182418800017408 4607182418800017408⟩, []⟩, ⟨3, 4, r0, []⟩] h9 c10 fun v15 h16 c17 =>
q_tupW v15 fun l18 => q_nthW 0 l18 fun v19 =>
q_tupW v15 fun l20 => q_nthW 1 l20 fun v21 =>
call 8 [⟨3, 32, r0, []⟩] h16 c17 fun v22 h23 c24 =>
q_tupW v22 fun l25 => q_nthW 0 l25 fun v26 =>
q_tupW v22 fun l27 => q_nthW 1 l27 fun v28 =>
q_buildSW 1 8 .bools 4 true h23 c24 4 [⟨8, 0, r0, []⟩, ⟨8, 0, r0, []⟩, ⟨8, 1, r0, []⟩, ⟨8, 1, r0, []⟩] fun v29 h30 c31 =>
call 13 [v29, ⟨3, 4, r0, []⟩] h30 c31 fun v32 h33 c34 =>
q_tupW v32 fun l35 => q_nthW 0 l35 fun v36 =>
q_tupW v32 fun l37 => q_nthW 1 l37 fun v38 =>
call 26 [⟨3, 4, r0, []⟩, ⟨3, 0, r0, []⟩, ⟨3, 1, r0, []⟩] h33 c34 fun v39 h40 c41 =>
q_tupW v39 fun l42 => q_nthW 0 l42 fun v43 =>
q_tupW v39 fun l44 => q_nthW 1 l44 fun v45 =>
q_cmpW (cmpF2 .eql) 3 (binC Try.prog .eql 25 (.tmp 38) (.const (.int .i64 (.ofNat 0))) (dec v7) (dec ⟨3, 0, r0, []⟩)) v7 ⟨3, 0, r0, []⟩ fun v46 =>
q_share _ (fun (v48 : W) (h49 : HW) (c50 : Nat) =>
q_share _ (fun (v52 : W) (h53 : HW) (c54 : Nat) =>
q_pickW v46 v52 ⟨8, 0, r0, []⟩ fun v55 =>
q_share _ (fun (v57 : W) (h58 : HW) (c59 : Nat) =>
q_share _ (fun (v61 : W) (h62 : HW) (c63 : Nat) =>
q_pickW v55 v61 ⟨8, 0, r0, []⟩ fun v64 =>
q_share _ (fun (v66 : W) (h67 : HW) (c68 : Nat) =>
q_share _ (fun (v70 : W) (h71 : HW) (c72 : Nat) =>
q_pickW v64 v70 ⟨8, 0, r0, []⟩ fun v73 =>
q_share _ (fun (v75 : W) (h76 : HW) (c77 : Nat) =>
q_share _ (fun (v79 : W) (h80 : HW) (c81 : Nat) =>
q_pickW v73 v79 ⟨8, 0, r0, []⟩ fun v82 =>
q_share _ (fun (v84 : W) (h85 : HW) (c86 : Nat) =>
q_share _ (fun (v88 : W) (h89 : HW) (c90 : Nat) =>
q_pickW v82 v88 ⟨8, 0, r0, []⟩ fun v91 =>
q_share _ (fun (v93 : W) (h94 : HW) (c95 : Nat) =>
q_share _ (fun (v97 : W) (h98 : HW) (c99 : Nat) =>
q_pickW v91 v97 ⟨8, 0, r0, []⟩ fun v100 =>
q_share _ (fun (v102 : W) (h103 : HW) (c104 : Nat) =>
q_share _ (fun (v106 : W) (h107 : HW) (c108 : Nat) =>
q_pickW v100 v106 ⟨8, 0, r0, []⟩ fun v109 =>
q_share _ (fun (v111 : W) (h112 : HW) (c113 : Nat) =>
q_share _ (fun (v115 : W) (h116 : HW) (c117 : Nat) =>
q_pickW v109 v115 ⟨8, 0, r0, []⟩ fun v118 =>
q_share _ (fun (v120 : W) (h121 : HW) (c122 : Nat) =>
q_share _ (fun (v124 : W) (h125 : HW) (c126 : Nat) =>
q_pickW v118 v124 ⟨8, 0, r0, []⟩ fun v127 =>
q_share _ (fun (v129 : W) (h130 : HW) (c131 : Nat) =>
q_share _ (fun (v133 : W) (h134 : HW) (c135 : Nat) =>
q_share _ (fun (v137 : W) (h138 : HW) (c139 : Nat) =>
q_pickW v127 v137 ⟨8, 0, r0, []⟩ fun v140 =>
q_share _ (fun (v142 : W) (h143 : HW) (c144 : Nat) =>
q_share _ (fun (v146 : W) (h147 : HW) (c148 : Nat) =>
q_pickW v140 v146 ⟨8, 0, r0, []⟩ fun v149 =>
q_share _ (fun (v151 : W) (h152 : HW) (c153 : Nat) =>
q_share _ (fun (v155 : W) (h156 : HW) (c157 : Nat) =>
q_share _ (fun (v159 : W) (h160 : HW) (c161 : Nat) =>
q_pickW v149 v159 ⟨8, 0, r0, []⟩ fun v162 =>
K v162 h160 c161) fun f158 =>
q_guardW true v149 (q_cmpW (cmpF2 .eql) 3 (binC Try.prog .eql 3 (.tmp 87) (.const (.int .i64 (.ofNat 6))) (dec v155) (dec ⟨3, 6, r0, []⟩)) v155 ⟨3, 6, r0, []⟩ fun v163 =>
f158 v163 h156 c157) (f158 wUnd h156 c157)) fun f154 =>
q_guardW true v149 (q_lenW (lenC tys 22 (dec v151)) v151 fun v164 =>
f154 v164 h152 c153) (f154 wUnd h152 c153)) fun f150 =>
q_guardW true v149 (call 17 [] h147 c148 fun v165 h166 c167 =>
f150 v165 h166 c167) (f150 wUnd h147 c148)) fun f145 =>
q_guardW true v140 (q_cmpW (cmpF2 .eql) 3 (binC Try.prog .eql 3 (.tmp 82) (.const (.int .i64 (.ofNat 2))) (dec v142) (dec ⟨3, 2, r0, []⟩)) v142 ⟨3, 2, r0, []⟩ fun v168 =>
f145 v168 h143 c144) (f145 wUnd h143 c144)) fun f141 =>
q_guardW true v140 (f141 v43 h138 c139) (f141 wUnd h138 c139)) fun f136 =>
q_guardW true v127 (call 23 [v129, v133] h134 c135 fun v169 h170 c171 =>
f136 v169 h170 c171) (f136 wUnd h134 c135)) fun f132 =>
q_guardW true v127 (q_buildSW 1 99 (.cpxs .f64) 2 true h130 c131 2 [⟨12, 0, ⟨0, 0, 0, .cpx .f64 13830554455654793216 13830554455654793216⟩, []⟩, ⟨12, 0, ⟨0, 0, 0, .cpx .f64 4607182418800017408 4607182418800017408⟩, []⟩] fun v172 h173 c174 =>
f132 v172 h173 c174) (f132 wUnd h130 c131)) fun f128 =>
q_guardW true v127 (f128 v36 h125 c126) (f128 wUnd h125 c126)) fun f123 =>
q_guardW true v118 (q_cmpW (cmpF2 .eql) 3 (binC Try.prog .eql 3 (.tmp 73) (.const (.int .i64 (.ofNat 640))) (dec v120) (dec ⟨3, 640, r0, []⟩)) v120 ⟨3, 640, r0, []⟩ fun v175 =>
f123 v175 h121 c122) (f123 wUnd h121 c122)) fun f119 =>
q_guardW true v118 (f119 v26 h116 c117) (f119 wUnd h116 c117)) fun f114 =>
q_guardW true v109 (q_cmpW (cmpF2 .eql) 3 (binC Try.prog .eql 3 (.tmp 69) (.const (.int .i64 (.ofNat 2))) (dec v111) (dec ⟨3, 2, r0, []⟩)) v111 ⟨3, 2, r0, []⟩ fun v176 =>
f114 v176 h112 c113) (f114 wUnd h112 c113)) fun f110 =>
q_guardW true v109 (f110 v19 h107 c108) (f110 wUnd h107 c108)) fun f105 =>
q_guardW true v100 (q_cmpW (cmpF2 .eql) 3 (binC Try.prog .eql 3 (.tmp 65) (.const (.int .i64 (.ofNat 12))) (dec v102) (dec ⟨3, 12, r0, []⟩)) v102 ⟨3, 12, r0, []⟩ fun v177 =>
f105 v177 h103 c104) (f105 wUnd h103 c104)) fun f101 =>
q_guardW true v100 (f101 v12 h98 c99) (f101 wUnd h98 c99)) fun f96 =>
q_guardW true v91 (q_genW (binC Try.prog .eql 31 (.tmp 61) (.const (.complex .f64 13837309855095848960 4613937818241073152)) (dec v93) (dec ⟨12, 0, ⟨0, 0, 0, .cpx .f64 13837309855095848960 4613937818241073152⟩, []⟩)) fun v178 =>
f96 v178 h94 c95) (f96 wUnd h94 c95)) fun f92 =>
q_guardW true v91 (f92 v5 h89 c90) (f92 wUnd h89 c90)) fun f87 =>
q_guardW true v82 (q_cmpW (cmpF2 .eql) 3 (binC Try.prog .eql 25 (.tmp 57) (.const (.int .i64 (.ofNat 0))) (dec v84) (dec ⟨3, 0, r0, []⟩)) v84 ⟨3, 0, r0, []⟩ fun v179 =>
f87 v179 h85 c86) (f87 wUnd h85 c86)) fun f83 =>
q_guardW true v82 (f83 v45 h80 c81) (f83 wUnd h80 c81)) fun f78 =>
q_guardW true v73 (q_cmpW (cmpF2 .eql) 3 (binC Try.prog .eql 25 (.tmp 53) (.const (.int .i64 (.ofNat 0))) (dec v75) (dec ⟨3, 0, r0, []⟩)) v75 ⟨3, 0, r0, []⟩ fun v180 =>
f78 v180 h76 c77) (f78 wUnd h76 c77)) fun f74 =>
q_guardW true v73 (f74 v38 h71 c72) (f74 wUnd h71 c72)) fun f69 =>
q_guardW true v64 (q_cmpW (cmpF2 .eql) 3 (binC Try.prog .eql 25 (.tmp 49) (.const (.int .i64 (.ofNat 0))) (dec v66) (dec ⟨3, 0, r0, []⟩)) v66 ⟨3, 0, r0, []⟩ fun v181 =>
f69 v181 h67 c68) (f69 wUnd h67 c68)) fun f65 =>
q_guardW true v64 (f65 v28 h62 c63) (f65 wUnd h62 c63)) fun f60 =>
q_guardW true v55 (q_cmpW (cmpF2 .eql) 3 (binC Try.prog .eql 25 (.tmp 45) (.const (.int .i64 (.ofNat 0))) (dec v57) (dec ⟨3, 0, r0, []⟩)) v57 ⟨3, 0, r0, []⟩ fun v182 =>
f60 v182 h58 c59) (f60 wUnd h58 c59)) fun f56 =>
q_guardW true v55 (f56 v21 h53 c54) (f56 wUnd h53 c54)) fun f51 =>
q_guardW true v46 (q_cmpW (cmpF2 .eql) 3 (binC Try.prog .eql 25 (.tmp 41) (.const (.int .i64 (.ofNat 0))) (dec v48) (dec ⟨3, 0, r0, []⟩)) v48 ⟨3, 0, r0, []⟩ fun v183 =>
f51 v183 h49 c50) (f51 wUnd h49 c50)) fun f47 =>
q_guardW true v46 (f47 v14 h40 c41) (f47 wUnd h40 c41)
theorem R6_eq (Q : PrimW) (fu : Nat) (call : CallW) : curryA 0 (fnK Q Try.prog tys stl fu call e6) = R6 Q.share Q.genW Q.cmpW Q.guardW Q.pickW Q.lenW Q.tupW Q.nthW Q.buildSW fu call := by kernel_rfl
noncomputable def n6 : List W → HW → Nat → KW → Bool := appF 0 (R6 (fun _ x f => f x) genW cmpW guardW pickW lenW tupW nthW buildSW 1000000 d8.fn)
theorem n6_ok : FnGood Try.prog tys stl tab 6 n6 := node_ok d8_ok (by kernel_rfl) rfl g6 (R6_eq real _ _)
noncomputable def d9 : Disp := (.node 40 n40 (.node 24 n24 (.node 12 n12 (.node 9 n9 (.node 7 n7 (.node 6 n6 .leaf .leaf) (.node 8 n8 .leaf .leaf)) (.node 11 n11 (.node 10 n10 .leaf .leaf) .leaf)) (.node 16 n16 (.node 14 n14 (.node 13 n13 .leaf .leaf) (.node 15 n15 .leaf .leaf)) (.node 23 n23 (.node 17 n17 .leaf .leaf) .leaf))) (.node 31 n31 (.node 28 n28 (.node 26 n26 (.node 25 n25 .leaf .leaf) (.node 27 n27 .leaf .leaf)) (.node 30 n30 (.node 29 n29 .leaf .leaf) .leaf)) (.node 37 n37 (.node 33 n33 (.node 32 n32 .leaf .leaf) (.node 36 n36 .leaf .leaf)) (.node 39 n39 (.node 38 n38 .leaf .leaf) .leaf)))) (.node 56 n56 (.node 47 n47 (.node 44 n44 (.node 42 n42 (.node 41 n41 .leaf .leaf) (.node 43 n43 .leaf .leaf)) (.node 46 n46 (.node 45 n45 .leaf .leaf) .leaf)) (.node 53 n53 (.node 51 n51 (.node 48 n48 .leaf .leaf) (.node 52 n52 .leaf .leaf)) (.node 55 n55 (.node 54 n54 .leaf .leaf) .leaf))) (.node 65 n65 (.node 62 n62 (.node 60 n60 (.node 59 n59 .leaf .leaf) (.node 61 n61 .leaf .leaf)) (.node 64 n64 (.node 63 n63 .leaf .leaf) .leaf)) (.node 69 n69 (.node 68 n68 (.node 66 n66 .leaf .leaf) .leaf) (.node 72 n72 (.node 70 n70 .leaf .leaf) .leaf)))))
theorem d9_ok : CallSim Try.prog tys stl tab d9.fn := Disp.sim ⟨n40_ok, ⟨n24_ok, ⟨n12_ok, ⟨n9_ok, ⟨n7_ok, ⟨n6_ok, True.intro, True.intro⟩, ⟨n8_ok, True.intro, True.intro⟩⟩, ⟨n11_ok, ⟨n10_ok, True.intro, True.intro⟩, True.intro⟩⟩, ⟨n16_ok, ⟨n14_ok, ⟨n13_ok, True.intro, True.intro⟩, ⟨n15_ok, True.intro, True.intro⟩⟩, ⟨n23_ok, ⟨n17_ok, True.intro, True.intro⟩, True.intro⟩⟩⟩, ⟨n31_ok, ⟨n28_ok, ⟨n26_ok, ⟨n25_ok, True.intro, True.intro⟩, ⟨n27_ok, True.intro, True.intro⟩⟩, ⟨n30_ok, ⟨n29_ok, True.intro, True.intro⟩, True.intro⟩⟩, ⟨n37_ok, ⟨n33_ok, ⟨n32_ok, True.intro, True.intro⟩, ⟨n36_ok, True.intro, True.intro⟩⟩, ⟨n39_ok, ⟨n38_ok, True.intro, True.intro⟩, True.intro⟩⟩⟩⟩, ⟨n56_ok, ⟨n47_ok, ⟨n44_ok, ⟨n42_ok, ⟨n41_ok, True.intro, True.intro⟩, ⟨n43_ok, True.intro, True.intro⟩⟩, ⟨n46_ok, ⟨n45_ok, True.intro, True.intro⟩, True.intro⟩⟩, ⟨n53_ok, ⟨n51_ok, ⟨n48_ok, True.intro, True.intro⟩, ⟨n52_ok, True.intro, True.intro⟩⟩, ⟨n55_ok, ⟨n54_ok, True.intro, True.intro⟩, True.intro⟩⟩⟩, ⟨n65_ok, ⟨n62_ok, ⟨n60_ok, ⟨n59_ok, True.intro, True.intro⟩, ⟨n61_ok, True.intro, True.intro⟩⟩, ⟨n64_ok, ⟨n63_ok, True.intro, True.intro⟩, True.intro⟩⟩, ⟨n69_ok, ⟨n68_ok, ⟨n66_ok, True.intro, True.intro⟩, True.intro⟩, ⟨n72_ok, ⟨n70_ok, True.intro, True.intro⟩, True.intro⟩⟩⟩⟩⟩
/- foghorn/foghornlaw04.PointsNames -/
noncomputable def R3 (q_share : (α : Type) → α → (α → Bool) → Bool) (q_genW : Option CV → (W → Bool) → Bool) (q_addW : Nat → Nat → Option CV → W → W → (W → Bool) → Bool) (q_mulW : Nat → Nat → Option CV → W → W → (W → Bool) → Bool) (q_remW : Nat → Nat → Option CV → W → W → (W → Bool) → Bool) (q_cmpW : (Nat → Nat → Bool) → Nat → Option CV → W → W → (W → Bool) → Bool) (q_shlW : Nat → Nat → Nat → Option CV → W → W → (W → Bool) → Bool) (q_notW : Option CV → W → (W → Bool) → Bool) (q_condW : W → Bool → Bool → Bool) (q_guardW : Bool → W → Bool → Bool → Bool) (q_pickW : W → W → W → (W → Bool) → Bool) (q_idxSW : Nat → W → W → (W → Bool) → Bool) (q_lenW : Option CV → W → (W → Bool) → Bool) (q_tupW : W → (List W → Bool) → Bool) (q_nthW : Nat → List W → (W → Bool) → Bool) (q_detW : W → Bool → Bool) (q_killVW : W → HW → (HW → Bool) → Bool) (q_loadSW : HW → W → (W → Bool) → Bool) (q_makeSW : Nat → Nat → Nat → Kind → List W → Bool → HW → Nat → W → W → KW → Bool) (q_buildSW : Nat → Nat → Kind → Nat → Bool → HW → Nat → Nat → List W → KW → Bool) (q_appSW : Nat → Nat → (Kind → Bool) → Bool → HW → Nat → W → W → Bool → KW → Bool) (q_appZW : Nat → Nat → (Kind → Bool) → Nat → Kind → List W → (Nat → Bool) → HW → Nat → W → W → KW → Bool) (q_samQW : W → W → Bool → Bool) (fu : Nat) (call : CallW) (h0 : HW) (c0 : Nat) (K : KW) : Bool :=
q_buildSW 1 3 (.ints .i64) 6 true h0 c0 6 [⟨3, 8, r0, []⟩, ⟨3, 160, r0, []⟩, ⟨3, 640, r0, []⟩, ⟨3, 2688, r0, []⟩, ⟨3, 10496, r0, []⟩, ⟨3, 43520, r0, []⟩] fun v1 h2 c3 =>
call 6 [] h2 c3 fun v4 h5 c6 =>
q_notW (two Try.prog (dec v4) (Op.unary .not)) v4 fun v7 =>
q_condW v7 (
K ⟨8, 0, r0, []⟩ h5 c6) (
@Nat.rec (fun _ => Fun 1) (fun _ _ _ => false) (fun _ f11 v8 h9 c10 =>
q_cmpW (cmpF2 .lss) 3 (binC Try.prog .lss 3 (.tmp 31) (.const (.int .i64 (.ofNat 6))) (dec v8) (dec ⟨3, 6, r0, []⟩)) v8 ⟨3, 6, r0, []⟩ fun v12 =>
q_condW v12 (
call 7 [v8] h9 c10 fun v13 h14 c15 =>
call 8 [v13] h14 c15 fun v16 h17 c18 =>
q_tupW v16 fun l19 => q_nthW 0 l19 fun v20 =>
q_tupW v16 fun l21 => q_nthW 1 l21 fun v22 =>
call 9 [v13] h17 c18 fun v23 h24 c25 =>
q_tupW v23 fun l26 => q_nthW 0 l26 fun v27 =>
q_tupW v23 fun l28 => q_nthW 1 l28 fun v29 =>
call 10 [v13] h24 c25 fun v30 h31 c32 =>
q_tupW v30 fun l33 => q_nthW 0 l33 fun v34 =>
q_tupW v30 fun l35 => q_nthW 1 l35 fun v36 =>
call 11 [v13] h31 c32 fun v37 h38 c39 =>
q_tupW v37 fun l40 => q_nthW 0 l40 fun v41 =>
q_tupW v37 fun l42 => q_nthW 1 l42 fun v43 =>
q_cmpW (cmpF2 .neq) 3 (binC Try.prog .neq 25 (.tmp 57) (.const (.int .i64 (.ofNat 0))) (dec v22) (dec ⟨3, 0, r0, []⟩)) v22 ⟨3, 0, r0, []⟩ fun v44 =>
q_share _ (fun (v46 : W) (h47 : HW) (c48 : Nat) =>
q_share _ (fun (v50 : W) (h51 : HW) (c52 : Nat) =>
q_pickW v44 ⟨8, 1, r0, []⟩ v50 fun v53 =>
q_share _ (fun (v55 : W) (h56 : HW) (c57 : Nat) =>
q_share _ (fun (v59 : W) (h60 : HW) (c61 : Nat) =>
q_pickW v53 ⟨8, 1, r0, []⟩ v59 fun v62 =>
q_share _ (fun (v64 : W) (h65 : HW) (c66 : Nat) =>
q_share _ (fun (v68 : W) (h69 : HW) (c70 : Nat) =>
q_pickW v62 ⟨8, 1, r0, []⟩ v68 fun v71 =>
q_share _ (fun (v73 : W) (h74 : HW) (c75 : Nat) =>
q_share _ (fun (v77 : W) (h78 : HW) (c79 : Nat) =>
q_share _ (fun (v81 : W) (h82 : HW) (c83 : Nat) =>
q_share _ (fun (v85 : W) (h86 : HW) (c87 : Nat) =>
q_share _ (fun (v89 : W) (h90 : HW) (c91 : Nat) =>
q_share _ (fun (v93 : W) (h94 : HW) (c95 : Nat) =>
q_pickW v71 ⟨8, 1, r0, []⟩ v93 fun v96 =>
q_share _ (fun (v98 : W) (h99 : HW) (c100 : Nat) =>
q_share _ (fun (v102 : W) (h103 : HW) (c104 : Nat) =>
q_share _ (fun (v106 : W) (h107 : HW) (c108 : Nat) =>
q_share _ (fun (v110 : W) (h111 : HW) (c112 : Nat) =>
q_pickW v96 ⟨8, 1, r0, []⟩ v110 fun v113 =>
q_share _ (fun (v115 : W) (h116 : HW) (c117 : Nat) =>
q_share _ (fun (v119 : W) (h120 : HW) (c121 : Nat) =>
q_share _ (fun (v123 : W) (h124 : HW) (c125 : Nat) =>
q_share _ (fun (v127 : W) (h128 : HW) (c129 : Nat) =>
q_pickW v113 ⟨8, 1, r0, []⟩ v127 fun v130 =>
q_share _ (fun (v132 : W) (h133 : HW) (c134 : Nat) =>
q_share _ (fun (v136 : W) (h137 : HW) (c138 : Nat) =>
q_share _ (fun (v140 : W) (h141 : HW) (c142 : Nat) =>
q_pickW v130 ⟨8, 1, r0, []⟩ v140 fun v143 =>
q_condW v143 (
K ⟨8, 0, r0, []⟩ h141 c142) (
@Nat.rec (fun _ => Fun 3) (fun _ _ _ _ _ => false) (fun _ f149 v144 v145 v146 h147 c148 =>
q_cmpW (cmpF2 .lss) 3 (binC Try.prog .lss 3 (.tmp 96) (.tmp 97) (dec v146) (dec v13)) v146 v13 fun v150 =>
q_condW v150 (
q_idxSW 1 v34 v146 fun v151 =>
q_loadSW h147 v151 fun v152 =>
q_genW (binC Try.prog .add 31 (.tmp 101) (.tmp 105) (dec v144) (dec v152)) fun v153 =>
q_idxSW 1 v34 v146 fun v154 =>
q_loadSW h147 v154 fun v155 =>
call 12 [v155] h147 c148 fun v156 h157 c158 =>
q_genW (two2 Try.prog (dec v145) (dec v156) fun v u => Builtin.max_ #[32, 32] 32 #[v, u]) fun v159 =>
q_addW 3 9223372036854775807 (binC Try.prog .add 3 (.tmp 99) (.const (.int .i64 (.ofNat 1))) (dec v146) (dec ⟨3, 1, r0, []⟩)) v146 ⟨3, 1, r0, []⟩ fun v160 =>
f149 v153 v159 v160 h157 c158) (
q_genW (binC Try.prog .neq 31 (.tmp 114) (.const (.complex .f64 0 0)) (dec v144) (dec ⟨12, 0, ⟨0, 0, 0, .cpx .f64 0 0⟩, []⟩)) fun v161 =>
q_share _ (fun (v163 : W) (h164 : HW) (c165 : Nat) =>
q_share _ (fun (v167 : W) (h168 : HW) (c169 : Nat) =>
q_share _ (fun (v171 : W) (h172 : HW) (c173 : Nat) =>
q_share _ (fun (v175 : W) (h176 : HW) (c177 : Nat) =>
q_share _ (fun (v179 : W) (h180 : HW) (c181 : Nat) =>
q_share _ (fun (v183 : W) (h184 : HW) (c185 : Nat) =>
q_share _ (fun (v187 : W) (h188 : HW) (c189 : Nat) =>
q_pickW v161 ⟨8, 1, r0, []⟩ v187 fun v190 =>
q_condW v190 (
K ⟨8, 0, r0, []⟩ h188 c189) (
q_addW 3 9223372036854775807 (binC Try.prog .add 3 (.tmp 33) (.const (.int .i64 (.ofNat 1))) (dec v8) (dec ⟨3, 1, r0, []⟩)) v8 ⟨3, 1, r0, []⟩ fun v191 =>
f11 v191 h188 c189)) fun f186 =>
q_guardW false v161 (q_genW (binC Try.prog .gtr 32 (.tmp 117) (.tmp 122) (dec v163) (dec v183)) fun v192 =>
f186 v192 h184 c185) (f186 wUnd h184 c185)) fun f182 =>
q_guardW false v161 (q_genW (convC Try.prog tys ⟨[], 0, decH h180, 0⟩ 3 32 (dec v179)) fun v193 =>
f182 v193 h180 c181) (f182 wUnd h180 c181)) fun f178 =>
q_guardW false v161 (q_mulW 3 9223372036854775807 (binC Try.prog .mul 3 (.tmp 119) (.tmp 120) (dec v171) (dec v175)) v171 v175 fun v194 =>
f178 v194 h176 c177) (f178 wUnd h176 c177)) fun f174 =>
q_guardW false v161 (f174 v41 h172 c173) (f174 wUnd h172 c173)) fun f170 =>
q_guardW false v161 (q_mulW 3 9223372036854775807 (binC Try.prog .mul 3 (.const (.int .i64 (.ofNat 2))) (.tmp 118) (dec ⟨3, 2, r0, []⟩) (dec v167)) ⟨3, 2, r0, []⟩ v167 fun v195 =>
f170 v195 h168 c169) (f170 wUnd h168 c169)) fun f166 =>
q_guardW false v161 (f166 v41 h164 c165) (f166 wUnd h164 c165)) fun f162 =>
q_guardW false v161 (f162 v145 h147 c148) (f162 wUnd h147 c148))) fu ⟨12, 0, ⟨0, 0, 0, .cpx .f64 0 0⟩, []⟩ ⟨12, 0, ⟨0, 0, 0, .flt .f64 0⟩, []⟩ ⟨3, 0, r0, []⟩ h141 c142)) fun f139 =>
q_guardW false v130 (q_cmpW (cmpF2 .neq) 3 (binC Try.prog .neq 3 (.tmp 93) (.const (.int .i64 (.ofNat 1))) (dec v136) (dec ⟨3, 1, r0, []⟩)) v136 ⟨3, 1, r0, []⟩ fun v196 =>
f139 v196 h137 c138) (f139 wUnd h137 c138)) fun f135 =>
q_guardW false v130 (q_remW 3 9223372036854775807 (binC Try.prog .rem 3 (.tmp 92) (.const (.int .i64 (.ofNat 2))) (dec v132) (dec ⟨3, 2, r0, []⟩)) v132 ⟨3, 2, r0, []⟩ fun v197 =>
f135 v197 h133 c134) (f135 wUnd h133 c134)) fun f131 =>
q_guardW false v130 (f131 v41 h128 c129) (f131 wUnd h128 c129)) fun f126 =>
q_guardW false v113 (q_cmpW (cmpF2 .neq) 3 (binC Try.prog .neq 3 (.tmp 87) (.tmp 88) (dec v119) (dec v123)) v119 v123 fun v198 =>
f126 v198 h124 c125) (f126 wUnd h124 c125)) fun f122 =>
q_guardW false v113 (f122 v13 h120 c121) (f122 wUnd h120 c121)) fun f118 =>
q_guardW false v113 (q_lenW (lenC tys 28 (dec v115)) v115 fun v199 =>
f118 v199 h116 c117) (f118 wUnd h116 c117)) fun f114 =>
q_guardW false v113 (f114 v34 h111 c112) (f114 wUnd h111 c112)) fun f109 =>
q_guardW false v96 (q_cmpW (cmpF2 .neq) 3 (binC Try.prog .neq 3 (.tmp 81) (.tmp 82) (dec v102) (dec v106)) v102 v106 fun v200 =>
f109 v200 h107 c108) (f109 wUnd h107 c108)) fun f105 =>
q_guardW false v96 (f105 v13 h103 c104) (f105 wUnd h103 c104)) fun f101 =>
q_guardW false v96 (q_shlW 3 9223372036854775807 64 (binC Try.prog .shl 3 (.const (.int .i64 (.ofNat 1))) (.tmp 80) (dec ⟨3, 1, r0, []⟩) (dec v98)) ⟨3, 1, r0, []⟩ v98 fun v201 =>
f101 v201 h99 c100) (f101 wUnd h99 c100)) fun f97 =>
q_guardW false v96 (f97 v27 h94 c95) (f97 wUnd h94 c95)) fun f92 =>
q_guardW false v71 (q_cmpW (cmpF2 .neq) 3 (binC Try.prog .neq 3 (.tmp 72) (.tmp 76) (dec v73) (dec v89)) v73 v89 fun v202 =>
f92 v202 h90 c91) (f92 wUnd h90 c91)) fun f88 =>
q_guardW false v71 (q_loadSW h86 v85 fun v203 =>
f88 v203 h86 c87) (f88 wUnd h86 c87)) fun f84 =>
q_guardW false v71 (q_idxSW 1 v77 v81 fun v204 =>
f84 v204 h82 c83) (f84 wUnd h82 c83)) fun f80 =>
q_guardW false v71 (f80 v8 h78 c79) (f80 wUnd h78 c79)) fun f76 =>
q_guardW false v71 (f76 v1 h74 c75) (f76 wUnd h74 c75)) fun f72 =>
q_guardW false v71 (f72 v20 h69 c70) (f72 wUnd h69 c70)) fun f67 =>
q_guardW false v62 (q_cmpW (cmpF2 .neq) 3 (binC Try.prog .neq 25 (.tmp 68) (.const (.int .i64 (.ofNat 0))) (dec v64) (dec ⟨3, 0, r0, []⟩)) v64 ⟨3, 0, r0, []⟩ fun v205 =>
f67 v205 h65 c66) (f67 wUnd h65 c66)) fun f63 =>
q_guardW false v62 (f63 v43 h60 c61) (f63 wUnd h60 c61)) fun f58 =>
q_guardW false v53 (q_cmpW (cmpF2 .neq) 3 (binC Try.prog .neq 25 (.tmp 64) (.const (.int .i64 (.ofNat 0))) (dec v55) (dec ⟨3, 0, r0, []⟩)) v55 ⟨3, 0, r0, []⟩ fun v206 =>
f58 v206 h56 c57) (f58 wUnd h56 c57)) fun f54 =>
q_guardW false v53 (f54 v36 h51 c52) (f54 wUnd h51 c52)) fun f49 =>
q_guardW false v44 (q_cmpW (cmpF2 .neq) 3 (binC Try.prog .neq 25 (.tmp 60) (.const (.int .i64 (.ofNat 0))) (dec v46) (dec ⟨3, 0, r0, []⟩)) v46 ⟨3, 0, r0, []⟩ fun v207 =>
f49 v207 h47 c48) (f49 wUnd h47 c48)) fun f45 =>
q_guardW false v44 (f45 v29 h38 c39) (f45 wUnd h38 c39)) (
q_makeSW 1 1 8 .bools [⟨8, 0, r0, []⟩] true h9 c10 ⟨3, 32768, r0, []⟩ ⟨3, 32768, r0, []⟩ fun v208 h209 c210 =>
call 13 [v208, ⟨3, 256, r0, []⟩] h209 c210 fun v211 h212 c213 =>
q_tupW v211 fun l214 => q_nthW 0 l214 fun v215 =>
q_tupW v211 fun l216 => q_nthW 1 l216 fun v217 =>
q_appZW 1 1 (appKindOk (elemJ tys 34)) 8 .bools [⟨8, 0, r0, []⟩] (zeroOk (elemJ tys 34)) h212 c213 v208 ⟨3, 8, r0, []⟩ fun v218 h219 c220 =>
call 13 [v218, ⟨3, 256, r0, []⟩] h219 c220 fun v221 h222 c223 =>
q_tupW v221 fun l224 => q_nthW 0 l224 fun v225 =>
q_tupW v221 fun l226 => q_nthW 1 l226 fun v227 =>
call 14 [v215, ⟨3, 256, r0, []⟩] h222 c223 fun v228 h229 c230 =>
q_tupW v228 fun l231 => q_nthW 0 l231 fun v232 =>
q_tupW v228 fun l233 => q_nthW 1 l233 fun v234 =>
q_lenW (lenC tys 28 (dec v215)) v215 fun v235 =>
q_detW v235 (
q_genW (two2 Try.prog (dec v235) (dec ⟨3, 1, r0, []⟩) fun v u => Builtin.min_ #[3, 3] 3 #[v, u]) fun v236 =>
q_detW v236 (
q_genW (sliceM tys ⟨[], 0, decH h229, 0⟩ 28 (dec v215) none (some (dec v236)) none) fun v237 =>
q_buildSW 1 99 (.cpxs .f64) 0 true h229 c230 0 [] fun v238 h239 c240 =>
q_genW (sliceM tys ⟨[], 0, decH h239, 0⟩ 28 (dec v215) none (some (dec v236)) none) fun v241 =>
q_samQW v241 v237 (
q_appSW 16 1 (appKindOk (elemJ tys 28)) false h239 c240 v238 v215 false fun v242 h243 c244 =>
q_genW (sliceM tys ⟨[], 0, decH h243, 0⟩ 28 (dec v215) none (some (dec v236)) none) fun v245 =>
q_samQW v245 v237 (
q_appSW 16 1 (appKindOk (elemJ tys 28)) false h243 c244 v242 v237 false fun v246 h247 c248 =>
call 14 [v246, ⟨3, 256, r0, []⟩] h247 c248 fun v249 h250 c251 =>
q_tupW v249 fun l252 => q_nthW 0 l252 fun v253 =>
q_tupW v249 fun l254 => q_nthW 1 l254 fun v255 =>
q_buildSW 1 99 (.cpxs .f64) 0 true h250 c251 0 [] fun v256 h257 c258 =>
q_appSW 16 1 (appKindOk (elemJ tys 28)) false h257 c258 v256 v215 false fun v259 h260 c261 =>
q_buildSW 1 99 (.cpxs .f64) 1 true h260 c261 1 [⟨12, 0, ⟨0, 0, 0, .cpx .f64 4636666922610458624 0⟩, []⟩] fun v262 h263 c264 =>
q_appSW 16 1 (appKindOk (elemJ tys 28)) false h263 c264 v259 v262 false fun v265 h266 c267 =>
call 14 [v265, ⟨3, 256, r0, []⟩] h266 c267 fun v268 h269 c270 =>
q_tupW v268 fun l271 => q_nthW 0 l271 fun v272 =>
q_tupW v268 fun l273 => q_nthW 1 l273 fun v274 =>
q_killVW v262 h269 fun h275 =>
q_buildSW 1 99 (.cpxs .f64) 1 true h275 c270 1 [⟨12, 0, ⟨0, 0, 0, .cpx .f64 4636666922610458624 0⟩, []⟩] fun v276 h277 c278 =>
call 14 [v276, ⟨3, 256, r0, []⟩] h277 c278 fun v279 h280 c281 =>
q_tupW v279 fun l282 => q_nthW 0 l282 fun v283 =>
q_tupW v279 fun l284 => q_nthW 1 l284 fun v285 =>
q_cmpW (cmpF2 .eql) 3 (binC Try.prog .eql 25 (.tmp 169) (.const (.int .i64 (.ofNat 0))) (dec v217) (dec ⟨3, 0, r0, []⟩)) v217 ⟨3, 0, r0, []⟩ fun v286 =>
q_share _ (fun (v288 : W) (h289 : HW) (c290 : Nat) =>
q_share _ (fun (v292 : W) (h293 : HW) (c294 : Nat) =>
q_pickW v286 v292 ⟨8, 0, r0, []⟩ fun v295 =>
q_share _ (fun (v297 : W) (h298 : HW) (c299 : Nat) =>
q_share _ (fun (v301 : W) (h302 : HW) (c303 : Nat) =>
q_pickW v295 v301 ⟨8, 0, r0, []⟩ fun v304 =>
q_share _ (fun (v306 : W) (h307 : HW) (c308 : Nat) =>
q_share _ (fun (v310 : W) (h311 : HW) (c312 : Nat) =>
q_pickW v304 v310 ⟨8, 0, r0, []⟩ fun v313 =>
q_share _ (fun (v315 : W) (h316 : HW) (c317 : Nat) =>
q_share _ (fun (v319 : W) (h320 : HW) (c321 : Nat) =>
q_pickW v313 v319 ⟨8, 0, r0, []⟩ fun v322 =>
q_share _ (fun (v324 : W) (h325 : HW) (c326 : Nat) =>
q_share _ (fun (v328 : W) (h329 : HW) (c330 : Nat) =>
q_pickW v322 v328 ⟨8, 0, r0, []⟩ fun v331 =>
q_share _ (fun (v333 : W) (h334 : HW) (c335 : Nat) =>
q_share _ (fun (v337 : W) (h338 : HW) (c339 : Nat) =>
q_share _ (fun (v341 : W) (h342 : HW) (c343 : Nat) =>
q_pickW v331 v341 ⟨8, 0, r0, []⟩ fun v344 =>
q_share _ (fun (v346 : W) (h347 : HW) (c348 : Nat) =>
q_share _ (fun (v350 : W) (h351 : HW) (c352 : Nat) =>
q_share _ (fun (v354 : W) (h355 : HW) (c356 : Nat) =>
q_pickW v344 v354 ⟨8, 0, r0, []⟩ fun v357 =>
K v357 h355 c356) fun f353 =>
q_guardW true v344 (call 15 [v346, v350] h351 c352 fun v358 h359 c360 =>
f353 v358 h359 c360) (f353 wUnd h351 c352)) fun f349 =>
q_guardW true v344 (f349 v208 h347 c348) (f349 wUnd h347 c348)) fun f345 =>
q_guardW true v344 (f345 v232 h342 c343) (f345 wUnd h342 c343)) fun f340 =>
q_guardW true v331 (q_cmpW (cmpF2 .eql) 3 (binC Try.prog .eql 3 (.tmp 193) (.const (.int .i64 (.ofNat 4096))) (dec v337) (dec ⟨3, 4096, r0, []⟩)) v337 ⟨3, 4096, r0, []⟩ fun v361 =>
f340 v361 h338 c339) (f340 wUnd h338 c339)) fun f336 =>
q_guardW true v331 (q_lenW (lenC tys 28 (dec v333)) v333 fun v362 =>
f336 v362 h334 c335) (f336 wUnd h334 c335)) fun f332 =>
q_guardW true v331 (f332 v215 h329 c330) (f332 wUnd h329 c330)) fun f327 =>
q_guardW true v322 (q_cmpW (cmpF2 .eql) 3 (binC Try.prog .eql 25 (.tmp 188) (.const (.int .i64 (.ofNat 6))) (dec v324) (dec ⟨3, 6, r0, []⟩)) v324 ⟨3, 6, r0, []⟩ fun v363 =>
f327 v363 h325 c326) (f327 wUnd h325 c326)) fun f323 =>
q_guardW true v322 (f323 v285 h320 c321) (f323 wUnd h320 c321)) fun f318 =>
q_guardW true v313 (q_cmpW (cmpF2 .eql) 3 (binC Try.prog .eql 25 (.tmp 184) (.const (.int .i64 (.ofNat 1))) (dec v315) (dec ⟨3, 1, r0, []⟩)) v315 ⟨3, 1, r0, []⟩ fun v364 =>
f318 v364 h316 c317) (f318 wUnd h316 c317)) fun f314 =>
q_guardW true v313 (f314 v274 h311 c312) (f314 wUnd h311 c312)) fun f309 =>
q_guardW true v304 (q_cmpW (cmpF2 .eql) 3 (binC Try.prog .eql 25 (.tmp 180) (.const (.int .i64 (.ofNat 1))) (dec v306) (dec ⟨3, 1, r0, []⟩)) v306 ⟨3, 1, r0, []⟩ fun v365 =>
f309 v365 h307 c308) (f309 wUnd h307 c308)) fun f305 =>
q_guardW true v304 (f305 v255 h302 c303) (f305 wUnd h302 c303)) fun f300 =>
q_guardW true v295 (q_cmpW (cmpF2 .eql) 3 (binC Try.prog .eql 25 (.tmp 176) (.const (.int .i64 (.ofNat 0))) (dec v297) (dec ⟨3, 0, r0, []⟩)) v297 ⟨3, 0, r0, []⟩ fun v366 =>
f300 v366 h298 c299) (f300 wUnd h298 c299)) fun f296 =>
q_guardW true v295 (f296 v234 h293 c294) (f296 wUnd h293 c294)) fun f291 =>
q_guardW true v286 (q_cmpW (cmpF2 .eql) 3 (binC Try.prog .eql 25 (.tmp 172) (.const (.int .i64 (.ofNat 1))) (dec v288) (dec ⟨3, 1, r0, []⟩)) v288 ⟨3, 1, r0, []⟩ fun v367 =>
f291 v367 h289 c290) (f291 wUnd h289 c290)) fun f287 =>
q_guardW true v286 (f287 v227 h280 c281) (f287 wUnd h280 c281))))))) fu ⟨3, 0, r0, []⟩ h5 c6)
theorem R3_eq (Q : PrimW) (fu : Nat) (call : CallW) : curryA 0 (fnK Q Try.prog tys stl fu call e3) = R3 Q.share Q.genW Q.addW Q.mulW Q.remW Q.cmpW Q.shlW Q.notW Q.condW Q.guardW Q.pickW Q.idxSW Q.lenW Q.tupW Q.nthW Q.detW Q.killVW Q.loadSW Q.makeSW Q.buildSW Q.appSW Q.appZW Q.samQW fu call := by kernel_rfl
noncomputable def n3 : List W → HW → Nat → KW → Bool := appF 0 (R3 (fun _ x f => f x) genW addW mulW remW cmpW shlW notW condW guardW pickW idxSW lenW tupW nthW detW killVW loadSW makeSW buildSW appSW appZW samQW 1000000 d9.fn)
theorem n3_ok : FnGood Try.prog tys stl tab 3 n3 := node_ok d9_ok (by kernel_rfl) rfl g3 (R3_eq real _ _)
noncomputable def d10 : Disp := (.node 39 n39 (.node 23 n23 (.node 11 n11 (.node 8 n8 (.node 6 n6 (.node 3 n3 .leaf .leaf) (.node 7 n7 .leaf .leaf)) (.node 10 n10 (.node 9 n9 .leaf .leaf) .leaf)) (.node 15 n15 (.node 13 n13 (.node 12 n12 .leaf .leaf) (.node 14 n14 .leaf .leaf)) (.node 17 n17 (.node 16 n16 .leaf .leaf) .leaf))) (.node 30 n30 (.node 27 n27 (.node 25 n25 (.node 24 n24 .leaf .leaf) (.node 26 n26 .leaf .leaf)) (.node 29 n29 (.node 28 n28 .leaf .leaf) .leaf)) (.node 36 n36 (.node 32 n32 (.node 31 n31 .leaf .leaf) (.node 33 n33 .leaf .leaf)) (.node 38 n38 (.node 37 n37 .leaf .leaf) .leaf)))) (.node 55 n55 (.node 46 n46 (.node 43 n43 (.node 41 n41 (.node 40 n40 .leaf .leaf) (.node 42 n42 .leaf .leaf)) (.node 45 n45 (.node 44 n44 .leaf .leaf) .leaf)) (.node 52 n52 (.node 48 n48 (.node 47 n47 .leaf .leaf) (.node 51 n51 .leaf .leaf)) (.node 54 n54 (.node 53 n53 .leaf .leaf) .leaf))) (.node 64 n64 (.node 61 n61 (.node 59 n59 (.node 56 n56 .leaf .leaf) (.node 60 n60 .leaf .leaf)) (.node 63 n63 (.node 62 n62 .leaf .leaf) .leaf)) (.node 69 n69 (.node 66 n66 (.node 65 n65 .leaf .leaf) (.node 68 n68 .leaf .leaf)) (.node 72 n72 (.node 70 n70 .leaf .leaf) .leaf)))))
theorem d10_ok : CallSim Try.prog tys stl tab d10.fn := Disp.sim ⟨n39_ok, ⟨n23_ok, ⟨n11_ok, ⟨n8_ok, ⟨n6_ok, ⟨n3_ok, True.intro, True.intro⟩, ⟨n7_ok, True.intro, True.intro⟩⟩, ⟨n10_ok, ⟨n9_ok, True.intro, True.intro⟩, True.intro⟩⟩, ⟨n15_ok, ⟨n13_ok, ⟨n12_ok, True.intro, True.intro⟩, ⟨n14_ok, True.intro, True.intro⟩⟩, ⟨n17_ok, ⟨n16_ok, True.intro, True.intro⟩, True.intro⟩⟩⟩, ⟨n30_ok, ⟨n27_ok, ⟨n25_ok, ⟨n24_ok, True.intro, True.intro⟩, ⟨n26_ok, True.intro, True.intro⟩⟩, ⟨n29_ok, ⟨n28_ok, True.intro, True.intro⟩, True.intro⟩⟩, ⟨n36_ok, ⟨n32_ok, ⟨n31_ok, True.intro, True.intro⟩, ⟨n33_ok, True.intro, True.intro⟩⟩, ⟨n38_ok, ⟨n37_ok, True.intro, True.intro⟩, True.intro⟩⟩⟩⟩, ⟨n55_ok, ⟨n46_ok, ⟨n43_ok, ⟨n41_ok, ⟨n40_ok, True.intro, True.intro⟩, ⟨n42_ok, True.intro, True.intro⟩⟩, ⟨n45_ok, ⟨n44_ok, True.intro, True.intro⟩, True.intro⟩⟩, ⟨n52_ok, ⟨n48_ok, ⟨n47_ok, True.intro, True.intro⟩, ⟨n51_ok, True.intro, True.intro⟩⟩, ⟨n54_ok, ⟨n53_ok, True.intro, True.intro⟩, True.intro⟩⟩⟩, ⟨n64_ok, ⟨n61_ok, ⟨n59_ok, ⟨n56_ok, True.intro, True.intro⟩, ⟨n60_ok, True.intro, True.intro⟩⟩, ⟨n63_ok, ⟨n62_ok, True.intro, True.intro⟩, True.intro⟩⟩, ⟨n69_ok, ⟨n66_ok, ⟨n65_ok, True.intro, True.intro⟩, ⟨n68_ok, True.intro, True.intro⟩⟩, ⟨n72_ok, ⟨n70_ok, True.intro, True.intro⟩, True.intro⟩⟩⟩⟩⟩
noncomputable abbrev dT : Disp := d10
theorem dT_ok : CallSim Try.prog tys stl tab dT.fn := d10_ok

set_option maxHeartbeats 0 in
theorem run3 : lawK dT.fn 3 = true := by kernel_rfl
namespace pointsNames
open Go.ChangeShapes Go.WideShapes Go.ChangeAt Go.RowKit
theorem own : ownKnob Try.prog.godebug = none := by kernel_rfl
theorem laid : laidOutB Try.prog = true := by kernel_rfl
theorem lifted (os : Os) (started : os.Started) (H : Type) (enc : TypeId × Value → H) :
    ReturnsInHanded {} Try.checked os 3 .any (Rows.pointsNamesSpec.pre6 enc Try.prog Try.f3 Rows.pointsNamesRow.domain false) (Rows.pointsNamesSpec.post enc Try.prog Try.f3 false true false false) := by
  refine returnsInHanded_of_change (C := Try.checked) own started (by kernel_rfl) Try.func3
    (ChangeSpec.witness6 (enc := enc) (C := Try.checked) false ⟨#[], #[], []⟩ 8 (by kernel_rfl) (by kernel_rfl) (by kernel_rfl) (by kernel_rfl)) ?_
  intro W base args ds gs before hval0 hW hcnd _
  have hW' := hW
  obtain ⟨p, q, hA0, hV, rfl, hfz, hnd⟩ := hW
  have hA : DataW.TrodAll enc Try.prog W 0 (fun _ => true) true Try.f3.params.toList args.toList ds p := hA0
  rw [Try.params3] at hA
  obtain ⟨hargs, rfl, rfl⟩ := trodAll_nil hA
  obtain rfl : args = #[] := by cases args; simp_all
  obtain ⟨rfl, rfl⟩ := trodVars_none hV
  clear hA0 hval0
  refine (lawK_true tok mixed fok dT_ok (by kernel_rfl : tab 3 = some e3) rfl run3 W).mono fun e W' ⟨he, hg⟩ => ?_
  subst he
  exact ⟨_, rfl, law_done laid rfl rfl Try.underlying4 (by kernel_rfl) hW' rfl hg⟩

theorem over : Rows.pointsNamesRow.holds Try.pinned (OpenSpec.ofChange Rows.pointsNamesSpec) :=
  OpenClaim.holds_of_wide 3 Try.f3 rfl rfl rfl rfl rfl rfl rfl ⟨rfl, rfl, rfl, rfl, rfl⟩ rfl rfl rfl rfl rfl (by kernel_rfl) Try.func3 (by kernel_rfl)
    (of_decide_eq_true (by kernel_rfl)) (by unfold Func.isWrapper; first | (rw [if_pos (by decide +kernel)]; kernel_rfl) | (rw [if_neg (by decide +kernel)]; exact ⟨rfl, rfl⟩))
    (fun os started H enc _ => lifted os started H enc)

theorem proved : Rows.PointsNamesSaid := over
end pointsNames
end Go.Proofs.Ytlnodgmjemhbeaa
