/-
  foghornlaw12.TempoNone returns true, whatever the memory it begins in. No condition.
-/
import Derived.Test.YtfiofknpicdonaaRows
import Derived.Test.YtfiofknpicdonaaGx
import Derived.WalkKit
import Derived.ProofKit
import Derived.OpenShut
set_option linter.unusedVariables false
set_option maxRecDepth 1000000
namespace Go.Proofs.Ytfiofknpicdonaa
open Go Go.Fw
def tys : List (Nat × TyI) := [
  (1, ⟨.func, 1, 8, .nilFunc⟩),
  (2, ⟨.int .i64, 1, 8, .int .i64 0⟩),
  (3, ⟨.int .i64, 1, 8, .int .i64 0⟩),
  (4, ⟨.bool, 1, 1, .bool false⟩),
  (5, ⟨.int .u8, 1, 1, .int .u8 0⟩),
  (9, ⟨.str, 1, 16, .string (ByteArray.mk #[])⟩),
  (12, ⟨.int .u64, 1, 8, .int .u64 0⟩),
  (21, ⟨.int .i32, 1, 4, .int .i32 0⟩),
  (22, ⟨.struct [(0, 3), (1, 3), (2, 3)], 3, 24, .agg #[.int .i64 0, .int .i64 0, .int .i64 0]⟩),
  (23, ⟨.struct [(0, 3), (1, 3), (2, 3)], 3, 24, .agg #[.int .i64 0, .int .i64 0, .int .i64 0]⟩),
  (24, ⟨.slice 77, 1, 24, .slice none 0 0⟩),
  (25, ⟨.struct [(0, 3), (1, 3), (2, 3)], 3, 24, .agg #[.int .i64 0, .int .i64 0, .int .i64 0]⟩),
  (26, ⟨.int .i64, 1, 8, .int .i64 0⟩),
  (28, ⟨.func, 1, 8, .nilFunc⟩),
  (29, ⟨.func, 1, 8, .nilFunc⟩),
  (30, ⟨.slice 38, 1, 24, .slice none 0 0⟩),
  (31, ⟨.func, 1, 8, .nilFunc⟩),
  (32, ⟨.func, 1, 8, .nilFunc⟩),
  (33, ⟨.func, 1, 8, .nilFunc⟩),
  (34, ⟨.func, 1, 8, .nilFunc⟩),
  (35, ⟨.cpx .f64, 1, 16, .complex .f64 0 0⟩),
  (36, ⟨.float .f64, 1, 8, .float .f64 0⟩),
  (37, ⟨.struct [(0, 35), (1, 4)], 2, 24, .agg #[.complex .f64 0 0, .bool false]⟩),
  (38, ⟨.struct [(0, 35), (1, 4)], 2, 24, .agg #[.complex .f64 0 0, .bool false]⟩),
  (39, ⟨.func, 1, 8, .nilFunc⟩),
  (40, ⟨.func, 1, 8, .nilFunc⟩),
  (41, ⟨.slice 36, 1, 24, .slice none 0 0⟩),
  (42, ⟨.struct [(0, 3), (1, 3), (2, 3), (3, 41)], 4, 48, .agg #[.int .i64 0, .int .i64 0, .int .i64 0, .slice none 0 0]⟩),
  (43, ⟨.struct [(0, 3), (1, 3), (2, 3), (3, 41)], 4, 48, .agg #[.int .i64 0, .int .i64 0, .int .i64 0, .slice none 0 0]⟩),
  (45, ⟨.func, 1, 8, .nilFunc⟩),
  (46, ⟨.func, 1, 8, .nilFunc⟩),
  (47, ⟨.func, 1, 8, .nilFunc⟩),
  (48, ⟨.func, 1, 8, .nilFunc⟩),
  (49, ⟨.struct [(0, 3), (1, 3), (2, 3)], 3, 24, .agg #[.int .i64 0, .int .i64 0, .int .i64 0]⟩),
  (50, ⟨.struct [(0, 3), (1, 3), (2, 3)], 3, 24, .agg #[.int .i64 0, .int .i64 0, .int .i64 0]⟩),
  (52, ⟨.func, 1, 8, .nilFunc⟩),
  (54, ⟨.func, 1, 8, .nilFunc⟩),
  (55, ⟨.func, 1, 8, .nilFunc⟩),
  (56, ⟨.int .u16, 1, 2, .int .u16 0⟩),
  (57, ⟨.struct [(0, 5), (1, 5), (2, 5), (3, 56)], 4, 6, .agg #[.int .u8 0, .int .u8 0, .int .u8 0, .int .u16 0]⟩),
  (58, ⟨.struct [(0, 5), (1, 5), (2, 5), (3, 56)], 4, 6, .agg #[.int .u8 0, .int .u8 0, .int .u8 0, .int .u16 0]⟩),
  (59, ⟨.func, 1, 8, .nilFunc⟩),
  (60, ⟨.slice 65, 1, 24, .slice none 0 0⟩),
  (61, ⟨.struct [(0, 5), (1, 5), (2, 3)], 3, 16, .agg #[.int .u8 0, .int .u8 0, .int .i64 0]⟩),
  (62, ⟨.struct [(0, 5), (1, 5), (2, 3)], 3, 16, .agg #[.int .u8 0, .int .u8 0, .int .i64 0]⟩),
  (63, ⟨.slice 35, 1, 24, .slice none 0 0⟩),
  (64, ⟨.int .i8, 1, 1, .int .i8 0⟩),
  (65, ⟨.array 2 64, 2, 2, .agg #[.int .i8 0, .int .i8 0]⟩),
  (66, ⟨.func, 1, 8, .nilFunc⟩),
  (67, ⟨.func, 1, 8, .nilFunc⟩),
  (68, ⟨.func, 1, 8, .nilFunc⟩),
  (69, ⟨.struct [(0, 5), (1, 5), (2, 5), (3, 56)], 4, 6, .agg #[.int .u8 0, .int .u8 0, .int .u8 0, .int .u16 0]⟩),
  (70, ⟨.struct [(0, 5), (1, 5), (2, 5), (3, 56)], 4, 6, .agg #[.int .u8 0, .int .u8 0, .int .u8 0, .int .u16 0]⟩),
  (71, ⟨.func, 1, 8, .nilFunc⟩),
  (72, ⟨.func, 1, 8, .nilFunc⟩),
  (73, ⟨.func, 1, 8, .nilFunc⟩),
  (74, ⟨.func, 1, 8, .nilFunc⟩),
  (75, ⟨.func, 1, 8, .nilFunc⟩),
  (76, ⟨.struct [(0, 36), (1, 36), (2, 4)], 3, 24, .agg #[.float .f64 0, .float .f64 0, .bool false]⟩),
  (77, ⟨.struct [(0, 36), (1, 36), (2, 4)], 3, 24, .agg #[.float .f64 0, .float .f64 0, .bool false]⟩),
  (78, ⟨.func, 1, 8, .nilFunc⟩),
  (79, ⟨.array 8 36, 8, 64, .agg #[.float .f64 0, .float .f64 0, .float .f64 0, .float .f64 0, .float .f64 0, .float .f64 0, .float .f64 0, .float .f64 0]⟩),
  (80, ⟨.func, 1, 8, .nilFunc⟩),
  (81, ⟨.func, 1, 8, .nilFunc⟩),
  (82, ⟨.func, 1, 8, .nilFunc⟩),
  (83, ⟨.slice 3, 1, 24, .slice none 0 0⟩),
  (84, ⟨.func, 1, 8, .nilFunc⟩),
  (85, ⟨.func, 1, 8, .nilFunc⟩),
  (86, ⟨.func, 1, 8, .nilFunc⟩),
  (87, ⟨.int .u64, 1, 8, .int .u64 0⟩),
  (88, ⟨.func, 1, 8, .nilFunc⟩),
  (89, ⟨.func, 1, 8, .nilFunc⟩),
  (95, ⟨.func, 1, 8, .nilFunc⟩),
  (96, ⟨.int .u32, 1, 4, .int .u32 0⟩),
  (99, ⟨.func, 1, 8, .nilFunc⟩),
  (100, ⟨.ptr 5, 1, 8, .pointer none⟩)]


theorem tok : TOk Try.prog tys := tok_of ⟨⟨by kernel_rfl, by kernel_rfl⟩, ⟨by kernel_rfl, by kernel_rfl⟩, ⟨by kernel_rfl, by kernel_rfl⟩, ⟨by kernel_rfl, by kernel_rfl⟩, ⟨by kernel_rfl, by kernel_rfl⟩, ⟨by kernel_rfl, by kernel_rfl⟩, ⟨by kernel_rfl, by kernel_rfl⟩, ⟨by kernel_rfl, by kernel_rfl⟩, ⟨by kernel_rfl, by kernel_rfl⟩, ⟨by kernel_rfl, by kernel_rfl⟩, ⟨by kernel_rfl, by kernel_rfl⟩, ⟨by kernel_rfl, by kernel_rfl⟩, ⟨by kernel_rfl, by kernel_rfl⟩, ⟨by kernel_rfl, by kernel_rfl⟩, ⟨by kernel_rfl, by kernel_rfl⟩, ⟨by kernel_rfl, by kernel_rfl⟩, ⟨by kernel_rfl, by kernel_rfl⟩, ⟨by kernel_rfl, by kernel_rfl⟩, ⟨by kernel_rfl, by kernel_rfl⟩, ⟨by kernel_rfl, by kernel_rfl⟩, ⟨by kernel_rfl, by kernel_rfl⟩, ⟨by kernel_rfl, by kernel_rfl⟩, ⟨by kernel_rfl, by kernel_rfl⟩, ⟨by kernel_rfl, by kernel_rfl⟩, ⟨by kernel_rfl, by kernel_rfl⟩, ⟨by kernel_rfl, by kernel_rfl⟩, ⟨by kernel_rfl, by kernel_rfl⟩, ⟨by kernel_rfl, by kernel_rfl⟩, ⟨by kernel_rfl, by kernel_rfl⟩, ⟨by kernel_rfl, by kernel_rfl⟩, ⟨by kernel_rfl, by kernel_rfl⟩, ⟨by kernel_rfl, by kernel_rfl⟩, ⟨by kernel_rfl, by kernel_rfl⟩, ⟨by kernel_rfl, by kernel_rfl⟩, ⟨by kernel_rfl, by kernel_rfl⟩, ⟨by kernel_rfl, by kernel_rfl⟩, ⟨by kernel_rfl, by kernel_rfl⟩, ⟨by kernel_rfl, by kernel_rfl⟩, ⟨by kernel_rfl, by kernel_rfl⟩, ⟨by kernel_rfl, by kernel_rfl⟩, ⟨by kernel_rfl, by kernel_rfl⟩, ⟨by kernel_rfl, by kernel_rfl⟩, ⟨by kernel_rfl, by kernel_rfl⟩, ⟨by kernel_rfl, by kernel_rfl⟩, ⟨by kernel_rfl, by kernel_rfl⟩, ⟨by kernel_rfl, by kernel_rfl⟩, ⟨by kernel_rfl, by kernel_rfl⟩, ⟨by kernel_rfl, by kernel_rfl⟩, ⟨by kernel_rfl, by kernel_rfl⟩, ⟨by kernel_rfl, by kernel_rfl⟩, ⟨by kernel_rfl, by kernel_rfl⟩, ⟨by kernel_rfl, by kernel_rfl⟩, ⟨by kernel_rfl, by kernel_rfl⟩, ⟨by kernel_rfl, by kernel_rfl⟩, ⟨by kernel_rfl, by kernel_rfl⟩, ⟨by kernel_rfl, by kernel_rfl⟩, ⟨by kernel_rfl, by kernel_rfl⟩, ⟨by kernel_rfl, by kernel_rfl⟩, ⟨by kernel_rfl, by kernel_rfl⟩, ⟨by kernel_rfl, by kernel_rfl⟩, ⟨by kernel_rfl, by kernel_rfl⟩, ⟨by kernel_rfl, by kernel_rfl⟩, ⟨by kernel_rfl, by kernel_rfl⟩, ⟨by kernel_rfl, by kernel_rfl⟩, ⟨by kernel_rfl, by kernel_rfl⟩, ⟨by kernel_rfl, by kernel_rfl⟩, ⟨by kernel_rfl, by kernel_rfl⟩, ⟨by kernel_rfl, by kernel_rfl⟩, ⟨by kernel_rfl, by kernel_rfl⟩, ⟨by kernel_rfl, by kernel_rfl⟩, ⟨by kernel_rfl, by kernel_rfl⟩, ⟨by kernel_rfl, by kernel_rfl⟩, ⟨by kernel_rfl, by kernel_rfl⟩, ⟨by kernel_rfl, by kernel_rfl⟩, ⟨by kernel_rfl, by kernel_rfl⟩, ⟨by kernel_rfl, by kernel_rfl⟩, True.intro⟩
theorem mixed : Try.prog.follows .mixedOrders = true := by kernel_rfl
def inL : List Nat → Nat → Bool
  | [], _ => false
  | a :: r, n => match Nat.beq a n with | true => true | false => inL r n
def stl : Nat → Bool := inL [22, 32, 37, 39]
/- 9: foghorn/foghornlaw12.TempoNone -/
def p9 : Nat → Option PlanC := fun _ => none
def wl9 : Nat → List Nat := fun _ => []
def wj9 : Nat → Option (List Nat) := fun _ => none
def kr9 : Nat → List Nat := fun _ => []
noncomputable def e9 : Ent := entOf Try.f9 ⟨p9, wl9, wj9, kr9, [1]⟩
theorem g9 : EntOk Try.prog tys stl 9 e9 := .inr ⟨rfl, Try.func9, by kernel_rfl, by kernel_rfl, by kernel_rfl, by kernel_rfl, by kernel_rfl, rfl⟩
/- 10: foghorn/tempo.At -/
def p10 : Nat → Option PlanC := fun _ => none
def wl10 : Nat → List Nat := fun _ => []
def wj10 : Nat → Option (List Nat) := fun _ => none
def kr10 : Nat → List Nat := fun _ => []
noncomputable def e10 : Ent := entOf Try.f10 ⟨p10, wl10, wj10, kr10, [2]⟩
theorem g10 : EntOk Try.prog tys stl 10 e10 := .inr ⟨rfl, Try.func10, by kernel_rfl, by kernel_rfl, by kernel_rfl, by kernel_rfl, by kernel_rfl, rfl⟩
/- 12: foghorn/tempo.Long -/
def p12 : Nat → Option PlanC := fun
  | 3 => some (.op 0 false (.op 1 false (.op 3 true (.op 6 true (.op 7 true (.op 9 true (.op 4 false (.op 8 false (.op 10 false (.op 11 true (.op 12 true (.op 2 false (.chk [10, 8, 4] (.op 5 false (.op 13 false (.op 14 false (.op 15 false (.done))))))))))))))))))
  | _ => none
def wl12 : Nat → List Nat := fun _ => []
def wj12 : Nat → Option (List Nat) := fun _ => none
def kr12 : Nat → List Nat := fun _ => []
noncomputable def e12 : Ent := entOf Try.f12 ⟨p12, wl12, wj12, kr12, [2]⟩
theorem g12 : EntOk Try.prog tys stl 12 e12 := .inr ⟨rfl, Try.func12, by kernel_rfl, by kernel_rfl, by kernel_rfl, by kernel_rfl, by kernel_rfl, rfl⟩
/- 18: foghorn/foghornlaw12.awake -/
def p18 : Nat → Option PlanC := fun _ => none
def wl18 : Nat → List Nat := fun _ => []
def wj18 : Nat → Option (List Nat) := fun _ => none
def kr18 : Nat → List Nat := fun _ => []
noncomputable def e18 : Ent := entOf Try.f18 ⟨p18, wl18, wj18, kr18, []⟩
theorem g18 : EntOk Try.prog tys stl 18 e18 := .inr ⟨rfl, Try.func18, by kernel_rfl, by kernel_rfl, by kernel_rfl, by kernel_rfl, by kernel_rfl, rfl⟩
/- 19: foghorn/tempo.Energies -/
def p19 : Nat → Option PlanC := fun
  | 10 => some (.op 0 false (.op 1 false (.op 2 false (.op 3 false (.op 4 false (.op 5 false (.op 6 false (.op 7 false (.op 8 false (.op 9 false (.op 10 false (.done))))))))))))
  | _ => none
def wl19 : Nat → List Nat := fun
  | 7 => [61]
  | _ => []
def wj19 : Nat → Option (List Nat) := fun
  | 11 => some []
  | _ => none
def kr19 : Nat → List Nat := fun _ => []
noncomputable def e19 : Ent := entOf Try.f19 ⟨p19, wl19, wj19, kr19, []⟩
theorem g19 : EntOk Try.prog tys stl 19 e19 := .inr ⟨rfl, Try.func19, by kernel_rfl, by kernel_rfl, by kernel_rfl, by kernel_rfl, by kernel_rfl, rfl⟩
/- 22: foghorn/tempo.Phase -/
def p22 : Nat → Option PlanC := fun _ => none
def wl22 : Nat → List Nat := fun
  | 5 => [4, 12]
  | _ => []
def wj22 : Nat → Option (List Nat) := fun
  | 11 => some [4]
  | _ => none
def kr22 : Nat → List Nat := fun _ => []
noncomputable def e22 : Ent := entOf Try.f22 ⟨p22, wl22, wj22, kr22, []⟩
theorem g22 : EntOk Try.prog tys stl 22 e22 := .inr ⟨rfl, Try.func22, by kernel_rfl, by kernel_rfl, by kernel_rfl, by kernel_rfl, by kernel_rfl, rfl⟩
/- 24: foghorn/tempo.Slip -/
def p24 : Nat → Option PlanC := fun _ => none
def wl24 : Nat → List Nat := fun
  | 6 => [6, 7, 10]
  | 9 => [6, 7, 45]
  | _ => []
def wj24 : Nat → Option (List Nat) := fun
  | 14 => some [6, 7]
  | _ => none
def kr24 : Nat → List Nat := fun _ => []
noncomputable def e24 : Ent := entOf Try.f24 ⟨p24, wl24, wj24, kr24, []⟩
theorem g24 : EntOk Try.prog tys stl 24 e24 := .inr ⟨rfl, Try.func24, by kernel_rfl, by kernel_rfl, by kernel_rfl, by kernel_rfl, by kernel_rfl, rfl⟩
/- 26: foghorn/tempo.Slide -/
def p26 : Nat → Option PlanC := fun _ => none
def wl26 : Nat → List Nat := fun
  | 11 => [69]
  | _ => []
def wj26 : Nat → Option (List Nat) := fun _ => none
def kr26 : Nat → List Nat := fun _ => []
noncomputable def e26 : Ent := entOf Try.f26 ⟨p26, wl26, wj26, kr26, []⟩
theorem g26 : EntOk Try.prog tys stl 26 e26 := .inr ⟨rfl, Try.func26, by kernel_rfl, by kernel_rfl, by kernel_rfl, by kernel_rfl, by kernel_rfl, rfl⟩
/- 30: foghorn/tempo.Pick -/
def p30 : Nat → Option PlanC := fun _ => none
def wl30 : Nat → List Nat := fun
  | 5 => [29]
  | _ => []
def wj30 : Nat → Option (List Nat) := fun
  | 11 => some []
  | _ => none
def kr30 : Nat → List Nat := fun _ => []
noncomputable def e30 : Ent := entOf Try.f30 ⟨p30, wl30, wj30, kr30, [3]⟩
theorem g30 : EntOk Try.prog tys stl 30 e30 := .inr ⟨rfl, Try.func30, by kernel_rfl, by kernel_rfl, by kernel_rfl, by kernel_rfl, by kernel_rfl, rfl⟩
/- 31: (foghorn/tempo.Clock).mayBe -/
def p31 : Nat → Option PlanC := fun _ => none
def wl31 : Nat → List Nat := fun _ => []
def wj31 : Nat → Option (List Nat) := fun _ => none
def kr31 : Nat → List Nat := fun _ => []
noncomputable def e31 : Ent := entOf Try.f31 ⟨p31, wl31, wj31, kr31, [1]⟩
theorem g31 : EntOk Try.prog tys stl 31 e31 := .inr ⟨rfl, Try.func31, by kernel_rfl, by kernel_rfl, by kernel_rfl, by kernel_rfl, by kernel_rfl, rfl⟩
/- 32: foghorn/tempo.isCount -/
def p32 : Nat → Option PlanC := fun _ => none
def wl32 : Nat → List Nat := fun _ => []
def wj32 : Nat → Option (List Nat) := fun _ => none
def kr32 : Nat → List Nat := fun _ => []
noncomputable def e32 : Ent := entOf Try.f32 ⟨p32, wl32, wj32, kr32, []⟩
theorem g32 : EntOk Try.prog tys stl 32 e32 := .inr ⟨rfl, Try.func32, by kernel_rfl, by kernel_rfl, by kernel_rfl, by kernel_rfl, by kernel_rfl, rfl⟩
/- 33: (foghorn/tempo.Clock).instant -/
def p33 : Nat → Option PlanC := fun _ => none
def wl33 : Nat → List Nat := fun _ => []
def wj33 : Nat → Option (List Nat) := fun _ => none
def kr33 : Nat → List Nat := fun _ => []
noncomputable def e33 : Ent := entOf Try.f33 ⟨p33, wl33, wj33, kr33, [2]⟩
theorem g33 : EntOk Try.prog tys stl 33 e33 := .inr ⟨rfl, Try.func33, by kernel_rfl, by kernel_rfl, by kernel_rfl, by kernel_rfl, by kernel_rfl, rfl⟩
/- 37: foghorn/plane.Norm -/
def p37 : Nat → Option PlanC := fun _ => none
def wl37 : Nat → List Nat := fun _ => []
def wj37 : Nat → Option (List Nat) := fun _ => none
def kr37 : Nat → List Nat := fun _ => []
noncomputable def e37 : Ent := entOf Try.f37 ⟨p37, wl37, wj37, kr37, []⟩
theorem g37 : EntOk Try.prog tys stl 37 e37 := .inr ⟨rfl, Try.func37, by kernel_rfl, by kernel_rfl, by kernel_rfl, by kernel_rfl, by kernel_rfl, rfl⟩
/- 39: math.IsNaN -/
def p39 : Nat → Option PlanC := fun _ => none
def wl39 : Nat → List Nat := fun _ => []
def wj39 : Nat → Option (List Nat) := fun _ => none
def kr39 : Nat → List Nat := fun _ => []
noncomputable def e39 : Ent := entOf Try.f39 ⟨p39, wl39, wj39, kr39, []⟩
theorem g39 : EntOk Try.prog tys stl 39 e39 := .inr ⟨rfl, Try.func39, by kernel_rfl, by kernel_rfl, by kernel_rfl, by kernel_rfl, by kernel_rfl, rfl⟩
/- 40: foghorn/tempo.agreement -/
def p40 : Nat → Option PlanC := fun _ => none
def wl40 : Nat → List Nat := fun _ => []
def wj40 : Nat → Option (List Nat) := fun _ => none
def kr40 : Nat → List Nat := fun _ => []
noncomputable def e40 : Ent := entOf Try.f40 ⟨p40, wl40, wj40, kr40, []⟩
theorem g40 : EntOk Try.prog tys stl 40 e40 := .inr ⟨rfl, Try.func40, by kernel_rfl, by kernel_rfl, by kernel_rfl, by kernel_rfl, by kernel_rfl, rfl⟩
/- 43: foghorn/tempo.agreement$1 -/
def p43 : Nat → Option PlanC := fun
  | 5 => some (.op 1 true (.op 5 true (.op 6 true (.op 7 true (.op 0 false (.op 2 true (.op 3 false (.op 4 false (.op 8 true (.op 9 false (.twoD 10 11 [9, 4, 3, 0] (.op 12 false (.chk [9, 4] (.op 13 false (.done)))))))))))))))
  | _ => none
def wl43 : Nat → List Nat := fun
  | 3 => [5, 6]
  | _ => []
def wj43 : Nat → Option (List Nat) := fun
  | 4 => some [5]
  | _ => none
def kr43 : Nat → List Nat := fun _ => []
noncomputable def e43 : Ent := entOf Try.f43 ⟨p43, wl43, wj43, kr43, []⟩
theorem g43 : EntOk Try.prog tys stl 43 e43 := .inr ⟨rfl, Try.func43, by kernel_rfl, by kernel_rfl, by kernel_rfl, by kernel_rfl, by kernel_rfl, rfl⟩
noncomputable def ents : List (Nat × Ent) := [(9, e9), (10, e10), (12, e12), (18, e18), (19, e19), (22, e22), (24, e24), (26, e26), (30, e30), (31, e31), (32, e32), (33, e33), (37, e37), (39, e39), (40, e40), (43, e43)]
theorem goods : EntsOk Try.prog tys stl ents := ⟨g9, g10, g12, g18, g19, g22, g24, g26, g30, g31, g32, g33, g37, g39, g40, g43, True.intro⟩
noncomputable def tab : Nat → Option Ent := (tabOf ents).get
theorem fok : FOk Try.prog tys stl tab := fok_of goods
noncomputable def d0 : Disp := .leaf
theorem d0_ok : CallSim Try.prog tys stl tab d0.fn := Disp.sim True.intro
/- foghorn/tempo.isCount -/
noncomputable def R32 (q_share : (α : Type) → α → (α → Bool) → Bool) (q_cmpW : (Nat → Nat → Bool) → Nat → Option CV → W → W → (W → Bool) → Bool) (q_guardW : Bool → W → Bool → Bool → Bool) (q_pickW : W → W → W → (W → Bool) → Bool) (fu : Nat) (call : CallW) (a0 : W) (h0 : HW) (c0 : Nat) (K : KW) : Bool :=
q_cmpW (cmpF2 .geq) 3 (binC Try.prog .geq 3 (.tmp 3) (.const (.int .i64 (.ofNat 0))) (dec a0) (dec ⟨3, 0, r0, []⟩)) a0 ⟨3, 0, r0, []⟩ fun v1 =>
q_share _ (fun (v3 : W) (h4 : HW) (c5 : Nat) =>
q_share _ (fun (v7 : W) (h8 : HW) (c9 : Nat) =>
q_pickW v1 v7 ⟨8, 0, r0, []⟩ fun v10 =>
K v10 h8 c9) fun f6 =>
q_guardW true v1 (q_cmpW (cmpF2 .leq) 3 (binC Try.prog .leq 3 (.tmp 6) (.const (.int .i64 (.ofNat 65536))) (dec v3) (dec ⟨3, 65536, r0, []⟩)) v3 ⟨3, 65536, r0, []⟩ fun v11 =>
f6 v11 h4 c5) (f6 wUnd h4 c5)) fun f2 =>
q_guardW true v1 (f2 a0 h0 c0) (f2 wUnd h0 c0)
theorem R32_eq (Q : PrimW) (fu : Nat) (call : CallW) : curryA 1 (fnK Q Try.prog tys stl fu call e32) = R32 Q.share Q.cmpW Q.guardW Q.pickW fu call := by kernel_rfl
noncomputable def n32 : List W → HW → Nat → KW → Bool := appF 1 (R32 (fun _ x f => f x) cmpW guardW pickW 1000000 d0.fn)
theorem n32_ok : FnGood Try.prog tys stl tab 32 n32 := node_ok d0_ok (by kernel_rfl) rfl g32 (R32_eq real _ _)
/- (foghorn/tempo.Clock).instant -/
noncomputable def R33 (q_addW : Nat → Nat → Option CV → W → W → (W → Bool) → Bool) (q_mulW : Nat → Nat → Option CV → W → W → (W → Bool) → Bool) (q_quoW : Nat → Nat → Option CV → W → W → (W → Bool) → Bool) (q_fadW : Nat → W → (W → Bool) → Bool) (q_killVW : W → HW → (HW → Bool) → Bool) (q_loadSW : HW → W → (W → Bool) → Bool) (q_boxW : HW → Nat → W → KW → Bool) (fu : Nat) (call : CallW) (a0 : W) (a1 : W) (h0 : HW) (c0 : Nat) (K : KW) : Bool :=
q_boxW h0 c0 a0 fun v1 h2 c3 =>
q_fadW 0 v1 fun v4 =>
q_loadSW h2 v4 fun v5 =>
q_fadW 1 v1 fun v6 =>
q_loadSW h2 v6 fun v7 =>
q_mulW 3 9223372036854775807 (binC Try.prog .mul 3 (.tmp 7) (.tmp 9) (dec a1) (dec v7)) a1 v7 fun v8 =>
q_fadW 2 v1 fun v9 =>
q_loadSW h2 v9 fun v10 =>
q_quoW 3 9223372036854775807 (binC Try.prog .quo 3 (.tmp 10) (.tmp 12) (dec v8) (dec v10)) v8 v10 fun v11 =>
q_addW 3 9223372036854775807 (binC Try.prog .add 3 (.tmp 6) (.tmp 13) (dec v5) (dec v11)) v5 v11 fun v12 =>
q_killVW v1 h2 fun h13 =>
K v12 h13 c3
theorem R33_eq (Q : PrimW) (fu : Nat) (call : CallW) : curryA 2 (fnK Q Try.prog tys stl fu call e33) = R33 Q.addW Q.mulW Q.quoW Q.fadW Q.killVW Q.loadSW Q.boxW fu call := by kernel_rfl
noncomputable def n33 : List W → HW → Nat → KW → Bool := appF 2 (R33 addW mulW quoW fadW killVW loadSW boxW 1000000 d0.fn)
theorem n33_ok : FnGood Try.prog tys stl tab 33 n33 := node_ok d0_ok (by kernel_rfl) rfl g33 (R33_eq real _ _)
/- foghorn/plane.Norm -/
noncomputable def R37 (q_genW : Option CV → (W → Bool) → Bool) (fu : Nat) (call : CallW) (a0 : W) (h0 : HW) (c0 : Nat) (K : KW) : Bool :=
q_genW (two Try.prog (dec a0) fun v => Builtin.real_ #[35] 36 #[v]) fun v1 =>
q_genW (two Try.prog (dec a0) fun v => Builtin.real_ #[35] 36 #[v]) fun v2 =>
q_genW (binC Try.prog .mul 36 (.tmp 4) (.tmp 6) (dec v1) (dec v2)) fun v3 =>
q_genW (two Try.prog (dec a0) fun v => Builtin.imag_ #[35] 36 #[v]) fun v4 =>
q_genW (two Try.prog (dec a0) fun v => Builtin.imag_ #[35] 36 #[v]) fun v5 =>
q_genW (binC Try.prog .mul 36 (.tmp 9) (.tmp 11) (dec v4) (dec v5)) fun v6 =>
q_genW (binC Try.prog .add 36 (.tmp 7) (.tmp 12) (dec v3) (dec v6)) fun v7 =>
K v7 h0 c0
theorem R37_eq (Q : PrimW) (fu : Nat) (call : CallW) : curryA 1 (fnK Q Try.prog tys stl fu call e37) = R37 Q.genW fu call := by kernel_rfl
noncomputable def n37 : List W → HW → Nat → KW → Bool := appF 1 (R37 genW 1000000 d0.fn)
theorem n37_ok : FnGood Try.prog tys stl tab 37 n37 := node_ok d0_ok (by kernel_rfl) rfl g37 (R37_eq real _ _)
/- math.IsNaN -/
noncomputable def R39 (q_genW : Option CV → (W → Bool) → Bool) (fu : Nat) (call : CallW) (a0 : W) (h0 : HW) (c0 : Nat) (K : KW) : Bool :=
q_genW (binC Try.prog .neq 36 (.tmp 3) (.tmp 4) (dec a0) (dec a0)) fun v1 =>
K v1 h0 c0
theorem R39_eq (Q : PrimW) (fu : Nat) (call : CallW) : curryA 1 (fnK Q Try.prog tys stl fu call e39) = R39 Q.genW fu call := by kernel_rfl
noncomputable def n39 : List W → HW → Nat → KW → Bool := appF 1 (R39 genW 1000000 d0.fn)
theorem n39_ok : FnGood Try.prog tys stl tab 39 n39 := node_ok d0_ok (by kernel_rfl) rfl g39 (R39_eq real _ _)
/- foghorn/tempo.agreement -/
noncomputable def R40 (q_boxW : HW → Nat → W → KW → Bool) (fu : Nat) (call : CallW) (a0 : W) (a1 : W) (h0 : HW) (c0 : Nat) (K : KW) : Bool :=
q_boxW h0 c0 a0 fun v1 h2 c3 =>
q_boxW h2 c3 a1 fun v4 h5 c6 =>
(fun (v7 : W) =>
K v7 h5 c6) ⟨14, 43, r0, [v1, v4]⟩
theorem R40_eq (Q : PrimW) (fu : Nat) (call : CallW) : curryA 2 (fnK Q Try.prog tys stl fu call e40) = R40 Q.boxW fu call := by kernel_rfl
noncomputable def n40 : List W → HW → Nat → KW → Bool := appF 2 (R40 boxW 1000000 d0.fn)
theorem n40_ok : FnGood Try.prog tys stl tab 40 n40 := node_ok d0_ok (by kernel_rfl) rfl g40 (R40_eq real _ _)
/- foghorn/tempo.agreement$1 -/
noncomputable def R43 (q_share : (α : Type) → α → (α → Bool) → Bool) (q_genW : Option CV → (W → Bool) → Bool) (q_addW : Nat → Nat → Option CV → W → W → (W → Bool) → Bool) (q_cmpW : (Nat → Nat → Bool) → Nat → Option CV → W → W → (W → Bool) → Bool) (q_notW : Option CV → W → (W → Bool) → Bool) (q_negW : Nat → Nat → Bool → Option CV → W → (W → Bool) → Bool) (q_condW : W → Bool → Bool → Bool) (q_guardW : Bool → W → Bool → Bool → Bool) (q_pickW : W → W → W → (W → Bool) → Bool) (q_fadW : Nat → W → (W → Bool) → Bool) (q_idxSW : Nat → W → W → (W → Bool) → Bool) (q_lenW : Option CV → W → (W → Bool) → Bool) (q_detW : W → Bool → Bool) (q_loadSW : HW → W → (W → Bool) → Bool) (q_loadAW : Nat → HW → W → (W → Bool) → Bool) (q_storeAW : Nat → HW → W → W → (HW → Bool) → Bool) (q_allocW : Trie W → Nat → Bool → HW → Nat → KW → Bool) (q_samQW : W → W → Bool → Bool) (fu : Nat) (call : CallW) (a0 : W) (a1 : W) (a2 : W) (h0 : HW) (c0 : Nat) (K : KW) : Bool :=
q_negW 3 9223372036854775807 false (two Try.prog (dec a0) (Op.unary .neg)) a0 fun v1 =>
q_genW (two2 Try.prog (dec ⟨3, 0, r0, []⟩) (dec v1) fun v u => Builtin.max_ #[3, 3] 3 #[v, u]) fun v2 =>
@Nat.rec (fun _ => Fun 2) (fun _ _ _ _ => false) (fun _ f7 v3 v4 h5 c6 =>
q_loadSW h5 a1 fun v8 =>
q_lenW (lenC tys 30 (dec v8)) v8 fun v9 =>
q_cmpW (cmpF2 .lss) 3 (binC Try.prog .lss 3 (.tmp 12) (.tmp 14) (dec v4) (dec v9)) v4 v9 fun v10 =>
q_share _ (fun (v12 : W) (h13 : HW) (c14 : Nat) =>
q_share _ (fun (v16 : W) (h17 : HW) (c18 : Nat) =>
q_share _ (fun (v20 : W) (h21 : HW) (c22 : Nat) =>
q_share _ (fun (v24 : W) (h25 : HW) (c26 : Nat) =>
q_share _ (fun (v28 : W) (h29 : HW) (c30 : Nat) =>
q_share _ (fun (v32 : W) (h33 : HW) (c34 : Nat) =>
q_pickW v10 v32 ⟨8, 0, r0, []⟩ fun v35 =>
q_condW v35 (
q_share _ (fun (v36 : W) (h37 : HW) (c38 : Nat) =>
q_addW 3 9223372036854775807 (binC Try.prog .add 3 (.tmp 24) (.const (.int .i64 (.ofNat 1))) (dec v4) (dec ⟨3, 1, r0, []⟩)) v4 ⟨3, 1, r0, []⟩ fun v40 =>
f7 v36 v40 h37 c38) fun f39 =>
q_addW 3 9223372036854775807 (binC Try.prog .add 3 (.tmp 31) (.tmp 32) (dec v4) (dec a0)) v4 a0 fun v41 =>
q_detW v41 (
q_loadSW h33 a1 fun v42 =>
q_idxSW 2 v42 v4 fun v43 =>
q_detW v43 (
q_loadAW 2 h33 v43 fun v44 =>
q_loadSW h33 a2 fun v45 =>
q_idxSW 2 v45 v41 fun v46 =>
q_detW v46 (
q_loadAW 2 h33 v46 fun v47 =>
q_allocW (allocT tys 38) 2 true h33 c34 fun v48 h49 c50 =>
q_loadAW 2 h49 v46 fun v51 =>
q_samQW v51 v47 (
q_loadSW h49 a2 fun v52 =>
q_samQW v52 v45 (
q_loadAW 2 h49 v43 fun v53 =>
q_samQW v53 v44 (
q_loadSW h49 a1 fun v54 =>
q_samQW v54 v42 (
q_allocW (allocT tys 38) 2 true h33 c34 fun v55 h56 c57 =>
q_loadAW 2 h56 v46 fun v58 =>
q_samQW v58 v47 (
q_loadSW h56 a2 fun v59 =>
q_samQW v59 v45 (
q_loadAW 2 h56 v43 fun v60 =>
q_samQW v60 v44 (
q_loadSW h56 a1 fun v61 =>
q_samQW v61 v42 (
q_allocW (allocT tys 38) 2 true h56 c57 fun v62 h63 c64 =>
q_loadAW 2 h63 v46 fun v65 =>
q_samQW v65 v47 (
q_loadSW h63 a2 fun v66 =>
q_samQW v66 v45 (
q_loadAW 2 h63 v43 fun v67 =>
q_samQW v67 v44 (
q_loadSW h63 a1 fun v68 =>
q_samQW v68 v42 (
q_storeAW 2 h63 v55 v44 fun h69 =>
q_loadAW 2 h69 v46 fun v70 =>
q_samQW v70 v47 (
q_loadSW h69 a2 fun v71 =>
q_samQW v71 v45 (
q_storeAW 2 h69 v62 v47 fun h72 =>
q_fadW 1 v55 fun v73 =>
q_loadSW h72 v73 fun v74 =>
q_notW (two Try.prog (dec v74) (Op.unary .not)) v74 fun v75 =>
q_share _ (fun (v77 : W) (h78 : HW) (c79 : Nat) =>
q_share _ (fun (v81 : W) (h82 : HW) (c83 : Nat) =>
q_share _ (fun (v85 : W) (h86 : HW) (c87 : Nat) =>
q_pickW v75 v85 ⟨8, 0, r0, []⟩ fun v88 =>
q_share _ (fun (v90 : W) (h91 : HW) (c92 : Nat) =>
q_share _ (fun (v94 : W) (h95 : HW) (c96 : Nat) =>
q_share _ (fun (v98 : W) (h99 : HW) (c100 : Nat) =>
q_share _ (fun (v102 : W) (h103 : HW) (c104 : Nat) =>
q_share _ (fun (v106 : W) (h107 : HW) (c108 : Nat) =>
q_pickW v88 v106 ⟨8, 0, r0, []⟩ fun v109 =>
q_condW v109 (
q_addW 3 9223372036854775807 (binC Try.prog .add 3 (.tmp 51) (.const (.int .i64 (.ofNat 1))) (dec v3) (dec ⟨3, 1, r0, []⟩)) v3 ⟨3, 1, r0, []⟩ fun v110 =>
f39 v110 h107 c108) (
f39 v3 h107 c108)) fun f105 =>
q_guardW true v88 (q_genW (binC Try.prog .eql 35 (.tmp 46) (.tmp 48) (dec v94) (dec v102)) fun v111 =>
f105 v111 h103 c104) (f105 wUnd h103 c104)) fun f101 =>
q_guardW true v88 (q_loadSW h99 v98 fun v112 =>
f101 v112 h99 c100) (f101 wUnd h99 c100)) fun f97 =>
q_guardW true v88 (q_fadW 0 v62 fun v113 =>
f97 v113 h95 c96) (f97 wUnd h95 c96)) fun f93 =>
q_guardW true v88 (q_loadSW h91 v90 fun v114 =>
f93 v114 h91 c92) (f93 wUnd h91 c92)) fun f89 =>
q_guardW true v88 (q_fadW 0 v55 fun v115 =>
f89 v115 h86 c87) (f89 wUnd h86 c87)) fun f84 =>
q_guardW true v75 (q_notW (two Try.prog (dec v81) (Op.unary .not)) v81 fun v116 =>
f84 v116 h82 c83) (f84 wUnd h82 c83)) fun f80 =>
q_guardW true v75 (q_loadSW h78 v77 fun v117 =>
f80 v117 h78 c79) (f80 wUnd h78 c79)) fun f76 =>
q_guardW true v75 (q_fadW 1 v62 fun v118 =>
f76 v118 h72 c64) (f76 wUnd h72 c64))))))))))))))))))) (
K v3 h33 c34)) fun f31 =>
q_guardW true v10 (q_cmpW (cmpF2 .lss) 3 (binC Try.prog .lss 3 (.tmp 19) (.tmp 21) (dec v20) (dec v28)) v20 v28 fun v119 =>
f31 v119 h29 c30) (f31 wUnd h29 c30)) fun f27 =>
q_guardW true v10 (q_lenW (lenC tys 30 (dec v24)) v24 fun v120 =>
f27 v120 h25 c26) (f27 wUnd h25 c26)) fun f23 =>
q_guardW true v10 (q_loadSW h21 a2 fun v121 =>
f23 v121 h21 c22) (f23 wUnd h21 c22)) fun f19 =>
q_guardW true v10 (q_addW 3 9223372036854775807 (binC Try.prog .add 3 (.tmp 17) (.tmp 18) (dec v12) (dec v16)) v12 v16 fun v122 =>
f19 v122 h17 c18) (f19 wUnd h17 c18)) fun f15 =>
q_guardW true v10 (f15 a0 h13 c14) (f15 wUnd h13 c14)) fun f11 =>
q_guardW true v10 (f11 v4 h5 c6) (f11 wUnd h5 c6)) fu ⟨3, 0, r0, []⟩ v2 h0 c0
theorem R43_eq (Q : PrimW) (fu : Nat) (call : CallW) : curryA 3 (fnK Q Try.prog tys stl fu call e43) = R43 Q.share Q.genW Q.addW Q.cmpW Q.notW Q.negW Q.condW Q.guardW Q.pickW Q.fadW Q.idxSW Q.lenW Q.detW Q.loadSW Q.loadAW Q.storeAW Q.allocW Q.samQW fu call := by kernel_rfl
noncomputable def n43 : List W → HW → Nat → KW → Bool := appF 3 (R43 (fun _ x f => f x) genW addW cmpW notW negW condW guardW pickW fadW idxSW lenW detW loadSW loadAW storeAW allocW samQW 1000000 d0.fn)
theorem n43_ok : FnGood Try.prog tys stl tab 43 n43 := node_ok d0_ok (by kernel_rfl) rfl g43 (R43_eq real _ _)
noncomputable def d1 : Disp := (.node 39 n39 (.node 33 n33 (.node 32 n32 .leaf .leaf) (.node 37 n37 .leaf .leaf)) (.node 43 n43 (.node 40 n40 .leaf .leaf) .leaf))
theorem d1_ok : CallSim Try.prog tys stl tab d1.fn := Disp.sim ⟨n39_ok, ⟨n33_ok, ⟨n32_ok, True.intro, True.intro⟩, ⟨n37_ok, True.intro, True.intro⟩⟩, ⟨n43_ok, ⟨n40_ok, True.intro, True.intro⟩, True.intro⟩⟩
/- foghorn/tempo.Energies -/
noncomputable def R19 (q_share : (α : Type) → α → (α → Bool) → Bool) (q_genW : Option CV → (W → Bool) → Bool) (q_addW : Nat → Nat → Option CV → W → W → (W → Bool) → Bool) (q_subW : Nat → Nat → Option CV → W → W → (W → Bool) → Bool) (q_mulW : Nat → Nat → Option CV → W → W → (W → Bool) → Bool) (q_remW : Nat → Nat → Option CV → W → W → (W → Bool) → Bool) (q_cmpW : (Nat → Nat → Bool) → Nat → Option CV → W → W → (W → Bool) → Bool) (q_notW : Option CV → W → (W → Bool) → Bool) (q_condW : W → Bool → Bool → Bool) (q_guardW : Bool → W → Bool → Bool → Bool) (q_pickW : W → W → W → (W → Bool) → Bool) (q_fadW : Nat → W → (W → Bool) → Bool) (q_idxSW : Nat → W → W → (W → Bool) → Bool) (q_idxAW : Nat → Nat → W → W → (W → Bool) → Bool) (q_lenW : Option CV → W → (W → Bool) → Bool) (q_knownW : W → Bool → Bool) (q_loadSW : HW → W → (W → Bool) → Bool) (q_loadAW : Nat → HW → W → (W → Bool) → Bool) (q_storeSW : HW → W → W → (HW → Bool) → Bool) (q_storeAW : Nat → HW → W → W → (HW → Bool) → Bool) (q_makeSW : Nat → Nat → Nat → Kind → List W → Bool → HW → Nat → W → W → KW → Bool) (q_allocW : Trie W → Nat → Bool → HW → Nat → KW → Bool) (q_cpySW : Nat → HW → Nat → W → W → KW → Bool) (fu : Nat) (call : CallW) (a0 : W) (a1 : W) (a2 : W) (a3 : W) (h0 : HW) (c0 : Nat) (K : KW) : Bool :=
q_lenW (lenC tys 30 (dec a0)) a0 fun v1 =>
call 32 [v1] h0 c0 fun v2 h3 c4 =>
q_notW (two Try.prog (dec v2) (Op.unary .not)) v2 fun v5 =>
q_share _ (fun (v7 : W) (h8 : HW) (c9 : Nat) =>
q_share _ (fun (v11 : W) (h12 : HW) (c13 : Nat) =>
q_pickW v5 ⟨8, 1, r0, []⟩ v11 fun v14 =>
q_share _ (fun (v16 : W) (h17 : HW) (c18 : Nat) =>
q_share _ (fun (v20 : W) (h21 : HW) (c22 : Nat) =>
q_pickW v14 ⟨8, 1, r0, []⟩ v20 fun v23 =>
q_share _ (fun (v25 : W) (h26 : HW) (c27 : Nat) =>
q_share _ (fun (v29 : W) (h30 : HW) (c31 : Nat) =>
q_pickW v23 ⟨8, 1, r0, []⟩ v29 fun v32 =>
q_share _ (fun (v34 : W) (h35 : HW) (c36 : Nat) =>
q_share _ (fun (v38 : W) (h39 : HW) (c40 : Nat) =>
q_pickW v32 ⟨8, 1, r0, []⟩ v38 fun v41 =>
q_share _ (fun (v43 : W) (h44 : HW) (c45 : Nat) =>
q_share _ (fun (v47 : W) (h48 : HW) (c49 : Nat) =>
q_pickW v41 ⟨8, 1, r0, []⟩ v47 fun v50 =>
q_condW v50 (
K ⟨13, 0, r0, [⟨12, 0, ⟨0, 0, 0, .nils⟩, []⟩, ⟨3, 1, r0, []⟩]⟩ h48 c49) (
q_lenW (lenC tys 30 (dec a0)) a0 fun v51 =>
q_cmpW (cmpF2 .gtr) 3 (binC Try.prog .gtr 3 (.tmp 38) (.tmp 40) (dec a2) (dec v51)) a2 v51 fun v52 =>
q_share _ (fun (v54 : W) (h55 : HW) (c56 : Nat) =>
q_share _ (fun (v58 : W) (h59 : HW) (c60 : Nat) =>
q_share _ (fun (v62 : W) (h63 : HW) (c64 : Nat) =>
q_share _ (fun (v66 : W) (h67 : HW) (c68 : Nat) =>
q_share _ (fun (v70 : W) (h71 : HW) (c72 : Nat) =>
q_share _ (fun (v74 : W) (h75 : HW) (c76 : Nat) =>
q_share _ (fun (v78 : W) (h79 : HW) (c80 : Nat) =>
q_share _ (fun (v82 : W) (h83 : HW) (c84 : Nat) =>
q_pickW v52 ⟨8, 1, r0, []⟩ v82 fun v85 =>
q_condW v85 (
K ⟨13, 0, r0, [⟨12, 0, ⟨0, 0, 0, .nils⟩, []⟩, ⟨3, 1, r0, []⟩]⟩ h83 c84) (
q_allocW (allocT tys 79) 8 true h83 c84 fun v86 h87 c88 =>
q_mulW 3 9223372036854775807 (binC Try.prog .mul 3 (.tmp 55) (.tmp 56) (dec a1) (dec a3)) a1 a3 fun v89 =>
q_addW 3 9223372036854775807 (binC Try.prog .add 3 (.tmp 54) (.tmp 57) (dec a2) (dec v89)) a2 v89 fun v90 =>
q_genW (sliceC tys 30 (dec a0) (some (dec a2)) (some (dec v90)) none) fun v91 =>
q_lenW (lenC tys 30 (dec v91)) v91 fun v92 =>
@Nat.rec (fun _ => Fun 1) (fun _ _ _ => false) (fun _ f96 v93 h94 c95 =>
q_cmpW (cmpF2 .lss) 3 (binC Try.prog .lss 3 (.tmp 61) (.tmp 60) (dec v93) (dec v92)) v93 v92 fun v97 =>
q_condW v97 (
q_share _ (fun  (h98 : HW) (c99 : Nat) =>
q_addW 3 9223372036854775807 (binC Try.prog .add 3 (.tmp 61) (.const (.int .i64 (.ofNat 1))) (dec v93) (dec ⟨3, 1, r0, []⟩)) v93 ⟨3, 1, r0, []⟩ fun v101 =>
f96 v101 h98 c99) fun f100 =>
q_idxSW 2 v91 v93 fun v102 =>
q_loadAW 2 h94 v102 fun v103 =>
q_allocW (allocT tys 38) 2 true h94 c95 fun v104 h105 c106 =>
q_storeAW 2 h105 v104 v103 fun h107 =>
q_fadW 1 v104 fun v108 =>
q_loadSW h107 v108 fun v109 =>
q_notW (two Try.prog (dec v109) (Op.unary .not)) v109 fun v110 =>
q_condW v110 (
q_remW 3 9223372036854775807 (binC Try.prog .rem 3 (.tmp 69) (.tmp 70) (dec v93) (dec a1)) v93 a1 fun v111 =>
q_idxAW 1 8 v86 v111 fun v112 =>
q_loadSW h107 v112 fun v113 =>
q_fadW 0 v104 fun v114 =>
q_loadSW h107 v114 fun v115 =>
call 37 [v115] h107 c106 fun v116 _ _ => q_knownW v116 (
q_genW (binC Try.prog .add 36 (.tmp 73) (.tmp 76) (dec v113) (dec v116)) fun v117 =>
q_idxAW 1 8 v86 v111 fun v118 =>
q_storeSW h107 v118 v117 fun h119 =>
f100 h119 c106)) (
f100 h107 c106)) (
q_makeSW 8 1 99 (.flts .f64) [⟨12, 0, ⟨0, 0, 0, .flt .f64 0⟩, []⟩] true h94 c95 a1 a1 fun v120 h121 c122 =>
q_genW (sliceC tys 79 (dec v86) none none none) fun v123 =>
q_cpySW 1 h121 c122 v120 v123 fun v124 h125 c126 =>
K ⟨13, 0, r0, [v120, ⟨3, 0, r0, []⟩]⟩ h125 c126)) fu ⟨3, 0, r0, []⟩ h87 c88)) fun f81 =>
q_guardW false v52 (q_cmpW (cmpF2 .lss) 3 (binC Try.prog .lss 3 (.tmp 46) (.tmp 49) (dec v66) (dec v78)) v66 v78 fun v127 =>
f81 v127 h79 c80) (f81 wUnd h79 c80)) fun f77 =>
q_guardW false v52 (q_mulW 3 9223372036854775807 (binC Try.prog .mul 3 (.tmp 47) (.tmp 48) (dec v70) (dec v74)) v70 v74 fun v128 =>
f77 v128 h75 c76) (f77 wUnd h75 c76)) fun f73 =>
q_guardW false v52 (f73 a3 h71 c72) (f73 wUnd h71 c72)) fun f69 =>
q_guardW false v52 (f69 a1 h67 c68) (f69 wUnd h67 c68)) fun f65 =>
q_guardW false v52 (q_subW 3 9223372036854775807 (binC Try.prog .sub 3 (.tmp 44) (.tmp 45) (dec v58) (dec v62)) v58 v62 fun v129 =>
f65 v129 h63 c64) (f65 wUnd h63 c64)) fun f61 =>
q_guardW false v52 (f61 a2 h59 c60) (f61 wUnd h59 c60)) fun f57 =>
q_guardW false v52 (q_lenW (lenC tys 30 (dec v54)) v54 fun v130 =>
f57 v130 h55 c56) (f57 wUnd h55 c56)) fun f53 =>
q_guardW false v52 (f53 a0 h48 c49) (f53 wUnd h48 c49))) fun f46 =>
q_guardW false v41 (q_cmpW (cmpF2 .gtr) 3 (binC Try.prog .gtr 3 (.tmp 35) (.const (.int .i64 (.ofNat 64))) (dec v43) (dec ⟨3, 64, r0, []⟩)) v43 ⟨3, 64, r0, []⟩ fun v131 =>
f46 v131 h44 c45) (f46 wUnd h44 c45)) fun f42 =>
q_guardW false v41 (f42 a3 h39 c40) (f42 wUnd h39 c40)) fun f37 =>
q_guardW false v32 (q_cmpW (cmpF2 .lss) 3 (binC Try.prog .lss 3 (.tmp 31) (.const (.int .i64 (.ofNat 1))) (dec v34) (dec ⟨3, 1, r0, []⟩)) v34 ⟨3, 1, r0, []⟩ fun v132 =>
f37 v132 h35 c36) (f37 wUnd h35 c36)) fun f33 =>
q_guardW false v32 (f33 a3 h30 c31) (f33 wUnd h30 c31)) fun f28 =>
q_guardW false v23 (q_cmpW (cmpF2 .lss) 3 (binC Try.prog .lss 3 (.tmp 27) (.const (.int .i64 (.ofNat 0))) (dec v25) (dec ⟨3, 0, r0, []⟩)) v25 ⟨3, 0, r0, []⟩ fun v133 =>
f28 v133 h26 c27) (f28 wUnd h26 c27)) fun f24 =>
q_guardW false v23 (f24 a2 h21 c22) (f24 wUnd h21 c22)) fun f19 =>
q_guardW false v14 (q_cmpW (cmpF2 .gtr) 3 (binC Try.prog .gtr 3 (.tmp 23) (.const (.int .i64 (.ofNat 8))) (dec v16) (dec ⟨3, 8, r0, []⟩)) v16 ⟨3, 8, r0, []⟩ fun v134 =>
f19 v134 h17 c18) (f19 wUnd h17 c18)) fun f15 =>
q_guardW false v14 (f15 a1 h12 c13) (f15 wUnd h12 c13)) fun f10 =>
q_guardW false v5 (q_cmpW (cmpF2 .lss) 3 (binC Try.prog .lss 3 (.tmp 19) (.const (.int .i64 (.ofNat 1))) (dec v7) (dec ⟨3, 1, r0, []⟩)) v7 ⟨3, 1, r0, []⟩ fun v135 =>
f10 v135 h8 c9) (f10 wUnd h8 c9)) fun f6 =>
q_guardW false v5 (f6 a1 h3 c4) (f6 wUnd h3 c4)
theorem R19_eq (Q : PrimW) (fu : Nat) (call : CallW) : curryA 4 (fnK Q Try.prog tys stl fu call e19) = R19 Q.share Q.genW Q.addW Q.subW Q.mulW Q.remW Q.cmpW Q.notW Q.condW Q.guardW Q.pickW Q.fadW Q.idxSW Q.idxAW Q.lenW Q.knownW Q.loadSW Q.loadAW Q.storeSW Q.storeAW Q.makeSW Q.allocW Q.cpySW fu call := by kernel_rfl
noncomputable def n19 : List W → HW → Nat → KW → Bool := appF 4 (R19 (fun _ x f => f x) genW addW subW mulW remW cmpW notW condW guardW pickW fadW idxSW idxAW lenW knownW loadSW loadAW storeSW storeAW makeSW allocW cpySW 1000000 d1.fn)
theorem n19_ok : FnGood Try.prog tys stl tab 19 n19 := node_ok d1_ok (by kernel_rfl) rfl g19 (R19_eq real _ _)
/- foghorn/tempo.Phase -/
noncomputable def R22 (q_share : (α : Type) → α → (α → Bool) → Bool) (q_genW : Option CV → (W → Bool) → Bool) (q_addW : Nat → Nat → Option CV → W → W → (W → Bool) → Bool) (q_cmpW : (Nat → Nat → Bool) → Nat → Option CV → W → W → (W → Bool) → Bool) (q_condW : W → Bool → Bool → Bool) (q_idxSW : Nat → W → W → (W → Bool) → Bool) (q_lenW : Option CV → W → (W → Bool) → Bool) (q_loadSW : HW → W → (W → Bool) → Bool) (fu : Nat) (call : CallW) (a0 : W) (h0 : HW) (c0 : Nat) (K : KW) : Bool :=
q_lenW (lenC tys 41 (dec a0)) a0 fun v1 =>
q_cmpW (cmpF2 .eql) 3 (binC Try.prog .eql 3 (.tmp 8) (.const (.int .i64 (.ofNat 0))) (dec v1) (dec ⟨3, 0, r0, []⟩)) v1 ⟨3, 0, r0, []⟩ fun v2 =>
q_condW v2 (
K ⟨13, 0, r0, [⟨3, 0, r0, []⟩, ⟨3, 1, r0, []⟩]⟩ h0 c0) (
q_lenW (lenC tys 41 (dec a0)) a0 fun v3 =>
@Nat.rec (fun _ => Fun 2) (fun _ _ _ _ => false) (fun _ f8 v4 v5 h6 c7 =>
q_cmpW (cmpF2 .lss) 3 (binC Try.prog .lss 3 (.tmp 12) (.tmp 11) (dec v5) (dec v3)) v5 v3 fun v9 =>
q_condW v9 (
q_share _ (fun (v10 : W) (h11 : HW) (c12 : Nat) =>
q_addW 3 9223372036854775807 (binC Try.prog .add 3 (.tmp 12) (.const (.int .i64 (.ofNat 1))) (dec v5) (dec ⟨3, 1, r0, []⟩)) v5 ⟨3, 1, r0, []⟩ fun v14 =>
f8 v10 v14 h11 c12) fun f13 =>
q_idxSW 1 a0 v5 fun v15 =>
q_loadSW h6 v15 fun v16 =>
call 39 [v16] h6 c7 fun v17 h18 c19 =>
q_condW v17 (
K ⟨13, 0, r0, [⟨3, 0, r0, []⟩, ⟨3, 1, r0, []⟩]⟩ h18 c19) (
q_idxSW 1 a0 v4 fun v20 =>
q_loadSW h18 v20 fun v21 =>
q_genW (binC Try.prog .gtr 36 (.tmp 19) (.tmp 23) (dec v16) (dec v21)) fun v22 =>
q_condW v22 (
f13 v5 h18 c19) (
f13 v4 h18 c19))) (
K ⟨13, 0, r0, [v4, ⟨3, 0, r0, []⟩]⟩ h6 c7)) fu ⟨3, 0, r0, []⟩ ⟨3, 0, r0, []⟩ h0 c0)
theorem R22_eq (Q : PrimW) (fu : Nat) (call : CallW) : curryA 1 (fnK Q Try.prog tys stl fu call e22) = R22 Q.share Q.genW Q.addW Q.cmpW Q.condW Q.idxSW Q.lenW Q.loadSW fu call := by kernel_rfl
noncomputable def n22 : List W → HW → Nat → KW → Bool := appF 1 (R22 (fun _ x f => f x) genW addW cmpW condW idxSW lenW loadSW 1000000 d1.fn)
theorem n22_ok : FnGood Try.prog tys stl tab 22 n22 := node_ok d1_ok (by kernel_rfl) rfl g22 (R22_eq real _ _)
/- foghorn/tempo.Slip -/
noncomputable def R24 (q_share : (α : Type) → α → (α → Bool) → Bool) (q_addW : Nat → Nat → Option CV → W → W → (W → Bool) → Bool) (q_cmpW : (Nat → Nat → Bool) → Nat → Option CV → W → W → (W → Bool) → Bool) (q_negW : Nat → Nat → Bool → Option CV → W → (W → Bool) → Bool) (q_condW : W → Bool → Bool → Bool) (q_guardW : Bool → W → Bool → Bool → Bool) (q_pickW : W → W → W → (W → Bool) → Bool) (q_idxSW : Nat → W → W → (W → Bool) → Bool) (q_lenW : Option CV → W → (W → Bool) → Bool) (q_onG : W → List W → (FuncId → List W → Bool) → Bool) (q_loadSW : HW → W → (W → Bool) → Bool) (q_buildSW : Nat → Nat → Kind → Nat → Bool → HW → Nat → Nat → List W → KW → Bool) (fu : Nat) (call : CallW) (a0 : W) (a1 : W) (a2 : W) (h0 : HW) (c0 : Nat) (K : KW) : Bool :=
q_lenW (lenC tys 30 (dec a0)) a0 fun v1 =>
q_cmpW (cmpF2 .gtr) 3 (binC Try.prog .gtr 3 (.tmp 15) (.const (.int .i64 (.ofNat 4096))) (dec v1) (dec ⟨3, 4096, r0, []⟩)) v1 ⟨3, 4096, r0, []⟩ fun v2 =>
q_share _ (fun (v4 : W) (h5 : HW) (c6 : Nat) =>
q_share _ (fun (v8 : W) (h9 : HW) (c10 : Nat) =>
q_share _ (fun (v12 : W) (h13 : HW) (c14 : Nat) =>
q_pickW v2 ⟨8, 1, r0, []⟩ v12 fun v15 =>
q_share _ (fun (v17 : W) (h18 : HW) (c19 : Nat) =>
q_share _ (fun (v21 : W) (h22 : HW) (c23 : Nat) =>
q_pickW v15 ⟨8, 1, r0, []⟩ v21 fun v24 =>
q_share _ (fun (v26 : W) (h27 : HW) (c28 : Nat) =>
q_share _ (fun (v30 : W) (h31 : HW) (c32 : Nat) =>
q_pickW v24 ⟨8, 1, r0, []⟩ v30 fun v33 =>
q_condW v33 (
K ⟨13, 0, r0, [⟨3, 0, r0, []⟩, ⟨3, 0, r0, []⟩, ⟨3, 1, r0, []⟩]⟩ h31 c32) (
call 40 [a0, a1] h31 c32 fun v34 h35 c36 =>
q_onG v34 [⟨3, 0, r0, []⟩] fun g37 l38 => call g37 l38 h35 c36 fun v39 h40 c41 =>
@Nat.rec (fun _ => Fun 3) (fun _ _ _ _ _ => false) (fun _ f47 v42 v43 v44 h45 c46 =>
q_cmpW (cmpF2 .leq) 3 (binC Try.prog .leq 3 (.tmp 35) (.tmp 36) (dec v44) (dec a2)) v44 a2 fun v48 =>
q_condW v48 (
q_negW 3 9223372036854775807 false (two Try.prog (dec v44) (Op.unary .neg)) v44 fun v49 =>
q_buildSW 1 3 (.ints .i64) 2 true h45 c46 2 [v44, v49] fun v50 h51 c52 =>
q_lenW (lenC tys 83 (dec v50)) v50 fun v53 =>
@Nat.rec (fun _ => Fun 3) (fun _ _ _ _ _ => false) (fun _ f59 v54 v55 v56 h57 c58 =>
q_cmpW (cmpF2 .lss) 3 (binC Try.prog .lss 3 (.tmp 45) (.tmp 44) (dec v56) (dec v53)) v56 v53 fun v60 =>
q_condW v60 (
q_share _ (fun (v61 : W) (v62 : W) (h63 : HW) (c64 : Nat) =>
q_addW 3 9223372036854775807 (binC Try.prog .add 3 (.tmp 45) (.const (.int .i64 (.ofNat 1))) (dec v56) (dec ⟨3, 1, r0, []⟩)) v56 ⟨3, 1, r0, []⟩ fun v66 =>
f59 v61 v62 v66 h63 c64) fun f65 =>
q_idxSW 1 v50 v56 fun v67 =>
q_loadSW h57 v67 fun v68 =>
q_onG v34 [v68] fun g69 l70 => call g69 l70 h57 c58 fun v71 h72 c73 =>
q_cmpW (cmpF2 .gtr) 3 (binC Try.prog .gtr 3 (.tmp 52) (.tmp 53) (dec v71) (dec v55)) v71 v55 fun v74 =>
q_condW v74 (
f65 v68 v71 h72 c73) (
f65 v54 v55 h72 c73)) (
q_addW 3 9223372036854775807 (binC Try.prog .add 3 (.tmp 38) (.const (.int .i64 (.ofNat 1))) (dec v44) (dec ⟨3, 1, r0, []⟩)) v44 ⟨3, 1, r0, []⟩ fun v75 =>
f47 v54 v55 v75 h57 c58)) fu v42 v43 ⟨3, 0, r0, []⟩ h51 c52) (
K ⟨13, 0, r0, [v42, v43, ⟨3, 0, r0, []⟩]⟩ h45 c46)) fu ⟨3, 0, r0, []⟩ v39 ⟨3, 1, r0, []⟩ h40 c41)) fun f29 =>
q_guardW false v24 (q_cmpW (cmpF2 .gtr) 3 (binC Try.prog .gtr 3 (.tmp 27) (.const (.int .i64 (.ofNat 1024))) (dec v26) (dec ⟨3, 1024, r0, []⟩)) v26 ⟨3, 1024, r0, []⟩ fun v76 =>
f29 v76 h27 c28) (f29 wUnd h27 c28)) fun f25 =>
q_guardW false v24 (f25 a2 h22 c23) (f25 wUnd h22 c23)) fun f20 =>
q_guardW false v15 (q_cmpW (cmpF2 .lss) 3 (binC Try.prog .lss 3 (.tmp 23) (.const (.int .i64 (.ofNat 0))) (dec v17) (dec ⟨3, 0, r0, []⟩)) v17 ⟨3, 0, r0, []⟩ fun v77 =>
f20 v77 h18 c19) (f20 wUnd h18 c19)) fun f16 =>
q_guardW false v15 (f16 a2 h13 c14) (f16 wUnd h13 c14)) fun f11 =>
q_guardW false v2 (q_cmpW (cmpF2 .gtr) 3 (binC Try.prog .gtr 3 (.tmp 19) (.const (.int .i64 (.ofNat 4096))) (dec v8) (dec ⟨3, 4096, r0, []⟩)) v8 ⟨3, 4096, r0, []⟩ fun v78 =>
f11 v78 h9 c10) (f11 wUnd h9 c10)) fun f7 =>
q_guardW false v2 (q_lenW (lenC tys 30 (dec v4)) v4 fun v79 =>
f7 v79 h5 c6) (f7 wUnd h5 c6)) fun f3 =>
q_guardW false v2 (f3 a1 h0 c0) (f3 wUnd h0 c0)
theorem R24_eq (Q : PrimW) (fu : Nat) (call : CallW) : curryA 3 (fnK Q Try.prog tys stl fu call e24) = R24 Q.share Q.addW Q.cmpW Q.negW Q.condW Q.guardW Q.pickW Q.idxSW Q.lenW Q.onG Q.loadSW Q.buildSW fu call := by kernel_rfl
noncomputable def n24 : List W → HW → Nat → KW → Bool := appF 3 (R24 (fun _ x f => f x) addW cmpW negW condW guardW pickW idxSW lenW onG loadSW buildSW 1000000 d1.fn)
theorem n24_ok : FnGood Try.prog tys stl tab 24 n24 := node_ok d1_ok (by kernel_rfl) rfl g24 (R24_eq real _ _)
/- foghorn/tempo.Slide -/
noncomputable def R26 (q_share : (α : Type) → α → (α → Bool) → Bool) (q_genW : Option CV → (W → Bool) → Bool) (q_addW : Nat → Nat → Option CV → W → W → (W → Bool) → Bool) (q_subW : Nat → Nat → Option CV → W → W → (W → Bool) → Bool) (q_cmpW : (Nat → Nat → Bool) → Nat → Option CV → W → W → (W → Bool) → Bool) (q_notW : Option CV → W → (W → Bool) → Bool) (q_negW : Nat → Nat → Bool → Option CV → W → (W → Bool) → Bool) (q_condW : W → Bool → Bool → Bool) (q_guardW : Bool → W → Bool → Bool → Bool) (q_pickW : W → W → W → (W → Bool) → Bool) (q_fadW : Nat → W → (W → Bool) → Bool) (q_idxSW : Nat → W → W → (W → Bool) → Bool) (q_lenW : Option CV → W → (W → Bool) → Bool) (q_storeSW : HW → W → W → (HW → Bool) → Bool) (q_makeSW : Nat → Nat → Nat → Kind → List W → Bool → HW → Nat → W → W → KW → Bool) (q_cpySW : Nat → HW → Nat → W → W → KW → Bool) (fu : Nat) (call : CallW) (a0 : W) (a1 : W) (a2 : W) (h0 : HW) (c0 : Nat) (K : KW) : Bool :=
q_lenW (lenC tys 30 (dec a0)) a0 fun v1 =>
call 32 [v1] h0 c0 fun v2 h3 c4 =>
q_notW (two Try.prog (dec v2) (Op.unary .not)) v2 fun v5 =>
q_share _ (fun (v7 : W) (h8 : HW) (c9 : Nat) =>
q_share _ (fun (v11 : W) (h12 : HW) (c13 : Nat) =>
q_pickW v5 ⟨8, 1, r0, []⟩ v11 fun v14 =>
q_share _ (fun (v16 : W) (h17 : HW) (c18 : Nat) =>
q_share _ (fun (v20 : W) (h21 : HW) (c22 : Nat) =>
q_share _ (fun (v24 : W) (h25 : HW) (c26 : Nat) =>
q_share _ (fun (v28 : W) (h29 : HW) (c30 : Nat) =>
q_pickW v14 ⟨8, 1, r0, []⟩ v28 fun v31 =>
q_share _ (fun (v33 : W) (h34 : HW) (c35 : Nat) =>
q_share _ (fun (v37 : W) (h38 : HW) (c39 : Nat) =>
q_pickW v31 ⟨8, 1, r0, []⟩ v37 fun v40 =>
q_share _ (fun (v42 : W) (h43 : HW) (c44 : Nat) =>
q_share _ (fun (v46 : W) (h47 : HW) (c48 : Nat) =>
q_pickW v40 ⟨8, 1, r0, []⟩ v46 fun v49 =>
q_condW v49 (
K ⟨13, 0, r0, [⟨12, 0, ⟨0, 0, 0, .nils⟩, []⟩, ⟨3, 1, r0, []⟩]⟩ h47 c48) (
q_negW 3 9223372036854775807 false (two Try.prog (dec a2) (Op.unary .neg)) a2 fun v50 =>
q_lenW (lenC tys 30 (dec a0)) a0 fun v51 =>
q_subW 3 9223372036854775807 (binC Try.prog .sub 3 (.tmp 35) (.tmp 36) (dec v51) (dec a1)) v51 a1 fun v52 =>
q_cmpW (cmpF2 .gtr) 3 (binC Try.prog .gtr 3 (.tmp 33) (.tmp 37) (dec v50) (dec v52)) v50 v52 fun v53 =>
q_share _ (fun (v55 : W) (h56 : HW) (c57 : Nat) =>
q_share _ (fun (v59 : W) (h60 : HW) (c61 : Nat) =>
q_share _ (fun (v63 : W) (h64 : HW) (c65 : Nat) =>
q_share _ (fun (v67 : W) (h68 : HW) (c69 : Nat) =>
q_share _ (fun (v71 : W) (h72 : HW) (c73 : Nat) =>
q_pickW v53 ⟨8, 1, r0, []⟩ v71 fun v74 =>
q_condW v74 (
K ⟨13, 0, r0, [⟨12, 0, ⟨0, 0, 0, .nils⟩, []⟩, ⟨3, 1, r0, []⟩]⟩ h72 c73) (
q_lenW (lenC tys 30 (dec a0)) a0 fun v75 =>
q_addW 3 9223372036854775807 (binC Try.prog .add 3 (.tmp 47) (.tmp 48) (dec v75) (dec a2)) v75 a2 fun v76 =>
q_makeSW 24 2 9 .avs [⟨12, 0, ⟨0, 0, 0, .cpx .f64 0 0⟩, []⟩, ⟨8, 0, r0, []⟩] true h72 c73 v76 v76 fun v77 h78 c79 =>
q_genW (sliceC tys 30 (dec a0) none (some (dec a1)) none) fun v80 =>
q_cpySW 2 h78 c79 v77 v80 fun v81 h82 c83 =>
q_cmpW (cmpF2 .lss) 3 (binC Try.prog .lss 3 (.tmp 56) (.const (.int .i64 (.ofNat 0))) (dec a2) (dec ⟨3, 0, r0, []⟩)) a2 ⟨3, 0, r0, []⟩ fun v84 =>
q_condW v84 (
q_genW (sliceC tys 30 (dec v77) (some (dec a1)) none none) fun v85 =>
q_subW 3 9223372036854775807 (binC Try.prog .sub 3 (.tmp 62) (.tmp 63) (dec a1) (dec a2)) a1 a2 fun v86 =>
q_genW (sliceC tys 30 (dec a0) (some (dec v86)) none none) fun v87 =>
q_cpySW 2 h82 c83 v85 v87 fun v88 h89 c90 =>
K ⟨13, 0, r0, [v77, ⟨3, 0, r0, []⟩]⟩ h89 c90) (
@Nat.rec (fun _ => Fun 1) (fun _ _ _ => false) (fun _ f94 v91 h92 c93 =>
q_cmpW (cmpF2 .lss) 3 (binC Try.prog .lss 3 (.tmp 69) (.tmp 68) (dec v91) (dec a2)) v91 a2 fun v95 =>
q_condW v95 (
q_addW 3 9223372036854775807 (binC Try.prog .add 3 (.tmp 73) (.tmp 74) (dec a1) (dec v91)) a1 v91 fun v96 =>
q_idxSW 2 v77 v96 fun v97 =>
q_fadW 1 v97 fun v98 =>
q_storeSW h92 v98 ⟨8, 1, r0, []⟩ fun h99 =>
q_addW 3 9223372036854775807 (binC Try.prog .add 3 (.tmp 69) (.const (.int .i64 (.ofNat 1))) (dec v91) (dec ⟨3, 1, r0, []⟩)) v91 ⟨3, 1, r0, []⟩ fun v100 =>
f94 v100 h99 c93) (
q_addW 3 9223372036854775807 (binC Try.prog .add 3 (.tmp 80) (.tmp 81) (dec a1) (dec a2)) a1 a2 fun v101 =>
q_genW (sliceC tys 30 (dec v77) (some (dec v101)) none none) fun v102 =>
q_genW (sliceC tys 30 (dec a0) (some (dec a1)) none none) fun v103 =>
q_cpySW 2 h92 c93 v102 v103 fun v104 h105 c106 =>
K ⟨13, 0, r0, [v77, ⟨3, 0, r0, []⟩]⟩ h105 c106)) fu ⟨3, 0, r0, []⟩ h82 c83))) fun f70 =>
q_guardW false v53 (q_cmpW (cmpF2 .gtr) 3 (binC Try.prog .gtr 3 (.tmp 43) (.const (.int .i64 (.ofNat 65536))) (dec v67) (dec ⟨3, 65536, r0, []⟩)) v67 ⟨3, 65536, r0, []⟩ fun v107 =>
f70 v107 h68 c69) (f70 wUnd h68 c69)) fun f66 =>
q_guardW false v53 (q_addW 3 9223372036854775807 (binC Try.prog .add 3 (.tmp 41) (.tmp 42) (dec v59) (dec v63)) v59 v63 fun v108 =>
f66 v108 h64 c65) (f66 wUnd h64 c65)) fun f62 =>
q_guardW false v53 (f62 a2 h60 c61) (f62 wUnd h60 c61)) fun f58 =>
q_guardW false v53 (q_lenW (lenC tys 30 (dec v55)) v55 fun v109 =>
f58 v109 h56 c57) (f58 wUnd h56 c57)) fun f54 =>
q_guardW false v53 (f54 a0 h47 c48) (f54 wUnd h47 c48))) fun f45 =>
q_guardW false v40 (q_cmpW (cmpF2 .gtr) 3 (binC Try.prog .gtr 3 (.tmp 29) (.const (.int .i64 (.ofNat 1024))) (dec v42) (dec ⟨3, 1024, r0, []⟩)) v42 ⟨3, 1024, r0, []⟩ fun v110 =>
f45 v110 h43 c44) (f45 wUnd h43 c44)) fun f41 =>
q_guardW false v40 (f41 a2 h38 c39) (f41 wUnd h38 c39)) fun f36 =>
q_guardW false v31 (q_cmpW (cmpF2 .lss) 3 (binC Try.prog .lss 3 (.tmp 25) (.const (.int .i64 (.negSucc 1023))) (dec v33) (dec ⟨12, 0, ⟨0, 0, 0, .int .i64 (.negSucc 1023)⟩, []⟩)) v33 ⟨12, 0, ⟨0, 0, 0, .int .i64 (.negSucc 1023)⟩, []⟩ fun v111 =>
f36 v111 h34 c35) (f36 wUnd h34 c35)) fun f32 =>
q_guardW false v31 (f32 a2 h29 c30) (f32 wUnd h29 c30)) fun f27 =>
q_guardW false v14 (q_cmpW (cmpF2 .gtr) 3 (binC Try.prog .gtr 3 (.tmp 19) (.tmp 21) (dec v16) (dec v24)) v16 v24 fun v112 =>
f27 v112 h25 c26) (f27 wUnd h25 c26)) fun f23 =>
q_guardW false v14 (q_lenW (lenC tys 30 (dec v20)) v20 fun v113 =>
f23 v113 h21 c22) (f23 wUnd h21 c22)) fun f19 =>
q_guardW false v14 (f19 a0 h17 c18) (f19 wUnd h17 c18)) fun f15 =>
q_guardW false v14 (f15 a1 h12 c13) (f15 wUnd h12 c13)) fun f10 =>
q_guardW false v5 (q_cmpW (cmpF2 .lss) 3 (binC Try.prog .lss 3 (.tmp 15) (.const (.int .i64 (.ofNat 0))) (dec v7) (dec ⟨3, 0, r0, []⟩)) v7 ⟨3, 0, r0, []⟩ fun v114 =>
f10 v114 h8 c9) (f10 wUnd h8 c9)) fun f6 =>
q_guardW false v5 (f6 a1 h3 c4) (f6 wUnd h3 c4)
theorem R26_eq (Q : PrimW) (fu : Nat) (call : CallW) : curryA 3 (fnK Q Try.prog tys stl fu call e26) = R26 Q.share Q.genW Q.addW Q.subW Q.cmpW Q.notW Q.negW Q.condW Q.guardW Q.pickW Q.fadW Q.idxSW Q.lenW Q.storeSW Q.makeSW Q.cpySW fu call := by kernel_rfl
noncomputable def n26 : List W → HW → Nat → KW → Bool := appF 3 (R26 (fun _ x f => f x) genW addW subW cmpW notW negW condW guardW pickW fadW idxSW lenW storeSW makeSW cpySW 1000000 d1.fn)
theorem n26_ok : FnGood Try.prog tys stl tab 26 n26 := node_ok d1_ok (by kernel_rfl) rfl g26 (R26_eq real _ _)
/- (foghorn/tempo.Clock).mayBe -/
noncomputable def R31 (q_share : (α : Type) → α → (α → Bool) → Bool) (q_cmpW : (Nat → Nat → Bool) → Nat → Option CV → W → W → (W → Bool) → Bool) (q_guardW : Bool → W → Bool → Bool → Bool) (q_pickW : W → W → W → (W → Bool) → Bool) (q_fadW : Nat → W → (W → Bool) → Bool) (q_killVW : W → HW → (HW → Bool) → Bool) (q_loadSW : HW → W → (W → Bool) → Bool) (q_boxW : HW → Nat → W → KW → Bool) (fu : Nat) (call : CallW) (a0 : W) (h0 : HW) (c0 : Nat) (K : KW) : Bool :=
q_boxW h0 c0 a0 fun v1 h2 c3 =>
q_fadW 0 v1 fun v4 =>
q_loadSW h2 v4 fun v5 =>
call 32 [v5] h2 c3 fun v6 h7 c8 =>
q_share _ (fun (v10 : W) (h11 : HW) (c12 : Nat) =>
q_share _ (fun (v14 : W) (h15 : HW) (c16 : Nat) =>
q_share _ (fun (v18 : W) (h19 : HW) (c20 : Nat) =>
q_pickW v6 v18 ⟨8, 0, r0, []⟩ fun v21 =>
q_share _ (fun (v23 : W) (h24 : HW) (c25 : Nat) =>
q_share _ (fun (v27 : W) (h28 : HW) (c29 : Nat) =>
q_share _ (fun (v31 : W) (h32 : HW) (c33 : Nat) =>
q_share _ (fun (v35 : W) (h36 : HW) (c37 : Nat) =>
q_share _ (fun (v39 : W) (h40 : HW) (c41 : Nat) =>
q_pickW v21 v39 ⟨8, 0, r0, []⟩ fun v42 =>
q_share _ (fun (v44 : W) (h45 : HW) (c46 : Nat) =>
q_share _ (fun (v48 : W) (h49 : HW) (c50 : Nat) =>
q_share _ (fun (v52 : W) (h53 : HW) (c54 : Nat) =>
q_pickW v42 v52 ⟨8, 0, r0, []⟩ fun v55 =>
q_killVW v1 h53 fun h56 =>
K v55 h56 c54) fun f51 =>
q_guardW true v42 (q_cmpW (cmpF2 .leq) 3 (binC Try.prog .leq 3 (.tmp 20) (.const (.int .i64 (.ofNat 65536))) (dec v48) (dec ⟨3, 65536, r0, []⟩)) v48 ⟨3, 65536, r0, []⟩ fun v57 =>
f51 v57 h49 c50) (f51 wUnd h49 c50)) fun f47 =>
q_guardW true v42 (q_loadSW h45 v44 fun v58 =>
f47 v58 h45 c46) (f47 wUnd h45 c46)) fun f43 =>
q_guardW true v42 (q_fadW 1 v1 fun v59 =>
f43 v59 h40 c41) (f43 wUnd h40 c41)) fun f38 =>
q_guardW true v21 (q_cmpW (cmpF2 .geq) 3 (binC Try.prog .geq 3 (.tmp 13) (.tmp 15) (dec v27) (dec v35)) v27 v35 fun v60 =>
f38 v60 h36 c37) (f38 wUnd h36 c37)) fun f34 =>
q_guardW true v21 (q_loadSW h32 v31 fun v61 =>
f34 v61 h32 c33) (f34 wUnd h32 c33)) fun f30 =>
q_guardW true v21 (q_fadW 2 v1 fun v62 =>
f30 v62 h28 c29) (f30 wUnd h28 c29)) fun f26 =>
q_guardW true v21 (q_loadSW h24 v23 fun v63 =>
f26 v63 h24 c25) (f26 wUnd h24 c25)) fun f22 =>
q_guardW true v21 (q_fadW 1 v1 fun v64 =>
f22 v64 h19 c20) (f22 wUnd h19 c20)) fun f17 =>
q_guardW true v6 (q_cmpW (cmpF2 .geq) 3 (binC Try.prog .geq 3 (.tmp 8) (.const (.int .i64 (.ofNat 1))) (dec v14) (dec ⟨3, 1, r0, []⟩)) v14 ⟨3, 1, r0, []⟩ fun v65 =>
f17 v65 h15 c16) (f17 wUnd h15 c16)) fun f13 =>
q_guardW true v6 (q_loadSW h11 v10 fun v66 =>
f13 v66 h11 c12) (f13 wUnd h11 c12)) fun f9 =>
q_guardW true v6 (q_fadW 2 v1 fun v67 =>
f9 v67 h7 c8) (f9 wUnd h7 c8)
theorem R31_eq (Q : PrimW) (fu : Nat) (call : CallW) : curryA 1 (fnK Q Try.prog tys stl fu call e31) = R31 Q.share Q.cmpW Q.guardW Q.pickW Q.fadW Q.killVW Q.loadSW Q.boxW fu call := by kernel_rfl
noncomputable def n31 : List W → HW → Nat → KW → Bool := appF 1 (R31 (fun _ x f => f x) cmpW guardW pickW fadW killVW loadSW boxW 1000000 d1.fn)
theorem n31_ok : FnGood Try.prog tys stl tab 31 n31 := node_ok d1_ok (by kernel_rfl) rfl g31 (R31_eq real _ _)
noncomputable def d2 : Disp := (.node 32 n32 (.node 24 n24 (.node 22 n22 (.node 19 n19 .leaf .leaf) .leaf) (.node 31 n31 (.node 26 n26 .leaf .leaf) .leaf)) (.node 39 n39 (.node 37 n37 (.node 33 n33 .leaf .leaf) .leaf) (.node 43 n43 (.node 40 n40 .leaf .leaf) .leaf)))
theorem d2_ok : CallSim Try.prog tys stl tab d2.fn := Disp.sim ⟨n32_ok, ⟨n24_ok, ⟨n22_ok, ⟨n19_ok, True.intro, True.intro⟩, True.intro⟩, ⟨n31_ok, ⟨n26_ok, True.intro, True.intro⟩, True.intro⟩⟩, ⟨n39_ok, ⟨n37_ok, ⟨n33_ok, True.intro, True.intro⟩, True.intro⟩, ⟨n43_ok, ⟨n40_ok, True.intro, True.intro⟩, True.intro⟩⟩⟩
/- foghorn/tempo.At -/
noncomputable def R10 (q_share : (α : Type) → α → (α → Bool) → Bool) (q_notW : Option CV → W → (W → Bool) → Bool) (q_condW : W → Bool → Bool → Bool) (q_guardW : Bool → W → Bool → Bool → Bool) (q_pickW : W → W → W → (W → Bool) → Bool) (q_killVW : W → HW → (HW → Bool) → Bool) (q_loadAW : Nat → HW → W → (W → Bool) → Bool) (q_boxW : HW → Nat → W → KW → Bool) (fu : Nat) (call : CallW) (a0 : W) (a1 : W) (h0 : HW) (c0 : Nat) (K : KW) : Bool :=
q_boxW h0 c0 a0 fun v1 h2 c3 =>
q_loadAW 3 h2 v1 fun v4 =>
call 31 [v4] h2 c3 fun v5 h6 c7 =>
q_notW (two Try.prog (dec v5) (Op.unary .not)) v5 fun v8 =>
q_share _ (fun (v10 : W) (h11 : HW) (c12 : Nat) =>
q_share _ (fun (v14 : W) (h15 : HW) (c16 : Nat) =>
q_share _ (fun (v18 : W) (h19 : HW) (c20 : Nat) =>
q_pickW v8 ⟨8, 1, r0, []⟩ v18 fun v21 =>
q_condW v21 (
q_killVW v1 h19 fun h22 =>
K ⟨13, 0, r0, [⟨3, 0, r0, []⟩, ⟨3, 1, r0, []⟩]⟩ h22 c20) (
q_loadAW 3 h19 v1 fun v23 =>
call 33 [v23, a1] h19 c20 fun v24 h25 c26 =>
q_killVW v1 h25 fun h27 =>
K ⟨13, 0, r0, [v24, ⟨3, 0, r0, []⟩]⟩ h27 c26)) fun f17 =>
q_guardW false v8 (q_notW (two Try.prog (dec v14) (Op.unary .not)) v14 fun v28 =>
f17 v28 h15 c16) (f17 wUnd h15 c16)) fun f13 =>
q_guardW false v8 (call 32 [v10] h11 c12 fun v29 h30 c31 =>
f13 v29 h30 c31) (f13 wUnd h11 c12)) fun f9 =>
q_guardW false v8 (f9 a1 h6 c7) (f9 wUnd h6 c7)
theorem R10_eq (Q : PrimW) (fu : Nat) (call : CallW) : curryA 2 (fnK Q Try.prog tys stl fu call e10) = R10 Q.share Q.notW Q.condW Q.guardW Q.pickW Q.killVW Q.loadAW Q.boxW fu call := by kernel_rfl
noncomputable def n10 : List W → HW → Nat → KW → Bool := appF 2 (R10 (fun _ x f => f x) notW condW guardW pickW killVW loadAW boxW 1000000 d2.fn)
theorem n10_ok : FnGood Try.prog tys stl tab 10 n10 := node_ok d2_ok (by kernel_rfl) rfl g10 (R10_eq real _ _)
/- foghorn/tempo.Long -/
noncomputable def R12 (q_share : (α : Type) → α → (α → Bool) → Bool) (q_subW : Nat → Nat → Option CV → W → W → (W → Bool) → Bool) (q_mulW : Nat → Nat → Option CV → W → W → (W → Bool) → Bool) (q_quoW : Nat → Nat → Option CV → W → W → (W → Bool) → Bool) (q_notW : Option CV → W → (W → Bool) → Bool) (q_condW : W → Bool → Bool → Bool) (q_guardW : Bool → W → Bool → Bool → Bool) (q_pickW : W → W → W → (W → Bool) → Bool) (q_fadW : Nat → W → (W → Bool) → Bool) (q_detW : W → Bool → Bool) (q_killVW : W → HW → (HW → Bool) → Bool) (q_loadSW : HW → W → (W → Bool) → Bool) (q_loadAW : Nat → HW → W → (W → Bool) → Bool) (q_boxW : HW → Nat → W → KW → Bool) (q_samQW : W → W → Bool → Bool) (fu : Nat) (call : CallW) (a0 : W) (a1 : W) (h0 : HW) (c0 : Nat) (K : KW) : Bool :=
q_boxW h0 c0 a0 fun v1 h2 c3 =>
q_loadAW 3 h2 v1 fun v4 =>
call 31 [v4] h2 c3 fun v5 h6 c7 =>
q_notW (two Try.prog (dec v5) (Op.unary .not)) v5 fun v8 =>
q_share _ (fun (v10 : W) (h11 : HW) (c12 : Nat) =>
q_share _ (fun (v14 : W) (h15 : HW) (c16 : Nat) =>
q_share _ (fun (v18 : W) (h19 : HW) (c20 : Nat) =>
q_pickW v8 ⟨8, 1, r0, []⟩ v18 fun v21 =>
q_condW v21 (
q_killVW v1 h19 fun h22 =>
K ⟨13, 0, r0, [⟨3, 0, r0, []⟩, ⟨3, 1, r0, []⟩]⟩ h22 c20) (
q_loadAW 3 h19 v1 fun v23 =>
q_fadW 0 v1 fun v24 =>
q_detW v24 (
q_fadW 1 v1 fun v25 =>
q_detW v25 (
q_fadW 2 v1 fun v26 =>
q_detW v26 (
q_loadSW h19 v24 fun v27 =>
q_loadSW h19 v25 fun v28 =>
q_loadSW h19 v26 fun v29 =>
q_quoW 3 9223372036854775807 (binC Try.prog .quo 3 (.tmp 22) (.tmp 24) (dec v28) (dec v29)) v28 v29 fun v30 =>
q_detW v30 (
q_mulW 3 9223372036854775807 (binC Try.prog .mul 3 (.tmp 20) (.tmp 25) (dec a1) (dec v30)) a1 v30 fun v31 =>
q_detW v31 (
call 33 [v23, a1] h19 c20 fun v32 h33 c34 =>
q_loadSW h33 v26 fun v35 =>
q_samQW v35 v29 (
q_loadSW h33 v25 fun v36 =>
q_samQW v36 v28 (
q_loadSW h33 v24 fun v37 =>
q_samQW v37 v27 (
q_subW 3 9223372036854775807 (binC Try.prog .sub 3 (.tmp 16) (.tmp 18) (dec v32) (dec v27)) v32 v27 fun v38 =>
q_subW 3 9223372036854775807 (binC Try.prog .sub 3 (.tmp 19) (.tmp 26) (dec v38) (dec v31)) v38 v31 fun v39 =>
q_killVW v1 h33 fun h40 =>
K ⟨13, 0, r0, [v39, ⟨3, 0, r0, []⟩]⟩ h40 c34)))))))))) fun f17 =>
q_guardW false v8 (q_notW (two Try.prog (dec v14) (Op.unary .not)) v14 fun v41 =>
f17 v41 h15 c16) (f17 wUnd h15 c16)) fun f13 =>
q_guardW false v8 (call 32 [v10] h11 c12 fun v42 h43 c44 =>
f13 v42 h43 c44) (f13 wUnd h11 c12)) fun f9 =>
q_guardW false v8 (f9 a1 h6 c7) (f9 wUnd h6 c7)
theorem R12_eq (Q : PrimW) (fu : Nat) (call : CallW) : curryA 2 (fnK Q Try.prog tys stl fu call e12) = R12 Q.share Q.subW Q.mulW Q.quoW Q.notW Q.condW Q.guardW Q.pickW Q.fadW Q.detW Q.killVW Q.loadSW Q.loadAW Q.boxW Q.samQW fu call := by kernel_rfl
noncomputable def n12 : List W → HW → Nat → KW → Bool := appF 2 (R12 (fun _ x f => f x) subW mulW quoW notW condW guardW pickW fadW detW killVW loadSW loadAW boxW samQW 1000000 d2.fn)
theorem n12_ok : FnGood Try.prog tys stl tab 12 n12 := node_ok d2_ok (by kernel_rfl) rfl g12 (R12_eq real _ _)
/- foghorn/tempo.Pick -/
noncomputable def R30 (q_share : (α : Type) → α → (α → Bool) → Bool) (q_addW : Nat → Nat → Option CV → W → W → (W → Bool) → Bool) (q_cmpW : (Nat → Nat → Bool) → Nat → Option CV → W → W → (W → Bool) → Bool) (q_notW : Option CV → W → (W → Bool) → Bool) (q_condW : W → Bool → Bool → Bool) (q_guardW : Bool → W → Bool → Bool → Bool) (q_pickW : W → W → W → (W → Bool) → Bool) (q_fadW : Nat → W → (W → Bool) → Bool) (q_idxSW : Nat → W → W → (W → Bool) → Bool) (q_lenW : Option CV → W → (W → Bool) → Bool) (q_killVW : W → HW → (HW → Bool) → Bool) (q_loadAW : Nat → HW → W → (W → Bool) → Bool) (q_storeSW : HW → W → W → (HW → Bool) → Bool) (q_storeAW : Nat → HW → W → W → (HW → Bool) → Bool) (q_makeSW : Nat → Nat → Nat → Kind → List W → Bool → HW → Nat → W → W → KW → Bool) (q_boxW : HW → Nat → W → KW → Bool) (fu : Nat) (call : CallW) (a0 : W) (a1 : W) (a2 : W) (h0 : HW) (c0 : Nat) (K : KW) : Bool :=
q_boxW h0 c0 a0 fun v1 h2 c3 =>
q_loadAW 3 h2 v1 fun v4 =>
call 31 [v4] h2 c3 fun v5 h6 c7 =>
q_notW (two Try.prog (dec v5) (Op.unary .not)) v5 fun v8 =>
q_share _ (fun (v10 : W) (h11 : HW) (c12 : Nat) =>
q_share _ (fun (v14 : W) (h15 : HW) (c16 : Nat) =>
q_share _ (fun (v18 : W) (h19 : HW) (c20 : Nat) =>
q_share _ (fun (v22 : W) (h23 : HW) (c24 : Nat) =>
q_pickW v8 ⟨8, 1, r0, []⟩ v22 fun v25 =>
q_share _ (fun (v27 : W) (h28 : HW) (c29 : Nat) =>
q_share _ (fun (v31 : W) (h32 : HW) (c33 : Nat) =>
q_share _ (fun (v35 : W) (h36 : HW) (c37 : Nat) =>
q_pickW v25 ⟨8, 1, r0, []⟩ v35 fun v38 =>
q_condW v38 (
q_killVW v1 h36 fun h39 =>
K ⟨13, 0, r0, [⟨12, 0, ⟨0, 0, 0, .nils⟩, []⟩, ⟨3, 1, r0, []⟩]⟩ h39 c37) (
q_makeSW 24 2 9 .avs [⟨12, 0, ⟨0, 0, 0, .cpx .f64 0 0⟩, []⟩, ⟨8, 0, r0, []⟩] true h36 c37 a2 a2 fun v40 h41 c42 =>
q_lenW (lenC tys 30 (dec v40)) v40 fun v43 =>
@Nat.rec (fun _ => Fun 1) (fun _ _ _ => false) (fun _ f47 v44 h45 c46 =>
q_cmpW (cmpF2 .lss) 3 (binC Try.prog .lss 3 (.tmp 29) (.tmp 28) (dec v44) (dec v43)) v44 v43 fun v48 =>
q_condW v48 (
q_share _ (fun  (h49 : HW) (c50 : Nat) =>
q_addW 3 9223372036854775807 (binC Try.prog .add 3 (.tmp 29) (.const (.int .i64 (.ofNat 1))) (dec v44) (dec ⟨3, 1, r0, []⟩)) v44 ⟨3, 1, r0, []⟩ fun v52 =>
f47 v52 h49 c50) fun f51 =>
q_loadAW 3 h45 v1 fun v53 =>
call 33 [v53, v44] h45 c46 fun v54 h55 c56 =>
q_lenW (lenC tys 30 (dec a1)) a1 fun v57 =>
q_cmpW (cmpF2 .lss) 3 (binC Try.prog .lss 3 (.tmp 35) (.tmp 37) (dec v54) (dec v57)) v54 v57 fun v58 =>
q_condW v58 (
q_idxSW 2 a1 v54 fun v59 =>
q_loadAW 2 h55 v59 fun v60 =>
q_idxSW 2 v40 v44 fun v61 =>
q_storeAW 2 h55 v61 v60 fun h62 =>
f51 h62 c56) (
q_idxSW 2 v40 v44 fun v63 =>
q_fadW 1 v63 fun v64 =>
q_storeSW h55 v64 ⟨8, 1, r0, []⟩ fun h65 =>
f51 h65 c56)) (
q_killVW v1 h45 fun h66 =>
K ⟨13, 0, r0, [v40, ⟨3, 0, r0, []⟩]⟩ h66 c46)) fu ⟨3, 0, r0, []⟩ h41 c42)) fun f34 =>
q_guardW false v25 (q_notW (two Try.prog (dec v31) (Op.unary .not)) v31 fun v67 =>
f34 v67 h32 c33) (f34 wUnd h32 c33)) fun f30 =>
q_guardW false v25 (call 32 [v27] h28 c29 fun v68 h69 c70 =>
f30 v68 h69 c70) (f30 wUnd h28 c29)) fun f26 =>
q_guardW false v25 (f26 a2 h23 c24) (f26 wUnd h23 c24)) fun f21 =>
q_guardW false v8 (q_notW (two Try.prog (dec v18) (Op.unary .not)) v18 fun v71 =>
f21 v71 h19 c20) (f21 wUnd h19 c20)) fun f17 =>
q_guardW false v8 (call 32 [v14] h15 c16 fun v72 h73 c74 =>
f17 v72 h73 c74) (f17 wUnd h15 c16)) fun f13 =>
q_guardW false v8 (q_lenW (lenC tys 30 (dec v10)) v10 fun v75 =>
f13 v75 h11 c12) (f13 wUnd h11 c12)) fun f9 =>
q_guardW false v8 (f9 a1 h6 c7) (f9 wUnd h6 c7)
theorem R30_eq (Q : PrimW) (fu : Nat) (call : CallW) : curryA 3 (fnK Q Try.prog tys stl fu call e30) = R30 Q.share Q.addW Q.cmpW Q.notW Q.condW Q.guardW Q.pickW Q.fadW Q.idxSW Q.lenW Q.killVW Q.loadAW Q.storeSW Q.storeAW Q.makeSW Q.boxW fu call := by kernel_rfl
noncomputable def n30 : List W → HW → Nat → KW → Bool := appF 3 (R30 (fun _ x f => f x) addW cmpW notW condW guardW pickW fadW idxSW lenW killVW loadAW storeSW storeAW makeSW boxW 1000000 d2.fn)
theorem n30_ok : FnGood Try.prog tys stl tab 30 n30 := node_ok d2_ok (by kernel_rfl) rfl g30 (R30_eq real _ _)
noncomputable def d3 : Disp := (.node 31 n31 (.node 22 n22 (.node 12 n12 (.node 10 n10 .leaf .leaf) (.node 19 n19 .leaf .leaf)) (.node 26 n26 (.node 24 n24 .leaf .leaf) (.node 30 n30 .leaf .leaf))) (.node 39 n39 (.node 33 n33 (.node 32 n32 .leaf .leaf) (.node 37 n37 .leaf .leaf)) (.node 43 n43 (.node 40 n40 .leaf .leaf) .leaf)))
theorem d3_ok : CallSim Try.prog tys stl tab d3.fn := Disp.sim ⟨n31_ok, ⟨n22_ok, ⟨n12_ok, ⟨n10_ok, True.intro, True.intro⟩, ⟨n19_ok, True.intro, True.intro⟩⟩, ⟨n26_ok, ⟨n24_ok, True.intro, True.intro⟩, ⟨n30_ok, True.intro, True.intro⟩⟩⟩, ⟨n39_ok, ⟨n33_ok, ⟨n32_ok, True.intro, True.intro⟩, ⟨n37_ok, True.intro, True.intro⟩⟩, ⟨n43_ok, ⟨n40_ok, True.intro, True.intro⟩, True.intro⟩⟩⟩
/- foghorn/foghornlaw12.awake -/
noncomputable def R18 (q_share : (α : Type) → α → (α → Bool) → Bool) (q_cmpW : (Nat → Nat → Bool) → Nat → Option CV → W → W → (W → Bool) → Bool) (q_guardW : Bool → W → Bool → Bool → Bool) (q_pickW : W → W → W → (W → Bool) → Bool) (q_tupW : W → (List W → Bool) → Bool) (q_nthW : Nat → List W → (W → Bool) → Bool) (q_buildSW : Nat → Nat → Kind → Nat → Bool → HW → Nat → Nat → List W → KW → Bool) (q_flatW : W → Bool → Bool) (fu : Nat) (call : CallW) (h0 : HW) (c0 : Nat) (K : KW) : Bool :=
q_flatW ⟨3, 3, r0, []⟩ (
q_flatW ⟨3, 5, r0, []⟩ (
q_flatW ⟨3, 2, r0, []⟩ (
(fun (v1 : W) =>
call 10 [v1, ⟨3, 3, r0, []⟩] h0 c0 fun v2 h3 c4 =>
q_tupW v2 fun l5 => q_nthW 0 l5 fun v6 =>
q_tupW v2 fun l7 => q_nthW 1 l7 fun v8 =>
q_flatW ⟨12, 0, ⟨0, 0, 0, .cpx .f64 4607182418800017408 0⟩, []⟩ (
(fun (v9 : W) =>
q_flatW ⟨12, 0, ⟨0, 0, 0, .cpx .f64 4611686018427387904 0⟩, []⟩ (
(fun (v10 : W) =>
q_flatW ⟨12, 0, ⟨0, 0, 0, .cpx .f64 4613937818241073152 0⟩, []⟩ (
(fun (v11 : W) =>
q_buildSW 2 9 .avs 6 true h3 c4 3 [v9, v10, v11] fun v12 h13 c14 =>
q_flatW ⟨12, 0, ⟨0, 0, 0, .cpx .f64 4621256167635550208 0⟩, []⟩ (
(fun (v15 : W) =>
q_flatW ⟨12, 0, ⟨0, 0, 0, .cpx .f64 4607182418800017408 0⟩, []⟩ (
(fun (v16 : W) =>
q_flatW ⟨12, 0, ⟨0, 0, 0, .cpx .f64 4611686018427387904 0⟩, []⟩ (
(fun (v17 : W) =>
q_flatW ⟨12, 0, ⟨0, 0, 0, .cpx .f64 4613937818241073152 0⟩, []⟩ (
(fun (v18 : W) =>
q_buildSW 2 9 .avs 8 true h13 c14 4 [v15, v16, v17, v18] fun v19 h20 c21 =>
call 24 [v12, v19, ⟨3, 2, r0, []⟩] h20 c21 fun v22 h23 c24 =>
q_tupW v22 fun l25 => q_nthW 0 l25 fun v26 =>
q_tupW v22 fun l27 => q_nthW 1 l27 fun v28 =>
q_tupW v22 fun l29 => q_nthW 2 l29 fun v30 =>
q_cmpW (cmpF2 .eql) 3 (binC Try.prog .eql 3 (.tmp 27) (.const (.int .i64 (.ofNat 10))) (dec v6) (dec ⟨3, 10, r0, []⟩)) v6 ⟨3, 10, r0, []⟩ fun v31 =>
q_share _ (fun (v33 : W) (h34 : HW) (c35 : Nat) =>
q_share _ (fun (v37 : W) (h38 : HW) (c39 : Nat) =>
q_pickW v31 v37 ⟨8, 0, r0, []⟩ fun v40 =>
q_share _ (fun (v42 : W) (h43 : HW) (c44 : Nat) =>
q_share _ (fun (v46 : W) (h47 : HW) (c48 : Nat) =>
q_pickW v40 v46 ⟨8, 0, r0, []⟩ fun v49 =>
q_share _ (fun (v51 : W) (h52 : HW) (c53 : Nat) =>
q_share _ (fun (v55 : W) (h56 : HW) (c57 : Nat) =>
q_pickW v49 v55 ⟨8, 0, r0, []⟩ fun v58 =>
q_share _ (fun (v60 : W) (h61 : HW) (c62 : Nat) =>
q_share _ (fun (v64 : W) (h65 : HW) (c66 : Nat) =>
q_pickW v58 v64 ⟨8, 0, r0, []⟩ fun v67 =>
K v67 h65 c66) fun f63 =>
q_guardW true v58 (q_cmpW (cmpF2 .eql) 3 (binC Try.prog .eql 26 (.tmp 42) (.const (.int .i64 (.ofNat 0))) (dec v60) (dec ⟨3, 0, r0, []⟩)) v60 ⟨3, 0, r0, []⟩ fun v68 =>
f63 v68 h61 c62) (f63 wUnd h61 c62)) fun f59 =>
q_guardW true v58 (f59 v30 h56 c57) (f59 wUnd h56 c57)) fun f54 =>
q_guardW true v49 (q_cmpW (cmpF2 .eql) 3 (binC Try.prog .eql 3 (.tmp 38) (.const (.int .i64 (.ofNat 3))) (dec v51) (dec ⟨3, 3, r0, []⟩)) v51 ⟨3, 3, r0, []⟩ fun v69 =>
f54 v69 h52 c53) (f54 wUnd h52 c53)) fun f50 =>
q_guardW true v49 (f50 v28 h47 c48) (f50 wUnd h47 c48)) fun f45 =>
q_guardW true v40 (q_cmpW (cmpF2 .eql) 3 (binC Try.prog .eql 3 (.tmp 34) (.const (.int .i64 (.ofNat 1))) (dec v42) (dec ⟨3, 1, r0, []⟩)) v42 ⟨3, 1, r0, []⟩ fun v70 =>
f45 v70 h43 c44) (f45 wUnd h43 c44)) fun f41 =>
q_guardW true v40 (f41 v26 h38 c39) (f41 wUnd h38 c39)) fun f36 =>
q_guardW true v31 (q_cmpW (cmpF2 .eql) 3 (binC Try.prog .eql 26 (.tmp 30) (.const (.int .i64 (.ofNat 0))) (dec v33) (dec ⟨3, 0, r0, []⟩)) v33 ⟨3, 0, r0, []⟩ fun v71 =>
f36 v71 h34 c35) (f36 wUnd h34 c35)) fun f32 =>
q_guardW true v31 (f32 v8 h23 c24) (f32 wUnd h23 c24)) ⟨15, 0, r0, [⟨12, 0, ⟨0, 0, 0, .cpx .f64 4613937818241073152 0⟩, []⟩, ⟨8, 0, r0, []⟩]⟩)) ⟨15, 0, r0, [⟨12, 0, ⟨0, 0, 0, .cpx .f64 4611686018427387904 0⟩, []⟩, ⟨8, 0, r0, []⟩]⟩)) ⟨15, 0, r0, [⟨12, 0, ⟨0, 0, 0, .cpx .f64 4607182418800017408 0⟩, []⟩, ⟨8, 0, r0, []⟩]⟩)) ⟨15, 0, r0, [⟨12, 0, ⟨0, 0, 0, .cpx .f64 4621256167635550208 0⟩, []⟩, ⟨8, 0, r0, []⟩]⟩)) ⟨15, 0, r0, [⟨12, 0, ⟨0, 0, 0, .cpx .f64 4613937818241073152 0⟩, []⟩, ⟨8, 0, r0, []⟩]⟩)) ⟨15, 0, r0, [⟨12, 0, ⟨0, 0, 0, .cpx .f64 4611686018427387904 0⟩, []⟩, ⟨8, 0, r0, []⟩]⟩)) ⟨15, 0, r0, [⟨12, 0, ⟨0, 0, 0, .cpx .f64 4607182418800017408 0⟩, []⟩, ⟨8, 0, r0, []⟩]⟩)) ⟨15, 0, r0, [⟨3, 3, r0, []⟩, ⟨3, 5, r0, []⟩, ⟨3, 2, r0, []⟩]⟩)))
theorem R18_eq (Q : PrimW) (fu : Nat) (call : CallW) : curryA 0 (fnK Q Try.prog tys stl fu call e18) = R18 Q.share Q.cmpW Q.guardW Q.pickW Q.tupW Q.nthW Q.buildSW Q.flatW fu call := by kernel_rfl
noncomputable def n18 : List W → HW → Nat → KW → Bool := appF 0 (R18 (fun _ x f => f x) cmpW guardW pickW tupW nthW buildSW flatW 1000000 d3.fn)
theorem n18_ok : FnGood Try.prog tys stl tab 18 n18 := node_ok d3_ok (by kernel_rfl) rfl g18 (R18_eq real _ _)
noncomputable def d4 : Disp := (.node 30 n30 (.node 19 n19 (.node 12 n12 (.node 10 n10 .leaf .leaf) (.node 18 n18 .leaf .leaf)) (.node 24 n24 (.node 22 n22 .leaf .leaf) (.node 26 n26 .leaf .leaf))) (.node 37 n37 (.node 32 n32 (.node 31 n31 .leaf .leaf) (.node 33 n33 .leaf .leaf)) (.node 40 n40 (.node 39 n39 .leaf .leaf) (.node 43 n43 .leaf .leaf))))
theorem d4_ok : CallSim Try.prog tys stl tab d4.fn := Disp.sim ⟨n30_ok, ⟨n19_ok, ⟨n12_ok, ⟨n10_ok, True.intro, True.intro⟩, ⟨n18_ok, True.intro, True.intro⟩⟩, ⟨n24_ok, ⟨n22_ok, True.intro, True.intro⟩, ⟨n26_ok, True.intro, True.intro⟩⟩⟩, ⟨n37_ok, ⟨n32_ok, ⟨n31_ok, True.intro, True.intro⟩, ⟨n33_ok, True.intro, True.intro⟩⟩, ⟨n40_ok, ⟨n39_ok, True.intro, True.intro⟩, ⟨n43_ok, True.intro, True.intro⟩⟩⟩⟩
/- foghorn/foghornlaw12.TempoNone -/
noncomputable def R9 (q_share : (α : Type) → α → (α → Bool) → Bool) (q_cmpW : (Nat → Nat → Bool) → Nat → Option CV → W → W → (W → Bool) → Bool) (q_guardW : Bool → W → Bool → Bool → Bool) (q_pickW : W → W → W → (W → Bool) → Bool) (q_fadW : Nat → W → (W → Bool) → Bool) (q_idxSW : Nat → W → W → (W → Bool) → Bool) (q_lenW : Option CV → W → (W → Bool) → Bool) (q_tupW : W → (List W → Bool) → Bool) (q_nthW : Nat → List W → (W → Bool) → Bool) (q_killVW : W → HW → (HW → Bool) → Bool) (q_loadSW : HW → W → (W → Bool) → Bool) (q_loadAW : Nat → HW → W → (W → Bool) → Bool) (q_storeAW : Nat → HW → W → W → (HW → Bool) → Bool) (q_makeSW : Nat → Nat → Nat → Kind → List W → Bool → HW → Nat → W → W → KW → Bool) (q_allocW : Trie W → Nat → Bool → HW → Nat → KW → Bool) (q_flatW : W → Bool → Bool) (fu : Nat) (call : CallW) (h0 : HW) (c0 : Nat) (K : KW) : Bool :=
q_flatW ⟨3, 65536, r0, []⟩ (
q_flatW ⟨3, 65536, r0, []⟩ (
q_flatW ⟨3, 1, r0, []⟩ (
(fun (v1 : W) =>
q_allocW (allocT tys 25) 3 true h0 c0 fun v2 h3 c4 =>
q_storeAW 3 h3 v2 v1 fun h5 =>
q_loadAW 3 h5 v2 fun v6 =>
call 10 [v6, ⟨3, 65536, r0, []⟩] h5 c4 fun v7 h8 c9 =>
q_tupW v7 fun l10 => q_nthW 0 l10 fun v11 =>
q_tupW v7 fun l12 => q_nthW 1 l12 fun v13 =>
q_flatW ⟨3, 65537, r0, []⟩ (
q_flatW ⟨3, 1, r0, []⟩ (
q_flatW ⟨3, 1, r0, []⟩ (
(fun (v14 : W) =>
call 10 [v14, ⟨3, 0, r0, []⟩] h8 c9 fun v15 h16 c17 =>
q_tupW v15 fun l18 => q_nthW 0 l18 fun v19 =>
q_tupW v15 fun l20 => q_nthW 1 l20 fun v21 =>
q_flatW ⟨3, 1, r0, []⟩ (
q_flatW ⟨3, 2, r0, []⟩ (
(fun (v22 : W) =>
call 10 [v22, ⟨3, 0, r0, []⟩] h16 c17 fun v23 h24 c25 =>
q_tupW v23 fun l26 => q_nthW 0 l26 fun v27 =>
q_tupW v23 fun l28 => q_nthW 1 l28 fun v29 =>
q_flatW ⟨3, 65537, r0, []⟩ (
q_flatW ⟨3, 1, r0, []⟩ (
(fun (v30 : W) =>
call 12 [v30, ⟨3, 0, r0, []⟩] h24 c25 fun v31 h32 c33 =>
q_tupW v31 fun l34 => q_nthW 0 l34 fun v35 =>
q_tupW v31 fun l36 => q_nthW 1 l36 fun v37 =>
q_flatW ⟨3, 1, r0, []⟩ (
q_flatW ⟨3, 0, r0, []⟩ (
(fun (v38 : W) =>
call 12 [v38, ⟨3, 0, r0, []⟩] h32 c33 fun v39 h40 c41 =>
q_tupW v39 fun l42 => q_nthW 0 l42 fun v43 =>
q_tupW v39 fun l44 => q_nthW 1 l44 fun v45 =>
q_flatW ⟨3, 1, r0, []⟩ (
q_flatW ⟨3, 1, r0, []⟩ (
(fun (v46 : W) =>
call 30 [v46, ⟨12, 0, ⟨0, 0, 0, .nils⟩, []⟩, ⟨3, 2, r0, []⟩] h40 c41 fun v47 h48 c49 =>
q_tupW v47 fun l50 => q_nthW 0 l50 fun v51 =>
q_tupW v47 fun l52 => q_nthW 1 l52 fun v53 =>
q_flatW ⟨3, 1, r0, []⟩ (
q_flatW ⟨3, 1, r0, []⟩ (
(fun (v54 : W) =>
call 30 [v54, ⟨12, 0, ⟨0, 0, 0, .nils⟩, []⟩, ⟨3, 65537, r0, []⟩] h48 c49 fun v55 h56 c57 =>
q_tupW v55 fun l58 => q_nthW 0 l58 fun v59 =>
q_tupW v55 fun l60 => q_nthW 1 l60 fun v61 =>
q_makeSW 24 2 9 .avs [⟨12, 0, ⟨0, 0, 0, .cpx .f64 0 0⟩, []⟩, ⟨8, 0, r0, []⟩] true h56 c57 ⟨3, 512, r0, []⟩ ⟨3, 512, r0, []⟩ fun v62 h63 c64 =>
call 19 [v62, ⟨3, 8, r0, []⟩, ⟨3, 0, r0, []⟩, ⟨3, 64, r0, []⟩] h63 c64 fun v65 h66 c67 =>
q_tupW v65 fun l68 => q_nthW 0 l68 fun v69 =>
q_tupW v65 fun l70 => q_nthW 1 l70 fun v71 =>
q_makeSW 24 2 9 .avs [⟨12, 0, ⟨0, 0, 0, .cpx .f64 0 0⟩, []⟩, ⟨8, 0, r0, []⟩] true h66 c67 ⟨3, 512, r0, []⟩ ⟨3, 512, r0, []⟩ fun v72 h73 c74 =>
call 19 [v72, ⟨3, 8, r0, []⟩, ⟨3, 1, r0, []⟩, ⟨3, 64, r0, []⟩] h73 c74 fun v75 h76 c77 =>
q_tupW v75 fun l78 => q_nthW 0 l78 fun v79 =>
q_tupW v75 fun l80 => q_nthW 1 l80 fun v81 =>
q_makeSW 24 2 9 .avs [⟨12, 0, ⟨0, 0, 0, .cpx .f64 0 0⟩, []⟩, ⟨8, 0, r0, []⟩] true h76 c77 ⟨3, 9, r0, []⟩ ⟨3, 9, r0, []⟩ fun v82 h83 c84 =>
call 19 [v82, ⟨3, 9, r0, []⟩, ⟨3, 0, r0, []⟩, ⟨3, 1, r0, []⟩] h83 c84 fun v85 h86 c87 =>
q_tupW v85 fun l88 => q_nthW 0 l88 fun v89 =>
q_tupW v85 fun l90 => q_nthW 1 l90 fun v91 =>
q_makeSW 24 2 9 .avs [⟨12, 0, ⟨0, 0, 0, .cpx .f64 0 0⟩, []⟩, ⟨8, 0, r0, []⟩] true h86 c87 ⟨3, 99, r0, []⟩ ⟨3, 99, r0, []⟩ fun v92 h93 c94 =>
call 19 [v92, ⟨3, 1, r0, []⟩, ⟨3, 0, r0, []⟩, ⟨3, 65, r0, []⟩] h93 c94 fun v95 h96 c97 =>
q_tupW v95 fun l98 => q_nthW 0 l98 fun v99 =>
q_tupW v95 fun l100 => q_nthW 1 l100 fun v101 =>
call 22 [⟨12, 0, ⟨0, 0, 0, .nils⟩, []⟩] h96 c97 fun v102 h103 c104 =>
q_tupW v102 fun l105 => q_nthW 0 l105 fun v106 =>
q_tupW v102 fun l107 => q_nthW 1 l107 fun v108 =>
q_makeSW 24 2 9 .avs [⟨12, 0, ⟨0, 0, 0, .cpx .f64 0 0⟩, []⟩, ⟨8, 0, r0, []⟩] true h103 c104 ⟨3, 4097, r0, []⟩ ⟨3, 4097, r0, []⟩ fun v109 h110 c111 =>
call 24 [v109, ⟨12, 0, ⟨0, 0, 0, .nils⟩, []⟩, ⟨3, 0, r0, []⟩] h110 c111 fun v112 h113 c114 =>
q_tupW v112 fun l115 => q_nthW 0 l115 fun v116 =>
q_tupW v112 fun l117 => q_nthW 1 l117 fun v118 =>
q_tupW v112 fun l119 => q_nthW 2 l119 fun v120 =>
call 24 [⟨12, 0, ⟨0, 0, 0, .nils⟩, []⟩, ⟨12, 0, ⟨0, 0, 0, .nils⟩, []⟩, ⟨3, 1024, r0, []⟩] h113 c114 fun v121 h122 c123 =>
q_tupW v121 fun l124 => q_nthW 0 l124 fun v125 =>
q_tupW v121 fun l126 => q_nthW 1 l126 fun v127 =>
q_tupW v121 fun l128 => q_nthW 2 l128 fun v129 =>
call 24 [⟨12, 0, ⟨0, 0, 0, .nils⟩, []⟩, ⟨12, 0, ⟨0, 0, 0, .nils⟩, []⟩, ⟨3, 1025, r0, []⟩] h122 c123 fun v130 h131 c132 =>
q_tupW v130 fun l133 => q_nthW 0 l133 fun v134 =>
q_tupW v130 fun l135 => q_nthW 1 l135 fun v136 =>
q_tupW v130 fun l137 => q_nthW 2 l137 fun v138 =>
q_makeSW 24 2 9 .avs [⟨12, 0, ⟨0, 0, 0, .cpx .f64 0 0⟩, []⟩, ⟨8, 0, r0, []⟩] true h131 c132 ⟨3, 65536, r0, []⟩ ⟨3, 65536, r0, []⟩ fun v139 h140 c141 =>
call 26 [v139, ⟨3, 0, r0, []⟩, ⟨3, 1, r0, []⟩] h140 c141 fun v142 h143 c144 =>
q_tupW v142 fun l145 => q_nthW 0 l145 fun v146 =>
q_tupW v142 fun l147 => q_nthW 1 l147 fun v148 =>
call 26 [⟨12, 0, ⟨0, 0, 0, .nils⟩, []⟩, ⟨3, 0, r0, []⟩, ⟨12, 0, ⟨0, 0, 0, .int .i64 (.negSucc 0)⟩, []⟩] h143 c144 fun v149 h150 c151 =>
q_tupW v149 fun l152 => q_nthW 0 l152 fun v153 =>
q_tupW v149 fun l154 => q_nthW 1 l154 fun v155 =>
call 26 [⟨12, 0, ⟨0, 0, 0, .nils⟩, []⟩, ⟨3, 1, r0, []⟩, ⟨3, 0, r0, []⟩] h150 c151 fun v156 h157 c158 =>
q_tupW v156 fun l159 => q_nthW 0 l159 fun v160 =>
q_tupW v156 fun l161 => q_nthW 1 l161 fun v162 =>
call 26 [⟨12, 0, ⟨0, 0, 0, .nils⟩, []⟩, ⟨3, 0, r0, []⟩, ⟨3, 1024, r0, []⟩] h157 c158 fun v163 h164 c165 =>
q_tupW v163 fun l166 => q_nthW 0 l166 fun v167 =>
q_tupW v163 fun l168 => q_nthW 1 l168 fun v169 =>
q_cmpW (cmpF2 .eql) 3 (binC Try.prog .eql 3 (.tmp 136) (.const (.int .i64 (.ofNat 4295032832))) (dec v11) (dec ⟨3, 4295032832, r0, []⟩)) v11 ⟨3, 4295032832, r0, []⟩ fun v170 =>
q_share _ (fun (v172 : W) (h173 : HW) (c174 : Nat) =>
q_share _ (fun (v176 : W) (h177 : HW) (c178 : Nat) =>
q_pickW v170 v176 ⟨8, 0, r0, []⟩ fun v179 =>
q_share _ (fun (v181 : W) (h182 : HW) (c183 : Nat) =>
q_share _ (fun (v185 : W) (h186 : HW) (c187 : Nat) =>
q_pickW v179 v185 ⟨8, 0, r0, []⟩ fun v188 =>
q_share _ (fun (v190 : W) (h191 : HW) (c192 : Nat) =>
q_share _ (fun (v194 : W) (h195 : HW) (c196 : Nat) =>
q_pickW v188 v194 ⟨8, 0, r0, []⟩ fun v197 =>
q_share _ (fun (v199 : W) (h200 : HW) (c201 : Nat) =>
q_share _ (fun (v203 : W) (h204 : HW) (c205 : Nat) =>
q_pickW v197 v203 ⟨8, 0, r0, []⟩ fun v206 =>
q_share _ (fun (v208 : W) (h209 : HW) (c210 : Nat) =>
q_share _ (fun (v212 : W) (h213 : HW) (c214 : Nat) =>
q_pickW v206 v212 ⟨8, 0, r0, []⟩ fun v215 =>
q_share _ (fun (v217 : W) (h218 : HW) (c219 : Nat) =>
q_share _ (fun (v221 : W) (h222 : HW) (c223 : Nat) =>
q_share _ (fun (v225 : W) (h226 : HW) (c227 : Nat) =>
q_pickW v215 v225 ⟨8, 0, r0, []⟩ fun v228 =>
q_share _ (fun (v230 : W) (h231 : HW) (c232 : Nat) =>
q_share _ (fun (v234 : W) (h235 : HW) (c236 : Nat) =>
q_share _ (fun (v238 : W) (h239 : HW) (c240 : Nat) =>
q_share _ (fun (v242 : W) (h243 : HW) (c244 : Nat) =>
q_pickW v228 v242 ⟨8, 0, r0, []⟩ fun v245 =>
q_share _ (fun (v247 : W) (h248 : HW) (c249 : Nat) =>
q_share _ (fun (v251 : W) (h252 : HW) (c253 : Nat) =>
q_pickW v245 v251 ⟨8, 0, r0, []⟩ fun v254 =>
q_share _ (fun (v256 : W) (h257 : HW) (c258 : Nat) =>
q_share _ (fun (v260 : W) (h261 : HW) (c262 : Nat) =>
q_pickW v254 v260 ⟨8, 0, r0, []⟩ fun v263 =>
q_share _ (fun (v265 : W) (h266 : HW) (c267 : Nat) =>
q_share _ (fun (v269 : W) (h270 : HW) (c271 : Nat) =>
q_pickW v263 v269 ⟨8, 0, r0, []⟩ fun v272 =>
q_share _ (fun (v274 : W) (h275 : HW) (c276 : Nat) =>
q_share _ (fun (v278 : W) (h279 : HW) (c280 : Nat) =>
q_pickW v272 v278 ⟨8, 0, r0, []⟩ fun v281 =>
q_share _ (fun (v283 : W) (h284 : HW) (c285 : Nat) =>
q_share _ (fun (v287 : W) (h288 : HW) (c289 : Nat) =>
q_pickW v281 v287 ⟨8, 0, r0, []⟩ fun v290 =>
q_share _ (fun (v292 : W) (h293 : HW) (c294 : Nat) =>
q_share _ (fun (v296 : W) (h297 : HW) (c298 : Nat) =>
q_pickW v290 v296 ⟨8, 0, r0, []⟩ fun v299 =>
q_share _ (fun (v301 : W) (h302 : HW) (c303 : Nat) =>
q_share _ (fun (v305 : W) (h306 : HW) (c307 : Nat) =>
q_pickW v299 v305 ⟨8, 0, r0, []⟩ fun v308 =>
q_share _ (fun (v310 : W) (h311 : HW) (c312 : Nat) =>
q_share _ (fun (v314 : W) (h315 : HW) (c316 : Nat) =>
q_pickW v308 v314 ⟨8, 0, r0, []⟩ fun v317 =>
q_share _ (fun (v319 : W) (h320 : HW) (c321 : Nat) =>
q_share _ (fun (v323 : W) (h324 : HW) (c325 : Nat) =>
q_pickW v317 v323 ⟨8, 0, r0, []⟩ fun v326 =>
q_share _ (fun (v328 : W) (h329 : HW) (c330 : Nat) =>
q_share _ (fun (v332 : W) (h333 : HW) (c334 : Nat) =>
q_pickW v326 v332 ⟨8, 0, r0, []⟩ fun v335 =>
q_share _ (fun (v337 : W) (h338 : HW) (c339 : Nat) =>
q_share _ (fun (v341 : W) (h342 : HW) (c343 : Nat) =>
q_pickW v335 v341 ⟨8, 0, r0, []⟩ fun v344 =>
q_share _ (fun (v346 : W) (h347 : HW) (c348 : Nat) =>
q_share _ (fun (v350 : W) (h351 : HW) (c352 : Nat) =>
q_pickW v344 v350 ⟨8, 0, r0, []⟩ fun v353 =>
q_share _ (fun (v355 : W) (h356 : HW) (c357 : Nat) =>
q_share _ (fun (v359 : W) (h360 : HW) (c361 : Nat) =>
q_pickW v353 v359 ⟨8, 0, r0, []⟩ fun v362 =>
q_share _ (fun (v364 : W) (h365 : HW) (c366 : Nat) =>
q_share _ (fun (v368 : W) (h369 : HW) (c370 : Nat) =>
q_pickW v362 v368 ⟨8, 0, r0, []⟩ fun v371 =>
q_share _ (fun (v373 : W) (h374 : HW) (c375 : Nat) =>
q_share _ (fun (v377 : W) (h378 : HW) (c379 : Nat) =>
q_pickW v371 v377 ⟨8, 0, r0, []⟩ fun v380 =>
q_share _ (fun (v382 : W) (h383 : HW) (c384 : Nat) =>
q_share _ (fun (v386 : W) (h387 : HW) (c388 : Nat) =>
q_share _ (fun (v390 : W) (h391 : HW) (c392 : Nat) =>
q_pickW v380 v390 ⟨8, 0, r0, []⟩ fun v393 =>
q_share _ (fun (v395 : W) (h396 : HW) (c397 : Nat) =>
q_share _ (fun (v399 : W) (h400 : HW) (c401 : Nat) =>
q_pickW v393 v399 ⟨8, 0, r0, []⟩ fun v402 =>
q_share _ (fun (v404 : W) (h405 : HW) (c406 : Nat) =>
q_pickW v402 v404 ⟨8, 0, r0, []⟩ fun v407 =>
q_killVW v2 h405 fun h408 =>
K v407 h408 c406) fun f403 =>
q_guardW true v402 (call 18 [] h400 c401 fun v409 h410 c411 =>
f403 v409 h410 c411) (f403 wUnd h400 c401)) fun f398 =>
q_guardW true v393 (q_cmpW (cmpF2 .eql) 3 (binC Try.prog .eql 26 (.tmp 235) (.const (.int .i64 (.ofNat 0))) (dec v395) (dec ⟨3, 0, r0, []⟩)) v395 ⟨3, 0, r0, []⟩ fun v412 =>
f398 v412 h396 c397) (f398 wUnd h396 c397)) fun f394 =>
q_guardW true v393 (f394 v169 h391 c392) (f394 wUnd h391 c392)) fun f389 =>
q_guardW true v380 (q_cmpW (cmpF2 .eql) 3 (binC Try.prog .eql 3 (.tmp 231) (.const (.int .i64 (.ofNat 1024))) (dec v386) (dec ⟨3, 1024, r0, []⟩)) v386 ⟨3, 1024, r0, []⟩ fun v413 =>
f389 v413 h387 c388) (f389 wUnd h387 c388)) fun f385 =>
q_guardW true v380 (q_lenW (lenC tys 30 (dec v382)) v382 fun v414 =>
f385 v414 h383 c384) (f385 wUnd h383 c384)) fun f381 =>
q_guardW true v380 (f381 v167 h378 c379) (f381 wUnd h378 c379)) fun f376 =>
q_guardW true v371 (q_cmpW (cmpF2 .eql) 3 (binC Try.prog .eql 26 (.tmp 226) (.const (.int .i64 (.ofNat 1))) (dec v373) (dec ⟨3, 1, r0, []⟩)) v373 ⟨3, 1, r0, []⟩ fun v415 =>
f376 v415 h374 c375) (f376 wUnd h374 c375)) fun f372 =>
q_guardW true v371 (f372 v162 h369 c370) (f372 wUnd h369 c370)) fun f367 =>
q_guardW true v362 (q_cmpW (cmpF2 .eql) 3 (binC Try.prog .eql 26 (.tmp 222) (.const (.int .i64 (.ofNat 1))) (dec v364) (dec ⟨3, 1, r0, []⟩)) v364 ⟨3, 1, r0, []⟩ fun v416 =>
f367 v416 h365 c366) (f367 wUnd h365 c366)) fun f363 =>
q_guardW true v362 (f363 v155 h360 c361) (f363 wUnd h360 c361)) fun f358 =>
q_guardW true v353 (q_cmpW (cmpF2 .eql) 3 (binC Try.prog .eql 26 (.tmp 218) (.const (.int .i64 (.ofNat 1))) (dec v355) (dec ⟨3, 1, r0, []⟩)) v355 ⟨3, 1, r0, []⟩ fun v417 =>
f358 v417 h356 c357) (f358 wUnd h356 c357)) fun f354 =>
q_guardW true v353 (f354 v148 h351 c352) (f354 wUnd h351 c352)) fun f349 =>
q_guardW true v344 (q_cmpW (cmpF2 .eql) 3 (binC Try.prog .eql 26 (.tmp 214) (.const (.int .i64 (.ofNat 1))) (dec v346) (dec ⟨3, 1, r0, []⟩)) v346 ⟨3, 1, r0, []⟩ fun v418 =>
f349 v418 h347 c348) (f349 wUnd h347 c348)) fun f345 =>
q_guardW true v344 (f345 v138 h342 c343) (f345 wUnd h342 c343)) fun f340 =>
q_guardW true v335 (q_cmpW (cmpF2 .eql) 3 (binC Try.prog .eql 26 (.tmp 210) (.const (.int .i64 (.ofNat 0))) (dec v337) (dec ⟨3, 0, r0, []⟩)) v337 ⟨3, 0, r0, []⟩ fun v419 =>
f340 v419 h338 c339) (f340 wUnd h338 c339)) fun f336 =>
q_guardW true v335 (f336 v129 h333 c334) (f336 wUnd h333 c334)) fun f331 =>
q_guardW true v326 (q_cmpW (cmpF2 .eql) 3 (binC Try.prog .eql 3 (.tmp 206) (.const (.int .i64 (.ofNat 0))) (dec v328) (dec ⟨3, 0, r0, []⟩)) v328 ⟨3, 0, r0, []⟩ fun v420 =>
f331 v420 h329 c330) (f331 wUnd h329 c330)) fun f327 =>
q_guardW true v326 (f327 v127 h324 c325) (f327 wUnd h324 c325)) fun f322 =>
q_guardW true v317 (q_cmpW (cmpF2 .eql) 3 (binC Try.prog .eql 3 (.tmp 202) (.const (.int .i64 (.ofNat 0))) (dec v319) (dec ⟨3, 0, r0, []⟩)) v319 ⟨3, 0, r0, []⟩ fun v421 =>
f322 v421 h320 c321) (f322 wUnd h320 c321)) fun f318 =>
q_guardW true v317 (f318 v125 h315 c316) (f318 wUnd h315 c316)) fun f313 =>
q_guardW true v308 (q_cmpW (cmpF2 .eql) 3 (binC Try.prog .eql 26 (.tmp 198) (.const (.int .i64 (.ofNat 1))) (dec v310) (dec ⟨3, 1, r0, []⟩)) v310 ⟨3, 1, r0, []⟩ fun v422 =>
f313 v422 h311 c312) (f313 wUnd h311 c312)) fun f309 =>
q_guardW true v308 (f309 v120 h306 c307) (f309 wUnd h306 c307)) fun f304 =>
q_guardW true v299 (q_cmpW (cmpF2 .eql) 3 (binC Try.prog .eql 26 (.tmp 194) (.const (.int .i64 (.ofNat 1))) (dec v301) (dec ⟨3, 1, r0, []⟩)) v301 ⟨3, 1, r0, []⟩ fun v423 =>
f304 v423 h302 c303) (f304 wUnd h302 c303)) fun f300 =>
q_guardW true v299 (f300 v108 h297 c298) (f300 wUnd h297 c298)) fun f295 =>
q_guardW true v290 (q_cmpW (cmpF2 .eql) 3 (binC Try.prog .eql 26 (.tmp 190) (.const (.int .i64 (.ofNat 1))) (dec v292) (dec ⟨3, 1, r0, []⟩)) v292 ⟨3, 1, r0, []⟩ fun v424 =>
f295 v424 h293 c294) (f295 wUnd h293 c294)) fun f291 =>
q_guardW true v290 (f291 v101 h288 c289) (f291 wUnd h288 c289)) fun f286 =>
q_guardW true v281 (q_cmpW (cmpF2 .eql) 3 (binC Try.prog .eql 26 (.tmp 186) (.const (.int .i64 (.ofNat 1))) (dec v283) (dec ⟨3, 1, r0, []⟩)) v283 ⟨3, 1, r0, []⟩ fun v425 =>
f286 v425 h284 c285) (f286 wUnd h284 c285)) fun f282 =>
q_guardW true v281 (f282 v91 h279 c280) (f282 wUnd h279 c280)) fun f277 =>
q_guardW true v272 (q_cmpW (cmpF2 .eql) 3 (binC Try.prog .eql 26 (.tmp 182) (.const (.int .i64 (.ofNat 1))) (dec v274) (dec ⟨3, 1, r0, []⟩)) v274 ⟨3, 1, r0, []⟩ fun v426 =>
f277 v426 h275 c276) (f277 wUnd h275 c276)) fun f273 =>
q_guardW true v272 (f273 v81 h270 c271) (f273 wUnd h270 c271)) fun f268 =>
q_guardW true v263 (q_cmpW (cmpF2 .eql) 3 (binC Try.prog .eql 26 (.tmp 178) (.const (.int .i64 (.ofNat 0))) (dec v265) (dec ⟨3, 0, r0, []⟩)) v265 ⟨3, 0, r0, []⟩ fun v427 =>
f268 v427 h266 c267) (f268 wUnd h266 c267)) fun f264 =>
q_guardW true v263 (f264 v71 h261 c262) (f264 wUnd h261 c262)) fun f259 =>
q_guardW true v254 (q_cmpW (cmpF2 .eql) 3 (binC Try.prog .eql 26 (.tmp 174) (.const (.int .i64 (.ofNat 1))) (dec v256) (dec ⟨3, 1, r0, []⟩)) v256 ⟨3, 1, r0, []⟩ fun v428 =>
f259 v428 h257 c258) (f259 wUnd h257 c258)) fun f255 =>
q_guardW true v254 (f255 v61 h252 c253) (f255 wUnd h252 c253)) fun f250 =>
q_guardW true v245 (q_cmpW (cmpF2 .eql) 3 (binC Try.prog .eql 26 (.tmp 170) (.const (.int .i64 (.ofNat 0))) (dec v247) (dec ⟨3, 0, r0, []⟩)) v247 ⟨3, 0, r0, []⟩ fun v429 =>
f250 v429 h248 c249) (f250 wUnd h248 c249)) fun f246 =>
q_guardW true v245 (f246 v53 h243 c244) (f246 wUnd h243 c244)) fun f241 =>
q_guardW true v228 (q_loadSW h239 v238 fun v430 =>
f241 v430 h239 c240) (f241 wUnd h239 c240)) fun f237 =>
q_guardW true v228 (q_fadW 1 v234 fun v431 =>
f237 v431 h235 c236) (f237 wUnd h235 c236)) fun f233 =>
q_guardW true v228 (q_idxSW 2 v230 ⟨3, 1, r0, []⟩ fun v432 =>
f233 v432 h231 c232) (f233 wUnd h231 c232)) fun f229 =>
q_guardW true v228 (f229 v51 h226 c227) (f229 wUnd h226 c227)) fun f224 =>
q_guardW true v215 (q_cmpW (cmpF2 .eql) 3 (binC Try.prog .eql 3 (.tmp 160) (.const (.int .i64 (.ofNat 2))) (dec v221) (dec ⟨3, 2, r0, []⟩)) v221 ⟨3, 2, r0, []⟩ fun v433 =>
f224 v433 h222 c223) (f224 wUnd h222 c223)) fun f220 =>
q_guardW true v215 (q_lenW (lenC tys 30 (dec v217)) v217 fun v434 =>
f220 v434 h218 c219) (f220 wUnd h218 c219)) fun f216 =>
q_guardW true v215 (f216 v51 h213 c214) (f216 wUnd h213 c214)) fun f211 =>
q_guardW true v206 (q_cmpW (cmpF2 .eql) 3 (binC Try.prog .eql 26 (.tmp 155) (.const (.int .i64 (.ofNat 1))) (dec v208) (dec ⟨3, 1, r0, []⟩)) v208 ⟨3, 1, r0, []⟩ fun v435 =>
f211 v435 h209 c210) (f211 wUnd h209 c210)) fun f207 =>
q_guardW true v206 (f207 v45 h204 c205) (f207 wUnd h204 c205)) fun f202 =>
q_guardW true v197 (q_cmpW (cmpF2 .eql) 3 (binC Try.prog .eql 26 (.tmp 151) (.const (.int .i64 (.ofNat 1))) (dec v199) (dec ⟨3, 1, r0, []⟩)) v199 ⟨3, 1, r0, []⟩ fun v436 =>
f202 v436 h200 c201) (f202 wUnd h200 c201)) fun f198 =>
q_guardW true v197 (f198 v37 h195 c196) (f198 wUnd h195 c196)) fun f193 =>
q_guardW true v188 (q_cmpW (cmpF2 .eql) 3 (binC Try.prog .eql 26 (.tmp 147) (.const (.int .i64 (.ofNat 1))) (dec v190) (dec ⟨3, 1, r0, []⟩)) v190 ⟨3, 1, r0, []⟩ fun v437 =>
f193 v437 h191 c192) (f193 wUnd h191 c192)) fun f189 =>
q_guardW true v188 (f189 v29 h186 c187) (f189 wUnd h186 c187)) fun f184 =>
q_guardW true v179 (q_cmpW (cmpF2 .eql) 3 (binC Try.prog .eql 26 (.tmp 143) (.const (.int .i64 (.ofNat 1))) (dec v181) (dec ⟨3, 1, r0, []⟩)) v181 ⟨3, 1, r0, []⟩ fun v438 =>
f184 v438 h182 c183) (f184 wUnd h182 c183)) fun f180 =>
q_guardW true v179 (f180 v21 h177 c178) (f180 wUnd h177 c178)) fun f175 =>
q_guardW true v170 (q_cmpW (cmpF2 .eql) 3 (binC Try.prog .eql 26 (.tmp 139) (.const (.int .i64 (.ofNat 0))) (dec v172) (dec ⟨3, 0, r0, []⟩)) v172 ⟨3, 0, r0, []⟩ fun v439 =>
f175 v439 h173 c174) (f175 wUnd h173 c174)) fun f171 =>
q_guardW true v170 (f171 v13 h164 c165) (f171 wUnd h164 c165)) ⟨15, 0, r0, [⟨3, 0, r0, []⟩, ⟨3, 1, r0, []⟩, ⟨3, 1, r0, []⟩]⟩))) ⟨15, 0, r0, [⟨3, 0, r0, []⟩, ⟨3, 1, r0, []⟩, ⟨3, 1, r0, []⟩]⟩))) ⟨15, 0, r0, [⟨3, 0, r0, []⟩, ⟨3, 1, r0, []⟩, ⟨3, 0, r0, []⟩]⟩))) ⟨15, 0, r0, [⟨3, 0, r0, []⟩, ⟨3, 65537, r0, []⟩, ⟨3, 1, r0, []⟩]⟩))) ⟨15, 0, r0, [⟨3, 0, r0, []⟩, ⟨3, 1, r0, []⟩, ⟨3, 2, r0, []⟩]⟩))) ⟨15, 0, r0, [⟨3, 65537, r0, []⟩, ⟨3, 1, r0, []⟩, ⟨3, 1, r0, []⟩]⟩)))) ⟨15, 0, r0, [⟨3, 65536, r0, []⟩, ⟨3, 65536, r0, []⟩, ⟨3, 1, r0, []⟩]⟩)))
theorem R9_eq (Q : PrimW) (fu : Nat) (call : CallW) : curryA 0 (fnK Q Try.prog tys stl fu call e9) = R9 Q.share Q.cmpW Q.guardW Q.pickW Q.fadW Q.idxSW Q.lenW Q.tupW Q.nthW Q.killVW Q.loadSW Q.loadAW Q.storeAW Q.makeSW Q.allocW Q.flatW fu call := by kernel_rfl
noncomputable def n9 : List W → HW → Nat → KW → Bool := appF 0 (R9 (fun _ x f => f x) cmpW guardW pickW fadW idxSW lenW tupW nthW killVW loadSW loadAW storeAW makeSW allocW flatW 1000000 d4.fn)
theorem n9_ok : FnGood Try.prog tys stl tab 9 n9 := node_ok d4_ok (by kernel_rfl) rfl g9 (R9_eq real _ _)
noncomputable def d5 : Disp := (.node 30 n30 (.node 19 n19 (.node 12 n12 (.node 10 n10 (.node 9 n9 .leaf .leaf) .leaf) (.node 18 n18 .leaf .leaf)) (.node 24 n24 (.node 22 n22 .leaf .leaf) (.node 26 n26 .leaf .leaf))) (.node 37 n37 (.node 32 n32 (.node 31 n31 .leaf .leaf) (.node 33 n33 .leaf .leaf)) (.node 40 n40 (.node 39 n39 .leaf .leaf) (.node 43 n43 .leaf .leaf))))
theorem d5_ok : CallSim Try.prog tys stl tab d5.fn := Disp.sim ⟨n30_ok, ⟨n19_ok, ⟨n12_ok, ⟨n10_ok, ⟨n9_ok, True.intro, True.intro⟩, True.intro⟩, ⟨n18_ok, True.intro, True.intro⟩⟩, ⟨n24_ok, ⟨n22_ok, True.intro, True.intro⟩, ⟨n26_ok, True.intro, True.intro⟩⟩⟩, ⟨n37_ok, ⟨n32_ok, ⟨n31_ok, True.intro, True.intro⟩, ⟨n33_ok, True.intro, True.intro⟩⟩, ⟨n40_ok, ⟨n39_ok, True.intro, True.intro⟩, ⟨n43_ok, True.intro, True.intro⟩⟩⟩⟩
noncomputable abbrev dT : Disp := d5
theorem dT_ok : CallSim Try.prog tys stl tab dT.fn := d5_ok

set_option maxHeartbeats 0 in
theorem run9 : lawK dT.fn 9 = true := by kernel_rfl
namespace tempoNone
open Go.ChangeShapes Go.WideShapes Go.ChangeAt Go.RowKit
theorem own : ownKnob Try.prog.godebug = none := by kernel_rfl
theorem laid : laidOutB Try.prog = true := by kernel_rfl
theorem lifted (os : Os) (started : os.Started) (H : Type) (enc : TypeId × Value → H) :
    ReturnsInHanded {} Try.checked os 9 .any (Rows.tempoNoneSpec.pre6 enc Try.prog Try.f9 Rows.tempoNoneRow.domain false) (Rows.tempoNoneSpec.post enc Try.prog Try.f9 false true false false) := by
  refine returnsInHanded_of_change (C := Try.checked) own started (by kernel_rfl) Try.func9
    (ChangeSpec.witness6 (enc := enc) (C := Try.checked) false ⟨#[], #[], []⟩ 8 (by kernel_rfl) (by kernel_rfl) (by kernel_rfl) (by kernel_rfl)) ?_
  intro W base args ds gs before hval0 hW hcnd _
  have hW' := hW
  obtain ⟨p, q, hA0, hV, rfl, hfz, hnd⟩ := hW
  have hA : DataW.TrodAll enc Try.prog W 0 (fun _ => true) true Try.f9.params.toList args.toList ds p := hA0
  rw [Try.params9] at hA
  obtain ⟨hargs, rfl, rfl⟩ := trodAll_nil hA
  obtain rfl : args = #[] := by cases args; simp_all
  obtain ⟨rfl, rfl⟩ := trodVars_none hV
  clear hA0 hval0
  refine (lawK_true tok mixed fok dT_ok (by kernel_rfl : tab 9 = some e9) rfl run9 W).mono fun e W' ⟨he, hg⟩ => ?_
  subst he
  exact ⟨_, rfl, law_done laid rfl rfl Try.underlying4 (by kernel_rfl) hW' rfl hg⟩

theorem over : Rows.tempoNoneRow.holds Try.pinned (OpenSpec.ofChange Rows.tempoNoneSpec) :=
  OpenClaim.holds_of_wide 9 Try.f9 rfl rfl rfl rfl rfl rfl rfl ⟨rfl, rfl, rfl, rfl, rfl⟩ rfl rfl rfl rfl rfl (by kernel_rfl) Try.func9 (by kernel_rfl)
    (of_decide_eq_true (by kernel_rfl)) (by unfold Func.isWrapper; first | (rw [if_pos (by decide +kernel)]; kernel_rfl) | (rw [if_neg (by decide +kernel)]; exact ⟨rfl, rfl⟩))
    (fun os started H enc _ => lifted os started H enc)

theorem proved : Rows.TempoNoneSaid := over
end tempoNone
end Go.Proofs.Ytfiofknpicdonaa
