/-
  foghornlaw30.MeterNone returns true, whatever the memory it begins in. No condition.
-/
import Derived.Test.YtplidgjliecfeaaRows
import Derived.Test.YtplidgjliecfeaaGx
import Derived.WalkKit
import Derived.ProofKit
import Derived.OpenShut
set_option linter.unusedVariables false
set_option maxRecDepth 1000000
namespace Go.Proofs.Ytplidgjliecfeaa
open Go Go.Fw
def tys : List (Nat × TyI) := [
  (1, ⟨.func, 1, 8, .nilFunc⟩),
  (2, ⟨.int .i64, 1, 8, .int .i64 0⟩),
  (3, ⟨.int .i64, 1, 8, .int .i64 0⟩),
  (4, ⟨.bool, 1, 1, .bool false⟩),
  (5, ⟨.int .u8, 1, 1, .int .u8 0⟩),
  (9, ⟨.str, 1, 16, .string (ByteArray.mk #[])⟩),
  (12, ⟨.int .u64, 1, 8, .int .u64 0⟩),
  (21, ⟨.int .i32, 1, 4, .int .i32 0⟩),
  (22, ⟨.slice 4, 1, 24, .slice none 0 0⟩),
  (23, ⟨.func, 1, 8, .nilFunc⟩),
  (24, ⟨.int .i64, 1, 8, .int .i64 0⟩),
  (26, ⟨.func, 1, 8, .nilFunc⟩),
  (27, ⟨.slice 36, 1, 24, .slice none 0 0⟩),
  (29, ⟨.func, 1, 8, .nilFunc⟩),
  (30, ⟨.slice 90, 1, 24, .slice none 0 0⟩),
  (32, ⟨.func, 1, 8, .nilFunc⟩),
  (33, ⟨.func, 1, 8, .nilFunc⟩),
  (34, ⟨.func, 1, 8, .nilFunc⟩),
  (35, ⟨.struct [(0, 3), (1, 3), (2, 3)], 3, 24, .agg #[.int .i64 0, .int .i64 0, .int .i64 0]⟩),
  (36, ⟨.struct [(0, 3), (1, 3), (2, 3)], 3, 24, .agg #[.int .i64 0, .int .i64 0, .int .i64 0]⟩),
  (37, ⟨.func, 1, 8, .nilFunc⟩),
  (38, ⟨.func, 1, 8, .nilFunc⟩),
  (39, ⟨.slice 48, 1, 24, .slice none 0 0⟩),
  (40, ⟨.slice 51, 1, 24, .slice none 0 0⟩),
  (41, ⟨.struct [(0, 3), (1, 39), (2, 40)], 3, 56, .agg #[.int .i64 0, .slice none 0 0, .slice none 0 0]⟩),
  (42, ⟨.struct [(0, 3), (1, 39), (2, 40)], 3, 56, .agg #[.int .i64 0, .slice none 0 0, .slice none 0 0]⟩),
  (43, ⟨.slice 50, 1, 24, .slice none 0 0⟩),
  (44, ⟨.slice 45, 1, 24, .slice none 0 0⟩),
  (45, ⟨.cpx .f64, 1, 16, .complex .f64 0 0⟩),
  (46, ⟨.float .f64, 1, 8, .float .f64 0⟩),
  (47, ⟨.struct [(0, 46), (1, 46), (2, 4)], 3, 24, .agg #[.float .f64 0, .float .f64 0, .bool false]⟩),
  (48, ⟨.struct [(0, 46), (1, 46), (2, 4)], 3, 24, .agg #[.float .f64 0, .float .f64 0, .bool false]⟩),
  (49, ⟨.struct [(0, 45), (1, 4)], 2, 24, .agg #[.complex .f64 0 0, .bool false]⟩),
  (50, ⟨.struct [(0, 45), (1, 4)], 2, 24, .agg #[.complex .f64 0 0, .bool false]⟩),
  (51, ⟨.array 2 46, 2, 16, .agg #[.float .f64 0, .float .f64 0]⟩),
  (53, ⟨.func, 1, 8, .nilFunc⟩),
  (55, ⟨.func, 1, 8, .nilFunc⟩),
  (57, ⟨.func, 1, 8, .nilFunc⟩),
  (58, ⟨.func, 1, 8, .nilFunc⟩),
  (59, ⟨.func, 1, 8, .nilFunc⟩),
  (60, ⟨.slice 68, 1, 24, .slice none 0 0⟩),
  (61, ⟨.ptr 103, 1, 8, .pointer none⟩),
  (62, ⟨.func, 1, 8, .nilFunc⟩),
  (63, ⟨.struct [(0, 3), (1, 3), (2, 3), (3, 3)], 4, 32, .agg #[.int .i64 0, .int .i64 0, .int .i64 0, .int .i64 0]⟩),
  (64, ⟨.struct [(0, 3), (1, 3), (2, 3), (3, 3)], 4, 32, .agg #[.int .i64 0, .int .i64 0, .int .i64 0, .int .i64 0]⟩),
  (66, ⟨.func, 1, 8, .nilFunc⟩),
  (67, ⟨.struct [(0, 22), (1, 22), (2, 3)], 3, 56, .agg #[.slice none 0 0, .slice none 0 0, .int .i64 0]⟩),
  (68, ⟨.struct [(0, 22), (1, 22), (2, 3)], 3, 56, .agg #[.slice none 0 0, .slice none 0 0, .int .i64 0]⟩),
  (69, ⟨.func, 1, 8, .nilFunc⟩),
  (70, ⟨.struct [(0, 3), (1, 3), (2, 3), (3, 3)], 4, 32, .agg #[.int .i64 0, .int .i64 0, .int .i64 0, .int .i64 0]⟩),
  (72, ⟨.func, 1, 8, .nilFunc⟩),
  (74, ⟨.func, 1, 8, .nilFunc⟩),
  (75, ⟨.func, 1, 8, .nilFunc⟩),
  (76, ⟨.func, 1, 8, .nilFunc⟩),
  (77, ⟨.func, 1, 8, .nilFunc⟩),
  (78, ⟨.slice 5, 1, 24, .slice none 0 0⟩),
  (79, ⟨.slice 87, 1, 24, .slice none 0 0⟩),
  (80, ⟨.struct [(0, 5), (1, 78), (2, 79), (3, 3)], 4, 64, .agg #[.int .u8 0, .slice none 0 0, .slice none 0 0, .int .i64 0]⟩),
  (81, ⟨.struct [(0, 5), (1, 78), (2, 79), (3, 3)], 4, 64, .agg #[.int .u8 0, .slice none 0 0, .slice none 0 0, .int .i64 0]⟩),
  (82, ⟨.slice 3, 1, 24, .slice none 0 0⟩),
  (83, ⟨.func, 1, 8, .nilFunc⟩),
  (85, ⟨.func, 1, 8, .nilFunc⟩),
  (86, ⟨.int .i16, 1, 2, .int .i16 0⟩),
  (87, ⟨.array 2 86, 2, 4, .agg #[.int .i16 0, .int .i16 0]⟩),
  (88, ⟨.func, 1, 8, .nilFunc⟩),
  (89, ⟨.func, 1, 8, .nilFunc⟩),
  (90, ⟨.struct [(0, 3), (1, 3), (2, 3)], 3, 24, .agg #[.int .i64 0, .int .i64 0, .int .i64 0]⟩),
  (91, ⟨.func, 1, 8, .nilFunc⟩),
  (93, ⟨.func, 1, 8, .nilFunc⟩),
  (95, ⟨.func, 1, 8, .nilFunc⟩),
  (96, ⟨.func, 1, 8, .nilFunc⟩),
  (97, ⟨.func, 1, 8, .nilFunc⟩),
  (98, ⟨.func, 1, 8, .nilFunc⟩),
  (99, ⟨.func, 1, 8, .nilFunc⟩),
  (100, ⟨.func, 1, 8, .nilFunc⟩),
  (101, ⟨.func, 1, 8, .nilFunc⟩),
  (102, ⟨.struct [(0, 70)], 4, 32, .agg #[.int .i64 0, .int .i64 0, .int .i64 0, .int .i64 0]⟩),
  (103, ⟨.struct [(0, 70)], 4, 32, .agg #[.int .i64 0, .int .i64 0, .int .i64 0, .int .i64 0]⟩),
  (104, ⟨.func, 1, 8, .nilFunc⟩),
  (105, ⟨.func, 1, 8, .nilFunc⟩),
  (106, ⟨.ptr 3, 1, 8, .pointer none⟩),
  (107, ⟨.func, 1, 8, .nilFunc⟩),
  (108, ⟨.func, 1, 8, .nilFunc⟩),
  (109, ⟨.struct [(0, 3), (1, 3), (2, 3), (3, 107), (4, 108)], 5, 40, .agg #[.int .i64 0, .int .i64 0, .int .i64 0, .nilFunc, .nilFunc]⟩),
  (110, ⟨.struct [(0, 3), (1, 3), (2, 3), (3, 107), (4, 108)], 5, 40, .agg #[.int .i64 0, .int .i64 0, .int .i64 0, .nilFunc, .nilFunc]⟩),
  (112, ⟨.func, 1, 8, .nilFunc⟩),
  (113, ⟨.func, 1, 8, .nilFunc⟩),
  (114, ⟨.func, 1, 8, .nilFunc⟩),
  (115, ⟨.slice 120, 1, 24, .slice none 0 0⟩),
  (117, ⟨.func, 1, 8, .nilFunc⟩),
  (118, ⟨.func, 1, 8, .nilFunc⟩),
  (119, ⟨.struct [(0, 3), (1, 3)], 2, 16, .agg #[.int .i64 0, .int .i64 0]⟩),
  (120, ⟨.struct [(0, 3), (1, 3)], 2, 16, .agg #[.int .i64 0, .int .i64 0]⟩),
  (121, ⟨.func, 1, 8, .nilFunc⟩),
  (122, ⟨.int .u64, 1, 8, .int .u64 0⟩),
  (123, ⟨.func, 1, 8, .nilFunc⟩),
  (124, ⟨.func, 1, 8, .nilFunc⟩),
  (125, ⟨.func, 1, 8, .nilFunc⟩),
  (126, ⟨.func, 1, 8, .nilFunc⟩),
  (127, ⟨.func, 1, 8, .nilFunc⟩),
  (128, ⟨.func, 1, 8, .nilFunc⟩),
  (129, ⟨.func, 1, 8, .nilFunc⟩),
  (130, ⟨.func, 1, 8, .nilFunc⟩),
  (131, ⟨.func, 1, 8, .nilFunc⟩),
  (132, ⟨.func, 1, 8, .nilFunc⟩),
  (133, ⟨.int .u64, 1, 8, .int .u64 0⟩),
  (134, ⟨.func, 1, 8, .nilFunc⟩),
  (135, ⟨.func, 1, 8, .nilFunc⟩),
  (141, ⟨.func, 1, 8, .nilFunc⟩),
  (142, ⟨.int .u32, 1, 4, .int .u32 0⟩),
  (145, ⟨.func, 1, 8, .nilFunc⟩),
  (146, ⟨.ptr 5, 1, 8, .pointer none⟩)]


theorem tok : TOk Try.prog tys := tok_of ⟨⟨by kernel_rfl, by kernel_rfl⟩, ⟨by kernel_rfl, by kernel_rfl⟩, ⟨by kernel_rfl, by kernel_rfl⟩, ⟨by kernel_rfl, by kernel_rfl⟩, ⟨by kernel_rfl, by kernel_rfl⟩, ⟨by kernel_rfl, by kernel_rfl⟩, ⟨by kernel_rfl, by kernel_rfl⟩, ⟨by kernel_rfl, by kernel_rfl⟩, ⟨by kernel_rfl, by kernel_rfl⟩, ⟨by kernel_rfl, by kernel_rfl⟩, ⟨by kernel_rfl, by kernel_rfl⟩, ⟨by kernel_rfl, by kernel_rfl⟩, ⟨by kernel_rfl, by kernel_rfl⟩, ⟨by kernel_rfl, by kernel_rfl⟩, ⟨by kernel_rfl, by kernel_rfl⟩, ⟨by kernel_rfl, by kernel_rfl⟩, ⟨by kernel_rfl, by kernel_rfl⟩, ⟨by kernel_rfl, by kernel_rfl⟩, ⟨by kernel_rfl, by kernel_rfl⟩, ⟨by kernel_rfl, by kernel_rfl⟩, ⟨by kernel_rfl, by kernel_rfl⟩, ⟨by kernel_rfl, by kernel_rfl⟩, ⟨by kernel_rfl, by kernel_rfl⟩, ⟨by kernel_rfl, by kernel_rfl⟩, ⟨by kernel_rfl, by kernel_rfl⟩, ⟨by kernel_rfl, by kernel_rfl⟩, ⟨by kernel_rfl, by kernel_rfl⟩, ⟨by kernel_rfl, by kernel_rfl⟩, ⟨by kernel_rfl, by kernel_rfl⟩, ⟨by kernel_rfl, by kernel_rfl⟩, ⟨by kernel_rfl, by kernel_rfl⟩, ⟨by kernel_rfl, by kernel_rfl⟩, ⟨by kernel_rfl, by kernel_rfl⟩, ⟨by kernel_rfl, by kernel_rfl⟩, ⟨by kernel_rfl, by kernel_rfl⟩, ⟨by kernel_rfl, by kernel_rfl⟩, ⟨by kernel_rfl, by kernel_rfl⟩, ⟨by kernel_rfl, by kernel_rfl⟩, ⟨by kernel_rfl, by kernel_rfl⟩, ⟨by kernel_rfl, by kernel_rfl⟩, ⟨by kernel_rfl, by kernel_rfl⟩, ⟨by kernel_rfl, by kernel_rfl⟩, ⟨by kernel_rfl, by kernel_rfl⟩, ⟨by kernel_rfl, by kernel_rfl⟩, ⟨by kernel_rfl, by kernel_rfl⟩, ⟨by kernel_rfl, by kernel_rfl⟩, ⟨by kernel_rfl, by kernel_rfl⟩, ⟨by kernel_rfl, by kernel_rfl⟩, ⟨by kernel_rfl, by kernel_rfl⟩, ⟨by kernel_rfl, by kernel_rfl⟩, ⟨by kernel_rfl, by kernel_rfl⟩, ⟨by kernel_rfl, by kernel_rfl⟩, ⟨by kernel_rfl, by kernel_rfl⟩, ⟨by kernel_rfl, by kernel_rfl⟩, ⟨by kernel_rfl, by kernel_rfl⟩, ⟨by kernel_rfl, by kernel_rfl⟩, ⟨by kernel_rfl, by kernel_rfl⟩, ⟨by kernel_rfl, by kernel_rfl⟩, ⟨by kernel_rfl, by kernel_rfl⟩, ⟨by kernel_rfl, by kernel_rfl⟩, ⟨by kernel_rfl, by kernel_rfl⟩, ⟨by kernel_rfl, by kernel_rfl⟩, ⟨by kernel_rfl, by kernel_rfl⟩, ⟨by kernel_rfl, by kernel_rfl⟩, ⟨by kernel_rfl, by kernel_rfl⟩, ⟨by kernel_rfl, by kernel_rfl⟩, ⟨by kernel_rfl, by kernel_rfl⟩, ⟨by kernel_rfl, by kernel_rfl⟩, ⟨by kernel_rfl, by kernel_rfl⟩, ⟨by kernel_rfl, by kernel_rfl⟩, ⟨by kernel_rfl, by kernel_rfl⟩, ⟨by kernel_rfl, by kernel_rfl⟩, ⟨by kernel_rfl, by kernel_rfl⟩, ⟨by kernel_rfl, by kernel_rfl⟩, ⟨by kernel_rfl, by kernel_rfl⟩, ⟨by kernel_rfl, by kernel_rfl⟩, ⟨by kernel_rfl, by kernel_rfl⟩, ⟨by kernel_rfl, by kernel_rfl⟩, ⟨by kernel_rfl, by kernel_rfl⟩, ⟨by kernel_rfl, by kernel_rfl⟩, ⟨by kernel_rfl, by kernel_rfl⟩, ⟨by kernel_rfl, by kernel_rfl⟩, ⟨by kernel_rfl, by kernel_rfl⟩, ⟨by kernel_rfl, by kernel_rfl⟩, ⟨by kernel_rfl, by kernel_rfl⟩, ⟨by kernel_rfl, by kernel_rfl⟩, ⟨by kernel_rfl, by kernel_rfl⟩, ⟨by kernel_rfl, by kernel_rfl⟩, ⟨by kernel_rfl, by kernel_rfl⟩, ⟨by kernel_rfl, by kernel_rfl⟩, ⟨by kernel_rfl, by kernel_rfl⟩, ⟨by kernel_rfl, by kernel_rfl⟩, ⟨by kernel_rfl, by kernel_rfl⟩, ⟨by kernel_rfl, by kernel_rfl⟩, ⟨by kernel_rfl, by kernel_rfl⟩, ⟨by kernel_rfl, by kernel_rfl⟩, ⟨by kernel_rfl, by kernel_rfl⟩, ⟨by kernel_rfl, by kernel_rfl⟩, ⟨by kernel_rfl, by kernel_rfl⟩, ⟨by kernel_rfl, by kernel_rfl⟩, ⟨by kernel_rfl, by kernel_rfl⟩, ⟨by kernel_rfl, by kernel_rfl⟩, ⟨by kernel_rfl, by kernel_rfl⟩, ⟨by kernel_rfl, by kernel_rfl⟩, ⟨by kernel_rfl, by kernel_rfl⟩, ⟨by kernel_rfl, by kernel_rfl⟩, ⟨by kernel_rfl, by kernel_rfl⟩, ⟨by kernel_rfl, by kernel_rfl⟩, ⟨by kernel_rfl, by kernel_rfl⟩, ⟨by kernel_rfl, by kernel_rfl⟩, ⟨by kernel_rfl, by kernel_rfl⟩, ⟨by kernel_rfl, by kernel_rfl⟩, True.intro⟩
theorem mixed : Try.prog.follows .mixedOrders = true := by kernel_rfl
def inL : List Nat → Nat → Bool
  | [], _ => false
  | a :: r, n => match Nat.beq a n with | true => true | false => inL r n
def stl : Nat → Bool := inL [34, 36, 37, 42, 43, 45, 46, 51, 52, 59, 61, 67, 80, 81, 86, 87, 90, 92, 93, 95]
/- 8: foghorn/foghornlaw30.MeterNone -/
def p8 : Nat → Option PlanC := fun
  | 9 => some (.op 0 true (.two 1 2 (.op 3 false (.op 4 false (.done)))))
  | 10 => some (.op 0 true (.two 1 2 (.op 3 false (.op 4 false (.done)))))
  | 17 => some (.two 0 1 (.op 2 false (.op 3 false (.op 4 false (.op 5 false (.op 6 false (.op 7 false (.op 8 false (.op 9 false (.op 10 false (.op 11 false (.done))))))))))))
  | 18 => some (.two 0 1 (.op 2 false (.op 3 false (.op 4 false (.op 5 false (.op 6 false (.op 7 false (.op 8 false (.op 9 false (.op 10 false (.op 11 false (.done))))))))))))
  | _ => none
def wl8 : Nat → List Nat := fun _ => []
def wj8 : Nat → Option (List Nat) := fun _ => none
def kr8 : Nat → List Nat := fun _ => []
noncomputable def e8 : Ent := entOf Try.f8 ⟨p8, wl8, wj8, kr8, [3, 8]⟩
theorem g8 : EntOk Try.prog stl 8 e8 := .inr ⟨rfl, Try.func8, by kernel_rfl, by kernel_rfl, by kernel_rfl, by kernel_rfl, by kernel_rfl, rfl⟩
/- 10: foghorn/meter.Errors -/
def p10 : Nat → Option PlanC := fun _ => none
def wl10 : Nat → List Nat := fun
  | 4 => [4, 5, 14]
  | _ => []
def wj10 : Nat → Option (List Nat) := fun
  | 9 => some [5]
  | 10 => some [4, 5]
  | _ => none
def kr10 : Nat → List Nat := fun _ => []
noncomputable def e10 : Ent := entOf Try.f10 ⟨p10, wl10, wj10, kr10, []⟩
theorem g10 : EntOk Try.prog stl 10 e10 := .inr ⟨rfl, Try.func10, by kernel_rfl, by kernel_rfl, by kernel_rfl, by kernel_rfl, by kernel_rfl, rfl⟩
/- 12: foghorn/meter.Runs -/
def p12 : Nat → Option PlanC := fun _ => none
def wl12 : Nat → List Nat := fun
  | 5 => [8, 21]
  | _ => []
def wj12 : Nat → Option (List Nat) := fun
  | 13 => some [8]
  | _ => none
def kr12 : Nat → List Nat := fun
  | 12 => [78]
  | _ => []
noncomputable def e12 : Ent := entOf Try.f12 ⟨p12, wl12, wj12, kr12, []⟩
theorem g12 : EntOk Try.prog stl 12 e12 := .inr ⟨rfl, Try.func12, by kernel_rfl, by kernel_rfl, by kernel_rfl, by kernel_rfl, by kernel_rfl, rfl⟩
/- 16: foghorn/foghornlaw30.awake -/
def p16 : Nat → Option PlanC := fun _ => none
def wl16 : Nat → List Nat := fun _ => []
def wj16 : Nat → Option (List Nat) := fun _ => none
def kr16 : Nat → List Nat := fun _ => []
noncomputable def e16 : Ent := entOf Try.f16 ⟨p16, wl16, wj16, kr16, []⟩
theorem g16 : EntOk Try.prog stl 16 e16 := .inr ⟨rfl, Try.func16, by kernel_rfl, by kernel_rfl, by kernel_rfl, by kernel_rfl, by kernel_rfl, rfl⟩
/- 17: foghorn/meter.Nearest -/
def p17 : Nat → Option PlanC := fun _ => none
def wl17 : Nat → List Nat := fun _ => []
def wj17 : Nat → Option (List Nat) := fun _ => none
def kr17 : Nat → List Nat := fun _ => []
noncomputable def e17 : Ent := entOf Try.f17 ⟨p17, wl17, wj17, kr17, []⟩
theorem g17 : EntOk Try.prog stl 17 e17 := .inr ⟨rfl, Try.func17, by kernel_rfl, by kernel_rfl, by kernel_rfl, by kernel_rfl, by kernel_rfl, rfl⟩
/- 19: foghorn/meter.Open -/
def p19 : Nat → Option PlanC := fun _ => none
def wl19 : Nat → List Nat := fun
  | 9 => [4, 5, 34]
  | _ => []
def wj19 : Nat → Option (List Nat) := fun
  | 15 => some [4, 5]
  | _ => none
def kr19 : Nat → List Nat := fun _ => []
noncomputable def e19 : Ent := entOf Try.f19 ⟨p19, wl19, wj19, kr19, []⟩
theorem g19 : EntOk Try.prog stl 19 e19 := .inr ⟨rfl, Try.func19, by kernel_rfl, by kernel_rfl, by kernel_rfl, by kernel_rfl, by kernel_rfl, rfl⟩
/- 21: foghorn/meter.Off -/
def p21 : Nat → Option PlanC := fun _ => none
def wl21 : Nat → List Nat := fun
  | 7 => [4, 6, 37]
  | 14 => [4, 5, 6, 47]
  | _ => []
def wj21 : Nat → Option (List Nat) := fun
  | 22 => some [4, 5, 6]
  | _ => none
def kr21 : Nat → List Nat := fun _ => []
noncomputable def e21 : Ent := entOf Try.f21 ⟨p21, wl21, wj21, kr21, []⟩
theorem g21 : EntOk Try.prog stl 21 e21 := .inr ⟨rfl, Try.func21, by kernel_rfl, by kernel_rfl, by kernel_rfl, by kernel_rfl, by kernel_rfl, rfl⟩
/- 23: foghorn/meter.Power -/
def p23 : Nat → Option PlanC := fun _ => none
def wl23 : Nat → List Nat := fun
  | 7 => [2, 3, 22]
  | _ => []
def wj23 : Nat → Option (List Nat) := fun
  | 12 => some [2, 3]
  | _ => none
def kr23 : Nat → List Nat := fun _ => []
noncomputable def e23 : Ent := entOf Try.f23 ⟨p23, wl23, wj23, kr23, []⟩
theorem g23 : EntOk Try.prog stl 23 e23 := .inr ⟨rfl, Try.func23, by kernel_rfl, by kernel_rfl, by kernel_rfl, by kernel_rfl, by kernel_rfl, rfl⟩
/- 25: foghorn/meter.New -/
def p25 : Nat → Option PlanC := fun _ => none
def wl25 : Nat → List Nat := fun _ => []
def wj25 : Nat → Option (List Nat) := fun _ => none
def kr25 : Nat → List Nat := fun _ => []
noncomputable def e25 : Ent := entOf Try.f25 ⟨p25, wl25, wj25, kr25, []⟩
theorem g25 : EntOk Try.prog stl 25 e25 := .inr ⟨rfl, Try.func25, by kernel_rfl, by kernel_rfl, by kernel_rfl, by kernel_rfl, by kernel_rfl, rfl⟩
/- 27: (*foghorn/meter.Meter).Count -/
def p27 : Nat → Option PlanC := fun _ => none
def wl27 : Nat → List Nat := fun _ => []
def wj27 : Nat → Option (List Nat) := fun _ => none
def kr27 : Nat → List Nat := fun _ => []
noncomputable def e27 : Ent := entOf Try.f27 ⟨p27, wl27, wj27, kr27, []⟩
theorem g27 : EntOk Try.prog stl 27 e27 := .inr ⟨rfl, Try.func27, by kernel_rfl, by kernel_rfl, by kernel_rfl, by kernel_rfl, by kernel_rfl, rfl⟩
/- 28: (*foghorn/meter.Meter).Told -/
def p28 : Nat → Option PlanC := fun _ => none
def wl28 : Nat → List Nat := fun _ => []
def wj28 : Nat → Option (List Nat) := fun _ => none
def kr28 : Nat → List Nat := fun _ => []
noncomputable def e28 : Ent := entOf Try.f28 ⟨p28, wl28, wj28, kr28, []⟩
theorem g28 : EntOk Try.prog stl 28 e28 := .inr ⟨rfl, Try.func28, by kernel_rfl, by kernel_rfl, by kernel_rfl, by kernel_rfl, by kernel_rfl, rfl⟩
/- 29: (*foghorn/meter.Meter).Within -/
def p29 : Nat → Option PlanC := fun _ => none
def wl29 : Nat → List Nat := fun _ => []
def wj29 : Nat → Option (List Nat) := fun
  | 8 => some [6]
  | _ => none
def kr29 : Nat → List Nat := fun _ => []
noncomputable def e29 : Ent := entOf Try.f29 ⟨p29, wl29, wj29, kr29, []⟩
theorem g29 : EntOk Try.prog stl 29 e29 := .inr ⟨rfl, Try.func29, by kernel_rfl, by kernel_rfl, by kernel_rfl, by kernel_rfl, by kernel_rfl, rfl⟩
/- 32: foghorn/points.All -/
def p32 : Nat → Option PlanC := fun _ => none
def wl32 : Nat → List Nat := fun
  | 6 => [19]
  | _ => []
def wj32 : Nat → Option (List Nat) := fun _ => none
def kr32 : Nat → List Nat := fun _ => []
noncomputable def e32 : Ent := entOf Try.f32 ⟨p32, wl32, wj32, kr32, [4]⟩
theorem g32 : EntOk Try.prog stl 32 e32 := .inr ⟨rfl, Try.func32, by kernel_rfl, by kernel_rfl, by kernel_rfl, by kernel_rfl, by kernel_rfl, rfl⟩
/- 34: foghorn/meter.arePair -/
def p34 : Nat → Option PlanC := fun _ => none
def wl34 : Nat → List Nat := fun _ => []
def wj34 : Nat → Option (List Nat) := fun _ => none
def kr34 : Nat → List Nat := fun _ => []
noncomputable def e34 : Ent := entOf Try.f34 ⟨p34, wl34, wj34, kr34, []⟩
theorem g34 : EntOk Try.prog stl 34 e34 := .inr ⟨rfl, Try.func34, by kernel_rfl, by kernel_rfl, by kernel_rfl, by kernel_rfl, by kernel_rfl, rfl⟩
/- 36: foghorn/meter.isOn -/
def p36 : Nat → Option PlanC := fun _ => none
def wl36 : Nat → List Nat := fun _ => []
def wj36 : Nat → Option (List Nat) := fun _ => none
def kr36 : Nat → List Nat := fun _ => []
noncomputable def e36 : Ent := entOf Try.f36 ⟨p36, wl36, wj36, kr36, []⟩
theorem g36 : EntOk Try.prog stl 36 e36 := .inr ⟨rfl, Try.func36, by kernel_rfl, by kernel_rfl, by kernel_rfl, by kernel_rfl, by kernel_rfl, rfl⟩
/- 37: foghorn/meter.nearest -/
def p37 : Nat → Option PlanC := fun _ => none
def wl37 : Nat → List Nat := fun
  | 3 => [4, 5, 6, 14]
  | _ => []
def wj37 : Nat → Option (List Nat) := fun
  | 9 => some [4, 5, 6]
  | _ => none
def kr37 : Nat → List Nat := fun _ => []
noncomputable def e37 : Ent := entOf Try.f37 ⟨p37, wl37, wj37, kr37, []⟩
theorem g37 : EntOk Try.prog stl 37 e37 := .inr ⟨rfl, Try.func37, by kernel_rfl, by kernel_rfl, by kernel_rfl, by kernel_rfl, by kernel_rfl, rfl⟩
/- 41: foghorn/grid.Check -/
def p41 : Nat → Option PlanC := fun _ => none
def wl41 : Nat → List Nat := fun
  | 4 => [11]
  | _ => []
def wj41 : Nat → Option (List Nat) := fun _ => none
def kr41 : Nat → List Nat := fun _ => []
noncomputable def e41 : Ent := entOf Try.f41 ⟨p41, wl41, wj41, kr41, []⟩
theorem g41 : EntOk Try.prog stl 41 e41 := .inr ⟨rfl, Try.func41, by kernel_rfl, by kernel_rfl, by kernel_rfl, by kernel_rfl, by kernel_rfl, rfl⟩
/- 42: math.Inf -/
def p42 : Nat → Option PlanC := fun _ => none
def wl42 : Nat → List Nat := fun _ => []
def wj42 : Nat → Option (List Nat) := fun
  | 5 => some [3]
  | _ => none
def kr42 : Nat → List Nat := fun _ => []
noncomputable def e42 : Ent := entOf Try.f42 ⟨p42, wl42, wj42, kr42, []⟩
theorem g42 : EntOk Try.prog stl 42 e42 := .inr ⟨rfl, Try.func42, by kernel_rfl, by kernel_rfl, by kernel_rfl, by kernel_rfl, by kernel_rfl, rfl⟩
/- 43: math.IsInf -/
def p43 : Nat → Option PlanC := fun _ => none
def wl43 : Nat → List Nat := fun _ => []
def wj43 : Nat → Option (List Nat) := fun
  | 5 => some [0]
  | _ => none
def kr43 : Nat → List Nat := fun _ => []
noncomputable def e43 : Ent := entOf Try.f43 ⟨p43, wl43, wj43, kr43, []⟩
theorem g43 : EntOk Try.prog stl 43 e43 := .inr ⟨rfl, Try.func43, by kernel_rfl, by kernel_rfl, by kernel_rfl, by kernel_rfl, by kernel_rfl, rfl⟩
/- 45: foghorn/plane.Norm -/
def p45 : Nat → Option PlanC := fun _ => none
def wl45 : Nat → List Nat := fun _ => []
def wj45 : Nat → Option (List Nat) := fun _ => none
def kr45 : Nat → List Nat := fun _ => []
noncomputable def e45 : Ent := entOf Try.f45 ⟨p45, wl45, wj45, kr45, []⟩
theorem g45 : EntOk Try.prog stl 45 e45 := .inr ⟨rfl, Try.func45, by kernel_rfl, by kernel_rfl, by kernel_rfl, by kernel_rfl, by kernel_rfl, rfl⟩
/- 46: math.Abs -/
def p46 : Nat → Option PlanC := fun _ => none
def wl46 : Nat → List Nat := fun _ => []
def wj46 : Nat → Option (List Nat) := fun _ => none
def kr46 : Nat → List Nat := fun _ => []
noncomputable def e46 : Ent := entOf Try.f46 ⟨p46, wl46, wj46, kr46, []⟩
theorem g46 : EntOk Try.prog stl 46 e46 := .inr ⟨rfl, Try.func46, by kernel_rfl, by kernel_rfl, by kernel_rfl, by kernel_rfl, by kernel_rfl, rfl⟩
/- 49: foghorn/meter.counting -/
def p49 : Nat → Option PlanC := fun _ => none
def wl49 : Nat → List Nat := fun _ => []
def wj49 : Nat → Option (List Nat) := fun _ => none
def kr49 : Nat → List Nat := fun _ => []
noncomputable def e49 : Ent := entOf Try.f49 ⟨p49, wl49, wj49, kr49, []⟩
theorem g49 : EntOk Try.prog stl 49 e49 := .inr ⟨rfl, Try.func49, by kernel_rfl, by kernel_rfl, by kernel_rfl, by kernel_rfl, by kernel_rfl, rfl⟩
/- 50: foghorn/points.of -/
def p50 : Nat → Option PlanC := fun _ => none
def wl50 : Nat → List Nat := fun _ => []
def wj50 : Nat → Option (List Nat) := fun _ => none
def kr50 : Nat → List Nat := fun _ => []
noncomputable def e50 : Ent := entOf Try.f50 ⟨p50, wl50, wj50, kr50, []⟩
theorem g50 : EntOk Try.prog stl 50 e50 := .inr ⟨rfl, Try.func50, by kernel_rfl, by kernel_rfl, by kernel_rfl, by kernel_rfl, by kernel_rfl, rfl⟩
/- 51: foghorn/grid.On -/
def p51 : Nat → Option PlanC := fun _ => none
def wl51 : Nat → List Nat := fun _ => []
def wj51 : Nat → Option (List Nat) := fun _ => none
def kr51 : Nat → List Nat := fun _ => []
noncomputable def e51 : Ent := entOf Try.f51 ⟨p51, wl51, wj51, kr51, []⟩
theorem g51 : EntOk Try.prog stl 51 e51 := .inr ⟨rfl, Try.func51, by kernel_rfl, by kernel_rfl, by kernel_rfl, by kernel_rfl, by kernel_rfl, rfl⟩
/- 52: foghorn/plane.Apart -/
def p52 : Nat → Option PlanC := fun _ => none
def wl52 : Nat → List Nat := fun _ => []
def wj52 : Nat → Option (List Nat) := fun _ => none
def kr52 : Nat → List Nat := fun _ => []
noncomputable def e52 : Ent := entOf Try.f52 ⟨p52, wl52, wj52, kr52, []⟩
theorem g52 : EntOk Try.prog stl 52 e52 := .inr ⟨rfl, Try.func52, by kernel_rfl, by kernel_rfl, by kernel_rfl, by kernel_rfl, by kernel_rfl, rfl⟩
/- 58: foghorn/grid.mayBe -/
def p58 : Nat → Option PlanC := fun _ => none
def wl58 : Nat → List Nat := fun _ => []
def wj58 : Nat → Option (List Nat) := fun _ => none
def kr58 : Nat → List Nat := fun _ => []
noncomputable def e58 : Ent := entOf Try.f58 ⟨p58, wl58, wj58, kr58, [1]⟩
theorem g58 : EntOk Try.prog stl 58 e58 := .inr ⟨rfl, Try.func58, by kernel_rfl, by kernel_rfl, by kernel_rfl, by kernel_rfl, by kernel_rfl, rfl⟩
/- 59: math.Float64frombits (no Go text) -/
noncomputable def e59 : Ent := extEnt
theorem g59 : EntOk Try.prog stl 59 e59 := .inl rfl
/- 61: math.Float64bits (no Go text) -/
noncomputable def e61 : Ent := extEnt
theorem g61 : EntOk Try.prog stl 61 e61 := .inl rfl
/- 64: foghorn/meter.counting$1 -/
def p64 : Nat → Option PlanC := fun _ => none
def wl64 : Nat → List Nat := fun _ => []
def wj64 : Nat → Option (List Nat) := fun
  | 2 => some [1]
  | _ => none
def kr64 : Nat → List Nat := fun _ => []
noncomputable def e64 : Ent := entOf Try.f64 ⟨p64, wl64, wj64, kr64, []⟩
theorem g64 : EntOk Try.prog stl 64 e64 := .inr ⟨rfl, Try.func64, by kernel_rfl, by kernel_rfl, by kernel_rfl, by kernel_rfl, by kernel_rfl, rfl⟩
/- 65: foghorn/points.square -/
def p65 : Nat → Option PlanC := fun _ => none
def wl65 : Nat → List Nat := fun _ => []
def wj65 : Nat → Option (List Nat) := fun _ => none
def kr65 : Nat → List Nat := fun _ => []
noncomputable def e65 : Ent := entOf Try.f65 ⟨p65, wl65, wj65, kr65, []⟩
theorem g65 : EntOk Try.prog stl 65 e65 := .inr ⟨rfl, Try.func65, by kernel_rfl, by kernel_rfl, by kernel_rfl, by kernel_rfl, by kernel_rfl, rfl⟩
/- 66: foghorn/points.cross -/
def p66 : Nat → Option PlanC := fun _ => none
def wl66 : Nat → List Nat := fun _ => []
def wj66 : Nat → Option (List Nat) := fun _ => none
def kr66 : Nat → List Nat := fun _ => []
noncomputable def e66 : Ent := entOf Try.f66 ⟨p66, wl66, wj66, kr66, []⟩
theorem g66 : EntOk Try.prog stl 66 e66 := .inr ⟨rfl, Try.func66, by kernel_rfl, by kernel_rfl, by kernel_rfl, by kernel_rfl, by kernel_rfl, rfl⟩
/- 67: math.Trunc -/
def p67 : Nat → Option PlanC := fun _ => none
def wl67 : Nat → List Nat := fun _ => []
def wj67 : Nat → Option (List Nat) := fun _ => none
def kr67 : Nat → List Nat := fun _ => []
noncomputable def e67 : Ent := entOf Try.f67 ⟨p67, wl67, wj67, kr67, []⟩
theorem g67 : EntOk Try.prog stl 67 e67 := .inr ⟨rfl, Try.func67, by kernel_rfl, by kernel_rfl, by kernel_rfl, by kernel_rfl, by kernel_rfl, rfl⟩
/- 76: foghorn/points.squareAt -/
def p76 : Nat → Option PlanC := fun
  | 2 => some (.op 0 false (.op 1 false (.op 2 false (.op 3 false (.op 4 false (.op 5 false (.op 6 false (.op 7 false (.op 8 false (.op 9 false (.op 10 false (.op 11 false (.op 12 false (.done))))))))))))))
  | _ => none
def wl76 : Nat → List Nat := fun _ => []
def wj76 : Nat → Option (List Nat) := fun _ => none
def kr76 : Nat → List Nat := fun _ => []
noncomputable def e76 : Ent := entOf Try.f76 ⟨p76, wl76, wj76, kr76, [2]⟩
theorem g76 : EntOk Try.prog stl 76 e76 := .inr ⟨rfl, Try.func76, by kernel_rfl, by kernel_rfl, by kernel_rfl, by kernel_rfl, by kernel_rfl, rfl⟩
/- 77: foghorn/points.squareLabel -/
def p77 : Nat → Option PlanC := fun
  | 1 => some (.op 0 false (.op 1 false (.op 2 false (.op 3 false (.op 4 false (.op 5 false (.op 6 false (.op 7 false (.op 8 false (.op 9 false (.done)))))))))))
  | _ => none
def wl77 : Nat → List Nat := fun _ => []
def wj77 : Nat → Option (List Nat) := fun _ => none
def kr77 : Nat → List Nat := fun _ => []
noncomputable def e77 : Ent := entOf Try.f77 ⟨p77, wl77, wj77, kr77, [3]⟩
theorem g77 : EntOk Try.prog stl 77 e77 := .inr ⟨rfl, Try.func77, by kernel_rfl, by kernel_rfl, by kernel_rfl, by kernel_rfl, by kernel_rfl, rfl⟩
/- 78: foghorn/points.crossAt -/
def p78 : Nat → Option PlanC := fun
  | 5 => some (.op 2 false (.op 3 false (.op 1 true (.op 5 true (.alt 0 (.op 4 false (.op 6 false (.op 7 false (.op 8 false (.done))))) (.alt 4 (.op 0 false (.op 6 false (.op 7 false (.op 8 false (.done))))) (.fin)))))))
  | _ => none
def wl78 : Nat → List Nat := fun
  | 2 => [1, 5]
  | _ => []
def wj78 : Nat → Option (List Nat) := fun _ => none
def kr78 : Nat → List Nat := fun _ => []
noncomputable def e78 : Ent := entOf Try.f78 ⟨p78, wl78, wj78, kr78, [2]⟩
theorem g78 : EntOk Try.prog stl 78 e78 := .inr ⟨rfl, Try.func78, by kernel_rfl, by kernel_rfl, by kernel_rfl, by kernel_rfl, by kernel_rfl, rfl⟩
/- 79: foghorn/points.crossLabel -/
def p79 : Nat → Option PlanC := fun _ => none
def wl79 : Nat → List Nat := fun
  | 3 => [7, 15]
  | _ => []
def wj79 : Nat → Option (List Nat) := fun _ => none
def kr79 : Nat → List Nat := fun _ => []
noncomputable def e79 : Ent := entOf Try.f79 ⟨p79, wl79, wj79, kr79, [3]⟩
theorem g79 : EntOk Try.prog stl 79 e79 := .inr ⟨rfl, Try.func79, by kernel_rfl, by kernel_rfl, by kernel_rfl, by kernel_rfl, by kernel_rfl, rfl⟩
/- 80: math.archTrunc (no Go text) -/
noncomputable def e80 : Ent := extEnt
theorem g80 : EntOk Try.prog stl 80 e80 := .inl rfl
/- 81: math.trunc -/
def p81 : Nat → Option PlanC := fun _ => none
def wl81 : Nat → List Nat := fun _ => []
def wj81 : Nat → Option (List Nat) := fun
  | 7 => some [3]
  | _ => none
def kr81 : Nat → List Nat := fun _ => []
noncomputable def e81 : Ent := entOf Try.f81 ⟨p81, wl81, wj81, kr81, []⟩
theorem g81 : EntOk Try.prog stl 81 e81 := .inr ⟨rfl, Try.func81, by kernel_rfl, by kernel_rfl, by kernel_rfl, by kernel_rfl, by kernel_rfl, rfl⟩
/- 85: (foghorn/points.set).point -/
def p85 : Nat → Option PlanC := fun _ => none
def wl85 : Nat → List Nat := fun _ => []
def wj85 : Nat → Option (List Nat) := fun _ => none
def kr85 : Nat → List Nat := fun _ => []
noncomputable def e85 : Ent := entOf Try.f85 ⟨p85, wl85, wj85, kr85, [3]⟩
theorem g85 : EntOk Try.prog stl 85 e85 := .inr ⟨rfl, Try.func85, by kernel_rfl, by kernel_rfl, by kernel_rfl, by kernel_rfl, by kernel_rfl, rfl⟩
/- 86: foghorn/points.ungray -/
def p86 : Nat → Option PlanC := fun _ => none
def wl86 : Nat → List Nat := fun _ => []
def wj86 : Nat → Option (List Nat) := fun _ => none
def kr86 : Nat → List Nat := fun _ => []
noncomputable def e86 : Ent := entOf Try.f86 ⟨p86, wl86, wj86, kr86, []⟩
theorem g86 : EntOk Try.prog stl 86 e86 := .inr ⟨rfl, Try.func86, by kernel_rfl, by kernel_rfl, by kernel_rfl, by kernel_rfl, by kernel_rfl, rfl⟩
/- 87: foghorn/points.gray -/
def p87 : Nat → Option PlanC := fun _ => none
def wl87 : Nat → List Nat := fun _ => []
def wj87 : Nat → Option (List Nat) := fun _ => none
def kr87 : Nat → List Nat := fun _ => []
noncomputable def e87 : Ent := entOf Try.f87 ⟨p87, wl87, wj87, kr87, []⟩
theorem g87 : EntOk Try.prog stl 87 e87 := .inr ⟨rfl, Try.func87, by kernel_rfl, by kernel_rfl, by kernel_rfl, by kernel_rfl, by kernel_rfl, rfl⟩
/- 88: (foghorn/points.set).rows -/
def p88 : Nat → Option PlanC := fun
  | 1 => some (.op 3 false (.op 4 false (.op 0 true (.alt 1 (.op 2 true (.op 5 false (.op 6 false (.op 7 false (.op 8 false (.done)))))) (.alt 5 (.op 1 false (.op 2 false (.op 6 false (.op 7 false (.op 8 false (.done)))))) (.fin))))))
  | _ => none
def wl88 : Nat → List Nat := fun _ => []
def wj88 : Nat → Option (List Nat) := fun _ => none
def kr88 : Nat → List Nat := fun _ => []
noncomputable def e88 : Ent := entOf Try.f88 ⟨p88, wl88, wj88, kr88, [2]⟩
theorem g88 : EntOk Try.prog stl 88 e88 := .inr ⟨rfl, Try.func88, by kernel_rfl, by kernel_rfl, by kernel_rfl, by kernel_rfl, by kernel_rfl, rfl⟩
/- 89: (foghorn/points.set).first -/
def p89 : Nat → Option PlanC := fun _ => none
def wl89 : Nat → List Nat := fun _ => []
def wj89 : Nat → Option (List Nat) := fun _ => none
def kr89 : Nat → List Nat := fun _ => []
noncomputable def e89 : Ent := entOf Try.f89 ⟨p89, wl89, wj89, kr89, [2]⟩
theorem g89 : EntOk Try.prog stl 89 e89 := .inr ⟨rfl, Try.func89, by kernel_rfl, by kernel_rfl, by kernel_rfl, by kernel_rfl, by kernel_rfl, rfl⟩
/- 90: math.Copysign -/
def p90 : Nat → Option PlanC := fun _ => none
def wl90 : Nat → List Nat := fun _ => []
def wj90 : Nat → Option (List Nat) := fun _ => none
def kr90 : Nat → List Nat := fun _ => []
noncomputable def e90 : Ent := entOf Try.f90 ⟨p90, wl90, wj90, kr90, []⟩
theorem g90 : EntOk Try.prog stl 90 e90 := .inr ⟨rfl, Try.func90, by kernel_rfl, by kernel_rfl, by kernel_rfl, by kernel_rfl, by kernel_rfl, rfl⟩
/- 92: foghorn/bits.Ungray -/
def p92 : Nat → Option PlanC := fun _ => none
def wl92 : Nat → List Nat := fun
  | 4 => [0, 4]
  | _ => []
def wj92 : Nat → Option (List Nat) := fun _ => none
def kr92 : Nat → List Nat := fun _ => []
noncomputable def e92 : Ent := entOf Try.f92 ⟨p92, wl92, wj92, kr92, []⟩
theorem g92 : EntOk Try.prog stl 92 e92 := .inr ⟨rfl, Try.func92, by kernel_rfl, by kernel_rfl, by kernel_rfl, by kernel_rfl, by kernel_rfl, rfl⟩
/- 93: foghorn/bits.Gray -/
def p93 : Nat → Option PlanC := fun _ => none
def wl93 : Nat → List Nat := fun _ => []
def wj93 : Nat → Option (List Nat) := fun _ => none
def kr93 : Nat → List Nat := fun _ => []
noncomputable def e93 : Ent := entOf Try.f93 ⟨p93, wl93, wj93, kr93, []⟩
theorem g93 : EntOk Try.prog stl 93 e93 := .inr ⟨rfl, Try.func93, by kernel_rfl, by kernel_rfl, by kernel_rfl, by kernel_rfl, by kernel_rfl, rfl⟩
/- 95: foghorn/bits.isGray -/
def p95 : Nat → Option PlanC := fun _ => none
def wl95 : Nat → List Nat := fun _ => []
def wj95 : Nat → Option (List Nat) := fun _ => none
def kr95 : Nat → List Nat := fun _ => []
noncomputable def e95 : Ent := entOf Try.f95 ⟨p95, wl95, wj95, kr95, []⟩
theorem g95 : EntOk Try.prog stl 95 e95 := .inr ⟨rfl, Try.func95, by kernel_rfl, by kernel_rfl, by kernel_rfl, by kernel_rfl, by kernel_rfl, rfl⟩
noncomputable def ents : List (Nat × Ent) := [(8, e8), (10, e10), (12, e12), (16, e16), (17, e17), (19, e19), (21, e21), (23, e23), (25, e25), (27, e27), (28, e28), (29, e29), (32, e32), (34, e34), (36, e36), (37, e37), (41, e41), (42, e42), (43, e43), (45, e45), (46, e46), (49, e49), (50, e50), (51, e51), (52, e52), (58, e58), (59, e59), (61, e61), (64, e64), (65, e65), (66, e66), (67, e67), (76, e76), (77, e77), (78, e78), (79, e79), (80, e80), (81, e81), (85, e85), (86, e86), (87, e87), (88, e88), (89, e89), (90, e90), (92, e92), (93, e93), (95, e95)]
theorem goods : EntsOk Try.prog stl ents := ⟨g8, g10, g12, g16, g17, g19, g21, g23, g25, g27, g28, g29, g32, g34, g36, g37, g41, g42, g43, g45, g46, g49, g50, g51, g52, g58, g59, g61, g64, g65, g66, g67, g76, g77, g78, g79, g80, g81, g85, g86, g87, g88, g89, g90, g92, g93, g95, True.intro⟩
noncomputable def tab : Nat → Option Ent := (tabOf ents).get
theorem fok : FOk Try.prog stl tab := fok_of goods
noncomputable def d0 : Disp := .leaf
theorem d0_ok : CallSim Try.prog tys stl tab d0.fn := Disp.sim True.intro
/- foghorn/meter.New -/
noncomputable def R25 (q_boxW : HW → Nat → W → KW → Bool) (fu : Nat) (call : CallW) (h0 : HW) (c0 : Nat) (K : KW) : Bool :=
(fun (v1 : W) =>
q_boxW h0 c0 v1 fun v2 h3 c4 =>
K v2 h3 c4) ⟨15, 0, r0, [⟨3, 0, r0, []⟩, ⟨3, 0, r0, []⟩, ⟨3, 0, r0, []⟩, ⟨3, 0, r0, []⟩]⟩
theorem R25_eq (Q : PrimW) (fu : Nat) (call : CallW) : curryA 0 (fnK Q Try.prog tys stl fu call e25) = R25 Q.boxW fu call := by kernel_rfl
noncomputable def n25 : List W → HW → Nat → KW → Bool := appF 0 (R25 boxW 1000000 d0.fn)
theorem n25_ok : FnGood Try.prog tys stl tab 25 n25 := node_ok d0_ok (by kernel_rfl) rfl g25 (R25_eq real _ _)
/- (*foghorn/meter.Meter).Told -/
noncomputable def R28 (q_genW : Option CV → (W → Bool) → Bool) (q_condW : W → Bool → Bool → Bool) (q_nilcW : W → (W → Bool) → Bool) (q_fadW : Nat → W → (W → Bool) → Bool) (q_loadAW : Nat → HW → W → (W → Bool) → Bool) (q_storeAW : Nat → HW → W → W → (HW → Bool) → Bool) (q_allocW : Trie W → Nat → Bool → HW → Nat → KW → Bool) (fu : Nat) (call : CallW) (a0 : W) (h0 : HW) (c0 : Nat) (K : KW) : Bool :=
q_allocW (allocT tys 70) 4 true h0 c0 fun v1 h2 c3 =>
q_genW (binC Try.prog .eql 61 (.tmp 4) (.const (.pointer none)) (dec a0) (dec ⟨12, 0, ⟨0, 0, 0, .nilp⟩, []⟩)) fun v4 =>
q_condW v4 (
(fun (v5 : W) =>
q_storeAW 4 h2 v1 v5 fun h6 =>
q_loadAW 4 h6 v1 fun v7 =>
K ⟨13, 0, r0, [v7, ⟨3, 2, r0, []⟩]⟩ h6 c3) ⟨15, 0, r0, [⟨3, 0, r0, []⟩, ⟨3, 0, r0, []⟩, ⟨3, 0, r0, []⟩, ⟨3, 0, r0, []⟩]⟩) (
q_nilcW a0 fun v8 =>
q_fadW 0 v8 fun v9 =>
q_loadAW 4 h2 v9 fun v10 =>
q_storeAW 4 h2 v1 v10 fun h11 =>
q_loadAW 4 h11 v1 fun v12 =>
K ⟨13, 0, r0, [v12, ⟨3, 0, r0, []⟩]⟩ h11 c3)
theorem R28_eq (Q : PrimW) (fu : Nat) (call : CallW) : curryA 1 (fnK Q Try.prog tys stl fu call e28) = R28 Q.genW Q.condW Q.nilcW Q.fadW Q.loadAW Q.storeAW Q.allocW fu call := by kernel_rfl
noncomputable def n28 : List W → HW → Nat → KW → Bool := appF 1 (R28 genW condW nilcW fadW loadAW storeAW allocW 1000000 d0.fn)
theorem n28_ok : FnGood Try.prog tys stl tab 28 n28 := node_ok d0_ok (by kernel_rfl) rfl g28 (R28_eq real _ _)
/- (*foghorn/meter.Meter).Within -/
noncomputable def R29 (q_share : (α : Type) → α → (α → Bool) → Bool) (q_genW : Option CV → (W → Bool) → Bool) (q_mulW : Nat → Nat → Option CV → W → W → (W → Bool) → Bool) (q_quoW : Nat → Nat → Option CV → W → W → (W → Bool) → Bool) (q_cmpW : (Nat → Nat → Bool) → Nat → Option CV → W → W → (W → Bool) → Bool) (q_condW : W → Bool → Bool → Bool) (q_nilcW : W → (W → Bool) → Bool) (q_fadW : Nat → W → (W → Bool) → Bool) (q_loadSW : HW → W → (W → Bool) → Bool) (fu : Nat) (call : CallW) (a0 : W) (a1 : W) (h0 : HW) (c0 : Nat) (K : KW) : Bool :=
q_genW (binC Try.prog .eql 61 (.tmp 7) (.const (.pointer none)) (dec a0) (dec ⟨12, 0, ⟨0, 0, 0, .nilp⟩, []⟩)) fun v1 =>
q_condW v1 (
K ⟨13, 0, r0, [⟨8, 0, r0, []⟩, ⟨3, 2, r0, []⟩]⟩ h0 c0) (
q_cmpW (cmpF2 .lss) 3 (binC Try.prog .lss 3 (.tmp 9) (.const (.int .i64 (.ofNat 1))) (dec a1) (dec ⟨3, 1, r0, []⟩)) a1 ⟨3, 1, r0, []⟩ fun v2 =>
q_condW v2 (
K ⟨13, 0, r0, [⟨8, 0, r0, []⟩, ⟨3, 1, r0, []⟩]⟩ h0 c0) (
q_share _ (fun (v3 : W) (h4 : HW) (c5 : Nat) =>
q_nilcW a0 fun v7 =>
q_fadW 0 v7 fun v8 =>
q_fadW 2 v8 fun v9 =>
q_loadSW h4 v9 fun v10 =>
q_cmpW (cmpF2 .leq) 3 (binC Try.prog .leq 3 (.tmp 26) (.tmp 31) (dec v3) (dec v10)) v3 v10 fun v11 =>
K ⟨13, 0, r0, [v11, ⟨3, 0, r0, []⟩]⟩ h4 c5) fun f6 =>
q_nilcW a0 fun v12 =>
q_fadW 0 v12 fun v13 =>
q_fadW 3 v13 fun v14 =>
q_loadSW h0 v14 fun v15 =>
q_quoW 3 9223372036854775807 (binC Try.prog .quo 3 (.const (.int .i64 (.ofNat 9223372036854775807))) (.tmp 16) (dec ⟨3, 9223372036854775807, r0, []⟩) (dec a1)) ⟨3, 9223372036854775807, r0, []⟩ a1 fun v16 =>
q_cmpW (cmpF2 .leq) 3 (binC Try.prog .leq 3 (.tmp 15) (.tmp 17) (dec v15) (dec v16)) v15 v16 fun v17 =>
q_condW v17 (
q_nilcW a0 fun v18 =>
q_fadW 0 v18 fun v19 =>
q_fadW 3 v19 fun v20 =>
q_loadSW h0 v20 fun v21 =>
q_mulW 3 9223372036854775807 (binC Try.prog .mul 3 (.tmp 23) (.tmp 24) (dec v21) (dec a1)) v21 a1 fun v22 =>
f6 v22 h0 c0) (
f6 ⟨3, 9223372036854775807, r0, []⟩ h0 c0)))
theorem R29_eq (Q : PrimW) (fu : Nat) (call : CallW) : curryA 2 (fnK Q Try.prog tys stl fu call e29) = R29 Q.share Q.genW Q.mulW Q.quoW Q.cmpW Q.condW Q.nilcW Q.fadW Q.loadSW fu call := by kernel_rfl
noncomputable def n29 : List W → HW → Nat → KW → Bool := appF 2 (R29 (fun _ x f => f x) genW mulW quoW cmpW condW nilcW fadW loadSW 1000000 d0.fn)
theorem n29_ok : FnGood Try.prog tys stl tab 29 n29 := node_ok d0_ok (by kernel_rfl) rfl g29 (R29_eq real _ _)
/- foghorn/meter.arePair -/
noncomputable def R34 (q_share : (α : Type) → α → (α → Bool) → Bool) (q_cmpW : (Nat → Nat → Bool) → Nat → Option CV → W → W → (W → Bool) → Bool) (q_guardW : Bool → W → Bool → Bool → Bool) (q_pickW : W → W → W → (W → Bool) → Bool) (q_lenW : Option CV → W → (W → Bool) → Bool) (fu : Nat) (call : CallW) (a0 : W) (a1 : W) (h0 : HW) (c0 : Nat) (K : KW) : Bool :=
q_lenW (lenC tys 22 (dec a0)) a0 fun v1 =>
q_cmpW (cmpF2 .leq) 3 (binC Try.prog .leq 3 (.tmp 6) (.const (.int .i64 (.ofNat 32768))) (dec v1) (dec ⟨3, 32768, r0, []⟩)) v1 ⟨3, 32768, r0, []⟩ fun v2 =>
q_share _ (fun (v4 : W) (h5 : HW) (c6 : Nat) =>
q_share _ (fun (v8 : W) (h9 : HW) (c10 : Nat) =>
q_share _ (fun (v12 : W) (h13 : HW) (c14 : Nat) =>
q_share _ (fun (v16 : W) (h17 : HW) (c18 : Nat) =>
q_share _ (fun (v20 : W) (h21 : HW) (c22 : Nat) =>
q_pickW v2 v20 ⟨8, 0, r0, []⟩ fun v23 =>
K v23 h21 c22) fun f19 =>
q_guardW true v2 (q_cmpW (cmpF2 .eql) 3 (binC Try.prog .eql 3 (.tmp 10) (.tmp 12) (dec v8) (dec v16)) v8 v16 fun v24 =>
f19 v24 h17 c18) (f19 wUnd h17 c18)) fun f15 =>
q_guardW true v2 (q_lenW (lenC tys 22 (dec v12)) v12 fun v25 =>
f15 v25 h13 c14) (f15 wUnd h13 c14)) fun f11 =>
q_guardW true v2 (f11 a1 h9 c10) (f11 wUnd h9 c10)) fun f7 =>
q_guardW true v2 (q_lenW (lenC tys 22 (dec v4)) v4 fun v26 =>
f7 v26 h5 c6) (f7 wUnd h5 c6)) fun f3 =>
q_guardW true v2 (f3 a0 h0 c0) (f3 wUnd h0 c0)
theorem R34_eq (Q : PrimW) (fu : Nat) (call : CallW) : curryA 2 (fnK Q Try.prog tys stl fu call e34) = R34 Q.share Q.cmpW Q.guardW Q.pickW Q.lenW fu call := by kernel_rfl
noncomputable def n34 : List W → HW → Nat → KW → Bool := appF 2 (R34 (fun _ x f => f x) cmpW guardW pickW lenW 1000000 d0.fn)
theorem n34_ok : FnGood Try.prog tys stl tab 34 n34 := node_ok d0_ok (by kernel_rfl) rfl g34 (R34_eq real _ _)
/- foghorn/plane.Norm -/
noncomputable def R45 (q_genW : Option CV → (W → Bool) → Bool) (fu : Nat) (call : CallW) (a0 : W) (h0 : HW) (c0 : Nat) (K : KW) : Bool :=
q_genW (two Try.prog (dec a0) fun v => Builtin.real_ #[45] 46 #[v]) fun v1 =>
q_genW (two Try.prog (dec a0) fun v => Builtin.real_ #[45] 46 #[v]) fun v2 =>
q_genW (binC Try.prog .mul 46 (.tmp 4) (.tmp 6) (dec v1) (dec v2)) fun v3 =>
q_genW (two Try.prog (dec a0) fun v => Builtin.imag_ #[45] 46 #[v]) fun v4 =>
q_genW (two Try.prog (dec a0) fun v => Builtin.imag_ #[45] 46 #[v]) fun v5 =>
q_genW (binC Try.prog .mul 46 (.tmp 9) (.tmp 11) (dec v4) (dec v5)) fun v6 =>
q_genW (binC Try.prog .add 46 (.tmp 7) (.tmp 12) (dec v3) (dec v6)) fun v7 =>
K v7 h0 c0
theorem R45_eq (Q : PrimW) (fu : Nat) (call : CallW) : curryA 1 (fnK Q Try.prog tys stl fu call e45) = R45 Q.genW fu call := by kernel_rfl
noncomputable def n45 : List W → HW → Nat → KW → Bool := appF 1 (R45 genW 1000000 d0.fn)
theorem n45_ok : FnGood Try.prog tys stl tab 45 n45 := node_ok d0_ok (by kernel_rfl) rfl g45 (R45_eq real _ _)
/- foghorn/meter.counting -/
noncomputable def R49 (q_boxW : HW → Nat → W → KW → Bool) (fu : Nat) (call : CallW) (a0 : W) (h0 : HW) (c0 : Nat) (K : KW) : Bool :=
q_boxW h0 c0 a0 fun v1 h2 c3 =>
(fun (v4 : W) =>
K v4 h2 c3) ⟨14, 64, r0, [v1]⟩
theorem R49_eq (Q : PrimW) (fu : Nat) (call : CallW) : curryA 1 (fnK Q Try.prog tys stl fu call e49) = R49 Q.boxW fu call := by kernel_rfl
noncomputable def n49 : List W → HW → Nat → KW → Bool := appF 1 (R49 boxW 1000000 d0.fn)
theorem n49_ok : FnGood Try.prog tys stl tab 49 n49 := node_ok d0_ok (by kernel_rfl) rfl g49 (R49_eq real _ _)
noncomputable def n59 : List W → HW → Nat → KW → Bool := extN Try.prog 59
theorem n59_ok : FnGood Try.prog tys stl tab 59 n59 := ext_ok (e := e59) (by kernel_rfl) rfl
noncomputable def n61 : List W → HW → Nat → KW → Bool := extN Try.prog 61
theorem n61_ok : FnGood Try.prog tys stl tab 61 n61 := ext_ok (e := e61) (by kernel_rfl) rfl
/- foghorn/meter.counting$1 -/
noncomputable def R64 (q_share : (α : Type) → α → (α → Bool) → Bool) (q_addW : Nat → Nat → Option CV → W → W → (W → Bool) → Bool) (q_subW : Nat → Nat → Option CV → W → W → (W → Bool) → Bool) (q_cmpW : (Nat → Nat → Bool) → Nat → Option CV → W → W → (W → Bool) → Bool) (q_condW : W → Bool → Bool → Bool) (q_nilcW : W → (W → Bool) → Bool) (q_loadSW : HW → W → (W → Bool) → Bool) (q_storeSW : HW → W → W → (HW → Bool) → Bool) (fu : Nat) (call : CallW) (a0 : W) (a1 : W) (a2 : W) (h0 : HW) (c0 : Nat) (K : KW) : Bool :=
q_share _ (fun (v1 : W) (h2 : HW) (c3 : Nat) =>
q_nilcW a0 fun v5 =>
q_loadSW h2 v5 fun v6 =>
q_addW 3 9223372036854775807 (binC Try.prog .add 3 (.tmp 19) (.tmp 20) (dec v6) (dec v1)) v6 v1 fun v7 =>
q_nilcW a0 fun v8 =>
q_storeSW h2 v8 v7 fun h9 =>
K ⟨13, 0, r0, []⟩ h9 c3) fun f4 =>
q_loadSW h0 a2 fun v10 =>
q_nilcW a0 fun v11 =>
q_loadSW h0 v11 fun v12 =>
q_subW 3 9223372036854775807 (binC Try.prog .sub 3 (.tmp 6) (.tmp 9) (dec v10) (dec v12)) v10 v12 fun v13 =>
q_cmpW (cmpF2 .gtr) 3 (binC Try.prog .gtr 3 (.tmp 5) (.tmp 10) (dec a1) (dec v13)) a1 v13 fun v14 =>
q_condW v14 (
q_loadSW h0 a2 fun v15 =>
q_nilcW a0 fun v16 =>
q_loadSW h0 v16 fun v17 =>
q_subW 3 9223372036854775807 (binC Try.prog .sub 3 (.tmp 12) (.tmp 15) (dec v15) (dec v17)) v15 v17 fun v18 =>
f4 v18 h0 c0) (
f4 a1 h0 c0)
theorem R64_eq (Q : PrimW) (fu : Nat) (call : CallW) : curryA 3 (fnK Q Try.prog tys stl fu call e64) = R64 Q.share Q.addW Q.subW Q.cmpW Q.condW Q.nilcW Q.loadSW Q.storeSW fu call := by kernel_rfl
noncomputable def n64 : List W → HW → Nat → KW → Bool := appF 3 (R64 (fun _ x f => f x) addW subW cmpW condW nilcW loadSW storeSW 1000000 d0.fn)
theorem n64_ok : FnGood Try.prog tys stl tab 64 n64 := node_ok d0_ok (by kernel_rfl) rfl g64 (R64_eq real _ _)
/- foghorn/points.square -/
noncomputable def R65 (q_loadAW : Nat → HW → W → (W → Bool) → Bool) (q_storeAW : Nat → HW → W → W → (HW → Bool) → Bool) (q_allocW : Trie W → Nat → Bool → HW → Nat → KW → Bool) (q_flatW : W → Bool → Bool) (fu : Nat) (call : CallW) (a0 : W) (a1 : W) (h0 : HW) (c0 : Nat) (K : KW) : Bool :=
q_allocW (allocT tys 110) 5 true h0 c0 fun v1 h2 c3 =>
q_flatW a0 (
q_flatW a1 (
q_flatW ⟨14, 76, r0, []⟩ (
q_flatW ⟨14, 77, r0, []⟩ (
(fun (v4 : W) =>
q_storeAW 5 h2 v1 v4 fun h5 =>
q_loadAW 5 h5 v1 fun v6 =>
K v6 h5 c3) ⟨15, 0, r0, [a0, a1, ⟨3, 0, r0, []⟩, ⟨14, 76, r0, []⟩, ⟨14, 77, r0, []⟩]⟩))))
theorem R65_eq (Q : PrimW) (fu : Nat) (call : CallW) : curryA 2 (fnK Q Try.prog tys stl fu call e65) = R65 Q.loadAW Q.storeAW Q.allocW Q.flatW fu call := by kernel_rfl
noncomputable def n65 : List W → HW → Nat → KW → Bool := appF 2 (R65 loadAW storeAW allocW flatW 1000000 d0.fn)
theorem n65_ok : FnGood Try.prog tys stl tab 65 n65 := node_ok d0_ok (by kernel_rfl) rfl g65 (R65_eq real _ _)
/- foghorn/points.cross -/
noncomputable def R66 (q_loadAW : Nat → HW → W → (W → Bool) → Bool) (q_storeAW : Nat → HW → W → W → (HW → Bool) → Bool) (q_allocW : Trie W → Nat → Bool → HW → Nat → KW → Bool) (q_flatW : W → Bool → Bool) (fu : Nat) (call : CallW) (a0 : W) (a1 : W) (a2 : W) (h0 : HW) (c0 : Nat) (K : KW) : Bool :=
q_allocW (allocT tys 110) 5 true h0 c0 fun v1 h2 c3 =>
q_flatW a0 (
q_flatW a1 (
q_flatW a2 (
q_flatW ⟨14, 78, r0, []⟩ (
q_flatW ⟨14, 79, r0, []⟩ (
(fun (v4 : W) =>
q_storeAW 5 h2 v1 v4 fun h5 =>
q_loadAW 5 h5 v1 fun v6 =>
K v6 h5 c3) ⟨15, 0, r0, [a0, a1, a2, ⟨14, 78, r0, []⟩, ⟨14, 79, r0, []⟩]⟩)))))
theorem R66_eq (Q : PrimW) (fu : Nat) (call : CallW) : curryA 3 (fnK Q Try.prog tys stl fu call e66) = R66 Q.loadAW Q.storeAW Q.allocW Q.flatW fu call := by kernel_rfl
noncomputable def n66 : List W → HW → Nat → KW → Bool := appF 3 (R66 loadAW storeAW allocW flatW 1000000 d0.fn)
theorem n66_ok : FnGood Try.prog tys stl tab 66 n66 := node_ok d0_ok (by kernel_rfl) rfl g66 (R66_eq real _ _)
noncomputable def n80 : List W → HW → Nat → KW → Bool := extN Try.prog 80
theorem n80_ok : FnGood Try.prog tys stl tab 80 n80 := ext_ok (e := e80) (by kernel_rfl) rfl
/- (foghorn/points.set).point -/
noncomputable def R85 (q_genW : Option CV → (W → Bool) → Bool) (q_subW : Nat → Nat → Option CV → W → W → (W → Bool) → Bool) (q_mulW : Nat → Nat → Option CV → W → W → (W → Bool) → Bool) (q_fadW : Nat → W → (W → Bool) → Bool) (q_killVW : W → HW → (HW → Bool) → Bool) (q_loadSW : HW → W → (W → Bool) → Bool) (q_boxW : HW → Nat → W → KW → Bool) (fu : Nat) (call : CallW) (a0 : W) (a1 : W) (a2 : W) (h0 : HW) (c0 : Nat) (K : KW) : Bool :=
q_boxW h0 c0 a0 fun v1 h2 c3 =>
q_mulW 3 9223372036854775807 (binC Try.prog .mul 3 (.const (.int .i64 (.ofNat 2))) (.tmp 7) (dec ⟨3, 2, r0, []⟩) (dec a1)) ⟨3, 2, r0, []⟩ a1 fun v4 =>
q_fadW 1 v1 fun v5 =>
q_loadSW h2 v5 fun v6 =>
q_subW 3 9223372036854775807 (binC Try.prog .sub 3 (.tmp 8) (.tmp 10) (dec v4) (dec v6)) v4 v6 fun v7 =>
q_genW (convC Try.prog tys ⟨[], 0, decH h2, 0⟩ 3 46 (dec v7)) fun v8 =>
q_mulW 3 9223372036854775807 (binC Try.prog .mul 3 (.const (.int .i64 (.ofNat 2))) (.tmp 13) (dec ⟨3, 2, r0, []⟩) (dec a2)) ⟨3, 2, r0, []⟩ a2 fun v9 =>
q_fadW 1 v1 fun v10 =>
q_loadSW h2 v10 fun v11 =>
q_subW 3 9223372036854775807 (binC Try.prog .sub 3 (.tmp 14) (.tmp 16) (dec v9) (dec v11)) v9 v11 fun v12 =>
q_genW (convC Try.prog tys ⟨[], 0, decH h2, 0⟩ 3 46 (dec v12)) fun v13 =>
q_genW (two2 Try.prog (dec v8) (dec v13) fun v u => Builtin.complex_ #[46, 46] 45 #[v, u]) fun v14 =>
q_killVW v1 h2 fun h15 =>
K v14 h15 c3
theorem R85_eq (Q : PrimW) (fu : Nat) (call : CallW) : curryA 3 (fnK Q Try.prog tys stl fu call e85) = R85 Q.genW Q.subW Q.mulW Q.fadW Q.killVW Q.loadSW Q.boxW fu call := by kernel_rfl
noncomputable def n85 : List W → HW → Nat → KW → Bool := appF 3 (R85 genW subW mulW fadW killVW loadSW boxW 1000000 d0.fn)
theorem n85_ok : FnGood Try.prog tys stl tab 85 n85 := node_ok d0_ok (by kernel_rfl) rfl g85 (R85_eq real _ _)
/- (foghorn/points.set).first -/
noncomputable def R89 (q_share : (α : Type) → α → (α → Bool) → Bool) (q_subW : Nat → Nat → Option CV → W → W → (W → Bool) → Bool) (q_cmpW : (Nat → Nat → Bool) → Nat → Option CV → W → W → (W → Bool) → Bool) (q_condW : W → Bool → Bool → Bool) (q_guardW : Bool → W → Bool → Bool → Bool) (q_pickW : W → W → W → (W → Bool) → Bool) (q_fadW : Nat → W → (W → Bool) → Bool) (q_killVW : W → HW → (HW → Bool) → Bool) (q_loadSW : HW → W → (W → Bool) → Bool) (q_boxW : HW → Nat → W → KW → Bool) (fu : Nat) (call : CallW) (a0 : W) (a1 : W) (h0 : HW) (c0 : Nat) (K : KW) : Bool :=
q_boxW h0 c0 a0 fun v1 h2 c3 =>
q_fadW 2 v1 fun v4 =>
q_loadSW h2 v4 fun v5 =>
q_cmpW (cmpF2 .lss) 3 (binC Try.prog .lss 3 (.tmp 5) (.tmp 7) (dec a1) (dec v5)) a1 v5 fun v6 =>
q_share _ (fun (v8 : W) (h9 : HW) (c10 : Nat) =>
q_share _ (fun (v12 : W) (h13 : HW) (c14 : Nat) =>
q_share _ (fun (v16 : W) (h17 : HW) (c18 : Nat) =>
q_share _ (fun (v20 : W) (h21 : HW) (c22 : Nat) =>
q_share _ (fun (v24 : W) (h25 : HW) (c26 : Nat) =>
q_share _ (fun (v28 : W) (h29 : HW) (c30 : Nat) =>
q_share _ (fun (v32 : W) (h33 : HW) (c34 : Nat) =>
q_pickW v6 ⟨8, 1, r0, []⟩ v32 fun v35 =>
q_condW v35 (
q_fadW 2 v1 fun v36 =>
q_loadSW h33 v36 fun v37 =>
q_killVW v1 h33 fun h38 =>
K v37 h38 c34) (
q_killVW v1 h33 fun h39 =>
K ⟨3, 0, r0, []⟩ h39 c34)) fun f31 =>
q_guardW false v6 (q_cmpW (cmpF2 .gtr) 3 (binC Try.prog .gtr 3 (.tmp 10) (.tmp 15) (dec v8) (dec v28)) v8 v28 fun v40 =>
f31 v40 h29 c30) (f31 wUnd h29 c30)) fun f27 =>
q_guardW false v6 (q_subW 3 9223372036854775807 (binC Try.prog .sub 3 (.tmp 12) (.tmp 14) (dec v16) (dec v24)) v16 v24 fun v41 =>
f27 v41 h25 c26) (f27 wUnd h25 c26)) fun f23 =>
q_guardW false v6 (q_loadSW h21 v20 fun v42 =>
f23 v42 h21 c22) (f23 wUnd h21 c22)) fun f19 =>
q_guardW false v6 (q_fadW 2 v1 fun v43 =>
f19 v43 h17 c18) (f19 wUnd h17 c18)) fun f15 =>
q_guardW false v6 (q_loadSW h13 v12 fun v44 =>
f15 v44 h13 c14) (f15 wUnd h13 c14)) fun f11 =>
q_guardW false v6 (q_fadW 1 v1 fun v45 =>
f11 v45 h9 c10) (f11 wUnd h9 c10)) fun f7 =>
q_guardW false v6 (f7 a1 h2 c3) (f7 wUnd h2 c3)
theorem R89_eq (Q : PrimW) (fu : Nat) (call : CallW) : curryA 2 (fnK Q Try.prog tys stl fu call e89) = R89 Q.share Q.subW Q.cmpW Q.condW Q.guardW Q.pickW Q.fadW Q.killVW Q.loadSW Q.boxW fu call := by kernel_rfl
noncomputable def n89 : List W → HW → Nat → KW → Bool := appF 2 (R89 (fun _ x f => f x) subW cmpW condW guardW pickW fadW killVW loadSW boxW 1000000 d0.fn)
theorem n89_ok : FnGood Try.prog tys stl tab 89 n89 := node_ok d0_ok (by kernel_rfl) rfl g89 (R89_eq real _ _)
/- foghorn/bits.isGray -/
noncomputable def R95 (q_share : (α : Type) → α → (α → Bool) → Bool) (q_cmpW : (Nat → Nat → Bool) → Nat → Option CV → W → W → (W → Bool) → Bool) (q_guardW : Bool → W → Bool → Bool → Bool) (q_pickW : W → W → W → (W → Bool) → Bool) (fu : Nat) (call : CallW) (a0 : W) (h0 : HW) (c0 : Nat) (K : KW) : Bool :=
q_cmpW (cmpF2 .geq) 3 (binC Try.prog .geq 3 (.tmp 3) (.const (.int .i64 (.ofNat 0))) (dec a0) (dec ⟨3, 0, r0, []⟩)) a0 ⟨3, 0, r0, []⟩ fun v1 =>
q_share _ (fun (v3 : W) (h4 : HW) (c5 : Nat) =>
q_share _ (fun (v7 : W) (h8 : HW) (c9 : Nat) =>
q_pickW v1 v7 ⟨8, 0, r0, []⟩ fun v10 =>
K v10 h8 c9) fun f6 =>
q_guardW true v1 (q_cmpW (cmpF2 .lss) 3 (binC Try.prog .lss 3 (.tmp 6) (.const (.int .i64 (.ofNat 65536))) (dec v3) (dec ⟨3, 65536, r0, []⟩)) v3 ⟨3, 65536, r0, []⟩ fun v11 =>
f6 v11 h4 c5) (f6 wUnd h4 c5)) fun f2 =>
q_guardW true v1 (f2 a0 h0 c0) (f2 wUnd h0 c0)
theorem R95_eq (Q : PrimW) (fu : Nat) (call : CallW) : curryA 1 (fnK Q Try.prog tys stl fu call e95) = R95 Q.share Q.cmpW Q.guardW Q.pickW fu call := by kernel_rfl
noncomputable def n95 : List W → HW → Nat → KW → Bool := appF 1 (R95 (fun _ x f => f x) cmpW guardW pickW 1000000 d0.fn)
theorem n95_ok : FnGood Try.prog tys stl tab 95 n95 := node_ok d0_ok (by kernel_rfl) rfl g95 (R95_eq real _ _)
noncomputable def d1 : Disp := (.node 61 n61 (.node 34 n34 (.node 28 n28 (.node 25 n25 .leaf .leaf) (.node 29 n29 .leaf .leaf)) (.node 49 n49 (.node 45 n45 .leaf .leaf) (.node 59 n59 .leaf .leaf))) (.node 80 n80 (.node 65 n65 (.node 64 n64 .leaf .leaf) (.node 66 n66 .leaf .leaf)) (.node 89 n89 (.node 85 n85 .leaf .leaf) (.node 95 n95 .leaf .leaf))))
theorem d1_ok : CallSim Try.prog tys stl tab d1.fn := Disp.sim ⟨n61_ok, ⟨n34_ok, ⟨n28_ok, ⟨n25_ok, True.intro, True.intro⟩, ⟨n29_ok, True.intro, True.intro⟩⟩, ⟨n49_ok, ⟨n45_ok, True.intro, True.intro⟩, ⟨n59_ok, True.intro, True.intro⟩⟩⟩, ⟨n80_ok, ⟨n65_ok, ⟨n64_ok, True.intro, True.intro⟩, ⟨n66_ok, True.intro, True.intro⟩⟩, ⟨n89_ok, ⟨n85_ok, True.intro, True.intro⟩, ⟨n95_ok, True.intro, True.intro⟩⟩⟩⟩
/- foghorn/meter.Errors -/
noncomputable def R10 (q_share : (α : Type) → α → (α → Bool) → Bool) (q_genW : Option CV → (W → Bool) → Bool) (q_addW : Nat → Nat → Option CV → W → W → (W → Bool) → Bool) (q_cmpW : (Nat → Nat → Bool) → Nat → Option CV → W → W → (W → Bool) → Bool) (q_notW : Option CV → W → (W → Bool) → Bool) (q_condW : W → Bool → Bool → Bool) (q_idxSW : Nat → W → W → (W → Bool) → Bool) (q_lenW : Option CV → W → (W → Bool) → Bool) (q_loadSW : HW → W → (W → Bool) → Bool) (fu : Nat) (call : CallW) (a0 : W) (a1 : W) (h0 : HW) (c0 : Nat) (K : KW) : Bool :=
call 34 [a0, a1] h0 c0 fun v1 h2 c3 =>
q_notW (two Try.prog (dec v1) (Op.unary .not)) v1 fun v4 =>
q_condW v4 (
K ⟨13, 0, r0, [⟨3, 0, r0, []⟩, ⟨3, 0, r0, []⟩, ⟨3, 1, r0, []⟩]⟩ h2 c3) (
q_lenW (lenC tys 22 (dec a0)) a0 fun v5 =>
@Nat.rec (fun _ => Fun 3) (fun _ _ _ _ _ => false) (fun _ f11 v6 v7 v8 h9 c10 =>
q_cmpW (cmpF2 .lss) 3 (binC Try.prog .lss 3 (.tmp 14) (.tmp 13) (dec v8) (dec v5)) v8 v5 fun v12 =>
q_condW v12 (
q_share _ (fun (v13 : W) (v14 : W) (h15 : HW) (c16 : Nat) =>
q_addW 3 9223372036854775807 (binC Try.prog .add 3 (.tmp 14) (.const (.int .i64 (.ofNat 1))) (dec v8) (dec ⟨3, 1, r0, []⟩)) v8 ⟨3, 1, r0, []⟩ fun v18 =>
f11 v13 v14 v18 h15 c16) fun f17 =>
q_idxSW 1 a0 v8 fun v19 =>
q_loadSW h9 v19 fun v20 =>
q_idxSW 1 a1 v8 fun v21 =>
q_loadSW h9 v21 fun v22 =>
q_genW (binC Try.prog .eql 4 (.tmp 20) (.tmp 24) (dec v20) (dec v22)) fun v23 =>
q_condW v23 (
f17 v6 v7 h9 c10) (
q_share _ (fun (v24 : W) (h25 : HW) (c26 : Nat) =>
q_addW 3 9223372036854775807 (binC Try.prog .add 3 (.tmp 29) (.const (.int .i64 (.ofNat 1))) (dec v6) (dec ⟨3, 1, r0, []⟩)) v6 ⟨3, 1, r0, []⟩ fun v28 =>
f17 v28 v24 h25 c26) fun f27 =>
q_cmpW (cmpF2 .eql) 3 (binC Try.prog .eql 3 (.tmp 26) (.const (.int .i64 (.ofNat 0))) (dec v6) (dec ⟨3, 0, r0, []⟩)) v6 ⟨3, 0, r0, []⟩ fun v29 =>
q_condW v29 (
f27 v8 h9 c10) (
f27 v7 h9 c10))) (
K ⟨13, 0, r0, [v6, v7, ⟨3, 0, r0, []⟩]⟩ h9 c10)) fu ⟨3, 0, r0, []⟩ ⟨3, 0, r0, []⟩ ⟨3, 0, r0, []⟩ h2 c3)
theorem R10_eq (Q : PrimW) (fu : Nat) (call : CallW) : curryA 2 (fnK Q Try.prog tys stl fu call e10) = R10 Q.share Q.genW Q.addW Q.cmpW Q.notW Q.condW Q.idxSW Q.lenW Q.loadSW fu call := by kernel_rfl
noncomputable def n10 : List W → HW → Nat → KW → Bool := appF 2 (R10 (fun _ x f => f x) genW addW cmpW notW condW idxSW lenW loadSW 1000000 d1.fn)
theorem n10_ok : FnGood Try.prog tys stl tab 10 n10 := node_ok d1_ok (by kernel_rfl) rfl g10 (R10_eq real _ _)
/- foghorn/meter.Runs -/
noncomputable def R12 (q_share : (α : Type) → α → (α → Bool) → Bool) (q_genW : Option CV → (W → Bool) → Bool) (q_addW : Nat → Nat → Option CV → W → W → (W → Bool) → Bool) (q_subW : Nat → Nat → Option CV → W → W → (W → Bool) → Bool) (q_cmpW : (Nat → Nat → Bool) → Nat → Option CV → W → W → (W → Bool) → Bool) (q_notW : Option CV → W → (W → Bool) → Bool) (q_condW : W → Bool → Bool → Bool) (q_guardW : Bool → W → Bool → Bool → Bool) (q_pickW : W → W → W → (W → Bool) → Bool) (q_fadW : Nat → W → (W → Bool) → Bool) (q_idxSW : Nat → W → W → (W → Bool) → Bool) (q_lenW : Option CV → W → (W → Bool) → Bool) (q_killVW : W → HW → (HW → Bool) → Bool) (q_loadSW : HW → W → (W → Bool) → Bool) (q_storeSW : HW → W → W → (HW → Bool) → Bool) (q_buildSW : Nat → Nat → Kind → Nat → Bool → HW → Nat → Nat → List W → KW → Bool) (q_appSW : Nat → Nat → (Kind → Bool) → Bool → HW → Nat → W → W → Bool → KW → Bool) (q_flatW : W → Bool → Bool) (fu : Nat) (call : CallW) (a0 : W) (a1 : W) (a2 : W) (h0 : HW) (c0 : Nat) (K : KW) : Bool :=
call 34 [a0, a1] h0 c0 fun v1 h2 c3 =>
q_notW (two Try.prog (dec v1) (Op.unary .not)) v1 fun v4 =>
q_share _ (fun (v6 : W) (h7 : HW) (c8 : Nat) =>
q_share _ (fun (v10 : W) (h11 : HW) (c12 : Nat) =>
q_pickW v4 ⟨8, 1, r0, []⟩ v10 fun v13 =>
q_condW v13 (
K ⟨13, 0, r0, [⟨12, 0, ⟨0, 0, 0, .nils⟩, []⟩, ⟨3, 1, r0, []⟩]⟩ h11 c12) (
q_lenW (lenC tys 22 (dec a0)) a0 fun v14 =>
@Nat.rec (fun _ => Fun 2) (fun _ _ _ _ => false) (fun _ f19 v15 v16 h17 c18 =>
q_cmpW (cmpF2 .lss) 3 (binC Try.prog .lss 3 (.tmp 21) (.tmp 20) (dec v16) (dec v14)) v16 v14 fun v20 =>
q_condW v20 (
q_share _ (fun (v21 : W) (h22 : HW) (c23 : Nat) =>
q_addW 3 9223372036854775807 (binC Try.prog .add 3 (.tmp 21) (.const (.int .i64 (.ofNat 1))) (dec v16) (dec ⟨3, 1, r0, []⟩)) v16 ⟨3, 1, r0, []⟩ fun v25 =>
f19 v21 v25 h22 c23) fun f24 =>
q_idxSW 1 a0 v16 fun v26 =>
q_loadSW h17 v26 fun v27 =>
q_idxSW 1 a1 v16 fun v28 =>
q_loadSW h17 v28 fun v29 =>
q_genW (binC Try.prog .eql 4 (.tmp 27) (.tmp 31) (dec v27) (dec v29)) fun v30 =>
q_condW v30 (
f24 v15 h17 c18) (
q_lenW (lenC tys 27 (dec v15)) v15 fun v31 =>
q_subW 3 9223372036854775807 (binC Try.prog .sub 3 (.tmp 34) (.const (.int .i64 (.ofNat 1))) (dec v31) (dec ⟨3, 1, r0, []⟩)) v31 ⟨3, 1, r0, []⟩ fun v32 =>
q_cmpW (cmpF2 .geq) 3 (binC Try.prog .geq 3 (.tmp 36) (.const (.int .i64 (.ofNat 0))) (dec v32) (dec ⟨3, 0, r0, []⟩)) v32 ⟨3, 0, r0, []⟩ fun v33 =>
q_share _ (fun (v35 : W) (h36 : HW) (c37 : Nat) =>
q_share _ (fun (v39 : W) (h40 : HW) (c41 : Nat) =>
q_share _ (fun (v43 : W) (h44 : HW) (c45 : Nat) =>
q_share _ (fun (v47 : W) (h48 : HW) (c49 : Nat) =>
q_share _ (fun (v51 : W) (h52 : HW) (c53 : Nat) =>
q_share _ (fun (v55 : W) (h56 : HW) (c57 : Nat) =>
q_share _ (fun (v59 : W) (h60 : HW) (c61 : Nat) =>
q_share _ (fun (v63 : W) (h64 : HW) (c65 : Nat) =>
q_share _ (fun (v67 : W) (h68 : HW) (c69 : Nat) =>
q_share _ (fun (v71 : W) (h72 : HW) (c73 : Nat) =>
q_share _ (fun (v75 : W) (h76 : HW) (c77 : Nat) =>
q_share _ (fun (v79 : W) (h80 : HW) (c81 : Nat) =>
q_share _ (fun (v83 : W) (h84 : HW) (c85 : Nat) =>
q_share _ (fun (v87 : W) (h88 : HW) (c89 : Nat) =>
q_share _ (fun (v91 : W) (h92 : HW) (c93 : Nat) =>
q_pickW v33 v91 ⟨8, 0, r0, []⟩ fun v94 =>
q_condW v94 (
q_idxSW 3 v15 v32 fun v95 =>
q_fadW 0 v95 fun v96 =>
q_loadSW h92 v96 fun v97 =>
q_subW 3 9223372036854775807 (binC Try.prog .sub 3 (.tmp 57) (.tmp 62) (dec v16) (dec v97)) v16 v97 fun v98 =>
q_addW 3 9223372036854775807 (binC Try.prog .add 3 (.tmp 63) (.const (.int .i64 (.ofNat 1))) (dec v98) (dec ⟨3, 1, r0, []⟩)) v98 ⟨3, 1, r0, []⟩ fun v99 =>
q_idxSW 3 v15 v32 fun v100 =>
q_fadW 1 v100 fun v101 =>
q_storeSW h92 v101 v99 fun h102 =>
q_idxSW 3 v15 v32 fun v103 =>
q_fadW 2 v103 fun v104 =>
q_loadSW h102 v104 fun v105 =>
q_addW 3 9223372036854775807 (binC Try.prog .add 3 (.tmp 71) (.const (.int .i64 (.ofNat 1))) (dec v105) (dec ⟨3, 1, r0, []⟩)) v105 ⟨3, 1, r0, []⟩ fun v106 =>
q_idxSW 3 v15 v32 fun v107 =>
q_fadW 2 v107 fun v108 =>
q_storeSW h102 v108 v106 fun h109 =>
f24 v15 h109 c93) (
q_flatW v16 (
q_flatW ⟨3, 1, r0, []⟩ (
q_flatW ⟨3, 1, r0, []⟩ (
(fun (v110 : W) =>
q_buildSW 3 9 .avs 3 true h92 c93 1 [v110] fun v111 h112 c113 =>
q_appSW 24 3 (appKindOk (elemJ tys 27)) false h112 c113 v15 v111 false fun v114 h115 c116 =>
q_killVW v111 h115 fun h117 =>
f24 v114 h117 c116) ⟨15, 0, r0, [v16, ⟨3, 1, r0, []⟩, ⟨3, 1, r0, []⟩]⟩))))) fun f90 =>
q_guardW true v33 (q_cmpW (cmpF2 .leq) 3 (binC Try.prog .leq 3 (.tmp 51) (.tmp 52) (dec v83) (dec v87)) v83 v87 fun v118 =>
f90 v118 h88 c89) (f90 wUnd h88 c89)) fun f86 =>
q_guardW true v33 (f86 a2 h84 c85) (f86 wUnd h84 c85)) fun f82 =>
q_guardW true v33 (q_subW 3 9223372036854775807 (binC Try.prog .sub 3 (.tmp 39) (.tmp 50) (dec v35) (dec v79)) v35 v79 fun v119 =>
f82 v119 h80 c81) (f82 wUnd h80 c81)) fun f78 =>
q_guardW true v33 (q_addW 3 9223372036854775807 (binC Try.prog .add 3 (.tmp 44) (.tmp 49) (dec v55) (dec v75)) v55 v75 fun v120 =>
f78 v120 h76 c77) (f78 wUnd h76 c77)) fun f74 =>
q_guardW true v33 (q_loadSW h72 v71 fun v121 =>
f74 v121 h72 c73) (f74 wUnd h72 c73)) fun f70 =>
q_guardW true v33 (q_fadW 1 v67 fun v122 =>
f70 v122 h68 c69) (f70 wUnd h68 c69)) fun f66 =>
q_guardW true v33 (q_idxSW 3 v59 v63 fun v123 =>
f66 v123 h64 c65) (f66 wUnd h64 c65)) fun f62 =>
q_guardW true v33 (f62 v32 h60 c61) (f62 wUnd h60 c61)) fun f58 =>
q_guardW true v33 (f58 v15 h56 c57) (f58 wUnd h56 c57)) fun f54 =>
q_guardW true v33 (q_loadSW h52 v51 fun v124 =>
f54 v124 h52 c53) (f54 wUnd h52 c53)) fun f50 =>
q_guardW true v33 (q_fadW 0 v47 fun v125 =>
f50 v125 h48 c49) (f50 wUnd h48 c49)) fun f46 =>
q_guardW true v33 (q_idxSW 3 v39 v43 fun v126 =>
f46 v126 h44 c45) (f46 wUnd h44 c45)) fun f42 =>
q_guardW true v33 (f42 v32 h40 c41) (f42 wUnd h40 c41)) fun f38 =>
q_guardW true v33 (f38 v15 h36 c37) (f38 wUnd h36 c37)) fun f34 =>
q_guardW true v33 (f34 v16 h17 c18) (f34 wUnd h17 c18))) (
K ⟨13, 0, r0, [v15, ⟨3, 0, r0, []⟩]⟩ h17 c18)) fu ⟨12, 0, ⟨0, 0, 0, .nils⟩, []⟩ ⟨3, 0, r0, []⟩ h11 c12)) fun f9 =>
q_guardW false v4 (q_cmpW (cmpF2 .lss) 3 (binC Try.prog .lss 3 (.tmp 16) (.const (.int .i64 (.ofNat 0))) (dec v6) (dec ⟨3, 0, r0, []⟩)) v6 ⟨3, 0, r0, []⟩ fun v127 =>
f9 v127 h7 c8) (f9 wUnd h7 c8)) fun f5 =>
q_guardW false v4 (f5 a2 h2 c3) (f5 wUnd h2 c3)
theorem R12_eq (Q : PrimW) (fu : Nat) (call : CallW) : curryA 3 (fnK Q Try.prog tys stl fu call e12) = R12 Q.share Q.genW Q.addW Q.subW Q.cmpW Q.notW Q.condW Q.guardW Q.pickW Q.fadW Q.idxSW Q.lenW Q.killVW Q.loadSW Q.storeSW Q.buildSW Q.appSW Q.flatW fu call := by kernel_rfl
noncomputable def n12 : List W → HW → Nat → KW → Bool := appF 3 (R12 (fun _ x f => f x) genW addW subW cmpW notW condW guardW pickW fadW idxSW lenW killVW loadSW storeSW buildSW appSW flatW 1000000 d1.fn)
theorem n12_ok : FnGood Try.prog tys stl tab 12 n12 := node_ok d1_ok (by kernel_rfl) rfl g12 (R12_eq real _ _)
/- math.Inf -/
noncomputable def R42 (q_share : (α : Type) → α → (α → Bool) → Bool) (q_cmpW : (Nat → Nat → Bool) → Nat → Option CV → W → W → (W → Bool) → Bool) (q_condW : W → Bool → Bool → Bool) (fu : Nat) (call : CallW) (a0 : W) (h0 : HW) (c0 : Nat) (K : KW) : Bool :=
q_share _ (fun (v1 : W) (h2 : HW) (c3 : Nat) =>
call 59 [v1] h2 c3 fun v5 h6 c7 =>
K v5 h6 c7) fun f4 =>
q_cmpW (cmpF2 .geq) 3 (binC Try.prog .geq 3 (.tmp 4) (.const (.int .i64 (.ofNat 0))) (dec a0) (dec ⟨3, 0, r0, []⟩)) a0 ⟨3, 0, r0, []⟩ fun v8 =>
q_condW v8 (
f4 ⟨7, 9218868437227405312, r0, []⟩ h0 c0) (
f4 ⟨7, 18442240474082181120, r0, []⟩ h0 c0)
theorem R42_eq (Q : PrimW) (fu : Nat) (call : CallW) : curryA 1 (fnK Q Try.prog tys stl fu call e42) = R42 Q.share Q.cmpW Q.condW fu call := by kernel_rfl
noncomputable def n42 : List W → HW → Nat → KW → Bool := appF 1 (R42 (fun _ x f => f x) cmpW condW 1000000 d1.fn)
theorem n42_ok : FnGood Try.prog tys stl tab 42 n42 := node_ok d1_ok (by kernel_rfl) rfl g42 (R42_eq real _ _)
/- math.Abs -/
noncomputable def R46 (q_genW : Option CV → (W → Bool) → Bool) (fu : Nat) (call : CallW) (a0 : W) (h0 : HW) (c0 : Nat) (K : KW) : Bool :=
call 61 [a0] h0 c0 fun v1 h2 c3 =>
q_genW (binC Try.prog .andNot 122 (.tmp 4) (.const (.int .u64 (.ofNat 9223372036854775808))) (dec v1) (dec ⟨7, 9223372036854775808, r0, []⟩)) fun v4 =>
call 59 [v4] h2 c3 fun v5 h6 c7 =>
K v5 h6 c7
theorem R46_eq (Q : PrimW) (fu : Nat) (call : CallW) : curryA 1 (fnK Q Try.prog tys stl fu call e46) = R46 Q.genW fu call := by kernel_rfl
noncomputable def n46 : List W → HW → Nat → KW → Bool := appF 1 (R46 genW 1000000 d1.fn)
theorem n46_ok : FnGood Try.prog tys stl tab 46 n46 := node_ok d1_ok (by kernel_rfl) rfl g46 (R46_eq real _ _)
/- foghorn/points.of -/
noncomputable def R50 (q_cmpW : (Nat → Nat → Bool) → Nat → Option CV → W → W → (W → Bool) → Bool) (q_condW : W → Bool → Bool → Bool) (q_loadAW : Nat → HW → W → (W → Bool) → Bool) (q_storeAW : Nat → HW → W → W → (HW → Bool) → Bool) (q_allocW : Trie W → Nat → Bool → HW → Nat → KW → Bool) (fu : Nat) (call : CallW) (a0 : W) (h0 : HW) (c0 : Nat) (K : KW) : Bool :=
q_allocW (allocT tys 110) 5 true h0 c0 fun v1 h2 c3 =>
q_cmpW (cmpF2 .eql) 3 (binC Try.prog .eql 3 (.tmp 4) (.const (.int .i64 (.ofNat 4))) (dec a0) (dec ⟨3, 4, r0, []⟩)) a0 ⟨3, 4, r0, []⟩ fun v4 =>
q_condW v4 (
call 65 [⟨3, 2, r0, []⟩, ⟨3, 1, r0, []⟩] h2 c3 fun v5 h6 c7 =>
q_storeAW 5 h6 v1 v5 fun h8 =>
q_loadAW 5 h8 v1 fun v9 =>
K ⟨13, 0, r0, [v9, ⟨8, 1, r0, []⟩]⟩ h8 c7) (
q_cmpW (cmpF2 .eql) 3 (binC Try.prog .eql 3 (.tmp 4) (.const (.int .i64 (.ofNat 16))) (dec a0) (dec ⟨3, 16, r0, []⟩)) a0 ⟨3, 16, r0, []⟩ fun v10 =>
q_condW v10 (
call 65 [⟨3, 4, r0, []⟩, ⟨3, 3, r0, []⟩] h2 c3 fun v11 h12 c13 =>
q_storeAW 5 h12 v1 v11 fun h14 =>
q_loadAW 5 h14 v1 fun v15 =>
K ⟨13, 0, r0, [v15, ⟨8, 1, r0, []⟩]⟩ h14 c13) (
q_cmpW (cmpF2 .eql) 3 (binC Try.prog .eql 3 (.tmp 4) (.const (.int .i64 (.ofNat 32))) (dec a0) (dec ⟨3, 32, r0, []⟩)) a0 ⟨3, 32, r0, []⟩ fun v16 =>
q_condW v16 (
call 66 [⟨3, 5, r0, []⟩, ⟨3, 5, r0, []⟩, ⟨3, 1, r0, []⟩] h2 c3 fun v17 h18 c19 =>
q_storeAW 5 h18 v1 v17 fun h20 =>
q_loadAW 5 h20 v1 fun v21 =>
K ⟨13, 0, r0, [v21, ⟨8, 1, r0, []⟩]⟩ h20 c19) (
q_cmpW (cmpF2 .eql) 3 (binC Try.prog .eql 3 (.tmp 4) (.const (.int .i64 (.ofNat 64))) (dec a0) (dec ⟨3, 64, r0, []⟩)) a0 ⟨3, 64, r0, []⟩ fun v22 =>
q_condW v22 (
call 65 [⟨3, 6, r0, []⟩, ⟨3, 7, r0, []⟩] h2 c3 fun v23 h24 c25 =>
q_storeAW 5 h24 v1 v23 fun h26 =>
q_loadAW 5 h26 v1 fun v27 =>
K ⟨13, 0, r0, [v27, ⟨8, 1, r0, []⟩]⟩ h26 c25) (
q_cmpW (cmpF2 .eql) 3 (binC Try.prog .eql 3 (.tmp 4) (.const (.int .i64 (.ofNat 128))) (dec a0) (dec ⟨3, 128, r0, []⟩)) a0 ⟨3, 128, r0, []⟩ fun v28 =>
q_condW v28 (
call 66 [⟨3, 7, r0, []⟩, ⟨3, 11, r0, []⟩, ⟨3, 2, r0, []⟩] h2 c3 fun v29 h30 c31 =>
q_storeAW 5 h30 v1 v29 fun h32 =>
q_loadAW 5 h32 v1 fun v33 =>
K ⟨13, 0, r0, [v33, ⟨8, 1, r0, []⟩]⟩ h32 c31) (
q_cmpW (cmpF2 .eql) 3 (binC Try.prog .eql 3 (.tmp 4) (.const (.int .i64 (.ofNat 256))) (dec a0) (dec ⟨3, 256, r0, []⟩)) a0 ⟨3, 256, r0, []⟩ fun v34 =>
q_condW v34 (
call 65 [⟨3, 8, r0, []⟩, ⟨3, 15, r0, []⟩] h2 c3 fun v35 h36 c37 =>
q_storeAW 5 h36 v1 v35 fun h38 =>
q_loadAW 5 h38 v1 fun v39 =>
K ⟨13, 0, r0, [v39, ⟨8, 1, r0, []⟩]⟩ h38 c37) (
(fun (v40 : W) =>
q_storeAW 5 h2 v1 v40 fun h41 =>
q_loadAW 5 h41 v1 fun v42 =>
K ⟨13, 0, r0, [v42, ⟨8, 0, r0, []⟩]⟩ h41 c3) ⟨15, 0, r0, [⟨3, 0, r0, []⟩, ⟨3, 0, r0, []⟩, ⟨3, 0, r0, []⟩, ⟨12, 0, ⟨0, 0, 0, .nilf⟩, []⟩, ⟨12, 0, ⟨0, 0, 0, .nilf⟩, []⟩]⟩))))))
theorem R50_eq (Q : PrimW) (fu : Nat) (call : CallW) : curryA 1 (fnK Q Try.prog tys stl fu call e50) = R50 Q.cmpW Q.condW Q.loadAW Q.storeAW Q.allocW fu call := by kernel_rfl
noncomputable def n50 : List W → HW → Nat → KW → Bool := appF 1 (R50 cmpW condW loadAW storeAW allocW 1000000 d1.fn)
theorem n50_ok : FnGood Try.prog tys stl tab 50 n50 := node_ok d1_ok (by kernel_rfl) rfl g50 (R50_eq real _ _)
/- foghorn/plane.Apart -/
noncomputable def R52 (q_genW : Option CV → (W → Bool) → Bool) (fu : Nat) (call : CallW) (a0 : W) (a1 : W) (h0 : HW) (c0 : Nat) (K : KW) : Bool :=
q_genW (two Try.prog (dec a0) fun v => Builtin.real_ #[45] 46 #[v]) fun v1 =>
q_genW (two Try.prog (dec a1) fun v => Builtin.real_ #[45] 46 #[v]) fun v2 =>
q_genW (binC Try.prog .sub 46 (.tmp 6) (.tmp 8) (dec v1) (dec v2)) fun v3 =>
q_genW (two Try.prog (dec a0) fun v => Builtin.imag_ #[45] 46 #[v]) fun v4 =>
q_genW (two Try.prog (dec a1) fun v => Builtin.imag_ #[45] 46 #[v]) fun v5 =>
q_genW (binC Try.prog .sub 46 (.tmp 11) (.tmp 13) (dec v4) (dec v5)) fun v6 =>
q_genW (two2 Try.prog (dec v3) (dec v6) fun v u => Builtin.complex_ #[46, 46] 45 #[v, u]) fun v7 =>
call 45 [v7] h0 c0 fun v8 h9 c10 =>
K v8 h9 c10
theorem R52_eq (Q : PrimW) (fu : Nat) (call : CallW) : curryA 2 (fnK Q Try.prog tys stl fu call e52) = R52 Q.genW fu call := by kernel_rfl
noncomputable def n52 : List W → HW → Nat → KW → Bool := appF 2 (R52 genW 1000000 d1.fn)
theorem n52_ok : FnGood Try.prog tys stl tab 52 n52 := node_ok d1_ok (by kernel_rfl) rfl g52 (R52_eq real _ _)
/- (foghorn/points.set).rows -/
noncomputable def R88 (q_addW : Nat → Nat → Option CV → W → W → (W → Bool) → Bool) (q_subW : Nat → Nat → Option CV → W → W → (W → Bool) → Bool) (q_mulW : Nat → Nat → Option CV → W → W → (W → Bool) → Bool) (q_fadW : Nat → W → (W → Bool) → Bool) (q_detW : W → Bool → Bool) (q_killVW : W → HW → (HW → Bool) → Bool) (q_loadSW : HW → W → (W → Bool) → Bool) (q_loadAW : Nat → HW → W → (W → Bool) → Bool) (q_boxW : HW → Nat → W → KW → Bool) (q_andW : Bool → Bool → Bool) (fu : Nat) (call : CallW) (a0 : W) (a1 : W) (h0 : HW) (c0 : Nat) (K : KW) : Bool :=
q_boxW h0 c0 a0 fun v1 h2 c3 =>
q_loadAW 5 h2 v1 fun v4 =>
q_fadW 1 v1 fun v5 =>
q_detW v5 (
q_andW (q_loadSW h2 v5 fun v6 =>
q_addW 3 9223372036854775807 (binC Try.prog .add 3 (.tmp 6) (.const (.int .i64 (.ofNat 1))) (dec v6) (dec ⟨3, 1, r0, []⟩)) v6 ⟨3, 1, r0, []⟩ fun v7 =>
q_detW v7 (
call 89 [v4, a1] h2 c3 fun v8 h9 c10 =>
q_mulW 3 9223372036854775807 (binC Try.prog .mul 3 (.const (.int .i64 (.ofNat 2))) (.tmp 10) (dec ⟨3, 2, r0, []⟩) (dec v8)) ⟨3, 2, r0, []⟩ v8 fun v11 =>
q_subW 3 9223372036854775807 (binC Try.prog .sub 3 (.tmp 7) (.tmp 11) (dec v7) (dec v11)) v7 v11 fun v12 =>
q_killVW v1 h9 fun h13 =>
K v12 h13 c10)) (q_andW (call 89 [v4, a1] h2 c3 fun v14 h15 c16 =>
q_loadSW h15 v5 fun v17 =>
q_addW 3 9223372036854775807 (binC Try.prog .add 3 (.tmp 6) (.const (.int .i64 (.ofNat 1))) (dec v17) (dec ⟨3, 1, r0, []⟩)) v17 ⟨3, 1, r0, []⟩ fun v18 =>
q_mulW 3 9223372036854775807 (binC Try.prog .mul 3 (.const (.int .i64 (.ofNat 2))) (.tmp 10) (dec ⟨3, 2, r0, []⟩) (dec v14)) ⟨3, 2, r0, []⟩ v14 fun v19 =>
q_subW 3 9223372036854775807 (binC Try.prog .sub 3 (.tmp 7) (.tmp 11) (dec v18) (dec v19)) v18 v19 fun v20 =>
q_killVW v1 h15 fun h21 =>
K v20 h21 c16) (true)))
theorem R88_eq (Q : PrimW) (fu : Nat) (call : CallW) : curryA 2 (fnK Q Try.prog tys stl fu call e88) = R88 Q.addW Q.subW Q.mulW Q.fadW Q.detW Q.killVW Q.loadSW Q.loadAW Q.boxW Q.andW fu call := by kernel_rfl
noncomputable def n88 : List W → HW → Nat → KW → Bool := appF 2 (R88 addW subW mulW fadW detW killVW loadSW loadAW boxW andW 1000000 d1.fn)
theorem n88_ok : FnGood Try.prog tys stl tab 88 n88 := node_ok d1_ok (by kernel_rfl) rfl g88 (R88_eq real _ _)
/- math.Copysign -/
noncomputable def R90 (q_genW : Option CV → (W → Bool) → Bool) (q_bitW : (Nat → Nat → Nat) → Nat → Nat → Option CV → W → W → (W → Bool) → Bool) (fu : Nat) (call : CallW) (a0 : W) (a1 : W) (h0 : HW) (c0 : Nat) (K : KW) : Bool :=
call 61 [a0] h0 c0 fun v1 h2 c3 =>
q_genW (binC Try.prog .andNot 122 (.tmp 6) (.const (.int .u64 (.ofNat 9223372036854775808))) (dec v1) (dec ⟨7, 9223372036854775808, r0, []⟩)) fun v4 =>
call 61 [a1] h2 c3 fun v5 h6 c7 =>
q_bitW Nat.land 7 18446744073709551615 (binC Try.prog .and 122 (.tmp 9) (.const (.int .u64 (.ofNat 9223372036854775808))) (dec v5) (dec ⟨7, 9223372036854775808, r0, []⟩)) v5 ⟨7, 9223372036854775808, r0, []⟩ fun v8 =>
q_bitW Nat.lor 7 18446744073709551615 (binC Try.prog .or 122 (.tmp 7) (.tmp 10) (dec v4) (dec v8)) v4 v8 fun v9 =>
call 59 [v9] h6 c7 fun v10 h11 c12 =>
K v10 h11 c12
theorem R90_eq (Q : PrimW) (fu : Nat) (call : CallW) : curryA 2 (fnK Q Try.prog tys stl fu call e90) = R90 Q.genW Q.bitW fu call := by kernel_rfl
noncomputable def n90 : List W → HW → Nat → KW → Bool := appF 2 (R90 genW bitW 1000000 d1.fn)
theorem n90_ok : FnGood Try.prog tys stl tab 90 n90 := node_ok d1_ok (by kernel_rfl) rfl g90 (R90_eq real _ _)
/- foghorn/bits.Ungray -/
noncomputable def R92 (q_bitW : (Nat → Nat → Nat) → Nat → Nat → Option CV → W → W → (W → Bool) → Bool) (q_cmpW : (Nat → Nat → Bool) → Nat → Option CV → W → W → (W → Bool) → Bool) (q_shlW : Nat → Nat → Nat → Option CV → W → W → (W → Bool) → Bool) (q_shrW : Nat → Nat → Option CV → W → W → (W → Bool) → Bool) (q_notW : Option CV → W → (W → Bool) → Bool) (q_condW : W → Bool → Bool → Bool) (fu : Nat) (call : CallW) (a0 : W) (h0 : HW) (c0 : Nat) (K : KW) : Bool :=
call 95 [a0] h0 c0 fun v1 h2 c3 =>
q_notW (two Try.prog (dec v1) (Op.unary .not)) v1 fun v4 =>
q_condW v4 (
K ⟨13, 0, r0, [⟨3, 0, r0, []⟩, ⟨3, 1, r0, []⟩]⟩ h2 c3) (
@Nat.rec (fun _ => Fun 2) (fun _ _ _ _ => false) (fun _ f9 v5 v6 h7 c8 =>
q_cmpW (cmpF2 .lss) 3 (binC Try.prog .lss 3 (.tmp 8) (.const (.int .i64 (.ofNat 16))) (dec v6) (dec ⟨3, 16, r0, []⟩)) v6 ⟨3, 16, r0, []⟩ fun v10 =>
q_condW v10 (
q_shrW 3 64 (binC Try.prog .shr 3 (.tmp 13) (.tmp 14) (dec v5) (dec v6)) v5 v6 fun v11 =>
q_bitW Nat.xor 3 9223372036854775807 (binC Try.prog .xor 3 (.tmp 12) (.tmp 15) (dec v5) (dec v11)) v5 v11 fun v12 =>
q_shlW 3 9223372036854775807 64 (binC Try.prog .shl 3 (.tmp 10) (.const (.int .u64 (.ofNat 1))) (dec v6) (dec ⟨7, 1, r0, []⟩)) v6 ⟨7, 1, r0, []⟩ fun v13 =>
f9 v12 v13 h7 c8) (
K ⟨13, 0, r0, [v5, ⟨3, 0, r0, []⟩]⟩ h7 c8)) fu a0 ⟨3, 1, r0, []⟩ h2 c3)
theorem R92_eq (Q : PrimW) (fu : Nat) (call : CallW) : curryA 1 (fnK Q Try.prog tys stl fu call e92) = R92 Q.bitW Q.cmpW Q.shlW Q.shrW Q.notW Q.condW fu call := by kernel_rfl
noncomputable def n92 : List W → HW → Nat → KW → Bool := appF 1 (R92 bitW cmpW shlW shrW notW condW 1000000 d1.fn)
theorem n92_ok : FnGood Try.prog tys stl tab 92 n92 := node_ok d1_ok (by kernel_rfl) rfl g92 (R92_eq real _ _)
/- foghorn/bits.Gray -/
noncomputable def R93 (q_bitW : (Nat → Nat → Nat) → Nat → Nat → Option CV → W → W → (W → Bool) → Bool) (q_shrW : Nat → Nat → Option CV → W → W → (W → Bool) → Bool) (q_notW : Option CV → W → (W → Bool) → Bool) (q_condW : W → Bool → Bool → Bool) (fu : Nat) (call : CallW) (a0 : W) (h0 : HW) (c0 : Nat) (K : KW) : Bool :=
call 95 [a0] h0 c0 fun v1 h2 c3 =>
q_notW (two Try.prog (dec v1) (Op.unary .not)) v1 fun v4 =>
q_condW v4 (
K ⟨13, 0, r0, [⟨3, 0, r0, []⟩, ⟨3, 1, r0, []⟩]⟩ h2 c3) (
q_shrW 3 64 (binC Try.prog .shr 3 (.tmp 8) (.const (.int .u64 (.ofNat 1))) (dec a0) (dec ⟨7, 1, r0, []⟩)) a0 ⟨7, 1, r0, []⟩ fun v5 =>
q_bitW Nat.xor 3 9223372036854775807 (binC Try.prog .xor 3 (.tmp 7) (.tmp 9) (dec a0) (dec v5)) a0 v5 fun v6 =>
K ⟨13, 0, r0, [v6, ⟨3, 0, r0, []⟩]⟩ h2 c3)
theorem R93_eq (Q : PrimW) (fu : Nat) (call : CallW) : curryA 1 (fnK Q Try.prog tys stl fu call e93) = R93 Q.bitW Q.shrW Q.notW Q.condW fu call := by kernel_rfl
noncomputable def n93 : List W → HW → Nat → KW → Bool := appF 1 (R93 bitW shrW notW condW 1000000 d1.fn)
theorem n93_ok : FnGood Try.prog tys stl tab 93 n93 := node_ok d1_ok (by kernel_rfl) rfl g93 (R93_eq real _ _)
noncomputable def d2 : Disp := (.node 59 n59 (.node 42 n42 (.node 28 n28 (.node 12 n12 (.node 10 n10 .leaf .leaf) (.node 25 n25 .leaf .leaf)) (.node 34 n34 (.node 29 n29 .leaf .leaf) .leaf)) (.node 49 n49 (.node 46 n46 (.node 45 n45 .leaf .leaf) .leaf) (.node 52 n52 (.node 50 n50 .leaf .leaf) .leaf))) (.node 88 n88 (.node 66 n66 (.node 64 n64 (.node 61 n61 .leaf .leaf) (.node 65 n65 .leaf .leaf)) (.node 85 n85 (.node 80 n80 .leaf .leaf) .leaf)) (.node 92 n92 (.node 90 n90 (.node 89 n89 .leaf .leaf) .leaf) (.node 95 n95 (.node 93 n93 .leaf .leaf) .leaf))))
theorem d2_ok : CallSim Try.prog tys stl tab d2.fn := Disp.sim ⟨n59_ok, ⟨n42_ok, ⟨n28_ok, ⟨n12_ok, ⟨n10_ok, True.intro, True.intro⟩, ⟨n25_ok, True.intro, True.intro⟩⟩, ⟨n34_ok, ⟨n29_ok, True.intro, True.intro⟩, True.intro⟩⟩, ⟨n49_ok, ⟨n46_ok, ⟨n45_ok, True.intro, True.intro⟩, True.intro⟩, ⟨n52_ok, ⟨n50_ok, True.intro, True.intro⟩, True.intro⟩⟩⟩, ⟨n88_ok, ⟨n66_ok, ⟨n64_ok, ⟨n61_ok, True.intro, True.intro⟩, ⟨n65_ok, True.intro, True.intro⟩⟩, ⟨n85_ok, ⟨n80_ok, True.intro, True.intro⟩, True.intro⟩⟩, ⟨n92_ok, ⟨n90_ok, ⟨n89_ok, True.intro, True.intro⟩, True.intro⟩, ⟨n95_ok, ⟨n93_ok, True.intro, True.intro⟩, True.intro⟩⟩⟩⟩
/- foghorn/meter.nearest -/
noncomputable def R37 (q_share : (α : Type) → α → (α → Bool) → Bool) (q_genW : Option CV → (W → Bool) → Bool) (q_addW : Nat → Nat → Option CV → W → W → (W → Bool) → Bool) (q_cmpW : (Nat → Nat → Bool) → Nat → Option CV → W → W → (W → Bool) → Bool) (q_condW : W → Bool → Bool → Bool) (q_idxSW : Nat → W → W → (W → Bool) → Bool) (q_lenW : Option CV → W → (W → Bool) → Bool) (q_loadSW : HW → W → (W → Bool) → Bool) (fu : Nat) (call : CallW) (a0 : W) (a1 : W) (h0 : HW) (c0 : Nat) (K : KW) : Bool :=
call 42 [⟨3, 1, r0, []⟩] h0 c0 fun v1 h2 c3 =>
call 42 [⟨3, 1, r0, []⟩] h2 c3 fun v4 h5 c6 =>
q_lenW (lenC tys 44 (dec a0)) a0 fun v7 =>
@Nat.rec (fun _ => Fun 4) (fun _ _ _ _ _ _ => false) (fun _ f14 v8 v9 v10 v11 h12 c13 =>
q_cmpW (cmpF2 .lss) 3 (binC Try.prog .lss 3 (.tmp 14) (.tmp 13) (dec v11) (dec v7)) v11 v7 fun v15 =>
q_condW v15 (
q_share _ (fun (v16 : W) (v17 : W) (v18 : W) (h19 : HW) (c20 : Nat) =>
q_addW 3 9223372036854775807 (binC Try.prog .add 3 (.tmp 14) (.const (.int .i64 (.ofNat 1))) (dec v11) (dec ⟨3, 1, r0, []⟩)) v11 ⟨3, 1, r0, []⟩ fun v22 =>
f14 v16 v17 v18 v22 h19 c20) fun f21 =>
q_idxSW 1 a0 v11 fun v23 =>
q_loadSW h12 v23 fun v24 =>
call 52 [v24, a1] h12 c13 fun v25 h26 c27 =>
q_genW (binC Try.prog .lss 46 (.tmp 22) (.tmp 23) (dec v25) (dec v9)) fun v28 =>
q_condW v28 (
f21 v11 v25 v9 h26 c27) (
q_genW (two2 Try.prog (dec v10) (dec v25) fun v u => Builtin.min_ #[46, 46] 46 #[v, u]) fun v29 =>
f21 v8 v9 v29 h26 c27)) (
K ⟨13, 0, r0, [v8, v9, v10]⟩ h12 c13)) fu ⟨3, 0, r0, []⟩ v1 v4 ⟨3, 0, r0, []⟩ h5 c6
theorem R37_eq (Q : PrimW) (fu : Nat) (call : CallW) : curryA 2 (fnK Q Try.prog tys stl fu call e37) = R37 Q.share Q.genW Q.addW Q.cmpW Q.condW Q.idxSW Q.lenW Q.loadSW fu call := by kernel_rfl
noncomputable def n37 : List W → HW → Nat → KW → Bool := appF 2 (R37 (fun _ x f => f x) genW addW cmpW condW idxSW lenW loadSW 1000000 d2.fn)
theorem n37_ok : FnGood Try.prog tys stl tab 37 n37 := node_ok d2_ok (by kernel_rfl) rfl g37 (R37_eq real _ _)
/- math.IsInf -/
noncomputable def R43 (q_share : (α : Type) → α → (α → Bool) → Bool) (q_genW : Option CV → (W → Bool) → Bool) (q_cmpW : (Nat → Nat → Bool) → Nat → Option CV → W → W → (W → Bool) → Bool) (q_condW : W → Bool → Bool → Bool) (fu : Nat) (call : CallW) (a0 : W) (a1 : W) (h0 : HW) (c0 : Nat) (K : KW) : Bool :=
q_share _ (fun (v1 : W) (h2 : HW) (c3 : Nat) =>
q_genW (binC Try.prog .gtr 46 (.tmp 13) (.const (.float .f64 9218868437227405311)) (dec v1) (dec ⟨12, 0, ⟨0, 0, 0, .flt .f64 9218868437227405311⟩, []⟩)) fun v5 =>
K v5 h2 c3) fun f4 =>
q_cmpW (cmpF2 .eql) 3 (binC Try.prog .eql 3 (.tmp 5) (.const (.int .i64 (.ofNat 0))) (dec a1) (dec ⟨3, 0, r0, []⟩)) a1 ⟨3, 0, r0, []⟩ fun v6 =>
q_condW v6 (
call 46 [a0] h0 c0 fun v7 h8 c9 =>
f4 v7 h8 c9) (
q_cmpW (cmpF2 .lss) 3 (binC Try.prog .lss 3 (.tmp 9) (.const (.int .i64 (.ofNat 0))) (dec a1) (dec ⟨3, 0, r0, []⟩)) a1 ⟨3, 0, r0, []⟩ fun v10 =>
q_condW v10 (
q_genW (two Try.prog (dec a0) (Op.unary .neg)) fun v11 =>
f4 v11 h0 c0) (
f4 a0 h0 c0))
theorem R43_eq (Q : PrimW) (fu : Nat) (call : CallW) : curryA 2 (fnK Q Try.prog tys stl fu call e43) = R43 Q.share Q.genW Q.cmpW Q.condW fu call := by kernel_rfl
noncomputable def n43 : List W → HW → Nat → KW → Bool := appF 2 (R43 (fun _ x f => f x) genW cmpW condW 1000000 d2.fn)
theorem n43_ok : FnGood Try.prog tys stl tab 43 n43 := node_ok d2_ok (by kernel_rfl) rfl g43 (R43_eq real _ _)
/- foghorn/points.crossAt -/
noncomputable def R78 (q_addW : Nat → Nat → Option CV → W → W → (W → Bool) → Bool) (q_subW : Nat → Nat → Option CV → W → W → (W → Bool) → Bool) (q_cmpW : (Nat → Nat → Bool) → Nat → Option CV → W → W → (W → Bool) → Bool) (q_condW : W → Bool → Bool → Bool) (q_killVW : W → HW → (HW → Bool) → Bool) (q_loadAW : Nat → HW → W → (W → Bool) → Bool) (q_boxW : HW → Nat → W → KW → Bool) (q_andW : Bool → Bool → Bool) (fu : Nat) (call : CallW) (a0 : W) (a1 : W) (h0 : HW) (c0 : Nat) (K : KW) : Bool :=
q_boxW h0 c0 a0 fun v1 h2 c3 =>
@Nat.rec (fun _ => Fun 2) (fun _ _ _ _ => false) (fun _ f8 v4 v5 h6 c7 =>
q_loadAW 5 h6 v1 fun v9 =>
call 88 [v9, v5] h6 c7 fun v10 h11 c12 =>
q_cmpW (cmpF2 .geq) 3 (binC Try.prog .geq 3 (.tmp 6) (.tmp 9) (dec v4) (dec v10)) v4 v10 fun v13 =>
q_condW v13 (
q_loadAW 5 h11 v1 fun v14 =>
call 88 [v14, v5] h11 c12 fun v15 h16 c17 =>
q_subW 3 9223372036854775807 (binC Try.prog .sub 3 (.tmp 11) (.tmp 14) (dec v4) (dec v15)) v4 v15 fun v18 =>
q_addW 3 9223372036854775807 (binC Try.prog .add 3 (.tmp 16) (.const (.int .i64 (.ofNat 1))) (dec v5) (dec ⟨3, 1, r0, []⟩)) v5 ⟨3, 1, r0, []⟩ fun v19 =>
f8 v18 v19 h16 c17) (
q_loadAW 5 h11 v1 fun v20 =>
q_andW (q_loadAW 5 h11 v1 fun v21 =>
call 89 [v20, v5] h11 c12 fun v22 h23 c24 =>
q_addW 3 9223372036854775807 (binC Try.prog .add 3 (.tmp 22) (.tmp 23) (dec v22) (dec v4)) v22 v4 fun v25 =>
call 85 [v21, v5, v25] h23 c24 fun v26 h27 c28 =>
q_killVW v1 h27 fun h29 =>
K v26 h29 c28) (q_andW (call 89 [v20, v5] h11 c12 fun v30 h31 c32 =>
q_loadAW 5 h31 v1 fun v33 =>
q_addW 3 9223372036854775807 (binC Try.prog .add 3 (.tmp 22) (.tmp 23) (dec v30) (dec v4)) v30 v4 fun v34 =>
call 85 [v33, v5, v34] h31 c32 fun v35 h36 c37 =>
q_killVW v1 h36 fun h38 =>
K v35 h38 c37) (true)))) fu a1 ⟨3, 0, r0, []⟩ h2 c3
theorem R78_eq (Q : PrimW) (fu : Nat) (call : CallW) : curryA 2 (fnK Q Try.prog tys stl fu call e78) = R78 Q.addW Q.subW Q.cmpW Q.condW Q.killVW Q.loadAW Q.boxW Q.andW fu call := by kernel_rfl
noncomputable def n78 : List W → HW → Nat → KW → Bool := appF 2 (R78 addW subW cmpW condW killVW loadAW boxW andW 1000000 d2.fn)
theorem n78_ok : FnGood Try.prog tys stl tab 78 n78 := node_ok d2_ok (by kernel_rfl) rfl g78 (R78_eq real _ _)
/- foghorn/points.crossLabel -/
noncomputable def R79 (q_addW : Nat → Nat → Option CV → W → W → (W → Bool) → Bool) (q_subW : Nat → Nat → Option CV → W → W → (W → Bool) → Bool) (q_cmpW : (Nat → Nat → Bool) → Nat → Option CV → W → W → (W → Bool) → Bool) (q_condW : W → Bool → Bool → Bool) (q_killVW : W → HW → (HW → Bool) → Bool) (q_loadAW : Nat → HW → W → (W → Bool) → Bool) (q_boxW : HW → Nat → W → KW → Bool) (fu : Nat) (call : CallW) (a0 : W) (a1 : W) (a2 : W) (h0 : HW) (c0 : Nat) (K : KW) : Bool :=
q_boxW h0 c0 a0 fun v1 h2 c3 =>
q_loadAW 5 h2 v1 fun v4 =>
call 89 [v4, a1] h2 c3 fun v5 h6 c7 =>
q_subW 3 9223372036854775807 (binC Try.prog .sub 3 (.tmp 9) (.tmp 12) (dec a2) (dec v5)) a2 v5 fun v8 =>
@Nat.rec (fun _ => Fun 2) (fun _ _ _ _ => false) (fun _ f13 v9 v10 h11 c12 =>
q_cmpW (cmpF2 .lss) 3 (binC Try.prog .lss 3 (.tmp 15) (.tmp 14) (dec v10) (dec a1)) v10 a1 fun v14 =>
q_condW v14 (
q_loadAW 5 h11 v1 fun v15 =>
call 88 [v15, v10] h11 c12 fun v16 h17 c18 =>
q_addW 3 9223372036854775807 (binC Try.prog .add 3 (.tmp 18) (.tmp 21) (dec v9) (dec v16)) v9 v16 fun v19 =>
q_addW 3 9223372036854775807 (binC Try.prog .add 3 (.tmp 15) (.const (.int .i64 (.ofNat 1))) (dec v10) (dec ⟨3, 1, r0, []⟩)) v10 ⟨3, 1, r0, []⟩ fun v20 =>
f13 v19 v20 h17 c18) (
q_killVW v1 h11 fun h21 =>
K v9 h21 c12)) fu v8 ⟨3, 0, r0, []⟩ h6 c7
theorem R79_eq (Q : PrimW) (fu : Nat) (call : CallW) : curryA 3 (fnK Q Try.prog tys stl fu call e79) = R79 Q.addW Q.subW Q.cmpW Q.condW Q.killVW Q.loadAW Q.boxW fu call := by kernel_rfl
noncomputable def n79 : List W → HW → Nat → KW → Bool := appF 3 (R79 addW subW cmpW condW killVW loadAW boxW 1000000 d2.fn)
theorem n79_ok : FnGood Try.prog tys stl tab 79 n79 := node_ok d2_ok (by kernel_rfl) rfl g79 (R79_eq real _ _)
/- math.trunc -/
noncomputable def R81 (q_share : (α : Type) → α → (α → Bool) → Bool) (q_genW : Option CV → (W → Bool) → Bool) (q_subW : Nat → Nat → Option CV → W → W → (W → Bool) → Bool) (q_bitW : (Nat → Nat → Nat) → Nat → Nat → Option CV → W → W → (W → Bool) → Bool) (q_cmpW : (Nat → Nat → Bool) → Nat → Option CV → W → W → (W → Bool) → Bool) (q_shlW : Nat → Nat → Nat → Option CV → W → W → (W → Bool) → Bool) (q_shrW : Nat → Nat → Option CV → W → W → (W → Bool) → Bool) (q_condW : W → Bool → Bool → Bool) (fu : Nat) (call : CallW) (a0 : W) (h0 : HW) (c0 : Nat) (K : KW) : Bool :=
call 46 [a0] h0 c0 fun v1 h2 c3 =>
q_genW (binC Try.prog .lss 46 (.tmp 6) (.const (.float .f64 4607182418800017408)) (dec v1) (dec ⟨12, 0, ⟨0, 0, 0, .flt .f64 4607182418800017408⟩, []⟩)) fun v4 =>
q_condW v4 (
call 90 [⟨12, 0, ⟨0, 0, 0, .flt .f64 0⟩, []⟩, a0] h2 c3 fun v5 h6 c7 =>
K v5 h6 c7) (
call 61 [a0] h2 c3 fun v8 h9 c10 =>
q_shrW 7 64 (binC Try.prog .shr 122 (.tmp 12) (.const (.int .u64 (.ofNat 52))) (dec v8) (dec ⟨7, 52, r0, []⟩)) v8 ⟨7, 52, r0, []⟩ fun v11 =>
q_bitW Nat.land 7 18446744073709551615 (binC Try.prog .and 133 (.tmp 13) (.const (.int .u64 (.ofNat 2047))) (dec v11) (dec ⟨7, 2047, r0, []⟩)) v11 ⟨7, 2047, r0, []⟩ fun v12 =>
q_subW 7 18446744073709551615 (binC Try.prog .sub 133 (.tmp 14) (.const (.int .u64 (.ofNat 1023))) (dec v12) (dec ⟨7, 1023, r0, []⟩)) v12 ⟨7, 1023, r0, []⟩ fun v13 =>
q_share _ (fun (v14 : W) (h15 : HW) (c16 : Nat) =>
call 59 [v14] h15 c16 fun v18 h19 c20 =>
K v18 h19 c20) fun f17 =>
q_cmpW (cmpF2 .lss) 7 (binC Try.prog .lss 133 (.tmp 16) (.const (.int .u64 (.ofNat 52))) (dec v13) (dec ⟨7, 52, r0, []⟩)) v13 ⟨7, 52, r0, []⟩ fun v21 =>
q_condW v21 (
q_subW 7 18446744073709551615 (binC Try.prog .sub 133 (.const (.int .u64 (.ofNat 52))) (.tmp 19) (dec ⟨7, 52, r0, []⟩) (dec v13)) ⟨7, 52, r0, []⟩ v13 fun v22 =>
q_shlW 7 18446744073709551615 64 (binC Try.prog .shl 122 (.const (.int .u64 (.ofNat 1))) (.tmp 20) (dec ⟨7, 1, r0, []⟩) (dec v22)) ⟨7, 1, r0, []⟩ v22 fun v23 =>
q_subW 7 18446744073709551615 (binC Try.prog .sub 122 (.tmp 21) (.const (.int .u64 (.ofNat 1))) (dec v23) (dec ⟨7, 1, r0, []⟩)) v23 ⟨7, 1, r0, []⟩ fun v24 =>
q_genW (binC Try.prog .andNot 122 (.tmp 18) (.tmp 22) (dec v8) (dec v24)) fun v25 =>
f17 v25 h9 c10) (
f17 v8 h9 c10))
theorem R81_eq (Q : PrimW) (fu : Nat) (call : CallW) : curryA 1 (fnK Q Try.prog tys stl fu call e81) = R81 Q.share Q.genW Q.subW Q.bitW Q.cmpW Q.shlW Q.shrW Q.condW fu call := by kernel_rfl
noncomputable def n81 : List W → HW → Nat → KW → Bool := appF 1 (R81 (fun _ x f => f x) genW subW bitW cmpW shlW shrW condW 1000000 d2.fn)
theorem n81_ok : FnGood Try.prog tys stl tab 81 n81 := node_ok d2_ok (by kernel_rfl) rfl g81 (R81_eq real _ _)
/- foghorn/points.ungray -/
noncomputable def R86 (q_tupW : W → (List W → Bool) → Bool) (q_nthW : Nat → List W → (W → Bool) → Bool) (fu : Nat) (call : CallW) (a0 : W) (h0 : HW) (c0 : Nat) (K : KW) : Bool :=
call 92 [a0] h0 c0 fun v1 h2 c3 =>
q_tupW v1 fun l4 => q_nthW 0 l4 fun v5 =>
q_tupW v1 fun l6 => q_nthW 1 l6 fun v7 =>
K v5 h2 c3
theorem R86_eq (Q : PrimW) (fu : Nat) (call : CallW) : curryA 1 (fnK Q Try.prog tys stl fu call e86) = R86 Q.tupW Q.nthW fu call := by kernel_rfl
noncomputable def n86 : List W → HW → Nat → KW → Bool := appF 1 (R86 tupW nthW 1000000 d2.fn)
theorem n86_ok : FnGood Try.prog tys stl tab 86 n86 := node_ok d2_ok (by kernel_rfl) rfl g86 (R86_eq real _ _)
/- foghorn/points.gray -/
noncomputable def R87 (q_tupW : W → (List W → Bool) → Bool) (q_nthW : Nat → List W → (W → Bool) → Bool) (fu : Nat) (call : CallW) (a0 : W) (h0 : HW) (c0 : Nat) (K : KW) : Bool :=
call 93 [a0] h0 c0 fun v1 h2 c3 =>
q_tupW v1 fun l4 => q_nthW 0 l4 fun v5 =>
q_tupW v1 fun l6 => q_nthW 1 l6 fun v7 =>
K v5 h2 c3
theorem R87_eq (Q : PrimW) (fu : Nat) (call : CallW) : curryA 1 (fnK Q Try.prog tys stl fu call e87) = R87 Q.tupW Q.nthW fu call := by kernel_rfl
noncomputable def n87 : List W → HW → Nat → KW → Bool := appF 1 (R87 tupW nthW 1000000 d2.fn)
theorem n87_ok : FnGood Try.prog tys stl tab 87 n87 := node_ok d2_ok (by kernel_rfl) rfl g87 (R87_eq real _ _)
noncomputable def d3 : Disp := (.node 64 n64 (.node 43 n43 (.node 29 n29 (.node 25 n25 (.node 12 n12 (.node 10 n10 .leaf .leaf) .leaf) (.node 28 n28 .leaf .leaf)) (.node 37 n37 (.node 34 n34 .leaf .leaf) (.node 42 n42 .leaf .leaf))) (.node 50 n50 (.node 46 n46 (.node 45 n45 .leaf .leaf) (.node 49 n49 .leaf .leaf)) (.node 59 n59 (.node 52 n52 .leaf .leaf) (.node 61 n61 .leaf .leaf)))) (.node 86 n86 (.node 79 n79 (.node 66 n66 (.node 65 n65 .leaf .leaf) (.node 78 n78 .leaf .leaf)) (.node 81 n81 (.node 80 n80 .leaf .leaf) (.node 85 n85 .leaf .leaf))) (.node 90 n90 (.node 88 n88 (.node 87 n87 .leaf .leaf) (.node 89 n89 .leaf .leaf)) (.node 93 n93 (.node 92 n92 .leaf .leaf) (.node 95 n95 .leaf .leaf)))))
theorem d3_ok : CallSim Try.prog tys stl tab d3.fn := Disp.sim ⟨n64_ok, ⟨n43_ok, ⟨n29_ok, ⟨n25_ok, ⟨n12_ok, ⟨n10_ok, True.intro, True.intro⟩, True.intro⟩, ⟨n28_ok, True.intro, True.intro⟩⟩, ⟨n37_ok, ⟨n34_ok, True.intro, True.intro⟩, ⟨n42_ok, True.intro, True.intro⟩⟩⟩, ⟨n50_ok, ⟨n46_ok, ⟨n45_ok, True.intro, True.intro⟩, ⟨n49_ok, True.intro, True.intro⟩⟩, ⟨n59_ok, ⟨n52_ok, True.intro, True.intro⟩, ⟨n61_ok, True.intro, True.intro⟩⟩⟩⟩, ⟨n86_ok, ⟨n79_ok, ⟨n66_ok, ⟨n65_ok, True.intro, True.intro⟩, ⟨n78_ok, True.intro, True.intro⟩⟩, ⟨n81_ok, ⟨n80_ok, True.intro, True.intro⟩, ⟨n85_ok, True.intro, True.intro⟩⟩⟩, ⟨n90_ok, ⟨n88_ok, ⟨n87_ok, True.intro, True.intro⟩, ⟨n89_ok, True.intro, True.intro⟩⟩, ⟨n93_ok, ⟨n92_ok, True.intro, True.intro⟩, ⟨n95_ok, True.intro, True.intro⟩⟩⟩⟩⟩
/- math.Trunc -/
noncomputable def R67 (q_condW : W → Bool → Bool → Bool) (fu : Nat) (call : CallW) (a0 : W) (h0 : HW) (c0 : Nat) (K : KW) : Bool :=
q_condW ⟨8, 1, r0, []⟩ (
call 80 [a0] h0 c0 fun v1 h2 c3 =>
K v1 h2 c3) (
call 81 [a0] h0 c0 fun v4 h5 c6 =>
K v4 h5 c6)
theorem R67_eq (Q : PrimW) (fu : Nat) (call : CallW) : curryA 1 (fnK Q Try.prog tys stl fu call e67) = R67 Q.condW fu call := by kernel_rfl
noncomputable def n67 : List W → HW → Nat → KW → Bool := appF 1 (R67 condW 1000000 d3.fn)
theorem n67_ok : FnGood Try.prog tys stl tab 67 n67 := node_ok d3_ok (by kernel_rfl) rfl g67 (R67_eq real _ _)
/- foghorn/points.squareAt -/
noncomputable def R76 (q_subW : Nat → Nat → Option CV → W → W → (W → Bool) → Bool) (q_quoW : Nat → Nat → Option CV → W → W → (W → Bool) → Bool) (q_bitW : (Nat → Nat → Nat) → Nat → Nat → Option CV → W → W → (W → Bool) → Bool) (q_shlW : Nat → Nat → Nat → Option CV → W → W → (W → Bool) → Bool) (q_shrW : Nat → Nat → Option CV → W → W → (W → Bool) → Bool) (q_fadW : Nat → W → (W → Bool) → Bool) (q_knownW : W → Bool → Bool) (q_killVW : W → HW → (HW → Bool) → Bool) (q_loadSW : HW → W → (W → Bool) → Bool) (q_loadAW : Nat → HW → W → (W → Bool) → Bool) (q_boxW : HW → Nat → W → KW → Bool) (fu : Nat) (call : CallW) (a0 : W) (a1 : W) (h0 : HW) (c0 : Nat) (K : KW) : Bool :=
q_boxW h0 c0 a0 fun v1 h2 c3 =>
q_fadW 0 v1 fun v4 =>
q_loadSW h2 v4 fun v5 =>
q_quoW 3 9223372036854775807 (binC Try.prog .quo 3 (.tmp 7) (.const (.int .i64 (.ofNat 2))) (dec v5) (dec ⟨3, 2, r0, []⟩)) v5 ⟨3, 2, r0, []⟩ fun v6 =>
q_loadAW 5 h2 v1 fun v7 =>
q_shrW 3 64 (binC Try.prog .shr 3 (.tmp 10) (.tmp 11) (dec a1) (dec v6)) a1 v6 fun v8 =>
call 86 [v8] h2 c3 fun v9 _ _ => q_knownW v9 (
q_shlW 3 9223372036854775807 64 (binC Try.prog .shl 3 (.const (.int .i64 (.ofNat 1))) (.tmp 15) (dec ⟨3, 1, r0, []⟩) (dec v6)) ⟨3, 1, r0, []⟩ v6 fun v10 =>
q_subW 3 9223372036854775807 (binC Try.prog .sub 3 (.tmp 16) (.const (.int .i64 (.ofNat 1))) (dec v10) (dec ⟨3, 1, r0, []⟩)) v10 ⟨3, 1, r0, []⟩ fun v11 =>
q_bitW Nat.land 3 9223372036854775807 (binC Try.prog .and 3 (.tmp 14) (.tmp 17) (dec a1) (dec v11)) a1 v11 fun v12 =>
call 86 [v12] h2 c3 fun v13 _ _ => q_knownW v13 (
call 85 [v7, v9, v13] h2 c3 fun v14 h15 c16 =>
q_killVW v1 h15 fun h17 =>
K v14 h17 c16))
theorem R76_eq (Q : PrimW) (fu : Nat) (call : CallW) : curryA 2 (fnK Q Try.prog tys stl fu call e76) = R76 Q.subW Q.quoW Q.bitW Q.shlW Q.shrW Q.fadW Q.knownW Q.killVW Q.loadSW Q.loadAW Q.boxW fu call := by kernel_rfl
noncomputable def n76 : List W → HW → Nat → KW → Bool := appF 2 (R76 subW quoW bitW shlW shrW fadW knownW killVW loadSW loadAW boxW 1000000 d3.fn)
theorem n76_ok : FnGood Try.prog tys stl tab 76 n76 := node_ok d3_ok (by kernel_rfl) rfl g76 (R76_eq real _ _)
/- foghorn/points.squareLabel -/
noncomputable def R77 (q_quoW : Nat → Nat → Option CV → W → W → (W → Bool) → Bool) (q_bitW : (Nat → Nat → Nat) → Nat → Nat → Option CV → W → W → (W → Bool) → Bool) (q_shlW : Nat → Nat → Nat → Option CV → W → W → (W → Bool) → Bool) (q_fadW : Nat → W → (W → Bool) → Bool) (q_knownW : W → Bool → Bool) (q_killVW : W → HW → (HW → Bool) → Bool) (q_loadSW : HW → W → (W → Bool) → Bool) (q_boxW : HW → Nat → W → KW → Bool) (fu : Nat) (call : CallW) (a0 : W) (a1 : W) (a2 : W) (h0 : HW) (c0 : Nat) (K : KW) : Bool :=
q_boxW h0 c0 a0 fun v1 h2 c3 =>
call 87 [a1] h2 c3 fun v4 _ _ => q_knownW v4 (
q_fadW 0 v1 fun v5 =>
q_loadSW h2 v5 fun v6 =>
q_quoW 3 9223372036854775807 (binC Try.prog .quo 3 (.tmp 10) (.const (.int .i64 (.ofNat 2))) (dec v6) (dec ⟨3, 2, r0, []⟩)) v6 ⟨3, 2, r0, []⟩ fun v7 =>
q_shlW 3 9223372036854775807 64 (binC Try.prog .shl 3 (.tmp 8) (.tmp 11) (dec v4) (dec v7)) v4 v7 fun v8 =>
call 87 [a2] h2 c3 fun v9 _ _ => q_knownW v9 (
q_bitW Nat.lor 3 9223372036854775807 (binC Try.prog .or 3 (.tmp 12) (.tmp 14) (dec v8) (dec v9)) v8 v9 fun v10 =>
q_killVW v1 h2 fun h11 =>
K v10 h11 c3))
theorem R77_eq (Q : PrimW) (fu : Nat) (call : CallW) : curryA 3 (fnK Q Try.prog tys stl fu call e77) = R77 Q.quoW Q.bitW Q.shlW Q.fadW Q.knownW Q.killVW Q.loadSW Q.boxW fu call := by kernel_rfl
noncomputable def n77 : List W → HW → Nat → KW → Bool := appF 3 (R77 quoW bitW shlW fadW knownW killVW loadSW boxW 1000000 d3.fn)
theorem n77_ok : FnGood Try.prog tys stl tab 77 n77 := node_ok d3_ok (by kernel_rfl) rfl g77 (R77_eq real _ _)
noncomputable def d4 : Disp := (.node 65 n65 (.node 43 n43 (.node 29 n29 (.node 25 n25 (.node 12 n12 (.node 10 n10 .leaf .leaf) .leaf) (.node 28 n28 .leaf .leaf)) (.node 37 n37 (.node 34 n34 .leaf .leaf) (.node 42 n42 .leaf .leaf))) (.node 52 n52 (.node 49 n49 (.node 46 n46 (.node 45 n45 .leaf .leaf) .leaf) (.node 50 n50 .leaf .leaf)) (.node 61 n61 (.node 59 n59 .leaf .leaf) (.node 64 n64 .leaf .leaf)))) (.node 85 n85 (.node 78 n78 (.node 76 n76 (.node 67 n67 (.node 66 n66 .leaf .leaf) .leaf) (.node 77 n77 .leaf .leaf)) (.node 80 n80 (.node 79 n79 .leaf .leaf) (.node 81 n81 .leaf .leaf))) (.node 90 n90 (.node 88 n88 (.node 87 n87 (.node 86 n86 .leaf .leaf) .leaf) (.node 89 n89 .leaf .leaf)) (.node 93 n93 (.node 92 n92 .leaf .leaf) (.node 95 n95 .leaf .leaf)))))
theorem d4_ok : CallSim Try.prog tys stl tab d4.fn := Disp.sim ⟨n65_ok, ⟨n43_ok, ⟨n29_ok, ⟨n25_ok, ⟨n12_ok, ⟨n10_ok, True.intro, True.intro⟩, True.intro⟩, ⟨n28_ok, True.intro, True.intro⟩⟩, ⟨n37_ok, ⟨n34_ok, True.intro, True.intro⟩, ⟨n42_ok, True.intro, True.intro⟩⟩⟩, ⟨n52_ok, ⟨n49_ok, ⟨n46_ok, ⟨n45_ok, True.intro, True.intro⟩, True.intro⟩, ⟨n50_ok, True.intro, True.intro⟩⟩, ⟨n61_ok, ⟨n59_ok, True.intro, True.intro⟩, ⟨n64_ok, True.intro, True.intro⟩⟩⟩⟩, ⟨n85_ok, ⟨n78_ok, ⟨n76_ok, ⟨n67_ok, ⟨n66_ok, True.intro, True.intro⟩, True.intro⟩, ⟨n77_ok, True.intro, True.intro⟩⟩, ⟨n80_ok, ⟨n79_ok, True.intro, True.intro⟩, ⟨n81_ok, True.intro, True.intro⟩⟩⟩, ⟨n90_ok, ⟨n88_ok, ⟨n87_ok, ⟨n86_ok, True.intro, True.intro⟩, True.intro⟩, ⟨n89_ok, True.intro, True.intro⟩⟩, ⟨n93_ok, ⟨n92_ok, True.intro, True.intro⟩, ⟨n95_ok, True.intro, True.intro⟩⟩⟩⟩⟩
/- (*foghorn/meter.Meter).Count -/
noncomputable def R27 (q_genW : Option CV → (W → Bool) → Bool) (q_cmpW : (Nat → Nat → Bool) → Nat → Option CV → W → W → (W → Bool) → Bool) (q_condW : W → Bool → Bool → Bool) (q_nilcW : W → (W → Bool) → Bool) (q_fadW : Nat → W → (W → Bool) → Bool) (q_lenW : Option CV → W → (W → Bool) → Bool) (q_tupW : W → (List W → Bool) → Bool) (q_nthW : Nat → List W → (W → Bool) → Bool) (q_onF : W → (FuncId → List W → Bool) → Bool) (fu : Nat) (call : CallW) (a0 : W) (a1 : W) (a2 : W) (h0 : HW) (c0 : Nat) (K : KW) : Bool :=
q_genW (binC Try.prog .eql 61 (.tmp 11) (.const (.pointer none)) (dec a0) (dec ⟨12, 0, ⟨0, 0, 0, .nilp⟩, []⟩)) fun v1 =>
q_condW v1 (
K ⟨3, 2, r0, []⟩ h0 c0) (
call 10 [a1, a2] h0 c0 fun v2 h3 c4 =>
q_tupW v2 fun l5 => q_nthW 0 l5 fun v6 =>
q_tupW v2 fun l7 => q_nthW 1 l7 fun v8 =>
q_tupW v2 fun l9 => q_nthW 2 l9 fun v10 =>
q_cmpW (cmpF2 .neq) 3 (binC Try.prog .neq 24 (.tmp 20) (.const (.int .i64 (.ofNat 0))) (dec v10) (dec ⟨3, 0, r0, []⟩)) v10 ⟨3, 0, r0, []⟩ fun v11 =>
q_condW v11 (
K v10 h3 c4) (
call 49 [⟨3, 9223372036854775807, r0, []⟩] h3 c4 fun v12 h13 c14 =>
q_nilcW a0 fun v15 =>
q_fadW 0 v15 fun v16 =>
q_fadW 0 v16 fun v17 =>
q_onF v12 fun g18 l19 => call g18 (appL [v17, ⟨3, 1, r0, []⟩] l19) h13 c14 fun v20 h21 c22 =>
q_nilcW a0 fun v23 =>
q_fadW 0 v23 fun v24 =>
q_fadW 2 v24 fun v25 =>
q_lenW (lenC tys 22 (dec a1)) a1 fun v26 =>
q_onF v12 fun g27 l28 => call g27 (appL [v25, v26] l28) h21 c22 fun v29 h30 c31 =>
q_nilcW a0 fun v32 =>
q_fadW 0 v32 fun v33 =>
q_fadW 3 v33 fun v34 =>
q_onF v12 fun g35 l36 => call g35 (appL [v34, v6] l36) h30 c31 fun v37 h38 c39 =>
q_nilcW a0 fun v40 =>
q_fadW 0 v40 fun v41 =>
q_fadW 1 v41 fun v42 =>
q_genW (two2 Try.prog (dec v6) (dec ⟨3, 1, r0, []⟩) fun v u => Builtin.min_ #[3, 3] 3 #[v, u]) fun v43 =>
q_onF v12 fun g44 l45 => call g44 (appL [v42, v43] l45) h38 c39 fun v46 h47 c48 =>
K ⟨3, 0, r0, []⟩ h47 c48))
theorem R27_eq (Q : PrimW) (fu : Nat) (call : CallW) : curryA 3 (fnK Q Try.prog tys stl fu call e27) = R27 Q.genW Q.cmpW Q.condW Q.nilcW Q.fadW Q.lenW Q.tupW Q.nthW Q.onF fu call := by kernel_rfl
noncomputable def n27 : List W → HW → Nat → KW → Bool := appF 3 (R27 genW cmpW condW nilcW fadW lenW tupW nthW onF 1000000 d4.fn)
theorem n27_ok : FnGood Try.prog tys stl tab 27 n27 := node_ok d4_ok (by kernel_rfl) rfl g27 (R27_eq real _ _)
/- foghorn/points.All -/
noncomputable def R32 (q_addW : Nat → Nat → Option CV → W → W → (W → Bool) → Bool) (q_cmpW : (Nat → Nat → Bool) → Nat → Option CV → W → W → (W → Bool) → Bool) (q_notW : Option CV → W → (W → Bool) → Bool) (q_condW : W → Bool → Bool → Bool) (q_fadW : Nat → W → (W → Bool) → Bool) (q_idxSW : Nat → W → W → (W → Bool) → Bool) (q_lenW : Option CV → W → (W → Bool) → Bool) (q_tupW : W → (List W → Bool) → Bool) (q_nthW : Nat → List W → (W → Bool) → Bool) (q_onF : W → (FuncId → List W → Bool) → Bool) (q_killVW : W → HW → (HW → Bool) → Bool) (q_loadSW : HW → W → (W → Bool) → Bool) (q_loadAW : Nat → HW → W → (W → Bool) → Bool) (q_storeSW : HW → W → W → (HW → Bool) → Bool) (q_storeAW : Nat → HW → W → W → (HW → Bool) → Bool) (q_makeSW : Nat → Nat → Nat → Kind → List W → Bool → HW → Nat → W → W → KW → Bool) (q_allocW : Trie W → Nat → Bool → HW → Nat → KW → Bool) (fu : Nat) (call : CallW) (a0 : W) (h0 : HW) (c0 : Nat) (K : KW) : Bool :=
call 50 [a0] h0 c0 fun v1 h2 c3 =>
q_tupW v1 fun l4 => q_nthW 0 l4 fun v5 =>
q_tupW v1 fun l6 => q_nthW 1 l6 fun v7 =>
q_allocW (allocT tys 110) 5 true h2 c3 fun v8 h9 c10 =>
q_storeAW 5 h9 v8 v5 fun h11 =>
q_notW (two Try.prog (dec v7) (Op.unary .not)) v7 fun v12 =>
q_condW v12 (
q_killVW v8 h11 fun h13 =>
K ⟨13, 0, r0, [⟨12, 0, ⟨0, 0, 0, .nils⟩, []⟩, ⟨3, 1, r0, []⟩]⟩ h13 c10) (
q_makeSW 16 1 99 (.cpxs .f64) [⟨12, 0, ⟨0, 0, 0, .cpx .f64 0 0⟩, []⟩] true h11 c10 a0 a0 fun v14 h15 c16 =>
q_lenW (lenC tys 44 (dec v14)) v14 fun v17 =>
@Nat.rec (fun _ => Fun 1) (fun _ _ _ => false) (fun _ f21 v18 h19 c20 =>
q_cmpW (cmpF2 .lss) 3 (binC Try.prog .lss 3 (.tmp 19) (.tmp 18) (dec v18) (dec v17)) v18 v17 fun v22 =>
q_condW v22 (
q_fadW 3 v8 fun v23 =>
q_loadSW h19 v23 fun v24 =>
q_loadAW 5 h19 v8 fun v25 =>
q_onF v24 fun g26 l27 => call g26 (appL [v25, v18] l27) h19 c20 fun v28 h29 c30 =>
q_idxSW 1 v14 v18 fun v31 =>
q_storeSW h29 v31 v28 fun h32 =>
q_addW 3 9223372036854775807 (binC Try.prog .add 3 (.tmp 19) (.const (.int .i64 (.ofNat 1))) (dec v18) (dec ⟨3, 1, r0, []⟩)) v18 ⟨3, 1, r0, []⟩ fun v33 =>
f21 v33 h32 c30) (
q_killVW v8 h19 fun h34 =>
K ⟨13, 0, r0, [v14, ⟨3, 0, r0, []⟩]⟩ h34 c20)) fu ⟨3, 0, r0, []⟩ h15 c16)
theorem R32_eq (Q : PrimW) (fu : Nat) (call : CallW) : curryA 1 (fnK Q Try.prog tys stl fu call e32) = R32 Q.addW Q.cmpW Q.notW Q.condW Q.fadW Q.idxSW Q.lenW Q.tupW Q.nthW Q.onF Q.killVW Q.loadSW Q.loadAW Q.storeSW Q.storeAW Q.makeSW Q.allocW fu call := by kernel_rfl
noncomputable def n32 : List W → HW → Nat → KW → Bool := appF 1 (R32 addW cmpW notW condW fadW idxSW lenW tupW nthW onF killVW loadSW loadAW storeSW storeAW makeSW allocW 1000000 d4.fn)
theorem n32_ok : FnGood Try.prog tys stl tab 32 n32 := node_ok d4_ok (by kernel_rfl) rfl g32 (R32_eq real _ _)
/- foghorn/grid.On -/
noncomputable def R51 (q_share : (α : Type) → α → (α → Bool) → Bool) (q_genW : Option CV → (W → Bool) → Bool) (q_guardW : Bool → W → Bool → Bool → Bool) (q_pickW : W → W → W → (W → Bool) → Bool) (fu : Nat) (call : CallW) (a0 : W) (h0 : HW) (c0 : Nat) (K : KW) : Bool :=
call 46 [a0] h0 c0 fun v1 h2 c3 =>
q_genW (binC Try.prog .leq 46 (.tmp 4) (.const (.float .f64 4652218415073722368)) (dec v1) (dec ⟨12, 0, ⟨0, 0, 0, .flt .f64 4652218415073722368⟩, []⟩)) fun v4 =>
q_share _ (fun (v6 : W) (h7 : HW) (c8 : Nat) =>
q_share _ (fun (v10 : W) (h11 : HW) (c12 : Nat) =>
q_share _ (fun (v14 : W) (h15 : HW) (c16 : Nat) =>
q_share _ (fun (v18 : W) (h19 : HW) (c20 : Nat) =>
q_share _ (fun (v22 : W) (h23 : HW) (c24 : Nat) =>
q_share _ (fun (v26 : W) (h27 : HW) (c28 : Nat) =>
q_pickW v4 v26 ⟨8, 0, r0, []⟩ fun v29 =>
K v29 h27 c28) fun f25 =>
q_guardW true v4 (q_genW (binC Try.prog .eql 46 (.tmp 8) (.tmp 11) (dec v10) (dec v22)) fun v30 =>
f25 v30 h23 c24) (f25 wUnd h23 c24)) fun f21 =>
q_guardW true v4 (call 67 [v18] h19 c20 fun v31 h32 c33 =>
f21 v31 h32 c33) (f21 wUnd h19 c20)) fun f17 =>
q_guardW true v4 (q_genW (binC Try.prog .mul 46 (.tmp 9) (.const (.float .f64 4661225614328463360)) (dec v14) (dec ⟨12, 0, ⟨0, 0, 0, .flt .f64 4661225614328463360⟩, []⟩)) fun v34 =>
f17 v34 h15 c16) (f17 wUnd h15 c16)) fun f13 =>
q_guardW true v4 (f13 a0 h11 c12) (f13 wUnd h11 c12)) fun f9 =>
q_guardW true v4 (q_genW (binC Try.prog .mul 46 (.tmp 7) (.const (.float .f64 4661225614328463360)) (dec v6) (dec ⟨12, 0, ⟨0, 0, 0, .flt .f64 4661225614328463360⟩, []⟩)) fun v35 =>
f9 v35 h7 c8) (f9 wUnd h7 c8)) fun f5 =>
q_guardW true v4 (f5 a0 h2 c3) (f5 wUnd h2 c3)
theorem R51_eq (Q : PrimW) (fu : Nat) (call : CallW) : curryA 1 (fnK Q Try.prog tys stl fu call e51) = R51 Q.share Q.genW Q.guardW Q.pickW fu call := by kernel_rfl
noncomputable def n51 : List W → HW → Nat → KW → Bool := appF 1 (R51 (fun _ x f => f x) genW guardW pickW 1000000 d4.fn)
theorem n51_ok : FnGood Try.prog tys stl tab 51 n51 := node_ok d4_ok (by kernel_rfl) rfl g51 (R51_eq real _ _)
noncomputable def d5 : Disp := (.node 64 n64 (.node 42 n42 (.node 28 n28 (.node 25 n25 (.node 12 n12 (.node 10 n10 .leaf .leaf) .leaf) (.node 27 n27 .leaf .leaf)) (.node 34 n34 (.node 32 n32 (.node 29 n29 .leaf .leaf) .leaf) (.node 37 n37 .leaf .leaf))) (.node 50 n50 (.node 46 n46 (.node 45 n45 (.node 43 n43 .leaf .leaf) .leaf) (.node 49 n49 .leaf .leaf)) (.node 59 n59 (.node 52 n52 (.node 51 n51 .leaf .leaf) .leaf) (.node 61 n61 .leaf .leaf)))) (.node 85 n85 (.node 77 n77 (.node 67 n67 (.node 66 n66 (.node 65 n65 .leaf .leaf) .leaf) (.node 76 n76 .leaf .leaf)) (.node 80 n80 (.node 79 n79 (.node 78 n78 .leaf .leaf) .leaf) (.node 81 n81 .leaf .leaf))) (.node 90 n90 (.node 88 n88 (.node 87 n87 (.node 86 n86 .leaf .leaf) .leaf) (.node 89 n89 .leaf .leaf)) (.node 93 n93 (.node 92 n92 .leaf .leaf) (.node 95 n95 .leaf .leaf)))))
theorem d5_ok : CallSim Try.prog tys stl tab d5.fn := Disp.sim ⟨n64_ok, ⟨n42_ok, ⟨n28_ok, ⟨n25_ok, ⟨n12_ok, ⟨n10_ok, True.intro, True.intro⟩, True.intro⟩, ⟨n27_ok, True.intro, True.intro⟩⟩, ⟨n34_ok, ⟨n32_ok, ⟨n29_ok, True.intro, True.intro⟩, True.intro⟩, ⟨n37_ok, True.intro, True.intro⟩⟩⟩, ⟨n50_ok, ⟨n46_ok, ⟨n45_ok, ⟨n43_ok, True.intro, True.intro⟩, True.intro⟩, ⟨n49_ok, True.intro, True.intro⟩⟩, ⟨n59_ok, ⟨n52_ok, ⟨n51_ok, True.intro, True.intro⟩, True.intro⟩, ⟨n61_ok, True.intro, True.intro⟩⟩⟩⟩, ⟨n85_ok, ⟨n77_ok, ⟨n67_ok, ⟨n66_ok, ⟨n65_ok, True.intro, True.intro⟩, True.intro⟩, ⟨n76_ok, True.intro, True.intro⟩⟩, ⟨n80_ok, ⟨n79_ok, ⟨n78_ok, True.intro, True.intro⟩, True.intro⟩, ⟨n81_ok, True.intro, True.intro⟩⟩⟩, ⟨n90_ok, ⟨n88_ok, ⟨n87_ok, ⟨n86_ok, True.intro, True.intro⟩, True.intro⟩, ⟨n89_ok, True.intro, True.intro⟩⟩, ⟨n93_ok, ⟨n92_ok, True.intro, True.intro⟩, ⟨n95_ok, True.intro, True.intro⟩⟩⟩⟩⟩
/- foghorn/meter.isOn -/
noncomputable def R36 (q_share : (α : Type) → α → (α → Bool) → Bool) (q_genW : Option CV → (W → Bool) → Bool) (q_guardW : Bool → W → Bool → Bool → Bool) (q_pickW : W → W → W → (W → Bool) → Bool) (fu : Nat) (call : CallW) (a0 : W) (h0 : HW) (c0 : Nat) (K : KW) : Bool :=
q_genW (two Try.prog (dec a0) fun v => Builtin.real_ #[45] 46 #[v]) fun v1 =>
call 51 [v1] h0 c0 fun v2 h3 c4 =>
q_share _ (fun (v6 : W) (h7 : HW) (c8 : Nat) =>
q_share _ (fun (v10 : W) (h11 : HW) (c12 : Nat) =>
q_share _ (fun (v14 : W) (h15 : HW) (c16 : Nat) =>
q_pickW v2 v14 ⟨8, 0, r0, []⟩ fun v17 =>
K v17 h15 c16) fun f13 =>
q_guardW true v2 (call 51 [v10] h11 c12 fun v18 h19 c20 =>
f13 v18 h19 c20) (f13 wUnd h11 c12)) fun f9 =>
q_guardW true v2 (q_genW (two Try.prog (dec v6) fun v => Builtin.imag_ #[45] 46 #[v]) fun v21 =>
f9 v21 h7 c8) (f9 wUnd h7 c8)) fun f5 =>
q_guardW true v2 (f5 a0 h3 c4) (f5 wUnd h3 c4)
theorem R36_eq (Q : PrimW) (fu : Nat) (call : CallW) : curryA 1 (fnK Q Try.prog tys stl fu call e36) = R36 Q.share Q.genW Q.guardW Q.pickW fu call := by kernel_rfl
noncomputable def n36 : List W → HW → Nat → KW → Bool := appF 1 (R36 (fun _ x f => f x) genW guardW pickW 1000000 d5.fn)
theorem n36_ok : FnGood Try.prog tys stl tab 36 n36 := node_ok d5_ok (by kernel_rfl) rfl g36 (R36_eq real _ _)
/- foghorn/grid.mayBe -/
noncomputable def R58 (q_share : (α : Type) → α → (α → Bool) → Bool) (q_genW : Option CV → (W → Bool) → Bool) (q_condW : W → Bool → Bool → Bool) (q_guardW : Bool → W → Bool → Bool → Bool) (q_pickW : W → W → W → (W → Bool) → Bool) (q_fadW : Nat → W → (W → Bool) → Bool) (q_killVW : W → HW → (HW → Bool) → Bool) (q_loadSW : HW → W → (W → Bool) → Bool) (q_boxW : HW → Nat → W → KW → Bool) (fu : Nat) (call : CallW) (a0 : W) (h0 : HW) (c0 : Nat) (K : KW) : Bool :=
q_boxW h0 c0 a0 fun v1 h2 c3 =>
q_fadW 1 v1 fun v4 =>
q_loadSW h2 v4 fun v5 =>
q_condW v5 (
q_fadW 0 v1 fun v6 =>
q_loadSW h2 v6 fun v7 =>
q_genW (two Try.prog (dec v7) fun v => Builtin.real_ #[45] 46 #[v]) fun v8 =>
q_genW (binC Try.prog .eql 46 (.tmp 7) (.const (.float .f64 0)) (dec v8) (dec ⟨12, 0, ⟨0, 0, 0, .flt .f64 0⟩, []⟩)) fun v9 =>
q_share _ (fun (v11 : W) (h12 : HW) (c13 : Nat) =>
q_share _ (fun (v15 : W) (h16 : HW) (c17 : Nat) =>
q_share _ (fun (v19 : W) (h20 : HW) (c21 : Nat) =>
q_share _ (fun (v23 : W) (h24 : HW) (c25 : Nat) =>
q_pickW v9 v23 ⟨8, 0, r0, []⟩ fun v26 =>
q_killVW v1 h24 fun h27 =>
K v26 h27 c25) fun f22 =>
q_guardW true v9 (q_genW (binC Try.prog .eql 46 (.tmp 12) (.const (.float .f64 0)) (dec v19) (dec ⟨12, 0, ⟨0, 0, 0, .flt .f64 0⟩, []⟩)) fun v28 =>
f22 v28 h20 c21) (f22 wUnd h20 c21)) fun f18 =>
q_guardW true v9 (q_genW (two Try.prog (dec v15) fun v => Builtin.imag_ #[45] 46 #[v]) fun v29 =>
f18 v29 h16 c17) (f18 wUnd h16 c17)) fun f14 =>
q_guardW true v9 (q_loadSW h12 v11 fun v30 =>
f14 v30 h12 c13) (f14 wUnd h12 c13)) fun f10 =>
q_guardW true v9 (q_fadW 0 v1 fun v31 =>
f10 v31 h2 c3) (f10 wUnd h2 c3)) (
q_fadW 0 v1 fun v32 =>
q_loadSW h2 v32 fun v33 =>
q_genW (two Try.prog (dec v33) fun v => Builtin.real_ #[45] 46 #[v]) fun v34 =>
call 51 [v34] h2 c3 fun v35 h36 c37 =>
q_share _ (fun (v39 : W) (h40 : HW) (c41 : Nat) =>
q_share _ (fun (v43 : W) (h44 : HW) (c45 : Nat) =>
q_share _ (fun (v47 : W) (h48 : HW) (c49 : Nat) =>
q_share _ (fun (v51 : W) (h52 : HW) (c53 : Nat) =>
q_pickW v35 v51 ⟨8, 0, r0, []⟩ fun v54 =>
q_killVW v1 h52 fun h55 =>
K v54 h55 c53) fun f50 =>
q_guardW true v35 (call 51 [v47] h48 c49 fun v56 h57 c58 =>
f50 v56 h57 c58) (f50 wUnd h48 c49)) fun f46 =>
q_guardW true v35 (q_genW (two Try.prog (dec v43) fun v => Builtin.imag_ #[45] 46 #[v]) fun v59 =>
f46 v59 h44 c45) (f46 wUnd h44 c45)) fun f42 =>
q_guardW true v35 (q_loadSW h40 v39 fun v60 =>
f42 v60 h40 c41) (f42 wUnd h40 c41)) fun f38 =>
q_guardW true v35 (q_fadW 0 v1 fun v61 =>
f38 v61 h36 c37) (f38 wUnd h36 c37))
theorem R58_eq (Q : PrimW) (fu : Nat) (call : CallW) : curryA 1 (fnK Q Try.prog tys stl fu call e58) = R58 Q.share Q.genW Q.condW Q.guardW Q.pickW Q.fadW Q.killVW Q.loadSW Q.boxW fu call := by kernel_rfl
noncomputable def n58 : List W → HW → Nat → KW → Bool := appF 1 (R58 (fun _ x f => f x) genW condW guardW pickW fadW killVW loadSW boxW 1000000 d5.fn)
theorem n58_ok : FnGood Try.prog tys stl tab 58 n58 := node_ok d5_ok (by kernel_rfl) rfl g58 (R58_eq real _ _)
noncomputable def d6 : Disp := (.node 61 n61 (.node 42 n42 (.node 29 n29 (.node 25 n25 (.node 12 n12 (.node 10 n10 .leaf .leaf) .leaf) (.node 28 n28 (.node 27 n27 .leaf .leaf) .leaf)) (.node 36 n36 (.node 34 n34 (.node 32 n32 .leaf .leaf) .leaf) (.node 37 n37 .leaf .leaf))) (.node 50 n50 (.node 46 n46 (.node 45 n45 (.node 43 n43 .leaf .leaf) .leaf) (.node 49 n49 .leaf .leaf)) (.node 58 n58 (.node 52 n52 (.node 51 n51 .leaf .leaf) .leaf) (.node 59 n59 .leaf .leaf)))) (.node 81 n81 (.node 76 n76 (.node 66 n66 (.node 65 n65 (.node 64 n64 .leaf .leaf) .leaf) (.node 67 n67 .leaf .leaf)) (.node 79 n79 (.node 78 n78 (.node 77 n77 .leaf .leaf) .leaf) (.node 80 n80 .leaf .leaf))) (.node 89 n89 (.node 87 n87 (.node 86 n86 (.node 85 n85 .leaf .leaf) .leaf) (.node 88 n88 .leaf .leaf)) (.node 93 n93 (.node 92 n92 (.node 90 n90 .leaf .leaf) .leaf) (.node 95 n95 .leaf .leaf)))))
theorem d6_ok : CallSim Try.prog tys stl tab d6.fn := Disp.sim ⟨n61_ok, ⟨n42_ok, ⟨n29_ok, ⟨n25_ok, ⟨n12_ok, ⟨n10_ok, True.intro, True.intro⟩, True.intro⟩, ⟨n28_ok, ⟨n27_ok, True.intro, True.intro⟩, True.intro⟩⟩, ⟨n36_ok, ⟨n34_ok, ⟨n32_ok, True.intro, True.intro⟩, True.intro⟩, ⟨n37_ok, True.intro, True.intro⟩⟩⟩, ⟨n50_ok, ⟨n46_ok, ⟨n45_ok, ⟨n43_ok, True.intro, True.intro⟩, True.intro⟩, ⟨n49_ok, True.intro, True.intro⟩⟩, ⟨n58_ok, ⟨n52_ok, ⟨n51_ok, True.intro, True.intro⟩, True.intro⟩, ⟨n59_ok, True.intro, True.intro⟩⟩⟩⟩, ⟨n81_ok, ⟨n76_ok, ⟨n66_ok, ⟨n65_ok, ⟨n64_ok, True.intro, True.intro⟩, True.intro⟩, ⟨n67_ok, True.intro, True.intro⟩⟩, ⟨n79_ok, ⟨n78_ok, ⟨n77_ok, True.intro, True.intro⟩, True.intro⟩, ⟨n80_ok, True.intro, True.intro⟩⟩⟩, ⟨n89_ok, ⟨n87_ok, ⟨n86_ok, ⟨n85_ok, True.intro, True.intro⟩, True.intro⟩, ⟨n88_ok, True.intro, True.intro⟩⟩, ⟨n93_ok, ⟨n92_ok, ⟨n90_ok, True.intro, True.intro⟩, True.intro⟩, ⟨n95_ok, True.intro, True.intro⟩⟩⟩⟩⟩
/- foghorn/meter.Nearest -/
noncomputable def R17 (q_cmpW : (Nat → Nat → Bool) → Nat → Option CV → W → W → (W → Bool) → Bool) (q_notW : Option CV → W → (W → Bool) → Bool) (q_condW : W → Bool → Bool → Bool) (q_tupW : W → (List W → Bool) → Bool) (q_nthW : Nat → List W → (W → Bool) → Bool) (fu : Nat) (call : CallW) (a0 : W) (a1 : W) (h0 : HW) (c0 : Nat) (K : KW) : Bool :=
call 32 [a0] h0 c0 fun v1 h2 c3 =>
q_tupW v1 fun l4 => q_nthW 0 l4 fun v5 =>
q_tupW v1 fun l6 => q_nthW 1 l6 fun v7 =>
q_cmpW (cmpF2 .neq) 3 (binC Try.prog .neq 24 (.tmp 14) (.const (.int .i64 (.ofNat 0))) (dec v7) (dec ⟨3, 0, r0, []⟩)) v7 ⟨3, 0, r0, []⟩ fun v8 =>
q_condW v8 (
K ⟨13, 0, r0, [⟨3, 0, r0, []⟩, ⟨12, 0, ⟨0, 0, 0, .flt .f64 0⟩, []⟩, ⟨12, 0, ⟨0, 0, 0, .flt .f64 0⟩, []⟩, v7]⟩ h2 c3) (
call 36 [a1] h2 c3 fun v9 h10 c11 =>
q_notW (two Try.prog (dec v9) (Op.unary .not)) v9 fun v12 =>
q_condW v12 (
K ⟨13, 0, r0, [⟨3, 0, r0, []⟩, ⟨12, 0, ⟨0, 0, 0, .flt .f64 0⟩, []⟩, ⟨12, 0, ⟨0, 0, 0, .flt .f64 0⟩, []⟩, ⟨3, 7, r0, []⟩]⟩ h10 c11) (
call 37 [v5, a1] h10 c11 fun v13 h14 c15 =>
q_tupW v13 fun l16 => q_nthW 0 l16 fun v17 =>
q_tupW v13 fun l18 => q_nthW 1 l18 fun v19 =>
q_tupW v13 fun l20 => q_nthW 2 l20 fun v21 =>
K ⟨13, 0, r0, [v17, v19, v21, ⟨3, 0, r0, []⟩]⟩ h14 c15))
theorem R17_eq (Q : PrimW) (fu : Nat) (call : CallW) : curryA 2 (fnK Q Try.prog tys stl fu call e17) = R17 Q.cmpW Q.notW Q.condW Q.tupW Q.nthW fu call := by kernel_rfl
noncomputable def n17 : List W → HW → Nat → KW → Bool := appF 2 (R17 cmpW notW condW tupW nthW 1000000 d6.fn)
theorem n17_ok : FnGood Try.prog tys stl tab 17 n17 := node_ok d6_ok (by kernel_rfl) rfl g17 (R17_eq real _ _)
/- foghorn/grid.Check -/
noncomputable def R41 (q_addW : Nat → Nat → Option CV → W → W → (W → Bool) → Bool) (q_cmpW : (Nat → Nat → Bool) → Nat → Option CV → W → W → (W → Bool) → Bool) (q_notW : Option CV → W → (W → Bool) → Bool) (q_condW : W → Bool → Bool → Bool) (q_idxSW : Nat → W → W → (W → Bool) → Bool) (q_lenW : Option CV → W → (W → Bool) → Bool) (q_loadAW : Nat → HW → W → (W → Bool) → Bool) (q_storeAW : Nat → HW → W → W → (HW → Bool) → Bool) (q_allocW : Trie W → Nat → Bool → HW → Nat → KW → Bool) (fu : Nat) (call : CallW) (a0 : W) (h0 : HW) (c0 : Nat) (K : KW) : Bool :=
q_lenW (lenC tys 43 (dec a0)) a0 fun v1 =>
q_cmpW (cmpF2 .gtr) 3 (binC Try.prog .gtr 3 (.tmp 7) (.const (.int .i64 (.ofNat 65536))) (dec v1) (dec ⟨3, 65536, r0, []⟩)) v1 ⟨3, 65536, r0, []⟩ fun v2 =>
q_condW v2 (
K ⟨13, 0, r0, [⟨3, 0, r0, []⟩, ⟨3, 1, r0, []⟩]⟩ h0 c0) (
q_lenW (lenC tys 43 (dec a0)) a0 fun v3 =>
@Nat.rec (fun _ => Fun 1) (fun _ _ _ => false) (fun _ f7 v4 h5 c6 =>
q_cmpW (cmpF2 .lss) 3 (binC Try.prog .lss 3 (.tmp 11) (.tmp 10) (dec v4) (dec v3)) v4 v3 fun v8 =>
q_condW v8 (
q_idxSW 2 a0 v4 fun v9 =>
q_loadAW 2 h5 v9 fun v10 =>
q_allocW (allocT tys 50) 2 true h5 c6 fun v11 h12 c13 =>
q_storeAW 2 h12 v11 v10 fun h14 =>
q_loadAW 2 h14 v11 fun v15 =>
call 58 [v15] h14 c13 fun v16 h17 c18 =>
q_notW (two Try.prog (dec v16) (Op.unary .not)) v16 fun v19 =>
q_condW v19 (
K ⟨13, 0, r0, [v4, ⟨3, 7, r0, []⟩]⟩ h17 c18) (
q_addW 3 9223372036854775807 (binC Try.prog .add 3 (.tmp 11) (.const (.int .i64 (.ofNat 1))) (dec v4) (dec ⟨3, 1, r0, []⟩)) v4 ⟨3, 1, r0, []⟩ fun v20 =>
f7 v20 h17 c18)) (
K ⟨13, 0, r0, [⟨3, 0, r0, []⟩, ⟨3, 0, r0, []⟩]⟩ h5 c6)) fu ⟨3, 0, r0, []⟩ h0 c0)
theorem R41_eq (Q : PrimW) (fu : Nat) (call : CallW) : curryA 1 (fnK Q Try.prog tys stl fu call e41) = R41 Q.addW Q.cmpW Q.notW Q.condW Q.idxSW Q.lenW Q.loadAW Q.storeAW Q.allocW fu call := by kernel_rfl
noncomputable def n41 : List W → HW → Nat → KW → Bool := appF 1 (R41 addW cmpW notW condW idxSW lenW loadAW storeAW allocW 1000000 d6.fn)
theorem n41_ok : FnGood Try.prog tys stl tab 41 n41 := node_ok d6_ok (by kernel_rfl) rfl g41 (R41_eq real _ _)
noncomputable def d7 : Disp := (.node 59 n59 (.node 37 n37 (.node 28 n28 (.node 17 n17 (.node 12 n12 (.node 10 n10 .leaf .leaf) .leaf) (.node 27 n27 (.node 25 n25 .leaf .leaf) .leaf)) (.node 34 n34 (.node 32 n32 (.node 29 n29 .leaf .leaf) .leaf) (.node 36 n36 .leaf .leaf))) (.node 49 n49 (.node 43 n43 (.node 42 n42 (.node 41 n41 .leaf .leaf) .leaf) (.node 46 n46 (.node 45 n45 .leaf .leaf) .leaf)) (.node 52 n52 (.node 51 n51 (.node 50 n50 .leaf .leaf) .leaf) (.node 58 n58 .leaf .leaf)))) (.node 81 n81 (.node 76 n76 (.node 65 n65 (.node 64 n64 (.node 61 n61 .leaf .leaf) .leaf) (.node 67 n67 (.node 66 n66 .leaf .leaf) .leaf)) (.node 79 n79 (.node 78 n78 (.node 77 n77 .leaf .leaf) .leaf) (.node 80 n80 .leaf .leaf))) (.node 89 n89 (.node 87 n87 (.node 86 n86 (.node 85 n85 .leaf .leaf) .leaf) (.node 88 n88 .leaf .leaf)) (.node 93 n93 (.node 92 n92 (.node 90 n90 .leaf .leaf) .leaf) (.node 95 n95 .leaf .leaf)))))
theorem d7_ok : CallSim Try.prog tys stl tab d7.fn := Disp.sim ⟨n59_ok, ⟨n37_ok, ⟨n28_ok, ⟨n17_ok, ⟨n12_ok, ⟨n10_ok, True.intro, True.intro⟩, True.intro⟩, ⟨n27_ok, ⟨n25_ok, True.intro, True.intro⟩, True.intro⟩⟩, ⟨n34_ok, ⟨n32_ok, ⟨n29_ok, True.intro, True.intro⟩, True.intro⟩, ⟨n36_ok, True.intro, True.intro⟩⟩⟩, ⟨n49_ok, ⟨n43_ok, ⟨n42_ok, ⟨n41_ok, True.intro, True.intro⟩, True.intro⟩, ⟨n46_ok, ⟨n45_ok, True.intro, True.intro⟩, True.intro⟩⟩, ⟨n52_ok, ⟨n51_ok, ⟨n50_ok, True.intro, True.intro⟩, True.intro⟩, ⟨n58_ok, True.intro, True.intro⟩⟩⟩⟩, ⟨n81_ok, ⟨n76_ok, ⟨n65_ok, ⟨n64_ok, ⟨n61_ok, True.intro, True.intro⟩, True.intro⟩, ⟨n67_ok, ⟨n66_ok, True.intro, True.intro⟩, True.intro⟩⟩, ⟨n79_ok, ⟨n78_ok, ⟨n77_ok, True.intro, True.intro⟩, True.intro⟩, ⟨n80_ok, True.intro, True.intro⟩⟩⟩, ⟨n89_ok, ⟨n87_ok, ⟨n86_ok, ⟨n85_ok, True.intro, True.intro⟩, True.intro⟩, ⟨n88_ok, True.intro, True.intro⟩⟩, ⟨n93_ok, ⟨n92_ok, ⟨n90_ok, True.intro, True.intro⟩, True.intro⟩, ⟨n95_ok, True.intro, True.intro⟩⟩⟩⟩⟩
/- foghorn/foghornlaw30.awake -/
noncomputable def R16 (q_share : (α : Type) → α → (α → Bool) → Bool) (q_genW : Option CV → (W → Bool) → Bool) (q_cmpW : (Nat → Nat → Bool) → Nat → Option CV → W → W → (W → Bool) → Bool) (q_guardW : Bool → W → Bool → Bool → Bool) (q_pickW : W → W → W → (W → Bool) → Bool) (q_tupW : W → (List W → Bool) → Bool) (q_nthW : Nat → List W → (W → Bool) → Bool) (q_buildSW : Nat → Nat → Kind → Nat → Bool → HW → Nat → Nat → List W → KW → Bool) (fu : Nat) (call : CallW) (h0 : HW) (c0 : Nat) (K : KW) : Bool :=
q_buildSW 1 8 .bools 4 true h0 c0 4 [⟨8, 0, r0, []⟩, ⟨8, 1, r0, []⟩, ⟨8, 1, r0, []⟩, ⟨8, 0, r0, []⟩] fun v1 h2 c3 =>
q_buildSW 1 8 .bools 4 true h2 c3 4 [⟨8, 0, r0, []⟩, ⟨8, 0, r0, []⟩, ⟨8, 1, r0, []⟩, ⟨8, 1, r0, []⟩] fun v4 h5 c6 =>
call 10 [v1, v4] h5 c6 fun v7 h8 c9 =>
q_tupW v7 fun l10 => q_nthW 0 l10 fun v11 =>
q_tupW v7 fun l12 => q_nthW 1 l12 fun v13 =>
q_tupW v7 fun l14 => q_nthW 2 l14 fun v15 =>
call 17 [⟨3, 4, r0, []⟩, ⟨12, 0, ⟨0, 0, 0, .cpx .f64 4607182418800017408 4607182418800017408⟩, []⟩] h8 c9 fun v16 h17 c18 =>
q_tupW v16 fun l19 => q_nthW 0 l19 fun v20 =>
q_tupW v16 fun l21 => q_nthW 1 l21 fun v22 =>
q_tupW v16 fun l23 => q_nthW 2 l23 fun v24 =>
q_tupW v16 fun l25 => q_nthW 3 l25 fun v26 =>
q_cmpW (cmpF2 .eql) 3 (binC Try.prog .eql 3 (.tmp 21) (.const (.int .i64 (.ofNat 2))) (dec v11) (dec ⟨3, 2, r0, []⟩)) v11 ⟨3, 2, r0, []⟩ fun v27 =>
q_share _ (fun (v29 : W) (h30 : HW) (c31 : Nat) =>
q_share _ (fun (v33 : W) (h34 : HW) (c35 : Nat) =>
q_pickW v27 v33 ⟨8, 0, r0, []⟩ fun v36 =>
q_share _ (fun (v38 : W) (h39 : HW) (c40 : Nat) =>
q_share _ (fun (v42 : W) (h43 : HW) (c44 : Nat) =>
q_pickW v36 v42 ⟨8, 0, r0, []⟩ fun v45 =>
q_share _ (fun (v47 : W) (h48 : HW) (c49 : Nat) =>
q_share _ (fun (v51 : W) (h52 : HW) (c53 : Nat) =>
q_pickW v45 v51 ⟨8, 0, r0, []⟩ fun v54 =>
q_share _ (fun (v56 : W) (h57 : HW) (c58 : Nat) =>
q_share _ (fun (v60 : W) (h61 : HW) (c62 : Nat) =>
q_pickW v54 v60 ⟨8, 0, r0, []⟩ fun v63 =>
q_share _ (fun (v65 : W) (h66 : HW) (c67 : Nat) =>
q_share _ (fun (v69 : W) (h70 : HW) (c71 : Nat) =>
q_pickW v63 v69 ⟨8, 0, r0, []⟩ fun v72 =>
q_share _ (fun (v74 : W) (h75 : HW) (c76 : Nat) =>
q_share _ (fun (v78 : W) (h79 : HW) (c80 : Nat) =>
q_pickW v72 v78 ⟨8, 0, r0, []⟩ fun v81 =>
K v81 h79 c80) fun f77 =>
q_guardW true v72 (q_cmpW (cmpF2 .eql) 3 (binC Try.prog .eql 24 (.tmp 44) (.const (.int .i64 (.ofNat 0))) (dec v74) (dec ⟨3, 0, r0, []⟩)) v74 ⟨3, 0, r0, []⟩ fun v82 =>
f77 v82 h75 c76) (f77 wUnd h75 c76)) fun f73 =>
q_guardW true v72 (f73 v26 h70 c71) (f73 wUnd h70 c71)) fun f68 =>
q_guardW true v63 (q_genW (binC Try.prog .eql 46 (.tmp 40) (.const (.float .f64 4616189618054758400)) (dec v65) (dec ⟨12, 0, ⟨0, 0, 0, .flt .f64 4616189618054758400⟩, []⟩)) fun v83 =>
f68 v83 h66 c67) (f68 wUnd h66 c67)) fun f64 =>
q_guardW true v63 (f64 v24 h61 c62) (f64 wUnd h61 c62)) fun f59 =>
q_guardW true v54 (q_genW (binC Try.prog .eql 46 (.tmp 36) (.const (.float .f64 0)) (dec v56) (dec ⟨12, 0, ⟨0, 0, 0, .flt .f64 0⟩, []⟩)) fun v84 =>
f59 v84 h57 c58) (f59 wUnd h57 c58)) fun f55 =>
q_guardW true v54 (f55 v22 h52 c53) (f55 wUnd h52 c53)) fun f50 =>
q_guardW true v45 (q_cmpW (cmpF2 .eql) 3 (binC Try.prog .eql 3 (.tmp 32) (.const (.int .i64 (.ofNat 3))) (dec v47) (dec ⟨3, 3, r0, []⟩)) v47 ⟨3, 3, r0, []⟩ fun v85 =>
f50 v85 h48 c49) (f50 wUnd h48 c49)) fun f46 =>
q_guardW true v45 (f46 v20 h43 c44) (f46 wUnd h43 c44)) fun f41 =>
q_guardW true v36 (q_cmpW (cmpF2 .eql) 3 (binC Try.prog .eql 24 (.tmp 28) (.const (.int .i64 (.ofNat 0))) (dec v38) (dec ⟨3, 0, r0, []⟩)) v38 ⟨3, 0, r0, []⟩ fun v86 =>
f41 v86 h39 c40) (f41 wUnd h39 c40)) fun f37 =>
q_guardW true v36 (f37 v15 h34 c35) (f37 wUnd h34 c35)) fun f32 =>
q_guardW true v27 (q_cmpW (cmpF2 .eql) 3 (binC Try.prog .eql 3 (.tmp 24) (.const (.int .i64 (.ofNat 1))) (dec v29) (dec ⟨3, 1, r0, []⟩)) v29 ⟨3, 1, r0, []⟩ fun v87 =>
f32 v87 h30 c31) (f32 wUnd h30 c31)) fun f28 =>
q_guardW true v27 (f28 v13 h17 c18) (f28 wUnd h17 c18)
theorem R16_eq (Q : PrimW) (fu : Nat) (call : CallW) : curryA 0 (fnK Q Try.prog tys stl fu call e16) = R16 Q.share Q.genW Q.cmpW Q.guardW Q.pickW Q.tupW Q.nthW Q.buildSW fu call := by kernel_rfl
noncomputable def n16 : List W → HW → Nat → KW → Bool := appF 0 (R16 (fun _ x f => f x) genW cmpW guardW pickW tupW nthW buildSW 1000000 d7.fn)
theorem n16_ok : FnGood Try.prog tys stl tab 16 n16 := node_ok d7_ok (by kernel_rfl) rfl g16 (R16_eq real _ _)
/- foghorn/meter.Open -/
noncomputable def R19 (q_share : (α : Type) → α → (α → Bool) → Bool) (q_genW : Option CV → (W → Bool) → Bool) (q_addW : Nat → Nat → Option CV → W → W → (W → Bool) → Bool) (q_cmpW : (Nat → Nat → Bool) → Nat → Option CV → W → W → (W → Bool) → Bool) (q_condW : W → Bool → Bool → Bool) (q_fadW : Nat → W → (W → Bool) → Bool) (q_idxSW : Nat → W → W → (W → Bool) → Bool) (q_lenW : Option CV → W → (W → Bool) → Bool) (q_tupW : W → (List W → Bool) → Bool) (q_nthW : Nat → List W → (W → Bool) → Bool) (q_loadSW : HW → W → (W → Bool) → Bool) (q_loadAW : Nat → HW → W → (W → Bool) → Bool) (q_storeAW : Nat → HW → W → W → (HW → Bool) → Bool) (q_allocW : Trie W → Nat → Bool → HW → Nat → KW → Bool) (fu : Nat) (call : CallW) (a0 : W) (a1 : W) (h0 : HW) (c0 : Nat) (K : KW) : Bool :=
call 32 [a0] h0 c0 fun v1 h2 c3 =>
q_tupW v1 fun l4 => q_nthW 0 l4 fun v5 =>
q_tupW v1 fun l6 => q_nthW 1 l6 fun v7 =>
q_cmpW (cmpF2 .neq) 3 (binC Try.prog .neq 24 (.tmp 20) (.const (.int .i64 (.ofNat 0))) (dec v7) (dec ⟨3, 0, r0, []⟩)) v7 ⟨3, 0, r0, []⟩ fun v8 =>
q_condW v8 (
K ⟨13, 0, r0, [⟨12, 0, ⟨0, 0, 0, .flt .f64 0⟩, []⟩, ⟨3, 0, r0, []⟩, v7]⟩ h2 c3) (
call 41 [a1] h2 c3 fun v9 h10 c11 =>
q_tupW v9 fun l12 => q_nthW 0 l12 fun v13 =>
q_tupW v9 fun l14 => q_nthW 1 l14 fun v15 =>
q_cmpW (cmpF2 .neq) 3 (binC Try.prog .neq 24 (.tmp 28) (.const (.int .i64 (.ofNat 0))) (dec v15) (dec ⟨3, 0, r0, []⟩)) v15 ⟨3, 0, r0, []⟩ fun v16 =>
q_condW v16 (
K ⟨13, 0, r0, [⟨12, 0, ⟨0, 0, 0, .flt .f64 0⟩, []⟩, ⟨3, 0, r0, []⟩, v15]⟩ h10 c11) (
call 42 [⟨3, 1, r0, []⟩] h10 c11 fun v17 h18 c19 =>
q_lenW (lenC tys 43 (dec a1)) a1 fun v20 =>
@Nat.rec (fun _ => Fun 3) (fun _ _ _ _ _ => false) (fun _ f26 v21 v22 v23 h24 c25 =>
q_cmpW (cmpF2 .lss) 3 (binC Try.prog .lss 3 (.tmp 34) (.tmp 33) (dec v23) (dec v20)) v23 v20 fun v27 =>
q_condW v27 (
q_share _ (fun (v28 : W) (v29 : W) (h30 : HW) (c31 : Nat) =>
q_addW 3 9223372036854775807 (binC Try.prog .add 3 (.tmp 34) (.const (.int .i64 (.ofNat 1))) (dec v23) (dec ⟨3, 1, r0, []⟩)) v23 ⟨3, 1, r0, []⟩ fun v33 =>
f26 v28 v29 v33 h30 c31) fun f32 =>
q_idxSW 2 a1 v23 fun v34 =>
q_loadAW 2 h24 v34 fun v35 =>
q_allocW (allocT tys 50) 2 true h24 c25 fun v36 h37 c38 =>
q_storeAW 2 h37 v36 v35 fun h39 =>
q_fadW 1 v36 fun v40 =>
q_loadSW h39 v40 fun v41 =>
q_condW v41 (
f32 v21 v22 h39 c38) (
q_fadW 0 v36 fun v42 =>
q_loadSW h39 v42 fun v43 =>
call 37 [v5, v43] h39 c38 fun v44 h45 c46 =>
q_tupW v44 fun l47 => q_nthW 0 l47 fun v48 =>
q_tupW v44 fun l49 => q_nthW 1 l49 fun v50 =>
q_tupW v44 fun l51 => q_nthW 2 l51 fun v52 =>
q_genW (binC Try.prog .sub 46 (.tmp 49) (.tmp 50) (dec v52) (dec v50)) fun v53 =>
q_genW (binC Try.prog .lss 46 (.tmp 51) (.tmp 52) (dec v53) (dec v21)) fun v54 =>
q_condW v54 (
q_genW (binC Try.prog .sub 46 (.tmp 54) (.tmp 55) (dec v52) (dec v50)) fun v55 =>
f32 v55 v23 h45 c46) (
f32 v21 v22 h45 c46))) (
call 43 [v21, ⟨3, 1, r0, []⟩] h24 c25 fun v56 h57 c58 =>
q_condW v56 (
K ⟨13, 0, r0, [⟨12, 0, ⟨0, 0, 0, .flt .f64 0⟩, []⟩, ⟨3, 0, r0, []⟩, ⟨3, 6, r0, []⟩]⟩ h57 c58) (
K ⟨13, 0, r0, [v21, v22, ⟨3, 0, r0, []⟩]⟩ h57 c58))) fu v17 ⟨3, 0, r0, []⟩ ⟨3, 0, r0, []⟩ h18 c19))
theorem R19_eq (Q : PrimW) (fu : Nat) (call : CallW) : curryA 2 (fnK Q Try.prog tys stl fu call e19) = R19 Q.share Q.genW Q.addW Q.cmpW Q.condW Q.fadW Q.idxSW Q.lenW Q.tupW Q.nthW Q.loadSW Q.loadAW Q.storeAW Q.allocW fu call := by kernel_rfl
noncomputable def n19 : List W → HW → Nat → KW → Bool := appF 2 (R19 (fun _ x f => f x) genW addW cmpW condW fadW idxSW lenW tupW nthW loadSW loadAW storeAW allocW 1000000 d7.fn)
theorem n19_ok : FnGood Try.prog tys stl tab 19 n19 := node_ok d7_ok (by kernel_rfl) rfl g19 (R19_eq real _ _)
/- foghorn/meter.Off -/
noncomputable def R21 (q_share : (α : Type) → α → (α → Bool) → Bool) (q_genW : Option CV → (W → Bool) → Bool) (q_addW : Nat → Nat → Option CV → W → W → (W → Bool) → Bool) (q_cmpW : (Nat → Nat → Bool) → Nat → Option CV → W → W → (W → Bool) → Bool) (q_notW : Option CV → W → (W → Bool) → Bool) (q_condW : W → Bool → Bool → Bool) (q_guardW : Bool → W → Bool → Bool → Bool) (q_pickW : W → W → W → (W → Bool) → Bool) (q_fadW : Nat → W → (W → Bool) → Bool) (q_idxSW : Nat → W → W → (W → Bool) → Bool) (q_lenW : Option CV → W → (W → Bool) → Bool) (q_tupW : W → (List W → Bool) → Bool) (q_nthW : Nat → List W → (W → Bool) → Bool) (q_loadSW : HW → W → (W → Bool) → Bool) (q_loadAW : Nat → HW → W → (W → Bool) → Bool) (q_storeAW : Nat → HW → W → W → (HW → Bool) → Bool) (q_allocW : Trie W → Nat → Bool → HW → Nat → KW → Bool) (fu : Nat) (call : CallW) (a0 : W) (a1 : W) (h0 : HW) (c0 : Nat) (K : KW) : Bool :=
q_lenW (lenC tys 43 (dec a0)) a0 fun v1 =>
q_cmpW (cmpF2 .gtr) 3 (binC Try.prog .gtr 3 (.tmp 18) (.const (.int .i64 (.ofNat 64))) (dec v1) (dec ⟨3, 64, r0, []⟩)) v1 ⟨3, 64, r0, []⟩ fun v2 =>
q_share _ (fun (v4 : W) (h5 : HW) (c6 : Nat) =>
q_share _ (fun (v8 : W) (h9 : HW) (c10 : Nat) =>
q_share _ (fun (v12 : W) (h13 : HW) (c14 : Nat) =>
q_share _ (fun (v16 : W) (h17 : HW) (c18 : Nat) =>
q_share _ (fun (v20 : W) (h21 : HW) (c22 : Nat) =>
q_pickW v2 ⟨8, 1, r0, []⟩ v20 fun v23 =>
q_condW v23 (
K ⟨13, 0, r0, [⟨12, 0, ⟨0, 0, 0, .flt .f64 0⟩, []⟩, ⟨12, 0, ⟨0, 0, 0, .flt .f64 0⟩, []⟩, ⟨3, 0, r0, []⟩, ⟨3, 1, r0, []⟩]⟩ h21 c22) (
call 41 [a0] h21 c22 fun v24 h25 c26 =>
q_tupW v24 fun l27 => q_nthW 0 l27 fun v28 =>
q_tupW v24 fun l29 => q_nthW 1 l29 fun v30 =>
q_cmpW (cmpF2 .neq) 3 (binC Try.prog .neq 24 (.tmp 32) (.const (.int .i64 (.ofNat 0))) (dec v30) (dec ⟨3, 0, r0, []⟩)) v30 ⟨3, 0, r0, []⟩ fun v31 =>
q_condW v31 (
K ⟨13, 0, r0, [⟨12, 0, ⟨0, 0, 0, .flt .f64 0⟩, []⟩, ⟨12, 0, ⟨0, 0, 0, .flt .f64 0⟩, []⟩, ⟨3, 0, r0, []⟩, v30]⟩ h25 c26) (
q_lenW (lenC tys 44 (dec a1)) a1 fun v32 =>
@Nat.rec (fun _ => Fun 3) (fun _ _ _ _ _ => false) (fun _ f38 v33 v34 v35 h36 c37 =>
q_cmpW (cmpF2 .lss) 3 (binC Try.prog .lss 3 (.tmp 37) (.tmp 36) (dec v35) (dec v32)) v35 v32 fun v39 =>
q_condW v39 (
q_idxSW 1 a1 v35 fun v40 =>
q_loadSW h36 v40 fun v41 =>
call 36 [v41] h36 c37 fun v42 h43 c44 =>
q_notW (two Try.prog (dec v42) (Op.unary .not)) v42 fun v45 =>
q_condW v45 (
K ⟨13, 0, r0, [⟨12, 0, ⟨0, 0, 0, .flt .f64 0⟩, []⟩, ⟨12, 0, ⟨0, 0, 0, .flt .f64 0⟩, []⟩, ⟨3, 0, r0, []⟩, ⟨3, 7, r0, []⟩]⟩ h43 c44) (
q_addW 3 9223372036854775807 (binC Try.prog .add 3 (.tmp 37) (.const (.int .i64 (.ofNat 1))) (dec v35) (dec ⟨3, 1, r0, []⟩)) v35 ⟨3, 1, r0, []⟩ fun v46 =>
f38 v33 v34 v46 h43 c44)) (
q_lenW (lenC tys 43 (dec a0)) a0 fun v47 =>
@Nat.rec (fun _ => Fun 4) (fun _ _ _ _ _ _ => false) (fun _ f54 v48 v49 v50 v51 h52 c53 =>
q_cmpW (cmpF2 .lss) 3 (binC Try.prog .lss 3 (.tmp 47) (.tmp 46) (dec v51) (dec v47)) v51 v47 fun v55 =>
q_condW v55 (
q_share _ (fun (v56 : W) (v57 : W) (v58 : W) (h59 : HW) (c60 : Nat) =>
q_addW 3 9223372036854775807 (binC Try.prog .add 3 (.tmp 47) (.const (.int .i64 (.ofNat 1))) (dec v51) (dec ⟨3, 1, r0, []⟩)) v51 ⟨3, 1, r0, []⟩ fun v62 =>
f54 v56 v57 v58 v62 h59 c60) fun f61 =>
q_idxSW 2 a0 v51 fun v63 =>
q_loadAW 2 h52 v63 fun v64 =>
q_allocW (allocT tys 50) 2 true h52 c53 fun v65 h66 c67 =>
q_storeAW 2 h66 v65 v64 fun h68 =>
q_fadW 1 v65 fun v69 =>
q_loadSW h68 v69 fun v70 =>
q_condW v70 (
f61 v48 v49 v50 h68 c67) (
q_fadW 0 v65 fun v71 =>
q_loadSW h68 v71 fun v72 =>
q_genW (two Try.prog (dec v72) fun v => Builtin.real_ #[45] 46 #[v]) fun v73 =>
q_idxSW 1 a1 v51 fun v74 =>
q_loadSW h68 v74 fun v75 =>
q_genW (two Try.prog (dec v75) fun v => Builtin.real_ #[45] 46 #[v]) fun v76 =>
q_genW (binC Try.prog .sub 46 (.tmp 56) (.tmp 61) (dec v73) (dec v76)) fun v77 =>
q_fadW 0 v65 fun v78 =>
q_loadSW h68 v78 fun v79 =>
q_genW (two Try.prog (dec v79) fun v => Builtin.imag_ #[45] 46 #[v]) fun v80 =>
q_idxSW 1 a1 v51 fun v81 =>
q_loadSW h68 v81 fun v82 =>
q_genW (two Try.prog (dec v82) fun v => Builtin.imag_ #[45] 46 #[v]) fun v83 =>
q_genW (binC Try.prog .sub 46 (.tmp 65) (.tmp 70) (dec v80) (dec v83)) fun v84 =>
q_genW (two2 Try.prog (dec v77) (dec v84) fun v u => Builtin.complex_ #[46, 46] 45 #[v, u]) fun v85 =>
call 45 [v85] h68 c67 fun v86 h87 c88 =>
q_genW (binC Try.prog .add 46 (.tmp 72) (.tmp 76) (dec v48) (dec v86)) fun v89 =>
call 46 [v77] h87 c88 fun v90 h91 c92 =>
call 46 [v84] h91 c92 fun v93 h94 c95 =>
q_genW (two2 Try.prog (dec v90) (dec v93) fun v u => Builtin.max_ #[46, 46] 46 #[v, u]) fun v96 =>
q_genW (binC Try.prog .gtr 46 (.tmp 83) (.tmp 84) (dec v96) (dec v49)) fun v97 =>
q_condW v97 (
f61 v89 v96 v51 h94 c95) (
f61 v89 v49 v50 h94 c95))) (
q_genW (binC Try.prog .lss 46 (.tmp 89) (.const (.float .f64 0)) (dec v49) (dec ⟨12, 0, ⟨0, 0, 0, .flt .f64 0⟩, []⟩)) fun v98 =>
q_condW v98 (
K ⟨13, 0, r0, [⟨12, 0, ⟨0, 0, 0, .flt .f64 0⟩, []⟩, ⟨12, 0, ⟨0, 0, 0, .flt .f64 0⟩, []⟩, ⟨3, 0, r0, []⟩, ⟨3, 6, r0, []⟩]⟩ h52 c53) (
K ⟨13, 0, r0, [v48, v49, v50, ⟨3, 0, r0, []⟩]⟩ h52 c53))) fu v33 ⟨12, 0, ⟨0, 0, 0, .flt .f64 13830554455654793216⟩, []⟩ v34 ⟨3, 0, r0, []⟩ h36 c37)) fu ⟨12, 0, ⟨0, 0, 0, .flt .f64 0⟩, []⟩ ⟨3, 0, r0, []⟩ ⟨3, 0, r0, []⟩ h25 c26))) fun f19 =>
q_guardW false v2 (q_cmpW (cmpF2 .neq) 3 (binC Try.prog .neq 3 (.tmp 22) (.tmp 24) (dec v8) (dec v16)) v8 v16 fun v99 =>
f19 v99 h17 c18) (f19 wUnd h17 c18)) fun f15 =>
q_guardW false v2 (q_lenW (lenC tys 44 (dec v12)) v12 fun v100 =>
f15 v100 h13 c14) (f15 wUnd h13 c14)) fun f11 =>
q_guardW false v2 (f11 a1 h9 c10) (f11 wUnd h9 c10)) fun f7 =>
q_guardW false v2 (q_lenW (lenC tys 43 (dec v4)) v4 fun v101 =>
f7 v101 h5 c6) (f7 wUnd h5 c6)) fun f3 =>
q_guardW false v2 (f3 a0 h0 c0) (f3 wUnd h0 c0)
theorem R21_eq (Q : PrimW) (fu : Nat) (call : CallW) : curryA 2 (fnK Q Try.prog tys stl fu call e21) = R21 Q.share Q.genW Q.addW Q.cmpW Q.notW Q.condW Q.guardW Q.pickW Q.fadW Q.idxSW Q.lenW Q.tupW Q.nthW Q.loadSW Q.loadAW Q.storeAW Q.allocW fu call := by kernel_rfl
noncomputable def n21 : List W → HW → Nat → KW → Bool := appF 2 (R21 (fun _ x f => f x) genW addW cmpW notW condW guardW pickW fadW idxSW lenW tupW nthW loadSW loadAW storeAW allocW 1000000 d7.fn)
theorem n21_ok : FnGood Try.prog tys stl tab 21 n21 := node_ok d7_ok (by kernel_rfl) rfl g21 (R21_eq real _ _)
/- foghorn/meter.Power -/
noncomputable def R23 (q_share : (α : Type) → α → (α → Bool) → Bool) (q_genW : Option CV → (W → Bool) → Bool) (q_addW : Nat → Nat → Option CV → W → W → (W → Bool) → Bool) (q_cmpW : (Nat → Nat → Bool) → Nat → Option CV → W → W → (W → Bool) → Bool) (q_notW : Option CV → W → (W → Bool) → Bool) (q_condW : W → Bool → Bool → Bool) (q_fadW : Nat → W → (W → Bool) → Bool) (q_idxSW : Nat → W → W → (W → Bool) → Bool) (q_lenW : Option CV → W → (W → Bool) → Bool) (q_tupW : W → (List W → Bool) → Bool) (q_nthW : Nat → List W → (W → Bool) → Bool) (q_loadSW : HW → W → (W → Bool) → Bool) (q_loadAW : Nat → HW → W → (W → Bool) → Bool) (q_storeAW : Nat → HW → W → W → (HW → Bool) → Bool) (q_allocW : Trie W → Nat → Bool → HW → Nat → KW → Bool) (fu : Nat) (call : CallW) (a0 : W) (h0 : HW) (c0 : Nat) (K : KW) : Bool :=
q_lenW (lenC tys 43 (dec a0)) a0 fun v1 =>
q_cmpW (cmpF2 .gtr) 3 (binC Try.prog .gtr 3 (.tmp 10) (.const (.int .i64 (.ofNat 64))) (dec v1) (dec ⟨3, 64, r0, []⟩)) v1 ⟨3, 64, r0, []⟩ fun v2 =>
q_condW v2 (
K ⟨13, 0, r0, [⟨12, 0, ⟨0, 0, 0, .flt .f64 0⟩, []⟩, ⟨3, 0, r0, []⟩, ⟨3, 1, r0, []⟩]⟩ h0 c0) (
call 41 [a0] h0 c0 fun v3 h4 c5 =>
q_tupW v3 fun l6 => q_nthW 0 l6 fun v7 =>
q_tupW v3 fun l8 => q_nthW 1 l8 fun v9 =>
q_cmpW (cmpF2 .neq) 3 (binC Try.prog .neq 24 (.tmp 17) (.const (.int .i64 (.ofNat 0))) (dec v9) (dec ⟨3, 0, r0, []⟩)) v9 ⟨3, 0, r0, []⟩ fun v10 =>
q_condW v10 (
K ⟨13, 0, r0, [⟨12, 0, ⟨0, 0, 0, .flt .f64 0⟩, []⟩, ⟨3, 0, r0, []⟩, v9]⟩ h4 c5) (
q_lenW (lenC tys 43 (dec a0)) a0 fun v11 =>
@Nat.rec (fun _ => Fun 3) (fun _ _ _ _ _ => false) (fun _ f17 v12 v13 v14 h15 c16 =>
q_cmpW (cmpF2 .lss) 3 (binC Try.prog .lss 3 (.tmp 22) (.tmp 21) (dec v14) (dec v11)) v14 v11 fun v18 =>
q_condW v18 (
q_share _ (fun (v19 : W) (v20 : W) (h21 : HW) (c22 : Nat) =>
q_addW 3 9223372036854775807 (binC Try.prog .add 3 (.tmp 22) (.const (.int .i64 (.ofNat 1))) (dec v14) (dec ⟨3, 1, r0, []⟩)) v14 ⟨3, 1, r0, []⟩ fun v24 =>
f17 v19 v20 v24 h21 c22) fun f23 =>
q_idxSW 2 a0 v14 fun v25 =>
q_loadAW 2 h15 v25 fun v26 =>
q_allocW (allocT tys 50) 2 true h15 c16 fun v27 h28 c29 =>
q_storeAW 2 h28 v27 v26 fun h30 =>
q_fadW 1 v27 fun v31 =>
q_loadSW h30 v31 fun v32 =>
q_notW (two Try.prog (dec v32) (Op.unary .not)) v32 fun v33 =>
q_condW v33 (
q_fadW 0 v27 fun v34 =>
q_loadSW h30 v34 fun v35 =>
call 45 [v35] h30 c29 fun v36 h37 c38 =>
q_genW (binC Try.prog .add 46 (.tmp 29) (.tmp 32) (dec v12) (dec v36)) fun v39 =>
q_addW 3 9223372036854775807 (binC Try.prog .add 3 (.tmp 34) (.const (.int .i64 (.ofNat 1))) (dec v13) (dec ⟨3, 1, r0, []⟩)) v13 ⟨3, 1, r0, []⟩ fun v40 =>
f23 v39 v40 h37 c38) (
f23 v12 v13 h30 c29)) (
K ⟨13, 0, r0, [v12, v13, ⟨3, 0, r0, []⟩]⟩ h15 c16)) fu ⟨12, 0, ⟨0, 0, 0, .flt .f64 0⟩, []⟩ ⟨3, 0, r0, []⟩ ⟨3, 0, r0, []⟩ h4 c5))
theorem R23_eq (Q : PrimW) (fu : Nat) (call : CallW) : curryA 1 (fnK Q Try.prog tys stl fu call e23) = R23 Q.share Q.genW Q.addW Q.cmpW Q.notW Q.condW Q.fadW Q.idxSW Q.lenW Q.tupW Q.nthW Q.loadSW Q.loadAW Q.storeAW Q.allocW fu call := by kernel_rfl
noncomputable def n23 : List W → HW → Nat → KW → Bool := appF 1 (R23 (fun _ x f => f x) genW addW cmpW notW condW fadW idxSW lenW tupW nthW loadSW loadAW storeAW allocW 1000000 d7.fn)
theorem n23_ok : FnGood Try.prog tys stl tab 23 n23 := node_ok d7_ok (by kernel_rfl) rfl g23 (R23_eq real _ _)
noncomputable def d8 : Disp := (.node 52 n52 (.node 32 n32 (.node 21 n21 (.node 16 n16 (.node 12 n12 (.node 10 n10 .leaf .leaf) .leaf) (.node 19 n19 (.node 17 n17 .leaf .leaf) .leaf)) (.node 27 n27 (.node 25 n25 (.node 23 n23 .leaf .leaf) .leaf) (.node 29 n29 (.node 28 n28 .leaf .leaf) .leaf))) (.node 43 n43 (.node 37 n37 (.node 36 n36 (.node 34 n34 .leaf .leaf) .leaf) (.node 42 n42 (.node 41 n41 .leaf .leaf) .leaf)) (.node 49 n49 (.node 46 n46 (.node 45 n45 .leaf .leaf) .leaf) (.node 51 n51 (.node 50 n50 .leaf .leaf) .leaf)))) (.node 80 n80 (.node 66 n66 (.node 61 n61 (.node 59 n59 (.node 58 n58 .leaf .leaf) .leaf) (.node 65 n65 (.node 64 n64 .leaf .leaf) .leaf)) (.node 77 n77 (.node 76 n76 (.node 67 n67 .leaf .leaf) .leaf) (.node 79 n79 (.node 78 n78 .leaf .leaf) .leaf))) (.node 89 n89 (.node 86 n86 (.node 85 n85 (.node 81 n81 .leaf .leaf) .leaf) (.node 88 n88 (.node 87 n87 .leaf .leaf) .leaf)) (.node 93 n93 (.node 92 n92 (.node 90 n90 .leaf .leaf) .leaf) (.node 95 n95 .leaf .leaf)))))
theorem d8_ok : CallSim Try.prog tys stl tab d8.fn := Disp.sim ⟨n52_ok, ⟨n32_ok, ⟨n21_ok, ⟨n16_ok, ⟨n12_ok, ⟨n10_ok, True.intro, True.intro⟩, True.intro⟩, ⟨n19_ok, ⟨n17_ok, True.intro, True.intro⟩, True.intro⟩⟩, ⟨n27_ok, ⟨n25_ok, ⟨n23_ok, True.intro, True.intro⟩, True.intro⟩, ⟨n29_ok, ⟨n28_ok, True.intro, True.intro⟩, True.intro⟩⟩⟩, ⟨n43_ok, ⟨n37_ok, ⟨n36_ok, ⟨n34_ok, True.intro, True.intro⟩, True.intro⟩, ⟨n42_ok, ⟨n41_ok, True.intro, True.intro⟩, True.intro⟩⟩, ⟨n49_ok, ⟨n46_ok, ⟨n45_ok, True.intro, True.intro⟩, True.intro⟩, ⟨n51_ok, ⟨n50_ok, True.intro, True.intro⟩, True.intro⟩⟩⟩⟩, ⟨n80_ok, ⟨n66_ok, ⟨n61_ok, ⟨n59_ok, ⟨n58_ok, True.intro, True.intro⟩, True.intro⟩, ⟨n65_ok, ⟨n64_ok, True.intro, True.intro⟩, True.intro⟩⟩, ⟨n77_ok, ⟨n76_ok, ⟨n67_ok, True.intro, True.intro⟩, True.intro⟩, ⟨n79_ok, ⟨n78_ok, True.intro, True.intro⟩, True.intro⟩⟩⟩, ⟨n89_ok, ⟨n86_ok, ⟨n85_ok, ⟨n81_ok, True.intro, True.intro⟩, True.intro⟩, ⟨n88_ok, ⟨n87_ok, True.intro, True.intro⟩, True.intro⟩⟩, ⟨n93_ok, ⟨n92_ok, ⟨n90_ok, True.intro, True.intro⟩, True.intro⟩, ⟨n95_ok, True.intro, True.intro⟩⟩⟩⟩⟩
/- foghorn/foghornlaw30.MeterNone -/
noncomputable def R8 (q_share : (α : Type) → α → (α → Bool) → Bool) (q_genW : Option CV → (W → Bool) → Bool) (q_cmpW : (Nat → Nat → Bool) → Nat → Option CV → W → W → (W → Bool) → Bool) (q_guardW : Bool → W → Bool → Bool → Bool) (q_pickW : W → W → W → (W → Bool) → Bool) (q_lenW : Option CV → W → (W → Bool) → Bool) (q_tupW : W → (List W → Bool) → Bool) (q_nthW : Nat → List W → (W → Bool) → Bool) (q_killVW : W → HW → (HW → Bool) → Bool) (q_loadAW : Nat → HW → W → (W → Bool) → Bool) (q_storeAW : Nat → HW → W → W → (HW → Bool) → Bool) (q_makeSW : Nat → Nat → Nat → Kind → List W → Bool → HW → Nat → W → W → KW → Bool) (q_allocW : Trie W → Nat → Bool → HW → Nat → KW → Bool) (q_buildSW : Nat → Nat → Kind → Nat → Bool → HW → Nat → Nat → List W → KW → Bool) (q_flatW : W → Bool → Bool) (fu : Nat) (call : CallW) (h0 : HW) (c0 : Nat) (K : KW) : Bool :=
call 27 [⟨12, 0, ⟨0, 0, 0, .nilp⟩, []⟩, ⟨12, 0, ⟨0, 0, 0, .nils⟩, []⟩, ⟨12, 0, ⟨0, 0, 0, .nils⟩, []⟩] h0 c0 fun v1 h2 c3 =>
call 28 [⟨12, 0, ⟨0, 0, 0, .nilp⟩, []⟩] h2 c3 fun v4 h5 c6 =>
q_tupW v4 fun l7 => q_nthW 0 l7 fun v8 =>
q_tupW v4 fun l9 => q_nthW 1 l9 fun v10 =>
q_allocW (allocT tys 70) 4 true h5 c6 fun v11 h12 c13 =>
q_storeAW 4 h12 v11 v8 fun h14 =>
call 29 [⟨12, 0, ⟨0, 0, 0, .nilp⟩, []⟩, ⟨3, 1, r0, []⟩] h14 c13 fun v15 h16 c17 =>
q_tupW v15 fun l18 => q_nthW 0 l18 fun v19 =>
q_tupW v15 fun l20 => q_nthW 1 l20 fun v21 =>
call 25 [] h16 c17 fun v22 h23 c24 =>
call 28 [v22] h23 c24 fun v25 h26 c27 =>
q_tupW v25 fun l28 => q_nthW 0 l28 fun v29 =>
q_tupW v25 fun l30 => q_nthW 1 l30 fun v31 =>
q_allocW (allocT tys 70) 4 true h26 c27 fun v32 h33 c34 =>
q_storeAW 4 h33 v32 v29 fun h35 =>
call 29 [v22, ⟨3, 4611686018427387904, r0, []⟩] h35 c34 fun v36 h37 c38 =>
q_tupW v36 fun l39 => q_nthW 0 l39 fun v40 =>
q_tupW v36 fun l41 => q_nthW 1 l41 fun v42 =>
call 29 [v22, ⟨3, 0, r0, []⟩] h37 c38 fun v43 h44 c45 =>
q_tupW v43 fun l46 => q_nthW 0 l46 fun v47 =>
q_tupW v43 fun l48 => q_nthW 1 l48 fun v49 =>
q_makeSW 1 1 8 .bools [⟨8, 0, r0, []⟩] true h44 c45 ⟨3, 32768, r0, []⟩ ⟨3, 32768, r0, []⟩ fun v50 h51 c52 =>
q_makeSW 1 1 8 .bools [⟨8, 0, r0, []⟩] true h51 c52 ⟨3, 32768, r0, []⟩ ⟨3, 32768, r0, []⟩ fun v53 h54 c55 =>
call 27 [v22, v50, v53] h54 c55 fun v56 h57 c58 =>
q_makeSW 1 1 8 .bools [⟨8, 0, r0, []⟩] true h57 c58 ⟨3, 32769, r0, []⟩ ⟨3, 32769, r0, []⟩ fun v59 h60 c61 =>
q_makeSW 1 1 8 .bools [⟨8, 0, r0, []⟩] true h60 c61 ⟨3, 32769, r0, []⟩ ⟨3, 32769, r0, []⟩ fun v62 h63 c64 =>
call 27 [v22, v59, v62] h63 c64 fun v65 h66 c67 =>
q_makeSW 1 1 8 .bools [⟨8, 0, r0, []⟩] true h66 c67 ⟨3, 1, r0, []⟩ ⟨3, 1, r0, []⟩ fun v68 h69 c70 =>
call 27 [v22, ⟨12, 0, ⟨0, 0, 0, .nils⟩, []⟩, v68] h69 c70 fun v71 h72 c73 =>
call 10 [⟨12, 0, ⟨0, 0, 0, .nils⟩, []⟩, ⟨12, 0, ⟨0, 0, 0, .nils⟩, []⟩] h72 c73 fun v74 h75 c76 =>
q_tupW v74 fun l77 => q_nthW 0 l77 fun v78 =>
q_tupW v74 fun l79 => q_nthW 1 l79 fun v80 =>
q_tupW v74 fun l81 => q_nthW 2 l81 fun v82 =>
call 12 [⟨12, 0, ⟨0, 0, 0, .nils⟩, []⟩, ⟨12, 0, ⟨0, 0, 0, .nils⟩, []⟩, ⟨12, 0, ⟨0, 0, 0, .int .i64 (.negSucc 0)⟩, []⟩] h75 c76 fun v83 h84 c85 =>
q_tupW v83 fun l86 => q_nthW 0 l86 fun v87 =>
q_tupW v83 fun l88 => q_nthW 1 l88 fun v89 =>
call 12 [⟨12, 0, ⟨0, 0, 0, .nils⟩, []⟩, ⟨12, 0, ⟨0, 0, 0, .nils⟩, []⟩, ⟨3, 4611686018427387904, r0, []⟩] h84 c85 fun v90 h91 c92 =>
q_tupW v90 fun l93 => q_nthW 0 l93 fun v94 =>
q_tupW v90 fun l95 => q_nthW 1 l95 fun v96 =>
call 17 [⟨3, 8, r0, []⟩, ⟨12, 0, ⟨0, 0, 0, .cpx .f64 0 0⟩, []⟩] h91 c92 fun v97 h98 c99 =>
q_tupW v97 fun l100 => q_nthW 0 l100 fun v101 =>
q_tupW v97 fun l102 => q_nthW 1 l102 fun v103 =>
q_tupW v97 fun l104 => q_nthW 2 l104 fun v105 =>
q_tupW v97 fun l106 => q_nthW 3 l106 fun v107 =>
call 17 [⟨3, 4, r0, []⟩, ⟨12, 0, ⟨0, 0, 0, .cpx .f64 4547007122018943789 0⟩, []⟩] h98 c99 fun v108 h109 c110 =>
q_tupW v108 fun l111 => q_nthW 0 l111 fun v112 =>
q_tupW v108 fun l113 => q_nthW 1 l113 fun v114 =>
q_tupW v108 fun l115 => q_nthW 2 l115 fun v116 =>
q_tupW v108 fun l117 => q_nthW 3 l117 fun v118 =>
q_makeSW 24 2 9 .avs [⟨12, 0, ⟨0, 0, 0, .cpx .f64 0 0⟩, []⟩, ⟨8, 0, r0, []⟩] true h109 c110 ⟨3, 65, r0, []⟩ ⟨3, 65, r0, []⟩ fun v119 h120 c121 =>
q_makeSW 16 1 99 (.cpxs .f64) [⟨12, 0, ⟨0, 0, 0, .cpx .f64 0 0⟩, []⟩] true h120 c121 ⟨3, 65, r0, []⟩ ⟨3, 65, r0, []⟩ fun v122 h123 c124 =>
call 21 [v119, v122] h123 c124 fun v125 h126 c127 =>
q_tupW v125 fun l128 => q_nthW 0 l128 fun v129 =>
q_tupW v125 fun l130 => q_nthW 1 l130 fun v131 =>
q_tupW v125 fun l132 => q_nthW 2 l132 fun v133 =>
q_tupW v125 fun l134 => q_nthW 3 l134 fun v135 =>
q_makeSW 24 2 9 .avs [⟨12, 0, ⟨0, 0, 0, .cpx .f64 0 0⟩, []⟩, ⟨8, 0, r0, []⟩] true h126 c127 ⟨3, 2, r0, []⟩ ⟨3, 2, r0, []⟩ fun v136 h137 c138 =>
q_makeSW 16 1 99 (.cpxs .f64) [⟨12, 0, ⟨0, 0, 0, .cpx .f64 0 0⟩, []⟩] true h137 c138 ⟨3, 1, r0, []⟩ ⟨3, 1, r0, []⟩ fun v139 h140 c141 =>
call 21 [v136, v139] h140 c141 fun v142 h143 c144 =>
q_tupW v142 fun l145 => q_nthW 0 l145 fun v146 =>
q_tupW v142 fun l147 => q_nthW 1 l147 fun v148 =>
q_tupW v142 fun l149 => q_nthW 2 l149 fun v150 =>
q_tupW v142 fun l151 => q_nthW 3 l151 fun v152 =>
q_makeSW 24 2 9 .avs [⟨12, 0, ⟨0, 0, 0, .cpx .f64 0 0⟩, []⟩, ⟨8, 0, r0, []⟩] true h143 c144 ⟨3, 65, r0, []⟩ ⟨3, 65, r0, []⟩ fun v153 h154 c155 =>
call 23 [v153] h154 c155 fun v156 h157 c158 =>
q_tupW v156 fun l159 => q_nthW 0 l159 fun v160 =>
q_tupW v156 fun l161 => q_nthW 1 l161 fun v162 =>
q_tupW v156 fun l163 => q_nthW 2 l163 fun v164 =>
call 23 [⟨12, 0, ⟨0, 0, 0, .nils⟩, []⟩] h157 c158 fun v165 h166 c167 =>
q_tupW v165 fun l168 => q_nthW 0 l168 fun v169 =>
q_tupW v165 fun l170 => q_nthW 1 l170 fun v171 =>
q_tupW v165 fun l172 => q_nthW 2 l172 fun v173 =>
q_flatW ⟨8, 1, r0, []⟩ (
(fun (v174 : W) =>
q_buildSW 2 9 .avs 2 true h166 c167 1 [v174] fun v175 h176 c177 =>
call 19 [⟨3, 4, r0, []⟩, v175] h176 c177 fun v178 h179 c180 =>
q_tupW v178 fun l181 => q_nthW 0 l181 fun v182 =>
q_tupW v178 fun l183 => q_nthW 1 l183 fun v184 =>
q_tupW v178 fun l185 => q_nthW 2 l185 fun v186 =>
q_flatW ⟨12, 0, ⟨0, 0, 0, .cpx .f64 4656510908468559872 0⟩, []⟩ (
(fun (v187 : W) =>
q_buildSW 2 9 .avs 2 true h179 c180 1 [v187] fun v188 h189 c190 =>
call 19 [⟨3, 4, r0, []⟩, v188] h189 c190 fun v191 h192 c193 =>
q_tupW v191 fun l194 => q_nthW 0 l194 fun v195 =>
q_tupW v191 fun l196 => q_nthW 1 l196 fun v197 =>
q_tupW v191 fun l198 => q_nthW 2 l198 fun v199 =>
q_cmpW (cmpF2 .eql) 3 (binC Try.prog .eql 24 (.tmp 157) (.const (.int .i64 (.ofNat 2))) (dec v1) (dec ⟨3, 2, r0, []⟩)) v1 ⟨3, 2, r0, []⟩ fun v200 =>
q_share _ (fun (v202 : W) (h203 : HW) (c204 : Nat) =>
q_share _ (fun (v206 : W) (h207 : HW) (c208 : Nat) =>
q_pickW v200 v206 ⟨8, 0, r0, []⟩ fun v209 =>
q_share _ (fun (v211 : W) (h212 : HW) (c213 : Nat) =>
q_share _ (fun (v215 : W) (h216 : HW) (c217 : Nat) =>
q_pickW v209 v215 ⟨8, 0, r0, []⟩ fun v218 =>
q_share _ (fun (v220 : W) (h221 : HW) (c222 : Nat) =>
q_share _ (fun (v224 : W) (h225 : HW) (c226 : Nat) =>
q_share _ (fun (v228 : W) (h229 : HW) (c230 : Nat) =>
q_pickW v218 v228 ⟨8, 0, r0, []⟩ fun v231 =>
q_share _ (fun (v233 : W) (h234 : HW) (c235 : Nat) =>
q_share _ (fun (v237 : W) (h238 : HW) (c239 : Nat) =>
q_pickW v231 v237 ⟨8, 0, r0, []⟩ fun v240 =>
q_share _ (fun (v242 : W) (h243 : HW) (c244 : Nat) =>
q_pickW v240 v242 ⟨8, 0, r0, []⟩ fun v245 =>
q_share _ (fun (v247 : W) (h248 : HW) (c249 : Nat) =>
q_share _ (fun (v251 : W) (h252 : HW) (c253 : Nat) =>
q_pickW v245 v251 ⟨8, 0, r0, []⟩ fun v254 =>
q_share _ (fun (v256 : W) (h257 : HW) (c258 : Nat) =>
q_share _ (fun (v260 : W) (h261 : HW) (c262 : Nat) =>
q_pickW v254 v260 ⟨8, 0, r0, []⟩ fun v263 =>
q_share _ (fun (v265 : W) (h266 : HW) (c267 : Nat) =>
q_share _ (fun (v269 : W) (h270 : HW) (c271 : Nat) =>
q_pickW v263 v269 ⟨8, 0, r0, []⟩ fun v272 =>
q_share _ (fun (v274 : W) (h275 : HW) (c276 : Nat) =>
q_share _ (fun (v278 : W) (h279 : HW) (c280 : Nat) =>
q_pickW v272 v278 ⟨8, 0, r0, []⟩ fun v281 =>
q_share _ (fun (v283 : W) (h284 : HW) (c285 : Nat) =>
q_share _ (fun (v287 : W) (h288 : HW) (c289 : Nat) =>
q_pickW v281 v287 ⟨8, 0, r0, []⟩ fun v290 =>
q_share _ (fun (v292 : W) (h293 : HW) (c294 : Nat) =>
q_share _ (fun (v296 : W) (h297 : HW) (c298 : Nat) =>
q_pickW v290 v296 ⟨8, 0, r0, []⟩ fun v299 =>
q_share _ (fun (v301 : W) (h302 : HW) (c303 : Nat) =>
q_share _ (fun (v305 : W) (h306 : HW) (c307 : Nat) =>
q_pickW v299 v305 ⟨8, 0, r0, []⟩ fun v308 =>
q_share _ (fun (v310 : W) (h311 : HW) (c312 : Nat) =>
q_share _ (fun (v314 : W) (h315 : HW) (c316 : Nat) =>
q_share _ (fun (v318 : W) (h319 : HW) (c320 : Nat) =>
q_pickW v308 v318 ⟨8, 0, r0, []⟩ fun v321 =>
q_share _ (fun (v323 : W) (h324 : HW) (c325 : Nat) =>
q_share _ (fun (v327 : W) (h328 : HW) (c329 : Nat) =>
q_pickW v321 v327 ⟨8, 0, r0, []⟩ fun v330 =>
q_share _ (fun (v332 : W) (h333 : HW) (c334 : Nat) =>
q_share _ (fun (v336 : W) (h337 : HW) (c338 : Nat) =>
q_pickW v330 v336 ⟨8, 0, r0, []⟩ fun v339 =>
q_share _ (fun (v341 : W) (h342 : HW) (c343 : Nat) =>
q_share _ (fun (v345 : W) (h346 : HW) (c347 : Nat) =>
q_pickW v339 v345 ⟨8, 0, r0, []⟩ fun v348 =>
q_share _ (fun (v350 : W) (h351 : HW) (c352 : Nat) =>
q_share _ (fun (v354 : W) (h355 : HW) (c356 : Nat) =>
q_pickW v348 v354 ⟨8, 0, r0, []⟩ fun v357 =>
q_share _ (fun (v359 : W) (h360 : HW) (c361 : Nat) =>
q_share _ (fun (v363 : W) (h364 : HW) (c365 : Nat) =>
q_pickW v357 v363 ⟨8, 0, r0, []⟩ fun v366 =>
q_share _ (fun (v368 : W) (h369 : HW) (c370 : Nat) =>
q_share _ (fun (v372 : W) (h373 : HW) (c374 : Nat) =>
q_pickW v366 v372 ⟨8, 0, r0, []⟩ fun v375 =>
q_share _ (fun (v377 : W) (h378 : HW) (c379 : Nat) =>
q_share _ (fun (v381 : W) (h382 : HW) (c383 : Nat) =>
q_pickW v375 v381 ⟨8, 0, r0, []⟩ fun v384 =>
q_share _ (fun (v386 : W) (h387 : HW) (c388 : Nat) =>
q_share _ (fun (v390 : W) (h391 : HW) (c392 : Nat) =>
q_pickW v384 v390 ⟨8, 0, r0, []⟩ fun v393 =>
q_share _ (fun (v395 : W) (h396 : HW) (c397 : Nat) =>
q_share _ (fun (v399 : W) (h400 : HW) (c401 : Nat) =>
q_pickW v393 v399 ⟨8, 0, r0, []⟩ fun v402 =>
q_share _ (fun (v404 : W) (h405 : HW) (c406 : Nat) =>
q_share _ (fun (v408 : W) (h409 : HW) (c410 : Nat) =>
q_pickW v402 v408 ⟨8, 0, r0, []⟩ fun v411 =>
q_share _ (fun (v413 : W) (h414 : HW) (c415 : Nat) =>
q_share _ (fun (v417 : W) (h418 : HW) (c419 : Nat) =>
q_pickW v411 v417 ⟨8, 0, r0, []⟩ fun v420 =>
q_share _ (fun (v422 : W) (h423 : HW) (c424 : Nat) =>
q_pickW v420 v422 ⟨8, 0, r0, []⟩ fun v425 =>
q_killVW v11 h423 fun h426 =>
q_killVW v32 h426 fun h427 =>
K v425 h427 c424) fun f421 =>
q_guardW true v420 (call 16 [] h418 c419 fun v428 h429 c430 =>
f421 v428 h429 c430) (f421 wUnd h418 c419)) fun f416 =>
q_guardW true v411 (q_cmpW (cmpF2 .eql) 3 (binC Try.prog .eql 24 (.tmp 253) (.const (.int .i64 (.ofNat 7))) (dec v413) (dec ⟨3, 7, r0, []⟩)) v413 ⟨3, 7, r0, []⟩ fun v431 =>
f416 v431 h414 c415) (f416 wUnd h414 c415)) fun f412 =>
q_guardW true v411 (f412 v199 h409 c410) (f412 wUnd h409 c410)) fun f407 =>
q_guardW true v402 (q_cmpW (cmpF2 .eql) 3 (binC Try.prog .eql 24 (.tmp 249) (.const (.int .i64 (.ofNat 6))) (dec v404) (dec ⟨3, 6, r0, []⟩)) v404 ⟨3, 6, r0, []⟩ fun v432 =>
f407 v432 h405 c406) (f407 wUnd h405 c406)) fun f403 =>
q_guardW true v402 (f403 v186 h400 c401) (f403 wUnd h400 c401)) fun f398 =>
q_guardW true v393 (q_cmpW (cmpF2 .eql) 3 (binC Try.prog .eql 24 (.tmp 245) (.const (.int .i64 (.ofNat 0))) (dec v395) (dec ⟨3, 0, r0, []⟩)) v395 ⟨3, 0, r0, []⟩ fun v433 =>
f398 v433 h396 c397) (f398 wUnd h396 c397)) fun f394 =>
q_guardW true v393 (f394 v173 h391 c392) (f394 wUnd h391 c392)) fun f389 =>
q_guardW true v384 (q_cmpW (cmpF2 .eql) 3 (binC Try.prog .eql 3 (.tmp 241) (.const (.int .i64 (.ofNat 0))) (dec v386) (dec ⟨3, 0, r0, []⟩)) v386 ⟨3, 0, r0, []⟩ fun v434 =>
f389 v434 h387 c388) (f389 wUnd h387 c388)) fun f385 =>
q_guardW true v384 (f385 v171 h382 c383) (f385 wUnd h382 c383)) fun f380 =>
q_guardW true v375 (q_genW (binC Try.prog .eql 46 (.tmp 237) (.const (.float .f64 0)) (dec v377) (dec ⟨12, 0, ⟨0, 0, 0, .flt .f64 0⟩, []⟩)) fun v435 =>
f380 v435 h378 c379) (f380 wUnd h378 c379)) fun f376 =>
q_guardW true v375 (f376 v169 h373 c374) (f376 wUnd h373 c374)) fun f371 =>
q_guardW true v366 (q_cmpW (cmpF2 .eql) 3 (binC Try.prog .eql 24 (.tmp 233) (.const (.int .i64 (.ofNat 1))) (dec v368) (dec ⟨3, 1, r0, []⟩)) v368 ⟨3, 1, r0, []⟩ fun v436 =>
f371 v436 h369 c370) (f371 wUnd h369 c370)) fun f367 =>
q_guardW true v366 (f367 v164 h364 c365) (f367 wUnd h364 c365)) fun f362 =>
q_guardW true v357 (q_cmpW (cmpF2 .eql) 3 (binC Try.prog .eql 24 (.tmp 229) (.const (.int .i64 (.ofNat 1))) (dec v359) (dec ⟨3, 1, r0, []⟩)) v359 ⟨3, 1, r0, []⟩ fun v437 =>
f362 v437 h360 c361) (f362 wUnd h360 c361)) fun f358 =>
q_guardW true v357 (f358 v152 h355 c356) (f358 wUnd h355 c356)) fun f353 =>
q_guardW true v348 (q_cmpW (cmpF2 .eql) 3 (binC Try.prog .eql 24 (.tmp 225) (.const (.int .i64 (.ofNat 1))) (dec v350) (dec ⟨3, 1, r0, []⟩)) v350 ⟨3, 1, r0, []⟩ fun v438 =>
f353 v438 h351 c352) (f353 wUnd h351 c352)) fun f349 =>
q_guardW true v348 (f349 v135 h346 c347) (f349 wUnd h346 c347)) fun f344 =>
q_guardW true v339 (q_cmpW (cmpF2 .eql) 3 (binC Try.prog .eql 24 (.tmp 221) (.const (.int .i64 (.ofNat 7))) (dec v341) (dec ⟨3, 7, r0, []⟩)) v341 ⟨3, 7, r0, []⟩ fun v439 =>
f344 v439 h342 c343) (f344 wUnd h342 c343)) fun f340 =>
q_guardW true v339 (f340 v118 h337 c338) (f340 wUnd h337 c338)) fun f335 =>
q_guardW true v330 (q_cmpW (cmpF2 .eql) 3 (binC Try.prog .eql 24 (.tmp 217) (.const (.int .i64 (.ofNat 1))) (dec v332) (dec ⟨3, 1, r0, []⟩)) v332 ⟨3, 1, r0, []⟩ fun v440 =>
f335 v440 h333 c334) (f335 wUnd h333 c334)) fun f331 =>
q_guardW true v330 (f331 v107 h328 c329) (f331 wUnd h328 c329)) fun f326 =>
q_guardW true v321 (q_cmpW (cmpF2 .eql) 3 (binC Try.prog .eql 24 (.tmp 213) (.const (.int .i64 (.ofNat 0))) (dec v323) (dec ⟨3, 0, r0, []⟩)) v323 ⟨3, 0, r0, []⟩ fun v441 =>
f326 v441 h324 c325) (f326 wUnd h324 c325)) fun f322 =>
q_guardW true v321 (f322 v96 h319 c320) (f322 wUnd h319 c320)) fun f317 =>
q_guardW true v308 (q_cmpW (cmpF2 .eql) 3 (binC Try.prog .eql 3 (.tmp 209) (.const (.int .i64 (.ofNat 0))) (dec v314) (dec ⟨3, 0, r0, []⟩)) v314 ⟨3, 0, r0, []⟩ fun v442 =>
f317 v442 h315 c316) (f317 wUnd h315 c316)) fun f313 =>
q_guardW true v308 (q_lenW (lenC tys 27 (dec v310)) v310 fun v443 =>
f313 v443 h311 c312) (f313 wUnd h311 c312)) fun f309 =>
q_guardW true v308 (f309 v94 h306 c307) (f309 wUnd h306 c307)) fun f304 =>
q_guardW true v299 (q_cmpW (cmpF2 .eql) 3 (binC Try.prog .eql 24 (.tmp 204) (.const (.int .i64 (.ofNat 1))) (dec v301) (dec ⟨3, 1, r0, []⟩)) v301 ⟨3, 1, r0, []⟩ fun v444 =>
f304 v444 h302 c303) (f304 wUnd h302 c303)) fun f300 =>
q_guardW true v299 (f300 v89 h297 c298) (f300 wUnd h297 c298)) fun f295 =>
q_guardW true v290 (q_cmpW (cmpF2 .eql) 3 (binC Try.prog .eql 24 (.tmp 200) (.const (.int .i64 (.ofNat 0))) (dec v292) (dec ⟨3, 0, r0, []⟩)) v292 ⟨3, 0, r0, []⟩ fun v445 =>
f295 v445 h293 c294) (f295 wUnd h293 c294)) fun f291 =>
q_guardW true v290 (f291 v82 h288 c289) (f291 wUnd h288 c289)) fun f286 =>
q_guardW true v281 (q_cmpW (cmpF2 .eql) 3 (binC Try.prog .eql 24 (.tmp 196) (.const (.int .i64 (.ofNat 1))) (dec v283) (dec ⟨3, 1, r0, []⟩)) v283 ⟨3, 1, r0, []⟩ fun v446 =>
f286 v446 h284 c285) (f286 wUnd h284 c285)) fun f282 =>
q_guardW true v281 (f282 v71 h279 c280) (f282 wUnd h279 c280)) fun f277 =>
q_guardW true v272 (q_cmpW (cmpF2 .eql) 3 (binC Try.prog .eql 24 (.tmp 192) (.const (.int .i64 (.ofNat 1))) (dec v274) (dec ⟨3, 1, r0, []⟩)) v274 ⟨3, 1, r0, []⟩ fun v447 =>
f277 v447 h275 c276) (f277 wUnd h275 c276)) fun f273 =>
q_guardW true v272 (f273 v65 h270 c271) (f273 wUnd h270 c271)) fun f268 =>
q_guardW true v263 (q_cmpW (cmpF2 .eql) 3 (binC Try.prog .eql 24 (.tmp 188) (.const (.int .i64 (.ofNat 0))) (dec v265) (dec ⟨3, 0, r0, []⟩)) v265 ⟨3, 0, r0, []⟩ fun v448 =>
f268 v448 h266 c267) (f268 wUnd h266 c267)) fun f264 =>
q_guardW true v263 (f264 v56 h261 c262) (f264 wUnd h261 c262)) fun f259 =>
q_guardW true v254 (q_cmpW (cmpF2 .eql) 3 (binC Try.prog .eql 24 (.tmp 184) (.const (.int .i64 (.ofNat 1))) (dec v256) (dec ⟨3, 1, r0, []⟩)) v256 ⟨3, 1, r0, []⟩ fun v449 =>
f259 v449 h257 c258) (f259 wUnd h257 c258)) fun f255 =>
q_guardW true v254 (f255 v49 h252 c253) (f255 wUnd h252 c253)) fun f250 =>
q_guardW true v245 (q_cmpW (cmpF2 .eql) 3 (binC Try.prog .eql 24 (.tmp 180) (.const (.int .i64 (.ofNat 0))) (dec v247) (dec ⟨3, 0, r0, []⟩)) v247 ⟨3, 0, r0, []⟩ fun v450 =>
f250 v450 h248 c249) (f250 wUnd h248 c249)) fun f246 =>
q_guardW true v245 (f246 v42 h243 c244) (f246 wUnd h243 c244)) fun f241 =>
q_guardW true v240 (f241 v40 h238 c239) (f241 wUnd h238 c239)) fun f236 =>
q_guardW true v231 (q_cmpW (cmpF2 .eql) 3 (binC Try.prog .eql 24 (.tmp 173) (.const (.int .i64 (.ofNat 0))) (dec v233) (dec ⟨3, 0, r0, []⟩)) v233 ⟨3, 0, r0, []⟩ fun v451 =>
f236 v451 h234 c235) (f236 wUnd h234 c235)) fun f232 =>
q_guardW true v231 (f232 v31 h229 c230) (f232 wUnd h229 c230)) fun f227 =>
q_guardW true v218 (q_genW (binC Try.prog .eql 70 (.tmp 168) (.tmp 169) (dec v220) (dec v224)) fun v452 =>
f227 v452 h225 c226) (f227 wUnd h225 c226)) fun f223 =>
q_guardW true v218 ((fun (v453 : W) =>
f223 v453 h221 c222) ⟨15, 0, r0, [⟨3, 0, r0, []⟩, ⟨3, 0, r0, []⟩, ⟨3, 0, r0, []⟩, ⟨3, 0, r0, []⟩]⟩) (f223 wUnd h221 c222)) fun f219 =>
q_guardW true v218 (q_loadAW 4 h216 v32 fun v454 =>
f219 v454 h216 c217) (f219 wUnd h216 c217)) fun f214 =>
q_guardW true v209 (q_cmpW (cmpF2 .eql) 3 (binC Try.prog .eql 24 (.tmp 164) (.const (.int .i64 (.ofNat 2))) (dec v211) (dec ⟨3, 2, r0, []⟩)) v211 ⟨3, 2, r0, []⟩ fun v455 =>
f214 v455 h212 c213) (f214 wUnd h212 c213)) fun f210 =>
q_guardW true v209 (f210 v21 h207 c208) (f210 wUnd h207 c208)) fun f205 =>
q_guardW true v200 (q_cmpW (cmpF2 .eql) 3 (binC Try.prog .eql 24 (.tmp 160) (.const (.int .i64 (.ofNat 2))) (dec v202) (dec ⟨3, 2, r0, []⟩)) v202 ⟨3, 2, r0, []⟩ fun v456 =>
f205 v456 h203 c204) (f205 wUnd h203 c204)) fun f201 =>
q_guardW true v200 (f201 v10 h192 c193) (f201 wUnd h192 c193)) ⟨15, 0, r0, [⟨12, 0, ⟨0, 0, 0, .cpx .f64 4656510908468559872 0⟩, []⟩, ⟨8, 0, r0, []⟩]⟩)) ⟨15, 0, r0, [⟨12, 0, ⟨0, 0, 0, .cpx .f64 0 0⟩, []⟩, ⟨8, 1, r0, []⟩]⟩)
theorem R8_eq (Q : PrimW) (fu : Nat) (call : CallW) : curryA 0 (fnK Q Try.prog tys stl fu call e8) = R8 Q.share Q.genW Q.cmpW Q.guardW Q.pickW Q.lenW Q.tupW Q.nthW Q.killVW Q.loadAW Q.storeAW Q.makeSW Q.allocW Q.buildSW Q.flatW fu call := by kernel_rfl
noncomputable def n8 : List W → HW → Nat → KW → Bool := appF 0 (R8 (fun _ x f => f x) genW cmpW guardW pickW lenW tupW nthW killVW loadAW storeAW makeSW allocW buildSW flatW 1000000 d8.fn)
theorem n8_ok : FnGood Try.prog tys stl tab 8 n8 := node_ok d8_ok (by kernel_rfl) rfl g8 (R8_eq real _ _)
noncomputable def d9 : Disp := (.node 51 n51 (.node 29 n29 (.node 19 n19 (.node 12 n12 (.node 10 n10 (.node 8 n8 .leaf .leaf) .leaf) (.node 17 n17 (.node 16 n16 .leaf .leaf) .leaf)) (.node 25 n25 (.node 23 n23 (.node 21 n21 .leaf .leaf) .leaf) (.node 28 n28 (.node 27 n27 .leaf .leaf) .leaf))) (.node 42 n42 (.node 36 n36 (.node 34 n34 (.node 32 n32 .leaf .leaf) .leaf) (.node 41 n41 (.node 37 n37 .leaf .leaf) .leaf)) (.node 46 n46 (.node 45 n45 (.node 43 n43 .leaf .leaf) .leaf) (.node 50 n50 (.node 49 n49 .leaf .leaf) .leaf)))) (.node 79 n79 (.node 65 n65 (.node 59 n59 (.node 58 n58 (.node 52 n52 .leaf .leaf) .leaf) (.node 64 n64 (.node 61 n61 .leaf .leaf) .leaf)) (.node 76 n76 (.node 67 n67 (.node 66 n66 .leaf .leaf) .leaf) (.node 78 n78 (.node 77 n77 .leaf .leaf) .leaf))) (.node 88 n88 (.node 85 n85 (.node 81 n81 (.node 80 n80 .leaf .leaf) .leaf) (.node 87 n87 (.node 86 n86 .leaf .leaf) .leaf)) (.node 92 n92 (.node 90 n90 (.node 89 n89 .leaf .leaf) .leaf) (.node 95 n95 (.node 93 n93 .leaf .leaf) .leaf)))))
theorem d9_ok : CallSim Try.prog tys stl tab d9.fn := Disp.sim ⟨n51_ok, ⟨n29_ok, ⟨n19_ok, ⟨n12_ok, ⟨n10_ok, ⟨n8_ok, True.intro, True.intro⟩, True.intro⟩, ⟨n17_ok, ⟨n16_ok, True.intro, True.intro⟩, True.intro⟩⟩, ⟨n25_ok, ⟨n23_ok, ⟨n21_ok, True.intro, True.intro⟩, True.intro⟩, ⟨n28_ok, ⟨n27_ok, True.intro, True.intro⟩, True.intro⟩⟩⟩, ⟨n42_ok, ⟨n36_ok, ⟨n34_ok, ⟨n32_ok, True.intro, True.intro⟩, True.intro⟩, ⟨n41_ok, ⟨n37_ok, True.intro, True.intro⟩, True.intro⟩⟩, ⟨n46_ok, ⟨n45_ok, ⟨n43_ok, True.intro, True.intro⟩, True.intro⟩, ⟨n50_ok, ⟨n49_ok, True.intro, True.intro⟩, True.intro⟩⟩⟩⟩, ⟨n79_ok, ⟨n65_ok, ⟨n59_ok, ⟨n58_ok, ⟨n52_ok, True.intro, True.intro⟩, True.intro⟩, ⟨n64_ok, ⟨n61_ok, True.intro, True.intro⟩, True.intro⟩⟩, ⟨n76_ok, ⟨n67_ok, ⟨n66_ok, True.intro, True.intro⟩, True.intro⟩, ⟨n78_ok, ⟨n77_ok, True.intro, True.intro⟩, True.intro⟩⟩⟩, ⟨n88_ok, ⟨n85_ok, ⟨n81_ok, ⟨n80_ok, True.intro, True.intro⟩, True.intro⟩, ⟨n87_ok, ⟨n86_ok, True.intro, True.intro⟩, True.intro⟩⟩, ⟨n92_ok, ⟨n90_ok, ⟨n89_ok, True.intro, True.intro⟩, True.intro⟩, ⟨n95_ok, ⟨n93_ok, True.intro, True.intro⟩, True.intro⟩⟩⟩⟩⟩
noncomputable abbrev dT : Disp := d9
theorem dT_ok : CallSim Try.prog tys stl tab dT.fn := d9_ok

set_option maxHeartbeats 0 in
theorem run8 : lawK dT.fn 8 = true := by kernel_rfl
namespace meterNone
open Go.ChangeShapes Go.WideShapes Go.ChangeAt Go.RowKit
theorem own : ownKnob Try.prog.godebug = none := by kernel_rfl
theorem laid : laidOutB Try.prog = true := by kernel_rfl
theorem lifted (os : Os) (started : os.Started) (H : Type) (enc : TypeId × Value → H) :
    ReturnsInHanded {} Try.checked os 8 .any (Rows.meterNoneSpec.pre6 enc Try.prog Try.f8 Rows.meterNoneRow.domain false) (Rows.meterNoneSpec.post enc Try.prog Try.f8 false true false false) := by
  refine returnsInHanded_of_change (C := Try.checked) own started (by kernel_rfl) Try.func8
    (ChangeSpec.witness6 (enc := enc) (C := Try.checked) false ⟨#[], #[], []⟩ 8 (by kernel_rfl) (by kernel_rfl) (by kernel_rfl) (by kernel_rfl)) ?_
  intro W base args ds gs before hval0 hW hcnd _
  have hW' := hW
  obtain ⟨p, q, hA0, hV, rfl, hfz, hnd⟩ := hW
  have hA : DataW.TrodAll enc Try.prog W 0 (fun _ => true) true Try.f8.params.toList args.toList ds p := hA0
  rw [Try.params8] at hA
  obtain ⟨hargs, rfl, rfl⟩ := trodAll_nil hA
  obtain rfl : args = #[] := by cases args; simp_all
  obtain ⟨rfl, rfl⟩ := trodVars_none hV
  clear hA0 hval0
  refine (lawK_true tok mixed fok dT_ok (by kernel_rfl : tab 8 = some e8) rfl run8 W).mono fun e W' ⟨he, hg⟩ => ?_
  subst he
  exact ⟨_, rfl, law_done laid rfl rfl Try.underlying4 (by kernel_rfl) hW' rfl hg⟩

theorem over : Rows.meterNoneRow.holds Try.pinned (OpenSpec.ofChange Rows.meterNoneSpec) :=
  OpenClaim.holds_of_wide 8 Try.f8 rfl rfl rfl rfl rfl rfl rfl ⟨rfl, rfl, rfl, rfl, rfl⟩ rfl rfl rfl rfl rfl (by kernel_rfl) Try.func8 (by kernel_rfl)
    (of_decide_eq_true (by kernel_rfl)) (by unfold Func.isWrapper; first | (rw [if_pos (by decide +kernel)]; kernel_rfl) | (rw [if_neg (by decide +kernel)]; exact ⟨rfl, rfl⟩))
    (fun os started H enc _ => lifted os started H enc)

theorem proved : Rows.MeterNoneSaid := over
end meterNone
end Go.Proofs.Ytplidgjliecfeaa
