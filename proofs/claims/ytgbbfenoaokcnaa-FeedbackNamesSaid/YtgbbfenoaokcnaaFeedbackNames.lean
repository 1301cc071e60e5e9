/-
  foghornlaw11.FeedbackNames returns true, whatever the memory it begins in. No condition.
-/
import Derived.Test.YtgbbfenoaokcnaaRows
import Derived.Test.YtgbbfenoaokcnaaGx
import Derived.WalkKit
import Derived.ProofKit
import Derived.OpenShut
set_option linter.unusedVariables false
set_option maxRecDepth 1000000
namespace Go.Proofs.Ytgbbfenoaokcnaa
open Go Go.Fw
def tys : List (Nat × TyI) := [
  (1, ⟨.func, 1, 8, .nilFunc⟩),
  (2, ⟨.int .i64, 1, 8, .int .i64 0⟩),
  (3, ⟨.int .i64, 1, 8, .int .i64 0⟩),
  (4, ⟨.bool, 1, 1, .bool false⟩),
  (5, ⟨.int .u8, 1, 1, .int .u8 0⟩),
  (9, ⟨.str, 1, 16, .string (ByteArray.mk #[])⟩),
  (12, ⟨.int .u64, 1, 8, .int .u64 0⟩),
  (21, ⟨.int .i32, 1, 4, .int .i32 0⟩),
  (22, ⟨.slice 71, 1, 24, .slice none 0 0⟩),
  (23, ⟨.slice 75, 1, 24, .slice none 0 0⟩),
  (24, ⟨.slice 32, 1, 24, .slice none 0 0⟩),
  (25, ⟨.func, 1, 8, .nilFunc⟩),
  (26, ⟨.func, 1, 8, .nilFunc⟩),
  (27, ⟨.int .i64, 1, 8, .int .i64 0⟩),
  (29, ⟨.func, 1, 8, .nilFunc⟩),
  (30, ⟨.func, 1, 8, .nilFunc⟩),
  (31, ⟨.func, 1, 8, .nilFunc⟩),
  (32, ⟨.cpx .f64, 1, 16, .complex .f64 0 0⟩),
  (33, ⟨.func, 1, 8, .nilFunc⟩),
  (34, ⟨.float .f64, 1, 8, .float .f64 0⟩),
  (35, ⟨.func, 1, 8, .nilFunc⟩),
  (36, ⟨.ptr 85, 1, 8, .pointer none⟩),
  (37, ⟨.struct [(0, 3), (1, 32), (2, 4)], 3, 32, .agg #[.int .i64 0, .complex .f64 0 0, .bool false]⟩),
  (38, ⟨.struct [(0, 3), (1, 32), (2, 4)], 3, 32, .agg #[.int .i64 0, .complex .f64 0 0, .bool false]⟩),
  (40, ⟨.func, 1, 8, .nilFunc⟩),
  (41, ⟨.struct [(0, 32), (1, 4)], 2, 24, .agg #[.complex .f64 0 0, .bool false]⟩),
  (42, ⟨.struct [(0, 32), (1, 4)], 2, 24, .agg #[.complex .f64 0 0, .bool false]⟩),
  (44, ⟨.func, 1, 8, .nilFunc⟩),
  (46, ⟨.func, 1, 8, .nilFunc⟩),
  (47, ⟨.func, 1, 8, .nilFunc⟩),
  (48, ⟨.func, 1, 8, .nilFunc⟩),
  (49, ⟨.slice 5, 1, 24, .slice none 0 0⟩),
  (50, ⟨.slice 59, 1, 24, .slice none 0 0⟩),
  (51, ⟨.func, 1, 8, .nilFunc⟩),
  (52, ⟨.func, 1, 8, .nilFunc⟩),
  (53, ⟨.func, 1, 8, .nilFunc⟩),
  (55, ⟨.func, 1, 8, .nilFunc⟩),
  (56, ⟨.slice 42, 1, 24, .slice none 0 0⟩),
  (57, ⟨.func, 1, 8, .nilFunc⟩),
  (58, ⟨.struct [(0, 21), (1, 21)], 2, 8, .agg #[.int .i32 0, .int .i32 0]⟩),
  (59, ⟨.struct [(0, 21), (1, 21)], 2, 8, .agg #[.int .i32 0, .int .i32 0]⟩),
  (60, ⟨.func, 1, 8, .nilFunc⟩),
  (61, ⟨.slice 38, 1, 24, .slice none 0 0⟩),
  (63, ⟨.func, 1, 8, .nilFunc⟩),
  (64, ⟨.func, 1, 8, .nilFunc⟩),
  (65, ⟨.func, 1, 8, .nilFunc⟩),
  (66, ⟨.func, 1, 8, .nilFunc⟩),
  (67, ⟨.func, 1, 8, .nilFunc⟩),
  (68, ⟨.func, 1, 8, .nilFunc⟩),
  (69, ⟨.func, 1, 8, .nilFunc⟩),
  (70, ⟨.struct [(0, 2), (1, 2), (2, 4)], 3, 24, .agg #[.int .i64 0, .int .i64 0, .bool false]⟩),
  (71, ⟨.struct [(0, 2), (1, 2), (2, 4)], 3, 24, .agg #[.int .i64 0, .int .i64 0, .bool false]⟩),
  (72, ⟨.func, 1, 8, .nilFunc⟩),
  (73, ⟨.int .u64, 1, 8, .int .u64 0⟩),
  (74, ⟨.struct [(0, 21), (1, 21), (2, 4)], 3, 12, .agg #[.int .i32 0, .int .i32 0, .bool false]⟩),
  (75, ⟨.struct [(0, 21), (1, 21), (2, 4)], 3, 12, .agg #[.int .i32 0, .int .i32 0, .bool false]⟩),
  (76, ⟨.func, 1, 8, .nilFunc⟩),
  (77, ⟨.func, 1, 8, .nilFunc⟩),
  (78, ⟨.func, 1, 8, .nilFunc⟩),
  (80, ⟨.func, 1, 8, .nilFunc⟩),
  (82, ⟨.func, 1, 8, .nilFunc⟩),
  (83, ⟨.array 64 32, 64, 1024, .agg ⟨List.replicate 64 (.complex .f64 0 0)⟩⟩),
  (84, ⟨.struct [(0, 3), (1, 24), (2, 34), (3, 3), (4, 83), (68, 3), (69, 32), (70, 4), (71, 4)], 72, 1104, .agg #[.int .i64 0, .slice none 0 0, .float .f64 0, .int .i64 0, .complex .f64 0 0, .complex .f64 0 0, .complex .f64 0 0, .complex .f64 0 0, .complex .f64 0 0, .complex .f64 0 0, .complex .f64 0 0, .complex .f64 0 0, .complex .f64 0 0, .complex .f64 0 0, .complex .f64 0 0, .complex .f64 0 0, .complex .f64 0 0, .complex .f64 0 0, .complex .f64 0 0, .complex .f64 0 0, .complex .f64 0 0, .complex .f64 0 0, .complex .f64 0 0, .complex .f64 0 0, .complex .f64 0 0, .complex .f64 0 0, .complex .f64 0 0, .complex .f64 0 0, .complex .f64 0 0, .complex .f64 0 0, .complex .f64 0 0, .complex .f64 0 0, .complex .f64 0 0, .complex .f64 0 0, .complex .f64 0 0, .complex .f64 0 0, .complex .f64 0 0, .complex .f64 0 0, .complex .f64 0 0, .complex .f64 0 0, .complex .f64 0 0, .complex .f64 0 0, .complex .f64 0 0, .complex .f64 0 0, .complex .f64 0 0, .complex .f64 0 0, .complex .f64 0 0, .complex .f64 0 0, .complex .f64 0 0, .complex .f64 0 0, .complex .f64 0 0, .complex .f64 0 0, .complex .f64 0 0, .complex .f64 0 0, .complex .f64 0 0, .complex .f64 0 0, .complex .f64 0 0, .complex .f64 0 0, .complex .f64 0 0, .complex .f64 0 0, .complex .f64 0 0, .complex .f64 0 0, .complex .f64 0 0, .complex .f64 0 0, .complex .f64 0 0, .complex .f64 0 0, .complex .f64 0 0, .complex .f64 0 0, .int .i64 0, .complex .f64 0 0, .bool false, .bool false]⟩),
  (85, ⟨.struct [(0, 3), (1, 24), (2, 34), (3, 3), (4, 83), (68, 3), (69, 32), (70, 4), (71, 4)], 72, 1104, .agg #[.int .i64 0, .slice none 0 0, .float .f64 0, .int .i64 0, .complex .f64 0 0, .complex .f64 0 0, .complex .f64 0 0, .complex .f64 0 0, .complex .f64 0 0, .complex .f64 0 0, .complex .f64 0 0, .complex .f64 0 0, .complex .f64 0 0, .complex .f64 0 0, .complex .f64 0 0, .complex .f64 0 0, .complex .f64 0 0, .complex .f64 0 0, .complex .f64 0 0, .complex .f64 0 0, .complex .f64 0 0, .complex .f64 0 0, .complex .f64 0 0, .complex .f64 0 0, .complex .f64 0 0, .complex .f64 0 0, .complex .f64 0 0, .complex .f64 0 0, .complex .f64 0 0, .complex .f64 0 0, .complex .f64 0 0, .complex .f64 0 0, .complex .f64 0 0, .complex .f64 0 0, .complex .f64 0 0, .complex .f64 0 0, .complex .f64 0 0, .complex .f64 0 0, .complex .f64 0 0, .complex .f64 0 0, .complex .f64 0 0, .complex .f64 0 0, .complex .f64 0 0, .complex .f64 0 0, .complex .f64 0 0, .complex .f64 0 0, .complex .f64 0 0, .complex .f64 0 0, .complex .f64 0 0, .complex .f64 0 0, .complex .f64 0 0, .complex .f64 0 0, .complex .f64 0 0, .complex .f64 0 0, .complex .f64 0 0, .complex .f64 0 0, .complex .f64 0 0, .complex .f64 0 0, .complex .f64 0 0, .complex .f64 0 0, .complex .f64 0 0, .complex .f64 0 0, .complex .f64 0 0, .complex .f64 0 0, .complex .f64 0 0, .complex .f64 0 0, .complex .f64 0 0, .complex .f64 0 0, .int .i64 0, .complex .f64 0 0, .bool false, .bool false]⟩),
  (86, ⟨.func, 1, 8, .nilFunc⟩),
  (87, ⟨.func, 1, 8, .nilFunc⟩),
  (88, ⟨.func, 1, 8, .nilFunc⟩),
  (89, ⟨.func, 1, 8, .nilFunc⟩),
  (90, ⟨.slice 3, 1, 24, .slice none 0 0⟩),
  (91, ⟨.slice 34, 1, 24, .slice none 0 0⟩),
  (92, ⟨.slice 97, 1, 24, .slice none 0 0⟩),
  (94, ⟨.func, 1, 8, .nilFunc⟩),
  (95, ⟨.func, 1, 8, .nilFunc⟩),
  (96, ⟨.struct [(0, 3), (1, 3)], 2, 16, .agg #[.int .i64 0, .int .i64 0]⟩),
  (97, ⟨.struct [(0, 3), (1, 3)], 2, 16, .agg #[.int .i64 0, .int .i64 0]⟩),
  (98, ⟨.func, 1, 8, .nilFunc⟩),
  (99, ⟨.func, 1, 8, .nilFunc⟩),
  (100, ⟨.func, 1, 8, .nilFunc⟩),
  (101, ⟨.func, 1, 8, .nilFunc⟩),
  (102, ⟨.func, 1, 8, .nilFunc⟩),
  (103, ⟨.func, 1, 8, .nilFunc⟩),
  (104, ⟨.func, 1, 8, .nilFunc⟩),
  (106, ⟨.map, 1, 8, .map none⟩),
  (107, ⟨.func, 1, 8, .nilFunc⟩),
  (108, ⟨.func, 1, 8, .nilFunc⟩),
  (109, ⟨.func, 1, 8, .nilFunc⟩),
  (110, ⟨.struct [(0, 3), (1, 3), (2, 3), (3, 108), (4, 109)], 5, 40, .agg #[.int .i64 0, .int .i64 0, .int .i64 0, .nilFunc, .nilFunc]⟩),
  (111, ⟨.struct [(0, 3), (1, 3), (2, 3), (3, 108), (4, 109)], 5, 40, .agg #[.int .i64 0, .int .i64 0, .int .i64 0, .nilFunc, .nilFunc]⟩),
  (113, ⟨.func, 1, 8, .nilFunc⟩),
  (114, ⟨.func, 1, 8, .nilFunc⟩),
  (115, ⟨.func, 1, 8, .nilFunc⟩),
  (116, ⟨.func, 1, 8, .nilFunc⟩),
  (117, ⟨.func, 1, 8, .nilFunc⟩),
  (118, ⟨.func, 1, 8, .nilFunc⟩),
  (119, ⟨.func, 1, 8, .nilFunc⟩),
  (120, ⟨.func, 1, 8, .nilFunc⟩),
  (121, ⟨.func, 1, 8, .nilFunc⟩),
  (122, ⟨.int .u64, 1, 8, .int .u64 0⟩),
  (123, ⟨.func, 1, 8, .nilFunc⟩),
  (124, ⟨.func, 1, 8, .nilFunc⟩),
  (125, ⟨.func, 1, 8, .nilFunc⟩),
  (126, ⟨.func, 1, 8, .nilFunc⟩),
  (127, ⟨.func, 1, 8, .nilFunc⟩),
  (128, ⟨.func, 1, 8, .nilFunc⟩),
  (129, ⟨.func, 1, 8, .nilFunc⟩),
  (131, ⟨.func, 1, 8, .nilFunc⟩),
  (132, ⟨.func, 1, 8, .nilFunc⟩),
  (133, ⟨.func, 1, 8, .nilFunc⟩),
  (134, ⟨.func, 1, 8, .nilFunc⟩),
  (135, ⟨.func, 1, 8, .nilFunc⟩),
  (137, ⟨.func, 1, 8, .nilFunc⟩),
  (138, ⟨.func, 1, 8, .nilFunc⟩),
  (144, ⟨.func, 1, 8, .nilFunc⟩),
  (145, ⟨.int .u32, 1, 4, .int .u32 0⟩),
  (148, ⟨.func, 1, 8, .nilFunc⟩),
  (149, ⟨.ptr 5, 1, 8, .pointer none⟩)]


theorem tok : TOk Try.prog tys := tok_of ⟨⟨by kernel_rfl, by kernel_rfl⟩, ⟨by kernel_rfl, by kernel_rfl⟩, ⟨by kernel_rfl, by kernel_rfl⟩, ⟨by kernel_rfl, by kernel_rfl⟩, ⟨by kernel_rfl, by kernel_rfl⟩, ⟨by kernel_rfl, by kernel_rfl⟩, ⟨by kernel_rfl, by kernel_rfl⟩, ⟨by kernel_rfl, by kernel_rfl⟩, ⟨by kernel_rfl, by kernel_rfl⟩, ⟨by kernel_rfl, by kernel_rfl⟩, ⟨by kernel_rfl, by kernel_rfl⟩, ⟨by kernel_rfl, by kernel_rfl⟩, ⟨by kernel_rfl, by kernel_rfl⟩, ⟨by kernel_rfl, by kernel_rfl⟩, ⟨by kernel_rfl, by kernel_rfl⟩, ⟨by kernel_rfl, by kernel_rfl⟩, ⟨by kernel_rfl, by kernel_rfl⟩, ⟨by kernel_rfl, by kernel_rfl⟩, ⟨by kernel_rfl, by kernel_rfl⟩, ⟨by kernel_rfl, by kernel_rfl⟩, ⟨by kernel_rfl, by kernel_rfl⟩, ⟨by kernel_rfl, by kernel_rfl⟩, ⟨by kernel_rfl, by kernel_rfl⟩, ⟨by kernel_rfl, by kernel_rfl⟩, ⟨by kernel_rfl, by kernel_rfl⟩, ⟨by kernel_rfl, by kernel_rfl⟩, ⟨by kernel_rfl, by kernel_rfl⟩, ⟨by kernel_rfl, by kernel_rfl⟩, ⟨by kernel_rfl, by kernel_rfl⟩, ⟨by kernel_rfl, by kernel_rfl⟩, ⟨by kernel_rfl, by kernel_rfl⟩, ⟨by kernel_rfl, by kernel_rfl⟩, ⟨by kernel_rfl, by kernel_rfl⟩, ⟨by kernel_rfl, by kernel_rfl⟩, ⟨by kernel_rfl, by kernel_rfl⟩, ⟨by kernel_rfl, by kernel_rfl⟩, ⟨by kernel_rfl, by kernel_rfl⟩, ⟨by kernel_rfl, by kernel_rfl⟩, ⟨by kernel_rfl, by kernel_rfl⟩, ⟨by kernel_rfl, by kernel_rfl⟩, ⟨by kernel_rfl, by kernel_rfl⟩, ⟨by kernel_rfl, by kernel_rfl⟩, ⟨by kernel_rfl, by kernel_rfl⟩, ⟨by kernel_rfl, by kernel_rfl⟩, ⟨by kernel_rfl, by kernel_rfl⟩, ⟨by kernel_rfl, by kernel_rfl⟩, ⟨by kernel_rfl, by kernel_rfl⟩, ⟨by kernel_rfl, by kernel_rfl⟩, ⟨by kernel_rfl, by kernel_rfl⟩, ⟨by kernel_rfl, by kernel_rfl⟩, ⟨by kernel_rfl, by kernel_rfl⟩, ⟨by kernel_rfl, by kernel_rfl⟩, ⟨by kernel_rfl, by kernel_rfl⟩, ⟨by kernel_rfl, by kernel_rfl⟩, ⟨by kernel_rfl, by kernel_rfl⟩, ⟨by kernel_rfl, by kernel_rfl⟩, ⟨by kernel_rfl, by kernel_rfl⟩, ⟨by kernel_rfl, by kernel_rfl⟩, ⟨by kernel_rfl, by kernel_rfl⟩, ⟨by kernel_rfl, by kernel_rfl⟩, ⟨by kernel_rfl, by kernel_rfl⟩, ⟨by kernel_rfl, by kernel_rfl⟩, ⟨by kernel_rfl, by kernel_rfl⟩, ⟨by kernel_rfl, by kernel_rfl⟩, ⟨by kernel_rfl, by kernel_rfl⟩, ⟨by kernel_rfl, by kernel_rfl⟩, ⟨by kernel_rfl, by kernel_rfl⟩, ⟨by kernel_rfl, by kernel_rfl⟩, ⟨by kernel_rfl, by kernel_rfl⟩, ⟨by kernel_rfl, by kernel_rfl⟩, ⟨by kernel_rfl, by kernel_rfl⟩, ⟨by kernel_rfl, by kernel_rfl⟩, ⟨by kernel_rfl, by kernel_rfl⟩, ⟨by kernel_rfl, by kernel_rfl⟩, ⟨by kernel_rfl, by kernel_rfl⟩, ⟨by kernel_rfl, by kernel_rfl⟩, ⟨by kernel_rfl, by kernel_rfl⟩, ⟨by kernel_rfl, by kernel_rfl⟩, ⟨by kernel_rfl, by kernel_rfl⟩, ⟨by kernel_rfl, by kernel_rfl⟩, ⟨by kernel_rfl, by kernel_rfl⟩, ⟨by kernel_rfl, by kernel_rfl⟩, ⟨by kernel_rfl, by kernel_rfl⟩, ⟨by kernel_rfl, by kernel_rfl⟩, ⟨by kernel_rfl, by kernel_rfl⟩, ⟨by kernel_rfl, by kernel_rfl⟩, ⟨by kernel_rfl, by kernel_rfl⟩, ⟨by kernel_rfl, by kernel_rfl⟩, ⟨by kernel_rfl, by kernel_rfl⟩, ⟨by kernel_rfl, by kernel_rfl⟩, ⟨by kernel_rfl, by kernel_rfl⟩, ⟨by kernel_rfl, by kernel_rfl⟩, ⟨by kernel_rfl, by kernel_rfl⟩, ⟨by kernel_rfl, by kernel_rfl⟩, ⟨by kernel_rfl, by kernel_rfl⟩, ⟨by kernel_rfl, by kernel_rfl⟩, ⟨by kernel_rfl, by kernel_rfl⟩, ⟨by kernel_rfl, by kernel_rfl⟩, ⟨by kernel_rfl, by kernel_rfl⟩, ⟨by kernel_rfl, by kernel_rfl⟩, ⟨by kernel_rfl, by kernel_rfl⟩, ⟨by kernel_rfl, by kernel_rfl⟩, ⟨by kernel_rfl, by kernel_rfl⟩, ⟨by kernel_rfl, by kernel_rfl⟩, ⟨by kernel_rfl, by kernel_rfl⟩, ⟨by kernel_rfl, by kernel_rfl⟩, ⟨by kernel_rfl, by kernel_rfl⟩, ⟨by kernel_rfl, by kernel_rfl⟩, ⟨by kernel_rfl, by kernel_rfl⟩, ⟨by kernel_rfl, by kernel_rfl⟩, ⟨by kernel_rfl, by kernel_rfl⟩, ⟨by kernel_rfl, by kernel_rfl⟩, ⟨by kernel_rfl, by kernel_rfl⟩, ⟨by kernel_rfl, by kernel_rfl⟩, ⟨by kernel_rfl, by kernel_rfl⟩, ⟨by kernel_rfl, by kernel_rfl⟩, True.intro⟩
theorem mixed : Try.prog.follows .mixedOrders = true := by kernel_rfl
def inL : List Nat → Nat → Bool
  | [], _ => false
  | a :: r, n => match Nat.beq a n with | true => true | false => inL r n
def stl : Nat → Bool := inL [12, 17, 20, 32, 36, 37, 39, 53, 54, 55, 57, 59, 65, 66, 67, 79, 80, 82, 86, 92, 93, 94, 95, 97, 99, 100, 104, 105, 107, 108, 109, 110, 111, 112, 113]
/- 4: foghorn/foghornlaw11.FeedbackNames -/
def p4 : Nat → Option PlanC := fun _ => none
def wl4 : Nat → List Nat := fun _ => []
def wj4 : Nat → Option (List Nat) := fun _ => none
def kr4 : Nat → List Nat := fun _ => []
noncomputable def e4 : Ent := entOf Try.f4 ⟨p4, wl4, wj4, kr4, [2, 10]⟩
theorem g4 : EntOk Try.prog stl 4 e4 := .inr ⟨rfl, Try.func4, by kernel_rfl, by kernel_rfl, by kernel_rfl, by kernel_rfl, by kernel_rfl, rfl⟩
/- 12: foghorn/feedback.Check -/
def p12 : Nat → Option PlanC := fun _ => none
def wl12 : Nat → List Nat := fun _ => []
def wj12 : Nat → Option (List Nat) := fun _ => none
def kr12 : Nat → List Nat := fun _ => []
noncomputable def e12 : Ent := entOf Try.f12 ⟨p12, wl12, wj12, kr12, []⟩
theorem g12 : EntOk Try.prog stl 12 e12 := .inr ⟨rfl, Try.func12, by kernel_rfl, by kernel_rfl, by kernel_rfl, by kernel_rfl, by kernel_rfl, rfl⟩
/- 16: (*foghorn/feedback.Loop).Step -/
def p16 : Nat → Option PlanC := fun _ => none
def wl16 : Nat → List Nat := fun _ => []
def wj16 : Nat → Option (List Nat) := fun _ => none
def kr16 : Nat → List Nat := fun _ => []
noncomputable def e16 : Ent := entOf Try.f16 ⟨p16, wl16, wj16, kr16, [3, 9]⟩
theorem g16 : EntOk Try.prog stl 16 e16 := .inr ⟨rfl, Try.func16, by kernel_rfl, by kernel_rfl, by kernel_rfl, by kernel_rfl, by kernel_rfl, rfl⟩
/- 17: (*foghorn/feedback.Loop).Bare -/
def p17 : Nat → Option PlanC := fun _ => none
def wl17 : Nat → List Nat := fun _ => []
def wj17 : Nat → Option (List Nat) := fun _ => none
def kr17 : Nat → List Nat := fun _ => []
noncomputable def e17 : Ent := entOf Try.f17 ⟨p17, wl17, wj17, kr17, []⟩
theorem g17 : EntOk Try.prog stl 17 e17 := .inr ⟨rfl, Try.func17, by kernel_rfl, by kernel_rfl, by kernel_rfl, by kernel_rfl, by kernel_rfl, rfl⟩
/- 18: foghorn/feedback.New -/
def p18 : Nat → Option PlanC := fun _ => none
def wl18 : Nat → List Nat := fun _ => []
def wj18 : Nat → Option (List Nat) := fun _ => none
def kr18 : Nat → List Nat := fun _ => []
noncomputable def e18 : Ent := entOf Try.f18 ⟨p18, wl18, wj18, kr18, []⟩
theorem g18 : EntOk Try.prog stl 18 e18 := .inr ⟨rfl, Try.func18, by kernel_rfl, by kernel_rfl, by kernel_rfl, by kernel_rfl, by kernel_rfl, rfl⟩
/- 19: (*foghorn/feedback.Loop).Reset -/
def p19 : Nat → Option PlanC := fun _ => none
def wl19 : Nat → List Nat := fun _ => []
def wj19 : Nat → Option (List Nat) := fun _ => none
def kr19 : Nat → List Nat := fun _ => []
noncomputable def e19 : Ent := entOf Try.f19 ⟨p19, wl19, wj19, kr19, []⟩
theorem g19 : EntOk Try.prog stl 19 e19 := .inr ⟨rfl, Try.func19, by kernel_rfl, by kernel_rfl, by kernel_rfl, by kernel_rfl, by kernel_rfl, rfl⟩
/- 20: (*foghorn/feedback.Loop).Broken -/
def p20 : Nat → Option PlanC := fun _ => none
def wl20 : Nat → List Nat := fun _ => []
def wj20 : Nat → Option (List Nat) := fun _ => none
def kr20 : Nat → List Nat := fun _ => []
noncomputable def e20 : Ent := entOf Try.f20 ⟨p20, wl20, wj20, kr20, []⟩
theorem g20 : EntOk Try.prog stl 20 e20 := .inr ⟨rfl, Try.func20, by kernel_rfl, by kernel_rfl, by kernel_rfl, by kernel_rfl, by kernel_rfl, rfl⟩
/- 32: math.Float64frombits (no Go text) -/
noncomputable def e32 : Ent := extEnt
theorem g32 : EntOk Try.prog stl 32 e32 := .inl rfl
/- 36: foghorn/bounds.Taps -/
def p36 : Nat → Option PlanC := fun _ => none
def wl36 : Nat → List Nat := fun
  | 5 => [3, 16]
  | _ => []
def wj36 : Nat → Option (List Nat) := fun _ => none
def kr36 : Nat → List Nat := fun _ => []
noncomputable def e36 : Ent := entOf Try.f36 ⟨p36, wl36, wj36, kr36, []⟩
theorem g36 : EntOk Try.prog stl 36 e36 := .inr ⟨rfl, Try.func36, by kernel_rfl, by kernel_rfl, by kernel_rfl, by kernel_rfl, by kernel_rfl, rfl⟩
/- 37: foghorn/grid.On -/
def p37 : Nat → Option PlanC := fun _ => none
def wl37 : Nat → List Nat := fun _ => []
def wj37 : Nat → Option (List Nat) := fun _ => none
def kr37 : Nat → List Nat := fun _ => []
noncomputable def e37 : Ent := entOf Try.f37 ⟨p37, wl37, wj37, kr37, []⟩
theorem g37 : EntOk Try.prog stl 37 e37 := .inr ⟨rfl, Try.func37, by kernel_rfl, by kernel_rfl, by kernel_rfl, by kernel_rfl, by kernel_rfl, rfl⟩
/- 39: foghorn/bounds.First -/
def p39 : Nat → Option PlanC := fun _ => none
def wl39 : Nat → List Nat := fun _ => []
def wj39 : Nat → Option (List Nat) := fun
  | 11 => some [3]
  | _ => none
def kr39 : Nat → List Nat := fun _ => []
noncomputable def e39 : Ent := entOf Try.f39 ⟨p39, wl39, wj39, kr39, []⟩
theorem g39 : EntOk Try.prog stl 39 e39 := .inr ⟨rfl, Try.func39, by kernel_rfl, by kernel_rfl, by kernel_rfl, by kernel_rfl, by kernel_rfl, rfl⟩
/- 40: foghorn/grid.Check -/
def p40 : Nat → Option PlanC := fun _ => none
def wl40 : Nat → List Nat := fun
  | 4 => [11]
  | _ => []
def wj40 : Nat → Option (List Nat) := fun _ => none
def kr40 : Nat → List Nat := fun _ => []
noncomputable def e40 : Ent := entOf Try.f40 ⟨p40, wl40, wj40, kr40, []⟩
theorem g40 : EntOk Try.prog stl 40 e40 := .inr ⟨rfl, Try.func40, by kernel_rfl, by kernel_rfl, by kernel_rfl, by kernel_rfl, by kernel_rfl, rfl⟩
/- 41: (*foghorn/feedback.Loop).without -/
def p41 : Nat → Option PlanC := fun _ => none
def wl41 : Nat → List Nat := fun
  | 3 => [5, 6, 7]
  | _ => []
def wj41 : Nat → Option (List Nat) := fun _ => none
def kr41 : Nat → List Nat := fun _ => []
noncomputable def e41 : Ent := entOf Try.f41 ⟨p41, wl41, wj41, kr41, []⟩
theorem g41 : EntOk Try.prog stl 41 e41 := .inr ⟨rfl, Try.func41, by kernel_rfl, by kernel_rfl, by kernel_rfl, by kernel_rfl, by kernel_rfl, rfl⟩
/- 42: foghorn/slice.Decide -/
def p42 : Nat → Option PlanC := fun _ => none
def wl42 : Nat → List Nat := fun _ => []
def wj42 : Nat → Option (List Nat) := fun _ => none
def kr42 : Nat → List Nat := fun _ => []
noncomputable def e42 : Ent := entOf Try.f42 ⟨p42, wl42, wj42, kr42, []⟩
theorem g42 : EntOk Try.prog stl 42 e42 := .inr ⟨rfl, Try.func42, by kernel_rfl, by kernel_rfl, by kernel_rfl, by kernel_rfl, by kernel_rfl, rfl⟩
/- 43: foghorn/points.Bits -/
def p43 : Nat → Option PlanC := fun _ => none
def wl43 : Nat → List Nat := fun _ => []
def wj43 : Nat → Option (List Nat) := fun _ => none
def kr43 : Nat → List Nat := fun _ => []
noncomputable def e43 : Ent := entOf Try.f43 ⟨p43, wl43, wj43, kr43, [4]⟩
theorem g43 : EntOk Try.prog stl 43 e43 := .inr ⟨rfl, Try.func43, by kernel_rfl, by kernel_rfl, by kernel_rfl, by kernel_rfl, by kernel_rfl, rfl⟩
/- 44: slices.Clone[[]complex128,complex128] -/
def p44 : Nat → Option PlanC := fun _ => none
def wl44 : Nat → List Nat := fun _ => []
def wj44 : Nat → Option (List Nat) := fun _ => none
def kr44 : Nat → List Nat := fun _ => []
noncomputable def e44 : Ent := entOf Try.f44 ⟨p44, wl44, wj44, kr44, []⟩
theorem g44 : EntOk Try.prog stl 44 e44 := .inr ⟨rfl, Try.func44, by kernel_rfl, by kernel_rfl, by kernel_rfl, by kernel_rfl, by kernel_rfl, rfl⟩
/- 53: foghorn/bounds.Fine -/
def p53 : Nat → Option PlanC := fun _ => none
def wl53 : Nat → List Nat := fun _ => []
def wj53 : Nat → Option (List Nat) := fun _ => none
def kr53 : Nat → List Nat := fun _ => []
noncomputable def e53 : Ent := entOf Try.f53 ⟨p53, wl53, wj53, kr53, []⟩
theorem g53 : EntOk Try.prog stl 53 e53 := .inr ⟨rfl, Try.func53, by kernel_rfl, by kernel_rfl, by kernel_rfl, by kernel_rfl, by kernel_rfl, rfl⟩
/- 54: math.Abs -/
def p54 : Nat → Option PlanC := fun _ => none
def wl54 : Nat → List Nat := fun _ => []
def wj54 : Nat → Option (List Nat) := fun _ => none
def kr54 : Nat → List Nat := fun _ => []
noncomputable def e54 : Ent := entOf Try.f54 ⟨p54, wl54, wj54, kr54, []⟩
theorem g54 : EntOk Try.prog stl 54 e54 := .inr ⟨rfl, Try.func54, by kernel_rfl, by kernel_rfl, by kernel_rfl, by kernel_rfl, by kernel_rfl, rfl⟩
/- 55: math.Trunc -/
def p55 : Nat → Option PlanC := fun _ => none
def wl55 : Nat → List Nat := fun _ => []
def wj55 : Nat → Option (List Nat) := fun _ => none
def kr55 : Nat → List Nat := fun _ => []
noncomputable def e55 : Ent := entOf Try.f55 ⟨p55, wl55, wj55, kr55, []⟩
theorem g55 : EntOk Try.prog stl 55 e55 := .inr ⟨rfl, Try.func55, by kernel_rfl, by kernel_rfl, by kernel_rfl, by kernel_rfl, by kernel_rfl, rfl⟩
/- 57: foghorn/plane.Mul -/
def p57 : Nat → Option PlanC := fun _ => none
def wl57 : Nat → List Nat := fun _ => []
def wj57 : Nat → Option (List Nat) := fun _ => none
def kr57 : Nat → List Nat := fun _ => []
noncomputable def e57 : Ent := entOf Try.f57 ⟨p57, wl57, wj57, kr57, []⟩
theorem g57 : EntOk Try.prog stl 57 e57 := .inr ⟨rfl, Try.func57, by kernel_rfl, by kernel_rfl, by kernel_rfl, by kernel_rfl, by kernel_rfl, rfl⟩
/- 58: foghorn/grid.mayBe -/
def p58 : Nat → Option PlanC := fun _ => none
def wl58 : Nat → List Nat := fun _ => []
def wj58 : Nat → Option (List Nat) := fun _ => none
def kr58 : Nat → List Nat := fun _ => []
noncomputable def e58 : Ent := entOf Try.f58 ⟨p58, wl58, wj58, kr58, [1]⟩
theorem g58 : EntOk Try.prog stl 58 e58 := .inr ⟨rfl, Try.func58, by kernel_rfl, by kernel_rfl, by kernel_rfl, by kernel_rfl, by kernel_rfl, rfl⟩
/- 59: foghorn/plane.Turn -/
def p59 : Nat → Option PlanC := fun _ => none
def wl59 : Nat → List Nat := fun _ => []
def wj59 : Nat → Option (List Nat) := fun _ => none
def kr59 : Nat → List Nat := fun _ => []
noncomputable def e59 : Ent := entOf Try.f59 ⟨p59, wl59, wj59, kr59, []⟩
theorem g59 : EntOk Try.prog stl 59 e59 := .inr ⟨rfl, Try.func59, by kernel_rfl, by kernel_rfl, by kernel_rfl, by kernel_rfl, by kernel_rfl, rfl⟩
/- 60: foghorn/slice.deciders -/
def p60 : Nat → Option PlanC := fun _ => none
def wl60 : Nat → List Nat := fun _ => []
def wj60 : Nat → Option (List Nat) := fun _ => none
def kr60 : Nat → List Nat := fun _ => []
noncomputable def e60 : Ent := entOf Try.f60 ⟨p60, wl60, wj60, kr60, []⟩
theorem g60 : EntOk Try.prog stl 60 e60 := .inr ⟨rfl, Try.func60, by kernel_rfl, by kernel_rfl, by kernel_rfl, by kernel_rfl, by kernel_rfl, rfl⟩
/- 61: foghorn/points.of -/
def p61 : Nat → Option PlanC := fun _ => none
def wl61 : Nat → List Nat := fun _ => []
def wj61 : Nat → Option (List Nat) := fun _ => none
def kr61 : Nat → List Nat := fun _ => []
noncomputable def e61 : Ent := entOf Try.f61 ⟨p61, wl61, wj61, kr61, []⟩
theorem g61 : EntOk Try.prog stl 61 e61 := .inr ⟨rfl, Try.func61, by kernel_rfl, by kernel_rfl, by kernel_rfl, by kernel_rfl, by kernel_rfl, rfl⟩
/- 65: math.Float64bits (no Go text) -/
noncomputable def e65 : Ent := extEnt
theorem g65 : EntOk Try.prog stl 65 e65 := .inl rfl
/- 66: math.archTrunc (no Go text) -/
noncomputable def e66 : Ent := extEnt
theorem g66 : EntOk Try.prog stl 66 e66 := .inl rfl
/- 67: math.trunc -/
def p67 : Nat → Option PlanC := fun _ => none
def wl67 : Nat → List Nat := fun _ => []
def wj67 : Nat → Option (List Nat) := fun
  | 7 => some [3]
  | _ => none
def kr67 : Nat → List Nat := fun _ => []
noncomputable def e67 : Ent := entOf Try.f67 ⟨p67, wl67, wj67, kr67, []⟩
theorem g67 : EntOk Try.prog stl 67 e67 := .inr ⟨rfl, Try.func67, by kernel_rfl, by kernel_rfl, by kernel_rfl, by kernel_rfl, by kernel_rfl, rfl⟩
/- 68: foghorn/slice.deciders$1 -/
def p68 : Nat → Option PlanC := fun _ => none
def wl68 : Nat → List Nat := fun _ => []
def wj68 : Nat → Option (List Nat) := fun _ => none
def kr68 : Nat → List Nat := fun _ => []
noncomputable def e68 : Ent := entOf Try.f68 ⟨p68, wl68, wj68, kr68, []⟩
theorem g68 : EntOk Try.prog stl 68 e68 := .inr ⟨rfl, Try.func68, by kernel_rfl, by kernel_rfl, by kernel_rfl, by kernel_rfl, by kernel_rfl, rfl⟩
/- 69: foghorn/slice.deciders$1$1 -/
def p69 : Nat → Option PlanC := fun _ => none
def wl69 : Nat → List Nat := fun _ => []
def wj69 : Nat → Option (List Nat) := fun _ => none
def kr69 : Nat → List Nat := fun _ => []
noncomputable def e69 : Ent := entOf Try.f69 ⟨p69, wl69, wj69, kr69, []⟩
theorem g69 : EntOk Try.prog stl 69 e69 := .inr ⟨rfl, Try.func69, by kernel_rfl, by kernel_rfl, by kernel_rfl, by kernel_rfl, by kernel_rfl, rfl⟩
/- 70: foghorn/slice.bySquare -/
def p70 : Nat → Option PlanC := fun _ => none
def wl70 : Nat → List Nat := fun _ => []
def wj70 : Nat → Option (List Nat) := fun _ => none
def kr70 : Nat → List Nat := fun _ => []
noncomputable def e70 : Ent := entOf Try.f70 ⟨p70, wl70, wj70, kr70, []⟩
theorem g70 : EntOk Try.prog stl 70 e70 := .inr ⟨rfl, Try.func70, by kernel_rfl, by kernel_rfl, by kernel_rfl, by kernel_rfl, by kernel_rfl, rfl⟩
/- 71: foghorn/slice.deciders$2 -/
def p71 : Nat → Option PlanC := fun _ => none
def wl71 : Nat → List Nat := fun _ => []
def wj71 : Nat → Option (List Nat) := fun _ => none
def kr71 : Nat → List Nat := fun _ => []
noncomputable def e71 : Ent := entOf Try.f71 ⟨p71, wl71, wj71, kr71, []⟩
theorem g71 : EntOk Try.prog stl 71 e71 := .inr ⟨rfl, Try.func71, by kernel_rfl, by kernel_rfl, by kernel_rfl, by kernel_rfl, by kernel_rfl, rfl⟩
/- 72: foghorn/slice.deciders$2$1 -/
def p72 : Nat → Option PlanC := fun _ => none
def wl72 : Nat → List Nat := fun _ => []
def wj72 : Nat → Option (List Nat) := fun _ => none
def kr72 : Nat → List Nat := fun _ => []
noncomputable def e72 : Ent := entOf Try.f72 ⟨p72, wl72, wj72, kr72, []⟩
theorem g72 : EntOk Try.prog stl 72 e72 := .inr ⟨rfl, Try.func72, by kernel_rfl, by kernel_rfl, by kernel_rfl, by kernel_rfl, by kernel_rfl, rfl⟩
/- 73: foghorn/slice.byCross -/
def p73 : Nat → Option PlanC := fun
  | 9 => some (.op 0 false (.op 1 false (.op 2 false (.op 3 false (.op 4 false (.op 5 false (.op 6 false (.op 7 false (.op 8 false (.op 9 false (.op 10 false (.op 11 false (.op 12 false (.done))))))))))))))
  | _ => none
def wl73 : Nat → List Nat := fun
  | 7 => [7, 25]
  | _ => []
def wj73 : Nat → Option (List Nat) := fun
  | 11 => some [7]
  | _ => none
def kr73 : Nat → List Nat := fun _ => []
noncomputable def e73 : Ent := entOf Try.f73 ⟨p73, wl73, wj73, kr73, []⟩
theorem g73 : EntOk Try.prog stl 73 e73 := .inr ⟨rfl, Try.func73, by kernel_rfl, by kernel_rfl, by kernel_rfl, by kernel_rfl, by kernel_rfl, rfl⟩
/- 74: foghorn/points.square -/
def p74 : Nat → Option PlanC := fun _ => none
def wl74 : Nat → List Nat := fun _ => []
def wj74 : Nat → Option (List Nat) := fun _ => none
def kr74 : Nat → List Nat := fun _ => []
noncomputable def e74 : Ent := entOf Try.f74 ⟨p74, wl74, wj74, kr74, []⟩
theorem g74 : EntOk Try.prog stl 74 e74 := .inr ⟨rfl, Try.func74, by kernel_rfl, by kernel_rfl, by kernel_rfl, by kernel_rfl, by kernel_rfl, rfl⟩
/- 75: foghorn/points.cross -/
def p75 : Nat → Option PlanC := fun _ => none
def wl75 : Nat → List Nat := fun _ => []
def wj75 : Nat → Option (List Nat) := fun _ => none
def kr75 : Nat → List Nat := fun _ => []
noncomputable def e75 : Ent := entOf Try.f75 ⟨p75, wl75, wj75, kr75, []⟩
theorem g75 : EntOk Try.prog stl 75 e75 := .inr ⟨rfl, Try.func75, by kernel_rfl, by kernel_rfl, by kernel_rfl, by kernel_rfl, by kernel_rfl, rfl⟩
/- 79: math.Copysign -/
def p79 : Nat → Option PlanC := fun _ => none
def wl79 : Nat → List Nat := fun _ => []
def wj79 : Nat → Option (List Nat) := fun _ => none
def kr79 : Nat → List Nat := fun _ => []
noncomputable def e79 : Ent := entOf Try.f79 ⟨p79, wl79, wj79, kr79, []⟩
theorem g79 : EntOk Try.prog stl 79 e79 := .inr ⟨rfl, Try.func79, by kernel_rfl, by kernel_rfl, by kernel_rfl, by kernel_rfl, by kernel_rfl, rfl⟩
/- 80: foghorn/slice.isLost -/
def p80 : Nat → Option PlanC := fun _ => none
def wl80 : Nat → List Nat := fun _ => []
def wj80 : Nat → Option (List Nat) := fun _ => none
def kr80 : Nat → List Nat := fun _ => []
noncomputable def e80 : Ent := entOf Try.f80 ⟨p80, wl80, wj80, kr80, []⟩
theorem g80 : EntOk Try.prog stl 80 e80 := .inr ⟨rfl, Try.func80, by kernel_rfl, by kernel_rfl, by kernel_rfl, by kernel_rfl, by kernel_rfl, rfl⟩
/- 81: foghorn/points.Edge -/
def p81 : Nat → Option PlanC := fun _ => none
def wl81 : Nat → List Nat := fun _ => []
def wj81 : Nat → Option (List Nat) := fun _ => none
def kr81 : Nat → List Nat := fun _ => []
noncomputable def e81 : Ent := entOf Try.f81 ⟨p81, wl81, wj81, kr81, [4]⟩
theorem g81 : EntOk Try.prog stl 81 e81 := .inr ⟨rfl, Try.func81, by kernel_rfl, by kernel_rfl, by kernel_rfl, by kernel_rfl, by kernel_rfl, rfl⟩
/- 82: foghorn/slice.Axis -/
def p82 : Nat → Option PlanC := fun _ => none
def wl82 : Nat → List Nat := fun _ => []
def wj82 : Nat → Option (List Nat) := fun
  | 6 => some [6]
  | _ => none
def kr82 : Nat → List Nat := fun _ => []
noncomputable def e82 : Ent := entOf Try.f82 ⟨p82, wl82, wj82, kr82, []⟩
theorem g82 : EntOk Try.prog stl 82 e82 := .inr ⟨rfl, Try.func82, by kernel_rfl, by kernel_rfl, by kernel_rfl, by kernel_rfl, by kernel_rfl, rfl⟩
/- 83: foghorn/points.Label -/
def p83 : Nat → Option PlanC := fun _ => none
def wl83 : Nat → List Nat := fun _ => []
def wj83 : Nat → Option (List Nat) := fun _ => none
def kr83 : Nat → List Nat := fun _ => []
noncomputable def e83 : Ent := entOf Try.f83 ⟨p83, wl83, wj83, kr83, [6]⟩
theorem g83 : EntOk Try.prog stl 83 e83 := .inr ⟨rfl, Try.func83, by kernel_rfl, by kernel_rfl, by kernel_rfl, by kernel_rfl, by kernel_rfl, rfl⟩
/- 84: foghorn/slice.Cut -/
def p84 : Nat → Option PlanC := fun _ => none
def wl84 : Nat → List Nat := fun _ => []
def wj84 : Nat → Option (List Nat) := fun _ => none
def kr84 : Nat → List Nat := fun _ => []
noncomputable def e84 : Ent := entOf Try.f84 ⟨p84, wl84, wj84, kr84, []⟩
theorem g84 : EntOk Try.prog stl 84 e84 := .inr ⟨rfl, Try.func84, by kernel_rfl, by kernel_rfl, by kernel_rfl, by kernel_rfl, by kernel_rfl, rfl⟩
/- 85: foghorn/points.All -/
def p85 : Nat → Option PlanC := fun _ => none
def wl85 : Nat → List Nat := fun
  | 6 => [19]
  | _ => []
def wj85 : Nat → Option (List Nat) := fun _ => none
def kr85 : Nat → List Nat := fun _ => []
noncomputable def e85 : Ent := entOf Try.f85 ⟨p85, wl85, wj85, kr85, [4]⟩
theorem g85 : EntOk Try.prog stl 85 e85 := .inr ⟨rfl, Try.func85, by kernel_rfl, by kernel_rfl, by kernel_rfl, by kernel_rfl, by kernel_rfl, rfl⟩
/- 86: foghorn/plane.Apart -/
def p86 : Nat → Option PlanC := fun _ => none
def wl86 : Nat → List Nat := fun _ => []
def wj86 : Nat → Option (List Nat) := fun _ => none
def kr86 : Nat → List Nat := fun _ => []
noncomputable def e86 : Ent := entOf Try.f86 ⟨p86, wl86, wj86, kr86, []⟩
theorem g86 : EntOk Try.prog stl 86 e86 := .inr ⟨rfl, Try.func86, by kernel_rfl, by kernel_rfl, by kernel_rfl, by kernel_rfl, by kernel_rfl, rfl⟩
/- 87: foghorn/points.squareAt -/
def p87 : Nat → Option PlanC := fun
  | 2 => some (.op 0 false (.op 1 false (.op 2 false (.op 3 false (.op 4 false (.op 5 false (.op 6 false (.op 7 false (.op 8 false (.op 9 false (.op 10 false (.op 11 false (.op 12 false (.done))))))))))))))
  | _ => none
def wl87 : Nat → List Nat := fun _ => []
def wj87 : Nat → Option (List Nat) := fun _ => none
def kr87 : Nat → List Nat := fun _ => []
noncomputable def e87 : Ent := entOf Try.f87 ⟨p87, wl87, wj87, kr87, [2]⟩
theorem g87 : EntOk Try.prog stl 87 e87 := .inr ⟨rfl, Try.func87, by kernel_rfl, by kernel_rfl, by kernel_rfl, by kernel_rfl, by kernel_rfl, rfl⟩
/- 88: foghorn/points.squareLabel -/
def p88 : Nat → Option PlanC := fun
  | 1 => some (.op 0 false (.op 1 false (.op 2 false (.op 3 false (.op 4 false (.op 5 false (.op 6 false (.op 7 false (.op 8 false (.op 9 false (.done)))))))))))
  | _ => none
def wl88 : Nat → List Nat := fun _ => []
def wj88 : Nat → Option (List Nat) := fun _ => none
def kr88 : Nat → List Nat := fun _ => []
noncomputable def e88 : Ent := entOf Try.f88 ⟨p88, wl88, wj88, kr88, [3]⟩
theorem g88 : EntOk Try.prog stl 88 e88 := .inr ⟨rfl, Try.func88, by kernel_rfl, by kernel_rfl, by kernel_rfl, by kernel_rfl, by kernel_rfl, rfl⟩
/- 89: foghorn/points.crossAt -/
def p89 : Nat → Option PlanC := fun
  | 5 => some (.op 2 false (.op 3 false (.op 1 true (.op 5 true (.alt 0 (.op 4 false (.op 6 false (.op 7 false (.op 8 false (.done))))) (.alt 4 (.op 0 false (.op 6 false (.op 7 false (.op 8 false (.done))))) (.fin)))))))
  | _ => none
def wl89 : Nat → List Nat := fun
  | 2 => [1, 5]
  | _ => []
def wj89 : Nat → Option (List Nat) := fun _ => none
def kr89 : Nat → List Nat := fun _ => []
noncomputable def e89 : Ent := entOf Try.f89 ⟨p89, wl89, wj89, kr89, [2]⟩
theorem g89 : EntOk Try.prog stl 89 e89 := .inr ⟨rfl, Try.func89, by kernel_rfl, by kernel_rfl, by kernel_rfl, by kernel_rfl, by kernel_rfl, rfl⟩
/- 90: foghorn/points.crossLabel -/
def p90 : Nat → Option PlanC := fun _ => none
def wl90 : Nat → List Nat := fun
  | 3 => [7, 15]
  | _ => []
def wj90 : Nat → Option (List Nat) := fun _ => none
def kr90 : Nat → List Nat := fun _ => []
noncomputable def e90 : Ent := entOf Try.f90 ⟨p90, wl90, wj90, kr90, [3]⟩
theorem g90 : EntOk Try.prog stl 90 e90 := .inr ⟨rfl, Try.func90, by kernel_rfl, by kernel_rfl, by kernel_rfl, by kernel_rfl, by kernel_rfl, rfl⟩
/- 92: math.IsNaN -/
def p92 : Nat → Option PlanC := fun _ => none
def wl92 : Nat → List Nat := fun _ => []
def wj92 : Nat → Option (List Nat) := fun _ => none
def kr92 : Nat → List Nat := fun _ => []
noncomputable def e92 : Ent := entOf Try.f92 ⟨p92, wl92, wj92, kr92, []⟩
theorem g92 : EntOk Try.prog stl 92 e92 := .inr ⟨rfl, Try.func92, by kernel_rfl, by kernel_rfl, by kernel_rfl, by kernel_rfl, by kernel_rfl, rfl⟩
/- 93: math.IsInf -/
def p93 : Nat → Option PlanC := fun _ => none
def wl93 : Nat → List Nat := fun _ => []
def wj93 : Nat → Option (List Nat) := fun
  | 5 => some [0]
  | _ => none
def kr93 : Nat → List Nat := fun _ => []
noncomputable def e93 : Ent := entOf Try.f93 ⟨p93, wl93, wj93, kr93, []⟩
theorem g93 : EntOk Try.prog stl 93 e93 := .inr ⟨rfl, Try.func93, by kernel_rfl, by kernel_rfl, by kernel_rfl, by kernel_rfl, by kernel_rfl, rfl⟩
/- 94: math.Ceil -/
def p94 : Nat → Option PlanC := fun _ => none
def wl94 : Nat → List Nat := fun _ => []
def wj94 : Nat → Option (List Nat) := fun _ => none
def kr94 : Nat → List Nat := fun _ => []
noncomputable def e94 : Ent := entOf Try.f94 ⟨p94, wl94, wj94, kr94, []⟩
theorem g94 : EntOk Try.prog stl 94 e94 := .inr ⟨rfl, Try.func94, by kernel_rfl, by kernel_rfl, by kernel_rfl, by kernel_rfl, by kernel_rfl, rfl⟩
/- 95: foghorn/slice.clamped -/
def p95 : Nat → Option PlanC := fun _ => none
def wl95 : Nat → List Nat := fun _ => []
def wj95 : Nat → Option (List Nat) := fun _ => none
def kr95 : Nat → List Nat := fun _ => []
noncomputable def e95 : Ent := entOf Try.f95 ⟨p95, wl95, wj95, kr95, []⟩
theorem g95 : EntOk Try.prog stl 95 e95 := .inr ⟨rfl, Try.func95, by kernel_rfl, by kernel_rfl, by kernel_rfl, by kernel_rfl, by kernel_rfl, rfl⟩
/- 96: (foghorn/points.set).labelOf -/
def p96 : Nat → Option PlanC := fun
  | 3 => some (.op 0 false (.op 1 false (.op 2 false (.op 3 false (.op 4 false (.op 5 false (.op 6 false (.op 8 false (.op 9 false (.op 7 true (.op 10 false (.op 11 false (.op 12 false (.op 13 false (.op 17 false (.op 18 false (.op 14 true (.alt 15 (.alt 16 (.op 19 false (.op 20 false (.op 21 false (.op 22 false (.done))))) (.alt 19 (.op 16 false (.op 20 false (.op 21 false (.op 22 false (.done))))) (.fin))) (.alt 19 (.op 15 false (.op 16 false (.op 20 false (.op 21 false (.op 22 false (.done)))))) (.fin))))))))))))))))))))
  | _ => none
def wl96 : Nat → List Nat := fun _ => []
def wj96 : Nat → Option (List Nat) := fun _ => none
def kr96 : Nat → List Nat := fun _ => []
noncomputable def e96 : Ent := entOf Try.f96 ⟨p96, wl96, wj96, kr96, [2]⟩
theorem g96 : EntOk Try.prog stl 96 e96 := .inr ⟨rfl, Try.func96, by kernel_rfl, by kernel_rfl, by kernel_rfl, by kernel_rfl, by kernel_rfl, rfl⟩
/- 97: foghorn/plane.Norm -/
def p97 : Nat → Option PlanC := fun _ => none
def wl97 : Nat → List Nat := fun _ => []
def wj97 : Nat → Option (List Nat) := fun _ => none
def kr97 : Nat → List Nat := fun _ => []
noncomputable def e97 : Ent := entOf Try.f97 ⟨p97, wl97, wj97, kr97, []⟩
theorem g97 : EntOk Try.prog stl 97 e97 := .inr ⟨rfl, Try.func97, by kernel_rfl, by kernel_rfl, by kernel_rfl, by kernel_rfl, by kernel_rfl, rfl⟩
/- 98: (foghorn/points.set).point -/
def p98 : Nat → Option PlanC := fun _ => none
def wl98 : Nat → List Nat := fun _ => []
def wj98 : Nat → Option (List Nat) := fun _ => none
def kr98 : Nat → List Nat := fun _ => []
noncomputable def e98 : Ent := entOf Try.f98 ⟨p98, wl98, wj98, kr98, [3]⟩
theorem g98 : EntOk Try.prog stl 98 e98 := .inr ⟨rfl, Try.func98, by kernel_rfl, by kernel_rfl, by kernel_rfl, by kernel_rfl, by kernel_rfl, rfl⟩
/- 99: foghorn/points.ungray -/
def p99 : Nat → Option PlanC := fun _ => none
def wl99 : Nat → List Nat := fun _ => []
def wj99 : Nat → Option (List Nat) := fun _ => none
def kr99 : Nat → List Nat := fun _ => []
noncomputable def e99 : Ent := entOf Try.f99 ⟨p99, wl99, wj99, kr99, []⟩
theorem g99 : EntOk Try.prog stl 99 e99 := .inr ⟨rfl, Try.func99, by kernel_rfl, by kernel_rfl, by kernel_rfl, by kernel_rfl, by kernel_rfl, rfl⟩
/- 100: foghorn/points.gray -/
def p100 : Nat → Option PlanC := fun _ => none
def wl100 : Nat → List Nat := fun _ => []
def wj100 : Nat → Option (List Nat) := fun _ => none
def kr100 : Nat → List Nat := fun _ => []
noncomputable def e100 : Ent := entOf Try.f100 ⟨p100, wl100, wj100, kr100, []⟩
theorem g100 : EntOk Try.prog stl 100 e100 := .inr ⟨rfl, Try.func100, by kernel_rfl, by kernel_rfl, by kernel_rfl, by kernel_rfl, by kernel_rfl, rfl⟩
/- 101: (foghorn/points.set).rows -/
def p101 : Nat → Option PlanC := fun
  | 1 => some (.op 3 false (.op 4 false (.op 0 true (.alt 1 (.op 2 true (.op 5 false (.op 6 false (.op 7 false (.op 8 false (.done)))))) (.alt 5 (.op 1 false (.op 2 false (.op 6 false (.op 7 false (.op 8 false (.done)))))) (.fin))))))
  | _ => none
def wl101 : Nat → List Nat := fun _ => []
def wj101 : Nat → Option (List Nat) := fun _ => none
def kr101 : Nat → List Nat := fun _ => []
noncomputable def e101 : Ent := entOf Try.f101 ⟨p101, wl101, wj101, kr101, [2]⟩
theorem g101 : EntOk Try.prog stl 101 e101 := .inr ⟨rfl, Try.func101, by kernel_rfl, by kernel_rfl, by kernel_rfl, by kernel_rfl, by kernel_rfl, rfl⟩
/- 102: (foghorn/points.set).first -/
def p102 : Nat → Option PlanC := fun _ => none
def wl102 : Nat → List Nat := fun _ => []
def wj102 : Nat → Option (List Nat) := fun _ => none
def kr102 : Nat → List Nat := fun _ => []
noncomputable def e102 : Ent := entOf Try.f102 ⟨p102, wl102, wj102, kr102, [2]⟩
theorem g102 : EntOk Try.prog stl 102 e102 := .inr ⟨rfl, Try.func102, by kernel_rfl, by kernel_rfl, by kernel_rfl, by kernel_rfl, by kernel_rfl, rfl⟩
/- 104: math.archCeil (no Go text) -/
noncomputable def e104 : Ent := extEnt
theorem g104 : EntOk Try.prog stl 104 e104 := .inl rfl
/- 105: math.ceil -/
def p105 : Nat → Option PlanC := fun _ => none
def wl105 : Nat → List Nat := fun _ => []
def wj105 : Nat → Option (List Nat) := fun _ => none
def kr105 : Nat → List Nat := fun _ => []
noncomputable def e105 : Ent := entOf Try.f105 ⟨p105, wl105, wj105, kr105, []⟩
theorem g105 : EntOk Try.prog stl 105 e105 := .inr ⟨rfl, Try.func105, by kernel_rfl, by kernel_rfl, by kernel_rfl, by kernel_rfl, by kernel_rfl, rfl⟩
/- 106: (foghorn/points.set).place -/
def p106 : Nat → Option PlanC := fun
  | 1 => some (.op 0 false (.op 1 false (.op 2 false (.op 3 false (.op 4 false (.op 5 false (.op 6 false (.op 7 false (.op 8 false (.op 9 false (.op 10 false (.op 11 false (.op 12 false (.done))))))))))))))
  | _ => none
def wl106 : Nat → List Nat := fun _ => []
def wj106 : Nat → Option (List Nat) := fun _ => none
def kr106 : Nat → List Nat := fun _ => []
noncomputable def e106 : Ent := entOf Try.f106 ⟨p106, wl106, wj106, kr106, [2]⟩
theorem g106 : EntOk Try.prog stl 106 e106 := .inr ⟨rfl, Try.func106, by kernel_rfl, by kernel_rfl, by kernel_rfl, by kernel_rfl, by kernel_rfl, rfl⟩
/- 107: foghorn/bits.Ungray -/
def p107 : Nat → Option PlanC := fun _ => none
def wl107 : Nat → List Nat := fun
  | 4 => [0, 4]
  | _ => []
def wj107 : Nat → Option (List Nat) := fun _ => none
def kr107 : Nat → List Nat := fun _ => []
noncomputable def e107 : Ent := entOf Try.f107 ⟨p107, wl107, wj107, kr107, []⟩
theorem g107 : EntOk Try.prog stl 107 e107 := .inr ⟨rfl, Try.func107, by kernel_rfl, by kernel_rfl, by kernel_rfl, by kernel_rfl, by kernel_rfl, rfl⟩
/- 108: foghorn/bits.Gray -/
def p108 : Nat → Option PlanC := fun _ => none
def wl108 : Nat → List Nat := fun _ => []
def wj108 : Nat → Option (List Nat) := fun _ => none
def kr108 : Nat → List Nat := fun _ => []
noncomputable def e108 : Ent := entOf Try.f108 ⟨p108, wl108, wj108, kr108, []⟩
theorem g108 : EntOk Try.prog stl 108 e108 := .inr ⟨rfl, Try.func108, by kernel_rfl, by kernel_rfl, by kernel_rfl, by kernel_rfl, by kernel_rfl, rfl⟩
/- 109: math.Floor -/
def p109 : Nat → Option PlanC := fun _ => none
def wl109 : Nat → List Nat := fun _ => []
def wj109 : Nat → Option (List Nat) := fun _ => none
def kr109 : Nat → List Nat := fun _ => []
noncomputable def e109 : Ent := entOf Try.f109 ⟨p109, wl109, wj109, kr109, []⟩
theorem g109 : EntOk Try.prog stl 109 e109 := .inr ⟨rfl, Try.func109, by kernel_rfl, by kernel_rfl, by kernel_rfl, by kernel_rfl, by kernel_rfl, rfl⟩
/- 110: foghorn/bits.isGray -/
def p110 : Nat → Option PlanC := fun _ => none
def wl110 : Nat → List Nat := fun _ => []
def wj110 : Nat → Option (List Nat) := fun _ => none
def kr110 : Nat → List Nat := fun _ => []
noncomputable def e110 : Ent := entOf Try.f110 ⟨p110, wl110, wj110, kr110, []⟩
theorem g110 : EntOk Try.prog stl 110 e110 := .inr ⟨rfl, Try.func110, by kernel_rfl, by kernel_rfl, by kernel_rfl, by kernel_rfl, by kernel_rfl, rfl⟩
/- 111: math.archFloor (no Go text) -/
noncomputable def e111 : Ent := extEnt
theorem g111 : EntOk Try.prog stl 111 e111 := .inl rfl
/- 112: math.floor -/
def p112 : Nat → Option PlanC := fun _ => none
def wl112 : Nat → List Nat := fun _ => []
def wj112 : Nat → Option (List Nat) := fun
  | 7 => some [3]
  | _ => none
def kr112 : Nat → List Nat := fun _ => []
noncomputable def e112 : Ent := entOf Try.f112 ⟨p112, wl112, wj112, kr112, []⟩
theorem g112 : EntOk Try.prog stl 112 e112 := .inr ⟨rfl, Try.func112, by kernel_rfl, by kernel_rfl, by kernel_rfl, by kernel_rfl, by kernel_rfl, rfl⟩
/- 113: math.Modf -/
def p113 : Nat → Option PlanC := fun _ => none
def wl113 : Nat → List Nat := fun _ => []
def wj113 : Nat → Option (List Nat) := fun _ => none
def kr113 : Nat → List Nat := fun _ => []
noncomputable def e113 : Ent := entOf Try.f113 ⟨p113, wl113, wj113, kr113, []⟩
theorem g113 : EntOk Try.prog stl 113 e113 := .inr ⟨rfl, Try.func113, by kernel_rfl, by kernel_rfl, by kernel_rfl, by kernel_rfl, by kernel_rfl, rfl⟩
noncomputable def ents : List (Nat × Ent) := [(4, e4), (12, e12), (16, e16), (17, e17), (18, e18), (19, e19), (20, e20), (32, e32), (36, e36), (37, e37), (39, e39), (40, e40), (41, e41), (42, e42), (43, e43), (44, e44), (53, e53), (54, e54), (55, e55), (57, e57), (58, e58), (59, e59), (60, e60), (61, e61), (65, e65), (66, e66), (67, e67), (68, e68), (69, e69), (70, e70), (71, e71), (72, e72), (73, e73), (74, e74), (75, e75), (79, e79), (80, e80), (81, e81), (82, e82), (83, e83), (84, e84), (85, e85), (86, e86), (87, e87), (88, e88), (89, e89), (90, e90), (92, e92), (93, e93), (94, e94), (95, e95), (96, e96), (97, e97), (98, e98), (99, e99), (100, e100), (101, e101), (102, e102), (104, e104), (105, e105), (106, e106), (107, e107), (108, e108), (109, e109), (110, e110), (111, e111), (112, e112), (113, e113)]
theorem goods : EntsOk Try.prog stl ents := ⟨g4, g12, g16, g17, g18, g19, g20, g32, g36, g37, g39, g40, g41, g42, g43, g44, g53, g54, g55, g57, g58, g59, g60, g61, g65, g66, g67, g68, g69, g70, g71, g72, g73, g74, g75, g79, g80, g81, g82, g83, g84, g85, g86, g87, g88, g89, g90, g92, g93, g94, g95, g96, g97, g98, g99, g100, g101, g102, g104, g105, g106, g107, g108, g109, g110, g111, g112, g113, True.intro⟩
noncomputable def tab : Nat → Option Ent := (tabOf ents).get
theorem fok : FOk Try.prog stl tab := fok_of goods
noncomputable def d0 : Disp := .leaf
theorem d0_ok : CallSim Try.prog tys stl tab d0.fn := Disp.sim True.intro
/- (*foghorn/feedback.Loop).Bare -/
noncomputable def R17 (q_share : (α : Type) → α → (α → Bool) → Bool) (q_genW : Option CV → (W → Bool) → Bool) (q_notW : Option CV → W → (W → Bool) → Bool) (q_condW : W → Bool → Bool → Bool) (q_guardW : Bool → W → Bool → Bool → Bool) (q_pickW : W → W → W → (W → Bool) → Bool) (q_nilcW : W → (W → Bool) → Bool) (q_fadW : Nat → W → (W → Bool) → Bool) (q_loadSW : HW → W → (W → Bool) → Bool) (fu : Nat) (call : CallW) (a0 : W) (h0 : HW) (c0 : Nat) (K : KW) : Bool :=
q_genW (binC Try.prog .eql 36 (.tmp 4) (.const (.pointer none)) (dec a0) (dec ⟨12, 0, ⟨0, 0, 0, .nilp⟩, []⟩)) fun v1 =>
q_condW v1 (
K ⟨13, 0, r0, [⟨12, 0, ⟨0, 0, 0, .cpx .f64 0 0⟩, []⟩, ⟨3, 2, r0, []⟩]⟩ h0 c0) (
q_nilcW a0 fun v2 =>
q_fadW 70 v2 fun v3 =>
q_loadSW h0 v3 fun v4 =>
q_notW (two Try.prog (dec v4) (Op.unary .not)) v4 fun v5 =>
q_share _ (fun (v7 : W) (h8 : HW) (c9 : Nat) =>
q_share _ (fun (v11 : W) (h12 : HW) (c13 : Nat) =>
q_share _ (fun (v15 : W) (h16 : HW) (c17 : Nat) =>
q_share _ (fun (v19 : W) (h20 : HW) (c21 : Nat) =>
q_pickW v5 ⟨8, 1, r0, []⟩ v19 fun v22 =>
q_condW v22 (
K ⟨13, 0, r0, [⟨12, 0, ⟨0, 0, 0, .cpx .f64 0 0⟩, []⟩, ⟨3, 6, r0, []⟩]⟩ h20 c21) (
q_nilcW a0 fun v23 =>
q_fadW 69 v23 fun v24 =>
q_loadSW h20 v24 fun v25 =>
K ⟨13, 0, r0, [v25, ⟨3, 0, r0, []⟩]⟩ h20 c21)) fun f18 =>
q_guardW false v5 (q_loadSW h16 v15 fun v26 =>
f18 v26 h16 c17) (f18 wUnd h16 c17)) fun f14 =>
q_guardW false v5 (q_fadW 71 v11 fun v27 =>
f14 v27 h12 c13) (f14 wUnd h12 c13)) fun f10 =>
q_guardW false v5 (q_nilcW v7 fun v28 =>
f10 v28 h8 c9) (f10 wUnd h8 c9)) fun f6 =>
q_guardW false v5 (f6 a0 h0 c0) (f6 wUnd h0 c0))
theorem R17_eq (Q : PrimW) (fu : Nat) (call : CallW) : curryA 1 (fnK Q Try.prog tys stl fu call e17) = R17 Q.share Q.genW Q.notW Q.condW Q.guardW Q.pickW Q.nilcW Q.fadW Q.loadSW fu call := by kernel_rfl
noncomputable def n17 : List W → HW → Nat → KW → Bool := appF 1 (R17 (fun _ x f => f x) genW notW condW guardW pickW nilcW fadW loadSW 1000000 d0.fn)
theorem n17_ok : FnGood Try.prog tys stl tab 17 n17 := node_ok d0_ok (by kernel_rfl) rfl g17 (R17_eq real _ _)
/- (*foghorn/feedback.Loop).Reset -/
noncomputable def R19 (q_genW : Option CV → (W → Bool) → Bool) (q_condW : W → Bool → Bool → Bool) (q_nilcW : W → (W → Bool) → Bool) (q_fadW : Nat → W → (W → Bool) → Bool) (q_loadSW : HW → W → (W → Bool) → Bool) (q_storeAW : Nat → HW → W → W → (HW → Bool) → Bool) (q_flatW : W → Bool → Bool) (fu : Nat) (call : CallW) (a0 : W) (h0 : HW) (c0 : Nat) (K : KW) : Bool :=
q_genW (binC Try.prog .eql 36 (.tmp 3) (.const (.pointer none)) (dec a0) (dec ⟨12, 0, ⟨0, 0, 0, .nilp⟩, []⟩)) fun v1 =>
q_condW v1 (
K ⟨3, 2, r0, []⟩ h0 c0) (
q_nilcW a0 fun v2 =>
q_fadW 0 v2 fun v3 =>
q_loadSW h0 v3 fun v4 =>
q_nilcW a0 fun v5 =>
q_fadW 1 v5 fun v6 =>
q_loadSW h0 v6 fun v7 =>
q_nilcW a0 fun v8 =>
q_fadW 2 v8 fun v9 =>
q_loadSW h0 v9 fun v10 =>
q_nilcW a0 fun v11 =>
q_fadW 3 v11 fun v12 =>
q_loadSW h0 v12 fun v13 =>
q_flatW v4 (
q_flatW v7 (
q_flatW v10 (
q_flatW v13 (
(fun (v14 : W) =>
q_nilcW a0 fun v15 =>
q_storeAW 72 h0 v15 v14 fun h16 =>
K ⟨3, 0, r0, []⟩ h16 c0) ⟨15, 0, r0, [v4, v7, v10, v13, ⟨12, 0, ⟨0, 0, 0, .cpx .f64 0 0⟩, []⟩, ⟨12, 0, ⟨0, 0, 0, .cpx .f64 0 0⟩, []⟩, ⟨12, 0, ⟨0, 0, 0, .cpx .f64 0 0⟩, []⟩, ⟨12, 0, ⟨0, 0, 0, .cpx .f64 0 0⟩, []⟩, ⟨12, 0, ⟨0, 0, 0, .cpx .f64 0 0⟩, []⟩, ⟨12, 0, ⟨0, 0, 0, .cpx .f64 0 0⟩, []⟩, ⟨12, 0, ⟨0, 0, 0, .cpx .f64 0 0⟩, []⟩, ⟨12, 0, ⟨0, 0, 0, .cpx .f64 0 0⟩, []⟩, ⟨12, 0, ⟨0, 0, 0, .cpx .f64 0 0⟩, []⟩, ⟨12, 0, ⟨0, 0, 0, .cpx .f64 0 0⟩, []⟩, ⟨12, 0, ⟨0, 0, 0, .cpx .f64 0 0⟩, []⟩, ⟨12, 0, ⟨0, 0, 0, .cpx .f64 0 0⟩, []⟩, ⟨12, 0, ⟨0, 0, 0, .cpx .f64 0 0⟩, []⟩, ⟨12, 0, ⟨0, 0, 0, .cpx .f64 0 0⟩, []⟩, ⟨12, 0, ⟨0, 0, 0, .cpx .f64 0 0⟩, []⟩, ⟨12, 0, ⟨0, 0, 0, .cpx .f64 0 0⟩, []⟩, ⟨12, 0, ⟨0, 0, 0, .cpx .f64 0 0⟩, []⟩, ⟨12, 0, ⟨0, 0, 0, .cpx .f64 0 0⟩, []⟩, ⟨12, 0, ⟨0, 0, 0, .cpx .f64 0 0⟩, []⟩, ⟨12, 0, ⟨0, 0, 0, .cpx .f64 0 0⟩, []⟩, ⟨12, 0, ⟨0, 0, 0, .cpx .f64 0 0⟩, []⟩, ⟨12, 0, ⟨0, 0, 0, .cpx .f64 0 0⟩, []⟩, ⟨12, 0, ⟨0, 0, 0, .cpx .f64 0 0⟩, []⟩, ⟨12, 0, ⟨0, 0, 0, .cpx .f64 0 0⟩, []⟩, ⟨12, 0, ⟨0, 0, 0, .cpx .f64 0 0⟩, []⟩, ⟨12, 0, ⟨0, 0, 0, .cpx .f64 0 0⟩, []⟩, ⟨12, 0, ⟨0, 0, 0, .cpx .f64 0 0⟩, []⟩, ⟨12, 0, ⟨0, 0, 0, .cpx .f64 0 0⟩, []⟩, ⟨12, 0, ⟨0, 0, 0, .cpx .f64 0 0⟩, []⟩, ⟨12, 0, ⟨0, 0, 0, .cpx .f64 0 0⟩, []⟩, ⟨12, 0, ⟨0, 0, 0, .cpx .f64 0 0⟩, []⟩, ⟨12, 0, ⟨0, 0, 0, .cpx .f64 0 0⟩, []⟩, ⟨12, 0, ⟨0, 0, 0, .cpx .f64 0 0⟩, []⟩, ⟨12, 0, ⟨0, 0, 0, .cpx .f64 0 0⟩, []⟩, ⟨12, 0, ⟨0, 0, 0, .cpx .f64 0 0⟩, []⟩, ⟨12, 0, ⟨0, 0, 0, .cpx .f64 0 0⟩, []⟩, ⟨12, 0, ⟨0, 0, 0, .cpx .f64 0 0⟩, []⟩, ⟨12, 0, ⟨0, 0, 0, .cpx .f64 0 0⟩, []⟩, ⟨12, 0, ⟨0, 0, 0, .cpx .f64 0 0⟩, []⟩, ⟨12, 0, ⟨0, 0, 0, .cpx .f64 0 0⟩, []⟩, ⟨12, 0, ⟨0, 0, 0, .cpx .f64 0 0⟩, []⟩, ⟨12, 0, ⟨0, 0, 0, .cpx .f64 0 0⟩, []⟩, ⟨12, 0, ⟨0, 0, 0, .cpx .f64 0 0⟩, []⟩, ⟨12, 0, ⟨0, 0, 0, .cpx .f64 0 0⟩, []⟩, ⟨12, 0, ⟨0, 0, 0, .cpx .f64 0 0⟩, []⟩, ⟨12, 0, ⟨0, 0, 0, .cpx .f64 0 0⟩, []⟩, ⟨12, 0, ⟨0, 0, 0, .cpx .f64 0 0⟩, []⟩, ⟨12, 0, ⟨0, 0, 0, .cpx .f64 0 0⟩, []⟩, ⟨12, 0, ⟨0, 0, 0, .cpx .f64 0 0⟩, []⟩, ⟨12, 0, ⟨0, 0, 0, .cpx .f64 0 0⟩, []⟩, ⟨12, 0, ⟨0, 0, 0, .cpx .f64 0 0⟩, []⟩, ⟨12, 0, ⟨0, 0, 0, .cpx .f64 0 0⟩, []⟩, ⟨12, 0, ⟨0, 0, 0, .cpx .f64 0 0⟩, []⟩, ⟨12, 0, ⟨0, 0, 0, .cpx .f64 0 0⟩, []⟩, ⟨12, 0, ⟨0, 0, 0, .cpx .f64 0 0⟩, []⟩, ⟨12, 0, ⟨0, 0, 0, .cpx .f64 0 0⟩, []⟩, ⟨12, 0, ⟨0, 0, 0, .cpx .f64 0 0⟩, []⟩, ⟨12, 0, ⟨0, 0, 0, .cpx .f64 0 0⟩, []⟩, ⟨12, 0, ⟨0, 0, 0, .cpx .f64 0 0⟩, []⟩, ⟨12, 0, ⟨0, 0, 0, .cpx .f64 0 0⟩, []⟩, ⟨12, 0, ⟨0, 0, 0, .cpx .f64 0 0⟩, []⟩, ⟨12, 0, ⟨0, 0, 0, .cpx .f64 0 0⟩, []⟩, ⟨12, 0, ⟨0, 0, 0, .cpx .f64 0 0⟩, []⟩, ⟨12, 0, ⟨0, 0, 0, .cpx .f64 0 0⟩, []⟩, ⟨3, 0, r0, []⟩, ⟨12, 0, ⟨0, 0, 0, .cpx .f64 0 0⟩, []⟩, ⟨8, 0, r0, []⟩, ⟨8, 0, r0, []⟩]⟩)))))
theorem R19_eq (Q : PrimW) (fu : Nat) (call : CallW) : curryA 1 (fnK Q Try.prog tys stl fu call e19) = R19 Q.genW Q.condW Q.nilcW Q.fadW Q.loadSW Q.storeAW Q.flatW fu call := by kernel_rfl
noncomputable def n19 : List W → HW → Nat → KW → Bool := appF 1 (R19 genW condW nilcW fadW loadSW storeAW flatW 1000000 d0.fn)
theorem n19_ok : FnGood Try.prog tys stl tab 19 n19 := node_ok d0_ok (by kernel_rfl) rfl g19 (R19_eq real _ _)
/- (*foghorn/feedback.Loop).Broken -/
noncomputable def R20 (q_share : (α : Type) → α → (α → Bool) → Bool) (q_genW : Option CV → (W → Bool) → Bool) (q_guardW : Bool → W → Bool → Bool → Bool) (q_pickW : W → W → W → (W → Bool) → Bool) (q_nilcW : W → (W → Bool) → Bool) (q_fadW : Nat → W → (W → Bool) → Bool) (q_loadSW : HW → W → (W → Bool) → Bool) (fu : Nat) (call : CallW) (a0 : W) (h0 : HW) (c0 : Nat) (K : KW) : Bool :=
q_genW (binC Try.prog .neq 36 (.tmp 3) (.const (.pointer none)) (dec a0) (dec ⟨12, 0, ⟨0, 0, 0, .nilp⟩, []⟩)) fun v1 =>
q_share _ (fun (v3 : W) (h4 : HW) (c5 : Nat) =>
q_share _ (fun (v7 : W) (h8 : HW) (c9 : Nat) =>
q_share _ (fun (v11 : W) (h12 : HW) (c13 : Nat) =>
q_share _ (fun (v15 : W) (h16 : HW) (c17 : Nat) =>
q_pickW v1 v15 ⟨8, 0, r0, []⟩ fun v18 =>
K v18 h16 c17) fun f14 =>
q_guardW true v1 (q_loadSW h12 v11 fun v19 =>
f14 v19 h12 c13) (f14 wUnd h12 c13)) fun f10 =>
q_guardW true v1 (q_fadW 71 v7 fun v20 =>
f10 v20 h8 c9) (f10 wUnd h8 c9)) fun f6 =>
q_guardW true v1 (q_nilcW v3 fun v21 =>
f6 v21 h4 c5) (f6 wUnd h4 c5)) fun f2 =>
q_guardW true v1 (f2 a0 h0 c0) (f2 wUnd h0 c0)
theorem R20_eq (Q : PrimW) (fu : Nat) (call : CallW) : curryA 1 (fnK Q Try.prog tys stl fu call e20) = R20 Q.share Q.genW Q.guardW Q.pickW Q.nilcW Q.fadW Q.loadSW fu call := by kernel_rfl
noncomputable def n20 : List W → HW → Nat → KW → Bool := appF 1 (R20 (fun _ x f => f x) genW guardW pickW nilcW fadW loadSW 1000000 d0.fn)
theorem n20_ok : FnGood Try.prog tys stl tab 20 n20 := node_ok d0_ok (by kernel_rfl) rfl g20 (R20_eq real _ _)
noncomputable def n32 : List W → HW → Nat → KW → Bool := extN Try.prog 32
theorem n32_ok : FnGood Try.prog tys stl tab 32 n32 := ext_ok (e := e32) (by kernel_rfl) rfl
/- slices.Clone[[]complex128,complex128] -/
noncomputable def R44 (q_genW : Option CV → (W → Bool) → Bool) (q_condW : W → Bool → Bool → Bool) (q_buildSW : Nat → Nat → Kind → Nat → Bool → HW → Nat → Nat → List W → KW → Bool) (q_appSW : Nat → Nat → (Kind → Bool) → Bool → HW → Nat → W → W → Bool → KW → Bool) (fu : Nat) (call : CallW) (a0 : W) (h0 : HW) (c0 : Nat) (K : KW) : Bool :=
q_genW (binC Try.prog .eql 24 (.tmp 3) (.const (.slice none 0 0)) (dec a0) (dec ⟨12, 0, ⟨0, 0, 0, .nils⟩, []⟩)) fun v1 =>
q_condW v1 (
K ⟨12, 0, ⟨0, 0, 0, .nils⟩, []⟩ h0 c0) (
q_buildSW 1 99 (.cpxs .f64) 0 true h0 c0 0 [] fun v2 h3 c4 =>
q_appSW 16 1 (appKindOk (elemJ tys 24)) false h3 c4 v2 a0 false fun v5 h6 c7 =>
K v5 h6 c7)
theorem R44_eq (Q : PrimW) (fu : Nat) (call : CallW) : curryA 1 (fnK Q Try.prog tys stl fu call e44) = R44 Q.genW Q.condW Q.buildSW Q.appSW fu call := by kernel_rfl
noncomputable def n44 : List W → HW → Nat → KW → Bool := appF 1 (R44 genW condW buildSW appSW 1000000 d0.fn)
theorem n44_ok : FnGood Try.prog tys stl tab 44 n44 := node_ok d0_ok (by kernel_rfl) rfl g44 (R44_eq real _ _)
/- foghorn/plane.Mul -/
noncomputable def R57 (q_genW : Option CV → (W → Bool) → Bool) (fu : Nat) (call : CallW) (a0 : W) (a1 : W) (h0 : HW) (c0 : Nat) (K : KW) : Bool :=
q_genW (two Try.prog (dec a0) fun v => Builtin.real_ #[32] 34 #[v]) fun v1 =>
q_genW (two Try.prog (dec a1) fun v => Builtin.real_ #[32] 34 #[v]) fun v2 =>
q_genW (binC Try.prog .mul 34 (.tmp 10) (.tmp 12) (dec v1) (dec v2)) fun v3 =>
q_genW (two Try.prog (dec a0) fun v => Builtin.imag_ #[32] 34 #[v]) fun v4 =>
q_genW (two Try.prog (dec a1) fun v => Builtin.imag_ #[32] 34 #[v]) fun v5 =>
q_genW (binC Try.prog .mul 34 (.tmp 15) (.tmp 17) (dec v4) (dec v5)) fun v6 =>
q_genW (two Try.prog (dec a0) fun v => Builtin.real_ #[32] 34 #[v]) fun v7 =>
q_genW (two Try.prog (dec a1) fun v => Builtin.imag_ #[32] 34 #[v]) fun v8 =>
q_genW (binC Try.prog .mul 34 (.tmp 20) (.tmp 22) (dec v7) (dec v8)) fun v9 =>
q_genW (two Try.prog (dec a0) fun v => Builtin.imag_ #[32] 34 #[v]) fun v10 =>
q_genW (two Try.prog (dec a1) fun v => Builtin.real_ #[32] 34 #[v]) fun v11 =>
q_genW (binC Try.prog .mul 34 (.tmp 25) (.tmp 27) (dec v10) (dec v11)) fun v12 =>
q_genW (binC Try.prog .sub 34 (.tmp 29) (.tmp 30) (dec v3) (dec v6)) fun v13 =>
q_genW (binC Try.prog .add 34 (.tmp 32) (.tmp 33) (dec v9) (dec v12)) fun v14 =>
q_genW (two2 Try.prog (dec v13) (dec v14) fun v u => Builtin.complex_ #[34, 34] 32 #[v, u]) fun v15 =>
K v15 h0 c0
theorem R57_eq (Q : PrimW) (fu : Nat) (call : CallW) : curryA 2 (fnK Q Try.prog tys stl fu call e57) = R57 Q.genW fu call := by kernel_rfl
noncomputable def n57 : List W → HW → Nat → KW → Bool := appF 2 (R57 genW 1000000 d0.fn)
theorem n57_ok : FnGood Try.prog tys stl tab 57 n57 := node_ok d0_ok (by kernel_rfl) rfl g57 (R57_eq real _ _)
/- foghorn/plane.Turn -/
noncomputable def R59 (q_genW : Option CV → (W → Bool) → Bool) (q_bitW : (Nat → Nat → Nat) → Nat → Nat → Option CV → W → W → (W → Bool) → Bool) (q_cmpW : (Nat → Nat → Bool) → Nat → Option CV → W → W → (W → Bool) → Bool) (q_condW : W → Bool → Bool → Bool) (fu : Nat) (call : CallW) (a0 : W) (a1 : W) (h0 : HW) (c0 : Nat) (K : KW) : Bool :=
q_genW (two Try.prog (dec a0) fun v => Builtin.real_ #[32] 34 #[v]) fun v1 =>
q_genW (two Try.prog (dec a0) fun v => Builtin.imag_ #[32] 34 #[v]) fun v2 =>
q_bitW Nat.land 3 9223372036854775807 (binC Try.prog .and 3 (.tmp 11) (.const (.int .i64 (.ofNat 3))) (dec a1) (dec ⟨3, 3, r0, []⟩)) a1 ⟨3, 3, r0, []⟩ fun v3 =>
q_cmpW (cmpF2 .eql) 3 (binC Try.prog .eql 3 (.tmp 12) (.const (.int .i64 (.ofNat 1))) (dec v3) (dec ⟨3, 1, r0, []⟩)) v3 ⟨3, 1, r0, []⟩ fun v4 =>
q_condW v4 (
q_genW (two Try.prog (dec v2) (Op.unary .neg)) fun v5 =>
q_genW (two2 Try.prog (dec v5) (dec v1) fun v u => Builtin.complex_ #[34, 34] 32 #[v, u]) fun v6 =>
K v6 h0 c0) (
q_cmpW (cmpF2 .eql) 3 (binC Try.prog .eql 3 (.tmp 12) (.const (.int .i64 (.ofNat 2))) (dec v3) (dec ⟨3, 2, r0, []⟩)) v3 ⟨3, 2, r0, []⟩ fun v7 =>
q_condW v7 (
q_genW (two Try.prog (dec v1) (Op.unary .neg)) fun v8 =>
q_genW (two Try.prog (dec v2) (Op.unary .neg)) fun v9 =>
q_genW (two2 Try.prog (dec v8) (dec v9) fun v u => Builtin.complex_ #[34, 34] 32 #[v, u]) fun v10 =>
K v10 h0 c0) (
q_cmpW (cmpF2 .eql) 3 (binC Try.prog .eql 3 (.tmp 12) (.const (.int .i64 (.ofNat 3))) (dec v3) (dec ⟨3, 3, r0, []⟩)) v3 ⟨3, 3, r0, []⟩ fun v11 =>
q_condW v11 (
q_genW (two Try.prog (dec v1) (Op.unary .neg)) fun v12 =>
q_genW (two2 Try.prog (dec v2) (dec v12) fun v u => Builtin.complex_ #[34, 34] 32 #[v, u]) fun v13 =>
K v13 h0 c0) (
K a0 h0 c0)))
theorem R59_eq (Q : PrimW) (fu : Nat) (call : CallW) : curryA 2 (fnK Q Try.prog tys stl fu call e59) = R59 Q.genW Q.bitW Q.cmpW Q.condW fu call := by kernel_rfl
noncomputable def n59 : List W → HW → Nat → KW → Bool := appF 2 (R59 genW bitW cmpW condW 1000000 d0.fn)
theorem n59_ok : FnGood Try.prog tys stl tab 59 n59 := node_ok d0_ok (by kernel_rfl) rfl g59 (R59_eq real _ _)
noncomputable def n65 : List W → HW → Nat → KW → Bool := extN Try.prog 65
theorem n65_ok : FnGood Try.prog tys stl tab 65 n65 := ext_ok (e := e65) (by kernel_rfl) rfl
noncomputable def n66 : List W → HW → Nat → KW → Bool := extN Try.prog 66
theorem n66_ok : FnGood Try.prog tys stl tab 66 n66 := ext_ok (e := e66) (by kernel_rfl) rfl
/- foghorn/slice.deciders$1 -/
noncomputable def R68 (q_boxW : HW → Nat → W → KW → Bool) (fu : Nat) (call : CallW) (a0 : W) (h0 : HW) (c0 : Nat) (K : KW) : Bool :=
q_boxW h0 c0 a0 fun v1 h2 c3 =>
(fun (v4 : W) =>
K v4 h2 c3) ⟨14, 69, r0, [v1]⟩
theorem R68_eq (Q : PrimW) (fu : Nat) (call : CallW) : curryA 1 (fnK Q Try.prog tys stl fu call e68) = R68 Q.boxW fu call := by kernel_rfl
noncomputable def n68 : List W → HW → Nat → KW → Bool := appF 1 (R68 boxW 1000000 d0.fn)
theorem n68_ok : FnGood Try.prog tys stl tab 68 n68 := node_ok d0_ok (by kernel_rfl) rfl g68 (R68_eq real _ _)
/- foghorn/slice.deciders$2 -/
noncomputable def R71 (q_boxW : HW → Nat → W → KW → Bool) (fu : Nat) (call : CallW) (a0 : W) (h0 : HW) (c0 : Nat) (K : KW) : Bool :=
q_boxW h0 c0 a0 fun v1 h2 c3 =>
(fun (v4 : W) =>
K v4 h2 c3) ⟨14, 72, r0, [v1]⟩
theorem R71_eq (Q : PrimW) (fu : Nat) (call : CallW) : curryA 1 (fnK Q Try.prog tys stl fu call e71) = R71 Q.boxW fu call := by kernel_rfl
noncomputable def n71 : List W → HW → Nat → KW → Bool := appF 1 (R71 boxW 1000000 d0.fn)
theorem n71_ok : FnGood Try.prog tys stl tab 71 n71 := node_ok d0_ok (by kernel_rfl) rfl g71 (R71_eq real _ _)
/- foghorn/points.square -/
noncomputable def R74 (q_loadAW : Nat → HW → W → (W → Bool) → Bool) (q_storeAW : Nat → HW → W → W → (HW → Bool) → Bool) (q_allocW : Trie W → Nat → Bool → HW → Nat → KW → Bool) (q_flatW : W → Bool → Bool) (fu : Nat) (call : CallW) (a0 : W) (a1 : W) (h0 : HW) (c0 : Nat) (K : KW) : Bool :=
q_allocW (allocT tys 111) 5 true h0 c0 fun v1 h2 c3 =>
q_flatW a0 (
q_flatW a1 (
q_flatW ⟨14, 87, r0, []⟩ (
q_flatW ⟨14, 88, r0, []⟩ (
(fun (v4 : W) =>
q_storeAW 5 h2 v1 v4 fun h5 =>
q_loadAW 5 h5 v1 fun v6 =>
K v6 h5 c3) ⟨15, 0, r0, [a0, a1, ⟨3, 0, r0, []⟩, ⟨14, 87, r0, []⟩, ⟨14, 88, r0, []⟩]⟩))))
theorem R74_eq (Q : PrimW) (fu : Nat) (call : CallW) : curryA 2 (fnK Q Try.prog tys stl fu call e74) = R74 Q.loadAW Q.storeAW Q.allocW Q.flatW fu call := by kernel_rfl
noncomputable def n74 : List W → HW → Nat → KW → Bool := appF 2 (R74 loadAW storeAW allocW flatW 1000000 d0.fn)
theorem n74_ok : FnGood Try.prog tys stl tab 74 n74 := node_ok d0_ok (by kernel_rfl) rfl g74 (R74_eq real _ _)
/- foghorn/points.cross -/
noncomputable def R75 (q_loadAW : Nat → HW → W → (W → Bool) → Bool) (q_storeAW : Nat → HW → W → W → (HW → Bool) → Bool) (q_allocW : Trie W → Nat → Bool → HW → Nat → KW → Bool) (q_flatW : W → Bool → Bool) (fu : Nat) (call : CallW) (a0 : W) (a1 : W) (a2 : W) (h0 : HW) (c0 : Nat) (K : KW) : Bool :=
q_allocW (allocT tys 111) 5 true h0 c0 fun v1 h2 c3 =>
q_flatW a0 (
q_flatW a1 (
q_flatW a2 (
q_flatW ⟨14, 89, r0, []⟩ (
q_flatW ⟨14, 90, r0, []⟩ (
(fun (v4 : W) =>
q_storeAW 5 h2 v1 v4 fun h5 =>
q_loadAW 5 h5 v1 fun v6 =>
K v6 h5 c3) ⟨15, 0, r0, [a0, a1, a2, ⟨14, 89, r0, []⟩, ⟨14, 90, r0, []⟩]⟩)))))
theorem R75_eq (Q : PrimW) (fu : Nat) (call : CallW) : curryA 3 (fnK Q Try.prog tys stl fu call e75) = R75 Q.loadAW Q.storeAW Q.allocW Q.flatW fu call := by kernel_rfl
noncomputable def n75 : List W → HW → Nat → KW → Bool := appF 3 (R75 loadAW storeAW allocW flatW 1000000 d0.fn)
theorem n75_ok : FnGood Try.prog tys stl tab 75 n75 := node_ok d0_ok (by kernel_rfl) rfl g75 (R75_eq real _ _)
/- math.IsNaN -/
noncomputable def R92 (q_genW : Option CV → (W → Bool) → Bool) (fu : Nat) (call : CallW) (a0 : W) (h0 : HW) (c0 : Nat) (K : KW) : Bool :=
q_genW (binC Try.prog .neq 34 (.tmp 3) (.tmp 4) (dec a0) (dec a0)) fun v1 =>
K v1 h0 c0
theorem R92_eq (Q : PrimW) (fu : Nat) (call : CallW) : curryA 1 (fnK Q Try.prog tys stl fu call e92) = R92 Q.genW fu call := by kernel_rfl
noncomputable def n92 : List W → HW → Nat → KW → Bool := appF 1 (R92 genW 1000000 d0.fn)
theorem n92_ok : FnGood Try.prog tys stl tab 92 n92 := node_ok d0_ok (by kernel_rfl) rfl g92 (R92_eq real _ _)
/- foghorn/slice.clamped -/
noncomputable def R95 (q_genW : Option CV → (W → Bool) → Bool) (fu : Nat) (call : CallW) (a0 : W) (a1 : W) (h0 : HW) (c0 : Nat) (K : KW) : Bool :=
q_genW (convC Try.prog tys ⟨[], 0, decH h0, 0⟩ 3 34 (dec a1)) fun v1 =>
q_genW (two Try.prog (dec v1) (Op.unary .neg)) fun v2 =>
q_genW (convC Try.prog tys ⟨[], 0, decH h0, 0⟩ 3 34 (dec a1)) fun v3 =>
q_genW (two2 Try.prog (dec v3) (dec a0) fun v u => Builtin.min_ #[34, 34] 34 #[v, u]) fun v4 =>
q_genW (two2 Try.prog (dec v2) (dec v4) fun v u => Builtin.max_ #[34, 34] 34 #[v, u]) fun v5 =>
K v5 h0 c0
theorem R95_eq (Q : PrimW) (fu : Nat) (call : CallW) : curryA 2 (fnK Q Try.prog tys stl fu call e95) = R95 Q.genW fu call := by kernel_rfl
noncomputable def n95 : List W → HW → Nat → KW → Bool := appF 2 (R95 genW 1000000 d0.fn)
theorem n95_ok : FnGood Try.prog tys stl tab 95 n95 := node_ok d0_ok (by kernel_rfl) rfl g95 (R95_eq real _ _)
/- foghorn/plane.Norm -/
noncomputable def R97 (q_genW : Option CV → (W → Bool) → Bool) (fu : Nat) (call : CallW) (a0 : W) (h0 : HW) (c0 : Nat) (K : KW) : Bool :=
q_genW (two Try.prog (dec a0) fun v => Builtin.real_ #[32] 34 #[v]) fun v1 =>
q_genW (two Try.prog (dec a0) fun v => Builtin.real_ #[32] 34 #[v]) fun v2 =>
q_genW (binC Try.prog .mul 34 (.tmp 4) (.tmp 6) (dec v1) (dec v2)) fun v3 =>
q_genW (two Try.prog (dec a0) fun v => Builtin.imag_ #[32] 34 #[v]) fun v4 =>
q_genW (two Try.prog (dec a0) fun v => Builtin.imag_ #[32] 34 #[v]) fun v5 =>
q_genW (binC Try.prog .mul 34 (.tmp 9) (.tmp 11) (dec v4) (dec v5)) fun v6 =>
q_genW (binC Try.prog .add 34 (.tmp 7) (.tmp 12) (dec v3) (dec v6)) fun v7 =>
K v7 h0 c0
theorem R97_eq (Q : PrimW) (fu : Nat) (call : CallW) : curryA 1 (fnK Q Try.prog tys stl fu call e97) = R97 Q.genW fu call := by kernel_rfl
noncomputable def n97 : List W → HW → Nat → KW → Bool := appF 1 (R97 genW 1000000 d0.fn)
theorem n97_ok : FnGood Try.prog tys stl tab 97 n97 := node_ok d0_ok (by kernel_rfl) rfl g97 (R97_eq real _ _)
/- (foghorn/points.set).point -/
noncomputable def R98 (q_genW : Option CV → (W → Bool) → Bool) (q_subW : Nat → Nat → Option CV → W → W → (W → Bool) → Bool) (q_mulW : Nat → Nat → Option CV → W → W → (W → Bool) → Bool) (q_fadW : Nat → W → (W → Bool) → Bool) (q_killVW : W → HW → (HW → Bool) → Bool) (q_loadSW : HW → W → (W → Bool) → Bool) (q_boxW : HW → Nat → W → KW → Bool) (fu : Nat) (call : CallW) (a0 : W) (a1 : W) (a2 : W) (h0 : HW) (c0 : Nat) (K : KW) : Bool :=
q_boxW h0 c0 a0 fun v1 h2 c3 =>
q_mulW 3 9223372036854775807 (binC Try.prog .mul 3 (.const (.int .i64 (.ofNat 2))) (.tmp 7) (dec ⟨3, 2, r0, []⟩) (dec a1)) ⟨3, 2, r0, []⟩ a1 fun v4 =>
q_fadW 1 v1 fun v5 =>
q_loadSW h2 v5 fun v6 =>
q_subW 3 9223372036854775807 (binC Try.prog .sub 3 (.tmp 8) (.tmp 10) (dec v4) (dec v6)) v4 v6 fun v7 =>
q_genW (convC Try.prog tys ⟨[], 0, decH h2, 0⟩ 3 34 (dec v7)) fun v8 =>
q_mulW 3 9223372036854775807 (binC Try.prog .mul 3 (.const (.int .i64 (.ofNat 2))) (.tmp 13) (dec ⟨3, 2, r0, []⟩) (dec a2)) ⟨3, 2, r0, []⟩ a2 fun v9 =>
q_fadW 1 v1 fun v10 =>
q_loadSW h2 v10 fun v11 =>
q_subW 3 9223372036854775807 (binC Try.prog .sub 3 (.tmp 14) (.tmp 16) (dec v9) (dec v11)) v9 v11 fun v12 =>
q_genW (convC Try.prog tys ⟨[], 0, decH h2, 0⟩ 3 34 (dec v12)) fun v13 =>
q_genW (two2 Try.prog (dec v8) (dec v13) fun v u => Builtin.complex_ #[34, 34] 32 #[v, u]) fun v14 =>
q_killVW v1 h2 fun h15 =>
K v14 h15 c3
theorem R98_eq (Q : PrimW) (fu : Nat) (call : CallW) : curryA 3 (fnK Q Try.prog tys stl fu call e98) = R98 Q.genW Q.subW Q.mulW Q.fadW Q.killVW Q.loadSW Q.boxW fu call := by kernel_rfl
noncomputable def n98 : List W → HW → Nat → KW → Bool := appF 3 (R98 genW subW mulW fadW killVW loadSW boxW 1000000 d0.fn)
theorem n98_ok : FnGood Try.prog tys stl tab 98 n98 := node_ok d0_ok (by kernel_rfl) rfl g98 (R98_eq real _ _)
/- (foghorn/points.set).first -/
noncomputable def R102 (q_share : (α : Type) → α → (α → Bool) → Bool) (q_subW : Nat → Nat → Option CV → W → W → (W → Bool) → Bool) (q_cmpW : (Nat → Nat → Bool) → Nat → Option CV → W → W → (W → Bool) → Bool) (q_condW : W → Bool → Bool → Bool) (q_guardW : Bool → W → Bool → Bool → Bool) (q_pickW : W → W → W → (W → Bool) → Bool) (q_fadW : Nat → W → (W → Bool) → Bool) (q_killVW : W → HW → (HW → Bool) → Bool) (q_loadSW : HW → W → (W → Bool) → Bool) (q_boxW : HW → Nat → W → KW → Bool) (fu : Nat) (call : CallW) (a0 : W) (a1 : W) (h0 : HW) (c0 : Nat) (K : KW) : Bool :=
q_boxW h0 c0 a0 fun v1 h2 c3 =>
q_fadW 2 v1 fun v4 =>
q_loadSW h2 v4 fun v5 =>
q_cmpW (cmpF2 .lss) 3 (binC Try.prog .lss 3 (.tmp 5) (.tmp 7) (dec a1) (dec v5)) a1 v5 fun v6 =>
q_share _ (fun (v8 : W) (h9 : HW) (c10 : Nat) =>
q_share _ (fun (v12 : W) (h13 : HW) (c14 : Nat) =>
q_share _ (fun (v16 : W) (h17 : HW) (c18 : Nat) =>
q_share _ (fun (v20 : W) (h21 : HW) (c22 : Nat) =>
q_share _ (fun (v24 : W) (h25 : HW) (c26 : Nat) =>
q_share _ (fun (v28 : W) (h29 : HW) (c30 : Nat) =>
q_share _ (fun (v32 : W) (h33 : HW) (c34 : Nat) =>
q_pickW v6 ⟨8, 1, r0, []⟩ v32 fun v35 =>
q_condW v35 (
q_fadW 2 v1 fun v36 =>
q_loadSW h33 v36 fun v37 =>
q_killVW v1 h33 fun h38 =>
K v37 h38 c34) (
q_killVW v1 h33 fun h39 =>
K ⟨3, 0, r0, []⟩ h39 c34)) fun f31 =>
q_guardW false v6 (q_cmpW (cmpF2 .gtr) 3 (binC Try.prog .gtr 3 (.tmp 10) (.tmp 15) (dec v8) (dec v28)) v8 v28 fun v40 =>
f31 v40 h29 c30) (f31 wUnd h29 c30)) fun f27 =>
q_guardW false v6 (q_subW 3 9223372036854775807 (binC Try.prog .sub 3 (.tmp 12) (.tmp 14) (dec v16) (dec v24)) v16 v24 fun v41 =>
f27 v41 h25 c26) (f27 wUnd h25 c26)) fun f23 =>
q_guardW false v6 (q_loadSW h21 v20 fun v42 =>
f23 v42 h21 c22) (f23 wUnd h21 c22)) fun f19 =>
q_guardW false v6 (q_fadW 2 v1 fun v43 =>
f19 v43 h17 c18) (f19 wUnd h17 c18)) fun f15 =>
q_guardW false v6 (q_loadSW h13 v12 fun v44 =>
f15 v44 h13 c14) (f15 wUnd h13 c14)) fun f11 =>
q_guardW false v6 (q_fadW 1 v1 fun v45 =>
f11 v45 h9 c10) (f11 wUnd h9 c10)) fun f7 =>
q_guardW false v6 (f7 a1 h2 c3) (f7 wUnd h2 c3)
theorem R102_eq (Q : PrimW) (fu : Nat) (call : CallW) : curryA 2 (fnK Q Try.prog tys stl fu call e102) = R102 Q.share Q.subW Q.cmpW Q.condW Q.guardW Q.pickW Q.fadW Q.killVW Q.loadSW Q.boxW fu call := by kernel_rfl
noncomputable def n102 : List W → HW → Nat → KW → Bool := appF 2 (R102 (fun _ x f => f x) subW cmpW condW guardW pickW fadW killVW loadSW boxW 1000000 d0.fn)
theorem n102_ok : FnGood Try.prog tys stl tab 102 n102 := node_ok d0_ok (by kernel_rfl) rfl g102 (R102_eq real _ _)
noncomputable def n104 : List W → HW → Nat → KW → Bool := extN Try.prog 104
theorem n104_ok : FnGood Try.prog tys stl tab 104 n104 := ext_ok (e := e104) (by kernel_rfl) rfl
/- foghorn/bits.isGray -/
noncomputable def R110 (q_share : (α : Type) → α → (α → Bool) → Bool) (q_cmpW : (Nat → Nat → Bool) → Nat → Option CV → W → W → (W → Bool) → Bool) (q_guardW : Bool → W → Bool → Bool → Bool) (q_pickW : W → W → W → (W → Bool) → Bool) (fu : Nat) (call : CallW) (a0 : W) (h0 : HW) (c0 : Nat) (K : KW) : Bool :=
q_cmpW (cmpF2 .geq) 3 (binC Try.prog .geq 3 (.tmp 3) (.const (.int .i64 (.ofNat 0))) (dec a0) (dec ⟨3, 0, r0, []⟩)) a0 ⟨3, 0, r0, []⟩ fun v1 =>
q_share _ (fun (v3 : W) (h4 : HW) (c5 : Nat) =>
q_share _ (fun (v7 : W) (h8 : HW) (c9 : Nat) =>
q_pickW v1 v7 ⟨8, 0, r0, []⟩ fun v10 =>
K v10 h8 c9) fun f6 =>
q_guardW true v1 (q_cmpW (cmpF2 .lss) 3 (binC Try.prog .lss 3 (.tmp 6) (.const (.int .i64 (.ofNat 65536))) (dec v3) (dec ⟨3, 65536, r0, []⟩)) v3 ⟨3, 65536, r0, []⟩ fun v11 =>
f6 v11 h4 c5) (f6 wUnd h4 c5)) fun f2 =>
q_guardW true v1 (f2 a0 h0 c0) (f2 wUnd h0 c0)
theorem R110_eq (Q : PrimW) (fu : Nat) (call : CallW) : curryA 1 (fnK Q Try.prog tys stl fu call e110) = R110 Q.share Q.cmpW Q.guardW Q.pickW fu call := by kernel_rfl
noncomputable def n110 : List W → HW → Nat → KW → Bool := appF 1 (R110 (fun _ x f => f x) cmpW guardW pickW 1000000 d0.fn)
theorem n110_ok : FnGood Try.prog tys stl tab 110 n110 := node_ok d0_ok (by kernel_rfl) rfl g110 (R110_eq real _ _)
noncomputable def n111 : List W → HW → Nat → KW → Bool := extN Try.prog 111
theorem n111_ok : FnGood Try.prog tys stl tab 111 n111 := ext_ok (e := e111) (by kernel_rfl) rfl
noncomputable def d1 : Disp := (.node 71 n71 (.node 57 n57 (.node 20 n20 (.node 19 n19 (.node 17 n17 .leaf .leaf) .leaf) (.node 44 n44 (.node 32 n32 .leaf .leaf) .leaf)) (.node 66 n66 (.node 65 n65 (.node 59 n59 .leaf .leaf) .leaf) (.node 68 n68 .leaf .leaf))) (.node 98 n98 (.node 92 n92 (.node 75 n75 (.node 74 n74 .leaf .leaf) .leaf) (.node 97 n97 (.node 95 n95 .leaf .leaf) .leaf)) (.node 110 n110 (.node 104 n104 (.node 102 n102 .leaf .leaf) .leaf) (.node 111 n111 .leaf .leaf))))
theorem d1_ok : CallSim Try.prog tys stl tab d1.fn := Disp.sim ⟨n71_ok, ⟨n57_ok, ⟨n20_ok, ⟨n19_ok, ⟨n17_ok, True.intro, True.intro⟩, True.intro⟩, ⟨n44_ok, ⟨n32_ok, True.intro, True.intro⟩, True.intro⟩⟩, ⟨n66_ok, ⟨n65_ok, ⟨n59_ok, True.intro, True.intro⟩, True.intro⟩, ⟨n68_ok, True.intro, True.intro⟩⟩⟩, ⟨n98_ok, ⟨n92_ok, ⟨n75_ok, ⟨n74_ok, True.intro, True.intro⟩, True.intro⟩, ⟨n97_ok, ⟨n95_ok, True.intro, True.intro⟩, True.intro⟩⟩, ⟨n110_ok, ⟨n104_ok, ⟨n102_ok, True.intro, True.intro⟩, True.intro⟩, ⟨n111_ok, True.intro, True.intro⟩⟩⟩⟩
/- (*foghorn/feedback.Loop).without -/
noncomputable def R41 (q_genW : Option CV → (W → Bool) → Bool) (q_addW : Nat → Nat → Option CV → W → W → (W → Bool) → Bool) (q_subW : Nat → Nat → Option CV → W → W → (W → Bool) → Bool) (q_remW : Nat → Nat → Option CV → W → W → (W → Bool) → Bool) (q_cmpW : (Nat → Nat → Bool) → Nat → Option CV → W → W → (W → Bool) → Bool) (q_negW : Nat → Nat → Bool → Option CV → W → (W → Bool) → Bool) (q_condW : W → Bool → Bool → Bool) (q_nilcW : W → (W → Bool) → Bool) (q_fadW : Nat → W → (W → Bool) → Bool) (q_idxSW : Nat → W → W → (W → Bool) → Bool) (q_idxAW : Nat → Nat → W → W → (W → Bool) → Bool) (q_lenW : Option CV → W → (W → Bool) → Bool) (q_loadSW : HW → W → (W → Bool) → Bool) (fu : Nat) (call : CallW) (a0 : W) (a1 : W) (h0 : HW) (c0 : Nat) (K : KW) : Bool :=
q_genW (two Try.prog (dec a1) fun v => Builtin.real_ #[32] 34 #[v]) fun v1 =>
q_genW (two Try.prog (dec a1) fun v => Builtin.imag_ #[32] 34 #[v]) fun v2 =>
@Nat.rec (fun _ => Fun 3) (fun _ _ _ _ _ => false) (fun _ f8 v3 v4 v5 h6 c7 =>
q_nilcW a0 fun v9 =>
q_fadW 1 v9 fun v10 =>
q_loadSW h6 v10 fun v11 =>
q_lenW (lenC tys 24 (dec v11)) v11 fun v12 =>
q_cmpW (cmpF2 .lss) 3 (binC Try.prog .lss 3 (.tmp 14) (.tmp 19) (dec v5) (dec v12)) v5 v12 fun v13 =>
q_condW v13 (
q_nilcW a0 fun v14 =>
q_fadW 68 v14 fun v15 =>
q_loadSW h6 v15 fun v16 =>
q_subW 3 9223372036854775807 (binC Try.prog .sub 3 (.tmp 26) (.tmp 27) (dec v16) (dec v5)) v16 v5 fun v17 =>
q_addW 3 9223372036854775807 (binC Try.prog .add 3 (.tmp 28) (.const (.int .i64 (.ofNat 64))) (dec v17) (dec ⟨3, 64, r0, []⟩)) v17 ⟨3, 64, r0, []⟩ fun v18 =>
q_remW 3 9223372036854775807 (binC Try.prog .rem 3 (.tmp 29) (.const (.int .i64 (.ofNat 64))) (dec v18) (dec ⟨3, 64, r0, []⟩)) v18 ⟨3, 64, r0, []⟩ fun v19 =>
q_nilcW a0 fun v20 =>
q_fadW 1 v20 fun v21 =>
q_loadSW h6 v21 fun v22 =>
q_idxSW 1 v22 v5 fun v23 =>
q_loadSW h6 v23 fun v24 =>
q_nilcW a0 fun v25 =>
q_fadW 4 v25 fun v26 =>
q_idxAW 1 64 v26 v19 fun v27 =>
q_loadSW h6 v27 fun v28 =>
call 57 [v24, v28] h6 c7 fun v29 h30 c31 =>
q_genW (two Try.prog (dec v29) fun v => Builtin.real_ #[32] 34 #[v]) fun v32 =>
q_genW (binC Try.prog .sub 34 (.tmp 45) (.tmp 47) (dec v3) (dec v32)) fun v33 =>
q_genW (two Try.prog (dec v29) fun v => Builtin.imag_ #[32] 34 #[v]) fun v34 =>
q_genW (binC Try.prog .sub 34 (.tmp 49) (.tmp 51) (dec v4) (dec v34)) fun v35 =>
q_addW 3 9223372036854775807 (binC Try.prog .add 3 (.tmp 21) (.const (.int .i64 (.ofNat 1))) (dec v5) (dec ⟨3, 1, r0, []⟩)) v5 ⟨3, 1, r0, []⟩ fun v36 =>
f8 v33 v35 v36 h30 c31) (
q_nilcW a0 fun v37 =>
q_fadW 2 v37 fun v38 =>
q_loadSW h6 v38 fun v39 =>
q_genW (binC Try.prog .mul 34 (.tmp 53) (.tmp 57) (dec v3) (dec v39)) fun v40 =>
q_nilcW a0 fun v41 =>
q_fadW 2 v41 fun v42 =>
q_loadSW h6 v42 fun v43 =>
q_genW (binC Try.prog .mul 34 (.tmp 59) (.tmp 63) (dec v4) (dec v43)) fun v44 =>
q_genW (two2 Try.prog (dec v40) (dec v44) fun v u => Builtin.complex_ #[34, 34] 32 #[v, u]) fun v45 =>
q_nilcW a0 fun v46 =>
q_fadW 3 v46 fun v47 =>
q_loadSW h6 v47 fun v48 =>
q_negW 3 9223372036854775807 false (two Try.prog (dec v48) (Op.unary .neg)) v48 fun v49 =>
call 59 [v45, v49] h6 c7 fun v50 h51 c52 =>
K v50 h51 c52)) fu v1 v2 ⟨3, 1, r0, []⟩ h0 c0
theorem R41_eq (Q : PrimW) (fu : Nat) (call : CallW) : curryA 2 (fnK Q Try.prog tys stl fu call e41) = R41 Q.genW Q.addW Q.subW Q.remW Q.cmpW Q.negW Q.condW Q.nilcW Q.fadW Q.idxSW Q.idxAW Q.lenW Q.loadSW fu call := by kernel_rfl
noncomputable def n41 : List W → HW → Nat → KW → Bool := appF 2 (R41 genW addW subW remW cmpW negW condW nilcW fadW idxSW idxAW lenW loadSW 1000000 d1.fn)
theorem n41_ok : FnGood Try.prog tys stl tab 41 n41 := node_ok d1_ok (by kernel_rfl) rfl g41 (R41_eq real _ _)
/- math.Abs -/
noncomputable def R54 (q_genW : Option CV → (W → Bool) → Bool) (fu : Nat) (call : CallW) (a0 : W) (h0 : HW) (c0 : Nat) (K : KW) : Bool :=
call 65 [a0] h0 c0 fun v1 h2 c3 =>
q_genW (binC Try.prog .andNot 73 (.tmp 4) (.const (.int .u64 (.ofNat 9223372036854775808))) (dec v1) (dec ⟨7, 9223372036854775808, r0, []⟩)) fun v4 =>
call 32 [v4] h2 c3 fun v5 h6 c7 =>
K v5 h6 c7
theorem R54_eq (Q : PrimW) (fu : Nat) (call : CallW) : curryA 1 (fnK Q Try.prog tys stl fu call e54) = R54 Q.genW fu call := by kernel_rfl
noncomputable def n54 : List W → HW → Nat → KW → Bool := appF 1 (R54 genW 1000000 d1.fn)
theorem n54_ok : FnGood Try.prog tys stl tab 54 n54 := node_ok d1_ok (by kernel_rfl) rfl g54 (R54_eq real _ _)
/- foghorn/points.of -/
noncomputable def R61 (q_cmpW : (Nat → Nat → Bool) → Nat → Option CV → W → W → (W → Bool) → Bool) (q_condW : W → Bool → Bool → Bool) (q_loadAW : Nat → HW → W → (W → Bool) → Bool) (q_storeAW : Nat → HW → W → W → (HW → Bool) → Bool) (q_allocW : Trie W → Nat → Bool → HW → Nat → KW → Bool) (fu : Nat) (call : CallW) (a0 : W) (h0 : HW) (c0 : Nat) (K : KW) : Bool :=
q_allocW (allocT tys 111) 5 true h0 c0 fun v1 h2 c3 =>
q_cmpW (cmpF2 .eql) 3 (binC Try.prog .eql 3 (.tmp 4) (.const (.int .i64 (.ofNat 4))) (dec a0) (dec ⟨3, 4, r0, []⟩)) a0 ⟨3, 4, r0, []⟩ fun v4 =>
q_condW v4 (
call 74 [⟨3, 2, r0, []⟩, ⟨3, 1, r0, []⟩] h2 c3 fun v5 h6 c7 =>
q_storeAW 5 h6 v1 v5 fun h8 =>
q_loadAW 5 h8 v1 fun v9 =>
K ⟨13, 0, r0, [v9, ⟨8, 1, r0, []⟩]⟩ h8 c7) (
q_cmpW (cmpF2 .eql) 3 (binC Try.prog .eql 3 (.tmp 4) (.const (.int .i64 (.ofNat 16))) (dec a0) (dec ⟨3, 16, r0, []⟩)) a0 ⟨3, 16, r0, []⟩ fun v10 =>
q_condW v10 (
call 74 [⟨3, 4, r0, []⟩, ⟨3, 3, r0, []⟩] h2 c3 fun v11 h12 c13 =>
q_storeAW 5 h12 v1 v11 fun h14 =>
q_loadAW 5 h14 v1 fun v15 =>
K ⟨13, 0, r0, [v15, ⟨8, 1, r0, []⟩]⟩ h14 c13) (
q_cmpW (cmpF2 .eql) 3 (binC Try.prog .eql 3 (.tmp 4) (.const (.int .i64 (.ofNat 32))) (dec a0) (dec ⟨3, 32, r0, []⟩)) a0 ⟨3, 32, r0, []⟩ fun v16 =>
q_condW v16 (
call 75 [⟨3, 5, r0, []⟩, ⟨3, 5, r0, []⟩, ⟨3, 1, r0, []⟩] h2 c3 fun v17 h18 c19 =>
q_storeAW 5 h18 v1 v17 fun h20 =>
q_loadAW 5 h20 v1 fun v21 =>
K ⟨13, 0, r0, [v21, ⟨8, 1, r0, []⟩]⟩ h20 c19) (
q_cmpW (cmpF2 .eql) 3 (binC Try.prog .eql 3 (.tmp 4) (.const (.int .i64 (.ofNat 64))) (dec a0) (dec ⟨3, 64, r0, []⟩)) a0 ⟨3, 64, r0, []⟩ fun v22 =>
q_condW v22 (
call 74 [⟨3, 6, r0, []⟩, ⟨3, 7, r0, []⟩] h2 c3 fun v23 h24 c25 =>
q_storeAW 5 h24 v1 v23 fun h26 =>
q_loadAW 5 h26 v1 fun v27 =>
K ⟨13, 0, r0, [v27, ⟨8, 1, r0, []⟩]⟩ h26 c25) (
q_cmpW (cmpF2 .eql) 3 (binC Try.prog .eql 3 (.tmp 4) (.const (.int .i64 (.ofNat 128))) (dec a0) (dec ⟨3, 128, r0, []⟩)) a0 ⟨3, 128, r0, []⟩ fun v28 =>
q_condW v28 (
call 75 [⟨3, 7, r0, []⟩, ⟨3, 11, r0, []⟩, ⟨3, 2, r0, []⟩] h2 c3 fun v29 h30 c31 =>
q_storeAW 5 h30 v1 v29 fun h32 =>
q_loadAW 5 h32 v1 fun v33 =>
K ⟨13, 0, r0, [v33, ⟨8, 1, r0, []⟩]⟩ h32 c31) (
q_cmpW (cmpF2 .eql) 3 (binC Try.prog .eql 3 (.tmp 4) (.const (.int .i64 (.ofNat 256))) (dec a0) (dec ⟨3, 256, r0, []⟩)) a0 ⟨3, 256, r0, []⟩ fun v34 =>
q_condW v34 (
call 74 [⟨3, 8, r0, []⟩, ⟨3, 15, r0, []⟩] h2 c3 fun v35 h36 c37 =>
q_storeAW 5 h36 v1 v35 fun h38 =>
q_loadAW 5 h38 v1 fun v39 =>
K ⟨13, 0, r0, [v39, ⟨8, 1, r0, []⟩]⟩ h38 c37) (
(fun (v40 : W) =>
q_storeAW 5 h2 v1 v40 fun h41 =>
q_loadAW 5 h41 v1 fun v42 =>
K ⟨13, 0, r0, [v42, ⟨8, 0, r0, []⟩]⟩ h41 c3) ⟨15, 0, r0, [⟨3, 0, r0, []⟩, ⟨3, 0, r0, []⟩, ⟨3, 0, r0, []⟩, ⟨12, 0, ⟨0, 0, 0, .nilf⟩, []⟩, ⟨12, 0, ⟨0, 0, 0, .nilf⟩, []⟩]⟩))))))
theorem R61_eq (Q : PrimW) (fu : Nat) (call : CallW) : curryA 1 (fnK Q Try.prog tys stl fu call e61) = R61 Q.cmpW Q.condW Q.loadAW Q.storeAW Q.allocW fu call := by kernel_rfl
noncomputable def n61 : List W → HW → Nat → KW → Bool := appF 1 (R61 cmpW condW loadAW storeAW allocW 1000000 d1.fn)
theorem n61_ok : FnGood Try.prog tys stl tab 61 n61 := node_ok d1_ok (by kernel_rfl) rfl g61 (R61_eq real _ _)
/- math.Copysign -/
noncomputable def R79 (q_genW : Option CV → (W → Bool) → Bool) (q_bitW : (Nat → Nat → Nat) → Nat → Nat → Option CV → W → W → (W → Bool) → Bool) (fu : Nat) (call : CallW) (a0 : W) (a1 : W) (h0 : HW) (c0 : Nat) (K : KW) : Bool :=
call 65 [a0] h0 c0 fun v1 h2 c3 =>
q_genW (binC Try.prog .andNot 73 (.tmp 6) (.const (.int .u64 (.ofNat 9223372036854775808))) (dec v1) (dec ⟨7, 9223372036854775808, r0, []⟩)) fun v4 =>
call 65 [a1] h2 c3 fun v5 h6 c7 =>
q_bitW Nat.land 7 18446744073709551615 (binC Try.prog .and 73 (.tmp 9) (.const (.int .u64 (.ofNat 9223372036854775808))) (dec v5) (dec ⟨7, 9223372036854775808, r0, []⟩)) v5 ⟨7, 9223372036854775808, r0, []⟩ fun v8 =>
q_bitW Nat.lor 7 18446744073709551615 (binC Try.prog .or 73 (.tmp 7) (.tmp 10) (dec v4) (dec v8)) v4 v8 fun v9 =>
call 32 [v9] h6 c7 fun v10 h11 c12 =>
K v10 h11 c12
theorem R79_eq (Q : PrimW) (fu : Nat) (call : CallW) : curryA 2 (fnK Q Try.prog tys stl fu call e79) = R79 Q.genW Q.bitW fu call := by kernel_rfl
noncomputable def n79 : List W → HW → Nat → KW → Bool := appF 2 (R79 genW bitW 1000000 d1.fn)
theorem n79_ok : FnGood Try.prog tys stl tab 79 n79 := node_ok d1_ok (by kernel_rfl) rfl g79 (R79_eq real _ _)
/- foghorn/plane.Apart -/
noncomputable def R86 (q_genW : Option CV → (W → Bool) → Bool) (fu : Nat) (call : CallW) (a0 : W) (a1 : W) (h0 : HW) (c0 : Nat) (K : KW) : Bool :=
q_genW (two Try.prog (dec a0) fun v => Builtin.real_ #[32] 34 #[v]) fun v1 =>
q_genW (two Try.prog (dec a1) fun v => Builtin.real_ #[32] 34 #[v]) fun v2 =>
q_genW (binC Try.prog .sub 34 (.tmp 6) (.tmp 8) (dec v1) (dec v2)) fun v3 =>
q_genW (two Try.prog (dec a0) fun v => Builtin.imag_ #[32] 34 #[v]) fun v4 =>
q_genW (two Try.prog (dec a1) fun v => Builtin.imag_ #[32] 34 #[v]) fun v5 =>
q_genW (binC Try.prog .sub 34 (.tmp 11) (.tmp 13) (dec v4) (dec v5)) fun v6 =>
q_genW (two2 Try.prog (dec v3) (dec v6) fun v u => Builtin.complex_ #[34, 34] 32 #[v, u]) fun v7 =>
call 97 [v7] h0 c0 fun v8 h9 c10 =>
K v8 h9 c10
theorem R86_eq (Q : PrimW) (fu : Nat) (call : CallW) : curryA 2 (fnK Q Try.prog tys stl fu call e86) = R86 Q.genW fu call := by kernel_rfl
noncomputable def n86 : List W → HW → Nat → KW → Bool := appF 2 (R86 genW 1000000 d1.fn)
theorem n86_ok : FnGood Try.prog tys stl tab 86 n86 := node_ok d1_ok (by kernel_rfl) rfl g86 (R86_eq real _ _)
/- (foghorn/points.set).rows -/
noncomputable def R101 (q_addW : Nat → Nat → Option CV → W → W → (W → Bool) → Bool) (q_subW : Nat → Nat → Option CV → W → W → (W → Bool) → Bool) (q_mulW : Nat → Nat → Option CV → W → W → (W → Bool) → Bool) (q_fadW : Nat → W → (W → Bool) → Bool) (q_detW : W → Bool → Bool) (q_killVW : W → HW → (HW → Bool) → Bool) (q_loadSW : HW → W → (W → Bool) → Bool) (q_loadAW : Nat → HW → W → (W → Bool) → Bool) (q_boxW : HW → Nat → W → KW → Bool) (q_andW : Bool → Bool → Bool) (fu : Nat) (call : CallW) (a0 : W) (a1 : W) (h0 : HW) (c0 : Nat) (K : KW) : Bool :=
q_boxW h0 c0 a0 fun v1 h2 c3 =>
q_loadAW 5 h2 v1 fun v4 =>
q_fadW 1 v1 fun v5 =>
q_detW v5 (
q_andW (q_loadSW h2 v5 fun v6 =>
q_addW 3 9223372036854775807 (binC Try.prog .add 3 (.tmp 6) (.const (.int .i64 (.ofNat 1))) (dec v6) (dec ⟨3, 1, r0, []⟩)) v6 ⟨3, 1, r0, []⟩ fun v7 =>
q_detW v7 (
call 102 [v4, a1] h2 c3 fun v8 h9 c10 =>
q_mulW 3 9223372036854775807 (binC Try.prog .mul 3 (.const (.int .i64 (.ofNat 2))) (.tmp 10) (dec ⟨3, 2, r0, []⟩) (dec v8)) ⟨3, 2, r0, []⟩ v8 fun v11 =>
q_subW 3 9223372036854775807 (binC Try.prog .sub 3 (.tmp 7) (.tmp 11) (dec v7) (dec v11)) v7 v11 fun v12 =>
q_killVW v1 h9 fun h13 =>
K v12 h13 c10)) (q_andW (call 102 [v4, a1] h2 c3 fun v14 h15 c16 =>
q_loadSW h15 v5 fun v17 =>
q_addW 3 9223372036854775807 (binC Try.prog .add 3 (.tmp 6) (.const (.int .i64 (.ofNat 1))) (dec v17) (dec ⟨3, 1, r0, []⟩)) v17 ⟨3, 1, r0, []⟩ fun v18 =>
q_mulW 3 9223372036854775807 (binC Try.prog .mul 3 (.const (.int .i64 (.ofNat 2))) (.tmp 10) (dec ⟨3, 2, r0, []⟩) (dec v14)) ⟨3, 2, r0, []⟩ v14 fun v19 =>
q_subW 3 9223372036854775807 (binC Try.prog .sub 3 (.tmp 7) (.tmp 11) (dec v18) (dec v19)) v18 v19 fun v20 =>
q_killVW v1 h15 fun h21 =>
K v20 h21 c16) (true)))
theorem R101_eq (Q : PrimW) (fu : Nat) (call : CallW) : curryA 2 (fnK Q Try.prog tys stl fu call e101) = R101 Q.addW Q.subW Q.mulW Q.fadW Q.detW Q.killVW Q.loadSW Q.loadAW Q.boxW Q.andW fu call := by kernel_rfl
noncomputable def n101 : List W → HW → Nat → KW → Bool := appF 2 (R101 addW subW mulW fadW detW killVW loadSW loadAW boxW andW 1000000 d1.fn)
theorem n101_ok : FnGood Try.prog tys stl tab 101 n101 := node_ok d1_ok (by kernel_rfl) rfl g101 (R101_eq real _ _)
/- foghorn/bits.Ungray -/
noncomputable def R107 (q_bitW : (Nat → Nat → Nat) → Nat → Nat → Option CV → W → W → (W → Bool) → Bool) (q_cmpW : (Nat → Nat → Bool) → Nat → Option CV → W → W → (W → Bool) → Bool) (q_shlW : Nat → Nat → Nat → Option CV → W → W → (W → Bool) → Bool) (q_shrW : Nat → Nat → Option CV → W → W → (W → Bool) → Bool) (q_notW : Option CV → W → (W → Bool) → Bool) (q_condW : W → Bool → Bool → Bool) (fu : Nat) (call : CallW) (a0 : W) (h0 : HW) (c0 : Nat) (K : KW) : Bool :=
call 110 [a0] h0 c0 fun v1 h2 c3 =>
q_notW (two Try.prog (dec v1) (Op.unary .not)) v1 fun v4 =>
q_condW v4 (
K ⟨13, 0, r0, [⟨3, 0, r0, []⟩, ⟨3, 1, r0, []⟩]⟩ h2 c3) (
@Nat.rec (fun _ => Fun 2) (fun _ _ _ _ => false) (fun _ f9 v5 v6 h7 c8 =>
q_cmpW (cmpF2 .lss) 3 (binC Try.prog .lss 3 (.tmp 8) (.const (.int .i64 (.ofNat 16))) (dec v6) (dec ⟨3, 16, r0, []⟩)) v6 ⟨3, 16, r0, []⟩ fun v10 =>
q_condW v10 (
q_shrW 3 64 (binC Try.prog .shr 3 (.tmp 13) (.tmp 14) (dec v5) (dec v6)) v5 v6 fun v11 =>
q_bitW Nat.xor 3 9223372036854775807 (binC Try.prog .xor 3 (.tmp 12) (.tmp 15) (dec v5) (dec v11)) v5 v11 fun v12 =>
q_shlW 3 9223372036854775807 64 (binC Try.prog .shl 3 (.tmp 10) (.const (.int .u64 (.ofNat 1))) (dec v6) (dec ⟨7, 1, r0, []⟩)) v6 ⟨7, 1, r0, []⟩ fun v13 =>
f9 v12 v13 h7 c8) (
K ⟨13, 0, r0, [v5, ⟨3, 0, r0, []⟩]⟩ h7 c8)) fu a0 ⟨3, 1, r0, []⟩ h2 c3)
theorem R107_eq (Q : PrimW) (fu : Nat) (call : CallW) : curryA 1 (fnK Q Try.prog tys stl fu call e107) = R107 Q.bitW Q.cmpW Q.shlW Q.shrW Q.notW Q.condW fu call := by kernel_rfl
noncomputable def n107 : List W → HW → Nat → KW → Bool := appF 1 (R107 bitW cmpW shlW shrW notW condW 1000000 d1.fn)
theorem n107_ok : FnGood Try.prog tys stl tab 107 n107 := node_ok d1_ok (by kernel_rfl) rfl g107 (R107_eq real _ _)
/- foghorn/bits.Gray -/
noncomputable def R108 (q_bitW : (Nat → Nat → Nat) → Nat → Nat → Option CV → W → W → (W → Bool) → Bool) (q_shrW : Nat → Nat → Option CV → W → W → (W → Bool) → Bool) (q_notW : Option CV → W → (W → Bool) → Bool) (q_condW : W → Bool → Bool → Bool) (fu : Nat) (call : CallW) (a0 : W) (h0 : HW) (c0 : Nat) (K : KW) : Bool :=
call 110 [a0] h0 c0 fun v1 h2 c3 =>
q_notW (two Try.prog (dec v1) (Op.unary .not)) v1 fun v4 =>
q_condW v4 (
K ⟨13, 0, r0, [⟨3, 0, r0, []⟩, ⟨3, 1, r0, []⟩]⟩ h2 c3) (
q_shrW 3 64 (binC Try.prog .shr 3 (.tmp 8) (.const (.int .u64 (.ofNat 1))) (dec a0) (dec ⟨7, 1, r0, []⟩)) a0 ⟨7, 1, r0, []⟩ fun v5 =>
q_bitW Nat.xor 3 9223372036854775807 (binC Try.prog .xor 3 (.tmp 7) (.tmp 9) (dec a0) (dec v5)) a0 v5 fun v6 =>
K ⟨13, 0, r0, [v6, ⟨3, 0, r0, []⟩]⟩ h2 c3)
theorem R108_eq (Q : PrimW) (fu : Nat) (call : CallW) : curryA 1 (fnK Q Try.prog tys stl fu call e108) = R108 Q.bitW Q.shrW Q.notW Q.condW fu call := by kernel_rfl
noncomputable def n108 : List W → HW → Nat → KW → Bool := appF 1 (R108 bitW shrW notW condW 1000000 d1.fn)
theorem n108_ok : FnGood Try.prog tys stl tab 108 n108 := node_ok d1_ok (by kernel_rfl) rfl g108 (R108_eq real _ _)
noncomputable def d2 : Disp := (.node 74 n74 (.node 57 n57 (.node 32 n32 (.node 19 n19 (.node 17 n17 .leaf .leaf) (.node 20 n20 .leaf .leaf)) (.node 44 n44 (.node 41 n41 .leaf .leaf) (.node 54 n54 .leaf .leaf))) (.node 66 n66 (.node 61 n61 (.node 59 n59 .leaf .leaf) (.node 65 n65 .leaf .leaf)) (.node 71 n71 (.node 68 n68 .leaf .leaf) .leaf))) (.node 101 n101 (.node 92 n92 (.node 79 n79 (.node 75 n75 .leaf .leaf) (.node 86 n86 .leaf .leaf)) (.node 97 n97 (.node 95 n95 .leaf .leaf) (.node 98 n98 .leaf .leaf))) (.node 108 n108 (.node 104 n104 (.node 102 n102 .leaf .leaf) (.node 107 n107 .leaf .leaf)) (.node 111 n111 (.node 110 n110 .leaf .leaf) .leaf))))
theorem d2_ok : CallSim Try.prog tys stl tab d2.fn := Disp.sim ⟨n74_ok, ⟨n57_ok, ⟨n32_ok, ⟨n19_ok, ⟨n17_ok, True.intro, True.intro⟩, ⟨n20_ok, True.intro, True.intro⟩⟩, ⟨n44_ok, ⟨n41_ok, True.intro, True.intro⟩, ⟨n54_ok, True.intro, True.intro⟩⟩⟩, ⟨n66_ok, ⟨n61_ok, ⟨n59_ok, True.intro, True.intro⟩, ⟨n65_ok, True.intro, True.intro⟩⟩, ⟨n71_ok, ⟨n68_ok, True.intro, True.intro⟩, True.intro⟩⟩⟩, ⟨n101_ok, ⟨n92_ok, ⟨n79_ok, ⟨n75_ok, True.intro, True.intro⟩, ⟨n86_ok, True.intro, True.intro⟩⟩, ⟨n97_ok, ⟨n95_ok, True.intro, True.intro⟩, ⟨n98_ok, True.intro, True.intro⟩⟩⟩, ⟨n108_ok, ⟨n104_ok, ⟨n102_ok, True.intro, True.intro⟩, ⟨n107_ok, True.intro, True.intro⟩⟩, ⟨n111_ok, ⟨n110_ok, True.intro, True.intro⟩, True.intro⟩⟩⟩⟩
/- foghorn/bounds.First -/
noncomputable def R39 (q_share : (α : Type) → α → (α → Bool) → Bool) (q_genW : Option CV → (W → Bool) → Bool) (q_condW : W → Bool → Bool → Bool) (q_guardW : Bool → W → Bool → Bool → Bool) (q_pickW : W → W → W → (W → Bool) → Bool) (fu : Nat) (call : CallW) (a0 : W) (h0 : HW) (c0 : Nat) (K : KW) : Bool :=
q_share _ (fun (v1 : W) (h2 : HW) (c3 : Nat) =>
q_genW (two Try.prog (dec a0) fun v => Builtin.real_ #[32] 34 #[v]) fun v5 =>
call 54 [v5] h2 c3 fun v6 h7 c8 =>
q_genW (two Try.prog (dec a0) fun v => Builtin.imag_ #[32] 34 #[v]) fun v9 =>
call 54 [v9] h7 c8 fun v10 h11 c12 =>
q_genW (two2 Try.prog (dec v6) (dec v10) fun v u => Builtin.max_ #[34, 34] 34 #[v, u]) fun v13 =>
q_genW (binC Try.prog .neq 34 (.tmp 46) (.const (.float .f64 4607182418800017408)) (dec v13) (dec ⟨12, 0, ⟨0, 0, 0, .flt .f64 4607182418800017408⟩, []⟩)) fun v14 =>
q_share _ (fun (v16 : W) (h17 : HW) (c18 : Nat) =>
q_share _ (fun (v20 : W) (h21 : HW) (c22 : Nat) =>
q_pickW v14 v20 ⟨8, 0, r0, []⟩ fun v23 =>
q_share _ (fun (v25 : W) (h26 : HW) (c27 : Nat) =>
q_share _ (fun (v29 : W) (h30 : HW) (c31 : Nat) =>
q_pickW v23 v29 ⟨8, 0, r0, []⟩ fun v32 =>
q_condW v32 (
K ⟨13, 0, r0, [⟨12, 0, ⟨0, 0, 0, .flt .f64 0⟩, []⟩, ⟨3, 0, r0, []⟩, ⟨8, 0, r0, []⟩]⟩ h30 c31) (
K ⟨13, 0, r0, [v13, v1, ⟨8, 1, r0, []⟩]⟩ h30 c31)) fun f28 =>
q_guardW true v23 (q_genW (binC Try.prog .neq 34 (.tmp 53) (.const (.float .f64 4598175219545276416)) (dec v25) (dec ⟨12, 0, ⟨0, 0, 0, .flt .f64 4598175219545276416⟩, []⟩)) fun v33 =>
f28 v33 h26 c27) (f28 wUnd h26 c27)) fun f24 =>
q_guardW true v23 (f24 v13 h21 c22) (f24 wUnd h21 c22)) fun f19 =>
q_guardW true v14 (q_genW (binC Try.prog .neq 34 (.tmp 49) (.const (.float .f64 4602678819172646912)) (dec v16) (dec ⟨12, 0, ⟨0, 0, 0, .flt .f64 4602678819172646912⟩, []⟩)) fun v34 =>
f19 v34 h17 c18) (f19 wUnd h17 c18)) fun f15 =>
q_guardW true v14 (f15 v13 h11 c12) (f15 wUnd h11 c12)) fun f4 =>
q_genW (two Try.prog (dec a0) fun v => Builtin.real_ #[32] 34 #[v]) fun v35 =>
q_genW (two Try.prog (dec a0) fun v => Builtin.imag_ #[32] 34 #[v]) fun v36 =>
q_genW (binC Try.prog .eql 34 (.tmp 12) (.const (.float .f64 0)) (dec v36) (dec ⟨12, 0, ⟨0, 0, 0, .flt .f64 0⟩, []⟩)) fun v37 =>
q_share _ (fun (v39 : W) (h40 : HW) (c41 : Nat) =>
q_share _ (fun (v43 : W) (h44 : HW) (c45 : Nat) =>
q_pickW v37 v43 ⟨8, 0, r0, []⟩ fun v46 =>
q_condW v46 (
f4 ⟨3, 0, r0, []⟩ h44 c45) (
q_genW (binC Try.prog .eql 34 (.tmp 19) (.const (.float .f64 0)) (dec v35) (dec ⟨12, 0, ⟨0, 0, 0, .flt .f64 0⟩, []⟩)) fun v47 =>
q_share _ (fun (v49 : W) (h50 : HW) (c51 : Nat) =>
q_share _ (fun (v53 : W) (h54 : HW) (c55 : Nat) =>
q_pickW v47 v53 ⟨8, 0, r0, []⟩ fun v56 =>
q_condW v56 (
f4 ⟨3, 1, r0, []⟩ h54 c55) (
q_genW (binC Try.prog .eql 34 (.tmp 26) (.const (.float .f64 0)) (dec v36) (dec ⟨12, 0, ⟨0, 0, 0, .flt .f64 0⟩, []⟩)) fun v57 =>
q_share _ (fun (v59 : W) (h60 : HW) (c61 : Nat) =>
q_share _ (fun (v63 : W) (h64 : HW) (c65 : Nat) =>
q_pickW v57 v63 ⟨8, 0, r0, []⟩ fun v66 =>
q_condW v66 (
f4 ⟨3, 2, r0, []⟩ h64 c65) (
q_genW (binC Try.prog .eql 34 (.tmp 33) (.const (.float .f64 0)) (dec v35) (dec ⟨12, 0, ⟨0, 0, 0, .flt .f64 0⟩, []⟩)) fun v67 =>
q_share _ (fun (v69 : W) (h70 : HW) (c71 : Nat) =>
q_share _ (fun (v73 : W) (h74 : HW) (c75 : Nat) =>
q_pickW v67 v73 ⟨8, 0, r0, []⟩ fun v76 =>
q_condW v76 (
f4 ⟨3, 3, r0, []⟩ h74 c75) (
K ⟨13, 0, r0, [⟨12, 0, ⟨0, 0, 0, .flt .f64 0⟩, []⟩, ⟨3, 0, r0, []⟩, ⟨8, 0, r0, []⟩]⟩ h74 c75)) fun f72 =>
q_guardW true v67 (q_genW (binC Try.prog .lss 34 (.tmp 36) (.const (.float .f64 0)) (dec v69) (dec ⟨12, 0, ⟨0, 0, 0, .flt .f64 0⟩, []⟩)) fun v77 =>
f72 v77 h70 c71) (f72 wUnd h70 c71)) fun f68 =>
q_guardW true v67 (f68 v36 h64 c65) (f68 wUnd h64 c65))) fun f62 =>
q_guardW true v57 (q_genW (binC Try.prog .lss 34 (.tmp 29) (.const (.float .f64 0)) (dec v59) (dec ⟨12, 0, ⟨0, 0, 0, .flt .f64 0⟩, []⟩)) fun v78 =>
f62 v78 h60 c61) (f62 wUnd h60 c61)) fun f58 =>
q_guardW true v57 (f58 v35 h54 c55) (f58 wUnd h54 c55))) fun f52 =>
q_guardW true v47 (q_genW (binC Try.prog .gtr 34 (.tmp 22) (.const (.float .f64 0)) (dec v49) (dec ⟨12, 0, ⟨0, 0, 0, .flt .f64 0⟩, []⟩)) fun v79 =>
f52 v79 h50 c51) (f52 wUnd h50 c51)) fun f48 =>
q_guardW true v47 (f48 v36 h44 c45) (f48 wUnd h44 c45))) fun f42 =>
q_guardW true v37 (q_genW (binC Try.prog .gtr 34 (.tmp 15) (.const (.float .f64 0)) (dec v39) (dec ⟨12, 0, ⟨0, 0, 0, .flt .f64 0⟩, []⟩)) fun v80 =>
f42 v80 h40 c41) (f42 wUnd h40 c41)) fun f38 =>
q_guardW true v37 (f38 v35 h0 c0) (f38 wUnd h0 c0)
theorem R39_eq (Q : PrimW) (fu : Nat) (call : CallW) : curryA 1 (fnK Q Try.prog tys stl fu call e39) = R39 Q.share Q.genW Q.condW Q.guardW Q.pickW fu call := by kernel_rfl
noncomputable def n39 : List W → HW → Nat → KW → Bool := appF 1 (R39 (fun _ x f => f x) genW condW guardW pickW 1000000 d2.fn)
theorem n39_ok : FnGood Try.prog tys stl tab 39 n39 := node_ok d2_ok (by kernel_rfl) rfl g39 (R39_eq real _ _)
/- foghorn/points.Bits -/
noncomputable def R43 (q_notW : Option CV → W → (W → Bool) → Bool) (q_condW : W → Bool → Bool → Bool) (q_fadW : Nat → W → (W → Bool) → Bool) (q_tupW : W → (List W → Bool) → Bool) (q_nthW : Nat → List W → (W → Bool) → Bool) (q_killVW : W → HW → (HW → Bool) → Bool) (q_loadSW : HW → W → (W → Bool) → Bool) (q_storeAW : Nat → HW → W → W → (HW → Bool) → Bool) (q_allocW : Trie W → Nat → Bool → HW → Nat → KW → Bool) (fu : Nat) (call : CallW) (a0 : W) (h0 : HW) (c0 : Nat) (K : KW) : Bool :=
call 61 [a0] h0 c0 fun v1 h2 c3 =>
q_tupW v1 fun l4 => q_nthW 0 l4 fun v5 =>
q_tupW v1 fun l6 => q_nthW 1 l6 fun v7 =>
q_allocW (allocT tys 111) 5 true h2 c3 fun v8 h9 c10 =>
q_storeAW 5 h9 v8 v5 fun h11 =>
q_notW (two Try.prog (dec v7) (Op.unary .not)) v7 fun v12 =>
q_condW v12 (
q_killVW v8 h11 fun h13 =>
K ⟨13, 0, r0, [⟨3, 0, r0, []⟩, ⟨3, 1, r0, []⟩]⟩ h13 c10) (
q_fadW 0 v8 fun v14 =>
q_loadSW h11 v14 fun v15 =>
q_killVW v8 h11 fun h16 =>
K ⟨13, 0, r0, [v15, ⟨3, 0, r0, []⟩]⟩ h16 c10)
theorem R43_eq (Q : PrimW) (fu : Nat) (call : CallW) : curryA 1 (fnK Q Try.prog tys stl fu call e43) = R43 Q.notW Q.condW Q.fadW Q.tupW Q.nthW Q.killVW Q.loadSW Q.storeAW Q.allocW fu call := by kernel_rfl
noncomputable def n43 : List W → HW → Nat → KW → Bool := appF 1 (R43 notW condW fadW tupW nthW killVW loadSW storeAW allocW 1000000 d2.fn)
theorem n43_ok : FnGood Try.prog tys stl tab 43 n43 := node_ok d2_ok (by kernel_rfl) rfl g43 (R43_eq real _ _)
/- math.trunc -/
noncomputable def R67 (q_share : (α : Type) → α → (α → Bool) → Bool) (q_genW : Option CV → (W → Bool) → Bool) (q_subW : Nat → Nat → Option CV → W → W → (W → Bool) → Bool) (q_bitW : (Nat → Nat → Nat) → Nat → Nat → Option CV → W → W → (W → Bool) → Bool) (q_cmpW : (Nat → Nat → Bool) → Nat → Option CV → W → W → (W → Bool) → Bool) (q_shlW : Nat → Nat → Nat → Option CV → W → W → (W → Bool) → Bool) (q_shrW : Nat → Nat → Option CV → W → W → (W → Bool) → Bool) (q_condW : W → Bool → Bool → Bool) (fu : Nat) (call : CallW) (a0 : W) (h0 : HW) (c0 : Nat) (K : KW) : Bool :=
call 54 [a0] h0 c0 fun v1 h2 c3 =>
q_genW (binC Try.prog .lss 34 (.tmp 6) (.const (.float .f64 4607182418800017408)) (dec v1) (dec ⟨12, 0, ⟨0, 0, 0, .flt .f64 4607182418800017408⟩, []⟩)) fun v4 =>
q_condW v4 (
call 79 [⟨12, 0, ⟨0, 0, 0, .flt .f64 0⟩, []⟩, a0] h2 c3 fun v5 h6 c7 =>
K v5 h6 c7) (
call 65 [a0] h2 c3 fun v8 h9 c10 =>
q_shrW 7 64 (binC Try.prog .shr 73 (.tmp 12) (.const (.int .u64 (.ofNat 52))) (dec v8) (dec ⟨7, 52, r0, []⟩)) v8 ⟨7, 52, r0, []⟩ fun v11 =>
q_bitW Nat.land 7 18446744073709551615 (binC Try.prog .and 122 (.tmp 13) (.const (.int .u64 (.ofNat 2047))) (dec v11) (dec ⟨7, 2047, r0, []⟩)) v11 ⟨7, 2047, r0, []⟩ fun v12 =>
q_subW 7 18446744073709551615 (binC Try.prog .sub 122 (.tmp 14) (.const (.int .u64 (.ofNat 1023))) (dec v12) (dec ⟨7, 1023, r0, []⟩)) v12 ⟨7, 1023, r0, []⟩ fun v13 =>
q_share _ (fun (v14 : W) (h15 : HW) (c16 : Nat) =>
call 32 [v14] h15 c16 fun v18 h19 c20 =>
K v18 h19 c20) fun f17 =>
q_cmpW (cmpF2 .lss) 7 (binC Try.prog .lss 122 (.tmp 16) (.const (.int .u64 (.ofNat 52))) (dec v13) (dec ⟨7, 52, r0, []⟩)) v13 ⟨7, 52, r0, []⟩ fun v21 =>
q_condW v21 (
q_subW 7 18446744073709551615 (binC Try.prog .sub 122 (.const (.int .u64 (.ofNat 52))) (.tmp 19) (dec ⟨7, 52, r0, []⟩) (dec v13)) ⟨7, 52, r0, []⟩ v13 fun v22 =>
q_shlW 7 18446744073709551615 64 (binC Try.prog .shl 73 (.const (.int .u64 (.ofNat 1))) (.tmp 20) (dec ⟨7, 1, r0, []⟩) (dec v22)) ⟨7, 1, r0, []⟩ v22 fun v23 =>
q_subW 7 18446744073709551615 (binC Try.prog .sub 73 (.tmp 21) (.const (.int .u64 (.ofNat 1))) (dec v23) (dec ⟨7, 1, r0, []⟩)) v23 ⟨7, 1, r0, []⟩ fun v24 =>
q_genW (binC Try.prog .andNot 73 (.tmp 18) (.tmp 22) (dec v8) (dec v24)) fun v25 =>
f17 v25 h9 c10) (
f17 v8 h9 c10))
theorem R67_eq (Q : PrimW) (fu : Nat) (call : CallW) : curryA 1 (fnK Q Try.prog tys stl fu call e67) = R67 Q.share Q.genW Q.subW Q.bitW Q.cmpW Q.shlW Q.shrW Q.condW fu call := by kernel_rfl
noncomputable def n67 : List W → HW → Nat → KW → Bool := appF 1 (R67 (fun _ x f => f x) genW subW bitW cmpW shlW shrW condW 1000000 d2.fn)
theorem n67_ok : FnGood Try.prog tys stl tab 67 n67 := node_ok d2_ok (by kernel_rfl) rfl g67 (R67_eq real _ _)
/- foghorn/points.Edge -/
noncomputable def R81 (q_notW : Option CV → W → (W → Bool) → Bool) (q_condW : W → Bool → Bool → Bool) (q_fadW : Nat → W → (W → Bool) → Bool) (q_tupW : W → (List W → Bool) → Bool) (q_nthW : Nat → List W → (W → Bool) → Bool) (q_killVW : W → HW → (HW → Bool) → Bool) (q_loadSW : HW → W → (W → Bool) → Bool) (q_storeAW : Nat → HW → W → W → (HW → Bool) → Bool) (q_allocW : Trie W → Nat → Bool → HW → Nat → KW → Bool) (fu : Nat) (call : CallW) (a0 : W) (h0 : HW) (c0 : Nat) (K : KW) : Bool :=
call 61 [a0] h0 c0 fun v1 h2 c3 =>
q_tupW v1 fun l4 => q_nthW 0 l4 fun v5 =>
q_tupW v1 fun l6 => q_nthW 1 l6 fun v7 =>
q_allocW (allocT tys 111) 5 true h2 c3 fun v8 h9 c10 =>
q_storeAW 5 h9 v8 v5 fun h11 =>
q_notW (two Try.prog (dec v7) (Op.unary .not)) v7 fun v12 =>
q_condW v12 (
q_killVW v8 h11 fun h13 =>
K ⟨13, 0, r0, [⟨3, 0, r0, []⟩, ⟨3, 1, r0, []⟩]⟩ h13 c10) (
q_fadW 1 v8 fun v14 =>
q_loadSW h11 v14 fun v15 =>
q_killVW v8 h11 fun h16 =>
K ⟨13, 0, r0, [v15, ⟨3, 0, r0, []⟩]⟩ h16 c10)
theorem R81_eq (Q : PrimW) (fu : Nat) (call : CallW) : curryA 1 (fnK Q Try.prog tys stl fu call e81) = R81 Q.notW Q.condW Q.fadW Q.tupW Q.nthW Q.killVW Q.loadSW Q.storeAW Q.allocW fu call := by kernel_rfl
noncomputable def n81 : List W → HW → Nat → KW → Bool := appF 1 (R81 notW condW fadW tupW nthW killVW loadSW storeAW allocW 1000000 d2.fn)
theorem n81_ok : FnGood Try.prog tys stl tab 81 n81 := node_ok d2_ok (by kernel_rfl) rfl g81 (R81_eq real _ _)
/- foghorn/points.crossAt -/
noncomputable def R89 (q_addW : Nat → Nat → Option CV → W → W → (W → Bool) → Bool) (q_subW : Nat → Nat → Option CV → W → W → (W → Bool) → Bool) (q_cmpW : (Nat → Nat → Bool) → Nat → Option CV → W → W → (W → Bool) → Bool) (q_condW : W → Bool → Bool → Bool) (q_killVW : W → HW → (HW → Bool) → Bool) (q_loadAW : Nat → HW → W → (W → Bool) → Bool) (q_boxW : HW → Nat → W → KW → Bool) (q_andW : Bool → Bool → Bool) (fu : Nat) (call : CallW) (a0 : W) (a1 : W) (h0 : HW) (c0 : Nat) (K : KW) : Bool :=
q_boxW h0 c0 a0 fun v1 h2 c3 =>
@Nat.rec (fun _ => Fun 2) (fun _ _ _ _ => false) (fun _ f8 v4 v5 h6 c7 =>
q_loadAW 5 h6 v1 fun v9 =>
call 101 [v9, v5] h6 c7 fun v10 h11 c12 =>
q_cmpW (cmpF2 .geq) 3 (binC Try.prog .geq 3 (.tmp 6) (.tmp 9) (dec v4) (dec v10)) v4 v10 fun v13 =>
q_condW v13 (
q_loadAW 5 h11 v1 fun v14 =>
call 101 [v14, v5] h11 c12 fun v15 h16 c17 =>
q_subW 3 9223372036854775807 (binC Try.prog .sub 3 (.tmp 11) (.tmp 14) (dec v4) (dec v15)) v4 v15 fun v18 =>
q_addW 3 9223372036854775807 (binC Try.prog .add 3 (.tmp 16) (.const (.int .i64 (.ofNat 1))) (dec v5) (dec ⟨3, 1, r0, []⟩)) v5 ⟨3, 1, r0, []⟩ fun v19 =>
f8 v18 v19 h16 c17) (
q_loadAW 5 h11 v1 fun v20 =>
q_andW (q_loadAW 5 h11 v1 fun v21 =>
call 102 [v20, v5] h11 c12 fun v22 h23 c24 =>
q_addW 3 9223372036854775807 (binC Try.prog .add 3 (.tmp 22) (.tmp 23) (dec v22) (dec v4)) v22 v4 fun v25 =>
call 98 [v21, v5, v25] h23 c24 fun v26 h27 c28 =>
q_killVW v1 h27 fun h29 =>
K v26 h29 c28) (q_andW (call 102 [v20, v5] h11 c12 fun v30 h31 c32 =>
q_loadAW 5 h31 v1 fun v33 =>
q_addW 3 9223372036854775807 (binC Try.prog .add 3 (.tmp 22) (.tmp 23) (dec v30) (dec v4)) v30 v4 fun v34 =>
call 98 [v33, v5, v34] h31 c32 fun v35 h36 c37 =>
q_killVW v1 h36 fun h38 =>
K v35 h38 c37) (true)))) fu a1 ⟨3, 0, r0, []⟩ h2 c3
theorem R89_eq (Q : PrimW) (fu : Nat) (call : CallW) : curryA 2 (fnK Q Try.prog tys stl fu call e89) = R89 Q.addW Q.subW Q.cmpW Q.condW Q.killVW Q.loadAW Q.boxW Q.andW fu call := by kernel_rfl
noncomputable def n89 : List W → HW → Nat → KW → Bool := appF 2 (R89 addW subW cmpW condW killVW loadAW boxW andW 1000000 d2.fn)
theorem n89_ok : FnGood Try.prog tys stl tab 89 n89 := node_ok d2_ok (by kernel_rfl) rfl g89 (R89_eq real _ _)
/- foghorn/points.crossLabel -/
noncomputable def R90 (q_addW : Nat → Nat → Option CV → W → W → (W → Bool) → Bool) (q_subW : Nat → Nat → Option CV → W → W → (W → Bool) → Bool) (q_cmpW : (Nat → Nat → Bool) → Nat → Option CV → W → W → (W → Bool) → Bool) (q_condW : W → Bool → Bool → Bool) (q_killVW : W → HW → (HW → Bool) → Bool) (q_loadAW : Nat → HW → W → (W → Bool) → Bool) (q_boxW : HW → Nat → W → KW → Bool) (fu : Nat) (call : CallW) (a0 : W) (a1 : W) (a2 : W) (h0 : HW) (c0 : Nat) (K : KW) : Bool :=
q_boxW h0 c0 a0 fun v1 h2 c3 =>
q_loadAW 5 h2 v1 fun v4 =>
call 102 [v4, a1] h2 c3 fun v5 h6 c7 =>
q_subW 3 9223372036854775807 (binC Try.prog .sub 3 (.tmp 9) (.tmp 12) (dec a2) (dec v5)) a2 v5 fun v8 =>
@Nat.rec (fun _ => Fun 2) (fun _ _ _ _ => false) (fun _ f13 v9 v10 h11 c12 =>
q_cmpW (cmpF2 .lss) 3 (binC Try.prog .lss 3 (.tmp 15) (.tmp 14) (dec v10) (dec a1)) v10 a1 fun v14 =>
q_condW v14 (
q_loadAW 5 h11 v1 fun v15 =>
call 101 [v15, v10] h11 c12 fun v16 h17 c18 =>
q_addW 3 9223372036854775807 (binC Try.prog .add 3 (.tmp 18) (.tmp 21) (dec v9) (dec v16)) v9 v16 fun v19 =>
q_addW 3 9223372036854775807 (binC Try.prog .add 3 (.tmp 15) (.const (.int .i64 (.ofNat 1))) (dec v10) (dec ⟨3, 1, r0, []⟩)) v10 ⟨3, 1, r0, []⟩ fun v20 =>
f13 v19 v20 h17 c18) (
q_killVW v1 h11 fun h21 =>
K v9 h21 c12)) fu v8 ⟨3, 0, r0, []⟩ h6 c7
theorem R90_eq (Q : PrimW) (fu : Nat) (call : CallW) : curryA 3 (fnK Q Try.prog tys stl fu call e90) = R90 Q.addW Q.subW Q.cmpW Q.condW Q.killVW Q.loadAW Q.boxW fu call := by kernel_rfl
noncomputable def n90 : List W → HW → Nat → KW → Bool := appF 3 (R90 addW subW cmpW condW killVW loadAW boxW 1000000 d2.fn)
theorem n90_ok : FnGood Try.prog tys stl tab 90 n90 := node_ok d2_ok (by kernel_rfl) rfl g90 (R90_eq real _ _)
/- math.IsInf -/
noncomputable def R93 (q_share : (α : Type) → α → (α → Bool) → Bool) (q_genW : Option CV → (W → Bool) → Bool) (q_cmpW : (Nat → Nat → Bool) → Nat → Option CV → W → W → (W → Bool) → Bool) (q_condW : W → Bool → Bool → Bool) (fu : Nat) (call : CallW) (a0 : W) (a1 : W) (h0 : HW) (c0 : Nat) (K : KW) : Bool :=
q_share _ (fun (v1 : W) (h2 : HW) (c3 : Nat) =>
q_genW (binC Try.prog .gtr 34 (.tmp 13) (.const (.float .f64 9218868437227405311)) (dec v1) (dec ⟨12, 0, ⟨0, 0, 0, .flt .f64 9218868437227405311⟩, []⟩)) fun v5 =>
K v5 h2 c3) fun f4 =>
q_cmpW (cmpF2 .eql) 3 (binC Try.prog .eql 3 (.tmp 5) (.const (.int .i64 (.ofNat 0))) (dec a1) (dec ⟨3, 0, r0, []⟩)) a1 ⟨3, 0, r0, []⟩ fun v6 =>
q_condW v6 (
call 54 [a0] h0 c0 fun v7 h8 c9 =>
f4 v7 h8 c9) (
q_cmpW (cmpF2 .lss) 3 (binC Try.prog .lss 3 (.tmp 9) (.const (.int .i64 (.ofNat 0))) (dec a1) (dec ⟨3, 0, r0, []⟩)) a1 ⟨3, 0, r0, []⟩ fun v10 =>
q_condW v10 (
q_genW (two Try.prog (dec a0) (Op.unary .neg)) fun v11 =>
f4 v11 h0 c0) (
f4 a0 h0 c0))
theorem R93_eq (Q : PrimW) (fu : Nat) (call : CallW) : curryA 2 (fnK Q Try.prog tys stl fu call e93) = R93 Q.share Q.genW Q.cmpW Q.condW fu call := by kernel_rfl
noncomputable def n93 : List W → HW → Nat → KW → Bool := appF 2 (R93 (fun _ x f => f x) genW cmpW condW 1000000 d2.fn)
theorem n93_ok : FnGood Try.prog tys stl tab 93 n93 := node_ok d2_ok (by kernel_rfl) rfl g93 (R93_eq real _ _)
/- foghorn/points.ungray -/
noncomputable def R99 (q_tupW : W → (List W → Bool) → Bool) (q_nthW : Nat → List W → (W → Bool) → Bool) (fu : Nat) (call : CallW) (a0 : W) (h0 : HW) (c0 : Nat) (K : KW) : Bool :=
call 107 [a0] h0 c0 fun v1 h2 c3 =>
q_tupW v1 fun l4 => q_nthW 0 l4 fun v5 =>
q_tupW v1 fun l6 => q_nthW 1 l6 fun v7 =>
K v5 h2 c3
theorem R99_eq (Q : PrimW) (fu : Nat) (call : CallW) : curryA 1 (fnK Q Try.prog tys stl fu call e99) = R99 Q.tupW Q.nthW fu call := by kernel_rfl
noncomputable def n99 : List W → HW → Nat → KW → Bool := appF 1 (R99 tupW nthW 1000000 d2.fn)
theorem n99_ok : FnGood Try.prog tys stl tab 99 n99 := node_ok d2_ok (by kernel_rfl) rfl g99 (R99_eq real _ _)
/- foghorn/points.gray -/
noncomputable def R100 (q_tupW : W → (List W → Bool) → Bool) (q_nthW : Nat → List W → (W → Bool) → Bool) (fu : Nat) (call : CallW) (a0 : W) (h0 : HW) (c0 : Nat) (K : KW) : Bool :=
call 108 [a0] h0 c0 fun v1 h2 c3 =>
q_tupW v1 fun l4 => q_nthW 0 l4 fun v5 =>
q_tupW v1 fun l6 => q_nthW 1 l6 fun v7 =>
K v5 h2 c3
theorem R100_eq (Q : PrimW) (fu : Nat) (call : CallW) : curryA 1 (fnK Q Try.prog tys stl fu call e100) = R100 Q.tupW Q.nthW fu call := by kernel_rfl
noncomputable def n100 : List W → HW → Nat → KW → Bool := appF 1 (R100 tupW nthW 1000000 d2.fn)
theorem n100_ok : FnGood Try.prog tys stl tab 100 n100 := node_ok d2_ok (by kernel_rfl) rfl g100 (R100_eq real _ _)
noncomputable def d3 : Disp := (.node 79 n79 (.node 57 n57 (.node 39 n39 (.node 20 n20 (.node 19 n19 (.node 17 n17 .leaf .leaf) .leaf) (.node 32 n32 .leaf .leaf)) (.node 44 n44 (.node 43 n43 (.node 41 n41 .leaf .leaf) .leaf) (.node 54 n54 .leaf .leaf))) (.node 67 n67 (.node 65 n65 (.node 61 n61 (.node 59 n59 .leaf .leaf) .leaf) (.node 66 n66 .leaf .leaf)) (.node 74 n74 (.node 71 n71 (.node 68 n68 .leaf .leaf) .leaf) (.node 75 n75 .leaf .leaf)))) (.node 99 n99 (.node 92 n92 (.node 89 n89 (.node 86 n86 (.node 81 n81 .leaf .leaf) .leaf) (.node 90 n90 .leaf .leaf)) (.node 97 n97 (.node 95 n95 (.node 93 n93 .leaf .leaf) .leaf) (.node 98 n98 .leaf .leaf))) (.node 107 n107 (.node 102 n102 (.node 101 n101 (.node 100 n100 .leaf .leaf) .leaf) (.node 104 n104 .leaf .leaf)) (.node 110 n110 (.node 108 n108 .leaf .leaf) (.node 111 n111 .leaf .leaf)))))
theorem d3_ok : CallSim Try.prog tys stl tab d3.fn := Disp.sim ⟨n79_ok, ⟨n57_ok, ⟨n39_ok, ⟨n20_ok, ⟨n19_ok, ⟨n17_ok, True.intro, True.intro⟩, True.intro⟩, ⟨n32_ok, True.intro, True.intro⟩⟩, ⟨n44_ok, ⟨n43_ok, ⟨n41_ok, True.intro, True.intro⟩, True.intro⟩, ⟨n54_ok, True.intro, True.intro⟩⟩⟩, ⟨n67_ok, ⟨n65_ok, ⟨n61_ok, ⟨n59_ok, True.intro, True.intro⟩, True.intro⟩, ⟨n66_ok, True.intro, True.intro⟩⟩, ⟨n74_ok, ⟨n71_ok, ⟨n68_ok, True.intro, True.intro⟩, True.intro⟩, ⟨n75_ok, True.intro, True.intro⟩⟩⟩⟩, ⟨n99_ok, ⟨n92_ok, ⟨n89_ok, ⟨n86_ok, ⟨n81_ok, True.intro, True.intro⟩, True.intro⟩, ⟨n90_ok, True.intro, True.intro⟩⟩, ⟨n97_ok, ⟨n95_ok, ⟨n93_ok, True.intro, True.intro⟩, True.intro⟩, ⟨n98_ok, True.intro, True.intro⟩⟩⟩, ⟨n107_ok, ⟨n102_ok, ⟨n101_ok, ⟨n100_ok, True.intro, True.intro⟩, True.intro⟩, ⟨n104_ok, True.intro, True.intro⟩⟩, ⟨n110_ok, ⟨n108_ok, True.intro, True.intro⟩, ⟨n111_ok, True.intro, True.intro⟩⟩⟩⟩⟩
/- math.Trunc -/
noncomputable def R55 (q_condW : W → Bool → Bool → Bool) (fu : Nat) (call : CallW) (a0 : W) (h0 : HW) (c0 : Nat) (K : KW) : Bool :=
q_condW ⟨8, 1, r0, []⟩ (
call 66 [a0] h0 c0 fun v1 h2 c3 =>
K v1 h2 c3) (
call 67 [a0] h0 c0 fun v4 h5 c6 =>
K v4 h5 c6)
theorem R55_eq (Q : PrimW) (fu : Nat) (call : CallW) : curryA 1 (fnK Q Try.prog tys stl fu call e55) = R55 Q.condW fu call := by kernel_rfl
noncomputable def n55 : List W → HW → Nat → KW → Bool := appF 1 (R55 condW 1000000 d3.fn)
theorem n55_ok : FnGood Try.prog tys stl tab 55 n55 := node_ok d3_ok (by kernel_rfl) rfl g55 (R55_eq real _ _)
/- foghorn/slice.isLost -/
noncomputable def R80 (q_share : (α : Type) → α → (α → Bool) → Bool) (q_genW : Option CV → (W → Bool) → Bool) (q_guardW : Bool → W → Bool → Bool → Bool) (q_pickW : W → W → W → (W → Bool) → Bool) (fu : Nat) (call : CallW) (a0 : W) (h0 : HW) (c0 : Nat) (K : KW) : Bool :=
q_genW (two Try.prog (dec a0) fun v => Builtin.real_ #[32] 34 #[v]) fun v1 =>
q_genW (two Try.prog (dec a0) fun v => Builtin.imag_ #[32] 34 #[v]) fun v2 =>
q_genW (binC Try.prog .add 34 (.tmp 4) (.tmp 6) (dec v1) (dec v2)) fun v3 =>
call 92 [v3] h0 c0 fun v4 h5 c6 =>
q_share _ (fun (v8 : W) (h9 : HW) (c10 : Nat) =>
q_share _ (fun (v12 : W) (h13 : HW) (c14 : Nat) =>
q_share _ (fun (v16 : W) (h17 : HW) (c18 : Nat) =>
q_pickW v4 ⟨8, 1, r0, []⟩ v16 fun v19 =>
q_share _ (fun (v21 : W) (h22 : HW) (c23 : Nat) =>
q_share _ (fun (v25 : W) (h26 : HW) (c27 : Nat) =>
q_share _ (fun (v29 : W) (h30 : HW) (c31 : Nat) =>
q_pickW v19 ⟨8, 1, r0, []⟩ v29 fun v32 =>
K v32 h30 c31) fun f28 =>
q_guardW false v19 (call 93 [v25, ⟨3, 0, r0, []⟩] h26 c27 fun v33 h34 c35 =>
f28 v33 h34 c35) (f28 wUnd h26 c27)) fun f24 =>
q_guardW false v19 (q_genW (two Try.prog (dec v21) fun v => Builtin.imag_ #[32] 34 #[v]) fun v36 =>
f24 v36 h22 c23) (f24 wUnd h22 c23)) fun f20 =>
q_guardW false v19 (f20 a0 h17 c18) (f20 wUnd h17 c18)) fun f15 =>
q_guardW false v4 (call 93 [v12, ⟨3, 0, r0, []⟩] h13 c14 fun v37 h38 c39 =>
f15 v37 h38 c39) (f15 wUnd h13 c14)) fun f11 =>
q_guardW false v4 (q_genW (two Try.prog (dec v8) fun v => Builtin.real_ #[32] 34 #[v]) fun v40 =>
f11 v40 h9 c10) (f11 wUnd h9 c10)) fun f7 =>
q_guardW false v4 (f7 a0 h5 c6) (f7 wUnd h5 c6)
theorem R80_eq (Q : PrimW) (fu : Nat) (call : CallW) : curryA 1 (fnK Q Try.prog tys stl fu call e80) = R80 Q.share Q.genW Q.guardW Q.pickW fu call := by kernel_rfl
noncomputable def n80 : List W → HW → Nat → KW → Bool := appF 1 (R80 (fun _ x f => f x) genW guardW pickW 1000000 d3.fn)
theorem n80_ok : FnGood Try.prog tys stl tab 80 n80 := node_ok d3_ok (by kernel_rfl) rfl g80 (R80_eq real _ _)
/- foghorn/slice.Cut -/
noncomputable def R84 (q_share : (α : Type) → α → (α → Bool) → Bool) (q_genW : Option CV → (W → Bool) → Bool) (q_cmpW : (Nat → Nat → Bool) → Nat → Option CV → W → W → (W → Bool) → Bool) (q_condW : W → Bool → Bool → Bool) (q_guardW : Bool → W → Bool → Bool → Bool) (q_pickW : W → W → W → (W → Bool) → Bool) (q_tupW : W → (List W → Bool) → Bool) (q_nthW : Nat → List W → (W → Bool) → Bool) (fu : Nat) (call : CallW) (a0 : W) (a1 : W) (h0 : HW) (c0 : Nat) (K : KW) : Bool :=
call 81 [a0] h0 c0 fun v1 h2 c3 =>
q_tupW v1 fun l4 => q_nthW 0 l4 fun v5 =>
q_tupW v1 fun l6 => q_nthW 1 l6 fun v7 =>
q_cmpW (cmpF2 .neq) 3 (binC Try.prog .neq 27 (.tmp 13) (.const (.int .i64 (.ofNat 0))) (dec v7) (dec ⟨3, 0, r0, []⟩)) v7 ⟨3, 0, r0, []⟩ fun v8 =>
q_condW v8 (
K ⟨13, 0, r0, [⟨12, 0, ⟨0, 0, 0, .cpx .f64 0 0⟩, []⟩, v7]⟩ h2 c3) (
q_genW (two Try.prog (dec a1) fun v => Builtin.real_ #[32] 34 #[v]) fun v9 =>
call 92 [v9] h2 c3 fun v10 h11 c12 =>
q_share _ (fun (v14 : W) (h15 : HW) (c16 : Nat) =>
q_share _ (fun (v18 : W) (h19 : HW) (c20 : Nat) =>
q_share _ (fun (v22 : W) (h23 : HW) (c24 : Nat) =>
q_pickW v10 ⟨8, 1, r0, []⟩ v22 fun v25 =>
q_condW v25 (
K ⟨13, 0, r0, [⟨12, 0, ⟨0, 0, 0, .cpx .f64 0 0⟩, []⟩, ⟨3, 1, r0, []⟩]⟩ h23 c24) (
q_genW (two Try.prog (dec a1) fun v => Builtin.real_ #[32] 34 #[v]) fun v26 =>
call 95 [v26, v5] h23 c24 fun v27 h28 c29 =>
q_genW (two Try.prog (dec a1) fun v => Builtin.imag_ #[32] 34 #[v]) fun v30 =>
call 95 [v30, v5] h28 c29 fun v31 h32 c33 =>
q_genW (two2 Try.prog (dec v27) (dec v31) fun v u => Builtin.complex_ #[34, 34] 32 #[v, u]) fun v34 =>
K ⟨13, 0, r0, [v34, ⟨3, 0, r0, []⟩]⟩ h32 c33)) fun f21 =>
q_guardW false v10 (call 92 [v18] h19 c20 fun v35 h36 c37 =>
f21 v35 h36 c37) (f21 wUnd h19 c20)) fun f17 =>
q_guardW false v10 (q_genW (two Try.prog (dec v14) fun v => Builtin.imag_ #[32] 34 #[v]) fun v38 =>
f17 v38 h15 c16) (f17 wUnd h15 c16)) fun f13 =>
q_guardW false v10 (f13 a1 h11 c12) (f13 wUnd h11 c12))
theorem R84_eq (Q : PrimW) (fu : Nat) (call : CallW) : curryA 2 (fnK Q Try.prog tys stl fu call e84) = R84 Q.share Q.genW Q.cmpW Q.condW Q.guardW Q.pickW Q.tupW Q.nthW fu call := by kernel_rfl
noncomputable def n84 : List W → HW → Nat → KW → Bool := appF 2 (R84 (fun _ x f => f x) genW cmpW condW guardW pickW tupW nthW 1000000 d3.fn)
theorem n84_ok : FnGood Try.prog tys stl tab 84 n84 := node_ok d3_ok (by kernel_rfl) rfl g84 (R84_eq real _ _)
/- foghorn/points.squareAt -/
noncomputable def R87 (q_subW : Nat → Nat → Option CV → W → W → (W → Bool) → Bool) (q_quoW : Nat → Nat → Option CV → W → W → (W → Bool) → Bool) (q_bitW : (Nat → Nat → Nat) → Nat → Nat → Option CV → W → W → (W → Bool) → Bool) (q_shlW : Nat → Nat → Nat → Option CV → W → W → (W → Bool) → Bool) (q_shrW : Nat → Nat → Option CV → W → W → (W → Bool) → Bool) (q_fadW : Nat → W → (W → Bool) → Bool) (q_knownW : W → Bool → Bool) (q_killVW : W → HW → (HW → Bool) → Bool) (q_loadSW : HW → W → (W → Bool) → Bool) (q_loadAW : Nat → HW → W → (W → Bool) → Bool) (q_boxW : HW → Nat → W → KW → Bool) (fu : Nat) (call : CallW) (a0 : W) (a1 : W) (h0 : HW) (c0 : Nat) (K : KW) : Bool :=
q_boxW h0 c0 a0 fun v1 h2 c3 =>
q_fadW 0 v1 fun v4 =>
q_loadSW h2 v4 fun v5 =>
q_quoW 3 9223372036854775807 (binC Try.prog .quo 3 (.tmp 7) (.const (.int .i64 (.ofNat 2))) (dec v5) (dec ⟨3, 2, r0, []⟩)) v5 ⟨3, 2, r0, []⟩ fun v6 =>
q_loadAW 5 h2 v1 fun v7 =>
q_shrW 3 64 (binC Try.prog .shr 3 (.tmp 10) (.tmp 11) (dec a1) (dec v6)) a1 v6 fun v8 =>
call 99 [v8] h2 c3 fun v9 _ _ => q_knownW v9 (
q_shlW 3 9223372036854775807 64 (binC Try.prog .shl 3 (.const (.int .i64 (.ofNat 1))) (.tmp 15) (dec ⟨3, 1, r0, []⟩) (dec v6)) ⟨3, 1, r0, []⟩ v6 fun v10 =>
q_subW 3 9223372036854775807 (binC Try.prog .sub 3 (.tmp 16) (.const (.int .i64 (.ofNat 1))) (dec v10) (dec ⟨3, 1, r0, []⟩)) v10 ⟨3, 1, r0, []⟩ fun v11 =>
q_bitW Nat.land 3 9223372036854775807 (binC Try.prog .and 3 (.tmp 14) (.tmp 17) (dec a1) (dec v11)) a1 v11 fun v12 =>
call 99 [v12] h2 c3 fun v13 _ _ => q_knownW v13 (
call 98 [v7, v9, v13] h2 c3 fun v14 h15 c16 =>
q_killVW v1 h15 fun h17 =>
K v14 h17 c16))
theorem R87_eq (Q : PrimW) (fu : Nat) (call : CallW) : curryA 2 (fnK Q Try.prog tys stl fu call e87) = R87 Q.subW Q.quoW Q.bitW Q.shlW Q.shrW Q.fadW Q.knownW Q.killVW Q.loadSW Q.loadAW Q.boxW fu call := by kernel_rfl
noncomputable def n87 : List W → HW → Nat → KW → Bool := appF 2 (R87 subW quoW bitW shlW shrW fadW knownW killVW loadSW loadAW boxW 1000000 d3.fn)
theorem n87_ok : FnGood Try.prog tys stl tab 87 n87 := node_ok d3_ok (by kernel_rfl) rfl g87 (R87_eq real _ _)
/- foghorn/points.squareLabel -/
noncomputable def R88 (q_quoW : Nat → Nat → Option CV → W → W → (W → Bool) → Bool) (q_bitW : (Nat → Nat → Nat) → Nat → Nat → Option CV → W → W → (W → Bool) → Bool) (q_shlW : Nat → Nat → Nat → Option CV → W → W → (W → Bool) → Bool) (q_fadW : Nat → W → (W → Bool) → Bool) (q_knownW : W → Bool → Bool) (q_killVW : W → HW → (HW → Bool) → Bool) (q_loadSW : HW → W → (W → Bool) → Bool) (q_boxW : HW → Nat → W → KW → Bool) (fu : Nat) (call : CallW) (a0 : W) (a1 : W) (a2 : W) (h0 : HW) (c0 : Nat) (K : KW) : Bool :=
q_boxW h0 c0 a0 fun v1 h2 c3 =>
call 100 [a1] h2 c3 fun v4 _ _ => q_knownW v4 (
q_fadW 0 v1 fun v5 =>
q_loadSW h2 v5 fun v6 =>
q_quoW 3 9223372036854775807 (binC Try.prog .quo 3 (.tmp 10) (.const (.int .i64 (.ofNat 2))) (dec v6) (dec ⟨3, 2, r0, []⟩)) v6 ⟨3, 2, r0, []⟩ fun v7 =>
q_shlW 3 9223372036854775807 64 (binC Try.prog .shl 3 (.tmp 8) (.tmp 11) (dec v4) (dec v7)) v4 v7 fun v8 =>
call 100 [a2] h2 c3 fun v9 _ _ => q_knownW v9 (
q_bitW Nat.lor 3 9223372036854775807 (binC Try.prog .or 3 (.tmp 12) (.tmp 14) (dec v8) (dec v9)) v8 v9 fun v10 =>
q_killVW v1 h2 fun h11 =>
K v10 h11 c3))
theorem R88_eq (Q : PrimW) (fu : Nat) (call : CallW) : curryA 3 (fnK Q Try.prog tys stl fu call e88) = R88 Q.quoW Q.bitW Q.shlW Q.fadW Q.knownW Q.killVW Q.loadSW Q.boxW fu call := by kernel_rfl
noncomputable def n88 : List W → HW → Nat → KW → Bool := appF 3 (R88 quoW bitW shlW fadW knownW killVW loadSW boxW 1000000 d3.fn)
theorem n88_ok : FnGood Try.prog tys stl tab 88 n88 := node_ok d3_ok (by kernel_rfl) rfl g88 (R88_eq real _ _)
noncomputable def d4 : Disp := (.node 80 n80 (.node 57 n57 (.node 41 n41 (.node 20 n20 (.node 19 n19 (.node 17 n17 .leaf .leaf) .leaf) (.node 39 n39 (.node 32 n32 .leaf .leaf) .leaf)) (.node 54 n54 (.node 44 n44 (.node 43 n43 .leaf .leaf) .leaf) (.node 55 n55 .leaf .leaf))) (.node 68 n68 (.node 65 n65 (.node 61 n61 (.node 59 n59 .leaf .leaf) .leaf) (.node 67 n67 (.node 66 n66 .leaf .leaf) .leaf)) (.node 75 n75 (.node 74 n74 (.node 71 n71 .leaf .leaf) .leaf) (.node 79 n79 .leaf .leaf)))) (.node 97 n97 (.node 89 n89 (.node 86 n86 (.node 84 n84 (.node 81 n81 .leaf .leaf) .leaf) (.node 88 n88 (.node 87 n87 .leaf .leaf) .leaf)) (.node 93 n93 (.node 92 n92 (.node 90 n90 .leaf .leaf) .leaf) (.node 95 n95 .leaf .leaf))) (.node 104 n104 (.node 100 n100 (.node 99 n99 (.node 98 n98 .leaf .leaf) .leaf) (.node 102 n102 (.node 101 n101 .leaf .leaf) .leaf)) (.node 110 n110 (.node 108 n108 (.node 107 n107 .leaf .leaf) .leaf) (.node 111 n111 .leaf .leaf)))))
theorem d4_ok : CallSim Try.prog tys stl tab d4.fn := Disp.sim ⟨n80_ok, ⟨n57_ok, ⟨n41_ok, ⟨n20_ok, ⟨n19_ok, ⟨n17_ok, True.intro, True.intro⟩, True.intro⟩, ⟨n39_ok, ⟨n32_ok, True.intro, True.intro⟩, True.intro⟩⟩, ⟨n54_ok, ⟨n44_ok, ⟨n43_ok, True.intro, True.intro⟩, True.intro⟩, ⟨n55_ok, True.intro, True.intro⟩⟩⟩, ⟨n68_ok, ⟨n65_ok, ⟨n61_ok, ⟨n59_ok, True.intro, True.intro⟩, True.intro⟩, ⟨n67_ok, ⟨n66_ok, True.intro, True.intro⟩, True.intro⟩⟩, ⟨n75_ok, ⟨n74_ok, ⟨n71_ok, True.intro, True.intro⟩, True.intro⟩, ⟨n79_ok, True.intro, True.intro⟩⟩⟩⟩, ⟨n97_ok, ⟨n89_ok, ⟨n86_ok, ⟨n84_ok, ⟨n81_ok, True.intro, True.intro⟩, True.intro⟩, ⟨n88_ok, ⟨n87_ok, True.intro, True.intro⟩, True.intro⟩⟩, ⟨n93_ok, ⟨n92_ok, ⟨n90_ok, True.intro, True.intro⟩, True.intro⟩, ⟨n95_ok, True.intro, True.intro⟩⟩⟩, ⟨n104_ok, ⟨n100_ok, ⟨n99_ok, ⟨n98_ok, True.intro, True.intro⟩, True.intro⟩, ⟨n102_ok, ⟨n101_ok, True.intro, True.intro⟩, True.intro⟩⟩, ⟨n110_ok, ⟨n108_ok, ⟨n107_ok, True.intro, True.intro⟩, True.intro⟩, ⟨n111_ok, True.intro, True.intro⟩⟩⟩⟩⟩
/- foghorn/grid.On -/
noncomputable def R37 (q_share : (α : Type) → α → (α → Bool) → Bool) (q_genW : Option CV → (W → Bool) → Bool) (q_guardW : Bool → W → Bool → Bool → Bool) (q_pickW : W → W → W → (W → Bool) → Bool) (fu : Nat) (call : CallW) (a0 : W) (h0 : HW) (c0 : Nat) (K : KW) : Bool :=
call 54 [a0] h0 c0 fun v1 h2 c3 =>
q_genW (binC Try.prog .leq 34 (.tmp 4) (.const (.float .f64 4652218415073722368)) (dec v1) (dec ⟨12, 0, ⟨0, 0, 0, .flt .f64 4652218415073722368⟩, []⟩)) fun v4 =>
q_share _ (fun (v6 : W) (h7 : HW) (c8 : Nat) =>
q_share _ (fun (v10 : W) (h11 : HW) (c12 : Nat) =>
q_share _ (fun (v14 : W) (h15 : HW) (c16 : Nat) =>
q_share _ (fun (v18 : W) (h19 : HW) (c20 : Nat) =>
q_share _ (fun (v22 : W) (h23 : HW) (c24 : Nat) =>
q_share _ (fun (v26 : W) (h27 : HW) (c28 : Nat) =>
q_pickW v4 v26 ⟨8, 0, r0, []⟩ fun v29 =>
K v29 h27 c28) fun f25 =>
q_guardW true v4 (q_genW (binC Try.prog .eql 34 (.tmp 8) (.tmp 11) (dec v10) (dec v22)) fun v30 =>
f25 v30 h23 c24) (f25 wUnd h23 c24)) fun f21 =>
q_guardW true v4 (call 55 [v18] h19 c20 fun v31 h32 c33 =>
f21 v31 h32 c33) (f21 wUnd h19 c20)) fun f17 =>
q_guardW true v4 (q_genW (binC Try.prog .mul 34 (.tmp 9) (.const (.float .f64 4661225614328463360)) (dec v14) (dec ⟨12, 0, ⟨0, 0, 0, .flt .f64 4661225614328463360⟩, []⟩)) fun v34 =>
f17 v34 h15 c16) (f17 wUnd h15 c16)) fun f13 =>
q_guardW true v4 (f13 a0 h11 c12) (f13 wUnd h11 c12)) fun f9 =>
q_guardW true v4 (q_genW (binC Try.prog .mul 34 (.tmp 7) (.const (.float .f64 4661225614328463360)) (dec v6) (dec ⟨12, 0, ⟨0, 0, 0, .flt .f64 4661225614328463360⟩, []⟩)) fun v35 =>
f9 v35 h7 c8) (f9 wUnd h7 c8)) fun f5 =>
q_guardW true v4 (f5 a0 h2 c3) (f5 wUnd h2 c3)
theorem R37_eq (Q : PrimW) (fu : Nat) (call : CallW) : curryA 1 (fnK Q Try.prog tys stl fu call e37) = R37 Q.share Q.genW Q.guardW Q.pickW fu call := by kernel_rfl
noncomputable def n37 : List W → HW → Nat → KW → Bool := appF 1 (R37 (fun _ x f => f x) genW guardW pickW 1000000 d4.fn)
theorem n37_ok : FnGood Try.prog tys stl tab 37 n37 := node_ok d4_ok (by kernel_rfl) rfl g37 (R37_eq real _ _)
/- foghorn/bounds.Fine -/
noncomputable def R53 (q_share : (α : Type) → α → (α → Bool) → Bool) (q_genW : Option CV → (W → Bool) → Bool) (q_guardW : Bool → W → Bool → Bool → Bool) (q_pickW : W → W → W → (W → Bool) → Bool) (fu : Nat) (call : CallW) (a0 : W) (a1 : W) (h0 : HW) (c0 : Nat) (K : KW) : Bool :=
call 54 [a0] h0 c0 fun v1 h2 c3 =>
q_genW (binC Try.prog .leq 34 (.tmp 6) (.tmp 7) (dec v1) (dec a1)) fun v4 =>
q_share _ (fun (v6 : W) (h7 : HW) (c8 : Nat) =>
q_share _ (fun (v10 : W) (h11 : HW) (c12 : Nat) =>
q_share _ (fun (v14 : W) (h15 : HW) (c16 : Nat) =>
q_share _ (fun (v18 : W) (h19 : HW) (c20 : Nat) =>
q_share _ (fun (v22 : W) (h23 : HW) (c24 : Nat) =>
q_share _ (fun (v26 : W) (h27 : HW) (c28 : Nat) =>
q_pickW v4 v26 ⟨8, 0, r0, []⟩ fun v29 =>
K v29 h27 c28) fun f25 =>
q_guardW true v4 (q_genW (binC Try.prog .eql 34 (.tmp 11) (.tmp 14) (dec v10) (dec v22)) fun v30 =>
f25 v30 h23 c24) (f25 wUnd h23 c24)) fun f21 =>
q_guardW true v4 (call 55 [v18] h19 c20 fun v31 h32 c33 =>
f21 v31 h32 c33) (f21 wUnd h19 c20)) fun f17 =>
q_guardW true v4 (q_genW (binC Try.prog .mul 34 (.tmp 12) (.const (.float .f64 4634204016564240384)) (dec v14) (dec ⟨12, 0, ⟨0, 0, 0, .flt .f64 4634204016564240384⟩, []⟩)) fun v34 =>
f17 v34 h15 c16) (f17 wUnd h15 c16)) fun f13 =>
q_guardW true v4 (f13 a0 h11 c12) (f13 wUnd h11 c12)) fun f9 =>
q_guardW true v4 (q_genW (binC Try.prog .mul 34 (.tmp 10) (.const (.float .f64 4634204016564240384)) (dec v6) (dec ⟨12, 0, ⟨0, 0, 0, .flt .f64 4634204016564240384⟩, []⟩)) fun v35 =>
f9 v35 h7 c8) (f9 wUnd h7 c8)) fun f5 =>
q_guardW true v4 (f5 a0 h2 c3) (f5 wUnd h2 c3)
theorem R53_eq (Q : PrimW) (fu : Nat) (call : CallW) : curryA 2 (fnK Q Try.prog tys stl fu call e53) = R53 Q.share Q.genW Q.guardW Q.pickW fu call := by kernel_rfl
noncomputable def n53 : List W → HW → Nat → KW → Bool := appF 2 (R53 (fun _ x f => f x) genW guardW pickW 1000000 d4.fn)
theorem n53_ok : FnGood Try.prog tys stl tab 53 n53 := node_ok d4_ok (by kernel_rfl) rfl g53 (R53_eq real _ _)
/- foghorn/points.All -/
noncomputable def R85 (q_addW : Nat → Nat → Option CV → W → W → (W → Bool) → Bool) (q_cmpW : (Nat → Nat → Bool) → Nat → Option CV → W → W → (W → Bool) → Bool) (q_notW : Option CV → W → (W → Bool) → Bool) (q_condW : W → Bool → Bool → Bool) (q_fadW : Nat → W → (W → Bool) → Bool) (q_idxSW : Nat → W → W → (W → Bool) → Bool) (q_lenW : Option CV → W → (W → Bool) → Bool) (q_tupW : W → (List W → Bool) → Bool) (q_nthW : Nat → List W → (W → Bool) → Bool) (q_onF : W → (FuncId → List W → Bool) → Bool) (q_killVW : W → HW → (HW → Bool) → Bool) (q_loadSW : HW → W → (W → Bool) → Bool) (q_loadAW : Nat → HW → W → (W → Bool) → Bool) (q_storeSW : HW → W → W → (HW → Bool) → Bool) (q_storeAW : Nat → HW → W → W → (HW → Bool) → Bool) (q_makeSW : Nat → Nat → Nat → Kind → List W → Bool → HW → Nat → W → W → KW → Bool) (q_allocW : Trie W → Nat → Bool → HW → Nat → KW → Bool) (fu : Nat) (call : CallW) (a0 : W) (h0 : HW) (c0 : Nat) (K : KW) : Bool :=
call 61 [a0] h0 c0 fun v1 h2 c3 =>
q_tupW v1 fun l4 => q_nthW 0 l4 fun v5 =>
q_tupW v1 fun l6 => q_nthW 1 l6 fun v7 =>
q_allocW (allocT tys 111) 5 true h2 c3 fun v8 h9 c10 =>
q_storeAW 5 h9 v8 v5 fun h11 =>
q_notW (two Try.prog (dec v7) (Op.unary .not)) v7 fun v12 =>
q_condW v12 (
q_killVW v8 h11 fun h13 =>
K ⟨13, 0, r0, [⟨12, 0, ⟨0, 0, 0, .nils⟩, []⟩, ⟨3, 1, r0, []⟩]⟩ h13 c10) (
q_makeSW 16 1 99 (.cpxs .f64) [⟨12, 0, ⟨0, 0, 0, .cpx .f64 0 0⟩, []⟩] true h11 c10 a0 a0 fun v14 h15 c16 =>
q_lenW (lenC tys 24 (dec v14)) v14 fun v17 =>
@Nat.rec (fun _ => Fun 1) (fun _ _ _ => false) (fun _ f21 v18 h19 c20 =>
q_cmpW (cmpF2 .lss) 3 (binC Try.prog .lss 3 (.tmp 19) (.tmp 18) (dec v18) (dec v17)) v18 v17 fun v22 =>
q_condW v22 (
q_fadW 3 v8 fun v23 =>
q_loadSW h19 v23 fun v24 =>
q_loadAW 5 h19 v8 fun v25 =>
q_onF v24 fun g26 l27 => call g26 (appL [v25, v18] l27) h19 c20 fun v28 h29 c30 =>
q_idxSW 1 v14 v18 fun v31 =>
q_storeSW h29 v31 v28 fun h32 =>
q_addW 3 9223372036854775807 (binC Try.prog .add 3 (.tmp 19) (.const (.int .i64 (.ofNat 1))) (dec v18) (dec ⟨3, 1, r0, []⟩)) v18 ⟨3, 1, r0, []⟩ fun v33 =>
f21 v33 h32 c30) (
q_killVW v8 h19 fun h34 =>
K ⟨13, 0, r0, [v14, ⟨3, 0, r0, []⟩]⟩ h34 c20)) fu ⟨3, 0, r0, []⟩ h15 c16)
theorem R85_eq (Q : PrimW) (fu : Nat) (call : CallW) : curryA 1 (fnK Q Try.prog tys stl fu call e85) = R85 Q.addW Q.cmpW Q.notW Q.condW Q.fadW Q.idxSW Q.lenW Q.tupW Q.nthW Q.onF Q.killVW Q.loadSW Q.loadAW Q.storeSW Q.storeAW Q.makeSW Q.allocW fu call := by kernel_rfl
noncomputable def n85 : List W → HW → Nat → KW → Bool := appF 1 (R85 addW cmpW notW condW fadW idxSW lenW tupW nthW onF killVW loadSW loadAW storeSW storeAW makeSW allocW 1000000 d4.fn)
theorem n85_ok : FnGood Try.prog tys stl tab 85 n85 := node_ok d4_ok (by kernel_rfl) rfl g85 (R85_eq real _ _)
/- (foghorn/points.set).place -/
noncomputable def R106 (q_share : (α : Type) → α → (α → Bool) → Bool) (q_genW : Option CV → (W → Bool) → Bool) (q_addW : Nat → Nat → Option CV → W → W → (W → Bool) → Bool) (q_quoW : Nat → Nat → Option CV → W → W → (W → Bool) → Bool) (q_remW : Nat → Nat → Option CV → W → W → (W → Bool) → Bool) (q_cmpW : (Nat → Nat → Bool) → Nat → Option CV → W → W → (W → Bool) → Bool) (q_notW : Option CV → W → (W → Bool) → Bool) (q_condW : W → Bool → Bool → Bool) (q_guardW : Bool → W → Bool → Bool → Bool) (q_pickW : W → W → W → (W → Bool) → Bool) (q_fadW : Nat → W → (W → Bool) → Bool) (q_knownW : W → Bool → Bool) (q_killVW : W → HW → (HW → Bool) → Bool) (q_loadSW : HW → W → (W → Bool) → Bool) (q_boxW : HW → Nat → W → KW → Bool) (fu : Nat) (call : CallW) (a0 : W) (a1 : W) (h0 : HW) (c0 : Nat) (K : KW) : Bool :=
q_boxW h0 c0 a0 fun v1 h2 c3 =>
call 54 [a1] h2 c3 fun v4 _ _ => q_knownW v4 (
q_fadW 1 v1 fun v5 =>
q_loadSW h2 v5 fun v6 =>
q_genW (convC Try.prog tys ⟨[], 0, decH h2, 0⟩ 3 34 (dec v6)) fun v7 =>
q_genW (binC Try.prog .leq 34 (.tmp 8) (.tmp 11) (dec v4) (dec v7)) fun v8 =>
q_notW (two Try.prog (dec v8) (Op.unary .not)) v8 fun v9 =>
q_share _ (fun (v11 : W) (h12 : HW) (c13 : Nat) =>
q_share _ (fun (v15 : W) (h16 : HW) (c17 : Nat) =>
q_share _ (fun (v19 : W) (h20 : HW) (c21 : Nat) =>
q_share _ (fun (v24 : W) (h25 : HW) (c26 : Nat) =>
q_pickW v9 ⟨8, 1, r0, []⟩ v24 fun v27 =>
q_condW v27 (
q_killVW v1 h25 fun h28 =>
K ⟨13, 0, r0, [⟨3, 0, r0, []⟩, ⟨8, 0, r0, []⟩]⟩ h28 c26) (
q_genW (convC Try.prog tys ⟨[], 0, decH h25, 0⟩ 34 3 (dec a1)) fun v29 =>
q_fadW 1 v1 fun v30 =>
q_loadSW h25 v30 fun v31 =>
q_addW 3 9223372036854775807 (binC Try.prog .add 3 (.tmp 21) (.tmp 23) (dec v29) (dec v31)) v29 v31 fun v32 =>
q_quoW 3 9223372036854775807 (binC Try.prog .quo 3 (.tmp 25) (.const (.int .i64 (.ofNat 2))) (dec v32) (dec ⟨3, 2, r0, []⟩)) v32 ⟨3, 2, r0, []⟩ fun v33 =>
q_remW 3 9223372036854775807 (binC Try.prog .rem 3 (.tmp 27) (.const (.int .i64 (.ofNat 2))) (dec v32) (dec ⟨3, 2, r0, []⟩)) v32 ⟨3, 2, r0, []⟩ fun v34 =>
q_cmpW (cmpF2 .eql) 3 (binC Try.prog .eql 3 (.tmp 28) (.const (.int .i64 (.ofNat 0))) (dec v34) (dec ⟨3, 0, r0, []⟩)) v34 ⟨3, 0, r0, []⟩ fun v35 =>
q_killVW v1 h25 fun h36 =>
K ⟨13, 0, r0, [v33, v35]⟩ h36 c26)) fun f23 =>
q_guardW false v9 (q_genW (binC Try.prog .neq 34 (.tmp 15) (.tmp 17) (dec v11) (dec v19)) fun v37 =>
f23 v37 h20 c21) (f23 wUnd h20 c21)) fun f18 =>
q_guardW false v9 (call 55 [v15] h16 c17 fun v22 _ _ => q_knownW v22 (f18 v22 h16 c17)) (f18 wUnd h16 c17)) fun f14 =>
q_guardW false v9 (f14 a1 h12 c13) (f14 wUnd h12 c13)) fun f10 =>
q_guardW false v9 (f10 a1 h2 c3) (f10 wUnd h2 c3))
theorem R106_eq (Q : PrimW) (fu : Nat) (call : CallW) : curryA 2 (fnK Q Try.prog tys stl fu call e106) = R106 Q.share Q.genW Q.addW Q.quoW Q.remW Q.cmpW Q.notW Q.condW Q.guardW Q.pickW Q.fadW Q.knownW Q.killVW Q.loadSW Q.boxW fu call := by kernel_rfl
noncomputable def n106 : List W → HW → Nat → KW → Bool := appF 2 (R106 (fun _ x f => f x) genW addW quoW remW cmpW notW condW guardW pickW fadW knownW killVW loadSW boxW 1000000 d4.fn)
theorem n106_ok : FnGood Try.prog tys stl tab 106 n106 := node_ok d4_ok (by kernel_rfl) rfl g106 (R106_eq real _ _)
/- math.Modf -/
noncomputable def R113 (q_genW : Option CV → (W → Bool) → Bool) (fu : Nat) (call : CallW) (a0 : W) (h0 : HW) (c0 : Nat) (K : KW) : Bool :=
call 55 [a0] h0 c0 fun v1 h2 c3 =>
q_genW (binC Try.prog .sub 34 (.tmp 6) (.tmp 7) (dec a0) (dec v1)) fun v4 =>
call 79 [v4, a0] h2 c3 fun v5 h6 c7 =>
K ⟨13, 0, r0, [v1, v5]⟩ h6 c7
theorem R113_eq (Q : PrimW) (fu : Nat) (call : CallW) : curryA 1 (fnK Q Try.prog tys stl fu call e113) = R113 Q.genW fu call := by kernel_rfl
noncomputable def n113 : List W → HW → Nat → KW → Bool := appF 1 (R113 genW 1000000 d4.fn)
theorem n113_ok : FnGood Try.prog tys stl tab 113 n113 := node_ok d4_ok (by kernel_rfl) rfl g113 (R113_eq real _ _)
noncomputable def d5 : Disp := (.node 81 n81 (.node 57 n57 (.node 41 n41 (.node 32 n32 (.node 19 n19 (.node 17 n17 .leaf .leaf) (.node 20 n20 .leaf .leaf)) (.node 39 n39 (.node 37 n37 .leaf .leaf) .leaf)) (.node 53 n53 (.node 44 n44 (.node 43 n43 .leaf .leaf) .leaf) (.node 55 n55 (.node 54 n54 .leaf .leaf) .leaf))) (.node 68 n68 (.node 65 n65 (.node 61 n61 (.node 59 n59 .leaf .leaf) .leaf) (.node 67 n67 (.node 66 n66 .leaf .leaf) .leaf)) (.node 75 n75 (.node 74 n74 (.node 71 n71 .leaf .leaf) .leaf) (.node 80 n80 (.node 79 n79 .leaf .leaf) .leaf)))) (.node 98 n98 (.node 89 n89 (.node 86 n86 (.node 85 n85 (.node 84 n84 .leaf .leaf) .leaf) (.node 88 n88 (.node 87 n87 .leaf .leaf) .leaf)) (.node 93 n93 (.node 92 n92 (.node 90 n90 .leaf .leaf) .leaf) (.node 97 n97 (.node 95 n95 .leaf .leaf) .leaf))) (.node 106 n106 (.node 101 n101 (.node 100 n100 (.node 99 n99 .leaf .leaf) .leaf) (.node 104 n104 (.node 102 n102 .leaf .leaf) .leaf)) (.node 110 n110 (.node 108 n108 (.node 107 n107 .leaf .leaf) .leaf) (.node 113 n113 (.node 111 n111 .leaf .leaf) .leaf)))))
theorem d5_ok : CallSim Try.prog tys stl tab d5.fn := Disp.sim ⟨n81_ok, ⟨n57_ok, ⟨n41_ok, ⟨n32_ok, ⟨n19_ok, ⟨n17_ok, True.intro, True.intro⟩, ⟨n20_ok, True.intro, True.intro⟩⟩, ⟨n39_ok, ⟨n37_ok, True.intro, True.intro⟩, True.intro⟩⟩, ⟨n53_ok, ⟨n44_ok, ⟨n43_ok, True.intro, True.intro⟩, True.intro⟩, ⟨n55_ok, ⟨n54_ok, True.intro, True.intro⟩, True.intro⟩⟩⟩, ⟨n68_ok, ⟨n65_ok, ⟨n61_ok, ⟨n59_ok, True.intro, True.intro⟩, True.intro⟩, ⟨n67_ok, ⟨n66_ok, True.intro, True.intro⟩, True.intro⟩⟩, ⟨n75_ok, ⟨n74_ok, ⟨n71_ok, True.intro, True.intro⟩, True.intro⟩, ⟨n80_ok, ⟨n79_ok, True.intro, True.intro⟩, True.intro⟩⟩⟩⟩, ⟨n98_ok, ⟨n89_ok, ⟨n86_ok, ⟨n85_ok, ⟨n84_ok, True.intro, True.intro⟩, True.intro⟩, ⟨n88_ok, ⟨n87_ok, True.intro, True.intro⟩, True.intro⟩⟩, ⟨n93_ok, ⟨n92_ok, ⟨n90_ok, True.intro, True.intro⟩, True.intro⟩, ⟨n97_ok, ⟨n95_ok, True.intro, True.intro⟩, True.intro⟩⟩⟩, ⟨n106_ok, ⟨n101_ok, ⟨n100_ok, ⟨n99_ok, True.intro, True.intro⟩, True.intro⟩, ⟨n104_ok, ⟨n102_ok, True.intro, True.intro⟩, True.intro⟩⟩, ⟨n110_ok, ⟨n108_ok, ⟨n107_ok, True.intro, True.intro⟩, True.intro⟩, ⟨n113_ok, ⟨n111_ok, True.intro, True.intro⟩, True.intro⟩⟩⟩⟩⟩
/- foghorn/bounds.Taps -/
noncomputable def R36 (q_share : (α : Type) → α → (α → Bool) → Bool) (q_genW : Option CV → (W → Bool) → Bool) (q_addW : Nat → Nat → Option CV → W → W → (W → Bool) → Bool) (q_cmpW : (Nat → Nat → Bool) → Nat → Option CV → W → W → (W → Bool) → Bool) (q_notW : Option CV → W → (W → Bool) → Bool) (q_condW : W → Bool → Bool → Bool) (q_guardW : Bool → W → Bool → Bool → Bool) (q_pickW : W → W → W → (W → Bool) → Bool) (q_idxSW : Nat → W → W → (W → Bool) → Bool) (q_lenW : Option CV → W → (W → Bool) → Bool) (q_loadSW : HW → W → (W → Bool) → Bool) (fu : Nat) (call : CallW) (a0 : W) (h0 : HW) (c0 : Nat) (K : KW) : Bool :=
q_lenW (lenC tys 24 (dec a0)) a0 fun v1 =>
q_cmpW (cmpF2 .lss) 3 (binC Try.prog .lss 3 (.tmp 7) (.const (.int .i64 (.ofNat 1))) (dec v1) (dec ⟨3, 1, r0, []⟩)) v1 ⟨3, 1, r0, []⟩ fun v2 =>
q_share _ (fun (v4 : W) (h5 : HW) (c6 : Nat) =>
q_share _ (fun (v8 : W) (h9 : HW) (c10 : Nat) =>
q_share _ (fun (v12 : W) (h13 : HW) (c14 : Nat) =>
q_pickW v2 ⟨8, 1, r0, []⟩ v12 fun v15 =>
q_condW v15 (
K ⟨8, 0, r0, []⟩ h13 c14) (
q_lenW (lenC tys 24 (dec a0)) a0 fun v16 =>
@Nat.rec (fun _ => Fun 2) (fun _ _ _ _ => false) (fun _ f21 v17 v18 h19 c20 =>
q_cmpW (cmpF2 .lss) 3 (binC Try.prog .lss 3 (.tmp 16) (.tmp 15) (dec v18) (dec v16)) v18 v16 fun v22 =>
q_condW v22 (
q_idxSW 1 a0 v18 fun v23 =>
q_loadSW h19 v23 fun v24 =>
q_genW (two Try.prog (dec v24) fun v => Builtin.real_ #[32] 34 #[v]) fun v25 =>
call 53 [v25, ⟨12, 0, ⟨0, 0, 0, .flt .f64 4607182418800017408⟩, []⟩] h19 c20 fun v26 h27 c28 =>
q_notW (two Try.prog (dec v26) (Op.unary .not)) v26 fun v29 =>
q_share _ (fun (v31 : W) (h32 : HW) (c33 : Nat) =>
q_share _ (fun (v35 : W) (h36 : HW) (c37 : Nat) =>
q_share _ (fun (v39 : W) (h40 : HW) (c41 : Nat) =>
q_share _ (fun (v43 : W) (h44 : HW) (c45 : Nat) =>
q_pickW v29 ⟨8, 1, r0, []⟩ v43 fun v46 =>
q_condW v46 (
K ⟨8, 0, r0, []⟩ h44 c45) (
q_genW (two Try.prog (dec v24) fun v => Builtin.real_ #[32] 34 #[v]) fun v47 =>
call 54 [v47] h44 c45 fun v48 h49 c50 =>
q_genW (two Try.prog (dec v24) fun v => Builtin.imag_ #[32] 34 #[v]) fun v51 =>
call 54 [v51] h49 c50 fun v52 h53 c54 =>
q_genW (binC Try.prog .add 34 (.tmp 33) (.tmp 36) (dec v48) (dec v52)) fun v55 =>
q_genW (binC Try.prog .add 34 (.tmp 30) (.tmp 37) (dec v17) (dec v55)) fun v56 =>
q_addW 3 9223372036854775807 (binC Try.prog .add 3 (.tmp 16) (.const (.int .i64 (.ofNat 1))) (dec v18) (dec ⟨3, 1, r0, []⟩)) v18 ⟨3, 1, r0, []⟩ fun v57 =>
f21 v56 v57 h53 c54)) fun f42 =>
q_guardW false v29 (q_notW (two Try.prog (dec v39) (Op.unary .not)) v39 fun v58 =>
f42 v58 h40 c41) (f42 wUnd h40 c41)) fun f38 =>
q_guardW false v29 (call 53 [v35, ⟨12, 0, ⟨0, 0, 0, .flt .f64 4607182418800017408⟩, []⟩] h36 c37 fun v59 h60 c61 =>
f38 v59 h60 c61) (f38 wUnd h36 c37)) fun f34 =>
q_guardW false v29 (q_genW (two Try.prog (dec v31) fun v => Builtin.imag_ #[32] 34 #[v]) fun v62 =>
f34 v62 h32 c33) (f34 wUnd h32 c33)) fun f30 =>
q_guardW false v29 (f30 v24 h27 c28) (f30 wUnd h27 c28)) (
q_genW (binC Try.prog .leq 34 (.tmp 40) (.const (.float .f64 4616189618054758400)) (dec v17) (dec ⟨12, 0, ⟨0, 0, 0, .flt .f64 4616189618054758400⟩, []⟩)) fun v63 =>
K v63 h19 c20)) fu ⟨12, 0, ⟨0, 0, 0, .flt .f64 0⟩, []⟩ ⟨3, 0, r0, []⟩ h13 c14)) fun f11 =>
q_guardW false v2 (q_cmpW (cmpF2 .gtr) 3 (binC Try.prog .gtr 3 (.tmp 11) (.const (.int .i64 (.ofNat 64))) (dec v8) (dec ⟨3, 64, r0, []⟩)) v8 ⟨3, 64, r0, []⟩ fun v64 =>
f11 v64 h9 c10) (f11 wUnd h9 c10)) fun f7 =>
q_guardW false v2 (q_lenW (lenC tys 24 (dec v4)) v4 fun v65 =>
f7 v65 h5 c6) (f7 wUnd h5 c6)) fun f3 =>
q_guardW false v2 (f3 a0 h0 c0) (f3 wUnd h0 c0)
theorem R36_eq (Q : PrimW) (fu : Nat) (call : CallW) : curryA 1 (fnK Q Try.prog tys stl fu call e36) = R36 Q.share Q.genW Q.addW Q.cmpW Q.notW Q.condW Q.guardW Q.pickW Q.idxSW Q.lenW Q.loadSW fu call := by kernel_rfl
noncomputable def n36 : List W → HW → Nat → KW → Bool := appF 1 (R36 (fun _ x f => f x) genW addW cmpW notW condW guardW pickW idxSW lenW loadSW 1000000 d5.fn)
theorem n36_ok : FnGood Try.prog tys stl tab 36 n36 := node_ok d5_ok (by kernel_rfl) rfl g36 (R36_eq real _ _)
/- foghorn/grid.mayBe -/
noncomputable def R58 (q_share : (α : Type) → α → (α → Bool) → Bool) (q_genW : Option CV → (W → Bool) → Bool) (q_condW : W → Bool → Bool → Bool) (q_guardW : Bool → W → Bool → Bool → Bool) (q_pickW : W → W → W → (W → Bool) → Bool) (q_fadW : Nat → W → (W → Bool) → Bool) (q_killVW : W → HW → (HW → Bool) → Bool) (q_loadSW : HW → W → (W → Bool) → Bool) (q_boxW : HW → Nat → W → KW → Bool) (fu : Nat) (call : CallW) (a0 : W) (h0 : HW) (c0 : Nat) (K : KW) : Bool :=
q_boxW h0 c0 a0 fun v1 h2 c3 =>
q_fadW 1 v1 fun v4 =>
q_loadSW h2 v4 fun v5 =>
q_condW v5 (
q_fadW 0 v1 fun v6 =>
q_loadSW h2 v6 fun v7 =>
q_genW (two Try.prog (dec v7) fun v => Builtin.real_ #[32] 34 #[v]) fun v8 =>
q_genW (binC Try.prog .eql 34 (.tmp 7) (.const (.float .f64 0)) (dec v8) (dec ⟨12, 0, ⟨0, 0, 0, .flt .f64 0⟩, []⟩)) fun v9 =>
q_share _ (fun (v11 : W) (h12 : HW) (c13 : Nat) =>
q_share _ (fun (v15 : W) (h16 : HW) (c17 : Nat) =>
q_share _ (fun (v19 : W) (h20 : HW) (c21 : Nat) =>
q_share _ (fun (v23 : W) (h24 : HW) (c25 : Nat) =>
q_pickW v9 v23 ⟨8, 0, r0, []⟩ fun v26 =>
q_killVW v1 h24 fun h27 =>
K v26 h27 c25) fun f22 =>
q_guardW true v9 (q_genW (binC Try.prog .eql 34 (.tmp 12) (.const (.float .f64 0)) (dec v19) (dec ⟨12, 0, ⟨0, 0, 0, .flt .f64 0⟩, []⟩)) fun v28 =>
f22 v28 h20 c21) (f22 wUnd h20 c21)) fun f18 =>
q_guardW true v9 (q_genW (two Try.prog (dec v15) fun v => Builtin.imag_ #[32] 34 #[v]) fun v29 =>
f18 v29 h16 c17) (f18 wUnd h16 c17)) fun f14 =>
q_guardW true v9 (q_loadSW h12 v11 fun v30 =>
f14 v30 h12 c13) (f14 wUnd h12 c13)) fun f10 =>
q_guardW true v9 (q_fadW 0 v1 fun v31 =>
f10 v31 h2 c3) (f10 wUnd h2 c3)) (
q_fadW 0 v1 fun v32 =>
q_loadSW h2 v32 fun v33 =>
q_genW (two Try.prog (dec v33) fun v => Builtin.real_ #[32] 34 #[v]) fun v34 =>
call 37 [v34] h2 c3 fun v35 h36 c37 =>
q_share _ (fun (v39 : W) (h40 : HW) (c41 : Nat) =>
q_share _ (fun (v43 : W) (h44 : HW) (c45 : Nat) =>
q_share _ (fun (v47 : W) (h48 : HW) (c49 : Nat) =>
q_share _ (fun (v51 : W) (h52 : HW) (c53 : Nat) =>
q_pickW v35 v51 ⟨8, 0, r0, []⟩ fun v54 =>
q_killVW v1 h52 fun h55 =>
K v54 h55 c53) fun f50 =>
q_guardW true v35 (call 37 [v47] h48 c49 fun v56 h57 c58 =>
f50 v56 h57 c58) (f50 wUnd h48 c49)) fun f46 =>
q_guardW true v35 (q_genW (two Try.prog (dec v43) fun v => Builtin.imag_ #[32] 34 #[v]) fun v59 =>
f46 v59 h44 c45) (f46 wUnd h44 c45)) fun f42 =>
q_guardW true v35 (q_loadSW h40 v39 fun v60 =>
f42 v60 h40 c41) (f42 wUnd h40 c41)) fun f38 =>
q_guardW true v35 (q_fadW 0 v1 fun v61 =>
f38 v61 h36 c37) (f38 wUnd h36 c37))
theorem R58_eq (Q : PrimW) (fu : Nat) (call : CallW) : curryA 1 (fnK Q Try.prog tys stl fu call e58) = R58 Q.share Q.genW Q.condW Q.guardW Q.pickW Q.fadW Q.killVW Q.loadSW Q.boxW fu call := by kernel_rfl
noncomputable def n58 : List W → HW → Nat → KW → Bool := appF 1 (R58 (fun _ x f => f x) genW condW guardW pickW fadW killVW loadSW boxW 1000000 d5.fn)
theorem n58_ok : FnGood Try.prog tys stl tab 58 n58 := node_ok d5_ok (by kernel_rfl) rfl g58 (R58_eq real _ _)
/- foghorn/slice.byCross -/
noncomputable def R73 (q_share : (α : Type) → α → (α → Bool) → Bool) (q_genW : Option CV → (W → Bool) → Bool) (q_addW : Nat → Nat → Option CV → W → W → (W → Bool) → Bool) (q_cmpW : (Nat → Nat → Bool) → Nat → Option CV → W → W → (W → Bool) → Bool) (q_condW : W → Bool → Bool → Bool) (q_idxSW : Nat → W → W → (W → Bool) → Bool) (q_lenW : Option CV → W → (W → Bool) → Bool) (q_tupW : W → (List W → Bool) → Bool) (q_nthW : Nat → List W → (W → Bool) → Bool) (q_knownW : W → Bool → Bool) (q_loadSW : HW → W → (W → Bool) → Bool) (q_loadAW : Nat → HW → W → (W → Bool) → Bool) (q_storeAW : Nat → HW → W → W → (HW → Bool) → Bool) (q_allocW : Trie W → Nat → Bool → HW → Nat → KW → Bool) (q_flatW : W → Bool → Bool) (fu : Nat) (call : CallW) (a0 : W) (a1 : W) (h0 : HW) (c0 : Nat) (K : KW) : Bool :=
q_allocW (allocT tys 38) 3 true h0 c0 fun v1 h2 c3 =>
call 80 [a1] h2 c3 fun v4 h5 c6 =>
q_condW v4 (
q_flatW ⟨8, 1, r0, []⟩ (
(fun (v7 : W) =>
q_storeAW 3 h5 v1 v7 fun h8 =>
q_loadAW 3 h8 v1 fun v9 =>
K v9 h8 c6) ⟨15, 0, r0, [⟨3, 0, r0, []⟩, ⟨12, 0, ⟨0, 0, 0, .cpx .f64 0 0⟩, []⟩, ⟨8, 1, r0, []⟩]⟩)) (
call 84 [a0, a1] h5 c6 fun v10 h11 c12 =>
q_tupW v10 fun l13 => q_nthW 0 l13 fun v14 =>
q_tupW v10 fun l15 => q_nthW 1 l15 fun v16 =>
call 85 [a0] h11 c12 fun v17 h18 c19 =>
q_tupW v17 fun l20 => q_nthW 0 l20 fun v21 =>
q_tupW v17 fun l22 => q_nthW 1 l22 fun v23 =>
q_lenW (lenC tys 24 (dec v21)) v21 fun v24 =>
@Nat.rec (fun _ => Fun 2) (fun _ _ _ _ => false) (fun _ f29 v25 v26 h27 c28 =>
q_cmpW (cmpF2 .lss) 3 (binC Try.prog .lss 3 (.tmp 25) (.tmp 24) (dec v26) (dec v24)) v26 v24 fun v30 =>
q_condW v30 (
q_share _ (fun (v31 : W) (h32 : HW) (c33 : Nat) =>
q_addW 3 9223372036854775807 (binC Try.prog .add 3 (.tmp 25) (.const (.int .i64 (.ofNat 1))) (dec v26) (dec ⟨3, 1, r0, []⟩)) v26 ⟨3, 1, r0, []⟩ fun v35 =>
f29 v31 v35 h32 c33) fun f34 =>
q_idxSW 1 v21 v26 fun v36 =>
q_loadSW h27 v36 fun v37 =>
call 86 [v14, v37] h27 c28 fun v38 _ _ => q_knownW v38 (
q_idxSW 1 v21 v25 fun v39 =>
q_loadSW h27 v39 fun v40 =>
call 86 [v14, v40] h27 c28 fun v41 _ _ => q_knownW v41 (
q_genW (binC Try.prog .lss 34 (.tmp 33) (.tmp 39) (dec v38) (dec v41)) fun v42 =>
q_condW v42 (
f34 v26 h27 c28) (
f34 v25 h27 c28)))) (
q_idxSW 1 v21 v25 fun v43 =>
q_loadSW h27 v43 fun v44 =>
q_flatW v25 (
q_flatW v44 (
(fun (v45 : W) =>
q_storeAW 3 h27 v1 v45 fun h46 =>
q_loadAW 3 h46 v1 fun v47 =>
K v47 h46 c28) ⟨15, 0, r0, [v25, v44, ⟨8, 0, r0, []⟩]⟩)))) fu ⟨3, 0, r0, []⟩ ⟨3, 0, r0, []⟩ h18 c19)
theorem R73_eq (Q : PrimW) (fu : Nat) (call : CallW) : curryA 2 (fnK Q Try.prog tys stl fu call e73) = R73 Q.share Q.genW Q.addW Q.cmpW Q.condW Q.idxSW Q.lenW Q.tupW Q.nthW Q.knownW Q.loadSW Q.loadAW Q.storeAW Q.allocW Q.flatW fu call := by kernel_rfl
noncomputable def n73 : List W → HW → Nat → KW → Bool := appF 2 (R73 (fun _ x f => f x) genW addW cmpW condW idxSW lenW tupW nthW knownW loadSW loadAW storeAW allocW flatW 1000000 d5.fn)
theorem n73_ok : FnGood Try.prog tys stl tab 73 n73 := node_ok d5_ok (by kernel_rfl) rfl g73 (R73_eq real _ _)
/- (foghorn/points.set).labelOf -/
noncomputable def R96 (q_share : (α : Type) → α → (α → Bool) → Bool) (q_genW : Option CV → (W → Bool) → Bool) (q_subW : Nat → Nat → Option CV → W → W → (W → Bool) → Bool) (q_cmpW : (Nat → Nat → Bool) → Nat → Option CV → W → W → (W → Bool) → Bool) (q_notW : Option CV → W → (W → Bool) → Bool) (q_condW : W → Bool → Bool → Bool) (q_guardW : Bool → W → Bool → Bool → Bool) (q_pickW : W → W → W → (W → Bool) → Bool) (q_fadW : Nat → W → (W → Bool) → Bool) (q_tupW : W → (List W → Bool) → Bool) (q_nthW : Nat → List W → (W → Bool) → Bool) (q_onF : W → (FuncId → List W → Bool) → Bool) (q_killVW : W → HW → (HW → Bool) → Bool) (q_loadSW : HW → W → (W → Bool) → Bool) (q_loadAW : Nat → HW → W → (W → Bool) → Bool) (q_boxW : HW → Nat → W → KW → Bool) (q_andW : Bool → Bool → Bool) (fu : Nat) (call : CallW) (a0 : W) (a1 : W) (h0 : HW) (c0 : Nat) (K : KW) : Bool :=
q_boxW h0 c0 a0 fun v1 h2 c3 =>
q_loadAW 5 h2 v1 fun v4 =>
q_genW (two Try.prog (dec a1) fun v => Builtin.real_ #[32] 34 #[v]) fun v5 =>
call 106 [v4, v5] h2 c3 fun v6 h7 c8 =>
q_tupW v6 fun l9 => q_nthW 0 l9 fun v10 =>
q_tupW v6 fun l11 => q_nthW 1 l11 fun v12 =>
q_loadAW 5 h7 v1 fun v13 =>
q_genW (two Try.prog (dec a1) fun v => Builtin.imag_ #[32] 34 #[v]) fun v14 =>
call 106 [v13, v14] h7 c8 fun v15 h16 c17 =>
q_tupW v15 fun l18 => q_nthW 0 l18 fun v19 =>
q_tupW v15 fun l20 => q_nthW 1 l20 fun v21 =>
q_notW (two Try.prog (dec v12) (Op.unary .not)) v12 fun v22 =>
q_share _ (fun (v24 : W) (h25 : HW) (c26 : Nat) =>
q_share _ (fun (v28 : W) (h29 : HW) (c30 : Nat) =>
q_pickW v22 ⟨8, 1, r0, []⟩ v28 fun v31 =>
q_share _ (fun (v33 : W) (h34 : HW) (c35 : Nat) =>
q_share _ (fun (v37 : W) (h38 : HW) (c39 : Nat) =>
q_share _ (fun (v41 : W) (h42 : HW) (c43 : Nat) =>
q_share _ (fun (v45 : W) (h46 : HW) (c47 : Nat) =>
q_share _ (fun (v49 : W) (h50 : HW) (c51 : Nat) =>
q_pickW v31 ⟨8, 1, r0, []⟩ v49 fun v52 =>
q_share _ (fun (v54 : W) (h55 : HW) (c56 : Nat) =>
q_share _ (fun (v58 : W) (h59 : HW) (c60 : Nat) =>
q_share _ (fun (v62 : W) (h63 : HW) (c64 : Nat) =>
q_andW (q_share _ (fun (v66 : W) (h67 : HW) (c68 : Nat) =>
q_andW (q_share _ (fun (v70 : W) (h71 : HW) (c72 : Nat) =>
q_share _ (fun (v74 : W) (h75 : HW) (c76 : Nat) =>
q_share _ (fun (v78 : W) (h79 : HW) (c80 : Nat) =>
q_share _ (fun (v82 : W) (h83 : HW) (c84 : Nat) =>
q_pickW v52 ⟨8, 1, r0, []⟩ v82 fun v85 =>
q_condW v85 (
q_killVW v1 h83 fun h86 =>
K ⟨13, 0, r0, [⟨3, 0, r0, []⟩, ⟨8, 0, r0, []⟩]⟩ h86 c84) (
q_fadW 4 v1 fun v87 =>
q_loadSW h83 v87 fun v88 =>
q_loadAW 5 h83 v1 fun v89 =>
q_onF v88 fun g90 l91 => call g90 (appL [v89, v10, v19] l91) h83 c84 fun v92 h93 c94 =>
q_killVW v1 h93 fun h95 =>
K ⟨13, 0, r0, [v92, ⟨8, 1, r0, []⟩]⟩ h95 c94)) fun f81 =>
q_guardW false v52 (q_cmpW (cmpF2 .gtr) 3 (binC Try.prog .gtr 3 (.tmp 38) (.tmp 44) (dec v62) (dec v78)) v62 v78 fun v96 =>
f81 v96 h79 c80) (f81 wUnd h79 c80)) fun f77 =>
q_guardW false v52 (q_subW 3 9223372036854775807 (binC Try.prog .sub 3 (.tmp 40) (.tmp 43) (dec v70) (dec v74)) v70 v74 fun v97 =>
f77 v97 h75 c76) (f77 wUnd h75 c76)) fun f73 =>
q_guardW false v52 (call 102 [v54, v58] h71 c72 fun v98 h99 c100 =>
f73 v98 h99 c100) (f73 wUnd h71 c72)) fun f69 =>
q_guardW false v52 (q_loadSW h67 v66 fun v101 =>
f69 v101 h67 c68) (f69 wUnd h67 c68)) (q_andW (q_share _ (fun (v103 : W) (h104 : HW) (c105 : Nat) =>
q_share _ (fun (v107 : W) (h108 : HW) (c109 : Nat) =>
q_share _ (fun (v111 : W) (h112 : HW) (c113 : Nat) =>
q_share _ (fun (v115 : W) (h116 : HW) (c117 : Nat) =>
q_pickW v52 ⟨8, 1, r0, []⟩ v115 fun v118 =>
q_condW v118 (
q_killVW v1 h116 fun h119 =>
K ⟨13, 0, r0, [⟨3, 0, r0, []⟩, ⟨8, 0, r0, []⟩]⟩ h119 c117) (
q_fadW 4 v1 fun v120 =>
q_loadSW h116 v120 fun v121 =>
q_loadAW 5 h116 v1 fun v122 =>
q_onF v121 fun g123 l124 => call g123 (appL [v122, v10, v19] l124) h116 c117 fun v125 h126 c127 =>
q_killVW v1 h126 fun h128 =>
K ⟨13, 0, r0, [v125, ⟨8, 1, r0, []⟩]⟩ h128 c127)) fun f114 =>
q_guardW false v52 (q_cmpW (cmpF2 .gtr) 3 (binC Try.prog .gtr 3 (.tmp 38) (.tmp 44) (dec v62) (dec v111)) v62 v111 fun v129 =>
f114 v129 h112 c113) (f114 wUnd h112 c113)) fun f110 =>
q_guardW false v52 (q_subW 3 9223372036854775807 (binC Try.prog .sub 3 (.tmp 40) (.tmp 43) (dec v107) (dec v103)) v107 v103 fun v130 =>
f110 v130 h108 c109) (f110 wUnd h108 c109)) fun f106 =>
q_guardW false v52 (q_loadSW h104 v66 fun v131 =>
f106 v131 h104 c105) (f106 wUnd h104 c105)) fun f102 =>
q_guardW false v52 (call 102 [v54, v58] h67 c68 fun v132 h133 c134 =>
f102 v132 h133 c134) (f102 wUnd h67 c68)) (true))) fun f65 =>
q_guardW false v52 (q_fadW 1 v1 fun v135 =>
f65 v135 h63 c64) (f65 wUnd h63 c64)) (q_andW (q_share _ (fun (v137 : W) (h138 : HW) (c139 : Nat) =>
q_share _ (fun (v141 : W) (h142 : HW) (c143 : Nat) =>
q_share _ (fun (v145 : W) (h146 : HW) (c147 : Nat) =>
q_share _ (fun (v149 : W) (h150 : HW) (c151 : Nat) =>
q_share _ (fun (v153 : W) (h154 : HW) (c155 : Nat) =>
q_pickW v52 ⟨8, 1, r0, []⟩ v153 fun v156 =>
q_condW v156 (
q_killVW v1 h154 fun h157 =>
K ⟨13, 0, r0, [⟨3, 0, r0, []⟩, ⟨8, 0, r0, []⟩]⟩ h157 c155) (
q_fadW 4 v1 fun v158 =>
q_loadSW h154 v158 fun v159 =>
q_loadAW 5 h154 v1 fun v160 =>
q_onF v159 fun g161 l162 => call g161 (appL [v160, v10, v19] l162) h154 c155 fun v163 h164 c165 =>
q_killVW v1 h164 fun h166 =>
K ⟨13, 0, r0, [v163, ⟨8, 1, r0, []⟩]⟩ h166 c165)) fun f152 =>
q_guardW false v52 (q_cmpW (cmpF2 .gtr) 3 (binC Try.prog .gtr 3 (.tmp 38) (.tmp 44) (dec v62) (dec v149)) v62 v149 fun v167 =>
f152 v167 h150 c151) (f152 wUnd h150 c151)) fun f148 =>
q_guardW false v52 (q_subW 3 9223372036854775807 (binC Try.prog .sub 3 (.tmp 40) (.tmp 43) (dec v145) (dec v137)) v145 v137 fun v168 =>
f148 v168 h146 c147) (f148 wUnd h146 c147)) fun f144 =>
q_guardW false v52 (q_loadSW h142 v141 fun v169 =>
f144 v169 h142 c143) (f144 wUnd h142 c143)) fun f140 =>
q_guardW false v52 (q_fadW 1 v1 fun v170 =>
f140 v170 h138 c139) (f140 wUnd h138 c139)) fun f136 =>
q_guardW false v52 (call 102 [v54, v58] h63 c64 fun v171 h172 c173 =>
f136 v171 h172 c173) (f136 wUnd h63 c64)) (true))) fun f61 =>
q_guardW false v52 (f61 v19 h59 c60) (f61 wUnd h59 c60)) fun f57 =>
q_guardW false v52 (f57 v10 h55 c56) (f57 wUnd h55 c56)) fun f53 =>
q_guardW false v52 (q_loadAW 5 h50 v1 fun v174 =>
f53 v174 h50 c51) (f53 wUnd h50 c51)) fun f48 =>
q_guardW false v31 (q_cmpW (cmpF2 .lss) 3 (binC Try.prog .lss 3 (.tmp 31) (.tmp 34) (dec v41) (dec v45)) v41 v45 fun v175 =>
f48 v175 h46 c47) (f48 wUnd h46 c47)) fun f44 =>
q_guardW false v31 (call 102 [v33, v37] h42 c43 fun v176 h177 c178 =>
f44 v176 h177 c178) (f44 wUnd h42 c43)) fun f40 =>
q_guardW false v31 (f40 v19 h38 c39) (f40 wUnd h38 c39)) fun f36 =>
q_guardW false v31 (f36 v10 h34 c35) (f36 wUnd h34 c35)) fun f32 =>
q_guardW false v31 (q_loadAW 5 h29 v1 fun v179 =>
f32 v179 h29 c30) (f32 wUnd h29 c30)) fun f27 =>
q_guardW false v22 (q_notW (two Try.prog (dec v24) (Op.unary .not)) v24 fun v180 =>
f27 v180 h25 c26) (f27 wUnd h25 c26)) fun f23 =>
q_guardW false v22 (f23 v21 h16 c17) (f23 wUnd h16 c17)
theorem R96_eq (Q : PrimW) (fu : Nat) (call : CallW) : curryA 2 (fnK Q Try.prog tys stl fu call e96) = R96 Q.share Q.genW Q.subW Q.cmpW Q.notW Q.condW Q.guardW Q.pickW Q.fadW Q.tupW Q.nthW Q.onF Q.killVW Q.loadSW Q.loadAW Q.boxW Q.andW fu call := by kernel_rfl
noncomputable def n96 : List W → HW → Nat → KW → Bool := appF 2 (R96 (fun _ x f => f x) genW subW cmpW notW condW guardW pickW fadW tupW nthW onF killVW loadSW loadAW boxW andW 1000000 d5.fn)
theorem n96_ok : FnGood Try.prog tys stl tab 96 n96 := node_ok d5_ok (by kernel_rfl) rfl g96 (R96_eq real _ _)
/- math.floor -/
noncomputable def R112 (q_share : (α : Type) → α → (α → Bool) → Bool) (q_genW : Option CV → (W → Bool) → Bool) (q_condW : W → Bool → Bool → Bool) (q_guardW : Bool → W → Bool → Bool → Bool) (q_pickW : W → W → W → (W → Bool) → Bool) (q_tupW : W → (List W → Bool) → Bool) (q_nthW : Nat → List W → (W → Bool) → Bool) (fu : Nat) (call : CallW) (a0 : W) (h0 : HW) (c0 : Nat) (K : KW) : Bool :=
q_genW (binC Try.prog .eql 34 (.tmp 7) (.const (.float .f64 0)) (dec a0) (dec ⟨12, 0, ⟨0, 0, 0, .flt .f64 0⟩, []⟩)) fun v1 =>
q_share _ (fun (v3 : W) (h4 : HW) (c5 : Nat) =>
q_share _ (fun (v7 : W) (h8 : HW) (c9 : Nat) =>
q_pickW v1 ⟨8, 1, r0, []⟩ v7 fun v10 =>
q_share _ (fun (v12 : W) (h13 : HW) (c14 : Nat) =>
q_share _ (fun (v16 : W) (h17 : HW) (c18 : Nat) =>
q_pickW v10 ⟨8, 1, r0, []⟩ v16 fun v19 =>
q_condW v19 (
K a0 h17 c18) (
q_genW (binC Try.prog .lss 34 (.tmp 18) (.const (.float .f64 0)) (dec a0) (dec ⟨12, 0, ⟨0, 0, 0, .flt .f64 0⟩, []⟩)) fun v20 =>
q_condW v20 (
q_genW (two Try.prog (dec a0) (Op.unary .neg)) fun v21 =>
call 113 [v21] h17 c18 fun v22 h23 c24 =>
q_tupW v22 fun l25 => q_nthW 0 l25 fun v26 =>
q_tupW v22 fun l27 => q_nthW 1 l27 fun v28 =>
q_share _ (fun (v29 : W) (h30 : HW) (c31 : Nat) =>
q_genW (two Try.prog (dec v29) (Op.unary .neg)) fun v33 =>
K v33 h30 c31) fun f32 =>
q_genW (binC Try.prog .neq 34 (.tmp 26) (.const (.float .f64 0)) (dec v28) (dec ⟨12, 0, ⟨0, 0, 0, .flt .f64 0⟩, []⟩)) fun v34 =>
q_condW v34 (
q_genW (binC Try.prog .add 34 (.tmp 28) (.const (.float .f64 4607182418800017408)) (dec v26) (dec ⟨12, 0, ⟨0, 0, 0, .flt .f64 4607182418800017408⟩, []⟩)) fun v35 =>
f32 v35 h23 c24) (
f32 v26 h23 c24)) (
call 113 [a0] h17 c18 fun v36 h37 c38 =>
q_tupW v36 fun l39 => q_nthW 0 l39 fun v40 =>
q_tupW v36 fun l41 => q_nthW 1 l41 fun v42 =>
K v40 h37 c38))) fun f15 =>
q_guardW false v10 (call 93 [v12, ⟨3, 0, r0, []⟩] h13 c14 fun v43 h44 c45 =>
f15 v43 h44 c45) (f15 wUnd h13 c14)) fun f11 =>
q_guardW false v10 (f11 a0 h8 c9) (f11 wUnd h8 c9)) fun f6 =>
q_guardW false v1 (call 92 [v3] h4 c5 fun v46 h47 c48 =>
f6 v46 h47 c48) (f6 wUnd h4 c5)) fun f2 =>
q_guardW false v1 (f2 a0 h0 c0) (f2 wUnd h0 c0)
theorem R112_eq (Q : PrimW) (fu : Nat) (call : CallW) : curryA 1 (fnK Q Try.prog tys stl fu call e112) = R112 Q.share Q.genW Q.condW Q.guardW Q.pickW Q.tupW Q.nthW fu call := by kernel_rfl
noncomputable def n112 : List W → HW → Nat → KW → Bool := appF 1 (R112 (fun _ x f => f x) genW condW guardW pickW tupW nthW 1000000 d5.fn)
theorem n112_ok : FnGood Try.prog tys stl tab 112 n112 := node_ok d5_ok (by kernel_rfl) rfl g112 (R112_eq real _ _)
noncomputable def d6 : Disp := (.node 80 n80 (.node 57 n57 (.node 39 n39 (.node 32 n32 (.node 19 n19 (.node 17 n17 .leaf .leaf) (.node 20 n20 .leaf .leaf)) (.node 37 n37 (.node 36 n36 .leaf .leaf) .leaf)) (.node 53 n53 (.node 43 n43 (.node 41 n41 .leaf .leaf) (.node 44 n44 .leaf .leaf)) (.node 55 n55 (.node 54 n54 .leaf .leaf) .leaf))) (.node 68 n68 (.node 65 n65 (.node 59 n59 (.node 58 n58 .leaf .leaf) (.node 61 n61 .leaf .leaf)) (.node 67 n67 (.node 66 n66 .leaf .leaf) .leaf)) (.node 74 n74 (.node 73 n73 (.node 71 n71 .leaf .leaf) .leaf) (.node 79 n79 (.node 75 n75 .leaf .leaf) .leaf)))) (.node 98 n98 (.node 89 n89 (.node 86 n86 (.node 84 n84 (.node 81 n81 .leaf .leaf) (.node 85 n85 .leaf .leaf)) (.node 88 n88 (.node 87 n87 .leaf .leaf) .leaf)) (.node 95 n95 (.node 92 n92 (.node 90 n90 .leaf .leaf) (.node 93 n93 .leaf .leaf)) (.node 97 n97 (.node 96 n96 .leaf .leaf) .leaf))) (.node 107 n107 (.node 102 n102 (.node 100 n100 (.node 99 n99 .leaf .leaf) (.node 101 n101 .leaf .leaf)) (.node 106 n106 (.node 104 n104 .leaf .leaf) .leaf)) (.node 111 n111 (.node 110 n110 (.node 108 n108 .leaf .leaf) .leaf) (.node 113 n113 (.node 112 n112 .leaf .leaf) .leaf)))))
theorem d6_ok : CallSim Try.prog tys stl tab d6.fn := Disp.sim ⟨n80_ok, ⟨n57_ok, ⟨n39_ok, ⟨n32_ok, ⟨n19_ok, ⟨n17_ok, True.intro, True.intro⟩, ⟨n20_ok, True.intro, True.intro⟩⟩, ⟨n37_ok, ⟨n36_ok, True.intro, True.intro⟩, True.intro⟩⟩, ⟨n53_ok, ⟨n43_ok, ⟨n41_ok, True.intro, True.intro⟩, ⟨n44_ok, True.intro, True.intro⟩⟩, ⟨n55_ok, ⟨n54_ok, True.intro, True.intro⟩, True.intro⟩⟩⟩, ⟨n68_ok, ⟨n65_ok, ⟨n59_ok, ⟨n58_ok, True.intro, True.intro⟩, ⟨n61_ok, True.intro, True.intro⟩⟩, ⟨n67_ok, ⟨n66_ok, True.intro, True.intro⟩, True.intro⟩⟩, ⟨n74_ok, ⟨n73_ok, ⟨n71_ok, True.intro, True.intro⟩, True.intro⟩, ⟨n79_ok, ⟨n75_ok, True.intro, True.intro⟩, True.intro⟩⟩⟩⟩, ⟨n98_ok, ⟨n89_ok, ⟨n86_ok, ⟨n84_ok, ⟨n81_ok, True.intro, True.intro⟩, ⟨n85_ok, True.intro, True.intro⟩⟩, ⟨n88_ok, ⟨n87_ok, True.intro, True.intro⟩, True.intro⟩⟩, ⟨n95_ok, ⟨n92_ok, ⟨n90_ok, True.intro, True.intro⟩, ⟨n93_ok, True.intro, True.intro⟩⟩, ⟨n97_ok, ⟨n96_ok, True.intro, True.intro⟩, True.intro⟩⟩⟩, ⟨n107_ok, ⟨n102_ok, ⟨n100_ok, ⟨n99_ok, True.intro, True.intro⟩, ⟨n101_ok, True.intro, True.intro⟩⟩, ⟨n106_ok, ⟨n104_ok, True.intro, True.intro⟩, True.intro⟩⟩, ⟨n111_ok, ⟨n110_ok, ⟨n108_ok, True.intro, True.intro⟩, True.intro⟩, ⟨n113_ok, ⟨n112_ok, True.intro, True.intro⟩, True.intro⟩⟩⟩⟩⟩
/- foghorn/feedback.Check -/
noncomputable def R12 (q_notW : Option CV → W → (W → Bool) → Bool) (q_condW : W → Bool → Bool → Bool) (q_idxSW : Nat → W → W → (W → Bool) → Bool) (q_tupW : W → (List W → Bool) → Bool) (q_nthW : Nat → List W → (W → Bool) → Bool) (q_loadSW : HW → W → (W → Bool) → Bool) (fu : Nat) (call : CallW) (a0 : W) (h0 : HW) (c0 : Nat) (K : KW) : Bool :=
call 36 [a0] h0 c0 fun v1 h2 c3 =>
q_notW (two Try.prog (dec v1) (Op.unary .not)) v1 fun v4 =>
q_condW v4 (
K ⟨3, 8, r0, []⟩ h2 c3) (
q_idxSW 1 a0 ⟨3, 0, r0, []⟩ fun v5 =>
q_loadSW h2 v5 fun v6 =>
call 39 [v6] h2 c3 fun v7 h8 c9 =>
q_tupW v7 fun l10 => q_nthW 0 l10 fun v11 =>
q_tupW v7 fun l12 => q_nthW 1 l12 fun v13 =>
q_tupW v7 fun l14 => q_nthW 2 l14 fun v15 =>
q_notW (two Try.prog (dec v15) (Op.unary .not)) v15 fun v16 =>
q_condW v16 (
K ⟨3, 110, r0, []⟩ h8 c9) (
K ⟨3, 0, r0, []⟩ h8 c9))
theorem R12_eq (Q : PrimW) (fu : Nat) (call : CallW) : curryA 1 (fnK Q Try.prog tys stl fu call e12) = R12 Q.notW Q.condW Q.idxSW Q.tupW Q.nthW Q.loadSW fu call := by kernel_rfl
noncomputable def n12 : List W → HW → Nat → KW → Bool := appF 1 (R12 notW condW idxSW tupW nthW loadSW 1000000 d6.fn)
theorem n12_ok : FnGood Try.prog tys stl tab 12 n12 := node_ok d6_ok (by kernel_rfl) rfl g12 (R12_eq real _ _)
/- foghorn/grid.Check -/
noncomputable def R40 (q_addW : Nat → Nat → Option CV → W → W → (W → Bool) → Bool) (q_cmpW : (Nat → Nat → Bool) → Nat → Option CV → W → W → (W → Bool) → Bool) (q_notW : Option CV → W → (W → Bool) → Bool) (q_condW : W → Bool → Bool → Bool) (q_idxSW : Nat → W → W → (W → Bool) → Bool) (q_lenW : Option CV → W → (W → Bool) → Bool) (q_loadAW : Nat → HW → W → (W → Bool) → Bool) (q_storeAW : Nat → HW → W → W → (HW → Bool) → Bool) (q_allocW : Trie W → Nat → Bool → HW → Nat → KW → Bool) (fu : Nat) (call : CallW) (a0 : W) (h0 : HW) (c0 : Nat) (K : KW) : Bool :=
q_lenW (lenC tys 56 (dec a0)) a0 fun v1 =>
q_cmpW (cmpF2 .gtr) 3 (binC Try.prog .gtr 3 (.tmp 7) (.const (.int .i64 (.ofNat 65536))) (dec v1) (dec ⟨3, 65536, r0, []⟩)) v1 ⟨3, 65536, r0, []⟩ fun v2 =>
q_condW v2 (
K ⟨13, 0, r0, [⟨3, 0, r0, []⟩, ⟨3, 1, r0, []⟩]⟩ h0 c0) (
q_lenW (lenC tys 56 (dec a0)) a0 fun v3 =>
@Nat.rec (fun _ => Fun 1) (fun _ _ _ => false) (fun _ f7 v4 h5 c6 =>
q_cmpW (cmpF2 .lss) 3 (binC Try.prog .lss 3 (.tmp 11) (.tmp 10) (dec v4) (dec v3)) v4 v3 fun v8 =>
q_condW v8 (
q_idxSW 2 a0 v4 fun v9 =>
q_loadAW 2 h5 v9 fun v10 =>
q_allocW (allocT tys 42) 2 true h5 c6 fun v11 h12 c13 =>
q_storeAW 2 h12 v11 v10 fun h14 =>
q_loadAW 2 h14 v11 fun v15 =>
call 58 [v15] h14 c13 fun v16 h17 c18 =>
q_notW (two Try.prog (dec v16) (Op.unary .not)) v16 fun v19 =>
q_condW v19 (
K ⟨13, 0, r0, [v4, ⟨3, 7, r0, []⟩]⟩ h17 c18) (
q_addW 3 9223372036854775807 (binC Try.prog .add 3 (.tmp 11) (.const (.int .i64 (.ofNat 1))) (dec v4) (dec ⟨3, 1, r0, []⟩)) v4 ⟨3, 1, r0, []⟩ fun v20 =>
f7 v20 h17 c18)) (
K ⟨13, 0, r0, [⟨3, 0, r0, []⟩, ⟨3, 0, r0, []⟩]⟩ h5 c6)) fu ⟨3, 0, r0, []⟩ h0 c0)
theorem R40_eq (Q : PrimW) (fu : Nat) (call : CallW) : curryA 1 (fnK Q Try.prog tys stl fu call e40) = R40 Q.addW Q.cmpW Q.notW Q.condW Q.idxSW Q.lenW Q.loadAW Q.storeAW Q.allocW fu call := by kernel_rfl
noncomputable def n40 : List W → HW → Nat → KW → Bool := appF 1 (R40 addW cmpW notW condW idxSW lenW loadAW storeAW allocW 1000000 d6.fn)
theorem n40_ok : FnGood Try.prog tys stl tab 40 n40 := node_ok d6_ok (by kernel_rfl) rfl g40 (R40_eq real _ _)
/- foghorn/slice.deciders$2$1 -/
noncomputable def R72 (q_loadSW : HW → W → (W → Bool) → Bool) (q_loadAW : Nat → HW → W → (W → Bool) → Bool) (q_storeAW : Nat → HW → W → W → (HW → Bool) → Bool) (q_allocW : Trie W → Nat → Bool → HW → Nat → KW → Bool) (fu : Nat) (call : CallW) (a0 : W) (a1 : W) (h0 : HW) (c0 : Nat) (K : KW) : Bool :=
q_allocW (allocT tys 38) 3 true h0 c0 fun v1 h2 c3 =>
q_loadSW h2 a1 fun v4 =>
call 73 [v4, a0] h2 c3 fun v5 h6 c7 =>
q_storeAW 3 h6 v1 v5 fun h8 =>
q_loadAW 3 h8 v1 fun v9 =>
K v9 h8 c7
theorem R72_eq (Q : PrimW) (fu : Nat) (call : CallW) : curryA 2 (fnK Q Try.prog tys stl fu call e72) = R72 Q.loadSW Q.loadAW Q.storeAW Q.allocW fu call := by kernel_rfl
noncomputable def n72 : List W → HW → Nat → KW → Bool := appF 2 (R72 loadSW loadAW storeAW allocW 1000000 d6.fn)
theorem n72_ok : FnGood Try.prog tys stl tab 72 n72 := node_ok d6_ok (by kernel_rfl) rfl g72 (R72_eq real _ _)
/- foghorn/points.Label -/
noncomputable def R83 (q_notW : Option CV → W → (W → Bool) → Bool) (q_condW : W → Bool → Bool → Bool) (q_tupW : W → (List W → Bool) → Bool) (q_nthW : Nat → List W → (W → Bool) → Bool) (q_killVW : W → HW → (HW → Bool) → Bool) (q_loadAW : Nat → HW → W → (W → Bool) → Bool) (q_storeAW : Nat → HW → W → W → (HW → Bool) → Bool) (q_allocW : Trie W → Nat → Bool → HW → Nat → KW → Bool) (fu : Nat) (call : CallW) (a0 : W) (a1 : W) (h0 : HW) (c0 : Nat) (K : KW) : Bool :=
call 61 [a0] h0 c0 fun v1 h2 c3 =>
q_tupW v1 fun l4 => q_nthW 0 l4 fun v5 =>
q_tupW v1 fun l6 => q_nthW 1 l6 fun v7 =>
q_allocW (allocT tys 111) 5 true h2 c3 fun v8 h9 c10 =>
q_storeAW 5 h9 v8 v5 fun h11 =>
q_notW (two Try.prog (dec v7) (Op.unary .not)) v7 fun v12 =>
q_condW v12 (
q_killVW v8 h11 fun h13 =>
K ⟨13, 0, r0, [⟨3, 0, r0, []⟩, ⟨3, 1, r0, []⟩]⟩ h13 c10) (
q_loadAW 5 h11 v8 fun v14 =>
call 96 [v14, a1] h11 c10 fun v15 h16 c17 =>
q_tupW v15 fun l18 => q_nthW 0 l18 fun v19 =>
q_tupW v15 fun l20 => q_nthW 1 l20 fun v21 =>
q_notW (two Try.prog (dec v21) (Op.unary .not)) v21 fun v22 =>
q_condW v22 (
q_killVW v8 h16 fun h23 =>
K ⟨13, 0, r0, [⟨3, 0, r0, []⟩, ⟨3, 6, r0, []⟩]⟩ h23 c17) (
q_killVW v8 h16 fun h24 =>
K ⟨13, 0, r0, [v19, ⟨3, 0, r0, []⟩]⟩ h24 c17))
theorem R83_eq (Q : PrimW) (fu : Nat) (call : CallW) : curryA 2 (fnK Q Try.prog tys stl fu call e83) = R83 Q.notW Q.condW Q.tupW Q.nthW Q.killVW Q.loadAW Q.storeAW Q.allocW fu call := by kernel_rfl
noncomputable def n83 : List W → HW → Nat → KW → Bool := appF 2 (R83 notW condW tupW nthW killVW loadAW storeAW allocW 1000000 d6.fn)
theorem n83_ok : FnGood Try.prog tys stl tab 83 n83 := node_ok d6_ok (by kernel_rfl) rfl g83 (R83_eq real _ _)
/- math.Floor -/
noncomputable def R109 (q_condW : W → Bool → Bool → Bool) (fu : Nat) (call : CallW) (a0 : W) (h0 : HW) (c0 : Nat) (K : KW) : Bool :=
q_condW ⟨8, 1, r0, []⟩ (
call 111 [a0] h0 c0 fun v1 h2 c3 =>
K v1 h2 c3) (
call 112 [a0] h0 c0 fun v4 h5 c6 =>
K v4 h5 c6)
theorem R109_eq (Q : PrimW) (fu : Nat) (call : CallW) : curryA 1 (fnK Q Try.prog tys stl fu call e109) = R109 Q.condW fu call := by kernel_rfl
noncomputable def n109 : List W → HW → Nat → KW → Bool := appF 1 (R109 condW 1000000 d6.fn)
theorem n109_ok : FnGood Try.prog tys stl tab 109 n109 := node_ok d6_ok (by kernel_rfl) rfl g109 (R109_eq real _ _)
noncomputable def d7 : Disp := (.node 80 n80 (.node 55 n55 (.node 39 n39 (.node 20 n20 (.node 17 n17 (.node 12 n12 .leaf .leaf) (.node 19 n19 .leaf .leaf)) (.node 36 n36 (.node 32 n32 .leaf .leaf) (.node 37 n37 .leaf .leaf))) (.node 44 n44 (.node 41 n41 (.node 40 n40 .leaf .leaf) (.node 43 n43 .leaf .leaf)) (.node 54 n54 (.node 53 n53 .leaf .leaf) .leaf))) (.node 68 n68 (.node 61 n61 (.node 58 n58 (.node 57 n57 .leaf .leaf) (.node 59 n59 .leaf .leaf)) (.node 66 n66 (.node 65 n65 .leaf .leaf) (.node 67 n67 .leaf .leaf))) (.node 74 n74 (.node 72 n72 (.node 71 n71 .leaf .leaf) (.node 73 n73 .leaf .leaf)) (.node 79 n79 (.node 75 n75 .leaf .leaf) .leaf)))) (.node 98 n98 (.node 89 n89 (.node 85 n85 (.node 83 n83 (.node 81 n81 .leaf .leaf) (.node 84 n84 .leaf .leaf)) (.node 87 n87 (.node 86 n86 .leaf .leaf) (.node 88 n88 .leaf .leaf))) (.node 95 n95 (.node 92 n92 (.node 90 n90 .leaf .leaf) (.node 93 n93 .leaf .leaf)) (.node 97 n97 (.node 96 n96 .leaf .leaf) .leaf))) (.node 107 n107 (.node 102 n102 (.node 100 n100 (.node 99 n99 .leaf .leaf) (.node 101 n101 .leaf .leaf)) (.node 106 n106 (.node 104 n104 .leaf .leaf) .leaf)) (.node 111 n111 (.node 109 n109 (.node 108 n108 .leaf .leaf) (.node 110 n110 .leaf .leaf)) (.node 113 n113 (.node 112 n112 .leaf .leaf) .leaf)))))
theorem d7_ok : CallSim Try.prog tys stl tab d7.fn := Disp.sim ⟨n80_ok, ⟨n55_ok, ⟨n39_ok, ⟨n20_ok, ⟨n17_ok, ⟨n12_ok, True.intro, True.intro⟩, ⟨n19_ok, True.intro, True.intro⟩⟩, ⟨n36_ok, ⟨n32_ok, True.intro, True.intro⟩, ⟨n37_ok, True.intro, True.intro⟩⟩⟩, ⟨n44_ok, ⟨n41_ok, ⟨n40_ok, True.intro, True.intro⟩, ⟨n43_ok, True.intro, True.intro⟩⟩, ⟨n54_ok, ⟨n53_ok, True.intro, True.intro⟩, True.intro⟩⟩⟩, ⟨n68_ok, ⟨n61_ok, ⟨n58_ok, ⟨n57_ok, True.intro, True.intro⟩, ⟨n59_ok, True.intro, True.intro⟩⟩, ⟨n66_ok, ⟨n65_ok, True.intro, True.intro⟩, ⟨n67_ok, True.intro, True.intro⟩⟩⟩, ⟨n74_ok, ⟨n72_ok, ⟨n71_ok, True.intro, True.intro⟩, ⟨n73_ok, True.intro, True.intro⟩⟩, ⟨n79_ok, ⟨n75_ok, True.intro, True.intro⟩, True.intro⟩⟩⟩⟩, ⟨n98_ok, ⟨n89_ok, ⟨n85_ok, ⟨n83_ok, ⟨n81_ok, True.intro, True.intro⟩, ⟨n84_ok, True.intro, True.intro⟩⟩, ⟨n87_ok, ⟨n86_ok, True.intro, True.intro⟩, ⟨n88_ok, True.intro, True.intro⟩⟩⟩, ⟨n95_ok, ⟨n92_ok, ⟨n90_ok, True.intro, True.intro⟩, ⟨n93_ok, True.intro, True.intro⟩⟩, ⟨n97_ok, ⟨n96_ok, True.intro, True.intro⟩, True.intro⟩⟩⟩, ⟨n107_ok, ⟨n102_ok, ⟨n100_ok, ⟨n99_ok, True.intro, True.intro⟩, ⟨n101_ok, True.intro, True.intro⟩⟩, ⟨n106_ok, ⟨n104_ok, True.intro, True.intro⟩, True.intro⟩⟩, ⟨n111_ok, ⟨n109_ok, ⟨n108_ok, True.intro, True.intro⟩, ⟨n110_ok, True.intro, True.intro⟩⟩, ⟨n113_ok, ⟨n112_ok, True.intro, True.intro⟩, True.intro⟩⟩⟩⟩⟩
/- foghorn/feedback.New -/
noncomputable def R18 (q_genW : Option CV → (W → Bool) → Bool) (q_cmpW : (Nat → Nat → Bool) → Nat → Option CV → W → W → (W → Bool) → Bool) (q_condW : W → Bool → Bool → Bool) (q_idxSW : Nat → W → W → (W → Bool) → Bool) (q_tupW : W → (List W → Bool) → Bool) (q_nthW : Nat → List W → (W → Bool) → Bool) (q_loadSW : HW → W → (W → Bool) → Bool) (q_boxW : HW → Nat → W → KW → Bool) (q_flatW : W → Bool → Bool) (fu : Nat) (call : CallW) (a0 : W) (a1 : W) (h0 : HW) (c0 : Nat) (K : KW) : Bool :=
call 43 [a0] h0 c0 fun v1 h2 c3 =>
q_tupW v1 fun l4 => q_nthW 0 l4 fun v5 =>
q_tupW v1 fun l6 => q_nthW 1 l6 fun v7 =>
q_cmpW (cmpF2 .neq) 3 (binC Try.prog .neq 27 (.tmp 17) (.const (.int .i64 (.ofNat 0))) (dec v7) (dec ⟨3, 0, r0, []⟩)) v7 ⟨3, 0, r0, []⟩ fun v8 =>
q_condW v8 (
K ⟨13, 0, r0, [⟨12, 0, ⟨0, 0, 0, .nilp⟩, []⟩, v7]⟩ h2 c3) (
call 12 [a1] h2 c3 fun v9 h10 c11 =>
q_cmpW (cmpF2 .neq) 3 (binC Try.prog .neq 27 (.tmp 22) (.const (.int .i64 (.ofNat 0))) (dec v9) (dec ⟨3, 0, r0, []⟩)) v9 ⟨3, 0, r0, []⟩ fun v12 =>
q_condW v12 (
K ⟨13, 0, r0, [⟨12, 0, ⟨0, 0, 0, .nilp⟩, []⟩, v9]⟩ h10 c11) (
q_idxSW 1 a1 ⟨3, 0, r0, []⟩ fun v13 =>
q_loadSW h10 v13 fun v14 =>
call 39 [v14] h10 c11 fun v15 h16 c17 =>
q_tupW v15 fun l18 => q_nthW 0 l18 fun v19 =>
q_tupW v15 fun l20 => q_nthW 1 l20 fun v21 =>
q_tupW v15 fun l22 => q_nthW 2 l22 fun v23 =>
call 44 [a1] h16 c17 fun v24 h25 c26 =>
q_genW (binC Try.prog .quo 34 (.const (.float .f64 4607182418800017408)) (.tmp 36) (dec ⟨12, 0, ⟨0, 0, 0, .flt .f64 4607182418800017408⟩, []⟩) (dec v19)) fun v27 =>
q_flatW a0 (
q_flatW v24 (
q_flatW v27 (
q_flatW v21 (
(fun (v28 : W) =>
q_boxW h25 c26 v28 fun v29 h30 c31 =>
K ⟨13, 0, r0, [v29, ⟨3, 0, r0, []⟩]⟩ h30 c31) ⟨15, 0, r0, [a0, v24, v27, v21, ⟨12, 0, ⟨0, 0, 0, .cpx .f64 0 0⟩, []⟩, ⟨12, 0, ⟨0, 0, 0, .cpx .f64 0 0⟩, []⟩, ⟨12, 0, ⟨0, 0, 0, .cpx .f64 0 0⟩, []⟩, ⟨12, 0, ⟨0, 0, 0, .cpx .f64 0 0⟩, []⟩, ⟨12, 0, ⟨0, 0, 0, .cpx .f64 0 0⟩, []⟩, ⟨12, 0, ⟨0, 0, 0, .cpx .f64 0 0⟩, []⟩, ⟨12, 0, ⟨0, 0, 0, .cpx .f64 0 0⟩, []⟩, ⟨12, 0, ⟨0, 0, 0, .cpx .f64 0 0⟩, []⟩, ⟨12, 0, ⟨0, 0, 0, .cpx .f64 0 0⟩, []⟩, ⟨12, 0, ⟨0, 0, 0, .cpx .f64 0 0⟩, []⟩, ⟨12, 0, ⟨0, 0, 0, .cpx .f64 0 0⟩, []⟩, ⟨12, 0, ⟨0, 0, 0, .cpx .f64 0 0⟩, []⟩, ⟨12, 0, ⟨0, 0, 0, .cpx .f64 0 0⟩, []⟩, ⟨12, 0, ⟨0, 0, 0, .cpx .f64 0 0⟩, []⟩, ⟨12, 0, ⟨0, 0, 0, .cpx .f64 0 0⟩, []⟩, ⟨12, 0, ⟨0, 0, 0, .cpx .f64 0 0⟩, []⟩, ⟨12, 0, ⟨0, 0, 0, .cpx .f64 0 0⟩, []⟩, ⟨12, 0, ⟨0, 0, 0, .cpx .f64 0 0⟩, []⟩, ⟨12, 0, ⟨0, 0, 0, .cpx .f64 0 0⟩, []⟩, ⟨12, 0, ⟨0, 0, 0, .cpx .f64 0 0⟩, []⟩, ⟨12, 0, ⟨0, 0, 0, .cpx .f64 0 0⟩, []⟩, ⟨12, 0, ⟨0, 0, 0, .cpx .f64 0 0⟩, []⟩, ⟨12, 0, ⟨0, 0, 0, .cpx .f64 0 0⟩, []⟩, ⟨12, 0, ⟨0, 0, 0, .cpx .f64 0 0⟩, []⟩, ⟨12, 0, ⟨0, 0, 0, .cpx .f64 0 0⟩, []⟩, ⟨12, 0, ⟨0, 0, 0, .cpx .f64 0 0⟩, []⟩, ⟨12, 0, ⟨0, 0, 0, .cpx .f64 0 0⟩, []⟩, ⟨12, 0, ⟨0, 0, 0, .cpx .f64 0 0⟩, []⟩, ⟨12, 0, ⟨0, 0, 0, .cpx .f64 0 0⟩, []⟩, ⟨12, 0, ⟨0, 0, 0, .cpx .f64 0 0⟩, []⟩, ⟨12, 0, ⟨0, 0, 0, .cpx .f64 0 0⟩, []⟩, ⟨12, 0, ⟨0, 0, 0, .cpx .f64 0 0⟩, []⟩, ⟨12, 0, ⟨0, 0, 0, .cpx .f64 0 0⟩, []⟩, ⟨12, 0, ⟨0, 0, 0, .cpx .f64 0 0⟩, []⟩, ⟨12, 0, ⟨0, 0, 0, .cpx .f64 0 0⟩, []⟩, ⟨12, 0, ⟨0, 0, 0, .cpx .f64 0 0⟩, []⟩, ⟨12, 0, ⟨0, 0, 0, .cpx .f64 0 0⟩, []⟩, ⟨12, 0, ⟨0, 0, 0, .cpx .f64 0 0⟩, []⟩, ⟨12, 0, ⟨0, 0, 0, .cpx .f64 0 0⟩, []⟩, ⟨12, 0, ⟨0, 0, 0, .cpx .f64 0 0⟩, []⟩, ⟨12, 0, ⟨0, 0, 0, .cpx .f64 0 0⟩, []⟩, ⟨12, 0, ⟨0, 0, 0, .cpx .f64 0 0⟩, []⟩, ⟨12, 0, ⟨0, 0, 0, .cpx .f64 0 0⟩, []⟩, ⟨12, 0, ⟨0, 0, 0, .cpx .f64 0 0⟩, []⟩, ⟨12, 0, ⟨0, 0, 0, .cpx .f64 0 0⟩, []⟩, ⟨12, 0, ⟨0, 0, 0, .cpx .f64 0 0⟩, []⟩, ⟨12, 0, ⟨0, 0, 0, .cpx .f64 0 0⟩, []⟩, ⟨12, 0, ⟨0, 0, 0, .cpx .f64 0 0⟩, []⟩, ⟨12, 0, ⟨0, 0, 0, .cpx .f64 0 0⟩, []⟩, ⟨12, 0, ⟨0, 0, 0, .cpx .f64 0 0⟩, []⟩, ⟨12, 0, ⟨0, 0, 0, .cpx .f64 0 0⟩, []⟩, ⟨12, 0, ⟨0, 0, 0, .cpx .f64 0 0⟩, []⟩, ⟨12, 0, ⟨0, 0, 0, .cpx .f64 0 0⟩, []⟩, ⟨12, 0, ⟨0, 0, 0, .cpx .f64 0 0⟩, []⟩, ⟨12, 0, ⟨0, 0, 0, .cpx .f64 0 0⟩, []⟩, ⟨12, 0, ⟨0, 0, 0, .cpx .f64 0 0⟩, []⟩, ⟨12, 0, ⟨0, 0, 0, .cpx .f64 0 0⟩, []⟩, ⟨12, 0, ⟨0, 0, 0, .cpx .f64 0 0⟩, []⟩, ⟨12, 0, ⟨0, 0, 0, .cpx .f64 0 0⟩, []⟩, ⟨12, 0, ⟨0, 0, 0, .cpx .f64 0 0⟩, []⟩, ⟨12, 0, ⟨0, 0, 0, .cpx .f64 0 0⟩, []⟩, ⟨12, 0, ⟨0, 0, 0, .cpx .f64 0 0⟩, []⟩, ⟨12, 0, ⟨0, 0, 0, .cpx .f64 0 0⟩, []⟩, ⟨12, 0, ⟨0, 0, 0, .cpx .f64 0 0⟩, []⟩, ⟨3, 0, r0, []⟩, ⟨12, 0, ⟨0, 0, 0, .cpx .f64 0 0⟩, []⟩, ⟨8, 0, r0, []⟩, ⟨8, 0, r0, []⟩]⟩))))))
theorem R18_eq (Q : PrimW) (fu : Nat) (call : CallW) : curryA 2 (fnK Q Try.prog tys stl fu call e18) = R18 Q.genW Q.cmpW Q.condW Q.idxSW Q.tupW Q.nthW Q.loadSW Q.boxW Q.flatW fu call := by kernel_rfl
noncomputable def n18 : List W → HW → Nat → KW → Bool := appF 2 (R18 genW cmpW condW idxSW tupW nthW loadSW boxW flatW 1000000 d7.fn)
theorem n18_ok : FnGood Try.prog tys stl tab 18 n18 := node_ok d7_ok (by kernel_rfl) rfl g18 (R18_eq real _ _)
/- math.ceil -/
noncomputable def R105 (q_genW : Option CV → (W → Bool) → Bool) (fu : Nat) (call : CallW) (a0 : W) (h0 : HW) (c0 : Nat) (K : KW) : Bool :=
q_genW (two Try.prog (dec a0) (Op.unary .neg)) fun v1 =>
call 109 [v1] h0 c0 fun v2 h3 c4 =>
q_genW (two Try.prog (dec v2) (Op.unary .neg)) fun v5 =>
K v5 h3 c4
theorem R105_eq (Q : PrimW) (fu : Nat) (call : CallW) : curryA 1 (fnK Q Try.prog tys stl fu call e105) = R105 Q.genW fu call := by kernel_rfl
noncomputable def n105 : List W → HW → Nat → KW → Bool := appF 1 (R105 genW 1000000 d7.fn)
theorem n105_ok : FnGood Try.prog tys stl tab 105 n105 := node_ok d7_ok (by kernel_rfl) rfl g105 (R105_eq real _ _)
noncomputable def d8 : Disp := (.node 80 n80 (.node 55 n55 (.node 37 n37 (.node 19 n19 (.node 17 n17 (.node 12 n12 .leaf .leaf) (.node 18 n18 .leaf .leaf)) (.node 32 n32 (.node 20 n20 .leaf .leaf) (.node 36 n36 .leaf .leaf))) (.node 43 n43 (.node 40 n40 (.node 39 n39 .leaf .leaf) (.node 41 n41 .leaf .leaf)) (.node 53 n53 (.node 44 n44 .leaf .leaf) (.node 54 n54 .leaf .leaf)))) (.node 68 n68 (.node 61 n61 (.node 58 n58 (.node 57 n57 .leaf .leaf) (.node 59 n59 .leaf .leaf)) (.node 66 n66 (.node 65 n65 .leaf .leaf) (.node 67 n67 .leaf .leaf))) (.node 74 n74 (.node 72 n72 (.node 71 n71 .leaf .leaf) (.node 73 n73 .leaf .leaf)) (.node 79 n79 (.node 75 n75 .leaf .leaf) .leaf)))) (.node 98 n98 (.node 89 n89 (.node 85 n85 (.node 83 n83 (.node 81 n81 .leaf .leaf) (.node 84 n84 .leaf .leaf)) (.node 87 n87 (.node 86 n86 .leaf .leaf) (.node 88 n88 .leaf .leaf))) (.node 95 n95 (.node 92 n92 (.node 90 n90 .leaf .leaf) (.node 93 n93 .leaf .leaf)) (.node 97 n97 (.node 96 n96 .leaf .leaf) .leaf))) (.node 107 n107 (.node 102 n102 (.node 100 n100 (.node 99 n99 .leaf .leaf) (.node 101 n101 .leaf .leaf)) (.node 105 n105 (.node 104 n104 .leaf .leaf) (.node 106 n106 .leaf .leaf))) (.node 111 n111 (.node 109 n109 (.node 108 n108 .leaf .leaf) (.node 110 n110 .leaf .leaf)) (.node 113 n113 (.node 112 n112 .leaf .leaf) .leaf)))))
theorem d8_ok : CallSim Try.prog tys stl tab d8.fn := Disp.sim ⟨n80_ok, ⟨n55_ok, ⟨n37_ok, ⟨n19_ok, ⟨n17_ok, ⟨n12_ok, True.intro, True.intro⟩, ⟨n18_ok, True.intro, True.intro⟩⟩, ⟨n32_ok, ⟨n20_ok, True.intro, True.intro⟩, ⟨n36_ok, True.intro, True.intro⟩⟩⟩, ⟨n43_ok, ⟨n40_ok, ⟨n39_ok, True.intro, True.intro⟩, ⟨n41_ok, True.intro, True.intro⟩⟩, ⟨n53_ok, ⟨n44_ok, True.intro, True.intro⟩, ⟨n54_ok, True.intro, True.intro⟩⟩⟩⟩, ⟨n68_ok, ⟨n61_ok, ⟨n58_ok, ⟨n57_ok, True.intro, True.intro⟩, ⟨n59_ok, True.intro, True.intro⟩⟩, ⟨n66_ok, ⟨n65_ok, True.intro, True.intro⟩, ⟨n67_ok, True.intro, True.intro⟩⟩⟩, ⟨n74_ok, ⟨n72_ok, ⟨n71_ok, True.intro, True.intro⟩, ⟨n73_ok, True.intro, True.intro⟩⟩, ⟨n79_ok, ⟨n75_ok, True.intro, True.intro⟩, True.intro⟩⟩⟩⟩, ⟨n98_ok, ⟨n89_ok, ⟨n85_ok, ⟨n83_ok, ⟨n81_ok, True.intro, True.intro⟩, ⟨n84_ok, True.intro, True.intro⟩⟩, ⟨n87_ok, ⟨n86_ok, True.intro, True.intro⟩, ⟨n88_ok, True.intro, True.intro⟩⟩⟩, ⟨n95_ok, ⟨n92_ok, ⟨n90_ok, True.intro, True.intro⟩, ⟨n93_ok, True.intro, True.intro⟩⟩, ⟨n97_ok, ⟨n96_ok, True.intro, True.intro⟩, True.intro⟩⟩⟩, ⟨n107_ok, ⟨n102_ok, ⟨n100_ok, ⟨n99_ok, True.intro, True.intro⟩, ⟨n101_ok, True.intro, True.intro⟩⟩, ⟨n105_ok, ⟨n104_ok, True.intro, True.intro⟩, ⟨n106_ok, True.intro, True.intro⟩⟩⟩, ⟨n111_ok, ⟨n109_ok, ⟨n108_ok, True.intro, True.intro⟩, ⟨n110_ok, True.intro, True.intro⟩⟩, ⟨n113_ok, ⟨n112_ok, True.intro, True.intro⟩, True.intro⟩⟩⟩⟩⟩
/- math.Ceil -/
noncomputable def R94 (q_condW : W → Bool → Bool → Bool) (fu : Nat) (call : CallW) (a0 : W) (h0 : HW) (c0 : Nat) (K : KW) : Bool :=
q_condW ⟨8, 1, r0, []⟩ (
call 104 [a0] h0 c0 fun v1 h2 c3 =>
K v1 h2 c3) (
call 105 [a0] h0 c0 fun v4 h5 c6 =>
K v4 h5 c6)
theorem R94_eq (Q : PrimW) (fu : Nat) (call : CallW) : curryA 1 (fnK Q Try.prog tys stl fu call e94) = R94 Q.condW fu call := by kernel_rfl
noncomputable def n94 : List W → HW → Nat → KW → Bool := appF 1 (R94 condW 1000000 d8.fn)
theorem n94_ok : FnGood Try.prog tys stl tab 94 n94 := node_ok d8_ok (by kernel_rfl) rfl g94 (R94_eq real _ _)
noncomputable def d9 : Disp := (.node 80 n80 (.node 55 n55 (.node 37 n37 (.node 19 n19 (.node 17 n17 (.node 12 n12 .leaf .leaf) (.node 18 n18 .leaf .leaf)) (.node 32 n32 (.node 20 n20 .leaf .leaf) (.node 36 n36 .leaf .leaf))) (.node 43 n43 (.node 40 n40 (.node 39 n39 .leaf .leaf) (.node 41 n41 .leaf .leaf)) (.node 53 n53 (.node 44 n44 .leaf .leaf) (.node 54 n54 .leaf .leaf)))) (.node 68 n68 (.node 61 n61 (.node 58 n58 (.node 57 n57 .leaf .leaf) (.node 59 n59 .leaf .leaf)) (.node 66 n66 (.node 65 n65 .leaf .leaf) (.node 67 n67 .leaf .leaf))) (.node 74 n74 (.node 72 n72 (.node 71 n71 .leaf .leaf) (.node 73 n73 .leaf .leaf)) (.node 79 n79 (.node 75 n75 .leaf .leaf) .leaf)))) (.node 98 n98 (.node 89 n89 (.node 85 n85 (.node 83 n83 (.node 81 n81 .leaf .leaf) (.node 84 n84 .leaf .leaf)) (.node 87 n87 (.node 86 n86 .leaf .leaf) (.node 88 n88 .leaf .leaf))) (.node 94 n94 (.node 92 n92 (.node 90 n90 .leaf .leaf) (.node 93 n93 .leaf .leaf)) (.node 96 n96 (.node 95 n95 .leaf .leaf) (.node 97 n97 .leaf .leaf)))) (.node 107 n107 (.node 102 n102 (.node 100 n100 (.node 99 n99 .leaf .leaf) (.node 101 n101 .leaf .leaf)) (.node 105 n105 (.node 104 n104 .leaf .leaf) (.node 106 n106 .leaf .leaf))) (.node 111 n111 (.node 109 n109 (.node 108 n108 .leaf .leaf) (.node 110 n110 .leaf .leaf)) (.node 113 n113 (.node 112 n112 .leaf .leaf) .leaf)))))
theorem d9_ok : CallSim Try.prog tys stl tab d9.fn := Disp.sim ⟨n80_ok, ⟨n55_ok, ⟨n37_ok, ⟨n19_ok, ⟨n17_ok, ⟨n12_ok, True.intro, True.intro⟩, ⟨n18_ok, True.intro, True.intro⟩⟩, ⟨n32_ok, ⟨n20_ok, True.intro, True.intro⟩, ⟨n36_ok, True.intro, True.intro⟩⟩⟩, ⟨n43_ok, ⟨n40_ok, ⟨n39_ok, True.intro, True.intro⟩, ⟨n41_ok, True.intro, True.intro⟩⟩, ⟨n53_ok, ⟨n44_ok, True.intro, True.intro⟩, ⟨n54_ok, True.intro, True.intro⟩⟩⟩⟩, ⟨n68_ok, ⟨n61_ok, ⟨n58_ok, ⟨n57_ok, True.intro, True.intro⟩, ⟨n59_ok, True.intro, True.intro⟩⟩, ⟨n66_ok, ⟨n65_ok, True.intro, True.intro⟩, ⟨n67_ok, True.intro, True.intro⟩⟩⟩, ⟨n74_ok, ⟨n72_ok, ⟨n71_ok, True.intro, True.intro⟩, ⟨n73_ok, True.intro, True.intro⟩⟩, ⟨n79_ok, ⟨n75_ok, True.intro, True.intro⟩, True.intro⟩⟩⟩⟩, ⟨n98_ok, ⟨n89_ok, ⟨n85_ok, ⟨n83_ok, ⟨n81_ok, True.intro, True.intro⟩, ⟨n84_ok, True.intro, True.intro⟩⟩, ⟨n87_ok, ⟨n86_ok, True.intro, True.intro⟩, ⟨n88_ok, True.intro, True.intro⟩⟩⟩, ⟨n94_ok, ⟨n92_ok, ⟨n90_ok, True.intro, True.intro⟩, ⟨n93_ok, True.intro, True.intro⟩⟩, ⟨n96_ok, ⟨n95_ok, True.intro, True.intro⟩, ⟨n97_ok, True.intro, True.intro⟩⟩⟩⟩, ⟨n107_ok, ⟨n102_ok, ⟨n100_ok, ⟨n99_ok, True.intro, True.intro⟩, ⟨n101_ok, True.intro, True.intro⟩⟩, ⟨n105_ok, ⟨n104_ok, True.intro, True.intro⟩, ⟨n106_ok, True.intro, True.intro⟩⟩⟩, ⟨n111_ok, ⟨n109_ok, ⟨n108_ok, True.intro, True.intro⟩, ⟨n110_ok, True.intro, True.intro⟩⟩, ⟨n113_ok, ⟨n112_ok, True.intro, True.intro⟩, True.intro⟩⟩⟩⟩⟩
/- foghorn/slice.Axis -/
noncomputable def R82 (q_share : (α : Type) → α → (α → Bool) → Bool) (q_genW : Option CV → (W → Bool) → Bool) (q_subW : Nat → Nat → Option CV → W → W → (W → Bool) → Bool) (q_remW : Nat → Nat → Option CV → W → W → (W → Bool) → Bool) (q_cmpW : (Nat → Nat → Bool) → Nat → Option CV → W → W → (W → Bool) → Bool) (q_condW : W → Bool → Bool → Bool) (q_guardW : Bool → W → Bool → Bool → Bool) (q_pickW : W → W → W → (W → Bool) → Bool) (fu : Nat) (call : CallW) (a0 : W) (a1 : W) (h0 : HW) (c0 : Nat) (K : KW) : Bool :=
q_cmpW (cmpF2 .lss) 3 (binC Try.prog .lss 3 (.tmp 7) (.const (.int .i64 (.ofNat 1))) (dec a1) (dec ⟨3, 1, r0, []⟩)) a1 ⟨3, 1, r0, []⟩ fun v1 =>
q_share _ (fun (v3 : W) (h4 : HW) (c5 : Nat) =>
q_share _ (fun (v7 : W) (h8 : HW) (c9 : Nat) =>
q_pickW v1 ⟨8, 1, r0, []⟩ v7 fun v10 =>
q_share _ (fun (v12 : W) (h13 : HW) (c14 : Nat) =>
q_share _ (fun (v16 : W) (h17 : HW) (c18 : Nat) =>
q_share _ (fun (v20 : W) (h21 : HW) (c22 : Nat) =>
q_pickW v10 ⟨8, 1, r0, []⟩ v20 fun v23 =>
q_share _ (fun (v25 : W) (h26 : HW) (c27 : Nat) =>
q_share _ (fun (v29 : W) (h30 : HW) (c31 : Nat) =>
q_pickW v23 ⟨8, 1, r0, []⟩ v29 fun v32 =>
q_condW v32 (
K ⟨13, 0, r0, [⟨3, 0, r0, []⟩, ⟨3, 1, r0, []⟩]⟩ h30 c31) (
call 95 [a0, a1] h30 c31 fun v33 h34 c35 =>
call 94 [v33] h34 c35 fun v36 h37 c38 =>
q_genW (convC Try.prog tys ⟨[], 0, decH h37, 0⟩ 34 3 (dec v36)) fun v39 =>
q_share _ (fun (v40 : W) (h41 : HW) (c42 : Nat) =>
K ⟨13, 0, r0, [v40, ⟨3, 0, r0, []⟩]⟩ h41 c42) fun f43 =>
q_remW 3 9223372036854775807 (binC Try.prog .rem 3 (.tmp 27) (.const (.int .i64 (.ofNat 2))) (dec v39) (dec ⟨3, 2, r0, []⟩)) v39 ⟨3, 2, r0, []⟩ fun v44 =>
q_cmpW (cmpF2 .eql) 3 (binC Try.prog .eql 3 (.tmp 28) (.const (.int .i64 (.ofNat 0))) (dec v44) (dec ⟨3, 0, r0, []⟩)) v44 ⟨3, 0, r0, []⟩ fun v45 =>
q_condW v45 (
q_subW 3 9223372036854775807 (binC Try.prog .sub 3 (.tmp 30) (.const (.int .i64 (.ofNat 1))) (dec v39) (dec ⟨3, 1, r0, []⟩)) v39 ⟨3, 1, r0, []⟩ fun v46 =>
f43 v46 h37 c38) (
f43 v39 h37 c38))) fun f28 =>
q_guardW false v23 (call 92 [v25] h26 c27 fun v47 h48 c49 =>
f28 v47 h48 c49) (f28 wUnd h26 c27)) fun f24 =>
q_guardW false v23 (f24 a0 h21 c22) (f24 wUnd h21 c22)) fun f19 =>
q_guardW false v10 (q_cmpW (cmpF2 .eql) 3 (binC Try.prog .eql 3 (.tmp 15) (.const (.int .i64 (.ofNat 0))) (dec v16) (dec ⟨3, 0, r0, []⟩)) v16 ⟨3, 0, r0, []⟩ fun v50 =>
f19 v50 h17 c18) (f19 wUnd h17 c18)) fun f15 =>
q_guardW false v10 (q_remW 3 9223372036854775807 (binC Try.prog .rem 3 (.tmp 14) (.const (.int .i64 (.ofNat 2))) (dec v12) (dec ⟨3, 2, r0, []⟩)) v12 ⟨3, 2, r0, []⟩ fun v51 =>
f15 v51 h13 c14) (f15 wUnd h13 c14)) fun f11 =>
q_guardW false v10 (f11 a1 h8 c9) (f11 wUnd h8 c9)) fun f6 =>
q_guardW false v1 (q_cmpW (cmpF2 .gtr) 3 (binC Try.prog .gtr 3 (.tmp 10) (.const (.int .i64 (.ofNat 15))) (dec v3) (dec ⟨3, 15, r0, []⟩)) v3 ⟨3, 15, r0, []⟩ fun v52 =>
f6 v52 h4 c5) (f6 wUnd h4 c5)) fun f2 =>
q_guardW false v1 (f2 a1 h0 c0) (f2 wUnd h0 c0)
theorem R82_eq (Q : PrimW) (fu : Nat) (call : CallW) : curryA 2 (fnK Q Try.prog tys stl fu call e82) = R82 Q.share Q.genW Q.subW Q.remW Q.cmpW Q.condW Q.guardW Q.pickW fu call := by kernel_rfl
noncomputable def n82 : List W → HW → Nat → KW → Bool := appF 2 (R82 (fun _ x f => f x) genW subW remW cmpW condW guardW pickW 1000000 d9.fn)
theorem n82_ok : FnGood Try.prog tys stl tab 82 n82 := node_ok d9_ok (by kernel_rfl) rfl g82 (R82_eq real _ _)
noncomputable def d10 : Disp := (.node 81 n81 (.node 55 n55 (.node 37 n37 (.node 19 n19 (.node 17 n17 (.node 12 n12 .leaf .leaf) (.node 18 n18 .leaf .leaf)) (.node 32 n32 (.node 20 n20 .leaf .leaf) (.node 36 n36 .leaf .leaf))) (.node 43 n43 (.node 40 n40 (.node 39 n39 .leaf .leaf) (.node 41 n41 .leaf .leaf)) (.node 53 n53 (.node 44 n44 .leaf .leaf) (.node 54 n54 .leaf .leaf)))) (.node 68 n68 (.node 61 n61 (.node 58 n58 (.node 57 n57 .leaf .leaf) (.node 59 n59 .leaf .leaf)) (.node 66 n66 (.node 65 n65 .leaf .leaf) (.node 67 n67 .leaf .leaf))) (.node 74 n74 (.node 72 n72 (.node 71 n71 .leaf .leaf) (.node 73 n73 .leaf .leaf)) (.node 79 n79 (.node 75 n75 .leaf .leaf) (.node 80 n80 .leaf .leaf))))) (.node 98 n98 (.node 89 n89 (.node 85 n85 (.node 83 n83 (.node 82 n82 .leaf .leaf) (.node 84 n84 .leaf .leaf)) (.node 87 n87 (.node 86 n86 .leaf .leaf) (.node 88 n88 .leaf .leaf))) (.node 94 n94 (.node 92 n92 (.node 90 n90 .leaf .leaf) (.node 93 n93 .leaf .leaf)) (.node 96 n96 (.node 95 n95 .leaf .leaf) (.node 97 n97 .leaf .leaf)))) (.node 107 n107 (.node 102 n102 (.node 100 n100 (.node 99 n99 .leaf .leaf) (.node 101 n101 .leaf .leaf)) (.node 105 n105 (.node 104 n104 .leaf .leaf) (.node 106 n106 .leaf .leaf))) (.node 111 n111 (.node 109 n109 (.node 108 n108 .leaf .leaf) (.node 110 n110 .leaf .leaf)) (.node 113 n113 (.node 112 n112 .leaf .leaf) .leaf)))))
theorem d10_ok : CallSim Try.prog tys stl tab d10.fn := Disp.sim ⟨n81_ok, ⟨n55_ok, ⟨n37_ok, ⟨n19_ok, ⟨n17_ok, ⟨n12_ok, True.intro, True.intro⟩, ⟨n18_ok, True.intro, True.intro⟩⟩, ⟨n32_ok, ⟨n20_ok, True.intro, True.intro⟩, ⟨n36_ok, True.intro, True.intro⟩⟩⟩, ⟨n43_ok, ⟨n40_ok, ⟨n39_ok, True.intro, True.intro⟩, ⟨n41_ok, True.intro, True.intro⟩⟩, ⟨n53_ok, ⟨n44_ok, True.intro, True.intro⟩, ⟨n54_ok, True.intro, True.intro⟩⟩⟩⟩, ⟨n68_ok, ⟨n61_ok, ⟨n58_ok, ⟨n57_ok, True.intro, True.intro⟩, ⟨n59_ok, True.intro, True.intro⟩⟩, ⟨n66_ok, ⟨n65_ok, True.intro, True.intro⟩, ⟨n67_ok, True.intro, True.intro⟩⟩⟩, ⟨n74_ok, ⟨n72_ok, ⟨n71_ok, True.intro, True.intro⟩, ⟨n73_ok, True.intro, True.intro⟩⟩, ⟨n79_ok, ⟨n75_ok, True.intro, True.intro⟩, ⟨n80_ok, True.intro, True.intro⟩⟩⟩⟩⟩, ⟨n98_ok, ⟨n89_ok, ⟨n85_ok, ⟨n83_ok, ⟨n82_ok, True.intro, True.intro⟩, ⟨n84_ok, True.intro, True.intro⟩⟩, ⟨n87_ok, ⟨n86_ok, True.intro, True.intro⟩, ⟨n88_ok, True.intro, True.intro⟩⟩⟩, ⟨n94_ok, ⟨n92_ok, ⟨n90_ok, True.intro, True.intro⟩, ⟨n93_ok, True.intro, True.intro⟩⟩, ⟨n96_ok, ⟨n95_ok, True.intro, True.intro⟩, ⟨n97_ok, True.intro, True.intro⟩⟩⟩⟩, ⟨n107_ok, ⟨n102_ok, ⟨n100_ok, ⟨n99_ok, True.intro, True.intro⟩, ⟨n101_ok, True.intro, True.intro⟩⟩, ⟨n105_ok, ⟨n104_ok, True.intro, True.intro⟩, ⟨n106_ok, True.intro, True.intro⟩⟩⟩, ⟨n111_ok, ⟨n109_ok, ⟨n108_ok, True.intro, True.intro⟩, ⟨n110_ok, True.intro, True.intro⟩⟩, ⟨n113_ok, ⟨n112_ok, True.intro, True.intro⟩, True.intro⟩⟩⟩⟩⟩
/- foghorn/slice.bySquare -/
noncomputable def R70 (q_genW : Option CV → (W → Bool) → Bool) (q_condW : W → Bool → Bool → Bool) (q_tupW : W → (List W → Bool) → Bool) (q_nthW : Nat → List W → (W → Bool) → Bool) (q_loadAW : Nat → HW → W → (W → Bool) → Bool) (q_storeAW : Nat → HW → W → W → (HW → Bool) → Bool) (q_allocW : Trie W → Nat → Bool → HW → Nat → KW → Bool) (q_flatW : W → Bool → Bool) (fu : Nat) (call : CallW) (a0 : W) (a1 : W) (h0 : HW) (c0 : Nat) (K : KW) : Bool :=
q_allocW (allocT tys 38) 3 true h0 c0 fun v1 h2 c3 =>
call 80 [a1] h2 c3 fun v4 h5 c6 =>
q_condW v4 (
q_flatW ⟨8, 1, r0, []⟩ (
(fun (v7 : W) =>
q_storeAW 3 h5 v1 v7 fun h8 =>
q_loadAW 3 h8 v1 fun v9 =>
K v9 h8 c6) ⟨15, 0, r0, [⟨3, 0, r0, []⟩, ⟨12, 0, ⟨0, 0, 0, .cpx .f64 0 0⟩, []⟩, ⟨8, 1, r0, []⟩]⟩)) (
call 81 [a0] h5 c6 fun v10 h11 c12 =>
q_tupW v10 fun l13 => q_nthW 0 l13 fun v14 =>
q_tupW v10 fun l15 => q_nthW 1 l15 fun v16 =>
q_genW (two Try.prog (dec a1) fun v => Builtin.real_ #[32] 34 #[v]) fun v17 =>
call 82 [v17, v14] h11 c12 fun v18 h19 c20 =>
q_tupW v18 fun l21 => q_nthW 0 l21 fun v22 =>
q_tupW v18 fun l23 => q_nthW 1 l23 fun v24 =>
q_genW (two Try.prog (dec a1) fun v => Builtin.imag_ #[32] 34 #[v]) fun v25 =>
call 82 [v25, v14] h19 c20 fun v26 h27 c28 =>
q_tupW v26 fun l29 => q_nthW 0 l29 fun v30 =>
q_tupW v26 fun l31 => q_nthW 1 l31 fun v32 =>
q_genW (convC Try.prog tys ⟨[], 0, decH h27, 0⟩ 3 34 (dec v22)) fun v33 =>
q_genW (convC Try.prog tys ⟨[], 0, decH h27, 0⟩ 3 34 (dec v30)) fun v34 =>
q_genW (two2 Try.prog (dec v33) (dec v34) fun v u => Builtin.complex_ #[34, 34] 32 #[v, u]) fun v35 =>
call 83 [a0, v35] h27 c28 fun v36 h37 c38 =>
q_tupW v36 fun l39 => q_nthW 0 l39 fun v40 =>
q_tupW v36 fun l41 => q_nthW 1 l41 fun v42 =>
q_flatW v40 (
q_flatW v35 (
(fun (v43 : W) =>
q_storeAW 3 h37 v1 v43 fun h44 =>
q_loadAW 3 h44 v1 fun v45 =>
K v45 h44 c38) ⟨15, 0, r0, [v40, v35, ⟨8, 0, r0, []⟩]⟩)))
theorem R70_eq (Q : PrimW) (fu : Nat) (call : CallW) : curryA 2 (fnK Q Try.prog tys stl fu call e70) = R70 Q.genW Q.condW Q.tupW Q.nthW Q.loadAW Q.storeAW Q.allocW Q.flatW fu call := by kernel_rfl
noncomputable def n70 : List W → HW → Nat → KW → Bool := appF 2 (R70 genW condW tupW nthW loadAW storeAW allocW flatW 1000000 d10.fn)
theorem n70_ok : FnGood Try.prog tys stl tab 70 n70 := node_ok d10_ok (by kernel_rfl) rfl g70 (R70_eq real _ _)
noncomputable def d11 : Disp := (.node 80 n80 (.node 55 n55 (.node 37 n37 (.node 19 n19 (.node 17 n17 (.node 12 n12 .leaf .leaf) (.node 18 n18 .leaf .leaf)) (.node 32 n32 (.node 20 n20 .leaf .leaf) (.node 36 n36 .leaf .leaf))) (.node 43 n43 (.node 40 n40 (.node 39 n39 .leaf .leaf) (.node 41 n41 .leaf .leaf)) (.node 53 n53 (.node 44 n44 .leaf .leaf) (.node 54 n54 .leaf .leaf)))) (.node 68 n68 (.node 61 n61 (.node 58 n58 (.node 57 n57 .leaf .leaf) (.node 59 n59 .leaf .leaf)) (.node 66 n66 (.node 65 n65 .leaf .leaf) (.node 67 n67 .leaf .leaf))) (.node 73 n73 (.node 71 n71 (.node 70 n70 .leaf .leaf) (.node 72 n72 .leaf .leaf)) (.node 75 n75 (.node 74 n74 .leaf .leaf) (.node 79 n79 .leaf .leaf))))) (.node 97 n97 (.node 88 n88 (.node 84 n84 (.node 82 n82 (.node 81 n81 .leaf .leaf) (.node 83 n83 .leaf .leaf)) (.node 86 n86 (.node 85 n85 .leaf .leaf) (.node 87 n87 .leaf .leaf))) (.node 93 n93 (.node 90 n90 (.node 89 n89 .leaf .leaf) (.node 92 n92 .leaf .leaf)) (.node 95 n95 (.node 94 n94 .leaf .leaf) (.node 96 n96 .leaf .leaf)))) (.node 106 n106 (.node 101 n101 (.node 99 n99 (.node 98 n98 .leaf .leaf) (.node 100 n100 .leaf .leaf)) (.node 104 n104 (.node 102 n102 .leaf .leaf) (.node 105 n105 .leaf .leaf))) (.node 110 n110 (.node 108 n108 (.node 107 n107 .leaf .leaf) (.node 109 n109 .leaf .leaf)) (.node 112 n112 (.node 111 n111 .leaf .leaf) (.node 113 n113 .leaf .leaf))))))
theorem d11_ok : CallSim Try.prog tys stl tab d11.fn := Disp.sim ⟨n80_ok, ⟨n55_ok, ⟨n37_ok, ⟨n19_ok, ⟨n17_ok, ⟨n12_ok, True.intro, True.intro⟩, ⟨n18_ok, True.intro, True.intro⟩⟩, ⟨n32_ok, ⟨n20_ok, True.intro, True.intro⟩, ⟨n36_ok, True.intro, True.intro⟩⟩⟩, ⟨n43_ok, ⟨n40_ok, ⟨n39_ok, True.intro, True.intro⟩, ⟨n41_ok, True.intro, True.intro⟩⟩, ⟨n53_ok, ⟨n44_ok, True.intro, True.intro⟩, ⟨n54_ok, True.intro, True.intro⟩⟩⟩⟩, ⟨n68_ok, ⟨n61_ok, ⟨n58_ok, ⟨n57_ok, True.intro, True.intro⟩, ⟨n59_ok, True.intro, True.intro⟩⟩, ⟨n66_ok, ⟨n65_ok, True.intro, True.intro⟩, ⟨n67_ok, True.intro, True.intro⟩⟩⟩, ⟨n73_ok, ⟨n71_ok, ⟨n70_ok, True.intro, True.intro⟩, ⟨n72_ok, True.intro, True.intro⟩⟩, ⟨n75_ok, ⟨n74_ok, True.intro, True.intro⟩, ⟨n79_ok, True.intro, True.intro⟩⟩⟩⟩⟩, ⟨n97_ok, ⟨n88_ok, ⟨n84_ok, ⟨n82_ok, ⟨n81_ok, True.intro, True.intro⟩, ⟨n83_ok, True.intro, True.intro⟩⟩, ⟨n86_ok, ⟨n85_ok, True.intro, True.intro⟩, ⟨n87_ok, True.intro, True.intro⟩⟩⟩, ⟨n93_ok, ⟨n90_ok, ⟨n89_ok, True.intro, True.intro⟩, ⟨n92_ok, True.intro, True.intro⟩⟩, ⟨n95_ok, ⟨n94_ok, True.intro, True.intro⟩, ⟨n96_ok, True.intro, True.intro⟩⟩⟩⟩, ⟨n106_ok, ⟨n101_ok, ⟨n99_ok, ⟨n98_ok, True.intro, True.intro⟩, ⟨n100_ok, True.intro, True.intro⟩⟩, ⟨n104_ok, ⟨n102_ok, True.intro, True.intro⟩, ⟨n105_ok, True.intro, True.intro⟩⟩⟩, ⟨n110_ok, ⟨n108_ok, ⟨n107_ok, True.intro, True.intro⟩, ⟨n109_ok, True.intro, True.intro⟩⟩, ⟨n112_ok, ⟨n111_ok, True.intro, True.intro⟩, ⟨n113_ok, True.intro, True.intro⟩⟩⟩⟩⟩⟩
/- foghorn/slice.deciders$1$1 -/
noncomputable def R69 (q_loadSW : HW → W → (W → Bool) → Bool) (q_loadAW : Nat → HW → W → (W → Bool) → Bool) (q_storeAW : Nat → HW → W → W → (HW → Bool) → Bool) (q_allocW : Trie W → Nat → Bool → HW → Nat → KW → Bool) (fu : Nat) (call : CallW) (a0 : W) (a1 : W) (h0 : HW) (c0 : Nat) (K : KW) : Bool :=
q_allocW (allocT tys 38) 3 true h0 c0 fun v1 h2 c3 =>
q_loadSW h2 a1 fun v4 =>
call 70 [v4, a0] h2 c3 fun v5 h6 c7 =>
q_storeAW 3 h6 v1 v5 fun h8 =>
q_loadAW 3 h8 v1 fun v9 =>
K v9 h8 c7
theorem R69_eq (Q : PrimW) (fu : Nat) (call : CallW) : curryA 2 (fnK Q Try.prog tys stl fu call e69) = R69 Q.loadSW Q.loadAW Q.storeAW Q.allocW fu call := by kernel_rfl
noncomputable def n69 : List W → HW → Nat → KW → Bool := appF 2 (R69 loadSW loadAW storeAW allocW 1000000 d11.fn)
theorem n69_ok : FnGood Try.prog tys stl tab 69 n69 := node_ok d11_ok (by kernel_rfl) rfl g69 (R69_eq real _ _)
noncomputable def d12 : Disp := (.node 80 n80 (.node 57 n57 (.node 39 n39 (.node 20 n20 (.node 18 n18 (.node 17 n17 (.node 12 n12 .leaf .leaf) .leaf) (.node 19 n19 .leaf .leaf)) (.node 36 n36 (.node 32 n32 .leaf .leaf) (.node 37 n37 .leaf .leaf))) (.node 44 n44 (.node 41 n41 (.node 40 n40 .leaf .leaf) (.node 43 n43 .leaf .leaf)) (.node 54 n54 (.node 53 n53 .leaf .leaf) (.node 55 n55 .leaf .leaf)))) (.node 69 n69 (.node 65 n65 (.node 59 n59 (.node 58 n58 .leaf .leaf) (.node 61 n61 .leaf .leaf)) (.node 67 n67 (.node 66 n66 .leaf .leaf) (.node 68 n68 .leaf .leaf))) (.node 73 n73 (.node 71 n71 (.node 70 n70 .leaf .leaf) (.node 72 n72 .leaf .leaf)) (.node 75 n75 (.node 74 n74 .leaf .leaf) (.node 79 n79 .leaf .leaf))))) (.node 97 n97 (.node 88 n88 (.node 84 n84 (.node 82 n82 (.node 81 n81 .leaf .leaf) (.node 83 n83 .leaf .leaf)) (.node 86 n86 (.node 85 n85 .leaf .leaf) (.node 87 n87 .leaf .leaf))) (.node 93 n93 (.node 90 n90 (.node 89 n89 .leaf .leaf) (.node 92 n92 .leaf .leaf)) (.node 95 n95 (.node 94 n94 .leaf .leaf) (.node 96 n96 .leaf .leaf)))) (.node 106 n106 (.node 101 n101 (.node 99 n99 (.node 98 n98 .leaf .leaf) (.node 100 n100 .leaf .leaf)) (.node 104 n104 (.node 102 n102 .leaf .leaf) (.node 105 n105 .leaf .leaf))) (.node 110 n110 (.node 108 n108 (.node 107 n107 .leaf .leaf) (.node 109 n109 .leaf .leaf)) (.node 112 n112 (.node 111 n111 .leaf .leaf) (.node 113 n113 .leaf .leaf))))))
theorem d12_ok : CallSim Try.prog tys stl tab d12.fn := Disp.sim ⟨n80_ok, ⟨n57_ok, ⟨n39_ok, ⟨n20_ok, ⟨n18_ok, ⟨n17_ok, ⟨n12_ok, True.intro, True.intro⟩, True.intro⟩, ⟨n19_ok, True.intro, True.intro⟩⟩, ⟨n36_ok, ⟨n32_ok, True.intro, True.intro⟩, ⟨n37_ok, True.intro, True.intro⟩⟩⟩, ⟨n44_ok, ⟨n41_ok, ⟨n40_ok, True.intro, True.intro⟩, ⟨n43_ok, True.intro, True.intro⟩⟩, ⟨n54_ok, ⟨n53_ok, True.intro, True.intro⟩, ⟨n55_ok, True.intro, True.intro⟩⟩⟩⟩, ⟨n69_ok, ⟨n65_ok, ⟨n59_ok, ⟨n58_ok, True.intro, True.intro⟩, ⟨n61_ok, True.intro, True.intro⟩⟩, ⟨n67_ok, ⟨n66_ok, True.intro, True.intro⟩, ⟨n68_ok, True.intro, True.intro⟩⟩⟩, ⟨n73_ok, ⟨n71_ok, ⟨n70_ok, True.intro, True.intro⟩, ⟨n72_ok, True.intro, True.intro⟩⟩, ⟨n75_ok, ⟨n74_ok, True.intro, True.intro⟩, ⟨n79_ok, True.intro, True.intro⟩⟩⟩⟩⟩, ⟨n97_ok, ⟨n88_ok, ⟨n84_ok, ⟨n82_ok, ⟨n81_ok, True.intro, True.intro⟩, ⟨n83_ok, True.intro, True.intro⟩⟩, ⟨n86_ok, ⟨n85_ok, True.intro, True.intro⟩, ⟨n87_ok, True.intro, True.intro⟩⟩⟩, ⟨n93_ok, ⟨n90_ok, ⟨n89_ok, True.intro, True.intro⟩, ⟨n92_ok, True.intro, True.intro⟩⟩, ⟨n95_ok, ⟨n94_ok, True.intro, True.intro⟩, ⟨n96_ok, True.intro, True.intro⟩⟩⟩⟩, ⟨n106_ok, ⟨n101_ok, ⟨n99_ok, ⟨n98_ok, True.intro, True.intro⟩, ⟨n100_ok, True.intro, True.intro⟩⟩, ⟨n104_ok, ⟨n102_ok, True.intro, True.intro⟩, ⟨n105_ok, True.intro, True.intro⟩⟩⟩, ⟨n110_ok, ⟨n108_ok, ⟨n107_ok, True.intro, True.intro⟩, ⟨n109_ok, True.intro, True.intro⟩⟩, ⟨n112_ok, ⟨n111_ok, True.intro, True.intro⟩, ⟨n113_ok, True.intro, True.intro⟩⟩⟩⟩⟩⟩
/- foghorn/slice.deciders -/
noncomputable def R60 (q_onF : W → (FuncId → List W → Bool) → Bool) (q_newOW : CO → W → HW → Nat → KW → Bool) (q_updOW : Option (TypeDesc × Nat) → HW → Nat → W → W → W → KW → Bool) (fu : Nat) (call : CallW) (h0 : HW) (c0 : Nat) (K : KW) : Bool :=
q_newOW (.map [] 0) ⟨12, 0, ⟨0, 0, 0, .map c0⟩, []⟩ h0 c0 fun v1 h2 c3 =>
q_onF ⟨14, 68, r0, []⟩ fun g4 l5 => call g4 (appL [⟨3, 4, r0, []⟩] l5) h2 c3 fun v6 h7 c8 =>
q_updOW (mapTyC Try.prog 106) h7 c8 v1 ⟨3, 4, r0, []⟩ v6 fun v9 h10 c11 =>
q_onF ⟨14, 68, r0, []⟩ fun g12 l13 => call g12 (appL [⟨3, 16, r0, []⟩] l13) h10 c11 fun v14 h15 c16 =>
q_updOW (mapTyC Try.prog 106) h15 c16 v1 ⟨3, 16, r0, []⟩ v14 fun v17 h18 c19 =>
q_onF ⟨14, 71, r0, []⟩ fun g20 l21 => call g20 (appL [⟨3, 32, r0, []⟩] l21) h18 c19 fun v22 h23 c24 =>
q_updOW (mapTyC Try.prog 106) h23 c24 v1 ⟨3, 32, r0, []⟩ v22 fun v25 h26 c27 =>
q_onF ⟨14, 68, r0, []⟩ fun g28 l29 => call g28 (appL [⟨3, 64, r0, []⟩] l29) h26 c27 fun v30 h31 c32 =>
q_updOW (mapTyC Try.prog 106) h31 c32 v1 ⟨3, 64, r0, []⟩ v30 fun v33 h34 c35 =>
q_onF ⟨14, 71, r0, []⟩ fun g36 l37 => call g36 (appL [⟨3, 128, r0, []⟩] l37) h34 c35 fun v38 h39 c40 =>
q_updOW (mapTyC Try.prog 106) h39 c40 v1 ⟨3, 128, r0, []⟩ v38 fun v41 h42 c43 =>
q_onF ⟨14, 68, r0, []⟩ fun g44 l45 => call g44 (appL [⟨3, 256, r0, []⟩] l45) h42 c43 fun v46 h47 c48 =>
q_updOW (mapTyC Try.prog 106) h47 c48 v1 ⟨3, 256, r0, []⟩ v46 fun v49 h50 c51 =>
K v1 h50 c51
theorem R60_eq (Q : PrimW) (fu : Nat) (call : CallW) : curryA 0 (fnK Q Try.prog tys stl fu call e60) = R60 Q.onF Q.newOW Q.updOW fu call := by kernel_rfl
noncomputable def n60 : List W → HW → Nat → KW → Bool := appF 0 (R60 onF newOW updOW 1000000 d12.fn)
theorem n60_ok : FnGood Try.prog tys stl tab 60 n60 := node_ok d12_ok (by kernel_rfl) rfl g60 (R60_eq real _ _)
noncomputable def d13 : Disp := (.node 79 n79 (.node 57 n57 (.node 39 n39 (.node 20 n20 (.node 18 n18 (.node 17 n17 (.node 12 n12 .leaf .leaf) .leaf) (.node 19 n19 .leaf .leaf)) (.node 36 n36 (.node 32 n32 .leaf .leaf) (.node 37 n37 .leaf .leaf))) (.node 44 n44 (.node 41 n41 (.node 40 n40 .leaf .leaf) (.node 43 n43 .leaf .leaf)) (.node 54 n54 (.node 53 n53 .leaf .leaf) (.node 55 n55 .leaf .leaf)))) (.node 68 n68 (.node 61 n61 (.node 59 n59 (.node 58 n58 .leaf .leaf) (.node 60 n60 .leaf .leaf)) (.node 66 n66 (.node 65 n65 .leaf .leaf) (.node 67 n67 .leaf .leaf))) (.node 72 n72 (.node 70 n70 (.node 69 n69 .leaf .leaf) (.node 71 n71 .leaf .leaf)) (.node 74 n74 (.node 73 n73 .leaf .leaf) (.node 75 n75 .leaf .leaf))))) (.node 97 n97 (.node 88 n88 (.node 84 n84 (.node 82 n82 (.node 81 n81 (.node 80 n80 .leaf .leaf) .leaf) (.node 83 n83 .leaf .leaf)) (.node 86 n86 (.node 85 n85 .leaf .leaf) (.node 87 n87 .leaf .leaf))) (.node 93 n93 (.node 90 n90 (.node 89 n89 .leaf .leaf) (.node 92 n92 .leaf .leaf)) (.node 95 n95 (.node 94 n94 .leaf .leaf) (.node 96 n96 .leaf .leaf)))) (.node 106 n106 (.node 101 n101 (.node 99 n99 (.node 98 n98 .leaf .leaf) (.node 100 n100 .leaf .leaf)) (.node 104 n104 (.node 102 n102 .leaf .leaf) (.node 105 n105 .leaf .leaf))) (.node 110 n110 (.node 108 n108 (.node 107 n107 .leaf .leaf) (.node 109 n109 .leaf .leaf)) (.node 112 n112 (.node 111 n111 .leaf .leaf) (.node 113 n113 .leaf .leaf))))))
theorem d13_ok : CallSim Try.prog tys stl tab d13.fn := Disp.sim ⟨n79_ok, ⟨n57_ok, ⟨n39_ok, ⟨n20_ok, ⟨n18_ok, ⟨n17_ok, ⟨n12_ok, True.intro, True.intro⟩, True.intro⟩, ⟨n19_ok, True.intro, True.intro⟩⟩, ⟨n36_ok, ⟨n32_ok, True.intro, True.intro⟩, ⟨n37_ok, True.intro, True.intro⟩⟩⟩, ⟨n44_ok, ⟨n41_ok, ⟨n40_ok, True.intro, True.intro⟩, ⟨n43_ok, True.intro, True.intro⟩⟩, ⟨n54_ok, ⟨n53_ok, True.intro, True.intro⟩, ⟨n55_ok, True.intro, True.intro⟩⟩⟩⟩, ⟨n68_ok, ⟨n61_ok, ⟨n59_ok, ⟨n58_ok, True.intro, True.intro⟩, ⟨n60_ok, True.intro, True.intro⟩⟩, ⟨n66_ok, ⟨n65_ok, True.intro, True.intro⟩, ⟨n67_ok, True.intro, True.intro⟩⟩⟩, ⟨n72_ok, ⟨n70_ok, ⟨n69_ok, True.intro, True.intro⟩, ⟨n71_ok, True.intro, True.intro⟩⟩, ⟨n74_ok, ⟨n73_ok, True.intro, True.intro⟩, ⟨n75_ok, True.intro, True.intro⟩⟩⟩⟩⟩, ⟨n97_ok, ⟨n88_ok, ⟨n84_ok, ⟨n82_ok, ⟨n81_ok, ⟨n80_ok, True.intro, True.intro⟩, True.intro⟩, ⟨n83_ok, True.intro, True.intro⟩⟩, ⟨n86_ok, ⟨n85_ok, True.intro, True.intro⟩, ⟨n87_ok, True.intro, True.intro⟩⟩⟩, ⟨n93_ok, ⟨n90_ok, ⟨n89_ok, True.intro, True.intro⟩, ⟨n92_ok, True.intro, True.intro⟩⟩, ⟨n95_ok, ⟨n94_ok, True.intro, True.intro⟩, ⟨n96_ok, True.intro, True.intro⟩⟩⟩⟩, ⟨n106_ok, ⟨n101_ok, ⟨n99_ok, ⟨n98_ok, True.intro, True.intro⟩, ⟨n100_ok, True.intro, True.intro⟩⟩, ⟨n104_ok, ⟨n102_ok, True.intro, True.intro⟩, ⟨n105_ok, True.intro, True.intro⟩⟩⟩, ⟨n110_ok, ⟨n108_ok, ⟨n107_ok, True.intro, True.intro⟩, ⟨n109_ok, True.intro, True.intro⟩⟩, ⟨n112_ok, ⟨n111_ok, True.intro, True.intro⟩, ⟨n113_ok, True.intro, True.intro⟩⟩⟩⟩⟩⟩
/- foghorn/slice.Decide -/
noncomputable def R42 (q_genW : Option CV → (W → Bool) → Bool) (q_notW : Option CV → W → (W → Bool) → Bool) (q_condW : W → Bool → Bool → Bool) (q_tupW : W → (List W → Bool) → Bool) (q_nthW : Nat → List W → (W → Bool) → Bool) (q_onF : W → (FuncId → List W → Bool) → Bool) (q_loadAW : Nat → HW → W → (W → Bool) → Bool) (q_storeAW : Nat → HW → W → W → (HW → Bool) → Bool) (q_allocW : Trie W → Nat → Bool → HW → Nat → KW → Bool) (fu : Nat) (call : CallW) (a0 : W) (a1 : W) (h0 : HW) (c0 : Nat) (K : KW) : Bool :=
q_allocW (allocT tys 38) 3 true h0 c0 fun v1 h2 c3 =>
call 60 [] h2 c3 fun v4 h5 c6 =>
q_genW (lookupC Try.prog tys ⟨[], 0, decH h5, 0⟩ 106 (dec v4) (dec a0) true) fun v7 =>
q_tupW v7 fun l8 => q_nthW 0 l8 fun v9 =>
q_tupW v7 fun l10 => q_nthW 1 l10 fun v11 =>
q_notW (two Try.prog (dec v11) (Op.unary .not)) v11 fun v12 =>
q_condW v12 (
(fun (v13 : W) =>
q_storeAW 3 h5 v1 v13 fun h14 =>
q_loadAW 3 h14 v1 fun v15 =>
K ⟨13, 0, r0, [v15, ⟨3, 1, r0, []⟩]⟩ h14 c6) ⟨15, 0, r0, [⟨3, 0, r0, []⟩, ⟨12, 0, ⟨0, 0, 0, .cpx .f64 0 0⟩, []⟩, ⟨8, 0, r0, []⟩]⟩) (
q_onF v9 fun g16 l17 => call g16 (appL [a1] l17) h5 c6 fun v18 h19 c20 =>
q_storeAW 3 h19 v1 v18 fun h21 =>
q_loadAW 3 h21 v1 fun v22 =>
K ⟨13, 0, r0, [v22, ⟨3, 0, r0, []⟩]⟩ h21 c20)
theorem R42_eq (Q : PrimW) (fu : Nat) (call : CallW) : curryA 2 (fnK Q Try.prog tys stl fu call e42) = R42 Q.genW Q.notW Q.condW Q.tupW Q.nthW Q.onF Q.loadAW Q.storeAW Q.allocW fu call := by kernel_rfl
noncomputable def n42 : List W → HW → Nat → KW → Bool := appF 2 (R42 genW notW condW tupW nthW onF loadAW storeAW allocW 1000000 d13.fn)
theorem n42_ok : FnGood Try.prog tys stl tab 42 n42 := node_ok d13_ok (by kernel_rfl) rfl g42 (R42_eq real _ _)
noncomputable def d14 : Disp := (.node 79 n79 (.node 55 n55 (.node 39 n39 (.node 20 n20 (.node 18 n18 (.node 17 n17 (.node 12 n12 .leaf .leaf) .leaf) (.node 19 n19 .leaf .leaf)) (.node 36 n36 (.node 32 n32 .leaf .leaf) (.node 37 n37 .leaf .leaf))) (.node 43 n43 (.node 41 n41 (.node 40 n40 .leaf .leaf) (.node 42 n42 .leaf .leaf)) (.node 53 n53 (.node 44 n44 .leaf .leaf) (.node 54 n54 .leaf .leaf)))) (.node 68 n68 (.node 61 n61 (.node 59 n59 (.node 58 n58 (.node 57 n57 .leaf .leaf) .leaf) (.node 60 n60 .leaf .leaf)) (.node 66 n66 (.node 65 n65 .leaf .leaf) (.node 67 n67 .leaf .leaf))) (.node 72 n72 (.node 70 n70 (.node 69 n69 .leaf .leaf) (.node 71 n71 .leaf .leaf)) (.node 74 n74 (.node 73 n73 .leaf .leaf) (.node 75 n75 .leaf .leaf))))) (.node 97 n97 (.node 88 n88 (.node 84 n84 (.node 82 n82 (.node 81 n81 (.node 80 n80 .leaf .leaf) .leaf) (.node 83 n83 .leaf .leaf)) (.node 86 n86 (.node 85 n85 .leaf .leaf) (.node 87 n87 .leaf .leaf))) (.node 93 n93 (.node 90 n90 (.node 89 n89 .leaf .leaf) (.node 92 n92 .leaf .leaf)) (.node 95 n95 (.node 94 n94 .leaf .leaf) (.node 96 n96 .leaf .leaf)))) (.node 106 n106 (.node 101 n101 (.node 99 n99 (.node 98 n98 .leaf .leaf) (.node 100 n100 .leaf .leaf)) (.node 104 n104 (.node 102 n102 .leaf .leaf) (.node 105 n105 .leaf .leaf))) (.node 110 n110 (.node 108 n108 (.node 107 n107 .leaf .leaf) (.node 109 n109 .leaf .leaf)) (.node 112 n112 (.node 111 n111 .leaf .leaf) (.node 113 n113 .leaf .leaf))))))
theorem d14_ok : CallSim Try.prog tys stl tab d14.fn := Disp.sim ⟨n79_ok, ⟨n55_ok, ⟨n39_ok, ⟨n20_ok, ⟨n18_ok, ⟨n17_ok, ⟨n12_ok, True.intro, True.intro⟩, True.intro⟩, ⟨n19_ok, True.intro, True.intro⟩⟩, ⟨n36_ok, ⟨n32_ok, True.intro, True.intro⟩, ⟨n37_ok, True.intro, True.intro⟩⟩⟩, ⟨n43_ok, ⟨n41_ok, ⟨n40_ok, True.intro, True.intro⟩, ⟨n42_ok, True.intro, True.intro⟩⟩, ⟨n53_ok, ⟨n44_ok, True.intro, True.intro⟩, ⟨n54_ok, True.intro, True.intro⟩⟩⟩⟩, ⟨n68_ok, ⟨n61_ok, ⟨n59_ok, ⟨n58_ok, ⟨n57_ok, True.intro, True.intro⟩, True.intro⟩, ⟨n60_ok, True.intro, True.intro⟩⟩, ⟨n66_ok, ⟨n65_ok, True.intro, True.intro⟩, ⟨n67_ok, True.intro, True.intro⟩⟩⟩, ⟨n72_ok, ⟨n70_ok, ⟨n69_ok, True.intro, True.intro⟩, ⟨n71_ok, True.intro, True.intro⟩⟩, ⟨n74_ok, ⟨n73_ok, True.intro, True.intro⟩, ⟨n75_ok, True.intro, True.intro⟩⟩⟩⟩⟩, ⟨n97_ok, ⟨n88_ok, ⟨n84_ok, ⟨n82_ok, ⟨n81_ok, ⟨n80_ok, True.intro, True.intro⟩, True.intro⟩, ⟨n83_ok, True.intro, True.intro⟩⟩, ⟨n86_ok, ⟨n85_ok, True.intro, True.intro⟩, ⟨n87_ok, True.intro, True.intro⟩⟩⟩, ⟨n93_ok, ⟨n90_ok, ⟨n89_ok, True.intro, True.intro⟩, ⟨n92_ok, True.intro, True.intro⟩⟩, ⟨n95_ok, ⟨n94_ok, True.intro, True.intro⟩, ⟨n96_ok, True.intro, True.intro⟩⟩⟩⟩, ⟨n106_ok, ⟨n101_ok, ⟨n99_ok, ⟨n98_ok, True.intro, True.intro⟩, ⟨n100_ok, True.intro, True.intro⟩⟩, ⟨n104_ok, ⟨n102_ok, True.intro, True.intro⟩, ⟨n105_ok, True.intro, True.intro⟩⟩⟩, ⟨n110_ok, ⟨n108_ok, ⟨n107_ok, True.intro, True.intro⟩, ⟨n109_ok, True.intro, True.intro⟩⟩, ⟨n112_ok, ⟨n111_ok, True.intro, True.intro⟩, ⟨n113_ok, True.intro, True.intro⟩⟩⟩⟩⟩⟩
/- (*foghorn/feedback.Loop).Step -/
noncomputable def R16 (q_share : (α : Type) → α → (α → Bool) → Bool) (q_genW : Option CV → (W → Bool) → Bool) (q_addW : Nat → Nat → Option CV → W → W → (W → Bool) → Bool) (q_remW : Nat → Nat → Option CV → W → W → (W → Bool) → Bool) (q_cmpW : (Nat → Nat → Bool) → Nat → Option CV → W → W → (W → Bool) → Bool) (q_condW : W → Bool → Bool → Bool) (q_guardW : Bool → W → Bool → Bool → Bool) (q_pickW : W → W → W → (W → Bool) → Bool) (q_nilcW : W → (W → Bool) → Bool) (q_fadW : Nat → W → (W → Bool) → Bool) (q_idxAW : Nat → Nat → W → W → (W → Bool) → Bool) (q_tupW : W → (List W → Bool) → Bool) (q_nthW : Nat → List W → (W → Bool) → Bool) (q_killVW : W → HW → (HW → Bool) → Bool) (q_loadSW : HW → W → (W → Bool) → Bool) (q_loadAW : Nat → HW → W → (W → Bool) → Bool) (q_storeSW : HW → W → W → (HW → Bool) → Bool) (q_storeAW : Nat → HW → W → W → (HW → Bool) → Bool) (q_allocW : Trie W → Nat → Bool → HW → Nat → KW → Bool) (q_boxW : HW → Nat → W → KW → Bool) (q_buildSW : Nat → Nat → Kind → Nat → Bool → HW → Nat → Nat → List W → KW → Bool) (q_flatW : W → Bool → Bool) (fu : Nat) (call : CallW) (a0 : W) (a1 : W) (h0 : HW) (c0 : Nat) (K : KW) : Bool :=
q_boxW h0 c0 a1 fun v1 h2 c3 =>
q_allocW (allocT tys 38) 3 true h2 c3 fun v4 h5 c6 =>
q_genW (binC Try.prog .eql 36 (.tmp 11) (.const (.pointer none)) (dec a0) (dec ⟨12, 0, ⟨0, 0, 0, .nilp⟩, []⟩)) fun v7 =>
q_condW v7 (
(fun (v8 : W) =>
q_storeAW 3 h5 v4 v8 fun h9 =>
q_loadAW 3 h9 v4 fun v10 =>
q_killVW v1 h9 fun h11 =>
q_killVW wUnd h11 fun h12 =>
K ⟨13, 0, r0, [v10, ⟨3, 2, r0, []⟩]⟩ h12 c6) ⟨15, 0, r0, [⟨3, 0, r0, []⟩, ⟨12, 0, ⟨0, 0, 0, .cpx .f64 0 0⟩, []⟩, ⟨8, 0, r0, []⟩]⟩) (
q_loadAW 2 h5 v1 fun v13 =>
q_buildSW 2 9 .avs 2 true h5 c6 1 [v13] fun v14 h15 c16 =>
call 40 [v14] h15 c16 fun v17 h18 c19 =>
q_tupW v17 fun l20 => q_nthW 0 l20 fun v21 =>
q_tupW v17 fun l22 => q_nthW 1 l22 fun v23 =>
q_cmpW (cmpF2 .neq) 3 (binC Try.prog .neq 27 (.tmp 20) (.const (.int .i64 (.ofNat 0))) (dec v23) (dec ⟨3, 0, r0, []⟩)) v23 ⟨3, 0, r0, []⟩ fun v24 =>
q_condW v24 (
(fun (v25 : W) =>
q_storeAW 3 h18 v4 v25 fun h26 =>
q_loadAW 3 h26 v4 fun v27 =>
q_killVW v1 h26 fun h28 =>
q_killVW wUnd h28 fun h29 =>
K ⟨13, 0, r0, [v27, v23]⟩ h29 c19) ⟨15, 0, r0, [⟨3, 0, r0, []⟩, ⟨12, 0, ⟨0, 0, 0, .cpx .f64 0 0⟩, []⟩, ⟨8, 0, r0, []⟩]⟩) (
q_nilcW a0 fun v30 =>
q_fadW 71 v30 fun v31 =>
q_loadSW h18 v31 fun v32 =>
q_share _ (fun (v34 : W) (h35 : HW) (c36 : Nat) =>
q_share _ (fun (v38 : W) (h39 : HW) (c40 : Nat) =>
q_pickW v32 ⟨8, 1, r0, []⟩ v38 fun v41 =>
q_condW v41 (
q_nilcW a0 fun v42 =>
q_fadW 71 v42 fun v43 =>
q_storeSW h39 v43 ⟨8, 1, r0, []⟩ fun h44 =>
q_flatW ⟨8, 1, r0, []⟩ (
(fun (v45 : W) =>
q_storeAW 3 h44 v4 v45 fun h46 =>
q_loadAW 3 h46 v4 fun v47 =>
q_killVW v1 h46 fun h48 =>
q_killVW wUnd h48 fun h49 =>
K ⟨13, 0, r0, [v47, ⟨3, 0, r0, []⟩]⟩ h49 c40) ⟨15, 0, r0, [⟨3, 0, r0, []⟩, ⟨12, 0, ⟨0, 0, 0, .cpx .f64 0 0⟩, []⟩, ⟨8, 1, r0, []⟩]⟩)) (
q_fadW 0 v1 fun v50 =>
q_loadSW h39 v50 fun v51 =>
call 41 [a0, v51] h39 c40 fun v52 h53 c54 =>
q_nilcW a0 fun v55 =>
q_fadW 0 v55 fun v56 =>
q_loadSW h53 v56 fun v57 =>
call 42 [v57, v52] h53 c54 fun v58 h59 c60 =>
q_tupW v58 fun l61 => q_nthW 0 l61 fun v62 =>
q_tupW v58 fun l63 => q_nthW 1 l63 fun v64 =>
q_allocW (allocT tys 38) 3 true h59 c60 fun v65 h66 c67 =>
q_storeAW 3 h66 v65 v62 fun h68 =>
q_cmpW (cmpF2 .neq) 3 (binC Try.prog .neq 27 (.tmp 49) (.const (.int .i64 (.ofNat 0))) (dec v64) (dec ⟨3, 0, r0, []⟩)) v64 ⟨3, 0, r0, []⟩ fun v69 =>
q_condW v69 (
(fun (v70 : W) =>
q_storeAW 3 h68 v4 v70 fun h71 =>
q_loadAW 3 h71 v4 fun v72 =>
q_killVW v1 h71 fun h73 =>
q_killVW v65 h73 fun h74 =>
K ⟨13, 0, r0, [v72, v64]⟩ h74 c67) ⟨15, 0, r0, [⟨3, 0, r0, []⟩, ⟨12, 0, ⟨0, 0, 0, .cpx .f64 0 0⟩, []⟩, ⟨8, 0, r0, []⟩]⟩) (
q_nilcW a0 fun v75 =>
q_fadW 69 v75 fun v76 =>
q_storeSW h68 v76 v52 fun h77 =>
q_nilcW a0 fun v78 =>
q_fadW 70 v78 fun v79 =>
q_storeSW h77 v79 ⟨8, 1, r0, []⟩ fun h80 =>
q_nilcW a0 fun v81 =>
q_fadW 68 v81 fun v82 =>
q_loadSW h80 v82 fun v83 =>
q_fadW 1 v65 fun v84 =>
q_loadSW h80 v84 fun v85 =>
q_nilcW a0 fun v86 =>
q_fadW 4 v86 fun v87 =>
q_idxAW 1 64 v87 v83 fun v88 =>
q_storeSW h80 v88 v85 fun h89 =>
q_nilcW a0 fun v90 =>
q_fadW 68 v90 fun v91 =>
q_loadSW h89 v91 fun v92 =>
q_addW 3 9223372036854775807 (binC Try.prog .add 3 (.tmp 74) (.const (.int .i64 (.ofNat 1))) (dec v92) (dec ⟨3, 1, r0, []⟩)) v92 ⟨3, 1, r0, []⟩ fun v93 =>
q_remW 3 9223372036854775807 (binC Try.prog .rem 3 (.tmp 75) (.const (.int .i64 (.ofNat 64))) (dec v93) (dec ⟨3, 64, r0, []⟩)) v93 ⟨3, 64, r0, []⟩ fun v94 =>
q_nilcW a0 fun v95 =>
q_fadW 68 v95 fun v96 =>
q_storeSW h89 v96 v94 fun h97 =>
q_loadAW 3 h97 v65 fun v98 =>
q_storeAW 3 h97 v4 v98 fun h99 =>
q_loadAW 3 h99 v4 fun v100 =>
q_killVW v1 h99 fun h101 =>
q_killVW v65 h101 fun h102 =>
K ⟨13, 0, r0, [v100, ⟨3, 0, r0, []⟩]⟩ h102 c67))) fun f37 =>
q_guardW false v32 (q_loadSW h35 v34 fun v103 =>
f37 v103 h35 c36) (f37 wUnd h35 c36)) fun f33 =>
q_guardW false v32 (q_fadW 1 v1 fun v104 =>
f33 v104 h18 c19) (f33 wUnd h18 c19)))
theorem R16_eq (Q : PrimW) (fu : Nat) (call : CallW) : curryA 2 (fnK Q Try.prog tys stl fu call e16) = R16 Q.share Q.genW Q.addW Q.remW Q.cmpW Q.condW Q.guardW Q.pickW Q.nilcW Q.fadW Q.idxAW Q.tupW Q.nthW Q.killVW Q.loadSW Q.loadAW Q.storeSW Q.storeAW Q.allocW Q.boxW Q.buildSW Q.flatW fu call := by kernel_rfl
noncomputable def n16 : List W → HW → Nat → KW → Bool := appF 2 (R16 (fun _ x f => f x) genW addW remW cmpW condW guardW pickW nilcW fadW idxAW tupW nthW killVW loadSW loadAW storeSW storeAW allocW boxW buildSW flatW 1000000 d14.fn)
theorem n16_ok : FnGood Try.prog tys stl tab 16 n16 := node_ok d14_ok (by kernel_rfl) rfl g16 (R16_eq real _ _)
noncomputable def d15 : Disp := (.node 75 n75 (.node 54 n54 (.node 37 n37 (.node 19 n19 (.node 17 n17 (.node 16 n16 (.node 12 n12 .leaf .leaf) .leaf) (.node 18 n18 .leaf .leaf)) (.node 32 n32 (.node 20 n20 .leaf .leaf) (.node 36 n36 .leaf .leaf))) (.node 42 n42 (.node 40 n40 (.node 39 n39 .leaf .leaf) (.node 41 n41 .leaf .leaf)) (.node 44 n44 (.node 43 n43 .leaf .leaf) (.node 53 n53 .leaf .leaf)))) (.node 67 n67 (.node 60 n60 (.node 58 n58 (.node 57 n57 (.node 55 n55 .leaf .leaf) .leaf) (.node 59 n59 .leaf .leaf)) (.node 65 n65 (.node 61 n61 .leaf .leaf) (.node 66 n66 .leaf .leaf))) (.node 71 n71 (.node 69 n69 (.node 68 n68 .leaf .leaf) (.node 70 n70 .leaf .leaf)) (.node 73 n73 (.node 72 n72 .leaf .leaf) (.node 74 n74 .leaf .leaf))))) (.node 96 n96 (.node 87 n87 (.node 83 n83 (.node 81 n81 (.node 80 n80 (.node 79 n79 .leaf .leaf) .leaf) (.node 82 n82 .leaf .leaf)) (.node 85 n85 (.node 84 n84 .leaf .leaf) (.node 86 n86 .leaf .leaf))) (.node 92 n92 (.node 89 n89 (.node 88 n88 .leaf .leaf) (.node 90 n90 .leaf .leaf)) (.node 94 n94 (.node 93 n93 .leaf .leaf) (.node 95 n95 .leaf .leaf)))) (.node 106 n106 (.node 101 n101 (.node 99 n99 (.node 98 n98 (.node 97 n97 .leaf .leaf) .leaf) (.node 100 n100 .leaf .leaf)) (.node 104 n104 (.node 102 n102 .leaf .leaf) (.node 105 n105 .leaf .leaf))) (.node 110 n110 (.node 108 n108 (.node 107 n107 .leaf .leaf) (.node 109 n109 .leaf .leaf)) (.node 112 n112 (.node 111 n111 .leaf .leaf) (.node 113 n113 .leaf .leaf))))))
theorem d15_ok : CallSim Try.prog tys stl tab d15.fn := Disp.sim ⟨n75_ok, ⟨n54_ok, ⟨n37_ok, ⟨n19_ok, ⟨n17_ok, ⟨n16_ok, ⟨n12_ok, True.intro, True.intro⟩, True.intro⟩, ⟨n18_ok, True.intro, True.intro⟩⟩, ⟨n32_ok, ⟨n20_ok, True.intro, True.intro⟩, ⟨n36_ok, True.intro, True.intro⟩⟩⟩, ⟨n42_ok, ⟨n40_ok, ⟨n39_ok, True.intro, True.intro⟩, ⟨n41_ok, True.intro, True.intro⟩⟩, ⟨n44_ok, ⟨n43_ok, True.intro, True.intro⟩, ⟨n53_ok, True.intro, True.intro⟩⟩⟩⟩, ⟨n67_ok, ⟨n60_ok, ⟨n58_ok, ⟨n57_ok, ⟨n55_ok, True.intro, True.intro⟩, True.intro⟩, ⟨n59_ok, True.intro, True.intro⟩⟩, ⟨n65_ok, ⟨n61_ok, True.intro, True.intro⟩, ⟨n66_ok, True.intro, True.intro⟩⟩⟩, ⟨n71_ok, ⟨n69_ok, ⟨n68_ok, True.intro, True.intro⟩, ⟨n70_ok, True.intro, True.intro⟩⟩, ⟨n73_ok, ⟨n72_ok, True.intro, True.intro⟩, ⟨n74_ok, True.intro, True.intro⟩⟩⟩⟩⟩, ⟨n96_ok, ⟨n87_ok, ⟨n83_ok, ⟨n81_ok, ⟨n80_ok, ⟨n79_ok, True.intro, True.intro⟩, True.intro⟩, ⟨n82_ok, True.intro, True.intro⟩⟩, ⟨n85_ok, ⟨n84_ok, True.intro, True.intro⟩, ⟨n86_ok, True.intro, True.intro⟩⟩⟩, ⟨n92_ok, ⟨n89_ok, ⟨n88_ok, True.intro, True.intro⟩, ⟨n90_ok, True.intro, True.intro⟩⟩, ⟨n94_ok, ⟨n93_ok, True.intro, True.intro⟩, ⟨n95_ok, True.intro, True.intro⟩⟩⟩⟩, ⟨n106_ok, ⟨n101_ok, ⟨n99_ok, ⟨n98_ok, ⟨n97_ok, True.intro, True.intro⟩, True.intro⟩, ⟨n100_ok, True.intro, True.intro⟩⟩, ⟨n104_ok, ⟨n102_ok, True.intro, True.intro⟩, ⟨n105_ok, True.intro, True.intro⟩⟩⟩, ⟨n110_ok, ⟨n108_ok, ⟨n107_ok, True.intro, True.intro⟩, ⟨n109_ok, True.intro, True.intro⟩⟩, ⟨n112_ok, ⟨n111_ok, True.intro, True.intro⟩, ⟨n113_ok, True.intro, True.intro⟩⟩⟩⟩⟩⟩
/- foghorn/foghornlaw11.FeedbackNames -/
noncomputable def R4 (q_share : (α : Type) → α → (α → Bool) → Bool) (q_genW : Option CV → (W → Bool) → Bool) (q_cmpW : (Nat → Nat → Bool) → Nat → Option CV → W → W → (W → Bool) → Bool) (q_notW : Option CV → W → (W → Bool) → Bool) (q_condW : W → Bool → Bool → Bool) (q_guardW : Bool → W → Bool → Bool → Bool) (q_pickW : W → W → W → (W → Bool) → Bool) (q_tupW : W → (List W → Bool) → Bool) (q_nthW : Nat → List W → (W → Bool) → Bool) (q_killVW : W → HW → (HW → Bool) → Bool) (q_loadAW : Nat → HW → W → (W → Bool) → Bool) (q_storeAW : Nat → HW → W → W → (HW → Bool) → Bool) (q_allocW : Trie W → Nat → Bool → HW → Nat → KW → Bool) (q_buildSW : Nat → Nat → Kind → Nat → Bool → HW → Nat → Nat → List W → KW → Bool) (q_flatW : W → Bool → Bool) (fu : Nat) (call : CallW) (h0 : HW) (c0 : Nat) (K : KW) : Bool :=
(fun (v1 : W) =>
call 16 [⟨12, 0, ⟨0, 0, 0, .nilp⟩, []⟩, v1] h0 c0 fun v2 h3 c4 =>
q_tupW v2 fun l5 => q_nthW 0 l5 fun v6 =>
q_tupW v2 fun l7 => q_nthW 1 l7 fun v8 =>
q_allocW (allocT tys 38) 3 true h3 c4 fun v9 h10 c11 =>
q_storeAW 3 h10 v9 v6 fun h12 =>
call 17 [⟨12, 0, ⟨0, 0, 0, .nilp⟩, []⟩] h12 c11 fun v13 h14 c15 =>
q_tupW v13 fun l16 => q_nthW 0 l16 fun v17 =>
q_tupW v13 fun l18 => q_nthW 1 l18 fun v19 =>
q_buildSW 1 99 (.cpxs .f64) 1 true h14 c15 1 [⟨12, 0, ⟨0, 0, 0, .cpx .f64 4607182418800017408 0⟩, []⟩] fun v20 h21 c22 =>
call 18 [⟨3, 4, r0, []⟩, v20] h21 c22 fun v23 h24 c25 =>
q_tupW v23 fun l26 => q_nthW 0 l26 fun v27 =>
q_tupW v23 fun l28 => q_nthW 1 l28 fun v29 =>
q_cmpW (cmpF2 .neq) 3 (binC Try.prog .neq 27 (.tmp 28) (.const (.int .i64 (.ofNat 0))) (dec v29) (dec ⟨3, 0, r0, []⟩)) v29 ⟨3, 0, r0, []⟩ fun v30 =>
q_share _ (fun (v32 : W) (h33 : HW) (c34 : Nat) =>
q_share _ (fun (v36 : W) (h37 : HW) (c38 : Nat) =>
q_pickW v30 ⟨8, 1, r0, []⟩ v36 fun v39 =>
q_condW v39 (
q_killVW v9 h37 fun h40 =>
q_killVW wUnd h40 fun h41 =>
K ⟨8, 0, r0, []⟩ h41 c38) (
call 17 [v27] h37 c38 fun v42 h43 c44 =>
q_tupW v42 fun l45 => q_nthW 0 l45 fun v46 =>
q_tupW v42 fun l47 => q_nthW 1 l47 fun v48 =>
q_flatW ⟨12, 0, ⟨0, 0, 0, .cpx .f64 4607182418800017408 0⟩, []⟩ (
q_flatW ⟨8, 1, r0, []⟩ (
(fun (v49 : W) =>
call 16 [v27, v49] h43 c44 fun v50 h51 c52 =>
q_tupW v50 fun l53 => q_nthW 0 l53 fun v54 =>
q_tupW v50 fun l55 => q_nthW 1 l55 fun v56 =>
q_allocW (allocT tys 38) 3 true h51 c52 fun v57 h58 c59 =>
q_storeAW 3 h58 v57 v54 fun h60 =>
q_loadAW 3 h60 v9 fun v61 =>
(fun (v62 : W) =>
q_genW (binC Try.prog .eql 38 (.tmp 45) (.tmp 46) (dec v61) (dec v62)) fun v63 =>
q_share _ (fun (v65 : W) (h66 : HW) (c67 : Nat) =>
q_share _ (fun (v69 : W) (h70 : HW) (c71 : Nat) =>
q_pickW v63 v69 ⟨8, 0, r0, []⟩ fun v72 =>
q_share _ (fun (v74 : W) (h75 : HW) (c76 : Nat) =>
q_share _ (fun (v78 : W) (h79 : HW) (c80 : Nat) =>
q_pickW v72 v78 ⟨8, 0, r0, []⟩ fun v81 =>
q_share _ (fun (v83 : W) (h84 : HW) (c85 : Nat) =>
q_share _ (fun (v87 : W) (h88 : HW) (c89 : Nat) =>
q_pickW v81 v87 ⟨8, 0, r0, []⟩ fun v90 =>
q_share _ (fun (v92 : W) (h93 : HW) (c94 : Nat) =>
q_share _ (fun (v96 : W) (h97 : HW) (c98 : Nat) =>
q_share _ (fun (v100 : W) (h101 : HW) (c102 : Nat) =>
q_pickW v90 v100 ⟨8, 0, r0, []⟩ fun v103 =>
q_share _ (fun (v105 : W) (h106 : HW) (c107 : Nat) =>
q_share _ (fun (v109 : W) (h110 : HW) (c111 : Nat) =>
q_share _ (fun (v113 : W) (h114 : HW) (c115 : Nat) =>
q_pickW v103 v113 ⟨8, 0, r0, []⟩ fun v116 =>
q_share _ (fun (v118 : W) (h119 : HW) (c120 : Nat) =>
q_share _ (fun (v122 : W) (h123 : HW) (c124 : Nat) =>
q_pickW v116 v122 ⟨8, 0, r0, []⟩ fun v125 =>
q_share _ (fun (v127 : W) (h128 : HW) (c129 : Nat) =>
q_share _ (fun (v131 : W) (h132 : HW) (c133 : Nat) =>
q_pickW v125 v131 ⟨8, 0, r0, []⟩ fun v134 =>
q_share _ (fun (v136 : W) (h137 : HW) (c138 : Nat) =>
q_share _ (fun (v140 : W) (h141 : HW) (c142 : Nat) =>
q_pickW v134 v140 ⟨8, 0, r0, []⟩ fun v143 =>
q_share _ (fun (v145 : W) (h146 : HW) (c147 : Nat) =>
q_share _ (fun (v149 : W) (h150 : HW) (c151 : Nat) =>
q_share _ (fun (v153 : W) (h154 : HW) (c155 : Nat) =>
q_pickW v143 v153 ⟨8, 0, r0, []⟩ fun v156 =>
q_pickW v156 ⟨8, 1, r0, []⟩ ⟨8, 0, r0, []⟩ fun v157 =>
q_pickW v157 ⟨8, 1, r0, []⟩ ⟨8, 0, r0, []⟩ fun v158 =>
q_killVW v9 h154 fun h159 =>
q_killVW v57 h159 fun h160 =>
K v158 h160 c155) fun f152 =>
q_guardW true v143 (q_cmpW (cmpF2 .eql) 3 (binC Try.prog .eql 27 (.tmp 84) (.const (.int .i64 (.ofNat 110))) (dec v149) (dec ⟨3, 110, r0, []⟩)) v149 ⟨3, 110, r0, []⟩ fun v161 =>
f152 v161 h150 c151) (f152 wUnd h150 c151)) fun f148 =>
q_guardW true v143 (call 12 [v145] h146 c147 fun v162 h163 c164 =>
f148 v162 h163 c164) (f148 wUnd h146 c147)) fun f144 =>
q_guardW true v143 (q_buildSW 1 99 (.cpxs .f64) 1 true h141 c142 1 [⟨12, 0, ⟨0, 0, 0, .cpx .f64 4593671619917905920 0⟩, []⟩] fun v165 h166 c167 =>
f144 v165 h166 c167) (f144 wUnd h141 c142)) fun f139 =>
q_guardW true v134 (q_cmpW (cmpF2 .eql) 3 (binC Try.prog .eql 27 (.tmp 79) (.const (.int .i64 (.ofNat 8))) (dec v136) (dec ⟨3, 8, r0, []⟩)) v136 ⟨3, 8, r0, []⟩ fun v168 =>
f139 v168 h137 c138) (f139 wUnd h137 c138)) fun f135 =>
q_guardW true v134 (call 12 [⟨12, 0, ⟨0, 0, 0, .nils⟩, []⟩] h132 c133 fun v169 h170 c171 =>
f135 v169 h170 c171) (f135 wUnd h132 c133)) fun f130 =>
q_guardW true v125 (q_cmpW (cmpF2 .eql) 3 (binC Try.prog .eql 27 (.tmp 75) (.const (.int .i64 (.ofNat 7))) (dec v127) (dec ⟨3, 7, r0, []⟩)) v127 ⟨3, 7, r0, []⟩ fun v172 =>
f130 v172 h128 c129) (f130 wUnd h128 c129)) fun f126 =>
q_guardW true v125 (f126 v56 h123 c124) (f126 wUnd h123 c124)) fun f121 =>
q_guardW true v116 (q_cmpW (cmpF2 .eql) 3 (binC Try.prog .eql 27 (.tmp 71) (.const (.int .i64 (.ofNat 6))) (dec v118) (dec ⟨3, 6, r0, []⟩)) v118 ⟨3, 6, r0, []⟩ fun v173 =>
f121 v173 h119 c120) (f121 wUnd h119 c120)) fun f117 =>
q_guardW true v116 (f117 v48 h114 c115) (f117 wUnd h114 c115)) fun f112 =>
q_guardW true v103 (q_notW (two Try.prog (dec v109) (Op.unary .not)) v109 fun v174 =>
f112 v174 h110 c111) (f112 wUnd h110 c111)) fun f108 =>
q_guardW true v103 (call 20 [v105] h106 c107 fun v175 h176 c177 =>
f108 v175 h176 c177) (f108 wUnd h106 c107)) fun f104 =>
q_guardW true v103 (f104 ⟨12, 0, ⟨0, 0, 0, .nilp⟩, []⟩ h101 c102) (f104 wUnd h101 c102)) fun f99 =>
q_guardW true v90 (q_cmpW (cmpF2 .eql) 3 (binC Try.prog .eql 27 (.tmp 62) (.const (.int .i64 (.ofNat 2))) (dec v96) (dec ⟨3, 2, r0, []⟩)) v96 ⟨3, 2, r0, []⟩ fun v178 =>
f99 v178 h97 c98) (f99 wUnd h97 c98)) fun f95 =>
q_guardW true v90 (call 19 [v92] h93 c94 fun v179 h180 c181 =>
f95 v179 h180 c181) (f95 wUnd h93 c94)) fun f91 =>
q_guardW true v90 (f91 ⟨12, 0, ⟨0, 0, 0, .nilp⟩, []⟩ h88 c89) (f91 wUnd h88 c89)) fun f86 =>
q_guardW true v81 (q_cmpW (cmpF2 .eql) 3 (binC Try.prog .eql 27 (.tmp 57) (.const (.int .i64 (.ofNat 2))) (dec v83) (dec ⟨3, 2, r0, []⟩)) v83 ⟨3, 2, r0, []⟩ fun v182 =>
f86 v182 h84 c85) (f86 wUnd h84 c85)) fun f82 =>
q_guardW true v81 (f82 v19 h79 c80) (f82 wUnd h79 c80)) fun f77 =>
q_guardW true v72 (q_genW (binC Try.prog .eql 32 (.tmp 53) (.const (.complex .f64 0 0)) (dec v74) (dec ⟨12, 0, ⟨0, 0, 0, .cpx .f64 0 0⟩, []⟩)) fun v183 =>
f77 v183 h75 c76) (f77 wUnd h75 c76)) fun f73 =>
q_guardW true v72 (f73 v17 h70 c71) (f73 wUnd h70 c71)) fun f68 =>
q_guardW true v63 (q_cmpW (cmpF2 .eql) 3 (binC Try.prog .eql 27 (.tmp 49) (.const (.int .i64 (.ofNat 2))) (dec v65) (dec ⟨3, 2, r0, []⟩)) v65 ⟨3, 2, r0, []⟩ fun v184 =>
f68 v184 h66 c67) (f68 wUnd h66 c67)) fun f64 =>
q_guardW true v63 (f64 v8 h60 c59) (f64 wUnd h60 c59)) ⟨15, 0, r0, [⟨3, 0, r0, []⟩, ⟨12, 0, ⟨0, 0, 0, .cpx .f64 0 0⟩, []⟩, ⟨8, 0, r0, []⟩]⟩) ⟨15, 0, r0, [⟨12, 0, ⟨0, 0, 0, .cpx .f64 4607182418800017408 0⟩, []⟩, ⟨8, 1, r0, []⟩]⟩)))) fun f35 =>
q_guardW false v30 (q_genW (binC Try.prog .eql 36 (.tmp 31) (.const (.pointer none)) (dec v32) (dec ⟨12, 0, ⟨0, 0, 0, .nilp⟩, []⟩)) fun v185 =>
f35 v185 h33 c34) (f35 wUnd h33 c34)) fun f31 =>
q_guardW false v30 (f31 v27 h24 c25) (f31 wUnd h24 c25)) ⟨15, 0, r0, [⟨12, 0, ⟨0, 0, 0, .cpx .f64 0 0⟩, []⟩, ⟨8, 0, r0, []⟩]⟩
theorem R4_eq (Q : PrimW) (fu : Nat) (call : CallW) : curryA 0 (fnK Q Try.prog tys stl fu call e4) = R4 Q.share Q.genW Q.cmpW Q.notW Q.condW Q.guardW Q.pickW Q.tupW Q.nthW Q.killVW Q.loadAW Q.storeAW Q.allocW Q.buildSW Q.flatW fu call := by kernel_rfl
noncomputable def n4 : List W → HW → Nat → KW → Bool := appF 0 (R4 (fun _ x f => f x) genW cmpW notW condW guardW pickW tupW nthW killVW loadAW storeAW allocW buildSW flatW 1000000 d15.fn)
theorem n4_ok : FnGood Try.prog tys stl tab 4 n4 := node_ok d15_ok (by kernel_rfl) rfl g4 (R4_eq real _ _)
noncomputable def d16 : Disp := (.node 75 n75 (.node 54 n54 (.node 36 n36 (.node 18 n18 (.node 16 n16 (.node 12 n12 (.node 4 n4 .leaf .leaf) .leaf) (.node 17 n17 .leaf .leaf)) (.node 20 n20 (.node 19 n19 .leaf .leaf) (.node 32 n32 .leaf .leaf))) (.node 42 n42 (.node 40 n40 (.node 39 n39 (.node 37 n37 .leaf .leaf) .leaf) (.node 41 n41 .leaf .leaf)) (.node 44 n44 (.node 43 n43 .leaf .leaf) (.node 53 n53 .leaf .leaf)))) (.node 67 n67 (.node 60 n60 (.node 58 n58 (.node 57 n57 (.node 55 n55 .leaf .leaf) .leaf) (.node 59 n59 .leaf .leaf)) (.node 65 n65 (.node 61 n61 .leaf .leaf) (.node 66 n66 .leaf .leaf))) (.node 71 n71 (.node 69 n69 (.node 68 n68 .leaf .leaf) (.node 70 n70 .leaf .leaf)) (.node 73 n73 (.node 72 n72 .leaf .leaf) (.node 74 n74 .leaf .leaf))))) (.node 96 n96 (.node 87 n87 (.node 83 n83 (.node 81 n81 (.node 80 n80 (.node 79 n79 .leaf .leaf) .leaf) (.node 82 n82 .leaf .leaf)) (.node 85 n85 (.node 84 n84 .leaf .leaf) (.node 86 n86 .leaf .leaf))) (.node 92 n92 (.node 89 n89 (.node 88 n88 .leaf .leaf) (.node 90 n90 .leaf .leaf)) (.node 94 n94 (.node 93 n93 .leaf .leaf) (.node 95 n95 .leaf .leaf)))) (.node 106 n106 (.node 101 n101 (.node 99 n99 (.node 98 n98 (.node 97 n97 .leaf .leaf) .leaf) (.node 100 n100 .leaf .leaf)) (.node 104 n104 (.node 102 n102 .leaf .leaf) (.node 105 n105 .leaf .leaf))) (.node 110 n110 (.node 108 n108 (.node 107 n107 .leaf .leaf) (.node 109 n109 .leaf .leaf)) (.node 112 n112 (.node 111 n111 .leaf .leaf) (.node 113 n113 .leaf .leaf))))))
theorem d16_ok : CallSim Try.prog tys stl tab d16.fn := Disp.sim ⟨n75_ok, ⟨n54_ok, ⟨n36_ok, ⟨n18_ok, ⟨n16_ok, ⟨n12_ok, ⟨n4_ok, True.intro, True.intro⟩, True.intro⟩, ⟨n17_ok, True.intro, True.intro⟩⟩, ⟨n20_ok, ⟨n19_ok, True.intro, True.intro⟩, ⟨n32_ok, True.intro, True.intro⟩⟩⟩, ⟨n42_ok, ⟨n40_ok, ⟨n39_ok, ⟨n37_ok, True.intro, True.intro⟩, True.intro⟩, ⟨n41_ok, True.intro, True.intro⟩⟩, ⟨n44_ok, ⟨n43_ok, True.intro, True.intro⟩, ⟨n53_ok, True.intro, True.intro⟩⟩⟩⟩, ⟨n67_ok, ⟨n60_ok, ⟨n58_ok, ⟨n57_ok, ⟨n55_ok, True.intro, True.intro⟩, True.intro⟩, ⟨n59_ok, True.intro, True.intro⟩⟩, ⟨n65_ok, ⟨n61_ok, True.intro, True.intro⟩, ⟨n66_ok, True.intro, True.intro⟩⟩⟩, ⟨n71_ok, ⟨n69_ok, ⟨n68_ok, True.intro, True.intro⟩, ⟨n70_ok, True.intro, True.intro⟩⟩, ⟨n73_ok, ⟨n72_ok, True.intro, True.intro⟩, ⟨n74_ok, True.intro, True.intro⟩⟩⟩⟩⟩, ⟨n96_ok, ⟨n87_ok, ⟨n83_ok, ⟨n81_ok, ⟨n80_ok, ⟨n79_ok, True.intro, True.intro⟩, True.intro⟩, ⟨n82_ok, True.intro, True.intro⟩⟩, ⟨n85_ok, ⟨n84_ok, True.intro, True.intro⟩, ⟨n86_ok, True.intro, True.intro⟩⟩⟩, ⟨n92_ok, ⟨n89_ok, ⟨n88_ok, True.intro, True.intro⟩, ⟨n90_ok, True.intro, True.intro⟩⟩, ⟨n94_ok, ⟨n93_ok, True.intro, True.intro⟩, ⟨n95_ok, True.intro, True.intro⟩⟩⟩⟩, ⟨n106_ok, ⟨n101_ok, ⟨n99_ok, ⟨n98_ok, ⟨n97_ok, True.intro, True.intro⟩, True.intro⟩, ⟨n100_ok, True.intro, True.intro⟩⟩, ⟨n104_ok, ⟨n102_ok, True.intro, True.intro⟩, ⟨n105_ok, True.intro, True.intro⟩⟩⟩, ⟨n110_ok, ⟨n108_ok, ⟨n107_ok, True.intro, True.intro⟩, ⟨n109_ok, True.intro, True.intro⟩⟩, ⟨n112_ok, ⟨n111_ok, True.intro, True.intro⟩, ⟨n113_ok, True.intro, True.intro⟩⟩⟩⟩⟩⟩
noncomputable abbrev dT : Disp := d16
theorem dT_ok : CallSim Try.prog tys stl tab dT.fn := d16_ok

set_option maxHeartbeats 0 in
theorem run4 : lawK dT.fn 4 = true := by kernel_rfl
namespace feedbackNames
open Go.ChangeShapes Go.WideShapes Go.ChangeAt Go.RowKit
theorem own : ownKnob Try.prog.godebug = none := by kernel_rfl
theorem laid : laidOutB Try.prog = true := by kernel_rfl
theorem lifted (os : Os) (started : os.Started) (H : Type) (enc : TypeId × Value → H) :
    ReturnsInHanded {} Try.checked os 4 .any (Rows.feedbackNamesSpec.pre6 enc Try.prog Try.f4 Rows.feedbackNamesRow.domain false) (Rows.feedbackNamesSpec.post enc Try.prog Try.f4 false true false false) := by
  refine returnsInHanded_of_change (C := Try.checked) own started (by kernel_rfl) Try.func4
    (ChangeSpec.witness6 (enc := enc) (C := Try.checked) false ⟨#[], #[], []⟩ 8 (by kernel_rfl) (by kernel_rfl) (by kernel_rfl) (by kernel_rfl)) ?_
  intro W base args ds gs before hval0 hW hcnd _
  have hW' := hW
  obtain ⟨p, q, hA0, hV, rfl, hfz, hnd⟩ := hW
  have hA : DataW.TrodAll enc Try.prog W 0 (fun _ => true) true Try.f4.params.toList args.toList ds p := hA0
  rw [Try.params4] at hA
  obtain ⟨hargs, rfl, rfl⟩ := trodAll_nil hA
  obtain rfl : args = #[] := by cases args; simp_all
  obtain ⟨rfl, rfl⟩ := trodVars_none hV
  clear hA0 hval0
  refine (lawK_true tok mixed fok dT_ok (by kernel_rfl : tab 4 = some e4) rfl run4 W).mono fun e W' ⟨he, hg⟩ => ?_
  subst he
  exact ⟨_, rfl, law_done laid rfl rfl Try.underlying4 (by kernel_rfl) hW' rfl hg⟩

theorem over : Rows.feedbackNamesRow.holds Try.pinned (OpenSpec.ofChange Rows.feedbackNamesSpec) :=
  OpenClaim.holds_of_wide 4 Try.f4 rfl rfl rfl rfl rfl rfl rfl ⟨rfl, rfl, rfl, rfl, rfl⟩ rfl rfl rfl rfl rfl (by kernel_rfl) Try.func4 (by kernel_rfl)
    (of_decide_eq_true (by kernel_rfl)) (by unfold Func.isWrapper; first | (rw [if_pos (by decide +kernel)]; kernel_rfl) | (rw [if_neg (by decide +kernel)]; exact ⟨rfl, rfl⟩))
    (fun os started H enc _ => lifted os started H enc)

theorem proved : Rows.FeedbackNamesSaid := over
end feedbackNames
end Go.Proofs.Ytgbbfenoaokcnaa
